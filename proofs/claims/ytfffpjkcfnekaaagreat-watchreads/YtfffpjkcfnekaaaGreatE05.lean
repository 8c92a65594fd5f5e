/- What a command asks of levels: a call. -/
import Derived.Test.YtfffpjkcfnekaaaGreatE04
import Derived.Laws.EntriesVeiled
import Derived.Maps.AppendAt
set_option linter.unusedVariables false
set_option maxHeartbeats 8000000
set_option maxRecDepth 100000
namespace Go.Proofs.YtfffpjkcfnekaaaGreat.Ex
open Go.RowKit
open Go.Value renaming slice -> O, int -> zd, bool -> zg, agg -> zh, pointer -> zi, tuple -> zk
open Go.IntKind renaming i64 -> U
open Go.Obj renaming cells -> ze
open Go.Ending renaming returned -> zj
section
variable {σ:Type} {c:WC} {w0:World} {K nv ni no:Nat} {fs:List FnD} {gs:List (Int × Int)} {lev flev:σ->List Lev} {Inv:σ->World->Prop} {X:World->Nat->Prop} {s:Nat} {G:FuncId} {d1 d2:Value}
abbrev MC (s:Nat) (c:WC) (W:World) (p1:Option Addr) (q1 r1:Nat) (p2:Option Addr) (q2 r2:Nat) (vr:Int) (j:Nat) (ek en:Int) (xa:Option Addr) (xl xc b6 z6 al ac:Nat) (ta:Option Addr) (tl tc:Nat) (ea:Option Addr) (el ec m:Nat) (k1 k2:Int) (k3:Option Addr) (k4 k5:Nat) (Wz:World):Prop:=Wz.cell? ⟨s,0,none⟩=some (zd U (c.n:Int))/\CE Wz s 1 (O c.ga c.gn c.gc)/\CE Wz s 2 (O c.sa c.sn c.sc)/\CE Wz s 3 (O c.ya c.yn c.yc)/\CE Wz s 4 (O c.oa c.on c.oc)/\CE Wz s 5 (O c.va c.vn c.vc)/\CE Wz s 6 (O c.fa c.fn c.fc)/\CE Wz s 7 (O c.ba c.bn c.bc)/\CE Wz s 8 (O c.la c.ln c.lc)/\CE Wz s 9 (O c.ka c.kn c.kc)/\CE Wz (s+1+1) 0 (.func (.func 115) #[] #[zi (some ⟨s,0,none⟩),zi (some ⟨s+1,0,none⟩)])/\CE Wz (W.heap.size+1) 0 (O p1 q1 r1)/\CE Wz (W.heap.size+1) 1 (O p2 q2 r2)/\CE Wz W.heap.size 0 (zd U 2)/\CE Wz W.heap.size 1 (zd U vr)/\CE Wz W.heap.size 2 (zd U (j:Int))/\CE Wz W.heap.size 3 (zd U ek)/\CE Wz W.heap.size 4 (zd U en)/\CE Wz W.heap.size 5 (O xa xl xc)/\CE Wz W.heap.size 6 (O (some ⟨b6,z6,none⟩) al ac)/\CE Wz W.heap.size 7 (O ta tl tc)/\CE Wz W.heap.size 8 (O ea el ec)/\CE Wz b6 (z6+m*3) (zd U k1)/\CE Wz b6 (z6+m*3+1) (zd U k2)/\CE Wz b6 (z6+m*3+2) (O k3 k4 k5)
abbrev MB (s:Nat) (c:WC) (W:World) (p1:Option Addr) (q1 r1:Nat) (p2:Option Addr) (q2 r2:Nat) (vr:Int) (j:Nat) (ek en:Int) (xa:Option Addr) (xl xc:Nat) (aa:Option Addr) (al ac:Nat) (ta:Option Addr) (tl tc:Nat) (ea:Option Addr) (el ec:Nat) (W3:World) (pa:Option Addr) (pn pc:Nat) (za:Option Addr) (zn zc:Nat) (rk rn:Int) (ra:Option Addr) (rl rc:Nat) (Wz:World):Prop:=Wz.cell? ⟨s,0,none⟩=some (zd U (c.n:Int))/\CE Wz s 1 (O c.ga c.gn c.gc)/\CE Wz s 2 (O c.sa c.sn c.sc)/\CE Wz s 3 (O c.ya c.yn c.yc)/\CE Wz s 4 (O c.oa c.on c.oc)/\CE Wz s 5 (O c.va c.vn c.vc)/\CE Wz s 6 (O c.fa c.fn c.fc)/\CE Wz s 7 (O c.ba c.bn c.bc)/\CE Wz s 8 (O c.la c.ln c.lc)/\CE Wz s 9 (O c.ka c.kn c.kc)/\CE Wz (s+1+1) 0 (.func (.func 115) #[] #[zi (some ⟨s,0,none⟩),zi (some ⟨s+1,0,none⟩)])/\CE Wz (W.heap.size+1) 0 (O p1 q1 r1)/\CE Wz (W.heap.size+1) 1 (O p2 q2 r2)/\CE Wz W.heap.size 0 (zd U 2)/\CE Wz W.heap.size 1 (zd U vr)/\CE Wz W.heap.size 2 (zd U (j:Int))/\CE Wz W.heap.size 3 (zd U ek)/\CE Wz W.heap.size 4 (zd U en)/\CE Wz W.heap.size 5 (O xa xl xc)/\CE Wz W.heap.size 6 (O aa al ac)/\CE Wz W.heap.size 7 (O ta tl tc)/\CE Wz W.heap.size 8 (O ea el ec)/\CE Wz (W3.heap.size+1) 0 (O pa pn pc)/\CE Wz (W3.heap.size+1) 1 (O za zn zc)/\CE Wz (W3.heap.size+1) 2 (zd U rk)/\CE Wz (W3.heap.size+1) 3 (zd U rn)/\CE Wz (W3.heap.size+1) 4 (O ra rl rc)
abbrev Oe (s:Nat) (c:WC) (b9 z9:Nat) (G:FuncId) (d1 d2:Value) (W:World) (p1:Option Addr) (q1 r1:Nat) (p2:Option Addr) (q2 r2:Nat) (vr:Int) (j:Nat) (ek en:Int) (xa:Option Addr) (xl xc:Nat) (aa:Option Addr) (al ac:Nat) (ta:Option Addr) (tl tc:Nat) (ea:Option Addr) (el ec:Nat) (Wz:World):Prop:=Wz.cell? ⟨s,0,none⟩=some (zd U (c.n:Int))/\CE Wz s 1 (O c.ga c.gn c.gc)/\CE Wz s 2 (O c.sa c.sn c.sc)/\CE Wz s 3 (O c.ya c.yn c.yc)/\CE Wz s 4 (O c.oa c.on c.oc)/\CE Wz s 5 (O c.va c.vn c.vc)/\CE Wz s 6 (O c.fa c.fn c.fc)/\CE Wz s 7 (O c.ba c.bn c.bc)/\CE Wz s 8 (O c.la c.ln c.lc)/\CE Wz s 9 (O (some ⟨b9,z9,none⟩) c.kn c.kc)/\CE Wz (s+1) 0 (.func (.func G) #[] #[d1,d2])/\CE Wz (W.heap.size+1) 0 (O p1 q1 r1)/\CE Wz (W.heap.size+1) 1 (O p2 q2 r2)/\CE Wz W.heap.size 0 (zd U 2)/\CE Wz W.heap.size 1 (zd U vr)/\CE Wz W.heap.size 2 (zd U (j:Int))/\CE Wz W.heap.size 3 (zd U ek)/\CE Wz W.heap.size 4 (zd U en)/\CE Wz W.heap.size 5 (O xa xl xc)/\CE Wz W.heap.size 6 (O aa al ac)/\CE Wz W.heap.size 7 (O ta tl tc)/\CE Wz W.heap.size 8 (O ea el ec)
theorem SQ (I:Fm c w0 nv fs gs lev flev Inv X) (flow:Lev->Bool × Nat->σ->σ) (hC:∀ (args:Array Value) (w:World),(callFunc G args).run Tryz.prog w=.ok (.enter G args) w) (hfl:Hx (Dz c nv fs Inv X flow G d1 d2)) (vs) (hvs:Bs w0 (O c.va c.vn c.vc) vs) (hnv:vs.length=nv)
  (ls:List Lab) (hls:AW w0 (O c.ya c.yn c.yc) ls) (hlc:∀ b∈ls,Bb c.n gs b=0) (hni:ls.length=ni) (hni5:ni<=5) (kf:Nat) (hfs:Bv w0 K kf (O c.fa c.fn c.fc) fs) (hf5:fs.length<=5) (hof:∀ i (h:i < fs.length),okF K nv ni no (i:Int) fs kf fs[i])
  (st:σ) (W:World) (a:Int) (k:Nat) (cs:List Value) (d:D) (v:Value) (p:Lev) (funcs:Int) (hI:Inv st W) (hB:BN c X s G d1 d2 W) (hrs:RS w0 K (k+1) cs d) (hfn:funcs<=fs.length) (hok:Cx K nv ni no funcs fs d) (hl:Aw c.n X W v p) (hk:Ag d=2) :
  Calls Tryz.prog 116 #[zd U a,.agg cs.toArray,v,zi (some ⟨s,0,none⟩),zi (some ⟨s+1+1,0,none⟩),zi (some ⟨s+1,0,none⟩)] W fun e W'=>e=zj (zk #[])/\(Inv (Dy c.n K lev (vs.map Prod.fst) (ls.map (Ar (Ax gs) c.n)) fs flow a d p st) W'/\BN c X s G d1 d2 W')/\FrW X W W':=by
 obtain ⟨p1,q1,r1,p2,q2,r2,rfl⟩:=hl.form;obtain ⟨R,P,N,L,M,aa,ac,V,T,ea,Z,rfl,i0,i1,i2,hX,hA,hT,hE,-,-,-⟩:=hrs.form;obtain ⟨vr,dl⟩:=nm (Ap d);obtain ⟨ot,b3⟩:=nm (Ae d);obtain ⟨S,du⟩:=nm ((Ai d).length);obtain ⟨tl,ev⟩:=nm ((Aj d).length);obtain ⟨el,fe⟩:=nm ((Ao d).length);have e4:sC (Ag d) (Ap d) (Ae d) R P N L M aa (Ai d).length ac V (Aj d).length T ea (Ao d).length Z=sC 2 (Ap d) (Ae d) R P N L M aa (Ai d).length ac V (Aj d).length T ea (Ao d).length Z:=by rw [hk]
 rw [e4];clear e4;rw [<-dl,<-b3,<-du,<-ev,<-fe];have d6:=Aa dl;have h3:=Aa b3;have gu:=Aa du;have hb:Ov W ((W.alloc (ze #[zd U 2,zd U vr,zd U ot,zd U R,zd U P,O N L M,O aa S ac,O V tl T,O ea el Z] 130)).alloc (ze #[O p1 q1 r1,O p2 q2 r2] 50)):=(bA W _).alloc (by simp) _;have ce:=I.over _ _ _ hI hb;have dw:=hB.over I.xok hb;have dn:=hl.over I.xok hb;have fu:=FrW.of_below I.xok hb;have ag:Ad [zd U 2,zd U vr,zd U ot,zd U R,zd U P,O N L M,O aa S ac,O V tl T,O ea el Z] ((W.alloc (ze #[zd U 2,zd U vr,zd U ot,zd U R,zd U P,O N L M,O aa S ac,O V tl T,O ea el Z] 130)).alloc (ze #[O p1 q1 r1,O p2 q2 r2] 50)) W.heap.size:=(Ad.new [zd U 2,zd U vr,zd U ot,zd U R,zd U P,O N L M,O aa S ac,O V tl T,O ea el Z] 130 W).over (bA _ _);have ah:Ad [O p1 q1 r1,O p2 q2 r2] ((W.alloc (ze #[zd U 2,zd U vr,zd U ot,zd U R,zd U P,O N L M,O aa S ac,O V tl T,O ea el Z] 130)).alloc (ze #[O p1 q1 r1,O p2 q2 r2] 50)) (W.heap.size+1):=by
  have r:=Ad.new [O p1 q1 r1,O p2 q2 r2] 50 (W.alloc (ze #[zd U 2,zd U vr,zd U ot,zd U R,zd U P,O N L M,O aa S ac,O V tl T,O ea el Z] 130));simpa using r
 have xS:¬ X ((W.alloc (ze #[zd U 2,zd U vr,zd U ot,zd U R,zd U P,O N L M,O aa S ac,O V tl T,O ea el Z] 130)).alloc (ze #[O p1 q1 r1,O p2 q2 r2] 50)) W.heap.size:=fun h=>by have:=I.xlt _ _ hI _ (I.xok.below _ _ hb _ h);omega
 have xP:¬ X ((W.alloc (ze #[zd U 2,zd U vr,zd U ot,zd U R,zd U P,O N L M,O aa S ac,O V tl T,O ea el Z] 130)).alloc (ze #[O p1 q1 r1,O p2 q2 r2] 50)) (W.heap.size+1):=fun h=>by have:=I.xlt _ _ hI _ (I.xok.below _ _ hb _ h);omega
 have dv:=I.below _ _ ce;have C:=I.levs _ _ ce;have KW:=Aa (Df c I.n1 I.n6 gs (lev st) X I.xok _ p K [zd U R,zd U P,O N L M] (Am d) _ (Af I.gr dv) I.chk C.1 dn (by rw [C.2];exact I.nv16) (I.xlt _ _ ce) (hX.over dv) (by rw [C.2];exact Bd hok));have KV:=Aa (fun (st:σ) (W:World) (v:Value) (l:Lev) (i:Int)=>FR (s:=s) I flow hC hfl vs hvs hnv st W v l i);obtain ⟨t0,t1,t2,t3,t4,t5,t6,t7,t8,t9⟩:=Ch dw.row;obtain ⟨g0,g1,g2,g3,g4,g5,g6,g7,g8⟩:=rc9 ag;obtain ⟨u0,u1⟩:=rc2 ah;have q:=Aa I;have ef:=Aa ce;have gt:=Aa dw;have gj:=Aa dn;have gp:=Aa fu;have gc:=Aa ag;have gd:=Aa ah;have f6:=Aa xS;have f8:=Aa xP;have gi:=Aa hok;have h5:=Aa hfl.o;have jw:=Aa hof;have jx:=Aa hls;have HA:=Aa hA;have jy:=Aa hlc;obtain ⟨⟨e8,e7⟩,dm,ff⟩:=hok.2.2.1 hk;rw [<-b3] at e8 e7 dm;obtain ⟨j,hj⟩:∃ j:Nat,ot=(j:Int):=⟨ot.toNat,by omega⟩;have a0:j < fs.length:=by omega
 have dp:ot.toNat=j:=by omega
 have da:fs[j].ps.length=(Ai d).length:=dm fs[j] (by rw [dp];exact List.getElem?_eq_getElem a0);have dd:BV fs (Ae d)=fs[j]:=by rw [<-b3];unfold BV;rw [dp];simp [List.getD_eq_getElem?_getD,a0]
 obtain ⟨he,jo,jn,hf,fb⟩:=hfs;injection hf with y1 y2 y3;obtain ⟨b8,z8,e9,dc⟩:=fb (by intro h;rw [h] at a0;simp at a0);obtain ⟨vP,vB,e0,e1,e2,d3,d0,dz,dy,dx,dq,-,dr,ai⟩:=dc j a0;have fd:c.fa=some ⟨b8,z8,none⟩:=y1.trans e9;obtain ⟨pa,pc,rfl,db⟩:=dq;obtain ⟨-,za,zc,rfl,-⟩:=dr;obtain ⟨ra,rc,eu⟩:=ai.form;simp only [List.cons.injEq,and_true] at eu;obtain ⟨rfl,rfl,rfl⟩:=eu;obtain ⟨pn,cy⟩:=nm (fs[j].ps.length);obtain ⟨zn,et⟩:=nm (fs[j].body.length);obtain ⟨rk,ey⟩:=nm (AQ fs[j].res);obtain ⟨rn,ew⟩:=nm (Bk fs[j].res);obtain ⟨rl,ex⟩:=nm ((A4 fs[j].res).length);rw [<-cy] at d3;rw [<-et] at d0;rw [<-ey] at dz ai;rw [<-ew] at dy ai;rw [<-ex] at dx ai;have G0:=Aa d3;have G1:=Aa d0;have G2:=Aa dz;have G3:=Aa dy;have G4:=Aa dx;have h6:=Aa fd;have HJ:=Aa hj;have gm:=Aa dd;have dk:=Aa da;have d8:=Aa cy;have gf:=Aa db;have ge:=Aa ai;have h7:=Aa ff;have a2:=hof j a0;have h1:=Aa a2.2.1;have hv:=Aa a2.2.2.2;have ik:c.fn<=5:=by omega
 have hd:(j:Int) < (c.fn:Int):=by omega
 have ez:pn<=4:=by rw [cy];exact a2.1
 have ed:=Aa a0;clear e8 e7 dm ff hj da dd fb y1 y2 y3 e9 dc d3 d0 dz dy dx fd db ai cy et ey ew ex a2 dp he;clear ce dw dn fu ag ah xS xP dv C dl b3 du ev fe hb hrs hX hA hT hE hI hB hl hfl hvs hok hof hls hlc I;go_enter Tryz.func116,Tryz.ntmps116;go_wp2_with fail;refine (KW.o).mono ?_;rintro e W3 ⟨⟨o1,o2,o3,o4,o5,o6,rfl,fp⟩,ds⟩;have a3:=bA W3 (ze #[O o1 o2 o3,O o4 o5 o6] 50);have A:=Ac ds a3;have fq:=q.o.over _ _ _ ef.o A;have fr:=q.o.over _ _ _ ef.o ds;have fw:=gt.o.over q.o.xok A;have fo:=fp.over q.o.xok a3;have fm:=gj.o.over q.o.xok A;have c9:=Ad.new [O o1 o2 o3,O o4 o5 o6] 50 W3;have ag:=gc.o.over A;have ah:=gd.o.over A;have xS:¬ X (W3.alloc (ze #[O o1 o2 o3,O o4 o5 o6] 50)) W.heap.size:=fun h=>f6.o (q.o.xok.below _ _ A _ h);have xP:¬ X (W3.alloc (ze #[O o1 o2 o3,O o4 o5 o6] 50)) (W.heap.size+1):=fun h=>f8.o (q.o.xok.below _ _ A _ h);have xA:¬ X (W3.alloc (ze #[O o1 o2 o3,O o4 o5 o6] 50)) W3.heap.size:=fun h=>by have:=q.o.xlt _ _ fr _ (q.o.xok.below _ _ a3 _ h);omega
 have ft:=gp.o.trans (FrW.of_below q.o.xok A);have c7:=Aa fq;have cw:=Aa fw;have h4:=Aa fo;have gh:=Aa fm;have go:=Aa ft;have cr:=Aa ag;have cu:=Aa ah;have dj:=Aa c9;have df:=Aa xS;have dg:=Aa xP;have ga:=Aa xA;clear t0 t1 t2 t3 t4 t5 t6 t7 t8 t9 g0 g1 g2 g3 g4 g5 g6 g7 g8 u0 u1 ds a3 A fp fq fr fw fo fm ft c9 ag ah xS xP xA KW ef gt gj gp gc gd f6 f8;obtain ⟨t0,t1,t2,t3,t4,t5,t6,t7,t8,t9⟩:=Ch cw.o.row;obtain ⟨g0,g1,g2,g3,g4,g5,g6,g7,g8⟩:=rc9 cr.o;obtain ⟨u0,u1⟩:=rc2 cu.o;obtain ⟨y0,y1⟩:=rc2 dj.o;have tv:=cw.o.toVar;have fl:=cw.o.flow;have bi:=q.o.below _ _ c7.o;have m0:=Ab bi _ _ G0.o;have m1:=Ab bi _ _ G1.o;have m2:=Ab bi _ _ G2.o;have m3:=Ab bi _ _ G3.o;have m4:=Ab bi _ _ G4.o;rw [h6.o] at t6;obtain rfl:=HJ.o;clear bi;have Y:Ov (W3.alloc (ze #[O o1 o2 o3,O o4 o5 o6] 50)) ((W3.alloc (ze #[O o1 o2 o3,O o4 o5 o6] 50)).alloc (ze #[O pa pn pc,O za zn zc,zd U rk,zd U rn,O ra rl rc] 105)):=bA _ _;have c8:Ad [O pa pn pc,O za zn zc,zd U rk,zd U rn,O ra rl rc] ((W3.alloc (ze #[O o1 o2 o3,O o4 o5 o6] 50)).alloc (ze #[O pa pn pc,O za zn zc,zd U rk,zd U rn,O ra rl rc] 105)) (W3.heap.size+1):=by
  have r:=Ad.new [O pa pn pc,O za zn zc,zd U rk,zd U rn,O ra rl rc] 105 (W3.alloc (ze #[O o1 o2 o3,O o4 o5 o6] 50));simpa using r
 have xF:¬ X ((W3.alloc (ze #[O o1 o2 o3,O o4 o5 o6] 50)).alloc (ze #[O pa pn pc,O za zn zc,zd U rk,zd U rn,O ra rl rc] 105)) (W3.heap.size+1):=fun h=>by have:=q.o.xlt _ _ c7.o _ (q.o.xok.below _ _ Y _ h);simp at this
 have c5:=Aa c8;have d5:=Aa xF;have gk:=Aa (q.o.over _ _ _ c7.o Y);have gq:=Aa (cw.o.over q.o.xok Y);have gg:=Aa (gh.o.over q.o.xok Y);have gn:=Aa (go.o.trans (FrW.of_below q.o.xok Y));have cq:=Aa (cr.o.over Y);have ct:=Aa (cu.o.over Y);have co:Hx (¬ X ((W3.alloc (ze #[O o1 o2 o3,O o4 o5 o6] 50)).alloc (ze #[O pa pn pc,O za zn zc,zd U rk,zd U rn,O ra rl rc] 105)) W.heap.size):=fun h=>df.o (q.o.xok.below _ _ Y _ h);have cp:Hx (¬ X ((W3.alloc (ze #[O o1 o2 o3,O o4 o5 o6] 50)).alloc (ze #[O pa pn pc,O za zn zc,zd U rk,zd U rn,O ra rl rc] 105)) (W.heap.size+1)):=fun h=>dg.o (q.o.xok.below _ _ Y _ h);have f0:=c5.o 0 _ rfl;obtain ⟨V5,c1⟩:=nm (((W3.alloc (ze #[O o1 o2 o3,O o4 o5 o6] 50)).alloc (ze #[O pa pn pc,O za zn zc,zd U rk,zd U rn,O ra rl rc] 105)));rw [<-c1] at c5 d5 gk gq gg gn cq ct co cp;obtain ⟨Q,hQ⟩:∃ Q:Nat->σ,Q=fun m=>(((fs[j]'HJ2.o).ps.zip (Ai d)).take m).foldl (Gf c.n K lev (vs.map Prod.fst) flow p) st:=⟨_,rfl⟩;have HQ:=Aa hQ;have h0:Hx (Q 0=st):=by rw [hQ];rfl
 have ij:(j:Int) < (c.fn:Int):=hd;clear hQ Y c8 xF c7 cw gh go cr cu df dg dj ga h4 tv fl;go_wp2_with fail;go_loopw [41] (fun x wr=>∃ m:Nat,m<=pn/\x=zd U m/\(Inv (Q m) wr/\BN c X s G d1 d2 wr)/\FrW X V5 wr) (fun x _=>pn - (intOf x).toNat)
 case atStart=>exact ⟨0,Nat.zero_le _,rfl,by rw [<-c1,h0.o];exact ⟨gk.o,gq.o⟩,by rw [<-c1];exact FrW.refl _⟩
 case round=>
  clear t0 t1 t2 t3 t4 t5 t6 t7 t8 t9 g0 g1 g2 g3 g4 g5 g6 g7 g8 u0 u1 y0 y1 m0 m1 m2 m3 m4 f0 c1;obtain ⟨m,hm,rfl,⟨c3,fv⟩,an⟩:=hrel;have c6:=Aa c3;have y:=Aa fv;have gl:=Aa an;have H:=Aa (q.o.below _ _ c3);have E:=Aa (an.row cq.o co.o);have F:=Aa (an.row ct.o cp.o);have cv:=Aa (an.row c5.o d5.o);have a4:Hx (¬ X wr W.heap.size):=fun h=>co.o (an.mov _ (bL (cq.o 0 _ rfl)) h);have a5:Hx (¬ X wr (W.heap.size+1)):=fun h=>cp.o (an.mov _ (bL (ct.o 0 _ rfl)) h);have f9:Hx (¬ X wr (W3.heap.size+1)):=fun h=>d5.o (an.mov _ (bL (c5.o 0 _ rfl)) h);have d7:=Aa (gg.o.keep q.o.n1 an);have C:=q.o.levs _ _ c3;clear c3 fv an;by_cases hlt:m < pn
  ·have bh:m < (fs[j]'HJ2.o).ps.length:=by rw [<-d8.o];exact hlt
   have b4:m < (Ai d).length:=by rw [<-dk.o];exact bh
   obtain ⟨bp,zp,ha,e3⟩:=gf.o (by intro h;rw [h] at bh;simp at bh);subst ha;have q0:=Ab H.o _ _ (e3 m bh);obtain ⟨vm,cx⟩:=nm ((fs[j]'HJ2.o).ps[m]);rw [<-cx] at q0;have gb:=Aa (h1.o vm (by rw [cx];exact List.getElem_mem bh));obtain ⟨hh,jt,js,hi,fj⟩:=HA.o;injection hi with x1 x2 x3;obtain ⟨b6,z6,fh,de⟩:=fj (by intro h;rw [h] at b4;simp at b4);obtain ⟨jr,fi,ax,c0⟩:=de m (Ai d)[m] (List.getElem?_eq_getElem b4);obtain ⟨k3,k5,rfl⟩:=c0.form;obtain ⟨k1,cz⟩:=nm (AQ (Ai d)[m]);obtain ⟨k2,b5⟩:=nm (Bk (Ai d)[m]);obtain ⟨k4,e5⟩:=nm ((A4 (Ai d)[m]).length);rw [<-cz,<-b5,<-e5] at ax c0;have eh:=Aa (x1.trans fh);have L0:=Aa (show w0.cell? ⟨b6,z6+m*3,none⟩=some (zd U k1) from ax 0 _ rfl);have L1:=Aa (ax 1 _ rfl);have L2:=Aa (ax 2 _ rfl);have l0:=Ab H.o _ _ L0.o;have l1:=Ab H.o _ _ L1.o;have l2:=Ab H.o _ _ L2.o;have im:m < S:=by rw [gu.o];exact b4
   have il:S<=4:=by rw [gu.o,<-dk.o,<-d8.o];exact ez
   have ji:(m:Int) < (S:Int):=by omega
   have jh:(m:Int) < (pn:Int):=by omega
   have fk:Q (m+1)=toVar (vs.map Prod.fst) flow (A6 c.n (lev (Q m)) p (AG K (Ai d)[m])) vm (Q m):=by
    rw [HQ.o];dsimp only;have hz:m < ((fs[j]'HJ2.o).ps.zip (Ai d)).length:=by simp;omega
    rw [List.take_succ_eq_append_getElem hz,List.foldl_append,List.foldl_cons,List.foldl_nil];simp only [Gf,List.getElem_zip];rw [cx]
   have hx:=Aa fk;have d4:=Aa (Df c q.o.n1 q.o.n6 gs (lev (Q m)) X q.o.xok _ p K [zd U k1,zd U k2,O k3 k4 k5] (Ai d)[m] wr.drew (Af q.o.gr H.o.drew) q.o.chk (C.1.over q.o.xok (bD _)) (d7.o.over q.o.xok (bD _)) (by rw [C.2];exact q.o.nv16) (fun k hk=>q.o.xlt _ _ c6.o k (q.o.xok.below _ _ (bD _) _ hk)) (c0.over H.o.drew) (by rw [C.2];exact Ce (h7.o _ (List.getElem_mem b4))));obtain ⟨t0,t1,t2,t3,t4,t5,t6,t7,t8,t9⟩:=Ch y.o.row;obtain ⟨g0,g1,g2,g3,g4,g5,g6,g7,g8⟩:=rc9 E.o;obtain ⟨u0,u1⟩:=rc2 F.o;have tv:=y.o.toVar;rw [eh.o] at g6;have a1:MC s c W p1 q1 r1 p2 q2 r2 vr j R P N L M b6 z6 S ac V tl T ea el Z m k1 k2 k3 k4 k5 wr:=⟨t0,t1,t2,t3,t4,t5,t6,t7,t8,t9,tv,u0,u1,g0,g1,g2,g3,g4,g5,g6,g7,g8,l0,l1,l2⟩;clear e3 cx hh fj x1 x2 x3 fh de ax c0 fi cz b5 e5 C fk bh;go_wp2_with fail;refine gS (MC s c W p1 q1 r1 p2 q2 r2 vr j R P N L M b6 z6 S ac V tl T ea el Z m k1 k2 k3 k4 k5) (a1) fun z=>?_;refine kT 0 ?_;refine kT 1 ?_;refine kT 2 ?_;refine kT 3 ?_;refine kT 4 ?_;refine kT 5 ?_;refine kT 6 ?_;refine kT 7 ?_;refine kT 8 ?_;refine kT 10 ?_;refine rdA 9 rfl fun K hK=>?_;go_simp;refine (d4.o).mono ?_;rintro e W6 ⟨⟨n1,n2,n3,n4,n5,n6,rfl,cd⟩,ca⟩;have u:=Ac (bD wr) ca;have f:=y.o.row.over u;have t:=F.o.over u;have hrs:=E.o.over u;have cc:MC s c W p1 q1 r1 p2 q2 r2 vr j R P N L M b6 z6 S ac V tl T ea el Z m k1 k2 k3 k4 k5 W6:=⟨f 0 _ rfl,f 1 _ rfl,f 2 _ rfl,f 3 _ rfl,f 4 _ rfl,f 5 _ rfl,f 6 _ rfl,f 7 _ rfl,f 8 _ rfl,f 9 _ rfl,Ab u _ _ tv,t 0 _ rfl,t 1 _ rfl,hrs 0 _ rfl,hrs 1 _ rfl,hrs 2 _ rfl,hrs 3 _ rfl,hrs 4 _ rfl,hrs 5 _ rfl,(by rw [<-eh.o];exact hrs 6 _ rfl),hrs 7 _ rfl,hrs 8 _ rfl,Ab (Ac H.o u) _ _ L0.o,Ab (Ac H.o u) _ _ L1.o,Ab (Ac H.o u) _ _ L2.o⟩;have J:=Aa u;have d9:=Aa cd;clear f t hrs cd ca u;go_simp;refine xK hK (cc) fun z=>?_;refine rdA 11 rfl fun K hK=>?_;go_simp;refine (KV.o (Q m) W6 _ _ vm (q.o.over _ _ _ c6.o J.o) (y.o.over q.o.xok J.o) d9.o gb.o.1 gb.o.2).mono ?_;rintro e W7 ⟨rfl,am,cf⟩;have g:=(FrW.of_below q.o.xok J.o).trans cf;have f:=g.row y.o.row y.o.x0;have t:=g.row F.o a5.o;have hrs:=g.row E.o a4.o;have cb:MC s c W p1 q1 r1 p2 q2 r2 vr j R P N L M b6 z6 S ac V tl T ea el Z m k1 k2 k3 k4 k5 W7:=⟨f 0 _ rfl,f 1 _ rfl,f 2 _ rfl,f 3 _ rfl,f 4 _ rfl,f 5 _ rfl,f 6 _ rfl,f 7 _ rfl,f 8 _ rfl,f 9 _ rfl,g.cell tv y.o.x2,t 0 _ rfl,t 1 _ rfl,hrs 0 _ rfl,hrs 1 _ rfl,hrs 2 _ rfl,hrs 3 _ rfl,hrs 4 _ rfl,hrs 5 _ rfl,(by rw [<-eh.o];exact hrs 6 _ rfl),hrs 7 _ rfl,hrs 8 _ rfl,Ab (q.o.below _ _ am) _ _ L0.o,Ab (q.o.below _ _ am) _ _ L1.o,Ab (q.o.below _ _ am) _ _ L2.o⟩;clear f t hrs;go_simp;refine xK hK (cb) fun z=>?_;refine gE ?_;have ee:=Aa am;have az:=Aa (y.o.keep g);have eg:=Aa (gl.o.trans g);clear cb cc a1 am cf g t0 t1 t2 t3 t4 t5 t6 t7 t8 t9 g0 g1 g2 g3 g4 g5 g6 g7 g8 u0 u1 l0 l1 l2 tv q0;go_wp2_with fail;refine ⟨⟨m+1,by omega,by go_num,⟨by rw [hx.o];exact ee.o,az.o⟩,eg.o⟩,by simp [intOf];omega⟩
  ·have hc:m=pn:=by omega
   have d4:=Aa (Df c q.o.n1 q.o.n6 gs (lev (Q m)) X q.o.xok _ p K [zd U rk,zd U rn,O ra rl rc] (fs[j]'HJ2.o).res wr.drew (Af q.o.gr H.o.drew) q.o.chk (C.1.over q.o.xok (bD _)) (d7.o.over q.o.xok (bD _)) (by rw [C.2];exact q.o.nv16) (fun k hk=>q.o.xlt _ _ c6.o k (q.o.xok.below _ _ (bD _) _ hk)) (ge.o.over H.o.drew) (by rw [C.2];exact Ce hv.o));have hy:Hx (Q m=((fs[j]'HJ2.o).ps.zip (Ai d)).foldl (Gf c.n K lev (vs.map Prod.fst) flow p) st):=by
    rw [HQ.o];dsimp only;rw [List.take_of_length_le (by simp;have:=d8.o;omega)];rfl
   obtain ⟨t0,t1,t2,t3,t4,t5,t6,t7,t8,t9⟩:=Ch y.o.row;obtain ⟨g0,g1,g2,g3,g4,g5,g6,g7,g8⟩:=rc9 E.o;obtain ⟨u0,u1⟩:=rc2 F.o;obtain ⟨f0,f1,f2,f3,f4⟩:=rc5 cv.o;have tv:=y.o.toVar;have a1:MB s c W p1 q1 r1 p2 q2 r2 vr j R P N L M aa S ac V tl T ea el Z W3 pa pn pc za zn zc rk rn ra rl rc wr:=⟨t0,t1,t2,t3,t4,t5,t6,t7,t8,t9,tv,u0,u1,g0,g1,g2,g3,g4,g5,g6,g7,g8,f0,f1,f2,f3,f4⟩;clear C hc;go_wp2_with fail;refine gS (MB s c W p1 q1 r1 p2 q2 r2 vr j R P N L M aa S ac V tl T ea el Z W3 pa pn pc za zn zc rk rn ra rl rc) (a1) fun z=>?_;refine kT 0 ?_;refine kT 1 ?_;refine kT 2 ?_;refine kT 3 ?_;refine kT 4 ?_;refine kT 5 ?_;refine kT 7 ?_;refine kT 8 ?_;refine rdA 6 rfl fun K hK=>?_;go_simp;refine (d4.o).mono ?_;rintro e W6 ⟨⟨n1,n2,n3,n4,n5,n6,rfl,cd⟩,ca⟩;have u:=Ac (bD wr) ca;have f:=y.o.row.over u;have t:=F.o.over u;have hrs:=E.o.over u;have B:=cv.o.over u;have cc:MB s c W p1 q1 r1 p2 q2 r2 vr j R P N L M aa S ac V tl T ea el Z W3 pa pn pc za zn zc rk rn ra rl rc W6:=⟨f 0 _ rfl,f 1 _ rfl,f 2 _ rfl,f 3 _ rfl,f 4 _ rfl,f 5 _ rfl,f 6 _ rfl,f 7 _ rfl,f 8 _ rfl,f 9 _ rfl,Ab u _ _ tv,t 0 _ rfl,t 1 _ rfl,hrs 0 _ rfl,hrs 1 _ rfl,hrs 2 _ rfl,hrs 3 _ rfl,hrs 4 _ rfl,hrs 5 _ rfl,hrs 6 _ rfl,hrs 7 _ rfl,hrs 8 _ rfl,B 0 _ rfl,B 1 _ rfl,B 2 _ rfl,B 3 _ rfl,B 4 _ rfl⟩;have J:=Aa u;have d9:=Aa cd;clear f t hrs B cd ca u;go_simp;refine xK hK (cc) fun z=>?_;refine rdA 9 rfl fun K hK=>?_;go_simp;refine (KV.o (Q m) W6 _ _ vr (q.o.over _ _ _ c6.o J.o) (y.o.over q.o.xok J.o) d9.o (by rw [d6.o];exact (gi.o.2.1 (by omega)).1) (by rw [d6.o];exact (gi.o.2.1 (by omega)).2)).mono ?_;rintro e W7 ⟨rfl,am,cf⟩;have g:=(FrW.of_below q.o.xok J.o).trans cf;have f:=g.row y.o.row y.o.x0;have t:=g.row F.o a5.o;have hrs:=g.row E.o a4.o;have B:=g.row cv.o f9.o;have cb:MB s c W p1 q1 r1 p2 q2 r2 vr j R P N L M aa S ac V tl T ea el Z W3 pa pn pc za zn zc rk rn ra rl rc W7:=⟨f 0 _ rfl,f 1 _ rfl,f 2 _ rfl,f 3 _ rfl,f 4 _ rfl,f 5 _ rfl,f 6 _ rfl,f 7 _ rfl,f 8 _ rfl,f 9 _ rfl,g.cell tv y.o.x2,t 0 _ rfl,t 1 _ rfl,hrs 0 _ rfl,hrs 1 _ rfl,hrs 2 _ rfl,hrs 3 _ rfl,hrs 4 _ rfl,hrs 5 _ rfl,hrs 6 _ rfl,hrs 7 _ rfl,hrs 8 _ rfl,B 0 _ rfl,B 1 _ rfl,B 2 _ rfl,B 3 _ rfl,B 4 _ rfl⟩;clear f t hrs B;go_simp;refine xK hK (cb) fun z=>?_;refine gE ?_;have ee:=Aa am;have az:=Aa (y.o.keep g);have di:=Aa (g.row F.o a5.o);have dh:=Aa (g.row E.o a4.o);have f7:Hx (¬ X W7 (W.heap.size+1)):=fun h=>a5.o (g.mov _ (bL (F.o 0 _ rfl)) h);have f5:Hx (¬ X W7 W.heap.size):=fun h=>a4.o (g.mov _ (bL (E.o 0 _ rfl)) h);have h2:=Aa (d7.o.keep q.o.n1 g);have eg:=Aa ((gn.o.trans gl.o).trans g);obtain ⟨hg,b7⟩:=q.o.flevs _ _ am;obtain ⟨jq,iu,cz,b5⟩:=hg;injection cz with x1 x2 x3;have jj:j < c.kn:=by rw [x2,b7];exact ed.o
   have ig:c.kn<=5:=by rw [x2,b7];exact hf5
   obtain ⟨b9,z9,e6,-⟩:=b5 (by intro h;rw [h] at b7;have:=ed.o;simp at b7;omega);have eb:=Aa (x1.trans e6);have hu:=Aa fun (W1:World) (fg:Ov W7 W1)=>h5.o _ W1 _ p (false,j) b9 z9 (q.o.over _ _ _ ee.o fg) (h2.o.over q.o.xok fg) (fun h=>by cases h) (fun _=>ed.o) (by rw [if_neg (by simp)];exact eb.o);have ih:(j:Int) < (c.kn:Int):=by omega
   clear cb cc a1 am cf g t0 t1 t2 t3 t4 t5 t6 t7 t8 t9 g0 g1 g2 g3 g4 g5 g6 g7 g8 u0 u1 f0 f1 f2 f3 f4 tv b7 b5 e6 x1 x2 x3;obtain ⟨t0,t1,t2,t3,t4,t5,t6,t7,t8,t9⟩:=Ch az.o.row;obtain ⟨g0,g1,g2,g3,g4,g5,g6,g7,g8⟩:=rc9 dh.o;obtain ⟨u0,u1⟩:=rc2 di.o;have fx:=az.o.flow;rw [eb.o] at t9;have a1:Oe s c b9 z9 G d1 d2 W p1 q1 r1 p2 q2 r2 vr j R P N L M aa S ac V tl T ea el Z W7:=⟨t0,t1,t2,t3,t4,t5,t6,t7,t8,t9,fx,u0,u1,g0,g1,g2,g3,g4,g5,g6,g7,g8⟩;go_wp2_with fail;refine gS (Oe s c b9 z9 G d1 d2 W p1 q1 r1 p2 q2 r2 vr j R P N L M aa S ac V tl T ea el Z) (a1) fun z=>?_;refine kT 0 ?_;refine kT 1 ?_;refine kT 2 ?_;refine kT 3 ?_;refine kT 4 ?_;refine kT 5 ?_;refine kT 6 ?_;refine kT 7 ?_;refine kT 8 ?_;refine rdA 9 rfl fun K hK=>?_;go_simp;refine (hu.o W7.drew (bD _)).mono ?_;rintro e W8 ⟨rfl,hp,hq⟩;have aj:=(FrW.of_below q.o.xok (bD W7)).trans hq;have f:=aj.row az.o.row az.o.x0;have t:=aj.row di.o f7.o;have hrs:=aj.row dh.o f5.o;have hn:Oe s c b9 z9 G d1 d2 W p1 q1 r1 p2 q2 r2 vr j R P N L M aa S ac V tl T ea el Z W8:=⟨f 0 _ rfl,f 1 _ rfl,f 2 _ rfl,f 3 _ rfl,f 4 _ rfl,f 5 _ rfl,f 6 _ rfl,f 7 _ rfl,f 8 _ rfl,(by rw [<-eb.o];exact f 9 _ rfl),aj.cell fx az.o.x1,t 0 _ rfl,t 1 _ rfl,hrs 0 _ rfl,hrs 1 _ rfl,hrs 2 _ rfl,hrs 3 _ rfl,hrs 4 _ rfl,hrs 5 _ rfl,hrs 6 _ rfl,hrs 7 _ rfl,hrs 8 _ rfl⟩;clear f t hrs;go_simp;refine xK hK (hn) fun z=>?_;refine gE ?_;go_end0;refine ⟨rfl,⟨?_,az.o.keep aj⟩,eg.o.trans aj⟩;unfold Dy;rw [if_neg (by omega),if_pos hk];unfold GT;dsimp only;rw [gm.o,<-hy.o,<-d6.o,<-h3.o];exact hp
end
section
variable {σ:Type} {c:WC} {w0:World} {K nv ni no:Nat} {fs:List FnD} {gs:List (Int × Int)} {lev flev:σ->List Lev} {Inv:σ->World->Prop} {X:World->Nat->Prop} {s:Nat} {G:FuncId} {d1 d2:Value}
theorem S3 (I:Fm c w0 nv fs gs lev flev Inv X):Fm c w0 nv fs gs lev flev (fun st W=>Inv st W/\BN c X s G d1 d2 W) X:=
 ⟨I.n1,I.n6,I.gr,I.chk,I.nv16,fun st W h=>I.below st W h.1,fun st W h=>I.levs st W h.1,fun st W h=>I.flevs st W h.1,fun st W W' h hb=>⟨I.over st W W' h.1 hb,h.2.over I.xok hb⟩,I.xok,fun st W h=>I.xlt st W h.1⟩
theorem Tk (I:Fm c w0 nv fs gs lev flev Inv X) (flow:Lev->Bool × Nat->σ->σ) (hC:∀ (args:Array Value) (w:World),(callFunc G args).run Tryz.prog w=.ok (.enter G args) w) (hfl:Hx (Dz c nv fs Inv X flow G d1 d2)) (vs) (hvs:Bs w0 (O c.va c.vn c.vc) vs) (hnv:vs.length=nv)
  (ls:List Lab) (hls:AW w0 (O c.ya c.yn c.yc) ls) (hlc:∀ b∈ls,Bb c.n gs b=0) (hni:ls.length=ni) (hni5:ni<=5) (kf:Nat) (hfs:Bv w0 K kf (O c.fa c.fn c.fc) fs) (hf5:fs.length<=5) (hof:∀ i (h:i < fs.length),okF K nv ni no (i:Int) fs kf fs[i]) :
  QX c w0 K nv ni no fs (fun st W=>Inv st W/\BN c X s G d1 d2 W) X (Dy c.n K lev (vs.map Prod.fst) (ls.map (Ar (Ax gs) c.n)) fs flow) 116 [] [zi (some ⟨s,0,none⟩),zi (some ⟨s+1+1,0,none⟩),zi (some ⟨s+1,0,none⟩)] (fun _ _=>True):=by
 intro st W a k o d v p e l g j f m _ _ _;have q:=f.1;rcases (by omega:Ag d=1\/Ag d=2\/Ag d=3\/(Ag d=4\/Ag d=7\/Ag d=8)\/Ag d=5\/Ag d=6) with h | h | h | h | h | h
 ·exact SR I flow hC hfl vs hvs hnv ls hls hlc hni hni5 kf hfs hf5 hof st W a k o d v p e l.1 l.2 g j f m h
 ·exact SQ I flow hC hfl vs hvs hnv ls hls hlc hni hni5 kf hfs hf5 hof st W a k o d v p e l.1 l.2 g j f m h
 ·exact SP I flow hC hfl vs hvs hnv ls hls hlc hni hni5 kf hfs hf5 hof st W a k o d v p e l.1 l.2 g j f m h
 ·exact SS I flow hC hfl vs hvs hnv ls hls hlc hni hni5 kf hfs hf5 hof st W a k o d v p e l.1 l.2 g j f m h
 ·exact SO I flow hC hfl vs hvs hnv ls hls hlc hni hni5 kf hfs hf5 hof st W a k o d v p e l.1 l.2 g j f m h
 ·exact SN I flow hC hfl vs hvs hnv ls hls hlc hni hni5 kf hfs hf5 hof st W a k o d v p e l.1 l.2 g j f m h
theorem QM (args:Array Value) (w:World):(callFunc 116 args).run Tryz.prog w=.ok (.enter 116 args) w:=by simp [go_sem]
theorem SM (I:Fm c w0 nv fs gs lev flev Inv X) (flow:Lev->Bool × Nat->σ->σ) (hC:∀ (args:Array Value) (w:World),(callFunc G args).run Tryz.prog w=.ok (.enter G args) w) (hfl:Hx (Dz c nv fs Inv X flow G d1 d2)) (vs) (hvs:Bs w0 (O c.va c.vn c.vc) vs) (hnv:vs.length=nv)
  (ls:List Lab) (hls:AW w0 (O c.ya c.yn c.yc) ls) (hlc:∀ b∈ls,Bb c.n gs b=0) (hni:ls.length=ni) (hni5:ni<=5) (kf:Nat) (hfs:Bv w0 K kf (O c.fa c.fn c.fc) fs) (hf5:fs.length<=5) (hof:∀ i (h:i < fs.length),okF K nv ni no (i:Int) fs kf fs[i])
  (l:List D) (hm:Bj w0 K kf (O c.ba c.bn c.bc) l) (hom:∀ s∈l,okS K nv ni no (fs.length:Int) fs kf s) (h50:A2 kf fs+AI kf l<=50) (st:σ) (W:World) (hI:Inv st W) :
  Calls Tryz.prog 55 #[c.v,(.func (.func G) #[] #[d1,d2])] W fun e W'=>e=zj (zk #[])/\Inv (D6 c.n K lev (Dy c.n K lev (vs.map Prod.fst) (ls.map (Ar (Ax gs) c.n)) fs flow) flev kf fs l st) W'/\FrW X W W':=by
 have p:∀ (fn:Fn) (first cap:Array Value) (w:World),(Instr.makeFunc fn first cap).run Tryz.prog w=.ok (.func fn first cap) w:=fun _ _ _ _=>rfl;have f:Ov W (((W.alloc (ze #[zd U (c.n:Int),O c.ga c.gn c.gc,O c.sa c.sn c.sc,O c.ya c.yn c.yc,O c.oa c.on c.oc,O c.va c.vn c.vc,O c.fa c.fn c.fc,O c.ba c.bn c.bc,O c.la c.ln c.lc,O c.ka c.kn c.kc] 110)).alloc (ze #[(.func (.func G) #[] #[d1,d2])] 115)).alloc (ze #[(.func (.func 115) #[] #[zi (some ⟨W.heap.size,0,none⟩),zi (some ⟨W.heap.size+1,0,none⟩)])] 187)):=((bA W _).alloc (by simp) _).alloc (by simp <;> omega) _
 have d:∀ k,W.heap.size<=k->¬ X (((W.alloc (ze #[zd U (c.n:Int),O c.ga c.gn c.gc,O c.sa c.sn c.sc,O c.ya c.yn c.yc,O c.oa c.on c.oc,O c.va c.vn c.vc,O c.fa c.fn c.fc,O c.ba c.bn c.bc,O c.la c.ln c.lc,O c.ka c.kn c.kc] 110)).alloc (ze #[(.func (.func G) #[] #[d1,d2])] 115)).alloc (ze #[(.func (.func 115) #[] #[zi (some ⟨W.heap.size,0,none⟩),zi (some ⟨W.heap.size+1,0,none⟩)])] 187)) k:=fun k H h=>by have:=I.xlt _ _ hI _ (I.xok.below _ _ f _ h);omega
 have m:BN c X W.heap.size G d1 d2 (((W.alloc (ze #[zd U (c.n:Int),O c.ga c.gn c.gc,O c.sa c.sn c.sc,O c.ya c.yn c.yc,O c.oa c.on c.oc,O c.va c.vn c.vc,O c.fa c.fn c.fc,O c.ba c.bn c.bc,O c.la c.ln c.lc,O c.ka c.kn c.kc] 110)).alloc (ze #[(.func (.func G) #[] #[d1,d2])] 115)).alloc (ze #[(.func (.func 115) #[] #[zi (some ⟨W.heap.size,0,none⟩),zi (some ⟨W.heap.size+1,0,none⟩)])] 187)):=by
  refine ⟨?_,?_,?_,d _ (Nat.le_refl _),d _ (by omega),d _ (by omega)⟩
  ·exact (Ad.new c.cs 110 W).over ((bA _ _).alloc (by simp) _)
  ·simp [go_sem]
  ·simp [go_sem]
 have a:=I.over _ _ _ hI f;have q:=Aa (RG (S3 (s:=W.heap.size) (G:=G) (d1:=d1) (d2:=d2) I) (Dy c.n K lev (vs.map Prod.fst) (ls.map (Ar (Ax gs) c.n)) fs flow) 116 [] [zi (some ⟨W.heap.size,0,none⟩),zi (some ⟨W.heap.size+1+1,0,none⟩),zi (some ⟨W.heap.size+1,0,none⟩)] (fun _ _=>True) (Aa (Qb _)) QM
  (Aa (Tk I flow hC hfl vs hvs hnv ls hls hlc hni hni5 kf hfs hf5 hof)) l hfs hm hof hom h50 hf5 st _ ⟨a,m⟩ trivial)
 have r:=Aa (FrW.of_below I.xok f);obtain ⟨F,E,C,B,A,z,y,x,u,t⟩:=Ch m.row;clear f d m a hfl hvs hls hlc hfs hof hm hom I;go_enter Tryz.func55,Tryz.ntmps55;go_wp2_with fail;refine (q.o).mono ?_;rintro e J ⟨rfl,g,j⟩;go_wp2_with fail;go_end0;exact ⟨rfl,g.1,r.o.trans j⟩
end
theorem Tryz.infoLv:(Tryz.prog.info? 50).map (fun i=>(i.zero,i.size,i.bytes))=some (some (zh #[O none 0 0,O none 0 0]),2,48):=by kernel_rfl
def T4 (W:World) (v:Value):Prop:=∀ a n c,v=O (some a) n c->∃ cur fr,W.heap[a.block]? = some (.cells cur 4 fr)
structure Fq (n:Nat) (W:World) (v:Value) (l:Lev):Prop where
 at_:A3 W v l
 len:l.len n
 ty:∃ x y,v=zh #[x,y]/\T4 W x/\T4 W y
theorem OK {W:World} {B n:Nat} {v:Value} {xs:List Value} (h:W.ownsRow B 4 1 v n xs):T4 W v:=by
 intro a m c d;rcases h.2 with ⟨h,-⟩ | ⟨g,i,f,h,j,e,-⟩
 ·rw [d] at h;cases h
 ·rw [d] at h;injection h with b l k;injection b with b;rw [b];exact ⟨_,_,e⟩
theorem Dk {n:Nat} {w w':World} {v:Value} {l:Lev} (h:A1 w w' v l) (hl:l.len n):Fq n w' v l:=by
 have d:=Aq h;obtain ⟨x,y,c,b,a,-⟩:=h;exact ⟨d,hl,x,y,c,OK b,OK a⟩
theorem JW {W W':World} {v:Value} (h:T4 W v) (hb:∀ (k:Nat) (cur:Array Value) (fr:Nat × Nat),W.heap[k]? = some (Obj.cells cur 4 fr)->W'.heap[k]? = W.heap[k]?):T4 W' v:=by
 intro a n c d;obtain ⟨cur,fr,b⟩:=h a n c d;exact ⟨cur,fr,(hb _ _ _ b).trans b⟩
theorem Fq.keep {n:Nat} {W W':World} {v:Value} {l:Lev} (h1:1<=n) (h:Fq n W v l) (hb:∀ (k:Nat) (cur:Array Value) (fr:Nat × Nat),W.heap[k]? = some (Obj.cells cur 4 fr)->W'.heap[k]? = W.heap[k]?):Fq n W' v l:=by
 obtain ⟨x,y,g,s,ty⟩:=h.ty;obtain ⟨C,B,d,z,r⟩:=h.at_;rw [g] at d;simp at d;obtain ⟨rfl,rfl⟩:=d;have j:∀ (v:Value) (l:List Bool),AJ W v l->l.length=n->T4 W v->AJ W' v l:=by
  intro v l q D t;obtain ⟨A,o,g,f⟩:=q;refine ⟨A,o,g,fun p=>?_⟩;obtain ⟨b,c,m,f⟩:=f p;obtain ⟨cur,fr,w⟩:=t ⟨b,c,none⟩ l.length o (by rw [g,m]);have e:W'.heap[b]? = W.heap[b]?:=hb b cur fr w;exact ⟨b,c,m,fun i u=>(World.cell?_of_block (a:=⟨b,c+i,none⟩) e).trans (f i u)⟩
 exact ⟨⟨x,y,g,j _ _ z h.len.1 s,j _ _ r h.len.2 ty⟩,h.len,x,y,g,JW s hb,JW ty hb⟩
theorem Fq.over {n:Nat} {W W':World} {v:Value} {l:Lev} (h1:1<=n) (h:Fq n W v l) (hb:Ov W W'):Fq n W' v l:=
 h.keep h1 fun k cur fr hk=>hb.block k (Array.getElem?_eq_some_iff.1 hk).1
def AO (n B:Nat) (W:World) (v:Value) (Ls:List Lev):Prop:=
 ∃ us:List Value,W.ownsRow B 50 2 v Ls.length us/\∀ i (h:i < Ls.length),∃ x y,us[i*2]? = some x/\us[i*2+1]? = some y/\Fq n W (zh #[x,y]) Ls[i]
theorem Gs (n B:Nat) (W:World):AO n B W (O none 0 0) []:=⟨[],World.ownsRow_nil ..,fun i h=>absurd h (by simp)⟩
theorem B6 {n B:Nat} {W:World} {v:Value} {Ls:List Lev} (h:AO n B W v Ls):∀ g,v.ownBlock=some g->B<=g/\∃ cur fr,W.heap[g]? = some (.cells cur 50 fr):=by
 obtain ⟨f,b,-⟩:=h;intro g a;rcases b.2 with ⟨h,-⟩ | ⟨i,e,cur,h,d,c,-⟩
 ·rw [h] at a;cases a
 ·rw [h] at a
  simp [Value.ownBlock] at a;subst a;exact ⟨d,_,_,c⟩
theorem AO.keep {n B:Nat} {W W':World} {v:Value} {Ls:List Lev} (h1:1<=n) (h:AO n B W v Ls) {row:Option Nat} (hg:W.grownBy W' row) (ha:v.ownBlock=none\/v.ownBlock≠row) (hr:∀ g,row=some g->∀ (cur:Array Value) (fr:Nat × Nat),W.heap[g]?≠some (Obj.cells cur 4 fr)):AO n B W' v Ls:=by
 obtain ⟨c,d,a⟩:=h;refine ⟨c,d.kept hg ha,fun i j=>?_⟩;obtain ⟨x,y,m,l,f⟩:=a i j;exact ⟨x,y,m,l,f.keep h1 fun k cur fr b=>hg.block k (Array.getElem?_eq_some_iff.1 b).1 (fun e=>hr k e.symm cur fr b)⟩
theorem AO.over {n B:Nat} {W W':World} {v:Value} {Ls:List Lev} (h1:1<=n) (h:AO n B W v Ls) (hb:Ov W W'):AO n B W' v Ls:=
 h.keep h1 (row:=none) ⟨hb.os,hb.tape,hb.output,hb.size,fun k hk _=>hb.block k hk⟩ (by cases v.ownBlock <;> simp) (fun g e=>by cases e)
theorem AO.snoc {n B:Nat} {W W':World} {v v':Value} {Ls:List Lev} {x y:Value} {l:Lev} (h1:1<=n) (h:AO n B W v Ls) (us:List Value) (ho:W.ownsRow B 50 2 v Ls.length us) (hel:∀ i (h:i < Ls.length),∃ x y,us[i*2]? = some x/\us[i*2+1]? = some y/\Fq n W (zh #[x,y]) Ls[i]) (hl:Fq n W (zh #[x,y]) l)
  (ho':W'.ownsRow B 50 2 v' (Ls.length+1) (us++[x,y])) (hg:W.grownBy W' v.ownBlock):AO n B W' v' (Ls++[l]):=by
 have a:∀ (k:Nat) (cur:Array Value) (fr:Nat × Nat),W.heap[k]? = some (Obj.cells cur 4 fr)->W'.heap[k]? = W.heap[k]?:=fun k cur fr a=>hg.block k (Array.getElem?_eq_some_iff.1 a).1 (fun e=>by
  obtain ⟨-,g,q,b⟩:=B6 h k e.symm;rw [a] at b;injection b with b;injection b with f r t;exact absurd r (by decide))
 have c:us.length=Ls.length*2:=ho.1;refine ⟨us++[x,y],by simpa using ho',fun i p=>?_⟩;by_cases hlt:i < Ls.length
 ·obtain ⟨m,j,s,f,o⟩:=hel i hlt
  refine ⟨m,j,?_,?_,?_⟩
  ·rw [List.getElem?_append_left (by omega)];exact s
  ·rw [List.getElem?_append_left (by omega)];exact f
  ·rw [List.getElem_append_left hlt];exact o.keep h1 a
 ·have d:i=Ls.length:=by simp at p;omega
  subst d;refine ⟨x,y,?_,?_,?_⟩
  ·rw [List.getElem?_append_right (by omega)];simp [c]
  ·rw [List.getElem?_append_right (by omega)]
   have:Ls.length*2+1 - us.length=1:=by omega
   rw [this];rfl
  ·simp;exact hl.keep h1 a
theorem Je (n:Nat) (ga gn gc sa sn sc ya yn yc oa on oc va vn vc fa fn fc ba bn bc la ln lc ka kn kc) (w:World) :
  Calls Tryz.prog 99 #[zh #[zd U (n:Int),O ga gn gc,O sa sn sc,O ya yn yc,O oa on oc,O va vn vc,O fa fn fc,O ba bn bc],zh #[O la ln lc,O ka kn kc]] w fun e w'=>e=zj (zh #[zd U (n:Int),O ga gn gc,O sa sn sc,O ya yn yc,O oa on oc,O va vn vc,O fa fn fc,O ba bn bc,O la ln lc,O ka kn kc])/\Ov w w':=by
 go_enter Tryz.func99,Tryz.ntmps99;go_wp2_with fail;refine bodyPost_ret (v:=zh #[zd U (n:Int),O ga gn gc,O sa sn sc,O ya yn yc,O oa on oc,O va vn vc,O fa fn fc,O ba bn bc,O la ln lc,O ka kn kc]) (by simp [results,Tryz.results99,go_sem]) rfl ⟨rfl,?_⟩;refine Below.alloc ?_ (by simp <;> omega) _
 refine Below.alloc ?_ (by simp <;> omega) _
 exact bA w _
def CJ (gs:List (Int × Int)) (n:Nat) (vs:List (Bool × Lab)):List Lev:=vs.map fun v=>if v.1=true then Ar (Ax gs) n v.2 else A7 n
theorem DG (n:Nat):(A7 n).len n:=⟨by simp [A7],by simp [A7]⟩
theorem Dl (gn:List (Nat × Nat)) (n:Nat) (b:Lab):(Ar gn n b).len n:=⟨AH _ _,AH _ _⟩
structure B1 (n B bw:Nat) (P:List Value) (Ls Fs:List Lev) (v k:Value) (W:World):Prop where
 row:Ad (P++[v,k]) W bw
 fz:∀ j,W.frozen? ⟨bw,j,none⟩=false
 vs:AO n B W v Ls
 fs:AO n B W k Fs
 ap:v.ownBlock=none\/v.ownBlock≠k.ownBlock
 ap2:v.ownBlock≠some bw/\k.ownBlock≠some bw
 ty:∃ cur fr,W.heap[bw]? = some (Obj.cells cur 110 fr)
 lo:B<=bw/\bw < W.heap.size
theorem B1.over {n B bw:Nat} {P:List Value} {Ls Fs:List Lev} {v k:Value} {W W':World} (h1:1<=n) (h:B1 n B bw P Ls Fs v k W) (hb:Ov W W'):B1 n B bw P Ls Fs v k W':=by
 refine ⟨h.row.over hb,fun j=>((An hb).2 _ _ h.lo.2).trans (h.fz j),h.vs.over h1 hb,h.fs.over h1 hb,h.ap,h.ap2,?_,h.lo.1,Nat.lt_of_lt_of_le h.lo.2 hb.size⟩;obtain ⟨a,c,b⟩:=h.ty;exact ⟨a,c,(hb.block _ h.lo.2).trans b⟩
theorem IL {cs:List Value} {w:World} {b j:Nat} {v:Value} (h:Ad cs w b) (hj:j < cs.length):Ad (cs.set j v) (w.setCell ⟨b,j,none⟩ v) b:=by
 intro i u a;by_cases hij:j=i
 ·subst hij
  rw [List.getElem?_set_self hj] at a;injection a with a;subst a;exact World.cell?_setCell_same _ _ _ (h j _ (List.getElem?_eq_getElem hj))
 ·rw [List.getElem?_set_ne hij] at a
  rw [World.cell?_setCell_other _ _ _ _ (by intro e;injection e with d c;exact hij c)];exact h i u a
theorem Cn {w:World} {b j:Nat} {u:Value}:w.grownBy (w.setCell ⟨b,j,none⟩ u) (some b):=
 ⟨rfl,rfl,rfl,by simp [World.setCell],fun k hk hne=>Bn (fun e=>hne (by rw [e])) u⟩
theorem Hv {w w':World} {v:Value} {B:Nat} (h:w.grownBy w' v.ownBlock) (hv:∀ g,v.ownBlock=some g->B<=g) (hB:B<=w.heap.size):Below B w w':=
 ⟨h.os,h.tape,h.output,h.size,fun k hk=>h.block k (by omega) (fun e=>by have:=hv k e.symm;omega)⟩
theorem B1.addV {n B bw:Nat} {P:List Value} {Ls Fs:List Lev} {v k v':Value} {W W':World} {us:List Value} {x y:Value} {l:Lev} (h1:1<=n) (hP:P.length=8) (h:B1 n B bw P Ls Fs v k W) (ho:W.ownsRow B 50 2 v Ls.length us) (hel:∀ i (h:i < Ls.length),∃ x y,us[i*2]? = some x/\us[i*2+1]? = some y/\Fq n W (zh #[x,y]) Ls[i]) (hl:Fq n W (zh #[x,y]) l)
  (ho':W'.ownsRow B 50 2 v' (Ls.length+1) (us++[x,y])) (hg:W.grownBy W' v.ownBlock) (hat:v'.ownBlock=v.ownBlock\/v'.ownBlock=some W.heap.size) :
  B1 n B bw P (Ls++[l]) Fs v' k (W'.setCell ⟨bw,8,none⟩ v')/\Below B W (W'.setCell ⟨bw,8,none⟩ v'):=by
 have F:=B6 h.vs;have I:=B6 h.fs;have G:∀ g,v.ownBlock=some g->∀ (cur:Array Value) (fr:Nat × Nat),W.heap[g]?≠some (Obj.cells cur 4 fr):=fun g A cur fr s=>by
  obtain ⟨-,L,K,d⟩:=F g A;rw [s] at d;injection d with d;injection d with D t J;exact absurd t (by decide)
 have o:W'.heap[bw]? = W.heap[bw]?:=hg.block bw h.lo.2 (fun e=>h.ap2.1 e.symm);have p:=AO.snoc h1 h.vs us ho hel hl ho' hg;have z:k.ownBlock=none\/k.ownBlock≠v.ownBlock:=by
  rcases h.ap with e | e
  ·cases hk':k.ownBlock with
   | none=>exact w.inl rfl
   | some g=>rw [e];exact w.inr (by simp)
  ·exact w.inr e.symm
 have r:=h.fs.keep h1 hg z G;have q:∃ cur fr,W'.heap[bw]? = some (Obj.cells cur 110 fr):=by obtain ⟨c,f,e⟩:=h.ty;exact ⟨c,f,o.trans e⟩
 have E:∀ g,some bw=some g->∀ (cur:Array Value) (fr:Nat × Nat),W'.heap[g]?≠some (Obj.cells cur 4 fr):=fun g e cur fr s=>by
  injection e with e;subst e;obtain ⟨c,f,e⟩:=q;rw [s] at e;injection e with e;injection e with D t J;exact absurd t (by decide)
 have b:v'.ownBlock≠some bw:=by
  rcases hat with e | e
  ·rw [e];exact h.ap2.1
  ·rw [e];intro e;injection e with e;have:=h.lo.2;omega
 have m:Ad (P++[v,k]) W' bw:=fun j u H=>(World.cell?_of_block (a:=⟨bw,j,none⟩) o).trans (h.row j u H);have C:Below B W W':=Hv hg (fun g e=>(F g e).1) (Nat.le_trans h.lo.1 (Nat.le_of_lt h.lo.2));refine ⟨⟨?_,fun j=>?_,p.keep h1 Cn (w.inr b) E,r.keep h1 Cn (w.inr h.ap2.2) E,?_,⟨b,h.ap2.2⟩,?_,h.lo.1,?_⟩,C.setCell h.lo.1 _⟩
 ·have:=IL (j:=8) (v:=v') m (by simp [hP])
  rw [List.set_append,if_neg (by omega)] at this;simpa [hP] using this
 ·have D:(W'.setCell ⟨bw,8,none⟩ v').frozen? ⟨bw,j,none⟩=W'.frozen? ⟨bw,j,none⟩:=by simp [go_sem]
  rw [D,World.frozen?_of_block (a:=⟨bw,j,none⟩) o];exact h.fz j
 ·rcases hat with e | e
  ·rw [e];exact h.ap
  ·rw [e]
   refine w.inr fun t=>?_;obtain ⟨-,c,f,s⟩:=I _ t.symm;have:=(Array.getElem?_eq_some_iff.1 s).1;omega
 ·obtain ⟨c,f,e⟩:=q
  refine ⟨c.setIfInBounds 8 v',f,?_⟩;simp [World.setCell,Array.getElem?_modify,e]
 ·have:=hg.size
  have:=h.lo.2;simp [World.setCell];omega
theorem B1.addF {n B bw:Nat} {P:List Value} {Ls Fs:List Lev} {v k v':Value} {W W':World} {us:List Value} {x y:Value} {l:Lev} (h1:1<=n) (hP:P.length=8) (h:B1 n B bw P Ls Fs v k W) (ho:W.ownsRow B 50 2 k Fs.length us) (hel:∀ i (h:i < Fs.length),∃ x y,us[i*2]? = some x/\us[i*2+1]? = some y/\Fq n W (zh #[x,y]) Fs[i]) (hl:Fq n W (zh #[x,y]) l)
  (ho':W'.ownsRow B 50 2 v' (Fs.length+1) (us++[x,y])) (hg:W.grownBy W' k.ownBlock) (hat:v'.ownBlock=k.ownBlock\/v'.ownBlock=some W.heap.size) :
  B1 n B bw P Ls (Fs++[l]) v v' (W'.setCell ⟨bw,9,none⟩ v')/\Below B W (W'.setCell ⟨bw,9,none⟩ v'):=by
 have F:=B6 h.vs;have D:=B6 h.fs;have E:∀ g,k.ownBlock=some g->∀ (cur:Array Value) (fr:Nat × Nat),W.heap[g]?≠some (Obj.cells cur 4 fr):=fun g w cur fr s=>by
  obtain ⟨-,J,I,d⟩:=D g w;rw [s] at d;injection d with d;injection d with A t H;exact absurd t (by decide)
 have o:W'.heap[bw]? = W.heap[bw]?:=hg.block bw h.lo.2 (fun e=>h.ap2.2 e.symm);have r:=AO.snoc h1 h.fs us ho hel hl ho' hg;have p:=h.vs.keep h1 hg h.ap E;have q:∃ cur fr,W'.heap[bw]? = some (Obj.cells cur 110 fr):=by obtain ⟨c,f,e⟩:=h.ty;exact ⟨c,f,o.trans e⟩
 have C:∀ g,some bw=some g->∀ (cur:Array Value) (fr:Nat × Nat),W'.heap[g]?≠some (Obj.cells cur 4 fr):=fun g e cur fr s=>by
  injection e with e;subst e;obtain ⟨c,f,e⟩:=q;rw [s] at e;injection e with e;injection e with A t H;exact absurd t (by decide)
 have b:v'.ownBlock≠some bw:=by
  rcases hat with e | e
  ·rw [e];exact h.ap2.2
  ·rw [e];intro e;injection e with e;have:=h.lo.2;omega
 have m:Ad (P++[v,k]) W' bw:=fun j u G=>(World.cell?_of_block (a:=⟨bw,j,none⟩) o).trans (h.row j u G);have z:Below B W W':=Hv hg (fun g e=>(D g e).1) (Nat.le_trans h.lo.1 (Nat.le_of_lt h.lo.2));refine ⟨⟨?_,fun j=>?_,p.keep h1 Cn (Or.inr h.ap2.1) C,r.keep h1 Cn (Or.inr b) C,?_,⟨h.ap2.1,b⟩,?_,h.lo.1,?_⟩,z.setCell h.lo.1 _⟩
 ·have:=IL (j:=9) (v:=v') m (by simp [hP])
  rw [List.set_append,if_neg (by omega)] at this;simpa [hP] using this
 ·have A:(W'.setCell ⟨bw,9,none⟩ v').frozen? ⟨bw,j,none⟩=W'.frozen? ⟨bw,j,none⟩:=by simp [go_sem]
  rw [A,World.frozen?_of_block (a:=⟨bw,j,none⟩) o];exact h.fz j
 ·rcases hat with e | e
  ·rw [e];exact h.ap
  ·rw [e]
   refine Or.inr fun t=>?_;obtain ⟨-,c,f,s⟩:=F _ t;have:=(Array.getElem?_eq_some_iff.1 s).1;omega
 ·obtain ⟨c,f,e⟩:=q
  refine ⟨c.setIfInBounds 9 v',f,?_⟩;simp [World.setCell,Array.getElem?_modify,e]
 ·have:=hg.size
  have:=h.lo.2;simp [World.setCell];omega
def EX (W:World) (b:Nat):Prop:=∀ (cur:Array Value) (fr:Nat × Nat),W.heap[b]?≠some (Obj.cells cur 4 fr)
theorem EX.set {W:World} {b b' j:Nat} {u:Value} (h:EX W b):EX (W.setCell ⟨b',j,none⟩ u) b:=by
 intro d g a;by_cases hb:b'=b
 ·subst hb
  simp only [World.setCell,Array.getElem?_modify,if_true] at a;cases ho:W.heap[b']? with
  | none=>rw [ho] at a;simp at a
  | some o=>
   rw [ho] at a;cases o with
   | cells c e f=>
    simp at a;obtain ⟨-,rfl,-⟩:=a;exact h _ _ ho
   | _=>simp at a
 ·rw [Bn hb] at a
  exact h d g a
theorem AO.setLow {n B:Nat} {W:World} {v:Value} {Ls:List Lev} (h1:1<=n) (h:AO n B W v Ls) {b j:Nat} {u:Value} (hb:b < B) (hn:EX W b):AO n B (W.setCell ⟨b,j,none⟩ u) v Ls:=
 h.keep h1 Cn (by
  cases hv:v.ownBlock with
  | none=>exact Or.inl rfl
  | some g=>
   refine Or.inr fun e=>?_;injection e with e;have:=(B6 h g hv).1;omega) (fun g e=>by injection e with e;subst e;exact hn)
theorem AO.low {n B B':Nat} {W:World} {v:Value} {Ls:List Lev} (h:AO n B W v Ls) (hb:B'<=B):AO n B' W v Ls:=by
 obtain ⟨b,c,a⟩:=h;exact ⟨b,Cb c hb,a⟩
def setN (b:Nat):List Value->Nat->World->World
 | [],_,W=>W
 | u::us,j,W=>setN b us (j+1) (W.setCell ⟨b,j,none⟩ u)
theorem AO.setN {n B b:Nat} {v:Value} {Ls:List Lev} (h1:1<=n) (hb:b < B):∀ (us:List Value) (j:Nat) (W:World),AO n B W v Ls->EX W b->AO n B (setN b us j W) v Ls
 | [],_,_,h,_=>h
 | u::us,j,W,h,hn=>AO.setN h1 hb us (j+1) _ (h.setLow h1 hb hn) hn.set
theorem H8 {B b:Nat} {w:World} (hb:B<=b):∀ (us:List Value) (j:Nat) (W:World),Below B w W->Below B w (setN b us j W)
 | [],_,_,h=>h
 | u::us,j,W,h=>H8 hb us (j+1) _ (h.setCell hb u)
theorem B1.box {n B bw:Nat} {P:List Value} {Ls Fs:List Lev} {v k:Value} {W:World} {b j:Nat} {u:Value} (h1:1<=n) (h:B1 n B bw P Ls Fs v k W) (hb:b≠bw) (hv:v.ownBlock≠some b) (hk:k.ownBlock≠some b) (hn:EX W b):B1 n B bw P Ls Fs v k (W.setCell ⟨b,j,none⟩ u):=by
 have d:(W.setCell ⟨b,j,none⟩ u).heap[bw]? = W.heap[bw]?:=Bn hb u;refine ⟨fun i x l=>(World.cell?_of_block (a:=⟨bw,i,none⟩) d).trans (h.row i x l),fun i=>(World.frozen?_of_block (a:=⟨bw,i,none⟩) d).trans (h.fz i),h.vs.keep h1 Cn (Or.inr hv) (fun g e=>by injection e with e;subst e;exact hn),h.fs.keep h1 Cn (Or.inr hk) (fun g e=>by injection e with e;subst e;exact hn),h.ap,h.ap2,?_,h.lo.1,by simpa [World.setCell] using h.lo.2⟩;obtain ⟨c,f,e⟩:=h.ty;exact ⟨c,f,d.trans e⟩
theorem NK {gs:List (Int × Int)} {n:Nat} {vs:List (Bool × Lab)} {j:Nat} (h:j < vs.length):CJ gs n (vs.take (j+1))=CJ gs n (vs.take j)++[if vs[j].1=true then Ar (Ax gs) n vs[j].2 else A7 n]:=by
 unfold CJ;rw [List.take_succ_eq_append_getElem h,List.map_append];rfl
theorem Ke {W:World} {cs:Array Value} {T:Nat} (h:T≠4):EX (W.alloc (.cells cs T)) W.heap.size:=by
 intro c d a;rw [Bl] at a;injection a with a;injection a with f b e;exact h b
theorem EX.over {W W':World} {b:Nat} (h:EX W b) (hb:Ov W W') (hlt:b < W.heap.size):EX W' b:=fun cur fr he=>h cur fr ((hb.block b hlt) ▸ he)
theorem EG {ops:Array Oper} {o:Oper} {a:Act} {W:World} {K:Act->World->Prop} {Q:Exit->Act->World->Prop} {E:Prop} (hg:o.guard=none) (s x:Operand) (t:TypeId) (hop:o.op=Op.call { callee:=Callee.builtin Builtin.append,args:=#[s,x],argTypes:=#[t,t] }) (v u v':Value) (W':World) (hs:a.eval s=v) (hx:a.eval x=u)
  (hr:(Builtin.append_ #[t,t] o.type #[v,u]).run Tryz.prog W=.ok v' W') (h:K (a.put o.dst v') W'):if Region.wanted o (yielded ops a.tmps)=true then Oper.wp Tryz.prog o a W K Q else E:=by
 have hw:Region.wanted o (yielded ops a.tmps)=true:=by simp [Region.wanted,hg]
 rw [if_pos hw];unfold Oper.wp execOp;simp only [hop,resolve,invoke,builtin,Sem.run_bind,Sem.run_pure,Result.andThen_ok,List.map_toArray,List.map_cons,List.map_nil,hs,hx,hr];exact h
theorem Sv (n:Nat) (h1:1<=n) (h6:n<=6) (ga gn gc) (sa sn sc ya yn yc oa on oc) (va vn vc) (fa:Option Addr) (fn fc:Nat) (ba bn bc gs vs) (w:World) (hg:AA w (O ga gn gc) gs) (hE:AR n gs=0) (hv:Bs w (O va vn vc) vs) (hvc:∀ v∈vs,Bb n gs v.2=0) (h16:vs.length<=16) (hf5:fn<=5) :
  Calls Tryz.prog 54 #[zh #[zd U (n:Int),O ga gn gc,O sa sn sc,O ya yn yc,O oa on oc,O va vn vc,O fa fn fc,O ba bn bc]] w fun e w'=>∃ la ln lc ka kn2 kc,e=zj (zh #[zd U (n:Int),O ga gn gc,O sa sn sc,O ya yn yc,O oa on oc,O va vn vc,O fa fn fc,O ba bn bc,O la ln lc,O ka kn2 kc])/\AO n w.heap.size w' (O la ln lc) (CJ gs n vs)/\AO n w.heap.size w' (O ka kn2 kc) (List.replicate fn (A7 n))/\(Value.ownBlock (O la ln lc)=none\/Value.ownBlock (O la ln lc)≠Value.ownBlock (O ka kn2 kc))/\Ov w w':=by
 obtain ⟨i0,hi,bj,bi,bh⟩:=info_parts Tryz.infoLv;have du:Ov w ((w.alloc (ze #[zd U (n:Int),O ga gn gc,O sa sn sc,O ya yn yc,O oa on oc,O va vn vc,O fa fn fc,O ba bn bc] 31)).alloc (ze #[zd U 0,O none 0 0,O none 0 0,O none 0 0,O none 0 0,O none 0 0,O none 0 0,O none 0 0,O none 0 0,O none 0 0] 110)):=(bA w _).alloc (by simp) _;have KW:=Aa (Je n ga gn gc sa sn sc ya yn yc oa on oc va vn vc fa fn fc ba bn bc none 0 0 none 0 0 ((w.alloc (ze #[zd U (n:Int),O ga gn gc,O sa sn sc,O ya yn yc,O oa on oc,O va vn vc,O fa fn fc,O ba bn bc] 31)).alloc (ze #[zd U 0,O none 0 0,O none 0 0,O none 0 0,O none 0 0,O none 0 0,O none 0 0,O none 0 0,O none 0 0,O none 0 0] 110)));have KB:=Aa fun (la:Option Addr) (ln lc:Nat) (ka:Option Addr) (kn kc:Nat) W=>ET n h1 h6 ga gn gc sa sn sc ya yn yc oa on oc va vn vc fa fn fc ba bn bc la ln lc ka kn kc W;have KL:=Aa fun (la:Option Addr) (ln lc:Nat) (ka:Option Addr) (kn kc:Nat) (pr pw:Value) (bl:Lab) W (hb:Ov w W) (h2:AL W pr bl.r) (h3:AL W pw bl.w) (h4:Bb n gs bl=0)=>LN (n:Int) ga gn gc sa sn sc ya yn yc oa on oc va vn vc fa fn fc ba bn bc la ln lc ka kn kc gs pr pw bl W (Af hg hb) h2 h3 h4;have bf:Ad [zd U (n:Int),O ga gn gc,O sa sn sc,O ya yn yc,O oa on oc,O va vn vc,O fa fn fc,O ba bn bc] ((w.alloc (ze #[zd U (n:Int),O ga gn gc,O sa sn sc,O ya yn yc,O oa on oc,O va vn vc,O fa fn fc,O ba bn bc] 31)).alloc (ze #[zd U 0,O none 0 0,O none 0 0,O none 0 0,O none 0 0,O none 0 0,O none 0 0,O none 0 0,O none 0 0,O none 0 0] 110)) w.heap.size:=(Ad.new [zd U (n:Int),O ga gn gc,O sa sn sc,O ya yn yc,O oa on oc,O va vn vc,O fa fn fc,O ba bn bc] 31 w).over (bA _ _);have da:=Aa du;have cx:=Aa bf;have HV:=Aa hv;have gd:=Aa hvc;have dm:vn=vs.length:=by obtain ⟨-,a,c,he,-⟩:=hv;injection he
 have fg:vn<=16:=by omega
 have ex:=Aa dm;obtain ⟨V0,av⟩:=nm (((w.alloc (ze #[zd U (n:Int),O ga gn gc,O sa sn sc,O ya yn yc,O oa on oc,O va vn vc,O fa fn fc,O ba bn bc] 31)).alloc (ze #[zd U 0,O none 0 0,O none 0 0,O none 0 0,O none 0 0,O none 0 0,O none 0 0,O none 0 0,O none 0 0,O none 0 0] 110)));have dn:V0.heap.size=w.heap.size+1+1:=by rw [av];simp
 rw [<-av] at da cx;have cw:=Aa dn;have R:Hx (∀ W,Below (w.heap.size+1+1) V0 W->(w.heap.size+1+1)<=W.heap.size):=fun W h=>by have:=h.size;rw [cw.o] at this;exact this
 have di:EX V0 (w.heap.size+1):=by
  rw [av];have:=Ke (W:=w.alloc (ze #[zd U (n:Int),O ga gn gc,O sa sn sc,O ya yn yc,O oa on oc,O va vn vc,O fa fn fc,O ba bn bc] 31)) (cs:=#[zd U 0,O none 0 0,O none 0 0,O none 0 0,O none 0 0,O none 0 0,O none 0 0,O none 0 0,O none 0 0,O none 0 0]) (T:=110) (by decide);simpa using this
 have zr:Ad [zd U 0,O none 0 0,O none 0 0,O none 0 0,O none 0 0,O none 0 0,O none 0 0,O none 0 0,O none 0 0,O none 0 0] V0 (w.heap.size+1):=by
  rw [av];have:=Ad.new [zd U 0,O none 0 0,O none 0 0,O none 0 0,O none 0 0,O none 0 0,O none 0 0,O none 0 0,O none 0 0,O none 0 0] 110 (w.alloc (ze #[zd U (n:Int),O ga gn gc,O sa sn sc,O ya yn yc,O oa on oc,O va vn vc,O fa fn fc,O ba bn bc] 31));simpa using this
 have zf:∀ j,V0.frozen? ⟨w.heap.size+1,j,none⟩=false:=fun j=>by rw [av];simp [go_sem]
 have gb:=Aa di;have ZR:=Aa zr;have ZF:=Aa zf;obtain ⟨c0,c1,c2,c3,c4,c5,c6,c7⟩:=rc8 bf;clear du bf hv hvc hg hE dm dn di zr zf;go_enter Tryz.func54,Tryz.ntmps54;go_wp2_with fail;refine (KW.o).mono ?_;rintro e V ⟨rfl,bp⟩;rw [<-av] at bp;have bo:=bA V (ze #[zd U (n:Int),O ga gn gc,O sa sn sc,O ya yn yc,O oa on oc,O va vn vc,O fa fn fc,O ba bn bc,O none 0 0,O none 0 0] 110);have cm:Below (w.heap.size+1+1) V0 (V.alloc (ze #[zd U (n:Int),O ga gn gc,O sa sn sc,O ya yn yc,O oa on oc,O va vn vc,O fa fn fc,O ba bn bc,O none 0 0,O none 0 0] 110)):=by rw [<-cw.o];exact Ac bp bo
 have dy:B1 n (w.heap.size+1+1) V.heap.size [zd U (n:Int),O ga gn gc,O sa sn sc,O ya yn yc,O oa on oc,O va vn vc,O fa fn fc,O ba bn bc] [] [] (O none 0 0) (O none 0 0) (V.alloc (ze #[zd U (n:Int),O ga gn gc,O sa sn sc,O ya yn yc,O oa on oc,O va vn vc,O fa fn fc,O ba bn bc,O none 0 0,O none 0 0] 110)):=by
  refine ⟨Ad.new [zd U (n:Int),O ga gn gc,O sa sn sc,O ya yn yc,O oa on oc,O va vn vc,O fa fn fc,O ba bn bc,O none 0 0,O none 0 0] 110 V,fun j=>by simp [go_sem],Gs _ _ _,Gs _ _ _,Or.inl rfl,⟨by simp [Value.ownBlock],by simp [Value.ownBlock]⟩,⟨_,_,Bl _ _⟩,?_,by simp⟩;have:=bp.size;rw [cw.o] at this;exact this
 have gk:=Aa dy;have e7:=Aa cm;have bq:=cx.o.over (Ac bp bo);have gy:=Aa bq;clear c0 c1 c2 c3 c4 c5 c6 c7 KW bp bo cm dy av;obtain ⟨c0,c1,c2,c3,c4,c5,c6,c7⟩:=rc8 bq;clear bq;go_wp2_with fail;go_loopw [13] (fun x wr=>∃ (j:Nat) (la:Option Addr) (ln lc:Nat),j<=vn/\x=zd U j/\B1 n (w.heap.size+1+1) V.heap.size [zd U (n:Int),O ga gn gc,O sa sn sc,O ya yn yc,O oa on oc,O va vn vc,O fa fn fc,O ba bn bc] (CJ gs n (vs.take j)) [] (O la ln lc) (O none 0 0) wr/\Below (w.heap.size+1+1) V0 wr) (fun x _=>vn - (intOf x).toNat)
 case atStart=>exact ⟨0,none,0,0,Nat.zero_le _,rfl,gk.o,e7.o⟩
 case round=>
  clear c0 c1 c2 c3 c4 c5 c6 c7;obtain ⟨j,la,ln,lc,hj,rfl,hL,hB⟩:=hrel;have am:=da.o.trans (hB.mono (by omega));have cp:Ad [zd U (n:Int),O ga gn gc,O sa sn sc,O ya yn yc,O oa on oc,O va vn vc,O fa fn fc,O ba bn bc] wr w.heap.size:=fun i u hu=>(hB.cell (p:=⟨w.heap.size,i,none⟩) (by simp <;> omega)).trans (cx.o i u hu)
  by_cases hlt:j < vn
  ·have ao:j < vs.length:=by rw [<-ex.o];exact hlt
   obtain ⟨-,g8,g7,fh,a8⟩:=HV.o;injection fh with x1 x2 x3;obtain ⟨bv,ov,dl,a8⟩:=a8 (by intro h;rw [h] at ao;simp at ao);obtain ⟨pr,pw,g0,g1,g2,ce,cd⟩:=a8 j ao;have fi:va=some ⟨bv,ov,none⟩:=x1.trans dl;subst fi;obtain ⟨b1,b2,b3,rfl⟩:=Az ce;obtain ⟨b4,b5,b6,rfl⟩:=Az cd;obtain ⟨g0,g1,g2⟩:=co3 am g0 g1 g2;have cj:=Aa (NK (gs:=gs) (n:=n) ao);obtain ⟨kn,dq⟩:=nm (vs[j].1);obtain ⟨lb,cq⟩:=nm (vs[j].2);rw [<-dq] at g0 cj;rw [<-cq] at ce cd cj;have e5:=Aa (gd.o vs[j] (List.getElem_mem ao));rw [<-cq] at e5;have bd:=bA wr (ze #[zg kn,O b1 b2 b3,O b4 b5 b6] 41);have cu:=hL.over h1 bd;have ai:=Ad.new [zg kn,O b1 b2 b3,O b4 b5 b6] 41 wr;have be:=Aa (KB.o la ln lc none 0 0 (wr.alloc (ze #[zg kn,O b1 b2 b3,O b4 b5 b6] 41)));have ea:=hB.trans (bd.mono (R.o _ hB));have ch:=Aa cu;have c9:=Aa ea;have ey:=Aa ai;have e3:=Aa (Ak ce (am.trans (bd.mono am.size)));have ez:=Aa (Ak cd (am.trans (bd.mono am.size)));have bz:=Aa (am.trans (bd.mono am.size));have hf:(j:Int) < (vn:Int):=by omega
   obtain ⟨d0,d1,d2,d3,d4,d5,d6,d7,d8,d9⟩:=Ch cu.row;obtain ⟨e0,e1,e2⟩:=rc3 ai;clear hL hB am cp a8 dl x1 x2 x3 ce cd dq cq bd cu ai ea;go_wp2_with fail;refine (be.o).mono ?_;rintro e t ⟨vj,rfl,D,S⟩;have Z:=Dk D (DG n);obtain ⟨M,L,J,I,H,G,al⟩:∃ M L J I H G,vj=zh #[O M L J,O I H G]:=by
    obtain ⟨x,y,e,-⟩:=Aq D;subst e;obtain ⟨z1,z2,z3,z4,z5,z6,rfl,rfl⟩:=AX (Aq D);exact ⟨_,_,_,_,_,_,rfl⟩
   subst al;have cr:=bA t (ze #[O M L J,O I H G] 50);have Y:=Ac S cr;have dx:=ch.o.over h1 Y;have ge:=Aa (Z.over h1 cr);have dz:=c9.o.trans (Y.mono (R.o _ c9.o));have bg:=Ad.new [O M L J,O I H G] 50 t;have ai:=ey.o.over Y;have cg:=Aa dx;have c8:=Aa dz;have hs:=Aa bg;have gh:=Aa (Ak e3.o Y);have gg:=Aa (Ak ez.o Y);have e6:=Aa (bz.o.trans (Y.mono bz.o.size));have bu:Hx (Value.ownBlock (O la ln lc)≠some t.heap.size/\t.heap.size≠V.heap.size/\V.heap.size < t.heap.size):=by
    have h3:=S.size;have h4:=ch.o.lo.2;refine ⟨fun e=>?_,by omega,by omega⟩;obtain ⟨-,c,f,he⟩:=B6 ch.o.vs _ e;have:=(Array.getElem?_eq_some_iff.1 he).1;omega
   have gi:=Aa (Ke (W:=t) (cs:=#[O M L J,O I H G]) (T:=50) (by decide));clear d0 d1 d2 d3 d4 d5 d6 d7 d8 d9 e0 e1 e2 D S Z cr Y dx dz be ch c9 ey e3 ez bz;obtain ⟨d0,d1,d2,d3,d4,d5,d6,d7,d8,d9⟩:=Ch cg.o.row;obtain ⟨e0,e1,e2⟩:=rc3 ai;obtain ⟨f0,f1⟩:=rc2 bg;clear bg ai;cases kn with
   | false=>
    have cy:=cg;have bx:=c8;have HT:=ge;have C:=(Below.refl _ (t.alloc (ze #[O M L J,O I H G] 50))).alloc (Nat.le_refl _) (ze #[O M L J,O I H G] 50);have l:=cy.o.over h1 C;have hN:=Ad.new [O M L J,O I H G] 50 (t.alloc (ze #[O M L J,O I H G] 50));have bk:(t.alloc (ze #[O M L J,O I H G] 50)).heap.size=(t.heap.size+1):=by simp
    rw [bk] at hN;have HN:=Aa hN;clear hN bk;obtain ⟨us,z,F⟩:=l.vs;have bw:=Aa F;have ar:=Aa z;have cv:=Aa (HT.o.over h1 C);have an:=Aa l;have cz:=Aa (show (w.heap.size+1+1)<=((t.alloc (ze #[O M L J,O I H G] 50)).alloc (ze #[O M L J,O I H G] 50)).heap.size by have:=l.lo;omega);have dp:(CJ gs n (vs.take j)).length<=16:=by simp [CJ];omega
    have ah:=Aa (bx.o.trans (C.mono (R.o _ bx.o)));have dN:=l.row 8 _ rfl;have fN:=l.fz 8;clear C l F;go_wp2_with (at_builtin;refine wpList_append_own_at _ rfl _ _ 42 rfl (w.heap.size+1+1) 50 i0 (zh #[O none 0 0,O none 0 0]) 2 48 Tryz.underlying42 hi bj bi bh rfl (by decide) _ _ _ rfl ar.o ⟨(t.heap.size+1),0,none⟩ 1 1 [O M L J,O I H G] rfl rfl (fun jj u hu=>by rw [Addr.add_lit,Nat.zero_add];exact HN.o jj u hu) (by simp [Value.oneCell']) (by unfold maxLen;omega) (by omega) cz.o ?_);intro v2 w2 m s _ Q;obtain ⟨af,ad,ae,rfl⟩:=AE m;have E:=B1.addV h1 rfl an.o ar.o bw.o cv.o m s (by simpa using Q);have d2:=s.cell dN (fun hx=>an.o.ap2.1 hx.symm);have f2:w2.frozen? ⟨V.heap.size,8,none⟩=false:=(World.frozen?_of_block (a:=⟨V.heap.size,8,none⟩) (s.block V.heap.size an.o.lo.2 (fun hx=>an.o.ap2.1 hx.symm))).trans fN;have A:=Aa E;clear E m s Q z dN fN;go_wp2_with fail;refine ⟨⟨j+1,af,ad,ae,by omega,by go_num,by rw [cj.o];exact A.o.1,ah.o.trans A.o.2⟩,by simp [intOf];omega⟩
   | true=>
    have ew:=Aa (KL.o la ln lc none 0 0 _ _ lb _ e6.o gh.o gg.o e5.o);go_wp2_with fail;refine (ew.o).mono ?_;rintro e W5 ⟨vj,rfl,D,au⟩;have a9:A1 (t.alloc (ze #[O M L J,O I H G] 50)) W5 vj (Ar (Ax gs) n lb):=by simpa using D
    have dv:=Dk a9 (Dl _ n lb);obtain ⟨m1,m2,m3,m4,m5,m6,al⟩:∃ M L J I H G,vj=zh #[O M L J,O I H G]:=by
     obtain ⟨x,y,e,-⟩:=Aq a9;subst e;obtain ⟨z1,z2,z3,z4,z5,z6,rfl,rfl⟩:=AX (Aq a9);exact ⟨_,_,_,_,_,_,rfl⟩
    subst al;have bm:t.heap.size < (t.alloc (ze #[O M L J,O I H G] 50)).heap.size:=by simp
    have cb:=gi.o.over au bm;obtain ⟨p0,p1⟩:=co2 au f0 f1;have z0:W5.frozen? ⟨t.heap.size,0,none⟩=false:=((An au).2 _ _ bm).trans (by simp [go_sem]);have z1:W5.frozen? ⟨t.heap.size,1,none⟩=false:=((An au).2 _ _ bm).trans (by simp [go_sem]);have dw:=cg.o.over h1 au;have ct:=(dw.box (j:=0) (u:=O m1 m2 m3) h1 bu.o.2.1 bu.o.1 (by simp [Value.ownBlock]) cb).box (j:=1) (u:=O m4 m5 m6) h1 bu.o.2.1 bu.o.1 (by simp [Value.ownBlock]) cb.set;have cy:=Aa ct;have cl:(w.heap.size+1+1)<=t.heap.size:=by have:=cg.o.lo.1;have:=bu.o.2.2;omega
    have bx:=Aa (((c8.o.trans (au.mono (R.o _ c8.o))).setCell (p:=⟨t.heap.size,0,none⟩) cl (O m1 m2 m3)).setCell (p:=⟨t.heap.size,1,none⟩) cl (O m4 m5 m6));have HT:=Aa ((dv.keep h1 (fun k bs fr hk=>(Cn (b:=t.heap.size) (j:=0) (u:=O m1 m2 m3)).block k (Array.getElem?_eq_some_iff.1 hk).1 (fun e=>by injection e with e;subst e;exact cb bs fr hk))).keep h1 (fun k bs fr hk=>(Cn (b:=t.heap.size) (j:=1) (u:=O m4 m5 m6)).block k (Array.getElem?_eq_some_iff.1 hk).1 (fun e=>by injection e with e;subst e;exact cb.set bs fr hk)));have q0:((W5.setCell ⟨t.heap.size,0,none⟩ (O m1 m2 m3)).setCell ⟨t.heap.size,1,none⟩ (O m4 m5 m6)).cell? ⟨t.heap.size,0,none⟩=some (O m1 m2 m3):=by simp [go_sem,p0]
    have q1:((W5.setCell ⟨t.heap.size,0,none⟩ (O m1 m2 m3)).setCell ⟨t.heap.size,1,none⟩ (O m4 m5 m6)).cell? ⟨t.heap.size,1,none⟩=some (O m4 m5 m6):=by simp [go_sem,p1]
    clear d0 d1 d2 d3 d4 d5 d6 d7 d8 d9 e0 e1 e2 f0 f1 ew D a9 dv dw;obtain ⟨d0,d1,d2,d3,d4,d5,d6,d7,d8,d9⟩:=Ch ct.row;clear ct au;have C:=(Below.refl _ ((W5.setCell ⟨t.heap.size,0,none⟩ (O m1 m2 m3)).setCell ⟨t.heap.size,1,none⟩ (O m4 m5 m6))).alloc (Nat.le_refl _) (ze #[O m1 m2 m3,O m4 m5 m6] 50);have l:=cy.o.over h1 C;have hN:=Ad.new [O m1 m2 m3,O m4 m5 m6] 50 ((W5.setCell ⟨t.heap.size,0,none⟩ (O m1 m2 m3)).setCell ⟨t.heap.size,1,none⟩ (O m4 m5 m6));have bk:((W5.setCell ⟨t.heap.size,0,none⟩ (O m1 m2 m3)).setCell ⟨t.heap.size,1,none⟩ (O m4 m5 m6)).heap.size=W5.heap.size:=by simp [World.setCell]
    rw [bk] at hN;have HN:=Aa hN;clear hN bk;obtain ⟨us,z,F⟩:=l.vs;have bw:=Aa F;have ar:=Aa z;have cv:=Aa (HT.o.over h1 C);have an:=Aa l;have cz:=Aa (show (w.heap.size+1+1)<=(((W5.setCell ⟨t.heap.size,0,none⟩ (O m1 m2 m3)).setCell ⟨t.heap.size,1,none⟩ (O m4 m5 m6)).alloc (ze #[O m1 m2 m3,O m4 m5 m6] 50)).heap.size by have:=l.lo;omega);have dp:(CJ gs n (vs.take j)).length<=16:=by simp [CJ];omega
    have ah:=Aa (bx.o.trans (C.mono (R.o _ bx.o)));have dN:=l.row 8 _ rfl;have fN:=l.fz 8;clear C l F;go_wp2_with (at_builtin;refine wpList_append_own_at _ rfl _ _ 42 rfl (w.heap.size+1+1) 50 i0 (zh #[O none 0 0,O none 0 0]) 2 48 Tryz.underlying42 hi bj bi bh rfl (by decide) _ _ _ rfl ar.o ⟨W5.heap.size,0,none⟩ 1 1 [O m1 m2 m3,O m4 m5 m6] rfl rfl (fun jj u hu=>by rw [Addr.add_lit,Nat.zero_add];exact HN.o jj u hu) (by simp [Value.oneCell']) (by unfold maxLen;omega) (by omega) cz.o ?_);intro v2 w2 m s _ Q;obtain ⟨af,ad,ae,rfl⟩:=AE m;have E:=B1.addV h1 rfl an.o ar.o bw.o cv.o m s (by simpa using Q);have d2:=s.cell dN (fun hx=>an.o.ap2.1 hx.symm);have f2:w2.frozen? ⟨V.heap.size,8,none⟩=false:=(World.frozen?_of_block (a:=⟨V.heap.size,8,none⟩) (s.block V.heap.size an.o.lo.2 (fun hx=>an.o.ap2.1 hx.symm))).trans fN;have A:=Aa E;clear E m s Q z dN fN;go_wp2_with fail;refine ⟨⟨j+1,af,ad,ae,by omega,by go_num,by rw [cj.o];exact A.o.1,ah.o.trans A.o.2⟩,by simp [intOf];omega⟩
  ·have ao:vs.take j=vs:=List.take_of_length_le (by rw [<-ex.o];omega)
   rw [ao] at hL;have HL:=Aa hL;have HB:=Aa hB;obtain ⟨c0,c1,c2,c3,c4,c5,c6,c7⟩:=rc8 cp;clear ao hL hB am cp;go_wp2_with fail;go_loopw [41] (fun x wr=>∃ (q:Nat) (ka:Option Addr) (kn2 kc:Nat),q<=fn/\x=zd U q/\B1 n (w.heap.size+1+1) V.heap.size [zd U (n:Int),O ga gn gc,O sa sn sc,O ya yn yc,O oa on oc,O va vn vc,O fa fn fc,O ba bn bc] (CJ gs n vs) (List.replicate q (A7 n)) (O la ln lc) (O ka kn2 kc) wr/\Below (w.heap.size+1+1) V0 wr) (fun x _=>fn - (intOf x).toNat)
   case atStart=>exact ⟨0,none,0,0,Nat.zero_le _,rfl,HL.o,HB.o⟩
   case round=>
    clear c0 c1 c2 c3 c4 c5 c6 c7 HL HB;obtain ⟨q,ka,kn2,kc,hq,rfl,hL,hB⟩:=hrel;have HL:=Aa hL;have ag:=Aa hB;obtain ⟨d0,d1,d2,d3,d4,d5,d6,d7,d8,d9⟩:=Ch hL.row;have be:=Aa (KB.o la ln lc ka kn2 kc wr.drew);clear hL hB;by_cases hlt2:q < fn
    ·have hd:(q:Int) < (fn:Int):=by omega
     go_wp2_with fail;refine gS (fun Wz=>True) (trivial) fun d=>?_;refine kT 0 ?_;refine kT 1 ?_;refine kT 2 ?_;refine kT 4 ?_;refine rdB 3 5 rfl (fun K g=>?_) rfl fun K g=>?_
     ·go_simp
      refine xK g trivial fun d=>?_;clear g K;refine rdA 5 rfl fun K g=>?_;go_simp;refine xK g trivial fun d=>?_;clear g K;refine rdA 6 rfl fun K g=>?_;go_simp;refine (be.o).mono ?_;rintro e t ⟨vj,rfl,D,S⟩;have Z:=Dk D (DG n);obtain ⟨M,L,J,I,H,G,al⟩:∃ M L J I H G,vj=zh #[O M L J,O I H G]:=by
       obtain ⟨x,y,e,-⟩:=Aq D;subst e;obtain ⟨z1,z2,z3,z4,z5,z6,rfl,rfl⟩:=AX (Aq D);exact ⟨_,_,_,_,_,_,rfl⟩
      subst al;have N:=Ac (bD wr) S;have aa:=HL.o.over h1 N;have ac:=ag.o.trans (N.mono (R.o _ ag.o));have x9:=aa.row 9 _ rfl;have C:=bA t (ze #[O M L J,O I H G] 50);have l:=aa.over h1 C;have hN:=Ad.new [O M L J,O I H G] 50 t;obtain ⟨us,z,F⟩:=l.fs;have aq:=Z.over h1 C;have ab:=ac.trans (C.mono (R.o _ ac));have y9:=l.row 9 _ rfl;have z9:=l.fz 9;have br:(w.heap.size+1+1)<=(t.alloc (ze #[O M L J,O I H G] 50)).heap.size:=R.o _ ab;obtain ⟨v2,w2,aj,m,s,-,Q⟩:=run_append_own_at (P:=Tryz.prog) (w:=t.alloc (ze #[O M L J,O I H G] 50)) (w.heap.size+1+1) 42 42 50 i0 (zh #[O none 0 0,O none 0 0]) 2 48 Tryz.underlying42 hi bj bi bh rfl (by decide) _ _ _ z ⟨t.heap.size,0,none⟩ 1 1 [O M L J,O I H G] rfl (fun jj u hu=>by rw [Addr.add_lit,Nat.zero_add];exact hN jj u hu) (by simp [Value.oneCell']) (by unfold maxLen;simp;omega) (by simp;omega) br;obtain ⟨af,ad,ae,rfl⟩:=AE m;have E:=B1.addF h1 rfl l z F aq m s Q;have d2:=s.cell y9 (fun hx=>l.ap2.2 hx.symm);have f2:w2.frozen? ⟨V.heap.size,9,none⟩=false:=(World.frozen?_of_block (a:=⟨V.heap.size,9,none⟩) (s.block V.heap.size l.lo.2 (fun hx=>l.ap2.2 hx.symm))).trans z9;have A:=Aa E;have ah:=Aa ab;clear E m s Q z F aq hN aa ac S N D Z C l ab z9;go_simp;refine xK g trivial fun d=>?_;clear g K;refine rdA 7 rfl fun K g=>?_;go_simp;refine xK g trivial fun d=>?_;clear g K;refine rdA 8 rfl fun K g=>?_;refine EG rfl _ _ _ rfl _ _ _ _ rfl rfl aj ?_;refine xK g trivial fun d=>?_;clear g K;refine rdA 9 rfl fun K g=>?_;go_simp;refine xK g trivial fun d=>?_;clear g K;refine rdA 10 rfl fun K g=>?_;go_simp;refine xK g trivial fun d=>?_;clear g K;refine rdA 11 rfl fun K g=>?_;go_simp;refine xK g trivial fun d=>?_;clear g K;refine rdA 12 rfl fun K g=>?_;go_simp;refine xK g trivial fun d=>?_;clear g K;refine gE ?_;go_wp2_with fail;refine ⟨⟨q+1,af,ad,ae,by omega,by go_num,by rw [List.replicate_succ'];exact A.o.1,ah.o.trans A.o.2⟩,by simp [intOf];omega⟩
     ·go_simp
      refine xK g trivial fun d=>?_;clear g K;refine rdB 3 6 rfl (fun K g=>?_) rfl fun K g=>?_
      ·go_simp
       refine xK g trivial fun d=>?_;clear g K;refine rdA 6 rfl fun K g=>?_;go_simp;refine (be.o).mono ?_;rintro e t ⟨vj,rfl,D,S⟩;have Z:=Dk D (DG n);obtain ⟨M,L,J,I,H,G,al⟩:∃ M L J I H G,vj=zh #[O M L J,O I H G]:=by
        obtain ⟨x,y,e,-⟩:=Aq D;subst e;obtain ⟨z1,z2,z3,z4,z5,z6,rfl,rfl⟩:=AX (Aq D);exact ⟨_,_,_,_,_,_,rfl⟩
       subst al;have N:=Ac (bD wr) S;have aa:=HL.o.over h1 N;have ac:=ag.o.trans (N.mono (R.o _ ag.o));have x9:=aa.row 9 _ rfl;have C:=bA t (ze #[O M L J,O I H G] 50);have l:=aa.over h1 C;have hN:=Ad.new [O M L J,O I H G] 50 t;obtain ⟨us,z,F⟩:=l.fs;have aq:=Z.over h1 C;have ab:=ac.trans (C.mono (R.o _ ac));have y9:=l.row 9 _ rfl;have z9:=l.fz 9;have br:(w.heap.size+1+1)<=(t.alloc (ze #[O M L J,O I H G] 50)).heap.size:=R.o _ ab;obtain ⟨v2,w2,aj,m,s,-,Q⟩:=run_append_own_at (P:=Tryz.prog) (w:=t.alloc (ze #[O M L J,O I H G] 50)) (w.heap.size+1+1) 42 42 50 i0 (zh #[O none 0 0,O none 0 0]) 2 48 Tryz.underlying42 hi bj bi bh rfl (by decide) _ _ _ z ⟨t.heap.size,0,none⟩ 1 1 [O M L J,O I H G] rfl (fun jj u hu=>by rw [Addr.add_lit,Nat.zero_add];exact hN jj u hu) (by simp [Value.oneCell']) (by unfold maxLen;simp;omega) (by simp;omega) br;obtain ⟨af,ad,ae,rfl⟩:=AE m;have E:=B1.addF h1 rfl l z F aq m s Q;have d2:=s.cell y9 (fun hx=>l.ap2.2 hx.symm);have f2:w2.frozen? ⟨V.heap.size,9,none⟩=false:=(World.frozen?_of_block (a:=⟨V.heap.size,9,none⟩) (s.block V.heap.size l.lo.2 (fun hx=>l.ap2.2 hx.symm))).trans z9;have A:=Aa E;have ah:=Aa ab;clear E m s Q z F aq hN aa ac S N D Z C l ab z9;go_simp;refine xK g trivial fun d=>?_;clear g K;refine rdA 7 rfl fun K g=>?_;go_simp;refine xK g trivial fun d=>?_;clear g K;refine rdA 8 rfl fun K g=>?_;refine EG rfl _ _ _ rfl _ _ _ _ rfl rfl aj ?_;refine xK g trivial fun d=>?_;clear g K;refine rdA 9 rfl fun K g=>?_;go_simp;refine xK g trivial fun d=>?_;clear g K;refine rdA 10 rfl fun K g=>?_;go_simp;refine xK g trivial fun d=>?_;clear g K;refine rdA 11 rfl fun K g=>?_;go_simp;refine xK g trivial fun d=>?_;clear g K;refine rdA 12 rfl fun K g=>?_;go_simp;refine xK g trivial fun d=>?_;clear g K;refine gE ?_;go_wp2_with fail;refine ⟨⟨q+1,af,ad,ae,by omega,by go_num,by rw [List.replicate_succ'];exact A.o.1,ah.o.trans A.o.2⟩,by simp [intOf];omega⟩
      ·go_simp
       refine (be.o).mono ?_;rintro e t ⟨vj,rfl,D,S⟩;have Z:=Dk D (DG n);obtain ⟨M,L,J,I,H,G,al⟩:∃ M L J I H G,vj=zh #[O M L J,O I H G]:=by
        obtain ⟨x,y,e,-⟩:=Aq D;subst e;obtain ⟨z1,z2,z3,z4,z5,z6,rfl,rfl⟩:=AX (Aq D);exact ⟨_,_,_,_,_,_,rfl⟩
       subst al;have N:=Ac (bD wr) S;have aa:=HL.o.over h1 N;have ac:=ag.o.trans (N.mono (R.o _ ag.o));have x9:=aa.row 9 _ rfl;have C:=bA t (ze #[O M L J,O I H G] 50);have l:=aa.over h1 C;have hN:=Ad.new [O M L J,O I H G] 50 t;obtain ⟨us,z,F⟩:=l.fs;have aq:=Z.over h1 C;have ab:=ac.trans (C.mono (R.o _ ac));have y9:=l.row 9 _ rfl;have z9:=l.fz 9;have br:(w.heap.size+1+1)<=(t.alloc (ze #[O M L J,O I H G] 50)).heap.size:=R.o _ ab;obtain ⟨v2,w2,aj,m,s,-,Q⟩:=run_append_own_at (P:=Tryz.prog) (w:=t.alloc (ze #[O M L J,O I H G] 50)) (w.heap.size+1+1) 42 42 50 i0 (zh #[O none 0 0,O none 0 0]) 2 48 Tryz.underlying42 hi bj bi bh rfl (by decide) _ _ _ z ⟨t.heap.size,0,none⟩ 1 1 [O M L J,O I H G] rfl (fun jj u hu=>by rw [Addr.add_lit,Nat.zero_add];exact hN jj u hu) (by simp [Value.oneCell']) (by unfold maxLen;simp;omega) (by simp;omega) br;obtain ⟨af,ad,ae,rfl⟩:=AE m;have E:=B1.addF h1 rfl l z F aq m s Q;have d2:=s.cell y9 (fun hx=>l.ap2.2 hx.symm);have f2:w2.frozen? ⟨V.heap.size,9,none⟩=false:=(World.frozen?_of_block (a:=⟨V.heap.size,9,none⟩) (s.block V.heap.size l.lo.2 (fun hx=>l.ap2.2 hx.symm))).trans z9;have A:=Aa E;have ah:=Aa ab;clear E m s Q z F aq hN aa ac S N D Z C l ab z9;go_simp;refine xK g trivial fun d=>?_;clear g K;refine rdB 3 7 rfl (fun K g=>?_) rfl fun K g=>?_
       ·go_simp
        refine xK g trivial fun d=>?_;clear g K;refine rdA 7 rfl fun K g=>?_;go_simp;refine xK g trivial fun d=>?_;clear g K;refine rdA 8 rfl fun K g=>?_;refine EG rfl _ _ _ rfl _ _ _ _ rfl rfl aj ?_;refine xK g trivial fun d=>?_;clear g K;refine rdA 9 rfl fun K g=>?_;go_simp;refine xK g trivial fun d=>?_;clear g K;refine rdA 10 rfl fun K g=>?_;go_simp;refine xK g trivial fun d=>?_;clear g K;refine rdA 11 rfl fun K g=>?_;go_simp;refine xK g trivial fun d=>?_;clear g K;refine rdA 12 rfl fun K g=>?_;go_simp;refine xK g trivial fun d=>?_;clear g K;refine gE ?_;go_wp2_with fail;refine ⟨⟨q+1,af,ad,ae,by omega,by go_num,by rw [List.replicate_succ'];exact A.o.1,ah.o.trans A.o.2⟩,by simp [intOf];omega⟩
       ·go_simp
        refine xK g trivial fun d=>?_;clear g K;refine rdA 3 rfl fun K g=>?_;go_simp;refine xK g trivial fun d=>?_;clear g K;refine rdA 8 rfl fun K g=>?_;refine EG rfl _ _ _ rfl _ _ _ _ rfl rfl aj ?_;refine xK g trivial fun d=>?_;clear g K;refine rdA 9 rfl fun K g=>?_;go_simp;refine xK g trivial fun d=>?_;clear g K;refine rdA 10 rfl fun K g=>?_;go_simp;refine xK g trivial fun d=>?_;clear g K;refine rdA 11 rfl fun K g=>?_;go_simp;refine xK g trivial fun d=>?_;clear g K;refine rdA 12 rfl fun K g=>?_;go_simp;refine xK g trivial fun d=>?_;clear g K;refine gE ?_;go_wp2_with fail;refine ⟨⟨q+1,af,ad,ae,by omega,by go_num,by rw [List.replicate_succ'];exact A.o.1,ah.o.trans A.o.2⟩,by simp [intOf];omega⟩
    ·have fj:fn=q:=by omega
     subst fj;have dh:EX wr (w.heap.size+1):=fun bs fr he=>gb.o bs fr ((ag.o.block (w.heap.size+1) (by omega)) ▸ he);have dk:Ad [zd U 0,O none 0 0,O none 0 0,O none 0 0,O none 0 0,O none 0 0,O none 0 0,O none 0 0,O none 0 0,O none 0 0] wr (w.heap.size+1):=fun i u hu=>(ag.o.cell (p:=⟨w.heap.size+1,i,none⟩) (by simp)).trans (ZR.o i u hu);have X:∀ j,wr.frozen? ⟨w.heap.size+1,j,none⟩=false:=fun j=>(ag.o.frozen (p:=⟨w.heap.size+1,j,none⟩) (by simp)).trans (ZF.o j);obtain ⟨z0,z1,z2,z3,z4,z5,z6,z7,z8,z9⟩:=Ch dk;have f0:=X 0;have f1:=X 1;have f2:=X 2;have f3:=X 3;have f4:=X 4;have f5:=X 5;have f6:=X 6;have f7:=X 7;have f8:=X 8;have f9:=X 9;have e4:=Aa dh;clear dh dk X;go_wp2_with fail;refine bodyPost_ret (v:=zh #[zd U (n:Int),O ga gn gc,O sa sn sc,O ya yn yc,O oa on oc,O va vn vc,O fa fn fc,O ba bn bc,O la ln lc,O ka kn2 kc]) (by simp [results,Tryz.results54,go_sem,z0,z1,z2,z3,z4,z5,z6,z7,z8,z9]) rfl ⟨la,ln,lc,ka,kn2,kc,rfl,?_,?_,HL.o.ap,?_⟩
     ·refine AO.low (B:=w.heap.size+1+1) ?_ (by omega)
      exact AO.setN h1 (by omega) [zd U (n:Int),O ga gn gc,O sa sn sc,O ya yn yc,O oa on oc,O va vn vc,O fa fn fc,O ba bn bc,O la ln lc,O ka kn2 kc] 0 wr HL.o.vs e4.o
     ·refine AO.low (B:=w.heap.size+1+1) ?_ (by omega)
      exact AO.setN h1 (by omega) [zd U (n:Int),O ga gn gc,O sa sn sc,O ya yn yc,O oa on oc,O va vn vc,O fa fn fc,O ba bn bc,O la ln lc,O ka kn2 kc] 0 wr HL.o.fs e4.o
     ·exact H8 (by omega) [zd U (n:Int),O ga gn gc,O sa sn sc,O ya yn yc,O oa on oc,O va vn vc,O fa fn fc,O ba bn bc,O la ln lc,O ka kn2 kc] 0 wr (da.o.trans (ag.o.mono (by omega)))
def XI (c:WC) (bm:Nat):World->Nat->Prop:=fun _ k=>(∃ a,c.la=some a/\k=a.block)\/(∃ a,c.ka=some a/\k=a.block)\/k=bm
theorem FQ (c) (bm:Nat):XOk (XI c bm):=⟨fun _ _ _ _ h=>h⟩
structure FO (c:WC) (w0:World) (bw bm:Nat):Prop where
 la:∀ a,c.la=some a->a.off=0/\a.spot=none/\w0.heap.size<=a.block/\a.block≠bw/\a.block≠bm
 ka:∀ a,c.ka=some a->a.off=0/\a.spot=none/\w0.heap.size<=a.block/\a.block≠bw/\a.block≠bm
 lk:∀ a b,c.la=some a->c.ka=some b->a.block≠b.block
 m:w0.heap.size<=bm/\bw≠bm
structure Da (c:WC) (w0:World) (nv nf bw bm:Nat) (st:ISt) (W:World):Prop where
 below:Ov w0 W
 vs:A9 c.n (XI c bm) W (O c.la c.ln c.lc) st.vs
 fs:A9 c.n (XI c bm) W (O c.ka c.kn c.kc) st.fs
 lv:st.vs.length=nv
 lf:st.fs.length=nf
 more:W.cell? ⟨bm,0,none⟩=some (zg st.more)
 mz:W.frozen? ⟨bm,0,none⟩=false
 row:Ad c.cs W bw
 hl:∀ a,c.la=some a->a.block < W.heap.size/\∀ j,W.frozen? ⟨a.block,j,none⟩=false
 hk:∀ a,c.ka=some a->a.block < W.heap.size/\∀ j,W.frozen? ⟨a.block,j,none⟩=false
theorem Rp {c:WC} {w0:World} {nv nf bw bm:Nat} {st:ISt} {W:World} (hC:FO c w0 bw bm) (h:Da c w0 nv nf bw bm st W) {W':World} (k:Nat) (hx:XI c bm W' k):k < W.heap.size:=by
 rcases hx with ⟨a,e,rfl⟩ | ⟨a,e,rfl⟩ | rfl
 ·exact (h.hl a e).1
 ·exact (h.hk a e).1
 ·exact bL h.more
theorem Da.over {c:WC} {w0:World} {nv nf bw bm:Nat} {st:ISt} {W W':World} (h:Da c w0 nv nf bw bm st W) (hb:Ov W W'):Da c w0 nv nf bw bm st W':=
 ⟨h.below.trans (hb.mono h.below.size),h.vs.over (FQ c bm) hb,h.fs.over (FQ c bm) hb,h.lv,h.lf,Ab hb _ _ h.more,((An hb).2 _ _ (bL h.more)).trans h.mz,h.row.over hb,
  fun a e=>⟨Nat.lt_of_lt_of_le (h.hl a e).1 hb.size,fun j=>((An hb).2 _ _ (h.hl a e).1).trans ((h.hl a e).2 j)⟩,fun a e=>⟨Nat.lt_of_lt_of_le (h.hk a e).1 hb.size,fun j=>((An hb).2 _ _ (h.hk a e).1).trans ((h.hk a e).2 j)⟩⟩
theorem S2 {c:WC} {w0:World} {nv bw bm:Nat} {fs:List FnD} {gs:List (Int × Int)} (n1:1<=c.n) (n6:c.n<=6) (gr:AA w0 (O c.ga c.gn c.gc) gs) (chk:AR c.n gs=0) (nv16:nv<=16) (hC:FO c w0 bw bm):Fm c w0 nv fs gs ISt.vs ISt.fs (Da c w0 nv fs.length bw bm) (XI c bm):=
 ⟨n1,n6,gr,chk,nv16,fun st W h=>h.below,fun st W h=>⟨h.vs,h.lv⟩,fun st W h=>⟨h.fs,h.lf⟩,fun st W W' h hb=>h.over hb,FQ c bm,fun st W h k hx=>Rp hC h k hx⟩
theorem CM {W:World} {b o b' o':Nat} {u:Value} (h:b≠b'\/o≠o'):(W.setCell ⟨b,o,none⟩ u).cell? ⟨b',o',none⟩=W.cell? ⟨b',o',none⟩:=
 World.cell?_setCell_other _ _ _ _ (by intro e;injection e with e1 e2;rcases h with h | h;exact h e1;exact h e2)
theorem A9.set {n:Nat} {X:World->Nat->Prop} {W W3:World} {b i cap:Nat} {Ls:List Lev} {x y:Value} {l:Lev} (n1:1<=n) (h:A9 n X W (O (some ⟨b,0,none⟩) Ls.length cap) Ls) (hi:i < Ls.length) (hl:Aw n X W3 (zh #[x,y]) l)
  (hF:FrW X W W3) (e0:W3.cell? ⟨b,i*2,none⟩=some x) (e1:W3.cell? ⟨b,i*2+1,none⟩=some y) (hc:∀ j u,j≠i*2->j≠i*2+1->W.cell? ⟨b,j,none⟩=some u->W3.cell? ⟨b,j,none⟩=some u):A9 n X W3 (O (some ⟨b,0,none⟩) Ls.length cap) (Ls.set i l):=by
 obtain ⟨A,f,o,a⟩:=h;injection o with k v t;subst k;refine ⟨some ⟨b,0,none⟩,cap,by simp,fun _=>⟨b,0,rfl,fun j q=>?_⟩⟩;obtain ⟨z,w,c,a⟩:=a (by intro h;rw [h] at hi;simp at hi);injection c with c;injection c with e d;subst e d;simp only [Nat.zero_add] at a ⊢;by_cases hij:i=j
 ·subst hij
  refine ⟨x,y,e0,e1,?_⟩;rw [List.getElem_set_self];exact hl
 ·obtain ⟨m,g,s,r,p⟩:=a j (by simpa using q)
  refine ⟨m,g,hc _ _ (by omega) (by omega) s,hc _ _ (by omega) (by omega) r,?_⟩;rw [List.getElem_set_ne hij];exact p.keep n1 hF
theorem A9.keep {n:Nat} {X:World->Nat->Prop} {W W3:World} {v:Value} {Ls:List Lev} (n1:1<=n) (h:A9 n X W v Ls) (hF:FrW X W W3) (hc:∀ b o ln cp,v=O (some ⟨b,o,none⟩) ln cp->∀ j u,W.cell? ⟨b,j,none⟩=some u->W3.cell? ⟨b,j,none⟩=some u):A9 n X W3 v Ls:=by
 obtain ⟨t,f,g,a⟩:=h;refine ⟨t,f,g,fun e=>?_⟩;obtain ⟨b,c,d,a⟩:=a e;refine ⟨b,c,d,fun i p=>?_⟩;obtain ⟨m,l,s,r,q⟩:=a i p;have k:=hc b c _ _ (by rw [g,d]);exact ⟨m,l,k _ _ s,k _ _ r,q.keep n1 hF⟩
theorem FO.upd {c:WC} {w0:World} {nv nf bw bm b:Nat} {st:ISt} {W W3:World} {i:Bool × Nat} {l:Lev} {x y:Value} (hC:FO c w0 bw bm) (h:Da c w0 nv nf bw bm st W) (hn:1<=c.n/\(if i.1=true then c.la else c.ka)=some ⟨b,0,none⟩) (hb3:Ov W W3) (hl:Aw c.n (XI c bm) W3 (zh #[x,y]) l)
  (h1:i.1=true->i.2 < nv) (h2:i.1=false->i.2 < nf) :
  Da c w0 nv nf bw bm (st.up i l) (((W3.setCell ⟨b,i.2*2,none⟩ x).setCell ⟨b,i.2*2+1,none⟩ y).setCell ⟨bm,0,none⟩ (zg true))/\FrW (XI c bm) W (((W3.setCell ⟨b,i.2*2,none⟩ x).setCell ⟨b,i.2*2+1,none⟩ y).setCell ⟨bm,0,none⟩ (zg true)):=by
 obtain ⟨M,d⟩:=hn;have f:=h.over hb3;obtain ⟨v,g⟩:∃ v,v=(((W3.setCell ⟨b,i.2*2,none⟩ x).setCell ⟨b,i.2*2+1,none⟩ y).setCell ⟨bm,0,none⟩ (zg true)):=⟨_,rfl⟩;rw [<-g];have X:XI c bm W3 b:=by
  by_cases hi:i.1=true
  ·rw [if_pos hi] at d;exact Or.inl ⟨_,d,rfl⟩
  ·rw [if_neg hi] at d;exact Or.inr (Or.inl ⟨_,d,rfl⟩)
 have q:b≠bm/\b≠bw/\w0.heap.size<=b:=by
  by_cases hi:i.1=true
  ·rw [if_pos hi] at d;have:=hC.la _ d;exact ⟨this.2.2.2.2,this.2.2.2.1,this.2.2.1⟩
  ·rw [if_neg hi] at d;have:=hC.ka _ d;exact ⟨this.2.2.2.2,this.2.2.2.1,this.2.2.1⟩
 have A:v.heap.size=W3.heap.size:=by rw [g];simp [World.setCell]
 have B:∀ k,k≠b->k≠bm->v.heap[k]? = W3.heap[k]?:=fun k hk J=>by
  rw [g,Bn (Ne.symm J),Bn (Ne.symm hk),Bn (Ne.symm hk)]
 have s:FrW (XI c bm) W3 v:=by
  refine ⟨by rw [g];rfl,by rw [g];rfl,by rw [g];rfl,by omega,fun k _ S=>B k (fun e=>S (e ▸ X)) (fun e=>S (Or.inr (Or.inr e))),fun k _ S=>S⟩
 have hF:=(FrW.of_below (FQ c bm) hb3).trans s;have H:∀ b' o' u,b'≠b->b'≠bm->W3.cell? ⟨b',o',none⟩=some u->v.cell? ⟨b',o',none⟩=some u:=fun b' o' u hb J E=>(World.cell?_of_block (a:=⟨b',o',none⟩) (B b' hb J)).trans E;have P:∀ j u,j≠i.2*2->j≠i.2*2+1->W3.cell? ⟨b,j,none⟩=some u->v.cell? ⟨b,j,none⟩=some u:=fun j u hj ab E=>by
  rw [g,CM (Or.inl q.1.symm),CM (Or.inr (Ne.symm ab)),CM (Or.inr (Ne.symm hj))];exact E
 have t:∀ b' j,v.frozen? ⟨b',j,none⟩=W3.frozen? ⟨b',j,none⟩:=fun b' j=>by rw [g];simp [go_sem]
 have O:=hl.keep M s;have ac:(∃ u,W3.cell? ⟨b,i.2*2,none⟩=some u)/\∃ u,W3.cell? ⟨b,i.2*2+1,none⟩=some u:=by
  by_cases hi:i.1=true
  ·rw [if_pos hi] at d
   have aa:=h1 hi;obtain ⟨ao,I,z,r⟩:=f.vs;injection z with L K U;obtain ⟨b',o',o,r⟩:=r (by intro e;have:=f.lv;rw [e] at this;simp at this;omega);rw [<-L,d] at o;injection o with o;injection o with G F;subst G F;obtain ⟨rv,wv,R,Q,-⟩:=r i.2 (by have:=f.lv;omega);simp only [Nat.zero_add] at R Q;exact ⟨⟨_,R⟩,_,Q⟩
  ·rw [if_neg hi] at d
   have aa:=h2 (by simpa using hi);obtain ⟨ao,I,z,r⟩:=f.fs;injection z with L K U;obtain ⟨b',o',o,r⟩:=r (by intro e;have:=f.lf;rw [e] at this;simp at this;omega);rw [<-L,d] at o;injection o with o;injection o with G F;subst G F;obtain ⟨rv,wv,R,Q,-⟩:=r i.2 (by have:=f.lf;omega);simp only [Nat.zero_add] at R Q;exact ⟨⟨_,R⟩,_,Q⟩
 obtain ⟨⟨u0,Z⟩,u1,Y⟩:=ac;have e0:v.cell? ⟨b,i.2*2,none⟩=some x:=by
  rw [g,CM (Or.inl q.1.symm),CM (Or.inr (by omega))];exact World.cell?_setCell_same _ _ _ Z
 have e1:v.cell? ⟨b,i.2*2+1,none⟩=some y:=by
  rw [g,CM (Or.inl q.1.symm)];exact World.cell?_setCell_same _ _ _ (u:=u1) (by rw [CM (Or.inr (by omega))];exact Y)
 have C:Ov w0 v:=by
  rw [g];exact ((f.below.setCell (p:=⟨b,i.2*2,none⟩) q.2.2 _).setCell (p:=⟨b,i.2*2+1,none⟩) q.2.2 _).setCell (p:=⟨bm,0,none⟩) hC.m.1 _
 have J:v.cell? ⟨bm,0,none⟩=some (zg true):=by
  rw [g];exact World.cell?_setCell_same _ _ _ (u:=zg st.more) (by rw [CM (Or.inl q.1),CM (Or.inl q.1)];exact f.more)
 have N:Ad c.cs v bw:=fun j u hu=>H _ _ _ (Ne.symm q.2.1) hC.m.2 (f.row j u hu);refine ⟨?_,hF⟩;by_cases hi:i.1=true
 ·rw [if_pos hi] at d
  have D:st.up i l=⟨st.vs.set i.2 l,st.fs,true⟩:=by unfold ISt.up;rw [if_pos hi]
  rw [D];obtain ⟨ao,I,z,-⟩:=f.vs;injection z with L K U;refine ⟨C,?_,f.fs.keep M s (fun b' o' ln cp z j u E=>?_),by simpa using f.lv,f.lf,J,(t _ _).trans f.mz,N,fun a e=>⟨by rw [A];exact (f.hl a e).1,fun j=>(t _ _).trans ((f.hl a e).2 j)⟩,fun a e=>⟨by rw [A];exact (f.hk a e).1,fun j=>(t _ _).trans ((f.hk a e).2 j)⟩⟩
  ·have:=f.vs
   rw [d,K] at this ⊢;exact A9.set M this (by have:=h1 hi;have:=f.lv;omega) O s e0 e1 P
  ·injection z with w V T
   exact H _ _ _ (fun e=>hC.lk _ _ d w e.symm) (hC.ka _ w).2.2.2.2 E
 ·rw [if_neg hi] at d
  have D:st.up i l=⟨st.vs,st.fs.set i.2 l,true⟩:=by unfold ISt.up;rw [if_neg hi]
  rw [D];obtain ⟨ao,I,z,-⟩:=f.fs;injection z with L K U;refine ⟨C,f.vs.keep M s (fun b' o' ln cp z j u E=>?_),?_,f.lv,by simpa using f.lf,J,(t _ _).trans f.mz,N,fun a e=>⟨by rw [A];exact (f.hl a e).1,fun j=>(t _ _).trans ((f.hl a e).2 j)⟩,fun a e=>⟨by rw [A];exact (f.hk a e).1,fun j=>(t _ _).trans ((f.hk a e).2 j)⟩⟩
  ·injection z with w V T
   exact H _ _ _ (fun e=>hC.lk _ _ w d e) (hC.la _ w).2.2.2.2 E
  ·have:=f.fs
   rw [d,K] at this ⊢;exact A9.set M this (by have:=h2 (by simpa using hi);have:=f.lf;omega) O s e0 e1 P
theorem QL (args:Array Value) (w:World):(callFunc 56 args).run Tryz.prog w=.ok (.enter 56 args) w:=by simp [go_sem]
theorem Da.lev {c:WC} {w0:World} {nv nf bw bm b off:Nat} {st:ISt} {W:World} {i:Bool × Nat} (hC:FO c w0 bw bm) (h:Da c w0 nv nf bw bm st W) (hib:(if i.1=true then c.la else c.ka)=some ⟨b,off,none⟩) (h1:i.1=true->i.2 < nv) (h2:i.1=false->i.2 < nf) :
  off=0/\(b < W.heap.size/\∀ j,W.frozen? ⟨b,j,none⟩=false)/\b≠bw/\b≠bm/\∃ rv wv,W.cell? ⟨b,i.2*2,none⟩=some rv/\W.cell? ⟨b,i.2*2+1,none⟩=some wv/\Aw c.n (XI c bm) W (zh #[rv,wv]) (st.at i):=by
 unfold ISt.at
 by_cases hi:i.1=true
 ·rw [if_pos hi] at hib ⊢
  have s:=h1 hi;have g:=hC.la _ hib;have r:off=0:=g.1;subst r;obtain ⟨y,t,q,f⟩:=h.vs;injection q with p v u;obtain ⟨x,w,a,f⟩:=f (by intro e;have:=h.lv;rw [e] at this;simp at this;omega);rw [<-p,hib] at a;injection a with a;injection a with l k;subst l k;have d:i.2 < st.vs.length:=by have:=h.lv;omega
  obtain ⟨rv,wv,o,m,hl⟩:=f i.2 d;simp only [Nat.zero_add] at o m;refine ⟨rfl,h.hl _ hib,g.2.2.2.1,g.2.2.2.2,rv,wv,o,m,?_⟩;have e:st.vs.getD i.2 Ah=st.vs[i.2]:=by simp [List.getD_eq_getElem?_getD,d]
  rw [e];exact hl
 ·rw [if_neg hi] at hib ⊢
  have s:=h2 (by simpa using hi);have g:=hC.ka _ hib;have r:off=0:=g.1;subst r;obtain ⟨y,t,q,f⟩:=h.fs;injection q with p v u;obtain ⟨x,w,a,f⟩:=f (by intro e;have:=h.lf;rw [e] at this;simp at this;omega);rw [<-p,hib] at a;injection a with a;injection a with l k;subst l k;have d:i.2 < st.fs.length:=by have:=h.lf;omega
  obtain ⟨rv,wv,o,m,hl⟩:=f i.2 d;simp only [Nat.zero_add] at o m;refine ⟨rfl,h.hk _ hib,g.2.2.2.1,g.2.2.2.2,rv,wv,o,m,?_⟩;have e:st.fs.getD i.2 Ah=st.fs[i.2]:=by simp [List.getD_eq_getElem?_getD,d]
  rw [e];exact hl
abbrev JR (bw:Nat) (c:WC) (W:World) (p1:Option Addr) (q1 r1:Nat) (p2:Option Addr) (q2 r2 b:Nat) (i:Bool × Nat) (m1:Option Addr) (m2 m3:Nat) (m4:Option Addr) (m5 m6:Nat) (Wz:World):Prop:=Wz.cell? ⟨bw,0,none⟩=some (zd U (c.n:Int))/\Wz.cell? ⟨bw,1,none⟩=some (O c.ga c.gn c.gc)/\Wz.cell? ⟨bw,2,none⟩=some (O c.sa c.sn c.sc)/\Wz.cell? ⟨bw,3,none⟩=some (O c.ya c.yn c.yc)/\Wz.cell? ⟨bw,4,none⟩=some (O c.oa c.on c.oc)/\Wz.cell? ⟨bw,5,none⟩=some (O c.va c.vn c.vc)/\Wz.cell? ⟨bw,6,none⟩=some (O c.fa c.fn c.fc)/\Wz.cell? ⟨bw,7,none⟩=some (O c.ba c.bn c.bc)/\Wz.cell? ⟨bw,8,none⟩=some (O c.la c.ln c.lc)/\Wz.cell? ⟨bw,9,none⟩=some (O c.ka c.kn c.kc)/\Wz.cell? ⟨W.heap.size,0,none⟩=some (O p1 q1 r1)/\Wz.cell? ⟨W.heap.size,1,none⟩=some (O p2 q2 r2)/\Wz.cell? ⟨b,i.2*2,none⟩=some (O m1 m2 m3)/\Wz.cell? ⟨b,i.2*2+1,none⟩=some (O m4 m5 m6)
abbrev Od (bw:Nat) (c:WC) (W:World) (p1:Option Addr) (q1 r1:Nat) (p2:Option Addr) (q2 r2:Nat) (Wz:World):Prop:=Wz.cell? ⟨bw,0,none⟩=some (zd U (c.n:Int))/\Wz.cell? ⟨bw,1,none⟩=some (O c.ga c.gn c.gc)/\Wz.cell? ⟨bw,2,none⟩=some (O c.sa c.sn c.sc)/\Wz.cell? ⟨bw,3,none⟩=some (O c.ya c.yn c.yc)/\Wz.cell? ⟨bw,4,none⟩=some (O c.oa c.on c.oc)/\Wz.cell? ⟨bw,5,none⟩=some (O c.va c.vn c.vc)/\Wz.cell? ⟨bw,6,none⟩=some (O c.fa c.fn c.fc)/\Wz.cell? ⟨bw,7,none⟩=some (O c.ba c.bn c.bc)/\Wz.cell? ⟨bw,8,none⟩=some (O c.la c.ln c.lc)/\Wz.cell? ⟨bw,9,none⟩=some (O c.ka c.kn c.kc)/\Wz.cell? ⟨W.heap.size,0,none⟩=some (O p1 q1 r1)/\Wz.cell? ⟨W.heap.size,1,none⟩=some (O p2 q2 r2)
theorem QG (c:WC) (w0:World) (nv bw bm:Nat) (fs gs) (n1:1<=c.n) (gr:AA w0 (O c.ga c.gn c.gc) gs) (chk:AR c.n gs=0) (hC:FO c w0 bw bm) :
  Dz c nv fs (Da c w0 nv fs.length bw bm) (XI c bm) (C4 c.n) 56 (zi (some ⟨bw,0,none⟩)) (zi (some ⟨bm,0,none⟩)):=by
 intro st W v l i b cj hI hl ac ab aa;obtain ⟨rfl,⟨az,av⟩,ax,ay,rv,wv,c0,c1,Z⟩:=Da.lev hC hI aa ac ab;obtain ⟨w,t,r,u,s,q,rfl⟩:=hl.form;obtain ⟨Y,X,V,U,T,S,I⟩:=Z.form;simp at I;obtain ⟨rfl,rfl⟩:=I;have C:Ov W (W.alloc (ze #[O w t r,O u s q] 50)):=bA W _;have B:=hI.over C;have H:=hl.over (FQ c bm) C;have z:=Z.over (FQ c bm) C;obtain ⟨l0,l1⟩:=co2 C c0 c1;have L0:=Aa l0;have L1:=Aa l1;have G:=Ad.new [O w t r,O u s q] 50 W;have ad:=Af gr B.below;have KF:=Aa fun (E:World) (h:Ov (W.alloc (ze #[O w t r,O u s q] 50)) E)=>PC (c.n:Int) c.ga c.gn c.gc c.sa c.sn c.sc c.ya c.yn c.yc c.oa c.on c.oc c.va c.vn c.vc c.fa c.fn c.fc c.ba c.bn c.bc c.la c.ln c.lc c.ka c.kn c.kc gs (O w t r) (O u s q) (O Y X V) (O U T S) l (st.at i) E (Af ad h) (AK H.at_ h) (AK z.at_ h) (EP chk H.len z.len);have KJ:=Aa fun (E:World) (h:Ov (W.alloc (ze #[O w t r,O u s q] 50)) E)=>MY (c.n:Int) c.ga c.gn c.gc c.sa c.sn c.sc c.ya c.yn c.yc c.oa c.on c.oc c.va c.vn c.vc c.fa c.fn c.fc c.ba c.bn c.bc c.la c.ln c.lc c.ka c.kn c.kc gs (O Y X V) (O U T S) (O w t r) (O u s q) (st.at i) l E (Af ad h) (AK z.at_ h) (AK H.at_ h) (EP chk z.len H.len);simp only [Int.toNat_natCast] at KF;obtain ⟨fb,ae⟩:=nm (Av l (st.at i) c.n);rw [<-ae] at KF;have a8:=Aa ae.symm;have HC:=Aa hC;have HI:=Aa B;have F:=Aa B.row;have L:=Aa G;have b8:=Aa (And.intro n1 aa);have a9:=Aa (FrW.of_below (FQ c bm) C);have be:=Aa (show b < (W.alloc (ze #[O w t r,O u s q] 50)).heap.size by simp;omega);have a0:=Aa (show ∀ j,(W.alloc (ze #[O w t r,O u s q] 50)).frozen? ⟨b,j,none⟩=false from fun j=>((An C).2 _ _ az).trans (av j));have b6:=Aa (bL B.more);have b5:=Aa B.mz;have b7:=Aa B.more;have b4:=Aa (Ne.symm ay);have ca:=Aa ax;have bd:=Aa (show b≠W.heap.size by omega);have b3:=Aa ac;have b2:=Aa ab;obtain ⟨t0,t1,t2,t3,t4,t5,t6,t7,t8,t9⟩:=Ch B.row;obtain ⟨b0,b1⟩:=rc2 G;have J:JR bw c W w t r u s q b i Y X V U T S (W.alloc (ze #[O w t r,O u s q] 50)):=⟨t0,t1,t2,t3,t4,t5,t6,t7,t8,t9,b0,b1,l0,l1⟩;clear hI hl Z B H z G ad ae C c0 c1 av ac ab hC gr chk ax ay az aa n1;go_enter Tryz.func56,Tryz.ntmps56;rw [Nat.zero_add];cases fb with
 | true=>
  go_wp2_with fail;refine gS (JR bw c W w t r u s q b i Y X V U T S) (J) fun f=>?_;refine kT 0 ?_;refine kT 1 ?_;refine kT 2 ?_;refine kT 3 ?_;refine kT 4 ?_;refine kT 5 ?_;refine rdA 6 rfl fun K p=>?_;go_simp;refine (KF.o _ (bD _)).mono ?_;rintro e E ⟨rfl,h⟩;have d:=Ac ((Below.refl _ (W.alloc (ze #[O w t r,O u s q] 50))).drew) h;have a:=F.o.over d;have m:=L.o.over d;have D:JR bw c W w t r u s q b i Y X V U T S E:=⟨a 0 _ rfl,a 1 _ rfl,a 2 _ rfl,a 3 _ rfl,a 4 _ rfl,a 5 _ rfl,a 6 _ rfl,a 7 _ rfl,a 8 _ rfl,a 9 _ rfl,m 0 _ rfl,m 1 _ rfl,Ab d _ _ l0,Ab d _ _ l1⟩;have g:=Aa d;clear a m h d;go_simp;refine xK p (D) fun f=>?_;clear p K;refine rdA 7 rfl fun K p=>?_;go_simp;refine xK p (D) fun f=>?_;clear p K;refine gE ?_;go_wp2_with fail;go_end0;refine ⟨rfl,?_,a9.o.trans (FrW.of_below (FQ c bm) g.o)⟩;unfold C4;rw [if_pos a8.o];exact HI.o.over g.o
 | false=>
  go_wp2_with fail;refine gS (JR bw c W w t r u s q b i Y X V U T S) (J) fun f=>?_;refine kT 0 ?_;refine kT 1 ?_;refine kT 2 ?_;refine kT 3 ?_;refine kT 4 ?_;refine kT 5 ?_;refine rdA 6 rfl fun K p=>?_;go_simp;refine (KF.o _ (bD _)).mono ?_;rintro e E ⟨rfl,h⟩;have d:=Ac ((Below.refl _ (W.alloc (ze #[O w t r,O u s q] 50))).drew) h;have a:=F.o.over d;have m:=L.o.over d;have D:JR bw c W w t r u s q b i Y X V U T S E:=⟨a 0 _ rfl,a 1 _ rfl,a 2 _ rfl,a 3 _ rfl,a 4 _ rfl,a 5 _ rfl,a 6 _ rfl,a 7 _ rfl,a 8 _ rfl,a 9 _ rfl,m 0 _ rfl,m 1 _ rfl,Ab d _ _ l0,Ab d _ _ l1⟩;have g:=Aa d;clear a m h d;go_simp;refine xK p (D) fun f=>?_;clear p K;refine rdA 7 rfl fun K p=>?_;go_simp;refine xK p (D) fun f=>?_;clear p K;refine gE ?_;clear J t0 t1 t2 t3 t4 t5 t6 t7 t8 t9 b0 b1;obtain ⟨l0,l1⟩:=co2 g.o l0 l1;have t0:=F.o.over g.o 0 _ rfl;have t1:=F.o.over g.o 1 _ rfl;have t2:=F.o.over g.o 2 _ rfl;have t3:=F.o.over g.o 3 _ rfl;have t4:=F.o.over g.o 4 _ rfl;have t5:=F.o.over g.o 5 _ rfl;have t6:=F.o.over g.o 6 _ rfl;have t7:=F.o.over g.o 7 _ rfl;have t8:=F.o.over g.o 8 _ rfl;have t9:=F.o.over g.o 9 _ rfl;have b0:=L.o.over g.o 0 _ rfl;have b1:=L.o.over g.o 1 _ rfl;have J:Od bw c W w t r u s q E:=⟨t0,t1,t2,t3,t4,t5,t6,t7,t8,t9,b0,b1⟩;clear D;go_wp2_with fail;refine gS (Od bw c W w t r u s q) (J) fun f=>?_;refine kT 0 ?_;refine kT 1 ?_;refine kT 2 ?_;refine kT 3 ?_;refine kT 4 ?_;refine kT 6 ?_;refine rdA 5 rfl fun K p=>?_;go_simp;refine xK p (f) fun f=>?_;clear p K;refine rdA 7 rfl fun K p=>?_;go_simp;refine (KJ.o E.drew (Ac g.o (bD _))).mono ?_;rintro e Q ⟨vj,rfl,aw,M⟩;have A:A1 E.drew Q vj (BA (st.at i) l c.n):=by simpa using aw
  obtain ⟨k1,k2,k3,k4,k5,k6,bu⟩:∃ a1 a2 a3 a4 a5 a6,vj=zh #[O a1 a2 a3,O a4 a5 a6]:=by
   obtain ⟨x,y,e,-⟩:=Aq A;subst e;obtain ⟨z1,z2,z3,z4,z5,z6,rfl,rfl⟩:=AX (Aq A);exact ⟨_,_,_,_,_,_,rfl⟩
  subst bu;have d:=Ac (Ac g.o (bD E)) M;have a:=F.o.over d;have m:=L.o.over d;have N:Od bw c W w t r u s q Q:=⟨a 0 _ rfl,a 1 _ rfl,a 2 _ rfl,a 3 _ rfl,a 4 _ rfl,a 5 _ rfl,a 6 _ rfl,a 7 _ rfl,a 8 _ rfl,a 9 _ rfl,m 0 _ rfl,m 1 _ rfl⟩;have bb:=Aa d;have a7:=Aa (show Aw c.n (XI c bm) Q (zh #[O k1 k2 k3,O k4 k5 k6]) (BA (st.at i) l c.n) from ⟨Aq A,DU _ _ _,B8 (FQ c bm) M (fun k hk=>by have:=(Rp HC.o HI.o k hk);have:=M.size;have:=g.o.size;simp at *;omega) (Bm A)⟩);have x0:=Ab d _ _ L0.o;have x1:=Ab d _ _ L1.o;have bj:Q.frozen? ⟨b,i.2*2,none⟩=false:=((An d).2 _ _ be.o).trans (a0.o _);have bi:Q.frozen? ⟨b,i.2*2+1,none⟩=false:=((An d).2 _ _ be.o).trans (a0.o _);have as:Q.frozen? ⟨bm,0,none⟩=false:=((An d).2 _ _ b6.o).trans b5.o;have au:=Ab d _ _ b7.o;clear a m M d aw A;go_simp;refine xK p (N) fun f=>?_;clear p K;refine rdA 8 rfl fun K p=>?_;go_simp;refine xK p (N) fun f=>?_;clear p K;refine rdA 9 rfl fun K p=>?_;go_simp;refine xK p (by have bv:=ca.o;have cc:=bd.o;obtain ⟨t0,t1,t2,t3,t4,t5,t6,t7,t8,t9,bl,bk⟩:=N;exact ⟨by simp [go_sem,t0],by simp [go_sem,t1],by simp [go_sem,t2],by simp [go_sem,t3],by simp [go_sem,t4],by simp [go_sem,t5],by simp [go_sem,t6],by simp [go_sem,t7],by simp [go_sem,t8],by simp [go_sem,t9],by simp [go_sem,bl],by simp [go_sem,bk]⟩) fun f=>?_;clear p K;refine gE ?_;have P:=HC.o.upd HI.o b8.o bb.o a7.o b3.o b2.o;have cl:((Q.setCell ⟨b,i.2*2,none⟩ (O k1 k2 k3)).setCell ⟨b,i.2*2+1,none⟩ (O k4 k5 k6)).cell? ⟨bm,0,none⟩=some (zg st.more):=by
   have bv:=b4.o;simp [go_sem,au]
  have ck:((Q.setCell ⟨b,i.2*2,none⟩ (O k1 k2 k3)).setCell ⟨b,i.2*2+1,none⟩ (O k4 k5 k6)).frozen? ⟨bm,0,none⟩=false:=by simp [go_sem,as]
  have R:=Aa P;clear P N x0 x1 bj bi au as;go_wp2_with fail;go_end0;refine ⟨rfl,?_,a9.o.trans R.o.2⟩;unfold C4;rw [if_neg (by rw [a8.o];simp)];exact R.o.1
theorem Pl {P:Nat->Prop}:∀ n,P n->∃ m,P m/\∀ k,P k->m<=k:=by
 intro n
 induction n using Nat.strongRecOn with
 | ind n ih=>
  intro h;by_cases hx:∃ k,k < n/\P k
  ·obtain ⟨k,b,c⟩:=hx
   exact ih k b c
  ·exact ⟨n,h,fun k b=>Nat.le_of_not_lt fun a=>hx ⟨k,a,b⟩⟩
theorem NC {α:Type} (P:α->Nat->Prop):∃ μ:α->Nat,∀ a n,P a n->P a (μ a)/\∀ k,P a k->μ a<=k:=by
 have h:∀ a,∃ m,∀ n,P a n->P a m/\∀ k,P a k->m<=k:=fun a=>by
  by_cases hx:∃ n,P a n
  ·obtain ⟨n,b⟩:=hx
   obtain ⟨m,d,c⟩:=Pl n b;exact ⟨m,fun _ _=>⟨d,c⟩⟩
  ·exact ⟨0,fun n b=>absurd ⟨n,b⟩ hx⟩
 exact ⟨fun a=>Classical.choose (h a),fun a=>Classical.choose_spec (h a)⟩
def Cs (n K kf:Nat) (known:List Bool) (ins:List Lev) (fs:List FnD) (main:List D) (st0:ISt):Nat->ISt
 | 0=>st0
 | k+1=>Hc n K kf known ins fs main ⟨(Cs n K kf known ins fs main st0 k).vs,(Cs n K kf known ins fs main st0 k).fs,false⟩
def CO (gs:List (Int × Int)) (n:Nat) (vs:List (Bool × Lab)) (nf:Nat):ISt:=⟨CJ gs n vs,List.replicate nf (A7 n),true⟩
def B2 (n K kf:Nat) (gs:List (Int × Int)) (vs:List (Bool × Lab)) (ls:List Lab) (fs:List FnD) (main:List D) (st:ISt):Prop:=
 ∃ k,st=Cs n K kf (vs.map Prod.fst) (ls.map (Ar (Ax gs) n)) fs main (CO gs n vs fs.length) (k+1)/\st.more=false/\∀ j,j < k->(Cs n K kf (vs.map Prod.fst) (ls.map (Ar (Ax gs) n)) fs main (CO gs n vs fs.length) (j+1)).more=true
theorem Sn {W:World} {B e s n:Nat} {a:Addr} {ln lc:Nat} {us:List Value} (h:W.ownsRow B e s (O (some a) ln lc) n us):a.off=0/\a.spot=none/\B<=a.block/\a.block < W.heap.size/\∀ j,W.frozen? ⟨a.block,j,none⟩=false:=by
 rcases h.2 with ⟨h,-⟩ | ⟨g,i,f,h,d,c,-⟩
 ·cases h
 ·injection h with b l k
  injection b with b;subst b;exact ⟨rfl,rfl,d,(Array.getElem?_eq_some_iff.1 c).1,fun j=>by simp [World.frozen?,c]⟩
theorem Hd {n B:Nat} {W:World} {a:Addr} {ln lc:Nat} {Ls:List Lev} (h:AO n B W (O (some a) ln lc) Ls):a.off=0/\a.spot=none/\B<=a.block/\a.block < W.heap.size/\∀ j,W.frozen? ⟨a.block,j,none⟩=false:=by
 obtain ⟨c,b,-⟩:=h;exact Sn b
theorem E6 {n B:Nat} {X:World->Nat->Prop} {W:World} {v:Value} {Ls:List Lev} (n1:1<=n) (h:AO n B W v Ls) (hx:∀ k,X W k->EX W k\/W.heap.size<=k):A9 n X W v Ls:=by
 obtain ⟨G,z,r⟩:=h;have A:=z.1;have o:∀ (u:Value) (l:List Bool),AJ W u l->l.length=n->T4 W u->∀ a m c,u=O (some a) m c->¬ X W a.block:=by
  intro u l Q C d a m c f q;obtain ⟨p,S,D⟩:=d a m c f;rcases hx _ q with h | h
  ·exact h p S D
  ·have:=(Array.getElem?_eq_some_iff.1 D).1
   omega
 have I:∀ (x y:Value) (l:Lev),Fq n W (zh #[x,y]) l->Aw n X W (zh #[x,y]) l:=by
  intro x y l d;obtain ⟨F,E,e,H,ty⟩:=d.ty;simp at e;obtain ⟨rfl,rfl⟩:=e;obtain ⟨F,E,e,V,w⟩:=d.at_;simp at e;obtain ⟨rfl,rfl⟩:=e;exact ⟨d.at_,d.len,x,y,rfl,o _ _ V d.len.1 H,o _ _ w d.len.2 ty⟩
 rcases z.2 with ⟨h,R⟩ | ⟨g,t,p,h,Q,L,P,N,M,s⟩
 ·have:Ls=[]:=List.eq_nil_of_length_eq_zero R
  subst this;exact ⟨none,0,h,fun h=>absurd rfl h⟩
 ·refine ⟨some ⟨g,0,none⟩,t,h,fun J=>⟨g,0,rfl,fun i K=>?_⟩⟩
  obtain ⟨x,y,U,T,C⟩:=r i K;have b:∀ j u,G[j]? = some u->W.cell? ⟨g,0+j,none⟩=some u:=fun j u f=>by
   rw [Nat.zero_add,Lib.cell_of_heap L];rw [<-s,List.getElem?_take] at f;split at f
   ·simpa using f
   ·cases f
  exact ⟨x,y,b _ _ U,by have:=b _ _ T;simpa [Nat.add_assoc] using this,I x y _ C⟩
theorem PB {fs:List FnD} {i:Int} (h0:0<=i) (h1:i < fs.length):BV fs i∈fs:=by
 unfold BV;rw [List.getD_eq_getElem?_getD,List.getElem?_eq_getElem (by omega:i.toNat < fs.length)];exact List.getElem_mem _
theorem Pq {K nv ni no:Nat} {funcs:Int} {fs:List FnD} {d:D} (h:Cx K nv ni no funcs fs d) (hf:funcs<=fs.length) (hp:∀ f∈fs,∀ p∈f.ps,0<=p/\p < (nv:Int)):inR nv fs.length fs d:=by
 obtain ⟨-,c,g,-⟩:=h;refine ⟨fun e=>by have:=c e;omega,fun e=>?_⟩;obtain ⟨⟨a,b⟩,-,-⟩:=g e;refine ⟨by omega,fun v c=>?_⟩;have:=hp _ (PB a (by omega)) v c;omega
theorem Nn (n K kf nv ni no:Nat) (known:List Bool) (ins) (fs:List FnD) (main:List D) (st:ISt) (hof:∀ i (h:i < fs.length),okF K nv ni no (i:Int) fs kf fs[i]) (hom:∀ s∈main,okS K nv ni no (fs.length:Int) fs kf s) :
  CV n nv fs.length st (Hc n K kf known ins fs main st):=by
 have e:∀ f∈fs,∀ p∈f.ps,0<=p/\p < (nv:Int):=fun f g=>by
  obtain ⟨i,c,rfl⟩:=List.getElem_of_mem g;exact (hof i c).2.1
 exact Kz n K ISt.vs _ (P:=fun _ _=>True) (Pm:=okS K nv ni no (fs.length:Int) fs) (P1:=inR nv fs.length fs) (fun k d h=>⟨Pq h.1 (by omega) e,h.2⟩) (Q:=fun i k d=>i<=fs.length/\okS K nv ni no (i:Int) fs k d)
  (fun i k d h=>⟨Pq h.2.1 (by omega) e,fun s b=>⟨h.1,h.2.2.1 s b⟩,fun s b=>⟨h.1,h.2.2.2 s b⟩⟩) (R:=CV n nv fs.length) (CV.refl n nv fs.length) CV.trans (fun a d p st j=>PI n nv fs.length K known ins fs a d p st j) ISt.fs kf fs main st
  (fun i c s b=>⟨by omega,(hof i c).2.2.1 s b⟩) hom
theorem Aw.mono {n:Nat} {X Y:World->Nat->Prop} {W:World} {v:Value} {l:Lev} (n1:1<=n) (h:Aw n X W v l) (hx:∀ k,k < W.heap.size->Y W k->X W k):Aw n Y W v l:=by
 obtain ⟨x,y,g,u,t⟩:=h.off;obtain ⟨B,A,d,z,p⟩:=h.at_;rw [g] at d;simp at d;obtain ⟨rfl,rfl⟩:=d;have q:∀ (v:Value) (l:List Bool),AJ W v l->l.length=n->∀ a m c,v=O (some a) m c->a.block < W.heap.size:=by
  intro v l s r a m c e;obtain ⟨C,w,g,f⟩:=s;obtain ⟨b,off,j,f⟩:=f (by rintro rfl;simp at r;omega);rw [g,j] at e;injection e with o;injection o with o;rw [<-o];exact bL (f 0 (by omega))
 exact ⟨h.at_,h.len,x,y,g,fun a m c e i=>u a m c e (hx _ (q _ _ z h.len.1 a m c e) i),fun a m c e i=>t a m c e (hx _ (q _ _ p h.len.2 a m c e) i)⟩
theorem A9.mono {n:Nat} {X Y:World->Nat->Prop} {W:World} {v:Value} {ls:List Lev} (n1:1<=n) (h:A9 n X W v ls) (hx:∀ k,k < W.heap.size->Y W k->X W k):A9 n Y W v ls:=by
 obtain ⟨r,f,l,a⟩:=h;refine ⟨r,f,l,fun d=>?_⟩;obtain ⟨b,c,e,a⟩:=a d;refine ⟨b,c,e,fun i m=>?_⟩;obtain ⟨j,g,q,p,o⟩:=a i m;exact ⟨j,g,q,p,o.mono n1 hx⟩
theorem Da.setM {c:WC} {w0:World} {nv nf bw bm:Nat} {st:ISt} {W:World} {b:Bool} (n1:1<=c.n) (hC:FO c w0 bw bm) (h:Da c w0 nv nf bw bm st W):Da c w0 nv nf bw bm ⟨st.vs,st.fs,b⟩ (W.setCell ⟨bm,0,none⟩ (zg b)):=by
 have i:(W.setCell ⟨bm,0,none⟩ (zg b)).heap.size=W.heap.size:=by simp [World.setCell]
 have d:∀ k,k≠bm->(W.setCell ⟨bm,0,none⟩ (zg b)).heap[k]? = W.heap[k]?:=fun k hk=>Bn (Ne.symm hk) _;have s:FrW (XI c bm) W (W.setCell ⟨bm,0,none⟩ (zg b)):=⟨rfl,rfl,rfl,by omega,fun k _ q=>d k (fun e=>q (Or.inr (Or.inr e))),fun k _ q=>q⟩;have g:∀ b' o' u,b'≠bm->W.cell? ⟨b',o',none⟩=some u->(W.setCell ⟨bm,0,none⟩ (zg b)).cell? ⟨b',o',none⟩=some u:=fun b' o' u w l=>(World.cell?_of_block (a:=⟨b',o',none⟩) (d b' w)).trans l;have f:∀ b' j,(W.setCell ⟨bm,0,none⟩ (zg b)).frozen? ⟨b',j,none⟩=W.frozen? ⟨b',j,none⟩:=fun b' j=>by simp [go_sem]
 refine ⟨h.below.setCell (p:=⟨bm,0,none⟩) hC.m.1 _,h.vs.keep n1 s (fun b' o' t x r j u l=>?_),h.fs.keep n1 s (fun b' o' t x r j u l=>?_),h.lv,h.lf,World.cell?_setCell_same _ _ _ h.more,(f _ _).trans h.mz,fun j u v=>g _ _ _ hC.m.2 (h.row j u v),fun a e=>⟨by rw [i];exact (h.hl a e).1,fun j=>(f _ _).trans ((h.hl a e).2 j)⟩,fun a e=>⟨by rw [i];exact (h.hk a e).1,fun j=>(f _ _).trans ((h.hk a e).2 j)⟩⟩
 ·injection r with o
  exact g _ _ _ (hC.la _ o).2.2.2.2 l
 ·injection r with o
  exact g _ _ _ (hC.ka _ o).2.2.2.2 l
theorem Da.newM {c:WC} {w0:World} {nv nf bw bm:Nat} {st:ISt} {W:World} (n1:1<=c.n) (hC:FO c w0 bw bm) (h:Da c w0 nv nf bw bm st W):Da c w0 nv nf bw W.heap.size st (W.alloc (ze #[zg st.more] 4)):=by
 have b:Ov W (W.alloc (ze #[zg st.more] 4)):=bA W _;have d:∀ k,k < W.heap.size->XI c W.heap.size W k->XI c bm W k:=fun k hk d=>by
  rcases d with h | h | h
  ·exact Or.inl h
  ·exact Or.inr (Or.inl h)
  ·omega
 exact ⟨h.below.trans (b.mono h.below.size),(h.vs.mono n1 d).over (FQ c _) b,(h.fs.mono n1 d).over (FQ c _) b,h.lv,h.lf,by simp [go_sem],by simp [go_sem],h.row.over b,
  fun a e=>⟨Nat.lt_of_lt_of_le (h.hl a e).1 b.size,fun j=>((An b).2 _ _ (h.hl a e).1).trans ((h.hl a e).2 j)⟩,fun a e=>⟨Nat.lt_of_lt_of_le (h.hk a e).1 b.size,fun j=>((An b).2 _ _ (h.hk a e).1).trans ((h.hk a e).2 j)⟩⟩
theorem FO.newM {c:WC} {w0:World} {nv nf bw bm:Nat} {st:ISt} {W:World} (hC:FO c w0 bw bm) (h:Da c w0 nv nf bw bm st W) (hw:bw < W.heap.size):FO c w0 bw W.heap.size:=
 ⟨fun a e=>by have:=hC.la a e;have h2:=(h.hl a e).1;exact ⟨this.1,this.2.1,this.2.2.1,this.2.2.2.1,by omega⟩,fun a e=>by have:=hC.ka a e;have h2:=(h.hk a e).1;exact ⟨this.1,this.2.1,this.2.2.1,this.2.2.2.1,by omega⟩,hC.lk,h.below.size,by omega⟩
theorem Kn {n:Nat} {X:World->Nat->Prop} {W:World} {rb:Nat} {x y v:Value} {Ls:List Lev} (h:A9 n X W v Ls) (hr:∀ j u,W.cell? ⟨rb,j,none⟩=some u->∃ a m c,u=O a m c) (hv:∀ a m c,v=O (some a) m c->a.block≠rb):BW ((W.setCell ⟨rb,0,none⟩ x).setCell ⟨rb,1,none⟩ y) v Ls:=by
 have o:∀ b' o' u,b'≠rb->W.cell? ⟨b',o',none⟩=some u->((W.setCell ⟨rb,0,none⟩ x).setCell ⟨rb,1,none⟩ y).cell? ⟨b',o',none⟩=some u:=fun b' o' u z F=>by
  rw [CM (Or.inl (Ne.symm z)),CM (Or.inl (Ne.symm z))];exact F
 have r:∀ u l,AJ W u l->AJ ((W.setCell ⟨rb,0,none⟩ x).setCell ⟨rb,1,none⟩ y) u l:=by
  intro u l ⟨w,p,e,d⟩;refine ⟨w,p,e,fun k=>?_⟩;obtain ⟨b,g,f,d⟩:=d k;refine ⟨b,g,f,fun i s=>o _ _ _ (fun J=>?_) (d i s)⟩;subst J;obtain ⟨a,m,c,e⟩:=hr _ _ (d i s);cases e
 obtain ⟨w,p,q,d⟩:=h;refine ⟨w,p,q,fun k=>?_⟩;obtain ⟨b,g,f,d⟩:=d k;have A:b≠rb:=hv _ _ _ (by rw [q,f]);refine ⟨b,g,f,fun i s=>?_⟩;obtain ⟨E,D,I,H,G⟩:=d i s;obtain ⟨C,B,e,K,t⟩:=G.at_;exact ⟨E,D,o _ _ _ A I,o _ _ _ A H,C,B,e,r _ _ K,r _ _ t⟩
end Go.Proofs.YtfffpjkcfnekaaaGreat.Ex
