/- What a command asks of levels: a call. -/
import Derived.Test.YtfffpjkcfnekaaaGreatE04
import Derived.Laws.EntriesVeiled
import Derived.Maps.AppendAt
set_option linter.unusedVariables false
set_option maxHeartbeats 8000000
set_option maxRecDepth 100000
namespace Go.Proofs.YtfffpjkcfnekaaaGreat.Ex
open Go.RowKit
open Go.Value renaming slice -> O, int -> zd, bool -> zg, agg -> zh, pointer -> zi, tuple -> zk
open Go.IntKind renaming i64 -> U
open Go.Obj renaming cells -> ze
open Go.Ending renaming returned -> zj
section
variable {σ:Type} {c:WC} {w0:World} {K nv ni no:Nat} {fs:List FnD} {gs:List (Int × Int)} {lev flev:σ->List Lev} {Inv:σ->World->Prop} {X:World->Nat->Prop} {s:Nat} {G:FuncId} {d1 d2:Value}
abbrev MC (s:Nat) (c:WC) (W:World) (p1:Option Addr) (q1 r1:Nat) (p2:Option Addr) (q2 r2:Nat) (vr:Int) (j:Nat) (ek en:Int) (xa:Option Addr) (xl xc b6 z6 al ac:Nat) (ta:Option Addr) (tl tc:Nat) (ea:Option Addr) (el ec m:Nat) (k1 k2:Int) (k3:Option Addr) (k4 k5:Nat) (Wz:World):Prop:=Wz.cell? ⟨s,0,none⟩=some (zd U (c.n:Int))/\CE Wz s 1 (O c.ga c.gn c.gc)/\CE Wz s 2 (O c.sa c.sn c.sc)/\CE Wz s 3 (O c.ya c.yn c.yc)/\CE Wz s 4 (O c.oa c.on c.oc)/\CE Wz s 5 (O c.va c.vn c.vc)/\CE Wz s 6 (O c.fa c.fn c.fc)/\CE Wz s 7 (O c.ba c.bn c.bc)/\CE Wz s 8 (O c.la c.ln c.lc)/\CE Wz s 9 (O c.ka c.kn c.kc)/\CE Wz (s+1+1) 0 (.func (.func 115) #[] #[zi (some ⟨s,0,none⟩),zi (some ⟨s+1,0,none⟩)])/\CE Wz (W.heap.size+1) 0 (O p1 q1 r1)/\CE Wz (W.heap.size+1) 1 (O p2 q2 r2)/\CE Wz W.heap.size 0 (zd U 2)/\CE Wz W.heap.size 1 (zd U vr)/\CE Wz W.heap.size 2 (zd U (j:Int))/\CE Wz W.heap.size 3 (zd U ek)/\CE Wz W.heap.size 4 (zd U en)/\CE Wz W.heap.size 5 (O xa xl xc)/\CE Wz W.heap.size 6 (O (some ⟨b6,z6,none⟩) al ac)/\CE Wz W.heap.size 7 (O ta tl tc)/\CE Wz W.heap.size 8 (O ea el ec)/\CE Wz b6 (z6+m*3) (zd U k1)/\CE Wz b6 (z6+m*3+1) (zd U k2)/\CE Wz b6 (z6+m*3+2) (O k3 k4 k5)
abbrev MB (s:Nat) (c:WC) (W:World) (p1:Option Addr) (q1 r1:Nat) (p2:Option Addr) (q2 r2:Nat) (vr:Int) (j:Nat) (ek en:Int) (xa:Option Addr) (xl xc:Nat) (aa:Option Addr) (al ac:Nat) (ta:Option Addr) (tl tc:Nat) (ea:Option Addr) (el ec:Nat) (W3:World) (pa:Option Addr) (pn pc:Nat) (za:Option Addr) (zn zc:Nat) (rk rn:Int) (ra:Option Addr) (rl rc:Nat) (Wz:World):Prop:=Wz.cell? ⟨s,0,none⟩=some (zd U (c.n:Int))/\CE Wz s 1 (O c.ga c.gn c.gc)/\CE Wz s 2 (O c.sa c.sn c.sc)/\CE Wz s 3 (O c.ya c.yn c.yc)/\CE Wz s 4 (O c.oa c.on c.oc)/\CE Wz s 5 (O c.va c.vn c.vc)/\CE Wz s 6 (O c.fa c.fn c.fc)/\CE Wz s 7 (O c.ba c.bn c.bc)/\CE Wz s 8 (O c.la c.ln c.lc)/\CE Wz s 9 (O c.ka c.kn c.kc)/\CE Wz (s+1+1) 0 (.func (.func 115) #[] #[zi (some ⟨s,0,none⟩),zi (some ⟨s+1,0,none⟩)])/\CE Wz (W.heap.size+1) 0 (O p1 q1 r1)/\CE Wz (W.heap.size+1) 1 (O p2 q2 r2)/\CE Wz W.heap.size 0 (zd U 2)/\CE Wz W.heap.size 1 (zd U vr)/\CE Wz W.heap.size 2 (zd U (j:Int))/\CE Wz W.heap.size 3 (zd U ek)/\CE Wz W.heap.size 4 (zd U en)/\CE Wz W.heap.size 5 (O xa xl xc)/\CE Wz W.heap.size 6 (O aa al ac)/\CE Wz W.heap.size 7 (O ta tl tc)/\CE Wz W.heap.size 8 (O ea el ec)/\CE Wz (W3.heap.size+1) 0 (O pa pn pc)/\CE Wz (W3.heap.size+1) 1 (O za zn zc)/\CE Wz (W3.heap.size+1) 2 (zd U rk)/\CE Wz (W3.heap.size+1) 3 (zd U rn)/\CE Wz (W3.heap.size+1) 4 (O ra rl rc)
abbrev Oe (s:Nat) (c:WC) (b9 z9:Nat) (G:FuncId) (d1 d2:Value) (W:World) (p1:Option Addr) (q1 r1:Nat) (p2:Option Addr) (q2 r2:Nat) (vr:Int) (j:Nat) (ek en:Int) (xa:Option Addr) (xl xc:Nat) (aa:Option Addr) (al ac:Nat) (ta:Option Addr) (tl tc:Nat) (ea:Option Addr) (el ec:Nat) (Wz:World):Prop:=Wz.cell? ⟨s,0,none⟩=some (zd U (c.n:Int))/\CE Wz s 1 (O c.ga c.gn c.gc)/\CE Wz s 2 (O c.sa c.sn c.sc)/\CE Wz s 3 (O c.ya c.yn c.yc)/\CE Wz s 4 (O c.oa c.on c.oc)/\CE Wz s 5 (O c.va c.vn c.vc)/\CE Wz s 6 (O c.fa c.fn c.fc)/\CE Wz s 7 (O c.ba c.bn c.bc)/\CE Wz s 8 (O c.la c.ln c.lc)/\CE Wz s 9 (O (some ⟨b9,z9,none⟩) c.kn c.kc)/\CE Wz (s+1) 0 (.func (.func G) #[] #[d1,d2])/\CE Wz (W.heap.size+1) 0 (O p1 q1 r1)/\CE Wz (W.heap.size+1) 1 (O p2 q2 r2)/\CE Wz W.heap.size 0 (zd U 2)/\CE Wz W.heap.size 1 (zd U vr)/\CE Wz W.heap.size 2 (zd U (j:Int))/\CE Wz W.heap.size 3 (zd U ek)/\CE Wz W.heap.size 4 (zd U en)/\CE Wz W.heap.size 5 (O xa xl xc)/\CE Wz W.heap.size 6 (O aa al ac)/\CE Wz W.heap.size 7 (O ta tl tc)/\CE Wz W.heap.size 8 (O ea el ec)
theorem SQ (I:Fm c w0 nv fs gs lev flev Inv X) (flow:Lev->Bool × Nat->σ->σ) (hC:∀ (args:Array Value) (w:World),(callFunc G args).run Tryz.prog w=.ok (.enter G args) w) (hfl:Hx (Dz c nv fs Inv X flow G d1 d2)) (vs) (hvs:Bs w0 (O c.va c.vn c.vc) vs) (hnv:vs.length=nv)
  (ls:List Lab) (hls:AW w0 (O c.ya c.yn c.yc) ls) (hlc:∀ b∈ls,Bb c.n gs b=0) (hni:ls.length=ni) (hni5:ni<=5) (kf:Nat) (hfs:Bv w0 K kf (O c.fa c.fn c.fc) fs) (hf5:fs.length<=5) (hof:∀ i (h:i < fs.length),okF K nv ni no (i:Int) fs kf fs[i])
  (st:σ) (W:World) (a:Int) (k:Nat) (cs:List Value) (d:D) (v:Value) (p:Lev) (funcs:Int) (hI:Inv st W) (hB:BN c X s G d1 d2 W) (hrs:RS w0 K (k+1) cs d) (hfn:funcs<=fs.length) (hok:Cx K nv ni no funcs fs d) (hl:Aw c.n X W v p) (hk:Ag d=2) :
  Calls Tryz.prog 116 #[zd U a,.agg cs.toArray,v,zi (some ⟨s,0,none⟩),zi (some ⟨s+1+1,0,none⟩),zi (some ⟨s+1,0,none⟩)] W fun e W'=>e=zj (zk #[])/\(Inv (Dy c.n K lev (vs.map Prod.fst) (ls.map (Ar (Ax gs) c.n)) fs flow a d p st) W'/\BN c X s G d1 d2 W')/\FrW X W W':=by
 obtain ⟨p1,q1,r1,p2,q2,r2,rfl⟩:=hl.form;obtain ⟨R,en,P,M,N,aa,ac,V,T,ea,ec,rfl,i0,i1,i2,hX,hA,hT,hE,-,-,-⟩:=hrs.form;obtain ⟨vr,du⟩:=nm (Ap d);obtain ⟨ot,ca⟩:=nm (Ae d);obtain ⟨S,d4⟩:=nm ((Ai d).length);obtain ⟨tl,e4⟩:=nm ((Aj d).length);obtain ⟨el,fm⟩:=nm ((Ao d).length);have fb:sC (Ag d) (Ap d) (Ae d) R en P M N aa (Ai d).length ac V (Aj d).length T ea (Ao d).length ec=sC 2 (Ap d) (Ae d) R en P M N aa (Ai d).length ac V (Aj d).length T ea (Ao d).length ec:=by rw [hk]
 rw [fb];clear fb;rw [<-du,<-ca,<-d4,<-e4,<-fm];have eg:=Aa du;have ij:=Aa ca;have hn:=Aa d4;have hb:Ov W ((W.alloc (ze #[zd U 2,zd U vr,zd U ot,zd U R,zd U en,O P M N,O aa S ac,O V tl T,O ea el ec] 130)).alloc (ze #[O p1 q1 r1,O p2 q2 r2] 50)):=(bA W _).alloc (by simp) _;have ci:=I.over _ _ _ hI hb;have d6:=hB.over I.xok hb;have dw:=hl.over I.xok hb;have f9:=FrW.of_below I.xok hb;have ah:Ad [zd U 2,zd U vr,zd U ot,zd U R,zd U en,O P M N,O aa S ac,O V tl T,O ea el ec] ((W.alloc (ze #[zd U 2,zd U vr,zd U ot,zd U R,zd U en,O P M N,O aa S ac,O V tl T,O ea el ec] 130)).alloc (ze #[O p1 q1 r1,O p2 q2 r2] 50)) W.heap.size:=(Ad.new [zd U 2,zd U vr,zd U ot,zd U R,zd U en,O P M N,O aa S ac,O V tl T,O ea el ec] 130 W).over (bA _ _);have ai:Ad [O p1 q1 r1,O p2 q2 r2] ((W.alloc (ze #[zd U 2,zd U vr,zd U ot,zd U R,zd U en,O P M N,O aa S ac,O V tl T,O ea el ec] 130)).alloc (ze #[O p1 q1 r1,O p2 q2 r2] 50)) (W.heap.size+1):=by
  have r:=Ad.new [O p1 q1 r1,O p2 q2 r2] 50 (W.alloc (ze #[zd U 2,zd U vr,zd U ot,zd U R,zd U en,O P M N,O aa S ac,O V tl T,O ea el ec] 130));simpa using r
 have xS:¬ X ((W.alloc (ze #[zd U 2,zd U vr,zd U ot,zd U R,zd U en,O P M N,O aa S ac,O V tl T,O ea el ec] 130)).alloc (ze #[O p1 q1 r1,O p2 q2 r2] 50)) W.heap.size:=fun h=>by have:=I.xlt _ _ hI _ (I.xok.below _ _ hb _ h);omega
 have xP:¬ X ((W.alloc (ze #[zd U 2,zd U vr,zd U ot,zd U R,zd U en,O P M N,O aa S ac,O V tl T,O ea el ec] 130)).alloc (ze #[O p1 q1 r1,O p2 q2 r2] 50)) (W.heap.size+1):=fun h=>by have:=I.xlt _ _ hI _ (I.xok.below _ _ hb _ h);omega
 have d5:=I.below _ _ ci;have E:=I.levs _ _ ci;have KW:=Aa (Df c I.n1 I.n6 gs (lev st) X I.xok _ p K [zd U R,zd U en,O P M N] (Am d) _ (Af I.gr d5) I.chk E.1 dw (by rw [E.2];exact I.nv16) (I.xlt _ _ ci) (hX.over d5) (by rw [E.2];exact Bd hok));have KV:=Aa (fun (st:σ) (W:World) (v:Value) (l:Lev) (i:Int)=>FR (s:=s) I flow hC hfl vs hvs hnv st W v l i);obtain ⟨t0,t1,t2,t3,t4,t5,t6,t7,t8,t9⟩:=Ch d6.row;obtain ⟨g0,g1,g2,g3,g4,g5,g6,g7,g8⟩:=rc9 ah;obtain ⟨u0,u1⟩:=rc2 ai;have q:=Aa I;have ep:=Aa ci;have hh:=Aa d6;have gz:=Aa dw;have hf:=Aa f9;have gq:=Aa ah;have gt:=Aa ai;have gi:=Aa xS;have gk:=Aa xP;have gy:=Aa hok;have il:=Aa hfl.o;have j6:=Aa hof;have j7:=Aa hls;have HA:=Aa hA;have j8:=Aa hlc;obtain ⟨⟨fh,fg⟩,dv,fo⟩:=hok.2.2.1 hk;rw [<-ca] at fh fg dv;obtain ⟨j,hj⟩:∃ j:Nat,ot=(j:Int):=⟨ot.toNat,by omega⟩;have a2:j < fs.length:=by omega
 have dx:ot.toNat=j:=by omega
 have di:fs[j].ps.length=(Ai d).length:=dv fs[j] (by rw [dx];exact List.getElem?_eq_getElem a2);have dl:BV fs (Ae d)=fs[j]:=by rw [<-ca];unfold BV;rw [dx];simp [List.getD_eq_getElem?_getD,a2]
 obtain ⟨hx,jy,jx,hy,fj⟩:=hfs;injection hy with y1 y2 y3;obtain ⟨b8,z8,fi,dk⟩:=fj (by intro h;rw [h] at a2;simp at a2);obtain ⟨vP,vB,e0,e1,e2,ed,eb,d9,d8,d7,dy,-,dz,aj⟩:=dk j a2;have fk:c.fa=some ⟨b8,z8,none⟩:=y1.trans fi;obtain ⟨pa,pc,rfl,dj⟩:=dy;obtain ⟨-,za,zc,rfl,-⟩:=dz;obtain ⟨ra,rc,e3⟩:=aj.form;simp only [List.cons.injEq,and_true] at e3;obtain ⟨rfl,rfl,rfl⟩:=e3;obtain ⟨pn,c5⟩:=nm (fs[j].ps.length);obtain ⟨zn,ez⟩:=nm (fs[j].body.length);obtain ⟨rk,e7⟩:=nm (AQ fs[j].res);obtain ⟨rn,e5⟩:=nm (Bk fs[j].res);obtain ⟨rl,e6⟩:=nm ((A4 fs[j].res).length);rw [<-c5] at ed;rw [<-ez] at eb;rw [<-e7] at d9 aj;rw [<-e5] at d8 aj;rw [<-e6] at d7 aj;have G0:=Aa ed;have G1:=Aa eb;have G2:=Aa d9;have G3:=Aa d8;have G4:=Aa d7;have im:=Aa fk;have HJ:=Aa hj;have hc:=Aa dl;have dt:=Aa di;have ei:=Aa c5;have gv:=Aa dj;have gu:=Aa aj;have io:=Aa fo;have a4:=hof j a2;have ih:=Aa a4.2.1;have ib:=Aa a4.2.2.2;have ix:c.fn<=5:=by omega
 have hv:(j:Int) < (c.fn:Int):=by omega
 have e8:pn<=4:=by rw [c5];exact a4.1
 have ao:=Aa a2;clear fh fg dv fo hj di dl fj y1 y2 y3 fi dk ed eb d9 d8 d7 fk dj aj c5 ez e7 e5 e6 a4 dx hx;clear ci d6 dw f9 ah ai xS xP d5 E du ca d4 e4 fm hb hrs hX hA hT hE hI hB hl hfl hvs hok hof hls hlc I;go_enter Tryz.func116,Tryz.ntmps116;go_wp2_with fail;refine (KW.o).mono ?_;rintro e W3 ⟨⟨o1,o2,o3,o4,o5,o6,rfl,fy⟩,d0⟩;have a5:=bA W3 (ze #[O o1 o2 o3,O o4 o5 o6] 50);have B:=Ac d0 a5;have f6:=q.o.over _ _ _ ep.o B;have f7:=q.o.over _ _ _ ep.o d0;have gd:=hh.o.over q.o.xok B;have fx:=fy.over q.o.xok a5;have fw:=gz.o.over q.o.xok B;have dh:=Ad.new [O o1 o2 o3,O o4 o5 o6] 50 W3;have ah:=gq.o.over B;have ai:=gt.o.over B;have xS:¬ X (W3.alloc (ze #[O o1 o2 o3,O o4 o5 o6] 50)) W.heap.size:=fun h=>gi.o (q.o.xok.below _ _ B _ h);have xP:¬ X (W3.alloc (ze #[O o1 o2 o3,O o4 o5 o6] 50)) (W.heap.size+1):=fun h=>gk.o (q.o.xok.below _ _ B _ h);have xA:¬ X (W3.alloc (ze #[O o1 o2 o3,O o4 o5 o6] 50)) W3.heap.size:=fun h=>by have:=q.o.xlt _ _ f7 _ (q.o.xok.below _ _ a5 _ h);omega
 have f8:=hf.o.trans (FrW.of_below q.o.xok B);have df:=Aa f6;have c3:=Aa gd;have ik:=Aa fx;have gx:=Aa fw;have he:=Aa f8;have cx:=Aa ah;have cz:=Aa ai;have ds:=Aa dh;have dn:=Aa xS;have dp:=Aa xP;have gm:=Aa xA;clear t0 t1 t2 t3 t4 t5 t6 t7 t8 t9 g0 g1 g2 g3 g4 g5 g6 g7 g8 u0 u1 d0 a5 B fy f6 f7 gd fx fw f8 dh ah ai xS xP xA KW ep hh gz hf gq gt gi gk;obtain ⟨t0,t1,t2,t3,t4,t5,t6,t7,t8,t9⟩:=Ch c3.o.row;obtain ⟨g0,g1,g2,g3,g4,g5,g6,g7,g8⟩:=rc9 cx.o;obtain ⟨u0,u1⟩:=rc2 cz.o;obtain ⟨y0,y1⟩:=rc2 ds.o;have tv:=c3.o.toVar;have fl:=c3.o.flow;have bk:=q.o.below _ _ df.o;have m0:=Ab bk _ _ G0.o;have m1:=Ab bk _ _ G1.o;have m2:=Ab bk _ _ G2.o;have m3:=Ab bk _ _ G3.o;have m4:=Ab bk _ _ G4.o;rw [im.o] at t6;obtain rfl:=HJ.o;clear bk;have Z:Ov (W3.alloc (ze #[O o1 o2 o3,O o4 o5 o6] 50)) ((W3.alloc (ze #[O o1 o2 o3,O o4 o5 o6] 50)).alloc (ze #[O pa pn pc,O za zn zc,zd U rk,zd U rn,O ra rl rc] 105)):=bA _ _;have dg:Ad [O pa pn pc,O za zn zc,zd U rk,zd U rn,O ra rl rc] ((W3.alloc (ze #[O o1 o2 o3,O o4 o5 o6] 50)).alloc (ze #[O pa pn pc,O za zn zc,zd U rk,zd U rn,O ra rl rc] 105)) (W3.heap.size+1):=by
  have r:=Ad.new [O pa pn pc,O za zn zc,zd U rk,zd U rn,O ra rl rc] 105 (W3.alloc (ze #[O o1 o2 o3,O o4 o5 o6] 50));simpa using r
 have xF:¬ X ((W3.alloc (ze #[O o1 o2 o3,O o4 o5 o6] 50)).alloc (ze #[O pa pn pc,O za zn zc,zd U rk,zd U rn,O ra rl rc] 105)) (W3.heap.size+1):=fun h=>by have:=q.o.xlt _ _ df.o _ (q.o.xok.below _ _ Z _ h);simp at this
 have dd:=Aa dg;have ef:=Aa xF;have g9:=Aa (q.o.over _ _ _ df.o Z);have hg:=Aa (c3.o.over q.o.xok Z);have gw:=Aa (gx.o.over q.o.xok Z);have hd:=Aa (he.o.trans (FrW.of_below q.o.xok Z));have cv:=Aa (cx.o.over Z);have cy:=Aa (cz.o.over Z);have ct:Hx (¬ X ((W3.alloc (ze #[O o1 o2 o3,O o4 o5 o6] 50)).alloc (ze #[O pa pn pc,O za zn zc,zd U rk,zd U rn,O ra rl rc] 105)) W.heap.size):=fun h=>dn.o (q.o.xok.below _ _ Z _ h);have cu:Hx (¬ X ((W3.alloc (ze #[O o1 o2 o3,O o4 o5 o6] 50)).alloc (ze #[O pa pn pc,O za zn zc,zd U rk,zd U rn,O ra rl rc] 105)) (W.heap.size+1)):=fun h=>dp.o (q.o.xok.below _ _ Z _ h);have f0:=dd.o 0 _ rfl;obtain ⟨V5,c8⟩:=nm (((W3.alloc (ze #[O o1 o2 o3,O o4 o5 o6] 50)).alloc (ze #[O pa pn pc,O za zn zc,zd U rk,zd U rn,O ra rl rc] 105)));rw [<-c8] at dd ef g9 hg gw hd cv cy ct cu;obtain ⟨Q,hQ⟩:∃ Q:Nat->σ,Q=fun m=>(((fs[j]'ao.o).ps.zip (Ai d)).take m).foldl (Gf c.n K lev (vs.map Prod.fst) flow p) st:=⟨_,rfl⟩;have HQ:=Aa hQ;have ig:Hx (Q 0=st):=by rw [hQ];rfl
 have iw:(j:Int) < (c.fn:Int):=hv;clear hQ Z dg xF df c3 gx he cx cz dn dp ds gm ik tv fl;go_wp2_with fail;go_loopw [41] (fun x wr=>∃ m:Nat,m<=pn/\x=zd U m/\(Inv (Q m) wr/\BN c X s G d1 d2 wr)/\FrW X V5 wr) (fun x _=>pn - (intOf x).toNat)
 case atStart=>exact ⟨0,Nat.zero_le _,rfl,by rw [<-c8,ig.o];exact ⟨g9.o,hg.o⟩,by rw [<-c8];exact FrW.refl _⟩
 case round=>
  clear t0 t1 t2 t3 t4 t5 t6 t7 t8 t9 g0 g1 g2 g3 g4 g5 g6 g7 g8 u0 u1 y0 y1 m0 m1 m2 m3 m4 f0 c8;obtain ⟨m,hm,rfl,⟨db,gb⟩,an⟩:=hrel;have de:=Aa db;have y:=Aa gb;have ha:=Aa an;have J:=Aa (q.o.below _ _ db);have F:=Aa (an.row cv.o ct.o);have H:=Aa (an.row cy.o cu.o);have c2:=Aa (an.row dd.o ef.o);have a6:Hx (¬ X wr W.heap.size):=fun h=>ct.o (an.mov _ (bL (cv.o 0 _ rfl)) h);have a7:Hx (¬ X wr (W.heap.size+1)):=fun h=>cu.o (an.mov _ (bL (cy.o 0 _ rfl)) h);have gl:Hx (¬ X wr (W3.heap.size+1)):=fun h=>ef.o (an.mov _ (bL (dd.o 0 _ rfl)) h);have eh:=Aa (gw.o.keep q.o.n1 an);have E:=q.o.levs _ _ db;clear db gb an;by_cases hlt:m < pn
  ·have bj:m < (fs[j]'ao.o).ps.length:=by rw [<-ei.o];exact hlt
   have cb:m < (Ai d).length:=by rw [<-dt.o];exact bj
   obtain ⟨bp,zp,ht,e9⟩:=gv.o (by intro h;rw [h] at bj;simp at bj);subst ht;have q0:=Ab J.o _ _ (e9 m bj);obtain ⟨vm,c4⟩:=nm ((fs[j]'ao.o).ps[m]);rw [<-c4] at q0;have gp:=Aa (ih.o vm (by rw [c4];exact List.getElem_mem bj));obtain ⟨h1,j3,j2,h2,ft⟩:=HA.o;injection h2 with x1 x2 x3;obtain ⟨b6,z6,fq,dm⟩:=ft (by intro h;rw [h] at cb;simp at cb);obtain ⟨j1,fr,az,c7⟩:=dm m (Ai d)[m] (List.getElem?_eq_getElem cb);obtain ⟨k3,k5,rfl⟩:=c7.form;obtain ⟨k1,c6⟩:=nm (AQ (Ai d)[m]);obtain ⟨k2,cc⟩:=nm (Bk (Ai d)[m]);obtain ⟨k4,fe⟩:=nm ((A4 (Ai d)[m]).length);rw [<-c6,<-cc,<-fe] at az c7;have er:=Aa (x1.trans fq);have L0:=Aa (show w0.cell? ⟨b6,z6+m*3,none⟩=some (zd U k1) from az 0 _ rfl);have L1:=Aa (az 1 _ rfl);have L2:=Aa (az 2 _ rfl);have l0:=Ab J.o _ _ L0.o;have l1:=Ab J.o _ _ L1.o;have l2:=Ab J.o _ _ L2.o;have iz:m < S:=by rw [hn.o];exact cb
   have iy:S<=4:=by rw [hn.o,<-dt.o,<-ei.o];exact e8
   have jt:(m:Int) < (S:Int):=by omega
   have js:(m:Int) < (pn:Int):=by omega
   have fu:Q (m+1)=toVar (vs.map Prod.fst) flow (A6 c.n (lev (Q m)) p (AG K (Ai d)[m])) vm (Q m):=by
    rw [HQ.o];dsimp only;have hz:m < ((fs[j]'ao.o).ps.zip (Ai d)).length:=by simp;omega
    rw [List.take_succ_eq_append_getElem hz,List.foldl_append,List.foldl_cons,List.foldl_nil];simp only [Gf,List.getElem_zip];rw [c4]
   have ic:=Aa fu;have ee:=Aa (Df c q.o.n1 q.o.n6 gs (lev (Q m)) X q.o.xok _ p K [zd U k1,zd U k2,O k3 k4 k5] (Ai d)[m] wr.drew (Af q.o.gr J.o.drew) q.o.chk (E.1.over q.o.xok (bD _)) (eh.o.over q.o.xok (bD _)) (by rw [E.2];exact q.o.nv16) (fun k hk=>q.o.xlt _ _ de.o k (q.o.xok.below _ _ (bD _) _ hk)) (c7.over J.o.drew) (by rw [E.2];exact Ce (io.o _ (List.getElem_mem cb))));obtain ⟨t0,t1,t2,t3,t4,t5,t6,t7,t8,t9⟩:=Ch y.o.row;obtain ⟨g0,g1,g2,g3,g4,g5,g6,g7,g8⟩:=rc9 F.o;obtain ⟨u0,u1⟩:=rc2 H.o;have tv:=y.o.toVar;rw [er.o] at g6;have a3:MC s c W p1 q1 r1 p2 q2 r2 vr j R en P M N b6 z6 S ac V tl T ea el ec m k1 k2 k3 k4 k5 wr:=⟨t0,t1,t2,t3,t4,t5,t6,t7,t8,t9,tv,u0,u1,g0,g1,g2,g3,g4,g5,g6,g7,g8,l0,l1,l2⟩;clear e9 c4 h1 ft x1 x2 x3 fq dm az c7 fr c6 cc fe E fu bj;go_wp2_with fail;refine gS (MC s c W p1 q1 r1 p2 q2 r2 vr j R en P M N b6 z6 S ac V tl T ea el ec m k1 k2 k3 k4 k5) (a3) fun A=>?_;refine kT 0 ?_;refine kT 1 ?_;refine kT 2 ?_;refine kT 3 ?_;refine kT 4 ?_;refine kT 5 ?_;refine kT 6 ?_;refine kT 7 ?_;refine kT 8 ?_;refine kT 10 ?_;refine rdA 9 rfl fun K hK=>?_;go_simp;refine (ee.o).mono ?_;rintro e W6 ⟨⟨n1,n2,n3,n4,n5,n6,rfl,ch⟩,ce⟩;have u:=Ac (bD wr) ce;have f:=y.o.row.over u;have t:=H.o.over u;have hrs:=F.o.over u;have cg:MC s c W p1 q1 r1 p2 q2 r2 vr j R en P M N b6 z6 S ac V tl T ea el ec m k1 k2 k3 k4 k5 W6:=⟨f 0 _ rfl,f 1 _ rfl,f 2 _ rfl,f 3 _ rfl,f 4 _ rfl,f 5 _ rfl,f 6 _ rfl,f 7 _ rfl,f 8 _ rfl,f 9 _ rfl,Ab u _ _ tv,t 0 _ rfl,t 1 _ rfl,hrs 0 _ rfl,hrs 1 _ rfl,hrs 2 _ rfl,hrs 3 _ rfl,hrs 4 _ rfl,hrs 5 _ rfl,(by rw [<-er.o];exact hrs 6 _ rfl),hrs 7 _ rfl,hrs 8 _ rfl,Ab (Ac J.o u) _ _ L0.o,Ab (Ac J.o u) _ _ L1.o,Ab (Ac J.o u) _ _ L2.o⟩;have L:=Aa u;have ej:=Aa ch;clear f t hrs ch ce u;go_simp;refine xK hK (cg) fun A=>?_;refine rdA 11 rfl fun K hK=>?_;go_simp;refine (KV.o (Q m) W6 _ _ vm (q.o.over _ _ _ de.o L.o) (y.o.over q.o.xok L.o) ej.o gp.o.1 gp.o.2).mono ?_;rintro e W7 ⟨rfl,am,cj⟩;have g:=(FrW.of_below q.o.xok L.o).trans cj;have f:=g.row y.o.row y.o.x0;have t:=g.row H.o a7.o;have hrs:=g.row F.o a6.o;have cf:MC s c W p1 q1 r1 p2 q2 r2 vr j R en P M N b6 z6 S ac V tl T ea el ec m k1 k2 k3 k4 k5 W7:=⟨f 0 _ rfl,f 1 _ rfl,f 2 _ rfl,f 3 _ rfl,f 4 _ rfl,f 5 _ rfl,f 6 _ rfl,f 7 _ rfl,f 8 _ rfl,f 9 _ rfl,g.cell tv y.o.x2,t 0 _ rfl,t 1 _ rfl,hrs 0 _ rfl,hrs 1 _ rfl,hrs 2 _ rfl,hrs 3 _ rfl,hrs 4 _ rfl,hrs 5 _ rfl,(by rw [<-er.o];exact hrs 6 _ rfl),hrs 7 _ rfl,hrs 8 _ rfl,Ab (q.o.below _ _ am) _ _ L0.o,Ab (q.o.below _ _ am) _ _ L1.o,Ab (q.o.below _ _ am) _ _ L2.o⟩;clear f t hrs;go_simp;refine xK hK (cf) fun A=>?_;refine gE ?_;have eo:=Aa am;have a1:=Aa (y.o.keep g);have eq:=Aa (ha.o.trans g);clear cf cg a3 am cj g t0 t1 t2 t3 t4 t5 t6 t7 t8 t9 g0 g1 g2 g3 g4 g5 g6 g7 g8 u0 u1 l0 l1 l2 tv q0;go_wp2_with fail;refine ⟨⟨m+1,by omega,by go_num,⟨by rw [ic.o];exact eo.o,a1.o⟩,eq.o⟩,by simp [intOf];omega⟩
  ·have hu:m=pn:=by omega
   have ee:=Aa (Df c q.o.n1 q.o.n6 gs (lev (Q m)) X q.o.xok _ p K [zd U rk,zd U rn,O ra rl rc] (fs[j]'ao.o).res wr.drew (Af q.o.gr J.o.drew) q.o.chk (E.1.over q.o.xok (bD _)) (eh.o.over q.o.xok (bD _)) (by rw [E.2];exact q.o.nv16) (fun k hk=>q.o.xlt _ _ de.o k (q.o.xok.below _ _ (bD _) _ hk)) (gu.o.over J.o.drew) (by rw [E.2];exact Ce ib.o));have ie:Hx (Q m=((fs[j]'ao.o).ps.zip (Ai d)).foldl (Gf c.n K lev (vs.map Prod.fst) flow p) st):=by
    rw [HQ.o];dsimp only;rw [List.take_of_length_le (by simp;have:=ei.o;omega)];rfl
   obtain ⟨t0,t1,t2,t3,t4,t5,t6,t7,t8,t9⟩:=Ch y.o.row;obtain ⟨g0,g1,g2,g3,g4,g5,g6,g7,g8⟩:=rc9 F.o;obtain ⟨u0,u1⟩:=rc2 H.o;obtain ⟨f0,f1,f2,f3,f4⟩:=rc5 c2.o;have tv:=y.o.toVar;have a3:MB s c W p1 q1 r1 p2 q2 r2 vr j R en P M N aa S ac V tl T ea el ec W3 pa pn pc za zn zc rk rn ra rl rc wr:=⟨t0,t1,t2,t3,t4,t5,t6,t7,t8,t9,tv,u0,u1,g0,g1,g2,g3,g4,g5,g6,g7,g8,f0,f1,f2,f3,f4⟩;clear E hu;go_wp2_with fail;refine gS (MB s c W p1 q1 r1 p2 q2 r2 vr j R en P M N aa S ac V tl T ea el ec W3 pa pn pc za zn zc rk rn ra rl rc) (a3) fun A=>?_;refine kT 0 ?_;refine kT 1 ?_;refine kT 2 ?_;refine kT 3 ?_;refine kT 4 ?_;refine kT 5 ?_;refine kT 7 ?_;refine kT 8 ?_;refine rdA 6 rfl fun K hK=>?_;go_simp;refine (ee.o).mono ?_;rintro e W6 ⟨⟨n1,n2,n3,n4,n5,n6,rfl,ch⟩,ce⟩;have u:=Ac (bD wr) ce;have f:=y.o.row.over u;have t:=H.o.over u;have hrs:=F.o.over u;have C:=c2.o.over u;have cg:MB s c W p1 q1 r1 p2 q2 r2 vr j R en P M N aa S ac V tl T ea el ec W3 pa pn pc za zn zc rk rn ra rl rc W6:=⟨f 0 _ rfl,f 1 _ rfl,f 2 _ rfl,f 3 _ rfl,f 4 _ rfl,f 5 _ rfl,f 6 _ rfl,f 7 _ rfl,f 8 _ rfl,f 9 _ rfl,Ab u _ _ tv,t 0 _ rfl,t 1 _ rfl,hrs 0 _ rfl,hrs 1 _ rfl,hrs 2 _ rfl,hrs 3 _ rfl,hrs 4 _ rfl,hrs 5 _ rfl,hrs 6 _ rfl,hrs 7 _ rfl,hrs 8 _ rfl,C 0 _ rfl,C 1 _ rfl,C 2 _ rfl,C 3 _ rfl,C 4 _ rfl⟩;have L:=Aa u;have ej:=Aa ch;clear f t hrs C ch ce u;go_simp;refine xK hK (cg) fun A=>?_;refine rdA 9 rfl fun K hK=>?_;go_simp;refine (KV.o (Q m) W6 _ _ vr (q.o.over _ _ _ de.o L.o) (y.o.over q.o.xok L.o) ej.o (by rw [eg.o];exact (gy.o.2.1 (by omega)).1) (by rw [eg.o];exact (gy.o.2.1 (by omega)).2)).mono ?_;rintro e W7 ⟨rfl,am,cj⟩;have g:=(FrW.of_below q.o.xok L.o).trans cj;have f:=g.row y.o.row y.o.x0;have t:=g.row H.o a7.o;have hrs:=g.row F.o a6.o;have C:=g.row c2.o gl.o;have cf:MB s c W p1 q1 r1 p2 q2 r2 vr j R en P M N aa S ac V tl T ea el ec W3 pa pn pc za zn zc rk rn ra rl rc W7:=⟨f 0 _ rfl,f 1 _ rfl,f 2 _ rfl,f 3 _ rfl,f 4 _ rfl,f 5 _ rfl,f 6 _ rfl,f 7 _ rfl,f 8 _ rfl,f 9 _ rfl,g.cell tv y.o.x2,t 0 _ rfl,t 1 _ rfl,hrs 0 _ rfl,hrs 1 _ rfl,hrs 2 _ rfl,hrs 3 _ rfl,hrs 4 _ rfl,hrs 5 _ rfl,hrs 6 _ rfl,hrs 7 _ rfl,hrs 8 _ rfl,C 0 _ rfl,C 1 _ rfl,C 2 _ rfl,C 3 _ rfl,C 4 _ rfl⟩;clear f t hrs C;go_simp;refine xK hK (cf) fun A=>?_;refine gE ?_;have eo:=Aa am;have a1:=Aa (y.o.keep g);have dr:=Aa (g.row H.o a7.o);have dq:=Aa (g.row F.o a6.o);have gj:Hx (¬ X W7 (W.heap.size+1)):=fun h=>a7.o (g.mov _ (bL (H.o 0 _ rfl)) h);have gh:Hx (¬ X W7 W.heap.size):=fun h=>a6.o (g.mov _ (bL (F.o 0 _ rfl)) h);have ii:=Aa (eh.o.keep q.o.n1 g);have eq:=Aa ((hd.o.trans ha.o).trans g);obtain ⟨h0,cd⟩:=q.o.flevs _ _ am;obtain ⟨j0,i9,c6,cc⟩:=h0;injection c6 with x1 x2 x3;have ju:j < c.kn:=by rw [x2,cd];exact ao.o
   have it:c.kn<=5:=by rw [x2,cd];exact hf5
   obtain ⟨b9,z9,ff,-⟩:=cc (by intro h;rw [h] at cd;have:=ao.o;simp at cd;omega);have em:=Aa (x1.trans ff);have ia:=Aa fun (W1:World) (fp:Ov W7 W1)=>il.o _ W1 _ p (false,j) b9 z9 (q.o.over _ _ _ eo.o fp) (ii.o.over q.o.xok fp) (fun h=>by cases h) (fun _=>ao.o) (by rw [if_neg (by simp)];exact em.o);have iu:(j:Int) < (c.kn:Int):=by omega
   clear cf cg a3 am cj g t0 t1 t2 t3 t4 t5 t6 t7 t8 t9 g0 g1 g2 g3 g4 g5 g6 g7 g8 u0 u1 f0 f1 f2 f3 f4 tv cd cc ff x1 x2 x3;obtain ⟨t0,t1,t2,t3,t4,t5,t6,t7,t8,t9⟩:=Ch a1.o.row;obtain ⟨g0,g1,g2,g3,g4,g5,g6,g7,g8⟩:=rc9 dq.o;obtain ⟨u0,u1⟩:=rc2 dr.o;have ge:=a1.o.flow;rw [em.o] at t9;have a3:Oe s c b9 z9 G d1 d2 W p1 q1 r1 p2 q2 r2 vr j R en P M N aa S ac V tl T ea el ec W7:=⟨t0,t1,t2,t3,t4,t5,t6,t7,t8,t9,ge,u0,u1,g0,g1,g2,g3,g4,g5,g6,g7,g8⟩;go_wp2_with fail;refine gS (Oe s c b9 z9 G d1 d2 W p1 q1 r1 p2 q2 r2 vr j R en P M N aa S ac V tl T ea el ec) (a3) fun A=>?_;refine kT 0 ?_;refine kT 1 ?_;refine kT 2 ?_;refine kT 3 ?_;refine kT 4 ?_;refine kT 5 ?_;refine kT 6 ?_;refine kT 7 ?_;refine kT 8 ?_;refine rdA 9 rfl fun K hK=>?_;go_simp;refine (ia.o W7.drew (bD _)).mono ?_;rintro e W8 ⟨rfl,h5,h6⟩;have ak:=(FrW.of_below q.o.xok (bD W7)).trans h6;have f:=ak.row a1.o.row a1.o.x0;have t:=ak.row dr.o gj.o;have hrs:=ak.row dq.o gh.o;have h3:Oe s c b9 z9 G d1 d2 W p1 q1 r1 p2 q2 r2 vr j R en P M N aa S ac V tl T ea el ec W8:=⟨f 0 _ rfl,f 1 _ rfl,f 2 _ rfl,f 3 _ rfl,f 4 _ rfl,f 5 _ rfl,f 6 _ rfl,f 7 _ rfl,f 8 _ rfl,(by rw [<-em.o];exact f 9 _ rfl),ak.cell ge a1.o.x1,t 0 _ rfl,t 1 _ rfl,hrs 0 _ rfl,hrs 1 _ rfl,hrs 2 _ rfl,hrs 3 _ rfl,hrs 4 _ rfl,hrs 5 _ rfl,hrs 6 _ rfl,hrs 7 _ rfl,hrs 8 _ rfl⟩;clear f t hrs;go_simp;refine xK hK (h3) fun A=>?_;refine gE ?_;go_end0;refine ⟨rfl,⟨?_,a1.o.keep ak⟩,eq.o.trans ak⟩;unfold Dy;rw [if_neg (by omega),if_pos hk];unfold GT;dsimp only;rw [hc.o,<-ie.o,<-eg.o,<-ij.o];exact h5
end
section
variable {σ:Type} {c:WC} {w0:World} {K nv ni no:Nat} {fs:List FnD} {gs:List (Int × Int)} {lev flev:σ->List Lev} {Inv:σ->World->Prop} {X:World->Nat->Prop} {s:Nat} {G:FuncId} {d1 d2:Value}
theorem S3 (I:Fm c w0 nv fs gs lev flev Inv X):Fm c w0 nv fs gs lev flev (fun st W=>Inv st W/\BN c X s G d1 d2 W) X:=
 ⟨I.n1,I.n6,I.gr,I.chk,I.nv16,fun st W h=>I.below st W h.1,fun st W h=>I.levs st W h.1,fun st W h=>I.flevs st W h.1,fun st W W' h hb=>⟨I.over st W W' h.1 hb,h.2.over I.xok hb⟩,I.xok,fun st W h=>I.xlt st W h.1⟩
theorem Tk (I:Fm c w0 nv fs gs lev flev Inv X) (flow:Lev->Bool × Nat->σ->σ) (hC:∀ (args:Array Value) (w:World),(callFunc G args).run Tryz.prog w=.ok (.enter G args) w) (hfl:Hx (Dz c nv fs Inv X flow G d1 d2)) (vs) (hvs:Bs w0 (O c.va c.vn c.vc) vs) (hnv:vs.length=nv)
  (ls:List Lab) (hls:AW w0 (O c.ya c.yn c.yc) ls) (hlc:∀ b∈ls,Bb c.n gs b=0) (hni:ls.length=ni) (hni5:ni<=5) (kf:Nat) (hfs:Bv w0 K kf (O c.fa c.fn c.fc) fs) (hf5:fs.length<=5) (hof:∀ i (h:i < fs.length),okF K nv ni no (i:Int) fs kf fs[i]) :
  QX c w0 K nv ni no fs (fun st W=>Inv st W/\BN c X s G d1 d2 W) X (Dy c.n K lev (vs.map Prod.fst) (ls.map (Ar (Ax gs) c.n)) fs flow) 116 [] [zi (some ⟨s,0,none⟩),zi (some ⟨s+1+1,0,none⟩),zi (some ⟨s+1,0,none⟩)] (fun _ _=>True):=by
 intro st W a k cs d v p funcs l f g e hl _ _ _;have hk:=e.1;rcases (by omega:Ag d=1\/Ag d=2\/Ag d=3\/(Ag d=4\/Ag d=7\/Ag d=8)\/Ag d=5\/Ag d=6) with h | h | h | h | h | h
 ·exact SR I flow hC hfl vs hvs hnv ls hls hlc hni hni5 kf hfs hf5 hof st W a k cs d v p funcs l.1 l.2 f g e hl h
 ·exact SQ I flow hC hfl vs hvs hnv ls hls hlc hni hni5 kf hfs hf5 hof st W a k cs d v p funcs l.1 l.2 f g e hl h
 ·exact SP I flow hC hfl vs hvs hnv ls hls hlc hni hni5 kf hfs hf5 hof st W a k cs d v p funcs l.1 l.2 f g e hl h
 ·exact SS I flow hC hfl vs hvs hnv ls hls hlc hni hni5 kf hfs hf5 hof st W a k cs d v p funcs l.1 l.2 f g e hl h
 ·exact SO I flow hC hfl vs hvs hnv ls hls hlc hni hni5 kf hfs hf5 hof st W a k cs d v p funcs l.1 l.2 f g e hl h
 ·exact SN I flow hC hfl vs hvs hnv ls hls hlc hni hni5 kf hfs hf5 hof st W a k cs d v p funcs l.1 l.2 f g e hl h
theorem QM (args:Array Value) (w:World):(callFunc 116 args).run Tryz.prog w=.ok (.enter 116 args) w:=by simp [go_sem]
theorem SM (I:Fm c w0 nv fs gs lev flev Inv X) (flow:Lev->Bool × Nat->σ->σ) (hC:∀ (args:Array Value) (w:World),(callFunc G args).run Tryz.prog w=.ok (.enter G args) w) (hfl:Hx (Dz c nv fs Inv X flow G d1 d2)) (vs) (hvs:Bs w0 (O c.va c.vn c.vc) vs) (hnv:vs.length=nv)
  (ls:List Lab) (hls:AW w0 (O c.ya c.yn c.yc) ls) (hlc:∀ b∈ls,Bb c.n gs b=0) (hni:ls.length=ni) (hni5:ni<=5) (kf:Nat) (hfs:Bv w0 K kf (O c.fa c.fn c.fc) fs) (hf5:fs.length<=5) (hof:∀ i (h:i < fs.length),okF K nv ni no (i:Int) fs kf fs[i])
  (l:List D) (hm:Bj w0 K kf (O c.ba c.bn c.bc) l) (hom:∀ s∈l,okS K nv ni no (fs.length:Int) fs kf s) (h50:A2 kf fs+AI kf l<=50) (st:σ) (W:World) (hI:Inv st W) :
  Calls Tryz.prog 55 #[c.v,(.func (.func G) #[] #[d1,d2])] W fun e W'=>e=zj (zk #[])/\Inv (D6 c.n K lev (Dy c.n K lev (vs.map Prod.fst) (ls.map (Ar (Ax gs) c.n)) fs flow) flev kf fs l st) W'/\FrW X W W':=by
 have y:∀ (fn:Fn) (first cap:Array Value) (w:World),(Instr.makeFunc fn first cap).run Tryz.prog w=.ok (.func fn first cap) w:=fun _ _ _ _=>rfl;have p:Ov W (((W.alloc (ze #[zd U (c.n:Int),O c.ga c.gn c.gc,O c.sa c.sn c.sc,O c.ya c.yn c.yc,O c.oa c.on c.oc,O c.va c.vn c.vc,O c.fa c.fn c.fc,O c.ba c.bn c.bc,O c.la c.ln c.lc,O c.ka c.kn c.kc] 110)).alloc (ze #[(.func (.func G) #[] #[d1,d2])] 115)).alloc (ze #[(.func (.func 115) #[] #[zi (some ⟨W.heap.size,0,none⟩),zi (some ⟨W.heap.size+1,0,none⟩)])] 187)):=((bA W _).alloc (by simp) _).alloc (by simp <;> omega) _
 have g:∀ k,W.heap.size<=k->¬ X (((W.alloc (ze #[zd U (c.n:Int),O c.ga c.gn c.gc,O c.sa c.sn c.sc,O c.ya c.yn c.yc,O c.oa c.on c.oc,O c.va c.vn c.vc,O c.fa c.fn c.fc,O c.ba c.bn c.bc,O c.la c.ln c.lc,O c.ka c.kn c.kc] 110)).alloc (ze #[(.func (.func G) #[] #[d1,d2])] 115)).alloc (ze #[(.func (.func 115) #[] #[zi (some ⟨W.heap.size,0,none⟩),zi (some ⟨W.heap.size+1,0,none⟩)])] 187)) k:=fun k hk h=>by have:=I.xlt _ _ hI _ (I.xok.below _ _ p _ h);omega
 have u:BN c X W.heap.size G d1 d2 (((W.alloc (ze #[zd U (c.n:Int),O c.ga c.gn c.gc,O c.sa c.sn c.sc,O c.ya c.yn c.yc,O c.oa c.on c.oc,O c.va c.vn c.vc,O c.fa c.fn c.fc,O c.ba c.bn c.bc,O c.la c.ln c.lc,O c.ka c.kn c.kc] 110)).alloc (ze #[(.func (.func G) #[] #[d1,d2])] 115)).alloc (ze #[(.func (.func 115) #[] #[zi (some ⟨W.heap.size,0,none⟩),zi (some ⟨W.heap.size+1,0,none⟩)])] 187)):=by
  refine ⟨?_,?_,?_,g _ (Nat.le_refl _),g _ (by omega),g _ (by omega)⟩
  ·exact (Ad.new c.cs 110 W).over ((bA _ _).alloc (by simp) _)
  ·simp [go_sem]
  ·simp [go_sem]
 have f:=I.over _ _ _ hI p;have A:=Aa (RG (S3 (s:=W.heap.size) (G:=G) (d1:=d1) (d2:=d2) I) (Dy c.n K lev (vs.map Prod.fst) (ls.map (Ar (Ax gs) c.n)) fs flow) 116 [] [zi (some ⟨W.heap.size,0,none⟩),zi (some ⟨W.heap.size+1+1,0,none⟩),zi (some ⟨W.heap.size+1,0,none⟩)] (fun _ _=>True) (Aa (Qb _)) QM
  (Aa (Tk I flow hC hfl vs hvs hnv ls hls hlc hni hni5 kf hfs hf5 hof)) l hfs hm hof hom h50 hf5 st _ ⟨f,u⟩ trivial)
 have B:=Aa (FrW.of_below I.xok p);obtain ⟨Q,P,N,M,L,J,H,F,E,C⟩:=Ch u.row;clear p g u f hfl hvs hls hlc hfs hof hm hom I;go_enter Tryz.func55,Tryz.ntmps55;go_wp2_with fail;refine (A.o).mono ?_;rintro e R ⟨rfl,q,t⟩;go_wp2_with fail;go_end0;exact ⟨rfl,q.1,B.o.trans t⟩
end
theorem Tryz.infoLv:(Tryz.prog.info? 50).map (fun i=>(i.zero,i.size,i.bytes))=some (some (zh #[O none 0 0,O none 0 0]),2,48):=by kernel_rfl
def T4 (W:World) (v:Value):Prop:=∀ a n c,v=O (some a) n c->∃ cur fr,W.heap[a.block]? = some (.cells cur 4 fr)
structure Fq (n:Nat) (W:World) (v:Value) (l:Lev):Prop where
 at_:A3 W v l
 len:l.len n
 ty:∃ x y,v=zh #[x,y]/\T4 W x/\T4 W y
theorem OK {W:World} {B n:Nat} {v:Value} {xs:List Value} (h:W.ownsRow B 4 1 v n xs):T4 W v:=by
 intro a m c e;rcases h.2 with ⟨h,-⟩ | ⟨g,cap,i,h,k,f,-⟩
 ·rw [e] at h;cases h
 ·rw [e] at h;injection h with b p l;injection b with b;rw [b];exact ⟨_,_,f⟩
theorem Dk {n:Nat} {w w':World} {v:Value} {l:Lev} (h:A1 w w' v l) (hl:l.len n):Fq n w' v l:=by
 have g:=Aq h;obtain ⟨x,y,f,e,b,-⟩:=h;exact ⟨g,hl,x,y,f,OK e,OK b⟩
theorem JW {W W':World} {v:Value} (h:T4 W v) (hb:∀ (k:Nat) (cur:Array Value) (fr:Nat × Nat),W.heap[k]? = some (Obj.cells cur 4 fr)->W'.heap[k]? = W.heap[k]?):T4 W' v:=by
 intro a n c e;obtain ⟨cur,fr,b⟩:=h a n c e;exact ⟨cur,fr,(hb _ _ _ b).trans b⟩
theorem Fq.keep {n:Nat} {W W':World} {v:Value} {l:Lev} (h1:1<=n) (h:Fq n W v l) (hb:∀ (k:Nat) (cur:Array Value) (fr:Nat × Nat),W.heap[k]? = some (Obj.cells cur 4 fr)->W'.heap[k]? = W.heap[k]?):Fq n W' v l:=by
 obtain ⟨x,y,p,B,ty⟩:=h.ty;obtain ⟨I,H,f,F,A⟩:=h.at_;rw [p] at f;simp at f;obtain ⟨rfl,rfl⟩:=f;have q:∀ (v:Value) (l:List Bool),AJ W v l->l.length=n->T4 W v->AJ W' v l:=by
  intro v l u hl C;obtain ⟨G,cap,p,g⟩:=u;refine ⟨G,cap,p,fun t=>?_⟩;obtain ⟨b,off,s,g⟩:=g t;obtain ⟨cur,fr,E⟩:=C ⟨b,off,none⟩ l.length cap (by rw [p,s]);have e:W'.heap[b]? = W.heap[b]?:=hb b cur fr E;exact ⟨b,off,s,fun i hi=>(World.cell?_of_block (a:=⟨b,off+i,none⟩) e).trans (g i hi)⟩
 exact ⟨⟨x,y,p,q _ _ F h.len.1 B,q _ _ A h.len.2 ty⟩,h.len,x,y,p,JW B hb,JW ty hb⟩
theorem Fq.over {n:Nat} {W W':World} {v:Value} {l:Lev} (h1:1<=n) (h:Fq n W v l) (hb:Ov W W'):Fq n W' v l:=
 h.keep h1 fun k cur fr hk=>hb.block k (Array.getElem?_eq_some_iff.1 hk).1
def AO (n B:Nat) (W:World) (v:Value) (Ls:List Lev):Prop:=
 ∃ us:List Value,W.ownsRow B 50 2 v Ls.length us/\∀ i (h:i < Ls.length),∃ x y,us[i*2]? = some x/\us[i*2+1]? = some y/\Fq n W (zh #[x,y]) Ls[i]
theorem Gs (n B:Nat) (W:World):AO n B W (O none 0 0) []:=⟨[],World.ownsRow_nil ..,fun i h=>absurd h (by simp)⟩
theorem B6 {n B:Nat} {W:World} {v:Value} {Ls:List Lev} (h:AO n B W v Ls):∀ g,v.ownBlock=some g->B<=g/\∃ cur fr,W.heap[g]? = some (.cells cur 50 fr):=by
 obtain ⟨k,e,-⟩:=h;intro g b;rcases e.2 with ⟨h,-⟩ | ⟨l,cap,cur,h,i,f,-⟩
 ·rw [h] at b;cases b
 ·rw [h] at b
  simp [Value.ownBlock] at b;subst b;exact ⟨i,_,_,f⟩
theorem AO.keep {n B:Nat} {W W':World} {v:Value} {Ls:List Lev} (h1:1<=n) (h:AO n B W v Ls) {row:Option Nat} (hg:W.grownBy W' row) (ha:v.ownBlock=none\/v.ownBlock≠row) (hr:∀ g,row=some g->∀ (cur:Array Value) (fr:Nat × Nat),W.heap[g]?≠some (Obj.cells cur 4 fr)):AO n B W' v Ls:=by
 obtain ⟨f,l,b⟩:=h;refine ⟨f,l.kept hg ha,fun i hi=>?_⟩;obtain ⟨x,y,q,p,hl⟩:=b i hi;exact ⟨x,y,q,p,hl.keep h1 fun k cur fr hk=>hg.block k (Array.getElem?_eq_some_iff.1 hk).1 (fun e=>hr k e.symm cur fr hk)⟩
theorem AO.over {n B:Nat} {W W':World} {v:Value} {Ls:List Lev} (h1:1<=n) (h:AO n B W v Ls) (hb:Ov W W'):AO n B W' v Ls:=
 h.keep h1 (row:=none) ⟨hb.os,hb.tape,hb.output,hb.size,fun k hk _=>hb.block k hk⟩ (by cases v.ownBlock <;> simp) (fun g e=>by cases e)
theorem AO.snoc {n B:Nat} {W W':World} {v v':Value} {Ls:List Lev} {x y:Value} {l:Lev} (h1:1<=n) (h:AO n B W v Ls) (us:List Value) (ho:W.ownsRow B 50 2 v Ls.length us) (hel:∀ i (h:i < Ls.length),∃ x y,us[i*2]? = some x/\us[i*2+1]? = some y/\Fq n W (zh #[x,y]) Ls[i]) (hl:Fq n W (zh #[x,y]) l)
  (ho':W'.ownsRow B 50 2 v' (Ls.length+1) (us++[x,y])) (hg:W.grownBy W' v.ownBlock):AO n B W' v' (Ls++[l]):=by
 have hk:∀ (k:Nat) (cur:Array Value) (fr:Nat × Nat),W.heap[k]? = some (Obj.cells cur 4 fr)->W'.heap[k]? = W.heap[k]?:=fun k cur fr hk=>hg.block k (Array.getElem?_eq_some_iff.1 hk).1 (fun e=>by
  obtain ⟨-,q,A,b⟩:=B6 h k e.symm;rw [hk] at b;injection b with b;injection b with p C F;exact absurd C (by decide))
 have f:us.length=Ls.length*2:=ho.1;refine ⟨us++[x,y],by simpa using ho',fun i hi=>?_⟩;by_cases hlt:i < Ls.length
 ·obtain ⟨t,s,E,p,u⟩:=hel i hlt
  refine ⟨t,s,?_,?_,?_⟩
  ·rw [List.getElem?_append_left (by omega)];exact E
  ·rw [List.getElem?_append_left (by omega)];exact p
  ·rw [List.getElem_append_left hlt];exact u.keep h1 hk
 ·have g:i=Ls.length:=by simp at hi;omega
  subst g;refine ⟨x,y,?_,?_,?_⟩
  ·rw [List.getElem?_append_right (by omega)];simp [f]
  ·rw [List.getElem?_append_right (by omega)]
   have:Ls.length*2+1 - us.length=1:=by omega
   rw [this];rfl
  ·simp;exact hl.keep h1 hk
theorem Je (n:Nat) (ga gn gc sa sn sc ya yn yc oa on oc va vn vc fa fn fc ba bn bc la ln lc ka kn kc) (w:World) :
  Calls Tryz.prog 99 #[zh #[zd U (n:Int),O ga gn gc,O sa sn sc,O ya yn yc,O oa on oc,O va vn vc,O fa fn fc,O ba bn bc],zh #[O la ln lc,O ka kn kc]] w fun e w'=>e=zj (zh #[zd U (n:Int),O ga gn gc,O sa sn sc,O ya yn yc,O oa on oc,O va vn vc,O fa fn fc,O ba bn bc,O la ln lc,O ka kn kc])/\Ov w w':=by
 go_enter Tryz.func99,Tryz.ntmps99;go_wp2_with fail;refine bodyPost_ret (v:=zh #[zd U (n:Int),O ga gn gc,O sa sn sc,O ya yn yc,O oa on oc,O va vn vc,O fa fn fc,O ba bn bc,O la ln lc,O ka kn kc]) (by simp [results,Tryz.results99,go_sem]) rfl ⟨rfl,?_⟩;refine Below.alloc ?_ (by simp <;> omega) _
 refine Below.alloc ?_ (by simp <;> omega) _
 exact bA w _
def CJ (gs:List (Int × Int)) (n:Nat) (vs:List (Bool × Lab)):List Lev:=vs.map fun v=>if v.1=true then Ar (Ax gs) n v.2 else A7 n
theorem DG (n:Nat):(A7 n).len n:=⟨by simp [A7],by simp [A7]⟩
theorem Dl (gn:List (Nat × Nat)) (n:Nat) (b:Lab):(Ar gn n b).len n:=⟨AH _ _,AH _ _⟩
structure B1 (n B bw:Nat) (P:List Value) (Ls Fs:List Lev) (v k:Value) (W:World):Prop where
 row:Ad (P++[v,k]) W bw
 fz:∀ j,W.frozen? ⟨bw,j,none⟩=false
 vs:AO n B W v Ls
 fs:AO n B W k Fs
 ap:v.ownBlock=none\/v.ownBlock≠k.ownBlock
 ap2:v.ownBlock≠some bw/\k.ownBlock≠some bw
 ty:∃ cur fr,W.heap[bw]? = some (Obj.cells cur 110 fr)
 lo:B<=bw/\bw < W.heap.size
theorem B1.over {n B bw:Nat} {P:List Value} {Ls Fs:List Lev} {v k:Value} {W W':World} (h1:1<=n) (h:B1 n B bw P Ls Fs v k W) (hb:Ov W W'):B1 n B bw P Ls Fs v k W':=by
 refine ⟨h.row.over hb,fun j=>((An hb).2 _ _ h.lo.2).trans (h.fz j),h.vs.over h1 hb,h.fs.over h1 hb,h.ap,h.ap2,?_,h.lo.1,Nat.lt_of_lt_of_le h.lo.2 hb.size⟩;obtain ⟨b,f,e⟩:=h.ty;exact ⟨b,f,(hb.block _ h.lo.2).trans e⟩
theorem IL {cs:List Value} {w:World} {b j:Nat} {v:Value} (h:Ad cs w b) (hj:j < cs.length):Ad (cs.set j v) (w.setCell ⟨b,j,none⟩ v) b:=by
 intro i u f;by_cases hij:j=i
 ·subst hij
  rw [List.getElem?_set_self hj] at f;injection f with f;subst f;exact World.cell?_setCell_same _ _ _ (h j _ (List.getElem?_eq_getElem hj))
 ·rw [List.getElem?_set_ne hij] at f
  rw [World.cell?_setCell_other _ _ _ _ (by intro e;injection e with k g;exact hij g)];exact h i u f
theorem Cn {w:World} {b j:Nat} {u:Value}:w.grownBy (w.setCell ⟨b,j,none⟩ u) (some b):=
 ⟨rfl,rfl,rfl,by simp [World.setCell],fun k hk hne=>Bn (fun e=>hne (by rw [e])) u⟩
theorem Hv {w w':World} {v:Value} {B:Nat} (h:w.grownBy w' v.ownBlock) (hv:∀ g,v.ownBlock=some g->B<=g) (hB:B<=w.heap.size):Below B w w':=
 ⟨h.os,h.tape,h.output,h.size,fun k hk=>h.block k (by omega) (fun e=>by have:=hv k e.symm;omega)⟩
theorem B1.addV {n B bw:Nat} {P:List Value} {Ls Fs:List Lev} {v k v':Value} {W W':World} {us:List Value} {x y:Value} {l:Lev} (h1:1<=n) (hP:P.length=8) (h:B1 n B bw P Ls Fs v k W) (ho:W.ownsRow B 50 2 v Ls.length us) (hel:∀ i (h:i < Ls.length),∃ x y,us[i*2]? = some x/\us[i*2+1]? = some y/\Fq n W (zh #[x,y]) Ls[i]) (hl:Fq n W (zh #[x,y]) l)
  (ho':W'.ownsRow B 50 2 v' (Ls.length+1) (us++[x,y])) (hg:W.grownBy W' v.ownBlock) (hat:v'.ownBlock=v.ownBlock\/v'.ownBlock=some W.heap.size) :
  B1 n B bw P (Ls++[l]) Fs v' k (W'.setCell ⟨bw,8,none⟩ v')/\Below B W (W'.setCell ⟨bw,8,none⟩ v'):=by
 have M:=B6 h.vs;have hk:=B6 h.fs;have N:∀ g,v.ownBlock=some g->∀ (cur:Array Value) (fr:Nat × Nat),W.heap[g]?≠some (Obj.cells cur 4 fr):=fun g H cur fr E=>by
  obtain ⟨-,S,R,p⟩:=M g H;rw [E] at p;injection p with p;injection p with J F Q;exact absurd F (by decide)
 have s:W'.heap[bw]? = W.heap[bw]?:=hg.block bw h.lo.2 (fun e=>h.ap2.1 e.symm);have t:=AO.snoc h1 h.vs us ho hel hl ho' hg;have G:k.ownBlock=none\/k.ownBlock≠v.ownBlock:=by
  rcases h.ap with e | e
  ·cases hk':k.ownBlock with
   | none=>exact Or.inl rfl
   | some g=>rw [e];exact Or.inr (by simp)
  ·exact Or.inr e.symm
 have C:=h.fs.keep h1 hg G N;have A:∃ cur fr,W'.heap[bw]? = some (Obj.cells cur 110 fr):=by obtain ⟨c,f,e⟩:=h.ty;exact ⟨c,f,s.trans e⟩
 have L:∀ g,some bw=some g->∀ (cur:Array Value) (fr:Nat × Nat),W'.heap[g]?≠some (Obj.cells cur 4 fr):=fun g e cur fr E=>by
  injection e with e;subst e;obtain ⟨c,f,e⟩:=A;rw [E] at e;injection e with e;injection e with J F Q;exact absurd F (by decide)
 have b:v'.ownBlock≠some bw:=by
  rcases hat with e | e
  ·rw [e];exact h.ap2.1
  ·rw [e];intro e;injection e with e;have:=h.lo.2;omega
 have q:Ad (P++[v,k]) W' bw:=fun j u O=>(World.cell?_of_block (a:=⟨bw,j,none⟩) s).trans (h.row j u O);have I:Below B W W':=Hv hg (fun g e=>(M g e).1) (Nat.le_trans h.lo.1 (Nat.le_of_lt h.lo.2));refine ⟨⟨?_,fun j=>?_,t.keep h1 Cn (Or.inr b) L,C.keep h1 Cn (Or.inr h.ap2.2) L,?_,⟨b,h.ap2.2⟩,?_,h.lo.1,?_⟩,I.setCell h.lo.1 _⟩
 ·have:=IL (j:=8) (v:=v') q (by simp [hP])
  rw [List.set_append,if_neg (by omega)] at this;simpa [hP] using this
 ·have J:(W'.setCell ⟨bw,8,none⟩ v').frozen? ⟨bw,j,none⟩=W'.frozen? ⟨bw,j,none⟩:=by simp [go_sem]
  rw [J,World.frozen?_of_block (a:=⟨bw,j,none⟩) s];exact h.fz j
 ·rcases hat with e | e
  ·rw [e];exact h.ap
  ·rw [e]
   refine Or.inr fun F=>?_;obtain ⟨-,c,f,E⟩:=hk _ F.symm;have:=(Array.getElem?_eq_some_iff.1 E).1;omega
 ·obtain ⟨c,f,e⟩:=A
  refine ⟨c.setIfInBounds 8 v',f,?_⟩;simp [World.setCell,Array.getElem?_modify,e]
 ·have:=hg.size
  have:=h.lo.2;simp [World.setCell];omega
theorem B1.addF {n B bw:Nat} {P:List Value} {Ls Fs:List Lev} {v k v':Value} {W W':World} {us:List Value} {x y:Value} {l:Lev} (h1:1<=n) (hP:P.length=8) (h:B1 n B bw P Ls Fs v k W) (ho:W.ownsRow B 50 2 k Fs.length us) (hel:∀ i (h:i < Fs.length),∃ x y,us[i*2]? = some x/\us[i*2+1]? = some y/\Fq n W (zh #[x,y]) Fs[i]) (hl:Fq n W (zh #[x,y]) l)
  (ho':W'.ownsRow B 50 2 v' (Fs.length+1) (us++[x,y])) (hg:W.grownBy W' k.ownBlock) (hat:v'.ownBlock=k.ownBlock\/v'.ownBlock=some W.heap.size) :
  B1 n B bw P Ls (Fs++[l]) v v' (W'.setCell ⟨bw,9,none⟩ v')/\Below B W (W'.setCell ⟨bw,9,none⟩ v'):=by
 have M:=B6 h.vs;have hk:=B6 h.fs;have L:∀ g,k.ownBlock=some g->∀ (cur:Array Value) (fr:Nat × Nat),W.heap[g]?≠some (Obj.cells cur 4 fr):=fun g G cur fr E=>by
  obtain ⟨-,R,Q,p⟩:=hk g G;rw [E] at p;injection p with p;injection p with I F O;exact absurd F (by decide)
 have s:W'.heap[bw]? = W.heap[bw]?:=hg.block bw h.lo.2 (fun e=>h.ap2.2 e.symm);have C:=AO.snoc h1 h.fs us ho hel hl ho' hg;have t:=h.vs.keep h1 hg h.ap L;have A:∃ cur fr,W'.heap[bw]? = some (Obj.cells cur 110 fr):=by obtain ⟨c,f,e⟩:=h.ty;exact ⟨c,f,s.trans e⟩
 have J:∀ g,some bw=some g->∀ (cur:Array Value) (fr:Nat × Nat),W'.heap[g]?≠some (Obj.cells cur 4 fr):=fun g e cur fr E=>by
  injection e with e;subst e;obtain ⟨c,f,e⟩:=A;rw [E] at e;injection e with e;injection e with I F O;exact absurd F (by decide)
 have b:v'.ownBlock≠some bw:=by
  rcases hat with e | e
  ·rw [e];exact h.ap2.2
  ·rw [e];intro e;injection e with e;have:=h.lo.2;omega
 have q:Ad (P++[v,k]) W' bw:=fun j u N=>(World.cell?_of_block (a:=⟨bw,j,none⟩) s).trans (h.row j u N);have H:Below B W W':=Hv hg (fun g e=>(hk g e).1) (Nat.le_trans h.lo.1 (Nat.le_of_lt h.lo.2));refine ⟨⟨?_,fun j=>?_,t.keep h1 Cn (Or.inr h.ap2.1) J,C.keep h1 Cn (Or.inr b) J,?_,⟨h.ap2.1,b⟩,?_,h.lo.1,?_⟩,H.setCell h.lo.1 _⟩
 ·have:=IL (j:=9) (v:=v') q (by simp [hP])
  rw [List.set_append,if_neg (by omega)] at this;simpa [hP] using this
 ·have I:(W'.setCell ⟨bw,9,none⟩ v').frozen? ⟨bw,j,none⟩=W'.frozen? ⟨bw,j,none⟩:=by simp [go_sem]
  rw [I,World.frozen?_of_block (a:=⟨bw,j,none⟩) s];exact h.fz j
 ·rcases hat with e | e
  ·rw [e];exact h.ap
  ·rw [e]
   refine Or.inr fun F=>?_;obtain ⟨-,c,f,E⟩:=M _ F;have:=(Array.getElem?_eq_some_iff.1 E).1;omega
 ·obtain ⟨c,f,e⟩:=A
  refine ⟨c.setIfInBounds 9 v',f,?_⟩;simp [World.setCell,Array.getElem?_modify,e]
 ·have:=hg.size
  have:=h.lo.2;simp [World.setCell];omega
def EX (W:World) (b:Nat):Prop:=∀ (cur:Array Value) (fr:Nat × Nat),W.heap[b]?≠some (Obj.cells cur 4 fr)
theorem EX.set {W:World} {b b' j:Nat} {u:Value} (h:EX W b):EX (W.setCell ⟨b',j,none⟩ u) b:=by
 intro i k g;by_cases hb:b'=b
 ·subst hb
  simp only [World.setCell,Array.getElem?_modify,if_true] at g
  cases ho:W.heap[b']? with
  | none=>rw [ho] at g;simp at g
  | some o=>
   rw [ho] at g
   cases o with
   | cells c e f=>
    simp at g;obtain ⟨-,rfl,-⟩:=g;exact h _ _ ho
   | _=>simp at g
 ·rw [Bn hb] at g
  exact h i k g
theorem AO.setLow {n B:Nat} {W:World} {v:Value} {Ls:List Lev} (h1:1<=n) (h:AO n B W v Ls) {b j:Nat} {u:Value} (hb:b < B) (hn:EX W b):AO n B (W.setCell ⟨b,j,none⟩ u) v Ls:=
 h.keep h1 Cn (by
  cases hv:v.ownBlock with
  | none=>exact Or.inl rfl
  | some g=>
   refine Or.inr fun e=>?_;injection e with e;have:=(B6 h g hv).1;omega) (fun g e=>by injection e with e;subst e;exact hn)
theorem AO.low {n B B':Nat} {W:World} {v:Value} {Ls:List Lev} (h:AO n B W v Ls) (hb:B'<=B):AO n B' W v Ls:=by
 obtain ⟨e,f,b⟩:=h;exact ⟨e,Cb f hb,b⟩
def setN (b:Nat):List Value->Nat->World->World
 | [],_,W=>W
 | u::us,j,W=>setN b us (j+1) (W.setCell ⟨b,j,none⟩ u)
theorem AO.setN {n B b:Nat} {v:Value} {Ls:List Lev} (h1:1<=n) (hb:b < B):∀ (us:List Value) (j:Nat) (W:World),AO n B W v Ls->EX W b->AO n B (setN b us j W) v Ls
 | [],_,_,h,_=>h
 | u::us,j,W,h,hn=>AO.setN h1 hb us (j+1) _ (h.setLow h1 hb hn) hn.set
theorem H8 {B b:Nat} {w:World} (hb:B<=b):∀ (us:List Value) (j:Nat) (W:World),Below B w W->Below B w (setN b us j W)
 | [],_,_,h=>h
 | u::us,j,W,h=>H8 hb us (j+1) _ (h.setCell hb u)
theorem B1.box {n B bw:Nat} {P:List Value} {Ls Fs:List Lev} {v k:Value} {W:World} {b j:Nat} {u:Value} (h1:1<=n) (h:B1 n B bw P Ls Fs v k W) (hb:b≠bw) (hv:v.ownBlock≠some b) (hk:k.ownBlock≠some b) (hn:EX W b):B1 n B bw P Ls Fs v k (W.setCell ⟨b,j,none⟩ u):=by
 have l:(W.setCell ⟨b,j,none⟩ u).heap[bw]? = W.heap[bw]?:=Bn hb u;refine ⟨fun i x p=>(World.cell?_of_block (a:=⟨bw,i,none⟩) l).trans (h.row i x p),fun i=>(World.frozen?_of_block (a:=⟨bw,i,none⟩) l).trans (h.fz i),h.vs.keep h1 Cn (Or.inr hv) (fun g e=>by injection e with e;subst e;exact hn),h.fs.keep h1 Cn (Or.inr hk) (fun g e=>by injection e with e;subst e;exact hn),h.ap,h.ap2,?_,h.lo.1,by simpa [World.setCell] using h.lo.2⟩;obtain ⟨c,f,e⟩:=h.ty;exact ⟨c,f,l.trans e⟩
theorem NK {gs:List (Int × Int)} {n:Nat} {vs:List (Bool × Lab)} {j:Nat} (h:j < vs.length):CJ gs n (vs.take (j+1))=CJ gs n (vs.take j)++[if vs[j].1=true then Ar (Ax gs) n vs[j].2 else A7 n]:=by
 unfold CJ;rw [List.take_succ_eq_append_getElem h,List.map_append];rfl
theorem Ke {W:World} {cs:Array Value} {T:Nat} (h:T≠4):EX (W.alloc (.cells cs T)) W.heap.size:=by
 intro f g b;rw [Bl] at b;injection b with b;injection b with k e i;exact h e
theorem EX.over {W W':World} {b:Nat} (h:EX W b) (hb:Ov W W') (hlt:b < W.heap.size):EX W' b:=fun cur fr he=>h cur fr ((hb.block b hlt) ▸ he)
theorem EG {ops:Array Oper} {o:Oper} {a:Act} {W:World} {K:Act->World->Prop} {Q:Exit->Act->World->Prop} {E:Prop} (hg:o.guard=none) (s x:Operand) (t:TypeId) (hop:o.op=Op.call { callee:=Callee.builtin Builtin.append,args:=#[s,x],argTypes:=#[t,t] }) (v u v':Value) (W':World) (hs:a.eval s=v) (hx:a.eval x=u)
  (hr:(Builtin.append_ #[t,t] o.type #[v,u]).run Tryz.prog W=.ok v' W') (h:K (a.put o.dst v') W'):if Region.wanted o (yielded ops a.tmps)=true then Oper.wp Tryz.prog o a W K Q else E:=by
 have hw:Region.wanted o (yielded ops a.tmps)=true:=by simp [Region.wanted,hg]
 rw [if_pos hw];unfold Oper.wp execOp;simp only [hop,resolve,invoke,builtin,Sem.run_bind,Sem.run_pure,Result.andThen_ok,List.map_toArray,List.map_cons,List.map_nil,hs,hx,hr];exact h
theorem Sv (n:Nat) (h1:1<=n) (h6:n<=6) (ga gn gc) (sa sn sc ya yn yc oa on oc) (va vn vc) (fa:Option Addr) (fn fc:Nat) (ba bn bc gs vs) (w:World) (hg:AA w (O ga gn gc) gs) (hE:AR n gs=0) (hv:Bs w (O va vn vc) vs) (hvc:∀ v∈vs,Bb n gs v.2=0) (h16:vs.length<=16) (hf5:fn<=5) :
  Calls Tryz.prog 54 #[zh #[zd U (n:Int),O ga gn gc,O sa sn sc,O ya yn yc,O oa on oc,O va vn vc,O fa fn fc,O ba bn bc]] w fun e w'=>∃ la ln lc ka kn2 kc,e=zj (zh #[zd U (n:Int),O ga gn gc,O sa sn sc,O ya yn yc,O oa on oc,O va vn vc,O fa fn fc,O ba bn bc,O la ln lc,O ka kn2 kc])/\AO n w.heap.size w' (O la ln lc) (CJ gs n vs)/\AO n w.heap.size w' (O ka kn2 kc) (List.replicate fn (A7 n))/\(Value.ownBlock (O la ln lc)=none\/Value.ownBlock (O la ln lc)≠Value.ownBlock (O ka kn2 kc))/\Ov w w':=by
 obtain ⟨i0,hi,bs,br,bq⟩:=info_parts Tryz.infoLv;have dz:Ov w ((w.alloc (ze #[zd U (n:Int),O ga gn gc,O sa sn sc,O ya yn yc,O oa on oc,O va vn vc,O fa fn fc,O ba bn bc] 31)).alloc (ze #[zd U 0,O none 0 0,O none 0 0,O none 0 0,O none 0 0,O none 0 0,O none 0 0,O none 0 0,O none 0 0,O none 0 0] 110)):=(bA w _).alloc (by simp) _;have KW:=Aa (Je n ga gn gc sa sn sc ya yn yc oa on oc va vn vc fa fn fc ba bn bc none 0 0 none 0 0 ((w.alloc (ze #[zd U (n:Int),O ga gn gc,O sa sn sc,O ya yn yc,O oa on oc,O va vn vc,O fa fn fc,O ba bn bc] 31)).alloc (ze #[zd U 0,O none 0 0,O none 0 0,O none 0 0,O none 0 0,O none 0 0,O none 0 0,O none 0 0,O none 0 0,O none 0 0] 110)));have KB:=Aa fun (la:Option Addr) (ln lc:Nat) (ka:Option Addr) (kn kc:Nat) W=>ET n h1 h6 ga gn gc sa sn sc ya yn yc oa on oc va vn vc fa fn fc ba bn bc la ln lc ka kn kc W;have KL:=Aa fun (la:Option Addr) (ln lc:Nat) (ka:Option Addr) (kn kc:Nat) (pr pw:Value) (bl:Lab) W (hb:Ov w W) (h2:AL W pr bl.r) (h3:AL W pw bl.w) (h4:Bb n gs bl=0)=>LN (n:Int) ga gn gc sa sn sc ya yn yc oa on oc va vn vc fa fn fc ba bn bc la ln lc ka kn kc gs pr pw bl W (Af hg hb) h2 h3 h4;have bo:Ad [zd U (n:Int),O ga gn gc,O sa sn sc,O ya yn yc,O oa on oc,O va vn vc,O fa fn fc,O ba bn bc] ((w.alloc (ze #[zd U (n:Int),O ga gn gc,O sa sn sc,O ya yn yc,O oa on oc,O va vn vc,O fa fn fc,O ba bn bc] 31)).alloc (ze #[zd U 0,O none 0 0,O none 0 0,O none 0 0,O none 0 0,O none 0 0,O none 0 0,O none 0 0,O none 0 0,O none 0 0] 110)) w.heap.size:=(Ad.new [zd U (n:Int),O ga gn gc,O sa sn sc,O ya yn yc,O oa on oc,O va vn vc,O fa fn fc,O ba bn bc] 31 w).over (bA _ _);have di:=Aa dz;have dd:=Aa bo;have HV:=Aa hv;have gk:=Aa hvc;have du:vn=vs.length:=by obtain ⟨-,a,c,he,-⟩:=hv;injection he
 have fp:vn<=16:=by omega
 have e6:=Aa du;obtain ⟨V0,a8⟩:=nm (((w.alloc (ze #[zd U (n:Int),O ga gn gc,O sa sn sc,O ya yn yc,O oa on oc,O va vn vc,O fa fn fc,O ba bn bc] 31)).alloc (ze #[zd U 0,O none 0 0,O none 0 0,O none 0 0,O none 0 0,O none 0 0,O none 0 0,O none 0 0,O none 0 0,O none 0 0] 110)));have dv:V0.heap.size=w.heap.size+1+1:=by rw [a8];simp
 rw [<-a8] at di dd;have dc:=Aa dv;have aa:Hx (∀ W,Below (w.heap.size+1+1) V0 W->(w.heap.size+1+1)<=W.heap.size):=fun W h=>by have:=h.size;rw [dc.o] at this;exact this
 have dq:EX V0 (w.heap.size+1):=by
  rw [a8];have:=Ke (W:=w.alloc (ze #[zd U (n:Int),O ga gn gc,O sa sn sc,O ya yn yc,O oa on oc,O va vn vc,O fa fn fc,O ba bn bc] 31)) (cs:=#[zd U 0,O none 0 0,O none 0 0,O none 0 0,O none 0 0,O none 0 0,O none 0 0,O none 0 0,O none 0 0,O none 0 0]) (T:=110) (by decide);simpa using this
 have zr:Ad [zd U 0,O none 0 0,O none 0 0,O none 0 0,O none 0 0,O none 0 0,O none 0 0,O none 0 0,O none 0 0,O none 0 0] V0 (w.heap.size+1):=by
  rw [a8];have:=Ad.new [zd U 0,O none 0 0,O none 0 0,O none 0 0,O none 0 0,O none 0 0,O none 0 0,O none 0 0,O none 0 0,O none 0 0] 110 (w.alloc (ze #[zd U (n:Int),O ga gn gc,O sa sn sc,O ya yn yc,O oa on oc,O va vn vc,O fa fn fc,O ba bn bc] 31));simpa using this
 have zf:∀ j,V0.frozen? ⟨w.heap.size+1,j,none⟩=false:=fun j=>by rw [a8];simp [go_sem]
 have gj:=Aa dq;have ZR:=Aa zr;have ZF:=Aa zf;obtain ⟨c0,c1,c2,c3,c4,c5,c6,c7⟩:=rc8 bo;clear dz bo hv hvc hg hE du dv dq zr zf;go_enter Tryz.func54,Tryz.ntmps54;go_wp2_with fail;refine (KW.o).mono ?_;rintro e w1 ⟨rfl,bz⟩;rw [<-a8] at bz;have bx:=bA w1 (ze #[zd U (n:Int),O ga gn gc,O sa sn sc,O ya yn yc,O oa on oc,O va vn vc,O fa fn fc,O ba bn bc,O none 0 0,O none 0 0] 110);have cu:Below (w.heap.size+1+1) V0 (w1.alloc (ze #[zd U (n:Int),O ga gn gc,O sa sn sc,O ya yn yc,O oa on oc,O va vn vc,O fa fn fc,O ba bn bc,O none 0 0,O none 0 0] 110)):=by rw [<-dc.o];exact Ac bz bx
 have ed:B1 n (w.heap.size+1+1) w1.heap.size [zd U (n:Int),O ga gn gc,O sa sn sc,O ya yn yc,O oa on oc,O va vn vc,O fa fn fc,O ba bn bc] [] [] (O none 0 0) (O none 0 0) (w1.alloc (ze #[zd U (n:Int),O ga gn gc,O sa sn sc,O ya yn yc,O oa on oc,O va vn vc,O fa fn fc,O ba bn bc,O none 0 0,O none 0 0] 110)):=by
  refine ⟨Ad.new [zd U (n:Int),O ga gn gc,O sa sn sc,O ya yn yc,O oa on oc,O va vn vc,O fa fn fc,O ba bn bc,O none 0 0,O none 0 0] 110 w1,fun j=>by simp [go_sem],Gs _ _ _,Gs _ _ _,Or.inl rfl,⟨by simp [Value.ownBlock],by simp [Value.ownBlock]⟩,⟨_,_,Bl _ _⟩,?_,by simp⟩;have:=bz.size;rw [dc.o] at this;exact this
 have gv:=Aa ed;have fg:=Aa cu;have b0:=dd.o.over (Ac bz bx);have g8:=Aa b0;clear c0 c1 c2 c3 c4 c5 c6 c7 KW bz bx cu ed a8;obtain ⟨c0,c1,c2,c3,c4,c5,c6,c7⟩:=rc8 b0;clear b0;go_wp2_with fail;go_loopw [13] (fun x wr=>∃ (j:Nat) (la:Option Addr) (ln lc:Nat),j<=vn/\x=zd U j/\B1 n (w.heap.size+1+1) w1.heap.size [zd U (n:Int),O ga gn gc,O sa sn sc,O ya yn yc,O oa on oc,O va vn vc,O fa fn fc,O ba bn bc] (CJ gs n (vs.take j)) [] (O la ln lc) (O none 0 0) wr/\Below (w.heap.size+1+1) V0 wr) (fun x _=>vn - (intOf x).toNat)
 case atStart=>exact ⟨0,none,0,0,Nat.zero_le _,rfl,gv.o,fg.o⟩
 case round=>
  clear c0 c1 c2 c3 c4 c5 c6 c7;obtain ⟨j,la,ln,lc,hj,rfl,hL,hB⟩:=hrel;have av:=di.o.trans (hB.mono (by omega));have cx:Ad [zd U (n:Int),O ga gn gc,O sa sn sc,O ya yn yc,O oa on oc,O va vn vc,O fa fn fc,O ba bn bc] wr w.heap.size:=fun i u hu=>(hB.cell (p:=⟨w.heap.size,i,none⟩) (by simp <;> omega)).trans (dd.o i u hu)
  by_cases hlt:j < vn
  ·have ax:j < vs.length:=by rw [<-e6.o];exact hlt
   obtain ⟨-,hh,hf,fq,bh⟩:=HV.o;injection fq with x1 x2 x3;obtain ⟨bv,ov,dt,bh⟩:=bh (by intro h;rw [h] at ax;simp at ax);obtain ⟨pr,pw,g0,g1,g2,cm,cl⟩:=bh j ax;have ft:va=some ⟨bv,ov,none⟩:=x1.trans dt;subst ft;obtain ⟨b1,b2,b3,rfl⟩:=Az cm;obtain ⟨b4,b5,b6,rfl⟩:=Az cl;obtain ⟨g0,g1,g2⟩:=co3 av g0 g1 g2;have cr:=Aa (NK (gs:=gs) (n:=n) ax);obtain ⟨kn,dx⟩:=nm (vs[j].1);obtain ⟨lb,cy⟩:=nm (vs[j].2);rw [<-dx] at g0 cr;rw [<-cy] at cm cl cr;have fe:=Aa (gk.o vs[j] (List.getElem_mem ax));rw [<-cy] at fe;have bk:=bA wr (ze #[zg kn,O b1 b2 b3,O b4 b5 b6] 41);have da:=hL.over h1 bk;have ao:=Ad.new [zg kn,O b1 b2 b3,O b4 b5 b6] 41 wr;have bm:=Aa (KB.o la ln lc none 0 0 (wr.alloc (ze #[zg kn,O b1 b2 b3,O b4 b5 b6] 41)));have ef:=hB.trans (bk.mono (aa.o _ hB));have cp:=Aa da;have dh:=Aa ef;have e7:=Aa ao;have e9:=Aa (Ak cm (av.trans (bk.mono av.size)));have e8:=Aa (Ak cl (av.trans (bk.mono av.size)));have cd:=Aa (av.trans (bk.mono av.size));have hr:(j:Int) < (vn:Int):=by omega
   obtain ⟨d0,d1,d2,d3,d4,d5,d6,d7,d8,d9⟩:=Ch da.row;obtain ⟨e0,e1,e2⟩:=rc3 ao;clear hL hB av cx bh dt x1 x2 x3 cm cl dx cy bk da ao ef;go_wp2_with fail;refine (bm.o).mono ?_;rintro e C ⟨vj,rfl,H,ab⟩;have af:=Dk H (DG n);obtain ⟨S,R,Q,N,M,L,au⟩:∃ S R Q N M L,vj=zh #[O S R Q,O N M L]:=by
    obtain ⟨x,y,e,-⟩:=Aq H;subst e;obtain ⟨z1,z2,z3,z4,z5,z6,rfl,rfl⟩:=AX (Aq H);exact ⟨_,_,_,_,_,_,rfl⟩
   subst au;have cz:=bA C (ze #[O S R Q,O N M L] 50);have ae:=Ac ab cz;have ec:=cp.o.over h1 ae;have gl:=Aa (af.over h1 cz);have ee:=dh.o.trans (ae.mono (aa.o _ dh.o));have bp:=Ad.new [O S R Q,O N M L] 50 C;have ao:=e7.o.over ae;have co:=Aa ec;have dg:=Aa ee;have h8:=Aa bp;have gq:=Aa (Ak e9.o ae);have gp:=Aa (Ak e8.o ae);have ff:=Aa (cd.o.trans (ae.mono cd.o.size));have ca:Hx (Value.ownBlock (O la ln lc)≠some C.heap.size/\C.heap.size≠w1.heap.size/\w1.heap.size < C.heap.size):=by
    have h3:=ab.size;have h4:=cp.o.lo.2;refine ⟨fun e=>?_,by omega,by omega⟩;obtain ⟨-,c,f,he⟩:=B6 cp.o.vs _ e;have:=(Array.getElem?_eq_some_iff.1 he).1;omega
   have gt:=Aa (Ke (W:=C) (cs:=#[O S R Q,O N M L]) (T:=50) (by decide));clear d0 d1 d2 d3 d4 d5 d6 d7 d8 d9 e0 e1 e2 H ab af cz ae ec ee bm cp dh e7 e9 e8 cd;obtain ⟨d0,d1,d2,d3,d4,d5,d6,d7,d8,d9⟩:=Ch co.o.row;obtain ⟨e0,e1,e2⟩:=rc3 ao;obtain ⟨f0,f1⟩:=rc2 bp;clear bp ao
   cases kn with
   | false=>
    have de:=co;have cc:=dg;have HT:=gl;have G:=(Below.refl _ (C.alloc (ze #[O S R Q,O N M L] 50))).alloc (Nat.le_refl _) (ze #[O S R Q,O N M L] 50);have s:=de.o.over h1 G;have hN:=Ad.new [O S R Q,O N M L] 50 (C.alloc (ze #[O S R Q,O N M L] 50));have bt:(C.alloc (ze #[O S R Q,O N M L] 50)).heap.size=(C.heap.size+1):=by simp
    rw [bt] at hN;have HN:=Aa hN;clear hN bt;obtain ⟨us,E,J⟩:=s.vs;have cb:=Aa J;have az:=Aa E;have db:=Aa (HT.o.over h1 G);have aw:=Aa s;have df:=Aa (show (w.heap.size+1+1)<=((C.alloc (ze #[O S R Q,O N M L] 50)).alloc (ze #[O S R Q,O N M L] 50)).heap.size by have:=s.lo;omega);have dw:(CJ gs n (vs.take j)).length<=16:=by simp [CJ];omega
    have an:=Aa (cc.o.trans (G.mono (aa.o _ cc.o)));have dN:=s.row 8 _ rfl;have fN:=s.fz 8;clear G s J;go_wp2_with (at_builtin;refine wpList_append_own_at _ rfl _ _ 42 rfl (w.heap.size+1+1) 50 i0 (zh #[O none 0 0,O none 0 0]) 2 48 Tryz.underlying42 hi bs br bq rfl (by decide) _ _ _ rfl az.o ⟨(C.heap.size+1),0,none⟩ 1 1 [O S R Q,O N M L] rfl rfl (fun jj u hu=>by rw [Addr.add_lit,Nat.zero_add];exact HN.o jj u hu) (by simp [Value.oneCell']) (by unfold maxLen;omega) (by omega) df.o ?_);intro v2 w2 t A _ Z;obtain ⟨al,aj,ak,rfl⟩:=AE t;have I:=B1.addV h1 rfl aw.o az.o cb.o db.o t A (by simpa using Z);have d2:=A.cell dN (fun hx=>aw.o.ap2.1 hx.symm);have f2:w2.frozen? ⟨w1.heap.size,8,none⟩=false:=(World.frozen?_of_block (a:=⟨w1.heap.size,8,none⟩) (A.block w1.heap.size aw.o.lo.2 (fun hx=>aw.o.ap2.1 hx.symm))).trans fN;have F:=Aa I;clear I t A Z E dN fN;go_wp2_with fail;refine ⟨⟨j+1,al,aj,ak,by omega,by go_num,by rw [cr.o];exact F.o.1,an.o.trans F.o.2⟩,by simp [intOf];omega⟩
   | true=>
    have e5:=Aa (KL.o la ln lc none 0 0 _ _ lb _ ff.o gq.o gp.o fe.o);go_wp2_with fail;refine (e5.o).mono ?_;rintro e W5 ⟨vj,rfl,H,a7⟩;have bi:A1 (C.alloc (ze #[O S R Q,O N M L] 50)) W5 vj (Ar (Ax gs) n lb):=by simpa using H
    have ea:=Dk bi (Dl _ n lb);obtain ⟨m1,m2,m3,m4,m5,m6,au⟩:∃ S R Q N M L,vj=zh #[O S R Q,O N M L]:=by
     obtain ⟨x,y,e,-⟩:=Aq bi;subst e;obtain ⟨z1,z2,z3,z4,z5,z6,rfl,rfl⟩:=AX (Aq bi);exact ⟨_,_,_,_,_,_,rfl⟩
    subst au;have bu:C.heap.size < (C.alloc (ze #[O S R Q,O N M L] 50)).heap.size:=by simp
    have cj:=gt.o.over a7 bu;obtain ⟨p0,p1⟩:=co2 a7 f0 f1;have z0:W5.frozen? ⟨C.heap.size,0,none⟩=false:=((An a7).2 _ _ bu).trans (by simp [go_sem]);have z1:W5.frozen? ⟨C.heap.size,1,none⟩=false:=((An a7).2 _ _ bu).trans (by simp [go_sem]);have eb:=co.o.over h1 a7;have c8:=(eb.box (j:=0) (u:=O m1 m2 m3) h1 ca.o.2.1 ca.o.1 (by simp [Value.ownBlock]) cj).box (j:=1) (u:=O m4 m5 m6) h1 ca.o.2.1 ca.o.1 (by simp [Value.ownBlock]) cj.set;have de:=Aa c8;have ct:(w.heap.size+1+1)<=C.heap.size:=by have:=co.o.lo.1;have:=ca.o.2.2;omega
    have cc:=Aa (((dg.o.trans (a7.mono (aa.o _ dg.o))).setCell (p:=⟨C.heap.size,0,none⟩) ct (O m1 m2 m3)).setCell (p:=⟨C.heap.size,1,none⟩) ct (O m4 m5 m6));have HT:=Aa ((ea.keep h1 (fun k b8 fr hk=>(Cn (b:=C.heap.size) (j:=0) (u:=O m1 m2 m3)).block k (Array.getElem?_eq_some_iff.1 hk).1 (fun e=>by injection e with e;subst e;exact cj b8 fr hk))).keep h1 (fun k b8 fr hk=>(Cn (b:=C.heap.size) (j:=1) (u:=O m4 m5 m6)).block k (Array.getElem?_eq_some_iff.1 hk).1 (fun e=>by injection e with e;subst e;exact cj.set b8 fr hk)));have q0:((W5.setCell ⟨C.heap.size,0,none⟩ (O m1 m2 m3)).setCell ⟨C.heap.size,1,none⟩ (O m4 m5 m6)).cell? ⟨C.heap.size,0,none⟩=some (O m1 m2 m3):=by simp [go_sem,p0]
    have q1:((W5.setCell ⟨C.heap.size,0,none⟩ (O m1 m2 m3)).setCell ⟨C.heap.size,1,none⟩ (O m4 m5 m6)).cell? ⟨C.heap.size,1,none⟩=some (O m4 m5 m6):=by simp [go_sem,p1]
    clear d0 d1 d2 d3 d4 d5 d6 d7 d8 d9 e0 e1 e2 f0 f1 e5 H bi ea eb;obtain ⟨d0,d1,d2,d3,d4,d5,d6,d7,d8,d9⟩:=Ch c8.row;clear c8 a7;have G:=(Below.refl _ ((W5.setCell ⟨C.heap.size,0,none⟩ (O m1 m2 m3)).setCell ⟨C.heap.size,1,none⟩ (O m4 m5 m6))).alloc (Nat.le_refl _) (ze #[O m1 m2 m3,O m4 m5 m6] 50);have s:=de.o.over h1 G;have hN:=Ad.new [O m1 m2 m3,O m4 m5 m6] 50 ((W5.setCell ⟨C.heap.size,0,none⟩ (O m1 m2 m3)).setCell ⟨C.heap.size,1,none⟩ (O m4 m5 m6));have bt:((W5.setCell ⟨C.heap.size,0,none⟩ (O m1 m2 m3)).setCell ⟨C.heap.size,1,none⟩ (O m4 m5 m6)).heap.size=W5.heap.size:=by simp [World.setCell]
    rw [bt] at hN;have HN:=Aa hN;clear hN bt;obtain ⟨us,E,J⟩:=s.vs;have cb:=Aa J;have az:=Aa E;have db:=Aa (HT.o.over h1 G);have aw:=Aa s;have df:=Aa (show (w.heap.size+1+1)<=(((W5.setCell ⟨C.heap.size,0,none⟩ (O m1 m2 m3)).setCell ⟨C.heap.size,1,none⟩ (O m4 m5 m6)).alloc (ze #[O m1 m2 m3,O m4 m5 m6] 50)).heap.size by have:=s.lo;omega);have dw:(CJ gs n (vs.take j)).length<=16:=by simp [CJ];omega
    have an:=Aa (cc.o.trans (G.mono (aa.o _ cc.o)));have dN:=s.row 8 _ rfl;have fN:=s.fz 8;clear G s J;go_wp2_with (at_builtin;refine wpList_append_own_at _ rfl _ _ 42 rfl (w.heap.size+1+1) 50 i0 (zh #[O none 0 0,O none 0 0]) 2 48 Tryz.underlying42 hi bs br bq rfl (by decide) _ _ _ rfl az.o ⟨W5.heap.size,0,none⟩ 1 1 [O m1 m2 m3,O m4 m5 m6] rfl rfl (fun jj u hu=>by rw [Addr.add_lit,Nat.zero_add];exact HN.o jj u hu) (by simp [Value.oneCell']) (by unfold maxLen;omega) (by omega) df.o ?_);intro v2 w2 t A _ Z;obtain ⟨al,aj,ak,rfl⟩:=AE t;have I:=B1.addV h1 rfl aw.o az.o cb.o db.o t A (by simpa using Z);have d2:=A.cell dN (fun hx=>aw.o.ap2.1 hx.symm);have f2:w2.frozen? ⟨w1.heap.size,8,none⟩=false:=(World.frozen?_of_block (a:=⟨w1.heap.size,8,none⟩) (A.block w1.heap.size aw.o.lo.2 (fun hx=>aw.o.ap2.1 hx.symm))).trans fN;have F:=Aa I;clear I t A Z E dN fN;go_wp2_with fail;refine ⟨⟨j+1,al,aj,ak,by omega,by go_num,by rw [cr.o];exact F.o.1,an.o.trans F.o.2⟩,by simp [intOf];omega⟩
  ·have ax:vs.take j=vs:=List.take_of_length_le (by rw [<-e6.o];omega)
   rw [ax] at hL;have HL:=Aa hL;have HB:=Aa hB;obtain ⟨c0,c1,c2,c3,c4,c5,c6,c7⟩:=rc8 cx;clear ax hL hB av cx;go_wp2_with fail;go_loopw [41] (fun x wr=>∃ (q:Nat) (ka:Option Addr) (kn2 kc:Nat),q<=fn/\x=zd U q/\B1 n (w.heap.size+1+1) w1.heap.size [zd U (n:Int),O ga gn gc,O sa sn sc,O ya yn yc,O oa on oc,O va vn vc,O fa fn fc,O ba bn bc] (CJ gs n vs) (List.replicate q (A7 n)) (O la ln lc) (O ka kn2 kc) wr/\Below (w.heap.size+1+1) V0 wr) (fun x _=>fn - (intOf x).toNat)
   case atStart=>exact ⟨0,none,0,0,Nat.zero_le _,rfl,HL.o,HB.o⟩
   case round=>
    clear c0 c1 c2 c3 c4 c5 c6 c7 HL HB;obtain ⟨q,ka,kn2,kc,hq,rfl,hL,hB⟩:=hrel;have HL:=Aa hL;have am:=Aa hB;obtain ⟨d0,d1,d2,d3,d4,d5,d6,d7,d8,d9⟩:=Ch hL.row;have bm:=Aa (KB.o la ln lc ka kn2 kc wr.drew);clear hL hB;by_cases hlt2:q < fn
    ·have hp:(q:Int) < (fn:Int):=by omega
     go_wp2_with fail;refine gS (fun Wz=>True) (trivial) fun g=>?_;refine kT 0 ?_;refine kT 1 ?_;refine kT 2 ?_;refine kT 4 ?_;refine rdB 3 5 rfl (fun K l=>?_) rfl fun K l=>?_
     ·go_simp
      refine xK l trivial fun g=>?_;clear l K;refine rdA 5 rfl fun K l=>?_;go_simp;refine xK l trivial fun g=>?_;clear l K;refine rdA 6 rfl fun K l=>?_;go_simp;refine (bm.o).mono ?_;rintro e C ⟨vj,rfl,H,ab⟩;have af:=Dk H (DG n);obtain ⟨S,R,Q,N,M,L,au⟩:∃ S R Q N M L,vj=zh #[O S R Q,O N M L]:=by
       obtain ⟨x,y,e,-⟩:=Aq H;subst e;obtain ⟨z1,z2,z3,z4,z5,z6,rfl,rfl⟩:=AX (Aq H);exact ⟨_,_,_,_,_,_,rfl⟩
      subst au;have V:=Ac (bD wr) ab;have ag:=HL.o.over h1 V;have ai:=am.o.trans (V.mono (aa.o _ am.o));have x9:=ag.row 9 _ rfl;have G:=bA C (ze #[O S R Q,O N M L] 50);have s:=ag.over h1 G;have hN:=Ad.new [O S R Q,O N M L] 50 C;obtain ⟨us,E,J⟩:=s.fs;have ay:=af.over h1 G;have ah:=ai.trans (G.mono (aa.o _ ai));have y9:=s.row 9 _ rfl;have z9:=s.fz 9;have b7:(w.heap.size+1+1)<=(C.alloc (ze #[O S R Q,O N M L] 50)).heap.size:=aa.o _ ah;obtain ⟨v2,w2,aq,t,A,-,Z⟩:=run_append_own_at (P:=Tryz.prog) (w:=C.alloc (ze #[O S R Q,O N M L] 50)) (w.heap.size+1+1) 42 42 50 i0 (zh #[O none 0 0,O none 0 0]) 2 48 Tryz.underlying42 hi bs br bq rfl (by decide) _ _ _ E ⟨C.heap.size,0,none⟩ 1 1 [O S R Q,O N M L] rfl (fun jj u hu=>by rw [Addr.add_lit,Nat.zero_add];exact hN jj u hu) (by simp [Value.oneCell']) (by unfold maxLen;simp;omega) (by simp;omega) b7;obtain ⟨al,aj,ak,rfl⟩:=AE t;have I:=B1.addF h1 rfl s E J ay t A Z;have d2:=A.cell y9 (fun hx=>s.ap2.2 hx.symm);have f2:w2.frozen? ⟨w1.heap.size,9,none⟩=false:=(World.frozen?_of_block (a:=⟨w1.heap.size,9,none⟩) (A.block w1.heap.size s.lo.2 (fun hx=>s.ap2.2 hx.symm))).trans z9;have F:=Aa I;have an:=Aa ah;clear I t A Z E J ay hN ag ai ab V H af G s ah z9;go_simp;refine xK l trivial fun g=>?_;clear l K;refine rdA 7 rfl fun K l=>?_;go_simp;refine xK l trivial fun g=>?_;clear l K;refine rdA 8 rfl fun K l=>?_;refine EG rfl _ _ _ rfl _ _ _ _ rfl rfl aq ?_;refine xK l trivial fun g=>?_;clear l K;refine rdA 9 rfl fun K l=>?_;go_simp;refine xK l trivial fun g=>?_;clear l K;refine rdA 10 rfl fun K l=>?_;go_simp;refine xK l trivial fun g=>?_;clear l K;refine rdA 11 rfl fun K l=>?_;go_simp;refine xK l trivial fun g=>?_;clear l K;refine rdA 12 rfl fun K l=>?_;go_simp;refine xK l trivial fun g=>?_;clear l K;refine gE ?_;go_wp2_with fail;refine ⟨⟨q+1,al,aj,ak,by omega,by go_num,by rw [List.replicate_succ'];exact F.o.1,an.o.trans F.o.2⟩,by simp [intOf];omega⟩
     ·go_simp
      refine xK l trivial fun g=>?_;clear l K;refine rdB 3 6 rfl (fun K l=>?_) rfl fun K l=>?_
      ·go_simp
       refine xK l trivial fun g=>?_;clear l K;refine rdA 6 rfl fun K l=>?_;go_simp;refine (bm.o).mono ?_;rintro e C ⟨vj,rfl,H,ab⟩;have af:=Dk H (DG n);obtain ⟨S,R,Q,N,M,L,au⟩:∃ S R Q N M L,vj=zh #[O S R Q,O N M L]:=by
        obtain ⟨x,y,e,-⟩:=Aq H;subst e;obtain ⟨z1,z2,z3,z4,z5,z6,rfl,rfl⟩:=AX (Aq H);exact ⟨_,_,_,_,_,_,rfl⟩
       subst au;have V:=Ac (bD wr) ab;have ag:=HL.o.over h1 V;have ai:=am.o.trans (V.mono (aa.o _ am.o));have x9:=ag.row 9 _ rfl;have G:=bA C (ze #[O S R Q,O N M L] 50);have s:=ag.over h1 G;have hN:=Ad.new [O S R Q,O N M L] 50 C;obtain ⟨us,E,J⟩:=s.fs;have ay:=af.over h1 G;have ah:=ai.trans (G.mono (aa.o _ ai));have y9:=s.row 9 _ rfl;have z9:=s.fz 9;have b7:(w.heap.size+1+1)<=(C.alloc (ze #[O S R Q,O N M L] 50)).heap.size:=aa.o _ ah;obtain ⟨v2,w2,aq,t,A,-,Z⟩:=run_append_own_at (P:=Tryz.prog) (w:=C.alloc (ze #[O S R Q,O N M L] 50)) (w.heap.size+1+1) 42 42 50 i0 (zh #[O none 0 0,O none 0 0]) 2 48 Tryz.underlying42 hi bs br bq rfl (by decide) _ _ _ E ⟨C.heap.size,0,none⟩ 1 1 [O S R Q,O N M L] rfl (fun jj u hu=>by rw [Addr.add_lit,Nat.zero_add];exact hN jj u hu) (by simp [Value.oneCell']) (by unfold maxLen;simp;omega) (by simp;omega) b7;obtain ⟨al,aj,ak,rfl⟩:=AE t;have I:=B1.addF h1 rfl s E J ay t A Z;have d2:=A.cell y9 (fun hx=>s.ap2.2 hx.symm);have f2:w2.frozen? ⟨w1.heap.size,9,none⟩=false:=(World.frozen?_of_block (a:=⟨w1.heap.size,9,none⟩) (A.block w1.heap.size s.lo.2 (fun hx=>s.ap2.2 hx.symm))).trans z9;have F:=Aa I;have an:=Aa ah;clear I t A Z E J ay hN ag ai ab V H af G s ah z9;go_simp;refine xK l trivial fun g=>?_;clear l K;refine rdA 7 rfl fun K l=>?_;go_simp;refine xK l trivial fun g=>?_;clear l K;refine rdA 8 rfl fun K l=>?_;refine EG rfl _ _ _ rfl _ _ _ _ rfl rfl aq ?_;refine xK l trivial fun g=>?_;clear l K;refine rdA 9 rfl fun K l=>?_;go_simp;refine xK l trivial fun g=>?_;clear l K;refine rdA 10 rfl fun K l=>?_;go_simp;refine xK l trivial fun g=>?_;clear l K;refine rdA 11 rfl fun K l=>?_;go_simp;refine xK l trivial fun g=>?_;clear l K;refine rdA 12 rfl fun K l=>?_;go_simp;refine xK l trivial fun g=>?_;clear l K;refine gE ?_;go_wp2_with fail;refine ⟨⟨q+1,al,aj,ak,by omega,by go_num,by rw [List.replicate_succ'];exact F.o.1,an.o.trans F.o.2⟩,by simp [intOf];omega⟩
      ·go_simp
       refine (bm.o).mono ?_;rintro e C ⟨vj,rfl,H,ab⟩;have af:=Dk H (DG n);obtain ⟨S,R,Q,N,M,L,au⟩:∃ S R Q N M L,vj=zh #[O S R Q,O N M L]:=by
        obtain ⟨x,y,e,-⟩:=Aq H;subst e;obtain ⟨z1,z2,z3,z4,z5,z6,rfl,rfl⟩:=AX (Aq H);exact ⟨_,_,_,_,_,_,rfl⟩
       subst au;have V:=Ac (bD wr) ab;have ag:=HL.o.over h1 V;have ai:=am.o.trans (V.mono (aa.o _ am.o));have x9:=ag.row 9 _ rfl;have G:=bA C (ze #[O S R Q,O N M L] 50);have s:=ag.over h1 G;have hN:=Ad.new [O S R Q,O N M L] 50 C;obtain ⟨us,E,J⟩:=s.fs;have ay:=af.over h1 G;have ah:=ai.trans (G.mono (aa.o _ ai));have y9:=s.row 9 _ rfl;have z9:=s.fz 9;have b7:(w.heap.size+1+1)<=(C.alloc (ze #[O S R Q,O N M L] 50)).heap.size:=aa.o _ ah;obtain ⟨v2,w2,aq,t,A,-,Z⟩:=run_append_own_at (P:=Tryz.prog) (w:=C.alloc (ze #[O S R Q,O N M L] 50)) (w.heap.size+1+1) 42 42 50 i0 (zh #[O none 0 0,O none 0 0]) 2 48 Tryz.underlying42 hi bs br bq rfl (by decide) _ _ _ E ⟨C.heap.size,0,none⟩ 1 1 [O S R Q,O N M L] rfl (fun jj u hu=>by rw [Addr.add_lit,Nat.zero_add];exact hN jj u hu) (by simp [Value.oneCell']) (by unfold maxLen;simp;omega) (by simp;omega) b7;obtain ⟨al,aj,ak,rfl⟩:=AE t;have I:=B1.addF h1 rfl s E J ay t A Z;have d2:=A.cell y9 (fun hx=>s.ap2.2 hx.symm);have f2:w2.frozen? ⟨w1.heap.size,9,none⟩=false:=(World.frozen?_of_block (a:=⟨w1.heap.size,9,none⟩) (A.block w1.heap.size s.lo.2 (fun hx=>s.ap2.2 hx.symm))).trans z9;have F:=Aa I;have an:=Aa ah;clear I t A Z E J ay hN ag ai ab V H af G s ah z9;go_simp;refine xK l trivial fun g=>?_;clear l K;refine rdB 3 7 rfl (fun K l=>?_) rfl fun K l=>?_
       ·go_simp
        refine xK l trivial fun g=>?_;clear l K;refine rdA 7 rfl fun K l=>?_;go_simp;refine xK l trivial fun g=>?_;clear l K;refine rdA 8 rfl fun K l=>?_;refine EG rfl _ _ _ rfl _ _ _ _ rfl rfl aq ?_;refine xK l trivial fun g=>?_;clear l K;refine rdA 9 rfl fun K l=>?_;go_simp;refine xK l trivial fun g=>?_;clear l K;refine rdA 10 rfl fun K l=>?_;go_simp;refine xK l trivial fun g=>?_;clear l K;refine rdA 11 rfl fun K l=>?_;go_simp;refine xK l trivial fun g=>?_;clear l K;refine rdA 12 rfl fun K l=>?_;go_simp;refine xK l trivial fun g=>?_;clear l K;refine gE ?_;go_wp2_with fail;refine ⟨⟨q+1,al,aj,ak,by omega,by go_num,by rw [List.replicate_succ'];exact F.o.1,an.o.trans F.o.2⟩,by simp [intOf];omega⟩
       ·go_simp
        refine xK l trivial fun g=>?_;clear l K;refine rdA 3 rfl fun K l=>?_;go_simp;refine xK l trivial fun g=>?_;clear l K;refine rdA 8 rfl fun K l=>?_;refine EG rfl _ _ _ rfl _ _ _ _ rfl rfl aq ?_;refine xK l trivial fun g=>?_;clear l K;refine rdA 9 rfl fun K l=>?_;go_simp;refine xK l trivial fun g=>?_;clear l K;refine rdA 10 rfl fun K l=>?_;go_simp;refine xK l trivial fun g=>?_;clear l K;refine rdA 11 rfl fun K l=>?_;go_simp;refine xK l trivial fun g=>?_;clear l K;refine rdA 12 rfl fun K l=>?_;go_simp;refine xK l trivial fun g=>?_;clear l K;refine gE ?_;go_wp2_with fail;refine ⟨⟨q+1,al,aj,ak,by omega,by go_num,by rw [List.replicate_succ'];exact F.o.1,an.o.trans F.o.2⟩,by simp [intOf];omega⟩
    ·have fu:fn=q:=by omega
     subst fu;have dp:EX wr (w.heap.size+1):=fun b8 fr he=>gj.o b8 fr ((am.o.block (w.heap.size+1) (by omega)) ▸ he);have ds:Ad [zd U 0,O none 0 0,O none 0 0,O none 0 0,O none 0 0,O none 0 0,O none 0 0,O none 0 0,O none 0 0,O none 0 0] wr (w.heap.size+1):=fun i u hu=>(am.o.cell (p:=⟨w.heap.size+1,i,none⟩) (by simp)).trans (ZR.o i u hu);have ad:∀ j,wr.frozen? ⟨w.heap.size+1,j,none⟩=false:=fun j=>(am.o.frozen (p:=⟨w.heap.size+1,j,none⟩) (by simp)).trans (ZF.o j);obtain ⟨z0,z1,z2,z3,z4,z5,z6,z7,z8,z9⟩:=Ch ds;have f0:=ad 0;have f1:=ad 1;have f2:=ad 2;have f3:=ad 3;have f4:=ad 4;have f5:=ad 5;have f6:=ad 6;have f7:=ad 7;have f8:=ad 8;have f9:=ad 9;have fb:=Aa dp;clear dp ds ad;go_wp2_with fail;refine bodyPost_ret (v:=zh #[zd U (n:Int),O ga gn gc,O sa sn sc,O ya yn yc,O oa on oc,O va vn vc,O fa fn fc,O ba bn bc,O la ln lc,O ka kn2 kc]) (by simp [results,Tryz.results54,go_sem,z0,z1,z2,z3,z4,z5,z6,z7,z8,z9]) rfl ⟨la,ln,lc,ka,kn2,kc,rfl,?_,?_,HL.o.ap,?_⟩
     ·refine AO.low (B:=w.heap.size+1+1) ?_ (by omega)
      exact AO.setN h1 (by omega) [zd U (n:Int),O ga gn gc,O sa sn sc,O ya yn yc,O oa on oc,O va vn vc,O fa fn fc,O ba bn bc,O la ln lc,O ka kn2 kc] 0 wr HL.o.vs fb.o
     ·refine AO.low (B:=w.heap.size+1+1) ?_ (by omega)
      exact AO.setN h1 (by omega) [zd U (n:Int),O ga gn gc,O sa sn sc,O ya yn yc,O oa on oc,O va vn vc,O fa fn fc,O ba bn bc,O la ln lc,O ka kn2 kc] 0 wr HL.o.fs fb.o
     ·exact H8 (by omega) [zd U (n:Int),O ga gn gc,O sa sn sc,O ya yn yc,O oa on oc,O va vn vc,O fa fn fc,O ba bn bc,O la ln lc,O ka kn2 kc] 0 wr (di.o.trans (am.o.mono (by omega)))
def XI (c:WC) (bm:Nat):World->Nat->Prop:=fun _ k=>(∃ a,c.la=some a/\k=a.block)\/(∃ a,c.ka=some a/\k=a.block)\/k=bm
theorem FQ (c) (bm:Nat):XOk (XI c bm):=⟨fun _ _ _ _ h=>h⟩
structure FO (c:WC) (w0:World) (bw bm:Nat):Prop where
 la:∀ a,c.la=some a->a.off=0/\a.spot=none/\w0.heap.size<=a.block/\a.block≠bw/\a.block≠bm
 ka:∀ a,c.ka=some a->a.off=0/\a.spot=none/\w0.heap.size<=a.block/\a.block≠bw/\a.block≠bm
 lk:∀ a b,c.la=some a->c.ka=some b->a.block≠b.block
 m:w0.heap.size<=bm/\bw≠bm
structure Da (c:WC) (w0:World) (nv nf bw bm:Nat) (st:ISt) (W:World):Prop where
 below:Ov w0 W
 vs:A9 c.n (XI c bm) W (O c.la c.ln c.lc) st.vs
 fs:A9 c.n (XI c bm) W (O c.ka c.kn c.kc) st.fs
 lv:st.vs.length=nv
 lf:st.fs.length=nf
 more:W.cell? ⟨bm,0,none⟩=some (zg st.more)
 mz:W.frozen? ⟨bm,0,none⟩=false
 row:Ad c.cs W bw
 hl:∀ a,c.la=some a->a.block < W.heap.size/\∀ j,W.frozen? ⟨a.block,j,none⟩=false
 hk:∀ a,c.ka=some a->a.block < W.heap.size/\∀ j,W.frozen? ⟨a.block,j,none⟩=false
theorem Rp {c:WC} {w0:World} {nv nf bw bm:Nat} {st:ISt} {W:World} (hC:FO c w0 bw bm) (h:Da c w0 nv nf bw bm st W) {W':World} (k:Nat) (hx:XI c bm W' k):k < W.heap.size:=by
 rcases hx with ⟨a,e,rfl⟩ | ⟨a,e,rfl⟩ | rfl
 ·exact (h.hl a e).1
 ·exact (h.hk a e).1
 ·exact bL h.more
theorem Da.over {c:WC} {w0:World} {nv nf bw bm:Nat} {st:ISt} {W W':World} (h:Da c w0 nv nf bw bm st W) (hb:Ov W W'):Da c w0 nv nf bw bm st W':=
 ⟨h.below.trans (hb.mono h.below.size),h.vs.over (FQ c bm) hb,h.fs.over (FQ c bm) hb,h.lv,h.lf,Ab hb _ _ h.more,((An hb).2 _ _ (bL h.more)).trans h.mz,h.row.over hb,
  fun a e=>⟨Nat.lt_of_lt_of_le (h.hl a e).1 hb.size,fun j=>((An hb).2 _ _ (h.hl a e).1).trans ((h.hl a e).2 j)⟩,fun a e=>⟨Nat.lt_of_lt_of_le (h.hk a e).1 hb.size,fun j=>((An hb).2 _ _ (h.hk a e).1).trans ((h.hk a e).2 j)⟩⟩
theorem S2 {c:WC} {w0:World} {nv bw bm:Nat} {fs:List FnD} {gs:List (Int × Int)} (n1:1<=c.n) (n6:c.n<=6) (gr:AA w0 (O c.ga c.gn c.gc) gs) (chk:AR c.n gs=0) (nv16:nv<=16) (hC:FO c w0 bw bm):Fm c w0 nv fs gs ISt.vs ISt.fs (Da c w0 nv fs.length bw bm) (XI c bm):=
 ⟨n1,n6,gr,chk,nv16,fun st W h=>h.below,fun st W h=>⟨h.vs,h.lv⟩,fun st W h=>⟨h.fs,h.lf⟩,fun st W W' h hb=>h.over hb,FQ c bm,fun st W h k hx=>Rp hC h k hx⟩
theorem CM {W:World} {b o b' o':Nat} {u:Value} (h:b≠b'\/o≠o'):(W.setCell ⟨b,o,none⟩ u).cell? ⟨b',o',none⟩=W.cell? ⟨b',o',none⟩:=
 World.cell?_setCell_other _ _ _ _ (by intro e;injection e with e1 e2;rcases h with h | h;exact h e1;exact h e2)
theorem A9.set {n:Nat} {X:World->Nat->Prop} {W W3:World} {b i cap:Nat} {Ls:List Lev} {x y:Value} {l:Lev} (n1:1<=n) (h:A9 n X W (O (some ⟨b,0,none⟩) Ls.length cap) Ls) (hi:i < Ls.length) (hl:Aw n X W3 (zh #[x,y]) l)
  (hF:FrW X W W3) (e0:W3.cell? ⟨b,i*2,none⟩=some x) (e1:W3.cell? ⟨b,i*2+1,none⟩=some y) (hc:∀ j u,j≠i*2->j≠i*2+1->W.cell? ⟨b,j,none⟩=some u->W3.cell? ⟨b,j,none⟩=some u):A9 n X W3 (O (some ⟨b,0,none⟩) Ls.length cap) (Ls.set i l):=by
 obtain ⟨H,p,t,e⟩:=h;injection t with s E C;subst s;refine ⟨some ⟨b,0,none⟩,cap,by simp,fun _=>⟨b,0,rfl,fun j B=>?_⟩⟩;obtain ⟨G,F,f,e⟩:=e (by intro h;rw [h] at hi;simp at hi);injection f with f;injection f with k g;subst k g;simp only [Nat.zero_add] at e ⊢;by_cases hij:i=j
 ·subst hij
  refine ⟨x,y,e0,e1,?_⟩;rw [List.getElem_set_self];exact hl
 ·obtain ⟨rv,q,c0,c1,A⟩:=e j (by simpa using B)
  refine ⟨rv,q,hc _ _ (by omega) (by omega) c0,hc _ _ (by omega) (by omega) c1,?_⟩;rw [List.getElem_set_ne hij];exact A.keep n1 hF
theorem A9.keep {n:Nat} {X:World->Nat->Prop} {W W3:World} {v:Value} {Ls:List Lev} (n1:1<=n) (h:A9 n X W v Ls) (hF:FrW X W W3) (hc:∀ b o ln cp,v=O (some ⟨b,o,none⟩) ln cp->∀ j u,W.cell? ⟨b,j,none⟩=some u->W3.cell? ⟨b,j,none⟩=some u):A9 n X W3 v Ls:=by
 obtain ⟨t,cap,k,e⟩:=h;refine ⟨t,cap,k,fun g=>?_⟩;obtain ⟨b,off,f,e⟩:=e g;refine ⟨b,off,f,fun i hi=>?_⟩;obtain ⟨rv,l,s,q,p⟩:=e i hi;have hk:=hc b off _ _ (by rw [k,f]);exact ⟨rv,l,hk _ _ s,hk _ _ q,p.keep n1 hF⟩
theorem FO.upd {c:WC} {w0:World} {nv nf bw bm b:Nat} {st:ISt} {W W3:World} {i:Bool × Nat} {l:Lev} {x y:Value} (hC:FO c w0 bw bm) (h:Da c w0 nv nf bw bm st W) (hn:1<=c.n/\(if i.1=true then c.la else c.ka)=some ⟨b,0,none⟩) (hb3:Ov W W3) (hl:Aw c.n (XI c bm) W3 (zh #[x,y]) l)
  (h1:i.1=true->i.2 < nv) (h2:i.1=false->i.2 < nf) :
  Da c w0 nv nf bw bm (st.up i l) (((W3.setCell ⟨b,i.2*2,none⟩ x).setCell ⟨b,i.2*2+1,none⟩ y).setCell ⟨bm,0,none⟩ (zg true))/\FrW (XI c bm) W (((W3.setCell ⟨b,i.2*2,none⟩ x).setCell ⟨b,i.2*2+1,none⟩ y).setCell ⟨bm,0,none⟩ (zg true)):=by
 obtain ⟨n1,f⟩:=hn;have g:=h.over hb3;obtain ⟨E,q⟩:∃ E,E=(((W3.setCell ⟨b,i.2*2,none⟩ x).setCell ⟨b,i.2*2+1,none⟩ y).setCell ⟨bm,0,none⟩ (zg true)):=⟨_,rfl⟩;rw [<-q];have ad:XI c bm W3 b:=by
  by_cases hi:i.1=true
  ·rw [if_pos hi] at f;exact Or.inl ⟨_,f,rfl⟩
  ·rw [if_neg hi] at f;exact Or.inr (Or.inl ⟨_,f,rfl⟩)
 have t:b≠bm/\b≠bw/\w0.heap.size<=b:=by
  by_cases hi:i.1=true
  ·rw [if_pos hi] at f;have:=hC.la _ f;exact ⟨this.2.2.2.2,this.2.2.2.1,this.2.2.1⟩
  ·rw [if_neg hi] at f;have:=hC.ka _ f;exact ⟨this.2.2.2.2,this.2.2.2.1,this.2.2.1⟩
 have H:E.heap.size=W3.heap.size:=by rw [q];simp [World.setCell]
 have I:∀ k,k≠b->k≠bm->E.heap[k]? = W3.heap[k]?:=fun k hk Q=>by
  rw [q,Bn (Ne.symm Q),Bn (Ne.symm hk),Bn (Ne.symm hk)]
 have B:FrW (XI c bm) W3 E:=by
  refine ⟨by rw [q];rfl,by rw [q];rfl,by rw [q];rfl,by omega,fun k _ Z=>I k (fun e=>Z (e ▸ ad)) (fun e=>Z (Or.inr (Or.inr e))),fun k _ Z=>Z⟩
 have hF:=(FrW.of_below (FQ c bm) hb3).trans B;have P:∀ b' o' u,b'≠b->b'≠bm->W3.cell? ⟨b',o',none⟩=some u->E.cell? ⟨b',o',none⟩=some u:=fun b' o' u hb Q M=>(World.cell?_of_block (a:=⟨b',o',none⟩) (I b' hb Q)).trans M;have V:∀ j u,j≠i.2*2->j≠i.2*2+1->W3.cell? ⟨b,j,none⟩=some u->E.cell? ⟨b,j,none⟩=some u:=fun j u hj ah M=>by
  rw [q,CM (Or.inl t.1.symm),CM (Or.inr (Ne.symm ah)),CM (Or.inr (Ne.symm hj))];exact M
 have C:∀ b' j,E.frozen? ⟨b',j,none⟩=W3.frozen? ⟨b',j,none⟩:=fun b' j=>by rw [q];simp [go_sem]
 have U:=hl.keep n1 B;have ai:(∃ u,W3.cell? ⟨b,i.2*2,none⟩=some u)/\∃ u,W3.cell? ⟨b,i.2*2+1,none⟩=some u:=by
  by_cases hi:i.1=true
  ·rw [if_pos hi] at f
   have ag:=h1 hi;obtain ⟨ao,cap,G,A⟩:=g.vs;injection G with S R v3;obtain ⟨b',o',s,A⟩:=A (by intro e;have:=g.lv;rw [e] at this;simp at this;omega);rw [<-S,f] at s;injection s with s;injection s with O N;subst O N;obtain ⟨rv,wv,c0,c1,-⟩:=A i.2 (by have:=g.lv;omega);simp only [Nat.zero_add] at c0 c1;exact ⟨⟨_,c0⟩,_,c1⟩
  ·rw [if_neg hi] at f
   have ag:=h2 (by simpa using hi);obtain ⟨ao,cap,G,A⟩:=g.fs;injection G with S R v3;obtain ⟨b',o',s,A⟩:=A (by intro e;have:=g.lf;rw [e] at this;simp at this;omega);rw [<-S,f] at s;injection s with s;injection s with O N;subst O N;obtain ⟨rv,wv,c0,c1,-⟩:=A i.2 (by have:=g.lf;omega);simp only [Nat.zero_add] at c0 c1;exact ⟨⟨_,c0⟩,_,c1⟩
 obtain ⟨⟨u0,af⟩,u1,ae⟩:=ai;have e0:E.cell? ⟨b,i.2*2,none⟩=some x:=by
  rw [q,CM (Or.inl t.1.symm),CM (Or.inr (by omega))];exact World.cell?_setCell_same _ _ _ af
 have e1:E.cell? ⟨b,i.2*2+1,none⟩=some y:=by
  rw [q,CM (Or.inl t.1.symm)];exact World.cell?_setCell_same _ _ _ (u:=u1) (by rw [CM (Or.inr (by omega))];exact ae)
 have J:Ov w0 E:=by
  rw [q];exact ((g.below.setCell (p:=⟨b,i.2*2,none⟩) t.2.2 _).setCell (p:=⟨b,i.2*2+1,none⟩) t.2.2 _).setCell (p:=⟨bm,0,none⟩) hC.m.1 _
 have Q:E.cell? ⟨bm,0,none⟩=some (zg true):=by
  rw [q];exact World.cell?_setCell_same _ _ _ (u:=zg st.more) (by rw [CM (Or.inl t.1),CM (Or.inl t.1)];exact g.more)
 have T:Ad c.cs E bw:=fun j u hu=>P _ _ _ (Ne.symm t.2.1) hC.m.2 (g.row j u hu);refine ⟨?_,hF⟩;by_cases hi:i.1=true
 ·rw [if_pos hi] at f
  have L:st.up i l=⟨st.vs.set i.2 l,st.fs,true⟩:=by unfold ISt.up;rw [if_pos hi]
  rw [L];obtain ⟨ao,cap,G,-⟩:=g.vs;injection G with S R v3;refine ⟨J,?_,g.fs.keep n1 B (fun b' o' ln cp G j u M=>?_),by simpa using g.lv,g.lf,Q,(C _ _).trans g.mz,T,fun a e=>⟨by rw [H];exact (g.hl a e).1,fun j=>(C _ _).trans ((g.hl a e).2 j)⟩,fun a e=>⟨by rw [H];exact (g.hk a e).1,fun j=>(C _ _).trans ((g.hk a e).2 j)⟩⟩
  ·have:=g.vs
   rw [f,R] at this ⊢;exact A9.set n1 this (by have:=h1 hi;have:=g.lv;omega) U B e0 e1 V
  ·injection G with F ac aa
   exact P _ _ _ (fun e=>hC.lk _ _ f F e.symm) (hC.ka _ F).2.2.2.2 M
 ·rw [if_neg hi] at f
  have L:st.up i l=⟨st.vs,st.fs.set i.2 l,true⟩:=by unfold ISt.up;rw [if_neg hi]
  rw [L];obtain ⟨ao,cap,G,-⟩:=g.fs;injection G with S R v3;refine ⟨J,g.vs.keep n1 B (fun b' o' ln cp G j u M=>?_),?_,g.lv,by simpa using g.lf,Q,(C _ _).trans g.mz,T,fun a e=>⟨by rw [H];exact (g.hl a e).1,fun j=>(C _ _).trans ((g.hl a e).2 j)⟩,fun a e=>⟨by rw [H];exact (g.hk a e).1,fun j=>(C _ _).trans ((g.hk a e).2 j)⟩⟩
  ·injection G with F ac aa
   exact P _ _ _ (fun e=>hC.lk _ _ F f e) (hC.la _ F).2.2.2.2 M
  ·have:=g.fs
   rw [f,R] at this ⊢;exact A9.set n1 this (by have:=h2 (by simpa using hi);have:=g.lf;omega) U B e0 e1 V
theorem QL (args:Array Value) (w:World):(callFunc 56 args).run Tryz.prog w=.ok (.enter 56 args) w:=by simp [go_sem]
theorem Da.lev {c:WC} {w0:World} {nv nf bw bm b off:Nat} {st:ISt} {W:World} {i:Bool × Nat} (hC:FO c w0 bw bm) (h:Da c w0 nv nf bw bm st W) (hib:(if i.1=true then c.la else c.ka)=some ⟨b,off,none⟩) (h1:i.1=true->i.2 < nv) (h2:i.1=false->i.2 < nf) :
  off=0/\(b < W.heap.size/\∀ j,W.frozen? ⟨b,j,none⟩=false)/\b≠bw/\b≠bm/\∃ rv wv,W.cell? ⟨b,i.2*2,none⟩=some rv/\W.cell? ⟨b,i.2*2+1,none⟩=some wv/\Aw c.n (XI c bm) W (zh #[rv,wv]) (st.at i):=by
 unfold ISt.at
 by_cases hi:i.1=true
 ·rw [if_pos hi] at hib ⊢
  have y:=h1 hi;have l:=hC.la _ hib;have u:off=0:=l.1;subst u;obtain ⟨F,cap,t,k⟩:=h.vs;injection t with s B A;obtain ⟨E,C,f,k⟩:=k (by intro e;have:=h.lv;rw [e] at this;simp at this;omega);rw [<-s,hib] at f;injection f with f;injection f with q p;subst q p;have g:i.2 < st.vs.length:=by have:=h.lv;omega
  obtain ⟨rv,wv,c0,c1,hl⟩:=k i.2 g;simp only [Nat.zero_add] at c0 c1;refine ⟨rfl,h.hl _ hib,l.2.2.2.1,l.2.2.2.2,rv,wv,c0,c1,?_⟩;have e:st.vs.getD i.2 Ah=st.vs[i.2]:=by simp [List.getD_eq_getElem?_getD,g]
  rw [e];exact hl
 ·rw [if_neg hi] at hib ⊢
  have y:=h2 (by simpa using hi);have l:=hC.ka _ hib;have u:off=0:=l.1;subst u;obtain ⟨F,cap,t,k⟩:=h.fs;injection t with s B A;obtain ⟨E,C,f,k⟩:=k (by intro e;have:=h.lf;rw [e] at this;simp at this;omega);rw [<-s,hib] at f;injection f with f;injection f with q p;subst q p;have g:i.2 < st.fs.length:=by have:=h.lf;omega
  obtain ⟨rv,wv,c0,c1,hl⟩:=k i.2 g;simp only [Nat.zero_add] at c0 c1;refine ⟨rfl,h.hk _ hib,l.2.2.2.1,l.2.2.2.2,rv,wv,c0,c1,?_⟩;have e:st.fs.getD i.2 Ah=st.fs[i.2]:=by simp [List.getD_eq_getElem?_getD,g]
  rw [e];exact hl
abbrev JR (bw:Nat) (c:WC) (W:World) (p1:Option Addr) (q1 r1:Nat) (p2:Option Addr) (q2 r2 b:Nat) (i:Bool × Nat) (m1:Option Addr) (m2 m3:Nat) (m4:Option Addr) (m5 m6:Nat) (Wz:World):Prop:=Wz.cell? ⟨bw,0,none⟩=some (zd U (c.n:Int))/\Wz.cell? ⟨bw,1,none⟩=some (O c.ga c.gn c.gc)/\Wz.cell? ⟨bw,2,none⟩=some (O c.sa c.sn c.sc)/\Wz.cell? ⟨bw,3,none⟩=some (O c.ya c.yn c.yc)/\Wz.cell? ⟨bw,4,none⟩=some (O c.oa c.on c.oc)/\Wz.cell? ⟨bw,5,none⟩=some (O c.va c.vn c.vc)/\Wz.cell? ⟨bw,6,none⟩=some (O c.fa c.fn c.fc)/\Wz.cell? ⟨bw,7,none⟩=some (O c.ba c.bn c.bc)/\Wz.cell? ⟨bw,8,none⟩=some (O c.la c.ln c.lc)/\Wz.cell? ⟨bw,9,none⟩=some (O c.ka c.kn c.kc)/\Wz.cell? ⟨W.heap.size,0,none⟩=some (O p1 q1 r1)/\Wz.cell? ⟨W.heap.size,1,none⟩=some (O p2 q2 r2)/\Wz.cell? ⟨b,i.2*2,none⟩=some (O m1 m2 m3)/\Wz.cell? ⟨b,i.2*2+1,none⟩=some (O m4 m5 m6)
abbrev Od (bw:Nat) (c:WC) (W:World) (p1:Option Addr) (q1 r1:Nat) (p2:Option Addr) (q2 r2:Nat) (Wz:World):Prop:=Wz.cell? ⟨bw,0,none⟩=some (zd U (c.n:Int))/\Wz.cell? ⟨bw,1,none⟩=some (O c.ga c.gn c.gc)/\Wz.cell? ⟨bw,2,none⟩=some (O c.sa c.sn c.sc)/\Wz.cell? ⟨bw,3,none⟩=some (O c.ya c.yn c.yc)/\Wz.cell? ⟨bw,4,none⟩=some (O c.oa c.on c.oc)/\Wz.cell? ⟨bw,5,none⟩=some (O c.va c.vn c.vc)/\Wz.cell? ⟨bw,6,none⟩=some (O c.fa c.fn c.fc)/\Wz.cell? ⟨bw,7,none⟩=some (O c.ba c.bn c.bc)/\Wz.cell? ⟨bw,8,none⟩=some (O c.la c.ln c.lc)/\Wz.cell? ⟨bw,9,none⟩=some (O c.ka c.kn c.kc)/\Wz.cell? ⟨W.heap.size,0,none⟩=some (O p1 q1 r1)/\Wz.cell? ⟨W.heap.size,1,none⟩=some (O p2 q2 r2)
theorem QG (c:WC) (w0:World) (nv bw bm:Nat) (fs gs) (n1:1<=c.n) (gr:AA w0 (O c.ga c.gn c.gc) gs) (chk:AR c.n gs=0) (hC:FO c w0 bw bm) :
  Dz c nv fs (Da c w0 nv fs.length bw bm) (XI c bm) (C4 c.n) 56 (zi (some ⟨bw,0,none⟩)) (zi (some ⟨bm,0,none⟩)):=by
 intro st W v l i b off hI hl al ak aj;obtain ⟨rfl,⟨bg,bb⟩,be,bf,rv,wv,c0,c1,ai⟩:=Da.lev hC hI aj al ak;obtain ⟨F,C,A,E,B,u,rfl⟩:=hl.form;obtain ⟨m1,m2,m3,m4,m5,m6,R⟩:=ai.form;simp at R;obtain ⟨rfl,rfl⟩:=R;have J:Ov W (W.alloc (ze #[O F C A,O E B u] 50)):=bA W _;have I:=hI.over J;have Q:=hl.over (FQ c bm) J;have G:=ai.over (FQ c bm) J;obtain ⟨l0,l1⟩:=co2 J c0 c1;have L0:=Aa l0;have L1:=Aa l1;have P:=Ad.new [O F C A,O E B u] 50 W;have am:=Af gr I.below;have KF:=Aa fun (M:World) (q:Ov (W.alloc (ze #[O F C A,O E B u] 50)) M)=>PC (c.n:Int) c.ga c.gn c.gc c.sa c.sn c.sc c.ya c.yn c.yc c.oa c.on c.oc c.va c.vn c.vc c.fa c.fn c.fc c.ba c.bn c.bc c.la c.ln c.lc c.ka c.kn c.kc gs (O F C A) (O E B u) (O m1 m2 m3) (O m4 m5 m6) l (st.at i) M (Af am q) (AK Q.at_ q) (AK G.at_ q) (EP chk Q.len G.len);have KJ:=Aa fun (M:World) (q:Ov (W.alloc (ze #[O F C A,O E B u] 50)) M)=>MY (c.n:Int) c.ga c.gn c.gc c.sa c.sn c.sc c.ya c.yn c.yc c.oa c.on c.oc c.va c.vn c.vc c.fa c.fn c.fc c.ba c.bn c.bc c.la c.ln c.lc c.ka c.kn c.kc gs (O m1 m2 m3) (O m4 m5 m6) (O F C A) (O E B u) (st.at i) l M (Af am q) (AK G.at_ q) (AK Q.at_ q) (EP chk G.len Q.len);simp only [Int.toNat_natCast] at KF;obtain ⟨fb,an⟩:=nm (Av l (st.at i) c.n);rw [<-an] at KF;have bj:=Aa an.symm;have HC:=Aa hC;have HI:=Aa I;have N:=Aa I.row;have T:=Aa P;have cg:=Aa (And.intro n1 aj);have bk:=Aa (FrW.of_below (FQ c bm) J);have bp:=Aa (show b < (W.alloc (ze #[O F C A,O E B u] 50)).heap.size by simp;omega);have bh:=Aa (show ∀ j,(W.alloc (ze #[O F C A,O E B u] 50)).frozen? ⟨b,j,none⟩=false from fun j=>((An J).2 _ _ bg).trans (bb j));have ce:=Aa (bL I.more);have cd:=Aa I.mz;have cf:=Aa I.more;have cc:=Aa (Ne.symm bf);have ci:=Aa be;have bo:=Aa (show b≠W.heap.size by omega);have cb:=Aa al;have ca:=Aa ak;obtain ⟨t0,t1,t2,t3,t4,t5,t6,t7,t8,t9⟩:=Ch I.row;obtain ⟨b0,b1⟩:=rc2 P;have S:JR bw c W F C A E B u b i m1 m2 m3 m4 m5 m6 (W.alloc (ze #[O F C A,O E B u] 50)):=⟨t0,t1,t2,t3,t4,t5,t6,t7,t8,t9,b0,b1,l0,l1⟩;clear hI hl ai I Q G P am an J c0 c1 bb al ak hC gr chk be bf bg aj n1;go_enter Tryz.func56,Tryz.ntmps56;rw [Nat.zero_add]
 cases fb with
 | true=>
  go_wp2_with fail;refine gS (JR bw c W F C A E B u b i m1 m2 m3 m4 m5 m6) (S) fun h=>?_;refine kT 0 ?_;refine kT 1 ?_;refine kT 2 ?_;refine kT 3 ?_;refine kT 4 ?_;refine kT 5 ?_;refine rdA 6 rfl fun K t=>?_;go_simp;refine (KF.o _ (bD _)).mono ?_;rintro e M ⟨rfl,q⟩;have g:=Ac ((Below.refl _ (W.alloc (ze #[O F C A,O E B u] 50))).drew) q;have f:=N.o.over g;have s:=T.o.over g;have L:JR bw c W F C A E B u b i m1 m2 m3 m4 m5 m6 M:=⟨f 0 _ rfl,f 1 _ rfl,f 2 _ rfl,f 3 _ rfl,f 4 _ rfl,f 5 _ rfl,f 6 _ rfl,f 7 _ rfl,f 8 _ rfl,f 9 _ rfl,s 0 _ rfl,s 1 _ rfl,Ab g _ _ l0,Ab g _ _ l1⟩;have p:=Aa g;clear f s q g;go_simp;refine xK t (L) fun h=>?_;clear t K;refine rdA 7 rfl fun K t=>?_;go_simp;refine xK t (L) fun h=>?_;clear t K;refine gE ?_;go_wp2_with fail;go_end0;refine ⟨rfl,?_,bk.o.trans (FrW.of_below (FQ c bm) p.o)⟩;unfold C4;rw [if_pos bj.o];exact HI.o.over p.o
 | false=>
  go_wp2_with fail;refine gS (JR bw c W F C A E B u b i m1 m2 m3 m4 m5 m6) (S) fun h=>?_;refine kT 0 ?_;refine kT 1 ?_;refine kT 2 ?_;refine kT 3 ?_;refine kT 4 ?_;refine kT 5 ?_;refine rdA 6 rfl fun K t=>?_;go_simp;refine (KF.o _ (bD _)).mono ?_;rintro e M ⟨rfl,q⟩;have g:=Ac ((Below.refl _ (W.alloc (ze #[O F C A,O E B u] 50))).drew) q;have f:=N.o.over g;have s:=T.o.over g;have L:JR bw c W F C A E B u b i m1 m2 m3 m4 m5 m6 M:=⟨f 0 _ rfl,f 1 _ rfl,f 2 _ rfl,f 3 _ rfl,f 4 _ rfl,f 5 _ rfl,f 6 _ rfl,f 7 _ rfl,f 8 _ rfl,f 9 _ rfl,s 0 _ rfl,s 1 _ rfl,Ab g _ _ l0,Ab g _ _ l1⟩;have p:=Aa g;clear f s q g;go_simp;refine xK t (L) fun h=>?_;clear t K;refine rdA 7 rfl fun K t=>?_;go_simp;refine xK t (L) fun h=>?_;clear t K;refine gE ?_;clear S t0 t1 t2 t3 t4 t5 t6 t7 t8 t9 b0 b1;obtain ⟨l0,l1⟩:=co2 p.o l0 l1;have t0:=N.o.over p.o 0 _ rfl;have t1:=N.o.over p.o 1 _ rfl;have t2:=N.o.over p.o 2 _ rfl;have t3:=N.o.over p.o 3 _ rfl;have t4:=N.o.over p.o 4 _ rfl;have t5:=N.o.over p.o 5 _ rfl;have t6:=N.o.over p.o 6 _ rfl;have t7:=N.o.over p.o 7 _ rfl;have t8:=N.o.over p.o 8 _ rfl;have t9:=N.o.over p.o 9 _ rfl;have b0:=T.o.over p.o 0 _ rfl;have b1:=T.o.over p.o 1 _ rfl;have S:Od bw c W F C A E B u M:=⟨t0,t1,t2,t3,t4,t5,t6,t7,t8,t9,b0,b1⟩;clear L;go_wp2_with fail;refine gS (Od bw c W F C A E B u) (S) fun h=>?_;refine kT 0 ?_;refine kT 1 ?_;refine kT 2 ?_;refine kT 3 ?_;refine kT 4 ?_;refine kT 6 ?_;refine rdA 5 rfl fun K t=>?_;go_simp;refine xK t (h) fun h=>?_;clear t K;refine rdA 7 rfl fun K t=>?_;go_simp;refine (KJ.o M.drew (Ac p.o (bD _))).mono ?_;rintro e W3 ⟨vj,rfl,bd,U⟩;have H:A1 M.drew W3 vj (BA (st.at i) l c.n):=by simpa using bd
  obtain ⟨k1,k2,k3,k4,k5,k6,b7⟩:∃ a1 a2 a3 a4 a5 a6,vj=zh #[O a1 a2 a3,O a4 a5 a6]:=by
   obtain ⟨x,y,e,-⟩:=Aq H;subst e;obtain ⟨z1,z2,z3,z4,z5,z6,rfl,rfl⟩:=AX (Aq H);exact ⟨_,_,_,_,_,_,rfl⟩
  subst b7;have g:=Ac (Ac p.o (bD M)) U;have f:=N.o.over g;have s:=T.o.over g;have V:Od bw c W F C A E B u W3:=⟨f 0 _ rfl,f 1 _ rfl,f 2 _ rfl,f 3 _ rfl,f 4 _ rfl,f 5 _ rfl,f 6 _ rfl,f 7 _ rfl,f 8 _ rfl,f 9 _ rfl,s 0 _ rfl,s 1 _ rfl⟩;have bl:=Aa g;have bi:=Aa (show Aw c.n (XI c bm) W3 (zh #[O k1 k2 k3,O k4 k5 k6]) (BA (st.at i) l c.n) from ⟨Aq H,DU _ _ _,B8 (FQ c bm) U (fun k hk=>by have:=(Rp HC.o HI.o k hk);have:=U.size;have:=p.o.size;simp at *;omega) (Bm H)⟩);have x0:=Ab g _ _ L0.o;have x1:=Ab g _ _ L1.o;have bu:W3.frozen? ⟨b,i.2*2,none⟩=false:=((An g).2 _ _ bp.o).trans (bh.o _);have bt:W3.frozen? ⟨b,i.2*2+1,none⟩=false:=((An g).2 _ _ bp.o).trans (bh.o _);have a8:W3.frozen? ⟨bm,0,none⟩=false:=((An g).2 _ _ ce.o).trans cd.o;have a9:=Ab g _ _ cf.o;clear f s U g bd H;go_simp;refine xK t (V) fun h=>?_;clear t K;refine rdA 8 rfl fun K t=>?_;go_simp;refine xK t (V) fun h=>?_;clear t K;refine rdA 9 rfl fun K t=>?_;go_simp;refine xK t (by have b8:=ci.o;have ck:=bo.o;obtain ⟨t0,t1,t2,t3,t4,t5,t6,t7,t8,t9,bx,bv⟩:=V;exact ⟨by simp [go_sem,t0],by simp [go_sem,t1],by simp [go_sem,t2],by simp [go_sem,t3],by simp [go_sem,t4],by simp [go_sem,t5],by simp [go_sem,t6],by simp [go_sem,t7],by simp [go_sem,t8],by simp [go_sem,t9],by simp [go_sem,bx],by simp [go_sem,bv]⟩) fun h=>?_;clear t K;refine gE ?_;have Z:=HC.o.upd HI.o cg.o bl.o bi.o cb.o ca.o;have cn:((W3.setCell ⟨b,i.2*2,none⟩ (O k1 k2 k3)).setCell ⟨b,i.2*2+1,none⟩ (O k4 k5 k6)).cell? ⟨bm,0,none⟩=some (zg st.more):=by
   have b8:=cc.o;simp [go_sem,a9]
  have cm:((W3.setCell ⟨b,i.2*2,none⟩ (O k1 k2 k3)).setCell ⟨b,i.2*2+1,none⟩ (O k4 k5 k6)).frozen? ⟨bm,0,none⟩=false:=by simp [go_sem,a8]
  have ab:=Aa Z;clear Z V x0 x1 bu bt a9 a8;go_wp2_with fail;go_end0;refine ⟨rfl,?_,bk.o.trans ab.o.2⟩;unfold C4;rw [if_neg (by rw [bj.o];simp)];exact ab.o.1
theorem Pl {P:Nat->Prop}:∀ n,P n->∃ m,P m/\∀ k,P k->m<=k:=by
 intro n
 induction n using Nat.strongRecOn with
 | ind n ih=>
  intro h;by_cases hx:∃ k,k < n/\P k
  ·obtain ⟨k,hk,e⟩:=hx
   exact ih k hk e
  ·exact ⟨n,h,fun k hk=>Nat.le_of_not_lt fun b=>hx ⟨k,b,hk⟩⟩
theorem NC {α:Type} (P:α->Nat->Prop):∃ μ:α->Nat,∀ a n,P a n->P a (μ a)/\∀ k,P a k->μ a<=k:=by
 have h:∀ a,∃ m,∀ n,P a n->P a m/\∀ k,P a k->m<=k:=fun a=>by
  by_cases hx:∃ n,P a n
  ·obtain ⟨n,b⟩:=hx
   obtain ⟨m,f,e⟩:=Pl n b;exact ⟨m,fun _ _=>⟨f,e⟩⟩
  ·exact ⟨0,fun n b=>absurd ⟨n,b⟩ hx⟩
 exact ⟨fun a=>Classical.choose (h a),fun a=>Classical.choose_spec (h a)⟩
def Cs (n K kf:Nat) (known:List Bool) (ins:List Lev) (fs:List FnD) (main:List D) (st0:ISt):Nat->ISt
 | 0=>st0
 | k+1=>Hc n K kf known ins fs main ⟨(Cs n K kf known ins fs main st0 k).vs,(Cs n K kf known ins fs main st0 k).fs,false⟩
def CO (gs:List (Int × Int)) (n:Nat) (vs:List (Bool × Lab)) (nf:Nat):ISt:=⟨CJ gs n vs,List.replicate nf (A7 n),true⟩
def B2 (n K kf:Nat) (gs:List (Int × Int)) (vs:List (Bool × Lab)) (ls:List Lab) (fs:List FnD) (main:List D) (st:ISt):Prop:=
 ∃ k,st=Cs n K kf (vs.map Prod.fst) (ls.map (Ar (Ax gs) n)) fs main (CO gs n vs fs.length) (k+1)/\st.more=false/\∀ j,j < k->(Cs n K kf (vs.map Prod.fst) (ls.map (Ar (Ax gs) n)) fs main (CO gs n vs fs.length) (j+1)).more=true
theorem Sn {W:World} {B e s n:Nat} {a:Addr} {ln lc:Nat} {us:List Value} (h:W.ownsRow B e s (O (some a) ln lc) n us):a.off=0/\a.spot=none/\B<=a.block/\a.block < W.heap.size/\∀ j,W.frozen? ⟨a.block,j,none⟩=false:=by
 rcases h.2 with ⟨h,-⟩ | ⟨g,cap,k,h,i,f,-⟩
 ·cases h
 ·injection h with b p l
  injection b with b;subst b;exact ⟨rfl,rfl,i,(Array.getElem?_eq_some_iff.1 f).1,fun j=>by simp [World.frozen?,f]⟩
theorem Hd {n B:Nat} {W:World} {a:Addr} {ln lc:Nat} {Ls:List Lev} (h:AO n B W (O (some a) ln lc) Ls):a.off=0/\a.spot=none/\B<=a.block/\a.block < W.heap.size/\∀ j,W.frozen? ⟨a.block,j,none⟩=false:=by
 obtain ⟨e,b,-⟩:=h;exact Sn b
theorem E6 {n B:Nat} {X:World->Nat->Prop} {W:World} {v:Value} {Ls:List Lev} (n1:1<=n) (h:AO n B W v Ls) (hx:∀ k,X W k->EX W k\/W.heap.size<=k):A9 n X W v Ls:=by
 obtain ⟨L,F,A⟩:=h;have G:=F.1;have q:∀ (u:Value) (l:List Bool),AJ W u l->l.length=n->T4 W u->∀ a m c,u=O (some a) m c->¬ X W a.block:=by
  intro u l U hl f a m c p t;obtain ⟨s,Z,H⟩:=f a m c p;rcases hx _ t with h | h
  ·exact h s Z H
  ·have:=(Array.getElem?_eq_some_iff.1 H).1
   omega
 have N:∀ (x y:Value) (l:Lev),Fq n W (zh #[x,y]) l->Aw n X W (zh #[x,y]) l:=by
  intro x y l f;obtain ⟨J,I,e,M,ty⟩:=f.ty;simp at e;obtain ⟨rfl,rfl⟩:=e;obtain ⟨J,I,e,bx,E⟩:=f.at_;simp at e;obtain ⟨rfl,rfl⟩:=e;exact ⟨f.at_,f.len,x,y,rfl,q _ _ bx f.len.1 M,q _ _ E f.len.2 ty⟩
 rcases F.2 with ⟨h,V⟩ | ⟨g,cap,s,h,U,Q,T,S,R,C⟩
 ·have:Ls=[]:=List.eq_nil_of_length_eq_zero V
  subst this;exact ⟨none,0,h,fun h=>absurd rfl h⟩
 ·refine ⟨some ⟨g,0,none⟩,cap,h,fun P=>⟨g,0,rfl,fun i hi=>?_⟩⟩
  obtain ⟨x,y,e0,e1,hl⟩:=A i hi;have b:∀ j u,L[j]? = some u->W.cell? ⟨g,0+j,none⟩=some u:=fun j u p=>by
   rw [Nat.zero_add,Lib.cell_of_heap Q];rw [<-C,List.getElem?_take] at p;split at p
   ·simpa using p
   ·cases p
  exact ⟨x,y,b _ _ e0,by have:=b _ _ e1;simpa [Nat.add_assoc] using this,N x y _ hl⟩
theorem PB {fs:List FnD} {i:Int} (h0:0<=i) (h1:i < fs.length):BV fs i∈fs:=by
 unfold BV;rw [List.getD_eq_getElem?_getD,List.getElem?_eq_getElem (by omega:i.toNat < fs.length)];exact List.getElem_mem _
theorem Pq {K nv ni no:Nat} {funcs:Int} {fs:List FnD} {d:D} (h:Cx K nv ni no funcs fs d) (hf:funcs<=fs.length) (hp:∀ f∈fs,∀ p∈f.ps,0<=p/\p < (nv:Int)):inR nv fs.length fs d:=by
 obtain ⟨-,e,g,-⟩:=h;refine ⟨fun hk=>by have:=e hk;omega,fun hk=>?_⟩;obtain ⟨⟨a,b⟩,-,-⟩:=g hk;refine ⟨by omega,fun v e=>?_⟩;have:=hp _ (PB a (by omega)) v e;omega
theorem Nn (n K kf nv ni no:Nat) (known:List Bool) (ins) (fs:List FnD) (main:List D) (st:ISt) (hof:∀ i (h:i < fs.length),okF K nv ni no (i:Int) fs kf fs[i]) (hom:∀ s∈main,okS K nv ni no (fs.length:Int) fs kf s) :
  CV n nv fs.length st (Hc n K kf known ins fs main st):=by
 have e:∀ f∈fs,∀ p∈f.ps,0<=p/\p < (nv:Int):=fun f g=>by
  obtain ⟨i,hi,rfl⟩:=List.getElem_of_mem g;exact (hof i hi).2.1
 exact Kz n K ISt.vs _ (P:=fun _ _=>True) (Pm:=okS K nv ni no (fs.length:Int) fs) (P1:=inR nv fs.length fs) (fun k d h=>⟨Pq h.1 (by omega) e,h.2⟩) (Q:=fun i k d=>i<=fs.length/\okS K nv ni no (i:Int) fs k d)
  (fun i k d h=>⟨Pq h.2.1 (by omega) e,fun s b=>⟨h.1,h.2.2.1 s b⟩,fun s b=>⟨h.1,h.2.2.2 s b⟩⟩) (R:=CV n nv fs.length) (CV.refl n nv fs.length) CV.trans (fun a d p st l=>PI n nv fs.length K known ins fs a d p st l) ISt.fs kf fs main st
  (fun i hi s b=>⟨by omega,(hof i hi).2.2.1 s b⟩) hom
theorem Aw.mono {n:Nat} {X Y:World->Nat->Prop} {W:World} {v:Value} {l:Lev} (n1:1<=n) (h:Aw n X W v l) (hx:∀ k,k < W.heap.size->Y W k->X W k):Aw n Y W v l:=by
 obtain ⟨x,y,i,B,A⟩:=h.off;obtain ⟨F,E,f,C,t⟩:=h.at_;rw [i] at f;simp at f;obtain ⟨rfl,rfl⟩:=f;have lt:∀ (v:Value) (l:List Bool),AJ W v l->l.length=n->∀ a m c,v=O (some a) m c->a.block < W.heap.size:=by
  intro v l u hl a m c e;obtain ⟨G,cap,i,g⟩:=u;obtain ⟨b,off,q,g⟩:=g (by rintro rfl;simp at hl;omega);rw [i,q] at e;injection e with s;injection s with s;rw [<-s];exact bL (g 0 (by omega))
 exact ⟨h.at_,h.len,x,y,i,fun a m c e p=>B a m c e (hx _ (lt _ _ C h.len.1 a m c e) p),fun a m c e p=>A a m c e (hx _ (lt _ _ t h.len.2 a m c e) p)⟩
theorem A9.mono {n:Nat} {X Y:World->Nat->Prop} {W:World} {v:Value} {ls:List Lev} (n1:1<=n) (h:A9 n X W v ls) (hx:∀ k,k < W.heap.size->Y W k->X W k):A9 n Y W v ls:=by
 obtain ⟨u,cap,p,e⟩:=h;refine ⟨u,cap,p,fun f=>?_⟩;obtain ⟨b,off,g,e⟩:=e f;refine ⟨b,off,g,fun i hi=>?_⟩;obtain ⟨rv,l,t,s,q⟩:=e i hi;exact ⟨rv,l,t,s,q.mono n1 hx⟩
theorem Da.setM {c:WC} {w0:World} {nv nf bw bm:Nat} {st:ISt} {W:World} {b:Bool} (n1:1<=c.n) (hC:FO c w0 bw bm) (h:Da c w0 nv nf bw bm st W):Da c w0 nv nf bw bm ⟨st.vs,st.fs,b⟩ (W.setCell ⟨bm,0,none⟩ (zg b)):=by
 have l:(W.setCell ⟨bm,0,none⟩ (zg b)).heap.size=W.heap.size:=by simp [World.setCell]
 have f:∀ k,k≠bm->(W.setCell ⟨bm,0,none⟩ (zg b)).heap[k]? = W.heap[k]?:=fun k hk=>Bn (Ne.symm hk) _;have A:FrW (XI c bm) W (W.setCell ⟨bm,0,none⟩ (zg b)):=⟨rfl,rfl,rfl,by omega,fun k _ t=>f k (fun e=>t (Or.inr (Or.inr e))),fun k _ t=>t⟩;have i:∀ b' o' u,b'≠bm->W.cell? ⟨b',o',none⟩=some u->(W.setCell ⟨bm,0,none⟩ (zg b)).cell? ⟨b',o',none⟩=some u:=fun b' o' u C q=>(World.cell?_of_block (a:=⟨b',o',none⟩) (f b' C)).trans q;have g:∀ b' j,(W.setCell ⟨bm,0,none⟩ (zg b)).frozen? ⟨b',j,none⟩=W.frozen? ⟨b',j,none⟩:=fun b' j=>by simp [go_sem]
 refine ⟨h.below.setCell (p:=⟨bm,0,none⟩) hC.m.1 _,h.vs.keep n1 A (fun b' o' ln E y j u q=>?_),h.fs.keep n1 A (fun b' o' ln E y j u q=>?_),h.lv,h.lf,World.cell?_setCell_same _ _ _ h.more,(g _ _).trans h.mz,fun j u B=>i _ _ _ hC.m.2 (h.row j u B),fun a e=>⟨by rw [l];exact (h.hl a e).1,fun j=>(g _ _).trans ((h.hl a e).2 j)⟩,fun a e=>⟨by rw [l];exact (h.hk a e).1,fun j=>(g _ _).trans ((h.hk a e).2 j)⟩⟩
 ·injection y with s
  exact i _ _ _ (hC.la _ s).2.2.2.2 q
 ·injection y with s
  exact i _ _ _ (hC.ka _ s).2.2.2.2 q
theorem Da.newM {c:WC} {w0:World} {nv nf bw bm:Nat} {st:ISt} {W:World} (n1:1<=c.n) (hC:FO c w0 bw bm) (h:Da c w0 nv nf bw bm st W):Da c w0 nv nf bw W.heap.size st (W.alloc (ze #[zg st.more] 4)):=by
 have b:Ov W (W.alloc (ze #[zg st.more] 4)):=bA W _;have f:∀ k,k < W.heap.size->XI c W.heap.size W k->XI c bm W k:=fun k hk f=>by
  rcases f with h | h | h
  ·exact Or.inl h
  ·exact Or.inr (Or.inl h)
  ·omega
 exact ⟨h.below.trans (b.mono h.below.size),(h.vs.mono n1 f).over (FQ c _) b,(h.fs.mono n1 f).over (FQ c _) b,h.lv,h.lf,by simp [go_sem],by simp [go_sem],h.row.over b,
  fun a e=>⟨Nat.lt_of_lt_of_le (h.hl a e).1 b.size,fun j=>((An b).2 _ _ (h.hl a e).1).trans ((h.hl a e).2 j)⟩,fun a e=>⟨Nat.lt_of_lt_of_le (h.hk a e).1 b.size,fun j=>((An b).2 _ _ (h.hk a e).1).trans ((h.hk a e).2 j)⟩⟩
theorem FO.newM {c:WC} {w0:World} {nv nf bw bm:Nat} {st:ISt} {W:World} (hC:FO c w0 bw bm) (h:Da c w0 nv nf bw bm st W) (hw:bw < W.heap.size):FO c w0 bw W.heap.size:=
 ⟨fun a e=>by have:=hC.la a e;have h2:=(h.hl a e).1;exact ⟨this.1,this.2.1,this.2.2.1,this.2.2.2.1,by omega⟩,fun a e=>by have:=hC.ka a e;have h2:=(h.hk a e).1;exact ⟨this.1,this.2.1,this.2.2.1,this.2.2.2.1,by omega⟩,hC.lk,h.below.size,by omega⟩
theorem Kn {n:Nat} {X:World->Nat->Prop} {W:World} {rb:Nat} {x y v:Value} {Ls:List Lev} (h:A9 n X W v Ls) (hr:∀ j u,W.cell? ⟨rb,j,none⟩=some u->∃ a m c,u=O a m c) (hv:∀ a m c,v=O (some a) m c->a.block≠rb):BW ((W.setCell ⟨rb,0,none⟩ x).setCell ⟨rb,1,none⟩ y) v Ls:=by
 have p:∀ b' o' u,b'≠rb->W.cell? ⟨b',o',none⟩=some u->((W.setCell ⟨rb,0,none⟩ x).setCell ⟨rb,1,none⟩ y).cell? ⟨b',o',none⟩=some u:=fun b' o' u B H=>by
  rw [CM (Or.inl (Ne.symm B)),CM (Or.inl (Ne.symm B))];exact H
 have s:∀ u l,AJ W u l->AJ ((W.setCell ⟨rb,0,none⟩ x).setCell ⟨rb,1,none⟩ y) u l:=by
  intro u l ⟨A,cap,e,f⟩;refine ⟨A,cap,e,fun k=>?_⟩;obtain ⟨b,off,g,f⟩:=f k;refine ⟨b,off,g,fun i hi=>p _ _ _ (fun M=>?_) (f i hi)⟩;subst M;obtain ⟨a,m,c,e⟩:=hr _ _ (f i hi);cases e
 obtain ⟨A,cap,q,f⟩:=h;refine ⟨A,cap,q,fun k=>?_⟩;obtain ⟨b,off,g,f⟩:=f k;have C:b≠rb:=hv _ _ _ (by rw [q,g]);refine ⟨b,off,g,fun i hi=>?_⟩;obtain ⟨rv,G,L,J,I⟩:=f i hi;obtain ⟨F,E,e,N,t⟩:=I.at_;exact ⟨rv,G,p _ _ _ C L,p _ _ _ C J,F,E,e,s _ _ N,s _ _ t⟩
end Go.Proofs.YtfffpjkcfnekaaaGreat.Ex
