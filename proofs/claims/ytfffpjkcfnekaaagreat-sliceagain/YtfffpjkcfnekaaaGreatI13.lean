/- The least levels that may be, of a program. -/
import Derived.Test.YtfffpjkcfnekaaaGreatI12
set_option linter.unusedVariables false
set_option maxHeartbeats 8000000
set_option maxRecDepth 100000
namespace Go.Proofs.YtfffpjkcfnekaaaGreat.Ex
open Go.RowKit
open Go.Value renaming slice -> O, int -> zd, bool -> zg, agg -> zh, pointer -> zj, tuple -> zm
open Go.IntKind renaming i64 -> U
open Go.Obj renaming cells -> ze
open Go.Ending renaming returned -> zk
def ET (W:World) (b:Nat):Prop:=∀ (cur:Array Value) (fr:Nat × Nat),W.heap[b]?≠some (Obj.cells cur 4 fr)
theorem ET.set {W:World} {b b' j:Nat} {u:Value} (h:ET W b):ET (W.setCell ⟨b',j,none⟩ u) b:=by
 intro g fr d;by_cases hb:b'=b
 ·subst hb
  simp only [World.setCell,Array.getElem?_modify,if_true] at d
  cases ho:W.heap[b']? with
  | none=>rw [ho] at d;simp at d
  | some o=>
   rw [ho] at d
   cases o with
   | cells c e f=>
    simp at d;obtain ⟨-,rfl,-⟩:=d;exact h _ _ ho
   | _=>simp at d
 ·rw [Bu hb] at d
  exact h g fr d
theorem AZ.setLow {n B:Nat} {W:World} {v:Value} {Ls:List Lev} (h1:1<=n) (h:AZ n B W v Ls) {b j:Nat} {u:Value} (hb:b < B) (hn:ET W b):AZ n B (W.setCell ⟨b,j,none⟩ u) v Ls:=
 h.keep h1 Ct (by
  cases hv:v.ownBlock with
  | none=>exact Or.inl rfl
  | some g=>
   refine Or.inr fun e=>?_;injection e with e;have:=(B9 h g hv).1;omega) (fun g e=>by injection e with e;subst e;exact hn)
theorem AZ.low {n B B':Nat} {W:World} {v:Value} {Ls:List Lev} (h:AZ n B W v Ls) (hb:B'<=B):AZ n B' W v Ls:=by
 obtain ⟨c,d,b⟩:=h;exact ⟨c,Cg d hb,b⟩
def setN (b:Nat):List Value->Nat->World->World
 | [],_,W=>W
 | u::us,j,W=>setN b us (j+1) (W.setCell ⟨b,j,none⟩ u)
theorem AZ.setN {n B b:Nat} {v:Value} {Ls:List Lev} (h1:1<=n) (hb:b < B):∀ (us:List Value) (j:Nat) (W:World),AZ n B W v Ls->ET W b->AZ n B (setN b us j W) v Ls
 | [],_,_,h,_=>h
 | u::us,j,W,h,hn=>AZ.setN h1 hb us (j+1) _ (h.setLow h1 hb hn) hn.set
theorem Hs {B b:Nat} {w:World} (hb:B<=b):∀ (us:List Value) (j:Nat) (W:World),Below B w W->Below B w (setN b us j W)
 | [],_,_,h=>h
 | u::us,j,W,h=>Hs hb us (j+1) _ (h.setCell hb u)
theorem B5.box {n B bw:Nat} {P:List Value} {Ls Fs:List Lev} {v k:Value} {W:World} {b j:Nat} {u:Value} (h1:1<=n) (h:B5 n B bw P Ls Fs v k W) (hb:b≠bw) (hv:v.ownBlock≠some b) (hk:k.ownBlock≠some b) (hn:ET W b):B5 n B bw P Ls Fs v k (W.setCell ⟨b,j,none⟩ u):=by
 have d:(W.setCell ⟨b,j,none⟩ u).heap[bw]? = W.heap[bw]?:=Bu hb u;refine ⟨fun i x l=>(World.cell?_of_block (a:=⟨bw,i,none⟩) d).trans (h.row i x l),fun i=>(World.frozen?_of_block (a:=⟨bw,i,none⟩) d).trans (h.fz i),h.vs.keep h1 Ct (Or.inr hv) (fun g e=>by injection e with e;subst e;exact hn),h.fs.keep h1 Ct (Or.inr hk) (fun g e=>by injection e with e;subst e;exact hn),h.ap,h.ap2,?_,h.lo.1,by simpa [World.setCell] using h.lo.2⟩;obtain ⟨c,f,e⟩:=h.ty;exact ⟨c,f,d.trans e⟩
theorem Nk {gs:List (Int × Int)} {n:Nat} {vs:List (Bool × Lab)} {j:Nat} (h:j < vs.length):Cx gs n (vs.take (j+1))=Cx gs n (vs.take j)++[if vs[j].1=true then AH (AE gs) n vs[j].2 else BS n]:=by
 unfold Cx;rw [List.take_succ_eq_append_getElem h,List.map_append];rfl
theorem JM {W:World} {cs:Array Value} {T:Nat} (h:T≠4):ET (W.alloc (.cells cs T)) W.heap.size:=by
 intro d fr b;rw [C6] at b;injection b with b;injection b with g c f;exact h c
theorem ET.over {W W':World} {b:Nat} (h:ET W b) (hb:Ov W W') (hlt:b < W.heap.size):ET W' b:=fun cur fr he=>h cur fr ((hb.block b hlt) ▸ he)
theorem EH {ops:Array Oper} {o:Oper} {a:Act} {W:World} {K:Act->World->Prop} {Q:Exit->Act->World->Prop} {E:Prop} (hg:o.guard=none) (s x:Operand) (t:TypeId) (hop:o.op=Op.call { callee:=Callee.builtin Builtin.append,args:=#[s,x],argTypes:=#[t,t] }) (v u v':Value) (W':World) (hs:a.eval s=v) (hx:a.eval x=u)
  (hr:(Builtin.append_ #[t,t] o.type #[v,u]).run Tryz.prog W=.ok v' W') (h:K (a.put o.dst v') W'):if Region.wanted o (yielded ops a.tmps)=true then Oper.wp Tryz.prog o a W K Q else E:=by
 have hw:Region.wanted o (yielded ops a.tmps)=true:=by simp [Region.wanted,hg]
 rw [if_pos hw];unfold Oper.wp execOp;simp only [hop,resolve,invoke,builtin,Sem.run_bind,Sem.run_pure,Result.andThen_ok,List.map_toArray,List.map_cons,List.map_nil,hs,hx,hr];exact h
theorem RF (n:Nat) (h1:1<=n) (h6:n<=6) (ga gn gc) (sa sn sc ya yn yc oa on oc) (va vn vc) (fa:Option Addr) (fn fc:Nat) (ba bn bc gs vs) (w:World) (hg:AB w (O ga gn gc) gs) (hE:AN n gs=0) (hv:Bo w (O va vn vc) vs) (hvc:∀ v∈vs,Bs n gs v.2=0) (h16:vs.length<=16) (hf5:fn<=5) :
  Calls Tryz.prog 54 #[zh #[zd U (n:Int),O ga gn gc,O sa sn sc,O ya yn yc,O oa on oc,O va vn vc,O fa fn fc,O ba bn bc]] w fun e w'=>∃ la ln lc ka kn2 kc,e=zk (zh #[zd U (n:Int),O ga gn gc,O sa sn sc,O ya yn yc,O oa on oc,O va vn vc,O fa fn fc,O ba bn bc,O la ln lc,O ka kn2 kc])/\AZ n w.heap.size w' (O la ln lc) (Cx gs n vs)/\AZ n w.heap.size w' (O ka kn2 kc) (List.replicate fn (BS n))/\(Value.ownBlock (O la ln lc)=none\/Value.ownBlock (O la ln lc)≠Value.ownBlock (O ka kn2 kc))/\Ov w w':=by
 obtain ⟨i0,hi,bo,bm,bk⟩:=info_parts Tryz.infoLv;have eb:Ov w ((w.alloc (ze #[zd U (n:Int),O ga gn gc,O sa sn sc,O ya yn yc,O oa on oc,O va vn vc,O fa fn fc,O ba bn bc] 31)).alloc (ze #[zd U 0,O none 0 0,O none 0 0,O none 0 0,O none 0 0,O none 0 0,O none 0 0,O none 0 0,O none 0 0,O none 0 0] 110)):=(bA w _).alloc (by simp) _;have KW:=Aa (IV n ga gn gc sa sn sc ya yn yc oa on oc va vn vc fa fn fc ba bn bc none 0 0 none 0 0 ((w.alloc (ze #[zd U (n:Int),O ga gn gc,O sa sn sc,O ya yn yc,O oa on oc,O va vn vc,O fa fn fc,O ba bn bc] 31)).alloc (ze #[zd U 0,O none 0 0,O none 0 0,O none 0 0,O none 0 0,O none 0 0,O none 0 0,O none 0 0,O none 0 0,O none 0 0] 110)));have KB:=Aa fun (la:Option Addr) (ln lc:Nat) (ka:Option Addr) (kn kc:Nat) W=>GB n h1 h6 ga gn gc sa sn sc ya yn yc oa on oc va vn vc fa fn fc ba bn bc la ln lc ka kn kc W;have KL:=Aa fun (la:Option Addr) (ln lc:Nat) (ka:Option Addr) (kn kc:Nat) (pr pw:Value) (bl:Lab) W (hb:Ov w W) (h2:Au W pr bl.r) (h3:Au W pw bl.w) (h4:Bs n gs bl=0)=>Lq (n:Int) ga gn gc sa sn sc ya yn yc oa on oc va vn vc fa fn fc ba bn bc la ln lc ka kn kc gs pr pw bl W (Aj hg hb) h2 h3 h4;have bi:Ad [zd U (n:Int),O ga gn gc,O sa sn sc,O ya yn yc,O oa on oc,O va vn vc,O fa fn fc,O ba bn bc] ((w.alloc (ze #[zd U (n:Int),O ga gn gc,O sa sn sc,O ya yn yc,O oa on oc,O va vn vc,O fa fn fc,O ba bn bc] 31)).alloc (ze #[zd U 0,O none 0 0,O none 0 0,O none 0 0,O none 0 0,O none 0 0,O none 0 0,O none 0 0,O none 0 0,O none 0 0] 110)) w.heap.size:=(Ad.new [zd U (n:Int),O ga gn gc,O sa sn sc,O ya yn yc,O oa on oc,O va vn vc,O fa fn fc,O ba bn bc] 31 w).over (bA _ _);have dh:=Aa eb;have dc:=Aa bi;have HV:=Aa hv;have gh:=Aa hvc;have dv:vn=vs.length:=by obtain ⟨-,a,c,he,-⟩:=hv;injection he
 have fk:vn<=16:=by omega
 have e4:=Aa dv;obtain ⟨V0,ay⟩:=nm (((w.alloc (ze #[zd U (n:Int),O ga gn gc,O sa sn sc,O ya yn yc,O oa on oc,O va vn vc,O fa fn fc,O ba bn bc] 31)).alloc (ze #[zd U 0,O none 0 0,O none 0 0,O none 0 0,O none 0 0,O none 0 0,O none 0 0,O none 0 0,O none 0 0,O none 0 0] 110)));have dw:V0.heap.size=w.heap.size+1+1:=by rw [ay];simp
 rw [<-ay] at dh dc;have db:=Aa dw;have V:Hx (∀ W,Below (w.heap.size+1+1) V0 W->(w.heap.size+1+1)<=W.heap.size):=fun W h=>by have:=h.size;rw [db.o] at this;exact this
 have dr:ET V0 (w.heap.size+1):=by
  rw [ay];have:=JM (W:=w.alloc (ze #[zd U (n:Int),O ga gn gc,O sa sn sc,O ya yn yc,O oa on oc,O va vn vc,O fa fn fc,O ba bn bc] 31)) (cs:=#[zd U 0,O none 0 0,O none 0 0,O none 0 0,O none 0 0,O none 0 0,O none 0 0,O none 0 0,O none 0 0,O none 0 0]) (T:=110) (by decide);simpa using this
 have zr:Ad [zd U 0,O none 0 0,O none 0 0,O none 0 0,O none 0 0,O none 0 0,O none 0 0,O none 0 0,O none 0 0,O none 0 0] V0 (w.heap.size+1):=by
  rw [ay];have:=Ad.new [zd U 0,O none 0 0,O none 0 0,O none 0 0,O none 0 0,O none 0 0,O none 0 0,O none 0 0,O none 0 0,O none 0 0] 110 (w.alloc (ze #[zd U (n:Int),O ga gn gc,O sa sn sc,O ya yn yc,O oa on oc,O va vn vc,O fa fn fc,O ba bn bc] 31));simpa using this
 have zf:∀ j,V0.frozen? ⟨w.heap.size+1,j,none⟩=false:=fun j=>by rw [ay];simp [go_sem]
 have gg:=Aa dr;have ZR:=Aa zr;have ZF:=Aa zf;obtain ⟨c0,c1,c2,c3,c4,c5,c6,c7⟩:=rc8 bi;clear eb bi hv hvc hg hE dv dw dr zr zf;go_enter Tryz.func54,Tryz.ntmps54;go_wp2_with fail;refine (KW.o).mono ?_;rintro e Y ⟨rfl,bt⟩;rw [<-ay] at bt;have bs:=bA Y (ze #[zd U (n:Int),O ga gn gc,O sa sn sc,O ya yn yc,O oa on oc,O va vn vc,O fa fn fc,O ba bn bc,O none 0 0,O none 0 0] 110);have ct:Below (w.heap.size+1+1) V0 (Y.alloc (ze #[zd U (n:Int),O ga gn gc,O sa sn sc,O ya yn yc,O oa on oc,O va vn vc,O fa fn fc,O ba bn bc,O none 0 0,O none 0 0] 110)):=by rw [<-db.o];exact Ac bt bs
 have ef:B5 n (w.heap.size+1+1) Y.heap.size [zd U (n:Int),O ga gn gc,O sa sn sc,O ya yn yc,O oa on oc,O va vn vc,O fa fn fc,O ba bn bc] [] [] (O none 0 0) (O none 0 0) (Y.alloc (ze #[zd U (n:Int),O ga gn gc,O sa sn sc,O ya yn yc,O oa on oc,O va vn vc,O fa fn fc,O ba bn bc,O none 0 0,O none 0 0] 110)):=by
  refine ⟨Ad.new [zd U (n:Int),O ga gn gc,O sa sn sc,O ya yn yc,O oa on oc,O va vn vc,O fa fn fc,O ba bn bc,O none 0 0,O none 0 0] 110 Y,fun j=>by simp [go_sem],Ge _ _ _,Ge _ _ _,Or.inl rfl,⟨by simp [Value.ownBlock],by simp [Value.ownBlock]⟩,⟨_,_,C6 _ _⟩,?_,by simp⟩;have:=bt.size;rw [db.o] at this;exact this
 have gq:=Aa ef;have fd:=Aa ct;have bu:=dc.o.over (Ac bt bs);have g5:=Aa bu;clear c0 c1 c2 c3 c4 c5 c6 c7 KW bt bs ct ef ay;obtain ⟨c0,c1,c2,c3,c4,c5,c6,c7⟩:=rc8 bu;clear bu;go_wp2_with fail;go_loopw [13] (fun x wr=>∃ (j:Nat) (la:Option Addr) (ln lc:Nat),j<=vn/\x=zd U j/\B5 n (w.heap.size+1+1) Y.heap.size [zd U (n:Int),O ga gn gc,O sa sn sc,O ya yn yc,O oa on oc,O va vn vc,O fa fn fc,O ba bn bc] (Cx gs n (vs.take j)) [] (O la ln lc) (O none 0 0) wr/\Below (w.heap.size+1+1) V0 wr) (fun x _=>vn - (intOf x).toNat)
 case atStart=>exact ⟨0,none,0,0,Nat.zero_le _,rfl,gq.o,fd.o⟩
 case round=>
  clear c0 c1 c2 c3 c4 c5 c6 c7;obtain ⟨j,la,ln,lc,hj,rfl,hL,hB⟩:=hrel;have ao:=dh.o.trans (hB.mono (by omega));have cv:Ad [zd U (n:Int),O ga gn gc,O sa sn sc,O ya yn yc,O oa on oc,O va vn vc,O fa fn fc,O ba bn bc] wr w.heap.size:=fun i u hu=>(hB.cell (p:=⟨w.heap.size,i,none⟩) (by simp <;> omega)).trans (dc.o i u hu)
  by_cases hlt:j < vn
  ·have ar:j < vs.length:=by rw [<-e4.o];exact hlt
   obtain ⟨-,ha,g9,fl,bd⟩:=HV.o;injection fl with x1 x2 x3;obtain ⟨bv,ov,du,bd⟩:=bd (by intro h;rw [h] at ar;simp at ar);obtain ⟨pr,pw,g0,g1,g2,ck,cj⟩:=bd j ar;have fm:va=some ⟨bv,ov,none⟩:=x1.trans du;subst fm;obtain ⟨b1,b2,b3,rfl⟩:=AR ck;obtain ⟨b4,b5,b6,rfl⟩:=AR cj;obtain ⟨g0,g1,g2⟩:=co3 ao g0 g1 g2;have cq:=Aa (Nk (gs:=gs) (n:=n) ar);obtain ⟨kn,dy⟩:=nm (vs[j].1);obtain ⟨lb,cx⟩:=nm (vs[j].2);rw [<-dy] at g0 cq;rw [<-cx] at ck cj cq;have e9:=Aa (gh.o vs[j] (List.getElem_mem ar));rw [<-cx] at e9;have bg:=bA wr (ze #[zg kn,O b1 b2 b3,O b4 b5 b6] 41);have c8:=hL.over h1 bg;have ak:=Ad.new [zg kn,O b1 b2 b3,O b4 b5 b6] 41 wr;have bh:=Aa (KB.o la ln lc none 0 0 (wr.alloc (ze #[zg kn,O b1 b2 b3,O b4 b5 b6] 41)));have eh:=hB.trans (bg.mono (V.o _ hB));have co:=Aa c8;have dg:=Aa eh;have e5:=Aa ak;have e7:=Aa (Ah ck (ao.trans (bg.mono ao.size)));have e6:=Aa (Ah cj (ao.trans (bg.mono ao.size)));have ca:=Aa (ao.trans (bg.mono ao.size));have hm:(j:Int) < (vn:Int):=by omega
   obtain ⟨d0,d1,d2,d3,d4,d5,d6,d7,d8,d9⟩:=CA c8.row;obtain ⟨e0,e1,e2⟩:=rc3 ak;clear hL hB ao cv bd du x1 x2 x3 ck cj dy cx bg c8 ak eh;go_wp2_with fail;refine (bh.o).mono ?_;rintro e z ⟨vj,rfl,F,X⟩;have ab:=Dm F (DR n);obtain ⟨Q,N,M,L,J,I,an⟩:∃ Q N M L J I,vj=zh #[O Q N M,O L J I]:=by
    obtain ⟨x,y,e,-⟩:=Av F;subst e;obtain ⟨z1,z2,z3,z4,z5,z6,rfl,rfl⟩:=A8 (Av F);exact ⟨_,_,_,_,_,_,rfl⟩
   subst an;have cy:=bA z (ze #[O Q N M,O L J I] 50);have aa:=Ac X cy;have ee:=co.o.over h1 aa;have gi:=Aa (ab.over h1 cy);have eg:=dg.o.trans (aa.mono (V.o _ dg.o));have bj:=Ad.new [O Q N M,O L J I] 50 z;have ak:=e5.o.over aa;have cn:=Aa ee;have df:=Aa eg;have hz:=Aa bj;have gl:=Aa (Ah e7.o aa);have gk:=Aa (Ah e6.o aa);have fb:=Aa (ca.o.trans (aa.mono ca.o.size));have b7:Hx (Value.ownBlock (O la ln lc)≠some z.heap.size/\z.heap.size≠Y.heap.size/\Y.heap.size < z.heap.size):=by
    have h3:=X.size;have h4:=co.o.lo.2;refine ⟨fun e=>?_,by omega,by omega⟩;obtain ⟨-,c,f,he⟩:=B9 co.o.vs _ e;have:=(Array.getElem?_eq_some_iff.1 he).1;omega
   have gm:=Aa (JM (W:=z) (cs:=#[O Q N M,O L J I]) (T:=50) (by decide));clear d0 d1 d2 d3 d4 d5 d6 d7 d8 d9 e0 e1 e2 F X ab cy aa ee eg bh co dg e5 e7 e6 ca;obtain ⟨d0,d1,d2,d3,d4,d5,d6,d7,d8,d9⟩:=CA cn.o.row;obtain ⟨e0,e1,e2⟩:=rc3 ak;obtain ⟨f0,f1⟩:=rc2 bj;clear bj ak
   cases kn with
   | false=>
    have dd:=cn;have b9:=df;have HT:=gi;have E:=(Below.refl _ (z.alloc (ze #[O Q N M,O L J I] 50))).alloc (Nat.le_refl _) (ze #[O Q N M,O L J I] 50);have l:=dd.o.over h1 E;have hN:=Ad.new [O Q N M,O L J I] 50 (z.alloc (ze #[O Q N M,O L J I] 50));have bp:(z.alloc (ze #[O Q N M,O L J I] 50)).heap.size=(z.heap.size+1):=by simp
    rw [bp] at hN;have HN:=Aa hN;clear hN bp;obtain ⟨us,A,H⟩:=l.vs;have b8:=Aa H;have av:=Aa A;have da:=Aa (HT.o.over h1 E);have aq:=Aa l;have de:=Aa (show (w.heap.size+1+1)<=((z.alloc (ze #[O Q N M,O L J I] 50)).alloc (ze #[O Q N M,O L J I] 50)).heap.size by have:=l.lo;omega);have dx:(Cx gs n (vs.take j)).length<=16:=by simp [Cx];omega
    have aj:=Aa (b9.o.trans (E.mono (V.o _ b9.o)));have dN:=l.row 8 _ rfl;have fN:=l.fz 8;clear E l H;go_wp2_with (at_builtin;refine wpList_append_own_at _ rfl _ _ 42 rfl (w.heap.size+1+1) 50 i0 (zh #[O none 0 0,O none 0 0]) 2 48 Tryz.underlying42 hi bo bm bk rfl (by decide) _ _ _ rfl av.o ⟨(z.heap.size+1),0,none⟩ 1 1 [O Q N M,O L J I] rfl rfl (fun jj u hu=>by rw [Addr.add_lit,Nat.zero_add];exact HN.o jj u hu) (by simp [Value.oneCell']) (by unfold maxLen;omega) (by omega) de.o ?_);intro v2 w2 s t _ S;obtain ⟨ah,af,ag,rfl⟩:=AG s;have G:=B5.addV h1 rfl aq.o av.o b8.o da.o s t (by simpa using S);have d2:=t.cell dN (fun hx=>aq.o.ap2.1 hx.symm);have f2:w2.frozen? ⟨Y.heap.size,8,none⟩=false:=(World.frozen?_of_block (a:=⟨Y.heap.size,8,none⟩) (t.block Y.heap.size aq.o.lo.2 (fun hx=>aq.o.ap2.1 hx.symm))).trans fN;have C:=Aa G;clear G s t S A dN fN;go_wp2_with fail;refine ⟨⟨j+1,ah,af,ag,by omega,by go_num,by rw [cq.o];exact C.o.1,aj.o.trans C.o.2⟩,by simp [intOf];omega⟩
   | true=>
    have e3:=Aa (KL.o la ln lc none 0 0 _ _ lb _ fb.o gl.o gk.o e9.o);go_wp2_with fail;refine (e3.o).mono ?_;rintro e W5 ⟨vj,rfl,F,ax⟩;have be:Bh (z.alloc (ze #[O Q N M,O L J I] 50)) W5 vj (AH (AE gs) n lb):=by simpa using F
    have ec:=Dm be (GW _ n lb);obtain ⟨m1,m2,m3,m4,m5,m6,an⟩:∃ Q N M L J I,vj=zh #[O Q N M,O L J I]:=by
     obtain ⟨x,y,e,-⟩:=Av be;subst e;obtain ⟨z1,z2,z3,z4,z5,z6,rfl,rfl⟩:=A8 (Av be);exact ⟨_,_,_,_,_,_,rfl⟩
    subst an;have br:z.heap.size < (z.alloc (ze #[O Q N M,O L J I] 50)).heap.size:=by simp
    have cg:=gm.o.over ax br;obtain ⟨p0,p1⟩:=co2 ax f0 f1;have z0:W5.frozen? ⟨z.heap.size,0,none⟩=false:=((Am ax).2 _ _ br).trans (by simp [go_sem]);have z1:W5.frozen? ⟨z.heap.size,1,none⟩=false:=((Am ax).2 _ _ br).trans (by simp [go_sem]);have ed:=cn.o.over h1 ax;have cz:=(ed.box (j:=0) (u:=O m1 m2 m3) h1 b7.o.2.1 b7.o.1 (by simp [Value.ownBlock]) cg).box (j:=1) (u:=O m4 m5 m6) h1 b7.o.2.1 b7.o.1 (by simp [Value.ownBlock]) cg.set;have dd:=Aa cz;have cr:(w.heap.size+1+1)<=z.heap.size:=by have:=cn.o.lo.1;have:=b7.o.2.2;omega
    have b9:=Aa (((df.o.trans (ax.mono (V.o _ df.o))).setCell (p:=⟨z.heap.size,0,none⟩) cr (O m1 m2 m3)).setCell (p:=⟨z.heap.size,1,none⟩) cr (O m4 m5 m6));have HT:=Aa ((ec.keep h1 (fun k bz fr hk=>(Ct (b:=z.heap.size) (j:=0) (u:=O m1 m2 m3)).block k (Array.getElem?_eq_some_iff.1 hk).1 (fun e=>by injection e with e;subst e;exact cg bz fr hk))).keep h1 (fun k bz fr hk=>(Ct (b:=z.heap.size) (j:=1) (u:=O m4 m5 m6)).block k (Array.getElem?_eq_some_iff.1 hk).1 (fun e=>by injection e with e;subst e;exact cg.set bz fr hk)));have q0:((W5.setCell ⟨z.heap.size,0,none⟩ (O m1 m2 m3)).setCell ⟨z.heap.size,1,none⟩ (O m4 m5 m6)).cell? ⟨z.heap.size,0,none⟩=some (O m1 m2 m3):=by simp [go_sem,p0]
    have q1:((W5.setCell ⟨z.heap.size,0,none⟩ (O m1 m2 m3)).setCell ⟨z.heap.size,1,none⟩ (O m4 m5 m6)).cell? ⟨z.heap.size,1,none⟩=some (O m4 m5 m6):=by simp [go_sem,p1]
    clear d0 d1 d2 d3 d4 d5 d6 d7 d8 d9 e0 e1 e2 f0 f1 e3 F be ec ed;obtain ⟨d0,d1,d2,d3,d4,d5,d6,d7,d8,d9⟩:=CA cz.row;clear cz ax;have E:=(Below.refl _ ((W5.setCell ⟨z.heap.size,0,none⟩ (O m1 m2 m3)).setCell ⟨z.heap.size,1,none⟩ (O m4 m5 m6))).alloc (Nat.le_refl _) (ze #[O m1 m2 m3,O m4 m5 m6] 50);have l:=dd.o.over h1 E;have hN:=Ad.new [O m1 m2 m3,O m4 m5 m6] 50 ((W5.setCell ⟨z.heap.size,0,none⟩ (O m1 m2 m3)).setCell ⟨z.heap.size,1,none⟩ (O m4 m5 m6));have bp:((W5.setCell ⟨z.heap.size,0,none⟩ (O m1 m2 m3)).setCell ⟨z.heap.size,1,none⟩ (O m4 m5 m6)).heap.size=W5.heap.size:=by simp [World.setCell]
    rw [bp] at hN;have HN:=Aa hN;clear hN bp;obtain ⟨us,A,H⟩:=l.vs;have b8:=Aa H;have av:=Aa A;have da:=Aa (HT.o.over h1 E);have aq:=Aa l;have de:=Aa (show (w.heap.size+1+1)<=(((W5.setCell ⟨z.heap.size,0,none⟩ (O m1 m2 m3)).setCell ⟨z.heap.size,1,none⟩ (O m4 m5 m6)).alloc (ze #[O m1 m2 m3,O m4 m5 m6] 50)).heap.size by have:=l.lo;omega);have dx:(Cx gs n (vs.take j)).length<=16:=by simp [Cx];omega
    have aj:=Aa (b9.o.trans (E.mono (V.o _ b9.o)));have dN:=l.row 8 _ rfl;have fN:=l.fz 8;clear E l H;go_wp2_with (at_builtin;refine wpList_append_own_at _ rfl _ _ 42 rfl (w.heap.size+1+1) 50 i0 (zh #[O none 0 0,O none 0 0]) 2 48 Tryz.underlying42 hi bo bm bk rfl (by decide) _ _ _ rfl av.o ⟨W5.heap.size,0,none⟩ 1 1 [O m1 m2 m3,O m4 m5 m6] rfl rfl (fun jj u hu=>by rw [Addr.add_lit,Nat.zero_add];exact HN.o jj u hu) (by simp [Value.oneCell']) (by unfold maxLen;omega) (by omega) de.o ?_);intro v2 w2 s t _ S;obtain ⟨ah,af,ag,rfl⟩:=AG s;have G:=B5.addV h1 rfl aq.o av.o b8.o da.o s t (by simpa using S);have d2:=t.cell dN (fun hx=>aq.o.ap2.1 hx.symm);have f2:w2.frozen? ⟨Y.heap.size,8,none⟩=false:=(World.frozen?_of_block (a:=⟨Y.heap.size,8,none⟩) (t.block Y.heap.size aq.o.lo.2 (fun hx=>aq.o.ap2.1 hx.symm))).trans fN;have C:=Aa G;clear G s t S A dN fN;go_wp2_with fail;refine ⟨⟨j+1,ah,af,ag,by omega,by go_num,by rw [cq.o];exact C.o.1,aj.o.trans C.o.2⟩,by simp [intOf];omega⟩
  ·have ar:vs.take j=vs:=List.take_of_length_le (by rw [<-e4.o];omega)
   rw [ar] at hL;have HL:=Aa hL;have HB:=Aa hB;obtain ⟨c0,c1,c2,c3,c4,c5,c6,c7⟩:=rc8 cv;clear ar hL hB ao cv;go_wp2_with fail;go_loopw [41] (fun x wr=>∃ (q:Nat) (ka:Option Addr) (kn2 kc:Nat),q<=fn/\x=zd U q/\B5 n (w.heap.size+1+1) Y.heap.size [zd U (n:Int),O ga gn gc,O sa sn sc,O ya yn yc,O oa on oc,O va vn vc,O fa fn fc,O ba bn bc] (Cx gs n vs) (List.replicate q (BS n)) (O la ln lc) (O ka kn2 kc) wr/\Below (w.heap.size+1+1) V0 wr) (fun x _=>fn - (intOf x).toNat)
   case atStart=>exact ⟨0,none,0,0,Nat.zero_le _,rfl,HL.o,HB.o⟩
   case round=>
    clear c0 c1 c2 c3 c4 c5 c6 c7 HL HB;obtain ⟨q,ka,kn2,kc,hq,rfl,hL,hB⟩:=hrel;have HL:=Aa hL;have ai:=Aa hB;obtain ⟨d0,d1,d2,d3,d4,d5,d6,d7,d8,d9⟩:=CA hL.row;have bh:=Aa (KB.o la ln lc ka kn2 kc wr.drew);clear hL hB;by_cases hlt2:q < fn
    ·have hh:(q:Int) < (fn:Int):=by omega
     go_wp2_with fail;refine gS (fun Wz=>True) (trivial) fun d=>?_;refine kT 0 ?_;refine kT 1 ?_;refine kT 2 ?_;refine kT 4 ?_;refine rdB 3 5 rfl (fun K g=>?_) rfl fun K g=>?_
     ·go_simp
      refine xK g trivial fun d=>?_;clear g K;refine rdA 5 rfl fun K g=>?_;go_simp;refine xK g trivial fun d=>?_;clear g K;refine rdA 6 rfl fun K g=>?_;go_simp;refine (bh.o).mono ?_;rintro e z ⟨vj,rfl,F,X⟩;have ab:=Dm F (DR n);obtain ⟨Q,N,M,L,J,I,an⟩:∃ Q N M L J I,vj=zh #[O Q N M,O L J I]:=by
       obtain ⟨x,y,e,-⟩:=Av F;subst e;obtain ⟨z1,z2,z3,z4,z5,z6,rfl,rfl⟩:=A8 (Av F);exact ⟨_,_,_,_,_,_,rfl⟩
      subst an;have R:=Ac (bD wr) X;have ac:=HL.o.over h1 R;have ae:=ai.o.trans (R.mono (V.o _ ai.o));have x9:=ac.row 9 _ rfl;have E:=bA z (ze #[O Q N M,O L J I] 50);have l:=ac.over h1 E;have hN:=Ad.new [O Q N M,O L J I] 50 z;obtain ⟨us,A,H⟩:=l.fs;have au:=ab.over h1 E;have ad:=ae.trans (E.mono (V.o _ ae));have y9:=l.row 9 _ rfl;have z9:=l.fz 9;have bw:(w.heap.size+1+1)<=(z.alloc (ze #[O Q N M,O L J I] 50)).heap.size:=V.o _ ad;obtain ⟨v2,w2,al,s,t,-,S⟩:=run_append_own_at (P:=Tryz.prog) (w:=z.alloc (ze #[O Q N M,O L J I] 50)) (w.heap.size+1+1) 42 42 50 i0 (zh #[O none 0 0,O none 0 0]) 2 48 Tryz.underlying42 hi bo bm bk rfl (by decide) _ _ _ A ⟨z.heap.size,0,none⟩ 1 1 [O Q N M,O L J I] rfl (fun jj u hu=>by rw [Addr.add_lit,Nat.zero_add];exact hN jj u hu) (by simp [Value.oneCell']) (by unfold maxLen;simp;omega) (by simp;omega) bw;obtain ⟨ah,af,ag,rfl⟩:=AG s;have G:=B5.addF h1 rfl l A H au s t S;have d2:=t.cell y9 (fun hx=>l.ap2.2 hx.symm);have f2:w2.frozen? ⟨Y.heap.size,9,none⟩=false:=(World.frozen?_of_block (a:=⟨Y.heap.size,9,none⟩) (t.block Y.heap.size l.lo.2 (fun hx=>l.ap2.2 hx.symm))).trans z9;have C:=Aa G;have aj:=Aa ad;clear G s t S A H au hN ac ae X R F ab E l ad z9;go_simp;refine xK g trivial fun d=>?_;clear g K;refine rdA 7 rfl fun K g=>?_;go_simp;refine xK g trivial fun d=>?_;clear g K;refine rdA 8 rfl fun K g=>?_;refine EH rfl _ _ _ rfl _ _ _ _ rfl rfl al ?_;refine xK g trivial fun d=>?_;clear g K;refine rdA 9 rfl fun K g=>?_;go_simp;refine xK g trivial fun d=>?_;clear g K;refine rdA 10 rfl fun K g=>?_;go_simp;refine xK g trivial fun d=>?_;clear g K;refine rdA 11 rfl fun K g=>?_;go_simp;refine xK g trivial fun d=>?_;clear g K;refine rdA 12 rfl fun K g=>?_;go_simp;refine xK g trivial fun d=>?_;clear g K;refine gE ?_;go_wp2_with fail;refine ⟨⟨q+1,ah,af,ag,by omega,by go_num,by rw [List.replicate_succ'];exact C.o.1,aj.o.trans C.o.2⟩,by simp [intOf];omega⟩
     ·go_simp
      refine xK g trivial fun d=>?_;clear g K;refine rdB 3 6 rfl (fun K g=>?_) rfl fun K g=>?_
      ·go_simp
       refine xK g trivial fun d=>?_;clear g K;refine rdA 6 rfl fun K g=>?_;go_simp;refine (bh.o).mono ?_;rintro e z ⟨vj,rfl,F,X⟩;have ab:=Dm F (DR n);obtain ⟨Q,N,M,L,J,I,an⟩:∃ Q N M L J I,vj=zh #[O Q N M,O L J I]:=by
        obtain ⟨x,y,e,-⟩:=Av F;subst e;obtain ⟨z1,z2,z3,z4,z5,z6,rfl,rfl⟩:=A8 (Av F);exact ⟨_,_,_,_,_,_,rfl⟩
       subst an;have R:=Ac (bD wr) X;have ac:=HL.o.over h1 R;have ae:=ai.o.trans (R.mono (V.o _ ai.o));have x9:=ac.row 9 _ rfl;have E:=bA z (ze #[O Q N M,O L J I] 50);have l:=ac.over h1 E;have hN:=Ad.new [O Q N M,O L J I] 50 z;obtain ⟨us,A,H⟩:=l.fs;have au:=ab.over h1 E;have ad:=ae.trans (E.mono (V.o _ ae));have y9:=l.row 9 _ rfl;have z9:=l.fz 9;have bw:(w.heap.size+1+1)<=(z.alloc (ze #[O Q N M,O L J I] 50)).heap.size:=V.o _ ad;obtain ⟨v2,w2,al,s,t,-,S⟩:=run_append_own_at (P:=Tryz.prog) (w:=z.alloc (ze #[O Q N M,O L J I] 50)) (w.heap.size+1+1) 42 42 50 i0 (zh #[O none 0 0,O none 0 0]) 2 48 Tryz.underlying42 hi bo bm bk rfl (by decide) _ _ _ A ⟨z.heap.size,0,none⟩ 1 1 [O Q N M,O L J I] rfl (fun jj u hu=>by rw [Addr.add_lit,Nat.zero_add];exact hN jj u hu) (by simp [Value.oneCell']) (by unfold maxLen;simp;omega) (by simp;omega) bw;obtain ⟨ah,af,ag,rfl⟩:=AG s;have G:=B5.addF h1 rfl l A H au s t S;have d2:=t.cell y9 (fun hx=>l.ap2.2 hx.symm);have f2:w2.frozen? ⟨Y.heap.size,9,none⟩=false:=(World.frozen?_of_block (a:=⟨Y.heap.size,9,none⟩) (t.block Y.heap.size l.lo.2 (fun hx=>l.ap2.2 hx.symm))).trans z9;have C:=Aa G;have aj:=Aa ad;clear G s t S A H au hN ac ae X R F ab E l ad z9;go_simp;refine xK g trivial fun d=>?_;clear g K;refine rdA 7 rfl fun K g=>?_;go_simp;refine xK g trivial fun d=>?_;clear g K;refine rdA 8 rfl fun K g=>?_;refine EH rfl _ _ _ rfl _ _ _ _ rfl rfl al ?_;refine xK g trivial fun d=>?_;clear g K;refine rdA 9 rfl fun K g=>?_;go_simp;refine xK g trivial fun d=>?_;clear g K;refine rdA 10 rfl fun K g=>?_;go_simp;refine xK g trivial fun d=>?_;clear g K;refine rdA 11 rfl fun K g=>?_;go_simp;refine xK g trivial fun d=>?_;clear g K;refine rdA 12 rfl fun K g=>?_;go_simp;refine xK g trivial fun d=>?_;clear g K;refine gE ?_;go_wp2_with fail;refine ⟨⟨q+1,ah,af,ag,by omega,by go_num,by rw [List.replicate_succ'];exact C.o.1,aj.o.trans C.o.2⟩,by simp [intOf];omega⟩
      ·go_simp
       refine (bh.o).mono ?_;rintro e z ⟨vj,rfl,F,X⟩;have ab:=Dm F (DR n);obtain ⟨Q,N,M,L,J,I,an⟩:∃ Q N M L J I,vj=zh #[O Q N M,O L J I]:=by
        obtain ⟨x,y,e,-⟩:=Av F;subst e;obtain ⟨z1,z2,z3,z4,z5,z6,rfl,rfl⟩:=A8 (Av F);exact ⟨_,_,_,_,_,_,rfl⟩
       subst an;have R:=Ac (bD wr) X;have ac:=HL.o.over h1 R;have ae:=ai.o.trans (R.mono (V.o _ ai.o));have x9:=ac.row 9 _ rfl;have E:=bA z (ze #[O Q N M,O L J I] 50);have l:=ac.over h1 E;have hN:=Ad.new [O Q N M,O L J I] 50 z;obtain ⟨us,A,H⟩:=l.fs;have au:=ab.over h1 E;have ad:=ae.trans (E.mono (V.o _ ae));have y9:=l.row 9 _ rfl;have z9:=l.fz 9;have bw:(w.heap.size+1+1)<=(z.alloc (ze #[O Q N M,O L J I] 50)).heap.size:=V.o _ ad;obtain ⟨v2,w2,al,s,t,-,S⟩:=run_append_own_at (P:=Tryz.prog) (w:=z.alloc (ze #[O Q N M,O L J I] 50)) (w.heap.size+1+1) 42 42 50 i0 (zh #[O none 0 0,O none 0 0]) 2 48 Tryz.underlying42 hi bo bm bk rfl (by decide) _ _ _ A ⟨z.heap.size,0,none⟩ 1 1 [O Q N M,O L J I] rfl (fun jj u hu=>by rw [Addr.add_lit,Nat.zero_add];exact hN jj u hu) (by simp [Value.oneCell']) (by unfold maxLen;simp;omega) (by simp;omega) bw;obtain ⟨ah,af,ag,rfl⟩:=AG s;have G:=B5.addF h1 rfl l A H au s t S;have d2:=t.cell y9 (fun hx=>l.ap2.2 hx.symm);have f2:w2.frozen? ⟨Y.heap.size,9,none⟩=false:=(World.frozen?_of_block (a:=⟨Y.heap.size,9,none⟩) (t.block Y.heap.size l.lo.2 (fun hx=>l.ap2.2 hx.symm))).trans z9;have C:=Aa G;have aj:=Aa ad;clear G s t S A H au hN ac ae X R F ab E l ad z9;go_simp;refine xK g trivial fun d=>?_;clear g K;refine rdB 3 7 rfl (fun K g=>?_) rfl fun K g=>?_
       ·go_simp
        refine xK g trivial fun d=>?_;clear g K;refine rdA 7 rfl fun K g=>?_;go_simp;refine xK g trivial fun d=>?_;clear g K;refine rdA 8 rfl fun K g=>?_;refine EH rfl _ _ _ rfl _ _ _ _ rfl rfl al ?_;refine xK g trivial fun d=>?_;clear g K;refine rdA 9 rfl fun K g=>?_;go_simp;refine xK g trivial fun d=>?_;clear g K;refine rdA 10 rfl fun K g=>?_;go_simp;refine xK g trivial fun d=>?_;clear g K;refine rdA 11 rfl fun K g=>?_;go_simp;refine xK g trivial fun d=>?_;clear g K;refine rdA 12 rfl fun K g=>?_;go_simp;refine xK g trivial fun d=>?_;clear g K;refine gE ?_;go_wp2_with fail;refine ⟨⟨q+1,ah,af,ag,by omega,by go_num,by rw [List.replicate_succ'];exact C.o.1,aj.o.trans C.o.2⟩,by simp [intOf];omega⟩
       ·go_simp
        refine xK g trivial fun d=>?_;clear g K;refine rdA 3 rfl fun K g=>?_;go_simp;refine xK g trivial fun d=>?_;clear g K;refine rdA 8 rfl fun K g=>?_;refine EH rfl _ _ _ rfl _ _ _ _ rfl rfl al ?_;refine xK g trivial fun d=>?_;clear g K;refine rdA 9 rfl fun K g=>?_;go_simp;refine xK g trivial fun d=>?_;clear g K;refine rdA 10 rfl fun K g=>?_;go_simp;refine xK g trivial fun d=>?_;clear g K;refine rdA 11 rfl fun K g=>?_;go_simp;refine xK g trivial fun d=>?_;clear g K;refine rdA 12 rfl fun K g=>?_;go_simp;refine xK g trivial fun d=>?_;clear g K;refine gE ?_;go_wp2_with fail;refine ⟨⟨q+1,ah,af,ag,by omega,by go_num,by rw [List.replicate_succ'];exact C.o.1,aj.o.trans C.o.2⟩,by simp [intOf];omega⟩
    ·have fo:fn=q:=by omega
     subst fo;have dq:ET wr (w.heap.size+1):=fun bz fr he=>gg.o bz fr ((ai.o.block (w.heap.size+1) (by omega)) ▸ he);have dt:Ad [zd U 0,O none 0 0,O none 0 0,O none 0 0,O none 0 0,O none 0 0,O none 0 0,O none 0 0,O none 0 0,O none 0 0] wr (w.heap.size+1):=fun i u hu=>(ai.o.cell (p:=⟨w.heap.size+1,i,none⟩) (by simp)).trans (ZR.o i u hu);have Z:∀ j,wr.frozen? ⟨w.heap.size+1,j,none⟩=false:=fun j=>(ai.o.frozen (p:=⟨w.heap.size+1,j,none⟩) (by simp)).trans (ZF.o j);obtain ⟨z0,z1,z2,z3,z4,z5,z6,z7,z8,z9⟩:=CA dt;have f0:=Z 0;have f1:=Z 1;have f2:=Z 2;have f3:=Z 3;have f4:=Z 4;have f5:=Z 5;have f6:=Z 6;have f7:=Z 7;have f8:=Z 8;have f9:=Z 9;have e8:=Aa dq;clear dq dt Z;go_wp2_with fail;refine bodyPost_ret (v:=zh #[zd U (n:Int),O ga gn gc,O sa sn sc,O ya yn yc,O oa on oc,O va vn vc,O fa fn fc,O ba bn bc,O la ln lc,O ka kn2 kc]) (by simp [results,Tryz.results54,go_sem,z0,z1,z2,z3,z4,z5,z6,z7,z8,z9]) rfl ⟨la,ln,lc,ka,kn2,kc,rfl,?_,?_,HL.o.ap,?_⟩
     ·refine AZ.low (B:=w.heap.size+1+1) ?_ (by omega)
      exact AZ.setN h1 (by omega) [zd U (n:Int),O ga gn gc,O sa sn sc,O ya yn yc,O oa on oc,O va vn vc,O fa fn fc,O ba bn bc,O la ln lc,O ka kn2 kc] 0 wr HL.o.vs e8.o
     ·refine AZ.low (B:=w.heap.size+1+1) ?_ (by omega)
      exact AZ.setN h1 (by omega) [zd U (n:Int),O ga gn gc,O sa sn sc,O ya yn yc,O oa on oc,O va vn vc,O fa fn fc,O ba bn bc,O la ln lc,O ka kn2 kc] 0 wr HL.o.fs e8.o
     ·exact Hs (by omega) [zd U (n:Int),O ga gn gc,O sa sn sc,O ya yn yc,O oa on oc,O va vn vc,O fa fn fc,O ba bn bc,O la ln lc,O ka kn2 kc] 0 wr (dh.o.trans (ai.o.mono (by omega)))
def XI (c:WC) (bm:Nat):World->Nat->Prop:=fun _ k=>(∃ a,c.la=some a/\k=a.block)\/(∃ a,c.ka=some a/\k=a.block)\/k=bm
theorem FP (c) (bm:Nat):XOk (XI c bm):=⟨fun _ _ _ _ h=>h⟩
structure FN (c:WC) (w0:World) (bw bm:Nat):Prop where
 la:∀ a,c.la=some a->a.off=0/\a.spot=none/\w0.heap.size<=a.block/\a.block≠bw/\a.block≠bm
 ka:∀ a,c.ka=some a->a.off=0/\a.spot=none/\w0.heap.size<=a.block/\a.block≠bw/\a.block≠bm
 lk:∀ a b,c.la=some a->c.ka=some b->a.block≠b.block
 m:w0.heap.size<=bm/\bw≠bm
structure Di (c:WC) (w0:World) (nv nf bw bm:Nat) (st:ISt) (W:World):Prop where
 below:Ov w0 W
 vs:Bk c.n (XI c bm) W (O c.la c.ln c.lc) st.vs
 fs:Bk c.n (XI c bm) W (O c.ka c.kn c.kc) st.fs
 lv:st.vs.length=nv
 lf:st.fs.length=nf
 more:W.cell? ⟨bm,0,none⟩=some (zg st.more)
 mz:W.frozen? ⟨bm,0,none⟩=false
 row:Ad c.cs W bw
 hl:∀ a,c.la=some a->a.block < W.heap.size/\∀ j,W.frozen? ⟨a.block,j,none⟩=false
 hk:∀ a,c.ka=some a->a.block < W.heap.size/\∀ j,W.frozen? ⟨a.block,j,none⟩=false
theorem QU {c:WC} {w0:World} {nv nf bw bm:Nat} {st:ISt} {W:World} (hC:FN c w0 bw bm) (h:Di c w0 nv nf bw bm st W) {W':World} (k:Nat) (hx:XI c bm W' k):k < W.heap.size:=by
 rcases hx with ⟨a,e,rfl⟩ | ⟨a,e,rfl⟩ | rfl
 ·exact (h.hl a e).1
 ·exact (h.hk a e).1
 ·exact bL h.more
theorem Di.over {c:WC} {w0:World} {nv nf bw bm:Nat} {st:ISt} {W W':World} (h:Di c w0 nv nf bw bm st W) (hb:Ov W W'):Di c w0 nv nf bw bm st W':=
 ⟨h.below.trans (hb.mono h.below.size),h.vs.over (FP c bm) hb,h.fs.over (FP c bm) hb,h.lv,h.lf,Ab hb _ _ h.more,((Am hb).2 _ _ (bL h.more)).trans h.mz,h.row.over hb,
  fun a e=>⟨Nat.lt_of_lt_of_le (h.hl a e).1 hb.size,fun j=>((Am hb).2 _ _ (h.hl a e).1).trans ((h.hl a e).2 j)⟩,fun a e=>⟨Nat.lt_of_lt_of_le (h.hk a e).1 hb.size,fun j=>((Am hb).2 _ _ (h.hk a e).1).trans ((h.hk a e).2 j)⟩⟩
theorem Si {c:WC} {w0:World} {nv bw bm:Nat} {fs:List FnD} {gs:List (Int × Int)} (n1:1<=c.n) (n6:c.n<=6) (gr:AB w0 (O c.ga c.gn c.gc) gs) (chk:AN c.n gs=0) (nv16:nv<=16) (hC:FN c w0 bw bm):Fi c w0 nv fs gs ISt.vs ISt.fs (Di c w0 nv fs.length bw bm) (XI c bm):=
 ⟨n1,n6,gr,chk,nv16,fun st W h=>h.below,fun st W h=>⟨h.vs,h.lv⟩,fun st W h=>⟨h.fs,h.lf⟩,fun st W W' h hb=>h.over hb,FP c bm,fun st W h k hx=>QU hC h k hx⟩
theorem CS {W:World} {b o b' o':Nat} {u:Value} (h:b≠b'\/o≠o'):(W.setCell ⟨b,o,none⟩ u).cell? ⟨b',o',none⟩=W.cell? ⟨b',o',none⟩:=
 World.cell?_setCell_other _ _ _ _ (by intro e;injection e with e1 e2;rcases h with h | h;exact h e1;exact h e2)
theorem Bk.set {n:Nat} {X:World->Nat->Prop} {W W3:World} {b i cap:Nat} {Ls:List Lev} {x y:Value} {l:Lev} (n1:1<=n) (h:Bk n X W (O (some ⟨b,0,none⟩) Ls.length cap) Ls) (hi:i < Ls.length) (hl:A0 n X W3 (zh #[x,y]) l)
  (hF:FrW X W W3) (e0:W3.cell? ⟨b,i*2,none⟩=some x) (e1:W3.cell? ⟨b,i*2+1,none⟩=some y) (hc:∀ j u,j≠i*2->j≠i*2+1->W.cell? ⟨b,j,none⟩=some u->W3.cell? ⟨b,j,none⟩=some u):Bk n X W3 (O (some ⟨b,0,none⟩) Ls.length cap) (Ls.set i l):=by
 obtain ⟨F,k,s,c⟩:=h;injection s with q B A;subst q;refine ⟨some ⟨b,0,none⟩,cap,by simp,fun _=>⟨b,0,rfl,fun j z=>?_⟩⟩;obtain ⟨E,C,d,c⟩:=c (by intro h;rw [h] at hi;simp at hi);injection d with d;injection d with g f;subst g f;simp only [Nat.zero_add] at c ⊢;by_cases hij:i=j
 ·subst hij
  refine ⟨x,y,e0,e1,?_⟩;rw [List.getElem_set_self];exact hl
 ·obtain ⟨rv,p,c0,c1,t⟩:=c j (by simpa using z)
  refine ⟨rv,p,hc _ _ (by omega) (by omega) c0,hc _ _ (by omega) (by omega) c1,?_⟩;rw [List.getElem_set_ne hij];exact t.keep n1 hF
theorem Bk.keep {n:Nat} {X:World->Nat->Prop} {W W3:World} {v:Value} {Ls:List Lev} (n1:1<=n) (h:Bk n X W v Ls) (hF:FrW X W W3) (hc:∀ b o ln cp,v=O (some ⟨b,o,none⟩) ln cp->∀ j u,W.cell? ⟨b,j,none⟩=some u->W3.cell? ⟨b,j,none⟩=some u):Bk n X W3 v Ls:=by
 obtain ⟨y,g,k,c⟩:=h;refine ⟨y,g,k,fun f=>?_⟩;obtain ⟨b,off,d,c⟩:=c f;refine ⟨b,off,d,fun i p=>?_⟩;obtain ⟨rv,l,t,s,q⟩:=c i p;have hk:=hc b off _ _ (by rw [k,d]);exact ⟨rv,l,hk _ _ t,hk _ _ s,q.keep n1 hF⟩
theorem FN.upd {c:WC} {w0:World} {nv nf bw bm b:Nat} {st:ISt} {W W3:World} {i:Bool × Nat} {l:Lev} {x y:Value} (hC:FN c w0 bw bm) (h:Di c w0 nv nf bw bm st W) (hn:1<=c.n/\(if i.1=true then c.la else c.ka)=some ⟨b,0,none⟩) (hb3:Ov W W3) (hl:A0 c.n (XI c bm) W3 (zh #[x,y]) l)
  (h1:i.1=true->i.2 < nv) (h2:i.1=false->i.2 < nf) :
  Di c w0 nv nf bw bm (st.up i l) (((W3.setCell ⟨b,i.2*2,none⟩ x).setCell ⟨b,i.2*2+1,none⟩ y).setCell ⟨bm,0,none⟩ (zg true))/\FrW (XI c bm) W (((W3.setCell ⟨b,i.2*2,none⟩ x).setCell ⟨b,i.2*2+1,none⟩ y).setCell ⟨bm,0,none⟩ (zg true)):=by
 obtain ⟨n1,d⟩:=hn;have f:=h.over hb3;obtain ⟨B,g⟩:∃ B,B=(((W3.setCell ⟨b,i.2*2,none⟩ x).setCell ⟨b,i.2*2+1,none⟩ y).setCell ⟨bm,0,none⟩ (zg true)):=⟨_,rfl⟩;rw [<-g];have Z:XI c bm W3 b:=by
  by_cases hi:i.1=true
  ·rw [if_pos hi] at d;exact Or.inl ⟨_,d,rfl⟩
  ·rw [if_neg hi] at d;exact Or.inr (Or.inl ⟨_,d,rfl⟩)
 have s:b≠bm/\b≠bw/\w0.heap.size<=b:=by
  by_cases hi:i.1=true
  ·rw [if_pos hi] at d;have:=hC.la _ d;exact ⟨this.2.2.2.2,this.2.2.2.1,this.2.2.1⟩
  ·rw [if_neg hi] at d;have:=hC.ka _ d;exact ⟨this.2.2.2.2,this.2.2.2.1,this.2.2.1⟩
 have F:B.heap.size=W3.heap.size:=by rw [g];simp [World.setCell]
 have G:∀ k,k≠b->k≠bm->B.heap[k]? = W3.heap[k]?:=fun k hk O=>by
  rw [g,Bu (Ne.symm O),Bu (Ne.symm hk),Bu (Ne.symm hk)]
 have z:FrW (XI c bm) W3 B:=by
  refine ⟨by rw [g];rfl,by rw [g];rfl,by rw [g];rfl,by omega,fun k _ U=>G k (fun e=>U (e ▸ Z)) (fun e=>U (Or.inr (Or.inr e))),fun k _ U=>U⟩
 have hF:=(FrW.of_below (FP c bm) hb3).trans z;have M:∀ b' o' u,b'≠b->b'≠bm->W3.cell? ⟨b',o',none⟩=some u->B.cell? ⟨b',o',none⟩=some u:=fun b' o' u hb O J=>(World.cell?_of_block (a:=⟨b',o',none⟩) (G b' hb O)).trans J;have T:∀ j u,j≠i.2*2->j≠i.2*2+1->W3.cell? ⟨b,j,none⟩=some u->B.cell? ⟨b,j,none⟩=some u:=fun j u hj ad J=>by
  rw [g,CS (Or.inl s.1.symm),CS (Or.inr (Ne.symm ad)),CS (Or.inr (Ne.symm hj))];exact J
 have A:∀ b' j,B.frozen? ⟨b',j,none⟩=W3.frozen? ⟨b',j,none⟩:=fun b' j=>by rw [g];simp [go_sem]
 have S:=hl.keep n1 z;have ae:(∃ u,W3.cell? ⟨b,i.2*2,none⟩=some u)/\∃ u,W3.cell? ⟨b,i.2*2+1,none⟩=some u:=by
  by_cases hi:i.1=true
  ·rw [if_pos hi] at d
   have ac:=h1 hi;obtain ⟨ao,N,E,t⟩:=f.vs;injection E with Q P X;obtain ⟨b',o',q,t⟩:=t (by intro e;have:=f.lv;rw [e] at this;simp at this;omega);rw [<-Q,d] at q;injection q with q;injection q with L K;subst L K;obtain ⟨rv,wv,c0,c1,-⟩:=t i.2 (by have:=f.lv;omega);simp only [Nat.zero_add] at c0 c1;exact ⟨⟨_,c0⟩,_,c1⟩
  ·rw [if_neg hi] at d
   have ac:=h2 (by simpa using hi);obtain ⟨ao,N,E,t⟩:=f.fs;injection E with Q P X;obtain ⟨b',o',q,t⟩:=t (by intro e;have:=f.lf;rw [e] at this;simp at this;omega);rw [<-Q,d] at q;injection q with q;injection q with L K;subst L K;obtain ⟨rv,wv,c0,c1,-⟩:=t i.2 (by have:=f.lf;omega);simp only [Nat.zero_add] at c0 c1;exact ⟨⟨_,c0⟩,_,c1⟩
 obtain ⟨⟨u0,ab⟩,u1,aa⟩:=ae;have e0:B.cell? ⟨b,i.2*2,none⟩=some x:=by
  rw [g,CS (Or.inl s.1.symm),CS (Or.inr (by omega))];exact World.cell?_setCell_same _ _ _ ab
 have e1:B.cell? ⟨b,i.2*2+1,none⟩=some y:=by
  rw [g,CS (Or.inl s.1.symm)];exact World.cell?_setCell_same _ _ _ (u:=u1) (by rw [CS (Or.inr (by omega))];exact aa)
 have H:Ov w0 B:=by
  rw [g];exact ((f.below.setCell (p:=⟨b,i.2*2,none⟩) s.2.2 _).setCell (p:=⟨b,i.2*2+1,none⟩) s.2.2 _).setCell (p:=⟨bm,0,none⟩) hC.m.1 _
 have O:B.cell? ⟨bm,0,none⟩=some (zg true):=by
  rw [g];exact World.cell?_setCell_same _ _ _ (u:=zg st.more) (by rw [CS (Or.inl s.1),CS (Or.inl s.1)];exact f.more)
 have R:Ad c.cs B bw:=fun j u hu=>M _ _ _ (Ne.symm s.2.1) hC.m.2 (f.row j u hu);refine ⟨?_,hF⟩;by_cases hi:i.1=true
 ·rw [if_pos hi] at d
  have I:st.up i l=⟨st.vs.set i.2 l,st.fs,true⟩:=by unfold ISt.up;rw [if_pos hi]
  rw [I];obtain ⟨ao,N,E,-⟩:=f.vs;injection E with Q P X;refine ⟨H,?_,f.fs.keep n1 z (fun b' o' ln cp E j u J=>?_),by simpa using f.lv,f.lf,O,(A _ _).trans f.mz,R,fun a e=>⟨by rw [F];exact (f.hl a e).1,fun j=>(A _ _).trans ((f.hl a e).2 j)⟩,fun a e=>⟨by rw [F];exact (f.hk a e).1,fun j=>(A _ _).trans ((f.hk a e).2 j)⟩⟩
  ·have:=f.vs
   rw [d,P] at this ⊢;exact Bk.set n1 this (by have:=h1 hi;have:=f.lv;omega) S z e0 e1 T
  ·injection E with C Y V
   exact M _ _ _ (fun e=>hC.lk _ _ d C e.symm) (hC.ka _ C).2.2.2.2 J
 ·rw [if_neg hi] at d
  have I:st.up i l=⟨st.vs,st.fs.set i.2 l,true⟩:=by unfold ISt.up;rw [if_neg hi]
  rw [I];obtain ⟨ao,N,E,-⟩:=f.fs;injection E with Q P X;refine ⟨H,f.vs.keep n1 z (fun b' o' ln cp E j u J=>?_),?_,f.lv,by simpa using f.lf,O,(A _ _).trans f.mz,R,fun a e=>⟨by rw [F];exact (f.hl a e).1,fun j=>(A _ _).trans ((f.hl a e).2 j)⟩,fun a e=>⟨by rw [F];exact (f.hk a e).1,fun j=>(A _ _).trans ((f.hk a e).2 j)⟩⟩
  ·injection E with C Y V
   exact M _ _ _ (fun e=>hC.lk _ _ C d e) (hC.la _ C).2.2.2.2 J
  ·have:=f.fs
   rw [d,P] at this ⊢;exact Bk.set n1 this (by have:=h2 (by simpa using hi);have:=f.lf;omega) S z e0 e1 T
theorem Qv (args:Array Value) (w:World):(callFunc 56 args).run Tryz.prog w=.ok (.enter 56 args) w:=by simp [go_sem]
theorem Di.lev {c:WC} {w0:World} {nv nf bw bm b off:Nat} {st:ISt} {W:World} {i:Bool × Nat} (hC:FN c w0 bw bm) (h:Di c w0 nv nf bw bm st W) (hib:(if i.1=true then c.la else c.ka)=some ⟨b,off,none⟩) (h1:i.1=true->i.2 < nv) (h2:i.1=false->i.2 < nf) :
  off=0/\(b < W.heap.size/\∀ j,W.frozen? ⟨b,j,none⟩=false)/\b≠bw/\b≠bm/\∃ rv wv,W.cell? ⟨b,i.2*2,none⟩=some rv/\W.cell? ⟨b,i.2*2+1,none⟩=some wv/\A0 c.n (XI c bm) W (zh #[rv,wv]) (st.at i):=by
 unfold ISt.at
 by_cases hi:i.1=true
 ·rw [if_pos hi] at hib ⊢
  have u:=h1 hi;have k:=hC.la _ hib;have t:off=0:=k.1;subst t;obtain ⟨E,y,s,g⟩:=h.vs;injection s with q A z;obtain ⟨C,B,d,g⟩:=g (by intro e;have:=h.lv;rw [e] at this;simp at this;omega);rw [<-q,hib] at d;injection d with d;injection d with p l;subst p l;have f:i.2 < st.vs.length:=by have:=h.lv;omega
  obtain ⟨rv,wv,c0,c1,hl⟩:=g i.2 f;simp only [Nat.zero_add] at c0 c1;refine ⟨rfl,h.hl _ hib,k.2.2.2.1,k.2.2.2.2,rv,wv,c0,c1,?_⟩;have e:st.vs.getD i.2 AL=st.vs[i.2]:=by simp [List.getD_eq_getElem?_getD,f]
  rw [e];exact hl
 ·rw [if_neg hi] at hib ⊢
  have u:=h2 (by simpa using hi);have k:=hC.ka _ hib;have t:off=0:=k.1;subst t;obtain ⟨E,y,s,g⟩:=h.fs;injection s with q A z;obtain ⟨C,B,d,g⟩:=g (by intro e;have:=h.lf;rw [e] at this;simp at this;omega);rw [<-q,hib] at d;injection d with d;injection d with p l;subst p l;have f:i.2 < st.fs.length:=by have:=h.lf;omega
  obtain ⟨rv,wv,c0,c1,hl⟩:=g i.2 f;simp only [Nat.zero_add] at c0 c1;refine ⟨rfl,h.hk _ hib,k.2.2.2.1,k.2.2.2.2,rv,wv,c0,c1,?_⟩;have e:st.fs.getD i.2 AL=st.fs[i.2]:=by simp [List.getD_eq_getElem?_getD,f]
  rw [e];exact hl
abbrev Ju (bw:Nat) (c:WC) (W:World) (p1:Option Addr) (q1 r1:Nat) (p2:Option Addr) (q2 r2 b:Nat) (i:Bool × Nat) (m1:Option Addr) (m2 m3:Nat) (m4:Option Addr) (m5 m6:Nat) (Wz:World):Prop:=Wz.cell? ⟨bw,0,none⟩=some (zd U (c.n:Int))/\Wz.cell? ⟨bw,1,none⟩=some (O c.ga c.gn c.gc)/\Wz.cell? ⟨bw,2,none⟩=some (O c.sa c.sn c.sc)/\Wz.cell? ⟨bw,3,none⟩=some (O c.ya c.yn c.yc)/\Wz.cell? ⟨bw,4,none⟩=some (O c.oa c.on c.oc)/\Wz.cell? ⟨bw,5,none⟩=some (O c.va c.vn c.vc)/\Wz.cell? ⟨bw,6,none⟩=some (O c.fa c.fn c.fc)/\Wz.cell? ⟨bw,7,none⟩=some (O c.ba c.bn c.bc)/\Wz.cell? ⟨bw,8,none⟩=some (O c.la c.ln c.lc)/\Wz.cell? ⟨bw,9,none⟩=some (O c.ka c.kn c.kc)/\Wz.cell? ⟨W.heap.size,0,none⟩=some (O p1 q1 r1)/\Wz.cell? ⟨W.heap.size,1,none⟩=some (O p2 q2 r2)/\Wz.cell? ⟨b,i.2*2,none⟩=some (O m1 m2 m3)/\Wz.cell? ⟨b,i.2*2+1,none⟩=some (O m4 m5 m6)
abbrev NE (bw:Nat) (c:WC) (W:World) (p1:Option Addr) (q1 r1:Nat) (p2:Option Addr) (q2 r2:Nat) (Wz:World):Prop:=Wz.cell? ⟨bw,0,none⟩=some (zd U (c.n:Int))/\Wz.cell? ⟨bw,1,none⟩=some (O c.ga c.gn c.gc)/\Wz.cell? ⟨bw,2,none⟩=some (O c.sa c.sn c.sc)/\Wz.cell? ⟨bw,3,none⟩=some (O c.ya c.yn c.yc)/\Wz.cell? ⟨bw,4,none⟩=some (O c.oa c.on c.oc)/\Wz.cell? ⟨bw,5,none⟩=some (O c.va c.vn c.vc)/\Wz.cell? ⟨bw,6,none⟩=some (O c.fa c.fn c.fc)/\Wz.cell? ⟨bw,7,none⟩=some (O c.ba c.bn c.bc)/\Wz.cell? ⟨bw,8,none⟩=some (O c.la c.ln c.lc)/\Wz.cell? ⟨bw,9,none⟩=some (O c.ka c.kn c.kc)/\Wz.cell? ⟨W.heap.size,0,none⟩=some (O p1 q1 r1)/\Wz.cell? ⟨W.heap.size,1,none⟩=some (O p2 q2 r2)
theorem Qo (c:WC) (w0:World) (nv bw bm:Nat) (fs gs) (n1:1<=c.n) (gr:AB w0 (O c.ga c.gn c.gc) gs) (chk:AN c.n gs=0) (hC:FN c w0 bw bm) :
  DG c nv fs (Di c w0 nv fs.length bw bm) (XI c bm) (B7 c.n) 56 (zj (some ⟨bw,0,none⟩)) (zj (some ⟨bm,0,none⟩)):=by
 intro st W v l i b off hI hl ai ah ag;obtain ⟨rfl,⟨be,a8⟩,bb,bd,rv,wv,c0,c1,af⟩:=Di.lev hC hI ag ai ah;obtain ⟨E,B,z,C,A,u,rfl⟩:=hl.form;obtain ⟨m1,m2,m3,m4,m5,Z,Q⟩:=af.form;simp at Q;obtain ⟨rfl,rfl⟩:=Q;have I:Ov W (W.alloc (ze #[O E B z,O C A u] 50)):=bA W _;have H:=hI.over I;have P:=hl.over (FP c bm) I;have F:=af.over (FP c bm) I;obtain ⟨l0,l1⟩:=co2 I c0 c1;have L0:=Aa l0;have L1:=Aa l1;have N:=Ad.new [O E B z,O C A u] 50 W;have aj:=Aj gr H.below;have KF:=Aa fun (L:World) (q:Ov (W.alloc (ze #[O E B z,O C A u] 50)) L)=>Pb (c.n:Int) c.ga c.gn c.gc c.sa c.sn c.sc c.ya c.yn c.yc c.oa c.on c.oc c.va c.vn c.vc c.fa c.fn c.fc c.ba c.bn c.bc c.la c.ln c.lc c.ka c.kn c.kc gs (O E B z) (O C A u) (O m1 m2 m3) (O m4 m5 Z) l (st.at i) L (Aj aj q) (AW P.at_ q) (AW F.at_ q) (EN chk P.len F.len);have KJ:=Aa fun (L:World) (q:Ov (W.alloc (ze #[O E B z,O C A u] 50)) L)=>Mv (c.n:Int) c.ga c.gn c.gc c.sa c.sn c.sc c.ya c.yn c.yc c.oa c.on c.oc c.va c.vn c.vc c.fa c.fn c.fc c.ba c.bn c.bc c.la c.ln c.lc c.ka c.kn c.kc gs (O m1 m2 m3) (O m4 m5 Z) (O E B z) (O C A u) (st.at i) l L (Aj aj q) (AW F.at_ q) (AW P.at_ q) (EN chk F.len P.len);simp only [Int.toNat_natCast] at KF;obtain ⟨fb,ak⟩:=nm (Aw l (st.at i) c.n);rw [<-ak] at KF;have bh:=Aa ak.symm;have HC:=Aa hC;have HI:=Aa H;have M:=Aa H.row;have S:=Aa N;have cg:=Aa (And.intro n1 ag);have bi:=Aa (FrW.of_below (FP c bm) I);have bl:=Aa (show b < (W.alloc (ze #[O E B z,O C A u] 50)).heap.size by simp;omega);have bf:=Aa (show ∀ j,(W.alloc (ze #[O E B z,O C A u] 50)).frozen? ⟨b,j,none⟩=false from fun j=>((Am I).2 _ _ be).trans (a8 j));have ce:=Aa (bL H.more);have cd:=Aa H.mz;have cf:=Aa H.more;have cc:=Aa (Ne.symm bd);have cj:=Aa bb;have bk:=Aa (show b≠W.heap.size by omega);have cb:=Aa ai;have ca:=Aa ah;obtain ⟨t0,t1,t2,t3,t4,t5,t6,t7,t8,t9⟩:=CA H.row;obtain ⟨b0,b1⟩:=rc2 N;have R:Ju bw c W E B z C A u b i m1 m2 m3 m4 m5 Z (W.alloc (ze #[O E B z,O C A u] 50)):=⟨t0,t1,t2,t3,t4,t5,t6,t7,t8,t9,b0,b1,l0,l1⟩;clear hI hl af H P F N aj ak I c0 c1 a8 ai ah hC gr chk bb bd be ag n1;go_enter Tryz.func56,Tryz.ntmps56;rw [Nat.zero_add]
 cases fb with
 | true=>
  go_wp2_with fail;refine gS (Ju bw c W E B z C A u b i m1 m2 m3 m4 m5 Z) (R) fun g=>?_;refine kT 0 ?_;refine kT 1 ?_;refine kT 2 ?_;refine kT 3 ?_;refine kT 4 ?_;refine kT 5 ?_;refine rdA 6 rfl fun K t=>?_;go_simp;refine (KF.o _ (bD _)).mono ?_;rintro e L ⟨rfl,q⟩;have f:=Ac ((Below.refl _ (W.alloc (ze #[O E B z,O C A u] 50))).drew) q;have d:=M.o.over f;have s:=S.o.over f;have J:Ju bw c W E B z C A u b i m1 m2 m3 m4 m5 Z L:=⟨d 0 _ rfl,d 1 _ rfl,d 2 _ rfl,d 3 _ rfl,d 4 _ rfl,d 5 _ rfl,d 6 _ rfl,d 7 _ rfl,d 8 _ rfl,d 9 _ rfl,s 0 _ rfl,s 1 _ rfl,Ab f _ _ l0,Ab f _ _ l1⟩;have p:=Aa f;clear d s q f;go_simp;refine xK t (J) fun g=>?_;clear t K;refine rdA 7 rfl fun K t=>?_;go_simp;refine xK t (J) fun g=>?_;clear t K;refine gE ?_;go_wp2_with fail;go_end0;refine ⟨rfl,?_,bi.o.trans (FrW.of_below (FP c bm) p.o)⟩;unfold B7;rw [if_pos bh.o];exact HI.o.over p.o
 | false=>
  go_wp2_with fail;refine gS (Ju bw c W E B z C A u b i m1 m2 m3 m4 m5 Z) (R) fun g=>?_;refine kT 0 ?_;refine kT 1 ?_;refine kT 2 ?_;refine kT 3 ?_;refine kT 4 ?_;refine kT 5 ?_;refine rdA 6 rfl fun K t=>?_;go_simp;refine (KF.o _ (bD _)).mono ?_;rintro e L ⟨rfl,q⟩;have f:=Ac ((Below.refl _ (W.alloc (ze #[O E B z,O C A u] 50))).drew) q;have d:=M.o.over f;have s:=S.o.over f;have J:Ju bw c W E B z C A u b i m1 m2 m3 m4 m5 Z L:=⟨d 0 _ rfl,d 1 _ rfl,d 2 _ rfl,d 3 _ rfl,d 4 _ rfl,d 5 _ rfl,d 6 _ rfl,d 7 _ rfl,d 8 _ rfl,d 9 _ rfl,s 0 _ rfl,s 1 _ rfl,Ab f _ _ l0,Ab f _ _ l1⟩;have p:=Aa f;clear d s q f;go_simp;refine xK t (J) fun g=>?_;clear t K;refine rdA 7 rfl fun K t=>?_;go_simp;refine xK t (J) fun g=>?_;clear t K;refine gE ?_;clear R t0 t1 t2 t3 t4 t5 t6 t7 t8 t9 b0 b1;obtain ⟨l0,l1⟩:=co2 p.o l0 l1;have t0:=M.o.over p.o 0 _ rfl;have t1:=M.o.over p.o 1 _ rfl;have t2:=M.o.over p.o 2 _ rfl;have t3:=M.o.over p.o 3 _ rfl;have t4:=M.o.over p.o 4 _ rfl;have t5:=M.o.over p.o 5 _ rfl;have t6:=M.o.over p.o 6 _ rfl;have t7:=M.o.over p.o 7 _ rfl;have t8:=M.o.over p.o 8 _ rfl;have t9:=M.o.over p.o 9 _ rfl;have b0:=S.o.over p.o 0 _ rfl;have b1:=S.o.over p.o 1 _ rfl;have R:NE bw c W E B z C A u L:=⟨t0,t1,t2,t3,t4,t5,t6,t7,t8,t9,b0,b1⟩;clear J;go_wp2_with fail;refine gS (NE bw c W E B z C A u) (R) fun g=>?_;refine kT 0 ?_;refine kT 1 ?_;refine kT 2 ?_;refine kT 3 ?_;refine kT 4 ?_;refine kT 6 ?_;refine rdA 5 rfl fun K t=>?_;go_simp;refine xK t (g) fun g=>?_;clear t K;refine rdA 7 rfl fun K t=>?_;go_simp;refine (KJ.o L.drew (Ac p.o (bD _))).mono ?_;rintro e X ⟨vj,rfl,a9,T⟩;have G:Bh L.drew X vj (BH (st.at i) l c.n):=by simpa using a9
  obtain ⟨k1,k2,k3,k4,k5,k6,b7⟩:∃ a1 a2 a3 a4 a5 a6,vj=zh #[O a1 a2 a3,O a4 a5 a6]:=by
   obtain ⟨x,y,e,-⟩:=Av G;subst e;obtain ⟨z1,z2,z3,z4,z5,z6,rfl,rfl⟩:=A8 (Av G);exact ⟨_,_,_,_,_,_,rfl⟩
  subst b7;have f:=Ac (Ac p.o (bD L)) T;have d:=M.o.over f;have s:=S.o.over f;have U:NE bw c W E B z C A u X:=⟨d 0 _ rfl,d 1 _ rfl,d 2 _ rfl,d 3 _ rfl,d 4 _ rfl,d 5 _ rfl,d 6 _ rfl,d 7 _ rfl,d 8 _ rfl,d 9 _ rfl,s 0 _ rfl,s 1 _ rfl⟩;have bj:=Aa f;have bg:=Aa (show A0 c.n (XI c bm) X (zh #[O k1 k2 k3,O k4 k5 k6]) (BH (st.at i) l c.n) from ⟨Av G,DY _ _ _,CT (FP c bm) T (fun k hk=>by have:=(QU HC.o HI.o k hk);have:=T.size;have:=p.o.size;simp at *;omega) (BX G)⟩);have x0:=Ab f _ _ L0.o;have x1:=Ab f _ _ L1.o;have bt:X.frozen? ⟨b,i.2*2,none⟩=false:=((Am f).2 _ _ bl.o).trans (bf.o _);have bs:X.frozen? ⟨b,i.2*2+1,none⟩=false:=((Am f).2 _ _ bl.o).trans (bf.o _);have a0:X.frozen? ⟨bm,0,none⟩=false:=((Am f).2 _ _ ce.o).trans cd.o;have a7:=Ab f _ _ cf.o;clear d s T f a9 G;go_simp;refine xK t (U) fun g=>?_;clear t K;refine rdA 8 rfl fun K t=>?_;go_simp;refine xK t (U) fun g=>?_;clear t K;refine rdA 9 rfl fun K t=>?_;go_simp;refine xK t (by have b8:=cj.o;have cm:=bk.o;obtain ⟨t0,t1,t2,t3,t4,t5,t6,t7,t8,t9,bv,bu⟩:=U;exact ⟨by simp [go_sem,t0],by simp [go_sem,t1],by simp [go_sem,t2],by simp [go_sem,t3],by simp [go_sem,t4],by simp [go_sem,t5],by simp [go_sem,t6],by simp [go_sem,t7],by simp [go_sem,t8],by simp [go_sem,t9],by simp [go_sem,bv],by simp [go_sem,bu]⟩) fun g=>?_;clear t K;refine gE ?_;have V:=HC.o.upd HI.o cg.o bj.o bg.o cb.o ca.o;have cp:((X.setCell ⟨b,i.2*2,none⟩ (O k1 k2 k3)).setCell ⟨b,i.2*2+1,none⟩ (O k4 k5 k6)).cell? ⟨bm,0,none⟩=some (zg st.more):=by
   have b8:=cc.o;simp [go_sem,a7]
  have co:((X.setCell ⟨b,i.2*2,none⟩ (O k1 k2 k3)).setCell ⟨b,i.2*2+1,none⟩ (O k4 k5 k6)).frozen? ⟨bm,0,none⟩=false:=by simp [go_sem,a0]
  have Y:=Aa V;clear V U x0 x1 bt bs a7 a0;go_wp2_with fail;go_end0;refine ⟨rfl,?_,bi.o.trans Y.o.2⟩;unfold B7;rw [if_neg (by rw [bh.o];simp)];exact Y.o.1
theorem OZ {P:Nat->Prop}:∀ n,P n->∃ m,P m/\∀ k,P k->m<=k:=by
 intro n
 induction n using Nat.strongRecOn with
 | ind n ih=>
  intro h;by_cases hx:∃ k,k < n/\P k
  ·obtain ⟨k,hk,c⟩:=hx
   exact ih k hk c
  ·exact ⟨n,h,fun k hk=>Nat.le_of_not_lt fun b=>hx ⟨k,b,hk⟩⟩
theorem Ir {α:Type} (P:α->Nat->Prop):∃ μ:α->Nat,∀ a n,P a n->P a (μ a)/\∀ k,P a k->μ a<=k:=by
 have h:∀ a,∃ m,∀ n,P a n->P a m/\∀ k,P a k->m<=k:=fun a=>by
  by_cases hx:∃ n,P a n
  ·obtain ⟨n,b⟩:=hx
   obtain ⟨m,d,c⟩:=OZ n b;exact ⟨m,fun _ _=>⟨d,c⟩⟩
  ·exact ⟨0,fun n b=>absurd ⟨n,b⟩ hx⟩
 exact ⟨fun a=>Classical.choose (h a),fun a=>Classical.choose_spec (h a)⟩
def Ch (n K kf:Nat) (known:List Bool) (ins:List Lev) (fs:List FnD) (main:List D) (st0:ISt):Nat->ISt
 | 0=>st0
 | k+1=>Eh n K kf known ins fs main ⟨(Ch n K kf known ins fs main st0 k).vs,(Ch n K kf known ins fs main st0 k).fs,false⟩
def Cy (gs:List (Int × Int)) (n:Nat) (vs:List (Bool × Lab)) (nf:Nat):ISt:=⟨Cx gs n vs,List.replicate nf (BS n),true⟩
def Br (n K kf:Nat) (gs:List (Int × Int)) (vs:List (Bool × Lab)) (ls:List Lab) (fs:List FnD) (main:List D) (st:ISt):Prop:=
 ∃ k,st=Ch n K kf (vs.map Prod.fst) (ls.map (AH (AE gs) n)) fs main (Cy gs n vs fs.length) (k+1)/\st.more=false/\∀ j,j < k->(Ch n K kf (vs.map Prod.fst) (ls.map (AH (AE gs) n)) fs main (Cy gs n vs fs.length) (j+1)).more=true
theorem Ry {W:World} {B e s n:Nat} {a:Addr} {ln lc:Nat} {us:List Value} (h:W.ownsRow B e s (O (some a) ln lc) n us):a.off=0/\a.spot=none/\B<=a.block/\a.block < W.heap.size/\∀ j,W.frozen? ⟨a.block,j,none⟩=false:=by
 rcases h.2 with ⟨h,-⟩ | ⟨g,i,f,h,d,c,-⟩
 ·cases h
 ·injection h with b l k
  injection b with b;subst b;exact ⟨rfl,rfl,d,(Array.getElem?_eq_some_iff.1 c).1,fun j=>by simp [World.frozen?,c]⟩
theorem GP {n B:Nat} {W:World} {a:Addr} {ln lc:Nat} {Ls:List Lev} (h:AZ n B W (O (some a) ln lc) Ls):a.off=0/\a.spot=none/\B<=a.block/\a.block < W.heap.size/\∀ j,W.frozen? ⟨a.block,j,none⟩=false:=by
 obtain ⟨c,b,-⟩:=h;exact Ry b
theorem EV {n B:Nat} {X:World->Nat->Prop} {W:World} {v:Value} {Ls:List Lev} (n1:1<=n) (h:AZ n B W v Ls) (hx:∀ k,X W k->ET W k\/W.heap.size<=k):Bk n X W v Ls:=by
 obtain ⟨J,E,t⟩:=h;have F:=E.1;have p:∀ (u:Value) (l:List Bool),A3 W u l->l.length=n->T4 W u->∀ a m c,u=O (some a) m c->¬ X W a.block:=by
  intro u l T hl d a m c f s;obtain ⟨q,fr,G⟩:=d a m c f;rcases hx _ s with h | h
  ·exact h q fr G
  ·have:=(Array.getElem?_eq_some_iff.1 G).1
   omega
 have L:∀ (x y:Value) (l:Lev),Fk n W (zh #[x,y]) l->A0 n X W (zh #[x,y]) l:=by
  intro x y l d;obtain ⟨I,H,e,K,ty⟩:=d.ty;simp at e;obtain ⟨rfl,rfl⟩:=e;obtain ⟨I,H,e,bx,C⟩:=d.at_;simp at e;obtain ⟨rfl,rfl⟩:=e;exact ⟨d.at_,d.len,x,y,rfl,p _ _ bx d.len.1 K,p _ _ C d.len.2 ty⟩
 rcases E.2 with ⟨h,U⟩ | ⟨g,A,q,h,T,P,S,R,Q,z⟩
 ·have:Ls=[]:=List.eq_nil_of_length_eq_zero U
  subst this;exact ⟨none,0,h,fun h=>absurd rfl h⟩
 ·refine ⟨some ⟨g,0,none⟩,A,h,fun M=>⟨g,0,rfl,fun i N=>?_⟩⟩
  obtain ⟨x,y,Y,V,hl⟩:=t i N;have b:∀ j u,J[j]? = some u->W.cell? ⟨g,0+j,none⟩=some u:=fun j u f=>by
   rw [Nat.zero_add,Lib.cell_of_heap P];rw [<-z,List.getElem?_take] at f;split at f
   ·simpa using f
   ·cases f
  exact ⟨x,y,b _ _ Y,by have:=b _ _ V;simpa [Nat.add_assoc] using this,L x y _ hl⟩
theorem Pa {fs:List FnD} {i:Int} (h0:0<=i) (h1:i < fs.length):Bv fs i∈fs:=by
 unfold Bv;rw [List.getD_eq_getElem?_getD,List.getElem?_eq_getElem (by omega:i.toNat < fs.length)];exact List.getElem_mem _
theorem O3 {K nv ni no:Nat} {funcs:Int} {fs:List FnD} {d:D} (h:Cs K nv ni no funcs fs d) (hf:funcs<=fs.length) (hp:∀ f∈fs,∀ p∈f.ps,0<=p/\p < (nv:Int)):inR nv fs.length fs d:=by
 obtain ⟨-,c,g,-⟩:=h;refine ⟨fun hk=>by have:=c hk;omega,fun hk=>?_⟩;obtain ⟨⟨a,b⟩,-,-⟩:=g hk;refine ⟨by omega,fun v c=>?_⟩;have:=hp _ (Pa a (by omega)) v c;omega
theorem MY (n K kf nv ni no:Nat) (known:List Bool) (ins) (fs:List FnD) (main:List D) (st:ISt) (hof:∀ i (h:i < fs.length),okF K nv ni no (i:Int) fs kf fs[i]) (hom:∀ s∈main,okS K nv ni no (fs.length:Int) fs kf s) :
  C0 n nv fs.length st (Eh n K kf known ins fs main st):=by
 have g:∀ f∈fs,∀ p∈f.ps,0<=p/\p < (nv:Int):=fun f l=>by
  obtain ⟨i,c,rfl⟩:=List.getElem_of_mem l;exact (hof i c).2.1
 exact Ka n K ISt.vs _ (P:=fun _ _=>True) (Pm:=okS K nv ni no (fs.length:Int) fs) (P1:=inR nv fs.length fs) (fun k d h=>⟨O3 h.1 (by omega) g,h.2⟩) (Q:=fun i k d=>i<=fs.length/\okS K nv ni no (i:Int) fs k d)
  (fun i k d h=>⟨O3 h.2.1 (by omega) g,fun s b=>⟨h.1,h.2.2.1 s b⟩,fun s b=>⟨h.1,h.2.2.2 s b⟩⟩) (R:=C0 n nv fs.length) (C0.refl n nv fs.length) C0.trans (fun a d p st q=>Pr n nv fs.length K known ins fs a d p st q) ISt.fs kf fs main st
  (fun i c s b=>⟨by omega,(hof i c).2.2.1 s b⟩) hom
theorem A0.mono {n:Nat} {X Y:World->Nat->Prop} {W:World} {v:Value} {l:Lev} (n1:1<=n) (h:A0 n X W v l) (hx:∀ k,k < W.heap.size->Y W k->X W k):A0 n Y W v l:=by
 obtain ⟨x,y,g,z,u⟩:=h.off;obtain ⟨C,B,d,bx,s⟩:=h.at_;rw [g] at d;simp at d;obtain ⟨rfl,rfl⟩:=d;have lt:∀ (v:Value) (l:List Bool),A3 W v l->l.length=n->∀ a m c,v=O (some a) m c->a.block < W.heap.size:=by
  intro v l t hl a m c e;obtain ⟨E,A,g,f⟩:=t;obtain ⟨b,off,p,f⟩:=f (by rintro rfl;simp at hl;omega);rw [g,p] at e;injection e with q;injection q with q;rw [<-q];exact bL (f 0 (by omega))
 exact ⟨h.at_,h.len,x,y,g,fun a m c e i=>z a m c e (hx _ (lt _ _ bx h.len.1 a m c e) i),fun a m c e i=>u a m c e (hx _ (lt _ _ s h.len.2 a m c e) i)⟩
theorem Bk.mono {n:Nat} {X Y:World->Nat->Prop} {W:World} {v:Value} {ls:List Lev} (n1:1<=n) (h:Bk n X W v ls) (hx:∀ k,k < W.heap.size->Y W k->X W k):Bk n Y W v ls:=by
 obtain ⟨y,g,p,c⟩:=h;refine ⟨y,g,p,fun d=>?_⟩;obtain ⟨b,off,f,c⟩:=c d;refine ⟨b,off,f,fun i q=>?_⟩;obtain ⟨rv,l,u,t,s⟩:=c i q;exact ⟨rv,l,u,t,s.mono n1 hx⟩
theorem Di.setM {c:WC} {w0:World} {nv nf bw bm:Nat} {st:ISt} {W:World} {b:Bool} (n1:1<=c.n) (hC:FN c w0 bw bm) (h:Di c w0 nv nf bw bm st W):Di c w0 nv nf bw bm ⟨st.vs,st.fs,b⟩ (W.setCell ⟨bm,0,none⟩ (zg b)):=by
 have i:(W.setCell ⟨bm,0,none⟩ (zg b)).heap.size=W.heap.size:=by simp [World.setCell]
 have d:∀ k,k≠bm->(W.setCell ⟨bm,0,none⟩ (zg b)).heap[k]? = W.heap[k]?:=fun k hk=>Bu (Ne.symm hk) _;have y:FrW (XI c bm) W (W.setCell ⟨bm,0,none⟩ (zg b)):=⟨rfl,rfl,rfl,by omega,fun k _ s=>d k (fun e=>s (Or.inr (Or.inr e))),fun k _ s=>s⟩;have g:∀ b' o' u,b'≠bm->W.cell? ⟨b',o',none⟩=some u->(W.setCell ⟨bm,0,none⟩ (zg b)).cell? ⟨b',o',none⟩=some u:=fun b' o' u A l=>(World.cell?_of_block (a:=⟨b',o',none⟩) (d b' A)).trans l;have f:∀ b' j,(W.setCell ⟨bm,0,none⟩ (zg b)).frozen? ⟨b',j,none⟩=W.frozen? ⟨b',j,none⟩:=fun b' j=>by simp [go_sem]
 refine ⟨h.below.setCell (p:=⟨bm,0,none⟩) hC.m.1 _,h.vs.keep n1 y (fun b' o' ln B t j u l=>?_),h.fs.keep n1 y (fun b' o' ln B t j u l=>?_),h.lv,h.lf,World.cell?_setCell_same _ _ _ h.more,(f _ _).trans h.mz,fun j u z=>g _ _ _ hC.m.2 (h.row j u z),fun a e=>⟨by rw [i];exact (h.hl a e).1,fun j=>(f _ _).trans ((h.hl a e).2 j)⟩,fun a e=>⟨by rw [i];exact (h.hk a e).1,fun j=>(f _ _).trans ((h.hk a e).2 j)⟩⟩
 ·injection t with q
  exact g _ _ _ (hC.la _ q).2.2.2.2 l
 ·injection t with q
  exact g _ _ _ (hC.ka _ q).2.2.2.2 l
theorem Di.newM {c:WC} {w0:World} {nv nf bw bm:Nat} {st:ISt} {W:World} (n1:1<=c.n) (hC:FN c w0 bw bm) (h:Di c w0 nv nf bw bm st W):Di c w0 nv nf bw W.heap.size st (W.alloc (ze #[zg st.more] 4)):=by
 have b:Ov W (W.alloc (ze #[zg st.more] 4)):=bA W _;have d:∀ k,k < W.heap.size->XI c W.heap.size W k->XI c bm W k:=fun k hk d=>by
  rcases d with h | h | h
  ·exact Or.inl h
  ·exact Or.inr (Or.inl h)
  ·omega
 exact ⟨h.below.trans (b.mono h.below.size),(h.vs.mono n1 d).over (FP c _) b,(h.fs.mono n1 d).over (FP c _) b,h.lv,h.lf,by simp [go_sem],by simp [go_sem],h.row.over b,
  fun a e=>⟨Nat.lt_of_lt_of_le (h.hl a e).1 b.size,fun j=>((Am b).2 _ _ (h.hl a e).1).trans ((h.hl a e).2 j)⟩,fun a e=>⟨Nat.lt_of_lt_of_le (h.hk a e).1 b.size,fun j=>((Am b).2 _ _ (h.hk a e).1).trans ((h.hk a e).2 j)⟩⟩
theorem FN.newM {c:WC} {w0:World} {nv nf bw bm:Nat} {st:ISt} {W:World} (hC:FN c w0 bw bm) (h:Di c w0 nv nf bw bm st W) (hw:bw < W.heap.size):FN c w0 bw W.heap.size:=
 ⟨fun a e=>by have:=hC.la a e;have h2:=(h.hl a e).1;exact ⟨this.1,this.2.1,this.2.2.1,this.2.2.2.1,by omega⟩,fun a e=>by have:=hC.ka a e;have h2:=(h.hk a e).1;exact ⟨this.1,this.2.1,this.2.2.1,this.2.2.2.1,by omega⟩,hC.lk,h.below.size,by omega⟩
theorem J1 {n:Nat} {X:World->Nat->Prop} {W:World} {rb:Nat} {x y v:Value} {Ls:List Lev} (h:Bk n X W v Ls) (hr:∀ j u,W.cell? ⟨rb,j,none⟩=some u->∃ a m c,u=O a m c) (hv:∀ a m c,v=O (some a) m c->a.block≠rb):Cp ((W.setCell ⟨rb,0,none⟩ x).setCell ⟨rb,1,none⟩ y) v Ls:=by
 have k:∀ b' o' u,b'≠rb->W.cell? ⟨b',o',none⟩=some u->((W.setCell ⟨rb,0,none⟩ x).setCell ⟨rb,1,none⟩ y).cell? ⟨b',o',none⟩=some u:=fun b' o' u B H=>by
  rw [CS (Or.inl (Ne.symm B)),CS (Or.inl (Ne.symm B))];exact H
 have s:∀ u l,A3 W u l->A3 ((W.setCell ⟨rb,0,none⟩ x).setCell ⟨rb,1,none⟩ y) u l:=by
  intro u l ⟨A,p,e,d⟩;refine ⟨A,p,e,fun g=>?_⟩;obtain ⟨b,off,f,d⟩:=d g;refine ⟨b,off,f,fun i t=>k _ _ _ (fun L=>?_) (d i t)⟩;subst L;obtain ⟨a,m,c,e⟩:=hr _ _ (d i t);cases e
 obtain ⟨A,p,q,d⟩:=h;refine ⟨A,p,q,fun g=>?_⟩;obtain ⟨b,off,f,d⟩:=d g;have C:b≠rb:=hv _ _ _ (by rw [q,f]);refine ⟨b,off,f,fun i t=>?_⟩;obtain ⟨rv,G,K,J,I⟩:=d i t;obtain ⟨F,E,e,bx,z⟩:=I.at_;exact ⟨rv,G,k _ _ _ C K,k _ _ _ C J,F,E,e,s _ _ bx,s _ _ z⟩
end Go.Proofs.YtfffpjkcfnekaaaGreat.Ex
