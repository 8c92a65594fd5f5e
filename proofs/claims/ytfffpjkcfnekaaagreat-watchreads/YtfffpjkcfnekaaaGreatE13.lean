/- One who watches is made. -/
import Derived.Test.YtfffpjkcfnekaaaGreatE12
import Derived.Lib.SliceRun
set_option linter.unusedVariables false
set_option maxHeartbeats 8000000
set_option maxRecDepth 100000
namespace Go.Proofs.YtfffpjkcfnekaaaGreat.Ex
open Go.RowKit
open Go.Value renaming slice -> O, int -> zd, bool -> zg, agg -> zh, pointer -> zi, tuple -> zk
open Go.IntKind renaming i64 -> U
open Go.Obj renaming cells -> ze
open Go.Ending renaming returned -> zj
def X0 (B b:Nat) (W:World) (k:Nat):Prop:=k < B\/W.heap.size<=b\/k=b\/∃ v,W.cell? ⟨b,9,none⟩=some v/\v.ownBlock=some k
theorem OE (B b:Nat):XOk (X0 B b):=⟨fun W W' hb k h=>by
 by_cases hlt:W.heap.size<=b
 ·exact Or.inr (Or.inl hlt)
 ·rcases h with h | h | h | ⟨v,hv,ho⟩
  ·exact Or.inl h
  ·exact absurd (Nat.le_trans hb.size h) hlt
  ·exact Or.inr (Or.inr (Or.inl h))
  ·refine Or.inr (Or.inr (Or.inr ⟨v,?_,ho⟩))
   rw [<-hv];exact (World.cell?_of_block (a:=⟨b,9,none⟩) (hb.block b (by omega))).symm⟩
structure NwI (n:Nat) (w:World) (rv:Value) (P:List Value) (Ls:List Lev) (lv:Value) (W:World):Prop where
 below:Ov w W
 row:Ad (rv::(P++[lv,O none 0 0,O none 0 0,O none 0 0])) W (w.heap.size+1)
 pb:Ad P W w.heap.size
 fz:∀ j,W.frozen? ⟨w.heap.size+1,j,none⟩=false
 lo:w.heap.size+1 < W.heap.size
 lev:BE n (X0 w.heap.size (w.heap.size+1)) (w.heap.size+2) W lv Ls
 len:P.length=8
section
variable {n:Nat} {w W W':World} {rv lv:Value} {P:List Value} {Ls:List Lev}
theorem NwI.two (h:NwI n w rv P Ls lv W):w.heap.size+2<=W.heap.size:=h.lo
theorem NwI.ap (h:NwI n w rv P Ls lv W):lv.ownBlock≠some (w.heap.size+1):=fun e=>by have:=(h.lev.lt _ e).1;omega
theorem NwI.apb (h:NwI n w rv P Ls lv W):lv.ownBlock≠some w.heap.size:=fun e=>by have:=(h.lev.lt _ e).1;omega
theorem NwI.c9 (h:NwI n w rv P Ls lv W):W.cell? ⟨w.heap.size+1,9,none⟩=some lv:=h.row 9 _ (by rw [List.getElem?_cons_succ,List.getElem?_append_right (by rw [h.len];omega),h.len];rfl)
theorem NwI.over (h:NwI n w rv P Ls lv W) (hb:Ov W W'):NwI n w rv P Ls lv W':=
 ⟨h.below.trans (hb.mono h.below.size),h.row.over hb,h.pb.over hb,fun j=>((An hb).2 _ _ h.lo).trans (h.fz j),Nat.lt_of_lt_of_le h.lo hb.size,h.lev.over (OE _ _) hb,h.len⟩
theorem NwI.xlt (h:NwI n w rv P Ls lv W):∀ k,X0 w.heap.size (w.heap.size+1) W k->k < W.heap.size:=by
 rintro k (e | e | e | ⟨v,b,e⟩)
 ·have:=h.lo;omega
 ·have:=h.lo;omega
 ·have:=h.lo;omega
 ·rw [h.c9] at b
  injection b with b;subst b;exact (h.lev.lt k e).2
theorem NwI.add {v' u v:Value} {us:List Value} {l:Lev} (n1:1<=n) (h:NwI n w rv P Ls lv W) (hel:∀ i (h:i < Ls.length),∃ a b,us[i*2]? = some a/\us[i*2+1]? = some b/\Aw n (X0 w.heap.size (w.heap.size+1)) W (zh #[a,b]) Ls[i]) (hus:us.length=Ls.length*2) (hl:Aw n (X0 w.heap.size (w.heap.size+1)) W (zh #[u,v]) l) (ho:W'.ownsRow (w.heap.size+2) 50 2 v' (Ls.length+1) (us++[u,v])) (hg:W.grownBy W' lv.ownBlock) (hat:v'.ownBlock=lv.ownBlock\/v'.ownBlock=some W.heap.size) :
  NwI n w rv P (Ls++[l]) v' (W'.setCell ⟨w.heap.size+1,9,none⟩ v'):=by
 have B:W'.heap[w.heap.size+1]? = W.heap[w.heap.size+1]?:=hg.block _ h.lo (fun e=>h.ap e.symm);have s:(W'.setCell ⟨w.heap.size+1,9,none⟩ v').heap.size=W'.heap.size:=by simp [World.setCell]
 have A:∀ g,v'.ownBlock=some g->lv.ownBlock=some g\/g=W.heap.size:=fun g e=>by
  rcases hat with e1 | e1
  ·exact Or.inl (by rw [<-e1];exact e)
  ·rw [e1] at e;injection e with e;exact Or.inr e.symm
 have hk:∀ k,k < W.heap.size->k≠w.heap.size+1->lv.ownBlock≠some k->(W'.setCell ⟨w.heap.size+1,9,none⟩ v').heap[k]? = W.heap[k]?:=fun k hk M L=>by rw [Au (Ne.symm M)];exact hg.block k hk (fun e=>L e.symm)
 have t:Ad (rv::(P++[lv,O none 0 0,O none 0 0,O none 0 0])) W' (w.heap.size+1):=fun j u I=>(World.cell?_of_block (a:=⟨w.heap.size+1,j,none⟩) B).trans (h.row j u I);have H:=h.len;have f:Ad (rv::(P++[v',O none 0 0,O none 0 0,O none 0 0])) (W'.setCell ⟨w.heap.size+1,9,none⟩ v') (w.heap.size+1):=by
  have r:=BK (j:=9) (v:=v') t (by simp [H]);rw [List.set_cons_succ,List.set_append,if_neg (by omega),H] at r;exact r
 have G:(W'.setCell ⟨w.heap.size+1,9,none⟩ v').cell? ⟨w.heap.size+1,9,none⟩=some v':=f 9 _ (by rw [List.getElem?_cons_succ,List.getElem?_append_right (by omega),H];rfl);have N:=hg.size;have J:=h.lo;have C:FrW (X0 w.heap.size (w.heap.size+1)) W (W'.setCell ⟨w.heap.size+1,9,none⟩ v'):=by
  refine ⟨hg.os,hg.tape,hg.output,by rw [s];exact hg.size,fun k p E=>hk k p (fun e=>E (Or.inr (Or.inr (Or.inl e)))) (fun e=>E (Or.inr (Or.inr (Or.inr ⟨lv,h.c9,e⟩)))),fun k p E=>?_⟩;rcases E with e | e | e | ⟨q,y,e⟩
  ·exact Or.inl e
  ·rw [s] at e;omega
  ·exact Or.inr (Or.inr (Or.inl e))
  ·rw [G] at y
   injection y with y;subst y;rcases A k e with e | e
   ·exact Or.inr (Or.inr (Or.inr ⟨lv,h.c9,e⟩))
   ·omega
 have F:v'.ownBlock≠some (w.heap.size+1):=fun e=>by have:=(ho.lt _ e).1;omega
 refine ⟨h.below.trans ⟨C.os,C.tape,C.output,C.size,fun k p=>hk k (Nat.lt_of_lt_of_le p h.below.size) (by omega) (fun e=>by have:=(h.lev.lt k e).1;omega)⟩,f,fun j q y=>(World.cell?_of_block (a:=⟨w.heap.size,j,none⟩) (hk w.heap.size (by omega) (by omega) h.apb)).trans (h.pb j q y),fun j=>?_,by rw [s];omega,BE.snoc n1 hel hus hl (AD ho (fun g e=>Au (fun q=>F (by rw [e,q])) v')) C,h.len⟩;have e1:(W'.setCell ⟨w.heap.size+1,9,none⟩ v').frozen? ⟨w.heap.size+1,j,none⟩=W'.frozen? ⟨w.heap.size+1,j,none⟩:=by simp [go_sem]
 rw [e1,World.frozen?_of_block (a:=⟨w.heap.size+1,j,none⟩) B];exact h.fz j
end
theorem WtI.made {n:Nat} {w00 w W5 W6 W7 W8 W9:World} {c:WC} {rv fv:Value} {fl:List (Int × Int)} {Y:Nat->Prop} {Ls:List Lev} {l:Lev} {u v:Value} {B:Nat} (hcn:c.n=n) (n1:1<=n) (h:NwI n w rv [zd U (c.n:Int),O c.ga c.gn c.gc,O c.sa c.sn c.sc,O c.ya c.yn c.yc,O c.oa c.on c.oc,O c.va c.vn c.vc,O c.fa c.fn c.fc,O c.ba c.bn c.bc] Ls (O c.la c.ln c.lc) W5) (hk0:c.ka=none/\c.kn=0/\c.kc=0) (h00:Ov w00 w) (hY:∀ k,Y k->w00.heap.size<=k/\k < w.heap.size)
  (hb6:Ov W5 W6) (hl:A1 W5 W6 (zh #[u,v]) l) (hll:l.len n) (h7:W7=(W6.alloc (ze #[u,v] 50)).setCell ⟨w.heap.size+1,11,none⟩ (O (some ⟨W6.heap.size,0,none⟩) 1 1)) (hb8:Ov W7 W8) (hB:W7.heap.size<=B) (hf:W8.ownsRow B 89 2 fv fl.length (Cc fl)) (h9:W9=W8.setCell ⟨w.heap.size+1,12,none⟩ fv) :
  WtI ⟨c,w.heap.size+1,rv,fv,fl,Y⟩ w00 ⟨Ls,[l]⟩ (O (some ⟨W6.heap.size,0,none⟩) 1 1) W9/\Ov w W9:=by
 have s6:=hb6.size;have aj:=h.lo;have a4:W7.heap.size=W6.heap.size+1:=by rw [h7];simp [World.setCell]
 have a3:=hb8.size;have a2:W9.heap.size=W8.heap.size:=by rw [h9];simp [World.setCell]
 have am:∀ k,k < W6.heap.size->k≠w.heap.size+1->W7.heap[k]? = W6.heap[k]?:=fun k hk S=>by
  rw [h7,Au (Ne.symm S)];exact (bA W6 _).block k hk
 have ab:∀ k,k < W6.heap.size->k≠w.heap.size+1->W9.heap[k]? = W6.heap[k]?:=fun k hk S=>by
  rw [h9,Au (Ne.symm S),hb8.block k (by omega),am k hk S]
 have J:∀ k,k < W5.heap.size->k≠w.heap.size+1->W9.heap[k]? = W5.heap[k]?:=fun k hk S=>(ab k (by omega) S).trans (hb6.block k hk);have L:Ov w W9:=by
  have b6:=h.below.trans (hb6.mono h.below.size);have b7:Ov w W7:=by rw [h7];exact (b6.alloc b6.size _).setCell (by show w.heap.size<=w.heap.size+1;omega) _
  rw [h9];exact (b7.trans (hb8.mono b7.size)).setCell (by show w.heap.size<=w.heap.size+1;omega) _
 have f:∀ g,Value.ownBlock (O c.la c.ln c.lc)=some g->w.heap.size+2<=g/\g < W5.heap.size:=fun g e=>h.lev.lt g e;have r5:=h.row;have r6:=(r5.over hb6).over (bA W6 (ze #[u,v] 50));have r7:=BK (j:=11) (v:=O (some ⟨W6.heap.size,0,none⟩) 1 1) r6 (by simp);rw [<-h7] at r7;have r8:=r7.over hb8;have r9:=BK (j:=12) (v:=fv) r8 (by simp);rw [<-h9] at r9;have aw:∀ j,W7.frozen? ⟨w.heap.size+1,j,none⟩=false:=fun j=>by
  rw [h7];have G:((W6.alloc (ze #[u,v] 50)).setCell ⟨w.heap.size+1,11,none⟩ (O (some ⟨W6.heap.size,0,none⟩) 1 1)).frozen? ⟨w.heap.size+1,j,none⟩=(W6.alloc (ze #[u,v] 50)).frozen? ⟨w.heap.size+1,j,none⟩:=by simp [go_sem]
  rw [G,(An (bA W6 (ze #[u,v] 50))).2 _ _ (by omega),(An hb6).2 _ _ aj];exact h.fz j
 have av:∀ j,W9.frozen? ⟨w.heap.size+1,j,none⟩=false:=fun j=>by
  rw [h9];have G:(W8.setCell ⟨w.heap.size+1,12,none⟩ fv).frozen? ⟨w.heap.size+1,j,none⟩=W8.frozen? ⟨w.heap.size+1,j,none⟩:=by simp [go_sem]
  rw [G,(An hb8).2 _ _ (by omega)];exact aw j
 obtain ⟨x,E⟩:∃ x:WX,x=⟨c,w.heap.size+1,rv,fv,fl,Y⟩:=⟨_,rfl⟩;have H:Ad (rv::(c.cs++[O (some ⟨W6.heap.size,0,none⟩) 1 1,fv])) W9 (w.heap.size+1):=by
  have e:(rv::(c.cs++[O (some ⟨W6.heap.size,0,none⟩) 1 1,fv]):List Value)=((rv::([zd U (c.n:Int),O c.ga c.gn c.gc,O c.sa c.sn c.sc,O c.ya c.yn c.yc,O c.oa c.on c.oc,O c.va c.vn c.vc,O c.fa c.fn c.fc,O c.ba c.bn c.bc]++[O c.la c.ln c.lc,O none 0 0,O none 0 0,O none 0 0])).set 11 (O (some ⟨W6.heap.size,0,none⟩) 1 1)).set 12 fv:=by
   simp [WC.cs,hk0.1,hk0.2.1,hk0.2.2]
  rw [e];exact r9
 have c11:W9.cell? ⟨w.heap.size+1,11,none⟩=some (O (some ⟨W6.heap.size,0,none⟩) 1 1):=H 11 _ rfl;have au:∀ k,XW x W9 k->Y k\/k=w.heap.size+1\/Value.ownBlock (O c.la c.ln c.lc)=some k\/k=W6.heap.size:=by
  rw [E];rintro k (e | e | e | e | ⟨q,I,e⟩)
  ·exact Or.inl e
  ·have e:W9.heap.size<=w.heap.size+1:=e
   omega
  ·exact Or.inr (Or.inl e)
  ·exact Or.inr (Or.inr (Or.inl e))
  ·have I:W9.cell? ⟨w.heap.size+1,11,none⟩=some q:=I
   rw [c11] at I;injection I with I;subst I;simp [Value.ownBlock] at e;exact Or.inr (Or.inr (Or.inr e.symm))
 have T:∀ {Wa:World} {y:Value} {lz:Lev},Wa.heap.size<=W6.heap.size->(∀ k,k < Wa.heap.size->k≠w.heap.size+1->W9.heap[k]? = Wa.heap[k]?)->Aw n (fun _ k=>k < w.heap.size\/k=w.heap.size+1\/Value.ownBlock (O c.la c.ln c.lc)=some k) Wa y lz->Aw n (XW x) W9 y lz:=by
  intro Wa y lz bg hk V;obtain ⟨a,b,W,ha,hb⟩:=V.off;obtain ⟨a',b',P,ba,bb⟩:=V.at_;rw [W] at P;simp at P;obtain ⟨rfl,rfl⟩:=P;have one:∀ (q:Value) (lb:List Bool),AJ Wa q lb->lb.length=n->(∀ z m c',q=O (some z) m c'->¬ (z.block < w.heap.size\/z.block=w.heap.size+1\/Value.ownBlock (O c.la c.ln c.lc)=some z.block))->AJ W9 q lb/\∀ z m c',q=O (some z) m c'->¬ XW x W9 z.block:=by
   intro q lb I ak Z;obtain ⟨ao,cap,Q,t⟩:=I;obtain ⟨s,off,R,t⟩:=t (by rintro rfl;simp at ak;omega);have ai:s < Wa.heap.size:=bL (t 0 (by omega));have F:=Z ⟨s,off,none⟩ lb.length cap (by rw [Q,R]);have ah:s≠w.heap.size+1:=fun e=>F (Or.inr (Or.inl e));refine ⟨⟨ao,cap,Q,fun _=>⟨s,off,R,fun i hi=>(World.cell?_of_block (a:=⟨s,off+i,none⟩) (hk s ai ah)).trans (t i hi)⟩⟩,fun z m c' e hz=>?_⟩;rw [Q,R] at e;injection e with G;injection G with G;subst G;rcases au _ hz with e | e | e | e
   ·exact F (Or.inl (hY _ e).2)
   ·exact F (Or.inr (Or.inl e))
   ·exact F (Or.inr (Or.inr e))
   ·have e:s=W6.heap.size:=e
    omega
  obtain ⟨k1,k2⟩:=one _ _ ba V.len.1 ha;obtain ⟨k3,k4⟩:=one _ _ bb V.len.2 hb;exact ⟨⟨a,b,W,k1,k3⟩,V.len,a,b,W,k2,k4⟩
 have aa:BE n (XW x) w00.heap.size W9 (O c.la c.ln c.lc) Ls:=by
  obtain ⟨us,Z,t⟩:=h.lev;refine ⟨us,DA (AD Z (fun g e=>J g (f g e).2 (by have:=(f g e).1;omega))) (by have:=h00.size;omega),fun i hi=>?_⟩;obtain ⟨a,b,e0,G,al⟩:=t i hi;refine ⟨a,b,e0,G,T s6 J (al.mono n1 (fun k hk hh=>?_))⟩;rcases hh with e | e | e
  ·exact Or.inl e
  ·exact Or.inr (Or.inr (Or.inl e))
  ·exact Or.inr (Or.inr (Or.inr ⟨_,h.c9,e⟩))
 have ag:BE n (XW x) w00.heap.size W9 (O (some ⟨W6.heap.size,0,none⟩) 1 1) [l]:=by
  have Z:=World.ownsRow_lit (base:=w00.heap.size) (e:=50) (size:=2) W6 #[u,v] 1 (by have:=h00.size;omega) (by unfold maxLen;omega) (by simp);have hk:W9.heap[W6.heap.size]? = (W6.alloc (ze #[u,v] 50)).heap[W6.heap.size]?:=by
   rw [h9,Au (by omega),hb8.block _ (by omega),h7,Au (by omega)]
  refine ⟨[u,v],AD Z (fun g e=>by simp [Value.ownBlock] at e;subst e;exact hk),fun i hi=>?_⟩;have an:i=0:=by simp at hi;exact hi
  subst an;refine ⟨u,v,rfl,rfl,T (Nat.le_refl _) ab ?_⟩;obtain ⟨a,b,W,ha,hb⟩:=Bm hl;refine ⟨Aq hl,hll,a,b,W,fun z m c' e hh=>?_,fun z m c' e hh=>?_⟩
  ·have:=ha z m c' e
   rcases hh with q | q | q
   ·have:=h.below.size;omega
   ·omega
   ·have:=(f _ q).2;omega
  ·have:=hb z m c' e
   rcases hh with q | q | q
   ·have:=h.below.size;omega
   ·omega
   ·have:=(f _ q).2;omega
 have af:=h00.size;subst hcn;rw [<-E];have N:x.c=c:=by rw [E]
 have p:x.bw=w.heap.size+1:=by rw [E]
 have ad:x.rv=rv:=by rw [E]
 have M:x.fv=fv:=by rw [E]
 have ae:x.fl=fl:=by rw [E]
 have C:x.Y=Y:=by rw [E]
 have A:x.lv=O c.la c.ln c.lc:=by rw [E]
 refine ⟨⟨h00.trans (L.mono af),by rw [ad,N,M,p];exact H,by rw [p];exact av,by rw [p];exact ⟨by omega,by omega⟩,by rw [C];exact fun k e=>⟨(hY k e).1,by have:=(hY k e).2;omega⟩,by rw [C,p];exact fun e=>by have:=(hY _ e).2;omega,by rw [N,A];exact aa,by rw [N];exact ag,?_,by rw [A,p];exact fun e=>by have:=(f _ e).1;omega,by rw [p];exact fun e=>by simp [Value.ownBlock] at e;omega,by rw [A];exact fun g e q=>by simp [Value.ownBlock] at q;have:=(f g e).2;omega,?_,by rw [A,C];exact fun g e q=>by have:=(f g e).1;have:=(hY g q).2;omega,by rw [C];exact fun g e q=>by simp [Value.ownBlock] at e;have:=(hY g q).2;omega⟩,L⟩
 ·rw [M,ae]
  exact DA (AD hf (fun g e=>by rw [h9,Au (by have:=(hf.lt g e).1;omega)])) (by omega)
 ·rw [M,p,A,C]
  intro g e;have hg:=(hf.lt g e).1;exact ⟨by omega,fun q=>by have:=(f g q).2;omega,fun q=>by simp [Value.ownBlock] at q;omega,fun q=>by have:=(hY g q).2;omega⟩
theorem Kf (K kf n:Nat) (ga gn gc sa sn sc ya yn yc oa on oc va vn vc fa fn fc ba bn bc gs sp ls ms vs fs l) (br:Nat) (w00 w:World) (h:BD K kf (n:Int) ga gn gc sa sn sc ya yn yc oa on oc va vn vc fa fn fc ba bn bc gs sp ls ms vs fs l w) (n1:1<=n) (n6:n<=6) (hv16:vn<=16) (h00:Ov w00 w) (fl:ISt->List (Int × Int)) (Q:ISt->Prop)
  (KF:∀ W,Ov w W->Calls Tryz.prog 35 #[zh #[zd U (n:Int),O ga gn gc,O sa sn sc,O ya yn yc,O oa on oc,O va vn vc,O fa fn fc,O ba bn bc]] W fun e w'=>∃ (st:ISt) (fv:Value) (B:Nat),Q st/\e=zj (zk #[fv,zd U 0])/\W.heap.size<=B/\w'.ownsRow B 89 2 fv (fl st).length (Cc (fl st))/\Ov W w') :
  Calls Tryz.prog 62 #[zh #[zd U (n:Int),O ga gn gc,O sa sn sc,O ya yn yc,O oa on oc,O va vn vc,O fa fn fc,O ba bn bc],zi (some ⟨br,0,none⟩)] w fun e w'=>∃ (st:ISt) (fv pv:Value) (la:Option Addr) (ln lc:Nat),Q st/\e=zj (zi (some ⟨w.heap.size+1,0,none⟩))/\Ov w w'/\(∀ Y:Nat->Prop,(∀ k,Y k->w00.heap.size<=k/\k < w.heap.size)->WtI ⟨⟨n,ga,gn,gc,sa,sn,sc,ya,yn,yc,oa,on,oc,va,vn,vc,fa,fn,fc,ba,bn,bc,la,ln,lc,none,0,0⟩,w.heap.size+1,zi (some ⟨br,0,none⟩),fv,fl st,Y⟩ w00 ⟨List.replicate vn (A7 n),[A7 n]⟩ pv w'):=by
 have al:Ov w ((w.alloc (ze #[zd U (n:Int),O ga gn gc,O sa sn sc,O ya yn yc,O oa on oc,O va vn vc,O fa fn fc,O ba bn bc] 31)).alloc (ze #[zi (some ⟨br,0,none⟩),zd U (n:Int),O ga gn gc,O sa sn sc,O ya yn yc,O oa on oc,O va vn vc,O fa fn fc,O ba bn bc,O none 0 0,O none 0 0,O none 0 0,O none 0 0] 124)):=(bA w _).alloc (by simp) _;have ao:NwI n w (zi (some ⟨br,0,none⟩)) [zd U (n:Int),O ga gn gc,O sa sn sc,O ya yn yc,O oa on oc,O va vn vc,O fa fn fc,O ba bn bc] [] (O none 0 0) ((w.alloc (ze #[zd U (n:Int),O ga gn gc,O sa sn sc,O ya yn yc,O oa on oc,O va vn vc,O fa fn fc,O ba bn bc] 31)).alloc (ze #[zi (some ⟨br,0,none⟩),zd U (n:Int),O ga gn gc,O sa sn sc,O ya yn yc,O oa on oc,O va vn vc,O fa fn fc,O ba bn bc,O none 0 0,O none 0 0,O none 0 0,O none 0 0] 124)):=by
  refine ⟨al,?_,(Ad.new [zd U (n:Int),O ga gn gc,O sa sn sc,O ya yn yc,O oa on oc,O va vn vc,O fa fn fc,O ba bn bc] 31 w).over (bA _ _),fun j=>by simp [go_sem],by simp,Ns _ _ _ _,rfl⟩;have r:=Ad.new ((zi (some ⟨br,0,none⟩))::([zd U (n:Int),O ga gn gc,O sa sn sc,O ya yn yc,O oa on oc,O va vn vc,O fa fn fc,O ba bn bc]++[O none 0 0,O none 0 0,O none 0 0,O none 0 0])) 124 (w.alloc (ze #[zd U (n:Int),O ga gn gc,O sa sn sc,O ya yn yc,O oa on oc,O va vn vc,O fa fn fc,O ba bn bc] 31));simpa using r
 have d3:=Aa al;have cc:=Aa ao;have cb:=Aa KF;have rP:=Ad.new [zd U (n:Int),O ga gn gc,O sa sn sc,O ya yn yc,O oa on oc,O va vn vc,O fa fn fc,O ba bn bc] 31 w;have aw:=ao.pb;obtain ⟨p0,p1,p2,p3,p4,p5,p6,p7⟩:=rc8 rP;obtain ⟨o0,o1,o2,o3,o4,o5,o6,o7⟩:=rc8 aw;clear al ao KF rP aw h;go_enter Tryz.func62,Tryz.ntmps62;go_wp2_with fail;go_loopw [14] (fun i wr=>∃ m:Nat,m<=vn/\i=zd U m/\∃ la ln lc,NwI n w (zi (some ⟨br,0,none⟩)) [zd U (n:Int),O ga gn gc,O sa sn sc,O ya yn yc,O oa on oc,O va vn vc,O fa fn fc,O ba bn bc] (List.replicate m (A7 n)) (O la ln lc) wr) (fun i _=>vn - (intOf i).toNat)
 case atStart=>exact ⟨0,Nat.zero_le _,rfl,none,0,0,cc.o⟩
 case round=>
  obtain ⟨m,hm,rfl,la,ln,lc,hI⟩:=hrel;have HI:=Aa hI;by_cases hlt:m < vn
  ·have e9:=hI.c9
   have hr:=hI.row;obtain ⟨q0,q1,q2,q3,q4,q5,q6,q7,q8⟩:=rc9 hr;have ax:=hr 10 _ rfl;have bk:Hx (wr.drew.cell? ⟨w.heap.size,0,none⟩=some (zd U (n:Int))):=hI.pb 0 _ rfl;have KB:=Aa (fun W2=>ET n n1 n6 ga gn gc sa sn sc ya yn yc oa on oc va vn vc fa fn fc ba bn bc la ln lc none 0 0 W2);have bz:(m:Int) < (vn:Int):=by omega
   clear hI hr p0 o0 p1 o1 p2 o2 p3 o3 p4 o4 p5 o5 p6 o6 p7 o7;go_wp2_with fail;refine gS (fun Wz=>Wz.cell? ⟨w.heap.size,0,none⟩=some (zd U (n:Int))) (bk.o) fun b=>?_;refine kT 0 ?_;refine kT 1 ?_;refine kT 2 ?_;refine kT 3 ?_;refine kT 4 ?_;refine kT 5 ?_;refine kT 7 ?_;refine kT 8 ?_;refine kT 9 ?_;refine rdB 6 10 rfl (fun K H=>?_) rfl (fun K C=>?_) (by decide +kernel);all_goals repeat' first
    | (
     have hi:=H;clear hi;go_simp;refine xK H b fun b=>?_;clear H K;first | (refine rdA 10 rfl (fun K C=>?_) (by decide +kernel)) | (refine rdA 11 rfl (fun K s=>?_) (by decide +kernel)) | (refine rdA 12 rfl (fun K q=>?_) (by decide +kernel)) | (refine rdA 13 rfl (fun K A=>?_) (by decide +kernel)))
    | (
     have hi:=C;clear hi;go_simp;refine xK C (bk.o) fun b=>?_;clear C K;first | (refine rdA 11 rfl (fun K s=>?_) (by decide +kernel)) | refine rdB 6 11 rfl (fun K H=>?_) rfl (fun K s=>?_) (by decide +kernel))
    | (
     have hi:=s;clear hi;go_simp;refine (KB.o _).mono ?_;rintro e W3 ⟨vj,rfl,an,a7⟩;have R:=Ac (bD wr) a7;have ad:=HI.o.over R;have a1:Aw n (X0 w.heap.size (w.heap.size+1)) W3 vj (A7 n):=⟨Aq an,EU _,B8 (OE _ _) R (fun k hk=>HI.o.xlt k hk) (Bm an)⟩;obtain ⟨v1,v2,rfl,L,J,-⟩:=an;obtain ⟨y1,y2,Z,rfl⟩:=AE L;obtain ⟨V,T,S,rfl⟩:=AE J;have ak:Ov W3 (W3.alloc (ze #[O y1 y2 Z,O V T S] 50)):=bA _ _;have p:=ad.over ak;have hN:=Ad.new [O y1 y2 Z,O V T S] 50 W3;obtain ⟨i0,hi,a0,az,ay⟩:=info_parts Tryz.infoLk;obtain ⟨us,f,a6⟩:=p.lev;obtain ⟨v2,w2,a2,t,E,-,a8⟩:=run_append_own_at (P:=Tryz.prog) (w:=W3.alloc (ze #[O y1 y2 Z,O V T S] 50)) (w.heap.size+2) 42 42 50 i0 (zh #[O none 0 0,O none 0 0]) 2 48 Tryz.underlying42 hi a0 az ay rfl (by decide) _ _ _ f ⟨W3.heap.size,0,none⟩ 1 1 [O y1 y2 Z,O V T S] rfl (fun jj u hu=>by rw [Addr.add_lit,Nat.zero_add];exact hN jj u hu) (by simp [Value.oneCell']) (by rw [List.length_replicate];unfold maxLen;omega) (by rw [List.length_replicate];omega) p.two;obtain ⟨bu,bs,bt,rfl⟩:=AE t;have F:=p.add n1 a6 f.1 (a1.over (OE _ _) ak) t E a8;have dy:=ad.c9;have dx:=p.c9;have N:w2.heap[w.heap.size+1]? = (W3.alloc (ze #[O y1 y2 Z,O V T S] 50)).heap[w.heap.size+1]?:=E.block _ p.lo (fun e=>p.ap e.symm);have d2:w2.cell? ⟨w.heap.size+1,9,none⟩=some (O la ln lc):=(World.cell?_of_block (a:=⟨w.heap.size+1,9,none⟩) N).trans p.c9;have f2:w2.frozen? ⟨w.heap.size+1,9,none⟩=false:=(World.frozen?_of_block (a:=⟨w.heap.size+1,9,none⟩) N).trans (p.fz 9);have s3:=ad.pb 0 _ rfl;have s4:=p.pb 0 _ rfl;have s5:w2.cell? ⟨w.heap.size,0,none⟩=some (zd U (n:Int)):=(World.cell?_of_block (a:=⟨w.heap.size,0,none⟩) (E.block _ (bL s4) (fun e=>p.apb e.symm))).trans s4;obtain ⟨W4,am⟩:=nm (w2.setCell ⟨w.heap.size+1,9,none⟩ (O bu bs bt));rw [<-am] at F;have s6:=F.pb 0 _ rfl;have G:=Aa F;have b9:=Aa s3;have b8:=Aa s4;have b7:=Aa s5;have b6:=Aa s6;clear a7 R ad a1 L J ak p hN f a6 t E a8 F N s3 s4 s5 s6 hi a0 az ay;go_simp;refine xK s (b9.o) fun b=>?_;clear s K;first | (refine rdA 12 rfl (fun K q=>?_) (by decide +kernel)) | refine rdB 6 12 rfl (fun K H=>?_) rfl (fun K q=>?_) (by decide +kernel))
    | (
     have hi:=q;clear hi;go_simp;refine xK q (b8.o) fun b=>?_;clear q K;first | (refine rdA 13 rfl (fun K A=>?_) (by decide +kernel)) | refine rdA 6 rfl (fun K H=>?_) (by decide +kernel))
    | (
     have hi:=A;clear hi;refine Db rfl _ _ _ rfl _ _ _ _ rfl rfl a2 ?_;refine xK A (b7.o) fun b=>?_;clear A K;refine kT 14 ?_;refine kT 15 ?_;refine kT 16 ?_;refine kT 17 ?_;refine rdA 18 rfl (fun K I=>?_) (by decide +kernel))
    | (
     have hi:=I;clear hi;go_simp;rw [<-am];clear am;refine xK I (b6.o) fun b=>?_;clear I K;refine gE ?_;go_wp2_with fail;exact ⟨⟨m+1,by omega,by go_num,_,_,_,by rw [List.replicate_succ'];exact G.o⟩,by simp [intOf];omega⟩)
  ·have a5:m=vn:=by omega
   rw [a5] at hI;have hr:=hI.row;obtain ⟨q0,q1,q2,q3,q4,q5,q6,q7,q8,q9,ax,bx,bv⟩:=TA hr;have bm:=Aa hI;have KB:=Aa (fun W2=>ET n n1 n6 ga gn gc sa sn sc ya yn yc oa on oc va vn vc fa fn fc ba bn bc la ln lc none 0 0 W2);have bz:¬ (m:Int) < (vn:Int):=by omega
   clear hI hr a5 HI hm hlt p0 o0 p1 o1 p2 o2 p3 o3 p4 o4 p5 o5 p6 o6 p7 o7;go_wp2_with fail;refine (KB.o _).mono ?_;rintro e W6 ⟨vj,rfl,bd,aj⟩;have ai:=bd;obtain ⟨v1,v2,rfl,L,J,-⟩:=bd;obtain ⟨y1,y2,Z,rfl⟩:=AE L;obtain ⟨V,T,S,rfl⟩:=AE J;have be:=bm.o.over aj;have ah:Ov W6 (W6.alloc (ze #[O y1 y2 Z,O V T S] 50)):=bA _ _;have g:=be.over ah;have c11:=g.row 11 _ rfl;have b1:=g.fz 11;have bb:=g.pb;have a4:w.heap.size≠w.heap.size+1:=by omega
   have a3:=Ne.symm a4;obtain ⟨t0,t1,t2,t3,t4,t5,t6,t7⟩:=rc8 bb;obtain ⟨W7,y⟩:=nm ((W6.alloc (ze #[O y1 y2 Z,O V T S] 50)).setCell ⟨w.heap.size+1,11,none⟩ (O (some ⟨W6.heap.size,0,none⟩) 1 1));have bf:Ov w W7:=by rw [y];exact g.below.setCell (by show w.heap.size<=w.heap.size+1;omega) _
   have M:W7.cell? ⟨w.heap.size+1,12,none⟩=some (O none 0 0):=by
    rw [y,World.cell?_setCell_other _ _ _ _ (by simp)];exact g.row 12 _ rfl
   have ag:W7.frozen? ⟨w.heap.size+1,12,none⟩=false:=by
    rw [y];have e1:((W6.alloc (ze #[O y1 y2 Z,O V T S] 50)).setCell ⟨w.heap.size+1,11,none⟩ (O (some ⟨W6.heap.size,0,none⟩) 1 1)).frozen? ⟨w.heap.size+1,12,none⟩=(W6.alloc (ze #[O y1 y2 Z,O V T S] 50)).frozen? ⟨w.heap.size+1,12,none⟩:=by simp [go_sem]
    rw [e1];exact g.fz 12
   have af:w.heap.size+1 < W7.heap.size:=bL M;have b3:=Aa (cb.o W7 bf);have ca:=Aa ai;have ce:=Aa aj;have bp:=Aa M;have bo:=Aa ag;have bl:=Aa af;have a9:=y;have b5:=Aa y;clear ai aj L J be ah g bb bf M ag af a9 q0 q1 q2 q3 q4 q5 q6 q7 q8 q9 ax bx bv;go_wp2_with fail;rw [<-y];clear y c11 b1 t0 t1 t2 t3 t4 t5 t6 t7 a4 a3;refine (b3.o).mono ?_;rintro e W8 ⟨st,fv,B,hQ,rfl,hB,f,ac⟩;obtain ⟨bi,bh,bg,rfl⟩:=AE f;have c12:=Ab ac _ _ bp.o;have dw:W8.frozen? ⟨w.heap.size+1,12,none⟩=false:=((An ac).2 _ _ bl.o).trans bo.o;have G:Hx (∀ Y:Nat->Prop,(∀ k,Y k->w00.heap.size<=k/\k < w.heap.size)->_):=fun Y hY=>WtI.made (c:=⟨n,ga,gn,gc,sa,sn,sc,ya,yn,yc,oa,on,oc,va,vn,vc,fa,fn,fc,ba,bn,bc,la,ln,lc,none,0,0⟩) (fv:=O bi bh bg) (fl:=fl st) (Y:=Y) (W9:=W8.setCell ⟨w.heap.size+1,12,none⟩ (O bi bh bg)) rfl n1 bm.o ⟨rfl,rfl,rfl⟩ h00 hY ce.o ca.o (EU _) b5.o ac hB f rfl;have HQ:=Aa hQ;clear hQ hB f ac;go_wp2_with fail;go_ret;exact ⟨st,_,_,la,ln,lc,HQ.o,rfl,(G.o (fun _=>False) (fun k hk=>hk.elim)).2,fun Y hY=>(G.o Y hY).1⟩
theorem Tryz.infoBk:(Tryz.prog.info? 4).map (fun i=>(i.zero,i.size,i.bytes))=some (some (zg false),1,1):=by kernel_rfl
theorem PG (n:Nat) (n1:1<=n) (n6:n<=6) (v:Value) (l:List Bool) (w:World) (h:AJ w v l) (hl:l.length=n) :
  Calls Tryz.prog 123 #[v] w fun e w'=>∃ vj,e=zj vj/\w'.ownsRow w.heap.size 4 1 vj n (l.map Value.bool)/\Ov w w':=by
 obtain ⟨ao,cap,rfl,H⟩:=h;obtain ⟨b,off,rfl,A⟩:=H (by rintro rfl;simp at hl;omega);have p:Ov w (w.alloc (ze #[] 4)):=bA w _;obtain ⟨i0,hi,F,E,C⟩:=info_parts Tryz.infoBk;have q:(w.alloc (ze #[] 4)).ownsRow w.heap.size 4 1 (O (some ⟨w.heap.size,0,none⟩) 0 0) 0 []:=World.ownsRow_made w #[] 0 (Nat.le_refl _) (by unfold maxLen;omega) (by simp);have i:∀ jj u,(l.map Value.bool)[jj]? = some u->(w.alloc (ze #[] 4)).cell? ((⟨b,off,none⟩:Addr).add jj)=some u:=fun jj u B=>by
  have S:jj < l.length:=by have:=(List.getElem?_eq_some_iff.1 B).1;simpa using this
  rw [Addr.add_lit];rw [List.getElem?_map,List.getElem?_eq_getElem S] at B;simp at B;subst B;exact Ab p _ _ (A jj S)
 have s:∀ u∈l.map Value.bool,u.oneCell'=true:=by intro u B;obtain ⟨y,-,rfl⟩:=List.mem_map.1 B;rfl
 have I:=p.size;have M:=Aa p;have P:l.length<=6:=by omega
 obtain ⟨N,k⟩:=nm l.length;have G:(l.map Value.bool).length=N*1:=by simp [k]
 rw [<-k];have Q:Hx (N=n):=by rw [k];exact hl
 rw [<-k] at P;clear H A p hl k;have Z:∀ (w:World) (a:Option Addr) (n c n' c':Nat),(binOp .eql 48 (O a n c) (O none n' c')).run Tryz.prog w=.ok (zg a.isNone) w:=fun w a n c n' c'=>Lib.run_eql_slice_nil w _ _ a n c n' c' Tryz.underlying48;go_enter Tryz.func123,Tryz.ntmps123;go_wp2_with (at_builtin;refine wpList_append_own _ rfl _ _ 48 rfl w.heap.size 4 i0 (zg false) 1 1 Tryz.underlying48 hi F E C rfl (by decide) _ _ _ rfl q ⟨b,off,none⟩ N cap (l.map Value.bool) rfl G i s (by unfold maxLen;omega) (by omega) I ?_);intro v2 T f t _;have J:Ov w T:=M.o.trans (Ek t (fun g e=>by simp [Value.ownBlock] at e;omega) M.o.size);rw [Q.o] at f;have L:=Aa f;have R:=Aa J;obtain ⟨W,U,V,rfl⟩:=AE f;clear q f t J hi F E C i s G;go_wp2_with fail;go_ret;exact ⟨_,rfl,L.o,R.o⟩
structure GP (n B:Nat) (W:World) (u v:Value) (l:Lev):Prop where
 r:W.ownsRow B 4 1 u n (l.r.map Value.bool)
 w:W.ownsRow B 4 1 v n (l.w.map Value.bool)
 len:l.len n
theorem IQ {W:World} {B n:Nat} {v:Value} {l:List Bool} (h:W.ownsRow B 4 1 v n (l.map Value.bool)) (hl:l.length=n) (n1:1<=n):AJ W v l:=by
 rcases id h.2 with ⟨-,f⟩ | ⟨g,cap,e,b,-⟩
 ·omega
 ·rw [b] at h
  refine ⟨some ⟨g,0,none⟩,cap,by rw [b,hl],fun _=>⟨g,0,rfl,fun i hi=>?_⟩⟩;rw [Nat.zero_add,h.cellAt i (by omega)];simp [hi]
theorem GP.at_ {n B:Nat} {W:World} {u v:Value} {l:Lev} (h:GP n B W u v l) (n1:1<=n):A3 W (zh #[u,v]) l:=⟨u,v,rfl,IQ h.r h.len.1 n1,IQ h.w h.len.2 n1⟩
structure Fp (n:Nat) (w:World) (Ls:List Lev) (v:Value) (W:World):Prop where
 below:Ov w W
 row:∃ us:List Value,W.ownsRow w.heap.size 50 2 v Ls.length us/\∀ i (h:i < Ls.length),∃ x y,us[i*2]? = some x/\us[i*2+1]? = some y/\GP n w.heap.size W x y Ls[i]
section
variable {n:Nat} {w W W':World} {Ls:List Lev} {v:Value}
theorem Fp.row_lt (h:Fp n w Ls v W):∀ g,v.ownBlock=some g->w.heap.size<=g/\g < W.heap.size:=by
 obtain ⟨e,b,-⟩:=h.row;exact b.lt
theorem GP.over {B:Nat} {u v:Value} {l:Lev} (h:GP n B W u v l) (hb:Ov W W'):GP n B W' u v l:=⟨AD h.r (fun g e=>hb.block g (h.r.lt g e).2),AD h.w (fun g e=>hb.block g (h.w.lt g e).2),h.len⟩
theorem Fp.over (h:Fp n w Ls v W) (hb:Ov W W'):Fp n w Ls v W':=by
 refine ⟨h.below.trans (hb.mono h.below.size),?_⟩;obtain ⟨k,f,b⟩:=h.row;refine ⟨k,AD f (fun g e=>hb.block g (f.lt g e).2),fun i hi=>?_⟩;obtain ⟨x,y,p,l,hl⟩:=b i hi;exact ⟨x,y,p,l,hl.over hb⟩
theorem Pb {B e s k:Nat} {xs:List Value} (h:W.ownsRow B e s v k xs):∀ g,v.ownBlock=some g->∃ cur fr,W.heap[g]? = some (.cells cur e fr):=by
 intro g b;rcases h.2 with ⟨h,-⟩ | ⟨l,cap,cur,h,i,f,-⟩
 ·rw [h] at b;cases b
 ·rw [h] at b
  simp [Value.ownBlock] at b;subst b;exact ⟨_,_,f⟩
theorem Fp.add {v' u q:Value} {us:List Value} {l:Lev} (h:Fp n w Ls v W) (hel:∀ i (h:i < Ls.length),∃ x y,us[i*2]? = some x/\us[i*2+1]? = some y/\GP n w.heap.size W x y Ls[i]) (hus:us.length=Ls.length*2) (hl:GP n w.heap.size W u q l) (ho:W'.ownsRow w.heap.size 50 2 v' (Ls.length+1) (us++[u,q])) (hg:W.grownBy W' v.ownBlock) (hat:v'.ownBlock=v.ownBlock\/v'.ownBlock=some W.heap.size):Fp n w (Ls++[l]) v' W':=by
 obtain ⟨B,p,-⟩:=h.row;have hk:∀ {x y:Value} {z:Lev},GP n w.heap.size W x y z->GP n w.heap.size W' x y z:=by
  intro x y z f;have one:∀ {x:Value} {xs:List Value},W.ownsRow w.heap.size 4 1 x n xs->W'.ownsRow w.heap.size 4 1 x n xs:=fun {x xs} k=>AD k (fun g e=>hg.block g (k.lt g e).2 (fun q=>by
   obtain ⟨c1,f1,A⟩:=Pb k g e;obtain ⟨G,F,b⟩:=Pb p g q.symm;rw [A] at b;injection b with b;injection b with I E H;exact absurd E (by decide)))
  exact ⟨one f.r,one f.w,f.len⟩
 refine ⟨h.below.trans (Ek hg (fun g e=>(h.row_lt g e).1) h.below.size),us++[u,q],by rw [List.length_append];exact ho,fun i hi=>?_⟩;rw [List.length_append,List.length_singleton] at hi;by_cases hii:i < Ls.length
 ·obtain ⟨x,y,C,A,s⟩:=hel i hii
  refine ⟨x,y,by rw [List.getElem?_append_left (by omega)];exact C,by rw [List.getElem?_append_left (by omega)];exact A,?_⟩;rw [List.getElem_append_left hii];exact hk s
 ·have t:i=Ls.length:=by omega
  subst t;refine ⟨u,q,by rw [List.getElem?_append_right (by omega),hus,Nat.sub_self];rfl,by rw [List.getElem?_append_right (by omega),hus,show Ls.length*2+1 - Ls.length*2=1 by omega];rfl,?_⟩;rw [List.getElem_append_right (by omega)];simp;exact hk hl
end
theorem Qi (x:WX) (w0:World) (n:Nat) (hxn:x.c.n=n) (n1:1<=n) (n6:n<=6) (s:WSt) (pv:Value) (w:World) (h:WtI x w0 s pv w) (h16:s.vs.length<=16) :
  Calls Tryz.prog 65 #[zi (some ⟨x.bw,0,none⟩)] w fun e w'=>∃ a k c,e=zj (O a k c)/\Fp n w s.vs (O a k c) w':=by
 obtain ⟨us,ho,-⟩:=id h.lev;have C:x.c.ln=s.vs.length:=by
  rcases ho.2 with ⟨e,e2⟩ | ⟨g',cap,ci,e,-⟩
  ·unfold WX.lv at e;injection e with e1 e3 e4;rw [e3,e2]
  ·unfold WX.lv at e;injection e
 have e9:CE w x.bw 9 (O x.c.la x.c.ln x.c.lc):=h.cw (j:=8) rfl;have HI:=Aa h;have aq:=Aa C;obtain ⟨ln,B⟩:=nm x.c.ln;rw [<-B] at e9 aq;have b5:ln<=16:=by omega
 have cm:=Aa B;clear h ho C B;go_enter Tryz.func65,Tryz.ntmps65;go_wp2_with fail;go_loopw [13,3] (fun i o wr=>∃ m:Nat,m<=ln/\i=zd U m/\∃ o1 o2 o3,o=O o1 o2 o3/\Fp n w (s.vs.take m) (O o1 o2 o3) wr) (fun i _ _=>ln - (intOf i).toNat)
 case atStart=>exact ⟨0,Nat.zero_le _,rfl,none,0,0,rfl,⟨Below.refl _ _,[],World.ownsRow_nil ..,fun i h=>absurd h (by simp)⟩⟩
 case round=>
  obtain ⟨m,hm,rfl,o1,o2,o3,rfl,hO⟩:=hrel;have HO:=Aa hO;by_cases hlt:m < ln
  ·have ay:m < s.vs.length:=by rw [<-aq.o];exact hlt
   obtain ⟨bl,b0,L,J,I,H,G,F,ak,k0,k1,S⟩:=HI.o.lev.cells ay;have az:x.c.la=some ⟨bl,0,none⟩:=by unfold WX.lv at ak;injection ak
   have V:=hO.below;obtain ⟨lz,A⟩:=nm (s.vs[m]);rw [<-A] at S;have bh:=Aa A;have ao:Hx (lz.len n):=by rw [<-hxn];exact S.len
   have bi:Hx (AJ wr (O L J I) lz.r/\AJ wr (O H G F) lz.w):=by
    obtain ⟨u,v,e,b1,b2⟩:=S.at_;simp at e;obtain ⟨rfl,rfl⟩:=e;exact ⟨AF b1 V,AF b2 V⟩
   obtain ⟨k0,k1⟩:=co2 V k0 k1;have HS:Hx (∀ W2,Ov wr W2->CE W2 bl (m*2) (O L J I)/\CE W2 bl (m*2+1) (O H G F)):=fun W2 b=>⟨Ab b _ _ k0,Ab b _ _ k1⟩;have br:(m:Int) < (ln:Int):=by omega
   rw [az];clear A S V hO ak az e9;have T:Ov wr (wr.alloc (ze #[O L J I,O H G F] 50)):=bA _ _;have Q:Ad [O L J I,O H G F] (wr.alloc (ze #[O L J I,O H G F] 50)) wr.heap.size:=Ad.new _ _ _;obtain ⟨V5,am⟩:=nm ((wr.alloc (ze #[O L J I,O H G F] 50)));rw [<-am] at T Q;have N:=Aa T;have an:Hx (∀ W2,Ov V5 W2->CE W2 wr.heap.size 0 (O L J I)/\CE W2 wr.heap.size 1 (O H G F)):=fun W2 b=>⟨(Q.over b) 0 _ rfl,(Q.over b) 1 _ rfl⟩;have aa:Hx (Ov V5 V5.drew):=(bD _);have bd:Hx (w.heap.size<=V5.heap.size):=Nat.le_trans HO.o.below.size T.size;have bv:Hx (∀ W2,Ov V5 W2->Calls Tryz.prog 123 #[O L J I] W2 fun e W'=>∃ vj,e=zj vj/\W'.ownsRow W2.heap.size 4 1 vj n (lz.r.map Value.bool)/\Ov W2 W'):=fun W2 b=>PG n n1 n6 _ lz.r W2 (AF bi.o.1 (Ac N.o b)) ao.o.1;have bu:Hx (∀ W2,Ov V5 W2->Calls Tryz.prog 123 #[O H G F] W2 fun e W'=>∃ vj,e=zj vj/\W'.ownsRow W2.heap.size 4 1 vj n (lz.w.map Value.bool)/\Ov W2 W'):=fun W2 b=>PG n n1 n6 _ lz.w W2 (AF bi.o.2 (Ac N.o b)) ao.o.2;clear T Q HS;go_wp2_with fail;rw [<-am];clear am;refine gS (fun Wz=>CE Wz wr.heap.size 0 (O L J I)/\CE Wz wr.heap.size 1 (O H G F)) (an.o _ aa.o) fun f=>?_;refine kT 0 ?_;refine kT 1 ?_;refine kT 2 ?_;refine kT 4 ?_;refine kT 5 ?_;refine rdA 3 rfl fun K E=>?_;go_simp;refine (bv.o _ aa.o).mono ?_;rintro e W7 ⟨vj,rfl,l,a7⟩;obtain ⟨n1,n2,n3,rfl⟩:=AE l;have Z:=Aa (Ac aa.o a7);have be:=Aa l;clear l a7;go_simp;refine xK E (an.o _ Z.o) fun f=>?_;clear E K;refine rdA 6 rfl fun K E=>?_;go_simp;refine (bu.o _ Z.o).mono ?_;rintro e W8 ⟨vj,rfl,R,al⟩;obtain ⟨n4,n5,n6,rfl⟩:=AE R;have bk:=Aa (Ac Z.o al);have l:=AD be.o (fun g e=>al.block g (be.o.lt g e).2);have ah:=Ac N.o bk.o;have a9:=HO.o.over ah;have t:Ov W8 (W8.alloc (ze #[O n1 n2 n3,O n4 n5 n6] 50)):=bA _ _;have W:=a9.over t;have hN:=Ad.new [O n1 n2 n3,O n4 n5 n6] 50 W8;obtain ⟨i0,hi,aw,av,au⟩:=info_parts Tryz.infoLk;obtain ⟨us,y,a0⟩:=W.row;obtain ⟨v2,w2,ax,p,q,-,a8⟩:=run_append_own_at (P:=Tryz.prog) (w:=W8.alloc (ze #[O n1 n2 n3,O n4 n5 n6] 50)) w.heap.size 42 42 50 i0 (zh #[O none 0 0,O none 0 0]) 2 48 Tryz.underlying42 hi aw av au rfl (by decide) _ _ _ y ⟨W8.heap.size,0,none⟩ 1 1 [O n1 n2 n3,O n4 n5 n6] rfl (fun jj u hu=>by rw [Addr.add_lit,Nat.zero_add];exact hN jj u hu) (by simp [Value.oneCell']) (by rw [List.length_take];unfold maxLen;omega) (by rw [List.length_take];omega) W.below.size;obtain ⟨cb,b9,ca,rfl⟩:=AE p;have C:GP n w.heap.size (W8.alloc (ze #[O n1 n2 n3,O n4 n5 n6] 50)) (O n1 n2 n3) (O n4 n5 n6) lz:=⟨DA (AD l (fun g e=>t.block g (l.lt g e).2)) (Nat.le_trans bd.o aa.o.size),DA (AD R (fun g e=>t.block g (R.lt g e).2)) (Nat.le_trans bd.o Z.o.size),ao.o⟩;have ag:=W.add a0 y.1 C p q a8;have bj:=Aa ag;have s7:=an.o _ bk.o;have bx:=Aa s7;have M:Hx (CE (W8.alloc (ze #[O n1 n2 n3,O n4 n5 n6] 50)) wr.heap.size 0 (O L J I)/\CE (W8.alloc (ze #[O n1 n2 n3,O n4 n5 n6] 50)) wr.heap.size 1 (O H G F)):=⟨Ab t _ _ s7.1,Ab t _ _ s7.2⟩;have aj:(Value.slice o1 o2 o3).ownBlock≠some wr.heap.size:=fun e=>by have:=(HO.o.row_lt _ e).2;omega
   have bf:Hx (CE w2 wr.heap.size 0 (O L J I)/\CE w2 wr.heap.size 1 (O H G F)):=⟨(World.cell?_of_block (a:=⟨wr.heap.size,0,none⟩) (q.block _ (bL M.o.1) (fun e=>aj e.symm))).trans M.o.1,(World.cell?_of_block (a:=⟨wr.heap.size,1,none⟩) (q.block _ (bL M.o.2) (fun e=>aj e.symm))).trans M.o.2⟩;clear l R al ah a9 t W hN y a0 p q a8 C ag s7 aj hi aw av au;go_simp;refine xK E (bx.o) fun f=>?_;clear E K;refine kT 7 ?_;refine rdA 8 rfl fun K E=>?_;go_simp;refine xK E (M.o) fun f=>?_;clear E K;refine rdA 9 rfl fun K E=>?_;refine Db rfl _ _ _ rfl _ _ _ _ rfl rfl ax ?_;refine xK E (bf.o) fun f=>?_;clear E K;refine kT 10 ?_;refine gE ?_;go_wp2_with fail;exact ⟨⟨m+1,by omega,by go_num,_,_,_,rfl,by rw [List.take_succ_eq_append_getElem ay,<-bh.o];exact bj.o⟩,by simp [intOf];omega⟩
  ·have bs:m=ln:=by omega
   have hz:s.vs.take m=s.vs:=List.take_of_length_le (by have:=aq.o;omega);rw [hz] at HO;have br:¬ (m:Int) < (ln:Int):=by omega
   clear hO bs hz;go_wp2_with fail;go_ret;exact ⟨o1,o2,o3,rfl,HO.o⟩
abbrev Tz (ev:Value) (b1 b2 vn yn:Nat) (r:RSt):Value:=zh #[ev,O (some ⟨b1,0,none⟩) vn vn,O (some ⟨b2,0,none⟩) yn yn,zd U (r.steps:Int),zd U r.en,zd U r.sp]
structure D8 (B:Nat) (vn yn F:Nat) (r:RSt) (ev:Value) (b1 b2:Nat) (w:World):Prop where
 own:w.ownsRow B 136 4 ev r.ev.length (Bi r.ev)
 vars:Ad (Cj r.vars) w b1
 taken:Ad (Cj r.taken) w b2
 num:Bh vn yn F r
theorem D8.over {B vn yn F:Nat} {r:RSt} {ev:Value} {b1 b2:Nat} {w w':World} (h:D8 B vn yn F r ev b1 b2 w) (hb:Ov w w'):D8 B vn yn F r ev b1 b2 w':=
 ⟨Bw h.own hb,h.vars.over hb,h.taken.over hb,h.num⟩
theorem D8.other {B vn yn F:Nat} {r:RSt} {ev:Value} {b1 b2:Nat} {w:World} (h:D8 B vn yn F r ev b1 b2 w) {b:Nat} (h1:b1≠b) (h2:b2≠b) (h3:ev.ownBlock≠some b) (j:Nat) (v:Value):D8 B vn yn F r ev b1 b2 (w.setCell ⟨b,j,none⟩ v):=
 ⟨h.own.kept Bg (Or.inr h3),h.vars.other h1,h.taken.other h2,h.num⟩
theorem Pz {σ:Type} {n K:Nat} {lev flev:σ->List Lev} {step:Int->D->Lev->σ->σ} {Pm:Int->σ->Prop} (h:JO Pm step) (kf:Nat):∀ (xs:List (Nat × FnD)) (q:Int × σ),Pm q.1 q.2->Pm (q.1+(A2 kf (xs.map Prod.snd):Nat)) (xs.foldl (goF n K lev step flev kf) q).2/\(xs.foldl (goF n K lev step flev kf) q).1=q.1+(A2 kf (xs.map Prod.snd):Nat)
 | [],q,hq=>⟨h.mono _ _ _ (by omega) hq,by simp [A2]⟩
 | x::xs,q,hq=>by
  have h1:=Pz (n:=n) (K:=K) (lev:=lev) (flev:=flev) h kf xs (goF n K lev step flev kf q x) (Hw h kf x.2.body q.1 _ q.2 hq);have he:(goF n K lev step flev kf q x).1+(A2 kf (xs.map Prod.snd):Nat)=q.1+(A2 kf ((x::xs).map Prod.snd):Nat):=by
   simp [A2,goF];omega
  rw [he] at h1;exact h1
theorem QC {σ:Type} {n K:Nat} {lev flev:σ->List Lev} {step:Int->D->Lev->σ->σ} {Pm:Int->σ->Prop} (h:JO Pm step) (kf:Nat) (fs main) (st:σ) (h0:Pm 0 st):Pm ((A2 kf fs:Nat)+(AI kf main:Nat)) (D6 n K lev step flev kf fs main st):=by
 have b:=Pz (n:=n) (K:=K) (lev:=lev) (flev:=flev) h kf ((List.range fs.length).zip fs) (0,st) h0;rw [List.map_snd_zip (by simp)] at b;have e:=Hw (n:=n) (K:=K) (lev:=lev) h kf main _ (A7 n) _ b.1;simp only [Int.zero_add] at e;unfold D6;dsimp only;rw [b.2];simpa using e
theorem Le (n K kf:Nat) (gs sp Ls Fs vs ls ms) (fs:List FnD) (l) (h:A2 kf fs+AI kf l<=50):(BH n K kf gs sp Ls Fs vs ls ms fs l).length<=1000:=by
 have b:=QC (n:=n) (K:=K) (lev:=fun _=>Ls) (flev:=fun _=>Fs) (O9 n K (Ax gs) sp Ls vs ls ms fs) kf fs l [] (by unfold pmJ;simp);unfold pmJ at b;unfold BH;omega
def Bz (n K kf F:Nat) (ins:List (List Int)) (gs:List (Int × Int)) (ls ms:List Lab) (vs:List (Bool × Lab)) (fs:List FnD) (l:List D) (fl:List (Int × Int)) (vn yn:Nat):RSt:=
 Jk K kf fs F ins (obW ⟨n,K,ls.map (Ar (Ax gs) n),ms.map (Ar (Ax gs) n),vs.map Prod.fst,vs.map (fun v=>Ar (Ax gs) n v.2),fs,fl⟩) l vn yn ⟨List.replicate vn (A7 n),[A7 n]⟩
theorem Pj {n B:Nat} {Ls:List Lev} {v:Value} {W:World} (n1:1<=n) (h:∃ us:List Value,W.ownsRow B 50 2 v Ls.length us/\∀ i (h:i < Ls.length),∃ x y,us[i*2]? = some x/\us[i*2+1]? = some y/\GP n B W x y Ls[i]):BW W v Ls:=by
 obtain ⟨us,e,f⟩:=h;rcases id e.2 with ⟨b,k⟩ | ⟨g,cap,q,b,-⟩
 ·have:Ls=[]:=List.length_eq_zero_iff.1 k
  subst this;exact ⟨none,0,b,fun h=>absurd rfl h⟩
 ·rw [b] at e
  refine ⟨some ⟨g,0,none⟩,cap,b,fun _=>⟨g,0,rfl,fun i hi=>?_⟩⟩;obtain ⟨x,y,p,l,hl⟩:=f i hi;exact ⟨x,y,by rw [Nat.zero_add,e.cellAt _ (by omega)];exact p,by rw [Nat.zero_add,e.cellAt _ (by omega)];exact l,hl.at_ n1⟩
theorem Fp.moved {n:Nat} {w W W':World} {Ls:List Lev} {v:Value} (h:Fp n w Ls v W) (n1:1<=n) (hk:∀ k,w.heap.size<=k->W'.heap[k]? = W.heap[k]?):BW W' v Ls:=by
 obtain ⟨l,f,b⟩:=h.row;refine Pj (B:=w.heap.size) n1 ⟨l,AD f (fun g e=>hk g (f.lt g e).1),fun i hi=>?_⟩;obtain ⟨x,y,q,p,hl⟩:=b i hi;exact ⟨x,y,q,p,AD hl.r (fun g e=>hk g (hl.r.lt g e).1),AD hl.w (fun g e=>hk g (hl.w.lt g e).1),hl.len⟩
theorem Fp.lens {n:Nat} {w W:World} {Ls:List Lev} {v:Value} (h:Fp n w Ls v W):∀ x∈Ls,x.len n:=by
 obtain ⟨g,k,e⟩:=h.row;intro x f;obtain ⟨i,hi,rfl⟩:=List.getElem_of_mem f;obtain ⟨a,b,-,-,hl⟩:=e i hi;exact hl.len
theorem Nh {W:World} {b k:Nat} {v0 v1 v2 v3 v4 v5:Value} (h:b≠k):((((((W.setCell ⟨b,0,none⟩ v0).setCell ⟨b,1,none⟩ v1).setCell ⟨b,2,none⟩ v2).setCell ⟨b,3,none⟩ v3).setCell ⟨b,4,none⟩ v4).setCell ⟨b,5,none⟩ v5).heap[k]? = W.heap[k]?:=by
 rw [Au h,Au h,Au h,Au h,Au h,Au h]
theorem PX {B vn yn F:Nat} {r:RSt} {ev:Value} {b1 b2 b:Nat} {W:World} (h:D8 B vn yn F r ev b1 b2 W) (h1:b1≠b) (h2:b2≠b) (h3:ev.ownBlock≠some b) (v0:Value) (v1:Value) (v2:Value) (v3:Value) (v4:Value) (v5:Value):D8 B vn yn F r ev b1 b2 ((((((W.setCell ⟨b,0,none⟩ v0).setCell ⟨b,1,none⟩ v1).setCell ⟨b,2,none⟩ v2).setCell ⟨b,3,none⟩ v3).setCell ⟨b,4,none⟩ v4).setCell ⟨b,5,none⟩ v5):=
 (((((h.other h1 h2 h3 0 v0).other h1 h2 h3 1 v1).other h1 h2 h3 2 v2).other h1 h2 h3 3 v3).other h1 h2 h3 4 v4).other h1 h2 h3 5 v5
theorem QK (K kf n:Nat) (ga gn gc sa sn sc ya yn yc oa on oc va vn vc fa fn fc ba bn bc xa xn xc) (ins) (F:Nat) (gs sp ls ms vs fs l) (WA w1 w2:World) (h:BD K kf (n:Int) ga gn gc sa sn sc ya yn yc oa on oc va vn vc fa fn fc ba bn bc gs sp ls ms vs fs l WA) (hx:A8 WA (O xa xn xc) ins) (hok:okR K kf (n:Int) vn yn on sn gs sp ls ms vs fs l ins (F:Int)) (br b1 b2 b3 c3:Nat) (hr:Ik WA.heap.size [zd U (n:Int),O ga gn gc,O sa sn sc,O ya yn yc,O oa on oc,O va vn vc,O fa fn fc,O ba bn bc,O xa xn xc,zd U (F:Int),O (some ⟨b3,0,none⟩) (fs.length+1) c3] br b1 b2 b3 (DZ kf fs fs.length) vn yn w1) (hB1:Ov WA w1) (hB2:Ov w1 w2) (la:Option Addr) (ln lc bw:Nat) (fv pv:Value) (fl:List (Int × Int)) (hfl:fl.length<=1000) (hI:∀ Y:Nat->Prop,(∀ k,Y k->WA.heap.size<=k/\k < w1.heap.size)->WtI ⟨⟨n,ga,gn,gc,sa,sn,sc,ya,yn,yc,oa,on,oc,va,vn,vc,fa,fn,fc,ba,bn,bc,la,ln,lc,none,0,0⟩,bw,zi (some ⟨br,0,none⟩),fv,fl,Y⟩ WA ⟨List.replicate vn (A7 n),[A7 n]⟩ pv w2) :
  Calls Tryz.prog 63 #[zi (some ⟨br,0,none⟩),.func (.func 64) #[zi (some ⟨bw,0,none⟩)] #[]] w2 fun e w'=>e=zj (zk #[])/\∃ (ev pv':Value) (Y:Nat->Prop),(w'.cell? ⟨br,0,none⟩=some ev/\w'.cell? ⟨br,1,none⟩=some (O (some ⟨b1,0,none⟩) vn vn)/\w'.cell? ⟨br,2,none⟩=some (O (some ⟨b2,0,none⟩) yn yn)/\w'.cell? ⟨br,3,none⟩=some (zd U ((Bz n K kf F ins gs ls ms vs fs l fl vn yn).steps:Int))/\w'.cell? ⟨br,4,none⟩=some (zd U (Bz n K kf F ins gs ls ms vs fs l fl vn yn).en)/\w'.cell? ⟨br,5,none⟩=some (zd U (Bz n K kf F ins gs ls ms vs fs l fl vn yn).sp))/\D8 WA.heap.size vn yn F (Bz n K kf F ins gs ls ms vs fs l fl vn yn) ev b1 b2 w'/\WtI ⟨⟨n,ga,gn,gc,sa,sn,sc,ya,yn,yc,oa,on,oc,va,vn,vc,fa,fn,fc,ba,bn,bc,la,ln,lc,none,0,0⟩,bw,zi (some ⟨br,0,none⟩),fv,fl,Y⟩ WA (Bz n K kf F ins gs ls ms vs fs l fl vn yn).o pv' w'/\(Bz n K kf F ins gs ls ms vs fs l fl vn yn).o.vs.length=vn/\Below WA.heap.size w2 w':=by
 have f:=hok.prog.ok;obtain ⟨t,W,V,T,-⟩:=Dr f.chk;obtain rfl:t=n:=by omega
 obtain rfl:vn=vs.length:=by obtain ⟨-,a,c,A,-⟩:=h.vars;injection A
 obtain rfl:yn=ls.length:=by obtain ⟨-,a,c,A,-⟩:=h.ins;injection A
 obtain rfl:on=ms.length:=by obtain ⟨-,a,c,A,-⟩:=h.outs;injection A
 have I:fn=fs.length:=by obtain ⟨-,a,c,A,-⟩:=h.funcs;injection A
 obtain ⟨x,i⟩:∃ x:WX,x=⟨⟨t,ga,gn,gc,sa,sn,sc,ya,ls.length,yc,oa,ms.length,oc,va,vs.length,vc,fa,fn,fc,ba,bn,bc,la,ln,lc,none,0,0⟩,bw,zi (some ⟨br,0,none⟩),fv,fl,Yb br b1 b2 (O none 0 0)⟩:=⟨_,rfl⟩;have S:WtS x WA K kf gs ls ms vs fs:=by
  subst i;exact ⟨V,T,h.grants,f.chk,h.vars,h.ins,h.outs,h.funcs,f.labs.2.1,fun b J=>f.labs.1 b (List.mem_append.2 (Or.inl J)),fun b J=>f.labs.1 b (List.mem_append.2 (Or.inr J)),f.vars,f.ins,f.outs,f.funcs,hfl,f.body⟩
 have Q:PT (DS x WA S.n1 vs.length (Bc x K gs ls ms vs fs)) K kf (t:Int) ga gn gc sa sn sc ya ls.length yc oa ms.length oc va vs.length vc fa fn fc ba bn bc xa xn xc F (fs.length+1) c3 br b1 b2 b3 (DZ kf fs fs.length) fs ins WA:=
  ⟨h.funcs,hx,hok.many,hok.long,hok.num,by have:=hok.f1;omega,f.vars,I,f.funcs,rfl,rfl,by have:=f.many;omega,LJ x WA K kf gs ls ms vs fs S,f.body⟩
 have L:=hI (fun k=>WA.heap.size<=k/\k < w1.heap.size) (fun k hk=>hk);have q:=hr.lo;have s:=hr.hi;have p:=hI (Yb br b1 b2 (O none 0 0)) (fun k hk=>by
  rcases hk with e | e | e | e
  ·rw [e];exact ⟨q.1,s.1⟩
  ·rw [e];exact ⟨q.2.1,s.2.1⟩
  ·rw [e];exact ⟨q.2.2.1,s.2.2.1⟩
  ·simp [Value.ownBlock] at e)
 have G:(DS x WA S.n1 vs.length (Bc x K gs ls ms vs fs)).In (Yb br b1 b2 (O none 0 0)) ⟨List.replicate vs.length (A7 t),[A7 t]⟩ (fun k=>k=x.bw\/x.lv.ownBlock=some k\/pv.ownBlock=some k) w2:=by
  refine ⟨⟨pv,?_,fun k=>Iff.rfl⟩,by simp,by simp⟩;subst i;exact p
 have E:Ov WA w2:=hB1.trans (hB2.mono hB1.size);have M:=doR (DS x WA S.n1 vs.length (Bc x K gs ls ms vs fs)) K kf (t:Int) ga gn gc sa sn sc ya ls.length yc oa ms.length oc va vs.length vc fa fn fc ba bn bc xa xn xc F (fs.length+1) c3 br b1 b2 b3 (DZ kf fs fs.length) fs ins l ⟨List.replicate vs.length (A7 t),[A7 t]⟩ (fun k=>k=x.bw\/x.lv.ownBlock=some k\/pv.ownBlock=some k) WA w2 Q h.main f.main f.many (hr.over hB2) E G (fun k hk=>by
   subst i;rcases hk with e | e | e
   ·rw [e];exact p.lo.1
   ·exact (p.lev.lt k e).1
   ·exact (p.pls.lt k e).1) (fun hk=>by
   subst i;rcases hk with e | e | e
   ·exact L.yb (by rw [<-e];exact ⟨q.2.2.2,s.2.2.2.1⟩)
   ·exact L.yL _ e ⟨q.2.2.2,s.2.2.2.1⟩
   ·exact L.yP _ e ⟨q.2.2.2,s.2.2.2.1⟩) (by show 0 < [A7 t].length;simp)
 have B:(DS x WA S.n1 vs.length (Bc x K gs ls ms vs fs)).fre.toArray=#[zi (some ⟨bw,0,none⟩)]:=by subst i;rfl
 have C:(DS x WA S.n1 vs.length (Bc x K gs ls ms vs fs)).cap.toArray=#[]:=rfl;rw [B,C] at M;refine M.mono fun e w' N=>?_;obtain ⟨rfl,ev,g,u,y⟩:=N;have R:Jk K kf fs F ins (DS x WA S.n1 vs.length (Bc x K gs ls ms vs fs)).ob l vs.length ls.length ⟨List.replicate vs.length (A7 t),[A7 t]⟩=Bz t K kf F ins gs ls ms vs fs l fl vs.length ls.length:=by subst i;rfl
 rw [R] at g y;obtain ⟨⟨pv',hW,P⟩,H,-⟩:=g.ob;have x1:=g.row 1 _ rfl;have x2:=g.row 2 _ rfl;rw [y.vl] at x1;rw [y.tl] at x2;refine ⟨rfl,ev.ev,pv',_,⟨g.row 0 _ rfl,x1,x2,g.row 3 _ rfl,g.row 4 _ rfl,g.row 5 _ rfl⟩,⟨g.own,g.vars,g.taken,y⟩,by subst i;exact hW,H,⟨u.os,u.tape,u.output,u.size,fun k hk=>u.block k (by have:=E.size;omega) (by omega) (by omega) (by omega) (fun hx=>?_)⟩⟩;rcases hx with hx | hx
 ·simp [Value.ownBlock] at hx
 ·have:WA.heap.size<=k:=by
   subst i;rcases hx with e | e | e
   ·rw [e];exact p.lo.1
   ·exact (p.lev.lt k e).1
   ·exact (p.pls.lt k e).1
  omega
def N9 (K kf:Nat) (m:Int) (vn yn on sn:Nat) (gs:List (Int × Int)) (sp:List Int) (ls ms:List Lab) (vs:List (Bool × Lab)) (fs:List FnD) (l:List D) (ins:List (List Int)) (fuel:Int) (w:World) (e:Ending) (w':World):Prop:=
 ∃ why:Int,(why=0 ↔ okR K kf m vn yn on sn gs sp ls ms vs fs l ins fuel)/\Ov w w'/\((why≠0/\e=zj (zk #[zh #[O none 0 0,O none 0 0,O none 0 0,zd U 0,zd U 0,zd U 0],O none 0 0,zd U why])) \/
  (why=0/\∃ (n:Nat) (st:ISt) (ev:Value) (b1 b2:Nat) (va4:Option Addr) (vk4 vc4:Nat),m=n/\(B2 n K kf gs vs ls fs l st/\(∀ x∈st.vs,x.len n)/\(∀ x∈st.fs,x.len n)/\st.vs.length=vn/\st.fs.length=fs.length)/\e=zj (zk #[Tz ev b1 b2 vn yn (Bz n K kf fuel.toNat ins gs ls ms vs fs l (BH n K kf gs sp st.vs st.fs vs ls ms fs l) vn yn),O va4 vk4 vc4,zd U 0])/\D8 w.heap.size vn yn fuel.toNat (Bz n K kf fuel.toNat ins gs ls ms vs fs l (BH n K kf gs sp st.vs st.fs vs ls ms fs l) vn yn) ev b1 b2 w'/\BW w' (O va4 vk4 vc4) (Bz n K kf fuel.toNat ins gs ls ms vs fs l (BH n K kf gs sp st.vs st.fs vs ls ms fs l) vn yn).o.vs/\(∀ x∈(Bz n K kf fuel.toNat ins gs ls ms vs fs l (BH n K kf gs sp st.vs st.fs vs ls ms fs l) vn yn).o.vs,x.len n)/\(Bz n K kf fuel.toNat ins gs ls ms vs fs l (BH n K kf gs sp st.vs st.fs vs ls ms fs l) vn yn).o.vs.length=vn))
abbrev Oj (bw br:Nat) (ea:Option Addr) (el ec b1 vn b2 yn:Nat) (stp en tsp:Int) (Wz:World):Prop:=Wz.cell? ⟨bw,0,none⟩=some (zi (some ⟨br,0,none⟩))/\CE Wz br 0 (O ea el ec)/\CE Wz br 1 (O (some ⟨b1,0,none⟩) vn vn)/\CE Wz br 2 (O (some ⟨b2,0,none⟩) yn yn)/\CE Wz br 3 (zd U stp)/\CE Wz br 4 (zd U en)/\CE Wz br 5 (zd U tsp)
theorem Gh (K kf:Nat) (m:Int) (ga gn gc sa sn sc ya yn yc oa on oc va vn vc fa fn fc ba bn bc) (xa xn xc) (ins) (fuel:Int) (gs sp ls ms vs fs l) (w:World) (h:BD K kf m ga gn gc sa sn sc ya yn yc oa on oc va vn vc fa fn fc ba bn bc gs sp ls ms vs fs l w) (hx:A8 w (O xa xn xc) ins) :
  Calls Tryz.prog 17 #[zh #[zd U m,O ga gn gc,O sa sn sc,O ya yn yc,O oa on oc,O va vn vc,O fa fn fc,O ba bn bc],O xa xn xc,zd U fuel] w (N9 K kf m vn yn on sn gs sp ls ms vs fs l ins fuel w):=by
 have b:Ov w ((w.alloc (ze #[zd U m,O ga gn gc,O sa sn sc,O ya yn yc,O oa on oc,O va vn vc,O fa fn fc,O ba bn bc] 31)).alloc (ze #[O none 0 0,O none 0 0,O none 0 0,zd U 0,zd U 0,zd U 0] 55)):=(bA w _).alloc (by simp) _;have HP:=Aa (h.over b);have HX:=Aa (hx.over b);have K1:=Aa (QR K kf m ga gn gc sa sn sc ya yn yc oa on oc va vn vc fa fn fc ba bn bc xa xn xc ins fuel gs sp ls ms vs fs l _ HP.o HX.o);have an:Ad [zd U m,O ga gn gc,O sa sn sc,O ya yn yc,O oa on oc,O va vn vc,O fa fn fc,O ba bn bc] ((w.alloc (ze #[zd U m,O ga gn gc,O sa sn sc,O ya yn yc,O oa on oc,O va vn vc,O fa fn fc,O ba bn bc] 31)).alloc (ze #[O none 0 0,O none 0 0,O none 0 0,zd U 0,zd U 0,zd U 0] 55)) w.heap.size:=(Ad.new [zd U m,O ga gn gc,O sa sn sc,O ya yn yc,O oa on oc,O va vn vc,O fa fn fc,O ba bn bc] 31 w).over (bA _ _);obtain ⟨c0,c1,c2,c3,c4,c5,c6,c7⟩:=rc8 an;have ay:=Aa an;have ac:Hx (Ad [O none 0 0,O none 0 0,O none 0 0,zd U 0,zd U 0,zd U 0] ((w.alloc (ze #[zd U m,O ga gn gc,O sa sn sc,O ya yn yc,O oa on oc,O va vn vc,O fa fn fc,O ba bn bc] 31)).alloc (ze #[O none 0 0,O none 0 0,O none 0 0,zd U 0,zd U 0,zd U 0] 55)) (w.heap.size+1)/\∀ j,((w.alloc (ze #[zd U m,O ga gn gc,O sa sn sc,O ya yn yc,O oa on oc,O va vn vc,O fa fn fc,O ba bn bc] 31)).alloc (ze #[O none 0 0,O none 0 0,O none 0 0,zd U 0,zd U 0,zd U 0] 55)).frozen? ⟨w.heap.size+1,j,none⟩=false):=by
  refine ⟨?_,fun j=>by simp [go_sem]⟩;have:=Ad.newA #[O none 0 0,O none 0 0,O none 0 0,zd U 0,zd U 0,zd U 0] 55 (w.alloc (ze #[zd U m,O ga gn gc,O sa sn sc,O ya yn yc,O oa on oc,O va vn vc,O fa fn fc,O ba bn bc] 31));simpa using this
 have C:((w.alloc (ze #[zd U m,O ga gn gc,O sa sn sc,O ya yn yc,O oa on oc,O va vn vc,O fa fn fc,O ba bn bc] 31)).alloc (ze #[O none 0 0,O none 0 0,O none 0 0,zd U 0,zd U 0,zd U 0] 55)).heap.size=w.heap.size+2:=by simp
 clear h hx an;go_enter Tryz.func17,Tryz.ntmps17;go_wp2_with fail;refine (K1.o).mono ?_;obtain ⟨WA,be⟩:=nm (((w.alloc (ze #[zd U m,O ga gn gc,O sa sn sc,O ya yn yc,O oa on oc,O va vn vc,O fa fn fc,O ba bn bc] 31)).alloc (ze #[O none 0 0,O none 0 0,O none 0 0,zd U 0,zd U 0,zd U 0] 55)));rw [<-be] at HP HX ac ay b C ⊢;rintro e J ⟨s,q,y,a9⟩;have bl:=b.trans (y.mono b.size);have A:=Aa (And.intro (ac.o.1.over y) (fun j=>((An y).2 (w.heap.size+1) j (by rw [C];omega)).trans (ac.o.2 j)));have bb:w.heap.size+1 < J.heap.size:=by have:=y.size;omega
 have a1:=Aa q;have b4:=Aa bl;have i:=Aa y;have da:=Aa C;have bx:=Aa b;have bp:=Aa (ay.o.over y);clear K1 c0 c1 c2 c3 c4 c5 c6 c7 y q b be C bl ac ay;rcases a9 with ⟨hw,rfl⟩ | ⟨rfl,g,M,L,b3,c3,rfl,a7⟩
 ·have ed:(s == 0)=false:=by simpa using hw
  have o0:=A.o.1 0 _ rfl;have y0:=A.o.2 0;have o1:=A.o.1 1 _ rfl;have y1:=A.o.2 1;have o2:=A.o.1 2 _ rfl;have y2:=A.o.2 2;have o3:=A.o.1 3 _ rfl;have y3:=A.o.2 3;have o4:=A.o.1 4 _ rfl;have y4:=A.o.2 4;have o5:=A.o.1 5 _ rfl;have y5:=A.o.2 5;go_wp2_with fail;have hF:=((((((A.o.1.set (j:=0) (v:=O none 0 0) (by simp)).set (j:=1) (v:=O none 0 0) (by simp)).set (j:=2) (v:=O none 0 0) (by simp)).set (j:=3) (v:=zd U 0) (by simp)).set (j:=4) (v:=zd U 0) (by simp)).set (j:=5) (v:=zd U 0) (by simp));obtain ⟨e0,e1,e2,e3,e4,e5⟩:=rc6 hF;have ct:Ov w ((((((J.setCell ⟨w.heap.size+1,0,none⟩ (O none 0 0)).setCell ⟨w.heap.size+1,1,none⟩ (O none 0 0)).setCell ⟨w.heap.size+1,2,none⟩ (O none 0 0)).setCell ⟨w.heap.size+1,3,none⟩ (zd U 0)).setCell ⟨w.heap.size+1,4,none⟩ (zd U 0)).setCell ⟨w.heap.size+1,5,none⟩ (zd U 0)):=((((((((((((b4.o).setCell (by simp) _)).setCell (by simp) _)).setCell (by simp) _)).setCell (by simp) _)).setCell (by simp) _)).setCell (by simp) _);refine bodyPost_ret (v:=zk #[zh #[O none 0 0,O none 0 0,O none 0 0,zd U 0,zd U 0,zd U 0],O none 0 0,zd U s]) ?_ rfl ⟨s,a1.o,ct,Or.inl ⟨hw,rfl⟩⟩;generalize ((((((J.setCell ⟨w.heap.size+1,0,none⟩ (O none 0 0)).setCell ⟨w.heap.size+1,1,none⟩ (O none 0 0)).setCell ⟨w.heap.size+1,2,none⟩ (O none 0 0)).setCell ⟨w.heap.size+1,3,none⟩ (zd U 0)).setCell ⟨w.heap.size+1,4,none⟩ (zd U 0)).setCell ⟨w.heap.size+1,5,none⟩ (zd U 0))=WF at e0 e1 e2 e3 e4 e5 ⊢;simp [results,Tryz.results17,go_sem,e0,e1,e2,e3,e4,e5]
 have q:=a1.o.1 rfl;have ao:=q.prog.ok;obtain ⟨F,hF⟩:=Int.eq_ofNat_of_zero_le q.f0;subst hF;obtain ⟨n,rfl,n1,n6,-⟩:=Dr ao.chk;have a2:=Aa (And.intro n1 n6);have V:BD K kf (n:Int) ga gn gc sa sn sc ya yn yc oa on oc va vn vc fa fn fc ba bn bc gs sp ls ms vs fs l J:=HP.o.over i.o;have a6:Ey.xP K kf (n:Int) vn yn on sn gs sp ls ms vs fs l->(sp.length:Int)<=n:=fun hp=>by
  have h1:=hp.lim.2.2.2.2;have h2:sn=sp.length:=by obtain ⟨a,c,he,-⟩:=HP.o.speak;injection he
  rw [h2] at h1;exact h1
 have KN:=Aa (Kf K kf n ga gn gc sa sn sc ya yn yc oa on oc va vn vc fa fn fc ba bn bc gs sp ls ms vs fs l g WA J V n1 n6 ao.vars i.o (fun st=>BH n K kf gs sp st.vs st.fs vs ls ms fs l) (fun st=>B2 n K kf gs vs ls fs l st/\(∀ x∈st.vs,x.len n)/\(∀ x∈st.fs,x.len n)/\st.vs.length=vn/\st.fs.length=fs.length) (fun W hW=>by
  have cm:=QJ K kf (n:Int) ga gn gc sa sn sc ya yn yc oa on oc va vn vc fa fn fc ba bn bc gs sp ls ms vs fs l W (V.over hW) (fun s=>(s=0 ↔ Ey.xP K kf (n:Int) vn yn on sn gs sp ls ms vs fs l)) (fun Q cp=>Ey.scopeCheck_any K kf (n:Int) ga gn gc sa sn sc ya yn yc oa on oc va vn vc fa fn fc ba bn bc gs sp ls ms vs fs l Q (V.over (Ac hW cp))) (fun hp=>(hp.1 rfl).ok) (fun hp=>a6 (hp.1 rfl));refine cm.mono fun e w' hh=>?_;obtain ⟨s,a5,co,hh⟩:=hh;have ch:s=0:=a5.2 q.prog;rcases hh with ⟨cj,-⟩ | ⟨-,-,n',st,fv,B,eg,he,hi,h1,h2,h3,h4,cu,ho⟩
  ·exact absurd ch cj
  ·obtain rfl:n=n':=by omega
   exact ⟨st,fv,B,⟨hi,h1,h2,h3,h4⟩,he,cu,ho,co⟩))
 have az:=Aa a7;have a0:=Aa q;obtain ⟨p0,p1,p2,p3,p4,p5,p6,p7⟩:=rc8 bp.o;clear q ao a7 V n1 n6 a6;go_wp2_with fail;refine (KN.o).mono ?_;rintro e w2 ⟨st,fv,pv,la,ln,lc,hq,rfl,au,hI⟩;have Z:=QK K kf n ga gn gc sa sn sc ya yn yc oa on oc va vn vc fa fn fc ba bn bc xa xn xc ins F gs sp ls ms vs fs l WA J w2 HP.o HX.o a0.o g M L b3 c3 az.o i.o au la ln lc (J.heap.size+1) fv pv (BH n K kf gs sp st.vs st.fs vs ls ms fs l) (Le _ _ _ _ _ _ _ _ _ _ _ _ a0.o.prog.ok.many) hI;have g0:CE w2 (J.heap.size+1) 0 (zi (some ⟨g,0,none⟩)):=(hI (fun _=>False) (fun k hk=>hk.elim)).row 0 _ rfl;obtain ⟨bw,ar⟩:=nm (J.heap.size+1);rw [<-ar] at Z g0 ⊢;obtain ⟨T,hT⟩:=nm (Bz n K kf F ins gs ls ms vs fs l (BH n K kf gs sp st.vs st.fs vs ls ms fs l) vn yn);rw [<-hT] at Z;have bu:=Aa Z;have HT:=Aa hT;have HQ:=Aa hq;have b0:=Aa au;have bv:=Aa ar;have HV:=Aa a0.o.prog.ok.vars;clear KN hI hT hq au Z ar p0 p1 p2 p3 p4 p5 p6 p7;go_wp2_with fail;refine (bu.o).mono ?_;rintro e I ⟨rfl,ev,cg,Y3,⟨x0,x1,x2,x3,x4,x5⟩,f,av,al,bd⟩;have ag:Below WA.heap.size J w2:=b0.o.mono i.o.size;have E:Below WA.heap.size J I:=ag.trans bd;have bk:Ov w I:=b4.o.trans (E.mono bx.o.size);have bz:=Aa bk;have ci:=da.o;have HF:Hx (D8 w.heap.size vn yn F T ev M L I):=⟨DA f.own bx.o.size,f.vars,f.taken,f.num⟩;obtain ⟨ea,el,ec,rfl⟩:=AE f.own;have ck:=az.o.lo;have bb:=E.size;have R:Hx (M≠w.heap.size+1/\L≠w.heap.size+1/\(Value.slice ea el ec).ownBlock≠some (w.heap.size+1)/\bw≠w.heap.size+1/\g≠w.heap.size+1):=⟨by omega,by omega,fun e=>by have:=(f.own.lt _ e).1;omega,by have:=bv.o;have:=i.o.size;omega,by omega⟩;have bt:Hx (w.heap.size+1 < I.heap.size):=by have:=i.o.size;unfold Hx;omega
 have bs:Hx (Ad [O none 0 0,O none 0 0,O none 0 0,zd U 0,zd U 0,zd U 0] I (w.heap.size+1)/\∀ j,I.frozen? ⟨w.heap.size+1,j,none⟩=false):=by
  have hk:I.heap[w.heap.size+1]? = J.heap[w.heap.size+1]?:=E.block _ (by omega);exact ⟨fun j u hu=>(World.cell?_of_block hk).trans (A.o.1 j u hu),fun j=>(World.frozen?_of_block hk).trans (A.o.2 j)⟩
 have x6:CE I bw 0 (zi (some ⟨g,0,none⟩)):=av.row 0 _ rfl;have KL:Hx (∀ Q,Ov I Q->Calls Tryz.prog 65 #[zi (some ⟨bw,0,none⟩)] Q fun e w'=>∃ a k c,e=zj (O a k c)/\Fp n Q T.o.vs (O a k c) w'):=fun Q S=>Qi ⟨⟨n,ga,gn,gc,sa,sn,sc,ya,yn,yc,oa,on,oc,va,vn,vc,fa,fn,fc,ba,bn,bc,la,ln,lc,none,0,0⟩,bw,zi (some ⟨g,0,none⟩),fv,BH n K kf gs sp st.vs st.fs vs ls ms fs l,Y3⟩ WA n rfl a2.o.1 a2.o.2 T.o cg Q (WtI.over av S) (by rw [al];exact HV.o);obtain ⟨stp,am⟩:=nm ((T.steps:Int));obtain ⟨en,aq⟩:=nm T.en;obtain ⟨t,N⟩:=nm T.sp;rw [<-am] at x3;rw [<-aq] at x4;rw [<-N] at x5;have db:=Aa am;have dh:=Aa aq;have c8:=Aa N;have HS:Hx (∀ Q,Ov I Q->Oj bw g ea el ec M vn L yn stp en t Q):=fun Q S=>⟨Ab S _ _ x6,Ab S _ _ x0,Ab S _ _ x1,Ab S _ _ x2,Ab S _ _ x3,Ab S _ _ x4,Ab S _ _ x5⟩;have ad:Hx (Ov I I.drew):=(bD _);have cz:=Aa al;clear bu f av al bd ag E bk ci ck bb x0 x1 x2 x3 x4 x5 x6 am aq N HP HX g0 bp az b0;go_wp2_with fail;refine gS (Oj bw g ea el ec M vn L yn stp en t) (HS.o _ ad.o) fun P=>?_;refine kT 0 ?_;refine kT 1 ?_;refine kT 2 ?_;refine kT 3 ?_;refine kT 4 ?_;refine kT 5 ?_;refine kT 6 ?_;refine kT 7 ?_;refine rdA 8 rfl fun K hK=>?_;go_simp;refine (KL.o _ ad.o).mono ?_;rintro e W4 ⟨ak,ai,aj,rfl,aw⟩;have H:=Aa (Ac ad.o aw.below);have bq:=Aa aw;clear aw;go_simp;refine xK hK (HS.o _ H.o) fun P=>?_;clear hK K;refine rdA 9 rfl fun K hK=>?_;have r4:=bs.o.1.over H.o;have z4:∀ j,W4.frozen? ⟨w.heap.size+1,j,none⟩=false:=fun j=>((An H.o).2 _ _ bt.o).trans (bs.o.2 j);have o0:=r4 0 _ rfl;have y0:=z4 0;have o1:=r4 1 _ rfl;have y1:=z4 1;have o2:=r4 2 _ rfl;have y2:=z4 2;have o3:=r4 3 _ rfl;have y3:=z4 3;have o4:=r4 4 _ rfl;have y4:=z4 4;have o5:=r4 5 _ rfl;have y5:=z4 5;obtain ⟨W5,G⟩:=nm (((((((W4.setCell ⟨w.heap.size+1,0,none⟩ (O ea el ec)).setCell ⟨w.heap.size+1,1,none⟩ (O (some ⟨M,0,none⟩) vn vn)).setCell ⟨w.heap.size+1,2,none⟩ (O (some ⟨L,0,none⟩) yn yn)).setCell ⟨w.heap.size+1,3,none⟩ (zd U stp)).setCell ⟨w.heap.size+1,4,none⟩ (zd U en)).setCell ⟨w.heap.size+1,5,none⟩ (zd U t)));have bi:Ad [O ea el ec,O (some ⟨M,0,none⟩) vn vn,O (some ⟨L,0,none⟩) yn yn,zd U stp,zd U en,zd U t] W5 (w.heap.size+1):=by rw [G];exact ((((((r4.set (j:=0) (v:=O ea el ec) (by simp)).set (j:=1) (v:=O (some ⟨M,0,none⟩) vn vn) (by simp)).set (j:=2) (v:=O (some ⟨L,0,none⟩) yn yn) (by simp)).set (j:=3) (v:=zd U stp) (by simp)).set (j:=4) (v:=zd U en) (by simp)).set (j:=5) (v:=zd U t) (by simp))
 have bj:Ov w W5:=by rw [G];exact ((((((((((((bz.o.trans (H.o.mono bz.o.size)).setCell (by simp) _)).setCell (by simp) _)).setCell (by simp) _)).setCell (by simp) _)).setCell (by simp) _)).setCell (by simp) _)
 have p:∀ k,k≠w.heap.size+1->W5.heap[k]? = W4.heap[k]?:=fun k hk=>by rw [G];exact Nh hk.symm
 have f:D8 w.heap.size vn yn F T (O ea el ec) M L W5:=by rw [G];exact PX (HF.o.over H.o) R.o.1 R.o.2.1 R.o.2.2.1 _ _ _ _ _ _
 have bg:BW W5 (O ak ai aj) T.o.vs:=bq.o.moved a2.o.1 (fun k h1=>p k (by have:=bt.o;have:=ad.o.size;omega));have s4:=HS.o _ H.o;have dc:Hx (Oj bw g ea el ec M vn L yn stp en t W5):=⟨(World.cell?_of_block (a:=⟨bw,0,none⟩) (p bw R.o.2.2.2.1)).trans s4.1,(World.cell?_of_block (a:=⟨g,0,none⟩) (p g R.o.2.2.2.2)).trans s4.2.1,(World.cell?_of_block (a:=⟨g,1,none⟩) (p g R.o.2.2.2.2)).trans s4.2.2.1,(World.cell?_of_block (a:=⟨g,2,none⟩) (p g R.o.2.2.2.2)).trans s4.2.2.2.1,(World.cell?_of_block (a:=⟨g,3,none⟩) (p g R.o.2.2.2.2)).trans s4.2.2.2.2.1,(World.cell?_of_block (a:=⟨g,4,none⟩) (p g R.o.2.2.2.2)).trans s4.2.2.2.2.2.1,(World.cell?_of_block (a:=⟨g,5,none⟩) (p g R.o.2.2.2.2)).trans s4.2.2.2.2.2.2⟩;have dg:=Aa bi;have di:=Aa bj;have de:=Aa f;have df:=Aa bg;clear r4 z4 bi bj p f bg s4;go_simp;rw [<-G];clear G;refine xK hK (dc.o) fun P=>?_;clear hK K;refine kT 10 ?_;refine kT 11 ?_;refine gE ?_;clear o0 y0;clear o1 y1;clear o2 y2;clear o3 y3;clear o4 y4;clear o5 y5;go_wp2_with fail;obtain ⟨e0,e1,e2,e3,e4,e5⟩:=rc6 dg.o;refine bodyPost_ret (v:=zk #[zh #[O ea el ec,O (some ⟨M,0,none⟩) vn vn,O (some ⟨L,0,none⟩) yn yn,zd U stp,zd U en,zd U t],O ak ai aj,zd U 0]) ?_ rfl ?_;rotate_left
 ·have hT:=HT.o
  have h1:=db.o;have h2:=dh.o;have h3:=c8.o;subst h1 h2 h3;subst hT;exact ⟨0,by simpa using a1.o,di.o,Or.inr ⟨rfl,n,st,_,M,L,ak,ai,aj,rfl,HQ.o,rfl,de.o,df.o,bq.o.lens,cz.o⟩⟩
 simp [results,Tryz.results17,go_sem,e0,e1,e2,e3,e4,e5]
theorem Fx {cs:List Value} {w w':World} {b:Nat} {a:Array Value} {t:Nat} (ha:a.toList=cs) (hb:b=w.heap.size) (hw:Ov (w.alloc (.cells a t)) w'):Ad cs w' b:=by
 subst hb;rw [<-ha];exact (Ad.newA a t w).over hw
theorem Sh (w:World):Calls Tryz.prog 38 #[] w fun e w'=>∃ bi bo bv bm,e=zj (Fc bi bo bv bm)/\Ii bi bo bv bm w'/\Ov w w'/\(w.heap.size < bi/\bi < bo/\bo < bv/\bv < bm/\bm < w'.heap.size)/\∀ j,w'.frozen? ⟨bi,j,none⟩=false:=by
 go_enter Tryz.func38,Tryz.ntmps38;go_wp2_with fail;have b:=fun (W:World) (o:Obj)=>bA W o;refine bodyPost_ret (v:=Fc (w.heap.size+1) (w.heap.size+1+1) (w.heap.size+1+1+1) (w.heap.size+1+1+1+1)) (by simp [results,Tryz.results38,go_sem]) rfl ⟨_,_,_,_,rfl,⟨?_,?_,?_,?_⟩,?_,?_,?_⟩
 ·exact Fx rfl (by simp) (Ac (Ac (b _ _) (b _ _)) (b _ _))
 ·exact Fx rfl (by simp) (Ac (b _ _) (b _ _))
 ·exact Fx rfl (by simp) (b _ _)
 ·exact Fx rfl (by simp) (Below.refl _ _)
 ·exact Ac (Ac (Ac (Ac (b _ _) (b _ _)) (b _ _)) (b _ _)) (b _ _)
 ·refine ⟨by omega,by omega,by omega,by omega,by simp⟩
 ·intro j
  simp [go_sem]
structure Bad (bi bo bv bm bp:Nat) (w:World):Prop where
 ins:Ad [O (some ⟨bp,0,none⟩) 1 1,O none 0 0] w bi
 pol:Ad [zd U 0,O none 0 0] w bp
 outs:Ad [O none 0 0,O none 0 0] w bo
 vars:Ad [zg false,O none 0 0,O none 0 0] w bv
 main:Ad EM w bm
abbrev Mt (bi bo bv bm:Nat):Value:=zh #[zd U 2,O none 0 0,O none 0 0,O (some ⟨bi,0,none⟩) 1 1,O (some ⟨bo,0,none⟩) 1 1,O (some ⟨bv,0,none⟩) 1 1,O none 0 0,O (some ⟨bm,0,none⟩) 2 2]
def Tq (w:World) (e:Ending) (w':World):Prop:=∃ bi bo bv bm bp,e=zj (Mt bi bo bv bm)/\Bad bi bo bv bm bp w'/\Ov w w'
theorem Ia (w:World):Calls Tryz.prog 39 #[] w (Tq w):=by
 have y:Ov w (w.alloc (ze #[zd U 0,O none 0 0,O none 0 0,O none 0 0,O none 0 0,O none 0 0,O none 0 0,O none 0 0] 31)):=bA w _;have u:=Ad.newA #[zd U 0,O none 0 0,O none 0 0,O none 0 0,O none 0 0,O none 0 0,O none 0 0,O none 0 0] 31 w;have R:∀ j,(w.alloc (ze #[zd U 0,O none 0 0,O none 0 0,O none 0 0,O none 0 0,O none 0 0,O none 0 0,O none 0 0] 31)).frozen? ⟨w.heap.size,j,none⟩=false:=fun j=>by simp [go_sem]
 have K1:=Aa (Sh (w.alloc (ze #[zd U 0,O none 0 0,O none 0 0,O none 0 0,O none 0 0,O none 0 0,O none 0 0,O none 0 0] 31)));have HB:=Aa y;have HR:=Aa u;have HZ:=Aa R;clear y u R;unfold Tq;go_enter Tryz.func39,Tryz.ntmps39;go_wp2_with fail;refine (K1.o).mono ?_;rintro e f ⟨b,h,g,i,rfl,M,t,⟨C,l1,l2,l3,F⟩,A⟩;have s:(w.alloc (ze #[zd U 0,O none 0 0,O none 0 0,O none 0 0,O none 0 0,O none 0 0,O none 0 0,O none 0 0] 31)).heap.size=w.heap.size+1:=by simp
 have B:=HB.o.trans (t.mono HB.o.size);have k:=HR.o.over t;have q:∀ j,f.frozen? ⟨w.heap.size,j,none⟩=false:=fun j=>((An t).2 _ _ (by rw [s];omega)).trans (HZ.o j);have n1:b≠f.heap.size:=by omega
 have n2:w.heap.size≠f.heap.size:=by omega
 have n3:w.heap.size≠b:=by omega
 have n4:b≠f.heap.size+1:=by omega
 have n5:w.heap.size≠f.heap.size+1:=by omega
 have b1:b < f.heap.size:=by omega
 have b2:w.heap.size < f.heap.size:=by omega
 obtain ⟨c0,c1⟩:=rc2 M.ins;have z0:=A 0;have z1:=A 1;have r0:=k 0 _ rfl;have y0:=q 0;have r1:=k 1 _ rfl;have y1:=q 1;have r2:=k 2 _ rfl;have y2:=q 2;have r3:=k 3 _ rfl;have y3:=q 3;have r4:=k 4 _ rfl;have y4:=q 4;have r5:=k 5 _ rfl;have y5:=q 5;have r6:=k 6 _ rfl;have y6:=q 6;have r7:=k 7 _ rfl;have y7:=q 7;have E:=Aa M;have Q:=Aa B;have P:=Aa k;have L0:=Aa C;have L1:=Aa l1;have L2:=Aa l2;have L3:=Aa l3;have L4:=Aa F;clear M B k q A t K1 C l1 l2 l3 F s;unfold Fc;go_wp2_with fail;have l:=fun (W:World) (o:Obj)=>bA W o;have C:=L0.o;have l1:=L1.o;have l2:=L2.o;have l3:=L3.o;have F:=L4.o;simp at C;have s:(((((((((f.setCell ⟨b,0,none⟩ (O (some ⟨f.heap.size+1,0,none⟩) 1 1)).setCell ⟨w.heap.size,0,none⟩ (zd U 2)).setCell ⟨w.heap.size,1,none⟩ (O none 0 0)).setCell ⟨w.heap.size,2,none⟩ (O none 0 0)).setCell ⟨w.heap.size,3,none⟩ (O (some ⟨b,0,none⟩) 1 1)).setCell ⟨w.heap.size,4,none⟩ (O (some ⟨h,0,none⟩) 1 1)).setCell ⟨w.heap.size,5,none⟩ (O (some ⟨g,0,none⟩) 1 1)).setCell ⟨w.heap.size,6,none⟩ (O none 0 0)).setCell ⟨w.heap.size,7,none⟩ (O (some ⟨i,0,none⟩) 2 2)).heap.size=f.heap.size:=by simp [World.setCell]
 have hF:=(((((((((((P.o.other (b':=b) (j:=0) (v:=O (some ⟨f.heap.size+1,0,none⟩) 1 1) n3).set (j:=0) (v:=zd U 2) (by simp)).set (j:=1) (v:=O none 0 0) (by simp)).set (j:=2) (v:=O none 0 0) (by simp)).set (j:=3) (v:=O (some ⟨b,0,none⟩) 1 1) (by simp)).set (j:=4) (v:=O (some ⟨h,0,none⟩) 1 1) (by simp)).set (j:=5) (v:=O (some ⟨g,0,none⟩) 1 1) (by simp)).set (j:=6) (v:=O none 0 0) (by simp)).set (j:=7) (v:=O (some ⟨i,0,none⟩) 2 2) (by simp)).over (l _ (ze #[zd U 2,O none 0 0,O none 0 0,O (some ⟨b,0,none⟩) 1 1,O (some ⟨h,0,none⟩) 1 1,O (some ⟨g,0,none⟩) 1 1,O none 0 0,O (some ⟨i,0,none⟩) 2 2] 31))).over (l _ (ze #[zd U 0,O none 0 0] 87)));have L:=(((((((((((E.o.ins.set (j:=0) (v:=O (some ⟨f.heap.size+1,0,none⟩) 1 1) (by simp)).other (b':=w.heap.size) (j:=0) (v:=zd U 2) (by omega)).other (b':=w.heap.size) (j:=1) (v:=O none 0 0) (by omega)).other (b':=w.heap.size) (j:=2) (v:=O none 0 0) (by omega)).other (b':=w.heap.size) (j:=3) (v:=O (some ⟨b,0,none⟩) 1 1) (by omega)).other (b':=w.heap.size) (j:=4) (v:=O (some ⟨h,0,none⟩) 1 1) (by omega)).other (b':=w.heap.size) (j:=5) (v:=O (some ⟨g,0,none⟩) 1 1) (by omega)).other (b':=w.heap.size) (j:=6) (v:=O none 0 0) (by omega)).other (b':=w.heap.size) (j:=7) (v:=O (some ⟨i,0,none⟩) 2 2) (by omega)).over (l _ (ze #[zd U 2,O none 0 0,O none 0 0,O (some ⟨b,0,none⟩) 1 1,O (some ⟨h,0,none⟩) 1 1,O (some ⟨g,0,none⟩) 1 1,O none 0 0,O (some ⟨i,0,none⟩) 2 2] 31))).over (l _ (ze #[zd U 0,O none 0 0] 87)));have H:Ad [zd U 0,O none 0 0] (((((((((((f.setCell ⟨b,0,none⟩ (O (some ⟨f.heap.size+1,0,none⟩) 1 1)).setCell ⟨w.heap.size,0,none⟩ (zd U 2)).setCell ⟨w.heap.size,1,none⟩ (O none 0 0)).setCell ⟨w.heap.size,2,none⟩ (O none 0 0)).setCell ⟨w.heap.size,3,none⟩ (O (some ⟨b,0,none⟩) 1 1)).setCell ⟨w.heap.size,4,none⟩ (O (some ⟨h,0,none⟩) 1 1)).setCell ⟨w.heap.size,5,none⟩ (O (some ⟨g,0,none⟩) 1 1)).setCell ⟨w.heap.size,6,none⟩ (O none 0 0)).setCell ⟨w.heap.size,7,none⟩ (O (some ⟨i,0,none⟩) 2 2)).alloc (ze #[zd U 2,O none 0 0,O none 0 0,O (some ⟨b,0,none⟩) 1 1,O (some ⟨h,0,none⟩) 1 1,O (some ⟨g,0,none⟩) 1 1,O none 0 0,O (some ⟨i,0,none⟩) 2 2] 31)).alloc (ze #[zd U 0,O none 0 0] 87)) (f.heap.size+1):=by
  have:=Ad.newA #[zd U 0,O none 0 0] 87 ((((((((((f.setCell ⟨b,0,none⟩ (O (some ⟨f.heap.size+1,0,none⟩) 1 1)).setCell ⟨w.heap.size,0,none⟩ (zd U 2)).setCell ⟨w.heap.size,1,none⟩ (O none 0 0)).setCell ⟨w.heap.size,2,none⟩ (O none 0 0)).setCell ⟨w.heap.size,3,none⟩ (O (some ⟨b,0,none⟩) 1 1)).setCell ⟨w.heap.size,4,none⟩ (O (some ⟨h,0,none⟩) 1 1)).setCell ⟨w.heap.size,5,none⟩ (O (some ⟨g,0,none⟩) 1 1)).setCell ⟨w.heap.size,6,none⟩ (O none 0 0)).setCell ⟨w.heap.size,7,none⟩ (O (some ⟨i,0,none⟩) 2 2)).alloc (ze #[zd U 2,O none 0 0,O none 0 0,O (some ⟨b,0,none⟩) 1 1,O (some ⟨h,0,none⟩) 1 1,O (some ⟨g,0,none⟩) 1 1,O none 0 0,O (some ⟨i,0,none⟩) 2 2] 31));simpa [World.setCell] using this
 have I:=(((((((((((E.o.outs.other (b':=b) (j:=0) (v:=O (some ⟨f.heap.size+1,0,none⟩) 1 1) (by omega)).other (b':=w.heap.size) (j:=0) (v:=zd U 2) (by omega)).other (b':=w.heap.size) (j:=1) (v:=O none 0 0) (by omega)).other (b':=w.heap.size) (j:=2) (v:=O none 0 0) (by omega)).other (b':=w.heap.size) (j:=3) (v:=O (some ⟨b,0,none⟩) 1 1) (by omega)).other (b':=w.heap.size) (j:=4) (v:=O (some ⟨h,0,none⟩) 1 1) (by omega)).other (b':=w.heap.size) (j:=5) (v:=O (some ⟨g,0,none⟩) 1 1) (by omega)).other (b':=w.heap.size) (j:=6) (v:=O none 0 0) (by omega)).other (b':=w.heap.size) (j:=7) (v:=O (some ⟨i,0,none⟩) 2 2) (by omega)).over (l _ (ze #[zd U 2,O none 0 0,O none 0 0,O (some ⟨b,0,none⟩) 1 1,O (some ⟨h,0,none⟩) 1 1,O (some ⟨g,0,none⟩) 1 1,O none 0 0,O (some ⟨i,0,none⟩) 2 2] 31))).over (l _ (ze #[zd U 0,O none 0 0] 87)));have G:=(((((((((((E.o.vars.other (b':=b) (j:=0) (v:=O (some ⟨f.heap.size+1,0,none⟩) 1 1) (by omega)).other (b':=w.heap.size) (j:=0) (v:=zd U 2) (by omega)).other (b':=w.heap.size) (j:=1) (v:=O none 0 0) (by omega)).other (b':=w.heap.size) (j:=2) (v:=O none 0 0) (by omega)).other (b':=w.heap.size) (j:=3) (v:=O (some ⟨b,0,none⟩) 1 1) (by omega)).other (b':=w.heap.size) (j:=4) (v:=O (some ⟨h,0,none⟩) 1 1) (by omega)).other (b':=w.heap.size) (j:=5) (v:=O (some ⟨g,0,none⟩) 1 1) (by omega)).other (b':=w.heap.size) (j:=6) (v:=O none 0 0) (by omega)).other (b':=w.heap.size) (j:=7) (v:=O (some ⟨i,0,none⟩) 2 2) (by omega)).over (l _ (ze #[zd U 2,O none 0 0,O none 0 0,O (some ⟨b,0,none⟩) 1 1,O (some ⟨h,0,none⟩) 1 1,O (some ⟨g,0,none⟩) 1 1,O none 0 0,O (some ⟨i,0,none⟩) 2 2] 31))).over (l _ (ze #[zd U 0,O none 0 0] 87)));have J:=(((((((((((E.o.main.other (b':=b) (j:=0) (v:=O (some ⟨f.heap.size+1,0,none⟩) 1 1) (by omega)).other (b':=w.heap.size) (j:=0) (v:=zd U 2) (by omega)).other (b':=w.heap.size) (j:=1) (v:=O none 0 0) (by omega)).other (b':=w.heap.size) (j:=2) (v:=O none 0 0) (by omega)).other (b':=w.heap.size) (j:=3) (v:=O (some ⟨b,0,none⟩) 1 1) (by omega)).other (b':=w.heap.size) (j:=4) (v:=O (some ⟨h,0,none⟩) 1 1) (by omega)).other (b':=w.heap.size) (j:=5) (v:=O (some ⟨g,0,none⟩) 1 1) (by omega)).other (b':=w.heap.size) (j:=6) (v:=O none 0 0) (by omega)).other (b':=w.heap.size) (j:=7) (v:=O (some ⟨i,0,none⟩) 2 2) (by omega)).over (l _ (ze #[zd U 2,O none 0 0,O none 0 0,O (some ⟨b,0,none⟩) 1 1,O (some ⟨h,0,none⟩) 1 1,O (some ⟨g,0,none⟩) 1 1,O none 0 0,O (some ⟨i,0,none⟩) 2 2] 31))).over (l _ (ze #[zd U 0,O none 0 0] 87)));obtain ⟨e0,e1,e2,e3,Z,V,T,S⟩:=rc8 hF;have N:Ov w (((((((((((f.setCell ⟨b,0,none⟩ (O (some ⟨f.heap.size+1,0,none⟩) 1 1)).setCell ⟨w.heap.size,0,none⟩ (zd U 2)).setCell ⟨w.heap.size,1,none⟩ (O none 0 0)).setCell ⟨w.heap.size,2,none⟩ (O none 0 0)).setCell ⟨w.heap.size,3,none⟩ (O (some ⟨b,0,none⟩) 1 1)).setCell ⟨w.heap.size,4,none⟩ (O (some ⟨h,0,none⟩) 1 1)).setCell ⟨w.heap.size,5,none⟩ (O (some ⟨g,0,none⟩) 1 1)).setCell ⟨w.heap.size,6,none⟩ (O none 0 0)).setCell ⟨w.heap.size,7,none⟩ (O (some ⟨i,0,none⟩) 2 2)).alloc (ze #[zd U 2,O none 0 0,O none 0 0,O (some ⟨b,0,none⟩) 1 1,O (some ⟨h,0,none⟩) 1 1,O (some ⟨g,0,none⟩) 1 1,O none 0 0,O (some ⟨i,0,none⟩) 2 2] 31)).alloc (ze #[zd U 0,O none 0 0] 87)):=(((((((((((Q.o.setCell (p:=⟨b,0,none⟩) (by simp;omega) (O (some ⟨f.heap.size+1,0,none⟩) 1 1)).setCell (p:=⟨w.heap.size,0,none⟩) (by simp) (zd U 2)).setCell (p:=⟨w.heap.size,1,none⟩) (by simp) (O none 0 0)).setCell (p:=⟨w.heap.size,2,none⟩) (by simp) (O none 0 0)).setCell (p:=⟨w.heap.size,3,none⟩) (by simp) (O (some ⟨b,0,none⟩) 1 1)).setCell (p:=⟨w.heap.size,4,none⟩) (by simp) (O (some ⟨h,0,none⟩) 1 1)).setCell (p:=⟨w.heap.size,5,none⟩) (by simp) (O (some ⟨g,0,none⟩) 1 1)).setCell (p:=⟨w.heap.size,6,none⟩) (by simp) (O none 0 0)).setCell (p:=⟨w.heap.size,7,none⟩) (by simp) (O (some ⟨i,0,none⟩) 2 2)).alloc (by rw [s];omega) (ze #[zd U 2,O none 0 0,O none 0 0,O (some ⟨b,0,none⟩) 1 1,O (some ⟨h,0,none⟩) 1 1,O (some ⟨g,0,none⟩) 1 1,O none 0 0,O (some ⟨i,0,none⟩) 2 2] 31)).alloc (by simp [World.setCell];omega) (ze #[zd U 0,O none 0 0] 87));refine bodyPost_ret (v:=Mt b h g i) ?_ rfl ⟨b,h,g,i,f.heap.size+1,rfl,⟨L,H,I,G,J⟩,N⟩;generalize (((((((((((f.setCell ⟨b,0,none⟩ (O (some ⟨f.heap.size+1,0,none⟩) 1 1)).setCell ⟨w.heap.size,0,none⟩ (zd U 2)).setCell ⟨w.heap.size,1,none⟩ (O none 0 0)).setCell ⟨w.heap.size,2,none⟩ (O none 0 0)).setCell ⟨w.heap.size,3,none⟩ (O (some ⟨b,0,none⟩) 1 1)).setCell ⟨w.heap.size,4,none⟩ (O (some ⟨h,0,none⟩) 1 1)).setCell ⟨w.heap.size,5,none⟩ (O (some ⟨g,0,none⟩) 1 1)).setCell ⟨w.heap.size,6,none⟩ (O none 0 0)).setCell ⟨w.heap.size,7,none⟩ (O (some ⟨i,0,none⟩) 2 2)).alloc (ze #[zd U 2,O none 0 0,O none 0 0,O (some ⟨b,0,none⟩) 1 1,O (some ⟨h,0,none⟩) 1 1,O (some ⟨g,0,none⟩) 1 1,O none 0 0,O (some ⟨i,0,none⟩) 2 2] 31)).alloc (ze #[zd U 0,O none 0 0] 87))=WZ at e0 e1 e2 e3 Z V T S ⊢;simp [results,Tryz.results39,go_sem,e0,e1,e2,e3,Z,V,T,S]
def JK:Lab:=⟨[⟨0,[]⟩],[]⟩
theorem JJ {bi bo bv bm bp:Nat} {w:World} (h:Bad bi bo bv bm bp w):BD 1 1 2 none 0 0 none 0 0 (some ⟨bi,0,none⟩) 1 1 (some ⟨bo,0,none⟩) 1 1 (some ⟨bv,0,none⟩) 1 1 none 0 0 (some ⟨bm,0,none⟩) 2 2 [] [] [JK] [⟨[],[]⟩] [(false,⟨[],[]⟩)] [] [sm1,sm2] w:=by
 have b:=IJ (bi:=bo) (bo:=bo) (bv:=bv) (bm:=bm) (w:=w) ⟨h.outs,h.outs,h.vars,h.main⟩;refine ⟨BS 2 (by omega) (by omega),b.grants,b.speak,b.speakL,?_,b.outs,b.vars,b.funcs,b.main,fun h=>absurd h (by simp),fun h=>absurd h (by simp)⟩;refine ⟨by simp [maxLen],some ⟨bi,0,none⟩,1,rfl,fun _=>⟨bi,0,rfl,fun i hi=>?_⟩⟩;have:i=0:=by simp at hi;omega
 subst this;refine ⟨_,_,h.ins 0 _ rfl,h.ins 1 _ rfl,⟨_,_,rfl,fun _=>⟨bp,0,rfl,fun k hk=>?_⟩⟩,Ee⟩;have:k=0:=by simp [JK] at hk;omega
 subst this;exact ⟨h.pol 0 _ rfl,_,h.pol 1 _ rfl,⟨none,0,rfl,fun h=>absurd rfl h⟩⟩
theorem SL:Ey.xP 1 1 2 1 1 1 0 [] [] [JK] [⟨[],[]⟩] [(false,⟨[],[]⟩)] [] [sm1,sm2]:=by
 refine ⟨rfl,by simp,fun x g=>absurd g (by simp),⟨?_,?_,G7.labs.2.2⟩,G7.many,G7.body,G7.main⟩
 ·intro b f
  simp at f;rcases f with rfl | rfl
  ·rfl
  ·rfl
 ·intro v e
  simp at e;subst e;rfl
structure JM (bi bo bv bm bx by':Nat) (w:World):Prop where
 small:Ii bi bo bv bm w
 xs:w.cell? ⟨bx,0,none⟩=some (O (some ⟨by',0,none⟩) 1 1)
 ys:w.cell? ⟨by',0,none⟩=some (zd U 7)
theorem FV:okR 1 1 1 1 1 1 0 [] [] [⟨[],[]⟩] [⟨[],[]⟩] [(false,⟨[],[]⟩)] [] [sm1,sm2] [[7]] 9:=
 ⟨G7,rfl,fun x hx=>by simp at hx;subst hx;simp,fun x hx y hy=>by simp at hx;subst hx;simp at hy;subst hy;exact ⟨by omega,by omega⟩,by omega,by omega⟩
def SV (w:World) (e:Ending) (w':World):Prop:=∃ bi bo bv bm,e=zj (Fc bi bo bv bm)/\Ii bi bo bv bm w'/\Ov w w'
theorem Ad.at {cs:List Value} {w w':World} {b:Nat} {a:Array Value} {t:Nat} (ha:a.toList=cs) (hb:b=w.heap.size) (hw:Ov (w.alloc (.cells a t)) w'):Ad cs w' b:=by
 subst hb;rw [<-ha];exact (Ad.newA a t w).over hw
theorem Nd (w:World):Calls Tryz.prog 38 #[] w (SV w):=by
 go_enter Tryz.func38,Tryz.ntmps38;go_wp2_with fail;have b:=fun (W:World) (o:Obj)=>bA W o;refine bodyPost_ret (v:=Fc (w.heap.size+1) (w.heap.size+1+1) (w.heap.size+1+1+1) (w.heap.size+1+1+1+1)) (by simp [results,Tryz.results38,go_sem]) rfl ⟨_,_,_,_,rfl,⟨?_,?_,?_,?_⟩,?_⟩
 ·exact Ad.at rfl (by simp) (Ac (Ac (b _ _) (b _ _)) (b _ _))
 ·exact Ad.at rfl (by simp) (Ac (b _ _) (b _ _))
 ·exact Ad.at rfl (by simp) (b _ _)
 ·exact Ad.at rfl (by simp) (Below.refl _ _)
 ·exact Ac (Ac (Ac (Ac (b _ _) (b _ _)) (b _ _)) (b _ _)) (b _ _)
theorem JZ (fl):Bz 1 1 1 (9:Int).toNat [[7]] [] [⟨[],[]⟩] [⟨[],[]⟩] [(false,⟨[],[]⟩)] [] [sm1,sm2] fl 1 1=⟨[(1,1,0,7)],[7],[1],2,1,0,⟨[⟨[true],[true]⟩],[⟨[true],[false]⟩]⟩⟩:=by kernel_rfl
theorem NY (fl):Bz 2 1 1 (9:Int).toNat [[7]] [] [JK] [⟨[],[]⟩] [(false,⟨[],[]⟩)] [] [sm1,sm2] fl 1 1=⟨[],[7],[1],2,3,1,⟨[⟨[true,false],[true,true]⟩],[⟨[true,true],[false,false]⟩]⟩⟩:=by kernel_rfl
theorem Km {bx by':Nat} {w:World} (xs:w.cell? ⟨bx,0,none⟩=some (O (some ⟨by',0,none⟩) 1 1)) (ys:w.cell? ⟨by',0,none⟩=some (zd U 7)):A8 w (O (some ⟨bx,0,none⟩) 1 1) [[7]]:=by
 refine ⟨by simp [maxLen],some ⟨bx,0,none⟩,1,rfl,fun _=>⟨bx,0,rfl,fun i hi=>?_⟩⟩;have:i=0:=by simp at hi;omega
 subst this;refine ⟨_,xs,⟨some ⟨by',0,none⟩,1,rfl,fun _=>⟨by',0,rfl,fun j b=>?_⟩⟩,by simp⟩;have:j=0:=by simp at b;omega
 subst this;exact ys
theorem QN:okR 1 1 2 1 1 1 0 [] [] [JK] [⟨[],[]⟩] [(false,⟨[],[]⟩)] [] [sm1,sm2] [[7]] 9:=
 ⟨SL,rfl,FV.long,FV.num,by omega,by omega⟩
def TH (w:World) (e:Ending) (w':World):Prop:=
 ∃ g c b1 b2 lb lo lc rv wa wc,e=zj (zk #[zh #[O (some ⟨g,0,none⟩) 1 c,O (some ⟨b1,0,none⟩) 1 1,O (some ⟨b2,0,none⟩) 1 1,zd U 2,zd U 1,zd U 0],O (some ⟨lb,lo,none⟩) 1 lc,zd U 0])/\w'.cell? ⟨lb,lo,none⟩=some rv/\w'.cell? ⟨lb,lo+1,none⟩=some (O wa 1 wc)/\AJ w' (O wa 1 wc) [true]/\Ov w w'
theorem Lo (bi bo bv bm bx by':Nat) (w:World) (hS:JM bi bo bv bm bx by' w) :
  Calls Tryz.prog 17 #[Fc bi bo bv bm,O (some ⟨bx,0,none⟩) 1 1,zd U 9] w (TH w):=by
 refine (Gh 1 1 1 none 0 0 none 0 0 (some ⟨bi,0,none⟩) 1 1 (some ⟨bo,0,none⟩) 1 1 (some ⟨bv,0,none⟩) 1 1 none 0 0 (some ⟨bm,0,none⟩) 2 2 (some ⟨bx,0,none⟩) 1 1 [[7]] 9 [] [] [⟨[],[]⟩] [⟨[],[]⟩] [(false,⟨[],[]⟩)] [] [sm1,sm2] w (IJ hS.small) (Km hS.xs hS.ys)).mono ?_;rintro e R ⟨y,hw,H,⟨q,-⟩ | ⟨-,n,st,ev,P,N,Z,S,V,T,-,rfl,t,hl,-,-⟩⟩
 ·exact absurd (hw.2 FV) q
 ·obtain rfl:n=1:=by omega
  rw [JZ] at t hl ⊢;have F:=t.own;rcases F.2 with ⟨-,h⟩ | ⟨g,cap,M,rfl,-⟩
  ·exact absurd h (by simp)
  ·obtain ⟨W,k,E,b⟩:=hl
   injection E with L J I;obtain ⟨C,lo,s,b⟩:=b (by simp);obtain ⟨rv,Q,p,l,u1,u2,u,G,i⟩:=b 0 (by simp);simp at u;obtain ⟨rfl,rfl⟩:=u;have f:=i;obtain ⟨B,A,rfl,-⟩:=f;rw [L,J,I,s];exact ⟨g,cap,P,N,C,lo,k,rv,B,A,rfl,p,l,i,H⟩
def TG (w:World) (e:Ending) (w':World):Prop:=
 ∃ g c b1 b2 la lk lc,e=zj (zk #[zh #[O g 0 c,O (some ⟨b1,0,none⟩) 1 1,O (some ⟨b2,0,none⟩) 1 1,zd U 2,zd U 3,zd U 1],O la lk lc,zd U 0])/\Ov w w'
theorem N8 (bi bo bv bm bp bx by':Nat) (w:World) (hS:Bad bi bo bv bm bp w) (xs:w.cell? ⟨bx,0,none⟩=some (O (some ⟨by',0,none⟩) 1 1)) (ys:w.cell? ⟨by',0,none⟩=some (zd U 7)) :
  Calls Tryz.prog 17 #[Mt bi bo bv bm,O (some ⟨bx,0,none⟩) 1 1,zd U 9] w (TG w):=by
 refine (Gh 1 1 2 none 0 0 none 0 0 (some ⟨bi,0,none⟩) 1 1 (some ⟨bo,0,none⟩) 1 1 (some ⟨bv,0,none⟩) 1 1 none 0 0 (some ⟨bm,0,none⟩) 2 2 (some ⟨bx,0,none⟩) 1 1 [[7]] 9 [] [] [JK] [⟨[],[]⟩] [(false,⟨[],[]⟩)] [] [sm1,sm2] w (JJ hS) (Km xs ys)).mono ?_;rintro e A ⟨t,hw,k,⟨b,-⟩ | ⟨-,n,st,ev,q,p,s,f,l,B,-,rfl,i,hl,-,-⟩⟩
 ·exact absurd (hw.2 QN) b
 ·obtain rfl:n=2:=by omega
  rw [NY] at i ⊢;have u:=i.own;rcases u.2 with ⟨rfl,h⟩ | ⟨g,cap,y,rfl,-⟩
  ·exact ⟨none,0,q,p,s,f,l,rfl,k⟩
  ·exact ⟨some ⟨g,0,none⟩,cap,q,p,s,f,l,rfl,k⟩
theorem Bad.over {bi bo bv bm bp:Nat} {w w':World} (h:Bad bi bo bv bm bp w) (hb:Ov w w'):Bad bi bo bv bm bp w':=⟨h.ins.over hb,h.pol.over hb,h.outs.over hb,h.vars.over hb,h.main.over hb⟩
theorem GW (w:World):Calls Tryz.prog 19 #[] w fun e w'=>e=zj (zg true)/\Ov w w':=by
 have K1:=Aa Nd;have K2:=Aa fun bi bo bv bm bx ac W (hS:JM bi bo bv bm bx ac W)=>Lo bi bo bv bm bx ac W hS;have K3:=Aa Ia;go_enter Tryz.func19,Tryz.ntmps19;go_wp2_with fail;refine (K1.o _).mono ?_;rintro e A ⟨bi,bo,bv,bm,rfl,aa,s⟩;have hS:JM bi bo bv bm (A.heap.size+1) A.heap.size ((A.alloc (ze #[zd U 7] 3)).alloc (ze #[O (some ⟨A.heap.size,0,none⟩) 1 1] 25)):=
  ⟨aa.over ((bA A _).alloc (by simp) _),by simp [go_sem],by simp [go_sem]⟩
 have H:Ov w ((A.alloc (ze #[zd U 7] 3)).alloc (ze #[O (some ⟨A.heap.size,0,none⟩) 1 1] 25)):=(s.alloc s.size _).alloc (by have:=s.size;simp;omega) _;have I:=Aa (K2.o _ _ _ _ _ _ _ hS);clear K1 K2 aa s hS;unfold Fc at I ⊢;go_wp2_with fail;refine (I.o).mono ?_;rintro e L ⟨g,c,b1,b2,lb,lo,lc,rv,wa,wc,rfl,Q,N,T,Z⟩;have G:=H.trans (Z.mono H.size);have f:=bA L (ze #[O (some ⟨g,0,none⟩) 1 c,O (some ⟨b1,0,none⟩) 1 1,O (some ⟨b2,0,none⟩) 1 1,zd U 2,zd U 1,zd U 0] 55);have R:=Ad.newA #[O (some ⟨g,0,none⟩) 1 c,O (some ⟨b1,0,none⟩) 1 1,O (some ⟨b2,0,none⟩) 1 1,zd U 2,zd U 1,zd U 0] 55 L;have J:Hx (Ov w (L.alloc (ze #[O (some ⟨g,0,none⟩) 1 c,O (some ⟨b1,0,none⟩) 1 1,O (some ⟨b2,0,none⟩) 1 1,zd U 2,zd U 1,zd U 0] 55))):=G.alloc G.size _;have ad:=Aa R;have t:=Aa (And.intro (Ab f _ _ Q) (And.intro (Ab f _ _ N) (AF T f)));clear I Z H G f R Q N T;go_wp2_with fail;refine (K3.o _).mono ?_;obtain ⟨v2,B⟩:=nm ((L.alloc (ze #[O (some ⟨g,0,none⟩) 1 c,O (some ⟨b1,0,none⟩) 1 1,O (some ⟨b2,0,none⟩) 1 1,zd U 2,zd U 1,zd U 0] 55)));have aq:v2.heap.size=L.heap.size+1:=by rw [B];simp
 rw [<-B] at J ad t ⊢;clear B aq;rintro e u ⟨ci,co,cv,cm,cp,rfl,ab,E⟩;have F:=J.o.trans (E.mono J.o.size);have q:Ov u ((u.alloc (ze #[zd U 7] 3)).alloc (ze #[O (some ⟨u.heap.size,0,none⟩) 1 1] 25)):=(bA u _).alloc (by simp) _;have K4:=Aa (N8 ci co cv cm cp (u.heap.size+1) u.heap.size ((u.alloc (ze #[zd U 7] 3)).alloc (ze #[O (some ⟨u.heap.size,0,none⟩) 1 1] 25)) (ab.over q) (by simp [go_sem]) (by simp [go_sem]));have af:=Aa (F.trans (q.mono F.size));have av:=Aa (Ac E q);clear K3 ab E F q;unfold Mt at K4 ⊢;go_wp2_with fail;refine (K4.o).mono ?_;rintro e k ⟨h,d,p,l,la,lk,ld,rfl,C⟩;have y:=Ac av.o C;have f:=bA k (ze #[O h 0 d,O (some ⟨p,0,none⟩) 1 1,O (some ⟨l,0,none⟩) 1 1,zd U 2,zd U 3,zd U 1] 55);have ae:Hx (Ov w (k.alloc (ze #[O h 0 d,O (some ⟨p,0,none⟩) 1 1,O (some ⟨l,0,none⟩) 1 1,zd U 2,zd U 3,zd U 1] 55))):=by
  have:=af.o.trans (C.mono af.o.size);exact this.alloc this.size _
 have b:=Ac y f;have rA:=ad.o.over b;have rB:=Ad.newA #[O h 0 d,O (some ⟨p,0,none⟩) 1 1,O (some ⟨l,0,none⟩) 1 1,zd U 2,zd U 3,zd U 1] 55 k;have a0:=rA 0 _ rfl;have a4:=rA 4 _ rfl;have q0:=rB 0 _ rfl;have q4:=rB 4 _ rfl;have q5:=rB 5 _ rfl;have l0:=Ab b _ _ t.o.1;have l1:=Ab b _ _ t.o.2.1;have M:=AF t.o.2.2 b;have V:Ov (k.alloc (ze #[O h 0 d,O (some ⟨p,0,none⟩) 1 1,O (some ⟨l,0,none⟩) 1 1,zd U 2,zd U 3,zd U 1] 55)) ((k.alloc (ze #[O h 0 d,O (some ⟨p,0,none⟩) 1 1,O (some ⟨l,0,none⟩) 1 1,zd U 2,zd U 3,zd U 1] 55)).alloc (ze #[zg true] 4)):=bA _ _;have S:AJ ((k.alloc (ze #[O h 0 d,O (some ⟨p,0,none⟩) 1 1,O (some ⟨l,0,none⟩) 1 1,zd U 2,zd U 3,zd U 1] 55)).alloc (ze #[zg true] 4)) (O (some ⟨(k.alloc (ze #[O h 0 d,O (some ⟨p,0,none⟩) 1 1,O (some ⟨l,0,none⟩) 1 1,zd U 2,zd U 3,zd U 1] 55)).heap.size,0,none⟩) 1 1) [true]:=by
  refine ⟨some ⟨(k.alloc (ze #[O h 0 d,O (some ⟨p,0,none⟩) 1 1,O (some ⟨l,0,none⟩) 1 1,zd U 2,zd U 3,zd U 1] 55)).heap.size,0,none⟩,1,rfl,fun _=>⟨_,0,rfl,fun i hi=>?_⟩⟩;have:i=0:=by simp at hi;omega
  subst this;exact (Ad.newA #[zg true] 4 (k.alloc (ze #[O h 0 d,O (some ⟨p,0,none⟩) 1 1,O (some ⟨l,0,none⟩) 1 1,zd U 2,zd U 3,zd U 1] 55))) 0 _ rfl
 have K5:=Aa (Ip _ _ [true] [true] _ (AF M V) S (by simp));have aw:Hx (Ov w ((k.alloc (ze #[O h 0 d,O (some ⟨p,0,none⟩) 1 1,O (some ⟨l,0,none⟩) 1 1,zd U 2,zd U 3,zd U 1] 55)).alloc (ze #[zg true] 4))):=ae.o.alloc ae.o.size _;have P:(k.alloc (ze #[O h 0 d,O (some ⟨p,0,none⟩) 1 1,O (some ⟨l,0,none⟩) 1 1,zd U 2,zd U 3,zd U 1] 55)).heap.size=k.heap.size+1:=by simp
 rw [P] at K5;clear K4 C y f b rA rB M V S P;go_wp2_with fail;refine (K5.o).mono ?_;rintro e w5 ⟨rfl,n,rfl⟩;have ar:=below_drewN aw.o n;go_wp2_with fail;go_ret;exact ⟨rfl,ar⟩
theorem NW (n:Nat) (x):Av (A7 n) x n=true:=by
 rw [BL];intro i hi;refine ⟨fun _=>by simp [A7,hi],fun h=>?_⟩;simp [A7,hi] at h
theorem Ks (c:WK) (n:Nat) (hn:c.n=n) (vn:Nat) (ps):FN c ⟨List.replicate vn (A7 n),ps⟩:=by
 subst hn;intro i _ hi;have b:i < vn:=by simpa using hi
 show Av ((List.replicate vn (A7 c.n)).getD i Ah) _ c.n=true;rw [List.getD_eq_getElem?_getD,List.getElem?_replicate,if_pos b];exact NW c.n _
end Go.Proofs.YtfffpjkcfnekaaaGreat.Ex
