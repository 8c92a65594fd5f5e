/- One who watches is made. -/
import Derived.Test.YtfffpjkcfnekaaaGreatE12
import Derived.Lib.SliceRun
set_option linter.unusedVariables false
set_option maxHeartbeats 8000000
set_option maxRecDepth 100000
namespace Go.Proofs.YtfffpjkcfnekaaaGreat.Ex
open Go.RowKit
open Go.Value renaming slice -> O, int -> zd, bool -> zg, agg -> zh, pointer -> zi, tuple -> zk
open Go.IntKind renaming i64 -> U
open Go.Obj renaming cells -> ze
open Go.Ending renaming returned -> zj
def X0 (B b:Nat) (W:World) (k:Nat):Prop:=k < B\/W.heap.size<=b\/k=b\/∃ v,W.cell? ⟨b,9,none⟩=some v/\v.ownBlock=some k
theorem OE (B b:Nat):XOk (X0 B b):=⟨fun W W' hb k h=>by
 by_cases hlt:W.heap.size<=b
 ·exact Or.inr (Or.inl hlt)
 ·rcases h with h | h | h | ⟨v,hv,ho⟩
  ·exact Or.inl h
  ·exact absurd (Nat.le_trans hb.size h) hlt
  ·exact Or.inr (Or.inr (Or.inl h))
  ·refine Or.inr (Or.inr (Or.inr ⟨v,?_,ho⟩))
   rw [<-hv];exact (World.cell?_of_block (a:=⟨b,9,none⟩) (hb.block b (by omega))).symm⟩
structure NwI (n:Nat) (w:World) (rv:Value) (P:List Value) (Ls:List Lev) (lv:Value) (W:World):Prop where
 below:Ov w W
 row:Ad (rv::(P++[lv,O none 0 0,O none 0 0,O none 0 0])) W (w.heap.size+1)
 pb:Ad P W w.heap.size
 fz:∀ j,W.frozen? ⟨w.heap.size+1,j,none⟩=false
 lo:w.heap.size+1 < W.heap.size
 lev:BE n (X0 w.heap.size (w.heap.size+1)) (w.heap.size+2) W lv Ls
 len:P.length=8
section
variable {n:Nat} {w W W':World} {rv lv:Value} {P:List Value} {Ls:List Lev}
theorem NwI.two (h:NwI n w rv P Ls lv W):w.heap.size+2<=W.heap.size:=h.lo
theorem NwI.ap (h:NwI n w rv P Ls lv W):lv.ownBlock≠some (w.heap.size+1):=fun e=>by have:=(h.lev.lt _ e).1;omega
theorem NwI.apb (h:NwI n w rv P Ls lv W):lv.ownBlock≠some w.heap.size:=fun e=>by have:=(h.lev.lt _ e).1;omega
theorem NwI.c9 (h:NwI n w rv P Ls lv W):W.cell? ⟨w.heap.size+1,9,none⟩=some lv:=h.row 9 _ (by rw [List.getElem?_cons_succ,List.getElem?_append_right (by rw [h.len];omega),h.len];rfl)
theorem NwI.over (h:NwI n w rv P Ls lv W) (hb:Ov W W'):NwI n w rv P Ls lv W':=
 ⟨h.below.trans (hb.mono h.below.size),h.row.over hb,h.pb.over hb,fun j=>((An hb).2 _ _ h.lo).trans (h.fz j),Nat.lt_of_lt_of_le h.lo hb.size,h.lev.over (OE _ _) hb,h.len⟩
theorem NwI.xlt (h:NwI n w rv P Ls lv W):∀ k,X0 w.heap.size (w.heap.size+1) W k->k < W.heap.size:=by
 rintro k (e | e | e | ⟨v,a,e⟩)
 ·have:=h.lo;omega
 ·have:=h.lo;omega
 ·have:=h.lo;omega
 ·rw [h.c9] at a
  injection a with a;subst a;exact (h.lev.lt k e).2
theorem NwI.add {v' u v:Value} {us:List Value} {l:Lev} (n1:1<=n) (h:NwI n w rv P Ls lv W) (hel:∀ i (h:i < Ls.length),∃ a b,us[i*2]? = some a/\us[i*2+1]? = some b/\Aw n (X0 w.heap.size (w.heap.size+1)) W (zh #[a,b]) Ls[i]) (hus:us.length=Ls.length*2) (hl:Aw n (X0 w.heap.size (w.heap.size+1)) W (zh #[u,v]) l) (ho:W'.ownsRow (w.heap.size+2) 50 2 v' (Ls.length+1) (us++[u,v])) (hg:W.grownBy W' lv.ownBlock) (hat:v'.ownBlock=lv.ownBlock\/v'.ownBlock=some W.heap.size) :
  NwI n w rv P (Ls++[l]) v' (W'.setCell ⟨w.heap.size+1,9,none⟩ v'):=by
 have t:W'.heap[w.heap.size+1]? = W.heap[w.heap.size+1]?:=hg.block _ h.lo (fun e=>h.ap e.symm);have f:(W'.setCell ⟨w.heap.size+1,9,none⟩ v').heap.size=W'.heap.size:=by simp [World.setCell]
 have p:∀ g,v'.ownBlock=some g->lv.ownBlock=some g\/g=W.heap.size:=fun g e=>by
  rcases hat with e1 | e1
  ·exact Or.inl (by rw [<-e1];exact e)
  ·rw [e1] at e;injection e with e;exact Or.inr e.symm
 have s:∀ k,k < W.heap.size->k≠w.heap.size+1->lv.ownBlock≠some k->(W'.setCell ⟨w.heap.size+1,9,none⟩ v').heap[k]? = W.heap[k]?:=fun k s F E=>by rw [Au (Ne.symm F)];exact hg.block k s (fun e=>E e.symm)
 have m:Ad (rv::(P++[lv,O none 0 0,O none 0 0,O none 0 0])) W' (w.heap.size+1):=fun j u C=>(World.cell?_of_block (a:=⟨w.heap.size+1,j,none⟩) t).trans (h.row j u C);have B:=h.len;have c:Ad (rv::(P++[v',O none 0 0,O none 0 0,O none 0 0])) (W'.setCell ⟨w.heap.size+1,9,none⟩ v') (w.heap.size+1):=by
  have r:=BK (j:=9) (v:=v') m (by simp [B]);rw [List.set_cons_succ,List.set_append,if_neg (by omega),B] at r;exact r
 have A:(W'.setCell ⟨w.heap.size+1,9,none⟩ v').cell? ⟨w.heap.size+1,9,none⟩=some v':=c 9 _ (by rw [List.getElem?_cons_succ,List.getElem?_append_right (by omega),B];rfl);have G:=hg.size;have D:=h.lo;have x:FrW (X0 w.heap.size (w.heap.size+1)) W (W'.setCell ⟨w.heap.size+1,9,none⟩ v'):=by
  refine ⟨hg.os,hg.tape,hg.output,by rw [f];exact hg.size,fun k d y=>s k d (fun e=>y (Or.inr (Or.inr (Or.inl e)))) (fun e=>y (Or.inr (Or.inr (Or.inr ⟨lv,h.c9,e⟩)))),fun k d y=>?_⟩;rcases y with e | e | e | ⟨q,o,e⟩
  ·exact Or.inl e
  ·rw [f] at e;omega
  ·exact Or.inr (Or.inr (Or.inl e))
  ·rw [A] at o
   injection o with o;subst o;rcases p k e with e | e
   ·exact Or.inr (Or.inr (Or.inr ⟨lv,h.c9,e⟩))
   ·omega
 have z:v'.ownBlock≠some (w.heap.size+1):=fun e=>by have:=(ho.lt _ e).1;omega
 refine ⟨h.below.trans ⟨x.os,x.tape,x.output,x.size,fun k d=>s k (Nat.lt_of_lt_of_le d h.below.size) (by omega) (fun e=>by have:=(h.lev.lt k e).1;omega)⟩,c,fun j q o=>(World.cell?_of_block (a:=⟨w.heap.size,j,none⟩) (s w.heap.size (by omega) (by omega) h.apb)).trans (h.pb j q o),fun j=>?_,by rw [f];omega,BE.snoc n1 hel hus hl (AD ho (fun g e=>Au (fun q=>z (by rw [e,q])) v')) x,h.len⟩;have e1:(W'.setCell ⟨w.heap.size+1,9,none⟩ v').frozen? ⟨w.heap.size+1,j,none⟩=W'.frozen? ⟨w.heap.size+1,j,none⟩:=by simp [go_sem]
 rw [e1,World.frozen?_of_block (a:=⟨w.heap.size+1,j,none⟩) t];exact h.fz j
end
theorem WtI.made {n:Nat} {w00 w W5 W6 W7 W8 W9:World} {c:WC} {rv fv:Value} {fl:List (Int × Int)} {Y:Nat->Prop} {Ls:List Lev} {l:Lev} {u v:Value} {B:Nat} (hcn:c.n=n) (n1:1<=n) (h:NwI n w rv [zd U (c.n:Int),O c.ga c.gn c.gc,O c.sa c.sn c.sc,O c.ya c.yn c.yc,O c.oa c.on c.oc,O c.va c.vn c.vc,O c.fa c.fn c.fc,O c.ba c.bn c.bc] Ls (O c.la c.ln c.lc) W5) (hk0:c.ka=none/\c.kn=0/\c.kc=0) (h00:Ov w00 w) (hY:∀ k,Y k->w00.heap.size<=k/\k < w.heap.size)
  (hb6:Ov W5 W6) (hl:A1 W5 W6 (zh #[u,v]) l) (hll:l.len n) (h7:W7=(W6.alloc (ze #[u,v] 50)).setCell ⟨w.heap.size+1,11,none⟩ (O (some ⟨W6.heap.size,0,none⟩) 1 1)) (hb8:Ov W7 W8) (hB:W7.heap.size<=B) (hf:W8.ownsRow B 89 2 fv fl.length (Cc fl)) (h9:W9=W8.setCell ⟨w.heap.size+1,12,none⟩ fv) :
  WtI ⟨c,w.heap.size+1,rv,fv,fl,Y⟩ w00 ⟨Ls,[l]⟩ (O (some ⟨W6.heap.size,0,none⟩) 1 1) W9/\Ov w W9:=by
 have s6:=hb6.size;have ah:=h.lo;have a1:W7.heap.size=W6.heap.size+1:=by rw [h7];simp [World.setCell]
 have a0:=hb8.size;have az:W9.heap.size=W8.heap.size:=by rw [h9];simp [World.setCell]
 have ak:∀ k,k < W6.heap.size->k≠w.heap.size+1->W7.heap[k]? = W6.heap[k]?:=fun k t N=>by
  rw [h7,Au (Ne.symm N)];exact (bA W6 _).block k t
 have X:∀ k,k < W6.heap.size->k≠w.heap.size+1->W9.heap[k]? = W6.heap[k]?:=fun k t N=>by
  rw [h9,Au (Ne.symm N),hb8.block k (by omega),ak k t N]
 have G:∀ k,k < W5.heap.size->k≠w.heap.size+1->W9.heap[k]? = W5.heap[k]?:=fun k t N=>(X k (by omega) N).trans (hb6.block k t);have H:Ov w W9:=by
  have b6:=h.below.trans (hb6.mono h.below.size);have b7:Ov w W7:=by rw [h7];exact (b6.alloc b6.size _).setCell (by show w.heap.size<=w.heap.size+1;omega) _
  rw [h9];exact (b7.trans (hb8.mono b7.size)).setCell (by show w.heap.size<=w.heap.size+1;omega) _
 have d:∀ g,Value.ownBlock (O c.la c.ln c.lc)=some g->w.heap.size+2<=g/\g < W5.heap.size:=fun g e=>h.lev.lt g e;have r5:=h.row;have r6:=(r5.over hb6).over (bA W6 (ze #[u,v] 50));have r7:=BK (j:=11) (v:=O (some ⟨W6.heap.size,0,none⟩) 1 1) r6 (by simp);rw [<-h7] at r7;have r8:=r7.over hb8;have r9:=BK (j:=12) (v:=fv) r8 (by simp);rw [<-h9] at r9;have ar:∀ j,W7.frozen? ⟨w.heap.size+1,j,none⟩=false:=fun j=>by
  rw [h7];have D:((W6.alloc (ze #[u,v] 50)).setCell ⟨w.heap.size+1,11,none⟩ (O (some ⟨W6.heap.size,0,none⟩) 1 1)).frozen? ⟨w.heap.size+1,j,none⟩=(W6.alloc (ze #[u,v] 50)).frozen? ⟨w.heap.size+1,j,none⟩:=by simp [go_sem]
  rw [D,(An (bA W6 (ze #[u,v] 50))).2 _ _ (by omega),(An hb6).2 _ _ ah];exact h.fz j
 have aq:∀ j,W9.frozen? ⟨w.heap.size+1,j,none⟩=false:=fun j=>by
  rw [h9];have D:(W8.setCell ⟨w.heap.size+1,12,none⟩ fv).frozen? ⟨w.heap.size+1,j,none⟩=W8.frozen? ⟨w.heap.size+1,j,none⟩:=by simp [go_sem]
  rw [D,(An hb8).2 _ _ (by omega)];exact ar j
 obtain ⟨x,A⟩:∃ x:WX,x=⟨c,w.heap.size+1,rv,fv,fl,Y⟩:=⟨_,rfl⟩;have E:Ad (rv::(c.cs++[O (some ⟨W6.heap.size,0,none⟩) 1 1,fv])) W9 (w.heap.size+1):=by
  have e:(rv::(c.cs++[O (some ⟨W6.heap.size,0,none⟩) 1 1,fv]):List Value)=((rv::([zd U (c.n:Int),O c.ga c.gn c.gc,O c.sa c.sn c.sc,O c.ya c.yn c.yc,O c.oa c.on c.oc,O c.va c.vn c.vc,O c.fa c.fn c.fc,O c.ba c.bn c.bc]++[O c.la c.ln c.lc,O none 0 0,O none 0 0,O none 0 0])).set 11 (O (some ⟨W6.heap.size,0,none⟩) 1 1)).set 12 fv:=by
   simp [WC.cs,hk0.1,hk0.2.1,hk0.2.2]
  rw [e];exact r9
 have as:W9.cell? ⟨w.heap.size+1,11,none⟩=some (O (some ⟨W6.heap.size,0,none⟩) 1 1):=E 11 _ rfl;have ap:∀ k,XW x W9 k->Y k\/k=w.heap.size+1\/Value.ownBlock (O c.la c.ln c.lc)=some k\/k=W6.heap.size:=by
  rw [A];rintro k (e | e | e | e | ⟨q,F,e⟩)
  ·exact Or.inl e
  ·have e:W9.heap.size<=w.heap.size+1:=e
   omega
  ·exact Or.inr (Or.inl e)
  ·exact Or.inr (Or.inr (Or.inl e))
  ·have F:W9.cell? ⟨w.heap.size+1,11,none⟩=some q:=F
   rw [as] at F;injection F with F;subst F;simp [Value.ownBlock] at e;exact Or.inr (Or.inr (Or.inr e.symm))
 have R:∀ {Wa:World} {y:Value} {lz:Lev},Wa.heap.size<=W6.heap.size->(∀ k,k < Wa.heap.size->k≠w.heap.size+1->W9.heap[k]? = Wa.heap[k]?)->Aw n (fun _ k=>k < w.heap.size\/k=w.heap.size+1\/Value.ownBlock (O c.la c.ln c.lc)=some k) Wa y lz->Aw n (XW x) W9 y lz:=by
  intro Wa y lz be t S;obtain ⟨a,b,T,ha,hb⟩:=S.off;obtain ⟨a',b',K,ba,bb⟩:=S.at_;rw [T] at K;simp at K;obtain ⟨rfl,rfl⟩:=K;have Q:∀ (q:Value) (lb:List Bool),AJ Wa q lb->lb.length=n->(∀ z m c',q=O (some z) m c'->¬ (z.block < w.heap.size\/z.block=w.heap.size+1\/Value.ownBlock (O c.la c.ln c.lc)=some z.block))->AJ W9 q lb/\∀ z m c',q=O (some z) m c'->¬ XW x W9 z.block:=by
   intro q lb F ai V;obtain ⟨ao,aa,L,p⟩:=F;obtain ⟨o,off,M,p⟩:=p (by rintro rfl;simp at ai;omega);have ag:o < Wa.heap.size:=bL (p 0 (by omega));have C:=V ⟨o,off,none⟩ lb.length aa (by rw [L,M]);have af:o≠w.heap.size+1:=fun e=>C (Or.inr (Or.inl e));refine ⟨⟨ao,aa,L,fun _=>⟨o,off,M,fun i P=>(World.cell?_of_block (a:=⟨o,off+i,none⟩) (t o ag af)).trans (p i P)⟩⟩,fun z m c' e hz=>?_⟩;rw [L,M] at e;injection e with D;injection D with D;subst D;rcases ap _ hz with e | e | e | e
   ·exact C (Or.inl (hY _ e).2)
   ·exact C (Or.inr (Or.inl e))
   ·exact C (Or.inr (Or.inr e))
   ·have e:o=W6.heap.size:=e
    omega
  obtain ⟨k1,k2⟩:=Q _ _ ba S.len.1 ha;obtain ⟨k3,k4⟩:=Q _ _ bb S.len.2 hb;exact ⟨⟨a,b,T,k1,k3⟩,S.len,a,b,T,k2,k4⟩
 have W:BE n (XW x) w00.heap.size W9 (O c.la c.ln c.lc) Ls:=by
  obtain ⟨us,V,p⟩:=h.lev;refine ⟨us,DA (AD V (fun g e=>G g (d g e).2 (by have:=(d g e).1;omega))) (by have:=h00.size;omega),fun i P=>?_⟩;obtain ⟨a,b,e0,D,aj⟩:=p i P;refine ⟨a,b,e0,D,R s6 G (aj.mono n1 (fun k t Z=>?_))⟩;rcases Z with e | e | e
  ·exact Or.inl e
  ·exact Or.inr (Or.inr (Or.inl e))
  ·exact Or.inr (Or.inr (Or.inr ⟨_,h.c9,e⟩))
 have ae:BE n (XW x) w00.heap.size W9 (O (some ⟨W6.heap.size,0,none⟩) 1 1) [l]:=by
  have V:=World.ownsRow_lit (base:=w00.heap.size) (e:=50) (size:=2) W6 #[u,v] 1 (by have:=h00.size;omega) (by unfold maxLen;omega) (by simp);have t:W9.heap[W6.heap.size]? = (W6.alloc (ze #[u,v] 50)).heap[W6.heap.size]?:=by
   rw [h9,Au (by omega),hb8.block _ (by omega),h7,Au (by omega)]
  refine ⟨[u,v],AD V (fun g e=>by simp [Value.ownBlock] at e;subst e;exact t),fun i P=>?_⟩;have al:i=0:=by simp at P;exact P
  subst al;refine ⟨u,v,rfl,rfl,R (Nat.le_refl _) X ?_⟩;obtain ⟨a,b,T,ha,hb⟩:=Bm hl;refine ⟨Aq hl,hll,a,b,T,fun z m c' e Z=>?_,fun z m c' e Z=>?_⟩
  ·have:=ha z m c' e
   rcases Z with q | q | q
   ·have:=h.below.size;omega
   ·omega
   ·have:=(d _ q).2;omega
  ·have:=hb z m c' e
   rcases Z with q | q | q
   ·have:=h.below.size;omega
   ·omega
   ·have:=(d _ q).2;omega
 have ad:=h00.size;subst hcn;rw [<-A];have J:x.c=c:=by rw [A]
 have f:x.bw=w.heap.size+1:=by rw [A]
 have ab:x.rv=rv:=by rw [A]
 have I:x.fv=fv:=by rw [A]
 have ac:x.fl=fl:=by rw [A]
 have s:x.Y=Y:=by rw [A]
 have r:x.lv=O c.la c.ln c.lc:=by rw [A]
 refine ⟨⟨h00.trans (H.mono ad),by rw [ab,J,I,f];exact E,by rw [f];exact aq,by rw [f];exact ⟨by omega,by omega⟩,by rw [s];exact fun k e=>⟨(hY k e).1,by have:=(hY k e).2;omega⟩,by rw [s,f];exact fun e=>by have:=(hY _ e).2;omega,by rw [J,r];exact W,by rw [J];exact ae,?_,by rw [r,f];exact fun e=>by have:=(d _ e).1;omega,by rw [f];exact fun e=>by simp [Value.ownBlock] at e;omega,by rw [r];exact fun g e q=>by simp [Value.ownBlock] at q;have:=(d g e).2;omega,?_,by rw [r,s];exact fun g e q=>by have:=(d g e).1;have:=(hY g q).2;omega,by rw [s];exact fun g e q=>by simp [Value.ownBlock] at e;have:=(hY g q).2;omega⟩,H⟩
 ·rw [I,ac]
  exact DA (AD hf (fun g e=>by rw [h9,Au (by have:=(hf.lt g e).1;omega)])) (by omega)
 ·rw [I,f,r,s]
  intro g e;have hg:=(hf.lt g e).1;exact ⟨by omega,fun q=>by have:=(d g q).2;omega,fun q=>by simp [Value.ownBlock] at q;omega,fun q=>by have:=(hY g q).2;omega⟩
theorem Kf (K kf n:Nat) (ga gn gc sa sn sc ya yn yc oa on oc va vn vc fa fn fc ba bn bc gs sp ls ms vs fs l) (br:Nat) (w00 w:World) (h:BD K kf (n:Int) ga gn gc sa sn sc ya yn yc oa on oc va vn vc fa fn fc ba bn bc gs sp ls ms vs fs l w) (n1:1<=n) (n6:n<=6) (hv16:vn<=16) (h00:Ov w00 w) (fl:ISt->List (Int × Int)) (Q:ISt->Prop)
  (KF:∀ W,Ov w W->Calls Tryz.prog 35 #[zh #[zd U (n:Int),O ga gn gc,O sa sn sc,O ya yn yc,O oa on oc,O va vn vc,O fa fn fc,O ba bn bc]] W fun e w'=>∃ (st:ISt) (fv:Value) (B:Nat),Q st/\e=zj (zk #[fv,zd U 0])/\W.heap.size<=B/\w'.ownsRow B 89 2 fv (fl st).length (Cc (fl st))/\Ov W w') :
  Calls Tryz.prog 62 #[zh #[zd U (n:Int),O ga gn gc,O sa sn sc,O ya yn yc,O oa on oc,O va vn vc,O fa fn fc,O ba bn bc],zi (some ⟨br,0,none⟩)] w fun e w'=>∃ (st:ISt) (fv pv:Value) (la:Option Addr) (ln lc:Nat),Q st/\e=zj (zi (some ⟨w.heap.size+1,0,none⟩))/\Ov w w'/\(∀ Y:Nat->Prop,(∀ k,Y k->w00.heap.size<=k/\k < w.heap.size)->WtI ⟨⟨n,ga,gn,gc,sa,sn,sc,ya,yn,yc,oa,on,oc,va,vn,vc,fa,fn,fc,ba,bn,bc,la,ln,lc,none,0,0⟩,w.heap.size+1,zi (some ⟨br,0,none⟩),fv,fl st,Y⟩ w00 ⟨List.replicate vn (A7 n),[A7 n]⟩ pv w'):=by
 have ag:Ov w ((w.alloc (ze #[zd U (n:Int),O ga gn gc,O sa sn sc,O ya yn yc,O oa on oc,O va vn vc,O fa fn fc,O ba bn bc] 31)).alloc (ze #[zi (some ⟨br,0,none⟩),zd U (n:Int),O ga gn gc,O sa sn sc,O ya yn yc,O oa on oc,O va vn vc,O fa fn fc,O ba bn bc,O none 0 0,O none 0 0,O none 0 0,O none 0 0] 124)):=(bA w _).alloc (by simp) _;have aj:NwI n w (zi (some ⟨br,0,none⟩)) [zd U (n:Int),O ga gn gc,O sa sn sc,O ya yn yc,O oa on oc,O va vn vc,O fa fn fc,O ba bn bc] [] (O none 0 0) ((w.alloc (ze #[zd U (n:Int),O ga gn gc,O sa sn sc,O ya yn yc,O oa on oc,O va vn vc,O fa fn fc,O ba bn bc] 31)).alloc (ze #[zi (some ⟨br,0,none⟩),zd U (n:Int),O ga gn gc,O sa sn sc,O ya yn yc,O oa on oc,O va vn vc,O fa fn fc,O ba bn bc,O none 0 0,O none 0 0,O none 0 0,O none 0 0] 124)):=by
  refine ⟨ag,?_,(Ad.new [zd U (n:Int),O ga gn gc,O sa sn sc,O ya yn yc,O oa on oc,O va vn vc,O fa fn fc,O ba bn bc] 31 w).over (bA _ _),fun j=>by simp [go_sem],by simp,Ns _ _ _ _,rfl⟩;have r:=Ad.new ((zi (some ⟨br,0,none⟩))::([zd U (n:Int),O ga gn gc,O sa sn sc,O ya yn yc,O oa on oc,O va vn vc,O fa fn fc,O ba bn bc]++[O none 0 0,O none 0 0,O none 0 0,O none 0 0])) 124 (w.alloc (ze #[zd U (n:Int),O ga gn gc,O sa sn sc,O ya yn yc,O oa on oc,O va vn vc,O fa fn fc,O ba bn bc] 31));simpa using r
 have dw:=Aa ag;have b7:=Aa aj;have b6:=Aa KF;have rP:=Ad.new [zd U (n:Int),O ga gn gc,O sa sn sc,O ya yn yc,O oa on oc,O va vn vc,O fa fn fc,O ba bn bc] 31 w;have ao:=aj.pb;obtain ⟨p0,p1,p2,p3,p4,p5,p6,p7⟩:=rc8 rP;obtain ⟨o0,o1,o2,o3,o4,o5,o6,o7⟩:=rc8 ao;clear ag aj KF rP ao h;go_enter Tryz.func62,Tryz.ntmps62;go_wp2_with fail;go_loopw [14] (fun i wr=>∃ m:Nat,m<=vn/\i=zd U m/\∃ la ln lc,NwI n w (zi (some ⟨br,0,none⟩)) [zd U (n:Int),O ga gn gc,O sa sn sc,O ya yn yc,O oa on oc,O va vn vc,O fa fn fc,O ba bn bc] (List.replicate m (A7 n)) (O la ln lc) wr) (fun i _=>vn - (intOf i).toNat)
 case atStart=>exact ⟨0,Nat.zero_le _,rfl,none,0,0,b7.o⟩
 case round=>
  obtain ⟨m,hm,rfl,la,ln,lc,Z⟩:=hrel;have HI:=Aa Z;by_cases hlt:m < vn
  ·have e9:=Z.c9
   have hr:=Z.row;obtain ⟨q0,q1,q2,q3,q4,q5,q6,q7,q8⟩:=rc9 hr;have aq:=hr 10 _ rfl;have be:Hx (wr.drew.cell? ⟨w.heap.size,0,none⟩=some (zd U (n:Int))):=Z.pb 0 _ rfl;have KB:=Aa (fun W2=>ET n n1 n6 ga gn gc sa sn sc ya yn yc oa on oc va vn vc fa fn fc ba bn bc la ln lc none 0 0 W2);have bq:(m:Int) < (vn:Int):=by omega
   clear Z hr p0 o0 p1 o1 p2 o2 p3 o3 p4 o4 p5 o5 p6 o6 p7 o7;go_wp2_with fail;refine gS (fun Wz=>Wz.cell? ⟨w.heap.size,0,none⟩=some (zd U (n:Int))) (be.o) fun b=>?_;refine kT 0 ?_;refine kT 1 ?_;refine kT 2 ?_;refine kT 3 ?_;refine kT 4 ?_;refine kT 5 ?_;refine kT 7 ?_;refine kT 8 ?_;refine kT 9 ?_;refine rdB 6 10 rfl (fun K D=>?_) rfl (fun K x=>?_) (by decide +kernel);all_goals repeat' first
    | (
     have y:=D;clear y;go_simp;refine xK D b fun b=>?_;clear D K;first | (refine rdA 10 rfl (fun K x=>?_) (by decide +kernel)) | (refine rdA 11 rfl (fun K q=>?_) (by decide +kernel)) | (refine rdA 12 rfl (fun K p=>?_) (by decide +kernel)) | (refine rdA 13 rfl (fun K v=>?_) (by decide +kernel)))
    | (
     have y:=x;clear y;go_simp;refine xK x (be.o) fun b=>?_;clear x K;first | (refine rdA 11 rfl (fun K q=>?_) (by decide +kernel)) | refine rdB 6 11 rfl (fun K D=>?_) rfl (fun K q=>?_) (by decide +kernel))
    | (
     have y:=q;clear y;go_simp;refine (KB.o _).mono ?_;rintro e W3 ⟨vj,rfl,ai,a1⟩;have J:=Ac (bD wr) a1;have X:=HI.o.over J;have av:Aw n (X0 w.heap.size (w.heap.size+1)) W3 vj (A7 n):=⟨Aq ai,EU _,B8 (OE _ _) J (fun k hk=>HI.o.xlt k hk) (Bm ai)⟩;obtain ⟨v1,v2,rfl,G,F,-⟩:=ai;obtain ⟨T,S,R,rfl⟩:=AE G;obtain ⟨N,M,L,rfl⟩:=AE F;have af:Ov W3 (W3.alloc (ze #[O T S R,O N M L] 50)):=bA _ _;have g:=X.over af;have hN:=Ad.new [O T S R,O N M L] 50 W3;obtain ⟨i0,y,au,as,ar⟩:=info_parts Tryz.infoLk;obtain ⟨us,d,a0⟩:=g.lev;obtain ⟨v2,w2,aw,s,z,-,a2⟩:=run_append_own_at (P:=Tryz.prog) (w:=W3.alloc (ze #[O T S R,O N M L] 50)) (w.heap.size+2) 42 42 50 i0 (zh #[O none 0 0,O none 0 0]) 2 48 Tryz.underlying42 y au as ar rfl (by decide) _ _ _ d ⟨W3.heap.size,0,none⟩ 1 1 [O T S R,O N M L] rfl (fun jj u hu=>by rw [Addr.add_lit,Nat.zero_add];exact hN jj u hu) (by simp [Value.oneCell']) (by rw [List.length_replicate];unfold maxLen;omega) (by rw [List.length_replicate];omega) g.two;obtain ⟨bm,bk,bl,rfl⟩:=AE s;have A:=g.add n1 a0 d.1 (av.over (OE _ _) af) s z a2;have dr:=X.c9;have dq:=g.c9;have I:w2.heap[w.heap.size+1]? = (W3.alloc (ze #[O T S R,O N M L] 50)).heap[w.heap.size+1]?:=z.block _ g.lo (fun e=>g.ap e.symm);have d2:w2.cell? ⟨w.heap.size+1,9,none⟩=some (O la ln lc):=(World.cell?_of_block (a:=⟨w.heap.size+1,9,none⟩) I).trans g.c9;have f2:w2.frozen? ⟨w.heap.size+1,9,none⟩=false:=(World.frozen?_of_block (a:=⟨w.heap.size+1,9,none⟩) I).trans (g.fz 9);have s3:=X.pb 0 _ rfl;have s4:=g.pb 0 _ rfl;have s5:w2.cell? ⟨w.heap.size,0,none⟩=some (zd U (n:Int)):=(World.cell?_of_block (a:=⟨w.heap.size,0,none⟩) (z.block _ (bL s4) (fun e=>g.apb e.symm))).trans s4;obtain ⟨W4,ah⟩:=nm (w2.setCell ⟨w.heap.size+1,9,none⟩ (O bm bk bl));rw [<-ah] at A;have s6:=A.pb 0 _ rfl;have C:=Aa A;have b4:=Aa s3;have b3:=Aa s4;have b2:=Aa s5;have b1:=Aa s6;clear a1 J X av G F af g hN d a0 s z a2 A I s3 s4 s5 s6 y au as ar;go_simp;refine xK q (b4.o) fun b=>?_;clear q K;first | (refine rdA 12 rfl (fun K p=>?_) (by decide +kernel)) | refine rdB 6 12 rfl (fun K D=>?_) rfl (fun K p=>?_) (by decide +kernel))
    | (
     have y:=p;clear y;go_simp;refine xK p (b3.o) fun b=>?_;clear p K;first | (refine rdA 13 rfl (fun K v=>?_) (by decide +kernel)) | refine rdA 6 rfl (fun K D=>?_) (by decide +kernel))
    | (
     have y:=v;clear y;refine Db rfl _ _ _ rfl _ _ _ _ rfl rfl aw ?_;refine xK v (b2.o) fun b=>?_;clear v K;refine kT 14 ?_;refine kT 15 ?_;refine kT 16 ?_;refine kT 17 ?_;refine rdA 18 rfl (fun K E=>?_) (by decide +kernel))
    | (
     have y:=E;clear y;go_simp;rw [<-ah];clear ah;refine xK E (b1.o) fun b=>?_;clear E K;refine gE ?_;go_wp2_with fail;exact ⟨⟨m+1,by omega,by go_num,_,_,_,by rw [List.replicate_succ'];exact C.o⟩,by simp [intOf];omega⟩)
  ·have az:m=vn:=by omega
   rw [az] at Z;have hr:=Z.row;obtain ⟨q0,q1,q2,q3,q4,q5,q6,q7,q8,q9,aq,bp,bo⟩:=TA hr;have bg:=Aa Z;have KB:=Aa (fun W2=>ET n n1 n6 ga gn gc sa sn sc ya yn yc oa on oc va vn vc fa fn fc ba bn bc la ln lc none 0 0 W2);have bq:¬ (m:Int) < (vn:Int):=by omega
   clear Z hr az HI hm hlt p0 o0 p1 o1 p2 o2 p3 o3 p4 o4 p5 o5 p6 o6 p7 o7;go_wp2_with fail;refine (KB.o _).mono ?_;rintro e W6 ⟨vj,rfl,a5,ae⟩;have ad:=a5;obtain ⟨v1,v2,rfl,G,F,-⟩:=a5;obtain ⟨T,S,R,rfl⟩:=AE G;obtain ⟨N,M,L,rfl⟩:=AE F;have a6:=bg.o.over ae;have ac:Ov W6 (W6.alloc (ze #[O T S R,O N M L] 50)):=bA _ _;have f:=a6.over ac;have bv:=f.row 11 _ rfl;have bu:=f.fz 11;have a4:=f.pb;have ay:w.heap.size≠w.heap.size+1:=by omega
   have ax:=Ne.symm ay;obtain ⟨t0,t1,t2,t3,t4,t5,t6,t7⟩:=rc8 a4;obtain ⟨W7,t⟩:=nm ((W6.alloc (ze #[O T S R,O N M L] 50)).setCell ⟨w.heap.size+1,11,none⟩ (O (some ⟨W6.heap.size,0,none⟩) 1 1));have a7:Ov w W7:=by rw [t];exact f.below.setCell (by show w.heap.size<=w.heap.size+1;omega) _
   have H:W7.cell? ⟨w.heap.size+1,12,none⟩=some (O none 0 0):=by
    rw [t,World.cell?_setCell_other _ _ _ _ (by simp)];exact f.row 12 _ rfl
   have ab:W7.frozen? ⟨w.heap.size+1,12,none⟩=false:=by
    rw [t];have e1:((W6.alloc (ze #[O T S R,O N M L] 50)).setCell ⟨w.heap.size+1,11,none⟩ (O (some ⟨W6.heap.size,0,none⟩) 1 1)).frozen? ⟨w.heap.size+1,12,none⟩=(W6.alloc (ze #[O T S R,O N M L] 50)).frozen? ⟨w.heap.size+1,12,none⟩:=by simp [go_sem]
    rw [e1];exact f.fz 12
   have aa:w.heap.size+1 < W7.heap.size:=bL H;have bx:=Aa (b6.o W7 a7);have b5:=Aa ad;have b9:=Aa ae;have bi:=Aa H;have bh:=Aa ab;have bf:=Aa aa;have a3:=t;have b0:=Aa t;clear ad ae G F a6 ac f a4 a7 H ab aa a3 q0 q1 q2 q3 q4 q5 q6 q7 q8 q9 aq bp bo;go_wp2_with fail;rw [<-t];clear t bv bu t0 t1 t2 t3 t4 t5 t6 t7 ay ax;refine (bx.o).mono ?_;rintro e W8 ⟨st,fv,B,hQ,rfl,hB,d,V⟩;obtain ⟨bb,a9,a8,rfl⟩:=AE d;have dt:=Ab V _ _ bi.o;have dp:W8.frozen? ⟨w.heap.size+1,12,none⟩=false:=((An V).2 _ _ bf.o).trans bh.o;have C:Hx (∀ Y:Nat->Prop,(∀ k,Y k->w00.heap.size<=k/\k < w.heap.size)->_):=fun Y hY=>WtI.made (c:=⟨n,ga,gn,gc,sa,sn,sc,ya,yn,yc,oa,on,oc,va,vn,vc,fa,fn,fc,ba,bn,bc,la,ln,lc,none,0,0⟩) (fv:=O bb a9 a8) (fl:=fl st) (Y:=Y) (W9:=W8.setCell ⟨w.heap.size+1,12,none⟩ (O bb a9 a8)) rfl n1 bg.o ⟨rfl,rfl,rfl⟩ h00 hY b9.o b5.o (EU _) b0.o V hB d rfl;have HQ:=Aa hQ;clear hQ hB d V;go_wp2_with fail;go_ret;exact ⟨st,_,_,la,ln,lc,HQ.o,rfl,(C.o (fun _=>False) (fun k hk=>hk.elim)).2,fun Y hY=>(C.o Y hY).1⟩
theorem Tryz.infoBk:(Tryz.prog.info? 4).map (fun i=>(i.zero,i.size,i.bytes))=some (some (zg false),1,1):=by kernel_rfl
theorem PG (n:Nat) (n1:1<=n) (n6:n<=6) (v:Value) (l:List Bool) (w:World) (h:AJ w v l) (hl:l.length=n) :
  Calls Tryz.prog 123 #[v] w fun e w'=>∃ vj,e=zj vj/\w'.ownsRow w.heap.size 4 1 vj n (l.map Value.bool)/\Ov w w':=by
 obtain ⟨V,I,rfl,B⟩:=h;obtain ⟨b,s,rfl,q⟩:=B (by rintro rfl;simp at hl;omega);have j:Ov w (w.alloc (ze #[] 4)):=bA w _;obtain ⟨T,M,z,x,t⟩:=info_parts Tryz.infoBk;have k:(w.alloc (ze #[] 4)).ownsRow w.heap.size 4 1 (O (some ⟨w.heap.size,0,none⟩) 0 0) 0 []:=World.ownsRow_made w #[] 0 (Nat.le_refl _) (by unfold maxLen;omega) (by simp);have f:∀ jj u,(l.map Value.bool)[jj]? = some u->(w.alloc (ze #[] 4)).cell? ((⟨b,s,none⟩:Addr).add jj)=some u:=fun jj u r=>by
  have L:jj < l.length:=by have:=(List.getElem?_eq_some_iff.1 r).1;simpa using this
  rw [Addr.add_lit];rw [List.getElem?_map,List.getElem?_eq_getElem L] at r;simp at r;subst r;exact Ab j _ _ (q jj L)
 have m:∀ u∈l.map Value.bool,u.oneCell'=true:=by intro u r;obtain ⟨y,-,rfl⟩:=List.mem_map.1 r;rfl
 have C:=j.size;have F:=Aa j;have H:l.length<=6:=by omega
 obtain ⟨G,i⟩:=nm l.length;have A:(l.map Value.bool).length=G*1:=by simp [i]
 rw [<-i];have J:Hx (G=n):=by rw [i];exact hl
 rw [<-i] at H;clear B q j hl i;have S:∀ (w:World) (a:Option Addr) (n c n' c':Nat),(binOp .eql 48 (O a n c) (O none n' c')).run Tryz.prog w=.ok (zg a.isNone) w:=fun w a n c n' c'=>Lib.run_eql_slice_nil w _ _ a n c n' c' Tryz.underlying48;go_enter Tryz.func123,Tryz.ntmps123;go_wp2_with (at_builtin;refine wpList_append_own _ rfl _ _ 48 rfl w.heap.size 4 T (zg false) 1 1 Tryz.underlying48 M z x t rfl (by decide) _ _ _ rfl k ⟨b,s,none⟩ G I (l.map Value.bool) rfl A f m (by unfold maxLen;omega) (by omega) C ?_);intro U N d p _;have D:Ov w N:=F.o.trans (Ek p (fun g e=>by simp [Value.ownBlock] at e;omega) F.o.size);rw [J.o] at d;have E:=Aa d;have K:=Aa D;obtain ⟨R,P,Q,rfl⟩:=AE d;clear k d p D M z x t f m A;go_wp2_with fail;go_ret;exact ⟨_,rfl,E.o,K.o⟩
structure GP (n B:Nat) (W:World) (u v:Value) (l:Lev):Prop where
 r:W.ownsRow B 4 1 u n (l.r.map Value.bool)
 w:W.ownsRow B 4 1 v n (l.w.map Value.bool)
 len:l.len n
theorem IQ {W:World} {B n:Nat} {v:Value} {l:List Bool} (h:W.ownsRow B 4 1 v n (l.map Value.bool)) (hl:l.length=n) (n1:1<=n):AJ W v l:=by
 rcases id h.2 with ⟨-,e⟩ | ⟨g,a,d,b,-⟩
 ·omega
 ·rw [b] at h
  refine ⟨some ⟨g,0,none⟩,a,by rw [b,hl],fun _=>⟨g,0,rfl,fun i c=>?_⟩⟩;rw [Nat.zero_add,h.cellAt i (by omega)];simp [c]
theorem GP.at_ {n B:Nat} {W:World} {u v:Value} {l:Lev} (h:GP n B W u v l) (n1:1<=n):A3 W (zh #[u,v]) l:=⟨u,v,rfl,IQ h.r h.len.1 n1,IQ h.w h.len.2 n1⟩
structure Fp (n:Nat) (w:World) (Ls:List Lev) (v:Value) (W:World):Prop where
 below:Ov w W
 row:∃ us:List Value,W.ownsRow w.heap.size 50 2 v Ls.length us/\∀ i (h:i < Ls.length),∃ x y,us[i*2]? = some x/\us[i*2+1]? = some y/\GP n w.heap.size W x y Ls[i]
section
variable {n:Nat} {w W W':World} {Ls:List Lev} {v:Value}
theorem Fp.row_lt (h:Fp n w Ls v W):∀ g,v.ownBlock=some g->w.heap.size<=g/\g < W.heap.size:=by
 obtain ⟨b,a,-⟩:=h.row;exact a.lt
theorem GP.over {B:Nat} {u v:Value} {l:Lev} (h:GP n B W u v l) (hb:Ov W W'):GP n B W' u v l:=⟨AD h.r (fun g e=>hb.block g (h.r.lt g e).2),AD h.w (fun g e=>hb.block g (h.w.lt g e).2),h.len⟩
theorem Fp.over (h:Fp n w Ls v W) (hb:Ov W W'):Fp n w Ls v W':=by
 refine ⟨h.below.trans (hb.mono h.below.size),?_⟩;obtain ⟨c,b,a⟩:=h.row;refine ⟨c,AD b (fun g e=>hb.block g (b.lt g e).2),fun i f=>?_⟩;obtain ⟨x,y,k,j,d⟩:=a i f;exact ⟨x,y,k,j,d.over hb⟩
theorem Pb {B e s k:Nat} {xs:List Value} (h:W.ownsRow B e s v k xs):∀ g,v.ownBlock=some g->∃ cur fr,W.heap[g]? = some (.cells cur e fr):=by
 intro g a;rcases h.2 with ⟨h,-⟩ | ⟨f,c,cur,h,d,b,-⟩
 ·rw [h] at a;cases a
 ·rw [h] at a
  simp [Value.ownBlock] at a;subst a;exact ⟨_,_,b⟩
theorem Fp.add {v' u q:Value} {us:List Value} {l:Lev} (h:Fp n w Ls v W) (hel:∀ i (h:i < Ls.length),∃ x y,us[i*2]? = some x/\us[i*2+1]? = some y/\GP n w.heap.size W x y Ls[i]) (hus:us.length=Ls.length*2) (hl:GP n w.heap.size W u q l) (ho:W'.ownsRow w.heap.size 50 2 v' (Ls.length+1) (us++[u,q])) (hg:W.grownBy W' v.ownBlock) (hat:v'.ownBlock=v.ownBlock\/v'.ownBlock=some W.heap.size):Fp n w (Ls++[l]) v' W':=by
 obtain ⟨p,f,-⟩:=h.row;have o:∀ {x y:Value} {z:Lev},GP n w.heap.size W x y z->GP n w.heap.size W' x y z:=by
  intro x y z c;have a:∀ {x:Value} {xs:List Value},W.ownsRow w.heap.size 4 1 x n xs->W'.ownsRow w.heap.size 4 1 x n xs:=fun {x xs} d=>AD d (fun g e=>hg.block g (d.lt g e).2 (fun q=>by
   obtain ⟨E,C,m⟩:=Pb d g e;obtain ⟨D,B,b⟩:=Pb f g q.symm;rw [m] at b;injection b with b;injection b with G A F;exact absurd A (by decide)))
  exact ⟨a c.r,a c.w,c.len⟩
 refine ⟨h.below.trans (Ek hg (fun g e=>(h.row_lt g e).1) h.below.size),us++[u,q],by rw [List.length_append];exact ho,fun i s=>?_⟩;rw [List.length_append,List.length_singleton] at s;by_cases hii:i < Ls.length
 ·obtain ⟨x,y,t,m,j⟩:=hel i hii
  refine ⟨x,y,by rw [List.getElem?_append_left (by omega)];exact t,by rw [List.getElem?_append_left (by omega)];exact m,?_⟩;rw [List.getElem_append_left hii];exact o j
 ·have k:i=Ls.length:=by omega
  subst k;refine ⟨u,q,by rw [List.getElem?_append_right (by omega),hus,Nat.sub_self];rfl,by rw [List.getElem?_append_right (by omega),hus,show Ls.length*2+1 - Ls.length*2=1 by omega];rfl,?_⟩;rw [List.getElem_append_right (by omega)];simp;exact o hl
end
theorem Qi (x:WX) (w0:World) (n:Nat) (hxn:x.c.n=n) (n1:1<=n) (n6:n<=6) (s:WSt) (pv:Value) (w:World) (h:WtI x w0 s pv w) (h16:s.vs.length<=16) :
  Calls Tryz.prog 65 #[zi (some ⟨x.bw,0,none⟩)] w fun e w'=>∃ a k c,e=zj (O a k c)/\Fp n w s.vs (O a k c) w':=by
 obtain ⟨us,ho,-⟩:=id h.lev;have A:x.c.ln=s.vs.length:=by
  rcases ho.2 with ⟨e,e2⟩ | ⟨g',ca,b9,e,-⟩
  ·unfold WX.lv at e;injection e with e1 e3 e4;rw [e3,e2]
  ·unfold WX.lv at e;injection e
 have e9:CE w x.bw 9 (O x.c.la x.c.ln x.c.lc):=h.cw (j:=8) rfl;have HI:=Aa h;have ak:=Aa A;obtain ⟨ln,z⟩:=nm x.c.ln;rw [<-z] at e9 ak;have br:ln<=16:=by omega
 have ce:=Aa z;clear h ho A z;go_enter Tryz.func65,Tryz.ntmps65;go_wp2_with fail;go_loopw [13,3] (fun i o wr=>∃ m:Nat,m<=ln/\i=zd U m/\∃ o1 o2 o3,o=O o1 o2 o3/\Fp n w (s.vs.take m) (O o1 o2 o3) wr) (fun i _ _=>ln - (intOf i).toNat)
 case atStart=>exact ⟨0,Nat.zero_le _,rfl,none,0,0,rfl,⟨Below.refl _ _,[],World.ownsRow_nil ..,fun i h=>absurd h (by simp)⟩⟩
 case round=>
  obtain ⟨m,hm,rfl,o1,o2,o3,rfl,hO⟩:=hrel;have HO:=Aa hO;by_cases hlt:m < ln
  ·have aq:m < s.vs.length:=by rw [<-ak.o];exact hlt
   obtain ⟨bl,bo,H,G,F,E,D,C,af,k0,k1,N⟩:=HI.o.lev.cells aq;have ar:x.c.la=some ⟨bl,0,none⟩:=by unfold WX.lv at af;injection af
   have R:=hO.below;obtain ⟨lz,y⟩:=nm (s.vs[m]);rw [<-y] at N;have a8:=Aa y;have aj:Hx (lz.len n):=by rw [<-hxn];exact N.len
   have a9:Hx (AJ wr (O H G F) lz.r/\AJ wr (O E D C) lz.w):=by
    obtain ⟨u,v,e,b1,b2⟩:=N.at_;simp at e;obtain ⟨rfl,rfl⟩:=e;exact ⟨AF b1 R,AF b2 R⟩
   obtain ⟨k0,k1⟩:=co2 R k0 k1;have HS:Hx (∀ W2,Ov wr W2->CE W2 bl (m*2) (O H G F)/\CE W2 bl (m*2+1) (O E D C)):=fun W2 b=>⟨Ab b _ _ k0,Ab b _ _ k1⟩;have bg:(m:Int) < (ln:Int):=by omega
   rw [ar];clear y N R hO af ar e9;have Q:Ov wr (wr.alloc (ze #[O H G F,O E D C] 50)):=bA _ _;have L:Ad [O H G F,O E D C] (wr.alloc (ze #[O H G F,O E D C] 50)) wr.heap.size:=Ad.new _ _ _;obtain ⟨V5,ah⟩:=nm ((wr.alloc (ze #[O H G F,O E D C] 50)));rw [<-ah] at Q L;have J:=Aa Q;have ai:Hx (∀ W2,Ov V5 W2->CE W2 wr.heap.size 0 (O H G F)/\CE W2 wr.heap.size 1 (O E D C)):=fun W2 b=>⟨(L.over b) 0 _ rfl,(L.over b) 1 _ rfl⟩;have V:Hx (Ov V5 V5.drew):=(bD _);have ay:Hx (w.heap.size<=V5.heap.size):=Nat.le_trans HO.o.below.size Q.size;have bk:Hx (∀ W2,Ov V5 W2->Calls Tryz.prog 123 #[O H G F] W2 fun e W'=>∃ vj,e=zj vj/\W'.ownsRow W2.heap.size 4 1 vj n (lz.r.map Value.bool)/\Ov W2 W'):=fun W2 b=>PG n n1 n6 _ lz.r W2 (AF a9.o.1 (Ac J.o b)) aj.o.1;have bj:Hx (∀ W2,Ov V5 W2->Calls Tryz.prog 123 #[O E D C] W2 fun e W'=>∃ vj,e=zj vj/\W'.ownsRow W2.heap.size 4 1 vj n (lz.w.map Value.bool)/\Ov W2 W'):=fun W2 b=>PG n n1 n6 _ lz.w W2 (AF a9.o.2 (Ac J.o b)) aj.o.2;clear Q L HS;go_wp2_with fail;rw [<-ah];clear ah;refine gS (fun Wz=>CE Wz wr.heap.size 0 (O H G F)/\CE Wz wr.heap.size 1 (O E D C)) (ai.o _ V.o) fun d=>?_;refine kT 0 ?_;refine kT 1 ?_;refine kT 2 ?_;refine kT 4 ?_;refine kT 5 ?_;refine rdA 3 rfl fun K B=>?_;go_simp;refine (bk.o _ V.o).mono ?_;rintro e W7 ⟨vj,rfl,f,au⟩;obtain ⟨n1,Z,Y,rfl⟩:=AE f;have T:=Aa (Ac V.o au);have az:=Aa f;clear f au;go_simp;refine xK B (ai.o _ T.o) fun d=>?_;clear B K;refine rdA 6 rfl fun K B=>?_;go_simp;refine (bj.o _ T.o).mono ?_;rintro e W8 ⟨vj,rfl,M,ag⟩;obtain ⟨X,W,n6,rfl⟩:=AE M;have bb:=Aa (Ac T.o ag);have f:=AD az.o (fun g e=>ag.block g (az.o.lt g e).2);have ac:=Ac J.o bb.o;have aw:=HO.o.over ac;have q:Ov W8 (W8.alloc (ze #[O n1 Z Y,O X W n6] 50)):=bA _ _;have S:=aw.over q;have hN:=Ad.new [O n1 Z Y,O X W n6] 50 W8;obtain ⟨i0,hi,ao,an,am⟩:=info_parts Tryz.infoLk;obtain ⟨us,t,as⟩:=S.row;obtain ⟨v2,w2,ap,l,p,-,av⟩:=run_append_own_at (P:=Tryz.prog) (w:=W8.alloc (ze #[O n1 Z Y,O X W n6] 50)) w.heap.size 42 42 50 i0 (zh #[O none 0 0,O none 0 0]) 2 48 Tryz.underlying42 hi ao an am rfl (by decide) _ _ _ t ⟨W8.heap.size,0,none⟩ 1 1 [O n1 Z Y,O X W n6] rfl (fun jj u hu=>by rw [Addr.add_lit,Nat.zero_add];exact hN jj u hu) (by simp [Value.oneCell']) (by rw [List.length_take];unfold maxLen;omega) (by rw [List.length_take];omega) S.below.size;obtain ⟨b0,bx,bz,rfl⟩:=AE l;have A:GP n w.heap.size (W8.alloc (ze #[O n1 Z Y,O X W n6] 50)) (O n1 Z Y) (O X W n6) lz:=⟨DA (AD f (fun g e=>q.block g (f.lt g e).2)) (Nat.le_trans ay.o V.o.size),DA (AD M (fun g e=>q.block g (M.lt g e).2)) (Nat.le_trans ay.o T.o.size),aj.o⟩;have ab:=S.add as t.1 A l p av;have ba:=Aa ab;have s7:=ai.o _ bb.o;have bm:=Aa s7;have I:Hx (CE (W8.alloc (ze #[O n1 Z Y,O X W n6] 50)) wr.heap.size 0 (O H G F)/\CE (W8.alloc (ze #[O n1 Z Y,O X W n6] 50)) wr.heap.size 1 (O E D C)):=⟨Ab q _ _ s7.1,Ab q _ _ s7.2⟩;have ae:(Value.slice o1 o2 o3).ownBlock≠some wr.heap.size:=fun e=>by have:=(HO.o.row_lt _ e).2;omega
   have a0:Hx (CE w2 wr.heap.size 0 (O H G F)/\CE w2 wr.heap.size 1 (O E D C)):=⟨(World.cell?_of_block (a:=⟨wr.heap.size,0,none⟩) (p.block _ (bL I.o.1) (fun e=>ae e.symm))).trans I.o.1,(World.cell?_of_block (a:=⟨wr.heap.size,1,none⟩) (p.block _ (bL I.o.2) (fun e=>ae e.symm))).trans I.o.2⟩;clear f M ag ac aw q S hN t as l p av A ab s7 ae hi ao an am;go_simp;refine xK B (bm.o) fun d=>?_;clear B K;refine kT 7 ?_;refine rdA 8 rfl fun K B=>?_;go_simp;refine xK B (I.o) fun d=>?_;clear B K;refine rdA 9 rfl fun K B=>?_;refine Db rfl _ _ _ rfl _ _ _ _ rfl rfl ap ?_;refine xK B (a0.o) fun d=>?_;clear B K;refine kT 10 ?_;refine gE ?_;go_wp2_with fail;exact ⟨⟨m+1,by omega,by go_num,_,_,_,rfl,by rw [List.take_succ_eq_append_getElem aq,<-a8.o];exact ba.o⟩,by simp [intOf];omega⟩
  ·have bh:m=ln:=by omega
   have hz:s.vs.take m=s.vs:=List.take_of_length_le (by have:=ak.o;omega);rw [hz] at HO;have bg:¬ (m:Int) < (ln:Int):=by omega
   clear hO bh hz;go_wp2_with fail;go_ret;exact ⟨o1,o2,o3,rfl,HO.o⟩
abbrev Tz (ev:Value) (b1 b2 vn yn:Nat) (r:RSt):Value:=zh #[ev,O (some ⟨b1,0,none⟩) vn vn,O (some ⟨b2,0,none⟩) yn yn,zd U (r.steps:Int),zd U r.en,zd U r.sp]
structure D8 (B:Nat) (vn yn F:Nat) (r:RSt) (ev:Value) (b1 b2:Nat) (w:World):Prop where
 own:w.ownsRow B 136 4 ev r.ev.length (Bi r.ev)
 vars:Ad (Cj r.vars) w b1
 taken:Ad (Cj r.taken) w b2
 num:Bh vn yn F r
theorem D8.over {B vn yn F:Nat} {r:RSt} {ev:Value} {b1 b2:Nat} {w w':World} (h:D8 B vn yn F r ev b1 b2 w) (hb:Ov w w'):D8 B vn yn F r ev b1 b2 w':=
 ⟨Bw h.own hb,h.vars.over hb,h.taken.over hb,h.num⟩
theorem D8.other {B vn yn F:Nat} {r:RSt} {ev:Value} {b1 b2:Nat} {w:World} (h:D8 B vn yn F r ev b1 b2 w) {b:Nat} (h1:b1≠b) (h2:b2≠b) (h3:ev.ownBlock≠some b) (j:Nat) (v:Value):D8 B vn yn F r ev b1 b2 (w.setCell ⟨b,j,none⟩ v):=
 ⟨h.own.kept Bg (Or.inr h3),h.vars.other h1,h.taken.other h2,h.num⟩
theorem Pz {σ:Type} {n K:Nat} {lev flev:σ->List Lev} {step:Int->D->Lev->σ->σ} {Pm:Int->σ->Prop} (h:JO Pm step) (kf:Nat):∀ (xs:List (Nat × FnD)) (q:Int × σ),Pm q.1 q.2->Pm (q.1+(A2 kf (xs.map Prod.snd):Nat)) (xs.foldl (goF n K lev step flev kf) q).2/\(xs.foldl (goF n K lev step flev kf) q).1=q.1+(A2 kf (xs.map Prod.snd):Nat)
 | [],q,hq=>⟨h.mono _ _ _ (by omega) hq,by simp [A2]⟩
 | x::xs,q,hq=>by
  have h1:=Pz (n:=n) (K:=K) (lev:=lev) (flev:=flev) h kf xs (goF n K lev step flev kf q x) (Hw h kf x.2.body q.1 _ q.2 hq);have he:(goF n K lev step flev kf q x).1+(A2 kf (xs.map Prod.snd):Nat)=q.1+(A2 kf ((x::xs).map Prod.snd):Nat):=by
   simp [A2,goF];omega
  rw [he] at h1;exact h1
theorem QC {σ:Type} {n K:Nat} {lev flev:σ->List Lev} {step:Int->D->Lev->σ->σ} {Pm:Int->σ->Prop} (h:JO Pm step) (kf:Nat) (fs main) (st:σ) (h0:Pm 0 st):Pm ((A2 kf fs:Nat)+(AI kf main:Nat)) (D6 n K lev step flev kf fs main st):=by
 have a:=Pz (n:=n) (K:=K) (lev:=lev) (flev:=flev) h kf ((List.range fs.length).zip fs) (0,st) h0;rw [List.map_snd_zip (by simp)] at a;have b:=Hw (n:=n) (K:=K) (lev:=lev) h kf main _ (A7 n) _ a.1;simp only [Int.zero_add] at b;unfold D6;dsimp only;rw [a.2];simpa using b
theorem Le (n K kf:Nat) (gs sp Ls Fs vs ls ms) (fs:List FnD) (l) (h:A2 kf fs+AI kf l<=50):(BH n K kf gs sp Ls Fs vs ls ms fs l).length<=1000:=by
 have a:=QC (n:=n) (K:=K) (lev:=fun _=>Ls) (flev:=fun _=>Fs) (O9 n K (Ax gs) sp Ls vs ls ms fs) kf fs l [] (by unfold pmJ;simp);unfold pmJ at a;unfold BH;omega
def Bz (n K kf F:Nat) (ins:List (List Int)) (gs:List (Int × Int)) (ls ms:List Lab) (vs:List (Bool × Lab)) (fs:List FnD) (l:List D) (fl:List (Int × Int)) (vn yn:Nat):RSt:=
 Jk K kf fs F ins (obW ⟨n,K,ls.map (Ar (Ax gs) n),ms.map (Ar (Ax gs) n),vs.map Prod.fst,vs.map (fun v=>Ar (Ax gs) n v.2),fs,fl⟩) l vn yn ⟨List.replicate vn (A7 n),[A7 n]⟩
theorem Pj {n B:Nat} {Ls:List Lev} {v:Value} {W:World} (n1:1<=n) (h:∃ us:List Value,W.ownsRow B 50 2 v Ls.length us/\∀ i (h:i < Ls.length),∃ x y,us[i*2]? = some x/\us[i*2+1]? = some y/\GP n B W x y Ls[i]):BW W v Ls:=by
 obtain ⟨us,b,c⟩:=h;rcases id b.2 with ⟨a,j⟩ | ⟨g,d,m,a,-⟩
 ·have:Ls=[]:=List.length_eq_zero_iff.1 j
  subst this;exact ⟨none,0,a,fun h=>absurd rfl h⟩
 ·rw [a] at b
  refine ⟨some ⟨g,0,none⟩,d,a,fun _=>⟨g,0,rfl,fun i f=>?_⟩⟩;obtain ⟨x,y,l,k,e⟩:=c i f;exact ⟨x,y,by rw [Nat.zero_add,b.cellAt _ (by omega)];exact l,by rw [Nat.zero_add,b.cellAt _ (by omega)];exact k,e.at_ n1⟩
theorem Fp.moved {n:Nat} {w W W':World} {Ls:List Lev} {v:Value} (h:Fp n w Ls v W) (n1:1<=n) (hk:∀ k,w.heap.size<=k->W'.heap[k]? = W.heap[k]?):BW W' v Ls:=by
 obtain ⟨d,c,b⟩:=h.row;refine Pj (B:=w.heap.size) n1 ⟨d,AD c (fun g e=>hk g (c.lt g e).1),fun i f=>?_⟩;obtain ⟨x,y,l,j,a⟩:=b i f;exact ⟨x,y,l,j,AD a.r (fun g e=>hk g (a.r.lt g e).1),AD a.w (fun g e=>hk g (a.w.lt g e).1),a.len⟩
theorem Fp.lens {n:Nat} {w W:World} {Ls:List Lev} {v:Value} (h:Fp n w Ls v W):∀ x∈Ls,x.len n:=by
 obtain ⟨g,j,c⟩:=h.row;intro x d;obtain ⟨i,f,rfl⟩:=List.getElem_of_mem d;obtain ⟨a,b,-,-,e⟩:=c i f;exact e.len
theorem Nh {W:World} {b k:Nat} {v0 v1 v2 v3 v4 v5:Value} (h:b≠k):((((((W.setCell ⟨b,0,none⟩ v0).setCell ⟨b,1,none⟩ v1).setCell ⟨b,2,none⟩ v2).setCell ⟨b,3,none⟩ v3).setCell ⟨b,4,none⟩ v4).setCell ⟨b,5,none⟩ v5).heap[k]? = W.heap[k]?:=by
 rw [Au h,Au h,Au h,Au h,Au h,Au h]
theorem PX {B vn yn F:Nat} {r:RSt} {ev:Value} {b1 b2 b:Nat} {W:World} (h:D8 B vn yn F r ev b1 b2 W) (h1:b1≠b) (h2:b2≠b) (h3:ev.ownBlock≠some b) (v0:Value) (v1:Value) (v2:Value) (v3:Value) (v4:Value) (v5:Value):D8 B vn yn F r ev b1 b2 ((((((W.setCell ⟨b,0,none⟩ v0).setCell ⟨b,1,none⟩ v1).setCell ⟨b,2,none⟩ v2).setCell ⟨b,3,none⟩ v3).setCell ⟨b,4,none⟩ v4).setCell ⟨b,5,none⟩ v5):=
 (((((h.other h1 h2 h3 0 v0).other h1 h2 h3 1 v1).other h1 h2 h3 2 v2).other h1 h2 h3 3 v3).other h1 h2 h3 4 v4).other h1 h2 h3 5 v5
theorem QK (K kf n:Nat) (ga gn gc sa sn sc ya yn yc oa on oc va vn vc fa fn fc ba bn bc xa xn xc) (ins) (F:Nat) (gs sp ls ms vs fs l) (WA w1 w2:World) (h:BD K kf (n:Int) ga gn gc sa sn sc ya yn yc oa on oc va vn vc fa fn fc ba bn bc gs sp ls ms vs fs l WA) (hx:A8 WA (O xa xn xc) ins) (hok:okR K kf (n:Int) vn yn on sn gs sp ls ms vs fs l ins (F:Int)) (br b1 b2 b3 c3:Nat) (hr:Ik WA.heap.size [zd U (n:Int),O ga gn gc,O sa sn sc,O ya yn yc,O oa on oc,O va vn vc,O fa fn fc,O ba bn bc,O xa xn xc,zd U (F:Int),O (some ⟨b3,0,none⟩) (fs.length+1) c3] br b1 b2 b3 (DZ kf fs fs.length) vn yn w1) (hB1:Ov WA w1) (hB2:Ov w1 w2) (la:Option Addr) (ln lc bw:Nat) (fv pv:Value) (fl:List (Int × Int)) (hfl:fl.length<=1000) (hI:∀ Y:Nat->Prop,(∀ k,Y k->WA.heap.size<=k/\k < w1.heap.size)->WtI ⟨⟨n,ga,gn,gc,sa,sn,sc,ya,yn,yc,oa,on,oc,va,vn,vc,fa,fn,fc,ba,bn,bc,la,ln,lc,none,0,0⟩,bw,zi (some ⟨br,0,none⟩),fv,fl,Y⟩ WA ⟨List.replicate vn (A7 n),[A7 n]⟩ pv w2) :
  Calls Tryz.prog 63 #[zi (some ⟨br,0,none⟩),.func (.func 64) #[zi (some ⟨bw,0,none⟩)] #[]] w2 fun e w'=>e=zj (zk #[])/\∃ (ev pv':Value) (Y:Nat->Prop),(w'.cell? ⟨br,0,none⟩=some ev/\w'.cell? ⟨br,1,none⟩=some (O (some ⟨b1,0,none⟩) vn vn)/\w'.cell? ⟨br,2,none⟩=some (O (some ⟨b2,0,none⟩) yn yn)/\w'.cell? ⟨br,3,none⟩=some (zd U ((Bz n K kf F ins gs ls ms vs fs l fl vn yn).steps:Int))/\w'.cell? ⟨br,4,none⟩=some (zd U (Bz n K kf F ins gs ls ms vs fs l fl vn yn).en)/\w'.cell? ⟨br,5,none⟩=some (zd U (Bz n K kf F ins gs ls ms vs fs l fl vn yn).sp))/\D8 WA.heap.size vn yn F (Bz n K kf F ins gs ls ms vs fs l fl vn yn) ev b1 b2 w'/\WtI ⟨⟨n,ga,gn,gc,sa,sn,sc,ya,yn,yc,oa,on,oc,va,vn,vc,fa,fn,fc,ba,bn,bc,la,ln,lc,none,0,0⟩,bw,zi (some ⟨br,0,none⟩),fv,fl,Y⟩ WA (Bz n K kf F ins gs ls ms vs fs l fl vn yn).o pv' w'/\(Bz n K kf F ins gs ls ms vs fs l fl vn yn).o.vs.length=vn/\Below WA.heap.size w2 w':=by
 have d:=hok.prog.ok;obtain ⟨p,Q,P,N,-⟩:=Dr d.chk;obtain rfl:p=n:=by omega
 obtain rfl:vn=vs.length:=by obtain ⟨-,a,c,t,-⟩:=h.vars;injection t
 obtain rfl:yn=ls.length:=by obtain ⟨-,a,c,t,-⟩:=h.ins;injection t
 obtain rfl:on=ms.length:=by obtain ⟨-,a,c,t,-⟩:=h.outs;injection t
 have A:fn=fs.length:=by obtain ⟨-,a,c,t,-⟩:=h.funcs;injection t
 obtain ⟨x,g⟩:∃ x:R,x=⟨⟨p,ga,gn,gc,sa,sn,sc,ya,ls.length,yc,oa,ms.length,oc,va,vs.length,vc,fa,fn,fc,ba,bn,bc,la,ln,lc,none,0,0⟩,bw,zi (some ⟨br,0,none⟩),fv,fl,G br b1 b2 (O none 0 0)⟩:=⟨_,rfl⟩;have S:WtS x WA K kf gs ls ms vs fs:=by
  subst g;exact ⟨P,N,h.grants,d.chk,h.vars,h.ins,h.outs,h.funcs,d.labs.2.1,fun b B=>d.labs.1 b (List.mem_append.2 (Or.inl B)),fun b B=>d.labs.1 b (List.mem_append.2 (Or.inr B)),d.vars,d.ins,d.outs,d.funcs,hfl,d.body⟩
 have L:PT (DS x WA S.n1 vs.length (Bc x K gs ls ms vs fs)) K kf (p:Int) ga gn gc sa sn sc ya ls.length yc oa ms.length oc va vs.length vc fa fn fc ba bn bc xa xn xc F (fs.length+1) c3 br b1 b2 b3 (DZ kf fs fs.length) fs ins WA:=
  ⟨h.funcs,hx,hok.many,hok.long,hok.num,by have:=hok.f1;omega,d.vars,A,d.funcs,rfl,rfl,by have:=d.many;omega,LJ x WA K kf gs ls ms vs fs S,d.body⟩
 have C:=hI (fun k=>WA.heap.size<=k/\k < w1.heap.size) (fun k s=>s);have j:=hr.lo;have m:=hr.hi;have i:=hI (G br b1 b2 (O none 0 0)) (fun k s=>by
  rcases s with e | e | e | e
  ·rw [e];exact ⟨j.1,m.1⟩
  ·rw [e];exact ⟨j.2.1,m.2.1⟩
  ·rw [e];exact ⟨j.2.2.1,m.2.2.1⟩
  ·simp [Value.ownBlock] at e)
 have y:(DS x WA S.n1 vs.length (Bc x K gs ls ms vs fs)).In (G br b1 b2 (O none 0 0)) ⟨List.replicate vs.length (A7 p),[A7 p]⟩ (fun k=>k=x.bw\/x.lv.ownBlock=some k\/pv.ownBlock=some k) w2:=by
  refine ⟨⟨pv,?_,fun k=>Iff.rfl⟩,by simp,by simp⟩;subst g;exact i
 have w:Ov WA w2:=hB1.trans (hB2.mono hB1.size);have H:=doR (DS x WA S.n1 vs.length (Bc x K gs ls ms vs fs)) K kf (p:Int) ga gn gc sa sn sc ya ls.length yc oa ms.length oc va vs.length vc fa fn fc ba bn bc xa xn xc F (fs.length+1) c3 br b1 b2 b3 (DZ kf fs fs.length) fs ins l ⟨List.replicate vs.length (A7 p),[A7 p]⟩ (fun k=>k=x.bw\/x.lv.ownBlock=some k\/pv.ownBlock=some k) WA w2 L h.main d.main d.many (hr.over hB2) w y (fun k s=>by
   subst g;rcases s with e | e | e
   ·rw [e];exact i.lo.1
   ·exact (i.lev.lt k e).1
   ·exact (i.pls.lt k e).1) (fun s=>by
   subst g;rcases s with e | e | e
   ·exact C.yb (by rw [<-e];exact ⟨j.2.2.2,m.2.2.2.1⟩)
   ·exact C.yL _ e ⟨j.2.2.2,m.2.2.2.1⟩
   ·exact C.yP _ e ⟨j.2.2.2,m.2.2.2.1⟩) (by show 0 < [A7 p].length;simp)
 have u:(DS x WA S.n1 vs.length (Bc x K gs ls ms vs fs)).fre.toArray=#[zi (some ⟨bw,0,none⟩)]:=by subst g;rfl
 have v:(DS x WA S.n1 vs.length (Bc x K gs ls ms vs fs)).cap.toArray=#[]:=rfl;rw [u,v] at H;refine H.mono fun e w' I=>?_;obtain ⟨rfl,ev,f,q,r⟩:=I;have M:Jk K kf fs F ins (DS x WA S.n1 vs.length (Bc x K gs ls ms vs fs)).ob l vs.length ls.length ⟨List.replicate vs.length (A7 p),[A7 p]⟩=Bz p K kf F ins gs ls ms vs fs l fl vs.length ls.length:=by subst g;rfl
 rw [M] at f r;obtain ⟨⟨pv',hW,J⟩,z,-⟩:=f.ob;have E:=f.row 1 _ rfl;have D:=f.row 2 _ rfl;rw [r.vl] at E;rw [r.tl] at D;refine ⟨rfl,ev.ev,pv',_,⟨f.row 0 _ rfl,E,D,f.row 3 _ rfl,f.row 4 _ rfl,f.row 5 _ rfl⟩,⟨f.own,f.vars,f.taken,r⟩,by subst g;exact hW,z,⟨q.os,q.tape,q.output,q.size,fun k s=>q.block k (by have:=w.size;omega) (by omega) (by omega) (by omega) (fun hx=>?_)⟩⟩;rcases hx with hx | hx
 ·simp [Value.ownBlock] at hx
 ·have:WA.heap.size<=k:=by
   subst g;rcases hx with e | e | e
   ·rw [e];exact i.lo.1
   ·exact (i.lev.lt k e).1
   ·exact (i.pls.lt k e).1
  omega
def N9 (K kf:Nat) (m:Int) (vn yn on sn:Nat) (gs:List (Int × Int)) (sp:List Int) (ls ms:List Lab) (vs:List (Bool × Lab)) (fs:List FnD) (l:List D) (ins:List (List Int)) (fuel:Int) (w:World) (e:Ending) (w':World):Prop:=
 ∃ why:Int,(why=0 ↔ okR K kf m vn yn on sn gs sp ls ms vs fs l ins fuel)/\Ov w w'/\((why≠0/\e=zj (zk #[zh #[O none 0 0,O none 0 0,O none 0 0,zd U 0,zd U 0,zd U 0],O none 0 0,zd U why])) \/
  (why=0/\∃ (n:Nat) (st:ISt) (ev:Value) (b1 b2:Nat) (va4:Option Addr) (vk4 vc4:Nat),m=n/\(B2 n K kf gs vs ls fs l st/\(∀ x∈st.vs,x.len n)/\(∀ x∈st.fs,x.len n)/\st.vs.length=vn/\st.fs.length=fs.length)/\e=zj (zk #[Tz ev b1 b2 vn yn (Bz n K kf fuel.toNat ins gs ls ms vs fs l (BH n K kf gs sp st.vs st.fs vs ls ms fs l) vn yn),O va4 vk4 vc4,zd U 0])/\D8 w.heap.size vn yn fuel.toNat (Bz n K kf fuel.toNat ins gs ls ms vs fs l (BH n K kf gs sp st.vs st.fs vs ls ms fs l) vn yn) ev b1 b2 w'/\BW w' (O va4 vk4 vc4) (Bz n K kf fuel.toNat ins gs ls ms vs fs l (BH n K kf gs sp st.vs st.fs vs ls ms fs l) vn yn).o.vs/\(∀ x∈(Bz n K kf fuel.toNat ins gs ls ms vs fs l (BH n K kf gs sp st.vs st.fs vs ls ms fs l) vn yn).o.vs,x.len n)/\(Bz n K kf fuel.toNat ins gs ls ms vs fs l (BH n K kf gs sp st.vs st.fs vs ls ms fs l) vn yn).o.vs.length=vn))
abbrev Oj (bw br:Nat) (ea:Option Addr) (el ec b1 vn b2 yn:Nat) (stp en tsp:Int) (Wz:World):Prop:=Wz.cell? ⟨bw,0,none⟩=some (zi (some ⟨br,0,none⟩))/\CE Wz br 0 (O ea el ec)/\CE Wz br 1 (O (some ⟨b1,0,none⟩) vn vn)/\CE Wz br 2 (O (some ⟨b2,0,none⟩) yn yn)/\CE Wz br 3 (zd U stp)/\CE Wz br 4 (zd U en)/\CE Wz br 5 (zd U tsp)
theorem Gh (K kf:Nat) (m:Int) (ga gn gc sa sn sc ya yn yc oa on oc va vn vc fa fn fc ba bn bc) (xa xn xc) (ins) (fuel:Int) (gs sp ls ms vs fs l) (w:World) (h:BD K kf m ga gn gc sa sn sc ya yn yc oa on oc va vn vc fa fn fc ba bn bc gs sp ls ms vs fs l w) (hx:A8 w (O xa xn xc) ins) :
  Calls Tryz.prog 17 #[zh #[zd U m,O ga gn gc,O sa sn sc,O ya yn yc,O oa on oc,O va vn vc,O fa fn fc,O ba bn bc],O xa xn xc,zd U fuel] w (N9 K kf m vn yn on sn gs sp ls ms vs fs l ins fuel w):=by
 have b:Ov w ((w.alloc (ze #[zd U m,O ga gn gc,O sa sn sc,O ya yn yc,O oa on oc,O va vn vc,O fa fn fc,O ba bn bc] 31)).alloc (ze #[O none 0 0,O none 0 0,O none 0 0,zd U 0,zd U 0,zd U 0] 55)):=(bA w _).alloc (by simp) _;have HP:=Aa (h.over b);have HX:=Aa (hx.over b);have K1:=Aa (QR K kf m ga gn gc sa sn sc ya yn yc oa on oc va vn vc fa fn fc ba bn bc xa xn xc ins fuel gs sp ls ms vs fs l _ HP.o HX.o);have al:Ad [zd U m,O ga gn gc,O sa sn sc,O ya yn yc,O oa on oc,O va vn vc,O fa fn fc,O ba bn bc] ((w.alloc (ze #[zd U m,O ga gn gc,O sa sn sc,O ya yn yc,O oa on oc,O va vn vc,O fa fn fc,O ba bn bc] 31)).alloc (ze #[O none 0 0,O none 0 0,O none 0 0,zd U 0,zd U 0,zd U 0] 55)) w.heap.size:=(Ad.new [zd U m,O ga gn gc,O sa sn sc,O ya yn yc,O oa on oc,O va vn vc,O fa fn fc,O ba bn bc] 31 w).over (bA _ _);obtain ⟨c0,c1,c2,c3,c4,c5,c6,c7⟩:=rc8 al;have au:=Aa al;have aa:Hx (Ad [O none 0 0,O none 0 0,O none 0 0,zd U 0,zd U 0,zd U 0] ((w.alloc (ze #[zd U m,O ga gn gc,O sa sn sc,O ya yn yc,O oa on oc,O va vn vc,O fa fn fc,O ba bn bc] 31)).alloc (ze #[O none 0 0,O none 0 0,O none 0 0,zd U 0,zd U 0,zd U 0] 55)) (w.heap.size+1)/\∀ j,((w.alloc (ze #[zd U m,O ga gn gc,O sa sn sc,O ya yn yc,O oa on oc,O va vn vc,O fa fn fc,O ba bn bc] 31)).alloc (ze #[O none 0 0,O none 0 0,O none 0 0,zd U 0,zd U 0,zd U 0] 55)).frozen? ⟨w.heap.size+1,j,none⟩=false):=by
  refine ⟨?_,fun j=>by simp [go_sem]⟩;have:=Ad.newA #[O none 0 0,O none 0 0,O none 0 0,zd U 0,zd U 0,zd U 0] 55 (w.alloc (ze #[zd U m,O ga gn gc,O sa sn sc,O ya yn yc,O oa on oc,O va vn vc,O fa fn fc,O ba bn bc] 31));simpa using this
 have A:((w.alloc (ze #[zd U m,O ga gn gc,O sa sn sc,O ya yn yc,O oa on oc,O va vn vc,O fa fn fc,O ba bn bc] 31)).alloc (ze #[O none 0 0,O none 0 0,O none 0 0,zd U 0,zd U 0,zd U 0] 55)).heap.size=w.heap.size+2:=by simp
 clear h hx al;go_enter Tryz.func17,Tryz.ntmps17;go_wp2_with fail;refine (K1.o).mono ?_;obtain ⟨WA,a9⟩:=nm (((w.alloc (ze #[zd U m,O ga gn gc,O sa sn sc,O ya yn yc,O oa on oc,O va vn vc,O fa fn fc,O ba bn bc] 31)).alloc (ze #[O none 0 0,O none 0 0,O none 0 0,zd U 0,zd U 0,zd U 0] 55)));rw [<-a9] at HP HX aa au b A ⊢;rintro e H ⟨r,q,y,a6⟩;have bi:=b.trans (y.mono b.size);have z:=Aa (And.intro (aa.o.1.over y) (fun j=>((An y).2 (w.heap.size+1) j (by rw [A];omega)).trans (aa.o.2 j)));have a7:w.heap.size+1 < H.heap.size:=by have:=y.size;omega
 have ax:=Aa q;have bx:=Aa bi;have g:=Aa y;have cz:=Aa A;have bt:=Aa b;have bl:=Aa (au.o.over y);clear K1 c0 c1 c2 c3 c4 c5 c6 c7 y q b a9 A bi aa au;rcases a6 with ⟨hw,rfl⟩ | ⟨rfl,f,J,I,b3,c3,rfl,a4⟩
 ·have eh:(r == 0)=false:=by simpa using hw
  have o0:=z.o.1 0 _ rfl;have y0:=z.o.2 0;have o1:=z.o.1 1 _ rfl;have y1:=z.o.2 1;have o2:=z.o.1 2 _ rfl;have y2:=z.o.2 2;have o3:=z.o.1 3 _ rfl;have y3:=z.o.2 3;have o4:=z.o.1 4 _ rfl;have y4:=z.o.2 4;have o5:=z.o.1 5 _ rfl;have y5:=z.o.2 5;go_wp2_with fail;have hF:=((((((z.o.1.set (j:=0) (v:=O none 0 0) (by simp)).set (j:=1) (v:=O none 0 0) (by simp)).set (j:=2) (v:=O none 0 0) (by simp)).set (j:=3) (v:=zd U 0) (by simp)).set (j:=4) (v:=zd U 0) (by simp)).set (j:=5) (v:=zd U 0) (by simp));obtain ⟨e0,e1,e2,e3,e4,e5⟩:=rc6 hF;have cs:Ov w ((((((H.setCell ⟨w.heap.size+1,0,none⟩ (O none 0 0)).setCell ⟨w.heap.size+1,1,none⟩ (O none 0 0)).setCell ⟨w.heap.size+1,2,none⟩ (O none 0 0)).setCell ⟨w.heap.size+1,3,none⟩ (zd U 0)).setCell ⟨w.heap.size+1,4,none⟩ (zd U 0)).setCell ⟨w.heap.size+1,5,none⟩ (zd U 0)):=((((((((((((bx.o).setCell (by simp) _)).setCell (by simp) _)).setCell (by simp) _)).setCell (by simp) _)).setCell (by simp) _)).setCell (by simp) _);refine bodyPost_ret (v:=zk #[zh #[O none 0 0,O none 0 0,O none 0 0,zd U 0,zd U 0,zd U 0],O none 0 0,zd U r]) ?_ rfl ⟨r,ax.o,cs,Or.inl ⟨hw,rfl⟩⟩;generalize ((((((H.setCell ⟨w.heap.size+1,0,none⟩ (O none 0 0)).setCell ⟨w.heap.size+1,1,none⟩ (O none 0 0)).setCell ⟨w.heap.size+1,2,none⟩ (O none 0 0)).setCell ⟨w.heap.size+1,3,none⟩ (zd U 0)).setCell ⟨w.heap.size+1,4,none⟩ (zd U 0)).setCell ⟨w.heap.size+1,5,none⟩ (zd U 0))=WF at e0 e1 e2 e3 e4 e5 ⊢;simp [results,Tryz.results17,go_sem,e0,e1,e2,e3,e4,e5]
 have q:=ax.o.1 rfl;have am:=q.prog.ok;obtain ⟨F,hF⟩:=Int.eq_ofNat_of_zero_le q.f0;subst hF;obtain ⟨n,rfl,n1,n6,-⟩:=Dr am.chk;have ay:=Aa (And.intro n1 n6);have R:BD K kf (n:Int) ga gn gc sa sn sc ya yn yc oa on oc va vn vc fa fn fc ba bn bc gs sp ls ms vs fs l H:=HP.o.over g.o;have a3:Ey.xP K kf (n:Int) vn yn on sn gs sp ls ms vs fs l->(sp.length:Int)<=n:=fun hp=>by
  have h1:=hp.lim.2.2.2.2;have h2:sn=sp.length:=by obtain ⟨a,c,he,-⟩:=HP.o.speak;injection he
  rw [h2] at h1;exact h1
 have KN:=Aa (Kf K kf n ga gn gc sa sn sc ya yn yc oa on oc va vn vc fa fn fc ba bn bc gs sp ls ms vs fs l f WA H R n1 n6 am.vars g.o (fun p=>BH n K kf gs sp p.vs p.fs vs ls ms fs l) (fun p=>B2 n K kf gs vs ls fs l p/\(∀ x∈p.vs,x.len n)/\(∀ x∈p.fs,x.len n)/\p.vs.length=vn/\p.fs.length=fs.length) (fun W hW=>by
  have cm:=QJ K kf (n:Int) ga gn gc sa sn sc ya yn yc oa on oc va vn vc fa fn fc ba bn bc gs sp ls ms vs fs l W (R.over hW) (fun r=>(r=0 ↔ Ey.xP K kf (n:Int) vn yn on sn gs sp ls ms vs fs l)) (fun N cp=>Ey.scopeCheck_any K kf (n:Int) ga gn gc sa sn sc ya yn yc oa on oc va vn vc fa fn fc ba bn bc gs sp ls ms vs fs l N (R.over (Ac hW cp))) (fun hp=>(hp.1 rfl).ok) (fun hp=>a3 (hp.1 rfl));refine cm.mono fun e w' hh=>?_;obtain ⟨r,a2,co,hh⟩:=hh;have ch:r=0:=a2.2 q.prog;rcases hh with ⟨cj,-⟩ | ⟨-,-,n',p,fv,B,ek,he,hi,h1,h2,h3,h4,ct,ho⟩
  ·exact absurd ch cj
  ·obtain rfl:n=n':=by omega
   exact ⟨p,fv,B,⟨hi,h1,h2,h3,h4⟩,he,ct,ho,co⟩))
 have av:=Aa a4;have aw:=Aa q;obtain ⟨p0,p1,p2,p3,p4,p5,p6,p7⟩:=rc8 bl.o;clear q am a4 R n1 n6 a3;go_wp2_with fail;refine (KN.o).mono ?_;rintro e w2 ⟨p,fv,pv,la,ln,lc,hq,rfl,ap,hI⟩;have S:=QK K kf n ga gn gc sa sn sc ya yn yc oa on oc va vn vc fa fn fc ba bn bc xa xn xc ins F gs sp ls ms vs fs l WA H w2 HP.o HX.o aw.o f J I b3 c3 av.o g.o ap la ln lc (H.heap.size+1) fv pv (BH n K kf gs sp p.vs p.fs vs ls ms fs l) (Le _ _ _ _ _ _ _ _ _ _ _ _ aw.o.prog.ok.many) hI;have g0:CE w2 (H.heap.size+1) 0 (zi (some ⟨f,0,none⟩)):=(hI (fun _=>False) (fun k hk=>hk.elim)).row 0 _ rfl;obtain ⟨Z,ao⟩:=nm (H.heap.size+1);rw [<-ao] at S g0 ⊢;obtain ⟨T,hT⟩:=nm (Bz n K kf F ins gs ls ms vs fs l (BH n K kf gs sp p.vs p.fs vs ls ms fs l) vn yn);rw [<-hT] at S;have bq:=Aa S;have HT:=Aa hT;have HQ:=Aa hq;have bv:=Aa ap;have bs:=Aa ao;have HV:=Aa aw.o.prog.ok.vars;clear KN hI hT hq ap S ao p0 p1 p2 p3 p4 p5 p6 p7;go_wp2_with fail;refine (bq.o).mono ?_;rintro e G ⟨rfl,ev,ce,Y3,⟨x0,x1,x2,x3,x4,x5⟩,d,aq,aj,a8⟩;have ae:Below WA.heap.size H w2:=bv.o.mono g.o.size;have C:Below WA.heap.size H G:=ae.trans a8;have bh:Ov w G:=bx.o.trans (C.mono bt.o.size);have bu:=Aa bh;have ci:=cz.o;have HF:Hx (D8 w.heap.size vn yn F T ev J I G):=⟨DA d.own bt.o.size,d.vars,d.taken,d.num⟩;obtain ⟨Y,V,X,rfl⟩:=AE d.own;have ck:=av.o.lo;have a7:=C.size;have P:Hx (J≠w.heap.size+1/\I≠w.heap.size+1/\(Value.slice Y V X).ownBlock≠some (w.heap.size+1)/\Z≠w.heap.size+1/\f≠w.heap.size+1):=⟨by omega,by omega,fun e=>by have:=(d.own.lt _ e).1;omega,by have:=bs.o;have:=g.o.size;omega,by omega⟩;have bp:Hx (w.heap.size+1 < G.heap.size):=by have:=g.o.size;unfold Hx;omega
 have bo:Hx (Ad [O none 0 0,O none 0 0,O none 0 0,zd U 0,zd U 0,zd U 0] G (w.heap.size+1)/\∀ j,G.frozen? ⟨w.heap.size+1,j,none⟩=false):=by
  have hk:G.heap[w.heap.size+1]? = H.heap[w.heap.size+1]?:=C.block _ (by omega);exact ⟨fun j u hu=>(World.cell?_of_block hk).trans (z.o.1 j u hu),fun j=>(World.frozen?_of_block hk).trans (z.o.2 j)⟩
 have x6:CE G Z 0 (zi (some ⟨f,0,none⟩)):=aq.row 0 _ rfl;have KL:Hx (∀ N,Ov G N->Calls Tryz.prog 65 #[zi (some ⟨Z,0,none⟩)] N fun e w'=>∃ a k c,e=zj (O a k c)/\Fp n N T.o.vs (O a k c) w'):=fun N Q=>Qi ⟨⟨n,ga,gn,gc,sa,sn,sc,ya,yn,yc,oa,on,oc,va,vn,vc,fa,fn,fc,ba,bn,bc,la,ln,lc,none,0,0⟩,Z,zi (some ⟨f,0,none⟩),fv,BH n K kf gs sp p.vs p.fs vs ls ms fs l,Y3⟩ WA n rfl ay.o.1 ay.o.2 T.o ce N (WtI.over aq Q) (by rw [aj];exact HV.o);obtain ⟨t,ak⟩:=nm ((T.steps:Int));obtain ⟨en,an⟩:=nm T.en;obtain ⟨s,L⟩:=nm T.sp;rw [<-ak] at x3;rw [<-an] at x4;rw [<-L] at x5;have c8:=Aa ak;have de:=Aa an;have cy:=Aa L;have HS:Hx (∀ N,Ov G N->Oj Z f Y V X J vn I yn t en s N):=fun N Q=>⟨Ab Q _ _ x6,Ab Q _ _ x0,Ab Q _ _ x1,Ab Q _ _ x2,Ab Q _ _ x3,Ab Q _ _ x4,Ab Q _ _ x5⟩;have ab:Hx (Ov G G.drew):=(bD _);have cx:=Aa aj;clear bq d aq aj a8 ae C bh ci ck a7 x0 x1 x2 x3 x4 x5 x6 ak an L HP HX g0 bl av bv;go_wp2_with fail;refine gS (Oj Z f Y V X J vn I yn t en s) (HS.o _ ab.o) fun M=>?_;refine kT 0 ?_;refine kT 1 ?_;refine kT 2 ?_;refine kT 3 ?_;refine kT 4 ?_;refine kT 5 ?_;refine kT 6 ?_;refine kT 7 ?_;refine rdA 8 rfl fun K hK=>?_;go_simp;refine (KL.o _ ab.o).mono ?_;rintro e W4 ⟨ai,ag,ah,rfl,ar⟩;have E:=Aa (Ac ab.o ar.below);have bm:=Aa ar;clear ar;go_simp;refine xK hK (HS.o _ E.o) fun M=>?_;clear hK K;refine rdA 9 rfl fun K hK=>?_;have r4:=bo.o.1.over E.o;have z4:∀ j,W4.frozen? ⟨w.heap.size+1,j,none⟩=false:=fun j=>((An E.o).2 _ _ bp.o).trans (bo.o.2 j);have o0:=r4 0 _ rfl;have y0:=z4 0;have o1:=r4 1 _ rfl;have y1:=z4 1;have o2:=r4 2 _ rfl;have y2:=z4 2;have o3:=r4 3 _ rfl;have y3:=z4 3;have o4:=r4 4 _ rfl;have y4:=z4 4;have o5:=r4 5 _ rfl;have y5:=z4 5;obtain ⟨W5,D⟩:=nm (((((((W4.setCell ⟨w.heap.size+1,0,none⟩ (O Y V X)).setCell ⟨w.heap.size+1,1,none⟩ (O (some ⟨J,0,none⟩) vn vn)).setCell ⟨w.heap.size+1,2,none⟩ (O (some ⟨I,0,none⟩) yn yn)).setCell ⟨w.heap.size+1,3,none⟩ (zd U t)).setCell ⟨w.heap.size+1,4,none⟩ (zd U en)).setCell ⟨w.heap.size+1,5,none⟩ (zd U s)));have bf:Ad [O Y V X,O (some ⟨J,0,none⟩) vn vn,O (some ⟨I,0,none⟩) yn yn,zd U t,zd U en,zd U s] W5 (w.heap.size+1):=by rw [D];exact ((((((r4.set (j:=0) (v:=O Y V X) (by simp)).set (j:=1) (v:=O (some ⟨J,0,none⟩) vn vn) (by simp)).set (j:=2) (v:=O (some ⟨I,0,none⟩) yn yn) (by simp)).set (j:=3) (v:=zd U t) (by simp)).set (j:=4) (v:=zd U en) (by simp)).set (j:=5) (v:=zd U s) (by simp))
 have bg:Ov w W5:=by rw [D];exact ((((((((((((bu.o.trans (E.o.mono bu.o.size)).setCell (by simp) _)).setCell (by simp) _)).setCell (by simp) _)).setCell (by simp) _)).setCell (by simp) _)).setCell (by simp) _)
 have i:∀ k,k≠w.heap.size+1->W5.heap[k]? = W4.heap[k]?:=fun k hk=>by rw [D];exact Nh hk.symm
 have d:D8 w.heap.size vn yn F T (O Y V X) J I W5:=by rw [D];exact PX (HF.o.over E.o) P.o.1 P.o.2.1 P.o.2.2.1 _ _ _ _ _ _
 have bd:BW W5 (O ai ag ah) T.o.vs:=bm.o.moved ay.o.1 (fun k h1=>i k (by have:=bp.o;have:=ab.o.size;omega));have s4:=HS.o _ E.o;have c9:Hx (Oj Z f Y V X J vn I yn t en s W5):=⟨(World.cell?_of_block (a:=⟨Z,0,none⟩) (i Z P.o.2.2.2.1)).trans s4.1,(World.cell?_of_block (a:=⟨f,0,none⟩) (i f P.o.2.2.2.2)).trans s4.2.1,(World.cell?_of_block (a:=⟨f,1,none⟩) (i f P.o.2.2.2.2)).trans s4.2.2.1,(World.cell?_of_block (a:=⟨f,2,none⟩) (i f P.o.2.2.2.2)).trans s4.2.2.2.1,(World.cell?_of_block (a:=⟨f,3,none⟩) (i f P.o.2.2.2.2)).trans s4.2.2.2.2.1,(World.cell?_of_block (a:=⟨f,4,none⟩) (i f P.o.2.2.2.2)).trans s4.2.2.2.2.2.1,(World.cell?_of_block (a:=⟨f,5,none⟩) (i f P.o.2.2.2.2)).trans s4.2.2.2.2.2.2⟩;have dd:=Aa bf;have df:=Aa bg;have db:=Aa d;have dc:=Aa bd;clear r4 z4 bf bg i d bd s4;go_simp;rw [<-D];clear D;refine xK hK (c9.o) fun M=>?_;clear hK K;refine kT 10 ?_;refine kT 11 ?_;refine gE ?_;clear o0 y0;clear o1 y1;clear o2 y2;clear o3 y3;clear o4 y4;clear o5 y5;go_wp2_with fail;obtain ⟨e0,e1,e2,e3,e4,e5⟩:=rc6 dd.o;refine bodyPost_ret (v:=zk #[zh #[O Y V X,O (some ⟨J,0,none⟩) vn vn,O (some ⟨I,0,none⟩) yn yn,zd U t,zd U en,zd U s],O ai ag ah,zd U 0]) ?_ rfl ?_;rotate_left
 ·have hT:=HT.o
  have h1:=c8.o;have h2:=de.o;have h3:=cy.o;subst h1 h2 h3;subst hT;exact ⟨0,by simpa using ax.o,df.o,Or.inr ⟨rfl,n,p,_,J,I,ai,ag,ah,rfl,HQ.o,rfl,db.o,dc.o,bm.o.lens,cx.o⟩⟩
 simp [results,Tryz.results17,go_sem,e0,e1,e2,e3,e4,e5]
theorem Fx {cs:List Value} {w w':World} {b:Nat} {a:Array Value} {t:Nat} (ha:a.toList=cs) (hb:b=w.heap.size) (hw:Ov (w.alloc (.cells a t)) w'):Ad cs w' b:=by
 subst hb;rw [<-ha];exact (Ad.newA a t w).over hw
theorem Sh (w:World):Calls Tryz.prog 38 #[] w fun e w'=>∃ bi bo bv bm,e=zj (Fc bi bo bv bm)/\Ii bi bo bv bm w'/\Ov w w'/\(w.heap.size < bi/\bi < bo/\bo < bv/\bv < bm/\bm < w'.heap.size)/\∀ j,w'.frozen? ⟨bi,j,none⟩=false:=by
 go_enter Tryz.func38,Tryz.ntmps38;go_wp2_with fail;have a:=fun (W:World) (o:Obj)=>bA W o;refine bodyPost_ret (v:=Fc (w.heap.size+1) (w.heap.size+1+1) (w.heap.size+1+1+1) (w.heap.size+1+1+1+1)) (by simp [results,Tryz.results38,go_sem]) rfl ⟨_,_,_,_,rfl,⟨?_,?_,?_,?_⟩,?_,?_,?_⟩
 ·exact Fx rfl (by simp) (Ac (Ac (a _ _) (a _ _)) (a _ _))
 ·exact Fx rfl (by simp) (Ac (a _ _) (a _ _))
 ·exact Fx rfl (by simp) (a _ _)
 ·exact Fx rfl (by simp) (Below.refl _ _)
 ·exact Ac (Ac (Ac (Ac (a _ _) (a _ _)) (a _ _)) (a _ _)) (a _ _)
 ·refine ⟨by omega,by omega,by omega,by omega,by simp⟩
 ·intro j
  simp [go_sem]
structure Bad (bi bo bv bm bp:Nat) (w:World):Prop where
 ins:Ad [O (some ⟨bp,0,none⟩) 1 1,O none 0 0] w bi
 pol:Ad [zd U 0,O none 0 0] w bp
 outs:Ad [O none 0 0,O none 0 0] w bo
 vars:Ad [zg false,O none 0 0,O none 0 0] w bv
 main:Ad EM w bm
abbrev Mt (bi bo bv bm:Nat):Value:=zh #[zd U 2,O none 0 0,O none 0 0,O (some ⟨bi,0,none⟩) 1 1,O (some ⟨bo,0,none⟩) 1 1,O (some ⟨bv,0,none⟩) 1 1,O none 0 0,O (some ⟨bm,0,none⟩) 2 2]
def Tq (w:World) (e:Ending) (w':World):Prop:=∃ bi bo bv bm bp,e=zj (Mt bi bo bv bm)/\Bad bi bo bv bm bp w'/\Ov w w'
theorem Ia (w:World):Calls Tryz.prog 39 #[] w (Tq w):=by
 have n:Ov w (w.alloc (ze #[zd U 0,O none 0 0,O none 0 0,O none 0 0,O none 0 0,O none 0 0,O none 0 0,O none 0 0] 31)):=bA w _;have m:=Ad.newA #[zd U 0,O none 0 0,O none 0 0,O none 0 0,O none 0 0,O none 0 0,O none 0 0,O none 0 0] 31 w;have J:∀ j,(w.alloc (ze #[zd U 0,O none 0 0,O none 0 0,O none 0 0,O none 0 0,O none 0 0,O none 0 0,O none 0 0] 31)).frozen? ⟨w.heap.size,j,none⟩=false:=fun j=>by simp [go_sem]
 have T:=Aa (Sh (w.alloc (ze #[zd U 0,O none 0 0,O none 0 0,O none 0 0,O none 0 0,O none 0 0,O none 0 0,O none 0 0] 31)));have V:=Aa n;have HR:=Aa m;have HZ:=Aa J;clear n m J;unfold Tq;go_enter Tryz.func39,Tryz.ntmps39;go_wp2_with fail;refine (T.o).mono ?_;rintro e b ⟨a,d,c,f,rfl,F,l,⟨s,z,y,x,u⟩,q⟩;have k:(w.alloc (ze #[zd U 0,O none 0 0,O none 0 0,O none 0 0,O none 0 0,O none 0 0,O none 0 0,O none 0 0] 31)).heap.size=w.heap.size+1:=by simp
 have r:=V.o.trans (l.mono V.o.size);have g:=HR.o.over l;have i:∀ j,b.frozen? ⟨w.heap.size,j,none⟩=false:=fun j=>((An l).2 _ _ (by rw [k];omega)).trans (HZ.o j);have n1:a≠b.heap.size:=by omega
 have n2:w.heap.size≠b.heap.size:=by omega
 have X:w.heap.size≠a:=by omega
 have n4:a≠b.heap.size+1:=by omega
 have n5:w.heap.size≠b.heap.size+1:=by omega
 have b1:a < b.heap.size:=by omega
 have b2:w.heap.size < b.heap.size:=by omega
 obtain ⟨c0,c1⟩:=rc2 F.ins;have z0:=q 0;have z1:=q 1;have r0:=g 0 _ rfl;have y0:=i 0;have r1:=g 1 _ rfl;have y1:=i 1;have r2:=g 2 _ rfl;have y2:=i 2;have r3:=g 3 _ rfl;have y3:=i 3;have r4:=g 4 _ rfl;have y4:=i 4;have r5:=g 5 _ rfl;have y5:=i 5;have r6:=g 6 _ rfl;have y6:=i 6;have r7:=g 7 _ rfl;have y7:=i 7;have t:=Aa F;have I:=Aa r;have H:=Aa g;have L0:=Aa s;have L1:=Aa z;have L2:=Aa y;have L3:=Aa x;have Z:=Aa u;clear F r g i q l T s z y x u k;unfold Fc;go_wp2_with fail;have h:=fun (W:World) (o:Obj)=>bA W o;have s:=L0.o;have z:=L1.o;have y:=L2.o;have x:=L3.o;have u:=Z.o;simp at s;have k:(((((((((b.setCell ⟨a,0,none⟩ (O (some ⟨b.heap.size+1,0,none⟩) 1 1)).setCell ⟨w.heap.size,0,none⟩ (zd U 2)).setCell ⟨w.heap.size,1,none⟩ (O none 0 0)).setCell ⟨w.heap.size,2,none⟩ (O none 0 0)).setCell ⟨w.heap.size,3,none⟩ (O (some ⟨a,0,none⟩) 1 1)).setCell ⟨w.heap.size,4,none⟩ (O (some ⟨d,0,none⟩) 1 1)).setCell ⟨w.heap.size,5,none⟩ (O (some ⟨c,0,none⟩) 1 1)).setCell ⟨w.heap.size,6,none⟩ (O none 0 0)).setCell ⟨w.heap.size,7,none⟩ (O (some ⟨f,0,none⟩) 2 2)).heap.size=b.heap.size:=by simp [World.setCell]
 have Y:=(((((((((((H.o.other (b':=a) (j:=0) (v:=O (some ⟨b.heap.size+1,0,none⟩) 1 1) X).set (j:=0) (v:=zd U 2) (by simp)).set (j:=1) (v:=O none 0 0) (by simp)).set (j:=2) (v:=O none 0 0) (by simp)).set (j:=3) (v:=O (some ⟨a,0,none⟩) 1 1) (by simp)).set (j:=4) (v:=O (some ⟨d,0,none⟩) 1 1) (by simp)).set (j:=5) (v:=O (some ⟨c,0,none⟩) 1 1) (by simp)).set (j:=6) (v:=O none 0 0) (by simp)).set (j:=7) (v:=O (some ⟨f,0,none⟩) 2 2) (by simp)).over (h _ (ze #[zd U 2,O none 0 0,O none 0 0,O (some ⟨a,0,none⟩) 1 1,O (some ⟨d,0,none⟩) 1 1,O (some ⟨c,0,none⟩) 1 1,O none 0 0,O (some ⟨f,0,none⟩) 2 2] 31))).over (h _ (ze #[zd U 0,O none 0 0] 87)));have E:=(((((((((((t.o.ins.set (j:=0) (v:=O (some ⟨b.heap.size+1,0,none⟩) 1 1) (by simp)).other (b':=w.heap.size) (j:=0) (v:=zd U 2) (by omega)).other (b':=w.heap.size) (j:=1) (v:=O none 0 0) (by omega)).other (b':=w.heap.size) (j:=2) (v:=O none 0 0) (by omega)).other (b':=w.heap.size) (j:=3) (v:=O (some ⟨a,0,none⟩) 1 1) (by omega)).other (b':=w.heap.size) (j:=4) (v:=O (some ⟨d,0,none⟩) 1 1) (by omega)).other (b':=w.heap.size) (j:=5) (v:=O (some ⟨c,0,none⟩) 1 1) (by omega)).other (b':=w.heap.size) (j:=6) (v:=O none 0 0) (by omega)).other (b':=w.heap.size) (j:=7) (v:=O (some ⟨f,0,none⟩) 2 2) (by omega)).over (h _ (ze #[zd U 2,O none 0 0,O none 0 0,O (some ⟨a,0,none⟩) 1 1,O (some ⟨d,0,none⟩) 1 1,O (some ⟨c,0,none⟩) 1 1,O none 0 0,O (some ⟨f,0,none⟩) 2 2] 31))).over (h _ (ze #[zd U 0,O none 0 0] 87)));have B:Ad [zd U 0,O none 0 0] (((((((((((b.setCell ⟨a,0,none⟩ (O (some ⟨b.heap.size+1,0,none⟩) 1 1)).setCell ⟨w.heap.size,0,none⟩ (zd U 2)).setCell ⟨w.heap.size,1,none⟩ (O none 0 0)).setCell ⟨w.heap.size,2,none⟩ (O none 0 0)).setCell ⟨w.heap.size,3,none⟩ (O (some ⟨a,0,none⟩) 1 1)).setCell ⟨w.heap.size,4,none⟩ (O (some ⟨d,0,none⟩) 1 1)).setCell ⟨w.heap.size,5,none⟩ (O (some ⟨c,0,none⟩) 1 1)).setCell ⟨w.heap.size,6,none⟩ (O none 0 0)).setCell ⟨w.heap.size,7,none⟩ (O (some ⟨f,0,none⟩) 2 2)).alloc (ze #[zd U 2,O none 0 0,O none 0 0,O (some ⟨a,0,none⟩) 1 1,O (some ⟨d,0,none⟩) 1 1,O (some ⟨c,0,none⟩) 1 1,O none 0 0,O (some ⟨f,0,none⟩) 2 2] 31)).alloc (ze #[zd U 0,O none 0 0] 87)) (b.heap.size+1):=by
  have:=Ad.newA #[zd U 0,O none 0 0] 87 ((((((((((b.setCell ⟨a,0,none⟩ (O (some ⟨b.heap.size+1,0,none⟩) 1 1)).setCell ⟨w.heap.size,0,none⟩ (zd U 2)).setCell ⟨w.heap.size,1,none⟩ (O none 0 0)).setCell ⟨w.heap.size,2,none⟩ (O none 0 0)).setCell ⟨w.heap.size,3,none⟩ (O (some ⟨a,0,none⟩) 1 1)).setCell ⟨w.heap.size,4,none⟩ (O (some ⟨d,0,none⟩) 1 1)).setCell ⟨w.heap.size,5,none⟩ (O (some ⟨c,0,none⟩) 1 1)).setCell ⟨w.heap.size,6,none⟩ (O none 0 0)).setCell ⟨w.heap.size,7,none⟩ (O (some ⟨f,0,none⟩) 2 2)).alloc (ze #[zd U 2,O none 0 0,O none 0 0,O (some ⟨a,0,none⟩) 1 1,O (some ⟨d,0,none⟩) 1 1,O (some ⟨c,0,none⟩) 1 1,O none 0 0,O (some ⟨f,0,none⟩) 2 2] 31));simpa [World.setCell] using this
 have C:=(((((((((((t.o.outs.other (b':=a) (j:=0) (v:=O (some ⟨b.heap.size+1,0,none⟩) 1 1) (by omega)).other (b':=w.heap.size) (j:=0) (v:=zd U 2) (by omega)).other (b':=w.heap.size) (j:=1) (v:=O none 0 0) (by omega)).other (b':=w.heap.size) (j:=2) (v:=O none 0 0) (by omega)).other (b':=w.heap.size) (j:=3) (v:=O (some ⟨a,0,none⟩) 1 1) (by omega)).other (b':=w.heap.size) (j:=4) (v:=O (some ⟨d,0,none⟩) 1 1) (by omega)).other (b':=w.heap.size) (j:=5) (v:=O (some ⟨c,0,none⟩) 1 1) (by omega)).other (b':=w.heap.size) (j:=6) (v:=O none 0 0) (by omega)).other (b':=w.heap.size) (j:=7) (v:=O (some ⟨f,0,none⟩) 2 2) (by omega)).over (h _ (ze #[zd U 2,O none 0 0,O none 0 0,O (some ⟨a,0,none⟩) 1 1,O (some ⟨d,0,none⟩) 1 1,O (some ⟨c,0,none⟩) 1 1,O none 0 0,O (some ⟨f,0,none⟩) 2 2] 31))).over (h _ (ze #[zd U 0,O none 0 0] 87)));have A:=(((((((((((t.o.vars.other (b':=a) (j:=0) (v:=O (some ⟨b.heap.size+1,0,none⟩) 1 1) (by omega)).other (b':=w.heap.size) (j:=0) (v:=zd U 2) (by omega)).other (b':=w.heap.size) (j:=1) (v:=O none 0 0) (by omega)).other (b':=w.heap.size) (j:=2) (v:=O none 0 0) (by omega)).other (b':=w.heap.size) (j:=3) (v:=O (some ⟨a,0,none⟩) 1 1) (by omega)).other (b':=w.heap.size) (j:=4) (v:=O (some ⟨d,0,none⟩) 1 1) (by omega)).other (b':=w.heap.size) (j:=5) (v:=O (some ⟨c,0,none⟩) 1 1) (by omega)).other (b':=w.heap.size) (j:=6) (v:=O none 0 0) (by omega)).other (b':=w.heap.size) (j:=7) (v:=O (some ⟨f,0,none⟩) 2 2) (by omega)).over (h _ (ze #[zd U 2,O none 0 0,O none 0 0,O (some ⟨a,0,none⟩) 1 1,O (some ⟨d,0,none⟩) 1 1,O (some ⟨c,0,none⟩) 1 1,O none 0 0,O (some ⟨f,0,none⟩) 2 2] 31))).over (h _ (ze #[zd U 0,O none 0 0] 87)));have D:=(((((((((((t.o.main.other (b':=a) (j:=0) (v:=O (some ⟨b.heap.size+1,0,none⟩) 1 1) (by omega)).other (b':=w.heap.size) (j:=0) (v:=zd U 2) (by omega)).other (b':=w.heap.size) (j:=1) (v:=O none 0 0) (by omega)).other (b':=w.heap.size) (j:=2) (v:=O none 0 0) (by omega)).other (b':=w.heap.size) (j:=3) (v:=O (some ⟨a,0,none⟩) 1 1) (by omega)).other (b':=w.heap.size) (j:=4) (v:=O (some ⟨d,0,none⟩) 1 1) (by omega)).other (b':=w.heap.size) (j:=5) (v:=O (some ⟨c,0,none⟩) 1 1) (by omega)).other (b':=w.heap.size) (j:=6) (v:=O none 0 0) (by omega)).other (b':=w.heap.size) (j:=7) (v:=O (some ⟨f,0,none⟩) 2 2) (by omega)).over (h _ (ze #[zd U 2,O none 0 0,O none 0 0,O (some ⟨a,0,none⟩) 1 1,O (some ⟨d,0,none⟩) 1 1,O (some ⟨c,0,none⟩) 1 1,O none 0 0,O (some ⟨f,0,none⟩) 2 2] 31))).over (h _ (ze #[zd U 0,O none 0 0] 87)));obtain ⟨S,R,Q,P,N,M,L,K⟩:=rc8 Y;have G:Ov w (((((((((((b.setCell ⟨a,0,none⟩ (O (some ⟨b.heap.size+1,0,none⟩) 1 1)).setCell ⟨w.heap.size,0,none⟩ (zd U 2)).setCell ⟨w.heap.size,1,none⟩ (O none 0 0)).setCell ⟨w.heap.size,2,none⟩ (O none 0 0)).setCell ⟨w.heap.size,3,none⟩ (O (some ⟨a,0,none⟩) 1 1)).setCell ⟨w.heap.size,4,none⟩ (O (some ⟨d,0,none⟩) 1 1)).setCell ⟨w.heap.size,5,none⟩ (O (some ⟨c,0,none⟩) 1 1)).setCell ⟨w.heap.size,6,none⟩ (O none 0 0)).setCell ⟨w.heap.size,7,none⟩ (O (some ⟨f,0,none⟩) 2 2)).alloc (ze #[zd U 2,O none 0 0,O none 0 0,O (some ⟨a,0,none⟩) 1 1,O (some ⟨d,0,none⟩) 1 1,O (some ⟨c,0,none⟩) 1 1,O none 0 0,O (some ⟨f,0,none⟩) 2 2] 31)).alloc (ze #[zd U 0,O none 0 0] 87)):=(((((((((((I.o.setCell (p:=⟨a,0,none⟩) (by simp;omega) (O (some ⟨b.heap.size+1,0,none⟩) 1 1)).setCell (p:=⟨w.heap.size,0,none⟩) (by simp) (zd U 2)).setCell (p:=⟨w.heap.size,1,none⟩) (by simp) (O none 0 0)).setCell (p:=⟨w.heap.size,2,none⟩) (by simp) (O none 0 0)).setCell (p:=⟨w.heap.size,3,none⟩) (by simp) (O (some ⟨a,0,none⟩) 1 1)).setCell (p:=⟨w.heap.size,4,none⟩) (by simp) (O (some ⟨d,0,none⟩) 1 1)).setCell (p:=⟨w.heap.size,5,none⟩) (by simp) (O (some ⟨c,0,none⟩) 1 1)).setCell (p:=⟨w.heap.size,6,none⟩) (by simp) (O none 0 0)).setCell (p:=⟨w.heap.size,7,none⟩) (by simp) (O (some ⟨f,0,none⟩) 2 2)).alloc (by rw [k];omega) (ze #[zd U 2,O none 0 0,O none 0 0,O (some ⟨a,0,none⟩) 1 1,O (some ⟨d,0,none⟩) 1 1,O (some ⟨c,0,none⟩) 1 1,O none 0 0,O (some ⟨f,0,none⟩) 2 2] 31)).alloc (by simp [World.setCell];omega) (ze #[zd U 0,O none 0 0] 87));refine bodyPost_ret (v:=Mt a d c f) ?_ rfl ⟨a,d,c,f,b.heap.size+1,rfl,⟨E,B,C,A,D⟩,G⟩;generalize (((((((((((b.setCell ⟨a,0,none⟩ (O (some ⟨b.heap.size+1,0,none⟩) 1 1)).setCell ⟨w.heap.size,0,none⟩ (zd U 2)).setCell ⟨w.heap.size,1,none⟩ (O none 0 0)).setCell ⟨w.heap.size,2,none⟩ (O none 0 0)).setCell ⟨w.heap.size,3,none⟩ (O (some ⟨a,0,none⟩) 1 1)).setCell ⟨w.heap.size,4,none⟩ (O (some ⟨d,0,none⟩) 1 1)).setCell ⟨w.heap.size,5,none⟩ (O (some ⟨c,0,none⟩) 1 1)).setCell ⟨w.heap.size,6,none⟩ (O none 0 0)).setCell ⟨w.heap.size,7,none⟩ (O (some ⟨f,0,none⟩) 2 2)).alloc (ze #[zd U 2,O none 0 0,O none 0 0,O (some ⟨a,0,none⟩) 1 1,O (some ⟨d,0,none⟩) 1 1,O (some ⟨c,0,none⟩) 1 1,O none 0 0,O (some ⟨f,0,none⟩) 2 2] 31)).alloc (ze #[zd U 0,O none 0 0] 87))=WZ at S R Q P N M L K ⊢;simp [results,Tryz.results39,go_sem,S,R,Q,P,N,M,L,K]
def JK:Lab:=⟨[⟨0,[]⟩],[]⟩
theorem JJ {bi bo bv bm bp:Nat} {w:World} (h:Bad bi bo bv bm bp w):BD 1 1 2 none 0 0 none 0 0 (some ⟨bi,0,none⟩) 1 1 (some ⟨bo,0,none⟩) 1 1 (some ⟨bv,0,none⟩) 1 1 none 0 0 (some ⟨bm,0,none⟩) 2 2 [] [] [JK] [⟨[],[]⟩] [(false,⟨[],[]⟩)] [] [sm1,sm2] w:=by
 have a:=IJ (bi:=bo) (bo:=bo) (bv:=bv) (bm:=bm) (w:=w) ⟨h.outs,h.outs,h.vars,h.main⟩;refine ⟨BS 2 (by omega) (by omega),a.grants,a.speak,a.speakL,?_,a.outs,a.vars,a.funcs,a.main,fun h=>absurd h (by simp),fun h=>absurd h (by simp)⟩;refine ⟨by simp [maxLen],some ⟨bi,0,none⟩,1,rfl,fun _=>⟨bi,0,rfl,fun i c=>?_⟩⟩;have:i=0:=by simp at c;omega
 subst this;refine ⟨_,_,h.ins 0 _ rfl,h.ins 1 _ rfl,⟨_,_,rfl,fun _=>⟨bp,0,rfl,fun k b=>?_⟩⟩,Ee⟩;have:k=0:=by simp [JK] at b;omega
 subst this;exact ⟨h.pol 0 _ rfl,_,h.pol 1 _ rfl,⟨none,0,rfl,fun h=>absurd rfl h⟩⟩
theorem SL:Ey.xP 1 1 2 1 1 1 0 [] [] [JK] [⟨[],[]⟩] [(false,⟨[],[]⟩)] [] [sm1,sm2]:=by
 refine ⟨rfl,by simp,fun x d=>absurd d (by simp),⟨?_,?_,G7.labs.2.2⟩,G7.many,G7.body,G7.main⟩
 ·intro b c
  simp at c;rcases c with rfl | rfl
  ·rfl
  ·rfl
 ·intro v a
  simp at a;subst a;rfl
structure JM (bi bo bv bm bx by':Nat) (w:World):Prop where
 small:Ii bi bo bv bm w
 xs:w.cell? ⟨bx,0,none⟩=some (O (some ⟨by',0,none⟩) 1 1)
 ys:w.cell? ⟨by',0,none⟩=some (zd U 7)
theorem FV:okR 1 1 1 1 1 1 0 [] [] [⟨[],[]⟩] [⟨[],[]⟩] [(false,⟨[],[]⟩)] [] [sm1,sm2] [[7]] 9:=
 ⟨G7,rfl,fun x hx=>by simp at hx;subst hx;simp,fun x hx y hy=>by simp at hx;subst hx;simp at hy;subst hy;exact ⟨by omega,by omega⟩,by omega,by omega⟩
def SV (w:World) (e:Ending) (w':World):Prop:=∃ bi bo bv bm,e=zj (Fc bi bo bv bm)/\Ii bi bo bv bm w'/\Ov w w'
theorem Ad.at {cs:List Value} {w w':World} {b:Nat} {a:Array Value} {t:Nat} (ha:a.toList=cs) (hb:b=w.heap.size) (hw:Ov (w.alloc (.cells a t)) w'):Ad cs w' b:=by
 subst hb;rw [<-ha];exact (Ad.newA a t w).over hw
theorem Nd (w:World):Calls Tryz.prog 38 #[] w (SV w):=by
 go_enter Tryz.func38,Tryz.ntmps38;go_wp2_with fail;have a:=fun (W:World) (o:Obj)=>bA W o;refine bodyPost_ret (v:=Fc (w.heap.size+1) (w.heap.size+1+1) (w.heap.size+1+1+1) (w.heap.size+1+1+1+1)) (by simp [results,Tryz.results38,go_sem]) rfl ⟨_,_,_,_,rfl,⟨?_,?_,?_,?_⟩,?_⟩
 ·exact Ad.at rfl (by simp) (Ac (Ac (a _ _) (a _ _)) (a _ _))
 ·exact Ad.at rfl (by simp) (Ac (a _ _) (a _ _))
 ·exact Ad.at rfl (by simp) (a _ _)
 ·exact Ad.at rfl (by simp) (Below.refl _ _)
 ·exact Ac (Ac (Ac (Ac (a _ _) (a _ _)) (a _ _)) (a _ _)) (a _ _)
theorem JZ (fl):Bz 1 1 1 (9:Int).toNat [[7]] [] [⟨[],[]⟩] [⟨[],[]⟩] [(false,⟨[],[]⟩)] [] [sm1,sm2] fl 1 1=⟨[(1,1,0,7)],[7],[1],2,1,0,⟨[⟨[true],[true]⟩],[⟨[true],[false]⟩]⟩⟩:=by kernel_rfl
theorem NY (fl):Bz 2 1 1 (9:Int).toNat [[7]] [] [JK] [⟨[],[]⟩] [(false,⟨[],[]⟩)] [] [sm1,sm2] fl 1 1=⟨[],[7],[1],2,3,1,⟨[⟨[true,false],[true,true]⟩],[⟨[true,true],[false,false]⟩]⟩⟩:=by kernel_rfl
theorem Km {bx by':Nat} {w:World} (xs:w.cell? ⟨bx,0,none⟩=some (O (some ⟨by',0,none⟩) 1 1)) (ys:w.cell? ⟨by',0,none⟩=some (zd U 7)):A8 w (O (some ⟨bx,0,none⟩) 1 1) [[7]]:=by
 refine ⟨by simp [maxLen],some ⟨bx,0,none⟩,1,rfl,fun _=>⟨bx,0,rfl,fun i b=>?_⟩⟩;have:i=0:=by simp at b;omega
 subst this;refine ⟨_,xs,⟨some ⟨by',0,none⟩,1,rfl,fun _=>⟨by',0,rfl,fun j a=>?_⟩⟩,by simp⟩;have:j=0:=by simp at a;omega
 subst this;exact ys
theorem QN:okR 1 1 2 1 1 1 0 [] [] [JK] [⟨[],[]⟩] [(false,⟨[],[]⟩)] [] [sm1,sm2] [[7]] 9:=
 ⟨SL,rfl,FV.long,FV.num,by omega,by omega⟩
def TH (w:World) (e:Ending) (w':World):Prop:=
 ∃ g c b1 b2 lb lo lc rv wa wc,e=zj (zk #[zh #[O (some ⟨g,0,none⟩) 1 c,O (some ⟨b1,0,none⟩) 1 1,O (some ⟨b2,0,none⟩) 1 1,zd U 2,zd U 1,zd U 0],O (some ⟨lb,lo,none⟩) 1 lc,zd U 0])/\w'.cell? ⟨lb,lo,none⟩=some rv/\w'.cell? ⟨lb,lo+1,none⟩=some (O wa 1 wc)/\AJ w' (O wa 1 wc) [true]/\Ov w w'
theorem Lo (bi bo bv bm bx by':Nat) (w:World) (hS:JM bi bo bv bm bx by' w) :
  Calls Tryz.prog 17 #[Fc bi bo bv bm,O (some ⟨bx,0,none⟩) 1 1,zd U 9] w (TH w):=by
 refine (Gh 1 1 1 none 0 0 none 0 0 (some ⟨bi,0,none⟩) 1 1 (some ⟨bo,0,none⟩) 1 1 (some ⟨bv,0,none⟩) 1 1 none 0 0 (some ⟨bm,0,none⟩) 2 2 (some ⟨bx,0,none⟩) 1 1 [[7]] 9 [] [] [⟨[],[]⟩] [⟨[],[]⟩] [(false,⟨[],[]⟩)] [] [sm1,sm2] w (IJ hS.small) (Km hS.xs hS.ys)).mono ?_;rintro e I ⟨q,hw,A,⟨j,-⟩ | ⟨-,n,J,M,G,F,Q,K,N,L,-,rfl,m,o,-,-⟩⟩
 ·exact absurd (hw.2 FV) j
 ·obtain rfl:n=1:=by omega
  rw [JZ] at m o ⊢;have y:=m.own;rcases y.2 with ⟨-,h⟩ | ⟨g,l,E,rfl,-⟩
  ·exact absurd h (by simp)
  ·obtain ⟨P,d,x,a⟩:=o
   injection x with D C B;obtain ⟨v,u,k,a⟩:=a (by simp);obtain ⟨t,H,i,f,u1,u2,p,z,c⟩:=a 0 (by simp);simp at p;obtain ⟨rfl,rfl⟩:=p;have b:=c;obtain ⟨s,r,rfl,-⟩:=b;rw [D,C,B,k];exact ⟨g,l,G,F,v,u,d,t,s,r,rfl,i,f,c,A⟩
def TG (w:World) (e:Ending) (w':World):Prop:=
 ∃ g c b1 b2 la lk lc,e=zj (zk #[zh #[O g 0 c,O (some ⟨b1,0,none⟩) 1 1,O (some ⟨b2,0,none⟩) 1 1,zd U 2,zd U 3,zd U 1],O la lk lc,zd U 0])/\Ov w w'
theorem N8 (bi bo bv bm bp bx by':Nat) (w:World) (hS:Bad bi bo bv bm bp w) (xs:w.cell? ⟨bx,0,none⟩=some (O (some ⟨by',0,none⟩) 1 1)) (ys:w.cell? ⟨by',0,none⟩=some (zd U 7)) :
  Calls Tryz.prog 17 #[Mt bi bo bv bm,O (some ⟨bx,0,none⟩) 1 1,zd U 9] w (TG w):=by
 refine (Gh 1 1 2 none 0 0 none 0 0 (some ⟨bi,0,none⟩) 1 1 (some ⟨bo,0,none⟩) 1 1 (some ⟨bv,0,none⟩) 1 1 none 0 0 (some ⟨bm,0,none⟩) 2 2 (some ⟨bx,0,none⟩) 1 1 [[7]] 9 [] [] [JK] [⟨[],[]⟩] [(false,⟨[],[]⟩)] [] [sm1,sm2] w (JJ hS) (Km xs ys)).mono ?_;rintro e q ⟨m,hw,f,⟨a,-⟩ | ⟨-,n,r,u,k,j,l,c,i,s,-,rfl,d,t,-,-⟩⟩
 ·exact absurd (hw.2 QN) a
 ·obtain rfl:n=2:=by omega
  rw [NY] at d ⊢;have o:=d.own;rcases o.2 with ⟨rfl,h⟩ | ⟨g,b,p,rfl,-⟩
  ·exact ⟨none,0,k,j,l,c,i,rfl,f⟩
  ·exact ⟨some ⟨g,0,none⟩,b,k,j,l,c,i,rfl,f⟩
theorem Bad.over {bi bo bv bm bp:Nat} {w w':World} (h:Bad bi bo bv bm bp w) (hb:Ov w w'):Bad bi bo bv bm bp w':=⟨h.ins.over hb,h.pol.over hb,h.outs.over hb,h.vars.over hb,h.main.over hb⟩
theorem GW (w:World):Calls Tryz.prog 19 #[] w fun e w'=>e=zj (zg true)/\Ov w w':=by
 have K1:=Aa Nd;have K2:=Aa fun bi Y X Z bx P W (V:JM bi Y X Z bx P W)=>Lo bi Y X Z bx P W V;have K3:=Aa Ia;go_enter Tryz.func19,Tryz.ntmps19;go_wp2_with fail;refine (K1.o _).mono ?_;rintro e s ⟨bi,Y,X,Z,rfl,M,m⟩;have V:JM bi Y X Z (s.heap.size+1) s.heap.size ((s.alloc (ze #[zd U 7] 3)).alloc (ze #[O (some ⟨s.heap.size,0,none⟩) 1 1] 25)):=
  ⟨M.over ((bA s _).alloc (by simp) _),by simp [go_sem],by simp [go_sem]⟩
 have z:Ov w ((s.alloc (ze #[zd U 7] 3)).alloc (ze #[O (some ⟨s.heap.size,0,none⟩) 1 1] 25)):=(m.alloc m.size _).alloc (by have:=m.size;simp;omega) _;have A:=Aa (K2.o _ _ _ _ _ _ _ V);clear K1 K2 M m V;unfold Fc at A ⊢;go_wp2_with fail;refine (A.o).mono ?_;rintro e C ⟨g,c,b1,b2,lb,lo,lc,rv,wa,wc,rfl,G,E,J,L⟩;have y:=z.trans (L.mono z.size);have b:=bA C (ze #[O (some ⟨g,0,none⟩) 1 c,O (some ⟨b1,0,none⟩) 1 1,O (some ⟨b2,0,none⟩) 1 1,zd U 2,zd U 1,zd U 0] 55);have H:=Ad.newA #[O (some ⟨g,0,none⟩) 1 c,O (some ⟨b1,0,none⟩) 1 1,O (some ⟨b2,0,none⟩) 1 1,zd U 2,zd U 1,zd U 0] 55 C;have B:Hx (Ov w (C.alloc (ze #[O (some ⟨g,0,none⟩) 1 c,O (some ⟨b1,0,none⟩) 1 1,O (some ⟨b2,0,none⟩) 1 1,zd U 2,zd U 1,zd U 0] 55))):=y.alloc y.size _;have Q:=Aa H;have p:=Aa (And.intro (Ab b _ _ G) (And.intro (Ab b _ _ E) (AF J b)));clear A L z y b H G E J;go_wp2_with fail;refine (K3.o _).mono ?_;obtain ⟨v2,t⟩:=nm ((C.alloc (ze #[O (some ⟨g,0,none⟩) 1 c,O (some ⟨b1,0,none⟩) 1 1,O (some ⟨b2,0,none⟩) 1 1,zd U 2,zd U 1,zd U 0] 55)));have ae:v2.heap.size=C.heap.size+1:=by rw [t];simp
 rw [<-t] at B Q p ⊢;clear t ae;rintro e q ⟨ci,co,cv,cm,cp,rfl,N,v⟩;have x:=B.o.trans (v.mono B.o.size);have l:Ov q ((q.alloc (ze #[zd U 7] 3)).alloc (ze #[O (some ⟨q.heap.size,0,none⟩) 1 1] 25)):=(bA q _).alloc (by simp) _;have K4:=Aa (N8 ci co cv cm cp (q.heap.size+1) q.heap.size ((q.alloc (ze #[zd U 7] 3)).alloc (ze #[O (some ⟨q.heap.size,0,none⟩) 1 1] 25)) (N.over l) (by simp [go_sem]) (by simp [go_sem]));have S:=Aa (x.trans (l.mono x.size));have ah:=Aa (Ac v l);clear K3 N v x l;unfold Mt at K4 ⊢;go_wp2_with fail;refine (K4.o).mono ?_;rintro e f ⟨h,d,k,j,la,lk,ld,rfl,u⟩;have r:=Ac ah.o u;have b:=bA f (ze #[O h 0 d,O (some ⟨k,0,none⟩) 1 1,O (some ⟨j,0,none⟩) 1 1,zd U 2,zd U 3,zd U 1] 55);have R:Hx (Ov w (f.alloc (ze #[O h 0 d,O (some ⟨k,0,none⟩) 1 1,O (some ⟨j,0,none⟩) 1 1,zd U 2,zd U 3,zd U 1] 55))):=by
  have:=S.o.trans (u.mono S.o.size);exact this.alloc this.size _
 have a:=Ac r b;have rA:=Q.o.over a;have T:=Ad.newA #[O h 0 d,O (some ⟨k,0,none⟩) 1 1,O (some ⟨j,0,none⟩) 1 1,zd U 2,zd U 3,zd U 1] 55 f;have a0:=rA 0 _ rfl;have a4:=rA 4 _ rfl;have q0:=T 0 _ rfl;have q4:=T 4 _ rfl;have q5:=T 5 _ rfl;have l0:=Ab a _ _ p.o.1;have l1:=Ab a _ _ p.o.2.1;have D:=AF p.o.2.2 a;have K:Ov (f.alloc (ze #[O h 0 d,O (some ⟨k,0,none⟩) 1 1,O (some ⟨j,0,none⟩) 1 1,zd U 2,zd U 3,zd U 1] 55)) ((f.alloc (ze #[O h 0 d,O (some ⟨k,0,none⟩) 1 1,O (some ⟨j,0,none⟩) 1 1,zd U 2,zd U 3,zd U 1] 55)).alloc (ze #[zg true] 4)):=bA _ _;have I:AJ ((f.alloc (ze #[O h 0 d,O (some ⟨k,0,none⟩) 1 1,O (some ⟨j,0,none⟩) 1 1,zd U 2,zd U 3,zd U 1] 55)).alloc (ze #[zg true] 4)) (O (some ⟨(f.alloc (ze #[O h 0 d,O (some ⟨k,0,none⟩) 1 1,O (some ⟨j,0,none⟩) 1 1,zd U 2,zd U 3,zd U 1] 55)).heap.size,0,none⟩) 1 1) [true]:=by
  refine ⟨some ⟨(f.alloc (ze #[O h 0 d,O (some ⟨k,0,none⟩) 1 1,O (some ⟨j,0,none⟩) 1 1,zd U 2,zd U 3,zd U 1] 55)).heap.size,0,none⟩,1,rfl,fun _=>⟨_,0,rfl,fun i hi=>?_⟩⟩;have:i=0:=by simp at hi;omega
  subst this;exact (Ad.newA #[zg true] 4 (f.alloc (ze #[O h 0 d,O (some ⟨k,0,none⟩) 1 1,O (some ⟨j,0,none⟩) 1 1,zd U 2,zd U 3,zd U 1] 55))) 0 _ rfl
 have K5:=Aa (Ip _ _ [true] [true] _ (AF D K) I (by simp));have ai:Hx (Ov w ((f.alloc (ze #[O h 0 d,O (some ⟨k,0,none⟩) 1 1,O (some ⟨j,0,none⟩) 1 1,zd U 2,zd U 3,zd U 1] 55)).alloc (ze #[zg true] 4))):=R.o.alloc R.o.size _;have F:(f.alloc (ze #[O h 0 d,O (some ⟨k,0,none⟩) 1 1,O (some ⟨j,0,none⟩) 1 1,zd U 2,zd U 3,zd U 1] 55)).heap.size=f.heap.size+1:=by simp
 rw [F] at K5;clear K4 u r b a rA T D K I F;go_wp2_with fail;refine (K5.o).mono ?_;rintro e w5 ⟨rfl,n,rfl⟩;have af:=below_drewN ai.o n;go_wp2_with fail;go_ret;exact ⟨rfl,af⟩
theorem NW (n:Nat) (x):Av (A7 n) x n=true:=by
 rw [BL];intro i a;refine ⟨fun _=>by simp [A7,a],fun h=>?_⟩;simp [A7,a] at h
theorem Ks (c:WK) (n:Nat) (hn:c.n=n) (vn:Nat) (ps):FN c ⟨List.replicate vn (A7 n),ps⟩:=by
 subst hn;intro i _ b;have a:i < vn:=by simpa using b
 show Av ((List.replicate vn (A7 c.n)).getD i Ah) _ c.n=true;rw [List.getD_eq_getElem?_getD,List.getElem?_replicate,if_pos a];exact NW c.n _
end Go.Proofs.YtfffpjkcfnekaaaGreat.Ex
