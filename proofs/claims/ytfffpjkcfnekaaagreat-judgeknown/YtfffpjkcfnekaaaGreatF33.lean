/- Grants are copied; a box one of whose fields is a row that grows. -/
import Derived.Test.YtfffpjkcfnekaaaGreatF32
set_option linter.unusedVariables false
set_option maxHeartbeats 8000000
set_option maxRecDepth 100000
namespace Go.Proofs.YtfffpjkcfnekaaaGreat.Ex
open Go.RowKit
open Go.Value renaming slice -> O, int -> U, bool -> zg, agg -> zh, pointer -> zj, tuple -> zm
open Go.IntKind renaming i64 -> zd
open Go.Obj renaming cells -> ze
open Go.Ending renaming returned -> zk
theorem Tryz.infoGr:(Tryz.prog.info? 169).map (fun i=>(i.zero,i.size,i.bytes))=some (some (zh #[U zd 0,U zd 0]),2,16):=by kernel_rfl
def grV:List (Int × Int)->List Value
 | []=>[]
 | g::gs=>U zd g.1::U zd g.2::grV gs
theorem Hj:∀ gs:List (Int × Int),(grV gs).length=gs.length*2
 | []=>rfl
 | g::gs=>by
  have:=Hj gs
  simp only [grV,List.length_cons]
  omega
theorem Hk:∀ (gs:List (Int × Int)) (i:Nat) (h:i < gs.length),(grV gs)[i*2]? = some (U zd gs[i].1)/\(grV gs)[i*2+1]? = some (U zd gs[i].2)
 | g::gs,0,_=>⟨rfl,rfl⟩
 | g::gs,i+1,h=>by
  have:=Hk gs i (by simpa using h)
  have e1:(i+1)*2=i*2+1+1:=by omega
  rw [e1]
  exact this
theorem J5:∀ (gs:List (Int × Int)),∀ u∈grV gs,u.oneCell'=true
 | [],u,h=>by cases h
 | g::gs,u,h=>by
  simp only [grV,List.mem_cons] at h
  rcases h with rfl | rfl | h
  ·rfl
  ·rfl
  ·exact J5 gs u h
theorem OH {gs:List (Int × Int)} {j:Nat} {u:Value} (h:(grV gs)[j]? = some u):∃ i,∃ hi:i < gs.length,(j=i*2/\u=U zd gs[i].1)\/(j=i*2+1/\u=U zd gs[i].2):=by
 have hj:=(List.getElem?_eq_some_iff.1 h).1
 rw [Hj] at hj
 have hi:j / 2 < gs.length:=by omega
 have hg:=Hk gs (j / 2) hi
 refine ⟨j / 2,hi,?_⟩
 rcases Nat.mod_two_eq_zero_or_one j with h0 | h1
 ·have e:j=j / 2*2:=by omega
  refine Or.inl ⟨e,?_⟩
  rw [<-e,h] at hg
  exact Option.some.inj hg.1
 ·have e:j=j / 2*2+1:=by omega
  refine Or.inr ⟨e,?_⟩
  rw [<-e,h] at hg
  exact Option.some.inj hg.2
theorem D6 {W:World} {B:Nat} {sa:Option Addr} {m c:Nat} {l:List (Int × Int)} {v:Value} (hs:Az W (O sa m c) l) (ho:W.ownsRow B 169 2 v 0 []) (hl:l.length<=1000) (hB:B<=W.heap.size) :
  ∃ v' W',(Builtin.append_ #[22,22] 22 #[v,O sa m c]).run Tryz.prog W=.ok v' W'/\W'.ownsRow B 169 2 v' l.length (grV l)/\W.grownBy W' v.ownBlock/\(v'.ownBlock=v.ownBlock\/v'.ownBlock=some W.heap.size):=by
 obtain ⟨i0,hi,hz0,hz1,hz2⟩:=info_parts Tryz.infoGr
 obtain ⟨ao,cap,hv,hel⟩:=hs
 injection hv with v1 v2 v3
 subst v1 v2 v3
 cases l with
 | nil=>exact ⟨v,W,DP B 22 22 169 i0 2 Tryz.underlying22 hi v 0 [] ho sa c,ho,⟨rfl,rfl,rfl,Nat.le_refl _,fun _ _ _=>rfl⟩,Or.inl rfl⟩
 | cons x l=>
  obtain ⟨b,off,rfl,hel2⟩:=hel (by simp)
  have hc:∀ q u,(grV (x::l))[q]? = some u->W.cell? ((⟨b,off,none⟩:Addr).add q)=some u:=fun q u hu=>by
   rw [Addr.add_lit]
   obtain ⟨i,hi,⟨rfl,rfl⟩ | ⟨rfl,rfl⟩⟩:=OH hu
   ·exact (hel2 i hi).1
   ·exact (hel2 i hi).2
  obtain ⟨v',W',hrun,hown,hgr,-,hat⟩:=run_append_own_at (P:=Tryz.prog) (w:=W) B 22 22 169 i0 (zh #[U zd 0,U zd 0]) 2 16 Tryz.underlying22 hi hz0 hz1 hz2 rfl (by decide) v 0 [] ho ⟨b,off,none⟩ (x::l).length c (grV (x::l)) (Hj _) hc (J5 _) (by unfold maxLen;omega) (by omega) hB
  exact ⟨v',W',hrun,by simpa using hown,hgr,hat⟩
theorem Ou {W W':World} {B:Nat} {v:Value} {l:List (Int × Int)} (h:W.ownsRow B 169 2 v l.length (grV l)) (hk:∀ k,v.ownBlock=some k->W'.heap[k]? = W.heap[k]?):Az W' v l:=by
 rcases id h.2 with ⟨hv,h0⟩ | ⟨g,cap,cur,hv,hb,hg,h1,h2,h3,h4⟩
 ·exact ⟨none,0,by rw [hv,h0],fun hne=>absurd (List.length_eq_zero_iff.1 h0) hne⟩
 ·refine ⟨some ⟨g,0,none⟩,cap,hv,fun _=>⟨g,0,rfl,fun i hi=>?_⟩⟩
  have hblk:=hk g (by rw [hv];rfl)
  obtain ⟨x1,x2⟩:=Hk l i hi
  have c1:=h.cells (g:=g) (by rw [hv];rfl) (i*2) _ x1
  have c2:=h.cells (g:=g) (by rw [hv];rfl) (i*2+1) _ x2
  rw [Addr.add_lit] at c1 c2
  exact ⟨(World.cell?_of_block (a:=⟨g,0+i*2,none⟩) hblk).trans c1,(World.cell?_of_block (a:=⟨g,0+i*2+1,none⟩) hblk).trans c2⟩
theorem Es {W W':World} {B:Nat} {v:Value} {l:List Int} (h:W.ownsRow B 3 1 v l.length (Dq l)) (hk:∀ k,v.ownBlock=some k->W'.heap[k]? = W.heap[k]?):AM W' v l:=by
 rcases id h.2 with ⟨hv,h0⟩ | ⟨g,cap,cur,hv,hb,hg,h1,h2,h3,h4⟩
 ·exact ⟨none,0,by rw [hv,h0],fun hne=>absurd (List.length_eq_zero_iff.1 h0) hne⟩
 ·refine ⟨some ⟨g,0,none⟩,cap,hv,fun _=>⟨g,0,rfl,fun i hi=>?_⟩⟩
  have hblk:=hk g (by rw [hv];rfl)
  have c1:=h.cells (g:=g) (by rw [hv];rfl) i (U zd l[i]) (by unfold Dq;rw [List.getElem?_map,List.getElem?_eq_getElem hi];rfl)
  rw [Addr.add_lit] at c1
  exact (World.cell?_of_block (a:=⟨g,0+i,none⟩) hblk).trans c1
structure Z8 (b:Nat) (w:World):Prop where
 row:Ae [U zd 0,O none 0 0,O none 0 0,O none 0 0,O none 0 0,O none 0 0,O none 0 0,O none 0 0] w b
 fz:∀ j,w.frozen? ⟨b,j,none⟩=false
theorem Cm (t:Nat) (w:World):Z8 w.heap.size (w.alloc (ze #[U zd 0,O none 0 0,O none 0 0,O none 0 0,O none 0 0,O none 0 0,O none 0 0,O none 0 0] t)):=⟨Ae.newA #[U zd 0,O none 0 0,O none 0 0,O none 0 0,O none 0 0,O none 0 0,O none 0 0,O none 0 0] t w,fun j=>by simp [go_sem]⟩
theorem Z8.over {b:Nat} {w w':World} (h:Z8 b w) (hb:Ov w w'):Z8 b w':=⟨h.row.over hb,fun j=>((Al hb).2 b j (bL (h.row 0 _ rfl))).trans (h.fz j)⟩
theorem Z8.grown {b g:Nat} {w w':World} (h:Z8 b w) (hg:w.grownBy w' (some g)) (hne:b≠g):Z8 b w':=by
 have hblk:=hg.block b (bL (h.row 0 _ rfl)) (fun e=>hne (by injection e))
 exact ⟨fun q u hu=>(World.cell?_of_block (a:=⟨b,q,none⟩) hblk).trans (h.row q u hu),fun j=>(World.frozen?_of_block (a:=⟨b,j,none⟩) hblk).trans (h.fz j)⟩
def Bk (W:World) (b:Nat) (v0 v1 v2 v3 v4 v5 v6 v7:Value):World:=(((((((W.setCell ⟨b,0,none⟩ v0).setCell ⟨b,1,none⟩ v1).setCell ⟨b,2,none⟩ v2).setCell ⟨b,3,none⟩ v3).setCell ⟨b,4,none⟩ v4).setCell ⟨b,5,none⟩ v5).setCell ⟨b,6,none⟩ v6).setCell ⟨b,7,none⟩ v7
theorem A6 (W:World) (b:Nat) {v0 v1 v2 v3 v4 v5 v6 v7:Value}:W.grownBy (Bk W b v0 v1 v2 v3 v4 v5 v6 v7) (some b):=A0 (A0 (A0 (A0 (A0 (A0 (A0 AR AR) AR) AR) AR) AR) AR) AR
theorem AX (W:World) (b q:Nat) {v0 v1 v2 v3 v4 v5 v6 v7:Value}:(Bk W b v0 v1 v2 v3 v4 v5 v6 v7).frozen? ⟨b,q,none⟩=W.frozen? ⟨b,q,none⟩:=by
 unfold Bk
 rw [Ba,Ba,Ba,Ba,Ba,Ba,Ba,Ba]
theorem Z8.fill {b:Nat} {W:World} (h:Z8 b W) (v0 v1 v2 v3 v4 v5 v6 v7:Value):Ae [v0,v1,v2,v3,v4,v5,v6,v7] (Bk W b v0 v1 v2 v3 v4 v5 v6 v7) b:=by
 have:=(((((((h.row.set (j:=0) (v:=v0) (by simp)).set (j:=1) (v:=v1) (by simp)).set (j:=2) (v:=v2) (by simp)).set (j:=3) (v:=v3) (by simp)).set (j:=4) (v:=v4) (by simp)).set (j:=5) (v:=v5) (by simp)).set (j:=6) (v:=v6) (by simp)).set (j:=7) (v:=v7) (by simp)
 simpa [Bk] using this
structure CpG (V:World) (bo:Nat) (cs:List Value) (fi T s:Nat) (P:Nat->List Value->World->Prop) (j:Nat) (v:Value) (w:World):Prop where
 grown:V.grownBy w (some bo)
 out:Ae (cs.set fi v) w bo
 fz:∀ q,w.frozen? ⟨bo,q,none⟩=false
 cop:Cop V.heap.size T s P j v w
section
variable {V:World} {bo:Nat} {cs:List Value} {fi T s:Nat} {P:Nat->List Value->World->Prop} {j:Nat} {v v':Value} {w w' w2:World}
theorem CpG.sz (h:CpG V bo cs fi T s P j v w):V.heap.size<=w.heap.size:=h.grown.size
theorem CpG.over (h:CpG V bo cs fi T s P j v w) (hbo:bo < V.heap.size) (hb:Ov w w'):CpG V bo cs fi T s P j v w':=
 ⟨⟨hb.os.trans h.grown.os,hb.tape.trans h.grown.tape,hb.output.trans h.grown.output,Nat.le_trans h.grown.size hb.size,fun k hk hr=>(hb.block k (Nat.lt_of_lt_of_le hk h.grown.size)).trans (h.grown.block k hk hr)⟩,h.out.over hb,fun q=>((Al hb).2 bo q (Nat.lt_of_lt_of_le hbo h.sz)).trans (h.fz q),h.cop.over hb⟩
theorem CpG.rowlt (h:CpG V bo cs fi T s P j v w) (g:Nat) (hg:v.ownBlock=some g):g < w.heap.size:=by
 obtain ⟨xs,ho,-⟩:=h.cop
 exact (An ho hg).2
theorem CpG.add {xs ds:List Value} {B1:Nat} (h:CpG V bo cs fi T s P j v w) (hbo:bo < V.heap.size) (hfi:fi < cs.length) (ho:w.ownsRow V.heap.size T s v j xs) (he:∀ i,i < j->∃ cs:List Value,cs.length=s/\(∀ q u,cs[q]? = some u->xs[i*s+q]? = some u)/\Off V.heap.size v.ownBlock w (P i cs))
  (hl:ds.length=s) (hn:Off B1 none w (P j ds)) (hB1:V.heap.size<=B1) (hrow:∀ g,v.ownBlock=some g->g < B1) (ho':w2.ownsRow V.heap.size T s v' (j+1) (xs++ds)) (hg:w.grownBy w2 v.ownBlock) (hat:v'.ownBlock=v.ownBlock\/v'.ownBlock=some w.heap.size) :
  CpG V bo cs fi T s P (j+1) v' (w2.setCell ⟨bo,fi,none⟩ v'):=by
 have hlow:∀ b,b < V.heap.size->w2.heap[b]? = w.heap[b]?:=fun b hb=>hg.block b (Nat.lt_of_lt_of_le hb h.sz) (fun e=>by have:=(An ho e.symm).1;omega)
 refine ⟨A0 ⟨hg.os.trans h.grown.os,hg.tape.trans h.grown.tape,hg.output.trans h.grown.output,Nat.le_trans h.grown.size hg.size,fun k hk hr=>(hlow k hk).trans (h.grown.block k hk hr)⟩ AR,?_,fun q=>?_,(Cop.add ho he hl hn hB1 hrow ho' hg hat).set hbo⟩
 ·have h1:Ae (cs.set fi v) w2 bo:=fun q u hu=>(World.cell?_of_block (a:=⟨bo,q,none⟩) (hlow bo hbo)).trans (h.out q u hu)
  have h2:=h1.set (j:=fi) (v:=v') (by simpa using hfi)
  rwa [List.set_set] at h2
 ·rw [Ba,World.frozen?_of_block (a:=⟨bo,q,none⟩) (hlow bo hbo)]
  exact h.fz q
theorem CpG.start (hr:Ae cs w bo) (hcs:cs[fi]? = some (O none 0 0)) (hf:∀ q,w.frozen? ⟨bo,q,none⟩=false):CpG w bo cs fi T s P 0 (O none 0 0) w:=by
 refine ⟨⟨rfl,rfl,rfl,Nat.le_refl _,fun _ _ _=>rfl⟩,?_,hf,Cop.nil⟩
 have:cs.set fi (O none 0 0)=cs:=by
  apply List.ext_getElem?
  intro i
  rw [List.getElem?_set]
  split
  ·rename_i h
   subst h
   split
   ·exact hcs.symm
   ·rename_i h2
    rw [List.getElem?_eq_none (by omega)]
  ·rfl
 rw [this]
 exact hr
end
end Go.Proofs.YtfffpjkcfnekaaaGreat.Ex
