/- The reader of package tree reads an expression. -/
import Derived.Test.YtipngnjffjajpaaGreatDoorG03
namespace Go.Proofs.YtipngnjffjajpaaGreatDoor
open Go.RowKit
set_option linter.unusedVariables false
theorem pE_number {ts : List Tok} {en f deep n : Nat} (h : (peekT ts n).kind = 2) : pE ts en (f + 1) deep n = .inl (eD 1 (posn ts en n) (numN (peekT ts n).text.data.toList) ⟨#[]⟩ [],n + 1):=by
  simp only [pE,h,if_true]
set_option maxHeartbeats 1000000 in
set_option maxRecDepth 100000 in
theorem expr_number (rb : Nat) (tv : Value) (ts : List Tok) (hall : ts.all isAlone = true) (en n f deep : Nat) (w : World) (h : St rb tv ts en n w) (hx : (peekT ts n).kind = 2) :
    Calls Tryz.prog 133 #[.pointer (some ⟨rb,0,none⟩),.int .i64 (deep : Int)] w (PostE rb tv ts en (f + 1) w (pE ts en (f + 1) deep n)):=by
  rw [pE_number hx]
  have hal : Below w.heap.size w (w.alloc (Obj.cells #[.int .i64 0,.int .i64 0,.int .i64 0,.string ⟨#[]⟩,.slice none 0 0] 49)):=(Below.refl _ w).alloc (Nat.le_refl _) _
  have h0:=h.below hal
  have HH:=hide (here_any rb tv ts en n _ h0)
  go_enter Tryz.func133,Tryz.ntmps133
  go_wp2_with fail
  refine (HH.out).mono ?_
  rintro e w1 ⟨rfl,hb1⟩
  have h1:=h0.below hb1
  have k0 : w1.heap[w.heap.size]? = some (Obj.cells #[.int .i64 0,.int .i64 0,.int .i64 0,.string ⟨#[]⟩,.slice none 0 0] 49 (0,0)):=block_below (heap_alloc_new w _) hb1
  have hB1 : Below w.heap.size w w1:=hal.trans (hb1.mono hal.size)
  clear hal h0 hb1 HH
  obtain ⟨w2,hw2⟩ : ∃ w2,w2 = w1.alloc (Obj.cells #[.int .i64 0,.int .i64 (posn ts en n),.int .i64 0,.string ⟨#[]⟩,.slice none 0 0] 49):=⟨_,rfl⟩
  have hal2 : Below w1.heap.size w1 w2:=by rw [hw2]; exact (Below.refl _ w1).alloc (Nat.le_refl _) _
  have h2:=h1.below hal2
  have k1 : w2.heap[w1.heap.size]? = some (Obj.cells #[.int .i64 0,.int .i64 (posn ts en n),.int .i64 0,.string ⟨#[]⟩,.slice none 0 0] 49 (0,0)):=by rw [hw2]; exact heap_alloc_new w1 _
  have k0':=block_below k0 hal2
  have hB2 : Below w.heap.size w w2:=hB1.trans (hal2.mono hB1.size)
  have hp:=peek_any rb tv ts en n w2 h2
  rw [hx] at hp
  unfold tokVal at hp
  rw [hw2] at hp
  have HP:=hide hp
  have hfk:=field_kind 2 (peekT ts n).pos (peekT ts n).text
  obtain ⟨pn,hpn⟩ : ∃ pn,pn = posn ts en n:=⟨_,rfl⟩
  clear hp
  go_wp2_with fail
  refine (HP.out).mono ?_
  rintro e w3 ⟨rfl,hb3⟩
  rw [← hw2] at hb3
  have h3:=h2.below hb3
  have hB3 : Below w.heap.size w w3:=hB2.trans (hb3.mono hB2.size)
  have k0'':=block_below k0' hb3
  have k1':=block_below k1 hb3
  have HN:=hide (number_yes rb tv ts hall en n w3 h3 hx)
  have hl1 : w.heap.size < w1.heap.size:=(Array.getElem?_eq_some_iff.1 k0).1
  have hrl:=h.lt
  clear HP hw2 h2 k0' k1 hB2 hal2 h1 k0 hB1 hb3 h3
  go_wp2_with fail
  refine (HN.out).mono ?_
  rintro e w4 ⟨rfl,hg4,h4⟩
  have k0:=block_keep k0'' hg4 (by omega)
  have k1:=block_keep k1' hg4 (by omega)
  obtain ⟨p0,p1,p2,p3,p4,pf,pl⟩:=five k0
  obtain ⟨e0,e1,e2,e3,e4,ef,el⟩:=five k1
  have hgw : w.grownBy w4 (some rb):=grownBy_trans (grownBy_below hB3) hg4
  have hn:=number_lt hx
  have HR:=hide h4.1
  obtain ⟨nn,hnn⟩ : ∃ nn,nn = (numN (peekT ts n).text.data.toList : Int):=⟨_,rfl⟩
  rw [← hnn]
  have HX:=hide h
  have HNN:=hide hnn
  clear HN k0'' k1' hB3 hg4 h4 k0 k1 h hnn
  go_wp2_with fail
  refine bodyPost_ret (v:=.agg #[.int .i64 1,.int .i64 (posn ts en n),.int .i64 nn,.string ⟨#[]⟩,.slice none 0 0]) (by simp [results,Tryz.results133,go_sem,p0,p1,p2,p3,p4]) rfl ?_
  have hgF:=grownBy_setCell (grownBy_setCell (grownBy_setCell (grownBy_setCell (grownBy_setCell (grownBy_setCell (grownBy_setCell hgw (p:=⟨w1.heap.size,0,none⟩) (by simp; omega) (.int .i64 1)) (p:=⟨w1.heap.size,2,none⟩) (by simp; omega) (.int .i64 nn)) (p:=⟨w.heap.size,0,none⟩) (by simp) (.int .i64 1)) (p:=⟨w.heap.size,1,none⟩) (by simp) (.int .i64 (posn ts en n))) (p:=⟨w.heap.size,2,none⟩) (by simp) (.int .i64 nn)) (p:=⟨w.heap.size,3,none⟩) (by simp) (.string ⟨#[]⟩)) (p:=⟨w.heap.size,4,none⟩) (by simp) (.slice none 0 0)
  refine ⟨hgF,[.int .i64 1,.int .i64 (posn ts en n),.int .i64 nn,.string ⟨#[]⟩,.slice none 0 0],rfl,?_,HX.out.keep hgF ?_ hn⟩
  · exact ⟨1,posn ts en n,nn,⟨#[]⟩,.slice none 0 0,[],rfl,by rw [HNN.out],RS.nil _ _ _ _ _ _⟩
  · exact block_setCell (block_setCell (block_setCell (block_setCell (block_setCell (block_setCell (block_setCell HR.out (by simp; omega)) (by simp; omega)) (by simp; omega)) (by simp; omega)) (by simp; omega)) (by simp; omega)) (by simp; omega)
end Go.Proofs.YtipngnjffjajpaaGreatDoor
