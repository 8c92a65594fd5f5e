/- The two commands of the small run. -/
import Derived.Test.YtpbnmmgocpobcaaM24
import Derived.Test.YtpbnmmgocpobcaaM26
namespace Go.Proofs.Ytpbnmmgocpobcaa.Ex
open Go.RowKit
set_option linter.unusedVariables false

/-- all is as it was but who runs, his variables, and what was taken. -/
structure KeptR (br b1 b2 : Nat) (w w' : World) : Prop where
  os : w'.os = w.os
  tape : w'.tape = w.tape
  output : w'.output = w.output
  size : w.heap.size ≤ w'.heap.size
  block : ∀ k, k < w.heap.size → k ≠ br → k ≠ b1 → k ≠ b2 → w'.heap[k]? = w.heap[k]?
theorem KeptR.of_below {br b1 b2 : Nat} {w w' : World} (h : Below w.heap.size w w') : KeptR br b1 b2 w w' := ⟨h.os, h.tape, h.output, h.size, fun k hk _ _ _ => h.block k hk⟩
theorem KeptR.of_grow {br b1 b2 r : Nat} {w w' : World} (h : w.grownBy w' (some r)) (hr : r = br ∨ r = b1 ∨ r = b2) : KeptR br b1 b2 w w' :=
  ⟨h.os, h.tape, h.output, h.size, fun k hk h0 h1 h2 => h.block k hk (fun e => by have e' := Option.some.inj e; omega)⟩
theorem KeptR.trans {br b1 b2 : Nat} {w w1 w2 : World} (h : KeptR br b1 b2 w w1) (k : KeptR br b1 b2 w1 w2) : KeptR br b1 b2 w w2 :=
  ⟨k.os.trans h.os, k.tape.trans h.tape, k.output.trans h.output, Nat.le_trans h.size k.size, fun j hj a b c => (k.block j (Nat.lt_of_lt_of_le hj h.size) a b c).trans (h.block j hj a b c)⟩
theorem KeptR.below {br b1 b2 B : Nat} {w w' : World} (h : KeptR br b1 b2 w w') (k0 : B ≤ br) (k1 : B ≤ b1) (k2 : B ≤ b2) (kw : B ≤ w.heap.size) : Below B w w' :=
  ⟨h.os, h.tape, h.output, h.size, fun k hk => h.block k (by omega) (by omega) (by omega) (by omega)⟩
theorem KeptR.cell {br b1 b2 b j : Nat} {w w' : World} {u : Value} (h : KeptR br b1 b2 w w') (hc : w.cell? ⟨b, j, none⟩ = some u) (h0 : b ≠ br) (h1 : b ≠ b1) (h2 : b ≠ b2) : w'.cell? ⟨b, j, none⟩ = some u := by
  rw [World.cell?_of_block (w := w) (h.block b (World.block_lt_of_cell? w _ hc) h0 h1 h2)]
  exact hc

theorem keep3g {w w' : World} {r a b j k l : Nat} {x y z : Value} (h : w.cell? ⟨a, j, none⟩ = some x ∧ w.cell? ⟨b, k, none⟩ = some y ∧ w.cell? ⟨b, l, none⟩ = some z) (hg : w.grownBy w' (some r)) (ha : a ≠ r) (hb : b ≠ r) :
    w'.cell? ⟨a, j, none⟩ = some x ∧ w'.cell? ⟨b, k, none⟩ = some y ∧ w'.cell? ⟨b, l, none⟩ = some z := ⟨grow_cell hg h.1 ha, grow_cell hg h.2.1 hb, grow_cell hg h.2.2 hb⟩

set_option maxHeartbeats 4000000 in
set_option maxRecDepth 100000 in
theorem get_small (s : Int) (br b1 b2 b3 bi bo bv bm bx by' : Nat) (w : World) (h : Rn (rnC (.slice none 0 0) s 2 b1 b2 b3 bi bo bv bm bx) 0 0 br b1 b2 b3 w)
    (q : w.cell? ⟨bx, 0, none⟩ = some (.slice (some ⟨by', 0, none⟩) 1 1)) (q7 : w.cell? ⟨by', 0, none⟩ = some (.int .i64 7)) (hn : b2 ≠ by') :
    Calls Try.prog 32 #[.pointer (some ⟨br, 0, none⟩), .agg #[.int .i64 3, .int .i64 0, .int .i64 0, .int .i64 0, .int .i64 0, .slice none 0 0, .slice none 0 0, .slice none 0 0, .slice none 0 0], .int .i64 0] w fun e w' => e = .returned (.bool true) ∧ Rn (rnC (.slice none 0 0) s 2 b1 b2 b3 bi bo bv bm bx) 7 1 br b1 b2 b3 w' ∧ KeptR br b1 b2 w w' := by
  have hbel : Below w.heap.size w (w.alloc (.cells #[.int .i64 3, .int .i64 0, .int .i64 0, .int .i64 0, .int .i64 0, .slice none 0 0, .slice none 0 0, .slice none 0 0, .slice none 0 0] 71)) := (Below.refl _ w).alloc (Nat.le_refl _) _
  have h' := h.over hbel
  have K := hide (next_small (.slice none 0 0) s 0 br b1 b2 b3 bi bo bv bm bx by' (w.alloc (.cells #[.int .i64 3, .int .i64 0, .int .i64 0, .int .i64 0, .int .i64 0, .slice none 0 0, .slice none 0 0, .slice none 0 0, .slice none 0 0] 71)).drew (h'.drewN (n := 1)) (cell_over hbel _ _ q) (cell_over hbel _ _ q7) hn)
  have c1 := h'.row 1 _ rfl
  have v0 := h'.v 0 _ rfl
  have z1 := h'.z1 0
  obtain ⟨l0, l1, l2, l3⟩ := h.lt
  have n2 := h.n2
  have n4 := h.n4
  have n1 := h.n1
  have nb : w.heap.size ≠ b2 := by omega
  have nb1 : w.heap.size ≠ b1 := by omega
  have s0 : (w.alloc (.cells #[.int .i64 3, .int .i64 0, .int .i64 0, .int .i64 0, .int .i64 0, .slice none 0 0, .slice none 0 0, .slice none 0 0, .slice none 0 0] 71)).cell? ⟨w.heap.size, 0, none⟩ = some (.int .i64 3) := by simp [go_sem]
  have s1 : (w.alloc (.cells #[.int .i64 3, .int .i64 0, .int .i64 0, .int .i64 0, .int .i64 0, .slice none 0 0, .slice none 0 0, .slice none 0 0, .slice none 0 0] 71)).cell? ⟨w.heap.size, 1, none⟩ = some (.int .i64 0) := by simp [go_sem]
  have s2 : (w.alloc (.cells #[.int .i64 3, .int .i64 0, .int .i64 0, .int .i64 0, .int .i64 0, .slice none 0 0, .slice none 0 0, .slice none 0 0, .slice none 0 0] 71)).cell? ⟨w.heap.size, 2, none⟩ = some (.int .i64 0) := by simp [go_sem]
  have s3 : (w.alloc (.cells #[.int .i64 3, .int .i64 0, .int .i64 0, .int .i64 0, .int .i64 0, .slice none 0 0, .slice none 0 0, .slice none 0 0, .slice none 0 0] 71)).cell? ⟨w.heap.size, 3, none⟩ = some (.int .i64 0) := by simp [go_sem]
  have s4 : (w.alloc (.cells #[.int .i64 3, .int .i64 0, .int .i64 0, .int .i64 0, .int .i64 0, .slice none 0 0, .slice none 0 0, .slice none 0 0, .slice none 0 0] 71)).cell? ⟨w.heap.size, 4, none⟩ = some (.int .i64 0) := by simp [go_sem]
  have s5 : (w.alloc (.cells #[.int .i64 3, .int .i64 0, .int .i64 0, .int .i64 0, .int .i64 0, .slice none 0 0, .slice none 0 0, .slice none 0 0, .slice none 0 0] 71)).cell? ⟨w.heap.size, 5, none⟩ = some (.slice none 0 0) := by simp [go_sem]
  have s6 : (w.alloc (.cells #[.int .i64 3, .int .i64 0, .int .i64 0, .int .i64 0, .int .i64 0, .slice none 0 0, .slice none 0 0, .slice none 0 0, .slice none 0 0] 71)).cell? ⟨w.heap.size, 6, none⟩ = some (.slice none 0 0) := by simp [go_sem]
  have s7 : (w.alloc (.cells #[.int .i64 3, .int .i64 0, .int .i64 0, .int .i64 0, .int .i64 0, .slice none 0 0, .slice none 0 0, .slice none 0 0, .slice none 0 0] 71)).cell? ⟨w.heap.size, 7, none⟩ = some (.slice none 0 0) := by simp [go_sem]
  have s8 : (w.alloc (.cells #[.int .i64 3, .int .i64 0, .int .i64 0, .int .i64 0, .int .i64 0, .slice none 0 0, .slice none 0 0, .slice none 0 0, .slice none 0 0] 71)).cell? ⟨w.heap.size, 8, none⟩ = some (.slice none 0 0) := by simp [go_sem]
  clear h h' q q7
  go_enter Try.func32, Try.ntmps32
  go_wp2_with fail
  go_region_held3 (fun W => W.cell? ⟨br, 1, none⟩ = some (.slice (some ⟨b1, 0, none⟩) 1 1) ∧ W.cell? ⟨w.heap.size, 1, none⟩ = some (.int .i64 0) ∧ W.cell? ⟨w.heap.size, 2, none⟩ = some (.int .i64 0)) (first | assumption | exact ⟨c1, s1, s2⟩ | exact keep3g (by assumption) hgp n2 nb | exact keep3g (by assumption) (grow_set (n := 0)) n1 nb1 | fail) (first | (go_at_call 48; refine (K.out).mono ?_; rintro e wp ⟨rfl, hrn, hgp⟩; have u0 := hrn.v 0 _ rfl; have uz := hrn.z1 0; have ul := hrn.lt.2.1))
  have HR := hide (hrn.setV (x' := 7))
  go_wp2_with fail
  go_ret
  refine ⟨rfl, HR.out, ?_⟩
  exact ((KeptR.of_below hbel.drew).trans (KeptR.of_grow hgp (Or.inr (Or.inr rfl)))).trans (KeptR.of_grow (grow_set (n := 0)) (Or.inr (Or.inl rfl)))

theorem keep4g {w w' : World} {r b j k l m : Nat} {x y z u : Value} (h : w.cell? ⟨b, j, none⟩ = some x ∧ w.cell? ⟨b, k, none⟩ = some y ∧ w.cell? ⟨b, l, none⟩ = some z ∧ w.cell? ⟨b, m, none⟩ = some u) (hg : w.grownBy w' (some r)) (hb : b ≠ r) :
    w'.cell? ⟨b, j, none⟩ = some x ∧ w'.cell? ⟨b, k, none⟩ = some y ∧ w'.cell? ⟨b, l, none⟩ = some z ∧ w'.cell? ⟨b, m, none⟩ = some u := ⟨grow_cell hg h.1 hb, grow_cell hg h.2.1 hb, grow_cell hg h.2.2.1 hb, grow_cell hg h.2.2.2 hb⟩
theorem keep4b {w w' : World} {b j k l m : Nat} {x y z u : Value} (h : w.cell? ⟨b, j, none⟩ = some x ∧ w.cell? ⟨b, k, none⟩ = some y ∧ w.cell? ⟨b, l, none⟩ = some z ∧ w.cell? ⟨b, m, none⟩ = some u) (hg : Below w.heap.size w w') :
    w'.cell? ⟨b, j, none⟩ = some x ∧ w'.cell? ⟨b, k, none⟩ = some y ∧ w'.cell? ⟨b, l, none⟩ = some z ∧ w'.cell? ⟨b, m, none⟩ = some u := ⟨cell_over hg _ _ h.1, cell_over hg _ _ h.2.1, cell_over hg _ _ h.2.2.1, cell_over hg _ _ h.2.2.2⟩

/-- one event was told, and all below is as it was. -/
def TellB (s y : Int) (br b1 b2 b3 bi bo bv bm bx : Nat) (w w' : World) : Prop :=
  ∃ g c, Rn (rnC (.slice (some ⟨g, 0, none⟩) 1 c) s 2 b1 b2 b3 bi bo bv bm bx) 7 y br b1 b2 b3 w' ∧ RowAt [.int .i64 1, .int .i64 1, .int .i64 0, .int .i64 7] w' g ∧ g ≠ br ∧ w.heap.size ≤ g ∧ KeptR br b1 b2 w w'

set_option maxHeartbeats 4000000 in
set_option maxRecDepth 100000 in
theorem put_small (s : Int) (br b1 b2 b3 bi bo bv bm bx : Nat) (w : World) (h : Rn (rnC (.slice none 0 0) s 2 b1 b2 b3 bi bo bv bm bx) 7 1 br b1 b2 b3 w) :
    Calls Try.prog 32 #[.pointer (some ⟨br, 0, none⟩), .agg #[.int .i64 4, .int .i64 0, .int .i64 0, .int .i64 2, .int .i64 0, .slice none 0 0, .slice none 0 0, .slice none 0 0, .slice none 0 0], .int .i64 1] w fun e w' => e = .returned (.bool true) ∧ TellB s 1 br b1 b2 b3 bi bo bv bm bx w w' := by
  have hbel : Below w.heap.size w (w.alloc (.cells #[.int .i64 4, .int .i64 0, .int .i64 0, .int .i64 2, .int .i64 0, .slice none 0 0, .slice none 0 0, .slice none 0 0, .slice none 0 0] 71)) := (Below.refl _ w).alloc (Nat.le_refl _) _
  have h' := (h.over hbel).drewN (n := 1)
  have HR0 := hide h'
  have K1 := hide (value_small (.slice none 0 0) s 1 br b1 b2 b3 bi bo bv bm bx (w.alloc (.cells #[.int .i64 4, .int .i64 0, .int .i64 0, .int .i64 2, .int .i64 0, .slice none 0 0, .slice none 0 0, .slice none 0 0, .slice none 0 0] 71)).drew h')
  have K2 := hide fun W (hR : Rn (rnC (.slice none 0 0) s 2 b1 b2 b3 bi bo bv bm bx) 7 1 br b1 b2 b3 W) => tell_small s 1 br b1 b2 b3 bi bo bv bm bx W hR
  obtain ⟨l0, l1, l2, l3⟩ := h.lt
  have nb : w.heap.size ≠ br := by omega
  have s0 : (w.alloc (.cells #[.int .i64 4, .int .i64 0, .int .i64 0, .int .i64 2, .int .i64 0, .slice none 0 0, .slice none 0 0, .slice none 0 0, .slice none 0 0] 71)).cell? ⟨w.heap.size, 0, none⟩ = some (.int .i64 4) := by simp [go_sem]
  have s1 : (w.alloc (.cells #[.int .i64 4, .int .i64 0, .int .i64 0, .int .i64 2, .int .i64 0, .slice none 0 0, .slice none 0 0, .slice none 0 0, .slice none 0 0] 71)).cell? ⟨w.heap.size, 1, none⟩ = some (.int .i64 0) := by simp [go_sem]
  have s2 : (w.alloc (.cells #[.int .i64 4, .int .i64 0, .int .i64 0, .int .i64 2, .int .i64 0, .slice none 0 0, .slice none 0 0, .slice none 0 0, .slice none 0 0] 71)).cell? ⟨w.heap.size, 2, none⟩ = some (.int .i64 0) := by simp [go_sem]
  have s3 : (w.alloc (.cells #[.int .i64 4, .int .i64 0, .int .i64 0, .int .i64 2, .int .i64 0, .slice none 0 0, .slice none 0 0, .slice none 0 0, .slice none 0 0] 71)).cell? ⟨w.heap.size, 3, none⟩ = some (.int .i64 2) := by simp [go_sem]
  have s4 : (w.alloc (.cells #[.int .i64 4, .int .i64 0, .int .i64 0, .int .i64 2, .int .i64 0, .slice none 0 0, .slice none 0 0, .slice none 0 0, .slice none 0 0] 71)).cell? ⟨w.heap.size, 4, none⟩ = some (.int .i64 0) := by simp [go_sem]
  have s5 : (w.alloc (.cells #[.int .i64 4, .int .i64 0, .int .i64 0, .int .i64 2, .int .i64 0, .slice none 0 0, .slice none 0 0, .slice none 0 0, .slice none 0 0] 71)).cell? ⟨w.heap.size, 5, none⟩ = some (.slice none 0 0) := by simp [go_sem]
  have s6 : (w.alloc (.cells #[.int .i64 4, .int .i64 0, .int .i64 0, .int .i64 2, .int .i64 0, .slice none 0 0, .slice none 0 0, .slice none 0 0, .slice none 0 0] 71)).cell? ⟨w.heap.size, 6, none⟩ = some (.slice none 0 0) := by simp [go_sem]
  have s7 : (w.alloc (.cells #[.int .i64 4, .int .i64 0, .int .i64 0, .int .i64 2, .int .i64 0, .slice none 0 0, .slice none 0 0, .slice none 0 0, .slice none 0 0] 71)).cell? ⟨w.heap.size, 7, none⟩ = some (.slice none 0 0) := by simp [go_sem]
  have s8 : (w.alloc (.cells #[.int .i64 4, .int .i64 0, .int .i64 0, .int .i64 2, .int .i64 0, .slice none 0 0, .slice none 0 0, .slice none 0 0, .slice none 0 0] 71)).cell? ⟨w.heap.size, 8, none⟩ = some (.slice none 0 0) := by simp [go_sem]
  clear h h'
  go_enter Try.func32, Try.ntmps32
  go_wp2_with fail
  go_region_held3 (fun W => W.cell? ⟨w.heap.size, 2, none⟩ = some (.int .i64 0) ∧ W.cell? ⟨w.heap.size, 3, none⟩ = some (.int .i64 2) ∧ W.cell? ⟨w.heap.size, 4, none⟩ = some (.int .i64 0) ∧ W.cell? ⟨w.heap.size, 5, none⟩ = some (.slice none 0 0)) (first | assumption | exact ⟨s2, s3, s4, s5⟩ | exact keep4b (by assumption) hbp | exact keep4g (by assumption) hgt nb | fail) (first | (go_at_call 46; refine (K1.out).mono ?_; rintro e wp ⟨rfl, hbp⟩) | (go_at_call 49; refine (K2.out _ (HR0.out.over hbp)).mono ?_; rintro e wt ⟨rfl, g, c, hrt, hrow, hgb, hgs, hgt⟩))
  have HR := hide hrt
  go_wp2_with fail
  go_ret
  refine ⟨rfl, g, c, HR.out, hrow, hgb, ?_, ?_⟩
  · have := hbp.size
    simp at this
    omega
  · exact ((KeptR.of_below hbel.drew).trans (KeptR.of_below hbp)).trans (KeptR.of_grow hgt (Or.inl rfl))

end Go.Proofs.Ytpbnmmgocpobcaa.Ex
