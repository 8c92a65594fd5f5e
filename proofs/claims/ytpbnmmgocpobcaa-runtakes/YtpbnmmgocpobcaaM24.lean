/- The one who runs the small program. -/
import Derived.Test.YtpbnmmgocpobcaaM23
namespace Go.Proofs.Ytpbnmmgocpobcaa.Ex
open Go.RowKit
set_option linter.unusedVariables false

set_option maxHeartbeats 1000000 in
set_option maxRecDepth 100000 in
theorem firsts_small (bi bo bv bm : Nat) (w : World) : Calls Try.prog 22 #[smallV bi bo bv bm] w fun e w' => ∃ g, e = .returned (.slice (some ⟨g, 0, none⟩) 1 1) ∧ w.heap.size ≤ g ∧ w'.cell? ⟨g, 0, none⟩ = some (.int .i64 0) ∧ Below w.heap.size w w' := by
  have hbel : Below w.heap.size w ((w.alloc (smallO bi bo bv bm 31)).alloc (.cells #[.int .i64 0] 3)) := ((Below.refl _ w).alloc (Nat.le_refl _) _).alloc (by simp) _
  have q : ((w.alloc (smallO bi bo bv bm 31)).alloc (.cells #[.int .i64 0] 3)).cell? ⟨w.heap.size + 1, 0, none⟩ = some (.int .i64 0) := by simp [go_sem]
  unfold smallV
  unfold smallO at hbel q
  go_enter Try.func22, Try.ntmps22
  go_wp2_with fail
  go_loopw [3, 10] (fun s i wr => s = .slice (some ⟨w.heap.size + 1, 0, none⟩) 1 1 ∧ i = .int .i64 0 ∧ wr.cell? ⟨w.heap.size + 1, 0, none⟩ = some (.int .i64 0) ∧ Below w.heap.size w wr) (fun _ _ _ => 0)
  case atStart => exact ⟨rfl, rfl, q, hbel⟩
  case round =>
    clear q hbel
    obtain ⟨rfl, rfl, q, hB⟩ := hrel
    go_wp2_with fail
    go_ret
    exact ⟨_, rfl, by omega, q, hB⟩

theorem make25 (w : World) : (Instr.makeSlice 25 (.int .i64 1) (.int .i64 1)).run Try.prog w = .ok (.slice (some ⟨w.heap.size, 0, none⟩) 1 1) (w.alloc (.cells #[.int .i64 0] 3)) := by kernel_rfl

theorem RowAt.set {cs : List Value} {w : World} {b j : Nat} {v : Value} (h : RowAt cs w b) (hj : j < cs.length) : RowAt (cs.set j v) (w.setCell ⟨b, j, none⟩ v) b := by
  have hc := h j _ (List.getElem?_eq_getElem hj)
  have hb := World.block_lt_of_cell? w _ hc
  intro k u hu
  by_cases hk : k = j
  · subst hk
    rw [List.getElem?_set_self hj] at hu
    simp at hu
    subst hu
    simp [go_sem, hc]
  · rw [List.getElem?_set_ne (by omega)] at hu
    have := h k u hu
    simp [go_sem, this]
theorem RowAt.other {cs : List Value} {w : World} {b b' j : Nat} {v : Value} (h : RowAt cs w b) (hb : b ≠ b') : RowAt cs (w.setCell ⟨b', j, none⟩ v) b := fun k u hu => by
  have := h k u hu
  simp [go_sem, this]
theorem RowAt.drew {cs : List Value} {w : World} {b : Nat} (h : RowAt cs w b) : RowAt cs w.drew b := fun k u hu => h k u hu

/-- who runs: his own cells, the variable, what was taken, the first number. -/
structure Rn (L : List Value) (x y : Int) (br b1 b2 b3 : Nat) (w : World) : Prop where
  row : RowAt L w br
  len : L.length = 17
  v : RowAt [.int .i64 x] w b1
  t : RowAt [.int .i64 y] w b2
  f : RowAt [.int .i64 0] w b3
  z : ∀ j, w.frozen? ⟨br, j, none⟩ = false
  z1 : ∀ j, w.frozen? ⟨b1, j, none⟩ = false
  z2 : ∀ j, w.frozen? ⟨b2, j, none⟩ = false
  n1 : br ≠ b1
  n2 : br ≠ b2
  n3 : br ≠ b3
  n4 : b1 ≠ b2
  n5 : b1 ≠ b3
  n6 : b2 ≠ b3

theorem Rn.lt {L : List Value} {x y : Int} {br b1 b2 b3 : Nat} {w : World} (h : Rn L x y br b1 b2 b3 w) : br < w.heap.size ∧ b1 < w.heap.size ∧ b2 < w.heap.size ∧ b3 < w.heap.size := by
  have hl := h.len
  exact ⟨World.block_lt_of_cell? w _ (h.row 0 _ (List.getElem?_eq_getElem (by omega))), World.block_lt_of_cell? w _ (h.v 0 _ rfl), World.block_lt_of_cell? w _ (h.t 0 _ rfl), World.block_lt_of_cell? w _ (h.f 0 _ rfl)⟩
theorem Rn.over {L : List Value} {x y : Int} {br b1 b2 b3 : Nat} {w w' : World} (h : Rn L x y br b1 b2 b3 w) (hB : Below w.heap.size w w') : Rn L x y br b1 b2 b3 w' := by
  obtain ⟨l0, l1, l2, l3⟩ := h.lt
  obtain ⟨hc, hf⟩ := bcell hB
  exact ⟨h.row.over hB, h.len, h.v.over hB, h.t.over hB, h.f.over hB, fun j => (hf _ _ l0).trans (h.z j), fun j => (hf _ _ l1).trans (h.z1 j), fun j => (hf _ _ l2).trans (h.z2 j), h.n1, h.n2, h.n3, h.n4, h.n5, h.n6⟩
theorem Rn.setR {L : List Value} {x y : Int} {br b1 b2 b3 j : Nat} {w : World} {u : Value} (h : Rn L x y br b1 b2 b3 w) (hj : j < 17) : Rn (L.set j u) x y br b1 b2 b3 (w.setCell ⟨br, j, none⟩ u) :=
  ⟨h.row.set (by rw [h.len]; exact hj), by rw [List.length_set, h.len], h.v.other h.n1.symm, h.t.other h.n2.symm, h.f.other h.n3.symm, fun k => by simpa [go_sem] using h.z k, fun k => by simpa [go_sem] using h.z1 k, fun k => by simpa [go_sem] using h.z2 k, h.n1, h.n2, h.n3, h.n4, h.n5, h.n6⟩
theorem Rn.setV {L : List Value} {x y x' : Int} {br b1 b2 b3 : Nat} {w : World} (h : Rn L x y br b1 b2 b3 w) : Rn L x' y br b1 b2 b3 (w.setCell ⟨b1, 0, none⟩ (.int .i64 x')) :=
  ⟨h.row.other h.n1, h.len, RowAt.set (j := 0) (v := .int .i64 x') h.v (by simp), h.t.other h.n4.symm, h.f.other h.n5.symm, fun k => by simpa [go_sem] using h.z k, fun k => by simpa [go_sem] using h.z1 k, fun k => by simpa [go_sem] using h.z2 k, h.n1, h.n2, h.n3, h.n4, h.n5, h.n6⟩
theorem Rn.setT {L : List Value} {x y y' : Int} {br b1 b2 b3 : Nat} {w : World} (h : Rn L x y br b1 b2 b3 w) : Rn L x y' br b1 b2 b3 (w.setCell ⟨b2, 0, none⟩ (.int .i64 y')) :=
  ⟨h.row.other h.n2, h.len, h.v.other h.n4, RowAt.set (j := 0) (v := .int .i64 y') h.t (by simp), h.f.other h.n6.symm, fun k => by simpa [go_sem] using h.z k, fun k => by simpa [go_sem] using h.z1 k, fun k => by simpa [go_sem] using h.z2 k, h.n1, h.n2, h.n3, h.n4, h.n5, h.n6⟩

/-- the own cells of who runs. -/
abbrev rnC (ev : Value) (steps en : Int) (b1 b2 b3 bi bo bv bm bx : Nat) : List Value := [ev, .slice (some ⟨b1, 0, none⟩) 1 1, .slice (some ⟨b2, 0, none⟩) 1 1, .int .i64 steps, .int .i64 en, .int .i64 0, .int .i64 1, .slice none 0 0, .slice none 0 0, .slice (some ⟨bi, 0, none⟩) 1 1, .slice (some ⟨bo, 0, none⟩) 1 1, .slice (some ⟨bv, 0, none⟩) 1 1, .slice none 0 0, .slice (some ⟨bm, 0, none⟩) 2 2, .slice (some ⟨bx, 0, none⟩) 1 1, .int .i64 9, .slice (some ⟨b3, 0, none⟩) 1 1]
def NewRn (bi bo bv bm bx : Nat) (w : World) (e : Ending) (w' : World) : Prop := ∃ br b1 b2 b3, e = .returned (.pointer (some ⟨br, 0, none⟩)) ∧ w.heap.size ≤ br ∧ w.heap.size ≤ b1 ∧ w.heap.size ≤ b2 ∧ w.heap.size ≤ b3 ∧ Rn (rnC (.slice none 0 0) 0 0 b1 b2 b3 bi bo bv bm bx) 0 0 br b1 b2 b3 w' ∧ Below w.heap.size w w'
theorem Rn.new (L : List Value) (hL : L.length = 17) (w : World) (g : Nat) (hg : w.cell? ⟨g, 0, none⟩ = some (.int .i64 0)) :
    Rn L 0 0 w.heap.size (w.heap.size + 1) (w.heap.size + 1 + 1) g (((w.alloc (.cells L.toArray 48)).alloc (.cells #[.int .i64 0] 3)).alloc (.cells #[.int .i64 0] 3)) := by
  have hlt : g < w.heap.size := World.block_lt_of_cell? w _ hg
  have b1 := (Below.refl _ w).alloc (Nat.le_refl _) (.cells L.toArray 48)
  have b2 := (Below.refl _ (w.alloc (.cells L.toArray 48))).alloc (Nat.le_refl _) (.cells #[.int .i64 0] 3)
  have b3 := (Below.refl _ ((w.alloc (.cells L.toArray 48)).alloc (.cells #[.int .i64 0] 3))).alloc (Nat.le_refl _) (.cells #[.int .i64 0] 3)
  have r1 := ((RowAt.new L 48 w).over b2).over b3
  have r2 := (RowAt.new [.int .i64 0] 3 (w.alloc (.cells L.toArray 48))).over b3
  have r3 := RowAt.new [.int .i64 0] 3 ((w.alloc (.cells L.toArray 48)).alloc (.cells #[.int .i64 0] 3))
  have s1 : (w.alloc (.cells L.toArray 48)).heap.size = w.heap.size + 1 := by simp
  have s2 : ((w.alloc (.cells L.toArray 48)).alloc (.cells #[.int .i64 0] 3)).heap.size = w.heap.size + 1 + 1 := by simp
  rw [s1] at r2
  rw [s2] at r3
  refine ⟨r1, hL, r2, r3, fun j u hu => ?_, fun j => by simp [go_sem], fun j => by simp [go_sem], fun j => by simp [go_sem], by omega, by omega, by omega, by omega, by omega, by omega⟩
  have hj : j = 0 := by
    have := (List.getElem?_eq_some_iff.1 hu).1
    simpa using this
  subst hj
  simp at hu
  subst hu
  exact cell_over b3 _ _ (cell_over b2 _ _ (cell_over b1 _ _ hg))

theorem held8b {w w0 w1 : World} {a0 a1 a2 a3 a4 a5 a6 a7 : Addr} {v0 v1 v2 v3 v4 v5 v6 v7 : Value}
    (h : w0.cell? a0 = some v0 ∧ w0.cell? a1 = some v1 ∧ w0.cell? a2 = some v2 ∧ w0.cell? a3 = some v3 ∧ w0.cell? a4 = some v4 ∧ w0.cell? a5 = some v5 ∧ w0.cell? a6 = some v6 ∧ w0.cell? a7 = some v7 ∧ Below w.heap.size w w0) (hb : Below w0.heap.size w0 w1) :
    w1.cell? a0 = some v0 ∧ w1.cell? a1 = some v1 ∧ w1.cell? a2 = some v2 ∧ w1.cell? a3 = some v3 ∧ w1.cell? a4 = some v4 ∧ w1.cell? a5 = some v5 ∧ w1.cell? a6 = some v6 ∧ w1.cell? a7 = some v7 ∧ Below w.heap.size w w1 := by
  obtain ⟨h0, h1, h2, h3, h4, h5, h6, h7, hB⟩ := h
  exact ⟨cell_over hb _ _ h0, cell_over hb _ _ h1, cell_over hb _ _ h2, cell_over hb _ _ h3, cell_over hb _ _ h4, cell_over hb _ _ h5, cell_over hb _ _ h6, cell_over hb _ _ h7, hB.trans (hb.mono hB.size)⟩

set_option maxHeartbeats 4000000 in
set_option maxRecDepth 100000 in
theorem newRunner_small (bi bo bv bm bx : Nat) (w : World) : Calls Try.prog 10 #[smallV bi bo bv bm, .slice (some ⟨bx, 0, none⟩) 1 1, .int .i64 9] w (NewRn bi bo bv bm bx w) := by
  have K := hide fun W => firsts_small bi bo bv bm W
  have hbel : Below w.heap.size w (w.alloc (.cells #[.int .i64 1, .slice none 0 0, .slice none 0 0, .slice (some ⟨bi, 0, none⟩) 1 1, .slice (some ⟨bo, 0, none⟩) 1 1, .slice (some ⟨bv, 0, none⟩) 1 1, .slice none 0 0, .slice (some ⟨bm, 0, none⟩) 2 2] 31)) := (Below.refl _ w).alloc (Nat.le_refl _) _
  have c0 : (w.alloc (.cells #[.int .i64 1, .slice none 0 0, .slice none 0 0, .slice (some ⟨bi, 0, none⟩) 1 1, .slice (some ⟨bo, 0, none⟩) 1 1, .slice (some ⟨bv, 0, none⟩) 1 1, .slice none 0 0, .slice (some ⟨bm, 0, none⟩) 2 2] 31)).cell? ⟨w.heap.size, 0, none⟩ = some (.int .i64 1) := by simp [go_sem]
  have c1 : (w.alloc (.cells #[.int .i64 1, .slice none 0 0, .slice none 0 0, .slice (some ⟨bi, 0, none⟩) 1 1, .slice (some ⟨bo, 0, none⟩) 1 1, .slice (some ⟨bv, 0, none⟩) 1 1, .slice none 0 0, .slice (some ⟨bm, 0, none⟩) 2 2] 31)).cell? ⟨w.heap.size, 1, none⟩ = some (.slice none 0 0) := by simp [go_sem]
  have c2 : (w.alloc (.cells #[.int .i64 1, .slice none 0 0, .slice none 0 0, .slice (some ⟨bi, 0, none⟩) 1 1, .slice (some ⟨bo, 0, none⟩) 1 1, .slice (some ⟨bv, 0, none⟩) 1 1, .slice none 0 0, .slice (some ⟨bm, 0, none⟩) 2 2] 31)).cell? ⟨w.heap.size, 2, none⟩ = some (.slice none 0 0) := by simp [go_sem]
  have c3 : (w.alloc (.cells #[.int .i64 1, .slice none 0 0, .slice none 0 0, .slice (some ⟨bi, 0, none⟩) 1 1, .slice (some ⟨bo, 0, none⟩) 1 1, .slice (some ⟨bv, 0, none⟩) 1 1, .slice none 0 0, .slice (some ⟨bm, 0, none⟩) 2 2] 31)).cell? ⟨w.heap.size, 3, none⟩ = some (.slice (some ⟨bi, 0, none⟩) 1 1) := by simp [go_sem]
  have c4 : (w.alloc (.cells #[.int .i64 1, .slice none 0 0, .slice none 0 0, .slice (some ⟨bi, 0, none⟩) 1 1, .slice (some ⟨bo, 0, none⟩) 1 1, .slice (some ⟨bv, 0, none⟩) 1 1, .slice none 0 0, .slice (some ⟨bm, 0, none⟩) 2 2] 31)).cell? ⟨w.heap.size, 4, none⟩ = some (.slice (some ⟨bo, 0, none⟩) 1 1) := by simp [go_sem]
  have c5 : (w.alloc (.cells #[.int .i64 1, .slice none 0 0, .slice none 0 0, .slice (some ⟨bi, 0, none⟩) 1 1, .slice (some ⟨bo, 0, none⟩) 1 1, .slice (some ⟨bv, 0, none⟩) 1 1, .slice none 0 0, .slice (some ⟨bm, 0, none⟩) 2 2] 31)).cell? ⟨w.heap.size, 5, none⟩ = some (.slice (some ⟨bv, 0, none⟩) 1 1) := by simp [go_sem]
  have c6 : (w.alloc (.cells #[.int .i64 1, .slice none 0 0, .slice none 0 0, .slice (some ⟨bi, 0, none⟩) 1 1, .slice (some ⟨bo, 0, none⟩) 1 1, .slice (some ⟨bv, 0, none⟩) 1 1, .slice none 0 0, .slice (some ⟨bm, 0, none⟩) 2 2] 31)).cell? ⟨w.heap.size, 6, none⟩ = some (.slice none 0 0) := by simp [go_sem]
  have c7 : (w.alloc (.cells #[.int .i64 1, .slice none 0 0, .slice none 0 0, .slice (some ⟨bi, 0, none⟩) 1 1, .slice (some ⟨bo, 0, none⟩) 1 1, .slice (some ⟨bv, 0, none⟩) 1 1, .slice none 0 0, .slice (some ⟨bm, 0, none⟩) 2 2] 31)).cell? ⟨w.heap.size, 7, none⟩ = some (.slice (some ⟨bm, 0, none⟩) 2 2) := by simp [go_sem]
  have mk := make25
  unfold smallV at K ⊢
  go_enter Try.func10, Try.ntmps10
  go_wp2_with fail
  have hr0 := Below.refl (w.alloc (.cells #[.int .i64 1, .slice none 0 0, .slice none 0 0, .slice (some ⟨bi, 0, none⟩) 1 1, .slice (some ⟨bo, 0, none⟩) 1 1, .slice (some ⟨bv, 0, none⟩) 1 1, .slice none 0 0, .slice (some ⟨bm, 0, none⟩) 2 2] 31)).heap.size (w.alloc (.cells #[.int .i64 1, .slice none 0 0, .slice none 0 0, .slice (some ⟨bi, 0, none⟩) 1 1, .slice (some ⟨bo, 0, none⟩) 1 1, .slice (some ⟨bv, 0, none⟩) 1 1, .slice none 0 0, .slice (some ⟨bm, 0, none⟩) 2 2] 31))
  go_region_held3 (fun W => W.cell? ⟨w.heap.size, 0, none⟩ = some (.int .i64 1) ∧ W.cell? ⟨w.heap.size, 1, none⟩ = some (.slice none 0 0) ∧ W.cell? ⟨w.heap.size, 2, none⟩ = some (.slice none 0 0) ∧ W.cell? ⟨w.heap.size, 3, none⟩ = some (.slice (some ⟨bi, 0, none⟩) 1 1) ∧ W.cell? ⟨w.heap.size, 4, none⟩ = some (.slice (some ⟨bo, 0, none⟩) 1 1) ∧ W.cell? ⟨w.heap.size, 5, none⟩ = some (.slice (some ⟨bv, 0, none⟩) 1 1) ∧ W.cell? ⟨w.heap.size, 6, none⟩ = some (.slice none 0 0) ∧ W.cell? ⟨w.heap.size, 7, none⟩ = some (.slice (some ⟨bm, 0, none⟩) 2 2) ∧ Below (w.alloc (.cells #[.int .i64 1, .slice none 0 0, .slice none 0 0, .slice (some ⟨bi, 0, none⟩) 1 1, .slice (some ⟨bo, 0, none⟩) 1 1, .slice (some ⟨bv, 0, none⟩) 1 1, .slice none 0 0, .slice (some ⟨bm, 0, none⟩) 2 2] 31)).heap.size (w.alloc (.cells #[.int .i64 1, .slice none 0 0, .slice none 0 0, .slice (some ⟨bi, 0, none⟩) 1 1, .slice (some ⟨bo, 0, none⟩) 1 1, .slice (some ⟨bv, 0, none⟩) 1 1, .slice none 0 0, .slice (some ⟨bm, 0, none⟩) 2 2] 31)) W) (first | assumption | exact ⟨c0, c1, c2, c3, c4, c5, c6, c7, below_drewN hr0 1⟩ | exact held8b (by assumption) hbp | exact held8b (by assumption) ((Below.refl _ _).alloc (Nat.le_refl _) _) | fail) (first | (go_at_call 22; refine (K.out _).mono ?_; rintro e wp ⟨g, rfl, hg, hgc, hbp⟩))
  obtain ⟨d0, d1, d2, d3, d4, d5, d6, d7, hB⟩ := (by assumption : _ ∧ _ ∧ _ ∧ _ ∧ _ ∧ _ ∧ _ ∧ _ ∧ Below _ _ _)
  have hsz := hbp.size
  have e3 := cell_over hbp _ _ c3
  have e5 := cell_over hbp _ _ c5
  clear d3 d5
  clear c0 c1 c2 c3 c4 c5 c6 c7 hr0 d0 d1 d2 d4 d6 d7
  have hgl := World.block_lt_of_cell? wp _ hgc
  have hlt := World.block_lt_of_cell? wp _ e3
  have hne : w.heap.size ≠ wp.heap.size := Nat.ne_of_lt hlt
  have HR := hide (Rn.new (rnC (.slice none 0 0) 0 0 (wp.heap.size + 1) (wp.heap.size + 1 + 1) g bi bo bv bm bx) rfl wp g hgc)
  go_wp2_with fail
  go_ret
  have hsz2 : w.heap.size + 1 ≤ wp.heap.size := by simpa using hsz
  have hg2 : w.heap.size + 1 ≤ g := by simpa using hg
  refine ⟨wp.heap.size, wp.heap.size + 1, wp.heap.size + 1 + 1, g, rfl, by omega, by omega, by omega, by omega, HR.out, ?_⟩
  exact (((hbel.drew.trans (hbp.mono hbel.drew.size)).alloc (by omega) _).alloc (by simp; omega) _).alloc (by simp; omega) _
end Go.Proofs.Ytpbnmmgocpobcaa.Ex
/- Steps of the small run. -/
namespace Go.Proofs.Ytpbnmmgocpobcaa.Ex
open Go.RowKit
set_option linter.unusedVariables false

theorem Rn.drewN {L : List Value} {x y : Int} {br b1 b2 b3 n : Nat} {w : World} (h : Rn L x y br b1 b2 b3 w) : Rn L x y br b1 b2 b3 (w.drewN n) :=
  ⟨fun j u hu => h.row j u hu, h.len, fun j u hu => h.v j u hu, fun j u hu => h.t j u hu, fun j u hu => h.f j u hu, h.z, h.z1, h.z2, h.n1, h.n2, h.n3, h.n4, h.n5, h.n6⟩

theorem grow_cell {w w' : World} {r b j : Nat} {u : Value} (hg : w.grownBy w' (some r)) (h : w.cell? ⟨b, j, none⟩ = some u) (hne : b ≠ r) : w'.cell? ⟨b, j, none⟩ = some u := by
  have hb := World.block_lt_of_cell? w _ h
  rw [World.cell?_of_block (w := w) (hg.block b hb (fun e => hne (Option.some.inj e)))]
  exact h
theorem grow_below {w w' : World} {r B : Nat} (hg : w.grownBy w' (some r)) (hB : B ≤ w.heap.size) (hr : B ≤ r) : Below B w w' :=
  ⟨hg.os, hg.tape, hg.output, hg.size, fun k hk => hg.block k (by omega) (fun e => by have := Option.some.inj e; omega)⟩
theorem grow_set {w : World} {r n j : Nat} {u : Value} : w.grownBy ((w.drewN n).setCell ⟨r, j, none⟩ u) (some r) := by
  have h := Below.heap_setCell (w.drewN n) ⟨r, j, none⟩ u
  refine ⟨rfl, rfl, rfl, by simp [World.setCell], fun k hk hne => ?_⟩
  rw [h k (fun e => hne (by rw [e]))]
  rfl

theorem grow_over {w w1 w2 : World} {r : Nat} (hg : w.grownBy w1 (some r)) (hb : Below w1.heap.size w1 w2) : w.grownBy w2 (some r) :=
  ⟨hb.os.trans hg.os, hb.tape.trans hg.tape, hb.output.trans hg.output, Nat.le_trans hg.size hb.size, fun k hk hne => (hb.block k (Nat.lt_of_lt_of_le hk hg.size)).trans (hg.block k hk hne)⟩

set_option maxHeartbeats 1000000 in
set_option maxRecDepth 100000 in
theorem step_small (ev : Value) (s x y : Int) (br b1 b2 b3 bi bo bv bm bx : Nat) (w : World) (h : Rn (rnC ev s 2 b1 b2 b3 bi bo bv bm bx) x y br b1 b2 b3 w) (hs : 0 ≤ s ∧ s < 9) :
    Calls Try.prog 31 #[.pointer (some ⟨br, 0, none⟩)] w fun e w' => e = .returned (.bool true) ∧ Rn (rnC ev (s + 1) 2 b1 b2 b3 bi bo bv bm bx) x y br b1 b2 b3 w' ∧ w.grownBy w' (some br) := by
  have HR : Hid (∀ n, Rn (rnC ev (s + 1) 2 b1 b2 b3 bi bo bv bm bx) x y br b1 b2 b3 ((w.drewN n).setCell ⟨br, 3, none⟩ (.int .i64 (s + 1)))) := fun n => h.drewN.setR (j := 3) (u := .int .i64 (s + 1)) (by omega)
  have c3 := h.row 3 _ rfl
  have c15 := h.row 15 _ rfl
  have z3 := h.z 3
  have hl := h.lt.1
  obtain ⟨s0, s1⟩ := hs
  have hne : (s == 9) = false := by simp; omega
  clear h
  go_enter Try.func31, Try.ntmps31
  go_wp2_with fail
  go_quiet ((fail))
  go_wp2_with fail
  go_ret
  exact ⟨rfl, HR.out nq, grow_set⟩

set_option maxHeartbeats 1000000 in
set_option maxRecDepth 100000 in
theorem many_nil (w : World) : Calls Try.prog 30 #[.slice none 0 0] w fun e w' => e = .returned (.int .i64 0) ∧ w' = w := by
  go_enter Try.func30, Try.ntmps30
  go_wp2_with fail
  go_loopw [3, 8] (fun c i wr => c = .int .i64 0 ∧ i = .int .i64 0 ∧ wr = w) (fun _ _ _ => 0)
  case atStart => exact ⟨rfl, rfl, rfl⟩
  case round =>
    obtain ⟨rfl, rfl, rfl⟩ := hrel
    go_wp2_with fail
    go_ret
    exact ⟨rfl, by first | rfl | trivial⟩

set_option maxHeartbeats 1000000 in
set_option maxRecDepth 100000 in
theorem size_small (k a b c d : Int) (w : World) : Calls Try.prog 33 #[.agg #[.int .i64 k, .int .i64 a, .int .i64 b, .int .i64 c, .int .i64 d, .slice none 0 0, .slice none 0 0, .slice none 0 0, .slice none 0 0]] w fun e w' => e = .returned (.int .i64 1) ∧ Below w.heap.size w w' := by
  have K := hide many_nil
  have hbel : Below w.heap.size w (w.alloc (.cells #[.int .i64 k, .int .i64 a, .int .i64 b, .int .i64 c, .int .i64 d, .slice none 0 0, .slice none 0 0, .slice none 0 0, .slice none 0 0] 71)) := (Below.refl _ w).alloc (Nat.le_refl _) _
  have q7 : (w.alloc (.cells #[.int .i64 k, .int .i64 a, .int .i64 b, .int .i64 c, .int .i64 d, .slice none 0 0, .slice none 0 0, .slice none 0 0, .slice none 0 0] 71)).cell? ⟨w.heap.size, 7, none⟩ = some (.slice none 0 0) := by simp [go_sem]
  have q8 : (w.alloc (.cells #[.int .i64 k, .int .i64 a, .int .i64 b, .int .i64 c, .int .i64 d, .slice none 0 0, .slice none 0 0, .slice none 0 0, .slice none 0 0] 71)).cell? ⟨w.heap.size, 8, none⟩ = some (.slice none 0 0) := by simp [go_sem]
  go_enter Try.func33, Try.ntmps33
  go_wp2_with fail
  go_quiet ((go_at_call 30; exact Calls.quiet_of_same (K.out _)))
  go_wp2_with fail
  go_ret
  exact ⟨rfl, below_drewN hbel nq⟩

set_option maxHeartbeats 1000000 in
set_option maxRecDepth 100000 in
theorem next_small (ev : Value) (s x : Int) (br b1 b2 b3 bi bo bv bm bx by' : Nat) (w : World) (h : Rn (rnC ev s 2 b1 b2 b3 bi bo bv bm bx) x 0 br b1 b2 b3 w)
    (q : w.cell? ⟨bx, 0, none⟩ = some (.slice (some ⟨by', 0, none⟩) 1 1)) (q7 : w.cell? ⟨by', 0, none⟩ = some (.int .i64 7)) (hn : b2 ≠ by') :
    Calls Try.prog 48 #[.pointer (some ⟨br, 0, none⟩), .int .i64 0] w fun e w' => e = .returned (.int .i64 7) ∧ Rn (rnC ev s 2 b1 b2 b3 bi bo bv bm bx) x 1 br b1 b2 b3 w' ∧ w.grownBy w' (some b2) := by
  have HR : Hid (∀ n, Rn (rnC ev s 2 b1 b2 b3 bi bo bv bm bx) x 1 br b1 b2 b3 ((w.drewN n).setCell ⟨b2, 0, none⟩ (.int .i64 1))) := fun n => h.drewN.setT
  have c2 := h.row 2 _ rfl
  have c14 := h.row 14 _ rfl
  have t0 := h.t 0 _ rfl
  have z2 := h.z2 0
  obtain ⟨l0, l1, l2, l3⟩ := h.lt
  have hn' : by' ≠ b2 := hn.symm
  clear h
  go_enter Try.func48, Try.ntmps48
  go_wp2_with fail
  go_quiet ((fail))
  go_wp2_with fail
  go_ret
  exact ⟨rfl, HR.out nq, grow_set⟩

theorem held4 {w w0 w1 : World} {a0 a1 a2 a3 : Addr} {v0 v1 v2 v3 : Value}
    (h : w0.cell? a0 = some v0 ∧ w0.cell? a1 = some v1 ∧ w0.cell? a2 = some v2 ∧ w0.cell? a3 = some v3 ∧ Below w.heap.size w w0) (hb : Below w0.heap.size w0 w1) :
    w1.cell? a0 = some v0 ∧ w1.cell? a1 = some v1 ∧ w1.cell? a2 = some v2 ∧ w1.cell? a3 = some v3 ∧ Below w.heap.size w w1 := by
  obtain ⟨h0, h1, h2, h3, hB⟩ := h
  exact ⟨cell_over hb _ _ h0, cell_over hb _ _ h1, cell_over hb _ _ h2, cell_over hb _ _ h3, hB.trans (hb.mono hB.size)⟩
theorem ints1 {b : Nat} {x : Int} {w : World} (h : RowAt [.int .i64 x] w b) : IsInts w (.slice (some ⟨b, 0, none⟩) 1 1) [x] := by
  refine ⟨some ⟨b, 0, none⟩, 1, rfl, fun _ => ⟨b, 0, rfl, fun i hi => ?_⟩⟩
  have hi0 : i = 0 := by simpa using hi
  subst hi0
  exact h 0 _ rfl

set_option maxHeartbeats 1000000 in
set_option maxRecDepth 100000 in
theorem value_small (ev : Value) (s y : Int) (br b1 b2 b3 bi bo bv bm bx : Nat) (w : World) (h : Rn (rnC ev s 2 b1 b2 b3 bi bo bv bm bx) 7 y br b1 b2 b3 w) :
    Calls Try.prog 46 #[.pointer (some ⟨br, 0, none⟩), .agg #[.int .i64 2, .int .i64 0, .slice none 0 0]] w fun e w' => e = .returned (.int .i64 7) ∧ Below w.heap.size w w' := by
  have hbel : Below w.heap.size w (w.alloc (.cells #[.int .i64 2, .int .i64 0, .slice none 0 0] 54)) := (Below.refl _ w).alloc (Nat.le_refl _) _
  have K := hide fun W (hB : Below w.heap.size w W) => pval_any [7] (by simp [I32]) 1 _ _ W _ (name0 W) (Or.inr (Or.inl ⟨rfl, by decide, by decide⟩)) (ints1 (h.v.over hB))
  have c1 := cell_over hbel _ _ (h.row 1 _ rfl)
  have e0 : (w.alloc (.cells #[.int .i64 2, .int .i64 0, .slice none 0 0] 54)).cell? ⟨w.heap.size, 0, none⟩ = some (.int .i64 2) := by simp [go_sem]
  have e1 : (w.alloc (.cells #[.int .i64 2, .int .i64 0, .slice none 0 0] 54)).cell? ⟨w.heap.size, 1, none⟩ = some (.int .i64 0) := by simp [go_sem]
  have e2 : (w.alloc (.cells #[.int .i64 2, .int .i64 0, .slice none 0 0] 54)).cell? ⟨w.heap.size, 2, none⟩ = some (.slice none 0 0) := by simp [go_sem]
  clear h
  go_enter Try.func46, Try.ntmps46
  go_wp2_with fail
  go_region_held3 (fun W => W.cell? ⟨w.heap.size, 0, none⟩ = some (.int .i64 2) ∧ W.cell? ⟨w.heap.size, 1, none⟩ = some (.int .i64 0) ∧ W.cell? ⟨w.heap.size, 2, none⟩ = some (.slice none 0 0) ∧ W.cell? ⟨br, 1, none⟩ = some (.slice (some ⟨b1, 0, none⟩) 1 1) ∧ Below w.heap.size w W) (first | assumption | exact ⟨e0, e1, e2, c1, below_drewN hbel 1⟩ | exact held4 (by assumption) hbp | fail) (first | (go_at_call 25; refine (K.out _ (by assumption : _ ∧ _ ∧ _ ∧ _ ∧ Below _ _ _).2.2.2.2).mono ?_; rintro e wp ⟨rfl, hbp⟩))
  have hB := (by assumption : _ ∧ _ ∧ _ ∧ _ ∧ Below _ _ _).2.2.2.2
  go_wp2_with fail
  go_ret
  exact ⟨rfl, hB⟩

theorem Try.infoE : (Try.prog.info? 56).map (fun i => (i.zero, i.size, i.bytes)) = some (some (.agg #[.int .i64 0, .int .i64 0, .int .i64 0, .int .i64 0]), 4, 32) := by kernel_rfl

/-- one event was told. -/
def Told (s y : Int) (br b1 b2 b3 bi bo bv bm bx : Nat) (w w' : World) : Prop :=
  ∃ g c, Rn (rnC (.slice (some ⟨g, 0, none⟩) 1 c) s 2 b1 b2 b3 bi bo bv bm bx) 7 y br b1 b2 b3 w' ∧ RowAt [.int .i64 1, .int .i64 1, .int .i64 0, .int .i64 7] w' g ∧ g ≠ br ∧ w.heap.size ≤ g ∧ w.grownBy w' (some br)

theorem RowAt.newA (cs : Array Value) (t : Nat) (w : World) : RowAt cs.toList (w.alloc (.cells cs t)) w.heap.size := fun j u hu => by
  rw [Lib.cell_of_heap (heap_alloc_new w _)]
  simpa using hu
theorem RowAt.more {cs rest : List Value} {w : World} {b : Nat} (h : RowAt (cs ++ rest) w b) : RowAt cs w b := fun j u hu => h j u (by rw [List.getElem?_append_left (List.getElem?_eq_some_iff.1 hu).1]; exact hu)

set_option maxHeartbeats 1000000 in
set_option maxRecDepth 100000 in
theorem tell_small (s y : Int) (br b1 b2 b3 bi bo bv bm bx : Nat) (w : World) (h : Rn (rnC (.slice none 0 0) s 2 b1 b2 b3 bi bo bv bm bx) 7 y br b1 b2 b3 w) :
    Calls Try.prog 49 #[.pointer (some ⟨br, 0, none⟩), .int .i64 1, .int .i64 1, .int .i64 0, .int .i64 7] w fun e w' => e = .returned (.tuple #[]) ∧ Told s y br b1 b2 b3 bi bo bv bm bx w w' := by
  have HH := hide h
  have c0 := h.row 0 _ rfl
  have z0 := h.z 0
  obtain ⟨l0, l1, l2, l3⟩ := h.lt
  clear h
  go_enter Try.func49, Try.ntmps49
  go_wp2_with fail
  go_end0
  refine ⟨rfl, w.heap.size + 1, _, (((HH.out.setR (j := 0) (u := .slice (some ⟨w.heap.size + 1, 0, none⟩) 1 _) (by omega)).over ((Below.refl _ _).alloc (Nat.le_refl _) _)).over ((Below.refl _ _).alloc (Nat.le_refl _) _)).drewN (n := 1), ?_, by omega, by omega, ?_⟩
  · have r := RowAt.newA (#[.int .i64 1, .int .i64 1, .int .i64 0, .int .i64 7] ++ Builtin.zeroCells #[.int .i64 0, .int .i64 0, .int .i64 0, .int .i64 0] ((Question.appendCap 1 0 56).cut (w.tape w.drawn (Question.appendCap 1 0 56)) - 1)) 56 ((w.setCell ⟨br, 0, none⟩ (.slice (some ⟨w.heap.size + 1, 0, none⟩) 1 ((Question.appendCap 1 0 56).cut (w.tape w.drawn (Question.appendCap 1 0 56))))).alloc (.cells #[.int .i64 1, .int .i64 1, .int .i64 0, .int .i64 7] 56))
    rw [Array.toList_append] at r
    have r2 := (r.more).drew
    have hs : ((w.setCell ⟨br, 0, none⟩ (.slice (some ⟨w.heap.size + 1, 0, none⟩) 1 ((Question.appendCap 1 0 56).cut (w.tape w.drawn (Question.appendCap 1 0 56))))).alloc (.cells #[.int .i64 1, .int .i64 1, .int .i64 0, .int .i64 7] 56)).heap.size = w.heap.size + 1 := by simp
    rw [hs] at r2
    exact r2
  · have hb1 := (Below.refl _ (w.setCell ⟨br, 0, none⟩ (.slice (some ⟨w.heap.size + 1, 0, none⟩) 1 ((Question.appendCap 1 0 56).cut (w.tape w.drawn (Question.appendCap 1 0 56)))))).alloc (Nat.le_refl _) (.cells #[.int .i64 1, .int .i64 1, .int .i64 0, .int .i64 7] 56)
    exact grow_over (grow_set (n := 0)) ((hb1.alloc (by simp) _).drew)
end Go.Proofs.Ytpbnmmgocpobcaa.Ex
