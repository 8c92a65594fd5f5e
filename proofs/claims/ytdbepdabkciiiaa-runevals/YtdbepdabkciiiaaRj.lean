/- Steps of the small run. -/
import Derived.Test.YtdbepdabkciiiaaRi
namespace Go.Proofs.Ytdbepdabkciiiaa.Ex
open Go.RowKit
set_option linter.unusedVariables false

theorem Rn.drewN {L : List Value} {x y : Int} {br b1 b2 b3 n : Nat} {w : World} (h : Rn L x y br b1 b2 b3 w) : Rn L x y br b1 b2 b3 (w.drewN n) :=
  ⟨fun j u hu => h.row j u hu, h.len, fun j u hu => h.v j u hu, fun j u hu => h.t j u hu, fun j u hu => h.f j u hu, h.z, h.z1, h.z2, h.n1, h.n2, h.n3, h.n4, h.n5, h.n6⟩

theorem grow_cell {w w' : World} {r b j : Nat} {u : Value} (hg : w.grownBy w' (some r)) (h : w.cell? ⟨b, j, none⟩ = some u) (hne : b ≠ r) : w'.cell? ⟨b, j, none⟩ = some u := by
  have hb := World.block_lt_of_cell? w _ h
  rw [World.cell?_of_block (w := w) (hg.block b hb (fun e => hne (Option.some.inj e)))]
  exact h
theorem grow_below {w w' : World} {r B : Nat} (hg : w.grownBy w' (some r)) (hB : B ≤ w.heap.size) (hr : B ≤ r) : Below B w w' :=
  ⟨hg.os, hg.tape, hg.output, hg.size, fun k hk => hg.block k (by omega) (fun e => by have := Option.some.inj e; omega)⟩
theorem grow_set {w : World} {r n j : Nat} {u : Value} : w.grownBy ((w.drewN n).setCell ⟨r, j, none⟩ u) (some r) := by
  have h := Below.heap_setCell (w.drewN n) ⟨r, j, none⟩ u
  refine ⟨rfl, rfl, rfl, by simp [World.setCell], fun k hk hne => ?_⟩
  rw [h k (fun e => hne (by rw [e]))]
  rfl

theorem grow_over {w w1 w2 : World} {r : Nat} (hg : w.grownBy w1 (some r)) (hb : Below w1.heap.size w1 w2) : w.grownBy w2 (some r) :=
  ⟨hb.os.trans hg.os, hb.tape.trans hg.tape, hb.output.trans hg.output, Nat.le_trans hg.size hb.size, fun k hk hne => (hb.block k (Nat.lt_of_lt_of_le hk hg.size)).trans (hg.block k hk hne)⟩

set_option maxHeartbeats 1000000 in
set_option maxRecDepth 100000 in
theorem step_small (ev : Value) (s x y : Int) (br b1 b2 b3 bi bo bv bm bx : Nat) (w : World) (h : Rn (rnC ev s 2 b1 b2 b3 bi bo bv bm bx) x y br b1 b2 b3 w) (hs : 0 ≤ s ∧ s < 9) :
    Calls Try.prog 40 #[.pointer (some ⟨br, 0, none⟩)] w fun e w' => e = .returned (.bool true) ∧ Rn (rnC ev (s + 1) 2 b1 b2 b3 bi bo bv bm bx) x y br b1 b2 b3 w' ∧ w.grownBy w' (some br) := by
  have HR : Hid (∀ n, Rn (rnC ev (s + 1) 2 b1 b2 b3 bi bo bv bm bx) x y br b1 b2 b3 ((w.drewN n).setCell ⟨br, 3, none⟩ (.int .i64 (s + 1)))) := fun n => h.drewN.setR (j := 3) (u := .int .i64 (s + 1)) (by omega)
  have c3 := h.row 3 _ rfl
  have c15 := h.row 15 _ rfl
  have z3 := h.z 3
  have hl := h.lt.1
  obtain ⟨s0, s1⟩ := hs
  have hne : (s == 9) = false := by simp; omega
  clear h
  go_enter Try.func40, Try.ntmps40
  go_wp2_with fail
  go_quiet ((fail))
  go_wp2_with fail
  go_ret
  exact ⟨rfl, HR.out nq, grow_set⟩

set_option maxHeartbeats 1000000 in
set_option maxRecDepth 100000 in
theorem many_nil (w : World) : Calls Try.prog 39 #[.slice none 0 0] w fun e w' => e = .returned (.int .i64 0) ∧ w' = w := by
  go_enter Try.func39, Try.ntmps39
  go_wp2_with fail
  go_loopw [3, 8] (fun c i wr => c = .int .i64 0 ∧ i = .int .i64 0 ∧ wr = w) (fun _ _ _ => 0)
  case atStart => exact ⟨rfl, rfl, rfl⟩
  case round =>
    obtain ⟨rfl, rfl, rfl⟩ := hrel
    go_wp2_with fail
    go_ret
    exact ⟨rfl, by first | rfl | trivial⟩

set_option maxHeartbeats 1000000 in
set_option maxRecDepth 100000 in
theorem size_small (k a b c d : Int) (w : World) : Calls Try.prog 42 #[.agg #[.int .i64 k, .int .i64 a, .int .i64 b, .int .i64 c, .int .i64 d, .slice none 0 0, .slice none 0 0, .slice none 0 0, .slice none 0 0]] w fun e w' => e = .returned (.int .i64 1) ∧ Below w.heap.size w w' := by
  have K := hide many_nil
  have hbel : Below w.heap.size w (w.alloc (.cells #[.int .i64 k, .int .i64 a, .int .i64 b, .int .i64 c, .int .i64 d, .slice none 0 0, .slice none 0 0, .slice none 0 0, .slice none 0 0] 72)) := (Below.refl _ w).alloc (Nat.le_refl _) _
  have q7 : (w.alloc (.cells #[.int .i64 k, .int .i64 a, .int .i64 b, .int .i64 c, .int .i64 d, .slice none 0 0, .slice none 0 0, .slice none 0 0, .slice none 0 0] 72)).cell? ⟨w.heap.size, 7, none⟩ = some (.slice none 0 0) := by simp [go_sem]
  have q8 : (w.alloc (.cells #[.int .i64 k, .int .i64 a, .int .i64 b, .int .i64 c, .int .i64 d, .slice none 0 0, .slice none 0 0, .slice none 0 0, .slice none 0 0] 72)).cell? ⟨w.heap.size, 8, none⟩ = some (.slice none 0 0) := by simp [go_sem]
  go_enter Try.func42, Try.ntmps42
  go_wp2_with fail
  go_quiet ((go_at_call 39; exact Calls.quiet_of_same (K.out _)))
  go_wp2_with fail
  go_ret
  exact ⟨rfl, below_drewN hbel nq⟩

set_option maxHeartbeats 1000000 in
set_option maxRecDepth 100000 in
theorem next_small (ev : Value) (s x : Int) (br b1 b2 b3 bi bo bv bm bx by' : Nat) (w : World) (h : Rn (rnC ev s 2 b1 b2 b3 bi bo bv bm bx) x 0 br b1 b2 b3 w)
    (q : w.cell? ⟨bx, 0, none⟩ = some (.slice (some ⟨by', 0, none⟩) 1 1)) (q7 : w.cell? ⟨by', 0, none⟩ = some (.int .i64 7)) (hn : b2 ≠ by') :
    Calls Try.prog 54 #[.pointer (some ⟨br, 0, none⟩), .int .i64 0] w fun e w' => e = .returned (.int .i64 7) ∧ Rn (rnC ev s 2 b1 b2 b3 bi bo bv bm bx) x 1 br b1 b2 b3 w' ∧ w.grownBy w' (some b2) := by
  have HR : Hid (∀ n, Rn (rnC ev s 2 b1 b2 b3 bi bo bv bm bx) x 1 br b1 b2 b3 ((w.drewN n).setCell ⟨b2, 0, none⟩ (.int .i64 1))) := fun n => h.drewN.setT
  have c2 := h.row 2 _ rfl
  have c14 := h.row 14 _ rfl
  have t0 := h.t 0 _ rfl
  have z2 := h.z2 0
  obtain ⟨l0, l1, l2, l3⟩ := h.lt
  have hn' : by' ≠ b2 := hn.symm
  clear h
  go_enter Try.func54, Try.ntmps54
  go_wp2_with fail
  go_quiet ((fail))
  go_wp2_with fail
  go_ret
  exact ⟨rfl, HR.out nq, grow_set⟩

theorem held4 {w w0 w1 : World} {a0 a1 a2 a3 : Addr} {v0 v1 v2 v3 : Value}
    (h : w0.cell? a0 = some v0 ∧ w0.cell? a1 = some v1 ∧ w0.cell? a2 = some v2 ∧ w0.cell? a3 = some v3 ∧ Below w.heap.size w w0) (hb : Below w0.heap.size w0 w1) :
    w1.cell? a0 = some v0 ∧ w1.cell? a1 = some v1 ∧ w1.cell? a2 = some v2 ∧ w1.cell? a3 = some v3 ∧ Below w.heap.size w w1 := by
  obtain ⟨h0, h1, h2, h3, hB⟩ := h
  exact ⟨cell_over hb _ _ h0, cell_over hb _ _ h1, cell_over hb _ _ h2, cell_over hb _ _ h3, hB.trans (hb.mono hB.size)⟩
theorem ints1 {b : Nat} {x : Int} {w : World} (h : RowAt [.int .i64 x] w b) : IsInts w (.slice (some ⟨b, 0, none⟩) 1 1) [x] := by
  refine ⟨some ⟨b, 0, none⟩, 1, rfl, fun _ => ⟨b, 0, rfl, fun i hi => ?_⟩⟩
  have hi0 : i = 0 := by simpa using hi
  subst hi0
  exact h 0 _ rfl

set_option maxHeartbeats 1000000 in
set_option maxRecDepth 100000 in
theorem value_small (ev : Value) (s y : Int) (br b1 b2 b3 bi bo bv bm bx : Nat) (w : World) (h : Rn (rnC ev s 2 b1 b2 b3 bi bo bv bm bx) 7 y br b1 b2 b3 w) :
    Calls Try.prog 52 #[.pointer (some ⟨br, 0, none⟩), .agg #[.int .i64 2, .int .i64 0, .slice none 0 0]] w fun e w' => e = .returned (.int .i64 7) ∧ Below w.heap.size w w' := by
  have hbel : Below w.heap.size w (w.alloc (.cells #[.int .i64 2, .int .i64 0, .slice none 0 0] 24)) := (Below.refl _ w).alloc (Nat.le_refl _) _
  have K := hide fun W (hB : Below w.heap.size w W) => pval_any [7] (by simp [I32]) 1 _ _ W _ (name0 W) (Or.inr (Or.inl ⟨rfl, by decide, by decide⟩)) (ints1 (h.v.over hB))
  have c1 := cell_over hbel _ _ (h.row 1 _ rfl)
  have e0 : (w.alloc (.cells #[.int .i64 2, .int .i64 0, .slice none 0 0] 24)).cell? ⟨w.heap.size, 0, none⟩ = some (.int .i64 2) := by simp [go_sem]
  have e1 : (w.alloc (.cells #[.int .i64 2, .int .i64 0, .slice none 0 0] 24)).cell? ⟨w.heap.size, 1, none⟩ = some (.int .i64 0) := by simp [go_sem]
  have e2 : (w.alloc (.cells #[.int .i64 2, .int .i64 0, .slice none 0 0] 24)).cell? ⟨w.heap.size, 2, none⟩ = some (.slice none 0 0) := by simp [go_sem]
  clear h
  go_enter Try.func52, Try.ntmps52
  go_wp2_with fail
  go_region_held3 (fun W => W.cell? ⟨w.heap.size, 0, none⟩ = some (.int .i64 2) ∧ W.cell? ⟨w.heap.size, 1, none⟩ = some (.int .i64 0) ∧ W.cell? ⟨w.heap.size, 2, none⟩ = some (.slice none 0 0) ∧ W.cell? ⟨br, 1, none⟩ = some (.slice (some ⟨b1, 0, none⟩) 1 1) ∧ Below w.heap.size w W) (first | assumption | exact ⟨e0, e1, e2, c1, below_drewN hbel 1⟩ | exact held4 (by assumption) hbp | fail) (first | (go_at_call 11; refine (K.out _ (by assumption : _ ∧ _ ∧ _ ∧ _ ∧ Below _ _ _).2.2.2.2).mono ?_; rintro e wp ⟨rfl, hbp⟩))
  have hB := (by assumption : _ ∧ _ ∧ _ ∧ _ ∧ Below _ _ _).2.2.2.2
  go_wp2_with fail
  go_ret
  exact ⟨rfl, hB⟩

theorem Try.infoE : (Try.prog.info? 54).map (fun i => (i.zero, i.size, i.bytes)) = some (some (.agg #[.int .i64 0, .int .i64 0, .int .i64 0, .int .i64 0]), 4, 32) := by kernel_rfl

/-- one event was told. -/
def Told (s y : Int) (br b1 b2 b3 bi bo bv bm bx : Nat) (w w' : World) : Prop :=
  ∃ g c, Rn (rnC (.slice (some ⟨g, 0, none⟩) 1 c) s 2 b1 b2 b3 bi bo bv bm bx) 7 y br b1 b2 b3 w' ∧ RowAt [.int .i64 1, .int .i64 1, .int .i64 0, .int .i64 7] w' g ∧ g ≠ br ∧ w.heap.size ≤ g ∧ w.grownBy w' (some br)

theorem RowAt.newA (cs : Array Value) (t : Nat) (w : World) : RowAt cs.toList (w.alloc (.cells cs t)) w.heap.size := fun j u hu => by
  rw [Lib.cell_of_heap (heap_alloc_new w _)]
  simpa using hu
theorem RowAt.more {cs rest : List Value} {w : World} {b : Nat} (h : RowAt (cs ++ rest) w b) : RowAt cs w b := fun j u hu => h j u (by rw [List.getElem?_append_left (List.getElem?_eq_some_iff.1 hu).1]; exact hu)

set_option maxHeartbeats 1000000 in
set_option maxRecDepth 100000 in
theorem tell_small (s y : Int) (br b1 b2 b3 bi bo bv bm bx : Nat) (w : World) (h : Rn (rnC (.slice none 0 0) s 2 b1 b2 b3 bi bo bv bm bx) 7 y br b1 b2 b3 w) :
    Calls Try.prog 55 #[.pointer (some ⟨br, 0, none⟩), .int .i64 1, .int .i64 1, .int .i64 0, .int .i64 7] w fun e w' => e = .returned (.tuple #[]) ∧ Told s y br b1 b2 b3 bi bo bv bm bx w w' := by
  have HH := hide h
  have c0 := h.row 0 _ rfl
  have z0 := h.z 0
  obtain ⟨l0, l1, l2, l3⟩ := h.lt
  clear h
  go_enter Try.func55, Try.ntmps55
  go_wp2_with fail
  go_end0
  refine ⟨rfl, w.heap.size + 1, _, (((HH.out.setR (j := 0) (u := .slice (some ⟨w.heap.size + 1, 0, none⟩) 1 _) (by omega)).over ((Below.refl _ _).alloc (Nat.le_refl _) _)).over ((Below.refl _ _).alloc (Nat.le_refl _) _)).drewN (n := 1), ?_, by omega, by omega, ?_⟩
  · have r := RowAt.newA (#[.int .i64 1, .int .i64 1, .int .i64 0, .int .i64 7] ++ Builtin.zeroCells #[.int .i64 0, .int .i64 0, .int .i64 0, .int .i64 0] ((Question.appendCap 1 0 54).cut (w.tape w.drawn (Question.appendCap 1 0 54)) - 1)) 54 ((w.setCell ⟨br, 0, none⟩ (.slice (some ⟨w.heap.size + 1, 0, none⟩) 1 ((Question.appendCap 1 0 54).cut (w.tape w.drawn (Question.appendCap 1 0 54))))).alloc (.cells #[.int .i64 1, .int .i64 1, .int .i64 0, .int .i64 7] 54))
    rw [Array.toList_append] at r
    have r2 := (r.more).drew
    have hs : ((w.setCell ⟨br, 0, none⟩ (.slice (some ⟨w.heap.size + 1, 0, none⟩) 1 ((Question.appendCap 1 0 54).cut (w.tape w.drawn (Question.appendCap 1 0 54))))).alloc (.cells #[.int .i64 1, .int .i64 1, .int .i64 0, .int .i64 7] 54)).heap.size = w.heap.size + 1 := by simp
    rw [hs] at r2
    exact r2
  · have hb1 := (Below.refl _ (w.setCell ⟨br, 0, none⟩ (.slice (some ⟨w.heap.size + 1, 0, none⟩) 1 ((Question.appendCap 1 0 54).cut (w.tape w.drawn (Question.appendCap 1 0 54)))))).alloc (Nat.le_refl _) (.cells #[.int .i64 1, .int .i64 1, .int .i64 0, .int .i64 7] 54)
    exact grow_over (grow_set (n := 0)) ((hb1.alloc (by simp) _).drew)
end Go.Proofs.Ytdbepdabkciiiaa.Ex
