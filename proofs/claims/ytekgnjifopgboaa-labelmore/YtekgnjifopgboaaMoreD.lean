/- Policies put together: two lists, each with one policy more, in whatever order it is done. -/
import Derived.Test.YtekgnjifopgboaaMoreP
import Derived.Deep.RegionHeld3
namespace Go.Proofs.Ytekgnjifopgboaa
open Go.RowKit
set_option linter.unusedVariables false
attribute [local go_sem ↓] Go.wp_at_zero Go.wp_at_succ

def moreOps : Array Oper := #[{ dst := some 26, op := Op.buildSlice 25 0 #[], type := 25, pos := "levels.go:175", after := #[], guard := none }, { dst := some 27, op := Op.fieldAddr 27 (Operand.tmp 4) 0, type := 0, pos := "levels.go:175", after := #[], guard := none }, { dst := some 28, op := Op.load 25 (Operand.tmp 27), type := 25, pos := "levels.go:175", after := #[{ on := 1, ground := Ground.data }], guard := none }, { dst := some 29, op := Op.call { callee := Callee.builtin Builtin.append, args := #[Operand.tmp 26, Operand.tmp 28], argTypes := #[25, 25] }, type := 25, pos := "levels.go:175", after := #[{ on := 0, ground := Ground.data }, { on := 2, ground := Ground.data }], guard := none }, { dst := some 30, op := Op.load 50 (Operand.tmp 5), type := 50, pos := "levels.go:175", after := #[], guard := none }, { dst := some 31, op := Op.buildSlice 25 1 #[(0, Operand.tmp 30)], type := 25, pos := "levels.go:175", after := #[{ on := 4, ground := Ground.data }], guard := none }, { dst := some 32, op := Op.call { callee := Callee.builtin Builtin.append, args := #[Operand.tmp 29, Operand.tmp 31], argTypes := #[25, 25] }, type := 25, pos := "levels.go:175", after := #[{ on := 3, ground := Ground.data }, { on := 5, ground := Ground.data }, { on := 3, ground := Ground.chain }], guard := none }, { dst := some 33, op := Op.buildSlice 25 0 #[], type := 25, pos := "levels.go:175", after := #[], guard := none }, { dst := some 34, op := Op.fieldAddr 27 (Operand.tmp 4) 1, type := 0, pos := "levels.go:175", after := #[], guard := none }, { dst := some 35, op := Op.load 25 (Operand.tmp 34), type := 25, pos := "levels.go:175", after := #[{ on := 8, ground := Ground.data }], guard := none }, { dst := some 36, op := Op.call { callee := Callee.builtin Builtin.append, args := #[Operand.tmp 33, Operand.tmp 35], argTypes := #[25, 25] }, type := 25, pos := "levels.go:175", after := #[{ on := 7, ground := Ground.data }, { on := 9, ground := Ground.data }, { on := 6, ground := Ground.chain }], guard := none }, { dst := some 37, op := Op.load 50 (Operand.tmp 5), type := 50, pos := "levels.go:175", after := #[], guard := none }, { dst := some 38, op := Op.buildSlice 25 1 #[(0, Operand.tmp 37)], type := 25, pos := "levels.go:175", after := #[{ on := 11, ground := Ground.data }], guard := none }, { dst := some 39, op := Op.call { callee := Callee.builtin Builtin.append, args := #[Operand.tmp 36, Operand.tmp 38], argTypes := #[25, 25] }, type := 25, pos := "levels.go:175", after := #[{ on := 10, ground := Ground.data }, { on := 12, ground := Ground.data }, { on := 10, ground := Ground.chain }], guard := none }, { dst := some 40, op := Op.build 27 #[(0, Operand.tmp 32), (1, Operand.tmp 39)], type := 27, pos := "levels.go:175", after := #[{ on := 6, ground := Ground.data }, { on := 13, ground := Ground.data }], guard := none }, { dst := some 9, op := Op.alloc 27, type := 0, pos := "levels.go:175", after := #[], guard := none }, { dst := none, op := Op.store 27 (Operand.tmp 9) (Operand.tmp 40), type := 0, pos := "levels.go:175", after := #[{ on := 15, ground := Ground.data }, { on := 14, ground := Ground.data }, { on := 13, ground := Ground.chain }, { on := 0, ground := Ground.phase }, { on := 1, ground := Ground.phase }, { on := 2, ground := Ground.phase }, { on := 3, ground := Ground.phase }, { on := 4, ground := Ground.phase }, { on := 5, ground := Ground.phase }, { on := 6, ground := Ground.phase }, { on := 7, ground := Ground.phase }, { on := 8, ground := Ground.phase }, { on := 9, ground := Ground.phase }, { on := 10, ground := Ground.phase }, { on := 11, ground := Ground.phase }, { on := 12, ground := Ground.phase }, { on := 13, ground := Ground.phase }, { on := 14, ground := Ground.phase }, { on := 15, ground := Ground.phase }], guard := none }]
def moreFrame (s0 s1 s2 s3 s4 s5 s6 s7 s8 s12 s13 s14 s15 s16 s17 s18 s19 s20 s21 s27 s28 s30 s34 s35 s37 : Value) (v26 v29 v31 v32 v33 v36 v38 v39 v40 v9 : Value) : Act := { tmps := #[s0, s1, s2, s3, s4, s5, s6, s7, s8, v9, undef, undef, s12, s13, s14, s15, s16, s17, s18, s19, s20, s21, undef, undef, undef, undef, v26, s27, s28, v29, s30, v31, v32, v33, s34, s35, v36, s37, v38, v39, v40, undef, undef, undef, undef, undef, undef, undef, undef, undef, undef, undef, undef, undef, undef, undef, undef, undef, undef, undef, undef, undef, undef, undef, undef, undef, undef, undef, undef, undef, undef, undef, undef, undef, undef, undef, undef, undef, undef, undef, undef, undef, undef, undef, undef, undef, undef, undef, undef, undef, undef, undef, undef, undef, undef, undef, undef, undef, undef, undef, undef, undef, undef, undef, undef, undef, undef, undef, undef, undef, undef, undef, undef, undef, undef, undef, undef, undef, undef, undef, undef, undef, undef, undef, undef, undef, undef, undef, undef, undef, undef, undef, undef, undef, undef], defers := [] }

/-- a row of the call's own. -/
def RowC (W : World) (B g c k : Nat) (xs : List Value) : Prop := W.ownsRow B 50 2 (.slice (some ⟨g, 0, none⟩) k c) k xs
theorem RowC.lt {W : World} {B g c k : Nat} {xs : List Value} (h : RowC W B g c k xs) : B ≤ g ∧ g < W.heap.size := by
  rcases h.2 with ⟨h, _⟩ | ⟨g', cap', cur, hv, hg, hh, _⟩
  · cases h
  · injection hv with e1
    injection e1 with e1
    injection e1 with e1
    subst e1
    exact ⟨hg, (Array.getElem?_eq_some_iff.1 hh).1⟩
theorem RowC.alloc {W : World} {B g c k : Nat} {xs : List Value} (h : RowC W B g c k xs) (o : Obj) : RowC (W.alloc o) B g c k xs := by
  obtain ⟨h1, h2⟩ := h
  refine ⟨h1, ?_⟩
  rcases h2 with h2 | ⟨g, cap, cur, hv, hg, hh, r⟩
  · exact Or.inl h2
  · exact Or.inr ⟨g, cap, cur, hv, hg, by rw [((Below.refl W.heap.size W).alloc (Nat.le_refl _) o).block g (Array.getElem?_eq_some_iff.1 hh).1]; exact hh, r⟩
theorem RowC.grown {W W' : World} {B g c k b : Nat} {xs : List Value} (h : RowC W B g c k xs) (hg : W.grownBy W' (some b)) (hne : g ≠ b) : RowC W' B g c k xs := by
  have hlt := h.lt.2
  obtain ⟨h1, h2⟩ := h
  refine ⟨h1, ?_⟩
  rcases h2 with h2 | ⟨g', cap, cur, hv, hg', hh, r⟩
  · exact Or.inl h2
  · injection hv with e1 e2 e3
    injection e1 with e1
    injection e1 with e1
    subst e1 e3
    exact Or.inr ⟨g, c, cur, rfl, hg', by rw [hg.block g hlt (by intro h; injection h with h; exact hne h)]; exact hh, r⟩
theorem rowC_set {W : World} {B g c k b o : Nat} {xs : List Value} (h : RowC W B g c k xs) (hne : b ≠ g) (u : Value) : RowC (W.setCell ⟨b, o, none⟩ u) B g c k xs := by
  obtain ⟨h1, h2⟩ := h
  refine ⟨h1, ?_⟩
  rcases h2 with h2 | ⟨g', cap, cur, hv, hg', hh, r⟩
  · exact Or.inl h2
  · injection hv with e1 e2 e3
    injection e1 with e1
    injection e1 with e1
    subst e1 e3
    exact Or.inr ⟨g, c, cur, rfl, hg', by rw [heap_setCell_other _ _ _ _ (by simpa using hne.symm)]; exact hh, r⟩
theorem rowC_new (W : World) (B : Nat) (hB : B ≤ W.heap.size) : RowC (W.alloc (.cells #[] 50)) B W.heap.size 0 0 [] :=
  ⟨rfl, Or.inr ⟨W.heap.size, 0, #[], rfl, hB, heap_alloc_new W _, Nat.le_refl _, Nat.zero_le _, rfl, rfl⟩⟩
theorem bk_alloc {W : World} {g : Nat} {o o' : Obj} (h : W.heap[g]? = some o) : (W.alloc o').heap[g]? = some o := box_over h ((Below.refl _ W).alloc (Nat.le_refl _) o')
theorem bk_grown {W W' : World} {g b : Nat} {o : Obj} (h : W.heap[g]? = some o) (hg : W.grownBy W' (some b)) (hne : g ≠ b) : W'.heap[g]? = some o := by
  rw [hg.block g (Array.getElem?_eq_some_iff.1 h).1 (by intro h; injection h with h; exact hne h)]
  exact h
theorem bk_lt {W : World} {g : Nat} {o : Obj} (h : W.heap[g]? = some o) : g < W.heap.size := (Array.getElem?_eq_some_iff.1 h).1
theorem ne_app {W : World} {z b g' : Nat} (h : z ≠ b) (hz : z < W.heap.size) (h' : g' = b ∨ g' = W.heap.size) : z ≠ g' := by omega
theorem ne_app' {W : World} {z b g' : Nat} (h : b ≠ z) (hz : z < W.heap.size) (h' : g' = b ∨ g' = W.heap.size) : g' ≠ z := by omega
theorem src_bk {W : World} {b : Nat} {x y : Value} (h : W.heap[b]? = some (.cells #[x, y] 50 (0, 0))) (hx : x.oneCell' = true) (hy : y.oneCell' = true) : SrcAt W (.slice (some ⟨b, 0, none⟩) 1 1) 1 [x, y] := by
  refine ⟨rfl, by intro u hu; simp at hu; rcases hu with rfl | rfl <;> assumption, Or.inr ⟨⟨b, 0, none⟩, 1, rfl, fun j u hu => ?_⟩⟩
  rw [Addr.add_lit]
  match j, hu with
  | 0, hu => simp at hu; subst hu; simp [World.cell?, h]
  | 1, hu => simp at hu; subst hu; simp [World.cell?, h]
  | j + 2, hu => simp at hu
theorem ne_27 {W : World} {B g c k b : Nat} {xs : List Value} {x y : Value} (h : RowC W B g c k xs) (hb : W.heap[b]? = some (.cells #[x, y] 27 (0, 0))) : b ≠ g := by
  rintro rfl
  rcases h.2 with ⟨h, _⟩ | ⟨g', cap', cur, hv, hg, hh, _⟩
  · cases h
  · injection hv with e1
    injection e1 with e1
    injection e1 with e1
    subst e1
    rw [hh] at hb
    simp at hb

/-- what is kept, whatever is done beyond a bound. -/
def Keeps (B : Nat) (S : World → Prop) : Prop := (∀ W, S W → B ≤ W.heap.size) ∧ ∀ W W', S W → Below B W W' → S W'
theorem below_grownC {B g : Nat} {W W' : World} (hg : W.grownBy W' (some g)) (hB : B ≤ g) (hB2 : B ≤ W.heap.size) : Below B W W' :=
  ⟨hg.os, hg.tape, hg.output, hg.size, fun k hk => hg.block k (Nat.lt_of_lt_of_le hk hB2) (by intro h; injection h with h; omega)⟩

section
variable {s0 s1 s2 s3 s4 s5 s6 s7 s8 s12 s13 s14 s15 s16 s17 s18 s19 s20 s21 s27 s34 : Value} {Q : Exit → Act → World → Prop} {S : World → Prop} {B nr nw : Nat} {vr vw : Value} {csR csW : List Value} {ow : Int} {na : Option Addr} {nn nc : Nat}

/-- what is there at the end. -/
def MoreEnd (s0 s1 s2 s3 s4 s5 s6 s7 s8 s12 s13 s14 s15 s16 s17 s18 s19 s20 s21 s27 s34 vr vw : Value) (Q : Exit → Act → World → Prop) (S : World → Prop) (B nr nw : Nat) (csR csW : List Value) (ow : Int) (na : Option Addr) (nn nc : Nat) : Prop :=
  ∀ (W : World) (v26 v29 v31 v33 v36 v38 v40 : Value) (g32 c32 g39 c39 b9 : Nat), S W → RowC W B g32 c32 (nr + 1) (csR ++ [.int .i64 ow, .slice na nn nc]) → RowC W B g39 c39 (nw + 1) (csW ++ [.int .i64 ow, .slice na nn nc]) → W.cell? ⟨b9, 0, none⟩ = some (.slice (some ⟨g32, 0, none⟩) (nr + 1) c32) → W.cell? ⟨b9, 1, none⟩ = some (.slice (some ⟨g39, 0, none⟩) (nw + 1) c39) →
    Q .normal (moreFrame s0 s1 s2 s3 s4 s5 s6 s7 s8 s12 s13 s14 s15 s16 s17 s18 s19 s20 s21 s27 vr (.agg #[.int .i64 ow, .slice na nn nc]) s34 vw (.agg #[.int .i64 ow, .slice na nn nc]) v26 v29 v31 (.slice (some ⟨g32, 0, none⟩) (nr + 1) c32) v33 v36 v38 (.slice (some ⟨g39, 0, none⟩) (nw + 1) c39) v40 (.pointer (some ⟨b9, 0, none⟩))) W
set_option maxRecDepth 100000 in
set_option maxHeartbeats 2000000 in
theorem node_f1f11 (hK0 : Keeps B S) (hr : ∀ W, S W → SrcAt W vr nr csR) (hw : ∀ W, S W → SrcAt W vw nw csW) (hl : nr ≤ 4 ∧ nw ≤ 4) (hE : MoreEnd s0 s1 s2 s3 s4 s5 s6 s7 s8 s12 s13 s14 s15 s16 s17 s18 s19 s20 s21 s27 s34 vr vw Q S B nr nw csR csW ow na nn nc) (hQp : ∀ c a a' w, Q (.panic c) a w → Q (.panic c) a' w) (W : World) (b26 g29 c29 g32 c32 b31 b33 g36 c36 g39 c39 b38 b9 : Nat) (hHeld : S W) (hX : RowC W B g32 c32 (nr + 1) (csR ++ [.int .i64 ow, .slice na nn nc])) (hY : RowC W B g39 c39 (nw + 1) (csW ++ [.int .i64 ow, .slice na nn nc])) (hA : W.heap[b9]? = some (.cells #[.slice none 0 0, .slice none 0 0] 27 (0, 0))) (hB9 : B ≤ b9) (nXY : g32 ≠ g39) :
    wpAnyH Try.prog Region.Mode.any moreOps Q S 1 #[true, true, true, true, true, true, true, true, true, true, true, true, true, true, true, true, false] (moreFrame s0 s1 s2 s3 s4 s5 s6 s7 s8 s12 s13 s14 s15 s16 s17 s18 s19 s20 s21 s27 vr (.agg #[.int .i64 ow, .slice na nn nc]) s34 vw (.agg #[.int .i64 ow, .slice na nn nc]) (.slice (some ⟨b26, 0, none⟩) 0 0) (.slice (some ⟨g29, 0, none⟩) nr c29) (.slice (some ⟨b31, 0, none⟩) 1 1) (.slice (some ⟨g32, 0, none⟩) (nr + 1) c32) (.slice (some ⟨b33, 0, none⟩) 0 0) (.slice (some ⟨g36, 0, none⟩) nw c36) (.slice (some ⟨b38, 0, none⟩) 1 1) (.slice (some ⟨g39, 0, none⟩) (nw + 1) c39) (.agg #[.slice (some ⟨g32, 0, none⟩) (nr + 1) c32, .slice (some ⟨g39, 0, none⟩) (nw + 1) c39]) (.pointer (some ⟨b9, 0, none⟩))) W := by
  have hHeld0 := hHeld
  unfold moreFrame moreOps
  obtain ⟨z0, z1, z2, z3⟩ := cells_of_pair hA
  have e1 := ne_27 hX hA
  have e2 := ne_27 hY hA
  refine wpAnyH_ready (rs := [16]) (by kernel_rfl) (by simp) ?_
  refine AllReadyH.cons rfl (fun K hK => ?_) AllReadyH.nil
  go_simp
  refine hK.out _ _ (hK0.2 _ _ hHeld (((Below.refl _ W).setCell hB9 _).setCell hB9 _)) (fun hHeld => ?_)
  refine wpAnyH_done (by kernel_rfl) ?_ _
  exact hE _ _ _ _ _ _ _ _ g32 c32 g39 c39 b9 hHeld (rowC_set (rowC_set hX e1 _) e1 _) (rowC_set (rowC_set hY e2 _) e2 _) (by rw [World.cell?_setCell_other _ _ _ _ (by simp)]; exact World.cell?_setCell_same _ _ _ z0) (World.cell?_setCell_same _ _ _ (u := .slice none 0 0) (by rw [World.cell?_setCell_other _ _ _ _ (by simp)]; exact z1))
set_option maxRecDepth 100000 in
set_option maxHeartbeats 2000000 in
theorem node_f1f10 (hK0 : Keeps B S) (hr : ∀ W, S W → SrcAt W vr nr csR) (hw : ∀ W, S W → SrcAt W vw nw csW) (hl : nr ≤ 4 ∧ nw ≤ 4) (hE : MoreEnd s0 s1 s2 s3 s4 s5 s6 s7 s8 s12 s13 s14 s15 s16 s17 s18 s19 s20 s21 s27 s34 vr vw Q S B nr nw csR csW ow na nn nc) (hQp : ∀ c a a' w, Q (.panic c) a w → Q (.panic c) a' w) (W : World) (b26 g29 c29 g32 c32 b31 b33 g36 c36 g39 c39 b38 : Nat) (hHeld : S W) (hX : RowC W B g32 c32 (nr + 1) (csR ++ [.int .i64 ow, .slice na nn nc])) (hY : RowC W B g39 c39 (nw + 1) (csW ++ [.int .i64 ow, .slice na nn nc])) (nXY : g32 ≠ g39) :
    wpAnyH Try.prog Region.Mode.any moreOps Q S 2 #[true, true, true, true, true, true, true, true, true, true, true, true, true, true, true, false, false] (moreFrame s0 s1 s2 s3 s4 s5 s6 s7 s8 s12 s13 s14 s15 s16 s17 s18 s19 s20 s21 s27 vr (.agg #[.int .i64 ow, .slice na nn nc]) s34 vw (.agg #[.int .i64 ow, .slice na nn nc]) (.slice (some ⟨b26, 0, none⟩) 0 0) (.slice (some ⟨g29, 0, none⟩) nr c29) (.slice (some ⟨b31, 0, none⟩) 1 1) (.slice (some ⟨g32, 0, none⟩) (nr + 1) c32) (.slice (some ⟨b33, 0, none⟩) 0 0) (.slice (some ⟨g36, 0, none⟩) nw c36) (.slice (some ⟨b38, 0, none⟩) 1 1) (.slice (some ⟨g39, 0, none⟩) (nw + 1) c39) (.agg #[.slice (some ⟨g32, 0, none⟩) (nr + 1) c32, .slice (some ⟨g39, 0, none⟩) (nw + 1) c39]) undef) W := by
  have hHeld0 := hHeld
  unfold moreFrame moreOps
  refine wpAnyH_ready (rs := [15]) (by kernel_rfl) (by simp) ?_
  refine AllReadyH.cons rfl (fun K hK => ?_) AllReadyH.nil
  · go_simp
    refine hK.out _ _ (hK0.2 _ _ hHeld ((Below.refl _ W).alloc (hK0.1 _ hHeld) (.cells #[.slice none 0 0, .slice none 0 0] 27))) (fun hHeld => ?_)
    exact node_f1f11 hK0 hr hw hl hE hQp _ b26 g29 c29 g32 c32 b31 b33 g36 c36 g39 c39 b38 W.heap.size hHeld (hX.alloc _) (hY.alloc _) (heap_alloc_new W _) (hK0.1 _ hHeld0) (nXY)
set_option maxRecDepth 100000 in
set_option maxHeartbeats 2000000 in
theorem node_f1c11 (hK0 : Keeps B S) (hr : ∀ W, S W → SrcAt W vr nr csR) (hw : ∀ W, S W → SrcAt W vw nw csW) (hl : nr ≤ 4 ∧ nw ≤ 4) (hE : MoreEnd s0 s1 s2 s3 s4 s5 s6 s7 s8 s12 s13 s14 s15 s16 s17 s18 s19 s20 s21 s27 s34 vr vw Q S B nr nw csR csW ow na nn nc) (hQp : ∀ c a a' w, Q (.panic c) a w → Q (.panic c) a' w) (W : World) (b26 g29 c29 g32 c32 b31 b33 g36 c36 b38 b9 : Nat) (hHeld : S W) (hX : RowC W B g32 c32 (nr + 1) (csR ++ [.int .i64 ow, .slice na nn nc])) (hY : RowC W B g36 c36 nw csW) (hR : W.heap[b38]? = some (.cells #[.int .i64 ow, .slice na nn nc] 50 (0, 0))) (hA : W.heap[b9]? = some (.cells #[.slice none 0 0, .slice none 0 0] 27 (0, 0))) (hB9 : B ≤ b9) (nXY : g32 ≠ g36) (nXR : g32 ≠ b38) (nYR : g36 ≠ b38) :
    wpAnyH Try.prog Region.Mode.any moreOps Q S 3 #[true, true, true, true, true, true, true, true, true, true, true, true, true, false, false, true, false] (moreFrame s0 s1 s2 s3 s4 s5 s6 s7 s8 s12 s13 s14 s15 s16 s17 s18 s19 s20 s21 s27 vr (.agg #[.int .i64 ow, .slice na nn nc]) s34 vw (.agg #[.int .i64 ow, .slice na nn nc]) (.slice (some ⟨b26, 0, none⟩) 0 0) (.slice (some ⟨g29, 0, none⟩) nr c29) (.slice (some ⟨b31, 0, none⟩) 1 1) (.slice (some ⟨g32, 0, none⟩) (nr + 1) c32) (.slice (some ⟨b33, 0, none⟩) 0 0) (.slice (some ⟨g36, 0, none⟩) nw c36) (.slice (some ⟨b38, 0, none⟩) 1 1) undef undef (.pointer (some ⟨b9, 0, none⟩))) W := by
  have hHeld0 := hHeld
  unfold moreFrame moreOps
  refine wpAnyH_ready (rs := [13]) (by kernel_rfl) (by simp) ?_
  refine AllReadyH.cons rfl (fun K hK => ?_) AllReadyH.nil
  · refine step_appC rfl _ _ rfl B g36 nw c36 1 _ csW [.int .i64 ow, .slice na nn nc] rfl rfl hY (src_bk hR rfl rfl) (by omega) (hK0.1 _ hHeld) ?_
    intro g' c' W' hrow hg hob
    refine hK.out _ _ (hK0.2 _ _ hHeld (below_grownC hg hY.lt.1 (hK0.1 _ hHeld))) (fun hHeld => ?_)
    try simp only [List.getElem_toArray, List.getElem_cons_succ, List.getElem_cons_zero, Act.put, List.setIfInBounds_toArray, List.set_cons_zero, List.set_cons_succ]
    refine wpAnyH_take (i := 14) (v := ?_) rfl (by kernel_rfl) (by kernel_rfl) (by kernel_rfl) (fun c _ _ h => hQp c _ _ _ h) (Or.inl ⟨by rfl, fun w hSw => ?_⟩) hHeld ?_
    rotate_left
    · go_simp; first | done | with_reducible rfl
    simp only [List.getElem_toArray, List.getElem_cons_succ, List.getElem_cons_zero, Act.put, List.setIfInBounds_toArray, List.set_cons_zero, List.set_cons_succ]
    exact node_f1f11 hK0 hr hw hl hE hQp W' b26 g29 c29 g32 c32 b31 b33 g36 c36 g' c' b38 b9 hHeld (hX.grown hg nXY) (hrow) (bk_grown hA hg (ne_27 hY hA)) (hB9) (ne_app (W := W) nXY (hX.lt.2) hob)
set_option maxRecDepth 100000 in
set_option maxHeartbeats 2000000 in
theorem node_f1c10 (hK0 : Keeps B S) (hr : ∀ W, S W → SrcAt W vr nr csR) (hw : ∀ W, S W → SrcAt W vw nw csW) (hl : nr ≤ 4 ∧ nw ≤ 4) (hE : MoreEnd s0 s1 s2 s3 s4 s5 s6 s7 s8 s12 s13 s14 s15 s16 s17 s18 s19 s20 s21 s27 s34 vr vw Q S B nr nw csR csW ow na nn nc) (hQp : ∀ c a a' w, Q (.panic c) a w → Q (.panic c) a' w) (W : World) (b26 g29 c29 g32 c32 b31 b33 g36 c36 b38 : Nat) (hHeld : S W) (hX : RowC W B g32 c32 (nr + 1) (csR ++ [.int .i64 ow, .slice na nn nc])) (hY : RowC W B g36 c36 nw csW) (hR : W.heap[b38]? = some (.cells #[.int .i64 ow, .slice na nn nc] 50 (0, 0))) (nXY : g32 ≠ g36) (nXR : g32 ≠ b38) (nYR : g36 ≠ b38) :
    wpAnyH Try.prog Region.Mode.any moreOps Q S 4 #[true, true, true, true, true, true, true, true, true, true, true, true, true, false, false, false, false] (moreFrame s0 s1 s2 s3 s4 s5 s6 s7 s8 s12 s13 s14 s15 s16 s17 s18 s19 s20 s21 s27 vr (.agg #[.int .i64 ow, .slice na nn nc]) s34 vw (.agg #[.int .i64 ow, .slice na nn nc]) (.slice (some ⟨b26, 0, none⟩) 0 0) (.slice (some ⟨g29, 0, none⟩) nr c29) (.slice (some ⟨b31, 0, none⟩) 1 1) (.slice (some ⟨g32, 0, none⟩) (nr + 1) c32) (.slice (some ⟨b33, 0, none⟩) 0 0) (.slice (some ⟨g36, 0, none⟩) nw c36) (.slice (some ⟨b38, 0, none⟩) 1 1) undef undef undef) W := by
  have hHeld0 := hHeld
  unfold moreFrame moreOps
  refine wpAnyH_ready (rs := [13, 15]) (by kernel_rfl) (by simp) ?_
  refine AllReadyH.cons rfl (fun K hK => ?_) (AllReadyH.cons rfl (fun K hK => ?_) AllReadyH.nil)
  · refine step_appC rfl _ _ rfl B g36 nw c36 1 _ csW [.int .i64 ow, .slice na nn nc] rfl rfl hY (src_bk hR rfl rfl) (by omega) (hK0.1 _ hHeld) ?_
    intro g' c' W' hrow hg hob
    refine hK.out _ _ (hK0.2 _ _ hHeld (below_grownC hg hY.lt.1 (hK0.1 _ hHeld))) (fun hHeld => ?_)
    try simp only [List.getElem_toArray, List.getElem_cons_succ, List.getElem_cons_zero, Act.put, List.setIfInBounds_toArray, List.set_cons_zero, List.set_cons_succ]
    refine wpAnyH_take (i := 14) (v := ?_) rfl (by kernel_rfl) (by kernel_rfl) (by kernel_rfl) (fun c _ _ h => hQp c _ _ _ h) (Or.inl ⟨by rfl, fun w hSw => ?_⟩) hHeld ?_
    rotate_left
    · go_simp; first | done | with_reducible rfl
    simp only [List.getElem_toArray, List.getElem_cons_succ, List.getElem_cons_zero, Act.put, List.setIfInBounds_toArray, List.set_cons_zero, List.set_cons_succ]
    exact node_f1f10 hK0 hr hw hl hE hQp W' b26 g29 c29 g32 c32 b31 b33 g36 c36 g' c' b38 hHeld (hX.grown hg nXY) (hrow) (ne_app (W := W) nXY (hX.lt.2) hob)
  · go_simp
    refine hK.out _ _ (hK0.2 _ _ hHeld ((Below.refl _ W).alloc (hK0.1 _ hHeld) (.cells #[.slice none 0 0, .slice none 0 0] 27))) (fun hHeld => ?_)
    exact node_f1c11 hK0 hr hw hl hE hQp _ b26 g29 c29 g32 c32 b31 b33 g36 c36 b38 W.heap.size hHeld (hX.alloc _) (hY.alloc _) (bk_alloc hR) (heap_alloc_new W _) (hK0.1 _ hHeld0) (nXY) (nXR) (nYR)
set_option maxRecDepth 100000 in
set_option maxHeartbeats 2000000 in
theorem node_f1c01 (hK0 : Keeps B S) (hr : ∀ W, S W → SrcAt W vr nr csR) (hw : ∀ W, S W → SrcAt W vw nw csW) (hl : nr ≤ 4 ∧ nw ≤ 4) (hE : MoreEnd s0 s1 s2 s3 s4 s5 s6 s7 s8 s12 s13 s14 s15 s16 s17 s18 s19 s20 s21 s27 s34 vr vw Q S B nr nw csR csW ow na nn nc) (hQp : ∀ c a a' w, Q (.panic c) a w → Q (.panic c) a' w) (W : World) (b26 g29 c29 g32 c32 b31 b33 g36 c36 b9 : Nat) (hHeld : S W) (hX : RowC W B g32 c32 (nr + 1) (csR ++ [.int .i64 ow, .slice na nn nc])) (hY : RowC W B g36 c36 nw csW) (hA : W.heap[b9]? = some (.cells #[.slice none 0 0, .slice none 0 0] 27 (0, 0))) (hB9 : B ≤ b9) (nXY : g32 ≠ g36) :
    wpAnyH Try.prog Region.Mode.any moreOps Q S 4 #[true, true, true, true, true, true, true, true, true, true, true, true, false, false, false, true, false] (moreFrame s0 s1 s2 s3 s4 s5 s6 s7 s8 s12 s13 s14 s15 s16 s17 s18 s19 s20 s21 s27 vr (.agg #[.int .i64 ow, .slice na nn nc]) s34 vw (.agg #[.int .i64 ow, .slice na nn nc]) (.slice (some ⟨b26, 0, none⟩) 0 0) (.slice (some ⟨g29, 0, none⟩) nr c29) (.slice (some ⟨b31, 0, none⟩) 1 1) (.slice (some ⟨g32, 0, none⟩) (nr + 1) c32) (.slice (some ⟨b33, 0, none⟩) 0 0) (.slice (some ⟨g36, 0, none⟩) nw c36) undef undef undef (.pointer (some ⟨b9, 0, none⟩))) W := by
  have hHeld0 := hHeld
  unfold moreFrame moreOps
  refine wpAnyH_ready (rs := [12]) (by kernel_rfl) (by simp) ?_
  refine AllReadyH.cons rfl (fun K hK => ?_) AllReadyH.nil
  · go_simp
    refine hK.out _ _ (hK0.2 _ _ hHeld ((Below.refl _ W).alloc (hK0.1 _ hHeld) (.cells #[.int .i64 ow, .slice na nn nc] 50))) (fun hHeld => ?_)
    exact node_f1c11 hK0 hr hw hl hE hQp _ b26 g29 c29 g32 c32 b31 b33 g36 c36 W.heap.size b9 hHeld (hX.alloc _) (hY.alloc _) (heap_alloc_new W _) (bk_alloc hA) (hB9) (nXY) (Nat.ne_of_lt (hX.lt.2)) (Nat.ne_of_lt (hY.lt.2))
set_option maxRecDepth 100000 in
set_option maxHeartbeats 2000000 in
theorem node_f1c00 (hK0 : Keeps B S) (hr : ∀ W, S W → SrcAt W vr nr csR) (hw : ∀ W, S W → SrcAt W vw nw csW) (hl : nr ≤ 4 ∧ nw ≤ 4) (hE : MoreEnd s0 s1 s2 s3 s4 s5 s6 s7 s8 s12 s13 s14 s15 s16 s17 s18 s19 s20 s21 s27 s34 vr vw Q S B nr nw csR csW ow na nn nc) (hQp : ∀ c a a' w, Q (.panic c) a w → Q (.panic c) a' w) (W : World) (b26 g29 c29 g32 c32 b31 b33 g36 c36 : Nat) (hHeld : S W) (hX : RowC W B g32 c32 (nr + 1) (csR ++ [.int .i64 ow, .slice na nn nc])) (hY : RowC W B g36 c36 nw csW) (nXY : g32 ≠ g36) :
    wpAnyH Try.prog Region.Mode.any moreOps Q S 5 #[true, true, true, true, true, true, true, true, true, true, true, true, false, false, false, false, false] (moreFrame s0 s1 s2 s3 s4 s5 s6 s7 s8 s12 s13 s14 s15 s16 s17 s18 s19 s20 s21 s27 vr (.agg #[.int .i64 ow, .slice na nn nc]) s34 vw (.agg #[.int .i64 ow, .slice na nn nc]) (.slice (some ⟨b26, 0, none⟩) 0 0) (.slice (some ⟨g29, 0, none⟩) nr c29) (.slice (some ⟨b31, 0, none⟩) 1 1) (.slice (some ⟨g32, 0, none⟩) (nr + 1) c32) (.slice (some ⟨b33, 0, none⟩) 0 0) (.slice (some ⟨g36, 0, none⟩) nw c36) undef undef undef undef) W := by
  have hHeld0 := hHeld
  unfold moreFrame moreOps
  refine wpAnyH_ready (rs := [12, 15]) (by kernel_rfl) (by simp) ?_
  refine AllReadyH.cons rfl (fun K hK => ?_) (AllReadyH.cons rfl (fun K hK => ?_) AllReadyH.nil)
  · go_simp
    refine hK.out _ _ (hK0.2 _ _ hHeld ((Below.refl _ W).alloc (hK0.1 _ hHeld) (.cells #[.int .i64 ow, .slice na nn nc] 50))) (fun hHeld => ?_)
    exact node_f1c10 hK0 hr hw hl hE hQp _ b26 g29 c29 g32 c32 b31 b33 g36 c36 W.heap.size hHeld (hX.alloc _) (hY.alloc _) (heap_alloc_new W _) (nXY) (Nat.ne_of_lt (hX.lt.2)) (Nat.ne_of_lt (hY.lt.2))
  · go_simp
    refine hK.out _ _ (hK0.2 _ _ hHeld ((Below.refl _ W).alloc (hK0.1 _ hHeld) (.cells #[.slice none 0 0, .slice none 0 0] 27))) (fun hHeld => ?_)
    exact node_f1c01 hK0 hr hw hl hE hQp _ b26 g29 c29 g32 c32 b31 b33 g36 c36 W.heap.size hHeld (hX.alloc _) (hY.alloc _) (heap_alloc_new W _) (hK0.1 _ hHeld0) (nXY)
set_option maxRecDepth 100000 in
set_option maxHeartbeats 2000000 in
theorem node_f1e11 (hK0 : Keeps B S) (hr : ∀ W, S W → SrcAt W vr nr csR) (hw : ∀ W, S W → SrcAt W vw nw csW) (hl : nr ≤ 4 ∧ nw ≤ 4) (hE : MoreEnd s0 s1 s2 s3 s4 s5 s6 s7 s8 s12 s13 s14 s15 s16 s17 s18 s19 s20 s21 s27 s34 vr vw Q S B nr nw csR csW ow na nn nc) (hQp : ∀ c a a' w, Q (.panic c) a w → Q (.panic c) a' w) (W : World) (b26 g29 c29 g32 c32 b31 b33 b38 b9 : Nat) (hHeld : S W) (hX : RowC W B g32 c32 (nr + 1) (csR ++ [.int .i64 ow, .slice na nn nc])) (hY : RowC W B b33 0 0 []) (hR : W.heap[b38]? = some (.cells #[.int .i64 ow, .slice na nn nc] 50 (0, 0))) (hA : W.heap[b9]? = some (.cells #[.slice none 0 0, .slice none 0 0] 27 (0, 0))) (hB9 : B ≤ b9) (nXY : g32 ≠ b33) (nXR : g32 ≠ b38) (nYR : b33 ≠ b38) :
    wpAnyH Try.prog Region.Mode.any moreOps Q S 4 #[true, true, true, true, true, true, true, true, true, true, false, true, true, false, false, true, false] (moreFrame s0 s1 s2 s3 s4 s5 s6 s7 s8 s12 s13 s14 s15 s16 s17 s18 s19 s20 s21 s27 vr (.agg #[.int .i64 ow, .slice na nn nc]) s34 vw (.agg #[.int .i64 ow, .slice na nn nc]) (.slice (some ⟨b26, 0, none⟩) 0 0) (.slice (some ⟨g29, 0, none⟩) nr c29) (.slice (some ⟨b31, 0, none⟩) 1 1) (.slice (some ⟨g32, 0, none⟩) (nr + 1) c32) (.slice (some ⟨b33, 0, none⟩) 0 0) undef (.slice (some ⟨b38, 0, none⟩) 1 1) undef undef (.pointer (some ⟨b9, 0, none⟩))) W := by
  have hHeld0 := hHeld
  unfold moreFrame moreOps
  refine wpAnyH_ready (rs := [10]) (by kernel_rfl) (by simp) ?_
  refine AllReadyH.cons rfl (fun K hK => ?_) AllReadyH.nil
  · refine step_appC rfl _ _ rfl B b33 0 0 nw vw [] csW rfl rfl hY (hw W hHeld) (by omega) (hK0.1 _ hHeld) ?_
    intro g' c' W' hrow hg hob
    rw [Nat.zero_add, List.nil_append] at hrow
    refine hK.out _ _ (hK0.2 _ _ hHeld (below_grownC hg hY.lt.1 (hK0.1 _ hHeld))) (fun hHeld => ?_)
    rw [Nat.zero_add]
    try simp only [List.getElem_toArray, List.getElem_cons_succ, List.getElem_cons_zero, Act.put, List.setIfInBounds_toArray, List.set_cons_zero, List.set_cons_succ]
    exact node_f1c11 hK0 hr hw hl hE hQp W' b26 g29 c29 g32 c32 b31 b33 g' c' b38 b9 hHeld (hX.grown hg nXY) (hrow) (bk_grown hR hg nYR.symm) (bk_grown hA hg (ne_27 hY hA)) (hB9) (ne_app (W := W) nXY (hX.lt.2) hob) (nXR) (ne_app' (W := W) nYR (bk_lt hR) hob)
set_option maxRecDepth 100000 in
set_option maxHeartbeats 2000000 in
theorem node_f1e10 (hK0 : Keeps B S) (hr : ∀ W, S W → SrcAt W vr nr csR) (hw : ∀ W, S W → SrcAt W vw nw csW) (hl : nr ≤ 4 ∧ nw ≤ 4) (hE : MoreEnd s0 s1 s2 s3 s4 s5 s6 s7 s8 s12 s13 s14 s15 s16 s17 s18 s19 s20 s21 s27 s34 vr vw Q S B nr nw csR csW ow na nn nc) (hQp : ∀ c a a' w, Q (.panic c) a w → Q (.panic c) a' w) (W : World) (b26 g29 c29 g32 c32 b31 b33 b38 : Nat) (hHeld : S W) (hX : RowC W B g32 c32 (nr + 1) (csR ++ [.int .i64 ow, .slice na nn nc])) (hY : RowC W B b33 0 0 []) (hR : W.heap[b38]? = some (.cells #[.int .i64 ow, .slice na nn nc] 50 (0, 0))) (nXY : g32 ≠ b33) (nXR : g32 ≠ b38) (nYR : b33 ≠ b38) :
    wpAnyH Try.prog Region.Mode.any moreOps Q S 5 #[true, true, true, true, true, true, true, true, true, true, false, true, true, false, false, false, false] (moreFrame s0 s1 s2 s3 s4 s5 s6 s7 s8 s12 s13 s14 s15 s16 s17 s18 s19 s20 s21 s27 vr (.agg #[.int .i64 ow, .slice na nn nc]) s34 vw (.agg #[.int .i64 ow, .slice na nn nc]) (.slice (some ⟨b26, 0, none⟩) 0 0) (.slice (some ⟨g29, 0, none⟩) nr c29) (.slice (some ⟨b31, 0, none⟩) 1 1) (.slice (some ⟨g32, 0, none⟩) (nr + 1) c32) (.slice (some ⟨b33, 0, none⟩) 0 0) undef (.slice (some ⟨b38, 0, none⟩) 1 1) undef undef undef) W := by
  have hHeld0 := hHeld
  unfold moreFrame moreOps
  refine wpAnyH_ready (rs := [10, 15]) (by kernel_rfl) (by simp) ?_
  refine AllReadyH.cons rfl (fun K hK => ?_) (AllReadyH.cons rfl (fun K hK => ?_) AllReadyH.nil)
  · refine step_appC rfl _ _ rfl B b33 0 0 nw vw [] csW rfl rfl hY (hw W hHeld) (by omega) (hK0.1 _ hHeld) ?_
    intro g' c' W' hrow hg hob
    rw [Nat.zero_add, List.nil_append] at hrow
    refine hK.out _ _ (hK0.2 _ _ hHeld (below_grownC hg hY.lt.1 (hK0.1 _ hHeld))) (fun hHeld => ?_)
    rw [Nat.zero_add]
    try simp only [List.getElem_toArray, List.getElem_cons_succ, List.getElem_cons_zero, Act.put, List.setIfInBounds_toArray, List.set_cons_zero, List.set_cons_succ]
    exact node_f1c10 hK0 hr hw hl hE hQp W' b26 g29 c29 g32 c32 b31 b33 g' c' b38 hHeld (hX.grown hg nXY) (hrow) (bk_grown hR hg nYR.symm) (ne_app (W := W) nXY (hX.lt.2) hob) (nXR) (ne_app' (W := W) nYR (bk_lt hR) hob)
  · go_simp
    refine hK.out _ _ (hK0.2 _ _ hHeld ((Below.refl _ W).alloc (hK0.1 _ hHeld) (.cells #[.slice none 0 0, .slice none 0 0] 27))) (fun hHeld => ?_)
    exact node_f1e11 hK0 hr hw hl hE hQp _ b26 g29 c29 g32 c32 b31 b33 b38 W.heap.size hHeld (hX.alloc _) (hY.alloc _) (bk_alloc hR) (heap_alloc_new W _) (hK0.1 _ hHeld0) (nXY) (nXR) (nYR)
set_option maxRecDepth 100000 in
set_option maxHeartbeats 2000000 in
theorem node_f1e01 (hK0 : Keeps B S) (hr : ∀ W, S W → SrcAt W vr nr csR) (hw : ∀ W, S W → SrcAt W vw nw csW) (hl : nr ≤ 4 ∧ nw ≤ 4) (hE : MoreEnd s0 s1 s2 s3 s4 s5 s6 s7 s8 s12 s13 s14 s15 s16 s17 s18 s19 s20 s21 s27 s34 vr vw Q S B nr nw csR csW ow na nn nc) (hQp : ∀ c a a' w, Q (.panic c) a w → Q (.panic c) a' w) (W : World) (b26 g29 c29 g32 c32 b31 b33 b9 : Nat) (hHeld : S W) (hX : RowC W B g32 c32 (nr + 1) (csR ++ [.int .i64 ow, .slice na nn nc])) (hY : RowC W B b33 0 0 []) (hA : W.heap[b9]? = some (.cells #[.slice none 0 0, .slice none 0 0] 27 (0, 0))) (hB9 : B ≤ b9) (nXY : g32 ≠ b33) :
    wpAnyH Try.prog Region.Mode.any moreOps Q S 5 #[true, true, true, true, true, true, true, true, true, true, false, true, false, false, false, true, false] (moreFrame s0 s1 s2 s3 s4 s5 s6 s7 s8 s12 s13 s14 s15 s16 s17 s18 s19 s20 s21 s27 vr (.agg #[.int .i64 ow, .slice na nn nc]) s34 vw (.agg #[.int .i64 ow, .slice na nn nc]) (.slice (some ⟨b26, 0, none⟩) 0 0) (.slice (some ⟨g29, 0, none⟩) nr c29) (.slice (some ⟨b31, 0, none⟩) 1 1) (.slice (some ⟨g32, 0, none⟩) (nr + 1) c32) (.slice (some ⟨b33, 0, none⟩) 0 0) undef undef undef undef (.pointer (some ⟨b9, 0, none⟩))) W := by
  have hHeld0 := hHeld
  unfold moreFrame moreOps
  refine wpAnyH_ready (rs := [10, 12]) (by kernel_rfl) (by simp) ?_
  refine AllReadyH.cons rfl (fun K hK => ?_) (AllReadyH.cons rfl (fun K hK => ?_) AllReadyH.nil)
  · refine step_appC rfl _ _ rfl B b33 0 0 nw vw [] csW rfl rfl hY (hw W hHeld) (by omega) (hK0.1 _ hHeld) ?_
    intro g' c' W' hrow hg hob
    rw [Nat.zero_add, List.nil_append] at hrow
    refine hK.out _ _ (hK0.2 _ _ hHeld (below_grownC hg hY.lt.1 (hK0.1 _ hHeld))) (fun hHeld => ?_)
    rw [Nat.zero_add]
    try simp only [List.getElem_toArray, List.getElem_cons_succ, List.getElem_cons_zero, Act.put, List.setIfInBounds_toArray, List.set_cons_zero, List.set_cons_succ]
    exact node_f1c01 hK0 hr hw hl hE hQp W' b26 g29 c29 g32 c32 b31 b33 g' c' b9 hHeld (hX.grown hg nXY) (hrow) (bk_grown hA hg (ne_27 hY hA)) (hB9) (ne_app (W := W) nXY (hX.lt.2) hob)
  · go_simp
    refine hK.out _ _ (hK0.2 _ _ hHeld ((Below.refl _ W).alloc (hK0.1 _ hHeld) (.cells #[.int .i64 ow, .slice na nn nc] 50))) (fun hHeld => ?_)
    exact node_f1e11 hK0 hr hw hl hE hQp _ b26 g29 c29 g32 c32 b31 b33 W.heap.size b9 hHeld (hX.alloc _) (hY.alloc _) (heap_alloc_new W _) (bk_alloc hA) (hB9) (nXY) (Nat.ne_of_lt (hX.lt.2)) (Nat.ne_of_lt (hY.lt.2))
set_option maxRecDepth 100000 in
set_option maxHeartbeats 2000000 in
theorem node_f1e00 (hK0 : Keeps B S) (hr : ∀ W, S W → SrcAt W vr nr csR) (hw : ∀ W, S W → SrcAt W vw nw csW) (hl : nr ≤ 4 ∧ nw ≤ 4) (hE : MoreEnd s0 s1 s2 s3 s4 s5 s6 s7 s8 s12 s13 s14 s15 s16 s17 s18 s19 s20 s21 s27 s34 vr vw Q S B nr nw csR csW ow na nn nc) (hQp : ∀ c a a' w, Q (.panic c) a w → Q (.panic c) a' w) (W : World) (b26 g29 c29 g32 c32 b31 b33 : Nat) (hHeld : S W) (hX : RowC W B g32 c32 (nr + 1) (csR ++ [.int .i64 ow, .slice na nn nc])) (hY : RowC W B b33 0 0 []) (nXY : g32 ≠ b33) :
    wpAnyH Try.prog Region.Mode.any moreOps Q S 6 #[true, true, true, true, true, true, true, true, true, true, false, true, false, false, false, false, false] (moreFrame s0 s1 s2 s3 s4 s5 s6 s7 s8 s12 s13 s14 s15 s16 s17 s18 s19 s20 s21 s27 vr (.agg #[.int .i64 ow, .slice na nn nc]) s34 vw (.agg #[.int .i64 ow, .slice na nn nc]) (.slice (some ⟨b26, 0, none⟩) 0 0) (.slice (some ⟨g29, 0, none⟩) nr c29) (.slice (some ⟨b31, 0, none⟩) 1 1) (.slice (some ⟨g32, 0, none⟩) (nr + 1) c32) (.slice (some ⟨b33, 0, none⟩) 0 0) undef undef undef undef undef) W := by
  have hHeld0 := hHeld
  unfold moreFrame moreOps
  refine wpAnyH_ready (rs := [10, 12, 15]) (by kernel_rfl) (by simp) ?_
  refine AllReadyH.cons rfl (fun K hK => ?_) (AllReadyH.cons rfl (fun K hK => ?_) (AllReadyH.cons rfl (fun K hK => ?_) AllReadyH.nil))
  · refine step_appC rfl _ _ rfl B b33 0 0 nw vw [] csW rfl rfl hY (hw W hHeld) (by omega) (hK0.1 _ hHeld) ?_
    intro g' c' W' hrow hg hob
    rw [Nat.zero_add, List.nil_append] at hrow
    refine hK.out _ _ (hK0.2 _ _ hHeld (below_grownC hg hY.lt.1 (hK0.1 _ hHeld))) (fun hHeld => ?_)
    rw [Nat.zero_add]
    try simp only [List.getElem_toArray, List.getElem_cons_succ, List.getElem_cons_zero, Act.put, List.setIfInBounds_toArray, List.set_cons_zero, List.set_cons_succ]
    exact node_f1c00 hK0 hr hw hl hE hQp W' b26 g29 c29 g32 c32 b31 b33 g' c' hHeld (hX.grown hg nXY) (hrow) (ne_app (W := W) nXY (hX.lt.2) hob)
  · go_simp
    refine hK.out _ _ (hK0.2 _ _ hHeld ((Below.refl _ W).alloc (hK0.1 _ hHeld) (.cells #[.int .i64 ow, .slice na nn nc] 50))) (fun hHeld => ?_)
    exact node_f1e10 hK0 hr hw hl hE hQp _ b26 g29 c29 g32 c32 b31 b33 W.heap.size hHeld (hX.alloc _) (hY.alloc _) (heap_alloc_new W _) (nXY) (Nat.ne_of_lt (hX.lt.2)) (Nat.ne_of_lt (hY.lt.2))
  · go_simp
    refine hK.out _ _ (hK0.2 _ _ hHeld ((Below.refl _ W).alloc (hK0.1 _ hHeld) (.cells #[.slice none 0 0, .slice none 0 0] 27))) (fun hHeld => ?_)
    exact node_f1e01 hK0 hr hw hl hE hQp _ b26 g29 c29 g32 c32 b31 b33 W.heap.size hHeld (hX.alloc _) (hY.alloc _) (heap_alloc_new W _) (hK0.1 _ hHeld0) (nXY)
set_option maxRecDepth 100000 in
set_option maxHeartbeats 2000000 in
theorem node_f1n11 (hK0 : Keeps B S) (hr : ∀ W, S W → SrcAt W vr nr csR) (hw : ∀ W, S W → SrcAt W vw nw csW) (hl : nr ≤ 4 ∧ nw ≤ 4) (hE : MoreEnd s0 s1 s2 s3 s4 s5 s6 s7 s8 s12 s13 s14 s15 s16 s17 s18 s19 s20 s21 s27 s34 vr vw Q S B nr nw csR csW ow na nn nc) (hQp : ∀ c a a' w, Q (.panic c) a w → Q (.panic c) a' w) (W : World) (b26 g29 c29 g32 c32 b31 b38 b9 : Nat) (hHeld : S W) (hX : RowC W B g32 c32 (nr + 1) (csR ++ [.int .i64 ow, .slice na nn nc])) (hR : W.heap[b38]? = some (.cells #[.int .i64 ow, .slice na nn nc] 50 (0, 0))) (hA : W.heap[b9]? = some (.cells #[.slice none 0 0, .slice none 0 0] 27 (0, 0))) (hB9 : B ≤ b9) (nXR : g32 ≠ b38) :
    wpAnyH Try.prog Region.Mode.any moreOps Q S 5 #[true, true, true, true, true, true, true, false, true, true, false, true, true, false, false, true, false] (moreFrame s0 s1 s2 s3 s4 s5 s6 s7 s8 s12 s13 s14 s15 s16 s17 s18 s19 s20 s21 s27 vr (.agg #[.int .i64 ow, .slice na nn nc]) s34 vw (.agg #[.int .i64 ow, .slice na nn nc]) (.slice (some ⟨b26, 0, none⟩) 0 0) (.slice (some ⟨g29, 0, none⟩) nr c29) (.slice (some ⟨b31, 0, none⟩) 1 1) (.slice (some ⟨g32, 0, none⟩) (nr + 1) c32) undef undef (.slice (some ⟨b38, 0, none⟩) 1 1) undef undef (.pointer (some ⟨b9, 0, none⟩))) W := by
  have hHeld0 := hHeld
  unfold moreFrame moreOps
  refine wpAnyH_ready (rs := [7]) (by kernel_rfl) (by simp) ?_
  refine AllReadyH.cons rfl (fun K hK => ?_) AllReadyH.nil
  · go_simp
    refine hK.out _ _ (hK0.2 _ _ hHeld ((Below.refl _ W).alloc (hK0.1 _ hHeld) (.cells #[] 50))) (fun hHeld => ?_)
    exact node_f1e11 hK0 hr hw hl hE hQp _ b26 g29 c29 g32 c32 b31 W.heap.size b38 b9 hHeld (hX.alloc _) (rowC_new W B (hK0.1 _ hHeld0)) (bk_alloc hR) (bk_alloc hA) (hB9) (Nat.ne_of_lt (hX.lt.2)) (nXR) (Nat.ne_of_gt (bk_lt hR))
set_option maxRecDepth 100000 in
set_option maxHeartbeats 2000000 in
theorem node_f1n10 (hK0 : Keeps B S) (hr : ∀ W, S W → SrcAt W vr nr csR) (hw : ∀ W, S W → SrcAt W vw nw csW) (hl : nr ≤ 4 ∧ nw ≤ 4) (hE : MoreEnd s0 s1 s2 s3 s4 s5 s6 s7 s8 s12 s13 s14 s15 s16 s17 s18 s19 s20 s21 s27 s34 vr vw Q S B nr nw csR csW ow na nn nc) (hQp : ∀ c a a' w, Q (.panic c) a w → Q (.panic c) a' w) (W : World) (b26 g29 c29 g32 c32 b31 b38 : Nat) (hHeld : S W) (hX : RowC W B g32 c32 (nr + 1) (csR ++ [.int .i64 ow, .slice na nn nc])) (hR : W.heap[b38]? = some (.cells #[.int .i64 ow, .slice na nn nc] 50 (0, 0))) (nXR : g32 ≠ b38) :
    wpAnyH Try.prog Region.Mode.any moreOps Q S 6 #[true, true, true, true, true, true, true, false, true, true, false, true, true, false, false, false, false] (moreFrame s0 s1 s2 s3 s4 s5 s6 s7 s8 s12 s13 s14 s15 s16 s17 s18 s19 s20 s21 s27 vr (.agg #[.int .i64 ow, .slice na nn nc]) s34 vw (.agg #[.int .i64 ow, .slice na nn nc]) (.slice (some ⟨b26, 0, none⟩) 0 0) (.slice (some ⟨g29, 0, none⟩) nr c29) (.slice (some ⟨b31, 0, none⟩) 1 1) (.slice (some ⟨g32, 0, none⟩) (nr + 1) c32) undef undef (.slice (some ⟨b38, 0, none⟩) 1 1) undef undef undef) W := by
  have hHeld0 := hHeld
  unfold moreFrame moreOps
  refine wpAnyH_ready (rs := [7, 15]) (by kernel_rfl) (by simp) ?_
  refine AllReadyH.cons rfl (fun K hK => ?_) (AllReadyH.cons rfl (fun K hK => ?_) AllReadyH.nil)
  · go_simp
    refine hK.out _ _ (hK0.2 _ _ hHeld ((Below.refl _ W).alloc (hK0.1 _ hHeld) (.cells #[] 50))) (fun hHeld => ?_)
    exact node_f1e10 hK0 hr hw hl hE hQp _ b26 g29 c29 g32 c32 b31 W.heap.size b38 hHeld (hX.alloc _) (rowC_new W B (hK0.1 _ hHeld0)) (bk_alloc hR) (Nat.ne_of_lt (hX.lt.2)) (nXR) (Nat.ne_of_gt (bk_lt hR))
  · go_simp
    refine hK.out _ _ (hK0.2 _ _ hHeld ((Below.refl _ W).alloc (hK0.1 _ hHeld) (.cells #[.slice none 0 0, .slice none 0 0] 27))) (fun hHeld => ?_)
    exact node_f1n11 hK0 hr hw hl hE hQp _ b26 g29 c29 g32 c32 b31 b38 W.heap.size hHeld (hX.alloc _) (bk_alloc hR) (heap_alloc_new W _) (hK0.1 _ hHeld0) (nXR)
set_option maxRecDepth 100000 in
set_option maxHeartbeats 2000000 in
theorem node_f1n01 (hK0 : Keeps B S) (hr : ∀ W, S W → SrcAt W vr nr csR) (hw : ∀ W, S W → SrcAt W vw nw csW) (hl : nr ≤ 4 ∧ nw ≤ 4) (hE : MoreEnd s0 s1 s2 s3 s4 s5 s6 s7 s8 s12 s13 s14 s15 s16 s17 s18 s19 s20 s21 s27 s34 vr vw Q S B nr nw csR csW ow na nn nc) (hQp : ∀ c a a' w, Q (.panic c) a w → Q (.panic c) a' w) (W : World) (b26 g29 c29 g32 c32 b31 b9 : Nat) (hHeld : S W) (hX : RowC W B g32 c32 (nr + 1) (csR ++ [.int .i64 ow, .slice na nn nc])) (hA : W.heap[b9]? = some (.cells #[.slice none 0 0, .slice none 0 0] 27 (0, 0))) (hB9 : B ≤ b9) :
    wpAnyH Try.prog Region.Mode.any moreOps Q S 6 #[true, true, true, true, true, true, true, false, true, true, false, true, false, false, false, true, false] (moreFrame s0 s1 s2 s3 s4 s5 s6 s7 s8 s12 s13 s14 s15 s16 s17 s18 s19 s20 s21 s27 vr (.agg #[.int .i64 ow, .slice na nn nc]) s34 vw (.agg #[.int .i64 ow, .slice na nn nc]) (.slice (some ⟨b26, 0, none⟩) 0 0) (.slice (some ⟨g29, 0, none⟩) nr c29) (.slice (some ⟨b31, 0, none⟩) 1 1) (.slice (some ⟨g32, 0, none⟩) (nr + 1) c32) undef undef undef undef undef (.pointer (some ⟨b9, 0, none⟩))) W := by
  have hHeld0 := hHeld
  unfold moreFrame moreOps
  refine wpAnyH_ready (rs := [7, 12]) (by kernel_rfl) (by simp) ?_
  refine AllReadyH.cons rfl (fun K hK => ?_) (AllReadyH.cons rfl (fun K hK => ?_) AllReadyH.nil)
  · go_simp
    refine hK.out _ _ (hK0.2 _ _ hHeld ((Below.refl _ W).alloc (hK0.1 _ hHeld) (.cells #[] 50))) (fun hHeld => ?_)
    exact node_f1e01 hK0 hr hw hl hE hQp _ b26 g29 c29 g32 c32 b31 W.heap.size b9 hHeld (hX.alloc _) (rowC_new W B (hK0.1 _ hHeld0)) (bk_alloc hA) (hB9) (Nat.ne_of_lt (hX.lt.2))
  · go_simp
    refine hK.out _ _ (hK0.2 _ _ hHeld ((Below.refl _ W).alloc (hK0.1 _ hHeld) (.cells #[.int .i64 ow, .slice na nn nc] 50))) (fun hHeld => ?_)
    exact node_f1n11 hK0 hr hw hl hE hQp _ b26 g29 c29 g32 c32 b31 W.heap.size b9 hHeld (hX.alloc _) (heap_alloc_new W _) (bk_alloc hA) (hB9) (Nat.ne_of_lt (hX.lt.2))
set_option maxRecDepth 100000 in
set_option maxHeartbeats 2000000 in
theorem node_f1n00 (hK0 : Keeps B S) (hr : ∀ W, S W → SrcAt W vr nr csR) (hw : ∀ W, S W → SrcAt W vw nw csW) (hl : nr ≤ 4 ∧ nw ≤ 4) (hE : MoreEnd s0 s1 s2 s3 s4 s5 s6 s7 s8 s12 s13 s14 s15 s16 s17 s18 s19 s20 s21 s27 s34 vr vw Q S B nr nw csR csW ow na nn nc) (hQp : ∀ c a a' w, Q (.panic c) a w → Q (.panic c) a' w) (W : World) (b26 g29 c29 g32 c32 b31 : Nat) (hHeld : S W) (hX : RowC W B g32 c32 (nr + 1) (csR ++ [.int .i64 ow, .slice na nn nc])) :
    wpAnyH Try.prog Region.Mode.any moreOps Q S 7 #[true, true, true, true, true, true, true, false, true, true, false, true, false, false, false, false, false] (moreFrame s0 s1 s2 s3 s4 s5 s6 s7 s8 s12 s13 s14 s15 s16 s17 s18 s19 s20 s21 s27 vr (.agg #[.int .i64 ow, .slice na nn nc]) s34 vw (.agg #[.int .i64 ow, .slice na nn nc]) (.slice (some ⟨b26, 0, none⟩) 0 0) (.slice (some ⟨g29, 0, none⟩) nr c29) (.slice (some ⟨b31, 0, none⟩) 1 1) (.slice (some ⟨g32, 0, none⟩) (nr + 1) c32) undef undef undef undef undef undef) W := by
  have hHeld0 := hHeld
  unfold moreFrame moreOps
  refine wpAnyH_ready (rs := [7, 12, 15]) (by kernel_rfl) (by simp) ?_
  refine AllReadyH.cons rfl (fun K hK => ?_) (AllReadyH.cons rfl (fun K hK => ?_) (AllReadyH.cons rfl (fun K hK => ?_) AllReadyH.nil))
  · go_simp
    refine hK.out _ _ (hK0.2 _ _ hHeld ((Below.refl _ W).alloc (hK0.1 _ hHeld) (.cells #[] 50))) (fun hHeld => ?_)
    exact node_f1e00 hK0 hr hw hl hE hQp _ b26 g29 c29 g32 c32 b31 W.heap.size hHeld (hX.alloc _) (rowC_new W B (hK0.1 _ hHeld0)) (Nat.ne_of_lt (hX.lt.2))
  · go_simp
    refine hK.out _ _ (hK0.2 _ _ hHeld ((Below.refl _ W).alloc (hK0.1 _ hHeld) (.cells #[.int .i64 ow, .slice na nn nc] 50))) (fun hHeld => ?_)
    exact node_f1n10 hK0 hr hw hl hE hQp _ b26 g29 c29 g32 c32 b31 W.heap.size hHeld (hX.alloc _) (heap_alloc_new W _) (Nat.ne_of_lt (hX.lt.2))
  · go_simp
    refine hK.out _ _ (hK0.2 _ _ hHeld ((Below.refl _ W).alloc (hK0.1 _ hHeld) (.cells #[.slice none 0 0, .slice none 0 0] 27))) (fun hHeld => ?_)
    exact node_f1n01 hK0 hr hw hl hE hQp _ b26 g29 c29 g32 c32 b31 W.heap.size hHeld (hX.alloc _) (heap_alloc_new W _) (hK0.1 _ hHeld0)
set_option maxRecDepth 100000 in
set_option maxHeartbeats 2000000 in
theorem node_c1e11 (hK0 : Keeps B S) (hr : ∀ W, S W → SrcAt W vr nr csR) (hw : ∀ W, S W → SrcAt W vw nw csW) (hl : nr ≤ 4 ∧ nw ≤ 4) (hE : MoreEnd s0 s1 s2 s3 s4 s5 s6 s7 s8 s12 s13 s14 s15 s16 s17 s18 s19 s20 s21 s27 s34 vr vw Q S B nr nw csR csW ow na nn nc) (hQp : ∀ c a a' w, Q (.panic c) a w → Q (.panic c) a' w) (W : World) (b26 g29 c29 b31 b33 b38 b9 : Nat) (hHeld : S W) (hX : RowC W B g29 c29 nr csR) (hP : W.heap[b31]? = some (.cells #[.int .i64 ow, .slice na nn nc] 50 (0, 0))) (hY : RowC W B b33 0 0 []) (hR : W.heap[b38]? = some (.cells #[.int .i64 ow, .slice na nn nc] 50 (0, 0))) (hA : W.heap[b9]? = some (.cells #[.slice none 0 0, .slice none 0 0] 27 (0, 0))) (hB9 : B ≤ b9) (nXP : g29 ≠ b31) (nXY : g29 ≠ b33) (nXR : g29 ≠ b38) (nPY : b31 ≠ b33) (nPR : b31 ≠ b38) (nYR : b33 ≠ b38) :
    wpAnyH Try.prog Region.Mode.any moreOps Q S 5 #[true, true, true, true, true, true, false, true, true, true, false, true, true, false, false, true, false] (moreFrame s0 s1 s2 s3 s4 s5 s6 s7 s8 s12 s13 s14 s15 s16 s17 s18 s19 s20 s21 s27 vr (.agg #[.int .i64 ow, .slice na nn nc]) s34 vw (.agg #[.int .i64 ow, .slice na nn nc]) (.slice (some ⟨b26, 0, none⟩) 0 0) (.slice (some ⟨g29, 0, none⟩) nr c29) (.slice (some ⟨b31, 0, none⟩) 1 1) undef (.slice (some ⟨b33, 0, none⟩) 0 0) undef (.slice (some ⟨b38, 0, none⟩) 1 1) undef undef (.pointer (some ⟨b9, 0, none⟩))) W := by
  have hHeld0 := hHeld
  unfold moreFrame moreOps
  refine wpAnyH_ready (rs := [6]) (by kernel_rfl) (by simp) ?_
  refine AllReadyH.cons rfl (fun K hK => ?_) AllReadyH.nil
  · refine step_appC rfl _ _ rfl B g29 nr c29 1 _ csR [.int .i64 ow, .slice na nn nc] rfl rfl hX (src_bk hP rfl rfl) (by omega) (hK0.1 _ hHeld) ?_
    intro g' c' W' hrow hg hob
    refine hK.out _ _ (hK0.2 _ _ hHeld (below_grownC hg hX.lt.1 (hK0.1 _ hHeld))) (fun hHeld => ?_)
    try simp only [List.getElem_toArray, List.getElem_cons_succ, List.getElem_cons_zero, Act.put, List.setIfInBounds_toArray, List.set_cons_zero, List.set_cons_succ]
    exact node_f1e11 hK0 hr hw hl hE hQp W' b26 g29 c29 g' c' b31 b33 b38 b9 hHeld (hrow) (hY.grown hg nXY.symm) (bk_grown hR hg nXR.symm) (bk_grown hA hg (ne_27 hX hA)) (hB9) (ne_app' (W := W) nXY (hY.lt.2) hob) (ne_app' (W := W) nXR (bk_lt hR) hob) (nYR)
set_option maxRecDepth 100000 in
set_option maxHeartbeats 2000000 in
theorem node_c1e10 (hK0 : Keeps B S) (hr : ∀ W, S W → SrcAt W vr nr csR) (hw : ∀ W, S W → SrcAt W vw nw csW) (hl : nr ≤ 4 ∧ nw ≤ 4) (hE : MoreEnd s0 s1 s2 s3 s4 s5 s6 s7 s8 s12 s13 s14 s15 s16 s17 s18 s19 s20 s21 s27 s34 vr vw Q S B nr nw csR csW ow na nn nc) (hQp : ∀ c a a' w, Q (.panic c) a w → Q (.panic c) a' w) (W : World) (b26 g29 c29 b31 b33 b38 : Nat) (hHeld : S W) (hX : RowC W B g29 c29 nr csR) (hP : W.heap[b31]? = some (.cells #[.int .i64 ow, .slice na nn nc] 50 (0, 0))) (hY : RowC W B b33 0 0 []) (hR : W.heap[b38]? = some (.cells #[.int .i64 ow, .slice na nn nc] 50 (0, 0))) (nXP : g29 ≠ b31) (nXY : g29 ≠ b33) (nXR : g29 ≠ b38) (nPY : b31 ≠ b33) (nPR : b31 ≠ b38) (nYR : b33 ≠ b38) :
    wpAnyH Try.prog Region.Mode.any moreOps Q S 6 #[true, true, true, true, true, true, false, true, true, true, false, true, true, false, false, false, false] (moreFrame s0 s1 s2 s3 s4 s5 s6 s7 s8 s12 s13 s14 s15 s16 s17 s18 s19 s20 s21 s27 vr (.agg #[.int .i64 ow, .slice na nn nc]) s34 vw (.agg #[.int .i64 ow, .slice na nn nc]) (.slice (some ⟨b26, 0, none⟩) 0 0) (.slice (some ⟨g29, 0, none⟩) nr c29) (.slice (some ⟨b31, 0, none⟩) 1 1) undef (.slice (some ⟨b33, 0, none⟩) 0 0) undef (.slice (some ⟨b38, 0, none⟩) 1 1) undef undef undef) W := by
  have hHeld0 := hHeld
  unfold moreFrame moreOps
  refine wpAnyH_ready (rs := [6, 15]) (by kernel_rfl) (by simp) ?_
  refine AllReadyH.cons rfl (fun K hK => ?_) (AllReadyH.cons rfl (fun K hK => ?_) AllReadyH.nil)
  · refine step_appC rfl _ _ rfl B g29 nr c29 1 _ csR [.int .i64 ow, .slice na nn nc] rfl rfl hX (src_bk hP rfl rfl) (by omega) (hK0.1 _ hHeld) ?_
    intro g' c' W' hrow hg hob
    refine hK.out _ _ (hK0.2 _ _ hHeld (below_grownC hg hX.lt.1 (hK0.1 _ hHeld))) (fun hHeld => ?_)
    try simp only [List.getElem_toArray, List.getElem_cons_succ, List.getElem_cons_zero, Act.put, List.setIfInBounds_toArray, List.set_cons_zero, List.set_cons_succ]
    exact node_f1e10 hK0 hr hw hl hE hQp W' b26 g29 c29 g' c' b31 b33 b38 hHeld (hrow) (hY.grown hg nXY.symm) (bk_grown hR hg nXR.symm) (ne_app' (W := W) nXY (hY.lt.2) hob) (ne_app' (W := W) nXR (bk_lt hR) hob) (nYR)
  · go_simp
    refine hK.out _ _ (hK0.2 _ _ hHeld ((Below.refl _ W).alloc (hK0.1 _ hHeld) (.cells #[.slice none 0 0, .slice none 0 0] 27))) (fun hHeld => ?_)
    exact node_c1e11 hK0 hr hw hl hE hQp _ b26 g29 c29 b31 b33 b38 W.heap.size hHeld (hX.alloc _) (bk_alloc hP) (hY.alloc _) (bk_alloc hR) (heap_alloc_new W _) (hK0.1 _ hHeld0) (nXP) (nXY) (nXR) (nPY) (nPR) (nYR)
set_option maxRecDepth 100000 in
set_option maxHeartbeats 2000000 in
theorem node_c1e01 (hK0 : Keeps B S) (hr : ∀ W, S W → SrcAt W vr nr csR) (hw : ∀ W, S W → SrcAt W vw nw csW) (hl : nr ≤ 4 ∧ nw ≤ 4) (hE : MoreEnd s0 s1 s2 s3 s4 s5 s6 s7 s8 s12 s13 s14 s15 s16 s17 s18 s19 s20 s21 s27 s34 vr vw Q S B nr nw csR csW ow na nn nc) (hQp : ∀ c a a' w, Q (.panic c) a w → Q (.panic c) a' w) (W : World) (b26 g29 c29 b31 b33 b9 : Nat) (hHeld : S W) (hX : RowC W B g29 c29 nr csR) (hP : W.heap[b31]? = some (.cells #[.int .i64 ow, .slice na nn nc] 50 (0, 0))) (hY : RowC W B b33 0 0 []) (hA : W.heap[b9]? = some (.cells #[.slice none 0 0, .slice none 0 0] 27 (0, 0))) (hB9 : B ≤ b9) (nXP : g29 ≠ b31) (nXY : g29 ≠ b33) (nPY : b31 ≠ b33) :
    wpAnyH Try.prog Region.Mode.any moreOps Q S 6 #[true, true, true, true, true, true, false, true, true, true, false, true, false, false, false, true, false] (moreFrame s0 s1 s2 s3 s4 s5 s6 s7 s8 s12 s13 s14 s15 s16 s17 s18 s19 s20 s21 s27 vr (.agg #[.int .i64 ow, .slice na nn nc]) s34 vw (.agg #[.int .i64 ow, .slice na nn nc]) (.slice (some ⟨b26, 0, none⟩) 0 0) (.slice (some ⟨g29, 0, none⟩) nr c29) (.slice (some ⟨b31, 0, none⟩) 1 1) undef (.slice (some ⟨b33, 0, none⟩) 0 0) undef undef undef undef (.pointer (some ⟨b9, 0, none⟩))) W := by
  have hHeld0 := hHeld
  unfold moreFrame moreOps
  refine wpAnyH_ready (rs := [6, 12]) (by kernel_rfl) (by simp) ?_
  refine AllReadyH.cons rfl (fun K hK => ?_) (AllReadyH.cons rfl (fun K hK => ?_) AllReadyH.nil)
  · refine step_appC rfl _ _ rfl B g29 nr c29 1 _ csR [.int .i64 ow, .slice na nn nc] rfl rfl hX (src_bk hP rfl rfl) (by omega) (hK0.1 _ hHeld) ?_
    intro g' c' W' hrow hg hob
    refine hK.out _ _ (hK0.2 _ _ hHeld (below_grownC hg hX.lt.1 (hK0.1 _ hHeld))) (fun hHeld => ?_)
    try simp only [List.getElem_toArray, List.getElem_cons_succ, List.getElem_cons_zero, Act.put, List.setIfInBounds_toArray, List.set_cons_zero, List.set_cons_succ]
    exact node_f1e01 hK0 hr hw hl hE hQp W' b26 g29 c29 g' c' b31 b33 b9 hHeld (hrow) (hY.grown hg nXY.symm) (bk_grown hA hg (ne_27 hX hA)) (hB9) (ne_app' (W := W) nXY (hY.lt.2) hob)
  · go_simp
    refine hK.out _ _ (hK0.2 _ _ hHeld ((Below.refl _ W).alloc (hK0.1 _ hHeld) (.cells #[.int .i64 ow, .slice na nn nc] 50))) (fun hHeld => ?_)
    exact node_c1e11 hK0 hr hw hl hE hQp _ b26 g29 c29 b31 b33 W.heap.size b9 hHeld (hX.alloc _) (bk_alloc hP) (hY.alloc _) (heap_alloc_new W _) (bk_alloc hA) (hB9) (nXP) (nXY) (Nat.ne_of_lt (hX.lt.2)) (nPY) (Nat.ne_of_lt (bk_lt hP)) (Nat.ne_of_lt (hY.lt.2))
set_option maxRecDepth 100000 in
set_option maxHeartbeats 2000000 in
theorem node_c1e00 (hK0 : Keeps B S) (hr : ∀ W, S W → SrcAt W vr nr csR) (hw : ∀ W, S W → SrcAt W vw nw csW) (hl : nr ≤ 4 ∧ nw ≤ 4) (hE : MoreEnd s0 s1 s2 s3 s4 s5 s6 s7 s8 s12 s13 s14 s15 s16 s17 s18 s19 s20 s21 s27 s34 vr vw Q S B nr nw csR csW ow na nn nc) (hQp : ∀ c a a' w, Q (.panic c) a w → Q (.panic c) a' w) (W : World) (b26 g29 c29 b31 b33 : Nat) (hHeld : S W) (hX : RowC W B g29 c29 nr csR) (hP : W.heap[b31]? = some (.cells #[.int .i64 ow, .slice na nn nc] 50 (0, 0))) (hY : RowC W B b33 0 0 []) (nXP : g29 ≠ b31) (nXY : g29 ≠ b33) (nPY : b31 ≠ b33) :
    wpAnyH Try.prog Region.Mode.any moreOps Q S 7 #[true, true, true, true, true, true, false, true, true, true, false, true, false, false, false, false, false] (moreFrame s0 s1 s2 s3 s4 s5 s6 s7 s8 s12 s13 s14 s15 s16 s17 s18 s19 s20 s21 s27 vr (.agg #[.int .i64 ow, .slice na nn nc]) s34 vw (.agg #[.int .i64 ow, .slice na nn nc]) (.slice (some ⟨b26, 0, none⟩) 0 0) (.slice (some ⟨g29, 0, none⟩) nr c29) (.slice (some ⟨b31, 0, none⟩) 1 1) undef (.slice (some ⟨b33, 0, none⟩) 0 0) undef undef undef undef undef) W := by
  have hHeld0 := hHeld
  unfold moreFrame moreOps
  refine wpAnyH_ready (rs := [6, 12, 15]) (by kernel_rfl) (by simp) ?_
  refine AllReadyH.cons rfl (fun K hK => ?_) (AllReadyH.cons rfl (fun K hK => ?_) (AllReadyH.cons rfl (fun K hK => ?_) AllReadyH.nil))
  · refine step_appC rfl _ _ rfl B g29 nr c29 1 _ csR [.int .i64 ow, .slice na nn nc] rfl rfl hX (src_bk hP rfl rfl) (by omega) (hK0.1 _ hHeld) ?_
    intro g' c' W' hrow hg hob
    refine hK.out _ _ (hK0.2 _ _ hHeld (below_grownC hg hX.lt.1 (hK0.1 _ hHeld))) (fun hHeld => ?_)
    try simp only [List.getElem_toArray, List.getElem_cons_succ, List.getElem_cons_zero, Act.put, List.setIfInBounds_toArray, List.set_cons_zero, List.set_cons_succ]
    exact node_f1e00 hK0 hr hw hl hE hQp W' b26 g29 c29 g' c' b31 b33 hHeld (hrow) (hY.grown hg nXY.symm) (ne_app' (W := W) nXY (hY.lt.2) hob)
  · go_simp
    refine hK.out _ _ (hK0.2 _ _ hHeld ((Below.refl _ W).alloc (hK0.1 _ hHeld) (.cells #[.int .i64 ow, .slice na nn nc] 50))) (fun hHeld => ?_)
    exact node_c1e10 hK0 hr hw hl hE hQp _ b26 g29 c29 b31 b33 W.heap.size hHeld (hX.alloc _) (bk_alloc hP) (hY.alloc _) (heap_alloc_new W _) (nXP) (nXY) (Nat.ne_of_lt (hX.lt.2)) (nPY) (Nat.ne_of_lt (bk_lt hP)) (Nat.ne_of_lt (hY.lt.2))
  · go_simp
    refine hK.out _ _ (hK0.2 _ _ hHeld ((Below.refl _ W).alloc (hK0.1 _ hHeld) (.cells #[.slice none 0 0, .slice none 0 0] 27))) (fun hHeld => ?_)
    exact node_c1e01 hK0 hr hw hl hE hQp _ b26 g29 c29 b31 b33 W.heap.size hHeld (hX.alloc _) (bk_alloc hP) (hY.alloc _) (heap_alloc_new W _) (hK0.1 _ hHeld0) (nXP) (nXY) (nPY)
set_option maxRecDepth 100000 in
set_option maxHeartbeats 2000000 in
theorem node_c1n11 (hK0 : Keeps B S) (hr : ∀ W, S W → SrcAt W vr nr csR) (hw : ∀ W, S W → SrcAt W vw nw csW) (hl : nr ≤ 4 ∧ nw ≤ 4) (hE : MoreEnd s0 s1 s2 s3 s4 s5 s6 s7 s8 s12 s13 s14 s15 s16 s17 s18 s19 s20 s21 s27 s34 vr vw Q S B nr nw csR csW ow na nn nc) (hQp : ∀ c a a' w, Q (.panic c) a w → Q (.panic c) a' w) (W : World) (b26 g29 c29 b31 b38 b9 : Nat) (hHeld : S W) (hX : RowC W B g29 c29 nr csR) (hP : W.heap[b31]? = some (.cells #[.int .i64 ow, .slice na nn nc] 50 (0, 0))) (hR : W.heap[b38]? = some (.cells #[.int .i64 ow, .slice na nn nc] 50 (0, 0))) (hA : W.heap[b9]? = some (.cells #[.slice none 0 0, .slice none 0 0] 27 (0, 0))) (hB9 : B ≤ b9) (nXP : g29 ≠ b31) (nXR : g29 ≠ b38) (nPR : b31 ≠ b38) :
    wpAnyH Try.prog Region.Mode.any moreOps Q S 6 #[true, true, true, true, true, true, false, false, true, true, false, true, true, false, false, true, false] (moreFrame s0 s1 s2 s3 s4 s5 s6 s7 s8 s12 s13 s14 s15 s16 s17 s18 s19 s20 s21 s27 vr (.agg #[.int .i64 ow, .slice na nn nc]) s34 vw (.agg #[.int .i64 ow, .slice na nn nc]) (.slice (some ⟨b26, 0, none⟩) 0 0) (.slice (some ⟨g29, 0, none⟩) nr c29) (.slice (some ⟨b31, 0, none⟩) 1 1) undef undef undef (.slice (some ⟨b38, 0, none⟩) 1 1) undef undef (.pointer (some ⟨b9, 0, none⟩))) W := by
  have hHeld0 := hHeld
  unfold moreFrame moreOps
  refine wpAnyH_ready (rs := [6, 7]) (by kernel_rfl) (by simp) ?_
  refine AllReadyH.cons rfl (fun K hK => ?_) (AllReadyH.cons rfl (fun K hK => ?_) AllReadyH.nil)
  · refine step_appC rfl _ _ rfl B g29 nr c29 1 _ csR [.int .i64 ow, .slice na nn nc] rfl rfl hX (src_bk hP rfl rfl) (by omega) (hK0.1 _ hHeld) ?_
    intro g' c' W' hrow hg hob
    refine hK.out _ _ (hK0.2 _ _ hHeld (below_grownC hg hX.lt.1 (hK0.1 _ hHeld))) (fun hHeld => ?_)
    try simp only [List.getElem_toArray, List.getElem_cons_succ, List.getElem_cons_zero, Act.put, List.setIfInBounds_toArray, List.set_cons_zero, List.set_cons_succ]
    exact node_f1n11 hK0 hr hw hl hE hQp W' b26 g29 c29 g' c' b31 b38 b9 hHeld (hrow) (bk_grown hR hg nXR.symm) (bk_grown hA hg (ne_27 hX hA)) (hB9) (ne_app' (W := W) nXR (bk_lt hR) hob)
  · go_simp
    refine hK.out _ _ (hK0.2 _ _ hHeld ((Below.refl _ W).alloc (hK0.1 _ hHeld) (.cells #[] 50))) (fun hHeld => ?_)
    exact node_c1e11 hK0 hr hw hl hE hQp _ b26 g29 c29 b31 W.heap.size b38 b9 hHeld (hX.alloc _) (bk_alloc hP) (rowC_new W B (hK0.1 _ hHeld0)) (bk_alloc hR) (bk_alloc hA) (hB9) (nXP) (Nat.ne_of_lt (hX.lt.2)) (nXR) (Nat.ne_of_lt (bk_lt hP)) (nPR) (Nat.ne_of_gt (bk_lt hR))
set_option maxRecDepth 100000 in
set_option maxHeartbeats 2000000 in
theorem node_c1n10 (hK0 : Keeps B S) (hr : ∀ W, S W → SrcAt W vr nr csR) (hw : ∀ W, S W → SrcAt W vw nw csW) (hl : nr ≤ 4 ∧ nw ≤ 4) (hE : MoreEnd s0 s1 s2 s3 s4 s5 s6 s7 s8 s12 s13 s14 s15 s16 s17 s18 s19 s20 s21 s27 s34 vr vw Q S B nr nw csR csW ow na nn nc) (hQp : ∀ c a a' w, Q (.panic c) a w → Q (.panic c) a' w) (W : World) (b26 g29 c29 b31 b38 : Nat) (hHeld : S W) (hX : RowC W B g29 c29 nr csR) (hP : W.heap[b31]? = some (.cells #[.int .i64 ow, .slice na nn nc] 50 (0, 0))) (hR : W.heap[b38]? = some (.cells #[.int .i64 ow, .slice na nn nc] 50 (0, 0))) (nXP : g29 ≠ b31) (nXR : g29 ≠ b38) (nPR : b31 ≠ b38) :
    wpAnyH Try.prog Region.Mode.any moreOps Q S 7 #[true, true, true, true, true, true, false, false, true, true, false, true, true, false, false, false, false] (moreFrame s0 s1 s2 s3 s4 s5 s6 s7 s8 s12 s13 s14 s15 s16 s17 s18 s19 s20 s21 s27 vr (.agg #[.int .i64 ow, .slice na nn nc]) s34 vw (.agg #[.int .i64 ow, .slice na nn nc]) (.slice (some ⟨b26, 0, none⟩) 0 0) (.slice (some ⟨g29, 0, none⟩) nr c29) (.slice (some ⟨b31, 0, none⟩) 1 1) undef undef undef (.slice (some ⟨b38, 0, none⟩) 1 1) undef undef undef) W := by
  have hHeld0 := hHeld
  unfold moreFrame moreOps
  refine wpAnyH_ready (rs := [6, 7, 15]) (by kernel_rfl) (by simp) ?_
  refine AllReadyH.cons rfl (fun K hK => ?_) (AllReadyH.cons rfl (fun K hK => ?_) (AllReadyH.cons rfl (fun K hK => ?_) AllReadyH.nil))
  · refine step_appC rfl _ _ rfl B g29 nr c29 1 _ csR [.int .i64 ow, .slice na nn nc] rfl rfl hX (src_bk hP rfl rfl) (by omega) (hK0.1 _ hHeld) ?_
    intro g' c' W' hrow hg hob
    refine hK.out _ _ (hK0.2 _ _ hHeld (below_grownC hg hX.lt.1 (hK0.1 _ hHeld))) (fun hHeld => ?_)
    try simp only [List.getElem_toArray, List.getElem_cons_succ, List.getElem_cons_zero, Act.put, List.setIfInBounds_toArray, List.set_cons_zero, List.set_cons_succ]
    exact node_f1n10 hK0 hr hw hl hE hQp W' b26 g29 c29 g' c' b31 b38 hHeld (hrow) (bk_grown hR hg nXR.symm) (ne_app' (W := W) nXR (bk_lt hR) hob)
  · go_simp
    refine hK.out _ _ (hK0.2 _ _ hHeld ((Below.refl _ W).alloc (hK0.1 _ hHeld) (.cells #[] 50))) (fun hHeld => ?_)
    exact node_c1e10 hK0 hr hw hl hE hQp _ b26 g29 c29 b31 W.heap.size b38 hHeld (hX.alloc _) (bk_alloc hP) (rowC_new W B (hK0.1 _ hHeld0)) (bk_alloc hR) (nXP) (Nat.ne_of_lt (hX.lt.2)) (nXR) (Nat.ne_of_lt (bk_lt hP)) (nPR) (Nat.ne_of_gt (bk_lt hR))
  · go_simp
    refine hK.out _ _ (hK0.2 _ _ hHeld ((Below.refl _ W).alloc (hK0.1 _ hHeld) (.cells #[.slice none 0 0, .slice none 0 0] 27))) (fun hHeld => ?_)
    exact node_c1n11 hK0 hr hw hl hE hQp _ b26 g29 c29 b31 b38 W.heap.size hHeld (hX.alloc _) (bk_alloc hP) (bk_alloc hR) (heap_alloc_new W _) (hK0.1 _ hHeld0) (nXP) (nXR) (nPR)
set_option maxRecDepth 100000 in
set_option maxHeartbeats 2000000 in
theorem node_c1n01 (hK0 : Keeps B S) (hr : ∀ W, S W → SrcAt W vr nr csR) (hw : ∀ W, S W → SrcAt W vw nw csW) (hl : nr ≤ 4 ∧ nw ≤ 4) (hE : MoreEnd s0 s1 s2 s3 s4 s5 s6 s7 s8 s12 s13 s14 s15 s16 s17 s18 s19 s20 s21 s27 s34 vr vw Q S B nr nw csR csW ow na nn nc) (hQp : ∀ c a a' w, Q (.panic c) a w → Q (.panic c) a' w) (W : World) (b26 g29 c29 b31 b9 : Nat) (hHeld : S W) (hX : RowC W B g29 c29 nr csR) (hP : W.heap[b31]? = some (.cells #[.int .i64 ow, .slice na nn nc] 50 (0, 0))) (hA : W.heap[b9]? = some (.cells #[.slice none 0 0, .slice none 0 0] 27 (0, 0))) (hB9 : B ≤ b9) (nXP : g29 ≠ b31) :
    wpAnyH Try.prog Region.Mode.any moreOps Q S 7 #[true, true, true, true, true, true, false, false, true, true, false, true, false, false, false, true, false] (moreFrame s0 s1 s2 s3 s4 s5 s6 s7 s8 s12 s13 s14 s15 s16 s17 s18 s19 s20 s21 s27 vr (.agg #[.int .i64 ow, .slice na nn nc]) s34 vw (.agg #[.int .i64 ow, .slice na nn nc]) (.slice (some ⟨b26, 0, none⟩) 0 0) (.slice (some ⟨g29, 0, none⟩) nr c29) (.slice (some ⟨b31, 0, none⟩) 1 1) undef undef undef undef undef undef (.pointer (some ⟨b9, 0, none⟩))) W := by
  have hHeld0 := hHeld
  unfold moreFrame moreOps
  refine wpAnyH_ready (rs := [6, 7, 12]) (by kernel_rfl) (by simp) ?_
  refine AllReadyH.cons rfl (fun K hK => ?_) (AllReadyH.cons rfl (fun K hK => ?_) (AllReadyH.cons rfl (fun K hK => ?_) AllReadyH.nil))
  · refine step_appC rfl _ _ rfl B g29 nr c29 1 _ csR [.int .i64 ow, .slice na nn nc] rfl rfl hX (src_bk hP rfl rfl) (by omega) (hK0.1 _ hHeld) ?_
    intro g' c' W' hrow hg hob
    refine hK.out _ _ (hK0.2 _ _ hHeld (below_grownC hg hX.lt.1 (hK0.1 _ hHeld))) (fun hHeld => ?_)
    try simp only [List.getElem_toArray, List.getElem_cons_succ, List.getElem_cons_zero, Act.put, List.setIfInBounds_toArray, List.set_cons_zero, List.set_cons_succ]
    exact node_f1n01 hK0 hr hw hl hE hQp W' b26 g29 c29 g' c' b31 b9 hHeld (hrow) (bk_grown hA hg (ne_27 hX hA)) (hB9)
  · go_simp
    refine hK.out _ _ (hK0.2 _ _ hHeld ((Below.refl _ W).alloc (hK0.1 _ hHeld) (.cells #[] 50))) (fun hHeld => ?_)
    exact node_c1e01 hK0 hr hw hl hE hQp _ b26 g29 c29 b31 W.heap.size b9 hHeld (hX.alloc _) (bk_alloc hP) (rowC_new W B (hK0.1 _ hHeld0)) (bk_alloc hA) (hB9) (nXP) (Nat.ne_of_lt (hX.lt.2)) (Nat.ne_of_lt (bk_lt hP))
  · go_simp
    refine hK.out _ _ (hK0.2 _ _ hHeld ((Below.refl _ W).alloc (hK0.1 _ hHeld) (.cells #[.int .i64 ow, .slice na nn nc] 50))) (fun hHeld => ?_)
    exact node_c1n11 hK0 hr hw hl hE hQp _ b26 g29 c29 b31 W.heap.size b9 hHeld (hX.alloc _) (bk_alloc hP) (heap_alloc_new W _) (bk_alloc hA) (hB9) (nXP) (Nat.ne_of_lt (hX.lt.2)) (Nat.ne_of_lt (bk_lt hP))
set_option maxRecDepth 100000 in
set_option maxHeartbeats 2000000 in
theorem node_c1n00 (hK0 : Keeps B S) (hr : ∀ W, S W → SrcAt W vr nr csR) (hw : ∀ W, S W → SrcAt W vw nw csW) (hl : nr ≤ 4 ∧ nw ≤ 4) (hE : MoreEnd s0 s1 s2 s3 s4 s5 s6 s7 s8 s12 s13 s14 s15 s16 s17 s18 s19 s20 s21 s27 s34 vr vw Q S B nr nw csR csW ow na nn nc) (hQp : ∀ c a a' w, Q (.panic c) a w → Q (.panic c) a' w) (W : World) (b26 g29 c29 b31 : Nat) (hHeld : S W) (hX : RowC W B g29 c29 nr csR) (hP : W.heap[b31]? = some (.cells #[.int .i64 ow, .slice na nn nc] 50 (0, 0))) (nXP : g29 ≠ b31) :
    wpAnyH Try.prog Region.Mode.any moreOps Q S 8 #[true, true, true, true, true, true, false, false, true, true, false, true, false, false, false, false, false] (moreFrame s0 s1 s2 s3 s4 s5 s6 s7 s8 s12 s13 s14 s15 s16 s17 s18 s19 s20 s21 s27 vr (.agg #[.int .i64 ow, .slice na nn nc]) s34 vw (.agg #[.int .i64 ow, .slice na nn nc]) (.slice (some ⟨b26, 0, none⟩) 0 0) (.slice (some ⟨g29, 0, none⟩) nr c29) (.slice (some ⟨b31, 0, none⟩) 1 1) undef undef undef undef undef undef undef) W := by
  have hHeld0 := hHeld
  unfold moreFrame moreOps
  refine wpAnyH_ready (rs := [6, 7, 12, 15]) (by kernel_rfl) (by simp) ?_
  refine AllReadyH.cons rfl (fun K hK => ?_) (AllReadyH.cons rfl (fun K hK => ?_) (AllReadyH.cons rfl (fun K hK => ?_) (AllReadyH.cons rfl (fun K hK => ?_) AllReadyH.nil)))
  · refine step_appC rfl _ _ rfl B g29 nr c29 1 _ csR [.int .i64 ow, .slice na nn nc] rfl rfl hX (src_bk hP rfl rfl) (by omega) (hK0.1 _ hHeld) ?_
    intro g' c' W' hrow hg hob
    refine hK.out _ _ (hK0.2 _ _ hHeld (below_grownC hg hX.lt.1 (hK0.1 _ hHeld))) (fun hHeld => ?_)
    try simp only [List.getElem_toArray, List.getElem_cons_succ, List.getElem_cons_zero, Act.put, List.setIfInBounds_toArray, List.set_cons_zero, List.set_cons_succ]
    exact node_f1n00 hK0 hr hw hl hE hQp W' b26 g29 c29 g' c' b31 hHeld (hrow)
  · go_simp
    refine hK.out _ _ (hK0.2 _ _ hHeld ((Below.refl _ W).alloc (hK0.1 _ hHeld) (.cells #[] 50))) (fun hHeld => ?_)
    exact node_c1e00 hK0 hr hw hl hE hQp _ b26 g29 c29 b31 W.heap.size hHeld (hX.alloc _) (bk_alloc hP) (rowC_new W B (hK0.1 _ hHeld0)) (nXP) (Nat.ne_of_lt (hX.lt.2)) (Nat.ne_of_lt (bk_lt hP))
  · go_simp
    refine hK.out _ _ (hK0.2 _ _ hHeld ((Below.refl _ W).alloc (hK0.1 _ hHeld) (.cells #[.int .i64 ow, .slice na nn nc] 50))) (fun hHeld => ?_)
    exact node_c1n10 hK0 hr hw hl hE hQp _ b26 g29 c29 b31 W.heap.size hHeld (hX.alloc _) (bk_alloc hP) (heap_alloc_new W _) (nXP) (Nat.ne_of_lt (hX.lt.2)) (Nat.ne_of_lt (bk_lt hP))
  · go_simp
    refine hK.out _ _ (hK0.2 _ _ hHeld ((Below.refl _ W).alloc (hK0.1 _ hHeld) (.cells #[.slice none 0 0, .slice none 0 0] 27))) (fun hHeld => ?_)
    exact node_c1n01 hK0 hr hw hl hE hQp _ b26 g29 c29 b31 W.heap.size hHeld (hX.alloc _) (bk_alloc hP) (heap_alloc_new W _) (hK0.1 _ hHeld0) (nXP)
set_option maxRecDepth 100000 in
set_option maxHeartbeats 2000000 in
theorem node_c0e11 (hK0 : Keeps B S) (hr : ∀ W, S W → SrcAt W vr nr csR) (hw : ∀ W, S W → SrcAt W vw nw csW) (hl : nr ≤ 4 ∧ nw ≤ 4) (hE : MoreEnd s0 s1 s2 s3 s4 s5 s6 s7 s8 s12 s13 s14 s15 s16 s17 s18 s19 s20 s21 s27 s34 vr vw Q S B nr nw csR csW ow na nn nc) (hQp : ∀ c a a' w, Q (.panic c) a w → Q (.panic c) a' w) (W : World) (b26 g29 c29 b33 b38 b9 : Nat) (hHeld : S W) (hX : RowC W B g29 c29 nr csR) (hY : RowC W B b33 0 0 []) (hR : W.heap[b38]? = some (.cells #[.int .i64 ow, .slice na nn nc] 50 (0, 0))) (hA : W.heap[b9]? = some (.cells #[.slice none 0 0, .slice none 0 0] 27 (0, 0))) (hB9 : B ≤ b9) (nXY : g29 ≠ b33) (nXR : g29 ≠ b38) (nYR : b33 ≠ b38) :
    wpAnyH Try.prog Region.Mode.any moreOps Q S 6 #[true, true, true, true, true, false, false, true, true, true, false, true, true, false, false, true, false] (moreFrame s0 s1 s2 s3 s4 s5 s6 s7 s8 s12 s13 s14 s15 s16 s17 s18 s19 s20 s21 s27 vr (.agg #[.int .i64 ow, .slice na nn nc]) s34 vw (.agg #[.int .i64 ow, .slice na nn nc]) (.slice (some ⟨b26, 0, none⟩) 0 0) (.slice (some ⟨g29, 0, none⟩) nr c29) undef undef (.slice (some ⟨b33, 0, none⟩) 0 0) undef (.slice (some ⟨b38, 0, none⟩) 1 1) undef undef (.pointer (some ⟨b9, 0, none⟩))) W := by
  have hHeld0 := hHeld
  unfold moreFrame moreOps
  refine wpAnyH_ready (rs := [5]) (by kernel_rfl) (by simp) ?_
  refine AllReadyH.cons rfl (fun K hK => ?_) AllReadyH.nil
  · go_simp
    refine hK.out _ _ (hK0.2 _ _ hHeld ((Below.refl _ W).alloc (hK0.1 _ hHeld) (.cells #[.int .i64 ow, .slice na nn nc] 50))) (fun hHeld => ?_)
    exact node_c1e11 hK0 hr hw hl hE hQp _ b26 g29 c29 W.heap.size b33 b38 b9 hHeld (hX.alloc _) (heap_alloc_new W _) (hY.alloc _) (bk_alloc hR) (bk_alloc hA) (hB9) (Nat.ne_of_lt (hX.lt.2)) (nXY) (nXR) (Nat.ne_of_gt (hY.lt.2)) (Nat.ne_of_gt (bk_lt hR)) (nYR)
set_option maxRecDepth 100000 in
set_option maxHeartbeats 2000000 in
theorem node_c0e10 (hK0 : Keeps B S) (hr : ∀ W, S W → SrcAt W vr nr csR) (hw : ∀ W, S W → SrcAt W vw nw csW) (hl : nr ≤ 4 ∧ nw ≤ 4) (hE : MoreEnd s0 s1 s2 s3 s4 s5 s6 s7 s8 s12 s13 s14 s15 s16 s17 s18 s19 s20 s21 s27 s34 vr vw Q S B nr nw csR csW ow na nn nc) (hQp : ∀ c a a' w, Q (.panic c) a w → Q (.panic c) a' w) (W : World) (b26 g29 c29 b33 b38 : Nat) (hHeld : S W) (hX : RowC W B g29 c29 nr csR) (hY : RowC W B b33 0 0 []) (hR : W.heap[b38]? = some (.cells #[.int .i64 ow, .slice na nn nc] 50 (0, 0))) (nXY : g29 ≠ b33) (nXR : g29 ≠ b38) (nYR : b33 ≠ b38) :
    wpAnyH Try.prog Region.Mode.any moreOps Q S 7 #[true, true, true, true, true, false, false, true, true, true, false, true, true, false, false, false, false] (moreFrame s0 s1 s2 s3 s4 s5 s6 s7 s8 s12 s13 s14 s15 s16 s17 s18 s19 s20 s21 s27 vr (.agg #[.int .i64 ow, .slice na nn nc]) s34 vw (.agg #[.int .i64 ow, .slice na nn nc]) (.slice (some ⟨b26, 0, none⟩) 0 0) (.slice (some ⟨g29, 0, none⟩) nr c29) undef undef (.slice (some ⟨b33, 0, none⟩) 0 0) undef (.slice (some ⟨b38, 0, none⟩) 1 1) undef undef undef) W := by
  have hHeld0 := hHeld
  unfold moreFrame moreOps
  refine wpAnyH_ready (rs := [5, 15]) (by kernel_rfl) (by simp) ?_
  refine AllReadyH.cons rfl (fun K hK => ?_) (AllReadyH.cons rfl (fun K hK => ?_) AllReadyH.nil)
  · go_simp
    refine hK.out _ _ (hK0.2 _ _ hHeld ((Below.refl _ W).alloc (hK0.1 _ hHeld) (.cells #[.int .i64 ow, .slice na nn nc] 50))) (fun hHeld => ?_)
    exact node_c1e10 hK0 hr hw hl hE hQp _ b26 g29 c29 W.heap.size b33 b38 hHeld (hX.alloc _) (heap_alloc_new W _) (hY.alloc _) (bk_alloc hR) (Nat.ne_of_lt (hX.lt.2)) (nXY) (nXR) (Nat.ne_of_gt (hY.lt.2)) (Nat.ne_of_gt (bk_lt hR)) (nYR)
  · go_simp
    refine hK.out _ _ (hK0.2 _ _ hHeld ((Below.refl _ W).alloc (hK0.1 _ hHeld) (.cells #[.slice none 0 0, .slice none 0 0] 27))) (fun hHeld => ?_)
    exact node_c0e11 hK0 hr hw hl hE hQp _ b26 g29 c29 b33 b38 W.heap.size hHeld (hX.alloc _) (hY.alloc _) (bk_alloc hR) (heap_alloc_new W _) (hK0.1 _ hHeld0) (nXY) (nXR) (nYR)
set_option maxRecDepth 100000 in
set_option maxHeartbeats 2000000 in
theorem node_c0e01 (hK0 : Keeps B S) (hr : ∀ W, S W → SrcAt W vr nr csR) (hw : ∀ W, S W → SrcAt W vw nw csW) (hl : nr ≤ 4 ∧ nw ≤ 4) (hE : MoreEnd s0 s1 s2 s3 s4 s5 s6 s7 s8 s12 s13 s14 s15 s16 s17 s18 s19 s20 s21 s27 s34 vr vw Q S B nr nw csR csW ow na nn nc) (hQp : ∀ c a a' w, Q (.panic c) a w → Q (.panic c) a' w) (W : World) (b26 g29 c29 b33 b9 : Nat) (hHeld : S W) (hX : RowC W B g29 c29 nr csR) (hY : RowC W B b33 0 0 []) (hA : W.heap[b9]? = some (.cells #[.slice none 0 0, .slice none 0 0] 27 (0, 0))) (hB9 : B ≤ b9) (nXY : g29 ≠ b33) :
    wpAnyH Try.prog Region.Mode.any moreOps Q S 7 #[true, true, true, true, true, false, false, true, true, true, false, true, false, false, false, true, false] (moreFrame s0 s1 s2 s3 s4 s5 s6 s7 s8 s12 s13 s14 s15 s16 s17 s18 s19 s20 s21 s27 vr (.agg #[.int .i64 ow, .slice na nn nc]) s34 vw (.agg #[.int .i64 ow, .slice na nn nc]) (.slice (some ⟨b26, 0, none⟩) 0 0) (.slice (some ⟨g29, 0, none⟩) nr c29) undef undef (.slice (some ⟨b33, 0, none⟩) 0 0) undef undef undef undef (.pointer (some ⟨b9, 0, none⟩))) W := by
  have hHeld0 := hHeld
  unfold moreFrame moreOps
  refine wpAnyH_ready (rs := [5, 12]) (by kernel_rfl) (by simp) ?_
  refine AllReadyH.cons rfl (fun K hK => ?_) (AllReadyH.cons rfl (fun K hK => ?_) AllReadyH.nil)
  · go_simp
    refine hK.out _ _ (hK0.2 _ _ hHeld ((Below.refl _ W).alloc (hK0.1 _ hHeld) (.cells #[.int .i64 ow, .slice na nn nc] 50))) (fun hHeld => ?_)
    exact node_c1e01 hK0 hr hw hl hE hQp _ b26 g29 c29 W.heap.size b33 b9 hHeld (hX.alloc _) (heap_alloc_new W _) (hY.alloc _) (bk_alloc hA) (hB9) (Nat.ne_of_lt (hX.lt.2)) (nXY) (Nat.ne_of_gt (hY.lt.2))
  · go_simp
    refine hK.out _ _ (hK0.2 _ _ hHeld ((Below.refl _ W).alloc (hK0.1 _ hHeld) (.cells #[.int .i64 ow, .slice na nn nc] 50))) (fun hHeld => ?_)
    exact node_c0e11 hK0 hr hw hl hE hQp _ b26 g29 c29 b33 W.heap.size b9 hHeld (hX.alloc _) (hY.alloc _) (heap_alloc_new W _) (bk_alloc hA) (hB9) (nXY) (Nat.ne_of_lt (hX.lt.2)) (Nat.ne_of_lt (hY.lt.2))
set_option maxRecDepth 100000 in
set_option maxHeartbeats 2000000 in
theorem node_c0e00 (hK0 : Keeps B S) (hr : ∀ W, S W → SrcAt W vr nr csR) (hw : ∀ W, S W → SrcAt W vw nw csW) (hl : nr ≤ 4 ∧ nw ≤ 4) (hE : MoreEnd s0 s1 s2 s3 s4 s5 s6 s7 s8 s12 s13 s14 s15 s16 s17 s18 s19 s20 s21 s27 s34 vr vw Q S B nr nw csR csW ow na nn nc) (hQp : ∀ c a a' w, Q (.panic c) a w → Q (.panic c) a' w) (W : World) (b26 g29 c29 b33 : Nat) (hHeld : S W) (hX : RowC W B g29 c29 nr csR) (hY : RowC W B b33 0 0 []) (nXY : g29 ≠ b33) :
    wpAnyH Try.prog Region.Mode.any moreOps Q S 8 #[true, true, true, true, true, false, false, true, true, true, false, true, false, false, false, false, false] (moreFrame s0 s1 s2 s3 s4 s5 s6 s7 s8 s12 s13 s14 s15 s16 s17 s18 s19 s20 s21 s27 vr (.agg #[.int .i64 ow, .slice na nn nc]) s34 vw (.agg #[.int .i64 ow, .slice na nn nc]) (.slice (some ⟨b26, 0, none⟩) 0 0) (.slice (some ⟨g29, 0, none⟩) nr c29) undef undef (.slice (some ⟨b33, 0, none⟩) 0 0) undef undef undef undef undef) W := by
  have hHeld0 := hHeld
  unfold moreFrame moreOps
  refine wpAnyH_ready (rs := [5, 12, 15]) (by kernel_rfl) (by simp) ?_
  refine AllReadyH.cons rfl (fun K hK => ?_) (AllReadyH.cons rfl (fun K hK => ?_) (AllReadyH.cons rfl (fun K hK => ?_) AllReadyH.nil))
  · go_simp
    refine hK.out _ _ (hK0.2 _ _ hHeld ((Below.refl _ W).alloc (hK0.1 _ hHeld) (.cells #[.int .i64 ow, .slice na nn nc] 50))) (fun hHeld => ?_)
    exact node_c1e00 hK0 hr hw hl hE hQp _ b26 g29 c29 W.heap.size b33 hHeld (hX.alloc _) (heap_alloc_new W _) (hY.alloc _) (Nat.ne_of_lt (hX.lt.2)) (nXY) (Nat.ne_of_gt (hY.lt.2))
  · go_simp
    refine hK.out _ _ (hK0.2 _ _ hHeld ((Below.refl _ W).alloc (hK0.1 _ hHeld) (.cells #[.int .i64 ow, .slice na nn nc] 50))) (fun hHeld => ?_)
    exact node_c0e10 hK0 hr hw hl hE hQp _ b26 g29 c29 b33 W.heap.size hHeld (hX.alloc _) (hY.alloc _) (heap_alloc_new W _) (nXY) (Nat.ne_of_lt (hX.lt.2)) (Nat.ne_of_lt (hY.lt.2))
  · go_simp
    refine hK.out _ _ (hK0.2 _ _ hHeld ((Below.refl _ W).alloc (hK0.1 _ hHeld) (.cells #[.slice none 0 0, .slice none 0 0] 27))) (fun hHeld => ?_)
    exact node_c0e01 hK0 hr hw hl hE hQp _ b26 g29 c29 b33 W.heap.size hHeld (hX.alloc _) (hY.alloc _) (heap_alloc_new W _) (hK0.1 _ hHeld0) (nXY)
set_option maxRecDepth 100000 in
set_option maxHeartbeats 2000000 in
theorem node_c0n11 (hK0 : Keeps B S) (hr : ∀ W, S W → SrcAt W vr nr csR) (hw : ∀ W, S W → SrcAt W vw nw csW) (hl : nr ≤ 4 ∧ nw ≤ 4) (hE : MoreEnd s0 s1 s2 s3 s4 s5 s6 s7 s8 s12 s13 s14 s15 s16 s17 s18 s19 s20 s21 s27 s34 vr vw Q S B nr nw csR csW ow na nn nc) (hQp : ∀ c a a' w, Q (.panic c) a w → Q (.panic c) a' w) (W : World) (b26 g29 c29 b38 b9 : Nat) (hHeld : S W) (hX : RowC W B g29 c29 nr csR) (hR : W.heap[b38]? = some (.cells #[.int .i64 ow, .slice na nn nc] 50 (0, 0))) (hA : W.heap[b9]? = some (.cells #[.slice none 0 0, .slice none 0 0] 27 (0, 0))) (hB9 : B ≤ b9) (nXR : g29 ≠ b38) :
    wpAnyH Try.prog Region.Mode.any moreOps Q S 7 #[true, true, true, true, true, false, false, false, true, true, false, true, true, false, false, true, false] (moreFrame s0 s1 s2 s3 s4 s5 s6 s7 s8 s12 s13 s14 s15 s16 s17 s18 s19 s20 s21 s27 vr (.agg #[.int .i64 ow, .slice na nn nc]) s34 vw (.agg #[.int .i64 ow, .slice na nn nc]) (.slice (some ⟨b26, 0, none⟩) 0 0) (.slice (some ⟨g29, 0, none⟩) nr c29) undef undef undef undef (.slice (some ⟨b38, 0, none⟩) 1 1) undef undef (.pointer (some ⟨b9, 0, none⟩))) W := by
  have hHeld0 := hHeld
  unfold moreFrame moreOps
  refine wpAnyH_ready (rs := [5, 7]) (by kernel_rfl) (by simp) ?_
  refine AllReadyH.cons rfl (fun K hK => ?_) (AllReadyH.cons rfl (fun K hK => ?_) AllReadyH.nil)
  · go_simp
    refine hK.out _ _ (hK0.2 _ _ hHeld ((Below.refl _ W).alloc (hK0.1 _ hHeld) (.cells #[.int .i64 ow, .slice na nn nc] 50))) (fun hHeld => ?_)
    exact node_c1n11 hK0 hr hw hl hE hQp _ b26 g29 c29 W.heap.size b38 b9 hHeld (hX.alloc _) (heap_alloc_new W _) (bk_alloc hR) (bk_alloc hA) (hB9) (Nat.ne_of_lt (hX.lt.2)) (nXR) (Nat.ne_of_gt (bk_lt hR))
  · go_simp
    refine hK.out _ _ (hK0.2 _ _ hHeld ((Below.refl _ W).alloc (hK0.1 _ hHeld) (.cells #[] 50))) (fun hHeld => ?_)
    exact node_c0e11 hK0 hr hw hl hE hQp _ b26 g29 c29 W.heap.size b38 b9 hHeld (hX.alloc _) (rowC_new W B (hK0.1 _ hHeld0)) (bk_alloc hR) (bk_alloc hA) (hB9) (Nat.ne_of_lt (hX.lt.2)) (nXR) (Nat.ne_of_gt (bk_lt hR))
set_option maxRecDepth 100000 in
set_option maxHeartbeats 2000000 in
theorem node_c0n10 (hK0 : Keeps B S) (hr : ∀ W, S W → SrcAt W vr nr csR) (hw : ∀ W, S W → SrcAt W vw nw csW) (hl : nr ≤ 4 ∧ nw ≤ 4) (hE : MoreEnd s0 s1 s2 s3 s4 s5 s6 s7 s8 s12 s13 s14 s15 s16 s17 s18 s19 s20 s21 s27 s34 vr vw Q S B nr nw csR csW ow na nn nc) (hQp : ∀ c a a' w, Q (.panic c) a w → Q (.panic c) a' w) (W : World) (b26 g29 c29 b38 : Nat) (hHeld : S W) (hX : RowC W B g29 c29 nr csR) (hR : W.heap[b38]? = some (.cells #[.int .i64 ow, .slice na nn nc] 50 (0, 0))) (nXR : g29 ≠ b38) :
    wpAnyH Try.prog Region.Mode.any moreOps Q S 8 #[true, true, true, true, true, false, false, false, true, true, false, true, true, false, false, false, false] (moreFrame s0 s1 s2 s3 s4 s5 s6 s7 s8 s12 s13 s14 s15 s16 s17 s18 s19 s20 s21 s27 vr (.agg #[.int .i64 ow, .slice na nn nc]) s34 vw (.agg #[.int .i64 ow, .slice na nn nc]) (.slice (some ⟨b26, 0, none⟩) 0 0) (.slice (some ⟨g29, 0, none⟩) nr c29) undef undef undef undef (.slice (some ⟨b38, 0, none⟩) 1 1) undef undef undef) W := by
  have hHeld0 := hHeld
  unfold moreFrame moreOps
  refine wpAnyH_ready (rs := [5, 7, 15]) (by kernel_rfl) (by simp) ?_
  refine AllReadyH.cons rfl (fun K hK => ?_) (AllReadyH.cons rfl (fun K hK => ?_) (AllReadyH.cons rfl (fun K hK => ?_) AllReadyH.nil))
  · go_simp
    refine hK.out _ _ (hK0.2 _ _ hHeld ((Below.refl _ W).alloc (hK0.1 _ hHeld) (.cells #[.int .i64 ow, .slice na nn nc] 50))) (fun hHeld => ?_)
    exact node_c1n10 hK0 hr hw hl hE hQp _ b26 g29 c29 W.heap.size b38 hHeld (hX.alloc _) (heap_alloc_new W _) (bk_alloc hR) (Nat.ne_of_lt (hX.lt.2)) (nXR) (Nat.ne_of_gt (bk_lt hR))
  · go_simp
    refine hK.out _ _ (hK0.2 _ _ hHeld ((Below.refl _ W).alloc (hK0.1 _ hHeld) (.cells #[] 50))) (fun hHeld => ?_)
    exact node_c0e10 hK0 hr hw hl hE hQp _ b26 g29 c29 W.heap.size b38 hHeld (hX.alloc _) (rowC_new W B (hK0.1 _ hHeld0)) (bk_alloc hR) (Nat.ne_of_lt (hX.lt.2)) (nXR) (Nat.ne_of_gt (bk_lt hR))
  · go_simp
    refine hK.out _ _ (hK0.2 _ _ hHeld ((Below.refl _ W).alloc (hK0.1 _ hHeld) (.cells #[.slice none 0 0, .slice none 0 0] 27))) (fun hHeld => ?_)
    exact node_c0n11 hK0 hr hw hl hE hQp _ b26 g29 c29 b38 W.heap.size hHeld (hX.alloc _) (bk_alloc hR) (heap_alloc_new W _) (hK0.1 _ hHeld0) (nXR)
set_option maxRecDepth 100000 in
set_option maxHeartbeats 2000000 in
theorem node_c0n01 (hK0 : Keeps B S) (hr : ∀ W, S W → SrcAt W vr nr csR) (hw : ∀ W, S W → SrcAt W vw nw csW) (hl : nr ≤ 4 ∧ nw ≤ 4) (hE : MoreEnd s0 s1 s2 s3 s4 s5 s6 s7 s8 s12 s13 s14 s15 s16 s17 s18 s19 s20 s21 s27 s34 vr vw Q S B nr nw csR csW ow na nn nc) (hQp : ∀ c a a' w, Q (.panic c) a w → Q (.panic c) a' w) (W : World) (b26 g29 c29 b9 : Nat) (hHeld : S W) (hX : RowC W B g29 c29 nr csR) (hA : W.heap[b9]? = some (.cells #[.slice none 0 0, .slice none 0 0] 27 (0, 0))) (hB9 : B ≤ b9) :
    wpAnyH Try.prog Region.Mode.any moreOps Q S 8 #[true, true, true, true, true, false, false, false, true, true, false, true, false, false, false, true, false] (moreFrame s0 s1 s2 s3 s4 s5 s6 s7 s8 s12 s13 s14 s15 s16 s17 s18 s19 s20 s21 s27 vr (.agg #[.int .i64 ow, .slice na nn nc]) s34 vw (.agg #[.int .i64 ow, .slice na nn nc]) (.slice (some ⟨b26, 0, none⟩) 0 0) (.slice (some ⟨g29, 0, none⟩) nr c29) undef undef undef undef undef undef undef (.pointer (some ⟨b9, 0, none⟩))) W := by
  have hHeld0 := hHeld
  unfold moreFrame moreOps
  refine wpAnyH_ready (rs := [5, 7, 12]) (by kernel_rfl) (by simp) ?_
  refine AllReadyH.cons rfl (fun K hK => ?_) (AllReadyH.cons rfl (fun K hK => ?_) (AllReadyH.cons rfl (fun K hK => ?_) AllReadyH.nil))
  · go_simp
    refine hK.out _ _ (hK0.2 _ _ hHeld ((Below.refl _ W).alloc (hK0.1 _ hHeld) (.cells #[.int .i64 ow, .slice na nn nc] 50))) (fun hHeld => ?_)
    exact node_c1n01 hK0 hr hw hl hE hQp _ b26 g29 c29 W.heap.size b9 hHeld (hX.alloc _) (heap_alloc_new W _) (bk_alloc hA) (hB9) (Nat.ne_of_lt (hX.lt.2))
  · go_simp
    refine hK.out _ _ (hK0.2 _ _ hHeld ((Below.refl _ W).alloc (hK0.1 _ hHeld) (.cells #[] 50))) (fun hHeld => ?_)
    exact node_c0e01 hK0 hr hw hl hE hQp _ b26 g29 c29 W.heap.size b9 hHeld (hX.alloc _) (rowC_new W B (hK0.1 _ hHeld0)) (bk_alloc hA) (hB9) (Nat.ne_of_lt (hX.lt.2))
  · go_simp
    refine hK.out _ _ (hK0.2 _ _ hHeld ((Below.refl _ W).alloc (hK0.1 _ hHeld) (.cells #[.int .i64 ow, .slice na nn nc] 50))) (fun hHeld => ?_)
    exact node_c0n11 hK0 hr hw hl hE hQp _ b26 g29 c29 W.heap.size b9 hHeld (hX.alloc _) (heap_alloc_new W _) (bk_alloc hA) (hB9) (Nat.ne_of_lt (hX.lt.2))
set_option maxRecDepth 100000 in
set_option maxHeartbeats 2000000 in
theorem node_c0n00 (hK0 : Keeps B S) (hr : ∀ W, S W → SrcAt W vr nr csR) (hw : ∀ W, S W → SrcAt W vw nw csW) (hl : nr ≤ 4 ∧ nw ≤ 4) (hE : MoreEnd s0 s1 s2 s3 s4 s5 s6 s7 s8 s12 s13 s14 s15 s16 s17 s18 s19 s20 s21 s27 s34 vr vw Q S B nr nw csR csW ow na nn nc) (hQp : ∀ c a a' w, Q (.panic c) a w → Q (.panic c) a' w) (W : World) (b26 g29 c29 : Nat) (hHeld : S W) (hX : RowC W B g29 c29 nr csR) :
    wpAnyH Try.prog Region.Mode.any moreOps Q S 9 #[true, true, true, true, true, false, false, false, true, true, false, true, false, false, false, false, false] (moreFrame s0 s1 s2 s3 s4 s5 s6 s7 s8 s12 s13 s14 s15 s16 s17 s18 s19 s20 s21 s27 vr (.agg #[.int .i64 ow, .slice na nn nc]) s34 vw (.agg #[.int .i64 ow, .slice na nn nc]) (.slice (some ⟨b26, 0, none⟩) 0 0) (.slice (some ⟨g29, 0, none⟩) nr c29) undef undef undef undef undef undef undef undef) W := by
  have hHeld0 := hHeld
  unfold moreFrame moreOps
  refine wpAnyH_ready (rs := [5, 7, 12, 15]) (by kernel_rfl) (by simp) ?_
  refine AllReadyH.cons rfl (fun K hK => ?_) (AllReadyH.cons rfl (fun K hK => ?_) (AllReadyH.cons rfl (fun K hK => ?_) (AllReadyH.cons rfl (fun K hK => ?_) AllReadyH.nil)))
  · go_simp
    refine hK.out _ _ (hK0.2 _ _ hHeld ((Below.refl _ W).alloc (hK0.1 _ hHeld) (.cells #[.int .i64 ow, .slice na nn nc] 50))) (fun hHeld => ?_)
    exact node_c1n00 hK0 hr hw hl hE hQp _ b26 g29 c29 W.heap.size hHeld (hX.alloc _) (heap_alloc_new W _) (Nat.ne_of_lt (hX.lt.2))
  · go_simp
    refine hK.out _ _ (hK0.2 _ _ hHeld ((Below.refl _ W).alloc (hK0.1 _ hHeld) (.cells #[] 50))) (fun hHeld => ?_)
    exact node_c0e00 hK0 hr hw hl hE hQp _ b26 g29 c29 W.heap.size hHeld (hX.alloc _) (rowC_new W B (hK0.1 _ hHeld0)) (Nat.ne_of_lt (hX.lt.2))
  · go_simp
    refine hK.out _ _ (hK0.2 _ _ hHeld ((Below.refl _ W).alloc (hK0.1 _ hHeld) (.cells #[.int .i64 ow, .slice na nn nc] 50))) (fun hHeld => ?_)
    exact node_c0n10 hK0 hr hw hl hE hQp _ b26 g29 c29 W.heap.size hHeld (hX.alloc _) (heap_alloc_new W _) (Nat.ne_of_lt (hX.lt.2))
  · go_simp
    refine hK.out _ _ (hK0.2 _ _ hHeld ((Below.refl _ W).alloc (hK0.1 _ hHeld) (.cells #[.slice none 0 0, .slice none 0 0] 27))) (fun hHeld => ?_)
    exact node_c0n01 hK0 hr hw hl hE hQp _ b26 g29 c29 W.heap.size hHeld (hX.alloc _) (heap_alloc_new W _) (hK0.1 _ hHeld0)
set_option maxRecDepth 100000 in
set_option maxHeartbeats 2000000 in
theorem node_e1e11 (hK0 : Keeps B S) (hr : ∀ W, S W → SrcAt W vr nr csR) (hw : ∀ W, S W → SrcAt W vw nw csW) (hl : nr ≤ 4 ∧ nw ≤ 4) (hE : MoreEnd s0 s1 s2 s3 s4 s5 s6 s7 s8 s12 s13 s14 s15 s16 s17 s18 s19 s20 s21 s27 s34 vr vw Q S B nr nw csR csW ow na nn nc) (hQp : ∀ c a a' w, Q (.panic c) a w → Q (.panic c) a' w) (W : World) (b26 b31 b33 b38 b9 : Nat) (hHeld : S W) (hX : RowC W B b26 0 0 []) (hP : W.heap[b31]? = some (.cells #[.int .i64 ow, .slice na nn nc] 50 (0, 0))) (hY : RowC W B b33 0 0 []) (hR : W.heap[b38]? = some (.cells #[.int .i64 ow, .slice na nn nc] 50 (0, 0))) (hA : W.heap[b9]? = some (.cells #[.slice none 0 0, .slice none 0 0] 27 (0, 0))) (hB9 : B ≤ b9) (nXP : b26 ≠ b31) (nXY : b26 ≠ b33) (nXR : b26 ≠ b38) (nPY : b31 ≠ b33) (nPR : b31 ≠ b38) (nYR : b33 ≠ b38) :
    wpAnyH Try.prog Region.Mode.any moreOps Q S 6 #[true, true, true, false, true, true, false, true, true, true, false, true, true, false, false, true, false] (moreFrame s0 s1 s2 s3 s4 s5 s6 s7 s8 s12 s13 s14 s15 s16 s17 s18 s19 s20 s21 s27 vr (.agg #[.int .i64 ow, .slice na nn nc]) s34 vw (.agg #[.int .i64 ow, .slice na nn nc]) (.slice (some ⟨b26, 0, none⟩) 0 0) undef (.slice (some ⟨b31, 0, none⟩) 1 1) undef (.slice (some ⟨b33, 0, none⟩) 0 0) undef (.slice (some ⟨b38, 0, none⟩) 1 1) undef undef (.pointer (some ⟨b9, 0, none⟩))) W := by
  have hHeld0 := hHeld
  unfold moreFrame moreOps
  refine wpAnyH_ready (rs := [3]) (by kernel_rfl) (by simp) ?_
  refine AllReadyH.cons rfl (fun K hK => ?_) AllReadyH.nil
  · refine step_appC rfl _ _ rfl B b26 0 0 nr vr [] csR rfl rfl hX (hr W hHeld) (by omega) (hK0.1 _ hHeld) ?_
    intro g' c' W' hrow hg hob
    rw [Nat.zero_add, List.nil_append] at hrow
    refine hK.out _ _ (hK0.2 _ _ hHeld (below_grownC hg hX.lt.1 (hK0.1 _ hHeld))) (fun hHeld => ?_)
    rw [Nat.zero_add]
    try simp only [List.getElem_toArray, List.getElem_cons_succ, List.getElem_cons_zero, Act.put, List.setIfInBounds_toArray, List.set_cons_zero, List.set_cons_succ]
    exact node_c1e11 hK0 hr hw hl hE hQp W' b26 g' c' b31 b33 b38 b9 hHeld (hrow) (bk_grown hP hg nXP.symm) (hY.grown hg nXY.symm) (bk_grown hR hg nXR.symm) (bk_grown hA hg (ne_27 hX hA)) (hB9) (ne_app' (W := W) nXP (bk_lt hP) hob) (ne_app' (W := W) nXY (hY.lt.2) hob) (ne_app' (W := W) nXR (bk_lt hR) hob) (nPY) (nPR) (nYR)
set_option maxRecDepth 100000 in
set_option maxHeartbeats 2000000 in
theorem node_e1e10 (hK0 : Keeps B S) (hr : ∀ W, S W → SrcAt W vr nr csR) (hw : ∀ W, S W → SrcAt W vw nw csW) (hl : nr ≤ 4 ∧ nw ≤ 4) (hE : MoreEnd s0 s1 s2 s3 s4 s5 s6 s7 s8 s12 s13 s14 s15 s16 s17 s18 s19 s20 s21 s27 s34 vr vw Q S B nr nw csR csW ow na nn nc) (hQp : ∀ c a a' w, Q (.panic c) a w → Q (.panic c) a' w) (W : World) (b26 b31 b33 b38 : Nat) (hHeld : S W) (hX : RowC W B b26 0 0 []) (hP : W.heap[b31]? = some (.cells #[.int .i64 ow, .slice na nn nc] 50 (0, 0))) (hY : RowC W B b33 0 0 []) (hR : W.heap[b38]? = some (.cells #[.int .i64 ow, .slice na nn nc] 50 (0, 0))) (nXP : b26 ≠ b31) (nXY : b26 ≠ b33) (nXR : b26 ≠ b38) (nPY : b31 ≠ b33) (nPR : b31 ≠ b38) (nYR : b33 ≠ b38) :
    wpAnyH Try.prog Region.Mode.any moreOps Q S 7 #[true, true, true, false, true, true, false, true, true, true, false, true, true, false, false, false, false] (moreFrame s0 s1 s2 s3 s4 s5 s6 s7 s8 s12 s13 s14 s15 s16 s17 s18 s19 s20 s21 s27 vr (.agg #[.int .i64 ow, .slice na nn nc]) s34 vw (.agg #[.int .i64 ow, .slice na nn nc]) (.slice (some ⟨b26, 0, none⟩) 0 0) undef (.slice (some ⟨b31, 0, none⟩) 1 1) undef (.slice (some ⟨b33, 0, none⟩) 0 0) undef (.slice (some ⟨b38, 0, none⟩) 1 1) undef undef undef) W := by
  have hHeld0 := hHeld
  unfold moreFrame moreOps
  refine wpAnyH_ready (rs := [3, 15]) (by kernel_rfl) (by simp) ?_
  refine AllReadyH.cons rfl (fun K hK => ?_) (AllReadyH.cons rfl (fun K hK => ?_) AllReadyH.nil)
  · refine step_appC rfl _ _ rfl B b26 0 0 nr vr [] csR rfl rfl hX (hr W hHeld) (by omega) (hK0.1 _ hHeld) ?_
    intro g' c' W' hrow hg hob
    rw [Nat.zero_add, List.nil_append] at hrow
    refine hK.out _ _ (hK0.2 _ _ hHeld (below_grownC hg hX.lt.1 (hK0.1 _ hHeld))) (fun hHeld => ?_)
    rw [Nat.zero_add]
    try simp only [List.getElem_toArray, List.getElem_cons_succ, List.getElem_cons_zero, Act.put, List.setIfInBounds_toArray, List.set_cons_zero, List.set_cons_succ]
    exact node_c1e10 hK0 hr hw hl hE hQp W' b26 g' c' b31 b33 b38 hHeld (hrow) (bk_grown hP hg nXP.symm) (hY.grown hg nXY.symm) (bk_grown hR hg nXR.symm) (ne_app' (W := W) nXP (bk_lt hP) hob) (ne_app' (W := W) nXY (hY.lt.2) hob) (ne_app' (W := W) nXR (bk_lt hR) hob) (nPY) (nPR) (nYR)
  · go_simp
    refine hK.out _ _ (hK0.2 _ _ hHeld ((Below.refl _ W).alloc (hK0.1 _ hHeld) (.cells #[.slice none 0 0, .slice none 0 0] 27))) (fun hHeld => ?_)
    exact node_e1e11 hK0 hr hw hl hE hQp _ b26 b31 b33 b38 W.heap.size hHeld (hX.alloc _) (bk_alloc hP) (hY.alloc _) (bk_alloc hR) (heap_alloc_new W _) (hK0.1 _ hHeld0) (nXP) (nXY) (nXR) (nPY) (nPR) (nYR)
set_option maxRecDepth 100000 in
set_option maxHeartbeats 2000000 in
theorem node_e1e01 (hK0 : Keeps B S) (hr : ∀ W, S W → SrcAt W vr nr csR) (hw : ∀ W, S W → SrcAt W vw nw csW) (hl : nr ≤ 4 ∧ nw ≤ 4) (hE : MoreEnd s0 s1 s2 s3 s4 s5 s6 s7 s8 s12 s13 s14 s15 s16 s17 s18 s19 s20 s21 s27 s34 vr vw Q S B nr nw csR csW ow na nn nc) (hQp : ∀ c a a' w, Q (.panic c) a w → Q (.panic c) a' w) (W : World) (b26 b31 b33 b9 : Nat) (hHeld : S W) (hX : RowC W B b26 0 0 []) (hP : W.heap[b31]? = some (.cells #[.int .i64 ow, .slice na nn nc] 50 (0, 0))) (hY : RowC W B b33 0 0 []) (hA : W.heap[b9]? = some (.cells #[.slice none 0 0, .slice none 0 0] 27 (0, 0))) (hB9 : B ≤ b9) (nXP : b26 ≠ b31) (nXY : b26 ≠ b33) (nPY : b31 ≠ b33) :
    wpAnyH Try.prog Region.Mode.any moreOps Q S 7 #[true, true, true, false, true, true, false, true, true, true, false, true, false, false, false, true, false] (moreFrame s0 s1 s2 s3 s4 s5 s6 s7 s8 s12 s13 s14 s15 s16 s17 s18 s19 s20 s21 s27 vr (.agg #[.int .i64 ow, .slice na nn nc]) s34 vw (.agg #[.int .i64 ow, .slice na nn nc]) (.slice (some ⟨b26, 0, none⟩) 0 0) undef (.slice (some ⟨b31, 0, none⟩) 1 1) undef (.slice (some ⟨b33, 0, none⟩) 0 0) undef undef undef undef (.pointer (some ⟨b9, 0, none⟩))) W := by
  have hHeld0 := hHeld
  unfold moreFrame moreOps
  refine wpAnyH_ready (rs := [3, 12]) (by kernel_rfl) (by simp) ?_
  refine AllReadyH.cons rfl (fun K hK => ?_) (AllReadyH.cons rfl (fun K hK => ?_) AllReadyH.nil)
  · refine step_appC rfl _ _ rfl B b26 0 0 nr vr [] csR rfl rfl hX (hr W hHeld) (by omega) (hK0.1 _ hHeld) ?_
    intro g' c' W' hrow hg hob
    rw [Nat.zero_add, List.nil_append] at hrow
    refine hK.out _ _ (hK0.2 _ _ hHeld (below_grownC hg hX.lt.1 (hK0.1 _ hHeld))) (fun hHeld => ?_)
    rw [Nat.zero_add]
    try simp only [List.getElem_toArray, List.getElem_cons_succ, List.getElem_cons_zero, Act.put, List.setIfInBounds_toArray, List.set_cons_zero, List.set_cons_succ]
    exact node_c1e01 hK0 hr hw hl hE hQp W' b26 g' c' b31 b33 b9 hHeld (hrow) (bk_grown hP hg nXP.symm) (hY.grown hg nXY.symm) (bk_grown hA hg (ne_27 hX hA)) (hB9) (ne_app' (W := W) nXP (bk_lt hP) hob) (ne_app' (W := W) nXY (hY.lt.2) hob) (nPY)
  · go_simp
    refine hK.out _ _ (hK0.2 _ _ hHeld ((Below.refl _ W).alloc (hK0.1 _ hHeld) (.cells #[.int .i64 ow, .slice na nn nc] 50))) (fun hHeld => ?_)
    exact node_e1e11 hK0 hr hw hl hE hQp _ b26 b31 b33 W.heap.size b9 hHeld (hX.alloc _) (bk_alloc hP) (hY.alloc _) (heap_alloc_new W _) (bk_alloc hA) (hB9) (nXP) (nXY) (Nat.ne_of_lt (hX.lt.2)) (nPY) (Nat.ne_of_lt (bk_lt hP)) (Nat.ne_of_lt (hY.lt.2))
set_option maxRecDepth 100000 in
set_option maxHeartbeats 2000000 in
theorem node_e1e00 (hK0 : Keeps B S) (hr : ∀ W, S W → SrcAt W vr nr csR) (hw : ∀ W, S W → SrcAt W vw nw csW) (hl : nr ≤ 4 ∧ nw ≤ 4) (hE : MoreEnd s0 s1 s2 s3 s4 s5 s6 s7 s8 s12 s13 s14 s15 s16 s17 s18 s19 s20 s21 s27 s34 vr vw Q S B nr nw csR csW ow na nn nc) (hQp : ∀ c a a' w, Q (.panic c) a w → Q (.panic c) a' w) (W : World) (b26 b31 b33 : Nat) (hHeld : S W) (hX : RowC W B b26 0 0 []) (hP : W.heap[b31]? = some (.cells #[.int .i64 ow, .slice na nn nc] 50 (0, 0))) (hY : RowC W B b33 0 0 []) (nXP : b26 ≠ b31) (nXY : b26 ≠ b33) (nPY : b31 ≠ b33) :
    wpAnyH Try.prog Region.Mode.any moreOps Q S 8 #[true, true, true, false, true, true, false, true, true, true, false, true, false, false, false, false, false] (moreFrame s0 s1 s2 s3 s4 s5 s6 s7 s8 s12 s13 s14 s15 s16 s17 s18 s19 s20 s21 s27 vr (.agg #[.int .i64 ow, .slice na nn nc]) s34 vw (.agg #[.int .i64 ow, .slice na nn nc]) (.slice (some ⟨b26, 0, none⟩) 0 0) undef (.slice (some ⟨b31, 0, none⟩) 1 1) undef (.slice (some ⟨b33, 0, none⟩) 0 0) undef undef undef undef undef) W := by
  have hHeld0 := hHeld
  unfold moreFrame moreOps
  refine wpAnyH_ready (rs := [3, 12, 15]) (by kernel_rfl) (by simp) ?_
  refine AllReadyH.cons rfl (fun K hK => ?_) (AllReadyH.cons rfl (fun K hK => ?_) (AllReadyH.cons rfl (fun K hK => ?_) AllReadyH.nil))
  · refine step_appC rfl _ _ rfl B b26 0 0 nr vr [] csR rfl rfl hX (hr W hHeld) (by omega) (hK0.1 _ hHeld) ?_
    intro g' c' W' hrow hg hob
    rw [Nat.zero_add, List.nil_append] at hrow
    refine hK.out _ _ (hK0.2 _ _ hHeld (below_grownC hg hX.lt.1 (hK0.1 _ hHeld))) (fun hHeld => ?_)
    rw [Nat.zero_add]
    try simp only [List.getElem_toArray, List.getElem_cons_succ, List.getElem_cons_zero, Act.put, List.setIfInBounds_toArray, List.set_cons_zero, List.set_cons_succ]
    exact node_c1e00 hK0 hr hw hl hE hQp W' b26 g' c' b31 b33 hHeld (hrow) (bk_grown hP hg nXP.symm) (hY.grown hg nXY.symm) (ne_app' (W := W) nXP (bk_lt hP) hob) (ne_app' (W := W) nXY (hY.lt.2) hob) (nPY)
  · go_simp
    refine hK.out _ _ (hK0.2 _ _ hHeld ((Below.refl _ W).alloc (hK0.1 _ hHeld) (.cells #[.int .i64 ow, .slice na nn nc] 50))) (fun hHeld => ?_)
    exact node_e1e10 hK0 hr hw hl hE hQp _ b26 b31 b33 W.heap.size hHeld (hX.alloc _) (bk_alloc hP) (hY.alloc _) (heap_alloc_new W _) (nXP) (nXY) (Nat.ne_of_lt (hX.lt.2)) (nPY) (Nat.ne_of_lt (bk_lt hP)) (Nat.ne_of_lt (hY.lt.2))
  · go_simp
    refine hK.out _ _ (hK0.2 _ _ hHeld ((Below.refl _ W).alloc (hK0.1 _ hHeld) (.cells #[.slice none 0 0, .slice none 0 0] 27))) (fun hHeld => ?_)
    exact node_e1e01 hK0 hr hw hl hE hQp _ b26 b31 b33 W.heap.size hHeld (hX.alloc _) (bk_alloc hP) (hY.alloc _) (heap_alloc_new W _) (hK0.1 _ hHeld0) (nXP) (nXY) (nPY)
set_option maxRecDepth 100000 in
set_option maxHeartbeats 2000000 in
theorem node_e1n11 (hK0 : Keeps B S) (hr : ∀ W, S W → SrcAt W vr nr csR) (hw : ∀ W, S W → SrcAt W vw nw csW) (hl : nr ≤ 4 ∧ nw ≤ 4) (hE : MoreEnd s0 s1 s2 s3 s4 s5 s6 s7 s8 s12 s13 s14 s15 s16 s17 s18 s19 s20 s21 s27 s34 vr vw Q S B nr nw csR csW ow na nn nc) (hQp : ∀ c a a' w, Q (.panic c) a w → Q (.panic c) a' w) (W : World) (b26 b31 b38 b9 : Nat) (hHeld : S W) (hX : RowC W B b26 0 0 []) (hP : W.heap[b31]? = some (.cells #[.int .i64 ow, .slice na nn nc] 50 (0, 0))) (hR : W.heap[b38]? = some (.cells #[.int .i64 ow, .slice na nn nc] 50 (0, 0))) (hA : W.heap[b9]? = some (.cells #[.slice none 0 0, .slice none 0 0] 27 (0, 0))) (hB9 : B ≤ b9) (nXP : b26 ≠ b31) (nXR : b26 ≠ b38) (nPR : b31 ≠ b38) :
    wpAnyH Try.prog Region.Mode.any moreOps Q S 7 #[true, true, true, false, true, true, false, false, true, true, false, true, true, false, false, true, false] (moreFrame s0 s1 s2 s3 s4 s5 s6 s7 s8 s12 s13 s14 s15 s16 s17 s18 s19 s20 s21 s27 vr (.agg #[.int .i64 ow, .slice na nn nc]) s34 vw (.agg #[.int .i64 ow, .slice na nn nc]) (.slice (some ⟨b26, 0, none⟩) 0 0) undef (.slice (some ⟨b31, 0, none⟩) 1 1) undef undef undef (.slice (some ⟨b38, 0, none⟩) 1 1) undef undef (.pointer (some ⟨b9, 0, none⟩))) W := by
  have hHeld0 := hHeld
  unfold moreFrame moreOps
  refine wpAnyH_ready (rs := [3, 7]) (by kernel_rfl) (by simp) ?_
  refine AllReadyH.cons rfl (fun K hK => ?_) (AllReadyH.cons rfl (fun K hK => ?_) AllReadyH.nil)
  · refine step_appC rfl _ _ rfl B b26 0 0 nr vr [] csR rfl rfl hX (hr W hHeld) (by omega) (hK0.1 _ hHeld) ?_
    intro g' c' W' hrow hg hob
    rw [Nat.zero_add, List.nil_append] at hrow
    refine hK.out _ _ (hK0.2 _ _ hHeld (below_grownC hg hX.lt.1 (hK0.1 _ hHeld))) (fun hHeld => ?_)
    rw [Nat.zero_add]
    try simp only [List.getElem_toArray, List.getElem_cons_succ, List.getElem_cons_zero, Act.put, List.setIfInBounds_toArray, List.set_cons_zero, List.set_cons_succ]
    exact node_c1n11 hK0 hr hw hl hE hQp W' b26 g' c' b31 b38 b9 hHeld (hrow) (bk_grown hP hg nXP.symm) (bk_grown hR hg nXR.symm) (bk_grown hA hg (ne_27 hX hA)) (hB9) (ne_app' (W := W) nXP (bk_lt hP) hob) (ne_app' (W := W) nXR (bk_lt hR) hob) (nPR)
  · go_simp
    refine hK.out _ _ (hK0.2 _ _ hHeld ((Below.refl _ W).alloc (hK0.1 _ hHeld) (.cells #[] 50))) (fun hHeld => ?_)
    exact node_e1e11 hK0 hr hw hl hE hQp _ b26 b31 W.heap.size b38 b9 hHeld (hX.alloc _) (bk_alloc hP) (rowC_new W B (hK0.1 _ hHeld0)) (bk_alloc hR) (bk_alloc hA) (hB9) (nXP) (Nat.ne_of_lt (hX.lt.2)) (nXR) (Nat.ne_of_lt (bk_lt hP)) (nPR) (Nat.ne_of_gt (bk_lt hR))
set_option maxRecDepth 100000 in
set_option maxHeartbeats 2000000 in
theorem node_e1n10 (hK0 : Keeps B S) (hr : ∀ W, S W → SrcAt W vr nr csR) (hw : ∀ W, S W → SrcAt W vw nw csW) (hl : nr ≤ 4 ∧ nw ≤ 4) (hE : MoreEnd s0 s1 s2 s3 s4 s5 s6 s7 s8 s12 s13 s14 s15 s16 s17 s18 s19 s20 s21 s27 s34 vr vw Q S B nr nw csR csW ow na nn nc) (hQp : ∀ c a a' w, Q (.panic c) a w → Q (.panic c) a' w) (W : World) (b26 b31 b38 : Nat) (hHeld : S W) (hX : RowC W B b26 0 0 []) (hP : W.heap[b31]? = some (.cells #[.int .i64 ow, .slice na nn nc] 50 (0, 0))) (hR : W.heap[b38]? = some (.cells #[.int .i64 ow, .slice na nn nc] 50 (0, 0))) (nXP : b26 ≠ b31) (nXR : b26 ≠ b38) (nPR : b31 ≠ b38) :
    wpAnyH Try.prog Region.Mode.any moreOps Q S 8 #[true, true, true, false, true, true, false, false, true, true, false, true, true, false, false, false, false] (moreFrame s0 s1 s2 s3 s4 s5 s6 s7 s8 s12 s13 s14 s15 s16 s17 s18 s19 s20 s21 s27 vr (.agg #[.int .i64 ow, .slice na nn nc]) s34 vw (.agg #[.int .i64 ow, .slice na nn nc]) (.slice (some ⟨b26, 0, none⟩) 0 0) undef (.slice (some ⟨b31, 0, none⟩) 1 1) undef undef undef (.slice (some ⟨b38, 0, none⟩) 1 1) undef undef undef) W := by
  have hHeld0 := hHeld
  unfold moreFrame moreOps
  refine wpAnyH_ready (rs := [3, 7, 15]) (by kernel_rfl) (by simp) ?_
  refine AllReadyH.cons rfl (fun K hK => ?_) (AllReadyH.cons rfl (fun K hK => ?_) (AllReadyH.cons rfl (fun K hK => ?_) AllReadyH.nil))
  · refine step_appC rfl _ _ rfl B b26 0 0 nr vr [] csR rfl rfl hX (hr W hHeld) (by omega) (hK0.1 _ hHeld) ?_
    intro g' c' W' hrow hg hob
    rw [Nat.zero_add, List.nil_append] at hrow
    refine hK.out _ _ (hK0.2 _ _ hHeld (below_grownC hg hX.lt.1 (hK0.1 _ hHeld))) (fun hHeld => ?_)
    rw [Nat.zero_add]
    try simp only [List.getElem_toArray, List.getElem_cons_succ, List.getElem_cons_zero, Act.put, List.setIfInBounds_toArray, List.set_cons_zero, List.set_cons_succ]
    exact node_c1n10 hK0 hr hw hl hE hQp W' b26 g' c' b31 b38 hHeld (hrow) (bk_grown hP hg nXP.symm) (bk_grown hR hg nXR.symm) (ne_app' (W := W) nXP (bk_lt hP) hob) (ne_app' (W := W) nXR (bk_lt hR) hob) (nPR)
  · go_simp
    refine hK.out _ _ (hK0.2 _ _ hHeld ((Below.refl _ W).alloc (hK0.1 _ hHeld) (.cells #[] 50))) (fun hHeld => ?_)
    exact node_e1e10 hK0 hr hw hl hE hQp _ b26 b31 W.heap.size b38 hHeld (hX.alloc _) (bk_alloc hP) (rowC_new W B (hK0.1 _ hHeld0)) (bk_alloc hR) (nXP) (Nat.ne_of_lt (hX.lt.2)) (nXR) (Nat.ne_of_lt (bk_lt hP)) (nPR) (Nat.ne_of_gt (bk_lt hR))
  · go_simp
    refine hK.out _ _ (hK0.2 _ _ hHeld ((Below.refl _ W).alloc (hK0.1 _ hHeld) (.cells #[.slice none 0 0, .slice none 0 0] 27))) (fun hHeld => ?_)
    exact node_e1n11 hK0 hr hw hl hE hQp _ b26 b31 b38 W.heap.size hHeld (hX.alloc _) (bk_alloc hP) (bk_alloc hR) (heap_alloc_new W _) (hK0.1 _ hHeld0) (nXP) (nXR) (nPR)
set_option maxRecDepth 100000 in
set_option maxHeartbeats 2000000 in
theorem node_e1n01 (hK0 : Keeps B S) (hr : ∀ W, S W → SrcAt W vr nr csR) (hw : ∀ W, S W → SrcAt W vw nw csW) (hl : nr ≤ 4 ∧ nw ≤ 4) (hE : MoreEnd s0 s1 s2 s3 s4 s5 s6 s7 s8 s12 s13 s14 s15 s16 s17 s18 s19 s20 s21 s27 s34 vr vw Q S B nr nw csR csW ow na nn nc) (hQp : ∀ c a a' w, Q (.panic c) a w → Q (.panic c) a' w) (W : World) (b26 b31 b9 : Nat) (hHeld : S W) (hX : RowC W B b26 0 0 []) (hP : W.heap[b31]? = some (.cells #[.int .i64 ow, .slice na nn nc] 50 (0, 0))) (hA : W.heap[b9]? = some (.cells #[.slice none 0 0, .slice none 0 0] 27 (0, 0))) (hB9 : B ≤ b9) (nXP : b26 ≠ b31) :
    wpAnyH Try.prog Region.Mode.any moreOps Q S 8 #[true, true, true, false, true, true, false, false, true, true, false, true, false, false, false, true, false] (moreFrame s0 s1 s2 s3 s4 s5 s6 s7 s8 s12 s13 s14 s15 s16 s17 s18 s19 s20 s21 s27 vr (.agg #[.int .i64 ow, .slice na nn nc]) s34 vw (.agg #[.int .i64 ow, .slice na nn nc]) (.slice (some ⟨b26, 0, none⟩) 0 0) undef (.slice (some ⟨b31, 0, none⟩) 1 1) undef undef undef undef undef undef (.pointer (some ⟨b9, 0, none⟩))) W := by
  have hHeld0 := hHeld
  unfold moreFrame moreOps
  refine wpAnyH_ready (rs := [3, 7, 12]) (by kernel_rfl) (by simp) ?_
  refine AllReadyH.cons rfl (fun K hK => ?_) (AllReadyH.cons rfl (fun K hK => ?_) (AllReadyH.cons rfl (fun K hK => ?_) AllReadyH.nil))
  · refine step_appC rfl _ _ rfl B b26 0 0 nr vr [] csR rfl rfl hX (hr W hHeld) (by omega) (hK0.1 _ hHeld) ?_
    intro g' c' W' hrow hg hob
    rw [Nat.zero_add, List.nil_append] at hrow
    refine hK.out _ _ (hK0.2 _ _ hHeld (below_grownC hg hX.lt.1 (hK0.1 _ hHeld))) (fun hHeld => ?_)
    rw [Nat.zero_add]
    try simp only [List.getElem_toArray, List.getElem_cons_succ, List.getElem_cons_zero, Act.put, List.setIfInBounds_toArray, List.set_cons_zero, List.set_cons_succ]
    exact node_c1n01 hK0 hr hw hl hE hQp W' b26 g' c' b31 b9 hHeld (hrow) (bk_grown hP hg nXP.symm) (bk_grown hA hg (ne_27 hX hA)) (hB9) (ne_app' (W := W) nXP (bk_lt hP) hob)
  · go_simp
    refine hK.out _ _ (hK0.2 _ _ hHeld ((Below.refl _ W).alloc (hK0.1 _ hHeld) (.cells #[] 50))) (fun hHeld => ?_)
    exact node_e1e01 hK0 hr hw hl hE hQp _ b26 b31 W.heap.size b9 hHeld (hX.alloc _) (bk_alloc hP) (rowC_new W B (hK0.1 _ hHeld0)) (bk_alloc hA) (hB9) (nXP) (Nat.ne_of_lt (hX.lt.2)) (Nat.ne_of_lt (bk_lt hP))
  · go_simp
    refine hK.out _ _ (hK0.2 _ _ hHeld ((Below.refl _ W).alloc (hK0.1 _ hHeld) (.cells #[.int .i64 ow, .slice na nn nc] 50))) (fun hHeld => ?_)
    exact node_e1n11 hK0 hr hw hl hE hQp _ b26 b31 W.heap.size b9 hHeld (hX.alloc _) (bk_alloc hP) (heap_alloc_new W _) (bk_alloc hA) (hB9) (nXP) (Nat.ne_of_lt (hX.lt.2)) (Nat.ne_of_lt (bk_lt hP))
set_option maxRecDepth 100000 in
set_option maxHeartbeats 2000000 in
theorem node_e1n00 (hK0 : Keeps B S) (hr : ∀ W, S W → SrcAt W vr nr csR) (hw : ∀ W, S W → SrcAt W vw nw csW) (hl : nr ≤ 4 ∧ nw ≤ 4) (hE : MoreEnd s0 s1 s2 s3 s4 s5 s6 s7 s8 s12 s13 s14 s15 s16 s17 s18 s19 s20 s21 s27 s34 vr vw Q S B nr nw csR csW ow na nn nc) (hQp : ∀ c a a' w, Q (.panic c) a w → Q (.panic c) a' w) (W : World) (b26 b31 : Nat) (hHeld : S W) (hX : RowC W B b26 0 0 []) (hP : W.heap[b31]? = some (.cells #[.int .i64 ow, .slice na nn nc] 50 (0, 0))) (nXP : b26 ≠ b31) :
    wpAnyH Try.prog Region.Mode.any moreOps Q S 9 #[true, true, true, false, true, true, false, false, true, true, false, true, false, false, false, false, false] (moreFrame s0 s1 s2 s3 s4 s5 s6 s7 s8 s12 s13 s14 s15 s16 s17 s18 s19 s20 s21 s27 vr (.agg #[.int .i64 ow, .slice na nn nc]) s34 vw (.agg #[.int .i64 ow, .slice na nn nc]) (.slice (some ⟨b26, 0, none⟩) 0 0) undef (.slice (some ⟨b31, 0, none⟩) 1 1) undef undef undef undef undef undef undef) W := by
  have hHeld0 := hHeld
  unfold moreFrame moreOps
  refine wpAnyH_ready (rs := [3, 7, 12, 15]) (by kernel_rfl) (by simp) ?_
  refine AllReadyH.cons rfl (fun K hK => ?_) (AllReadyH.cons rfl (fun K hK => ?_) (AllReadyH.cons rfl (fun K hK => ?_) (AllReadyH.cons rfl (fun K hK => ?_) AllReadyH.nil)))
  · refine step_appC rfl _ _ rfl B b26 0 0 nr vr [] csR rfl rfl hX (hr W hHeld) (by omega) (hK0.1 _ hHeld) ?_
    intro g' c' W' hrow hg hob
    rw [Nat.zero_add, List.nil_append] at hrow
    refine hK.out _ _ (hK0.2 _ _ hHeld (below_grownC hg hX.lt.1 (hK0.1 _ hHeld))) (fun hHeld => ?_)
    rw [Nat.zero_add]
    try simp only [List.getElem_toArray, List.getElem_cons_succ, List.getElem_cons_zero, Act.put, List.setIfInBounds_toArray, List.set_cons_zero, List.set_cons_succ]
    exact node_c1n00 hK0 hr hw hl hE hQp W' b26 g' c' b31 hHeld (hrow) (bk_grown hP hg nXP.symm) (ne_app' (W := W) nXP (bk_lt hP) hob)
  · go_simp
    refine hK.out _ _ (hK0.2 _ _ hHeld ((Below.refl _ W).alloc (hK0.1 _ hHeld) (.cells #[] 50))) (fun hHeld => ?_)
    exact node_e1e00 hK0 hr hw hl hE hQp _ b26 b31 W.heap.size hHeld (hX.alloc _) (bk_alloc hP) (rowC_new W B (hK0.1 _ hHeld0)) (nXP) (Nat.ne_of_lt (hX.lt.2)) (Nat.ne_of_lt (bk_lt hP))
  · go_simp
    refine hK.out _ _ (hK0.2 _ _ hHeld ((Below.refl _ W).alloc (hK0.1 _ hHeld) (.cells #[.int .i64 ow, .slice na nn nc] 50))) (fun hHeld => ?_)
    exact node_e1n10 hK0 hr hw hl hE hQp _ b26 b31 W.heap.size hHeld (hX.alloc _) (bk_alloc hP) (heap_alloc_new W _) (nXP) (Nat.ne_of_lt (hX.lt.2)) (Nat.ne_of_lt (bk_lt hP))
  · go_simp
    refine hK.out _ _ (hK0.2 _ _ hHeld ((Below.refl _ W).alloc (hK0.1 _ hHeld) (.cells #[.slice none 0 0, .slice none 0 0] 27))) (fun hHeld => ?_)
    exact node_e1n01 hK0 hr hw hl hE hQp _ b26 b31 W.heap.size hHeld (hX.alloc _) (bk_alloc hP) (heap_alloc_new W _) (hK0.1 _ hHeld0) (nXP)
set_option maxRecDepth 100000 in
set_option maxHeartbeats 2000000 in
theorem node_e0e11 (hK0 : Keeps B S) (hr : ∀ W, S W → SrcAt W vr nr csR) (hw : ∀ W, S W → SrcAt W vw nw csW) (hl : nr ≤ 4 ∧ nw ≤ 4) (hE : MoreEnd s0 s1 s2 s3 s4 s5 s6 s7 s8 s12 s13 s14 s15 s16 s17 s18 s19 s20 s21 s27 s34 vr vw Q S B nr nw csR csW ow na nn nc) (hQp : ∀ c a a' w, Q (.panic c) a w → Q (.panic c) a' w) (W : World) (b26 b33 b38 b9 : Nat) (hHeld : S W) (hX : RowC W B b26 0 0 []) (hY : RowC W B b33 0 0 []) (hR : W.heap[b38]? = some (.cells #[.int .i64 ow, .slice na nn nc] 50 (0, 0))) (hA : W.heap[b9]? = some (.cells #[.slice none 0 0, .slice none 0 0] 27 (0, 0))) (hB9 : B ≤ b9) (nXY : b26 ≠ b33) (nXR : b26 ≠ b38) (nYR : b33 ≠ b38) :
    wpAnyH Try.prog Region.Mode.any moreOps Q S 7 #[true, true, true, false, true, false, false, true, true, true, false, true, true, false, false, true, false] (moreFrame s0 s1 s2 s3 s4 s5 s6 s7 s8 s12 s13 s14 s15 s16 s17 s18 s19 s20 s21 s27 vr (.agg #[.int .i64 ow, .slice na nn nc]) s34 vw (.agg #[.int .i64 ow, .slice na nn nc]) (.slice (some ⟨b26, 0, none⟩) 0 0) undef undef undef (.slice (some ⟨b33, 0, none⟩) 0 0) undef (.slice (some ⟨b38, 0, none⟩) 1 1) undef undef (.pointer (some ⟨b9, 0, none⟩))) W := by
  have hHeld0 := hHeld
  unfold moreFrame moreOps
  refine wpAnyH_ready (rs := [3, 5]) (by kernel_rfl) (by simp) ?_
  refine AllReadyH.cons rfl (fun K hK => ?_) (AllReadyH.cons rfl (fun K hK => ?_) AllReadyH.nil)
  · refine step_appC rfl _ _ rfl B b26 0 0 nr vr [] csR rfl rfl hX (hr W hHeld) (by omega) (hK0.1 _ hHeld) ?_
    intro g' c' W' hrow hg hob
    rw [Nat.zero_add, List.nil_append] at hrow
    refine hK.out _ _ (hK0.2 _ _ hHeld (below_grownC hg hX.lt.1 (hK0.1 _ hHeld))) (fun hHeld => ?_)
    rw [Nat.zero_add]
    try simp only [List.getElem_toArray, List.getElem_cons_succ, List.getElem_cons_zero, Act.put, List.setIfInBounds_toArray, List.set_cons_zero, List.set_cons_succ]
    exact node_c0e11 hK0 hr hw hl hE hQp W' b26 g' c' b33 b38 b9 hHeld (hrow) (hY.grown hg nXY.symm) (bk_grown hR hg nXR.symm) (bk_grown hA hg (ne_27 hX hA)) (hB9) (ne_app' (W := W) nXY (hY.lt.2) hob) (ne_app' (W := W) nXR (bk_lt hR) hob) (nYR)
  · go_simp
    refine hK.out _ _ (hK0.2 _ _ hHeld ((Below.refl _ W).alloc (hK0.1 _ hHeld) (.cells #[.int .i64 ow, .slice na nn nc] 50))) (fun hHeld => ?_)
    exact node_e1e11 hK0 hr hw hl hE hQp _ b26 W.heap.size b33 b38 b9 hHeld (hX.alloc _) (heap_alloc_new W _) (hY.alloc _) (bk_alloc hR) (bk_alloc hA) (hB9) (Nat.ne_of_lt (hX.lt.2)) (nXY) (nXR) (Nat.ne_of_gt (hY.lt.2)) (Nat.ne_of_gt (bk_lt hR)) (nYR)
set_option maxRecDepth 100000 in
set_option maxHeartbeats 2000000 in
theorem node_e0e10 (hK0 : Keeps B S) (hr : ∀ W, S W → SrcAt W vr nr csR) (hw : ∀ W, S W → SrcAt W vw nw csW) (hl : nr ≤ 4 ∧ nw ≤ 4) (hE : MoreEnd s0 s1 s2 s3 s4 s5 s6 s7 s8 s12 s13 s14 s15 s16 s17 s18 s19 s20 s21 s27 s34 vr vw Q S B nr nw csR csW ow na nn nc) (hQp : ∀ c a a' w, Q (.panic c) a w → Q (.panic c) a' w) (W : World) (b26 b33 b38 : Nat) (hHeld : S W) (hX : RowC W B b26 0 0 []) (hY : RowC W B b33 0 0 []) (hR : W.heap[b38]? = some (.cells #[.int .i64 ow, .slice na nn nc] 50 (0, 0))) (nXY : b26 ≠ b33) (nXR : b26 ≠ b38) (nYR : b33 ≠ b38) :
    wpAnyH Try.prog Region.Mode.any moreOps Q S 8 #[true, true, true, false, true, false, false, true, true, true, false, true, true, false, false, false, false] (moreFrame s0 s1 s2 s3 s4 s5 s6 s7 s8 s12 s13 s14 s15 s16 s17 s18 s19 s20 s21 s27 vr (.agg #[.int .i64 ow, .slice na nn nc]) s34 vw (.agg #[.int .i64 ow, .slice na nn nc]) (.slice (some ⟨b26, 0, none⟩) 0 0) undef undef undef (.slice (some ⟨b33, 0, none⟩) 0 0) undef (.slice (some ⟨b38, 0, none⟩) 1 1) undef undef undef) W := by
  have hHeld0 := hHeld
  unfold moreFrame moreOps
  refine wpAnyH_ready (rs := [3, 5, 15]) (by kernel_rfl) (by simp) ?_
  refine AllReadyH.cons rfl (fun K hK => ?_) (AllReadyH.cons rfl (fun K hK => ?_) (AllReadyH.cons rfl (fun K hK => ?_) AllReadyH.nil))
  · refine step_appC rfl _ _ rfl B b26 0 0 nr vr [] csR rfl rfl hX (hr W hHeld) (by omega) (hK0.1 _ hHeld) ?_
    intro g' c' W' hrow hg hob
    rw [Nat.zero_add, List.nil_append] at hrow
    refine hK.out _ _ (hK0.2 _ _ hHeld (below_grownC hg hX.lt.1 (hK0.1 _ hHeld))) (fun hHeld => ?_)
    rw [Nat.zero_add]
    try simp only [List.getElem_toArray, List.getElem_cons_succ, List.getElem_cons_zero, Act.put, List.setIfInBounds_toArray, List.set_cons_zero, List.set_cons_succ]
    exact node_c0e10 hK0 hr hw hl hE hQp W' b26 g' c' b33 b38 hHeld (hrow) (hY.grown hg nXY.symm) (bk_grown hR hg nXR.symm) (ne_app' (W := W) nXY (hY.lt.2) hob) (ne_app' (W := W) nXR (bk_lt hR) hob) (nYR)
  · go_simp
    refine hK.out _ _ (hK0.2 _ _ hHeld ((Below.refl _ W).alloc (hK0.1 _ hHeld) (.cells #[.int .i64 ow, .slice na nn nc] 50))) (fun hHeld => ?_)
    exact node_e1e10 hK0 hr hw hl hE hQp _ b26 W.heap.size b33 b38 hHeld (hX.alloc _) (heap_alloc_new W _) (hY.alloc _) (bk_alloc hR) (Nat.ne_of_lt (hX.lt.2)) (nXY) (nXR) (Nat.ne_of_gt (hY.lt.2)) (Nat.ne_of_gt (bk_lt hR)) (nYR)
  · go_simp
    refine hK.out _ _ (hK0.2 _ _ hHeld ((Below.refl _ W).alloc (hK0.1 _ hHeld) (.cells #[.slice none 0 0, .slice none 0 0] 27))) (fun hHeld => ?_)
    exact node_e0e11 hK0 hr hw hl hE hQp _ b26 b33 b38 W.heap.size hHeld (hX.alloc _) (hY.alloc _) (bk_alloc hR) (heap_alloc_new W _) (hK0.1 _ hHeld0) (nXY) (nXR) (nYR)
set_option maxRecDepth 100000 in
set_option maxHeartbeats 2000000 in
theorem node_e0e01 (hK0 : Keeps B S) (hr : ∀ W, S W → SrcAt W vr nr csR) (hw : ∀ W, S W → SrcAt W vw nw csW) (hl : nr ≤ 4 ∧ nw ≤ 4) (hE : MoreEnd s0 s1 s2 s3 s4 s5 s6 s7 s8 s12 s13 s14 s15 s16 s17 s18 s19 s20 s21 s27 s34 vr vw Q S B nr nw csR csW ow na nn nc) (hQp : ∀ c a a' w, Q (.panic c) a w → Q (.panic c) a' w) (W : World) (b26 b33 b9 : Nat) (hHeld : S W) (hX : RowC W B b26 0 0 []) (hY : RowC W B b33 0 0 []) (hA : W.heap[b9]? = some (.cells #[.slice none 0 0, .slice none 0 0] 27 (0, 0))) (hB9 : B ≤ b9) (nXY : b26 ≠ b33) :
    wpAnyH Try.prog Region.Mode.any moreOps Q S 8 #[true, true, true, false, true, false, false, true, true, true, false, true, false, false, false, true, false] (moreFrame s0 s1 s2 s3 s4 s5 s6 s7 s8 s12 s13 s14 s15 s16 s17 s18 s19 s20 s21 s27 vr (.agg #[.int .i64 ow, .slice na nn nc]) s34 vw (.agg #[.int .i64 ow, .slice na nn nc]) (.slice (some ⟨b26, 0, none⟩) 0 0) undef undef undef (.slice (some ⟨b33, 0, none⟩) 0 0) undef undef undef undef (.pointer (some ⟨b9, 0, none⟩))) W := by
  have hHeld0 := hHeld
  unfold moreFrame moreOps
  refine wpAnyH_ready (rs := [3, 5, 12]) (by kernel_rfl) (by simp) ?_
  refine AllReadyH.cons rfl (fun K hK => ?_) (AllReadyH.cons rfl (fun K hK => ?_) (AllReadyH.cons rfl (fun K hK => ?_) AllReadyH.nil))
  · refine step_appC rfl _ _ rfl B b26 0 0 nr vr [] csR rfl rfl hX (hr W hHeld) (by omega) (hK0.1 _ hHeld) ?_
    intro g' c' W' hrow hg hob
    rw [Nat.zero_add, List.nil_append] at hrow
    refine hK.out _ _ (hK0.2 _ _ hHeld (below_grownC hg hX.lt.1 (hK0.1 _ hHeld))) (fun hHeld => ?_)
    rw [Nat.zero_add]
    try simp only [List.getElem_toArray, List.getElem_cons_succ, List.getElem_cons_zero, Act.put, List.setIfInBounds_toArray, List.set_cons_zero, List.set_cons_succ]
    exact node_c0e01 hK0 hr hw hl hE hQp W' b26 g' c' b33 b9 hHeld (hrow) (hY.grown hg nXY.symm) (bk_grown hA hg (ne_27 hX hA)) (hB9) (ne_app' (W := W) nXY (hY.lt.2) hob)
  · go_simp
    refine hK.out _ _ (hK0.2 _ _ hHeld ((Below.refl _ W).alloc (hK0.1 _ hHeld) (.cells #[.int .i64 ow, .slice na nn nc] 50))) (fun hHeld => ?_)
    exact node_e1e01 hK0 hr hw hl hE hQp _ b26 W.heap.size b33 b9 hHeld (hX.alloc _) (heap_alloc_new W _) (hY.alloc _) (bk_alloc hA) (hB9) (Nat.ne_of_lt (hX.lt.2)) (nXY) (Nat.ne_of_gt (hY.lt.2))
  · go_simp
    refine hK.out _ _ (hK0.2 _ _ hHeld ((Below.refl _ W).alloc (hK0.1 _ hHeld) (.cells #[.int .i64 ow, .slice na nn nc] 50))) (fun hHeld => ?_)
    exact node_e0e11 hK0 hr hw hl hE hQp _ b26 b33 W.heap.size b9 hHeld (hX.alloc _) (hY.alloc _) (heap_alloc_new W _) (bk_alloc hA) (hB9) (nXY) (Nat.ne_of_lt (hX.lt.2)) (Nat.ne_of_lt (hY.lt.2))
set_option maxRecDepth 100000 in
set_option maxHeartbeats 2000000 in
theorem node_e0e00 (hK0 : Keeps B S) (hr : ∀ W, S W → SrcAt W vr nr csR) (hw : ∀ W, S W → SrcAt W vw nw csW) (hl : nr ≤ 4 ∧ nw ≤ 4) (hE : MoreEnd s0 s1 s2 s3 s4 s5 s6 s7 s8 s12 s13 s14 s15 s16 s17 s18 s19 s20 s21 s27 s34 vr vw Q S B nr nw csR csW ow na nn nc) (hQp : ∀ c a a' w, Q (.panic c) a w → Q (.panic c) a' w) (W : World) (b26 b33 : Nat) (hHeld : S W) (hX : RowC W B b26 0 0 []) (hY : RowC W B b33 0 0 []) (nXY : b26 ≠ b33) :
    wpAnyH Try.prog Region.Mode.any moreOps Q S 9 #[true, true, true, false, true, false, false, true, true, true, false, true, false, false, false, false, false] (moreFrame s0 s1 s2 s3 s4 s5 s6 s7 s8 s12 s13 s14 s15 s16 s17 s18 s19 s20 s21 s27 vr (.agg #[.int .i64 ow, .slice na nn nc]) s34 vw (.agg #[.int .i64 ow, .slice na nn nc]) (.slice (some ⟨b26, 0, none⟩) 0 0) undef undef undef (.slice (some ⟨b33, 0, none⟩) 0 0) undef undef undef undef undef) W := by
  have hHeld0 := hHeld
  unfold moreFrame moreOps
  refine wpAnyH_ready (rs := [3, 5, 12, 15]) (by kernel_rfl) (by simp) ?_
  refine AllReadyH.cons rfl (fun K hK => ?_) (AllReadyH.cons rfl (fun K hK => ?_) (AllReadyH.cons rfl (fun K hK => ?_) (AllReadyH.cons rfl (fun K hK => ?_) AllReadyH.nil)))
  · refine step_appC rfl _ _ rfl B b26 0 0 nr vr [] csR rfl rfl hX (hr W hHeld) (by omega) (hK0.1 _ hHeld) ?_
    intro g' c' W' hrow hg hob
    rw [Nat.zero_add, List.nil_append] at hrow
    refine hK.out _ _ (hK0.2 _ _ hHeld (below_grownC hg hX.lt.1 (hK0.1 _ hHeld))) (fun hHeld => ?_)
    rw [Nat.zero_add]
    try simp only [List.getElem_toArray, List.getElem_cons_succ, List.getElem_cons_zero, Act.put, List.setIfInBounds_toArray, List.set_cons_zero, List.set_cons_succ]
    exact node_c0e00 hK0 hr hw hl hE hQp W' b26 g' c' b33 hHeld (hrow) (hY.grown hg nXY.symm) (ne_app' (W := W) nXY (hY.lt.2) hob)
  · go_simp
    refine hK.out _ _ (hK0.2 _ _ hHeld ((Below.refl _ W).alloc (hK0.1 _ hHeld) (.cells #[.int .i64 ow, .slice na nn nc] 50))) (fun hHeld => ?_)
    exact node_e1e00 hK0 hr hw hl hE hQp _ b26 W.heap.size b33 hHeld (hX.alloc _) (heap_alloc_new W _) (hY.alloc _) (Nat.ne_of_lt (hX.lt.2)) (nXY) (Nat.ne_of_gt (hY.lt.2))
  · go_simp
    refine hK.out _ _ (hK0.2 _ _ hHeld ((Below.refl _ W).alloc (hK0.1 _ hHeld) (.cells #[.int .i64 ow, .slice na nn nc] 50))) (fun hHeld => ?_)
    exact node_e0e10 hK0 hr hw hl hE hQp _ b26 b33 W.heap.size hHeld (hX.alloc _) (hY.alloc _) (heap_alloc_new W _) (nXY) (Nat.ne_of_lt (hX.lt.2)) (Nat.ne_of_lt (hY.lt.2))
  · go_simp
    refine hK.out _ _ (hK0.2 _ _ hHeld ((Below.refl _ W).alloc (hK0.1 _ hHeld) (.cells #[.slice none 0 0, .slice none 0 0] 27))) (fun hHeld => ?_)
    exact node_e0e01 hK0 hr hw hl hE hQp _ b26 b33 W.heap.size hHeld (hX.alloc _) (hY.alloc _) (heap_alloc_new W _) (hK0.1 _ hHeld0) (nXY)
set_option maxRecDepth 100000 in
set_option maxHeartbeats 2000000 in
theorem node_e0n11 (hK0 : Keeps B S) (hr : ∀ W, S W → SrcAt W vr nr csR) (hw : ∀ W, S W → SrcAt W vw nw csW) (hl : nr ≤ 4 ∧ nw ≤ 4) (hE : MoreEnd s0 s1 s2 s3 s4 s5 s6 s7 s8 s12 s13 s14 s15 s16 s17 s18 s19 s20 s21 s27 s34 vr vw Q S B nr nw csR csW ow na nn nc) (hQp : ∀ c a a' w, Q (.panic c) a w → Q (.panic c) a' w) (W : World) (b26 b38 b9 : Nat) (hHeld : S W) (hX : RowC W B b26 0 0 []) (hR : W.heap[b38]? = some (.cells #[.int .i64 ow, .slice na nn nc] 50 (0, 0))) (hA : W.heap[b9]? = some (.cells #[.slice none 0 0, .slice none 0 0] 27 (0, 0))) (hB9 : B ≤ b9) (nXR : b26 ≠ b38) :
    wpAnyH Try.prog Region.Mode.any moreOps Q S 8 #[true, true, true, false, true, false, false, false, true, true, false, true, true, false, false, true, false] (moreFrame s0 s1 s2 s3 s4 s5 s6 s7 s8 s12 s13 s14 s15 s16 s17 s18 s19 s20 s21 s27 vr (.agg #[.int .i64 ow, .slice na nn nc]) s34 vw (.agg #[.int .i64 ow, .slice na nn nc]) (.slice (some ⟨b26, 0, none⟩) 0 0) undef undef undef undef undef (.slice (some ⟨b38, 0, none⟩) 1 1) undef undef (.pointer (some ⟨b9, 0, none⟩))) W := by
  have hHeld0 := hHeld
  unfold moreFrame moreOps
  refine wpAnyH_ready (rs := [3, 5, 7]) (by kernel_rfl) (by simp) ?_
  refine AllReadyH.cons rfl (fun K hK => ?_) (AllReadyH.cons rfl (fun K hK => ?_) (AllReadyH.cons rfl (fun K hK => ?_) AllReadyH.nil))
  · refine step_appC rfl _ _ rfl B b26 0 0 nr vr [] csR rfl rfl hX (hr W hHeld) (by omega) (hK0.1 _ hHeld) ?_
    intro g' c' W' hrow hg hob
    rw [Nat.zero_add, List.nil_append] at hrow
    refine hK.out _ _ (hK0.2 _ _ hHeld (below_grownC hg hX.lt.1 (hK0.1 _ hHeld))) (fun hHeld => ?_)
    rw [Nat.zero_add]
    try simp only [List.getElem_toArray, List.getElem_cons_succ, List.getElem_cons_zero, Act.put, List.setIfInBounds_toArray, List.set_cons_zero, List.set_cons_succ]
    exact node_c0n11 hK0 hr hw hl hE hQp W' b26 g' c' b38 b9 hHeld (hrow) (bk_grown hR hg nXR.symm) (bk_grown hA hg (ne_27 hX hA)) (hB9) (ne_app' (W := W) nXR (bk_lt hR) hob)
  · go_simp
    refine hK.out _ _ (hK0.2 _ _ hHeld ((Below.refl _ W).alloc (hK0.1 _ hHeld) (.cells #[.int .i64 ow, .slice na nn nc] 50))) (fun hHeld => ?_)
    exact node_e1n11 hK0 hr hw hl hE hQp _ b26 W.heap.size b38 b9 hHeld (hX.alloc _) (heap_alloc_new W _) (bk_alloc hR) (bk_alloc hA) (hB9) (Nat.ne_of_lt (hX.lt.2)) (nXR) (Nat.ne_of_gt (bk_lt hR))
  · go_simp
    refine hK.out _ _ (hK0.2 _ _ hHeld ((Below.refl _ W).alloc (hK0.1 _ hHeld) (.cells #[] 50))) (fun hHeld => ?_)
    exact node_e0e11 hK0 hr hw hl hE hQp _ b26 W.heap.size b38 b9 hHeld (hX.alloc _) (rowC_new W B (hK0.1 _ hHeld0)) (bk_alloc hR) (bk_alloc hA) (hB9) (Nat.ne_of_lt (hX.lt.2)) (nXR) (Nat.ne_of_gt (bk_lt hR))
set_option maxRecDepth 100000 in
set_option maxHeartbeats 2000000 in
theorem node_e0n10 (hK0 : Keeps B S) (hr : ∀ W, S W → SrcAt W vr nr csR) (hw : ∀ W, S W → SrcAt W vw nw csW) (hl : nr ≤ 4 ∧ nw ≤ 4) (hE : MoreEnd s0 s1 s2 s3 s4 s5 s6 s7 s8 s12 s13 s14 s15 s16 s17 s18 s19 s20 s21 s27 s34 vr vw Q S B nr nw csR csW ow na nn nc) (hQp : ∀ c a a' w, Q (.panic c) a w → Q (.panic c) a' w) (W : World) (b26 b38 : Nat) (hHeld : S W) (hX : RowC W B b26 0 0 []) (hR : W.heap[b38]? = some (.cells #[.int .i64 ow, .slice na nn nc] 50 (0, 0))) (nXR : b26 ≠ b38) :
    wpAnyH Try.prog Region.Mode.any moreOps Q S 9 #[true, true, true, false, true, false, false, false, true, true, false, true, true, false, false, false, false] (moreFrame s0 s1 s2 s3 s4 s5 s6 s7 s8 s12 s13 s14 s15 s16 s17 s18 s19 s20 s21 s27 vr (.agg #[.int .i64 ow, .slice na nn nc]) s34 vw (.agg #[.int .i64 ow, .slice na nn nc]) (.slice (some ⟨b26, 0, none⟩) 0 0) undef undef undef undef undef (.slice (some ⟨b38, 0, none⟩) 1 1) undef undef undef) W := by
  have hHeld0 := hHeld
  unfold moreFrame moreOps
  refine wpAnyH_ready (rs := [3, 5, 7, 15]) (by kernel_rfl) (by simp) ?_
  refine AllReadyH.cons rfl (fun K hK => ?_) (AllReadyH.cons rfl (fun K hK => ?_) (AllReadyH.cons rfl (fun K hK => ?_) (AllReadyH.cons rfl (fun K hK => ?_) AllReadyH.nil)))
  · refine step_appC rfl _ _ rfl B b26 0 0 nr vr [] csR rfl rfl hX (hr W hHeld) (by omega) (hK0.1 _ hHeld) ?_
    intro g' c' W' hrow hg hob
    rw [Nat.zero_add, List.nil_append] at hrow
    refine hK.out _ _ (hK0.2 _ _ hHeld (below_grownC hg hX.lt.1 (hK0.1 _ hHeld))) (fun hHeld => ?_)
    rw [Nat.zero_add]
    try simp only [List.getElem_toArray, List.getElem_cons_succ, List.getElem_cons_zero, Act.put, List.setIfInBounds_toArray, List.set_cons_zero, List.set_cons_succ]
    exact node_c0n10 hK0 hr hw hl hE hQp W' b26 g' c' b38 hHeld (hrow) (bk_grown hR hg nXR.symm) (ne_app' (W := W) nXR (bk_lt hR) hob)
  · go_simp
    refine hK.out _ _ (hK0.2 _ _ hHeld ((Below.refl _ W).alloc (hK0.1 _ hHeld) (.cells #[.int .i64 ow, .slice na nn nc] 50))) (fun hHeld => ?_)
    exact node_e1n10 hK0 hr hw hl hE hQp _ b26 W.heap.size b38 hHeld (hX.alloc _) (heap_alloc_new W _) (bk_alloc hR) (Nat.ne_of_lt (hX.lt.2)) (nXR) (Nat.ne_of_gt (bk_lt hR))
  · go_simp
    refine hK.out _ _ (hK0.2 _ _ hHeld ((Below.refl _ W).alloc (hK0.1 _ hHeld) (.cells #[] 50))) (fun hHeld => ?_)
    exact node_e0e10 hK0 hr hw hl hE hQp _ b26 W.heap.size b38 hHeld (hX.alloc _) (rowC_new W B (hK0.1 _ hHeld0)) (bk_alloc hR) (Nat.ne_of_lt (hX.lt.2)) (nXR) (Nat.ne_of_gt (bk_lt hR))
  · go_simp
    refine hK.out _ _ (hK0.2 _ _ hHeld ((Below.refl _ W).alloc (hK0.1 _ hHeld) (.cells #[.slice none 0 0, .slice none 0 0] 27))) (fun hHeld => ?_)
    exact node_e0n11 hK0 hr hw hl hE hQp _ b26 b38 W.heap.size hHeld (hX.alloc _) (bk_alloc hR) (heap_alloc_new W _) (hK0.1 _ hHeld0) (nXR)
set_option maxRecDepth 100000 in
set_option maxHeartbeats 2000000 in
theorem node_e0n01 (hK0 : Keeps B S) (hr : ∀ W, S W → SrcAt W vr nr csR) (hw : ∀ W, S W → SrcAt W vw nw csW) (hl : nr ≤ 4 ∧ nw ≤ 4) (hE : MoreEnd s0 s1 s2 s3 s4 s5 s6 s7 s8 s12 s13 s14 s15 s16 s17 s18 s19 s20 s21 s27 s34 vr vw Q S B nr nw csR csW ow na nn nc) (hQp : ∀ c a a' w, Q (.panic c) a w → Q (.panic c) a' w) (W : World) (b26 b9 : Nat) (hHeld : S W) (hX : RowC W B b26 0 0 []) (hA : W.heap[b9]? = some (.cells #[.slice none 0 0, .slice none 0 0] 27 (0, 0))) (hB9 : B ≤ b9) :
    wpAnyH Try.prog Region.Mode.any moreOps Q S 9 #[true, true, true, false, true, false, false, false, true, true, false, true, false, false, false, true, false] (moreFrame s0 s1 s2 s3 s4 s5 s6 s7 s8 s12 s13 s14 s15 s16 s17 s18 s19 s20 s21 s27 vr (.agg #[.int .i64 ow, .slice na nn nc]) s34 vw (.agg #[.int .i64 ow, .slice na nn nc]) (.slice (some ⟨b26, 0, none⟩) 0 0) undef undef undef undef undef undef undef undef (.pointer (some ⟨b9, 0, none⟩))) W := by
  have hHeld0 := hHeld
  unfold moreFrame moreOps
  refine wpAnyH_ready (rs := [3, 5, 7, 12]) (by kernel_rfl) (by simp) ?_
  refine AllReadyH.cons rfl (fun K hK => ?_) (AllReadyH.cons rfl (fun K hK => ?_) (AllReadyH.cons rfl (fun K hK => ?_) (AllReadyH.cons rfl (fun K hK => ?_) AllReadyH.nil)))
  · refine step_appC rfl _ _ rfl B b26 0 0 nr vr [] csR rfl rfl hX (hr W hHeld) (by omega) (hK0.1 _ hHeld) ?_
    intro g' c' W' hrow hg hob
    rw [Nat.zero_add, List.nil_append] at hrow
    refine hK.out _ _ (hK0.2 _ _ hHeld (below_grownC hg hX.lt.1 (hK0.1 _ hHeld))) (fun hHeld => ?_)
    rw [Nat.zero_add]
    try simp only [List.getElem_toArray, List.getElem_cons_succ, List.getElem_cons_zero, Act.put, List.setIfInBounds_toArray, List.set_cons_zero, List.set_cons_succ]
    exact node_c0n01 hK0 hr hw hl hE hQp W' b26 g' c' b9 hHeld (hrow) (bk_grown hA hg (ne_27 hX hA)) (hB9)
  · go_simp
    refine hK.out _ _ (hK0.2 _ _ hHeld ((Below.refl _ W).alloc (hK0.1 _ hHeld) (.cells #[.int .i64 ow, .slice na nn nc] 50))) (fun hHeld => ?_)
    exact node_e1n01 hK0 hr hw hl hE hQp _ b26 W.heap.size b9 hHeld (hX.alloc _) (heap_alloc_new W _) (bk_alloc hA) (hB9) (Nat.ne_of_lt (hX.lt.2))
  · go_simp
    refine hK.out _ _ (hK0.2 _ _ hHeld ((Below.refl _ W).alloc (hK0.1 _ hHeld) (.cells #[] 50))) (fun hHeld => ?_)
    exact node_e0e01 hK0 hr hw hl hE hQp _ b26 W.heap.size b9 hHeld (hX.alloc _) (rowC_new W B (hK0.1 _ hHeld0)) (bk_alloc hA) (hB9) (Nat.ne_of_lt (hX.lt.2))
  · go_simp
    refine hK.out _ _ (hK0.2 _ _ hHeld ((Below.refl _ W).alloc (hK0.1 _ hHeld) (.cells #[.int .i64 ow, .slice na nn nc] 50))) (fun hHeld => ?_)
    exact node_e0n11 hK0 hr hw hl hE hQp _ b26 W.heap.size b9 hHeld (hX.alloc _) (heap_alloc_new W _) (bk_alloc hA) (hB9) (Nat.ne_of_lt (hX.lt.2))
set_option maxRecDepth 100000 in
set_option maxHeartbeats 2000000 in
theorem node_e0n00 (hK0 : Keeps B S) (hr : ∀ W, S W → SrcAt W vr nr csR) (hw : ∀ W, S W → SrcAt W vw nw csW) (hl : nr ≤ 4 ∧ nw ≤ 4) (hE : MoreEnd s0 s1 s2 s3 s4 s5 s6 s7 s8 s12 s13 s14 s15 s16 s17 s18 s19 s20 s21 s27 s34 vr vw Q S B nr nw csR csW ow na nn nc) (hQp : ∀ c a a' w, Q (.panic c) a w → Q (.panic c) a' w) (W : World) (b26 : Nat) (hHeld : S W) (hX : RowC W B b26 0 0 []) :
    wpAnyH Try.prog Region.Mode.any moreOps Q S 10 #[true, true, true, false, true, false, false, false, true, true, false, true, false, false, false, false, false] (moreFrame s0 s1 s2 s3 s4 s5 s6 s7 s8 s12 s13 s14 s15 s16 s17 s18 s19 s20 s21 s27 vr (.agg #[.int .i64 ow, .slice na nn nc]) s34 vw (.agg #[.int .i64 ow, .slice na nn nc]) (.slice (some ⟨b26, 0, none⟩) 0 0) undef undef undef undef undef undef undef undef undef) W := by
  have hHeld0 := hHeld
  unfold moreFrame moreOps
  refine wpAnyH_ready (rs := [3, 5, 7, 12, 15]) (by kernel_rfl) (by simp) ?_
  refine AllReadyH.cons rfl (fun K hK => ?_) (AllReadyH.cons rfl (fun K hK => ?_) (AllReadyH.cons rfl (fun K hK => ?_) (AllReadyH.cons rfl (fun K hK => ?_) (AllReadyH.cons rfl (fun K hK => ?_) AllReadyH.nil))))
  · refine step_appC rfl _ _ rfl B b26 0 0 nr vr [] csR rfl rfl hX (hr W hHeld) (by omega) (hK0.1 _ hHeld) ?_
    intro g' c' W' hrow hg hob
    rw [Nat.zero_add, List.nil_append] at hrow
    refine hK.out _ _ (hK0.2 _ _ hHeld (below_grownC hg hX.lt.1 (hK0.1 _ hHeld))) (fun hHeld => ?_)
    rw [Nat.zero_add]
    try simp only [List.getElem_toArray, List.getElem_cons_succ, List.getElem_cons_zero, Act.put, List.setIfInBounds_toArray, List.set_cons_zero, List.set_cons_succ]
    exact node_c0n00 hK0 hr hw hl hE hQp W' b26 g' c' hHeld (hrow)
  · go_simp
    refine hK.out _ _ (hK0.2 _ _ hHeld ((Below.refl _ W).alloc (hK0.1 _ hHeld) (.cells #[.int .i64 ow, .slice na nn nc] 50))) (fun hHeld => ?_)
    exact node_e1n00 hK0 hr hw hl hE hQp _ b26 W.heap.size hHeld (hX.alloc _) (heap_alloc_new W _) (Nat.ne_of_lt (hX.lt.2))
  · go_simp
    refine hK.out _ _ (hK0.2 _ _ hHeld ((Below.refl _ W).alloc (hK0.1 _ hHeld) (.cells #[] 50))) (fun hHeld => ?_)
    exact node_e0e00 hK0 hr hw hl hE hQp _ b26 W.heap.size hHeld (hX.alloc _) (rowC_new W B (hK0.1 _ hHeld0)) (Nat.ne_of_lt (hX.lt.2))
  · go_simp
    refine hK.out _ _ (hK0.2 _ _ hHeld ((Below.refl _ W).alloc (hK0.1 _ hHeld) (.cells #[.int .i64 ow, .slice na nn nc] 50))) (fun hHeld => ?_)
    exact node_e0n10 hK0 hr hw hl hE hQp _ b26 W.heap.size hHeld (hX.alloc _) (heap_alloc_new W _) (Nat.ne_of_lt (hX.lt.2))
  · go_simp
    refine hK.out _ _ (hK0.2 _ _ hHeld ((Below.refl _ W).alloc (hK0.1 _ hHeld) (.cells #[.slice none 0 0, .slice none 0 0] 27))) (fun hHeld => ?_)
    exact node_e0n01 hK0 hr hw hl hE hQp _ b26 W.heap.size hHeld (hX.alloc _) (heap_alloc_new W _) (hK0.1 _ hHeld0)
set_option maxRecDepth 100000 in
set_option maxHeartbeats 2000000 in
theorem node_n1e11 (hK0 : Keeps B S) (hr : ∀ W, S W → SrcAt W vr nr csR) (hw : ∀ W, S W → SrcAt W vw nw csW) (hl : nr ≤ 4 ∧ nw ≤ 4) (hE : MoreEnd s0 s1 s2 s3 s4 s5 s6 s7 s8 s12 s13 s14 s15 s16 s17 s18 s19 s20 s21 s27 s34 vr vw Q S B nr nw csR csW ow na nn nc) (hQp : ∀ c a a' w, Q (.panic c) a w → Q (.panic c) a' w) (W : World) (b31 b33 b38 b9 : Nat) (hHeld : S W) (hP : W.heap[b31]? = some (.cells #[.int .i64 ow, .slice na nn nc] 50 (0, 0))) (hY : RowC W B b33 0 0 []) (hR : W.heap[b38]? = some (.cells #[.int .i64 ow, .slice na nn nc] 50 (0, 0))) (hA : W.heap[b9]? = some (.cells #[.slice none 0 0, .slice none 0 0] 27 (0, 0))) (hB9 : B ≤ b9) (nPY : b31 ≠ b33) (nPR : b31 ≠ b38) (nYR : b33 ≠ b38) :
    wpAnyH Try.prog Region.Mode.any moreOps Q S 7 #[false, true, true, false, true, true, false, true, true, true, false, true, true, false, false, true, false] (moreFrame s0 s1 s2 s3 s4 s5 s6 s7 s8 s12 s13 s14 s15 s16 s17 s18 s19 s20 s21 s27 vr (.agg #[.int .i64 ow, .slice na nn nc]) s34 vw (.agg #[.int .i64 ow, .slice na nn nc]) undef undef (.slice (some ⟨b31, 0, none⟩) 1 1) undef (.slice (some ⟨b33, 0, none⟩) 0 0) undef (.slice (some ⟨b38, 0, none⟩) 1 1) undef undef (.pointer (some ⟨b9, 0, none⟩))) W := by
  have hHeld0 := hHeld
  unfold moreFrame moreOps
  refine wpAnyH_ready (rs := [0]) (by kernel_rfl) (by simp) ?_
  refine AllReadyH.cons rfl (fun K hK => ?_) AllReadyH.nil
  · go_simp
    refine hK.out _ _ (hK0.2 _ _ hHeld ((Below.refl _ W).alloc (hK0.1 _ hHeld) (.cells #[] 50))) (fun hHeld => ?_)
    exact node_e1e11 hK0 hr hw hl hE hQp _ W.heap.size b31 b33 b38 b9 hHeld (rowC_new W B (hK0.1 _ hHeld0)) (bk_alloc hP) (hY.alloc _) (bk_alloc hR) (bk_alloc hA) (hB9) (Nat.ne_of_gt (bk_lt hP)) (Nat.ne_of_gt (hY.lt.2)) (Nat.ne_of_gt (bk_lt hR)) (nPY) (nPR) (nYR)
set_option maxRecDepth 100000 in
set_option maxHeartbeats 2000000 in
theorem node_n1e10 (hK0 : Keeps B S) (hr : ∀ W, S W → SrcAt W vr nr csR) (hw : ∀ W, S W → SrcAt W vw nw csW) (hl : nr ≤ 4 ∧ nw ≤ 4) (hE : MoreEnd s0 s1 s2 s3 s4 s5 s6 s7 s8 s12 s13 s14 s15 s16 s17 s18 s19 s20 s21 s27 s34 vr vw Q S B nr nw csR csW ow na nn nc) (hQp : ∀ c a a' w, Q (.panic c) a w → Q (.panic c) a' w) (W : World) (b31 b33 b38 : Nat) (hHeld : S W) (hP : W.heap[b31]? = some (.cells #[.int .i64 ow, .slice na nn nc] 50 (0, 0))) (hY : RowC W B b33 0 0 []) (hR : W.heap[b38]? = some (.cells #[.int .i64 ow, .slice na nn nc] 50 (0, 0))) (nPY : b31 ≠ b33) (nPR : b31 ≠ b38) (nYR : b33 ≠ b38) :
    wpAnyH Try.prog Region.Mode.any moreOps Q S 8 #[false, true, true, false, true, true, false, true, true, true, false, true, true, false, false, false, false] (moreFrame s0 s1 s2 s3 s4 s5 s6 s7 s8 s12 s13 s14 s15 s16 s17 s18 s19 s20 s21 s27 vr (.agg #[.int .i64 ow, .slice na nn nc]) s34 vw (.agg #[.int .i64 ow, .slice na nn nc]) undef undef (.slice (some ⟨b31, 0, none⟩) 1 1) undef (.slice (some ⟨b33, 0, none⟩) 0 0) undef (.slice (some ⟨b38, 0, none⟩) 1 1) undef undef undef) W := by
  have hHeld0 := hHeld
  unfold moreFrame moreOps
  refine wpAnyH_ready (rs := [0, 15]) (by kernel_rfl) (by simp) ?_
  refine AllReadyH.cons rfl (fun K hK => ?_) (AllReadyH.cons rfl (fun K hK => ?_) AllReadyH.nil)
  · go_simp
    refine hK.out _ _ (hK0.2 _ _ hHeld ((Below.refl _ W).alloc (hK0.1 _ hHeld) (.cells #[] 50))) (fun hHeld => ?_)
    exact node_e1e10 hK0 hr hw hl hE hQp _ W.heap.size b31 b33 b38 hHeld (rowC_new W B (hK0.1 _ hHeld0)) (bk_alloc hP) (hY.alloc _) (bk_alloc hR) (Nat.ne_of_gt (bk_lt hP)) (Nat.ne_of_gt (hY.lt.2)) (Nat.ne_of_gt (bk_lt hR)) (nPY) (nPR) (nYR)
  · go_simp
    refine hK.out _ _ (hK0.2 _ _ hHeld ((Below.refl _ W).alloc (hK0.1 _ hHeld) (.cells #[.slice none 0 0, .slice none 0 0] 27))) (fun hHeld => ?_)
    exact node_n1e11 hK0 hr hw hl hE hQp _ b31 b33 b38 W.heap.size hHeld (bk_alloc hP) (hY.alloc _) (bk_alloc hR) (heap_alloc_new W _) (hK0.1 _ hHeld0) (nPY) (nPR) (nYR)
set_option maxRecDepth 100000 in
set_option maxHeartbeats 2000000 in
theorem node_n1e01 (hK0 : Keeps B S) (hr : ∀ W, S W → SrcAt W vr nr csR) (hw : ∀ W, S W → SrcAt W vw nw csW) (hl : nr ≤ 4 ∧ nw ≤ 4) (hE : MoreEnd s0 s1 s2 s3 s4 s5 s6 s7 s8 s12 s13 s14 s15 s16 s17 s18 s19 s20 s21 s27 s34 vr vw Q S B nr nw csR csW ow na nn nc) (hQp : ∀ c a a' w, Q (.panic c) a w → Q (.panic c) a' w) (W : World) (b31 b33 b9 : Nat) (hHeld : S W) (hP : W.heap[b31]? = some (.cells #[.int .i64 ow, .slice na nn nc] 50 (0, 0))) (hY : RowC W B b33 0 0 []) (hA : W.heap[b9]? = some (.cells #[.slice none 0 0, .slice none 0 0] 27 (0, 0))) (hB9 : B ≤ b9) (nPY : b31 ≠ b33) :
    wpAnyH Try.prog Region.Mode.any moreOps Q S 8 #[false, true, true, false, true, true, false, true, true, true, false, true, false, false, false, true, false] (moreFrame s0 s1 s2 s3 s4 s5 s6 s7 s8 s12 s13 s14 s15 s16 s17 s18 s19 s20 s21 s27 vr (.agg #[.int .i64 ow, .slice na nn nc]) s34 vw (.agg #[.int .i64 ow, .slice na nn nc]) undef undef (.slice (some ⟨b31, 0, none⟩) 1 1) undef (.slice (some ⟨b33, 0, none⟩) 0 0) undef undef undef undef (.pointer (some ⟨b9, 0, none⟩))) W := by
  have hHeld0 := hHeld
  unfold moreFrame moreOps
  refine wpAnyH_ready (rs := [0, 12]) (by kernel_rfl) (by simp) ?_
  refine AllReadyH.cons rfl (fun K hK => ?_) (AllReadyH.cons rfl (fun K hK => ?_) AllReadyH.nil)
  · go_simp
    refine hK.out _ _ (hK0.2 _ _ hHeld ((Below.refl _ W).alloc (hK0.1 _ hHeld) (.cells #[] 50))) (fun hHeld => ?_)
    exact node_e1e01 hK0 hr hw hl hE hQp _ W.heap.size b31 b33 b9 hHeld (rowC_new W B (hK0.1 _ hHeld0)) (bk_alloc hP) (hY.alloc _) (bk_alloc hA) (hB9) (Nat.ne_of_gt (bk_lt hP)) (Nat.ne_of_gt (hY.lt.2)) (nPY)
  · go_simp
    refine hK.out _ _ (hK0.2 _ _ hHeld ((Below.refl _ W).alloc (hK0.1 _ hHeld) (.cells #[.int .i64 ow, .slice na nn nc] 50))) (fun hHeld => ?_)
    exact node_n1e11 hK0 hr hw hl hE hQp _ b31 b33 W.heap.size b9 hHeld (bk_alloc hP) (hY.alloc _) (heap_alloc_new W _) (bk_alloc hA) (hB9) (nPY) (Nat.ne_of_lt (bk_lt hP)) (Nat.ne_of_lt (hY.lt.2))
set_option maxRecDepth 100000 in
set_option maxHeartbeats 2000000 in
theorem node_n1e00 (hK0 : Keeps B S) (hr : ∀ W, S W → SrcAt W vr nr csR) (hw : ∀ W, S W → SrcAt W vw nw csW) (hl : nr ≤ 4 ∧ nw ≤ 4) (hE : MoreEnd s0 s1 s2 s3 s4 s5 s6 s7 s8 s12 s13 s14 s15 s16 s17 s18 s19 s20 s21 s27 s34 vr vw Q S B nr nw csR csW ow na nn nc) (hQp : ∀ c a a' w, Q (.panic c) a w → Q (.panic c) a' w) (W : World) (b31 b33 : Nat) (hHeld : S W) (hP : W.heap[b31]? = some (.cells #[.int .i64 ow, .slice na nn nc] 50 (0, 0))) (hY : RowC W B b33 0 0 []) (nPY : b31 ≠ b33) :
    wpAnyH Try.prog Region.Mode.any moreOps Q S 9 #[false, true, true, false, true, true, false, true, true, true, false, true, false, false, false, false, false] (moreFrame s0 s1 s2 s3 s4 s5 s6 s7 s8 s12 s13 s14 s15 s16 s17 s18 s19 s20 s21 s27 vr (.agg #[.int .i64 ow, .slice na nn nc]) s34 vw (.agg #[.int .i64 ow, .slice na nn nc]) undef undef (.slice (some ⟨b31, 0, none⟩) 1 1) undef (.slice (some ⟨b33, 0, none⟩) 0 0) undef undef undef undef undef) W := by
  have hHeld0 := hHeld
  unfold moreFrame moreOps
  refine wpAnyH_ready (rs := [0, 12, 15]) (by kernel_rfl) (by simp) ?_
  refine AllReadyH.cons rfl (fun K hK => ?_) (AllReadyH.cons rfl (fun K hK => ?_) (AllReadyH.cons rfl (fun K hK => ?_) AllReadyH.nil))
  · go_simp
    refine hK.out _ _ (hK0.2 _ _ hHeld ((Below.refl _ W).alloc (hK0.1 _ hHeld) (.cells #[] 50))) (fun hHeld => ?_)
    exact node_e1e00 hK0 hr hw hl hE hQp _ W.heap.size b31 b33 hHeld (rowC_new W B (hK0.1 _ hHeld0)) (bk_alloc hP) (hY.alloc _) (Nat.ne_of_gt (bk_lt hP)) (Nat.ne_of_gt (hY.lt.2)) (nPY)
  · go_simp
    refine hK.out _ _ (hK0.2 _ _ hHeld ((Below.refl _ W).alloc (hK0.1 _ hHeld) (.cells #[.int .i64 ow, .slice na nn nc] 50))) (fun hHeld => ?_)
    exact node_n1e10 hK0 hr hw hl hE hQp _ b31 b33 W.heap.size hHeld (bk_alloc hP) (hY.alloc _) (heap_alloc_new W _) (nPY) (Nat.ne_of_lt (bk_lt hP)) (Nat.ne_of_lt (hY.lt.2))
  · go_simp
    refine hK.out _ _ (hK0.2 _ _ hHeld ((Below.refl _ W).alloc (hK0.1 _ hHeld) (.cells #[.slice none 0 0, .slice none 0 0] 27))) (fun hHeld => ?_)
    exact node_n1e01 hK0 hr hw hl hE hQp _ b31 b33 W.heap.size hHeld (bk_alloc hP) (hY.alloc _) (heap_alloc_new W _) (hK0.1 _ hHeld0) (nPY)
set_option maxRecDepth 100000 in
set_option maxHeartbeats 2000000 in
theorem node_n1n11 (hK0 : Keeps B S) (hr : ∀ W, S W → SrcAt W vr nr csR) (hw : ∀ W, S W → SrcAt W vw nw csW) (hl : nr ≤ 4 ∧ nw ≤ 4) (hE : MoreEnd s0 s1 s2 s3 s4 s5 s6 s7 s8 s12 s13 s14 s15 s16 s17 s18 s19 s20 s21 s27 s34 vr vw Q S B nr nw csR csW ow na nn nc) (hQp : ∀ c a a' w, Q (.panic c) a w → Q (.panic c) a' w) (W : World) (b31 b38 b9 : Nat) (hHeld : S W) (hP : W.heap[b31]? = some (.cells #[.int .i64 ow, .slice na nn nc] 50 (0, 0))) (hR : W.heap[b38]? = some (.cells #[.int .i64 ow, .slice na nn nc] 50 (0, 0))) (hA : W.heap[b9]? = some (.cells #[.slice none 0 0, .slice none 0 0] 27 (0, 0))) (hB9 : B ≤ b9) (nPR : b31 ≠ b38) :
    wpAnyH Try.prog Region.Mode.any moreOps Q S 8 #[false, true, true, false, true, true, false, false, true, true, false, true, true, false, false, true, false] (moreFrame s0 s1 s2 s3 s4 s5 s6 s7 s8 s12 s13 s14 s15 s16 s17 s18 s19 s20 s21 s27 vr (.agg #[.int .i64 ow, .slice na nn nc]) s34 vw (.agg #[.int .i64 ow, .slice na nn nc]) undef undef (.slice (some ⟨b31, 0, none⟩) 1 1) undef undef undef (.slice (some ⟨b38, 0, none⟩) 1 1) undef undef (.pointer (some ⟨b9, 0, none⟩))) W := by
  have hHeld0 := hHeld
  unfold moreFrame moreOps
  refine wpAnyH_ready (rs := [0, 7]) (by kernel_rfl) (by simp) ?_
  refine AllReadyH.cons rfl (fun K hK => ?_) (AllReadyH.cons rfl (fun K hK => ?_) AllReadyH.nil)
  · go_simp
    refine hK.out _ _ (hK0.2 _ _ hHeld ((Below.refl _ W).alloc (hK0.1 _ hHeld) (.cells #[] 50))) (fun hHeld => ?_)
    exact node_e1n11 hK0 hr hw hl hE hQp _ W.heap.size b31 b38 b9 hHeld (rowC_new W B (hK0.1 _ hHeld0)) (bk_alloc hP) (bk_alloc hR) (bk_alloc hA) (hB9) (Nat.ne_of_gt (bk_lt hP)) (Nat.ne_of_gt (bk_lt hR)) (nPR)
  · go_simp
    refine hK.out _ _ (hK0.2 _ _ hHeld ((Below.refl _ W).alloc (hK0.1 _ hHeld) (.cells #[] 50))) (fun hHeld => ?_)
    exact node_n1e11 hK0 hr hw hl hE hQp _ b31 W.heap.size b38 b9 hHeld (bk_alloc hP) (rowC_new W B (hK0.1 _ hHeld0)) (bk_alloc hR) (bk_alloc hA) (hB9) (Nat.ne_of_lt (bk_lt hP)) (nPR) (Nat.ne_of_gt (bk_lt hR))
set_option maxRecDepth 100000 in
set_option maxHeartbeats 2000000 in
theorem node_n1n10 (hK0 : Keeps B S) (hr : ∀ W, S W → SrcAt W vr nr csR) (hw : ∀ W, S W → SrcAt W vw nw csW) (hl : nr ≤ 4 ∧ nw ≤ 4) (hE : MoreEnd s0 s1 s2 s3 s4 s5 s6 s7 s8 s12 s13 s14 s15 s16 s17 s18 s19 s20 s21 s27 s34 vr vw Q S B nr nw csR csW ow na nn nc) (hQp : ∀ c a a' w, Q (.panic c) a w → Q (.panic c) a' w) (W : World) (b31 b38 : Nat) (hHeld : S W) (hP : W.heap[b31]? = some (.cells #[.int .i64 ow, .slice na nn nc] 50 (0, 0))) (hR : W.heap[b38]? = some (.cells #[.int .i64 ow, .slice na nn nc] 50 (0, 0))) (nPR : b31 ≠ b38) :
    wpAnyH Try.prog Region.Mode.any moreOps Q S 9 #[false, true, true, false, true, true, false, false, true, true, false, true, true, false, false, false, false] (moreFrame s0 s1 s2 s3 s4 s5 s6 s7 s8 s12 s13 s14 s15 s16 s17 s18 s19 s20 s21 s27 vr (.agg #[.int .i64 ow, .slice na nn nc]) s34 vw (.agg #[.int .i64 ow, .slice na nn nc]) undef undef (.slice (some ⟨b31, 0, none⟩) 1 1) undef undef undef (.slice (some ⟨b38, 0, none⟩) 1 1) undef undef undef) W := by
  have hHeld0 := hHeld
  unfold moreFrame moreOps
  refine wpAnyH_ready (rs := [0, 7, 15]) (by kernel_rfl) (by simp) ?_
  refine AllReadyH.cons rfl (fun K hK => ?_) (AllReadyH.cons rfl (fun K hK => ?_) (AllReadyH.cons rfl (fun K hK => ?_) AllReadyH.nil))
  · go_simp
    refine hK.out _ _ (hK0.2 _ _ hHeld ((Below.refl _ W).alloc (hK0.1 _ hHeld) (.cells #[] 50))) (fun hHeld => ?_)
    exact node_e1n10 hK0 hr hw hl hE hQp _ W.heap.size b31 b38 hHeld (rowC_new W B (hK0.1 _ hHeld0)) (bk_alloc hP) (bk_alloc hR) (Nat.ne_of_gt (bk_lt hP)) (Nat.ne_of_gt (bk_lt hR)) (nPR)
  · go_simp
    refine hK.out _ _ (hK0.2 _ _ hHeld ((Below.refl _ W).alloc (hK0.1 _ hHeld) (.cells #[] 50))) (fun hHeld => ?_)
    exact node_n1e10 hK0 hr hw hl hE hQp _ b31 W.heap.size b38 hHeld (bk_alloc hP) (rowC_new W B (hK0.1 _ hHeld0)) (bk_alloc hR) (Nat.ne_of_lt (bk_lt hP)) (nPR) (Nat.ne_of_gt (bk_lt hR))
  · go_simp
    refine hK.out _ _ (hK0.2 _ _ hHeld ((Below.refl _ W).alloc (hK0.1 _ hHeld) (.cells #[.slice none 0 0, .slice none 0 0] 27))) (fun hHeld => ?_)
    exact node_n1n11 hK0 hr hw hl hE hQp _ b31 b38 W.heap.size hHeld (bk_alloc hP) (bk_alloc hR) (heap_alloc_new W _) (hK0.1 _ hHeld0) (nPR)
set_option maxRecDepth 100000 in
set_option maxHeartbeats 2000000 in
theorem node_n1n01 (hK0 : Keeps B S) (hr : ∀ W, S W → SrcAt W vr nr csR) (hw : ∀ W, S W → SrcAt W vw nw csW) (hl : nr ≤ 4 ∧ nw ≤ 4) (hE : MoreEnd s0 s1 s2 s3 s4 s5 s6 s7 s8 s12 s13 s14 s15 s16 s17 s18 s19 s20 s21 s27 s34 vr vw Q S B nr nw csR csW ow na nn nc) (hQp : ∀ c a a' w, Q (.panic c) a w → Q (.panic c) a' w) (W : World) (b31 b9 : Nat) (hHeld : S W) (hP : W.heap[b31]? = some (.cells #[.int .i64 ow, .slice na nn nc] 50 (0, 0))) (hA : W.heap[b9]? = some (.cells #[.slice none 0 0, .slice none 0 0] 27 (0, 0))) (hB9 : B ≤ b9) :
    wpAnyH Try.prog Region.Mode.any moreOps Q S 9 #[false, true, true, false, true, true, false, false, true, true, false, true, false, false, false, true, false] (moreFrame s0 s1 s2 s3 s4 s5 s6 s7 s8 s12 s13 s14 s15 s16 s17 s18 s19 s20 s21 s27 vr (.agg #[.int .i64 ow, .slice na nn nc]) s34 vw (.agg #[.int .i64 ow, .slice na nn nc]) undef undef (.slice (some ⟨b31, 0, none⟩) 1 1) undef undef undef undef undef undef (.pointer (some ⟨b9, 0, none⟩))) W := by
  have hHeld0 := hHeld
  unfold moreFrame moreOps
  refine wpAnyH_ready (rs := [0, 7, 12]) (by kernel_rfl) (by simp) ?_
  refine AllReadyH.cons rfl (fun K hK => ?_) (AllReadyH.cons rfl (fun K hK => ?_) (AllReadyH.cons rfl (fun K hK => ?_) AllReadyH.nil))
  · go_simp
    refine hK.out _ _ (hK0.2 _ _ hHeld ((Below.refl _ W).alloc (hK0.1 _ hHeld) (.cells #[] 50))) (fun hHeld => ?_)
    exact node_e1n01 hK0 hr hw hl hE hQp _ W.heap.size b31 b9 hHeld (rowC_new W B (hK0.1 _ hHeld0)) (bk_alloc hP) (bk_alloc hA) (hB9) (Nat.ne_of_gt (bk_lt hP))
  · go_simp
    refine hK.out _ _ (hK0.2 _ _ hHeld ((Below.refl _ W).alloc (hK0.1 _ hHeld) (.cells #[] 50))) (fun hHeld => ?_)
    exact node_n1e01 hK0 hr hw hl hE hQp _ b31 W.heap.size b9 hHeld (bk_alloc hP) (rowC_new W B (hK0.1 _ hHeld0)) (bk_alloc hA) (hB9) (Nat.ne_of_lt (bk_lt hP))
  · go_simp
    refine hK.out _ _ (hK0.2 _ _ hHeld ((Below.refl _ W).alloc (hK0.1 _ hHeld) (.cells #[.int .i64 ow, .slice na nn nc] 50))) (fun hHeld => ?_)
    exact node_n1n11 hK0 hr hw hl hE hQp _ b31 W.heap.size b9 hHeld (bk_alloc hP) (heap_alloc_new W _) (bk_alloc hA) (hB9) (Nat.ne_of_lt (bk_lt hP))
set_option maxRecDepth 100000 in
set_option maxHeartbeats 2000000 in
theorem node_n1n00 (hK0 : Keeps B S) (hr : ∀ W, S W → SrcAt W vr nr csR) (hw : ∀ W, S W → SrcAt W vw nw csW) (hl : nr ≤ 4 ∧ nw ≤ 4) (hE : MoreEnd s0 s1 s2 s3 s4 s5 s6 s7 s8 s12 s13 s14 s15 s16 s17 s18 s19 s20 s21 s27 s34 vr vw Q S B nr nw csR csW ow na nn nc) (hQp : ∀ c a a' w, Q (.panic c) a w → Q (.panic c) a' w) (W : World) (b31 : Nat) (hHeld : S W) (hP : W.heap[b31]? = some (.cells #[.int .i64 ow, .slice na nn nc] 50 (0, 0))) :
    wpAnyH Try.prog Region.Mode.any moreOps Q S 10 #[false, true, true, false, true, true, false, false, true, true, false, true, false, false, false, false, false] (moreFrame s0 s1 s2 s3 s4 s5 s6 s7 s8 s12 s13 s14 s15 s16 s17 s18 s19 s20 s21 s27 vr (.agg #[.int .i64 ow, .slice na nn nc]) s34 vw (.agg #[.int .i64 ow, .slice na nn nc]) undef undef (.slice (some ⟨b31, 0, none⟩) 1 1) undef undef undef undef undef undef undef) W := by
  have hHeld0 := hHeld
  unfold moreFrame moreOps
  refine wpAnyH_ready (rs := [0, 7, 12, 15]) (by kernel_rfl) (by simp) ?_
  refine AllReadyH.cons rfl (fun K hK => ?_) (AllReadyH.cons rfl (fun K hK => ?_) (AllReadyH.cons rfl (fun K hK => ?_) (AllReadyH.cons rfl (fun K hK => ?_) AllReadyH.nil)))
  · go_simp
    refine hK.out _ _ (hK0.2 _ _ hHeld ((Below.refl _ W).alloc (hK0.1 _ hHeld) (.cells #[] 50))) (fun hHeld => ?_)
    exact node_e1n00 hK0 hr hw hl hE hQp _ W.heap.size b31 hHeld (rowC_new W B (hK0.1 _ hHeld0)) (bk_alloc hP) (Nat.ne_of_gt (bk_lt hP))
  · go_simp
    refine hK.out _ _ (hK0.2 _ _ hHeld ((Below.refl _ W).alloc (hK0.1 _ hHeld) (.cells #[] 50))) (fun hHeld => ?_)
    exact node_n1e00 hK0 hr hw hl hE hQp _ b31 W.heap.size hHeld (bk_alloc hP) (rowC_new W B (hK0.1 _ hHeld0)) (Nat.ne_of_lt (bk_lt hP))
  · go_simp
    refine hK.out _ _ (hK0.2 _ _ hHeld ((Below.refl _ W).alloc (hK0.1 _ hHeld) (.cells #[.int .i64 ow, .slice na nn nc] 50))) (fun hHeld => ?_)
    exact node_n1n10 hK0 hr hw hl hE hQp _ b31 W.heap.size hHeld (bk_alloc hP) (heap_alloc_new W _) (Nat.ne_of_lt (bk_lt hP))
  · go_simp
    refine hK.out _ _ (hK0.2 _ _ hHeld ((Below.refl _ W).alloc (hK0.1 _ hHeld) (.cells #[.slice none 0 0, .slice none 0 0] 27))) (fun hHeld => ?_)
    exact node_n1n01 hK0 hr hw hl hE hQp _ b31 W.heap.size hHeld (bk_alloc hP) (heap_alloc_new W _) (hK0.1 _ hHeld0)
set_option maxRecDepth 100000 in
set_option maxHeartbeats 2000000 in
theorem node_n0e11 (hK0 : Keeps B S) (hr : ∀ W, S W → SrcAt W vr nr csR) (hw : ∀ W, S W → SrcAt W vw nw csW) (hl : nr ≤ 4 ∧ nw ≤ 4) (hE : MoreEnd s0 s1 s2 s3 s4 s5 s6 s7 s8 s12 s13 s14 s15 s16 s17 s18 s19 s20 s21 s27 s34 vr vw Q S B nr nw csR csW ow na nn nc) (hQp : ∀ c a a' w, Q (.panic c) a w → Q (.panic c) a' w) (W : World) (b33 b38 b9 : Nat) (hHeld : S W) (hY : RowC W B b33 0 0 []) (hR : W.heap[b38]? = some (.cells #[.int .i64 ow, .slice na nn nc] 50 (0, 0))) (hA : W.heap[b9]? = some (.cells #[.slice none 0 0, .slice none 0 0] 27 (0, 0))) (hB9 : B ≤ b9) (nYR : b33 ≠ b38) :
    wpAnyH Try.prog Region.Mode.any moreOps Q S 8 #[false, true, true, false, true, false, false, true, true, true, false, true, true, false, false, true, false] (moreFrame s0 s1 s2 s3 s4 s5 s6 s7 s8 s12 s13 s14 s15 s16 s17 s18 s19 s20 s21 s27 vr (.agg #[.int .i64 ow, .slice na nn nc]) s34 vw (.agg #[.int .i64 ow, .slice na nn nc]) undef undef undef undef (.slice (some ⟨b33, 0, none⟩) 0 0) undef (.slice (some ⟨b38, 0, none⟩) 1 1) undef undef (.pointer (some ⟨b9, 0, none⟩))) W := by
  have hHeld0 := hHeld
  unfold moreFrame moreOps
  refine wpAnyH_ready (rs := [0, 5]) (by kernel_rfl) (by simp) ?_
  refine AllReadyH.cons rfl (fun K hK => ?_) (AllReadyH.cons rfl (fun K hK => ?_) AllReadyH.nil)
  · go_simp
    refine hK.out _ _ (hK0.2 _ _ hHeld ((Below.refl _ W).alloc (hK0.1 _ hHeld) (.cells #[] 50))) (fun hHeld => ?_)
    exact node_e0e11 hK0 hr hw hl hE hQp _ W.heap.size b33 b38 b9 hHeld (rowC_new W B (hK0.1 _ hHeld0)) (hY.alloc _) (bk_alloc hR) (bk_alloc hA) (hB9) (Nat.ne_of_gt (hY.lt.2)) (Nat.ne_of_gt (bk_lt hR)) (nYR)
  · go_simp
    refine hK.out _ _ (hK0.2 _ _ hHeld ((Below.refl _ W).alloc (hK0.1 _ hHeld) (.cells #[.int .i64 ow, .slice na nn nc] 50))) (fun hHeld => ?_)
    exact node_n1e11 hK0 hr hw hl hE hQp _ W.heap.size b33 b38 b9 hHeld (heap_alloc_new W _) (hY.alloc _) (bk_alloc hR) (bk_alloc hA) (hB9) (Nat.ne_of_gt (hY.lt.2)) (Nat.ne_of_gt (bk_lt hR)) (nYR)
set_option maxRecDepth 100000 in
set_option maxHeartbeats 2000000 in
theorem node_n0e10 (hK0 : Keeps B S) (hr : ∀ W, S W → SrcAt W vr nr csR) (hw : ∀ W, S W → SrcAt W vw nw csW) (hl : nr ≤ 4 ∧ nw ≤ 4) (hE : MoreEnd s0 s1 s2 s3 s4 s5 s6 s7 s8 s12 s13 s14 s15 s16 s17 s18 s19 s20 s21 s27 s34 vr vw Q S B nr nw csR csW ow na nn nc) (hQp : ∀ c a a' w, Q (.panic c) a w → Q (.panic c) a' w) (W : World) (b33 b38 : Nat) (hHeld : S W) (hY : RowC W B b33 0 0 []) (hR : W.heap[b38]? = some (.cells #[.int .i64 ow, .slice na nn nc] 50 (0, 0))) (nYR : b33 ≠ b38) :
    wpAnyH Try.prog Region.Mode.any moreOps Q S 9 #[false, true, true, false, true, false, false, true, true, true, false, true, true, false, false, false, false] (moreFrame s0 s1 s2 s3 s4 s5 s6 s7 s8 s12 s13 s14 s15 s16 s17 s18 s19 s20 s21 s27 vr (.agg #[.int .i64 ow, .slice na nn nc]) s34 vw (.agg #[.int .i64 ow, .slice na nn nc]) undef undef undef undef (.slice (some ⟨b33, 0, none⟩) 0 0) undef (.slice (some ⟨b38, 0, none⟩) 1 1) undef undef undef) W := by
  have hHeld0 := hHeld
  unfold moreFrame moreOps
  refine wpAnyH_ready (rs := [0, 5, 15]) (by kernel_rfl) (by simp) ?_
  refine AllReadyH.cons rfl (fun K hK => ?_) (AllReadyH.cons rfl (fun K hK => ?_) (AllReadyH.cons rfl (fun K hK => ?_) AllReadyH.nil))
  · go_simp
    refine hK.out _ _ (hK0.2 _ _ hHeld ((Below.refl _ W).alloc (hK0.1 _ hHeld) (.cells #[] 50))) (fun hHeld => ?_)
    exact node_e0e10 hK0 hr hw hl hE hQp _ W.heap.size b33 b38 hHeld (rowC_new W B (hK0.1 _ hHeld0)) (hY.alloc _) (bk_alloc hR) (Nat.ne_of_gt (hY.lt.2)) (Nat.ne_of_gt (bk_lt hR)) (nYR)
  · go_simp
    refine hK.out _ _ (hK0.2 _ _ hHeld ((Below.refl _ W).alloc (hK0.1 _ hHeld) (.cells #[.int .i64 ow, .slice na nn nc] 50))) (fun hHeld => ?_)
    exact node_n1e10 hK0 hr hw hl hE hQp _ W.heap.size b33 b38 hHeld (heap_alloc_new W _) (hY.alloc _) (bk_alloc hR) (Nat.ne_of_gt (hY.lt.2)) (Nat.ne_of_gt (bk_lt hR)) (nYR)
  · go_simp
    refine hK.out _ _ (hK0.2 _ _ hHeld ((Below.refl _ W).alloc (hK0.1 _ hHeld) (.cells #[.slice none 0 0, .slice none 0 0] 27))) (fun hHeld => ?_)
    exact node_n0e11 hK0 hr hw hl hE hQp _ b33 b38 W.heap.size hHeld (hY.alloc _) (bk_alloc hR) (heap_alloc_new W _) (hK0.1 _ hHeld0) (nYR)
set_option maxRecDepth 100000 in
set_option maxHeartbeats 2000000 in
theorem node_n0e01 (hK0 : Keeps B S) (hr : ∀ W, S W → SrcAt W vr nr csR) (hw : ∀ W, S W → SrcAt W vw nw csW) (hl : nr ≤ 4 ∧ nw ≤ 4) (hE : MoreEnd s0 s1 s2 s3 s4 s5 s6 s7 s8 s12 s13 s14 s15 s16 s17 s18 s19 s20 s21 s27 s34 vr vw Q S B nr nw csR csW ow na nn nc) (hQp : ∀ c a a' w, Q (.panic c) a w → Q (.panic c) a' w) (W : World) (b33 b9 : Nat) (hHeld : S W) (hY : RowC W B b33 0 0 []) (hA : W.heap[b9]? = some (.cells #[.slice none 0 0, .slice none 0 0] 27 (0, 0))) (hB9 : B ≤ b9) :
    wpAnyH Try.prog Region.Mode.any moreOps Q S 9 #[false, true, true, false, true, false, false, true, true, true, false, true, false, false, false, true, false] (moreFrame s0 s1 s2 s3 s4 s5 s6 s7 s8 s12 s13 s14 s15 s16 s17 s18 s19 s20 s21 s27 vr (.agg #[.int .i64 ow, .slice na nn nc]) s34 vw (.agg #[.int .i64 ow, .slice na nn nc]) undef undef undef undef (.slice (some ⟨b33, 0, none⟩) 0 0) undef undef undef undef (.pointer (some ⟨b9, 0, none⟩))) W := by
  have hHeld0 := hHeld
  unfold moreFrame moreOps
  refine wpAnyH_ready (rs := [0, 5, 12]) (by kernel_rfl) (by simp) ?_
  refine AllReadyH.cons rfl (fun K hK => ?_) (AllReadyH.cons rfl (fun K hK => ?_) (AllReadyH.cons rfl (fun K hK => ?_) AllReadyH.nil))
  · go_simp
    refine hK.out _ _ (hK0.2 _ _ hHeld ((Below.refl _ W).alloc (hK0.1 _ hHeld) (.cells #[] 50))) (fun hHeld => ?_)
    exact node_e0e01 hK0 hr hw hl hE hQp _ W.heap.size b33 b9 hHeld (rowC_new W B (hK0.1 _ hHeld0)) (hY.alloc _) (bk_alloc hA) (hB9) (Nat.ne_of_gt (hY.lt.2))
  · go_simp
    refine hK.out _ _ (hK0.2 _ _ hHeld ((Below.refl _ W).alloc (hK0.1 _ hHeld) (.cells #[.int .i64 ow, .slice na nn nc] 50))) (fun hHeld => ?_)
    exact node_n1e01 hK0 hr hw hl hE hQp _ W.heap.size b33 b9 hHeld (heap_alloc_new W _) (hY.alloc _) (bk_alloc hA) (hB9) (Nat.ne_of_gt (hY.lt.2))
  · go_simp
    refine hK.out _ _ (hK0.2 _ _ hHeld ((Below.refl _ W).alloc (hK0.1 _ hHeld) (.cells #[.int .i64 ow, .slice na nn nc] 50))) (fun hHeld => ?_)
    exact node_n0e11 hK0 hr hw hl hE hQp _ b33 W.heap.size b9 hHeld (hY.alloc _) (heap_alloc_new W _) (bk_alloc hA) (hB9) (Nat.ne_of_lt (hY.lt.2))
set_option maxRecDepth 100000 in
set_option maxHeartbeats 2000000 in
theorem node_n0e00 (hK0 : Keeps B S) (hr : ∀ W, S W → SrcAt W vr nr csR) (hw : ∀ W, S W → SrcAt W vw nw csW) (hl : nr ≤ 4 ∧ nw ≤ 4) (hE : MoreEnd s0 s1 s2 s3 s4 s5 s6 s7 s8 s12 s13 s14 s15 s16 s17 s18 s19 s20 s21 s27 s34 vr vw Q S B nr nw csR csW ow na nn nc) (hQp : ∀ c a a' w, Q (.panic c) a w → Q (.panic c) a' w) (W : World) (b33 : Nat) (hHeld : S W) (hY : RowC W B b33 0 0 []) :
    wpAnyH Try.prog Region.Mode.any moreOps Q S 10 #[false, true, true, false, true, false, false, true, true, true, false, true, false, false, false, false, false] (moreFrame s0 s1 s2 s3 s4 s5 s6 s7 s8 s12 s13 s14 s15 s16 s17 s18 s19 s20 s21 s27 vr (.agg #[.int .i64 ow, .slice na nn nc]) s34 vw (.agg #[.int .i64 ow, .slice na nn nc]) undef undef undef undef (.slice (some ⟨b33, 0, none⟩) 0 0) undef undef undef undef undef) W := by
  have hHeld0 := hHeld
  unfold moreFrame moreOps
  refine wpAnyH_ready (rs := [0, 5, 12, 15]) (by kernel_rfl) (by simp) ?_
  refine AllReadyH.cons rfl (fun K hK => ?_) (AllReadyH.cons rfl (fun K hK => ?_) (AllReadyH.cons rfl (fun K hK => ?_) (AllReadyH.cons rfl (fun K hK => ?_) AllReadyH.nil)))
  · go_simp
    refine hK.out _ _ (hK0.2 _ _ hHeld ((Below.refl _ W).alloc (hK0.1 _ hHeld) (.cells #[] 50))) (fun hHeld => ?_)
    exact node_e0e00 hK0 hr hw hl hE hQp _ W.heap.size b33 hHeld (rowC_new W B (hK0.1 _ hHeld0)) (hY.alloc _) (Nat.ne_of_gt (hY.lt.2))
  · go_simp
    refine hK.out _ _ (hK0.2 _ _ hHeld ((Below.refl _ W).alloc (hK0.1 _ hHeld) (.cells #[.int .i64 ow, .slice na nn nc] 50))) (fun hHeld => ?_)
    exact node_n1e00 hK0 hr hw hl hE hQp _ W.heap.size b33 hHeld (heap_alloc_new W _) (hY.alloc _) (Nat.ne_of_gt (hY.lt.2))
  · go_simp
    refine hK.out _ _ (hK0.2 _ _ hHeld ((Below.refl _ W).alloc (hK0.1 _ hHeld) (.cells #[.int .i64 ow, .slice na nn nc] 50))) (fun hHeld => ?_)
    exact node_n0e10 hK0 hr hw hl hE hQp _ b33 W.heap.size hHeld (hY.alloc _) (heap_alloc_new W _) (Nat.ne_of_lt (hY.lt.2))
  · go_simp
    refine hK.out _ _ (hK0.2 _ _ hHeld ((Below.refl _ W).alloc (hK0.1 _ hHeld) (.cells #[.slice none 0 0, .slice none 0 0] 27))) (fun hHeld => ?_)
    exact node_n0e01 hK0 hr hw hl hE hQp _ b33 W.heap.size hHeld (hY.alloc _) (heap_alloc_new W _) (hK0.1 _ hHeld0)
set_option maxRecDepth 100000 in
set_option maxHeartbeats 2000000 in
theorem node_n0n11 (hK0 : Keeps B S) (hr : ∀ W, S W → SrcAt W vr nr csR) (hw : ∀ W, S W → SrcAt W vw nw csW) (hl : nr ≤ 4 ∧ nw ≤ 4) (hE : MoreEnd s0 s1 s2 s3 s4 s5 s6 s7 s8 s12 s13 s14 s15 s16 s17 s18 s19 s20 s21 s27 s34 vr vw Q S B nr nw csR csW ow na nn nc) (hQp : ∀ c a a' w, Q (.panic c) a w → Q (.panic c) a' w) (W : World) (b38 b9 : Nat) (hHeld : S W) (hR : W.heap[b38]? = some (.cells #[.int .i64 ow, .slice na nn nc] 50 (0, 0))) (hA : W.heap[b9]? = some (.cells #[.slice none 0 0, .slice none 0 0] 27 (0, 0))) (hB9 : B ≤ b9) :
    wpAnyH Try.prog Region.Mode.any moreOps Q S 9 #[false, true, true, false, true, false, false, false, true, true, false, true, true, false, false, true, false] (moreFrame s0 s1 s2 s3 s4 s5 s6 s7 s8 s12 s13 s14 s15 s16 s17 s18 s19 s20 s21 s27 vr (.agg #[.int .i64 ow, .slice na nn nc]) s34 vw (.agg #[.int .i64 ow, .slice na nn nc]) undef undef undef undef undef undef (.slice (some ⟨b38, 0, none⟩) 1 1) undef undef (.pointer (some ⟨b9, 0, none⟩))) W := by
  have hHeld0 := hHeld
  unfold moreFrame moreOps
  refine wpAnyH_ready (rs := [0, 5, 7]) (by kernel_rfl) (by simp) ?_
  refine AllReadyH.cons rfl (fun K hK => ?_) (AllReadyH.cons rfl (fun K hK => ?_) (AllReadyH.cons rfl (fun K hK => ?_) AllReadyH.nil))
  · go_simp
    refine hK.out _ _ (hK0.2 _ _ hHeld ((Below.refl _ W).alloc (hK0.1 _ hHeld) (.cells #[] 50))) (fun hHeld => ?_)
    exact node_e0n11 hK0 hr hw hl hE hQp _ W.heap.size b38 b9 hHeld (rowC_new W B (hK0.1 _ hHeld0)) (bk_alloc hR) (bk_alloc hA) (hB9) (Nat.ne_of_gt (bk_lt hR))
  · go_simp
    refine hK.out _ _ (hK0.2 _ _ hHeld ((Below.refl _ W).alloc (hK0.1 _ hHeld) (.cells #[.int .i64 ow, .slice na nn nc] 50))) (fun hHeld => ?_)
    exact node_n1n11 hK0 hr hw hl hE hQp _ W.heap.size b38 b9 hHeld (heap_alloc_new W _) (bk_alloc hR) (bk_alloc hA) (hB9) (Nat.ne_of_gt (bk_lt hR))
  · go_simp
    refine hK.out _ _ (hK0.2 _ _ hHeld ((Below.refl _ W).alloc (hK0.1 _ hHeld) (.cells #[] 50))) (fun hHeld => ?_)
    exact node_n0e11 hK0 hr hw hl hE hQp _ W.heap.size b38 b9 hHeld (rowC_new W B (hK0.1 _ hHeld0)) (bk_alloc hR) (bk_alloc hA) (hB9) (Nat.ne_of_gt (bk_lt hR))
set_option maxRecDepth 100000 in
set_option maxHeartbeats 2000000 in
theorem node_n0n10 (hK0 : Keeps B S) (hr : ∀ W, S W → SrcAt W vr nr csR) (hw : ∀ W, S W → SrcAt W vw nw csW) (hl : nr ≤ 4 ∧ nw ≤ 4) (hE : MoreEnd s0 s1 s2 s3 s4 s5 s6 s7 s8 s12 s13 s14 s15 s16 s17 s18 s19 s20 s21 s27 s34 vr vw Q S B nr nw csR csW ow na nn nc) (hQp : ∀ c a a' w, Q (.panic c) a w → Q (.panic c) a' w) (W : World) (b38 : Nat) (hHeld : S W) (hR : W.heap[b38]? = some (.cells #[.int .i64 ow, .slice na nn nc] 50 (0, 0))) :
    wpAnyH Try.prog Region.Mode.any moreOps Q S 10 #[false, true, true, false, true, false, false, false, true, true, false, true, true, false, false, false, false] (moreFrame s0 s1 s2 s3 s4 s5 s6 s7 s8 s12 s13 s14 s15 s16 s17 s18 s19 s20 s21 s27 vr (.agg #[.int .i64 ow, .slice na nn nc]) s34 vw (.agg #[.int .i64 ow, .slice na nn nc]) undef undef undef undef undef undef (.slice (some ⟨b38, 0, none⟩) 1 1) undef undef undef) W := by
  have hHeld0 := hHeld
  unfold moreFrame moreOps
  refine wpAnyH_ready (rs := [0, 5, 7, 15]) (by kernel_rfl) (by simp) ?_
  refine AllReadyH.cons rfl (fun K hK => ?_) (AllReadyH.cons rfl (fun K hK => ?_) (AllReadyH.cons rfl (fun K hK => ?_) (AllReadyH.cons rfl (fun K hK => ?_) AllReadyH.nil)))
  · go_simp
    refine hK.out _ _ (hK0.2 _ _ hHeld ((Below.refl _ W).alloc (hK0.1 _ hHeld) (.cells #[] 50))) (fun hHeld => ?_)
    exact node_e0n10 hK0 hr hw hl hE hQp _ W.heap.size b38 hHeld (rowC_new W B (hK0.1 _ hHeld0)) (bk_alloc hR) (Nat.ne_of_gt (bk_lt hR))
  · go_simp
    refine hK.out _ _ (hK0.2 _ _ hHeld ((Below.refl _ W).alloc (hK0.1 _ hHeld) (.cells #[.int .i64 ow, .slice na nn nc] 50))) (fun hHeld => ?_)
    exact node_n1n10 hK0 hr hw hl hE hQp _ W.heap.size b38 hHeld (heap_alloc_new W _) (bk_alloc hR) (Nat.ne_of_gt (bk_lt hR))
  · go_simp
    refine hK.out _ _ (hK0.2 _ _ hHeld ((Below.refl _ W).alloc (hK0.1 _ hHeld) (.cells #[] 50))) (fun hHeld => ?_)
    exact node_n0e10 hK0 hr hw hl hE hQp _ W.heap.size b38 hHeld (rowC_new W B (hK0.1 _ hHeld0)) (bk_alloc hR) (Nat.ne_of_gt (bk_lt hR))
  · go_simp
    refine hK.out _ _ (hK0.2 _ _ hHeld ((Below.refl _ W).alloc (hK0.1 _ hHeld) (.cells #[.slice none 0 0, .slice none 0 0] 27))) (fun hHeld => ?_)
    exact node_n0n11 hK0 hr hw hl hE hQp _ b38 W.heap.size hHeld (bk_alloc hR) (heap_alloc_new W _) (hK0.1 _ hHeld0)
set_option maxRecDepth 100000 in
set_option maxHeartbeats 2000000 in
theorem node_n0n01 (hK0 : Keeps B S) (hr : ∀ W, S W → SrcAt W vr nr csR) (hw : ∀ W, S W → SrcAt W vw nw csW) (hl : nr ≤ 4 ∧ nw ≤ 4) (hE : MoreEnd s0 s1 s2 s3 s4 s5 s6 s7 s8 s12 s13 s14 s15 s16 s17 s18 s19 s20 s21 s27 s34 vr vw Q S B nr nw csR csW ow na nn nc) (hQp : ∀ c a a' w, Q (.panic c) a w → Q (.panic c) a' w) (W : World) (b9 : Nat) (hHeld : S W) (hA : W.heap[b9]? = some (.cells #[.slice none 0 0, .slice none 0 0] 27 (0, 0))) (hB9 : B ≤ b9) :
    wpAnyH Try.prog Region.Mode.any moreOps Q S 10 #[false, true, true, false, true, false, false, false, true, true, false, true, false, false, false, true, false] (moreFrame s0 s1 s2 s3 s4 s5 s6 s7 s8 s12 s13 s14 s15 s16 s17 s18 s19 s20 s21 s27 vr (.agg #[.int .i64 ow, .slice na nn nc]) s34 vw (.agg #[.int .i64 ow, .slice na nn nc]) undef undef undef undef undef undef undef undef undef (.pointer (some ⟨b9, 0, none⟩))) W := by
  have hHeld0 := hHeld
  unfold moreFrame moreOps
  refine wpAnyH_ready (rs := [0, 5, 7, 12]) (by kernel_rfl) (by simp) ?_
  refine AllReadyH.cons rfl (fun K hK => ?_) (AllReadyH.cons rfl (fun K hK => ?_) (AllReadyH.cons rfl (fun K hK => ?_) (AllReadyH.cons rfl (fun K hK => ?_) AllReadyH.nil)))
  · go_simp
    refine hK.out _ _ (hK0.2 _ _ hHeld ((Below.refl _ W).alloc (hK0.1 _ hHeld) (.cells #[] 50))) (fun hHeld => ?_)
    exact node_e0n01 hK0 hr hw hl hE hQp _ W.heap.size b9 hHeld (rowC_new W B (hK0.1 _ hHeld0)) (bk_alloc hA) (hB9)
  · go_simp
    refine hK.out _ _ (hK0.2 _ _ hHeld ((Below.refl _ W).alloc (hK0.1 _ hHeld) (.cells #[.int .i64 ow, .slice na nn nc] 50))) (fun hHeld => ?_)
    exact node_n1n01 hK0 hr hw hl hE hQp _ W.heap.size b9 hHeld (heap_alloc_new W _) (bk_alloc hA) (hB9)
  · go_simp
    refine hK.out _ _ (hK0.2 _ _ hHeld ((Below.refl _ W).alloc (hK0.1 _ hHeld) (.cells #[] 50))) (fun hHeld => ?_)
    exact node_n0e01 hK0 hr hw hl hE hQp _ W.heap.size b9 hHeld (rowC_new W B (hK0.1 _ hHeld0)) (bk_alloc hA) (hB9)
  · go_simp
    refine hK.out _ _ (hK0.2 _ _ hHeld ((Below.refl _ W).alloc (hK0.1 _ hHeld) (.cells #[.int .i64 ow, .slice na nn nc] 50))) (fun hHeld => ?_)
    exact node_n0n11 hK0 hr hw hl hE hQp _ W.heap.size b9 hHeld (heap_alloc_new W _) (bk_alloc hA) (hB9)
set_option maxRecDepth 100000 in
set_option maxHeartbeats 2000000 in
theorem node_n0n00 (hK0 : Keeps B S) (hr : ∀ W, S W → SrcAt W vr nr csR) (hw : ∀ W, S W → SrcAt W vw nw csW) (hl : nr ≤ 4 ∧ nw ≤ 4) (hE : MoreEnd s0 s1 s2 s3 s4 s5 s6 s7 s8 s12 s13 s14 s15 s16 s17 s18 s19 s20 s21 s27 s34 vr vw Q S B nr nw csR csW ow na nn nc) (hQp : ∀ c a a' w, Q (.panic c) a w → Q (.panic c) a' w) (W : World) (hHeld : S W) :
    wpAnyH Try.prog Region.Mode.any moreOps Q S 11 #[false, true, true, false, true, false, false, false, true, true, false, true, false, false, false, false, false] (moreFrame s0 s1 s2 s3 s4 s5 s6 s7 s8 s12 s13 s14 s15 s16 s17 s18 s19 s20 s21 s27 vr (.agg #[.int .i64 ow, .slice na nn nc]) s34 vw (.agg #[.int .i64 ow, .slice na nn nc]) undef undef undef undef undef undef undef undef undef undef) W := by
  have hHeld0 := hHeld
  unfold moreFrame moreOps
  refine wpAnyH_ready (rs := [0, 5, 7, 12, 15]) (by kernel_rfl) (by simp) ?_
  refine AllReadyH.cons rfl (fun K hK => ?_) (AllReadyH.cons rfl (fun K hK => ?_) (AllReadyH.cons rfl (fun K hK => ?_) (AllReadyH.cons rfl (fun K hK => ?_) (AllReadyH.cons rfl (fun K hK => ?_) AllReadyH.nil))))
  · go_simp
    refine hK.out _ _ (hK0.2 _ _ hHeld ((Below.refl _ W).alloc (hK0.1 _ hHeld) (.cells #[] 50))) (fun hHeld => ?_)
    exact node_e0n00 hK0 hr hw hl hE hQp _ W.heap.size hHeld (rowC_new W B (hK0.1 _ hHeld0))
  · go_simp
    refine hK.out _ _ (hK0.2 _ _ hHeld ((Below.refl _ W).alloc (hK0.1 _ hHeld) (.cells #[.int .i64 ow, .slice na nn nc] 50))) (fun hHeld => ?_)
    exact node_n1n00 hK0 hr hw hl hE hQp _ W.heap.size hHeld (heap_alloc_new W _)
  · go_simp
    refine hK.out _ _ (hK0.2 _ _ hHeld ((Below.refl _ W).alloc (hK0.1 _ hHeld) (.cells #[] 50))) (fun hHeld => ?_)
    exact node_n0e00 hK0 hr hw hl hE hQp _ W.heap.size hHeld (rowC_new W B (hK0.1 _ hHeld0))
  · go_simp
    refine hK.out _ _ (hK0.2 _ _ hHeld ((Below.refl _ W).alloc (hK0.1 _ hHeld) (.cells #[.int .i64 ow, .slice na nn nc] 50))) (fun hHeld => ?_)
    exact node_n0n10 hK0 hr hw hl hE hQp _ W.heap.size hHeld (heap_alloc_new W _)
  · go_simp
    refine hK.out _ _ (hK0.2 _ _ hHeld ((Below.refl _ W).alloc (hK0.1 _ hHeld) (.cells #[.slice none 0 0, .slice none 0 0] 27))) (fun hHeld => ?_)
    exact node_n0n01 hK0 hr hw hl hE hQp _ W.heap.size hHeld (heap_alloc_new W _) (hK0.1 _ hHeld0)
end
end Go.Proofs.Ytekgnjifopgboaa
