/- The document's own least level above two, and greatest below: JoinLevels and MeetLevels. -/
import Derived.Test.YtekgnjifopgboaaRefL
import Derived.Maps.AppendAt
namespace Go.Proofs.Ytekgnjifopgboaa
open Go.RowKit
set_option linter.unusedVariables false

def boolCells (l : List Bool) : List Value := l.map Value.bool

theorem heap_of_alloc (W : World) (o : Obj) : (W.alloc o).heap[W.heap.size]? = some o := heap_alloc_new W o

theorem ownB_over {W W' : World} {B : Nat} {v : Value} {k : Nat} {xs : List Value} (h : W.ownsRow B 4 1 v k xs) (hb : Below W.heap.size W W') : W'.ownsRow B 4 1 v k xs := by
  obtain ⟨h1, h2⟩ := h
  refine ⟨h1, ?_⟩
  rcases h2 with h2 | ⟨g, cap, cur, hv, hg, hh, r⟩
  · exact Or.inl h2
  · refine Or.inr ⟨g, cap, cur, hv, hg, ?_, r⟩
    rw [hb.block g (Array.getElem?_eq_some_iff.1 hh).1]
    exact hh

theorem ownB_alloc {W : World} {B : Nat} {v : Value} {k : Nat} {xs : List Value} (h : W.ownsRow B 4 1 v k xs) (o : Obj) : (W.alloc o).ownsRow B 4 1 v k xs :=
  ownB_over h ((Below.refl _ W).alloc (Nat.le_refl _) o)

theorem ownB_set {W : World} {B : Nat} {v : Value} {k : Nat} {xs : List Value} (h : W.ownsRow B 4 1 v k xs) {p : Addr} (hp : p.block < B) (u : Value) : (W.setCell p u).ownsRow B 4 1 v k xs :=
  ownsRow_setCell_below h hp u

theorem ownB_lt {W : World} {B : Nat} {v : Value} {k : Nat} {xs : List Value} (h : W.ownsRow B 4 1 v k xs) {g : Nat} (hg : v.ownBlock = some g) : B ≤ g ∧ g < W.heap.size := by
  rcases h.2 with ⟨rfl, _⟩ | ⟨g', cap, cur, rfl, hg', hh, _⟩
  · cases hg
  · simp [Value.ownBlock] at hg
    subst hg
    exact ⟨hg', (Array.getElem?_eq_some_iff.1 hh).1⟩

theorem below_grownB {B : Nat} {W W' : World} {v : Value} {k : Nat} {xs : List Value} (h : W.ownsRow B 4 1 v k xs) (hg : W.grownBy W' v.ownBlock) (hB : B ≤ W.heap.size) : Below B W W' :=
  ⟨hg.os, hg.tape, hg.output, hg.size, fun j hj => hg.block j (Nat.lt_of_lt_of_le hj hB) (fun e => by have := (ownB_lt h e.symm).1; omega)⟩

/-- two rows of one's own that lie apart. -/
def Apart (u v : Value) : Prop := u.ownBlock = none ∨ u.ownBlock ≠ v.ownBlock

theorem ownB_kept {W W' : World} {B : Nat} {u v : Value} {k : Nat} {xs : List Value} (h : W.ownsRow B 4 1 u k xs) (hg : W.grownBy W' v.ownBlock) (ha : Apart u v) : W'.ownsRow B 4 1 u k xs := h.kept hg ha

theorem apart_new {W : World} {B : Nat} {u v v' : Value} {k : Nat} {xs : List Value} (h : W.ownsRow B 4 1 u k xs) (ha : Apart u v) (hv : v'.ownBlock = v.ownBlock ∨ v'.ownBlock = some W.heap.size) : Apart u v' := by
  rcases ha with ha | ha
  · exact Or.inl ha
  · rcases hv with hv | hv
    · exact Or.inr (by rw [hv]; exact ha)
    · cases hu : u.ownBlock with
      | none => exact Or.inl hu
      | some g =>
        right
        rw [hv, hu]
        intro e
        injection e with e
        have := (ownB_lt h hu).2
        omega

theorem apart_symm {u v : Value} (h : Apart u v) : Apart v u := by
  rcases h with h | h
  · cases hv : v.ownBlock with
    | none => exact Or.inl hv
    | some g => exact Or.inr (by rw [h, hv]; simp)
  · exact Or.inr (fun e => h e.symm)

theorem info4 : ∃ i, Try.prog.info? 4 = some i ∧ i.zero = some (.bool false) ∧ i.size = 1 ∧ i.bytes = 1 := by
  cases hi : Try.prog.info? 4 with
  | none => have := Try.info4; rw [hi] at this; cases this
  | some i =>
    have h4 := Try.info4
    rw [hi] at h4
    simp only [Option.map_some, Option.some.injEq, Prod.mk.injEq] at h4
    exact ⟨i, rfl, h4.1, h4.2.1, h4.2.2⟩

section
variable {ops : Array Oper} {o : Oper} {a : Act} {W : World} {K : Act → World → Prop} {Q : Exit → Act → World → Prop} {E : Prop}

theorem step_appB (hg : o.guard = none) (s x : Operand) (hop : o.op = Op.call { callee := Callee.builtin Builtin.append, args := #[s, x], argTypes := #[28, 28] })
    (B b : Nat) (v : Value) (k : Nat) (xs : List Bool) (z : Bool) (hs : a.eval s = v) (hx : a.eval x = .slice (some ⟨b, 0, none⟩) 1 1)
    (hown : W.ownsRow B 4 1 v k (boolCells xs)) (hb : W.heap[b]? = some (.cells #[.bool z] 4 (0, 0))) (hk : k ≤ 100) (hB : B ≤ W.heap.size)
    (h : ∀ v' W', W'.ownsRow B 4 1 v' (k + 1) (boolCells (xs ++ [z])) → W.grownBy W' v.ownBlock → (v'.ownBlock = v.ownBlock ∨ v'.ownBlock = some W.heap.size) → (∃ g cap, v' = .slice (some ⟨g, 0, none⟩) (k + 1) cap) → K (a.put o.dst v') W') :
    if Region.wanted o (yielded ops a.tmps) = true then Oper.wp Try.prog o a W K Q else E := by
  have hw : Region.wanted o (yielded ops a.tmps) = true := by simp [Region.wanted, hg]
  rw [if_pos hw]
  obtain ⟨i, hi, hz, h2, h16⟩ := info4
  obtain ⟨v', w', hr, h3, h4, h5, h6⟩ := run_append_own_at (P := Try.prog) W B 28 o.type 4 i _ 1 1 Try.underlying28 hi hz h2 h16 (by rfl) (by decide) v k (boolCells xs) hown ⟨b, 0, none⟩ 1 1 [.bool z] rfl (by
    intro j u hu
    rw [Addr.add_lit]
    match j, hu with
    | 0, hu => simp at hu; subst hu; simp [World.cell?, hb]
    | j + 1, hu => simp at hu) (by intro u hu; simp at hu; subst hu; rfl) (by simp only [maxLen]; omega) (by omega) hB
  have hsh : ∃ g cap, v' = .slice (some ⟨g, 0, none⟩) (k + 1) cap := by
    rcases h3.2 with ⟨_, h⟩ | ⟨g, cap, cur, hv, _⟩
    · omega
    · exact ⟨g, cap, hv⟩
  have e : boolCells (xs ++ [z]) = boolCells xs ++ [.bool z] := by simp [boolCells]
  have hK := h v' w' (by rw [e]; exact h3) h4 h6 hsh
  unfold Oper.wp execOp
  simp only [hop, resolve, invoke, builtin, Sem.run_bind, Sem.run_pure, Result.andThen_ok, List.map_toArray, List.map_cons, List.map_nil, hs, hx, hr]
  exact hK
end

theorem isBools_own {W : World} {B : Nat} {v : Value} {l : List Bool} (h : W.ownsRow B 4 1 v l.length (boolCells l)) : IsBools W v l := by
  have hc := fun g => h.cells (g := g)
  rcases h.2 with ⟨rfl, h0⟩ | ⟨g, cap, cur, rfl, _⟩
  · exact ⟨none, 0, by rw [h0], fun hne => absurd (List.eq_nil_of_length_eq_zero h0) hne⟩
  · refine ⟨_, cap, rfl, fun _ => ⟨g, 0, rfl, fun i hi => ?_⟩⟩
    have k0 : (boolCells l)[i]? = some (.bool l[i]) := by simp [boolCells, hi]
    have h1 := hc g rfl _ _ k0
    have hadd : (⟨g, 0, none⟩ : Addr).add i = ⟨g, i, none⟩ := by unfold Addr.add; split <;> simp_all
    rw [hadd] at h1
    simpa using h1

/-- where it stands: what was handed in, what comes out. -/
def JSt (w : World) (lr lw mr mw : Value) (R Wr : List Bool) (ur uw : Value) (W : World) : Prop :=
  (W.cell? ⟨w.heap.size, 0, none⟩ = some lr ∧ W.cell? ⟨w.heap.size, 1, none⟩ = some lw ∧ W.cell? ⟨w.heap.size + 1, 0, none⟩ = some mr ∧ W.cell? ⟨w.heap.size + 1, 1, none⟩ = some mw) ∧
  W.heap[w.heap.size + 2]? = some (.cells #[.slice none 0 0, .slice none 0 0] 30 (0, 0)) ∧ W.heap[w.heap.size + 3]? = some (.cells #[ur, uw] 30 (0, 0)) ∧
  W.ownsRow (w.heap.size + 4) 4 1 ur R.length (boolCells R) ∧ W.ownsRow (w.heap.size + 4) 4 1 uw Wr.length (boolCells Wr) ∧ Apart ur uw ∧ Below w.heap.size w W ∧ w.heap.size + 4 ≤ W.heap.size

theorem cells_of_pair {W : World} {b T : Nat} {x y : Value} (h : W.heap[b]? = some (.cells #[x, y] T (0, 0))) : W.cell? ⟨b, 0, none⟩ = some x ∧ W.cell? ⟨b, 1, none⟩ = some y ∧ W.frozen? ⟨b, 0, none⟩ = false ∧ W.frozen? ⟨b, 1, none⟩ = false := by
  refine ⟨?_, ?_, ?_, ?_⟩ <;> simp [World.cell?, World.frozen?, h]

theorem jst_keep {w W1 W2 : World} {lr lw mr mw : Value} (h : W1.cell? ⟨w.heap.size, 0, none⟩ = some lr ∧ W1.cell? ⟨w.heap.size, 1, none⟩ = some lw ∧ W1.cell? ⟨w.heap.size + 1, 0, none⟩ = some mr ∧ W1.cell? ⟨w.heap.size + 1, 1, none⟩ = some mw)
    (hb : Below (w.heap.size + 3) W1 W2) : W2.cell? ⟨w.heap.size, 0, none⟩ = some lr ∧ W2.cell? ⟨w.heap.size, 1, none⟩ = some lw ∧ W2.cell? ⟨w.heap.size + 1, 0, none⟩ = some mr ∧ W2.cell? ⟨w.heap.size + 1, 1, none⟩ = some mw := by
  have hc : ∀ b o, b < w.heap.size + 3 → W2.cell? ⟨b, o, none⟩ = W1.cell? ⟨b, o, none⟩ := fun b o h => hb.cell (p := ⟨b, o, none⟩) h
  exact ⟨by rw [hc _ _ (by omega)]; exact h.1, by rw [hc _ _ (by omega)]; exact h.2.1, by rw [hc _ _ (by omega)]; exact h.2.2.1, by rw [hc _ _ (by omega)]; exact h.2.2.2⟩

theorem jst_step0 {w wr W1 W2 : World} {lr lw mr mw ur uw v' : Value} {R Wr : List Bool} {z : Bool} (h : JSt w lr lw mr mw R Wr ur uw wr) (hB : Below wr.heap.size wr W1)
    (h1 : W2.ownsRow (w.heap.size + 4) 4 1 v' (R.length + 1) (boolCells (R ++ [z]))) (hg : W1.grownBy W2 ur.ownBlock) (hv : v'.ownBlock = ur.ownBlock ∨ v'.ownBlock = some W1.heap.size) :
    JSt w lr lw mr mw (R ++ [z]) Wr v' uw (W2.setCell ⟨w.heap.size + 3, 0, none⟩ v') := by
  obtain ⟨hc, h2, h3, h4, h5, h6, h7, h8⟩ := h
  have u4 := ownB_over h4 hB
  have u5 := ownB_over h5 hB
  have hs1 : w.heap.size + 4 ≤ W1.heap.size := Nat.le_trans h8 hB.size
  have hb2 : Below (w.heap.size + 4) W1 W2 := below_grownB u4 hg hs1
  have hb : Below (w.heap.size + 4) wr W2 := (hB.mono h8).trans hb2
  have hb3 : Below (w.heap.size + 3) wr (W2.setCell ⟨w.heap.size + 3, 0, none⟩ v') := (hb.mono (by omega)).setCell (by simp) _
  have u5' : W2.ownsRow (w.heap.size + 4) 4 1 uw Wr.length (boolCells Wr) := ownB_kept u5 hg (apart_symm h6)
  refine ⟨jst_keep hc hb3, ?_, ?_, ?_, ?_, ?_, ?_, ?_⟩
  · rw [hb3.block _ (by omega)]; exact h2
  · have e : W2.heap[w.heap.size + 3]? = some (.cells #[ur, uw] 30 (0, 0)) := by rw [hb.block _ (by omega)]; exact h3
    have := heap_setCell_same W2 _ 0 _ _ v' e
    simpa using this
  · rw [List.length_append]
    exact ownB_set h1 (by simp) _
  · exact ownB_set u5' (by simp) _
  · exact apart_symm (apart_new u5 (apart_symm h6) hv)
  · exact h7.trans ((hb3.mono (by omega)))
  · have := hb.size
    simp
    omega

theorem jst_step1 {w wr W1 W2 : World} {lr lw mr mw ur uw v' : Value} {R Wr : List Bool} {z : Bool} (h : JSt w lr lw mr mw R Wr ur uw wr) (hB : Below wr.heap.size wr W1)
    (h1 : W2.ownsRow (w.heap.size + 4) 4 1 v' (Wr.length + 1) (boolCells (Wr ++ [z]))) (hg : W1.grownBy W2 uw.ownBlock) (hv : v'.ownBlock = uw.ownBlock ∨ v'.ownBlock = some W1.heap.size) :
    JSt w lr lw mr mw R (Wr ++ [z]) ur v' (W2.setCell ⟨w.heap.size + 3, 1, none⟩ v') := by
  obtain ⟨hc, h2, h3, h4, h5, h6, h7, h8⟩ := h
  have u4 := ownB_over h4 hB
  have u5 := ownB_over h5 hB
  have hs1 : w.heap.size + 4 ≤ W1.heap.size := Nat.le_trans h8 hB.size
  have hb2 : Below (w.heap.size + 4) W1 W2 := below_grownB u5 hg hs1
  have hb : Below (w.heap.size + 4) wr W2 := (hB.mono h8).trans hb2
  have hb3 : Below (w.heap.size + 3) wr (W2.setCell ⟨w.heap.size + 3, 1, none⟩ v') := (hb.mono (by omega)).setCell (by simp) _
  have u4' : W2.ownsRow (w.heap.size + 4) 4 1 ur R.length (boolCells R) := ownB_kept u4 hg h6
  refine ⟨jst_keep hc hb3, ?_, ?_, ?_, ?_, ?_, ?_, ?_⟩
  · rw [hb3.block _ (by omega)]; exact h2
  · have e : W2.heap[w.heap.size + 3]? = some (.cells #[ur, uw] 30 (0, 0)) := by rw [hb.block _ (by omega)]; exact h3
    have := heap_setCell_same W2 _ 1 _ _ v' e
    simpa using this
  · exact ownB_set u4' (by simp) _
  · rw [List.length_append]
    exact ownB_set h1 (by simp) _
  · exact apart_new u4 h6 hv
  · exact h7.trans ((hb3.mono (by omega)))
  · have := hb.size
    simp
    omega

/-- four cells that lie low, and are kept. -/
def Low4 (B : Nat) (p1 p2 p3 p4 : Nat × Nat) (v1 v2 v3 v4 : Value) (W : World) : Prop :=
  W.cell? ⟨p1.1, p1.2, none⟩ = some v1 ∧ W.cell? ⟨p2.1, p2.2, none⟩ = some v2 ∧ W.cell? ⟨p3.1, p3.2, none⟩ = some v3 ∧ W.cell? ⟨p4.1, p4.2, none⟩ = some v4 ∧ B + 1 ≤ W.heap.size ∧ p1.1 < B ∧ p2.1 < B ∧ p3.1 < B ∧ p4.1 < B

theorem Low4.keep {B : Nat} {W W' : World} {p1 p2 p3 p4 : Nat × Nat} {v1 v2 v3 v4 : Value} (h : Low4 B p1 p2 p3 p4 v1 v2 v3 v4 W) (hb : Below B W W') : Low4 B p1 p2 p3 p4 v1 v2 v3 v4 W' := by
  have hc : ∀ b o, b < B → W'.cell? ⟨b, o, none⟩ = W.cell? ⟨b, o, none⟩ := fun b o h => hb.cell (p := ⟨b, o, none⟩) h
  obtain ⟨k1, k2, k3, k4, k6, h1, h2, h3, h4⟩ := h
  exact ⟨by rw [hc _ _ h1]; exact k1, by rw [hc _ _ h2]; exact k2, by rw [hc _ _ h3]; exact k3, by rw [hc _ _ h4]; exact k4, Nat.le_trans k6 hb.size, h1, h2, h3, h4⟩

theorem pair_kept {w wr W2 : World} {lr lw mr mw ur uw : Value} {R Wr : List Bool} (h : JSt w lr lw mr mw R Wr ur uw wr) (hb : Below (w.heap.size + 4) wr W2) : W2.heap[w.heap.size + 3]? = some (.cells #[ur, uw] 30 (0, 0)) := by
  rw [hb.block _ (by omega)]
  exact h.2.2.1

theorem jst_box (w : World) (lr lw mr mw : Value) : JSt w lr lw mr mw [] [] (.slice none 0 0) (.slice none 0 0)
    ((((w.alloc (.cells #[lr, lw] 30)).alloc (.cells #[mr, mw] 30)).alloc (.cells #[.slice none 0 0, .slice none 0 0] 30)).alloc (.cells #[.slice none 0 0, .slice none 0 0] 30)) := by
  have n0 := heap_alloc_new w (.cells #[lr, lw] 30)
  refine ⟨⟨by simp [go_sem], by simp [go_sem], by simp [go_sem], by simp [go_sem]⟩, ?_, ?_, World.ownsRow_nil _ _ _ _, World.ownsRow_nil _ _ _ _, Or.inl rfl, ?_, by simp⟩
  · have h := heap_alloc_new ((w.alloc (.cells #[lr, lw] 30)).alloc (.cells #[mr, mw] 30)) (.cells #[.slice none 0 0, .slice none 0 0] 30)
    rw [((Below.refl _ (((w.alloc (.cells #[lr, lw] 30)).alloc (.cells #[mr, mw] 30)).alloc (.cells #[.slice none 0 0, .slice none 0 0] 30))).alloc (Nat.le_refl _) _).block _ (by simp)]
    simpa using h
  · have h := heap_alloc_new (((w.alloc (.cells #[lr, lw] 30)).alloc (.cells #[mr, mw] 30)).alloc (.cells #[.slice none 0 0, .slice none 0 0] 30)) (.cells #[.slice none 0 0, .slice none 0 0] 30)
    simpa using h
  · exact ((((Below.refl _ w).alloc (Nat.le_refl _) _).alloc (by simp) _).alloc (by simp; omega) _).alloc (by simp; omega) _

end Go.Proofs.Ytekgnjifopgboaa
