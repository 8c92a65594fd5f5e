/- Grants put together: two appends, in whatever order what stands beside them is done. -/
import Derived.Test.YtndbgjbnakppkabClosedA
import Derived.Laws.OwnMore
namespace Go.Proofs.Ytndbgjbnakppkab
open Go.RowKit
set_option linter.unusedVariables false

/-- what holds throughout a statement. -/
def HoldC (w wr : World) (n : Nat) (v : Value) (g0 g1 : Int) (W : World) : Prop :=
  W.cell? ⟨w.heap.size, 0, none⟩ = some (.int .i64 n) ∧ W.cell? ⟨w.heap.size, 1, none⟩ = some v ∧ W.cell? ⟨w.heap.size + 1, 0, none⟩ = some (.int .i64 g0) ∧ W.cell? ⟨w.heap.size + 1, 1, none⟩ = some (.int .i64 g1) ∧ Below wr.heap.size wr W

theorem HoldC.keep {w wr W W' : World} {n : Nat} {v : Value} {g0 g1 : Int} (h : HoldC w wr n v g0 g1 W) (hz : w.heap.size + 1 < wr.heap.size) (hb : Below wr.heap.size W W') : HoldC w wr n v g0 g1 W' := by
  obtain ⟨h0, h1, h2, h3, h4⟩ := h
  have hc : ∀ b o, b < wr.heap.size → W'.cell? ⟨b, o, none⟩ = W.cell? ⟨b, o, none⟩ := fun b o h => hb.cell (p := ⟨b, o, none⟩) h
  exact ⟨by rw [hc _ _ (by omega)]; exact h0, by rw [hc _ _ (by omega)]; exact h1, by rw [hc _ _ (by omega)]; exact h2, by rw [hc _ _ (by omega)]; exact h3, h4.trans hb⟩

theorem HoldC.alloc {w wr W : World} {n : Nat} {v : Value} {g0 g1 : Int} (h : HoldC w wr n v g0 g1 W) (hz : w.heap.size + 1 < wr.heap.size) (o : Obj) : HoldC w wr n v g0 g1 (W.alloc o) :=
  h.keep hz ((Below.refl _ W).alloc h.2.2.2.2.size _)

theorem below_grown {B g : Nat} {W W' : World} (hg : W.grownBy W' (some g)) (hB : B ≤ g) (hB2 : B ≤ W.heap.size) : Below B W W' :=
  ⟨hg.os, hg.tape, hg.output, hg.size, fun k hk => hg.block k (Nat.lt_of_lt_of_le hk hB2) (by intro h; injection h with h; omega)⟩

theorem HoldC.grown {w wr W W' : World} {n g : Nat} {v : Value} {g0 g1 : Int} (h : HoldC w wr n v g0 g1 W) (hz : w.heap.size + 1 < wr.heap.size) (hg : W.grownBy W' (some g)) (hB : wr.heap.size ≤ g) : HoldC w wr n v g0 g1 W' :=
  h.keep hz (below_grown hg hB h.2.2.2.2.size)

theorem HoldC.setCell {w wr W : World} {n : Nat} {v : Value} {g0 g1 : Int} (h : HoldC w wr n v g0 g1 W) (hz : w.heap.size + 1 < wr.heap.size) {p : Addr} (hp : wr.heap.size ≤ p.block) (u : Value) : HoldC w wr n v g0 g1 (W.setCell p u) :=
  h.keep hz ((Below.refl _ W).setCell hp u)

theorem own_alloc {W : World} {B : Nat} {v : Value} {k : Nat} {xs : List Value} (h : W.ownsRow B 37 2 v k xs) (o : Obj) : (W.alloc o).ownsRow B 37 2 v k xs := by
  obtain ⟨h1, h2⟩ := h
  refine ⟨h1, ?_⟩
  rcases h2 with h2 | ⟨g, cap, cur, hv, hg, hh, r⟩
  · exact Or.inl h2
  · refine Or.inr ⟨g, cap, cur, hv, hg, ?_, r⟩
    have hlt := (Array.getElem?_eq_some_iff.1 hh).1
    rw [((Below.refl W.heap.size W).alloc (Nat.le_refl _) o).block g hlt]
    exact hh

theorem blk_alloc {W : World} {g : Nat} {o o' : Obj} (h : W.heap[g]? = some o) : (W.alloc o').heap[g]? = some o := by
  rw [((Below.refl W.heap.size W).alloc (Nat.le_refl _) o').block g (Array.getElem?_eq_some_iff.1 h).1]
  exact h

theorem blk_new (W : World) (o : Obj) : (W.alloc o).heap[W.heap.size]? = some o := heap_alloc_new W o

theorem blk_keep {W W' : World} {b g : Nat} {o : Obj} (h : W.heap[b]? = some o) (hg : W.grownBy W' (some g)) (hne : b ≠ g) : W'.heap[b]? = some o := by
  rw [hg.block b (Array.getElem?_eq_some_iff.1 h).1 (by intro h; injection h with h; omega)]
  exact h

theorem own_empty (W : World) (B : Nat) (hB : B ≤ W.heap.size) : (W.alloc (.cells #[] 37)).ownsRow B 37 2 (.slice (some ⟨W.heap.size, 0, none⟩) 0 0) 0 [] :=
  ⟨rfl, Or.inr ⟨W.heap.size, 0, #[], rfl, hB, blk_new W _, Nat.le_refl _, Nat.zero_le _, rfl, rfl⟩⟩

theorem own_block {W : World} {B g k cap : Nat} {xs : List Value} (h : W.ownsRow B 37 2 (.slice (some ⟨g, 0, none⟩) k cap) k xs) : B ≤ g ∧ ∃ cur, W.heap[g]? = some (.cells cur 37 (0, 0)) ∧ cur.size = cap * 2 := by
  rcases h.2 with ⟨h, _⟩ | ⟨g', cap', cur, hv, hg, hh, _, _, hs, _⟩
  · cases h
  · injection hv with e1 e2 e3
    injection e1 with e1
    injection e1 with e1
    subst e1 e3
    exact ⟨hg, cur, hh, hs⟩

theorem ne_ten {W : World} {B g k cap b : Nat} {xs : List Value} {cs : Array Value} (h : W.ownsRow B 37 2 (.slice (some ⟨g, 0, none⟩) k cap) k xs) (h10 : W.heap[b]? = some (.cells cs 24 (0, 0))) : b ≠ g := by
  rintro rfl
  obtain ⟨_, cur, hh, _⟩ := own_block h
  rw [hh] at h10
  simp at h10

theorem ne_one {W : World} {B g b : Nat} {xs : List Value} {x y : Value} (h : W.ownsRow B 37 2 (.slice (some ⟨g, 0, none⟩) 0 0) 0 xs) (h10 : W.heap[b]? = some (.cells #[x, y] 37 (0, 0))) : b ≠ g := by
  rintro rfl
  obtain ⟨_, cur, hh, hs⟩ := own_block h
  rw [hh] at h10
  simp only [Option.some.injEq, Obj.cells.injEq, and_true] at h10
  rw [h10] at hs
  simp at hs

theorem grown_refl (W : World) (r : Option Nat) : W.grownBy W r := ⟨rfl, rfl, rfl, Nat.le_refl _, fun _ _ _ => rfl⟩

theorem own_some {W : World} {B : Nat} {v : Value} {k : Nat} {xs : List Value} (h : W.ownsRow B 37 2 v k xs) : v = .slice none 0 0 ∨ ∃ g cap, v = .slice (some ⟨g, 0, none⟩) k cap := by
  rcases h.2 with ⟨h, _⟩ | ⟨g', cap', cur, hv, _⟩
  · exact Or.inl h
  · exact Or.inr ⟨g', cap', hv⟩

theorem own_pos {W : World} {B : Nat} {v : Value} {k : Nat} {xs : List Value} (h : W.ownsRow B 37 2 v (k + 1) xs) : ∃ g cap, v = .slice (some ⟨g, 0, none⟩) (k + 1) cap := by
  rcases h.2 with ⟨_, h⟩ | ⟨g', cap', cur, hv, _⟩
  · omega
  · exact ⟨g', cap', hv⟩

theorem Try.info37 : (Try.prog.info? 37).map (fun i => (i.zero, i.size, i.bytes)) = some (some (.agg #[.int .i64 0, .int .i64 0]), 2, 16) := by kernel_rfl

theorem info37 : ∃ i, Try.prog.info? 37 = some i ∧ i.zero = some (.agg #[.int .i64 0, .int .i64 0]) ∧ i.size = 2 ∧ i.bytes = 16 := by
  cases hi : Try.prog.info? 37 with
  | none => have := Try.info37; rw [hi] at this; cases this
  | some i =>
    have h4 := Try.info37
    rw [hi] at h4
    simp only [Option.map_some, Option.some.injEq, Prod.mk.injEq] at h4
    exact ⟨i, rfl, h4.1, h4.2.1, h4.2.2⟩

theorem grantCells_length (gs : List (Int × Int)) : (grantCells gs).length = gs.length * 2 := by
  induction gs with
  | nil => rfl
  | cons g gs ih => simp [grantCells] at ih ⊢; omega

theorem grantCells_get (gs : List (Int × Int)) (i : Nat) (h : i < gs.length) : (grantCells gs)[i * 2]? = some (.int .i64 gs[i].1) ∧ (grantCells gs)[i * 2 + 1]? = some (.int .i64 gs[i].2) := by
  induction gs generalizing i with
  | nil => simp at h
  | cons g gs ih =>
    cases i with
    | zero => simp [grantCells]
    | succ i =>
      have := ih i (by simpa using h)
      have e1 : (i + 1) * 2 = i * 2 + 2 := by omega
      simp only [grantCells, List.flatMap_cons, List.getElem_cons_succ] at this ⊢
      rw [e1, show i * 2 + 2 + 1 = i * 2 + 1 + 2 by omega]
      exact this

theorem isGrants_own {W : World} {B : Nat} {v : Value} {gs : List (Int × Int)} (h : W.ownsRow B 37 2 v gs.length (grantCells gs)) : IsGrants W v gs := by
  have hc := fun g => h.cells (g := g)
  rcases h.2 with ⟨rfl, h0⟩ | ⟨g, cap, cur, rfl, _⟩
  · exact ⟨none, 0, by rw [h0], fun hne => absurd (List.eq_nil_of_length_eq_zero h0) hne⟩
  · refine ⟨_, cap, rfl, fun _ => ⟨g, 0, rfl, fun i hi => ?_⟩⟩
    obtain ⟨k0, k1⟩ := grantCells_get gs i hi
    have h1 := hc g rfl _ _ k0
    have h2 := hc g rfl _ _ k1
    have hadd : ∀ j, (⟨g, 0, none⟩ : Addr).add j = ⟨g, j, none⟩ := fun j => by unfold Addr.add; split <;> simp_all
    rw [hadd] at h1 h2
    exact ⟨by simpa using h1, by simpa using h2⟩

/-- cells of a block of two. -/
theorem two_cells {W : World} {b T : Nat} {x y : Value} (h : W.heap[b]? = some (.cells #[x, y] T (0, 0))) : W.cell? ⟨b, 0, none⟩ = some x ∧ W.cell? ⟨b, 1, none⟩ = some y ∧ W.frozen? ⟨b, 0, none⟩ = false ∧ W.frozen? ⟨b, 1, none⟩ = false := by
  refine ⟨?_, ?_, ?_, ?_⟩ <;> simp [World.cell?, World.frozen?, h]

/-- what is there behind the statement. -/
def RelC (wr : World) (n : Nat) (gs : List (Int × Int)) (s10 : Value) (wc : World) : Prop :=
  ∃ nb u, s10 = .pointer (some ⟨nb, 0, none⟩) ∧ wc.cell? ⟨nb, 0, none⟩ = some (.int .i64 n) ∧ wc.cell? ⟨nb, 1, none⟩ = some u ∧ IsGrants wc u gs ∧ Below wr.heap.size wr wc

theorem own_setCell {W : World} {B b o : Nat} {v : Value} {k : Nat} {xs : List Value} (h : W.ownsRow B 37 2 v k xs) (hne : ∀ g cap, v = .slice (some ⟨g, 0, none⟩) k cap → b ≠ g) (u : Value) : (W.setCell ⟨b, o, none⟩ u).ownsRow B 37 2 v k xs := by
  obtain ⟨h1, h2⟩ := h
  refine ⟨h1, ?_⟩
  rcases h2 with h2 | ⟨g, cap, cur, hv, hg, hh, r⟩
  · exact Or.inl h2
  · refine Or.inr ⟨g, cap, cur, hv, hg, ?_, r⟩
    rw [heap_setCell_other]
    · exact hh
    · exact fun e => hne g cap hv (by first | exact e | exact e.symm)

theorem rel_old {w wr W : World} {n b10 : Nat} {v v8 x y : Value} {g0 g1 : Int} {gs : List (Int × Int)} (h : HoldC w wr n v g0 g1 W) (ho : W.ownsRow wr.heap.size 37 2 v8 (gs.length + 1) (grantCells (gs ++ [(g0, g1)])))
    (h10 : W.heap[b10]? = some (.cells #[x, y] 24 (0, 0))) (hb : wr.heap.size ≤ b10) :
    RelC wr n (gs ++ [(g0, g1)]) (.pointer (some ⟨b10, 0, none⟩)) ((W.setCell ⟨b10, 0, none⟩ (.int .i64 n)).setCell ⟨b10, 1, none⟩ v8) := by
  obtain ⟨k0, k1, _, _⟩ := two_cells h10
  have hne : ∀ g cap, v8 = .slice (some ⟨g, 0, none⟩) (gs.length + 1) cap → b10 ≠ g := fun g cap e => by
    subst e
    exact ne_ten ho h10
  refine ⟨b10, v8, rfl, ?_, ?_, isGrants_own (B := wr.heap.size) (by rw [List.length_append]; exact own_setCell (own_setCell ho hne _) hne _), ?_⟩
  · rw [World.cell?_setCell_other _ _ _ _ (by simp)]
    exact World.cell?_setCell_same _ _ _ k0
  · refine World.cell?_setCell_same _ _ _ (u := y) ?_
    rw [World.cell?_setCell_other _ _ _ _ (by simp)]
    exact k1
  · exact (h.2.2.2.2.setCell hb _).setCell hb _

section
variable {ops : Array Oper} {o : Oper} {a : Act} {W : World} {K : Act → World → Prop} {Q : Exit → Act → World → Prop} {E : Prop}

theorem step_app1 (hg : o.guard = none) (hop : o.op = Op.call { callee := Callee.builtin Builtin.append, args := #[.tmp 92, .tmp 94], argTypes := #[22, 22] })
    (B b92 : Nat) (v : Value) (gs : List (Int × Int)) (hs : a.eval (.tmp 92) = .slice (some ⟨b92, 0, none⟩) 0 0) (hx : a.eval (.tmp 94) = v)
    (h92 : W.ownsRow B 37 2 (.slice (some ⟨b92, 0, none⟩) 0 0) 0 []) (hv : IsGrants W v gs) (hsh : v = .slice none 0 0 ∨ ∃ ad l c, v = .slice (some ad) l c) (hlen : gs.length ≤ 20) (hB : B ≤ W.heap.size)
    (h : ∀ v5 W5, W5.ownsRow B 37 2 v5 gs.length (grantCells gs) → W.grownBy W5 (some b92) → v5 ≠ .slice none 0 0 → K (a.put o.dst v5) W5) :
    if Region.wanted o (yielded ops a.tmps) = true then Oper.wp Try.prog o a W K Q else E := by
  have hw : Region.wanted o (yielded ops a.tmps) = true := by simp [Region.wanted, hg]
  rw [if_pos hw]
  obtain ⟨i, hi, hz, h2, h16⟩ := info37
  obtain ⟨ao, cap, rfl, hcc⟩ := hv
  cases ao with
  | none =>
    have hgs : gs = [] := by
      apply Classical.byContradiction
      intro hne
      obtain ⟨b, off, h, _⟩ := hcc hne
      cases h
    subst hgs
    have hcap : cap = 0 := by
      rcases hsh with e | ⟨ad, l, c, e⟩
      · injection e
      · cases e
    subst hcap
    have hr := run_append_owned_none (P := Try.prog) W B 22 o.type 37 i 2 Try.underlying22 hi _ 0 [] h92
    unfold Oper.wp execOp
    simp only [hop, resolve, invoke, builtin, Sem.run_bind, Sem.run_pure, Result.andThen_ok, List.map_toArray, List.map_cons, List.map_nil, hs, hx, List.length_nil, hr]
    exact h _ W h92 (grown_refl W _) (by simp)
  | some ad =>
    refine wp_append_own (w := W) (.tmp 92) (.tmp 94) 22 hop B 37 i _ 2 16 Try.underlying22 hi hz h2 h16 (by rfl) (by decide) _ 0 [] hs h92 ad gs.length cap (grantCells gs) hx (grantCells_length gs) ?_ ?_ ?_ ?_ hB ?_
    · intro j u hu
      have hj : j < gs.length * 2 := by have := (List.getElem?_eq_some_iff.1 hu).1; rwa [grantCells_length] at this
      obtain ⟨b, off, hb, hcl⟩ := hcc (by rintro rfl; simp at hj)
      injection hb with hb
      subst hb
      have hi2 : j / 2 < gs.length := by omega
      obtain ⟨c0, c1⟩ := hcl (j / 2) hi2
      obtain ⟨k0, k1⟩ := grantCells_get gs (j / 2) hi2
      rw [Addr.add_lit]
      rcases (show j = j / 2 * 2 ∨ j = j / 2 * 2 + 1 by omega) with e | e
      · rw [← e] at k0 c0
        rw [k0] at hu
        rw [c0, ← hu]
      · rw [← e] at k1
        rw [Nat.add_assoc, ← e] at c1
        rw [k1] at hu
        rw [c1, ← hu]
    · intro u hu
      simp only [grantCells, List.mem_flatMap] at hu
      obtain ⟨g, _, hu⟩ := hu
      simp at hu
      rcases hu with rfl | rfl <;> rfl
    · simp only [maxLen]; omega
    · omega
    · intro v' w' h1 h3 h4
      simp only [Nat.zero_add, List.nil_append] at h1
      exact h v' w' h1 h3 (by intro e; have := h4.1 e; simp at this)

theorem step_app2 (hg : o.guard = none) (hop : o.op = Op.call { callee := Callee.builtin Builtin.append, args := #[.tmp 95, .tmp 97], argTypes := #[22, 22] })
    (B b97 : Nat) (v5 : Value) (g0 g1 : Int) (gs : List (Int × Int)) (hs : a.eval (.tmp 95) = v5) (hx : a.eval (.tmp 97) = .slice (some ⟨b97, 0, none⟩) 1 1)
    (h95 : W.ownsRow B 37 2 v5 gs.length (grantCells gs)) (h97 : W.heap[b97]? = some (.cells #[.int .i64 g0, .int .i64 g1] 37 (0, 0))) (hlen : gs.length ≤ 20) (hB : B ≤ W.heap.size)
    (h : ∀ v8 W8, W8.ownsRow B 37 2 v8 (gs.length + 1) (grantCells (gs ++ [(g0, g1)])) → W.grownBy W8 v5.ownBlock → K (a.put o.dst v8) W8) :
    if Region.wanted o (yielded ops a.tmps) = true then Oper.wp Try.prog o a W K Q else E := by
  have hw : Region.wanted o (yielded ops a.tmps) = true := by simp [Region.wanted, hg]
  rw [if_pos hw]
  obtain ⟨i, hi, hz, h2, h16⟩ := info37
  refine wp_append_own (w := W) (.tmp 95) (.tmp 97) 22 hop B 37 i _ 2 16 Try.underlying22 hi hz h2 h16 (by rfl) (by decide) _ gs.length (grantCells gs) hs h95 ⟨b97, 0, none⟩ 1 1 [.int .i64 g0, .int .i64 g1] hx rfl ?_ ?_ ?_ ?_ hB ?_
  · intro j u hu
    rw [Addr.add_lit]
    match j, hu with
    | 0, hu => simp at hu; subst hu; simp [World.cell?, h97]
    | 1, hu => simp at hu; subst hu; simp [World.cell?, h97]
    | j + 2, hu => simp at hu
  · intro u hu
    simp at hu
    rcases hu with rfl | rfl <;> rfl
  · simp only [maxLen]; omega
  · omega
  · intro v' w' h1 h3 h4
    refine h v' w' ?_ h3
    have e : grantCells (gs ++ [(g0, g1)]) = grantCells gs ++ [.int .i64 g0, .int .i64 g1] := by simp [grantCells]
    rw [e]
    exact h1
end
end Go.Proofs.Ytndbgjbnakppkab
