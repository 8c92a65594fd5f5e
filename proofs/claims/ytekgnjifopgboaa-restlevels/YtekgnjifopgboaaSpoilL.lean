/- A level that is changed, list by list: veilworklaw.spoilLevel turns nothing but its lists. -/
import Derived.Test.YtekgnjifopgboaaOwnL
import Derived.RegionTactic
namespace Go.Proofs.Ytekgnjifopgboaa
open Go.RowKit
set_option linter.unusedVariables false

/-- a list that may be written, beyond a bound. -/
def Spoil (B : Nat) (W : World) (v : Value) (n : Nat) : Prop :=
  ∃ ao cap, v = .slice ao n cap ∧ (n ≠ 0 → ∃ b, ao = some ⟨b, 0, none⟩ ∧ B ≤ b ∧ ∀ i, i < n → (∃ x, W.cell? ⟨b, i, none⟩ = some (.bool x)) ∧ W.frozen? ⟨b, i, none⟩ = false)

theorem Spoil.over {B : Nat} {W W' : World} {v : Value} {n : Nat} (h : Spoil B W v n) (hb : Below W.heap.size W W') : Spoil B W' v n := by
  obtain ⟨ao, cap, rfl, h⟩ := h
  refine ⟨ao, cap, rfl, fun hn => ?_⟩
  obtain ⟨b, rfl, hB, hc⟩ := h hn
  refine ⟨b, rfl, hB, fun i hi => ?_⟩
  obtain ⟨⟨x, h1⟩, h2⟩ := hc i hi
  have hlt := World.block_lt_of_cell? W _ h1
  exact ⟨⟨x, by rw [(bcell hb).1 _ _ hlt]; exact h1⟩, by rw [(bcell hb).2 _ _ hlt]; exact h2⟩

theorem Spoil.set {B : Nat} {W : World} {v : Value} {n : Nat} (h : Spoil B W v n) (p : Addr) (z : Bool) (hp : ∃ x, W.cell? p = some (.bool x)) : Spoil B (W.setCell p (.bool z)) v n := by
  obtain ⟨ao, cap, rfl, h⟩ := h
  refine ⟨ao, cap, rfl, fun hn => ?_⟩
  obtain ⟨b, rfl, hB, hc⟩ := h hn
  refine ⟨b, rfl, hB, fun i hi => ?_⟩
  obtain ⟨⟨x, h1⟩, h2⟩ := hc i hi
  refine ⟨?_, by rw [World.frozen?_setCell]; exact h2⟩
  by_cases e : p = ⟨b, i, none⟩
  · subst e
    exact ⟨z, World.cell?_setCell_same _ _ _ h1⟩
  · exact ⟨x, by rw [World.cell?_setCell_other _ _ _ _ e]; exact h1⟩

theorem spoil_own {B : Nat} {W : World} {v : Value} {l : List Bool} (h : W.ownsRow B 4 1 v l.length (boolCells l)) : Spoil B W v l.length := by
  have hI := isBools_own h
  rcases h.2 with ⟨rfl, h0⟩ | ⟨g, cap, cur, rfl, hg, hh, _⟩
  · exact ⟨none, 0, by rw [h0], fun hn => absurd h0 hn⟩
  · refine ⟨_, cap, rfl, fun hn => ⟨g, rfl, hg, fun i hi => ?_⟩⟩
    obtain ⟨b, off, c, e, hc⟩ := isBools_at hI hi
    injection e with e1
    injection e1 with e1
    injection e1 with e1 e2
    subst e1 e2
    exact ⟨⟨_, by simpa using hc⟩, by simp [World.frozen?, hh]⟩

/-- all that is no bool is as it was, what is a bool is one still; below a bound nothing is turned. -/
def Turned (B : Nat) (w w' : World) : Prop := Below B w w' ∧ (∀ p v, w.cell? p = some v → (∃ x, v = .bool x) ∨ w'.cell? p = some v) ∧ (∀ p x, w.cell? p = some (.bool x) → ∃ y, w'.cell? p = some (.bool y)) ∧ (∀ p u, w.cell? p = some u → w'.frozen? p = w.frozen? p)

theorem turned_alloc (B : Nat) (w : World) (o : Obj) (hB : B ≤ w.heap.size) : Turned B w (w.alloc o) := by
  have hb : Below w.heap.size w (w.alloc o) := (Below.refl _ w).alloc (Nat.le_refl _) o
  have hlt : ∀ p u, w.cell? p = some u → p.block < w.heap.size := fun p u h => World.block_lt_of_cell? w p h
  have hc : ∀ p u, w.cell? p = some u → (w.alloc o).cell? p = some u := fun p u h => by rw [hb.cell (hlt p u h)]; exact h
  exact ⟨hb.mono hB, fun p v h => Or.inr (hc p v h), fun p x h => ⟨x, hc p _ h⟩, fun p u h => hb.frozen (hlt p u h)⟩
theorem Turned.drew {B : Nat} {w W : World} (h : Turned B w W) : Turned B w W.drew := ⟨below_drewN h.1 1, h.2⟩
theorem Turned.set {B : Nat} {w W : World} (h : Turned B w W) (p : Addr) (z : Bool) (hp : B ≤ p.block) (hx : ∃ x, W.cell? p = some (.bool x)) : Turned B w (W.setCell p (.bool z)) := by
  obtain ⟨h1, h2, h3, h4⟩ := h
  obtain ⟨x, hx⟩ := hx
  refine ⟨h1.setCell hp _, fun q v hq => ?_, fun q y hq => ?_, fun q u hq => by rw [World.frozen?_setCell]; exact h4 q u hq⟩
  · rcases h2 q v hq with hv | hv
    · exact Or.inl hv
    · by_cases e : p = q
      · subst e
        rw [hx] at hv
        exact Or.inl ⟨x, (Option.some.inj hv).symm⟩
      · exact Or.inr (by rw [World.cell?_setCell_other _ _ _ _ e]; exact hv)
  · obtain ⟨y', hy⟩ := h3 q y hq
    by_cases e : p = q
    · subst e
      exact ⟨z, World.cell?_setCell_same _ _ _ hy⟩
    · exact ⟨y', by rw [World.cell?_setCell_other _ _ _ _ e]; exact hy⟩
theorem Spoil.turned {B : Nat} {W W' : World} {v : Value} {n : Nat} (h : Spoil B W v n) (ht : Turned B W W') : Spoil B W' v n := by
  obtain ⟨ao, cap, rfl, h⟩ := h
  refine ⟨ao, cap, rfl, fun hn => ?_⟩
  obtain ⟨b, rfl, hB, hc⟩ := h hn
  refine ⟨b, rfl, hB, fun i hi => ?_⟩
  obtain ⟨⟨x, h1⟩, h2⟩ := hc i hi
  exact ⟨ht.2.2.1 _ x h1, by rw [ht.2.2.2 _ _ h1]; exact h2⟩

/-- a level of new lists in a box, that may be changed. -/
def JB (B : Nat) (W : World) (b : Nat) (x y : Value) (n1 n2 : Nat) : Prop := W.cell? ⟨b, 0, none⟩ = some x ∧ W.cell? ⟨b, 1, none⟩ = some y ∧ Spoil B W x n1 ∧ Spoil B W y n2
theorem JB.over {B b n1 n2 : Nat} {W W' : World} {x y : Value} (h : JB B W b x y n1 n2) (hb : Below W.heap.size W W') : JB B W' b x y n1 n2 := by
  obtain ⟨h0, h1, h2, h3⟩ := h
  exact ⟨by rw [(bcell hb).1 _ _ (World.block_lt_of_cell? W _ h0)]; exact h0, by rw [(bcell hb).1 _ _ (World.block_lt_of_cell? W _ h1)]; exact h1, h2.over hb, h3.over hb⟩
theorem JB.turned {B b n1 n2 : Nat} {W W' : World} {x y : Value} (h : JB B W b x y n1 n2) (ht : Turned B W W') : JB B W' b x y n1 n2 := by
  obtain ⟨h0, h1, h2, h3⟩ := h
  have nb : ∀ {v : Value} {n : Nat}, Spoil B W v n → ∀ z, v ≠ .bool z := fun h z e => by
    obtain ⟨ao, cap, rfl, _⟩ := h
    cases e
  refine ⟨?_, ?_, h2.turned ht, h3.turned ht⟩
  · rcases ht.2.1 _ _ h0 with ⟨z, e⟩ | h
    · exact absurd e (nb h2 z)
    · exact h
  · rcases ht.2.1 _ _ h1 with ⟨z, e⟩ | h
    · exact absurd e (nb h3 z)
    · exact h
theorem jb_new {w W : World} {B : Nat} {x y : Value} {L : Lev} (h : LevFresh w W (.agg #[x, y]) L) (hB : B ≤ w.heap.size) : JB B (W.alloc (.cells #[x, y] 30)) W.heap.size x y L.r.length L.w.length := by
  obtain ⟨a, b, e, h1, h2, _⟩ := h
  obtain ⟨rfl, rfl⟩ : x = a ∧ y = b := by simpa using e
  have hb : Below W.heap.size W (W.alloc (.cells #[x, y] 30)) := (Below.refl _ W).alloc (Nat.le_refl _) _
  exact ⟨by simp [go_sem], by simp [go_sem], (spoil_own (ownB_base h1 hB)).over hb, (spoil_own (ownB_base h2 hB)).over hb⟩

set_option maxRecDepth 100000 in
set_option maxHeartbeats 4000000 in
theorem spoil_any (B n1 n2 : Nat) (vr vw : Value) (w : World) (hB : B ≤ w.heap.size) (h1 : n1 ≤ 6) (h2 : n2 ≤ 6) (hr : Spoil B w vr n1) (hw : Spoil B w vw n2) :
    Calls Try.prog 27 #[.agg #[vr, vw]] w fun e w' => e = .returned (.tuple #[]) ∧ Turned B w w' := by
  obtain ⟨ar, cr, hvr, -⟩ := id hr
  obtain ⟨aw, cw, hvw, -⟩ := id hw
  subst hvr hvw
  have hal : Below w.heap.size w (w.alloc (.cells #[.slice ar n1 cr, .slice aw n2 cw] 30)) := (Below.refl _ w).alloc (Nat.le_refl _) _
  have HS : Hid (Spoil B (w.alloc (.cells #[.slice ar n1 cr, .slice aw n2 cw] 30)) (.slice ar n1 cr) n1 ∧ Spoil B (w.alloc (.cells #[.slice ar n1 cr, .slice aw n2 cw] 30)) (.slice aw n2 cw) n2 ∧ Turned B w (w.alloc (.cells #[.slice ar n1 cr, .slice aw n2 cw] 30)) ∧ (w.alloc (.cells #[.slice ar n1 cr, .slice aw n2 cw] 30)).cell? ⟨w.heap.size, 0, none⟩ = some (.slice ar n1 cr) ∧ (w.alloc (.cells #[.slice ar n1 cr, .slice aw n2 cw] 30)).cell? ⟨w.heap.size, 1, none⟩ = some (.slice aw n2 cw)) := ⟨hr.over hal, hw.over hal, turned_alloc B w _ hB, by simp [go_sem], by simp [go_sem]⟩
  clear hal hr hw
  go_enter Try.func27, Try.ntmps27
  go_wp2_with fail
  go_loopw [2] (fun i wr => ∃ k : Nat, k ≤ n1 ∧ i = .int .i64 k ∧ Spoil B wr (.slice ar n1 cr) n1 ∧ Spoil B wr (.slice aw n2 cw) n2 ∧ Turned B w wr ∧ wr.cell? ⟨w.heap.size, 0, none⟩ = some (.slice ar n1 cr) ∧ wr.cell? ⟨w.heap.size, 1, none⟩ = some (.slice aw n2 cw)) (fun i _ => n1 - (intOf i).toNat)
  case atStart => exact ⟨0, Nat.zero_le _, rfl, HS.out⟩
  case round =>
    clear HS
    obtain ⟨k, hk, rfl, hs1, hs2, hbw, c0, c1⟩ := hrel
    by_cases hkn : k < n1
    · obtain ⟨ao, cap, he, hc⟩ := id hs1
      injection he with e1 e2 e3
      subst e1 e3
      obtain ⟨b, rfl, hBb, hcl⟩ := hc (by omega)
      obtain ⟨⟨x, q0⟩, q1⟩ := hcl k hkn
      have hne : (⟨b, k, none⟩ : Addr) ≠ ⟨w.heap.size, 0, none⟩ ∧ (⟨b, k, none⟩ : Addr) ≠ ⟨w.heap.size, 1, none⟩ := by
        constructor <;> (intro e; rw [e] at q0; first | (rw [c0] at q0; simp at q0) | (rw [c1] at q0; simp at q0))
      have d0 : (wr.drew.setCell ⟨b, k, none⟩ (.bool (!x))).cell? ⟨w.heap.size, 0, none⟩ = some (.slice (some ⟨b, 0, none⟩) n1 cr) := by rw [World.cell?_setCell_other _ _ _ _ hne.1]; exact c0
      have d1 : (wr.drew.setCell ⟨b, k, none⟩ (.bool (!x))).cell? ⟨w.heap.size, 1, none⟩ = some (.slice aw n2 cw) := by rw [World.cell?_setCell_other _ _ _ _ hne.2]; exact c1
      have t1 : Spoil B (wr.drew.setCell ⟨b, k, none⟩ (.bool (!x))) _ n1 := Spoil.set (W := wr.drew) hs1 ⟨b, k, none⟩ (!x) ⟨x, q0⟩
      have t2 : Spoil B (wr.drew.setCell ⟨b, k, none⟩ (.bool (!x))) _ n2 := Spoil.set (W := wr.drew) hs2 ⟨b, k, none⟩ (!x) ⟨x, q0⟩
      have t3 : Turned B w (wr.drew.setCell ⟨b, k, none⟩ (.bool (!x))) := hbw.drew.set ⟨b, k, none⟩ (!x) hBb ⟨x, q0⟩
      have HT := hide (And.intro t1 (And.intro t2 (And.intro t3 (And.intro d0 d1))))
      have i0 : (0 : Int) ≤ (k : Int) := by omega
      have i1 : (k : Int) < (n1 : Int) := by omega
      clear hne d0 d1 t1 t2 t3 hcl hc hs1 hs2 e2
      go_wp2_with fail
      go_region
      all_goals go_wp2_with fail
      all_goals exact ⟨⟨k + 1, by omega, by go_num, HT.out⟩, by simp [intOf]; omega⟩
    · have hke : k = n1 := by omega
      have i1 : ¬ (k : Int) < (n1 : Int) := by omega
      have HS := hide (And.intro hs1 (And.intro hs2 (And.intro hbw (And.intro c0 c1))))
      clear hs1 hs2
      go_wp2_with fail
      go_loopw [3] (fun i wr => ∃ k : Nat, k ≤ n2 ∧ i = .int .i64 k ∧ Spoil B wr (.slice ar n1 cr) n1 ∧ Spoil B wr (.slice aw n2 cw) n2 ∧ Turned B w wr ∧ wr.cell? ⟨w.heap.size, 0, none⟩ = some (.slice ar n1 cr) ∧ wr.cell? ⟨w.heap.size, 1, none⟩ = some (.slice aw n2 cw)) (fun i _ => n2 - (intOf i).toNat)
      case atStart => exact ⟨0, Nat.zero_le _, rfl, HS.out⟩
      case round =>
        clear HS
        obtain ⟨k, hk, rfl, hs1, hs2, hbw, c0, c1⟩ := hrel
        by_cases hkn : k < n2
        · obtain ⟨ao, cap, he, hc⟩ := id hs2
          injection he with e1 e2 e3
          subst e1 e3
          obtain ⟨b, rfl, hBb, hcl⟩ := hc (by omega)
          obtain ⟨⟨x, q0⟩, q1⟩ := hcl k hkn
          have hne : (⟨b, k, none⟩ : Addr) ≠ ⟨w.heap.size, 0, none⟩ ∧ (⟨b, k, none⟩ : Addr) ≠ ⟨w.heap.size, 1, none⟩ := by
            constructor <;> (intro e; rw [e] at q0; first | (rw [c0] at q0; simp at q0) | (rw [c1] at q0; simp at q0))
          have d0 : (wr.drew.setCell ⟨b, k, none⟩ (.bool (!x))).cell? ⟨w.heap.size, 0, none⟩ = some (.slice ar n1 cr) := by rw [World.cell?_setCell_other _ _ _ _ hne.1]; exact c0
          have d1 : (wr.drew.setCell ⟨b, k, none⟩ (.bool (!x))).cell? ⟨w.heap.size, 1, none⟩ = some (.slice (some ⟨b, 0, none⟩) n2 cw) := by rw [World.cell?_setCell_other _ _ _ _ hne.2]; exact c1
          have t1 : Spoil B (wr.drew.setCell ⟨b, k, none⟩ (.bool (!x))) _ n1 := Spoil.set (W := wr.drew) hs1 ⟨b, k, none⟩ (!x) ⟨x, q0⟩
          have t2 : Spoil B (wr.drew.setCell ⟨b, k, none⟩ (.bool (!x))) _ n2 := Spoil.set (W := wr.drew) hs2 ⟨b, k, none⟩ (!x) ⟨x, q0⟩
          have t3 : Turned B w (wr.drew.setCell ⟨b, k, none⟩ (.bool (!x))) := hbw.drew.set ⟨b, k, none⟩ (!x) hBb ⟨x, q0⟩
          have HT := hide (And.intro t1 (And.intro t2 (And.intro t3 (And.intro d0 d1))))
          have i0 : (0 : Int) ≤ (k : Int) := by omega
          have i1 : (k : Int) < (n2 : Int) := by omega
          clear hne d0 d1 t1 t2 t3 hcl hc hs1 hs2 e2
          go_wp2_with fail
          go_region
          all_goals go_wp2_with fail
          all_goals exact ⟨⟨k + 1, by omega, by go_num, HT.out⟩, by simp [intOf]; omega⟩
        · have hke : k = n2 := by omega
          have i1 : ¬ (k : Int) < (n2 : Int) := by omega
          have HS := hide (And.intro hs1 (And.intro hs2 (And.intro hbw (And.intro c0 c1))))
          clear hs1 hs2
          clear HS
          go_wp2_with fail
          go_end0
          exact ⟨rfl, hbw⟩
end Go.Proofs.Ytekgnjifopgboaa
