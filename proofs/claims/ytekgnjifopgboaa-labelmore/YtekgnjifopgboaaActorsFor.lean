/- actors.For and actors.Acts answer what they must. -/
import Derived.Test.YtekgnjifopgboaaActorsActs
namespace Go.Proofs.Ytekgnjifopgboaa
open Go.RowKit
set_option linter.unusedVariables false

def gnOf (gs : List (Int × Int)) : List (Nat × Nat) := gs.map fun g => (g.1.toNat, g.2.toNat)

theorem chk_ok {m : Int} {gs : List (Int × Int)} (h : chkErr m gs = 0) : ∃ n : Nat, m = n ∧ 1 ≤ n ∧ n ≤ 6 ∧ (gnOf gs).map toI = gs ∧ (gnOf gs).length ≤ 20 ∧ ∀ g ∈ gnOf gs, g.1 < n ∧ g.2 < n := by
  unfold chkErr at h
  split at h
  · split at h
    · split at h
      · cases h
      · rename_i hm hl hb
        have hb' : ∀ g ∈ gs, isOne m g.1 = true ∧ isOne m g.2 = true := fun g hg => by
          have h1 : ¬ badG m g = true := fun hh => hb (List.any_eq_true.2 ⟨g, hg, hh⟩)
          simp [badG] at h1
          exact h1
        refine ⟨m.toNat, by omega, by omega, by omega, ?_, by simpa [gnOf] using hl, fun g hg => ?_⟩
        · unfold gnOf
          rw [List.map_map]
          conv => rhs; rw [← List.map_id gs]
          apply List.map_congr_left
          intro g hg
          obtain ⟨h1, h2⟩ := hb' g hg
          simp [isOne] at h1 h2
          simp only [Function.comp, toI, id]
          ext <;> simp <;> omega
        · obtain ⟨g', hg', rfl⟩ := List.mem_map.1 hg
          obtain ⟨h1, h2⟩ := hb' g' hg'
          simp [isOne] at h1 h2
          simp only
          omega
    · cases h
  · cases h

theorem Try.info35 : (Try.prog.info? 28).map (fun i => (i.zero, i.size, i.bytes)) = some (some (.slice none 0 0), 1, 24) := by kernel_rfl

theorem make25 (n : Nat) (hn : n ≤ 6) (w : World) : (Instr.makeSlice 56 (.int .i64 n) (.int .i64 n)).run Try.prog w = .ok (.slice (some ⟨w.heap.size, 0, none⟩) n n) (w.alloc (.cells (List.replicate n (Value.slice none 0 0)).toArray 28)) := by
  cases hi : Try.prog.info? 28 with
  | none => have := Try.info35; rw [hi] at this; cases this
  | some i =>
    have h4 := Try.info35
    rw [hi] at h4
    simp only [Option.map_some, Option.some.injEq, Prod.mk.injEq] at h4
    obtain ⟨hz, h1, h2⟩ := h4
    have := run_make (P := Try.prog) w 56 28 i (.slice none 0 0) Try.underlying56 hi hz .i64 .i64 (n : Int) (n : Int) (by omega) (by omega) (by rw [h2]; omega) (by omega)
    rw [this, h1]
    simp only [Int.toNat_natCast, Nat.mul_one]
    congr 3
    apply Array.ext
    · simp [madeCells]
    · intro j h1 h2
      simp [madeCells, Value.cells, Nat.mod_one]

/-- rows of bools, one for each. -/
def RowsAt (W : World) (ob n : Nat) (gn : List (Nat × Nat)) (k : Nat) : Prop := ∀ i, i < k → ∃ kb, kb ≠ ob ∧ W.cell? ⟨ob, i, none⟩ = some (.slice (some ⟨kb, 0, none⟩) n n) ∧ KnownAt W kb (acts gn n i)

theorem rows_over {W W' : World} {ob n k : Nat} {gn : List (Nat × Nat)} (h : RowsAt W ob n gn k) (hb : Below W.heap.size W W') : RowsAt W' ob n gn k := fun i hi => by
  obtain ⟨kb, h1, h2, h3⟩ := h i hi
  exact ⟨kb, h1, by rw [(bcell hb).1 _ _ (World.block_lt_of_cell? W _ h2)]; exact h2, known_over h3 hb⟩

theorem known_other {w : World} {kb : Nat} {l : List Bool} (h : KnownAt w kb l) {p : Addr} (hp : p.block ≠ kb) (u : Value) : KnownAt (w.setCell p u) kb l := fun i hi => by
  obtain ⟨h1, h2⟩ := h i hi
  refine ⟨?_, ?_⟩
  · rw [World.cell?_setCell_other _ _ _ _ (by intro h; exact hp (by rw [h]))]
    exact h1
  · rw [World.frozen?_setCell]
    exact h2

theorem rows_set {W : World} {ob n k kb : Nat} {gn : List (Nat × Nat)} (h : RowsAt W ob n gn k) {u : Value} (hu : W.cell? ⟨ob, k, none⟩ = some u) (hkb : kb ≠ ob) (hk : KnownAt W kb (acts gn n k)) :
    RowsAt (W.setCell ⟨ob, k, none⟩ (.slice (some ⟨kb, 0, none⟩) n n)) ob n gn (k + 1) := fun i hi => by
  by_cases e : i = k
  · subst e
    exact ⟨kb, hkb, World.cell?_setCell_same _ _ _ hu, known_other hk (fun h => hkb h.symm) _⟩
  · obtain ⟨kc, h1, h2, h3⟩ := h i (by omega)
    refine ⟨kc, h1, ?_, known_other h3 (fun h => h1 h.symm) _⟩
    rw [World.cell?_setCell_other _ _ _ _ (by intro h; injection h with _ h; exact e h.symm)]
    exact h2

/-- cells that may be written. -/
def Slots (W : World) (ob n : Nat) : Prop := ∀ i, i < n → (∃ u, W.cell? ⟨ob, i, none⟩ = some u) ∧ W.frozen? ⟨ob, i, none⟩ = false

theorem slots_over {W W' : World} {ob n : Nat} (h : Slots W ob n) (hb : Below W.heap.size W W') : Slots W' ob n := fun i hi => by
  obtain ⟨⟨u, h1⟩, h2⟩ := h i hi
  have hlt := World.block_lt_of_cell? W _ h1
  exact ⟨⟨u, by rw [(bcell hb).1 _ _ hlt]; exact h1⟩, by rw [(bcell hb).2 _ _ hlt]; exact h2⟩

theorem slots_set {W : World} {ob n k : Nat} (h : Slots W ob n) (hk : k < n) (v : Value) : Slots (W.setCell ⟨ob, k, none⟩ v) ob n := fun i hi => by
  obtain ⟨⟨u, h1⟩, h2⟩ := h i hi
  refine ⟨?_, by rw [World.frozen?_setCell]; exact h2⟩
  by_cases e : k = i
  · subst e
    exact ⟨v, World.cell?_setCell_same _ _ _ h1⟩
  · exact ⟨u, by rw [World.cell?_setCell_other _ _ _ _ (by intro h; injection h with _ h; exact e h)]; exact h1⟩

def ForSt (w : World) (n : Nat) (v : Value) (gn : List (Nat × Nat)) (ob k : Nat) (W : World) : Prop :=
  W.cell? ⟨w.heap.size, 0, none⟩ = some (.int .i64 n) ∧ W.cell? ⟨w.heap.size, 1, none⟩ = some v ∧ Slots W ob n ∧ RowsAt W ob n gn k ∧ Below w.heap.size w W ∧ w.heap.size < ob ∧ ob < W.heap.size

theorem ForSt.over {w W W' : World} {n ob k : Nat} {v : Value} {gn : List (Nat × Nat)} (h : ForSt w n v gn ob k W) (hb : Below W.heap.size W W') : ForSt w n v gn ob k W' := by
  obtain ⟨h0, h1, h2, h3, h4, h5, h6⟩ := h
  obtain ⟨hc, hf⟩ := bcell hb
  refine ⟨?_, ?_, slots_over h2 hb, rows_over h3 hb, h4.trans (hb.mono h4.size), h5, Nat.lt_of_lt_of_le h6 hb.size⟩
  · rw [hc _ _ (World.block_lt_of_cell? W _ h0)]; exact h0
  · rw [hc _ _ (World.block_lt_of_cell? W _ h1)]; exact h1

set_option maxHeartbeats 1000000 in
theorem for_ok (n : Nat) (h1 : 1 ≤ n) (hn : n ≤ 6) (v : Value) (gn : List (Nat × Nat)) (w : World) (hv : IsGrants w v (gn.map toI)) (hlen : gn.length ≤ 20) (hb : ∀ g ∈ gn, g.1 < n ∧ g.2 < n) (hE : chkErr n (gn.map toI) = 0) :
    Calls Try.prog 28 #[.agg #[.int .i64 n, v]] w fun e w' => ∃ ob, e = .returned (.tuple #[.slice (some ⟨ob, 0, none⟩) n n, .int .i64 0]) ∧ RowsAt w' ob n gn n ∧ Below w.heap.size w w' := by
  have hmk := fun w => make25 n hn w
  have hbel : Below w.heap.size w (w.alloc (.cells #[.int .i64 n, v] 24)) := (Below.refl _ w).alloc (Nat.le_refl _) _
  have hC := check_any n v (gn.map toI) (w.alloc (.cells #[.int .i64 n, v] 24)) (isGrants_over hv hbel)
  rw [hE] at hC
  have HC := hide hC
  have HA := hide fun (who : Nat) (hw : who < n) (W : World) (hW : Below w.heap.size w W) => actsFor_any n who hn hw v gn W (isGrants_over hv hW) hlen hb
  clear hC hE hv
  go_enter Try.func28, Try.ntmps28
  go_wp2_with fail
  refine (HC.out).mono ?_
  rintro e w1 ⟨rfl, hb1⟩
  obtain ⟨hc, hf⟩ := bcell hb1
  have c0 : w1.cell? ⟨w.heap.size, 0, none⟩ = some (.int .i64 n) := by rw [hc _ _ (by simp)]; simp [go_sem]
  have c1 : w1.cell? ⟨w.heap.size, 1, none⟩ = some v := by rw [hc _ _ (by simp)]; simp [go_sem]
  have hbel1 : Below w.heap.size w w1 := hbel.trans (hb1.mono (by simp))
  have hz : w.heap.size < w1.heap.size := World.block_lt_of_cell? w1 _ c0
  have hst : ForSt w n v gn w1.heap.size 0 (w1.alloc (.cells (List.replicate n (Value.slice none 0 0)).toArray 28)) := by
    have hal : Below w1.heap.size w1 (w1.alloc (.cells (List.replicate n (Value.slice none 0 0)).toArray 28)) := (Below.refl _ w1).alloc (Nat.le_refl _) _
    refine ⟨?_, ?_, fun i hi => ⟨⟨.slice none 0 0, by simp [go_sem, hi]⟩, by simp [go_sem]⟩, fun i hi => absurd hi (Nat.not_lt_zero _), hbel1.trans (hal.mono (by omega)), hz, by simp⟩
    · rw [(bcell hal).1 _ _ hz]; exact c0
    · rw [(bcell hal).1 _ _ hz]; exact c1
  clear HC hc hf hb1 hbel
  go_wp2_with fail
  go_loopw [17] (fun i wr => ∃ k : Nat, k ≤ n ∧ i = .int .i64 k ∧ ForSt w n v gn w1.heap.size k wr) (fun i _ => n - (intOf i).toNat)
  case atStart => exact ⟨0, Nat.zero_le _, rfl, by simpa using hst⟩
  case round =>
    clear hst hmk c0 c1
    obtain ⟨k, hk, rfl, hs1⟩ := hrel
    by_cases hkn : k < n
    · have HS := hide hs1
      obtain ⟨s0, s1, -, -, s4, -, s6⟩ := hs1
      go_wp2_with fail
      refine (HA.out k hkn _ s4).mono ?_
      rintro e w2 ⟨kb, hkb, hkb2, rfl, hkn2, hb2⟩
      have hs2 := HS.out.over hb2
      clear s0 s1 s4
      obtain ⟨⟨u, d1⟩, d2⟩ := hs2.2.2.1 k hkn
      have hne : kb ≠ w1.heap.size := by omega
      have hs3 : ForSt w n v gn w1.heap.size (k + 1) (w2.setCell ⟨w1.heap.size, k, none⟩ (.slice (some ⟨kb, 0, none⟩) n n)) := by
        obtain ⟨r0, r1, r2, r3, r4, r5, r6⟩ := hs2
        refine ⟨?_, ?_, slots_set r2 hkn _, rows_set r3 d1 hne hkn2, r4.setCell (by simp; omega) _, r5, by simpa using r6⟩
        · rw [World.cell?_setCell_other _ _ _ _ (by simp)]; exact r0
        · rw [World.cell?_setCell_other _ _ _ _ (by simp)]; exact r1
      clear hs2 HS hkn2
      go_wp2_with fail
      exact ⟨⟨k + 1, by omega, by go_num, hs3⟩, by simp [intOf]; omega⟩
    · have hke : k = n := by omega
      subst hke
      obtain ⟨-, -, -, s3, s4, -, -⟩ := hs1
      go_wp2_with fail
      go_ret2
      exact ⟨w1.heap.size, rfl, s3, s4⟩

set_option maxHeartbeats 1000000 in
theorem for_bad (m : Int) (v : Value) (gs : List (Int × Int)) (w : World) (hv : IsGrants w v gs) (hE : chkErr m gs ≠ 0) :
    Calls Try.prog 28 #[.agg #[.int .i64 m, v]] w fun e w' => e = .returned (.tuple #[.slice none 0 0, .int .i64 (chkErr m gs)]) ∧ Below w.heap.size w w' := by
  have hbel : Below w.heap.size w (w.alloc (.cells #[.int .i64 m, v] 24)) := (Below.refl _ w).alloc (Nat.le_refl _) _
  have hC := check_any m v gs (w.alloc (.cells #[.int .i64 m, v] 24)) (isGrants_over hv hbel)
  obtain ⟨r, hr⟩ : ∃ r, r = chkErr m gs := ⟨_, rfl⟩
  rw [← hr] at hC hE ⊢
  have hne : (r != 0) = true := by simpa using hE
  have HC := hide hC
  clear hC hr hv
  go_enter Try.func28, Try.ntmps28
  go_wp2_with fail
  refine (HC.out).mono ?_
  rintro e w1 ⟨rfl, hb1⟩
  have hbel1 : Below w.heap.size w w1 := hbel.trans (hb1.mono (by simp))
  clear HC
  go_wp2_with fail
  go_ret2
  exact ⟨rfl, hbel1⟩

/-- what Acts answers: does one act for another; an error. -/
def actsErr (m : Int) (gs : List (Int × Int)) (who other : Int) : Int := if chkErr m gs = 0 then (if isOne m who = true ∧ isOne m other = true then 0 else 5) else chkErr m gs
def actsAns (m : Int) (gs : List (Int × Int)) (who other : Int) : Bool := decide (actsErr m gs who other = 0) && ((acts (gnOf gs) m.toNat who.toNat)[other.toNat]?.getD false)

end Go.Proofs.Ytekgnjifopgboaa
