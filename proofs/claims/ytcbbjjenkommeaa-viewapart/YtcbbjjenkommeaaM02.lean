/- actors.Check and the document's own check answer alike, whatever they are handed. -/
import Derived.Test.YtcbbjjenkommeaaM01
import Derived.Laws.MakeOwn
import Derived.WalkSmall
import Derived.WalkKit
import Derived.WalkSpells
import Derived.WalkLawsBesides
import Derived.Deep.RegionHeld3
import Derived.Deep.CutRange
import Derived.Maps.AppendAt
namespace Go.Proofs.Ytcbbjjenkommeaa
open Go.RowKit
set_option linter.unusedVariables false
def badG (m : Int) (g : Int × Int) : Bool := !isOne m g.1 || !isOne m g.2
def chkErr (m : Int) (gs : List (Int × Int)) : Int := if 1 ≤ m ∧ m ≤ 6 then (if gs.length ≤ 20 then (if gs.any (badG m) = true then 5 else 0) else 2) else 3

theorem call17 (args : Array Value) (w : World) : (callFunc 120 args).run Try.prog w = .ok (.enter 120 args) w := by simp [go_sem]
theorem call18 (args : Array Value) (w : World) : (callFunc 145 args).run Try.prog w = .ok (.enter 145 args) w := by simp [go_sem]

set_option maxHeartbeats 400000 in
theorem chkOne_any (m : Int) (s : Value) (b : Nat) (g : Int × Int) (w : World) (h0 : w.cell? ⟨b, 0, none⟩ = some (.int .i64 m)) (h1 : w.cell? ⟨b, 1, none⟩ = some s) :
    Calls Try.prog 120 #[.agg #[.int .i64 g.1, .int .i64 g.2], .pointer (some ⟨b, 0, none⟩)] w fun e w' => e = .returned (.bool (badG m g)) ∧ Below w.heap.size w w' := by
  obtain ⟨g0, g1⟩ := g
  have hlt := World.block_lt_of_cell? w _ h0
  have hne : b ≠ w.heap.size := by have : b < w.heap.size := hlt; omega
  simp only
  have H1 := fun w => isOne_any m g0 s w
  have H2 := fun w => isOne_any m g1 s w
  obtain ⟨r1, hr1⟩ : ∃ r, r = isOne m g0 := ⟨_, rfl⟩
  obtain ⟨r2, hr2⟩ : ∃ r, r = isOne m g1 := ⟨_, rfl⟩
  have hbad : badG m (g0, g1) = (!r1 || !r2) := by rw [hr1, hr2]; rfl
  rw [← hr1] at H1
  rw [← hr2] at H2
  rw [hbad]
  have K1 := hide H1
  have K2 := hide H2
  clear H1 H2 hr1 hr2 hbad
  have hal : Below w.heap.size w (w.alloc (.cells #[.int .i64 g0, .int .i64 g1] 141)) := (Below.refl _ w).alloc (Nat.le_refl _) _
  cases r1 with
  | true =>
    go_enter Try.func120, Try.ntmps120
    go_wp2_with fail
    refine (K1.out _).mono ?_
    rintro e w1 ⟨rfl, hb1⟩
    obtain ⟨hc, hf⟩ := bcell hb1
    have hlt2 : b < (w.alloc (.cells #[.int .i64 g0, .int .i64 g1] 141)).heap.size := by simp; exact Nat.lt_succ_of_lt hlt
    have c0 : w1.cell? ⟨b, 0, none⟩ = some (.int .i64 m) := by rw [hc _ _ hlt2, (bcell hal).1 _ _ hlt]; exact h0
    have c1 : w1.cell? ⟨b, 1, none⟩ = some s := by rw [hc _ _ hlt2, (bcell hal).1 _ _ hlt]; exact h1
    have e1 : w1.cell? ⟨w.heap.size, 1, none⟩ = some (.int .i64 g1) := by rw [hc _ _ (by simp)]; simp [go_sem]
    have hbel : Below w.heap.size w w1 := hal.trans (hb1.mono (by simp))
    clear hc hf hb1
    go_wp2_with fail
    refine (K2.out _).mono ?_
    rintro e w2 ⟨rfl, hb2⟩
    have hbel2 : Below w.heap.size w w2 := hbel.trans (hb2.mono hbel.size)
    go_wp2_with fail
    go_ret
    exact ⟨by simp, hbel2⟩
  | false =>
    go_enter Try.func120, Try.ntmps120
    go_wp2_with fail
    refine (K1.out _).mono ?_
    rintro e w1 ⟨rfl, hb1⟩
    have hbel : Below w.heap.size w w1 := hal.trans (hb1.mono (by simp))
    go_wp2_with fail
    go_ret
    exact ⟨by simp, hbel⟩

theorem idx_any (p : Int × Int → Bool) (gs : List (Int × Int)) : decide (0 ≤ idxOf p gs) = gs.any p := by
  unfold idxOf
  cases h : gs.findIdx? p with
  | none =>
    have : gs.any p = false := by rw [List.any_eq_false]; intro x hx; have := (List.findIdx?_eq_none_iff.1 h) x hx; simpa using this
    rw [this]; rfl
  | some i =>
    obtain ⟨hi, hp, _⟩ := List.findIdx?_eq_some_iff_getElem.1 h
    have : gs.any p = true := List.any_eq_true.2 ⟨_, List.getElem_mem hi, hp⟩
    rw [this]; simp

set_option maxHeartbeats 400000 in
theorem containsFunc_any (m : Int) (s : Value) (b : Nat) (v : Value) (gs : List (Int × Int)) (w : World) (hv : IsGrants w v gs) (hn : gs.length ≤ 20)
    (h0 : w.cell? ⟨b, 0, none⟩ = some (.int .i64 m)) (h1 : w.cell? ⟨b, 1, none⟩ = some s) :
    Calls Try.prog 119 #[v, .func (.func 120) #[] #[.pointer (some ⟨b, 0, none⟩)]] w fun e w' => e = .returned (.bool (gs.any (badG m))) ∧ Below w.heap.size w w' := by
  have hI := indexFunc_any 120 (.pointer (some ⟨b, 0, none⟩)) (badG m) v gs w hv hn (hide fun i hi w1 hb => by
    have hlt := World.block_lt_of_cell? w _ h0
    exact chkOne_any m s b gs[i] w1 (by rw [(bcell hb).1 _ _ hlt]; exact h0) (by rw [(bcell hb).1 _ _ hlt]; exact h1)) call17
  have hx := idx_any (badG m) gs
  obtain ⟨r, hr⟩ : ∃ r, r = idxOf (badG m) gs := ⟨_, rfl⟩
  rw [← hr] at hI hx
  rw [← hx]
  have HI := hide hI
  clear hI hx hr hv
  obtain ⟨u, hu⟩ : ∃ u, u = v := ⟨_, rfl⟩
  go_enter Try.func119, Try.ntmps119
  go_wp2_with fail
  refine (HI.out).mono ?_
  rintro e w1 ⟨rfl, hb1⟩
  go_wp2_with fail
  go_ret
  exact ⟨by simp, hb1⟩

set_option maxHeartbeats 1000000 in
theorem check_any (m : Int) (v : Value) (gs : List (Int × Int)) (w : World) (hv : IsGrants w v gs) :
    Calls Try.prog 88 #[.agg #[.int .i64 m, v]] w fun e w' => e = .returned (.int .i64 (chkErr m gs)) ∧ Below w.heap.size w w' := by
  have hbel : Below w.heap.size w (w.alloc (.cells #[.int .i64 m, v] 35)) := (Below.refl _ w).alloc (Nat.le_refl _) _
  by_cases h1 : m < 1
  · have hE : chkErr m gs = 3 := by unfold chkErr; rw [if_neg (by omega)]
    have HE := hide hE
    clear hE
    go_enter Try.func88, Try.ntmps88
    go_wp2_with fail
    go_ret
    exact ⟨by rw [HE.out]; rfl, hbel⟩
  by_cases h6 : 6 < m
  · have hE : chkErr m gs = 3 := by unfold chkErr; rw [if_neg (by omega)]
    have HE := hide hE
    clear hE
    go_enter Try.func88, Try.ntmps88
    go_wp2_with fail
    go_ret
    exact ⟨by rw [HE.out]; rfl, hbel⟩
  have hvo := isGrants_over hv hbel
  obtain ⟨ao, cap, hve, -⟩ := hv
  by_cases hn : gs.length ≤ 20
  · have hE : chkErr m gs = if gs.any (badG m) = true then 5 else 0 := by unfold chkErr; rw [if_pos (by omega), if_pos hn]
    have hC := containsFunc_any m v w.heap.size v gs (w.alloc (.cells #[.int .i64 m, v] 35)) hvo hn (by simp [go_sem]) (by simp [go_sem])
    obtain ⟨r, hr⟩ : ∃ r, r = gs.any (badG m) := ⟨_, rfl⟩
    rw [← hr] at hE hC
    subst hve
    have HE := hide hE
    have HC := hide hC
    clear hE hC hr hvo
    cases r with
    | true =>
      go_enter Try.func88, Try.ntmps88
      go_wp2_with fail
      refine (HC.out).mono ?_
      rintro e w1 ⟨rfl, hb1⟩
      have hbel1 : Below w.heap.size w w1 := hbel.trans (hb1.mono (by simp))
      go_wp2_with fail
      go_ret
      exact ⟨by rw [HE.out]; rfl, hbel1⟩
    | false =>
      go_enter Try.func88, Try.ntmps88
      go_wp2_with fail
      refine (HC.out).mono ?_
      rintro e w1 ⟨rfl, hb1⟩
      have hbel1 : Below w.heap.size w w1 := hbel.trans (hb1.mono (by simp))
      go_wp2_with fail
      go_ret
      exact ⟨by rw [HE.out]; rfl, hbel1⟩
  · have hE : chkErr m gs = 2 := by unfold chkErr; rw [if_pos (by omega), if_neg hn]
    have HE := hide hE
    subst hve
    clear hE hvo
    go_enter Try.func88, Try.ntmps88
    go_wp2_with fail
    go_ret
    exact ⟨by rw [HE.out]; rfl, hbel⟩
def toI (g : Nat × Nat) : Int × Int := ((g.1 : Int), (g.2 : Int))

/-- bools that lie in a block of their own. -/
def KnownAt (w : World) (kb : Nat) (l : List Bool) : Prop := ∀ i (h : i < l.length), w.cell? ⟨kb, i, none⟩ = some (.bool l[i]) ∧ w.frozen? ⟨kb, i, none⟩ = false

theorem known_over {w w' : World} {kb : Nat} {l : List Bool} (h : KnownAt w kb l) (hb : Below w.heap.size w w') : KnownAt w' kb l := fun i hi => by
  obtain ⟨h1, h2⟩ := h i hi
  have hlt := World.block_lt_of_cell? w _ h1
  exact ⟨by rw [(bcell hb).1 _ _ hlt]; exact h1, by rw [(bcell hb).2 _ _ hlt]; exact h2⟩

theorem known_set {w : World} {kb : Nat} {l : List Bool} (h : KnownAt w kb l) {j : Nat} (hj : j < l.length) (c : Bool) : KnownAt (w.setCell ⟨kb, j, none⟩ (.bool c)) kb (l.set j c) := fun i hi => by
  have hi' : i < l.length := by simpa using hi
  obtain ⟨h1, h2⟩ := h i hi'
  refine ⟨?_, ?_⟩
  · by_cases e : j = i
    · subst e
      rw [World.cell?_setCell_same _ _ _ h1]
      simp
    · rw [World.cell?_setCell_other _ _ _ _ (by intro h; exact e (by injection h)), List.getElem_set_ne e]
      exact h1
  · rw [World.frozen?_setCell]
    exact h2

/-- the heads of what must be known of a closure over them. -/
def leads (l : List Bool) (g : Int × Int) : Bool := (l[g.1.toNat]?.getD false) && !(l[g.2.toNat]?.getD false)

set_option maxHeartbeats 400000 in
theorem leads_any (kp kb : Nat) (l : List Bool) (g : Nat × Nat) (w : World) (hl : l.length ≤ 6) (hkp : w.cell? ⟨kp, 0, none⟩ = some (.slice (some ⟨kb, 0, none⟩) l.length l.length)) (hk : KnownAt w kb l)
    (h0 : g.1 < l.length) (h1 : g.2 < l.length) :
    Calls Try.prog 145 #[.agg #[.int .i64 (toI g).1, .int .i64 (toI g).2], .pointer (some ⟨kp, 0, none⟩)] w fun e w' => e = .returned (.bool (leads l (toI g))) ∧ Below w.heap.size w w' := by
  obtain ⟨g0, g1⟩ := g
  simp only [toI] at h0 h1 ⊢
  have hle : leads l ((g0 : Int), (g1 : Int)) = (l[g0] && !l[g1]) := by simp [leads, h0, h1]
  rw [hle]
  obtain ⟨c0, -⟩ := hk g0 h0
  obtain ⟨c1, -⟩ := hk g1 h1
  obtain ⟨b0, e0⟩ : ∃ r, r = l[g0] := ⟨_, rfl⟩
  obtain ⟨b1, e1⟩ : ∃ r, r = l[g1] := ⟨_, rfl⟩
  rw [← e0] at c0
  rw [← e1] at c1
  rw [← e0, ← e1]
  have lt1 := World.block_lt_of_cell? w _ hkp
  have lt2 := World.block_lt_of_cell? w _ c0
  have hbel : Below w.heap.size w (w.alloc (.cells #[.int .i64 g0, .int .i64 g1] 141)) := (Below.refl _ w).alloc (Nat.le_refl _) _
  clear e0 e1 hle hk
  cases b0 with
  | true =>
    go_enter Try.func145, Try.ntmps145
    go_wp2_with fail
    go_ret
    exact ⟨by simp, hbel⟩
  | false =>
    go_enter Try.func145, Try.ntmps145
    go_wp2_with fail
    go_ret
    exact ⟨by simp, hbel⟩

theorem Try.info4 : (Try.prog.info? 4).map (fun i => (i.zero, i.size, i.bytes)) = some (some (.bool false), 1, 1) := by kernel_rfl

theorem make35 (n : Nat) (hn : n ≤ 6) (w : World) : (Instr.makeSlice 60 (.int .i64 n) (.int .i64 n)).run Try.prog w = .ok (.slice (some ⟨w.heap.size, 0, none⟩) n n) (w.alloc (.cells (List.replicate n (Value.bool false)).toArray 4)) := by
  cases hi : Try.prog.info? 4 with
  | none => have := Try.info4; rw [hi] at this; cases this
  | some i =>
    have h4 := Try.info4
    rw [hi] at h4
    simp only [Option.map_some, Option.some.injEq, Prod.mk.injEq] at h4
    obtain ⟨hz, h1, h2⟩ := h4
    have := run_make (P := Try.prog) w 60 4 i (.bool false) Try.underlying60 hi hz .i64 .i64 (n : Int) (n : Int) (by omega) (by omega) (by rw [h2]; omega) (by omega)
    rw [this, h1]
    simp only [Int.toNat_natCast, Nat.mul_one]
    have e : madeCells (Value.bool false).cells n = (List.replicate n (Value.bool false)).toArray := by
      apply Array.ext
      · simp [madeCells]
      · intro j h1 h2
        simp [madeCells, Value.cells, Nat.mod_one]
    rw [e]

/-- where actsFor stands. -/
def ActsSt (w : World) (n : Nat) (v : Value) (l : List Bool) (W : World) : Prop :=
  W.cell? ⟨w.heap.size, 0, none⟩ = some (.int .i64 n) ∧ W.cell? ⟨w.heap.size, 1, none⟩ = some v ∧ W.cell? ⟨w.heap.size + 1 + 1, 0, none⟩ = some (.slice (some ⟨w.heap.size + 1, 0, none⟩) n n) ∧ KnownAt W (w.heap.size + 1) l ∧ Below w.heap.size w W

theorem ActsSt.over {w W W' : World} {n : Nat} {v : Value} {l : List Bool} (h : ActsSt w n v l W) (hb : Below W.heap.size W W') : ActsSt w n v l W' := by
  obtain ⟨h0, h1, h2, h3, h4⟩ := h
  obtain ⟨hc, hf⟩ := bcell hb
  refine ⟨?_, ?_, ?_, known_over h3 hb, h4.trans (hb.mono h4.size)⟩
  · rw [hc _ _ (World.block_lt_of_cell? W _ h0)]; exact h0
  · rw [hc _ _ (World.block_lt_of_cell? W _ h1)]; exact h1
  · rw [hc _ _ (World.block_lt_of_cell? W _ h2)]; exact h2

theorem actsSt_idx {w W : World} {n : Nat} {v : Value} {l : List Bool} {gn : List (Nat × Nat)} (hn : n ≤ 6) (h : ActsSt w n v l W) (hl : l.length = n) (hv : IsGrants w v (gn.map toI)) (hlen : gn.length ≤ 20) (hb : ∀ g ∈ gn, g.1 < n ∧ g.2 < n) :
    Calls Try.prog 146 #[v, .func (.func 145) #[] #[.pointer (some ⟨w.heap.size + 1 + 1, 0, none⟩)]] W fun e w' => e = .returned (.int .i64 (idxOf (leads l) (gn.map toI))) ∧ ActsSt w n v l w' := by
  refine (indexFunc_any 145 (.pointer (some ⟨w.heap.size + 1 + 1, 0, none⟩)) (leads l) v (gn.map toI) W (isGrants_over hv h.2.2.2.2) (by simpa using hlen) (hide fun i hi w1 hb1 => ?_) call18).mono ?_
  · have hi' : i < gn.length := by simpa using hi
    have hs := h.over hb1
    have hg := hb gn[i] (List.getElem_mem hi')
    have := leads_any (w.heap.size + 1 + 1) (w.heap.size + 1) l gn[i] w1 (by omega) (by rw [hl]; exact hs.2.2.1) hs.2.2.2.1 (by omega) (by omega)
    simpa using this
  · rintro e w' ⟨rfl, hb1⟩
    exact ⟨rfl, h.over hb1⟩

def isF : Option Value → Bool
  | some (.bool false) => true
  | _ => false
def falses (kb n : Nat) (W : World) : Nat := (List.range n).countP fun i => isF (W.cell? ⟨kb, i, none⟩)

theorem falses_eq {W : World} {kb : Nat} {l : List Bool} (h : KnownAt W kb l) : falses kb l.length W = l.count false := by
  have : l = (List.range l.length).map fun i => l[i]?.getD false := by
    apply List.ext_getElem
    · simp
    · intro i h1 h2
      simp [h1]
  unfold falses
  conv => rhs; rw [this]
  rw [List.count_eq_countP, List.countP_map]
  apply List.countP_congr
  intro i hi
  have hi' : i < l.length := by simpa using hi
  rw [(h i hi').1]
  simp only [Function.comp, hi', List.getElem?_eq_getElem, Option.getD_some]
  cases l[i] <;> simp [isF]

theorem count_set_false {l : List Bool} {j : Nat} (hj : j < l.length) (h : l[j] = false) : (l.set j true).count false < l.count false := by
  rw [List.count_set hj]
  have hm : 0 < l.count false := List.count_pos_iff.2 (List.mem_iff_getElem.2 ⟨j, hj, h⟩)
  simp [h]
  omega

theorem idx_split (l : List Bool) (gn : List (Nat × Nat)) (n : Nat) (hl : l.length = n) (hb : ∀ g ∈ gn, g.1 < n ∧ g.2 < n) :
    (idxOf (leads l) (gn.map toI) = -1 ∧ Closed gn l) ∨ ∃ (k : Nat) (h : k < gn.length), idxOf (leads l) (gn.map toI) = k ∧ l[gn[k].1]? = some true ∧ l[gn[k].2]? = some false := by
  have hd : ∀ g ∈ gn, leads l (toI g) = true ↔ l[g.1]? = some true ∧ l[g.2]? = some false := fun g hg => by
    obtain ⟨h0, h1⟩ := hb g hg
    have e0 : l[g.1]? = some l[g.1] := List.getElem?_eq_getElem (by omega)
    have e1 : l[g.2]? = some l[g.2] := List.getElem?_eq_getElem (by omega)
    simp only [leads, toI, Int.toNat_natCast, e0, e1, Option.getD_some, Option.some.injEq]
    cases l[g.1] <;> cases l[g.2] <;> simp
  unfold idxOf
  cases hf : (gn.map toI).findIdx? (leads l) with
  | none =>
    left
    refine ⟨rfl, fun g hg hk => ?_⟩
    have h1 := (List.findIdx?_eq_none_iff.1 hf) (toI g) (List.mem_map_of_mem hg)
    have h2 : ¬ (l[g.1]? = some true ∧ l[g.2]? = some false) := fun h => by rw [(hd g hg).2 h] at h1; cases h1
    have hg2 : g.2 < l.length := by have := hb g hg; omega
    have e1 : l[g.2]? = some l[g.2] := List.getElem?_eq_getElem hg2
    rw [e1] at h2 ⊢
    cases hx : l[g.2] with
    | true => rfl
    | false => exact absurd ⟨hk, by rw [hx]⟩ h2
  | some k =>
    right
    obtain ⟨hi, hp, _⟩ := List.findIdx?_eq_some_iff_getElem.1 hf
    have hi' : k < gn.length := by simpa using hi
    have hp' : leads l (toI gn[k]) = true := by simpa using hp
    exact ⟨k, hi', rfl, (hd _ (List.getElem_mem hi')).1 hp'⟩

set_option maxHeartbeats 1000000 in
theorem actsFor_any (n who : Nat) (hn : n ≤ 6) (hw : who < n) (v : Value) (gn : List (Nat × Nat)) (w : World) (hv : IsGrants w v (gn.map toI)) (hlen : gn.length ≤ 20) (hb : ∀ g ∈ gn, g.1 < n ∧ g.2 < n) :
    Calls Try.prog 117 #[.agg #[.int .i64 n, v], .int .i64 who] w fun e w' => ∃ kb, w.heap.size ≤ kb ∧ kb < w'.heap.size ∧ e = .returned (.slice (some ⟨kb, 0, none⟩) n n) ∧ KnownAt w' kb (acts gn n who) ∧ Below w.heap.size w w' := by
  have hmk := fun w => make35 n hn w
  have hst : ActsSt w n v (start n who) (((w.alloc (Obj.cells #[Value.int IntKind.i64 n, v] 35)).alloc (Obj.cells ((Array.replicate n (Value.bool false)).setIfInBounds who (Value.bool true)) 4)).alloc (Obj.cells #[Value.slice (some { block := w.heap.size + 1, off := 0 }) n n] 60)) := by
    refine ⟨by simp [go_sem], by simp [go_sem], by simp [go_sem], fun i hi => ?_, ?_⟩
    · have hi' : i < n := by simpa [start] using hi
      refine ⟨?_, by simp [go_sem]⟩
      simp [go_sem, start, List.getElem_set, hi']
      by_cases e : who = i
      · simp [e]
      · simp [e, hi']
    · exact (((Below.refl _ w).alloc (Nat.le_refl _) _).alloc (by simp) _).alloc (by simp; omega) _
  have HI := hide (actsSt_idx hn hst (start_length n who) hv hlen hb)
  clear hst
  go_enter Try.func117, Try.ntmps117
  go_wp2_with fail
  refine (HI.out).mono ?_
  rintro e w1 ⟨rfl, hst⟩
  clear HI hmk
  go_wp2_with fail
  go_loopw [7] (fun i wr => ∃ l : List Bool, l.length = n ∧ Sound gn who l ∧ i = .int .i64 (idxOf (leads l) (gn.map toI)) ∧ ActsSt w n v l wr) (fun _ wr => falses (w.heap.size + 1) n wr)
  case atStart => exact ⟨_, start_length n who, start_sound gn hw, rfl, hst⟩
  case round =>
    obtain ⟨l, hl, hsd, rfl, hst2⟩ := hrel
    clear hst
    rcases idx_split l gn n hl hb with ⟨hi, hcl⟩ | ⟨k, hk, hi, hkt, hkf⟩
    · have he : l = acts gn n who := acts_one hw (fun g hg => (hb g hg).2) hl hsd hcl
      rw [hi]
      obtain ⟨s0, s1, s2, s3, s4⟩ := hst2
      have hz := World.block_lt_of_cell? wr _ s2
      have hz' : w.heap.size + 1 < wr.heap.size := by have : w.heap.size + 1 + 1 < wr.heap.size := hz; omega
      rw [he] at s3
      clear hcl hsd he hi
      go_wp2_with fail
      go_ret
      exact ⟨w.heap.size + 1, by omega, hz', rfl, s3, s4⟩
    · obtain ⟨hg1, hg2⟩ := hb _ (List.getElem_mem hk)
      have hs1 := hst2
      obtain ⟨s0, s1, s2, s3, s4⟩ := hst2
      obtain ⟨ao, cap, hve, hcc⟩ := hv
      rw [List.length_map] at hve
      subst hve
      obtain ⟨b, off, rfl, hcl⟩ := hcc (by intro h; rw [List.map_eq_nil_iff] at h; rw [h] at hk; simp at hk)
      obtain ⟨q0, q1⟩ := hcl k (by simpa using hk)
      have hlt := World.block_lt_of_cell? w _ q0
      rw [← (bcell s4).1 _ _ hlt] at q0 q1
      simp only [List.getElem_map, toI] at q0 q1
      obtain ⟨d1, d2⟩ := s3 gn[k].2 (by omega)
      have hfal : l[gn[k].2] = false := by have := hkf; rw [List.getElem?_eq_getElem (by omega)] at this; exact Option.some.inj this
      rw [hfal] at d1
      obtain ⟨gw, hgw⟩ : ∃ r, r = gn[k].1 := ⟨_, rfl⟩
      obtain ⟨gf, hgf⟩ : ∃ r, r = gn[k].2 := ⟨_, rfl⟩
      simp only [← hgw, ← hgf] at q0 q1 d1 d2 hg1 hg2 hkt hkf hfal
      rw [hi]
      have hset := known_set (w := wr.drew) s3 (j := gf) (by omega) true
      have hsn : Sound gn who (l.set gf true) := by rw [hgf]; exact sound_set hsd (List.getElem_mem hk) (by rw [← hgw]; exact hkt)
      have hln : (l.set gf true).length = n := by simpa using hl
      have hlm : falses (w.heap.size + 1) n wr = l.count false := by rw [← hl]; exact falses_eq s3
      have hct := count_set_false (l := l) (j := gf) (by omega) hfal
      have hst3 : ActsSt w n (.slice (some ⟨b, off, none⟩) gn.length cap) (l.set gf true) (wr.drew.setCell ⟨w.heap.size + 1, gf, none⟩ (.bool true)) := by
        refine ⟨?_, ?_, ?_, hset, (below_drewN s4 1).setCell (by simp) _⟩
        · rw [World.cell?_setCell_other _ _ _ _ (by simp)]; exact s0
        · rw [World.cell?_setCell_other _ _ _ _ (by simp)]; exact s1
        · rw [World.cell?_setCell_other _ _ _ _ (by simp)]; exact s2
      have hv' : IsGrants w (.slice (some ⟨b, off, none⟩) gn.length cap) (gn.map toI) := ⟨_, _, by rw [List.length_map], hcc⟩
      have HI := hide (actsSt_idx hn hst3 hln hv' hlen hb)
      obtain ⟨t0, t1, t2, -, -⟩ := hst3
      have HS := hide hsn
      clear hcl hcc hset hsn hsd hs1 hv' s3 hkt hkf hfal hgw hgf hb q0
      go_wp2_with fail
      go_region
      go_wp2_with fail
      refine (HI.out).mono ?_
      rintro e w2 ⟨rfl, hst4⟩
      clear HI
      go_wp2_with fail
      refine ⟨⟨l.set gf true, hln, HS.out, rfl, hst4⟩, ?_⟩
      have h1 := falses_eq hst4.2.2.2.1
      rw [hln] at h1
      omega
def gnOf (gs : List (Int × Int)) : List (Nat × Nat) := gs.map fun g => (g.1.toNat, g.2.toNat)

theorem chk_ok {m : Int} {gs : List (Int × Int)} (h : chkErr m gs = 0) : ∃ n : Nat, m = n ∧ 1 ≤ n ∧ n ≤ 6 ∧ (gnOf gs).map toI = gs ∧ (gnOf gs).length ≤ 20 ∧ ∀ g ∈ gnOf gs, g.1 < n ∧ g.2 < n := by
  unfold chkErr at h
  split at h
  · split at h
    · split at h
      · cases h
      · rename_i hm hl hb
        have hb' : ∀ g ∈ gs, isOne m g.1 = true ∧ isOne m g.2 = true := fun g hg => by
          have h1 : ¬ badG m g = true := fun hh => hb (List.any_eq_true.2 ⟨g, hg, hh⟩)
          simp [badG] at h1
          exact h1
        refine ⟨m.toNat, by omega, by omega, by omega, ?_, by simpa [gnOf] using hl, fun g hg => ?_⟩
        · unfold gnOf
          rw [List.map_map]
          conv => rhs; rw [← List.map_id gs]
          apply List.map_congr_left
          intro g hg
          obtain ⟨h1, h2⟩ := hb' g hg
          simp [isOne] at h1 h2
          simp only [Function.comp, toI, id]
          ext <;> simp <;> omega
        · obtain ⟨g', hg', rfl⟩ := List.mem_map.1 hg
          obtain ⟨h1, h2⟩ := hb' g' hg'
          simp [isOne] at h1 h2
          simp only
          omega
    · cases h
  · cases h

theorem Try.info35 : (Try.prog.info? 60).map (fun i => (i.zero, i.size, i.bytes)) = some (some (.slice none 0 0), 1, 24) := by kernel_rfl

theorem make25 (n : Nat) (hn : n ≤ 6) (w : World) : (Instr.makeSlice 135 (.int .i64 n) (.int .i64 n)).run Try.prog w = .ok (.slice (some ⟨w.heap.size, 0, none⟩) n n) (w.alloc (.cells (List.replicate n (Value.slice none 0 0)).toArray 60)) := by
  cases hi : Try.prog.info? 60 with
  | none => have := Try.info35; rw [hi] at this; cases this
  | some i =>
    have h4 := Try.info35
    rw [hi] at h4
    simp only [Option.map_some, Option.some.injEq, Prod.mk.injEq] at h4
    obtain ⟨hz, h1, h2⟩ := h4
    have := run_make (P := Try.prog) w 135 60 i (.slice none 0 0) Try.underlying135 hi hz .i64 .i64 (n : Int) (n : Int) (by omega) (by omega) (by rw [h2]; omega) (by omega)
    rw [this, h1]
    simp only [Int.toNat_natCast, Nat.mul_one]
    have e : madeCells (Value.slice none 0 0).cells n = (List.replicate n (Value.slice none 0 0)).toArray := by
      apply Array.ext
      · simp [madeCells]
      · intro j h1 h2
        simp [madeCells, Value.cells, Nat.mod_one]
    rw [e]

/-- rows of bools, one for each. -/
def RowsAt (W : World) (ob n : Nat) (gn : List (Nat × Nat)) (k : Nat) : Prop := ∀ i, i < k → ∃ kb, kb ≠ ob ∧ W.cell? ⟨ob, i, none⟩ = some (.slice (some ⟨kb, 0, none⟩) n n) ∧ KnownAt W kb (acts gn n i)

theorem rows_over {W W' : World} {ob n k : Nat} {gn : List (Nat × Nat)} (h : RowsAt W ob n gn k) (hb : Below W.heap.size W W') : RowsAt W' ob n gn k := fun i hi => by
  obtain ⟨kb, h1, h2, h3⟩ := h i hi
  exact ⟨kb, h1, by rw [(bcell hb).1 _ _ (World.block_lt_of_cell? W _ h2)]; exact h2, known_over h3 hb⟩

theorem known_other {w : World} {kb : Nat} {l : List Bool} (h : KnownAt w kb l) {p : Addr} (hp : p.block ≠ kb) (u : Value) : KnownAt (w.setCell p u) kb l := fun i hi => by
  obtain ⟨h1, h2⟩ := h i hi
  refine ⟨?_, ?_⟩
  · rw [World.cell?_setCell_other _ _ _ _ (by intro h; exact hp (by rw [h]))]
    exact h1
  · rw [World.frozen?_setCell]
    exact h2

theorem rows_set {W : World} {ob n k kb : Nat} {gn : List (Nat × Nat)} (h : RowsAt W ob n gn k) {u : Value} (hu : W.cell? ⟨ob, k, none⟩ = some u) (hkb : kb ≠ ob) (hk : KnownAt W kb (acts gn n k)) :
    RowsAt (W.setCell ⟨ob, k, none⟩ (.slice (some ⟨kb, 0, none⟩) n n)) ob n gn (k + 1) := fun i hi => by
  by_cases e : i = k
  · subst e
    exact ⟨kb, hkb, World.cell?_setCell_same _ _ _ hu, known_other hk (fun h => hkb h.symm) _⟩
  · obtain ⟨kc, h1, h2, h3⟩ := h i (by omega)
    refine ⟨kc, h1, ?_, known_other h3 (fun h => h1 h.symm) _⟩
    rw [World.cell?_setCell_other _ _ _ _ (by intro h; injection h with _ h; exact e h.symm)]
    exact h2

/-- cells that may be written. -/
def Slots (W : World) (ob n : Nat) : Prop := ∀ i, i < n → (∃ u, W.cell? ⟨ob, i, none⟩ = some u) ∧ W.frozen? ⟨ob, i, none⟩ = false

theorem slots_over {W W' : World} {ob n : Nat} (h : Slots W ob n) (hb : Below W.heap.size W W') : Slots W' ob n := fun i hi => by
  obtain ⟨⟨u, h1⟩, h2⟩ := h i hi
  have hlt := World.block_lt_of_cell? W _ h1
  exact ⟨⟨u, by rw [(bcell hb).1 _ _ hlt]; exact h1⟩, by rw [(bcell hb).2 _ _ hlt]; exact h2⟩

theorem slots_set {W : World} {ob n k : Nat} (h : Slots W ob n) (hk : k < n) (v : Value) : Slots (W.setCell ⟨ob, k, none⟩ v) ob n := fun i hi => by
  obtain ⟨⟨u, h1⟩, h2⟩ := h i hi
  refine ⟨?_, by rw [World.frozen?_setCell]; exact h2⟩
  by_cases e : k = i
  · subst e
    exact ⟨v, World.cell?_setCell_same _ _ _ h1⟩
  · exact ⟨u, by rw [World.cell?_setCell_other _ _ _ _ (by intro h; injection h with _ h; exact e h)]; exact h1⟩

def ForSt (w : World) (n : Nat) (v : Value) (gn : List (Nat × Nat)) (ob k : Nat) (W : World) : Prop :=
  W.cell? ⟨w.heap.size, 0, none⟩ = some (.int .i64 n) ∧ W.cell? ⟨w.heap.size, 1, none⟩ = some v ∧ Slots W ob n ∧ RowsAt W ob n gn k ∧ Below w.heap.size w W ∧ w.heap.size < ob ∧ ob < W.heap.size

theorem ForSt.over {w W W' : World} {n ob k : Nat} {v : Value} {gn : List (Nat × Nat)} (h : ForSt w n v gn ob k W) (hb : Below W.heap.size W W') : ForSt w n v gn ob k W' := by
  obtain ⟨h0, h1, h2, h3, h4, h5, h6⟩ := h
  obtain ⟨hc, hf⟩ := bcell hb
  refine ⟨?_, ?_, slots_over h2 hb, rows_over h3 hb, h4.trans (hb.mono h4.size), h5, Nat.lt_of_lt_of_le h6 hb.size⟩
  · rw [hc _ _ (World.block_lt_of_cell? W _ h0)]; exact h0
  · rw [hc _ _ (World.block_lt_of_cell? W _ h1)]; exact h1

set_option maxHeartbeats 1000000 in
theorem for_ok (n : Nat) (h1 : 1 ≤ n) (hn : n ≤ 6) (v : Value) (gn : List (Nat × Nat)) (w : World) (hv : IsGrants w v (gn.map toI)) (hlen : gn.length ≤ 20) (hb : ∀ g ∈ gn, g.1 < n ∧ g.2 < n) (hE : chkErr n (gn.map toI) = 0) :
    Calls Try.prog 79 #[.agg #[.int .i64 n, v]] w fun e w' => ∃ ob, e = .returned (.tuple #[.slice (some ⟨ob, 0, none⟩) n n, .int .i64 0]) ∧ RowsAt w' ob n gn n ∧ Below w.heap.size w w' := by
  have hmk := fun w => make25 n hn w
  have hbel : Below w.heap.size w (w.alloc (.cells #[.int .i64 n, v] 35)) := (Below.refl _ w).alloc (Nat.le_refl _) _
  have hC := check_any n v (gn.map toI) (w.alloc (.cells #[.int .i64 n, v] 35)) (isGrants_over hv hbel)
  rw [hE] at hC
  have HC := hide hC
  have HA := hide fun (who : Nat) (hw : who < n) (W : World) (hW : Below w.heap.size w W) => actsFor_any n who hn hw v gn W (isGrants_over hv hW) hlen hb
  clear hC hE hv
  go_enter Try.func79, Try.ntmps79
  go_wp2_with fail
  refine (HC.out).mono ?_
  rintro e w1 ⟨rfl, hb1⟩
  obtain ⟨hc, hf⟩ := bcell hb1
  have c0 : w1.cell? ⟨w.heap.size, 0, none⟩ = some (.int .i64 n) := by rw [hc _ _ (by simp)]; simp [go_sem]
  have c1 : w1.cell? ⟨w.heap.size, 1, none⟩ = some v := by rw [hc _ _ (by simp)]; simp [go_sem]
  have hbel1 : Below w.heap.size w w1 := hbel.trans (hb1.mono (by simp))
  have hz : w.heap.size < w1.heap.size := World.block_lt_of_cell? w1 _ c0
  have hst : ForSt w n v gn w1.heap.size 0 (w1.alloc (.cells (List.replicate n (Value.slice none 0 0)).toArray 60)) := by
    have hal : Below w1.heap.size w1 (w1.alloc (.cells (List.replicate n (Value.slice none 0 0)).toArray 60)) := (Below.refl _ w1).alloc (Nat.le_refl _) _
    refine ⟨?_, ?_, fun i hi => ⟨⟨.slice none 0 0, by simp [go_sem, hi]⟩, by simp [go_sem]⟩, fun i hi => absurd hi (Nat.not_lt_zero _), hbel1.trans (hal.mono (by omega)), hz, by simp⟩
    · rw [(bcell hal).1 _ _ hz]; exact c0
    · rw [(bcell hal).1 _ _ hz]; exact c1
  clear HC hc hf hb1 hbel
  go_wp2_with fail
  go_loopw [17] (fun i wr => ∃ k : Nat, k ≤ n ∧ i = .int .i64 k ∧ ForSt w n v gn w1.heap.size k wr) (fun i _ => n - (intOf i).toNat)
  case atStart => exact ⟨0, Nat.zero_le _, rfl, by simpa using hst⟩
  case round =>
    clear hst hmk c0 c1
    obtain ⟨k, hk, rfl, hs1⟩ := hrel
    by_cases hkn : k < n
    · have HS := hide hs1
      obtain ⟨s0, s1, -, -, s4, -, s6⟩ := hs1
      go_wp2_with fail
      refine (HA.out k hkn _ s4).mono ?_
      rintro e w2 ⟨kb, hkb, hkb2, rfl, hkn2, hb2⟩
      have hs2 := HS.out.over hb2
      clear s0 s1 s4
      obtain ⟨⟨u, d1⟩, d2⟩ := hs2.2.2.1 k hkn
      have hne : kb ≠ w1.heap.size := by omega
      have hs3 : ForSt w n v gn w1.heap.size (k + 1) (w2.setCell ⟨w1.heap.size, k, none⟩ (.slice (some ⟨kb, 0, none⟩) n n)) := by
        obtain ⟨r0, r1, r2, r3, r4, r5, r6⟩ := hs2
        refine ⟨?_, ?_, slots_set r2 hkn _, rows_set r3 d1 hne hkn2, r4.setCell (by simp; omega) _, r5, by simpa using r6⟩
        · rw [World.cell?_setCell_other _ _ _ _ (by simp)]; exact r0
        · rw [World.cell?_setCell_other _ _ _ _ (by simp)]; exact r1
      clear hs2 HS hkn2
      go_wp2_with fail
      exact ⟨⟨k + 1, by omega, by go_num, hs3⟩, by simp [intOf]; omega⟩
    · have hke : k = n := by omega
      subst hke
      obtain ⟨-, -, -, s3, s4, -, -⟩ := hs1
      go_wp2_with fail
      go_ret2
      exact ⟨w1.heap.size, rfl, s3, s4⟩
/-- a slice that holds bools. -/
def IsBools (w : World) (v : Value) (l : List Bool) : Prop :=
  ∃ ao cap, v = .slice ao l.length cap ∧ (l ≠ [] → ∃ b off, ao = some ⟨b, off, none⟩ ∧ ∀ i (h : i < l.length), w.cell? ⟨b, off + i, none⟩ = some (.bool l[i]))

theorem isBools_over {w w' : World} {v : Value} {l : List Bool} (h : IsBools w v l) (hb : Below w.heap.size w w') : IsBools w' v l := by
  obtain ⟨ao, cap, rfl, hc⟩ := h
  refine ⟨ao, cap, rfl, fun hne => ?_⟩
  obtain ⟨b, off, rfl, hcl⟩ := hc hne
  refine ⟨b, off, rfl, fun i hi => ?_⟩
  have h1 := hcl i hi
  rw [(bcell hb).1 _ _ (World.block_lt_of_cell? w _ h1)]
  exact h1

/-- a level: who may read, who may have written. -/
structure Lev where
  r : List Bool
  w : List Bool

def LevAt (W : World) (v : Value) (l : Lev) : Prop := ∃ vr vw, v = .agg #[vr, vw] ∧ IsBools W vr l.r ∧ IsBools W vw l.w

theorem levAt_over {W W' : World} {v : Value} {l : Lev} (h : LevAt W v l) (hb : Below W.heap.size W W') : LevAt W' v l := by
  obtain ⟨vr, vw, rfl, h1, h2⟩ := h
  exact ⟨vr, vw, rfl, isBools_over h1 hb, isBools_over h2 hb⟩

def levErr (m : Int) (l : Lev) : Int := if (l.r.length : Int) = m ∧ (l.w.length : Int) = m then 0 else 1

/-- may what has one level be told to what has another one, as far as one actor goes? -/
def okAt (l m : Lev) (i : Nat) : Bool := !((m.r[i]?.getD false && !(l.r[i]?.getD false)) || (l.w[i]?.getD false && !(m.w[i]?.getD false)))
def flowsB (l m : Lev) (n : Nat) : Bool := (List.range n).all (okAt l m)

theorem flowsB_iff {l m : Lev} {n : Nat} : flowsB l m n = true ↔ ∀ i, i < n → (m.r[i]?.getD false = true → l.r[i]?.getD false = true) ∧ (l.w[i]?.getD false = true → m.w[i]?.getD false = true) := by
  unfold flowsB
  rw [List.all_eq_true]
  constructor
  · intro h i hi
    have := h i (List.mem_range.2 hi)
    unfold okAt at this
    revert this
    cases m.r[i]?.getD false <;> cases l.r[i]?.getD false <;> cases l.w[i]?.getD false <;> cases m.w[i]?.getD false <;> simp
  · intro h i hi
    have := h i (List.mem_range.1 hi)
    unfold okAt
    revert this
    cases m.r[i]?.getD false <;> cases l.r[i]?.getD false <;> cases l.w[i]?.getD false <;> cases m.w[i]?.getD false <;> simp

theorem isBools_pos {w : World} {v : Value} {l : List Bool} {n : Nat} (h : IsBools w v l) (hl : l.length = n) (h1 : 1 ≤ n) :
    ∃ b off cap, v = .slice (some ⟨b, off, none⟩) n cap ∧ ∀ i, i < n → w.cell? ⟨b, off + i, none⟩ = some (.bool (l[i]?.getD false)) := by
  obtain ⟨ao, cap, rfl, hc⟩ := h
  obtain ⟨b, off, rfl, hcl⟩ := hc (by rintro rfl; simp at hl; omega)
  refine ⟨b, off, cap, by rw [hl], fun i hi => ?_⟩
  have hi' : i < l.length := by omega
  rw [hcl i hi']
  simp [hi']

def Lev.len (l : Lev) (n : Nat) : Prop := l.r.length = n ∧ l.w.length = n
/-- a slice that holds numbers. -/
def IsInts (w : World) (v : Value) (l : List Int) : Prop :=
  ∃ ao cap, v = .slice ao l.length cap ∧ (l ≠ [] → ∃ b off, ao = some ⟨b, off, none⟩ ∧ ∀ i (h : i < l.length), w.cell? ⟨b, off + i, none⟩ = some (.int .i64 l[i]))

theorem isInts_over {w w' : World} {v : Value} {l : List Int} (h : IsInts w v l) (hb : Below w.heap.size w w') : IsInts w' v l := by
  obtain ⟨ao, cap, rfl, hc⟩ := h
  refine ⟨ao, cap, rfl, fun hne => ?_⟩
  obtain ⟨b, off, rfl, hcl⟩ := hc hne
  refine ⟨b, off, rfl, fun i hi => ?_⟩
  have h1 := hcl i hi
  rw [(bcell hb).1 _ _ (World.block_lt_of_cell? w _ h1)]
  exact h1

structure Pol where
  owner : Int
  names : List Int

/-- a slice that holds policies. -/
def IsPols (w : World) (v : Value) (ps : List Pol) : Prop :=
  ∃ ao cap, v = .slice ao ps.length cap ∧ (ps ≠ [] → ∃ b off, ao = some ⟨b, off, none⟩ ∧ ∀ i (h : i < ps.length), w.cell? ⟨b, off + i * 2, none⟩ = some (.int .i64 ps[i].owner) ∧ ∃ nv, w.cell? ⟨b, off + i * 2 + 1, none⟩ = some nv ∧ IsInts w nv ps[i].names)

theorem isPols_over {w w' : World} {v : Value} {ps : List Pol} (h : IsPols w v ps) (hb : Below w.heap.size w w') : IsPols w' v ps := by
  obtain ⟨ao, cap, rfl, hc⟩ := h
  refine ⟨ao, cap, rfl, fun hne => ?_⟩
  obtain ⟨b, off, rfl, hcl⟩ := hc hne
  refine ⟨b, off, rfl, fun i hi => ?_⟩
  obtain ⟨h1, nv, h2, h3⟩ := hcl i hi
  exact ⟨by rw [(bcell hb).1 _ _ (World.block_lt_of_cell? w _ h1)]; exact h1, nv, by rw [(bcell hb).1 _ _ (World.block_lt_of_cell? w _ h2)]; exact h2, isInts_over h3 hb⟩

/-- does one act for another one? -/
def actB (gn : List (Nat × Nat)) (n who : Nat) (x : Int) : Bool := (acts gn n who)[x.toNat]?.getD false
def polB (gn : List (Nat × Nat)) (n who : Nat) (p : Pol) : Bool := actB gn n who p.owner || p.names.any (actB gn n who)
def mayB (gn : List (Nat × Nat)) (n who : Nat) (ps : List Pol) : Bool := ps.all (polB gn n who)
def polIn (n : Nat) (p : Pol) : Prop := (0 ≤ p.owner ∧ p.owner < n) ∧ p.names.length ≤ 6 ∧ ∀ x ∈ p.names, 0 ≤ x ∧ x < (n : Int)

/-- three cells that are kept where all below is kept. -/
theorem held3c {w w0 w1 : World} {b0 o0 b1 o1 b2 o2 : Nat} {v0 v1 v2 : Value} (h : w0.cell? ⟨b0, o0, none⟩ = some v0 ∧ w0.cell? ⟨b1, o1, none⟩ = some v1 ∧ w0.cell? ⟨b2, o2, none⟩ = some v2 ∧ Below w.heap.size w w0)
    (hb : Below w0.heap.size w0 w1) : w1.cell? ⟨b0, o0, none⟩ = some v0 ∧ w1.cell? ⟨b1, o1, none⟩ = some v1 ∧ w1.cell? ⟨b2, o2, none⟩ = some v2 ∧ Below w.heap.size w w1 := by
  obtain ⟨h0, h1, h2, hB⟩ := h
  obtain ⟨hc, hf⟩ := bcell hb
  refine ⟨?_, ?_, ?_, hB.trans (hb.mono hB.size)⟩
  · rw [hc _ _ (World.block_lt_of_cell? w0 _ h0)]; exact h0
  · rw [hc _ _ (World.block_lt_of_cell? w0 _ h1)]; exact h1
  · rw [hc _ _ (World.block_lt_of_cell? w0 _ h2)]; exact h2
def rises : List Int → Bool
  | x :: y :: l => decide (x < y) && rises (y :: l)
  | _ => true

def polErr (m : Int) (p : Pol) : Int :=
  if isOne m p.owner = true then (if p.names.length ≤ 6 then (if p.names.all (isOne m) = true then (if rises p.names = true then 0 else 4) else 5) else 2) else 5
def firstErr (m : Int) : List Pol → Int
  | [] => 0
  | p :: ps => if polErr m p = 0 then firstErr m ps else polErr m p
def polsErr (m : Int) (ps : List Pol) : Int := if ps.length ≤ 4 then firstErr m ps else 2

theorem firstErr_drop {m : Int} {ps : List Pol} {k : Nat} (hk : k < ps.length) : firstErr m (ps.drop k) = if polErr m ps[k] = 0 then firstErr m (ps.drop (k + 1)) else polErr m ps[k] := by
  rw [List.drop_eq_getElem_cons hk]
  rfl

theorem rises_iff (l : List Int) : rises l = true ↔ ∀ i (h : i + 1 < l.length), l[i] < l[i + 1] := by
  induction l with
  | nil => simp [rises]
  | cons x l ih =>
    cases l with
    | nil => simp [rises]
    | cons y l =>
      simp only [rises, Bool.and_eq_true, decide_eq_true_eq, ih]
      constructor
      · rintro ⟨h1, h2⟩ i hi
        cases i with
        | zero => exact h1
        | succ i => exact h2 i (by simpa using hi)
      · intro h
        exact ⟨h 0 (by simp), fun i hi => h (i + 1) (by simpa using hi)⟩
/-- where the first number is of which something holds; none: -1. -/
def idxI (p : Int → Bool) (l : List Int) : Int := match l.findIdx? p with | some i => i | none => -1

theorem idxI_at {p : Int → Bool} {l : List Int} {k : Nat} (hk : k < l.length) (h : (l.take k).all (fun g => !p g) = true) (hp : p l[k] = true) : idxI p l = k := by
  have : l.findIdx? p = some k := by
    rw [List.findIdx?_eq_some_iff_getElem]
    refine ⟨hk, hp, fun j hj => ?_⟩
    have := List.all_eq_true.1 h l[j] (by rw [List.mem_take_iff_getElem]; exact ⟨j, by omega, rfl⟩)
    simpa using this
  simp [idxI, this]
theorem idxI_none {p : Int → Bool} {l : List Int} (h : l.all (fun g => !p g) = true) : idxI p l = -1 := by
  have : l.findIdx? p = none := by
    rw [List.findIdx?_eq_none_iff]
    intro x hx
    have := List.all_eq_true.1 h x hx
    simpa using this
  simp [idxI, this]
theorem idxI_any (p : Int → Bool) (l : List Int) : decide (0 ≤ idxI p l) = l.any p := by
  unfold idxI
  cases h : l.findIdx? p with
  | none =>
    have : l.any p = false := by rw [List.any_eq_false]; intro x hx; have := (List.findIdx?_eq_none_iff.1 h) x hx; simpa using this
    rw [this]; rfl
  | some i =>
    obtain ⟨hi, hp, _⟩ := List.findIdx?_eq_some_iff_getElem.1 h
    have : l.any p = true := List.any_eq_true.2 ⟨_, List.getElem_mem hi, hp⟩
    rw [this]; simp

set_option maxHeartbeats 1000000 in
theorem indexInt_any (F : FuncId) (cv : Value) (p : Int → Bool) (v : Value) (l : List Int) (w : World) (hv : IsInts w v l) (hn : l.length ≤ 6)
    (hF : Hid (∀ (i : Nat) (h : i < l.length) (w1 : World), Below w.heap.size w w1 → Calls Try.prog F #[.int .i64 l[i], cv] w1 fun e w2 => e = .returned (.bool (p l[i])) ∧ Below w1.heap.size w1 w2))
    (hC : ∀ (args : Array Value) (w : World), (callFunc F args).run Try.prog w = .ok (.enter F args) w) :
    Calls Try.prog 63 #[v, .func (.func F) #[] #[cv]] w fun e w' => e = .returned (.int .i64 (idxI p l)) ∧ Below w.heap.size w w' := by
  obtain ⟨ao, cap, rfl, hcc⟩ := hv
  go_enter Try.func63, Try.ntmps63
  go_wp2_with fail
  go_loopw [8] (fun i wr => ∃ k : Nat, k ≤ l.length ∧ i = .int .i64 k ∧ (l.take k).all (fun g => !p g) = true ∧ Below w.heap.size w wr) (fun i _ => l.length - (intOf i).toNat)
  case atStart => exact ⟨0, Nat.zero_le _, rfl, rfl, Below.refl _ w⟩
  case round =>
    obtain ⟨k, hk, rfl, hall, hbel⟩ := hrel
    by_cases hkl : k < l.length
    · obtain ⟨b, off, rfl, hcl⟩ := hcc (by rintro rfl; simp at hkl)
      have q0 := hcl k hkl
      have hlt := World.block_lt_of_cell? w _ q0
      rw [← (bcell hbel).1 _ _ hlt] at q0
      have hcall := hF.out k hkl
      have hat := fun (hp : p l[k] = true) => idxI_at hkl hall hp
      have htk : p l[k] = false → (l.take (k + 1)).all (fun g => !p g) = true := fun hp => by
        rw [List.take_succ_eq_append_getElem hkl, List.all_append, hall]
        simp [hp]
      obtain ⟨r, hr⟩ : ∃ r, r = p l[k] := ⟨_, rfl⟩
      obtain ⟨g0, hg0⟩ : ∃ r, r = l[k] := ⟨_, rfl⟩
      rw [← hr] at hcall hat htk
      rw [← hg0] at q0 hcall
      have HC := hide hcall
      have HA := hide hat
      have HT := hide htk
      clear hr hg0 hcall hat htk hcl hcc hF
      cases r with
      | true =>
        go_wp2_with fail
        refine (HC.out _ hbel).mono ?_
        rintro e w2 ⟨rfl, hb2⟩
        have hbel2 : Below w.heap.size w w2 := hbel.trans (hb2.mono hbel.size)
        go_wp2_with fail
        go_ret
        exact ⟨by rw [HA.out (by first | rfl | trivial)]; rfl, hbel2⟩
      | false =>
        go_wp2_with fail
        refine (HC.out _ hbel).mono ?_
        rintro e w2 ⟨rfl, hb2⟩
        have hbel2 : Below w.heap.size w w2 := hbel.trans (hb2.mono hbel.size)
        go_wp2_with fail
        exact ⟨⟨k + 1, by omega, by go_num, HT.out (by first | rfl | trivial), hbel2⟩, by simp [intOf]; omega⟩
    · have hke : k = l.length := by omega
      rw [hke, List.take_length] at hall
      have hx := idxI_none hall
      clear hall hcc hF
      go_wp2_with fail
      go_ret
      exact ⟨by rw [hx]; rfl, hbel⟩

set_option maxHeartbeats 400000 in
theorem containsInt_any (F : FuncId) (cv : Value) (p : Int → Bool) (v : Value) (l : List Int) (w : World) (hv : IsInts w v l) (hn : l.length ≤ 6)
    (hF : Hid (∀ (i : Nat) (h : i < l.length) (w1 : World), Below w.heap.size w w1 → Calls Try.prog F #[.int .i64 l[i], cv] w1 fun e w2 => e = .returned (.bool (p l[i])) ∧ Below w1.heap.size w1 w2))
    (hC : ∀ (args : Array Value) (w : World), (callFunc F args).run Try.prog w = .ok (.enter F args) w) :
    Calls Try.prog 24 #[v, .func (.func F) #[] #[cv]] w fun e w' => e = .returned (.bool (l.any p)) ∧ Below w.heap.size w w' := by
  have hI := indexInt_any F cv p v l w hv hn hF hC
  have hx := idxI_any p l
  obtain ⟨r, hr⟩ : ∃ r, r = idxI p l := ⟨_, rfl⟩
  rw [← hr] at hI hx
  rw [← hx]
  have HI := hide hI
  clear hI hx hr hv hC hF
  obtain ⟨u, hu⟩ : ∃ u, u = v := ⟨_, rfl⟩
  go_enter Try.func24, Try.ntmps24
  go_wp2_with fail
  refine (HI.out).mono ?_
  rintro e w1 ⟨rfl, hb1⟩
  go_wp2_with fail
  go_ret
  exact ⟨by simp, hb1⟩

theorem call58 (args : Array Value) (w : World) : (callFunc 147 args).run Try.prog w = .ok (.enter 147 args) w := by simp [go_sem]
theorem call49 (args : Array Value) (w : World) : (callFunc 118 args).run Try.prog w = .ok (.enter 118 args) w := by simp [go_sem]

set_option maxHeartbeats 400000 in
theorem isNone_any (m x : Int) (b : Nat) (w : World) (h0 : w.cell? ⟨b, 0, none⟩ = some (.int .i64 m)) :
    Calls Try.prog 147 #[.int .i64 x, .pointer (some ⟨b, 0, none⟩)] w fun e w' => e = .returned (.bool (!isOne m x)) ∧ Below w.heap.size w w' := by
  by_cases h1 : x < 0
  · have hx : isOne m x = false := by simp [isOne]; omega
    rw [hx]
    clear hx
    go_enter Try.func147, Try.ntmps147
    go_wp2_with fail
    go_ret
    exact ⟨by simp, Below.refl _ w⟩
  · by_cases h2 : m ≤ x
    · have hx : isOne m x = false := by simp [isOne]; omega
      rw [hx]
      clear hx
      go_enter Try.func147, Try.ntmps147
      go_wp2_with fail
      go_ret
      exact ⟨by simp, Below.refl _ w⟩
    · have hx : isOne m x = true := by simp [isOne]; omega
      rw [hx]
      clear hx
      go_enter Try.func147, Try.ntmps147
      go_wp2_with fail
      go_ret
      exact ⟨by simp, Below.refl _ w⟩

set_option maxHeartbeats 1000000 in
theorem rise_any (v : Value) (l : List Int) (w : World) (hv : IsInts w v l) (hn : l.length ≤ 6) :
    Calls Try.prog 148 #[v] w fun e w' => e = .returned (.bool (rises l)) ∧ Below w.heap.size w w' := by
  obtain ⟨ao, cap, rfl, hcc⟩ := hv
  have HCC := hide hcc
  clear hcc
  go_enter Try.func148, Try.ntmps148
  go_wp2_with fail
  go_loopw [3] (fun i wr => ∃ k n : Nat, k ≤ 6 ∧ i = .int .i64 ((k : Int) + 1) ∧ (∀ j (h : j + 1 < l.length), j < k → l[j] < l[j + 1]) ∧ wr = w.drewN n) (fun i _ => 10 - (intOf i).toNat)
  case atStart => exact ⟨0, 0, Nat.zero_le _, rfl, fun j _ h => absurd h (Nat.not_lt_zero _), rfl⟩
  case round =>
    obtain ⟨k, n, hk, rfl, hall, rfl⟩ := hrel
    by_cases hkl : k + 1 < l.length
    · obtain ⟨b, off, rfl, hcl⟩ := HCC.out (by rintro rfl; simp at hkl)
      have q0 := hcl k (by omega)
      have q1 := hcl (k + 1) hkl
      have hnext : l[k] < l[k + 1] → ∀ j (h : j + 1 < l.length), j < k + 1 → l[j] < l[j + 1] := fun h j hj hjk => by
        by_cases e : j = k
        · subst e; exact h
        · exact hall j hj (by omega)
      have hstop : ¬ l[k] < l[k + 1] → rises l = false := fun h => by
        rw [Bool.eq_false_iff]
        intro hh
        exact h ((rises_iff l).1 hh k hkl)
      obtain ⟨x, hx⟩ : ∃ x, x = l[k] := ⟨_, rfl⟩
      obtain ⟨y, hy⟩ : ∃ y, y = l[k + 1] := ⟨_, rfl⟩
      rw [← hx] at q0
      rw [← hy] at q1
      rw [← hx, ← hy] at hnext hstop
      have HN := hide hnext
      have HS := hide hstop
      have k1 : ((k : Int) + 1) < (l.length : Int) := by omega
      have a1 : (0 : Int) ≤ (k : Int) + 1 := by omega
      have a2 : (0 : Int) ≤ (k : Int) := by omega
      have a3 : (k : Int) < (l.length : Int) := by omega
      have q1' : w.cell? ⟨b, off + (k + 1), none⟩ = some (.int .i64 y) := q1
      clear hnext hstop hx hy hcl hall HCC q1
      by_cases hxy : y ≤ x
      · go_wp2_with fail
        go_region
        go_wp2_with fail
        go_ret
        exact ⟨by rw [HS.out (by omega)]; rfl, below_drewN (Below.refl _ w) (n + 1)⟩
      · go_wp2_with fail
        go_region
        go_wp2_with fail
        exact ⟨⟨k + 1, n + 1, by omega, by go_num, HN.out (by omega), by first | rfl | trivial⟩, by simp [intOf]; omega⟩
    · have hr : rises l = true := (rises_iff l).2 fun j hj => hall j hj (by omega)
      have HR := hide hr
      have k1 : ¬ ((k : Int) + 1) < (l.length : Int) := by omega
      clear hr hall HCC
      go_wp2_with fail
      go_ret
      exact ⟨by rw [HR.out]; rfl, below_drewN (Below.refl _ w) n⟩

set_option maxHeartbeats 2000000 in
theorem checkPolicy_any (m : Int) (s : Value) (p : Pol) (nv : Value) (w : World) (hp : IsInts w nv p.names) :
    Calls Try.prog 122 #[.agg #[.int .i64 m, s], .agg #[.int .i64 p.owner, nv]] w fun e w' => e = .returned (.int .i64 (polErr m p)) ∧ Below w.heap.size w w' := by
  obtain ⟨ow, names⟩ := p
  have hE : polErr m ⟨ow, names⟩ = if isOne m ow = true then (if names.length ≤ 6 then (if (names.any fun x => !isOne m x) = true then 5 else (if rises names = true then 0 else 4)) else 2) else 5 := by
    unfold polErr
    have : names.all (isOne m) = !(names.any fun x => !isOne m x) := by rw [List.any_eq_not_all_not]; simp
    simp only [this]
    cases (names.any fun x => !isOne m x) <;> simp
  simp only at hp ⊢
  have hbel : Below w.heap.size w ((w.alloc (.cells #[.int .i64 m, s] 35)).alloc (.cells #[.int .i64 ow, nv] 143)) := ((Below.refl _ w).alloc (Nat.le_refl _) _).alloc (by simp) _
  have HP := hide fun (W : World) (hb : Below w.heap.size w W) => isInts_over hp hb
  have hN := fun (W : World) (h : W.cell? ⟨w.heap.size, 0, none⟩ = some (.int .i64 m)) => isNone_any m ow w.heap.size W h
  have hK := fun (W : World) (hn : names.length ≤ 6) (hB : Below w.heap.size w W) (h : W.cell? ⟨w.heap.size, 0, none⟩ = some (.int .i64 m)) => containsInt_any 147 (.pointer (some ⟨w.heap.size, 0, none⟩)) (fun x => !isOne m x) nv names W (isInts_over hp hB) hn (hide fun i hi w1 hb => isNone_any m names[i] w.heap.size w1 (by rw [(bcell hb).1 _ _ (World.block_lt_of_cell? W _ h)]; exact h)) call58
  have hR := fun (W : World) (hn : names.length ≤ 6) (hB : Below w.heap.size w W) => rise_any nv names W (isInts_over hp hB) hn
  obtain ⟨r1, hr1⟩ : ∃ r, r = isOne m ow := ⟨_, rfl⟩
  obtain ⟨r2, hr2⟩ : ∃ r, r = names.any fun x => !isOne m x := ⟨_, rfl⟩
  obtain ⟨r3, hr3⟩ : ∃ r, r = rises names := ⟨_, rfl⟩
  rw [← hr1, ← hr2, ← hr3] at hE
  rw [← hr1] at hN
  rw [← hr2] at hK
  rw [← hr3] at hR
  have KN := hide hN
  have KK := hide hK
  have KR := hide hR
  have HE := hide hE
  obtain ⟨ao, cap, rfl, -⟩ := hp
  clear hN hK hR hE hr1 hr2 hr3
  cases r1 with
  | false =>
    go_enter Try.func122, Try.ntmps122
    go_wp2_with fail
    refine (KN.out _ (by simp [go_sem])).mono ?_
    rintro e w1 ⟨rfl, hb1⟩
    have hbel1 : Below w.heap.size w w1 := hbel.trans (hb1.mono (by simp; omega))
    go_wp2_with fail
    go_ret
    exact ⟨by rw [HE.out]; rfl, hbel1⟩
  | true =>
    go_enter Try.func122, Try.ntmps122
    go_wp2_with fail
    refine (KN.out _ (by simp [go_sem])).mono ?_
    rintro e w1 ⟨rfl, hb1⟩
    obtain ⟨hc, hf⟩ := bcell hb1
    have c0 : w1.cell? ⟨w.heap.size, 0, none⟩ = some (.int .i64 m) := by rw [hc _ _ (by simp; omega)]; simp [go_sem]
    have c1 : w1.cell? ⟨w.heap.size + 1, 1, none⟩ = some (.slice ao names.length cap) := by rw [hc _ _ (by simp)]; simp [go_sem]
    have hbel1 : Below w.heap.size w w1 := hbel.trans (hb1.mono (by simp; omega))
    clear hc hf hb1 hbel KN
    by_cases hn : names.length ≤ 6
    · go_wp2_with fail
      refine (KK.out _ hn hbel1 c0).mono ?_
      rintro e w2 ⟨rfl, hb2⟩
      have hbel2 : Below w.heap.size w w2 := hbel1.trans (hb2.mono hbel1.size)
      have d1 : w2.cell? ⟨w.heap.size + 1, 1, none⟩ = some (.slice ao names.length cap) := by rw [(bcell hb2).1 _ _ (World.block_lt_of_cell? w1 _ c1)]; exact c1
      clear c0 c1 KK
      cases r2 with
      | true =>
        go_wp2_with fail
        go_ret
        exact ⟨by rw [HE.out]; simp [hn], hbel2⟩
      | false =>
        go_wp2_with fail
        refine (KR.out _ hn hbel2).mono ?_
        rintro e w3 ⟨rfl, hb3⟩
        have hbel3 : Below w.heap.size w w3 := hbel2.trans (hb3.mono hbel2.size)
        clear d1 KR
        cases r3
        all_goals go_wp2_with fail
        all_goals go_ret
        all_goals exact ⟨by rw [HE.out]; simp [hn], hbel3⟩
    · go_wp2_with fail
      go_ret
      exact ⟨by rw [HE.out]; simp [hn], hbel1⟩

/-- the policies from one on, in memory. -/
theorem isPols_at {w : World} {v : Value} {ps : List Pol} (h : IsPols w v ps) {i : Nat} (hi : i < ps.length) : ∃ b off cap nv, v = .slice (some ⟨b, off, none⟩) ps.length cap ∧ w.cell? ⟨b, off + i * 2, none⟩ = some (.int .i64 ps[i].owner) ∧ w.cell? ⟨b, off + i * 2 + 1, none⟩ = some nv ∧ IsInts w nv ps[i].names := by
  obtain ⟨ao, cap, rfl, hc⟩ := h
  obtain ⟨b, off, rfl, hcl⟩ := hc (by rintro rfl; simp at hi)
  obtain ⟨h1, nv, h2, h3⟩ := hcl i hi
  exact ⟨b, off, cap, nv, rfl, h1, h2, h3⟩

set_option maxHeartbeats 2000000 in
theorem labPolicies_any (m : Int) (s vp : Value) (ps : List Pol) (w : World) (hp : IsPols w vp ps) :
    Calls Try.prog 89 #[.agg #[.int .i64 m, s], vp] w fun e w' => e = .returned (.int .i64 (polsErr m ps)) ∧ Below w.heap.size w w' := by
  have HP := hide hp
  obtain ⟨ao, cap, rfl, -⟩ := hp
  have hbel : Below w.heap.size w (w.alloc (.cells #[.int .i64 m, s] 35)) := (Below.refl _ w).alloc (Nat.le_refl _) _
  have hE : polsErr m ps = if ps.length ≤ 4 then firstErr m ps else 2 := rfl
  have KP := hide fun (p : Pol) (nv : Value) (W : World) (h : IsInts W nv p.names) => checkPolicy_any m s p nv W h
  by_cases hn : ps.length ≤ 4
  · rw [if_pos hn] at hE
    have HE := hide hE
    clear hE
    go_enter Try.func89, Try.ntmps89
    go_wp2_with fail
    go_loopw [13] (fun i wr => ∃ k : Nat, k ≤ ps.length ∧ i = .int .i64 k ∧ firstErr m ps = firstErr m (ps.drop k) ∧ Below w.heap.size w wr ∧ wr.cell? ⟨w.heap.size, 0, none⟩ = some (.int .i64 m) ∧ wr.cell? ⟨w.heap.size, 1, none⟩ = some s) (fun i _ => ps.length - (intOf i).toNat)
    case atStart => exact ⟨0, Nat.zero_le _, rfl, rfl, hbel, by simp [go_sem], by simp [go_sem]⟩
    case round =>
      obtain ⟨k, hk, rfl, hfe, hbw, c0, c1⟩ := hrel
      by_cases hkl : k < ps.length
      · obtain ⟨b, off, cap', nv, hve, q0, q1, q2⟩ := isPols_at (isPols_over HP.out hbw) hkl
        injection hve with e1 e2 e3
        subst e1 e3
        clear e2
        have hfd := firstErr_drop (m := m) hkl
        rw [← hfe] at hfd
        have ltb := World.block_lt_of_cell? wr _ q0
        have ltw := World.block_lt_of_cell? wr _ c0
        have hal : Below wr.heap.size wr (wr.alloc (.cells #[.int .i64 ps[k].owner, nv] 143)) := (Below.refl _ wr).alloc (Nat.le_refl _) _
        have hcall := KP.out ps[k] nv (wr.alloc (.cells #[.int .i64 ps[k].owner, nv] 143)) (isInts_over q2 hal)
        obtain ⟨r, hr⟩ : ∃ r, r = polErr m ps[k] := ⟨_, rfl⟩
        obtain ⟨ow, how⟩ : ∃ r, r = ps[k].owner := ⟨_, rfl⟩
        rw [← hr] at hfd hcall
        rw [← how] at q0 hal hcall
        obtain ⟨nl, nc, nlen, hnv⟩ : ∃ a c n, nv = .slice a n c := by obtain ⟨a, c, e, _⟩ := q2; exact ⟨a, c, _, e⟩
        subst hnv
        have HC := hide hcall
        have HF := hide hfd
        have hbw2 := hbw.trans (hal.mono hbw.size)
        clear hr how hcall hfd q2 hfe
        by_cases hr0 : r = 0
        · subst hr0
          go_wp2_with fail
          refine (HC.out).mono ?_
          rintro e w2 ⟨rfl, hb2⟩
          have hb3 := hbw2.trans (hb2.mono hbw2.size)
          have ltw' : w.heap.size < (wr.alloc (.cells #[.int .i64 ow, .slice nl nlen nc] 143)).heap.size := by simp; exact Nat.lt_succ_of_lt ltw
          have d0 : w2.cell? ⟨w.heap.size, 0, none⟩ = some (.int .i64 m) := by rw [(bcell hb2).1 _ _ ltw', (bcell hal).1 _ _ ltw]; exact c0
          have d1 : w2.cell? ⟨w.heap.size, 1, none⟩ = some s := by rw [(bcell hb2).1 _ _ ltw', (bcell hal).1 _ _ ltw]; exact c1
          clear hbw2 hb2 hal q0 q1 c0 c1 HC
          go_wp2_with fail
          exact ⟨⟨k + 1, by omega, by go_num, by rw [HF.out]; simp, hb3, d0, d1⟩, by simp [intOf]; omega⟩
        · have hne : (r != 0) = true := by simpa using hr0
          go_wp2_with fail
          refine (HC.out).mono ?_
          rintro e w2 ⟨rfl, hb2⟩
          have hb3 := hbw2.trans (hb2.mono hbw2.size)
          clear hbw2 hb2 hal q0 q1 c0 c1 HC
          go_wp2_with fail
          go_ret
          exact ⟨by rw [HE.out, HF.out]; simp [hr0], hb3⟩
      · have hke : k = ps.length := by omega
        have hz : firstErr m ps = 0 := by rw [hfe, hke, List.drop_length]; rfl
        have HZ := hide hz
        clear hz hfe c0 c1
        go_wp2_with fail
        go_ret
        exact ⟨by rw [HE.out, HZ.out]; rfl, hbw⟩
  · rw [if_neg hn] at hE
    have HE := hide hE
    clear hE
    go_enter Try.func89, Try.ntmps89
    go_wp2_with fail
    go_ret
    exact ⟨by rw [HE.out]; rfl, hbel⟩
def boolCells (l : List Bool) : List Value := l.map Value.bool

theorem heap_of_alloc (W : World) (o : Obj) : (W.alloc o).heap[W.heap.size]? = some o := heap_alloc_new W o

theorem ownB_over {W W' : World} {B : Nat} {v : Value} {k : Nat} {xs : List Value} (h : W.ownsRow B 4 1 v k xs) (hb : Below W.heap.size W W') : W'.ownsRow B 4 1 v k xs := by
  obtain ⟨h1, h2⟩ := h
  refine ⟨h1, ?_⟩
  rcases h2 with h2 | ⟨g, cap, cur, hv, hg, hh, r⟩
  · exact Or.inl h2
  · refine Or.inr ⟨g, cap, cur, hv, hg, ?_, r⟩
    rw [hb.block g (Array.getElem?_eq_some_iff.1 hh).1]
    exact hh

theorem ownB_alloc {W : World} {B : Nat} {v : Value} {k : Nat} {xs : List Value} (h : W.ownsRow B 4 1 v k xs) (o : Obj) : (W.alloc o).ownsRow B 4 1 v k xs :=
  ownB_over h ((Below.refl _ W).alloc (Nat.le_refl _) o)

theorem ownB_set {W : World} {B : Nat} {v : Value} {k : Nat} {xs : List Value} (h : W.ownsRow B 4 1 v k xs) {p : Addr} (hp : p.block < B) (u : Value) : (W.setCell p u).ownsRow B 4 1 v k xs :=
  ownsRow_setCell_below h hp u

theorem ownB_lt {W : World} {B : Nat} {v : Value} {k : Nat} {xs : List Value} (h : W.ownsRow B 4 1 v k xs) {g : Nat} (hg : v.ownBlock = some g) : B ≤ g ∧ g < W.heap.size := by
  rcases h.2 with ⟨rfl, _⟩ | ⟨g', cap, cur, rfl, hg', hh, _⟩
  · cases hg
  · simp [Value.ownBlock] at hg
    subst hg
    exact ⟨hg', (Array.getElem?_eq_some_iff.1 hh).1⟩

/-- two rows of one's own that lie apart. -/
def Apart (u v : Value) : Prop := u.ownBlock = none ∨ u.ownBlock ≠ v.ownBlock

theorem info4 : ∃ i, Try.prog.info? 4 = some i ∧ i.zero = some (.bool false) ∧ i.size = 1 ∧ i.bytes = 1 := by
  cases hi : Try.prog.info? 4 with
  | none => have := Try.info4; rw [hi] at this; cases this
  | some i =>
    have h4 := Try.info4
    rw [hi] at h4
    simp only [Option.map_some, Option.some.injEq, Prod.mk.injEq] at h4
    exact ⟨i, rfl, h4.1, h4.2.1, h4.2.2⟩

section
variable {ops : Array Oper} {o : Oper} {a : Act} {W : World} {K : Act → World → Prop} {Q : Exit → Act → World → Prop} {E : Prop}

end

theorem isBools_own {W : World} {B : Nat} {v : Value} {l : List Bool} (h : W.ownsRow B 4 1 v l.length (boolCells l)) : IsBools W v l := by
  have hc := fun g => h.cells (g := g)
  rcases h.2 with ⟨rfl, h0⟩ | ⟨g, cap, cur, rfl, _⟩
  · exact ⟨none, 0, by rw [h0], fun hne => absurd (List.eq_nil_of_length_eq_zero h0) hne⟩
  · refine ⟨_, cap, rfl, fun _ => ⟨g, 0, rfl, fun i hi => ?_⟩⟩
    have k0 : (boolCells l)[i]? = some (.bool l[i]) := by simp [boolCells, hi]
    have h1 := hc g rfl _ _ k0
    have hadd : (⟨g, 0, none⟩ : Addr).add i = ⟨g, i, none⟩ := by unfold Addr.add; split <;> simp_all
    rw [hadd] at h1
    simpa using h1

/-- four cells that lie low, and are kept. -/
def Low4 (B : Nat) (p1 p2 p3 p4 : Nat × Nat) (v1 v2 v3 v4 : Value) (W : World) : Prop :=
  W.cell? ⟨p1.1, p1.2, none⟩ = some v1 ∧ W.cell? ⟨p2.1, p2.2, none⟩ = some v2 ∧ W.cell? ⟨p3.1, p3.2, none⟩ = some v3 ∧ W.cell? ⟨p4.1, p4.2, none⟩ = some v4 ∧ B + 1 ≤ W.heap.size ∧ p1.1 < B ∧ p2.1 < B ∧ p3.1 < B ∧ p4.1 < B

theorem Low4.keep {B : Nat} {W W' : World} {p1 p2 p3 p4 : Nat × Nat} {v1 v2 v3 v4 : Value} (h : Low4 B p1 p2 p3 p4 v1 v2 v3 v4 W) (hb : Below B W W') : Low4 B p1 p2 p3 p4 v1 v2 v3 v4 W' := by
  have hc : ∀ b o, b < B → W'.cell? ⟨b, o, none⟩ = W.cell? ⟨b, o, none⟩ := fun b o h => hb.cell (p := ⟨b, o, none⟩) h
  obtain ⟨k1, k2, k3, k4, k6, h1, h2, h3, h4⟩ := h
  exact ⟨by rw [hc _ _ h1]; exact k1, by rw [hc _ _ h2]; exact k2, by rw [hc _ _ h3]; exact k3, by rw [hc _ _ h4]; exact k4, Nat.le_trans k6 hb.size, h1, h2, h3, h4⟩
end Go.Proofs.Ytcbbjjenkommeaa
