/- The small functions of actors: is one of so many; a number between two; the first grant of which something holds. -/
import Derived.Test.YtcbbjjenkommeaaM01
import Derived.WalkKit
import Derived.WalkSpells
import Derived.WalkLawsBesides
import Derived.Laws.MakeOwn
import Derived.WalkSmall
import Derived.Deep.RegionHeld3
import Derived.Deep.CutRange
namespace Go.Proofs.Ytcbbjjenkommeaa
open Go.RowKit
set_option linter.unusedVariables false
theorem hide {p : Prop} (h : p) : Hid p := h

theorem bcell {W w1 : World} (hb : Below W.heap.size W w1) : (∀ b o, b < W.heap.size → w1.cell? ⟨b, o, none⟩ = W.cell? ⟨b, o, none⟩) ∧ (∀ b o, b < W.heap.size → w1.frozen? ⟨b, o, none⟩ = W.frozen? ⟨b, o, none⟩) :=
  ⟨fun b o h => hb.cell (p := ⟨b, o, none⟩) h, fun b o h => hb.frozen (p := ⟨b, o, none⟩) h⟩

def isOne (m x : Int) : Bool := decide (0 ≤ x ∧ x < m)

set_option maxHeartbeats 400000 in
theorem isOne_any (m x : Int) (s : Value) (w : World) :
    Calls Try.prog 121 #[.agg #[.int .i64 m, s], .int .i64 x] w fun e w' => e = .returned (.bool (isOne m x)) ∧ Below w.heap.size w w' := by
  have hbel : Below w.heap.size w (w.alloc (.cells #[.int .i64 m, s] 35)) := (Below.refl _ w).alloc (Nat.le_refl _) _
  by_cases h1 : (0 : Int) ≤ x
  · by_cases h2 : x < m
    · go_enter Try.func121, Try.ntmps121
      go_wp2
      go_ret
      exact ⟨by simp [isOne]; omega, hbel⟩
    · go_enter Try.func121, Try.ntmps121
      go_wp2
      go_ret
      exact ⟨by simp [isOne]; omega, hbel⟩
  · go_enter Try.func121, Try.ntmps121
    go_wp2
    go_ret
    exact ⟨by simp [isOne]; omega, hbel⟩

/-- a slice that holds grants. -/
def IsGrants (w : World) (v : Value) (gs : List (Int × Int)) : Prop :=
  ∃ ao cap, v = .slice ao gs.length cap ∧ (gs ≠ [] → ∃ b off, ao = some ⟨b, off, none⟩ ∧ ∀ i (h : i < gs.length), w.cell? ⟨b, off + i * 2, none⟩ = some (.int .i64 gs[i].1) ∧ w.cell? ⟨b, off + i * 2 + 1, none⟩ = some (.int .i64 gs[i].2))

theorem isGrants_over {w w' : World} {v : Value} {gs : List (Int × Int)} (h : IsGrants w v gs) (hb : Below w.heap.size w w') : IsGrants w' v gs := by
  obtain ⟨ao, cap, rfl, hc⟩ := h
  refine ⟨ao, cap, rfl, fun hne => ?_⟩
  obtain ⟨b, off, rfl, hcl⟩ := hc hne
  refine ⟨b, off, rfl, fun i hi => ?_⟩
  obtain ⟨h1, h2⟩ := hcl i hi
  have hlt := World.block_lt_of_cell? w _ h1
  exact ⟨by rw [(bcell hb).1 _ _ hlt]; exact h1, by rw [(bcell hb).1 _ _ hlt]; exact h2⟩

/-- where the first is of which something holds; none: -1. -/
def idxOf (p : Int × Int → Bool) (gs : List (Int × Int)) : Int := match gs.findIdx? p with | some i => i | none => -1

theorem idxOf_at {p : Int × Int → Bool} {gs : List (Int × Int)} {k : Nat} (hk : k < gs.length) (h : (gs.take k).all (fun g => !p g) = true) (hp : p gs[k] = true) : idxOf p gs = k := by
  have : gs.findIdx? p = some k := by
    rw [List.findIdx?_eq_some_iff_getElem]
    refine ⟨hk, hp, fun j hj => ?_⟩
    have := List.all_eq_true.1 h gs[j] (by rw [List.mem_take_iff_getElem]; exact ⟨j, by omega, rfl⟩)
    simpa using this
  simp [idxOf, this]
theorem idxOf_none {p : Int × Int → Bool} {gs : List (Int × Int)} (h : gs.all (fun g => !p g) = true) : idxOf p gs = -1 := by
  have : gs.findIdx? p = none := by
    rw [List.findIdx?_eq_none_iff]
    intro x hx
    have := List.all_eq_true.1 h x hx
    simpa using this
  simp [idxOf, this]

set_option maxHeartbeats 1000000 in
theorem indexFunc_any (F : FuncId) (cv : Value) (p : Int × Int → Bool) (v : Value) (gs : List (Int × Int)) (w : World) (hv : IsGrants w v gs) (hn : gs.length ≤ 20)
    (hF : Hid (∀ (i : Nat) (h : i < gs.length) (w1 : World), Below w.heap.size w w1 → Calls Try.prog F #[.agg #[.int .i64 gs[i].1, .int .i64 gs[i].2], cv] w1 fun e w2 => e = .returned (.bool (p gs[i])) ∧ Below w1.heap.size w1 w2))
    (hC : ∀ (args : Array Value) (w : World), (callFunc F args).run Try.prog w = .ok (.enter F args) w) :
    Calls Try.prog 146 #[v, .func (.func F) #[] #[cv]] w fun e w' => e = .returned (.int .i64 (idxOf p gs)) ∧ Below w.heap.size w w' := by
  obtain ⟨ao, cap, rfl, hcc⟩ := hv
  go_enter Try.func146, Try.ntmps146
  go_wp2_with fail
  go_loopw [8] (fun i wr => ∃ k : Nat, k ≤ gs.length ∧ i = .int .i64 k ∧ (gs.take k).all (fun g => !p g) = true ∧ Below w.heap.size w wr) (fun i _ => gs.length - (intOf i).toNat)
  case atStart => exact ⟨0, Nat.zero_le _, rfl, rfl, Below.refl _ w⟩
  case round =>
    obtain ⟨k, hk, rfl, hall, hbel⟩ := hrel
    by_cases hkl : k < gs.length
    · obtain ⟨b, off, rfl, hcl⟩ := hcc (by rintro rfl; simp at hkl)
      obtain ⟨q0, q1⟩ := hcl k hkl
      have hlt := World.block_lt_of_cell? w _ q0
      rw [← (bcell hbel).1 _ _ hlt] at q0 q1
      have hcall := hF.out k hkl
      have hat := fun (hp : p gs[k] = true) => idxOf_at hkl hall hp
      have htk : p gs[k] = false → (gs.take (k + 1)).all (fun g => !p g) = true := fun hp => by
        rw [List.take_succ_eq_append_getElem hkl, List.all_append, hall]
        simp [hp]
      obtain ⟨r, hr⟩ : ∃ r, r = p gs[k] := ⟨_, rfl⟩
      obtain ⟨g0, hg0⟩ : ∃ r, r = gs[k].1 := ⟨_, rfl⟩
      obtain ⟨g1, hg1⟩ : ∃ r, r = gs[k].2 := ⟨_, rfl⟩
      rw [← hr] at hcall hat htk
      rw [← hg0] at q0 hcall
      rw [← hg1] at q1 hcall
      have HC := hide hcall
      have HA := hide hat
      have HT := hide htk
      clear hr hg0 hg1 hcall hat htk hcl hcc hF
      cases r with
      | true =>
        go_wp2_with fail
        refine (HC.out _ hbel).mono ?_
        rintro e w2 ⟨rfl, hb2⟩
        have hbel2 : Below w.heap.size w w2 := hbel.trans (hb2.mono hbel.size)
        go_wp2_with fail
        go_ret
        exact ⟨by rw [HA.out (by first | rfl | trivial)]; rfl, hbel2⟩
      | false =>
        go_wp2_with fail
        refine (HC.out _ hbel).mono ?_
        rintro e w2 ⟨rfl, hb2⟩
        have hbel2 : Below w.heap.size w w2 := hbel.trans (hb2.mono hbel.size)
        go_wp2_with fail
        exact ⟨⟨k + 1, by omega, by go_num, HT.out (by first | rfl | trivial), hbel2⟩, by simp [intOf]; omega⟩
    · have hke : k = gs.length := by omega
      rw [hke, List.take_length] at hall
      have hx := idxOf_none hall
      clear hall hcc hF
      go_wp2_with fail
      go_ret
      exact ⟨by rw [hx]; rfl, hbel⟩
def badG (m : Int) (g : Int × Int) : Bool := !isOne m g.1 || !isOne m g.2
def chkErr (m : Int) (gs : List (Int × Int)) : Int := if 1 ≤ m ∧ m ≤ 6 then (if gs.length ≤ 20 then (if gs.any (badG m) = true then 5 else 0) else 2) else 3

theorem call17 (args : Array Value) (w : World) : (callFunc 120 args).run Try.prog w = .ok (.enter 120 args) w := by simp [go_sem]
theorem call18 (args : Array Value) (w : World) : (callFunc 145 args).run Try.prog w = .ok (.enter 145 args) w := by simp [go_sem]

set_option maxHeartbeats 400000 in
theorem chkOne_any (m : Int) (s : Value) (b : Nat) (g : Int × Int) (w : World) (h0 : w.cell? ⟨b, 0, none⟩ = some (.int .i64 m)) (h1 : w.cell? ⟨b, 1, none⟩ = some s) :
    Calls Try.prog 120 #[.agg #[.int .i64 g.1, .int .i64 g.2], .pointer (some ⟨b, 0, none⟩)] w fun e w' => e = .returned (.bool (badG m g)) ∧ Below w.heap.size w w' := by
  obtain ⟨g0, g1⟩ := g
  have hlt := World.block_lt_of_cell? w _ h0
  have hne : b ≠ w.heap.size := by have : b < w.heap.size := hlt; omega
  simp only
  have H1 := fun w => isOne_any m g0 s w
  have H2 := fun w => isOne_any m g1 s w
  obtain ⟨r1, hr1⟩ : ∃ r, r = isOne m g0 := ⟨_, rfl⟩
  obtain ⟨r2, hr2⟩ : ∃ r, r = isOne m g1 := ⟨_, rfl⟩
  have hbad : badG m (g0, g1) = (!r1 || !r2) := by rw [hr1, hr2]; rfl
  rw [← hr1] at H1
  rw [← hr2] at H2
  rw [hbad]
  have K1 := hide H1
  have K2 := hide H2
  clear H1 H2 hr1 hr2 hbad
  have hal : Below w.heap.size w (w.alloc (.cells #[.int .i64 g0, .int .i64 g1] 141)) := (Below.refl _ w).alloc (Nat.le_refl _) _
  cases r1 with
  | true =>
    go_enter Try.func120, Try.ntmps120
    go_wp2_with fail
    refine (K1.out _).mono ?_
    rintro e w1 ⟨rfl, hb1⟩
    obtain ⟨hc, hf⟩ := bcell hb1
    have hlt2 : b < (w.alloc (.cells #[.int .i64 g0, .int .i64 g1] 141)).heap.size := by simp; exact Nat.lt_succ_of_lt hlt
    have c0 : w1.cell? ⟨b, 0, none⟩ = some (.int .i64 m) := by rw [hc _ _ hlt2, (bcell hal).1 _ _ hlt]; exact h0
    have c1 : w1.cell? ⟨b, 1, none⟩ = some s := by rw [hc _ _ hlt2, (bcell hal).1 _ _ hlt]; exact h1
    have e1 : w1.cell? ⟨w.heap.size, 1, none⟩ = some (.int .i64 g1) := by rw [hc _ _ (by simp)]; simp [go_sem]
    have hbel : Below w.heap.size w w1 := hal.trans (hb1.mono (by simp))
    clear hc hf hb1
    go_wp2_with fail
    refine (K2.out _).mono ?_
    rintro e w2 ⟨rfl, hb2⟩
    have hbel2 : Below w.heap.size w w2 := hbel.trans (hb2.mono hbel.size)
    go_wp2_with fail
    go_ret
    exact ⟨by simp, hbel2⟩
  | false =>
    go_enter Try.func120, Try.ntmps120
    go_wp2_with fail
    refine (K1.out _).mono ?_
    rintro e w1 ⟨rfl, hb1⟩
    have hbel : Below w.heap.size w w1 := hal.trans (hb1.mono (by simp))
    go_wp2_with fail
    go_ret
    exact ⟨by simp, hbel⟩

theorem idx_any (p : Int × Int → Bool) (gs : List (Int × Int)) : decide (0 ≤ idxOf p gs) = gs.any p := by
  unfold idxOf
  cases h : gs.findIdx? p with
  | none =>
    have : gs.any p = false := by rw [List.any_eq_false]; intro x hx; have := (List.findIdx?_eq_none_iff.1 h) x hx; simpa using this
    rw [this]; rfl
  | some i =>
    obtain ⟨hi, hp, _⟩ := List.findIdx?_eq_some_iff_getElem.1 h
    have : gs.any p = true := List.any_eq_true.2 ⟨_, List.getElem_mem hi, hp⟩
    rw [this]; simp

set_option maxHeartbeats 400000 in
theorem containsFunc_any (m : Int) (s : Value) (b : Nat) (v : Value) (gs : List (Int × Int)) (w : World) (hv : IsGrants w v gs) (hn : gs.length ≤ 20)
    (h0 : w.cell? ⟨b, 0, none⟩ = some (.int .i64 m)) (h1 : w.cell? ⟨b, 1, none⟩ = some s) :
    Calls Try.prog 119 #[v, .func (.func 120) #[] #[.pointer (some ⟨b, 0, none⟩)]] w fun e w' => e = .returned (.bool (gs.any (badG m))) ∧ Below w.heap.size w w' := by
  have hI := indexFunc_any 120 (.pointer (some ⟨b, 0, none⟩)) (badG m) v gs w hv hn (hide fun i hi w1 hb => by
    have hlt := World.block_lt_of_cell? w _ h0
    exact chkOne_any m s b gs[i] w1 (by rw [(bcell hb).1 _ _ hlt]; exact h0) (by rw [(bcell hb).1 _ _ hlt]; exact h1)) call17
  have hx := idx_any (badG m) gs
  obtain ⟨r, hr⟩ : ∃ r, r = idxOf (badG m) gs := ⟨_, rfl⟩
  rw [← hr] at hI hx
  rw [← hx]
  have HI := hide hI
  clear hI hx hr hv
  obtain ⟨u, hu⟩ : ∃ u, u = v := ⟨_, rfl⟩
  go_enter Try.func119, Try.ntmps119
  go_wp2_with fail
  refine (HI.out).mono ?_
  rintro e w1 ⟨rfl, hb1⟩
  go_wp2_with fail
  go_ret
  exact ⟨by simp, hb1⟩

set_option maxHeartbeats 1000000 in
theorem check_any (m : Int) (v : Value) (gs : List (Int × Int)) (w : World) (hv : IsGrants w v gs) :
    Calls Try.prog 88 #[.agg #[.int .i64 m, v]] w fun e w' => e = .returned (.int .i64 (chkErr m gs)) ∧ Below w.heap.size w w' := by
  have hbel : Below w.heap.size w (w.alloc (.cells #[.int .i64 m, v] 35)) := (Below.refl _ w).alloc (Nat.le_refl _) _
  by_cases h1 : m < 1
  · have hE : chkErr m gs = 3 := by unfold chkErr; rw [if_neg (by omega)]
    have HE := hide hE
    clear hE
    go_enter Try.func88, Try.ntmps88
    go_wp2_with fail
    go_ret
    exact ⟨by rw [HE.out]; rfl, hbel⟩
  by_cases h6 : 6 < m
  · have hE : chkErr m gs = 3 := by unfold chkErr; rw [if_neg (by omega)]
    have HE := hide hE
    clear hE
    go_enter Try.func88, Try.ntmps88
    go_wp2_with fail
    go_ret
    exact ⟨by rw [HE.out]; rfl, hbel⟩
  have hvo := isGrants_over hv hbel
  obtain ⟨ao, cap, hve, -⟩ := hv
  by_cases hn : gs.length ≤ 20
  · have hE : chkErr m gs = if gs.any (badG m) = true then 5 else 0 := by unfold chkErr; rw [if_pos (by omega), if_pos hn]
    have hC := containsFunc_any m v w.heap.size v gs (w.alloc (.cells #[.int .i64 m, v] 35)) hvo hn (by simp [go_sem]) (by simp [go_sem])
    obtain ⟨r, hr⟩ : ∃ r, r = gs.any (badG m) := ⟨_, rfl⟩
    rw [← hr] at hE hC
    subst hve
    have HE := hide hE
    have HC := hide hC
    clear hE hC hr hvo
    cases r with
    | true =>
      go_enter Try.func88, Try.ntmps88
      go_wp2_with fail
      refine (HC.out).mono ?_
      rintro e w1 ⟨rfl, hb1⟩
      have hbel1 : Below w.heap.size w w1 := hbel.trans (hb1.mono (by simp))
      go_wp2_with fail
      go_ret
      exact ⟨by rw [HE.out]; rfl, hbel1⟩
    | false =>
      go_enter Try.func88, Try.ntmps88
      go_wp2_with fail
      refine (HC.out).mono ?_
      rintro e w1 ⟨rfl, hb1⟩
      have hbel1 : Below w.heap.size w w1 := hbel.trans (hb1.mono (by simp))
      go_wp2_with fail
      go_ret
      exact ⟨by rw [HE.out]; rfl, hbel1⟩
  · have hE : chkErr m gs = 2 := by unfold chkErr; rw [if_pos (by omega), if_neg hn]
    have HE := hide hE
    subst hve
    clear hE hvo
    go_enter Try.func88, Try.ntmps88
    go_wp2_with fail
    go_ret
    exact ⟨by rw [HE.out]; rfl, hbel⟩
def toI (g : Nat × Nat) : Int × Int := ((g.1 : Int), (g.2 : Int))

/-- bools that lie in a block of their own. -/
def KnownAt (w : World) (kb : Nat) (l : List Bool) : Prop := ∀ i (h : i < l.length), w.cell? ⟨kb, i, none⟩ = some (.bool l[i]) ∧ w.frozen? ⟨kb, i, none⟩ = false

theorem known_over {w w' : World} {kb : Nat} {l : List Bool} (h : KnownAt w kb l) (hb : Below w.heap.size w w') : KnownAt w' kb l := fun i hi => by
  obtain ⟨h1, h2⟩ := h i hi
  have hlt := World.block_lt_of_cell? w _ h1
  exact ⟨by rw [(bcell hb).1 _ _ hlt]; exact h1, by rw [(bcell hb).2 _ _ hlt]; exact h2⟩

theorem known_set {w : World} {kb : Nat} {l : List Bool} (h : KnownAt w kb l) {j : Nat} (hj : j < l.length) (c : Bool) : KnownAt (w.setCell ⟨kb, j, none⟩ (.bool c)) kb (l.set j c) := fun i hi => by
  have hi' : i < l.length := by simpa using hi
  obtain ⟨h1, h2⟩ := h i hi'
  refine ⟨?_, ?_⟩
  · by_cases e : j = i
    · subst e
      rw [World.cell?_setCell_same _ _ _ h1]
      simp
    · rw [World.cell?_setCell_other _ _ _ _ (by intro h; exact e (by injection h)), List.getElem_set_ne e]
      exact h1
  · rw [World.frozen?_setCell]
    exact h2

/-- the heads of what must be known of a closure over them. -/
def leads (l : List Bool) (g : Int × Int) : Bool := (l[g.1.toNat]?.getD false) && !(l[g.2.toNat]?.getD false)

set_option maxHeartbeats 400000 in
theorem leads_any (kp kb : Nat) (l : List Bool) (g : Nat × Nat) (w : World) (hl : l.length ≤ 6) (hkp : w.cell? ⟨kp, 0, none⟩ = some (.slice (some ⟨kb, 0, none⟩) l.length l.length)) (hk : KnownAt w kb l)
    (h0 : g.1 < l.length) (h1 : g.2 < l.length) :
    Calls Try.prog 145 #[.agg #[.int .i64 (toI g).1, .int .i64 (toI g).2], .pointer (some ⟨kp, 0, none⟩)] w fun e w' => e = .returned (.bool (leads l (toI g))) ∧ Below w.heap.size w w' := by
  obtain ⟨g0, g1⟩ := g
  simp only [toI] at h0 h1 ⊢
  have hle : leads l ((g0 : Int), (g1 : Int)) = (l[g0] && !l[g1]) := by simp [leads, h0, h1]
  rw [hle]
  obtain ⟨c0, -⟩ := hk g0 h0
  obtain ⟨c1, -⟩ := hk g1 h1
  obtain ⟨b0, e0⟩ : ∃ r, r = l[g0] := ⟨_, rfl⟩
  obtain ⟨b1, e1⟩ : ∃ r, r = l[g1] := ⟨_, rfl⟩
  rw [← e0] at c0
  rw [← e1] at c1
  rw [← e0, ← e1]
  have lt1 := World.block_lt_of_cell? w _ hkp
  have lt2 := World.block_lt_of_cell? w _ c0
  have hbel : Below w.heap.size w (w.alloc (.cells #[.int .i64 g0, .int .i64 g1] 141)) := (Below.refl _ w).alloc (Nat.le_refl _) _
  clear e0 e1 hle hk
  cases b0 with
  | true =>
    go_enter Try.func145, Try.ntmps145
    go_wp2_with fail
    go_ret
    exact ⟨by simp, hbel⟩
  | false =>
    go_enter Try.func145, Try.ntmps145
    go_wp2_with fail
    go_ret
    exact ⟨by simp, hbel⟩

theorem Try.info4 : (Try.prog.info? 4).map (fun i => (i.zero, i.size, i.bytes)) = some (some (.bool false), 1, 1) := by kernel_rfl

theorem make35 (n : Nat) (hn : n ≤ 6) (w : World) : (Instr.makeSlice 60 (.int .i64 n) (.int .i64 n)).run Try.prog w = .ok (.slice (some ⟨w.heap.size, 0, none⟩) n n) (w.alloc (.cells (List.replicate n (Value.bool false)).toArray 4)) := by
  cases hi : Try.prog.info? 4 with
  | none => have := Try.info4; rw [hi] at this; cases this
  | some i =>
    have h4 := Try.info4
    rw [hi] at h4
    simp only [Option.map_some, Option.some.injEq, Prod.mk.injEq] at h4
    obtain ⟨hz, h1, h2⟩ := h4
    have := run_make (P := Try.prog) w 60 4 i (.bool false) Try.underlying60 hi hz .i64 .i64 (n : Int) (n : Int) (by omega) (by omega) (by rw [h2]; omega) (by omega)
    rw [this, h1]
    simp only [Int.toNat_natCast, Nat.mul_one]
    have e : madeCells (Value.bool false).cells n = (List.replicate n (Value.bool false)).toArray := by
      apply Array.ext
      · simp [madeCells]
      · intro j h1 h2
        simp [madeCells, Value.cells, Nat.mod_one]
    rw [e]

/-- where actsFor stands. -/
def ActsSt (w : World) (n : Nat) (v : Value) (l : List Bool) (W : World) : Prop :=
  W.cell? ⟨w.heap.size, 0, none⟩ = some (.int .i64 n) ∧ W.cell? ⟨w.heap.size, 1, none⟩ = some v ∧ W.cell? ⟨w.heap.size + 1 + 1, 0, none⟩ = some (.slice (some ⟨w.heap.size + 1, 0, none⟩) n n) ∧ KnownAt W (w.heap.size + 1) l ∧ Below w.heap.size w W

theorem ActsSt.over {w W W' : World} {n : Nat} {v : Value} {l : List Bool} (h : ActsSt w n v l W) (hb : Below W.heap.size W W') : ActsSt w n v l W' := by
  obtain ⟨h0, h1, h2, h3, h4⟩ := h
  obtain ⟨hc, hf⟩ := bcell hb
  refine ⟨?_, ?_, ?_, known_over h3 hb, h4.trans (hb.mono h4.size)⟩
  · rw [hc _ _ (World.block_lt_of_cell? W _ h0)]; exact h0
  · rw [hc _ _ (World.block_lt_of_cell? W _ h1)]; exact h1
  · rw [hc _ _ (World.block_lt_of_cell? W _ h2)]; exact h2

theorem actsSt_idx {w W : World} {n : Nat} {v : Value} {l : List Bool} {gn : List (Nat × Nat)} (hn : n ≤ 6) (h : ActsSt w n v l W) (hl : l.length = n) (hv : IsGrants w v (gn.map toI)) (hlen : gn.length ≤ 20) (hb : ∀ g ∈ gn, g.1 < n ∧ g.2 < n) :
    Calls Try.prog 146 #[v, .func (.func 145) #[] #[.pointer (some ⟨w.heap.size + 1 + 1, 0, none⟩)]] W fun e w' => e = .returned (.int .i64 (idxOf (leads l) (gn.map toI))) ∧ ActsSt w n v l w' := by
  refine (indexFunc_any 145 (.pointer (some ⟨w.heap.size + 1 + 1, 0, none⟩)) (leads l) v (gn.map toI) W (isGrants_over hv h.2.2.2.2) (by simpa using hlen) (hide fun i hi w1 hb1 => ?_) call18).mono ?_
  · have hi' : i < gn.length := by simpa using hi
    have hs := h.over hb1
    have hg := hb gn[i] (List.getElem_mem hi')
    have := leads_any (w.heap.size + 1 + 1) (w.heap.size + 1) l gn[i] w1 (by omega) (by rw [hl]; exact hs.2.2.1) hs.2.2.2.1 (by omega) (by omega)
    simpa using this
  · rintro e w' ⟨rfl, hb1⟩
    exact ⟨rfl, h.over hb1⟩

def isF : Option Value → Bool
  | some (.bool false) => true
  | _ => false
def falses (kb n : Nat) (W : World) : Nat := (List.range n).countP fun i => isF (W.cell? ⟨kb, i, none⟩)

theorem falses_eq {W : World} {kb : Nat} {l : List Bool} (h : KnownAt W kb l) : falses kb l.length W = l.count false := by
  have : l = (List.range l.length).map fun i => l[i]?.getD false := by
    apply List.ext_getElem
    · simp
    · intro i h1 h2
      simp [h1]
  unfold falses
  conv => rhs; rw [this]
  rw [List.count_eq_countP, List.countP_map]
  apply List.countP_congr
  intro i hi
  have hi' : i < l.length := by simpa using hi
  rw [(h i hi').1]
  simp only [Function.comp, hi', List.getElem?_eq_getElem, Option.getD_some]
  cases l[i] <;> simp [isF]

theorem count_set_false {l : List Bool} {j : Nat} (hj : j < l.length) (h : l[j] = false) : (l.set j true).count false < l.count false := by
  rw [List.count_set hj]
  have hm : 0 < l.count false := List.count_pos_iff.2 (List.mem_iff_getElem.2 ⟨j, hj, h⟩)
  simp [h]
  omega

theorem idx_split (l : List Bool) (gn : List (Nat × Nat)) (n : Nat) (hl : l.length = n) (hb : ∀ g ∈ gn, g.1 < n ∧ g.2 < n) :
    (idxOf (leads l) (gn.map toI) = -1 ∧ Closed gn l) ∨ ∃ (k : Nat) (h : k < gn.length), idxOf (leads l) (gn.map toI) = k ∧ l[gn[k].1]? = some true ∧ l[gn[k].2]? = some false := by
  have hd : ∀ g ∈ gn, leads l (toI g) = true ↔ l[g.1]? = some true ∧ l[g.2]? = some false := fun g hg => by
    obtain ⟨h0, h1⟩ := hb g hg
    have e0 : l[g.1]? = some l[g.1] := List.getElem?_eq_getElem (by omega)
    have e1 : l[g.2]? = some l[g.2] := List.getElem?_eq_getElem (by omega)
    simp only [leads, toI, Int.toNat_natCast, e0, e1, Option.getD_some, Option.some.injEq]
    cases l[g.1] <;> cases l[g.2] <;> simp
  unfold idxOf
  cases hf : (gn.map toI).findIdx? (leads l) with
  | none =>
    left
    refine ⟨rfl, fun g hg hk => ?_⟩
    have h1 := (List.findIdx?_eq_none_iff.1 hf) (toI g) (List.mem_map_of_mem hg)
    have h2 : ¬ (l[g.1]? = some true ∧ l[g.2]? = some false) := fun h => by rw [(hd g hg).2 h] at h1; cases h1
    have hg2 : g.2 < l.length := by have := hb g hg; omega
    have e1 : l[g.2]? = some l[g.2] := List.getElem?_eq_getElem hg2
    rw [e1] at h2 ⊢
    cases hx : l[g.2] with
    | true => rfl
    | false => exact absurd ⟨hk, by rw [hx]⟩ h2
  | some k =>
    right
    obtain ⟨hi, hp, _⟩ := List.findIdx?_eq_some_iff_getElem.1 hf
    have hi' : k < gn.length := by simpa using hi
    have hp' : leads l (toI gn[k]) = true := by simpa using hp
    exact ⟨k, hi', rfl, (hd _ (List.getElem_mem hi')).1 hp'⟩

set_option maxHeartbeats 1000000 in
theorem actsFor_any (n who : Nat) (hn : n ≤ 6) (hw : who < n) (v : Value) (gn : List (Nat × Nat)) (w : World) (hv : IsGrants w v (gn.map toI)) (hlen : gn.length ≤ 20) (hb : ∀ g ∈ gn, g.1 < n ∧ g.2 < n) :
    Calls Try.prog 117 #[.agg #[.int .i64 n, v], .int .i64 who] w fun e w' => ∃ kb, w.heap.size ≤ kb ∧ kb < w'.heap.size ∧ e = .returned (.slice (some ⟨kb, 0, none⟩) n n) ∧ KnownAt w' kb (acts gn n who) ∧ Below w.heap.size w w' := by
  have hmk := fun w => make35 n hn w
  have hst : ActsSt w n v (start n who) (((w.alloc (Obj.cells #[Value.int IntKind.i64 n, v] 35)).alloc (Obj.cells ((Array.replicate n (Value.bool false)).setIfInBounds who (Value.bool true)) 4)).alloc (Obj.cells #[Value.slice (some { block := w.heap.size + 1, off := 0 }) n n] 60)) := by
    refine ⟨by simp [go_sem], by simp [go_sem], by simp [go_sem], fun i hi => ?_, ?_⟩
    · have hi' : i < n := by simpa [start] using hi
      refine ⟨?_, by simp [go_sem]⟩
      simp [go_sem, start, List.getElem_set, hi']
      by_cases e : who = i
      · simp [e]
      · simp [e, hi']
    · exact (((Below.refl _ w).alloc (Nat.le_refl _) _).alloc (by simp) _).alloc (by simp; omega) _
  have HI := hide (actsSt_idx hn hst (start_length n who) hv hlen hb)
  clear hst
  go_enter Try.func117, Try.ntmps117
  go_wp2_with fail
  refine (HI.out).mono ?_
  rintro e w1 ⟨rfl, hst⟩
  clear HI hmk
  go_wp2_with fail
  go_loopw [7] (fun i wr => ∃ l : List Bool, l.length = n ∧ Sound gn who l ∧ i = .int .i64 (idxOf (leads l) (gn.map toI)) ∧ ActsSt w n v l wr) (fun _ wr => falses (w.heap.size + 1) n wr)
  case atStart => exact ⟨_, start_length n who, start_sound gn hw, rfl, hst⟩
  case round =>
    obtain ⟨l, hl, hsd, rfl, hst2⟩ := hrel
    clear hst
    rcases idx_split l gn n hl hb with ⟨hi, hcl⟩ | ⟨k, hk, hi, hkt, hkf⟩
    · have he : l = acts gn n who := acts_one hw (fun g hg => (hb g hg).2) hl hsd hcl
      rw [hi]
      obtain ⟨s0, s1, s2, s3, s4⟩ := hst2
      have hz := World.block_lt_of_cell? wr _ s2
      have hz' : w.heap.size + 1 < wr.heap.size := by have : w.heap.size + 1 + 1 < wr.heap.size := hz; omega
      rw [he] at s3
      clear hcl hsd he hi
      go_wp2_with fail
      go_ret
      exact ⟨w.heap.size + 1, by omega, hz', rfl, s3, s4⟩
    · obtain ⟨hg1, hg2⟩ := hb _ (List.getElem_mem hk)
      have hs1 := hst2
      obtain ⟨s0, s1, s2, s3, s4⟩ := hst2
      obtain ⟨ao, cap, hve, hcc⟩ := hv
      rw [List.length_map] at hve
      subst hve
      obtain ⟨b, off, rfl, hcl⟩ := hcc (by intro h; rw [List.map_eq_nil_iff] at h; rw [h] at hk; simp at hk)
      obtain ⟨q0, q1⟩ := hcl k (by simpa using hk)
      have hlt := World.block_lt_of_cell? w _ q0
      rw [← (bcell s4).1 _ _ hlt] at q0 q1
      simp only [List.getElem_map, toI] at q0 q1
      obtain ⟨d1, d2⟩ := s3 gn[k].2 (by omega)
      have hfal : l[gn[k].2] = false := by have := hkf; rw [List.getElem?_eq_getElem (by omega)] at this; exact Option.some.inj this
      rw [hfal] at d1
      obtain ⟨gw, hgw⟩ : ∃ r, r = gn[k].1 := ⟨_, rfl⟩
      obtain ⟨gf, hgf⟩ : ∃ r, r = gn[k].2 := ⟨_, rfl⟩
      simp only [← hgw, ← hgf] at q0 q1 d1 d2 hg1 hg2 hkt hkf hfal
      rw [hi]
      have hset := known_set (w := wr.drew) s3 (j := gf) (by omega) true
      have hsn : Sound gn who (l.set gf true) := by rw [hgf]; exact sound_set hsd (List.getElem_mem hk) (by rw [← hgw]; exact hkt)
      have hln : (l.set gf true).length = n := by simpa using hl
      have hlm : falses (w.heap.size + 1) n wr = l.count false := by rw [← hl]; exact falses_eq s3
      have hct := count_set_false (l := l) (j := gf) (by omega) hfal
      have hst3 : ActsSt w n (.slice (some ⟨b, off, none⟩) gn.length cap) (l.set gf true) (wr.drew.setCell ⟨w.heap.size + 1, gf, none⟩ (.bool true)) := by
        refine ⟨?_, ?_, ?_, hset, (below_drewN s4 1).setCell (by simp) _⟩
        · rw [World.cell?_setCell_other _ _ _ _ (by simp)]; exact s0
        · rw [World.cell?_setCell_other _ _ _ _ (by simp)]; exact s1
        · rw [World.cell?_setCell_other _ _ _ _ (by simp)]; exact s2
      have hv' : IsGrants w (.slice (some ⟨b, off, none⟩) gn.length cap) (gn.map toI) := ⟨_, _, by rw [List.length_map], hcc⟩
      have HI := hide (actsSt_idx hn hst3 hln hv' hlen hb)
      obtain ⟨t0, t1, t2, -, -⟩ := hst3
      have HS := hide hsn
      clear hcl hcc hset hsn hsd hs1 hv' s3 hkt hkf hfal hgw hgf hb q0
      go_wp2_with fail
      go_region
      go_wp2_with fail
      refine (HI.out).mono ?_
      rintro e w2 ⟨rfl, hst4⟩
      clear HI
      go_wp2_with fail
      refine ⟨⟨l.set gf true, hln, HS.out, rfl, hst4⟩, ?_⟩
      have h1 := falses_eq hst4.2.2.2.1
      rw [hln] at h1
      omega
def gnOf (gs : List (Int × Int)) : List (Nat × Nat) := gs.map fun g => (g.1.toNat, g.2.toNat)

theorem chk_ok {m : Int} {gs : List (Int × Int)} (h : chkErr m gs = 0) : ∃ n : Nat, m = n ∧ 1 ≤ n ∧ n ≤ 6 ∧ (gnOf gs).map toI = gs ∧ (gnOf gs).length ≤ 20 ∧ ∀ g ∈ gnOf gs, g.1 < n ∧ g.2 < n := by
  unfold chkErr at h
  split at h
  · split at h
    · split at h
      · cases h
      · rename_i hm hl hb
        have hb' : ∀ g ∈ gs, isOne m g.1 = true ∧ isOne m g.2 = true := fun g hg => by
          have h1 : ¬ badG m g = true := fun hh => hb (List.any_eq_true.2 ⟨g, hg, hh⟩)
          simp [badG] at h1
          exact h1
        refine ⟨m.toNat, by omega, by omega, by omega, ?_, by simpa [gnOf] using hl, fun g hg => ?_⟩
        · unfold gnOf
          rw [List.map_map]
          conv => rhs; rw [← List.map_id gs]
          apply List.map_congr_left
          intro g hg
          obtain ⟨h1, h2⟩ := hb' g hg
          simp [isOne] at h1 h2
          simp only [Function.comp, toI, id]
          ext <;> simp <;> omega
        · obtain ⟨g', hg', rfl⟩ := List.mem_map.1 hg
          obtain ⟨h1, h2⟩ := hb' g' hg'
          simp [isOne] at h1 h2
          simp only
          omega
    · cases h
  · cases h

theorem Try.info35 : (Try.prog.info? 60).map (fun i => (i.zero, i.size, i.bytes)) = some (some (.slice none 0 0), 1, 24) := by kernel_rfl

theorem make25 (n : Nat) (hn : n ≤ 6) (w : World) : (Instr.makeSlice 135 (.int .i64 n) (.int .i64 n)).run Try.prog w = .ok (.slice (some ⟨w.heap.size, 0, none⟩) n n) (w.alloc (.cells (List.replicate n (Value.slice none 0 0)).toArray 60)) := by
  cases hi : Try.prog.info? 60 with
  | none => have := Try.info35; rw [hi] at this; cases this
  | some i =>
    have h4 := Try.info35
    rw [hi] at h4
    simp only [Option.map_some, Option.some.injEq, Prod.mk.injEq] at h4
    obtain ⟨hz, h1, h2⟩ := h4
    have := run_make (P := Try.prog) w 135 60 i (.slice none 0 0) Try.underlying135 hi hz .i64 .i64 (n : Int) (n : Int) (by omega) (by omega) (by rw [h2]; omega) (by omega)
    rw [this, h1]
    simp only [Int.toNat_natCast, Nat.mul_one]
    have e : madeCells (Value.slice none 0 0).cells n = (List.replicate n (Value.slice none 0 0)).toArray := by
      apply Array.ext
      · simp [madeCells]
      · intro j h1 h2
        simp [madeCells, Value.cells, Nat.mod_one]
    rw [e]

/-- rows of bools, one for each. -/
def RowsAt (W : World) (ob n : Nat) (gn : List (Nat × Nat)) (k : Nat) : Prop := ∀ i, i < k → ∃ kb, kb ≠ ob ∧ W.cell? ⟨ob, i, none⟩ = some (.slice (some ⟨kb, 0, none⟩) n n) ∧ KnownAt W kb (acts gn n i)

theorem rows_over {W W' : World} {ob n k : Nat} {gn : List (Nat × Nat)} (h : RowsAt W ob n gn k) (hb : Below W.heap.size W W') : RowsAt W' ob n gn k := fun i hi => by
  obtain ⟨kb, h1, h2, h3⟩ := h i hi
  exact ⟨kb, h1, by rw [(bcell hb).1 _ _ (World.block_lt_of_cell? W _ h2)]; exact h2, known_over h3 hb⟩

theorem known_other {w : World} {kb : Nat} {l : List Bool} (h : KnownAt w kb l) {p : Addr} (hp : p.block ≠ kb) (u : Value) : KnownAt (w.setCell p u) kb l := fun i hi => by
  obtain ⟨h1, h2⟩ := h i hi
  refine ⟨?_, ?_⟩
  · rw [World.cell?_setCell_other _ _ _ _ (by intro h; exact hp (by rw [h]))]
    exact h1
  · rw [World.frozen?_setCell]
    exact h2

theorem rows_set {W : World} {ob n k kb : Nat} {gn : List (Nat × Nat)} (h : RowsAt W ob n gn k) {u : Value} (hu : W.cell? ⟨ob, k, none⟩ = some u) (hkb : kb ≠ ob) (hk : KnownAt W kb (acts gn n k)) :
    RowsAt (W.setCell ⟨ob, k, none⟩ (.slice (some ⟨kb, 0, none⟩) n n)) ob n gn (k + 1) := fun i hi => by
  by_cases e : i = k
  · subst e
    exact ⟨kb, hkb, World.cell?_setCell_same _ _ _ hu, known_other hk (fun h => hkb h.symm) _⟩
  · obtain ⟨kc, h1, h2, h3⟩ := h i (by omega)
    refine ⟨kc, h1, ?_, known_other h3 (fun h => h1 h.symm) _⟩
    rw [World.cell?_setCell_other _ _ _ _ (by intro h; injection h with _ h; exact e h.symm)]
    exact h2

/-- cells that may be written. -/
def Slots (W : World) (ob n : Nat) : Prop := ∀ i, i < n → (∃ u, W.cell? ⟨ob, i, none⟩ = some u) ∧ W.frozen? ⟨ob, i, none⟩ = false

theorem slots_over {W W' : World} {ob n : Nat} (h : Slots W ob n) (hb : Below W.heap.size W W') : Slots W' ob n := fun i hi => by
  obtain ⟨⟨u, h1⟩, h2⟩ := h i hi
  have hlt := World.block_lt_of_cell? W _ h1
  exact ⟨⟨u, by rw [(bcell hb).1 _ _ hlt]; exact h1⟩, by rw [(bcell hb).2 _ _ hlt]; exact h2⟩

theorem slots_set {W : World} {ob n k : Nat} (h : Slots W ob n) (hk : k < n) (v : Value) : Slots (W.setCell ⟨ob, k, none⟩ v) ob n := fun i hi => by
  obtain ⟨⟨u, h1⟩, h2⟩ := h i hi
  refine ⟨?_, by rw [World.frozen?_setCell]; exact h2⟩
  by_cases e : k = i
  · subst e
    exact ⟨v, World.cell?_setCell_same _ _ _ h1⟩
  · exact ⟨u, by rw [World.cell?_setCell_other _ _ _ _ (by intro h; injection h with _ h; exact e h)]; exact h1⟩

def ForSt (w : World) (n : Nat) (v : Value) (gn : List (Nat × Nat)) (ob k : Nat) (W : World) : Prop :=
  W.cell? ⟨w.heap.size, 0, none⟩ = some (.int .i64 n) ∧ W.cell? ⟨w.heap.size, 1, none⟩ = some v ∧ Slots W ob n ∧ RowsAt W ob n gn k ∧ Below w.heap.size w W ∧ w.heap.size < ob ∧ ob < W.heap.size

theorem ForSt.over {w W W' : World} {n ob k : Nat} {v : Value} {gn : List (Nat × Nat)} (h : ForSt w n v gn ob k W) (hb : Below W.heap.size W W') : ForSt w n v gn ob k W' := by
  obtain ⟨h0, h1, h2, h3, h4, h5, h6⟩ := h
  obtain ⟨hc, hf⟩ := bcell hb
  refine ⟨?_, ?_, slots_over h2 hb, rows_over h3 hb, h4.trans (hb.mono h4.size), h5, Nat.lt_of_lt_of_le h6 hb.size⟩
  · rw [hc _ _ (World.block_lt_of_cell? W _ h0)]; exact h0
  · rw [hc _ _ (World.block_lt_of_cell? W _ h1)]; exact h1

set_option maxHeartbeats 1000000 in
theorem for_ok (n : Nat) (h1 : 1 ≤ n) (hn : n ≤ 6) (v : Value) (gn : List (Nat × Nat)) (w : World) (hv : IsGrants w v (gn.map toI)) (hlen : gn.length ≤ 20) (hb : ∀ g ∈ gn, g.1 < n ∧ g.2 < n) (hE : chkErr n (gn.map toI) = 0) :
    Calls Try.prog 79 #[.agg #[.int .i64 n, v]] w fun e w' => ∃ ob, e = .returned (.tuple #[.slice (some ⟨ob, 0, none⟩) n n, .int .i64 0]) ∧ RowsAt w' ob n gn n ∧ Below w.heap.size w w' := by
  have hmk := fun w => make25 n hn w
  have hbel : Below w.heap.size w (w.alloc (.cells #[.int .i64 n, v] 35)) := (Below.refl _ w).alloc (Nat.le_refl _) _
  have hC := check_any n v (gn.map toI) (w.alloc (.cells #[.int .i64 n, v] 35)) (isGrants_over hv hbel)
  rw [hE] at hC
  have HC := hide hC
  have HA := hide fun (who : Nat) (hw : who < n) (W : World) (hW : Below w.heap.size w W) => actsFor_any n who hn hw v gn W (isGrants_over hv hW) hlen hb
  clear hC hE hv
  go_enter Try.func79, Try.ntmps79
  go_wp2_with fail
  refine (HC.out).mono ?_
  rintro e w1 ⟨rfl, hb1⟩
  obtain ⟨hc, hf⟩ := bcell hb1
  have c0 : w1.cell? ⟨w.heap.size, 0, none⟩ = some (.int .i64 n) := by rw [hc _ _ (by simp)]; simp [go_sem]
  have c1 : w1.cell? ⟨w.heap.size, 1, none⟩ = some v := by rw [hc _ _ (by simp)]; simp [go_sem]
  have hbel1 : Below w.heap.size w w1 := hbel.trans (hb1.mono (by simp))
  have hz : w.heap.size < w1.heap.size := World.block_lt_of_cell? w1 _ c0
  have hst : ForSt w n v gn w1.heap.size 0 (w1.alloc (.cells (List.replicate n (Value.slice none 0 0)).toArray 60)) := by
    have hal : Below w1.heap.size w1 (w1.alloc (.cells (List.replicate n (Value.slice none 0 0)).toArray 60)) := (Below.refl _ w1).alloc (Nat.le_refl _) _
    refine ⟨?_, ?_, fun i hi => ⟨⟨.slice none 0 0, by simp [go_sem, hi]⟩, by simp [go_sem]⟩, fun i hi => absurd hi (Nat.not_lt_zero _), hbel1.trans (hal.mono (by omega)), hz, by simp⟩
    · rw [(bcell hal).1 _ _ hz]; exact c0
    · rw [(bcell hal).1 _ _ hz]; exact c1
  clear HC hc hf hb1 hbel
  go_wp2_with fail
  go_loopw [17] (fun i wr => ∃ k : Nat, k ≤ n ∧ i = .int .i64 k ∧ ForSt w n v gn w1.heap.size k wr) (fun i _ => n - (intOf i).toNat)
  case atStart => exact ⟨0, Nat.zero_le _, rfl, by simpa using hst⟩
  case round =>
    clear hst hmk c0 c1
    obtain ⟨k, hk, rfl, hs1⟩ := hrel
    by_cases hkn : k < n
    · have HS := hide hs1
      obtain ⟨s0, s1, -, -, s4, -, s6⟩ := hs1
      go_wp2_with fail
      refine (HA.out k hkn _ s4).mono ?_
      rintro e w2 ⟨kb, hkb, hkb2, rfl, hkn2, hb2⟩
      have hs2 := HS.out.over hb2
      clear s0 s1 s4
      obtain ⟨⟨u, d1⟩, d2⟩ := hs2.2.2.1 k hkn
      have hne : kb ≠ w1.heap.size := by omega
      have hs3 : ForSt w n v gn w1.heap.size (k + 1) (w2.setCell ⟨w1.heap.size, k, none⟩ (.slice (some ⟨kb, 0, none⟩) n n)) := by
        obtain ⟨r0, r1, r2, r3, r4, r5, r6⟩ := hs2
        refine ⟨?_, ?_, slots_set r2 hkn _, rows_set r3 d1 hne hkn2, r4.setCell (by simp; omega) _, r5, by simpa using r6⟩
        · rw [World.cell?_setCell_other _ _ _ _ (by simp)]; exact r0
        · rw [World.cell?_setCell_other _ _ _ _ (by simp)]; exact r1
      clear hs2 HS hkn2
      go_wp2_with fail
      exact ⟨⟨k + 1, by omega, by go_num, hs3⟩, by simp [intOf]; omega⟩
    · have hke : k = n := by omega
      subst hke
      obtain ⟨-, -, -, s3, s4, -, -⟩ := hs1
      go_wp2_with fail
      go_ret2
      exact ⟨w1.heap.size, rfl, s3, s4⟩
/-- four cells that are kept where all below is kept. -/
theorem held4 {w w0 w1 : World} {b0 o0 b1 o1 b2 o2 b3 o3 : Nat} {v0 v1 v2 v3 : Value} (h : w0.cell? ⟨b0, o0, none⟩ = some v0 ∧ w0.cell? ⟨b1, o1, none⟩ = some v1 ∧ w0.cell? ⟨b2, o2, none⟩ = some v2 ∧ w0.cell? ⟨b3, o3, none⟩ = some v3 ∧ Below w.heap.size w w0)
    (hb : Below w0.heap.size w0 w1) : w1.cell? ⟨b0, o0, none⟩ = some v0 ∧ w1.cell? ⟨b1, o1, none⟩ = some v1 ∧ w1.cell? ⟨b2, o2, none⟩ = some v2 ∧ w1.cell? ⟨b3, o3, none⟩ = some v3 ∧ Below w.heap.size w w1 := by
  obtain ⟨h0, h1, h2, h3, hB⟩ := h
  obtain ⟨hc, hf⟩ := bcell hb
  refine ⟨?_, ?_, ?_, ?_, ?_⟩
  · rw [hc _ _ (World.block_lt_of_cell? w0 _ h0)]; exact h0
  · rw [hc _ _ (World.block_lt_of_cell? w0 _ h1)]; exact h1
  · rw [hc _ _ (World.block_lt_of_cell? w0 _ h2)]; exact h2
  · rw [hc _ _ (World.block_lt_of_cell? w0 _ h3)]; exact h3
  · exact hB.trans (hb.mono hB.size)
/-- a slice that holds bools. -/
def IsBools (w : World) (v : Value) (l : List Bool) : Prop :=
  ∃ ao cap, v = .slice ao l.length cap ∧ (l ≠ [] → ∃ b off, ao = some ⟨b, off, none⟩ ∧ ∀ i (h : i < l.length), w.cell? ⟨b, off + i, none⟩ = some (.bool l[i]))

theorem isBools_over {w w' : World} {v : Value} {l : List Bool} (h : IsBools w v l) (hb : Below w.heap.size w w') : IsBools w' v l := by
  obtain ⟨ao, cap, rfl, hc⟩ := h
  refine ⟨ao, cap, rfl, fun hne => ?_⟩
  obtain ⟨b, off, rfl, hcl⟩ := hc hne
  refine ⟨b, off, rfl, fun i hi => ?_⟩
  have h1 := hcl i hi
  rw [(bcell hb).1 _ _ (World.block_lt_of_cell? w _ h1)]
  exact h1

theorem isBools_drewN {w : World} {v : Value} {l : List Bool} (h : IsBools w v l) (n : Nat) : IsBools (w.drewN n) v l := h

theorem isBools_at {w : World} {v : Value} {l : List Bool} (h : IsBools w v l) {i : Nat} (hi : i < l.length) : ∃ b off cap, v = .slice (some ⟨b, off, none⟩) l.length cap ∧ w.cell? ⟨b, off + i, none⟩ = some (.bool l[i]) := by
  obtain ⟨ao, cap, rfl, hc⟩ := h
  obtain ⟨b, off, rfl, hcl⟩ := hc (by rintro rfl; simp at hi)
  exact ⟨b, off, cap, rfl, hcl i hi⟩

theorem take_succ_ne {a b : List Bool} {k : Nat} (hka : k < a.length) (hkb : k < b.length) (hne : a[k] ≠ b[k]) : a ≠ b := by
  rintro rfl
  exact hne rfl

set_option maxHeartbeats 1000000 in
theorem sameBools_any (va vb : Value) (a b : List Bool) (w : World) (ha : IsBools w va a) (hb : IsBools w vb b) (hla : a.length ≤ 9223372036854775807) :
    Calls Try.prog 44 #[va, vb] w fun e w' => e = .returned (.bool (decide (a = b))) ∧ ∃ n, w' = w.drewN n := by
  have HA := hide ha
  have HB := hide hb
  obtain ⟨ao, ca, rfl, -⟩ := ha
  obtain ⟨bo, cb, rfl, -⟩ := hb
  by_cases hl : a.length = b.length
  · have hl2 : ((a.length : Int) != b.length) = false := by simp [hl]
    have HL := hide hl
    clear hl
    go_enter Try.func44, Try.ntmps44
    go_wp2_with fail
    go_loopw [5] (fun i wr => ∃ k n : Nat, k ≤ a.length ∧ i = .int .i64 k ∧ a.take k = b.take k ∧ wr = w.drewN n) (fun i _ => a.length - (intOf i).toNat)
    case atStart => exact ⟨0, 0, Nat.zero_le _, rfl, rfl, rfl⟩
    case round =>
      obtain ⟨k, n, hk, rfl, heq, rfl⟩ := hrel
      by_cases hkl : k < a.length
      · have hkb : k < b.length := by have := HL.out; omega
        obtain ⟨b1, o1, c1, e1, q1⟩ := isBools_at HA.out hkl
        obtain ⟨b2, o2, c2, e2, q2⟩ := isBools_at HB.out hkb
        injection e1 with e1a e1b e1c
        injection e2 with e2a e2b e2c
        subst e1a e1c e2a e2c
        have htk : a[k] = b[k] → a.take (k + 1) = b.take (k + 1) := fun h => by
          rw [List.take_succ_eq_append_getElem hkl, List.take_succ_eq_append_getElem hkb, heq, h]
        have hne : a[k] ≠ b[k] → decide (a = b) = false := fun h => decide_eq_false (take_succ_ne hkl hkb h)
        obtain ⟨x, hx⟩ : ∃ x, x = a[k] := ⟨_, rfl⟩
        obtain ⟨y, hy⟩ : ∃ y, y = b[k] := ⟨_, rfl⟩
        rw [← hx] at q1
        rw [← hy] at q2
        rw [← hx, ← hy] at htk hne
        have HT := hide htk
        have HN := hide hne
        clear htk hne heq hx hy e1b e2b
        cases x <;> cases y
        all_goals go_wp2_with fail
        all_goals go_region
        all_goals go_wp2_with fail
        all_goals first
          | exact ⟨⟨k + 1, n + 1, by omega, by go_num, HT.out (by first | rfl | trivial), by first | rfl | trivial⟩, by simp [intOf]; omega⟩
          | (go_ret; exact ⟨by rw [HN.out (by decide)]; rfl, n + 1, rfl⟩)
      · have hke : k = a.length := by omega
        have hab : a = b := by
          have h2 : k = b.length := by have := HL.out; omega
          rw [hke, List.take_length] at heq
          rw [heq, ← hke, h2, List.take_length]
        have hd : decide (a = b) = true := decide_eq_true hab
        have HD := hide hd
        clear hd hab heq
        go_wp2_with fail
        go_ret
        exact ⟨by rw [HD.out]; rfl, n, rfl⟩
  · have hl2 : ((a.length : Int) != b.length) = true := by simp; omega
    have hd : decide (a = b) = false := decide_eq_false (fun h => hl (by rw [h]))
    rw [hd]
    clear hd
    go_enter Try.func44, Try.ntmps44
    go_wp2_with fail
    go_ret
    exact ⟨rfl, 0, rfl⟩

/-- a level: who may read, who may have written. -/
structure Lev where
  r : List Bool
  w : List Bool

def LevAt (W : World) (v : Value) (l : Lev) : Prop := ∃ vr vw, v = .agg #[vr, vw] ∧ IsBools W vr l.r ∧ IsBools W vw l.w

theorem levAt_over {W W' : World} {v : Value} {l : Lev} (h : LevAt W v l) (hb : Below W.heap.size W W') : LevAt W' v l := by
  obtain ⟨vr, vw, rfl, h1, h2⟩ := h
  exact ⟨vr, vw, rfl, isBools_over h1 hb, isBools_over h2 hb⟩

def sameLev (l m : Lev) : Bool := decide (l.r = m.r) && decide (l.w = m.w)
def Lev.small (l : Lev) : Prop := l.r.length ≤ 9223372036854775807 ∧ l.w.length ≤ 9223372036854775807

set_option maxHeartbeats 1000000 in
theorem sameLevel_any (vl vm : Value) (l m : Lev) (w : World) (hl : LevAt w vl l) (hm : LevAt w vm m) (hs : l.small) :
    Calls Try.prog 43 #[vl, vm] w fun e w' => e = .returned (.bool (sameLev l m)) ∧ Below w.heap.size w w' := by
  obtain ⟨r1, w1, rfl, hr1, hw1⟩ := hl
  obtain ⟨r2, w2, rfl, hr2, hw2⟩ := hm
  have hbel : Below w.heap.size w ((w.alloc (.cells #[r1, w1] 62)).alloc (.cells #[r2, w2] 62)) := ((Below.refl _ w).alloc (Nat.le_refl _) _).alloc (by simp) _
  have hS := sameBools_any r1 r2 l.r m.r _ (isBools_over hr1 hbel) (isBools_over hr2 hbel) hs.1
  have hT := fun n => sameBools_any w1 w2 l.w m.w (((w.alloc (.cells #[r1, w1] 62)).alloc (.cells #[r2, w2] 62)).drewN n) (isBools_drewN (isBools_over hw1 hbel) n) (isBools_drewN (isBools_over hw2 hbel) n) hs.2
  have hx : sameLev l m = (decide (l.r = m.r) && decide (l.w = m.w)) := rfl
  obtain ⟨x, hxe⟩ : ∃ x, x = decide (l.r = m.r) := ⟨_, rfl⟩
  obtain ⟨y, hye⟩ : ∃ y, y = decide (l.w = m.w) := ⟨_, rfl⟩
  rw [← hxe] at hS hx
  rw [← hye] at hT hx
  rw [hx]
  have KS := hide hS
  have KT := hide hT
  clear hS hT hxe hye hx hr1 hr2 hw1 hw2
  cases x with
  | false =>
    go_enter Try.func43, Try.ntmps43
    go_wp2_with fail
    refine (KS.out).mono ?_
    rintro e w3 ⟨rfl, n, rfl⟩
    go_wp2_with fail
    go_ret
    exact ⟨by simp, below_drewN hbel n⟩
  | true =>
    go_enter Try.func43, Try.ntmps43
    go_wp2_with fail
    refine (KS.out).mono ?_
    rintro e w3 ⟨rfl, n, rfl⟩
    go_wp2_with fail
    refine (KT.out n).mono ?_
    rintro e w4 ⟨rfl, k, rfl⟩
    go_wp2_with fail
    go_ret
    exact ⟨by simp, below_drewN hbel (n + k)⟩

def levErr (m : Int) (l : Lev) : Int := if (l.r.length : Int) = m ∧ (l.w.length : Int) = m then 0 else 1

/-- may what has one level be told to what has another one, as far as one actor goes? -/
def okAt (l m : Lev) (i : Nat) : Bool := !((m.r[i]?.getD false && !(l.r[i]?.getD false)) || (l.w[i]?.getD false && !(m.w[i]?.getD false)))
def flowsB (l m : Lev) (n : Nat) : Bool := (List.range n).all (okAt l m)

theorem flowsB_iff {l m : Lev} {n : Nat} : flowsB l m n = true ↔ ∀ i, i < n → (m.r[i]?.getD false = true → l.r[i]?.getD false = true) ∧ (l.w[i]?.getD false = true → m.w[i]?.getD false = true) := by
  unfold flowsB
  rw [List.all_eq_true]
  constructor
  · intro h i hi
    have := h i (List.mem_range.2 hi)
    unfold okAt at this
    revert this
    cases m.r[i]?.getD false <;> cases l.r[i]?.getD false <;> cases l.w[i]?.getD false <;> cases m.w[i]?.getD false <;> simp
  · intro h i hi
    have := h i (List.mem_range.1 hi)
    unfold okAt
    revert this
    cases m.r[i]?.getD false <;> cases l.r[i]?.getD false <;> cases l.w[i]?.getD false <;> cases m.w[i]?.getD false <;> simp

theorem isBools_pos {w : World} {v : Value} {l : List Bool} {n : Nat} (h : IsBools w v l) (hl : l.length = n) (h1 : 1 ≤ n) :
    ∃ b off cap, v = .slice (some ⟨b, off, none⟩) n cap ∧ ∀ i, i < n → w.cell? ⟨b, off + i, none⟩ = some (.bool (l[i]?.getD false)) := by
  obtain ⟨ao, cap, rfl, hc⟩ := h
  obtain ⟨b, off, rfl, hcl⟩ := hc (by rintro rfl; simp at hl; omega)
  refine ⟨b, off, cap, by rw [hl], fun i hi => ?_⟩
  have hi' : i < l.length := by omega
  rw [hcl i hi']
  simp [hi']

def Lev.len (l : Lev) (n : Nat) : Prop := l.r.length = n ∧ l.w.length = n
/-- a slice that holds numbers. -/
def IsInts (w : World) (v : Value) (l : List Int) : Prop :=
  ∃ ao cap, v = .slice ao l.length cap ∧ (l ≠ [] → ∃ b off, ao = some ⟨b, off, none⟩ ∧ ∀ i (h : i < l.length), w.cell? ⟨b, off + i, none⟩ = some (.int .i64 l[i]))

theorem isInts_over {w w' : World} {v : Value} {l : List Int} (h : IsInts w v l) (hb : Below w.heap.size w w') : IsInts w' v l := by
  obtain ⟨ao, cap, rfl, hc⟩ := h
  refine ⟨ao, cap, rfl, fun hne => ?_⟩
  obtain ⟨b, off, rfl, hcl⟩ := hc hne
  refine ⟨b, off, rfl, fun i hi => ?_⟩
  have h1 := hcl i hi
  rw [(bcell hb).1 _ _ (World.block_lt_of_cell? w _ h1)]
  exact h1

structure Pol where
  owner : Int
  names : List Int

/-- a slice that holds policies. -/
def IsPols (w : World) (v : Value) (ps : List Pol) : Prop :=
  ∃ ao cap, v = .slice ao ps.length cap ∧ (ps ≠ [] → ∃ b off, ao = some ⟨b, off, none⟩ ∧ ∀ i (h : i < ps.length), w.cell? ⟨b, off + i * 2, none⟩ = some (.int .i64 ps[i].owner) ∧ ∃ nv, w.cell? ⟨b, off + i * 2 + 1, none⟩ = some nv ∧ IsInts w nv ps[i].names)

theorem isPols_over {w w' : World} {v : Value} {ps : List Pol} (h : IsPols w v ps) (hb : Below w.heap.size w w') : IsPols w' v ps := by
  obtain ⟨ao, cap, rfl, hc⟩ := h
  refine ⟨ao, cap, rfl, fun hne => ?_⟩
  obtain ⟨b, off, rfl, hcl⟩ := hc hne
  refine ⟨b, off, rfl, fun i hi => ?_⟩
  obtain ⟨h1, nv, h2, h3⟩ := hcl i hi
  exact ⟨by rw [(bcell hb).1 _ _ (World.block_lt_of_cell? w _ h1)]; exact h1, nv, by rw [(bcell hb).1 _ _ (World.block_lt_of_cell? w _ h2)]; exact h2, isInts_over h3 hb⟩

/-- does one act for another one? -/
def actB (gn : List (Nat × Nat)) (n who : Nat) (x : Int) : Bool := (acts gn n who)[x.toNat]?.getD false
def polB (gn : List (Nat × Nat)) (n who : Nat) (p : Pol) : Bool := actB gn n who p.owner || p.names.any (actB gn n who)
def mayB (gn : List (Nat × Nat)) (n who : Nat) (ps : List Pol) : Bool := ps.all (polB gn n who)
def polIn (n : Nat) (p : Pol) : Prop := (0 ≤ p.owner ∧ p.owner < n) ∧ p.names.length ≤ 6 ∧ ∀ x ∈ p.names, 0 ≤ x ∧ x < (n : Int)

/-- three cells that are kept where all below is kept. -/
theorem held3c {w w0 w1 : World} {b0 o0 b1 o1 b2 o2 : Nat} {v0 v1 v2 : Value} (h : w0.cell? ⟨b0, o0, none⟩ = some v0 ∧ w0.cell? ⟨b1, o1, none⟩ = some v1 ∧ w0.cell? ⟨b2, o2, none⟩ = some v2 ∧ Below w.heap.size w w0)
    (hb : Below w0.heap.size w0 w1) : w1.cell? ⟨b0, o0, none⟩ = some v0 ∧ w1.cell? ⟨b1, o1, none⟩ = some v1 ∧ w1.cell? ⟨b2, o2, none⟩ = some v2 ∧ Below w.heap.size w w1 := by
  obtain ⟨h0, h1, h2, hB⟩ := h
  obtain ⟨hc, hf⟩ := bcell hb
  refine ⟨?_, ?_, ?_, hB.trans (hb.mono hB.size)⟩
  · rw [hc _ _ (World.block_lt_of_cell? w0 _ h0)]; exact h0
  · rw [hc _ _ (World.block_lt_of_cell? w0 _ h1)]; exact h1
  · rw [hc _ _ (World.block_lt_of_cell? w0 _ h2)]; exact h2
def rises : List Int → Bool
  | x :: y :: l => decide (x < y) && rises (y :: l)
  | _ => true

def polErr (m : Int) (p : Pol) : Int :=
  if isOne m p.owner = true then (if p.names.length ≤ 6 then (if p.names.all (isOne m) = true then (if rises p.names = true then 0 else 4) else 5) else 2) else 5
def firstErr (m : Int) : List Pol → Int
  | [] => 0
  | p :: ps => if polErr m p = 0 then firstErr m ps else polErr m p
def polsErr (m : Int) (ps : List Pol) : Int := if ps.length ≤ 4 then firstErr m ps else 2

theorem firstErr_drop {m : Int} {ps : List Pol} {k : Nat} (hk : k < ps.length) : firstErr m (ps.drop k) = if polErr m ps[k] = 0 then firstErr m (ps.drop (k + 1)) else polErr m ps[k] := by
  rw [List.drop_eq_getElem_cons hk]
  rfl

theorem rises_iff (l : List Int) : rises l = true ↔ ∀ i (h : i + 1 < l.length), l[i] < l[i + 1] := by
  induction l with
  | nil => simp [rises]
  | cons x l ih =>
    cases l with
    | nil => simp [rises]
    | cons y l =>
      simp only [rises, Bool.and_eq_true, decide_eq_true_eq, ih]
      constructor
      · rintro ⟨h1, h2⟩ i hi
        cases i with
        | zero => exact h1
        | succ i => exact h2 i (by simpa using hi)
      · intro h
        exact ⟨h 0 (by simp), fun i hi => h (i + 1) (by simpa using hi)⟩
end Go.Proofs.Ytcbbjjenkommeaa
