/- The small functions of actors: is one of so many; a number between two; the first grant of which something holds. -/
import Derived.Test.YtpbnmmgocpobcaaRows
import Derived.Test.YtpbnmmgocpobcaaM04
import Derived.WalkKit
import Derived.WalkSpells
import Derived.WalkLawsBesides
import Derived.Laws.MakeOwn
import Derived.WalkSmall
import Derived.Deep.RegionHeld3
namespace Go.Proofs.Ytpbnmmgocpobcaa
open Go.RowKit
set_option linter.unusedVariables false

theorem hide {p : Prop} (h : p) : Hid p := h

theorem bcell {W w1 : World} (hb : Below W.heap.size W w1) : (∀ b o, b < W.heap.size → w1.cell? ⟨b, o, none⟩ = W.cell? ⟨b, o, none⟩) ∧ (∀ b o, b < W.heap.size → w1.frozen? ⟨b, o, none⟩ = W.frozen? ⟨b, o, none⟩) :=
  ⟨fun b o h => hb.cell (p := ⟨b, o, none⟩) h, fun b o h => hb.frozen (p := ⟨b, o, none⟩) h⟩

/-- actors, as they are handed on. -/
def actVal (m : Int) (s : Value) : Value := .agg #[.int .i64 m, s]
def isOne (m x : Int) : Bool := decide (0 ≤ x ∧ x < m)

set_option maxHeartbeats 400000 in
theorem isOne_any (m x : Int) (s : Value) (w : World) :
    Calls Try.prog 55 #[.agg #[.int .i64 m, s], .int .i64 x] w fun e w' => e = .returned (.bool (isOne m x)) ∧ Below w.heap.size w w' := by
  have hbel : Below w.heap.size w (w.alloc (.cells #[.int .i64 m, s] 24)) := (Below.refl _ w).alloc (Nat.le_refl _) _
  by_cases h1 : (0 : Int) ≤ x
  · by_cases h2 : x < m
    · go_enter Try.func55, Try.ntmps55
      go_wp2
      go_ret
      exact ⟨by simp [isOne]; omega, hbel⟩
    · go_enter Try.func55, Try.ntmps55
      go_wp2
      go_ret
      exact ⟨by simp [isOne]; omega, hbel⟩
  · go_enter Try.func55, Try.ntmps55
    go_wp2
    go_ret
    exact ⟨by simp [isOne]; omega, hbel⟩

def grantCells (gs : List (Int × Int)) : List Value := gs.flatMap fun g => [.int .i64 g.1, .int .i64 g.2]
/-- a slice that holds grants. -/
def IsGrants (w : World) (v : Value) (gs : List (Int × Int)) : Prop :=
  ∃ ao cap, v = .slice ao gs.length cap ∧ (gs ≠ [] → ∃ b off, ao = some ⟨b, off, none⟩ ∧ ∀ i (h : i < gs.length), w.cell? ⟨b, off + i * 2, none⟩ = some (.int .i64 gs[i].1) ∧ w.cell? ⟨b, off + i * 2 + 1, none⟩ = some (.int .i64 gs[i].2))

theorem isGrants_over {w w' : World} {v : Value} {gs : List (Int × Int)} (h : IsGrants w v gs) (hb : Below w.heap.size w w') : IsGrants w' v gs := by
  obtain ⟨ao, cap, rfl, hc⟩ := h
  refine ⟨ao, cap, rfl, fun hne => ?_⟩
  obtain ⟨b, off, rfl, hcl⟩ := hc hne
  refine ⟨b, off, rfl, fun i hi => ?_⟩
  obtain ⟨h1, h2⟩ := hcl i hi
  have hlt := World.block_lt_of_cell? w _ h1
  exact ⟨by rw [(bcell hb).1 _ _ hlt]; exact h1, by rw [(bcell hb).1 _ _ hlt]; exact h2⟩

/-- where the first is of which something holds; none: -1. -/
def idxOf (p : Int × Int → Bool) (gs : List (Int × Int)) : Int := match gs.findIdx? p with | some i => i | none => -1

theorem idxOf_at {p : Int × Int → Bool} {gs : List (Int × Int)} {k : Nat} (hk : k < gs.length) (h : (gs.take k).all (fun g => !p g) = true) (hp : p gs[k] = true) : idxOf p gs = k := by
  have : gs.findIdx? p = some k := by
    rw [List.findIdx?_eq_some_iff_getElem]
    refine ⟨hk, hp, fun j hj => ?_⟩
    have := List.all_eq_true.1 h gs[j] (by rw [List.mem_take_iff_getElem]; exact ⟨j, by omega, rfl⟩)
    simpa using this
  simp [idxOf, this]
theorem idxOf_none {p : Int × Int → Bool} {gs : List (Int × Int)} (h : gs.all (fun g => !p g) = true) : idxOf p gs = -1 := by
  have : gs.findIdx? p = none := by
    rw [List.findIdx?_eq_none_iff]
    intro x hx
    have := List.all_eq_true.1 h x hx
    simpa using this
  simp [idxOf, this]

set_option maxHeartbeats 1000000 in
theorem indexFunc_any (F : FuncId) (cv : Value) (p : Int × Int → Bool) (v : Value) (gs : List (Int × Int)) (w : World) (hv : IsGrants w v gs) (hn : gs.length ≤ 20)
    (hF : Hid (∀ (i : Nat) (h : i < gs.length) (w1 : World), Below w.heap.size w w1 → Calls Try.prog F #[.agg #[.int .i64 gs[i].1, .int .i64 gs[i].2], cv] w1 fun e w2 => e = .returned (.bool (p gs[i])) ∧ Below w1.heap.size w1 w2))
    (hC : ∀ (args : Array Value) (w : World), (callFunc F args).run Try.prog w = .ok (.enter F args) w) :
    Calls Try.prog 63 #[v, .func (.func F) #[] #[cv]] w fun e w' => e = .returned (.int .i64 (idxOf p gs)) ∧ Below w.heap.size w w' := by
  obtain ⟨ao, cap, rfl, hcc⟩ := hv
  go_enter Try.func63, Try.ntmps63
  go_wp2_with fail
  go_loopw [8] (fun i wr => ∃ k : Nat, k ≤ gs.length ∧ i = .int .i64 k ∧ (gs.take k).all (fun g => !p g) = true ∧ Below w.heap.size w wr) (fun i _ => gs.length - (intOf i).toNat)
  case atStart => exact ⟨0, Nat.zero_le _, rfl, rfl, Below.refl _ w⟩
  case round =>
    obtain ⟨k, hk, rfl, hall, hbel⟩ := hrel
    by_cases hkl : k < gs.length
    · obtain ⟨b, off, rfl, hcl⟩ := hcc (by rintro rfl; simp at hkl)
      obtain ⟨q0, q1⟩ := hcl k hkl
      have hlt := World.block_lt_of_cell? w _ q0
      rw [← (bcell hbel).1 _ _ hlt] at q0 q1
      have hcall := hF.out k hkl
      have hat := fun (hp : p gs[k] = true) => idxOf_at hkl hall hp
      have htk : p gs[k] = false → (gs.take (k + 1)).all (fun g => !p g) = true := fun hp => by
        rw [List.take_succ_eq_append_getElem hkl, List.all_append, hall]
        simp [hp]
      obtain ⟨r, hr⟩ : ∃ r, r = p gs[k] := ⟨_, rfl⟩
      obtain ⟨g0, hg0⟩ : ∃ r, r = gs[k].1 := ⟨_, rfl⟩
      obtain ⟨g1, hg1⟩ : ∃ r, r = gs[k].2 := ⟨_, rfl⟩
      rw [← hr] at hcall hat htk
      rw [← hg0] at q0 hcall
      rw [← hg1] at q1 hcall
      have HC := hide hcall
      have HA := hide hat
      have HT := hide htk
      clear hr hg0 hg1 hcall hat htk hcl hcc hF
      cases r with
      | true =>
        go_wp2_with fail
        refine (HC.out _ hbel).mono ?_
        rintro e w2 ⟨rfl, hb2⟩
        have hbel2 : Below w.heap.size w w2 := hbel.trans (hb2.mono hbel.size)
        go_wp2_with fail
        go_ret
        exact ⟨by rw [HA.out (by first | rfl | trivial)]; rfl, hbel2⟩
      | false =>
        go_wp2_with fail
        refine (HC.out _ hbel).mono ?_
        rintro e w2 ⟨rfl, hb2⟩
        have hbel2 : Below w.heap.size w w2 := hbel.trans (hb2.mono hbel.size)
        go_wp2_with fail
        exact ⟨⟨k + 1, by omega, by go_num, HT.out (by first | rfl | trivial), hbel2⟩, by simp [intOf]; omega⟩
    · have hke : k = gs.length := by omega
      rw [hke, List.take_length] at hall
      have hx := idxOf_none hall
      clear hall hcc hF
      go_wp2_with fail
      go_ret
      exact ⟨by rw [hx]; rfl, hbel⟩
end Go.Proofs.Ytpbnmmgocpobcaa
/- actors.Check and the document's own check answer alike, whatever they are handed. -/
namespace Go.Proofs.Ytpbnmmgocpobcaa
open Go.RowKit
set_option linter.unusedVariables false

def badG (m : Int) (g : Int × Int) : Bool := !isOne m g.1 || !isOne m g.2
def chkErr (m : Int) (gs : List (Int × Int)) : Int := if 1 ≤ m ∧ m ≤ 6 then (if gs.length ≤ 20 then (if gs.any (badG m) = true then 5 else 0) else 2) else 3

theorem call17 (args : Array Value) (w : World) : (callFunc 54 args).run Try.prog w = .ok (.enter 54 args) w := by simp [go_sem]
set_option maxHeartbeats 400000 in
theorem chkOne_any (m : Int) (s : Value) (b : Nat) (g : Int × Int) (w : World) (h0 : w.cell? ⟨b, 0, none⟩ = some (.int .i64 m)) (h1 : w.cell? ⟨b, 1, none⟩ = some s) :
    Calls Try.prog 54 #[.agg #[.int .i64 g.1, .int .i64 g.2], .pointer (some ⟨b, 0, none⟩)] w fun e w' => e = .returned (.bool (badG m g)) ∧ Below w.heap.size w w' := by
  obtain ⟨g0, g1⟩ := g
  have hlt := World.block_lt_of_cell? w _ h0
  have hne : b ≠ w.heap.size := by have : b < w.heap.size := hlt; omega
  simp only
  have H1 := fun w => isOne_any m g0 s w
  have H2 := fun w => isOne_any m g1 s w
  obtain ⟨r1, hr1⟩ : ∃ r, r = isOne m g0 := ⟨_, rfl⟩
  obtain ⟨r2, hr2⟩ : ∃ r, r = isOne m g1 := ⟨_, rfl⟩
  have hbad : badG m (g0, g1) = (!r1 || !r2) := by rw [hr1, hr2]; rfl
  rw [← hr1] at H1
  rw [← hr2] at H2
  rw [hbad]
  have K1 := hide H1
  have K2 := hide H2
  clear H1 H2 hr1 hr2 hbad
  have hal : Below w.heap.size w (w.alloc (.cells #[.int .i64 g0, .int .i64 g1] 101)) := (Below.refl _ w).alloc (Nat.le_refl _) _
  cases r1 with
  | true =>
    go_enter Try.func54, Try.ntmps54
    go_wp2_with fail
    refine (K1.out _).mono ?_
    rintro e w1 ⟨rfl, hb1⟩
    obtain ⟨hc, hf⟩ := bcell hb1
    have hlt2 : b < (w.alloc (.cells #[.int .i64 g0, .int .i64 g1] 101)).heap.size := by simp; exact Nat.lt_succ_of_lt hlt
    have c0 : w1.cell? ⟨b, 0, none⟩ = some (.int .i64 m) := by rw [hc _ _ hlt2, (bcell hal).1 _ _ hlt]; exact h0
    have c1 : w1.cell? ⟨b, 1, none⟩ = some s := by rw [hc _ _ hlt2, (bcell hal).1 _ _ hlt]; exact h1
    have e1 : w1.cell? ⟨w.heap.size, 1, none⟩ = some (.int .i64 g1) := by rw [hc _ _ (by simp)]; simp [go_sem]
    have hbel : Below w.heap.size w w1 := hal.trans (hb1.mono (by simp))
    clear hc hf hb1
    go_wp2_with fail
    refine (K2.out _).mono ?_
    rintro e w2 ⟨rfl, hb2⟩
    have hbel2 : Below w.heap.size w w2 := hbel.trans (hb2.mono hbel.size)
    go_wp2_with fail
    go_ret
    exact ⟨by simp, hbel2⟩
  | false =>
    go_enter Try.func54, Try.ntmps54
    go_wp2_with fail
    refine (K1.out _).mono ?_
    rintro e w1 ⟨rfl, hb1⟩
    have hbel : Below w.heap.size w w1 := hal.trans (hb1.mono (by simp))
    go_wp2_with fail
    go_ret
    exact ⟨by simp, hbel⟩

theorem idx_any (p : Int × Int → Bool) (gs : List (Int × Int)) : decide (0 ≤ idxOf p gs) = gs.any p := by
  unfold idxOf
  cases h : gs.findIdx? p with
  | none =>
    have : gs.any p = false := by rw [List.any_eq_false]; intro x hx; have := (List.findIdx?_eq_none_iff.1 h) x hx; simpa using this
    rw [this]; rfl
  | some i =>
    obtain ⟨hi, hp, _⟩ := List.findIdx?_eq_some_iff_getElem.1 h
    have : gs.any p = true := List.any_eq_true.2 ⟨_, List.getElem_mem hi, hp⟩
    rw [this]; simp

set_option maxHeartbeats 400000 in
theorem containsFunc_any (m : Int) (s : Value) (b : Nat) (v : Value) (gs : List (Int × Int)) (w : World) (hv : IsGrants w v gs) (hn : gs.length ≤ 20)
    (h0 : w.cell? ⟨b, 0, none⟩ = some (.int .i64 m)) (h1 : w.cell? ⟨b, 1, none⟩ = some s) :
    Calls Try.prog 53 #[v, .func (.func 54) #[] #[.pointer (some ⟨b, 0, none⟩)]] w fun e w' => e = .returned (.bool (gs.any (badG m))) ∧ Below w.heap.size w w' := by
  have hI := indexFunc_any 54 (.pointer (some ⟨b, 0, none⟩)) (badG m) v gs w hv hn (hide fun i hi w1 hb => by
    have hlt := World.block_lt_of_cell? w _ h0
    exact chkOne_any m s b gs[i] w1 (by rw [(bcell hb).1 _ _ hlt]; exact h0) (by rw [(bcell hb).1 _ _ hlt]; exact h1)) call17
  have hx := idx_any (badG m) gs
  obtain ⟨r, hr⟩ : ∃ r, r = idxOf (badG m) gs := ⟨_, rfl⟩
  rw [← hr] at hI hx
  rw [← hx]
  have HI := hide hI
  clear hI hx hr hv
  obtain ⟨u, hu⟩ : ∃ u, u = v := ⟨_, rfl⟩
  go_enter Try.func53, Try.ntmps53
  go_wp2_with fail
  refine (HI.out).mono ?_
  rintro e w1 ⟨rfl, hb1⟩
  go_wp2_with fail
  go_ret
  exact ⟨by simp, hb1⟩

set_option maxHeartbeats 1000000 in
theorem check_any (m : Int) (v : Value) (gs : List (Int × Int)) (w : World) (hv : IsGrants w v gs) :
    Calls Try.prog 39 #[.agg #[.int .i64 m, v]] w fun e w' => e = .returned (.int .i64 (chkErr m gs)) ∧ Below w.heap.size w w' := by
  have hbel : Below w.heap.size w (w.alloc (.cells #[.int .i64 m, v] 24)) := (Below.refl _ w).alloc (Nat.le_refl _) _
  by_cases h1 : m < 1
  · have hE : chkErr m gs = 3 := by unfold chkErr; rw [if_neg (by omega)]
    have HE := hide hE
    clear hE
    go_enter Try.func39, Try.ntmps39
    go_wp2_with fail
    go_ret
    exact ⟨by rw [HE.out]; rfl, hbel⟩
  by_cases h6 : 6 < m
  · have hE : chkErr m gs = 3 := by unfold chkErr; rw [if_neg (by omega)]
    have HE := hide hE
    clear hE
    go_enter Try.func39, Try.ntmps39
    go_wp2_with fail
    go_ret
    exact ⟨by rw [HE.out]; rfl, hbel⟩
  have hvo := isGrants_over hv hbel
  obtain ⟨ao, cap, hve, -⟩ := hv
  by_cases hn : gs.length ≤ 20
  · have hE : chkErr m gs = if gs.any (badG m) = true then 5 else 0 := by unfold chkErr; rw [if_pos (by omega), if_pos hn]
    have hC := containsFunc_any m v w.heap.size v gs (w.alloc (.cells #[.int .i64 m, v] 24)) hvo hn (by simp [go_sem]) (by simp [go_sem])
    obtain ⟨r, hr⟩ : ∃ r, r = gs.any (badG m) := ⟨_, rfl⟩
    rw [← hr] at hE hC
    subst hve
    have HE := hide hE
    have HC := hide hC
    clear hE hC hr hvo
    cases r with
    | true =>
      go_enter Try.func39, Try.ntmps39
      go_wp2_with fail
      refine (HC.out).mono ?_
      rintro e w1 ⟨rfl, hb1⟩
      have hbel1 : Below w.heap.size w w1 := hbel.trans (hb1.mono (by simp))
      go_wp2_with fail
      go_ret
      exact ⟨by rw [HE.out]; rfl, hbel1⟩
    | false =>
      go_enter Try.func39, Try.ntmps39
      go_wp2_with fail
      refine (HC.out).mono ?_
      rintro e w1 ⟨rfl, hb1⟩
      have hbel1 : Below w.heap.size w w1 := hbel.trans (hb1.mono (by simp))
      go_wp2_with fail
      go_ret
      exact ⟨by rw [HE.out]; rfl, hbel1⟩
  · have hE : chkErr m gs = 2 := by unfold chkErr; rw [if_pos (by omega), if_neg hn]
    have HE := hide hE
    subst hve
    clear hE hvo
    go_enter Try.func39, Try.ntmps39
    go_wp2_with fail
    go_ret
    exact ⟨by rw [HE.out]; rfl, hbel⟩

end Go.Proofs.Ytpbnmmgocpobcaa
/- actors.actsFor finds whom one acts for. -/
namespace Go.Proofs.Ytpbnmmgocpobcaa
open Go.RowKit
set_option linter.unusedVariables false

def toI (g : Nat × Nat) : Int × Int := ((g.1 : Int), (g.2 : Int))

/-- bools that lie in a block of their own. -/
def KnownAt (w : World) (kb : Nat) (l : List Bool) : Prop := ∀ i (h : i < l.length), w.cell? ⟨kb, i, none⟩ = some (.bool l[i]) ∧ w.frozen? ⟨kb, i, none⟩ = false

theorem known_over {w w' : World} {kb : Nat} {l : List Bool} (h : KnownAt w kb l) (hb : Below w.heap.size w w') : KnownAt w' kb l := fun i hi => by
  obtain ⟨h1, h2⟩ := h i hi
  have hlt := World.block_lt_of_cell? w _ h1
  exact ⟨by rw [(bcell hb).1 _ _ hlt]; exact h1, by rw [(bcell hb).2 _ _ hlt]; exact h2⟩

theorem known_set {w : World} {kb : Nat} {l : List Bool} (h : KnownAt w kb l) {j : Nat} (hj : j < l.length) (c : Bool) : KnownAt (w.setCell ⟨kb, j, none⟩ (.bool c)) kb (l.set j c) := fun i hi => by
  have hi' : i < l.length := by simpa using hi
  obtain ⟨h1, h2⟩ := h i hi'
  refine ⟨?_, ?_⟩
  · by_cases e : j = i
    · subst e
      rw [World.cell?_setCell_same _ _ _ h1]
      simp
    · rw [World.cell?_setCell_other _ _ _ _ (by intro h; exact e (by injection h)), List.getElem_set_ne e]
      exact h1
  · rw [World.frozen?_setCell]
    exact h2

/-- the heads of what must be known of a closure over them. -/
def leads (l : List Bool) (g : Int × Int) : Bool := (l[g.1.toNat]?.getD false) && !(l[g.2.toNat]?.getD false)

theorem Try.info4 : (Try.prog.info? 4).map (fun i => (i.zero, i.size, i.bytes)) = some (some (.bool false), 1, 1) := by kernel_rfl

/-- where actsFor stands. -/
def ActsSt (w : World) (n : Nat) (v : Value) (l : List Bool) (W : World) : Prop :=
  W.cell? ⟨w.heap.size, 0, none⟩ = some (.int .i64 n) ∧ W.cell? ⟨w.heap.size, 1, none⟩ = some v ∧ W.cell? ⟨w.heap.size + 1 + 1, 0, none⟩ = some (.slice (some ⟨w.heap.size + 1, 0, none⟩) n n) ∧ KnownAt W (w.heap.size + 1) l ∧ Below w.heap.size w W

theorem ActsSt.over {w W W' : World} {n : Nat} {v : Value} {l : List Bool} (h : ActsSt w n v l W) (hb : Below W.heap.size W W') : ActsSt w n v l W' := by
  obtain ⟨h0, h1, h2, h3, h4⟩ := h
  obtain ⟨hc, hf⟩ := bcell hb
  refine ⟨?_, ?_, ?_, known_over h3 hb, h4.trans (hb.mono h4.size)⟩
  · rw [hc _ _ (World.block_lt_of_cell? W _ h0)]; exact h0
  · rw [hc _ _ (World.block_lt_of_cell? W _ h1)]; exact h1
  · rw [hc _ _ (World.block_lt_of_cell? W _ h2)]; exact h2

def isF : Option Value → Bool
  | some (.bool false) => true
  | _ => false
def falses (kb n : Nat) (W : World) : Nat := (List.range n).countP fun i => isF (W.cell? ⟨kb, i, none⟩)

theorem falses_eq {W : World} {kb : Nat} {l : List Bool} (h : KnownAt W kb l) : falses kb l.length W = l.count false := by
  have : l = (List.range l.length).map fun i => l[i]?.getD false := by
    apply List.ext_getElem
    · simp
    · intro i h1 h2
      simp [h1]
  unfold falses
  conv => rhs; rw [this]
  rw [List.count_eq_countP, List.countP_map]
  apply List.countP_congr
  intro i hi
  have hi' : i < l.length := by simpa using hi
  rw [(h i hi').1]
  simp only [Function.comp, hi', List.getElem?_eq_getElem, Option.getD_some]
  cases l[i] <;> simp [isF]

theorem count_set_false {l : List Bool} {j : Nat} (hj : j < l.length) (h : l[j] = false) : (l.set j true).count false < l.count false := by
  rw [List.count_set hj]
  have hm : 0 < l.count false := List.count_pos_iff.2 (List.mem_iff_getElem.2 ⟨j, hj, h⟩)
  simp [h]
  omega

theorem idx_split (l : List Bool) (gn : List (Nat × Nat)) (n : Nat) (hl : l.length = n) (hb : ∀ g ∈ gn, g.1 < n ∧ g.2 < n) :
    (idxOf (leads l) (gn.map toI) = -1 ∧ Closed gn l) ∨ ∃ (k : Nat) (h : k < gn.length), idxOf (leads l) (gn.map toI) = k ∧ l[gn[k].1]? = some true ∧ l[gn[k].2]? = some false := by
  have hd : ∀ g ∈ gn, leads l (toI g) = true ↔ l[g.1]? = some true ∧ l[g.2]? = some false := fun g hg => by
    obtain ⟨h0, h1⟩ := hb g hg
    have e0 : l[g.1]? = some l[g.1] := List.getElem?_eq_getElem (by omega)
    have e1 : l[g.2]? = some l[g.2] := List.getElem?_eq_getElem (by omega)
    simp only [leads, toI, Int.toNat_natCast, e0, e1, Option.getD_some, Option.some.injEq]
    cases l[g.1] <;> cases l[g.2] <;> simp
  unfold idxOf
  cases hf : (gn.map toI).findIdx? (leads l) with
  | none =>
    left
    refine ⟨rfl, fun g hg hk => ?_⟩
    have h1 := (List.findIdx?_eq_none_iff.1 hf) (toI g) (List.mem_map_of_mem hg)
    have h2 : ¬ (l[g.1]? = some true ∧ l[g.2]? = some false) := fun h => by rw [(hd g hg).2 h] at h1; cases h1
    have hg2 : g.2 < l.length := by have := hb g hg; omega
    have e1 : l[g.2]? = some l[g.2] := List.getElem?_eq_getElem hg2
    rw [e1] at h2 ⊢
    cases hx : l[g.2] with
    | true => rfl
    | false => exact absurd ⟨hk, by rw [hx]⟩ h2
  | some k =>
    right
    obtain ⟨hi, hp, _⟩ := List.findIdx?_eq_some_iff_getElem.1 hf
    have hi' : k < gn.length := by simpa using hi
    have hp' : leads l (toI gn[k]) = true := by simpa using hp
    exact ⟨k, hi', rfl, (hd _ (List.getElem_mem hi')).1 hp'⟩

end Go.Proofs.Ytpbnmmgocpobcaa
/- actors.For and actors.Acts answer what they must. -/
namespace Go.Proofs.Ytpbnmmgocpobcaa
open Go.RowKit
set_option linter.unusedVariables false

def gnOf (gs : List (Int × Int)) : List (Nat × Nat) := gs.map fun g => (g.1.toNat, g.2.toNat)

theorem chk_ok {m : Int} {gs : List (Int × Int)} (h : chkErr m gs = 0) : ∃ n : Nat, m = n ∧ 1 ≤ n ∧ n ≤ 6 ∧ (gnOf gs).map toI = gs ∧ (gnOf gs).length ≤ 20 ∧ ∀ g ∈ gnOf gs, g.1 < n ∧ g.2 < n := by
  unfold chkErr at h
  split at h
  · split at h
    · split at h
      · cases h
      · rename_i hm hl hb
        have hb' : ∀ g ∈ gs, isOne m g.1 = true ∧ isOne m g.2 = true := fun g hg => by
          have h1 : ¬ badG m g = true := fun hh => hb (List.any_eq_true.2 ⟨g, hg, hh⟩)
          simp [badG] at h1
          exact h1
        refine ⟨m.toNat, by omega, by omega, by omega, ?_, by simpa [gnOf] using hl, fun g hg => ?_⟩
        · unfold gnOf
          rw [List.map_map]
          conv => rhs; rw [← List.map_id gs]
          apply List.map_congr_left
          intro g hg
          obtain ⟨h1, h2⟩ := hb' g hg
          simp [isOne] at h1 h2
          simp only [Function.comp, toI, id]
          ext <;> simp <;> omega
        · obtain ⟨g', hg', rfl⟩ := List.mem_map.1 hg
          obtain ⟨h1, h2⟩ := hb' g' hg'
          simp [isOne] at h1 h2
          simp only
          omega
    · cases h
  · cases h

/-- rows of bools, one for each. -/
def RowsAt (W : World) (ob n : Nat) (gn : List (Nat × Nat)) (k : Nat) : Prop := ∀ i, i < k → ∃ kb, kb ≠ ob ∧ W.cell? ⟨ob, i, none⟩ = some (.slice (some ⟨kb, 0, none⟩) n n) ∧ KnownAt W kb (acts gn n i)

theorem rows_over {W W' : World} {ob n k : Nat} {gn : List (Nat × Nat)} (h : RowsAt W ob n gn k) (hb : Below W.heap.size W W') : RowsAt W' ob n gn k := fun i hi => by
  obtain ⟨kb, h1, h2, h3⟩ := h i hi
  exact ⟨kb, h1, by rw [(bcell hb).1 _ _ (World.block_lt_of_cell? W _ h2)]; exact h2, known_over h3 hb⟩

theorem known_other {w : World} {kb : Nat} {l : List Bool} (h : KnownAt w kb l) {p : Addr} (hp : p.block ≠ kb) (u : Value) : KnownAt (w.setCell p u) kb l := fun i hi => by
  obtain ⟨h1, h2⟩ := h i hi
  refine ⟨?_, ?_⟩
  · rw [World.cell?_setCell_other _ _ _ _ (by intro h; exact hp (by rw [h]))]
    exact h1
  · rw [World.frozen?_setCell]
    exact h2

theorem rows_set {W : World} {ob n k kb : Nat} {gn : List (Nat × Nat)} (h : RowsAt W ob n gn k) {u : Value} (hu : W.cell? ⟨ob, k, none⟩ = some u) (hkb : kb ≠ ob) (hk : KnownAt W kb (acts gn n k)) :
    RowsAt (W.setCell ⟨ob, k, none⟩ (.slice (some ⟨kb, 0, none⟩) n n)) ob n gn (k + 1) := fun i hi => by
  by_cases e : i = k
  · subst e
    exact ⟨kb, hkb, World.cell?_setCell_same _ _ _ hu, known_other hk (fun h => hkb h.symm) _⟩
  · obtain ⟨kc, h1, h2, h3⟩ := h i (by omega)
    refine ⟨kc, h1, ?_, known_other h3 (fun h => h1 h.symm) _⟩
    rw [World.cell?_setCell_other _ _ _ _ (by intro h; injection h with _ h; exact e h.symm)]
    exact h2

/-- cells that may be written. -/
def Slots (W : World) (ob n : Nat) : Prop := ∀ i, i < n → (∃ u, W.cell? ⟨ob, i, none⟩ = some u) ∧ W.frozen? ⟨ob, i, none⟩ = false

theorem slots_over {W W' : World} {ob n : Nat} (h : Slots W ob n) (hb : Below W.heap.size W W') : Slots W' ob n := fun i hi => by
  obtain ⟨⟨u, h1⟩, h2⟩ := h i hi
  have hlt := World.block_lt_of_cell? W _ h1
  exact ⟨⟨u, by rw [(bcell hb).1 _ _ hlt]; exact h1⟩, by rw [(bcell hb).2 _ _ hlt]; exact h2⟩

theorem slots_set {W : World} {ob n k : Nat} (h : Slots W ob n) (hk : k < n) (v : Value) : Slots (W.setCell ⟨ob, k, none⟩ v) ob n := fun i hi => by
  obtain ⟨⟨u, h1⟩, h2⟩ := h i hi
  refine ⟨?_, by rw [World.frozen?_setCell]; exact h2⟩
  by_cases e : k = i
  · subst e
    exact ⟨v, World.cell?_setCell_same _ _ _ h1⟩
  · exact ⟨u, by rw [World.cell?_setCell_other _ _ _ _ (by intro h; injection h with _ h; exact e h)]; exact h1⟩

def ForSt (w : World) (n : Nat) (v : Value) (gn : List (Nat × Nat)) (ob k : Nat) (W : World) : Prop :=
  W.cell? ⟨w.heap.size, 0, none⟩ = some (.int .i64 n) ∧ W.cell? ⟨w.heap.size, 1, none⟩ = some v ∧ Slots W ob n ∧ RowsAt W ob n gn k ∧ Below w.heap.size w W ∧ w.heap.size < ob ∧ ob < W.heap.size

theorem ForSt.over {w W W' : World} {n ob k : Nat} {v : Value} {gn : List (Nat × Nat)} (h : ForSt w n v gn ob k W) (hb : Below W.heap.size W W') : ForSt w n v gn ob k W' := by
  obtain ⟨h0, h1, h2, h3, h4, h5, h6⟩ := h
  obtain ⟨hc, hf⟩ := bcell hb
  refine ⟨?_, ?_, slots_over h2 hb, rows_over h3 hb, h4.trans (hb.mono h4.size), h5, Nat.lt_of_lt_of_le h6 hb.size⟩
  · rw [hc _ _ (World.block_lt_of_cell? W _ h0)]; exact h0
  · rw [hc _ _ (World.block_lt_of_cell? W _ h1)]; exact h1

/-- what Acts answers: does one act for another; an error. -/
def actsErr (m : Int) (gs : List (Int × Int)) (who other : Int) : Int := if chkErr m gs = 0 then (if isOne m who = true ∧ isOne m other = true then 0 else 5) else chkErr m gs
def actsAns (m : Int) (gs : List (Int × Int)) (who other : Int) : Bool := decide (actsErr m gs who other = 0) && ((acts (gnOf gs) m.toNat who.toNat)[other.toNat]?.getD false)

end Go.Proofs.Ytpbnmmgocpobcaa
/- The document's own answers of actors: is one of so many, their check, whom one acts for. -/
namespace Go.Proofs.Ytpbnmmgocpobcaa
open Go.RowKit
set_option linter.unusedVariables false

/-- four cells that are kept where all below is kept. -/
theorem held4 {w w0 w1 : World} {b0 o0 b1 o1 b2 o2 b3 o3 : Nat} {v0 v1 v2 v3 : Value} (h : w0.cell? ⟨b0, o0, none⟩ = some v0 ∧ w0.cell? ⟨b1, o1, none⟩ = some v1 ∧ w0.cell? ⟨b2, o2, none⟩ = some v2 ∧ w0.cell? ⟨b3, o3, none⟩ = some v3 ∧ Below w.heap.size w w0)
    (hb : Below w0.heap.size w0 w1) : w1.cell? ⟨b0, o0, none⟩ = some v0 ∧ w1.cell? ⟨b1, o1, none⟩ = some v1 ∧ w1.cell? ⟨b2, o2, none⟩ = some v2 ∧ w1.cell? ⟨b3, o3, none⟩ = some v3 ∧ Below w.heap.size w w1 := by
  obtain ⟨h0, h1, h2, h3, hB⟩ := h
  obtain ⟨hc, hf⟩ := bcell hb
  refine ⟨?_, ?_, ?_, ?_, ?_⟩
  · rw [hc _ _ (World.block_lt_of_cell? w0 _ h0)]; exact h0
  · rw [hc _ _ (World.block_lt_of_cell? w0 _ h1)]; exact h1
  · rw [hc _ _ (World.block_lt_of_cell? w0 _ h2)]; exact h2
  · rw [hc _ _ (World.block_lt_of_cell? w0 _ h3)]; exact h3
  · exact hB.trans (hb.mono hB.size)

theorem pass_take {gn : List (Nat × Nat)} {j : Nat} (h : j < gn.length) (l : List Bool) : pass (gn.take (j + 1)) l = stepG (pass (gn.take j) l) gn[j] := by
  unfold pass
  rw [List.take_succ_eq_append_getElem h, List.foldl_append]
  rfl

/-- where it stands. -/
def RefSt (w : World) (n : Nat) (v : Value) (l : List Bool) (W : World) : Prop :=
  W.cell? ⟨w.heap.size, 0, none⟩ = some (.int .i64 n) ∧ W.cell? ⟨w.heap.size, 1, none⟩ = some v ∧ KnownAt W (w.heap.size + 1) l ∧ Below w.heap.size w W

end Go.Proofs.Ytpbnmmgocpobcaa
