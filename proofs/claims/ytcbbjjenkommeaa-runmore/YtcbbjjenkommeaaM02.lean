/- The program's own reckoning of an expression, whatever it is handed. -/
import Derived.Test.YtcbbjjenkommeaaM01
import Derived.RowKit
import Derived.WalkKit
import Derived.WalkSpells
import Derived.WalkLawsBesides
import Derived.Laws.MakeOwn
import Derived.WalkSmall
import Derived.Deep.RegionHeld3
import Derived.Deep.CutRange
import Derived.Maps.AppendAt
namespace Go.Proofs.Ytcbbjjenkommeaa.Ex
open Go.RowKit
set_option linter.unusedVariables false
set_option maxHeartbeats 400000 in
theorem isBeyond_any (x : Int) (w : World) : Calls Try.prog 25 #[.int .i64 x] w fun e w' => e = .returned (.bool (!in32 x)) ∧ w' = w := by
  by_cases h1 : x < -2147483648
  · go_enter Try.func25, Try.ntmps25
    go_wp2
    go_ret
    exact ⟨by simp [in32]; omega, rfl⟩
  · by_cases h2 : 2147483647 < x
    · go_enter Try.func25, Try.ntmps25
      go_wp2
      go_ret
      exact ⟨by simp [in32]; omega, rfl⟩
    · go_enter Try.func25, Try.ntmps25
      go_wp2
      go_ret
      exact ⟨by simp [in32]; omega, rfl⟩

theorem call10 (args : Array Value) (w : World) : (callFunc 25 args).run Try.prog w = .ok (.enter 25 args) w := by simp [go_sem]

set_option maxHeartbeats 1000000 in
theorem indexInts_any (vs : List Int) (v : Value) (w : World) (hv : IsInts w v vs) (hl : vs.length ≤ 9223372036854775807) :
    Calls Try.prog 63 #[v, .func (.func 25) #[] #[]] w fun e w' => ∃ r : Int, e = .returned (.int .i64 r) ∧ decide (0 ≤ r) = !vs.all in32 ∧ w' = w := by
  obtain ⟨ao, cap, rfl, hcc⟩ := hv
  have HCC := hide hcc
  have HC10 := call10
  clear hcc
  go_enter Try.func63, Try.ntmps63
  go_wp2_with fail
  go_loopw [8] (fun i wr => ∃ k : Nat, k ≤ vs.length ∧ i = .int .i64 k ∧ (vs.take k).all in32 = true ∧ wr = w) (fun i _ => vs.length - (intOf i).toNat)
  case atStart => exact ⟨0, Nat.zero_le _, rfl, rfl, rfl⟩
  case round =>
    obtain ⟨k, hk, rfl, hall, rfl⟩ := hrel
    have HA := hide hall
    clear hall
    by_cases hkl : k < vs.length
    · obtain ⟨b, off, rfl, hcl⟩ := HCC.out (by rintro rfl; simp at hkl)
      have q0 := hcl k hkl
      have hst : in32 vs[k] = false → vs.all in32 = false := fun h => by rw [List.all_eq_false]; exact ⟨vs[k], List.getElem_mem hkl, by simp [h]⟩
      have hnx : in32 vs[k] = true → (vs.take (k + 1)).all in32 = true := fun h => by rw [List.take_succ_eq_append_getElem hkl, List.all_append, HA.out]; simp [h]
      obtain ⟨x, hx⟩ : ∃ x, x = vs[k] := ⟨_, rfl⟩
      rw [← hx] at q0 hst hnx
      have hcall := isBeyond_any x wr
      obtain ⟨r, hr⟩ : ∃ r, r = in32 x := ⟨_, rfl⟩
      rw [← hr] at hcall hst hnx
      have HCALL := hide hcall
      have HST := hide hst
      have HNX := hide hnx
      clear hcall hst hnx hr hx hcl HA
      cases r with
      | true =>
        go_wp2_with fail
        refine (HCALL.out).mono ?_
        rintro e w2 ⟨rfl, rfl⟩
        go_wp2_with fail
        exact ⟨⟨k + 1, by omega, by go_num, HNX.out (by first | rfl | trivial), by first | rfl | trivial⟩, by simp [intOf]; omega⟩
      | false =>
        go_wp2_with fail
        refine (HCALL.out).mono ?_
        rintro e w2 ⟨rfl, rfl⟩
        go_wp2_with fail
        go_ret
        refine ⟨(k : Int), by first | rfl | trivial, ?_, by first | rfl | trivial⟩
        rw [HST.out (by first | rfl | trivial)]
        simp
    · have ha := HA.out
      rw [List.take_of_length_le (by omega)] at ha
      have HD := hide ha
      clear ha HA
      go_wp2_with fail
      go_ret
      refine ⟨-1, by first | rfl | trivial, ?_, by first | rfl | trivial⟩
      rw [HD.out]
      rfl

set_option maxHeartbeats 1000000 in
theorem containsInts_any (vs : List Int) (v : Value) (w : World) (hv : IsInts w v vs) (hl : vs.length ≤ 9223372036854775807) :
    Calls Try.prog 24 #[v, .func (.func 25) #[] #[]] w fun e w' => e = .returned (.bool (!vs.all in32)) ∧ w' = w := by
  have HI := hide (indexInts_any vs v w hv hl)
  clear hv
  obtain ⟨u, hu⟩ : ∃ u, u = v := ⟨_, rfl⟩
  go_enter Try.func24, Try.ntmps24
  go_wp2_with fail
  refine (HI.out).mono ?_
  rintro e w1 ⟨r, rfl, hr, rfl⟩
  have HR := hide hr
  clear hr HI
  go_wp2_with fail
  go_ret
  exact ⟨by rw [← HR.out]; rfl, by first | rfl | trivial⟩

/-- what Eval answers. -/
def evalVal (vs : List Int) (k : Nat) (d : D) : Int := if evalErr vs k d = 0 then valX vs k d else 0

set_option maxHeartbeats 4000000 in
set_option maxRecDepth 100000 in
theorem eval_any (k : Nat) (cs : List Value) (d : D) (w : World) (vv : Value) (vs : List Int) (h : RX w k cs d) (hv : IsInts w vv vs) (hl : vs.length ≤ 9223372036854775807) :
    Calls Try.prog 8 #[.agg cs.toArray, vv] w fun e w' => e = .returned (.tuple #[.int .i64 (evalVal vs k d), .int .i64 (evalErr vs k d)]) ∧ Below w.heap.size w w' := by
  have K1 := hide fun W hB => check_any k cs d W (vs.length : Int) (by omega) (by omega) (h.over hB)
  have K2 := hide fun W hB => containsInts_any vs vv W (hv.over hB) hl
  have K3 := hide fun (h0 : evalErr vs k d = 0) W hB => pval_any vs (evalErr_zero h h0).2 k cs d W vv (h.over hB) (evalErr_zero h h0).1 (hv.over hB)
  obtain ⟨ao, cap, rfl⟩ := h.form
  obtain ⟨kd, hkd⟩ : ∃ q, q = kindOf d := ⟨_, rfl⟩
  obtain ⟨n, hn⟩ : ∃ q, q = numOf d := ⟨_, rfl⟩
  obtain ⟨dl, hdl⟩ : ∃ q, q = (argsOf d).length := ⟨_, rfl⟩
  rw [← hkd, ← hn, ← hdl] at K1 K3 ⊢
  clear hkd hn hdl
  obtain ⟨va, vc, rfl, hvc⟩ := hv
  clear hvc
  obtain ⟨c, hc⟩ : ∃ q, q = checkX vs.length k d := ⟨_, rfl⟩
  obtain ⟨A, hA⟩ : ∃ q, q = vs.all in32 := ⟨_, rfl⟩
  have hev : evalErr vs k d = if c = 0 then (if A = true then 0 else 3) else c := by rw [hc, hA]; rfl
  have hvl : evalVal vs k d = if evalErr vs k d = 0 then valX vs k d else 0 := rfl
  rw [← hc] at K1
  rw [← hA] at K2
  rw [hvl]
  clear hc hA hvl
  have e0 : (w.alloc (.cells #[.int .i64 kd, .int .i64 n, .slice ao dl cap] 24)).cell? ⟨w.heap.size, 0, none⟩ = some (.int .i64 kd) := by simp [go_sem]
  have e1 : (w.alloc (.cells #[.int .i64 kd, .int .i64 n, .slice ao dl cap] 24)).cell? ⟨w.heap.size, 1, none⟩ = some (.int .i64 n) := by simp [go_sem]
  have e2 : (w.alloc (.cells #[.int .i64 kd, .int .i64 n, .slice ao dl cap] 24)).cell? ⟨w.heap.size, 2, none⟩ = some (.slice ao dl cap) := by simp [go_sem]
  have hbel : Below w.heap.size w (w.alloc (.cells #[.int .i64 kd, .int .i64 n, .slice ao dl cap] 24)) := (Below.refl _ w).alloc (Nat.le_refl _) _
  show Calls Try.prog 8 #[.agg #[.int .i64 kd, .int .i64 n, .slice ao dl cap], .slice va vs.length vc] w _
  by_cases h0 : c = 0
  · subst h0
    cases A with
    | true =>
      have hz : evalErr vs k d = 0 := by rw [hev]; rfl
      have K3' := hide (K3.out hz)
      obtain ⟨r, hr⟩ : ∃ q, q = valX vs k d := ⟨_, rfl⟩
      rw [hz, if_pos rfl, ← hr]
      rw [← hr] at K3'
      clear K3 hev hz hr h
      go_enter Try.func8, Try.ntmps8
      go_wp2_with fail
      refine (K1.out _ hbel).mono ?_
      rintro e w1 ⟨rfl, hb1⟩
      have hB1 : Below w.heap.size w w1 := hbel.trans (hb1.mono hbel.size)
      have g0 := cell_over hb1 _ _ e0
      have g1 := cell_over hb1 _ _ e1
      have g2 := cell_over hb1 _ _ e2
      clear hb1 K1 e0 e1 e2 hbel
      go_wp2_with fail
      refine (K2.out _ hB1).mono ?_
      rintro e w2 ⟨rfl, rfl⟩
      go_wp2_with fail
      refine (K3'.out _ hB1).mono ?_
      rintro e w3 ⟨rfl, hb3⟩
      have hB3 : Below w.heap.size w w3 := hB1.trans (hb3.mono hB1.size)
      clear hb3 K2 K3'
      go_wp2_with fail
      go_ret2
      exact ⟨by first | rfl | trivial, hB3⟩
    | false =>
      have hz : evalErr vs k d = 3 := by rw [hev]; rfl
      rw [hz]
      clear K3 hev hz h
      go_enter Try.func8, Try.ntmps8
      go_wp2_with fail
      refine (K1.out _ hbel).mono ?_
      rintro e w1 ⟨rfl, hb1⟩
      have hB1 : Below w.heap.size w w1 := hbel.trans (hb1.mono hbel.size)
      clear hb1 K1 e0 e1 e2 hbel
      go_wp2_with fail
      refine (K2.out _ hB1).mono ?_
      rintro e w2 ⟨rfl, rfl⟩
      go_wp2_with fail
      go_ret2
      exact ⟨by first | rfl | trivial, hB1⟩
  · have hz : evalErr vs k d = c := by rw [hev, if_neg h0]
    rw [hz, if_neg h0]
    clear K3 K2 hev hz h
    go_enter Try.func8, Try.ntmps8
    go_wp2_with fail
    refine (K1.out _ hbel).mono ?_
    rintro e w1 ⟨rfl, hb1⟩
    have hB1 : Below w.heap.size w w1 := hbel.trans (hb1.mono hbel.size)
    clear hb1 K1 e0 e1 e2 hbel
    go_wp2_with fail
    go_ret2
    exact ⟨by first | rfl | trivial, hB1⟩
set_option maxHeartbeats 1000000 in
theorem mustAt_ok (at' why : Int) (w : World) : Calls Try.prog 136 #[.int .i64 at', .bool true, .int .i64 why] w fun e w' => e = .returned (.tuple #[]) ∧ w' = w := by
  go_enter Try.func136, Try.ntmps136
  go_wp2_with fail
  go_end0
  exact ⟨rfl, rfl⟩

set_option maxHeartbeats 1000000 in
theorem must_ok (why : Int) (w : World) : Calls Try.prog 108 #[.bool true, .int .i64 why] w fun e w' => e = .returned (.tuple #[]) ∧ w' = w := by
  have K := hide fun W => mustAt_ok 0 why W
  go_enter Try.func108, Try.ntmps108
  go_wp2_with fail
  refine (K.out _).mono ?_
  rintro e w1 ⟨rfl, rfl⟩
  go_wp2_with fail
  go_end0
  exact ⟨rfl, rfl⟩

set_option maxHeartbeats 1000000 in
theorem pass_ok (w : World) : Calls Try.prog 107 #[.int .i64 0] w fun e w' => e = .returned (.tuple #[]) ∧ w' = w := by
  have K := hide fun W => must_ok 0 W
  go_enter Try.func107, Try.ntmps107
  go_wp2_with fail
  refine (K.out _).mono ?_
  rintro e w1 ⟨rfl, rfl⟩
  go_wp2_with fail
  go_end0
  exact ⟨rfl, rfl⟩

set_option maxHeartbeats 1000000 in
theorem isOneOf_any (x m : Int) (w : World) : Calls Try.prog 109 #[.int .i64 x, .int .i64 m] w fun e w' => e = .returned (.bool (decide (0 ≤ x ∧ x < m))) ∧ w' = w := by
  by_cases h1 : 0 ≤ x
  · by_cases h2 : x < m
    · go_enter Try.func109, Try.ntmps109
      go_wp2
      go_ret
      exact ⟨by simp; omega, rfl⟩
    · go_enter Try.func109, Try.ntmps109
      go_wp2
      go_ret
      exact ⟨by simp; omega, rfl⟩
  · go_enter Try.func109, Try.ntmps109
    go_wp2
    go_ret
    exact ⟨by simp; omega, rfl⟩

theorem over_trans {w0 w1 w2 : World} (h : Below w0.heap.size w0 w1) (h2 : Below w1.heap.size w1 w2) : Below w0.heap.size w0 w2 := h.trans (h2.mono h.size)
end Go.Proofs.Ytcbbjjenkommeaa.Ex
namespace Go.Proofs.Ytcbbjjenkommeaa
open Go.RowKit
set_option linter.unusedVariables false
/-- whom one acts for. -/
def Reach (gs : List (Nat × Nat)) (w k : Nat) : Prop := ∀ S : Nat → Prop, S w → (∀ g ∈ gs, S g.1 → S g.2) → S k

/-- one round over all grants. -/
def stepG (l : List Bool) (g : Nat × Nat) : List Bool := if l[g.1]? = some true then l.set g.2 true else l
def pass (gs : List (Nat × Nat)) (l : List Bool) : List Bool := gs.foldl stepG l

def passes (gs : List (Nat × Nat)) : Nat → List Bool → List Bool
  | 0, l => l
  | n + 1, l => pass gs (passes gs n l)

/-- none is known but one. -/
def start (n w : Nat) : List Bool := (List.replicate n false).set w true
/-- whom one acts for, of so many. -/
def acts (gs : List (Nat × Nat)) (n w : Nat) : List Bool := passes gs n (start n w)
theorem hide {p : Prop} (h : p) : Hid p := h

theorem bcell {W w1 : World} (hb : Below W.heap.size W w1) : (∀ b o, b < W.heap.size → w1.cell? ⟨b, o, none⟩ = W.cell? ⟨b, o, none⟩) ∧ (∀ b o, b < W.heap.size → w1.frozen? ⟨b, o, none⟩ = W.frozen? ⟨b, o, none⟩) :=
  ⟨fun b o h => hb.cell (p := ⟨b, o, none⟩) h, fun b o h => hb.frozen (p := ⟨b, o, none⟩) h⟩

def isOne (m x : Int) : Bool := decide (0 ≤ x ∧ x < m)

set_option maxHeartbeats 400000 in
theorem isOne_any (m x : Int) (s : Value) (w : World) :
    Calls Try.prog 121 #[.agg #[.int .i64 m, s], .int .i64 x] w fun e w' => e = .returned (.bool (isOne m x)) ∧ Below w.heap.size w w' := by
  have hbel : Below w.heap.size w (w.alloc (.cells #[.int .i64 m, s] 35)) := (Below.refl _ w).alloc (Nat.le_refl _) _
  by_cases h1 : (0 : Int) ≤ x
  · by_cases h2 : x < m
    · go_enter Try.func121, Try.ntmps121
      go_wp2
      go_ret
      exact ⟨by simp [isOne]; omega, hbel⟩
    · go_enter Try.func121, Try.ntmps121
      go_wp2
      go_ret
      exact ⟨by simp [isOne]; omega, hbel⟩
  · go_enter Try.func121, Try.ntmps121
    go_wp2
    go_ret
    exact ⟨by simp [isOne]; omega, hbel⟩

/-- a slice that holds grants. -/
def IsGrants (w : World) (v : Value) (gs : List (Int × Int)) : Prop :=
  ∃ ao cap, v = .slice ao gs.length cap ∧ (gs ≠ [] → ∃ b off, ao = some ⟨b, off, none⟩ ∧ ∀ i (h : i < gs.length), w.cell? ⟨b, off + i * 2, none⟩ = some (.int .i64 gs[i].1) ∧ w.cell? ⟨b, off + i * 2 + 1, none⟩ = some (.int .i64 gs[i].2))

theorem isGrants_over {w w' : World} {v : Value} {gs : List (Int × Int)} (h : IsGrants w v gs) (hb : Below w.heap.size w w') : IsGrants w' v gs := by
  obtain ⟨ao, cap, rfl, hc⟩ := h
  refine ⟨ao, cap, rfl, fun hne => ?_⟩
  obtain ⟨b, off, rfl, hcl⟩ := hc hne
  refine ⟨b, off, rfl, fun i hi => ?_⟩
  obtain ⟨h1, h2⟩ := hcl i hi
  have hlt := World.block_lt_of_cell? w _ h1
  exact ⟨by rw [(bcell hb).1 _ _ hlt]; exact h1, by rw [(bcell hb).1 _ _ hlt]; exact h2⟩

/-- where the first is of which something holds; none: -1. -/
def idxOf (p : Int × Int → Bool) (gs : List (Int × Int)) : Int := match gs.findIdx? p with | some i => i | none => -1

theorem idxOf_at {p : Int × Int → Bool} {gs : List (Int × Int)} {k : Nat} (hk : k < gs.length) (h : (gs.take k).all (fun g => !p g) = true) (hp : p gs[k] = true) : idxOf p gs = k := by
  have : gs.findIdx? p = some k := by
    rw [List.findIdx?_eq_some_iff_getElem]
    refine ⟨hk, hp, fun j hj => ?_⟩
    have := List.all_eq_true.1 h gs[j] (by rw [List.mem_take_iff_getElem]; exact ⟨j, by omega, rfl⟩)
    simpa using this
  simp [idxOf, this]
theorem idxOf_none {p : Int × Int → Bool} {gs : List (Int × Int)} (h : gs.all (fun g => !p g) = true) : idxOf p gs = -1 := by
  have : gs.findIdx? p = none := by
    rw [List.findIdx?_eq_none_iff]
    intro x hx
    have := List.all_eq_true.1 h x hx
    simpa using this
  simp [idxOf, this]

set_option maxHeartbeats 1000000 in
theorem indexFunc_any (F : FuncId) (cv : Value) (p : Int × Int → Bool) (v : Value) (gs : List (Int × Int)) (w : World) (hv : IsGrants w v gs) (hn : gs.length ≤ 20)
    (hF : Hid (∀ (i : Nat) (h : i < gs.length) (w1 : World), Below w.heap.size w w1 → Calls Try.prog F #[.agg #[.int .i64 gs[i].1, .int .i64 gs[i].2], cv] w1 fun e w2 => e = .returned (.bool (p gs[i])) ∧ Below w1.heap.size w1 w2))
    (hC : ∀ (args : Array Value) (w : World), (callFunc F args).run Try.prog w = .ok (.enter F args) w) :
    Calls Try.prog 146 #[v, .func (.func F) #[] #[cv]] w fun e w' => e = .returned (.int .i64 (idxOf p gs)) ∧ Below w.heap.size w w' := by
  obtain ⟨ao, cap, rfl, hcc⟩ := hv
  go_enter Try.func146, Try.ntmps146
  go_wp2_with fail
  go_loopw [8] (fun i wr => ∃ k : Nat, k ≤ gs.length ∧ i = .int .i64 k ∧ (gs.take k).all (fun g => !p g) = true ∧ Below w.heap.size w wr) (fun i _ => gs.length - (intOf i).toNat)
  case atStart => exact ⟨0, Nat.zero_le _, rfl, rfl, Below.refl _ w⟩
  case round =>
    obtain ⟨k, hk, rfl, hall, hbel⟩ := hrel
    by_cases hkl : k < gs.length
    · obtain ⟨b, off, rfl, hcl⟩ := hcc (by rintro rfl; simp at hkl)
      obtain ⟨q0, q1⟩ := hcl k hkl
      have hlt := World.block_lt_of_cell? w _ q0
      rw [← (bcell hbel).1 _ _ hlt] at q0 q1
      have hcall := hF.out k hkl
      have hat := fun (hp : p gs[k] = true) => idxOf_at hkl hall hp
      have htk : p gs[k] = false → (gs.take (k + 1)).all (fun g => !p g) = true := fun hp => by
        rw [List.take_succ_eq_append_getElem hkl, List.all_append, hall]
        simp [hp]
      obtain ⟨r, hr⟩ : ∃ r, r = p gs[k] := ⟨_, rfl⟩
      obtain ⟨g0, hg0⟩ : ∃ r, r = gs[k].1 := ⟨_, rfl⟩
      obtain ⟨g1, hg1⟩ : ∃ r, r = gs[k].2 := ⟨_, rfl⟩
      rw [← hr] at hcall hat htk
      rw [← hg0] at q0 hcall
      rw [← hg1] at q1 hcall
      have HC := hide hcall
      have HA := hide hat
      have HT := hide htk
      clear hr hg0 hg1 hcall hat htk hcl hcc hF
      cases r with
      | true =>
        go_wp2_with fail
        refine (HC.out _ hbel).mono ?_
        rintro e w2 ⟨rfl, hb2⟩
        have hbel2 : Below w.heap.size w w2 := hbel.trans (hb2.mono hbel.size)
        go_wp2_with fail
        go_ret
        exact ⟨by rw [HA.out (by first | rfl | trivial)]; rfl, hbel2⟩
      | false =>
        go_wp2_with fail
        refine (HC.out _ hbel).mono ?_
        rintro e w2 ⟨rfl, hb2⟩
        have hbel2 : Below w.heap.size w w2 := hbel.trans (hb2.mono hbel.size)
        go_wp2_with fail
        exact ⟨⟨k + 1, by omega, by go_num, HT.out (by first | rfl | trivial), hbel2⟩, by simp [intOf]; omega⟩
    · have hke : k = gs.length := by omega
      rw [hke, List.take_length] at hall
      have hx := idxOf_none hall
      clear hall hcc hF
      go_wp2_with fail
      go_ret
      exact ⟨by rw [hx]; rfl, hbel⟩
def badG (m : Int) (g : Int × Int) : Bool := !isOne m g.1 || !isOne m g.2
def chkErr (m : Int) (gs : List (Int × Int)) : Int := if 1 ≤ m ∧ m ≤ 6 then (if gs.length ≤ 20 then (if gs.any (badG m) = true then 5 else 0) else 2) else 3

theorem call17 (args : Array Value) (w : World) : (callFunc 120 args).run Try.prog w = .ok (.enter 120 args) w := by simp [go_sem]
set_option maxHeartbeats 400000 in
theorem chkOne_any (m : Int) (s : Value) (b : Nat) (g : Int × Int) (w : World) (h0 : w.cell? ⟨b, 0, none⟩ = some (.int .i64 m)) (h1 : w.cell? ⟨b, 1, none⟩ = some s) :
    Calls Try.prog 120 #[.agg #[.int .i64 g.1, .int .i64 g.2], .pointer (some ⟨b, 0, none⟩)] w fun e w' => e = .returned (.bool (badG m g)) ∧ Below w.heap.size w w' := by
  obtain ⟨g0, g1⟩ := g
  have hlt := World.block_lt_of_cell? w _ h0
  have hne : b ≠ w.heap.size := by have : b < w.heap.size := hlt; omega
  simp only
  have H1 := fun w => isOne_any m g0 s w
  have H2 := fun w => isOne_any m g1 s w
  obtain ⟨r1, hr1⟩ : ∃ r, r = isOne m g0 := ⟨_, rfl⟩
  obtain ⟨r2, hr2⟩ : ∃ r, r = isOne m g1 := ⟨_, rfl⟩
  have hbad : badG m (g0, g1) = (!r1 || !r2) := by rw [hr1, hr2]; rfl
  rw [← hr1] at H1
  rw [← hr2] at H2
  rw [hbad]
  have K1 := hide H1
  have K2 := hide H2
  clear H1 H2 hr1 hr2 hbad
  have hal : Below w.heap.size w (w.alloc (.cells #[.int .i64 g0, .int .i64 g1] 141)) := (Below.refl _ w).alloc (Nat.le_refl _) _
  cases r1 with
  | true =>
    go_enter Try.func120, Try.ntmps120
    go_wp2_with fail
    refine (K1.out _).mono ?_
    rintro e w1 ⟨rfl, hb1⟩
    obtain ⟨hc, hf⟩ := bcell hb1
    have hlt2 : b < (w.alloc (.cells #[.int .i64 g0, .int .i64 g1] 141)).heap.size := by simp; exact Nat.lt_succ_of_lt hlt
    have c0 : w1.cell? ⟨b, 0, none⟩ = some (.int .i64 m) := by rw [hc _ _ hlt2, (bcell hal).1 _ _ hlt]; exact h0
    have c1 : w1.cell? ⟨b, 1, none⟩ = some s := by rw [hc _ _ hlt2, (bcell hal).1 _ _ hlt]; exact h1
    have e1 : w1.cell? ⟨w.heap.size, 1, none⟩ = some (.int .i64 g1) := by rw [hc _ _ (by simp)]; simp [go_sem]
    have hbel : Below w.heap.size w w1 := hal.trans (hb1.mono (by simp))
    clear hc hf hb1
    go_wp2_with fail
    refine (K2.out _).mono ?_
    rintro e w2 ⟨rfl, hb2⟩
    have hbel2 : Below w.heap.size w w2 := hbel.trans (hb2.mono hbel.size)
    go_wp2_with fail
    go_ret
    exact ⟨by simp, hbel2⟩
  | false =>
    go_enter Try.func120, Try.ntmps120
    go_wp2_with fail
    refine (K1.out _).mono ?_
    rintro e w1 ⟨rfl, hb1⟩
    have hbel : Below w.heap.size w w1 := hal.trans (hb1.mono (by simp))
    go_wp2_with fail
    go_ret
    exact ⟨by simp, hbel⟩

theorem idx_any (p : Int × Int → Bool) (gs : List (Int × Int)) : decide (0 ≤ idxOf p gs) = gs.any p := by
  unfold idxOf
  cases h : gs.findIdx? p with
  | none =>
    have : gs.any p = false := by rw [List.any_eq_false]; intro x hx; have := (List.findIdx?_eq_none_iff.1 h) x hx; simpa using this
    rw [this]; rfl
  | some i =>
    obtain ⟨hi, hp, _⟩ := List.findIdx?_eq_some_iff_getElem.1 h
    have : gs.any p = true := List.any_eq_true.2 ⟨_, List.getElem_mem hi, hp⟩
    rw [this]; simp

set_option maxHeartbeats 400000 in
theorem containsFunc_any (m : Int) (s : Value) (b : Nat) (v : Value) (gs : List (Int × Int)) (w : World) (hv : IsGrants w v gs) (hn : gs.length ≤ 20)
    (h0 : w.cell? ⟨b, 0, none⟩ = some (.int .i64 m)) (h1 : w.cell? ⟨b, 1, none⟩ = some s) :
    Calls Try.prog 119 #[v, .func (.func 120) #[] #[.pointer (some ⟨b, 0, none⟩)]] w fun e w' => e = .returned (.bool (gs.any (badG m))) ∧ Below w.heap.size w w' := by
  have hI := indexFunc_any 120 (.pointer (some ⟨b, 0, none⟩)) (badG m) v gs w hv hn (hide fun i hi w1 hb => by
    have hlt := World.block_lt_of_cell? w _ h0
    exact chkOne_any m s b gs[i] w1 (by rw [(bcell hb).1 _ _ hlt]; exact h0) (by rw [(bcell hb).1 _ _ hlt]; exact h1)) call17
  have hx := idx_any (badG m) gs
  obtain ⟨r, hr⟩ : ∃ r, r = idxOf (badG m) gs := ⟨_, rfl⟩
  rw [← hr] at hI hx
  rw [← hx]
  have HI := hide hI
  clear hI hx hr hv
  obtain ⟨u, hu⟩ : ∃ u, u = v := ⟨_, rfl⟩
  go_enter Try.func119, Try.ntmps119
  go_wp2_with fail
  refine (HI.out).mono ?_
  rintro e w1 ⟨rfl, hb1⟩
  go_wp2_with fail
  go_ret
  exact ⟨by simp, hb1⟩

set_option maxHeartbeats 1000000 in
theorem check_any (m : Int) (v : Value) (gs : List (Int × Int)) (w : World) (hv : IsGrants w v gs) :
    Calls Try.prog 88 #[.agg #[.int .i64 m, v]] w fun e w' => e = .returned (.int .i64 (chkErr m gs)) ∧ Below w.heap.size w w' := by
  have hbel : Below w.heap.size w (w.alloc (.cells #[.int .i64 m, v] 35)) := (Below.refl _ w).alloc (Nat.le_refl _) _
  by_cases h1 : m < 1
  · have hE : chkErr m gs = 3 := by unfold chkErr; rw [if_neg (by omega)]
    have HE := hide hE
    clear hE
    go_enter Try.func88, Try.ntmps88
    go_wp2_with fail
    go_ret
    exact ⟨by rw [HE.out]; rfl, hbel⟩
  by_cases h6 : 6 < m
  · have hE : chkErr m gs = 3 := by unfold chkErr; rw [if_neg (by omega)]
    have HE := hide hE
    clear hE
    go_enter Try.func88, Try.ntmps88
    go_wp2_with fail
    go_ret
    exact ⟨by rw [HE.out]; rfl, hbel⟩
  have hvo := isGrants_over hv hbel
  obtain ⟨ao, cap, hve, -⟩ := hv
  by_cases hn : gs.length ≤ 20
  · have hE : chkErr m gs = if gs.any (badG m) = true then 5 else 0 := by unfold chkErr; rw [if_pos (by omega), if_pos hn]
    have hC := containsFunc_any m v w.heap.size v gs (w.alloc (.cells #[.int .i64 m, v] 35)) hvo hn (by simp [go_sem]) (by simp [go_sem])
    obtain ⟨r, hr⟩ : ∃ r, r = gs.any (badG m) := ⟨_, rfl⟩
    rw [← hr] at hE hC
    subst hve
    have HE := hide hE
    have HC := hide hC
    clear hE hC hr hvo
    cases r with
    | true =>
      go_enter Try.func88, Try.ntmps88
      go_wp2_with fail
      refine (HC.out).mono ?_
      rintro e w1 ⟨rfl, hb1⟩
      have hbel1 : Below w.heap.size w w1 := hbel.trans (hb1.mono (by simp))
      go_wp2_with fail
      go_ret
      exact ⟨by rw [HE.out]; rfl, hbel1⟩
    | false =>
      go_enter Try.func88, Try.ntmps88
      go_wp2_with fail
      refine (HC.out).mono ?_
      rintro e w1 ⟨rfl, hb1⟩
      have hbel1 : Below w.heap.size w w1 := hbel.trans (hb1.mono (by simp))
      go_wp2_with fail
      go_ret
      exact ⟨by rw [HE.out]; rfl, hbel1⟩
  · have hE : chkErr m gs = 2 := by unfold chkErr; rw [if_pos (by omega), if_neg hn]
    have HE := hide hE
    subst hve
    clear hE hvo
    go_enter Try.func88, Try.ntmps88
    go_wp2_with fail
    go_ret
    exact ⟨by rw [HE.out]; rfl, hbel⟩
/-- bools that lie in a block of their own. -/
def KnownAt (w : World) (kb : Nat) (l : List Bool) : Prop := ∀ i (h : i < l.length), w.cell? ⟨kb, i, none⟩ = some (.bool l[i]) ∧ w.frozen? ⟨kb, i, none⟩ = false

theorem known_over {w w' : World} {kb : Nat} {l : List Bool} (h : KnownAt w kb l) (hb : Below w.heap.size w w') : KnownAt w' kb l := fun i hi => by
  obtain ⟨h1, h2⟩ := h i hi
  have hlt := World.block_lt_of_cell? w _ h1
  exact ⟨by rw [(bcell hb).1 _ _ hlt]; exact h1, by rw [(bcell hb).2 _ _ hlt]; exact h2⟩

/-- where actsFor stands. -/
def ActsSt (w : World) (n : Nat) (v : Value) (l : List Bool) (W : World) : Prop :=
  W.cell? ⟨w.heap.size, 0, none⟩ = some (.int .i64 n) ∧ W.cell? ⟨w.heap.size, 1, none⟩ = some v ∧ W.cell? ⟨w.heap.size + 1 + 1, 0, none⟩ = some (.slice (some ⟨w.heap.size + 1, 0, none⟩) n n) ∧ KnownAt W (w.heap.size + 1) l ∧ Below w.heap.size w W

theorem ActsSt.over {w W W' : World} {n : Nat} {v : Value} {l : List Bool} (h : ActsSt w n v l W) (hb : Below W.heap.size W W') : ActsSt w n v l W' := by
  obtain ⟨h0, h1, h2, h3, h4⟩ := h
  obtain ⟨hc, hf⟩ := bcell hb
  refine ⟨?_, ?_, ?_, known_over h3 hb, h4.trans (hb.mono h4.size)⟩
  · rw [hc _ _ (World.block_lt_of_cell? W _ h0)]; exact h0
  · rw [hc _ _ (World.block_lt_of_cell? W _ h1)]; exact h1
  · rw [hc _ _ (World.block_lt_of_cell? W _ h2)]; exact h2
/-- rows of bools, one for each. -/
def RowsAt (W : World) (ob n : Nat) (gn : List (Nat × Nat)) (k : Nat) : Prop := ∀ i, i < k → ∃ kb, kb ≠ ob ∧ W.cell? ⟨ob, i, none⟩ = some (.slice (some ⟨kb, 0, none⟩) n n) ∧ KnownAt W kb (acts gn n i)

theorem rows_over {W W' : World} {ob n k : Nat} {gn : List (Nat × Nat)} (h : RowsAt W ob n gn k) (hb : Below W.heap.size W W') : RowsAt W' ob n gn k := fun i hi => by
  obtain ⟨kb, h1, h2, h3⟩ := h i hi
  exact ⟨kb, h1, by rw [(bcell hb).1 _ _ (World.block_lt_of_cell? W _ h2)]; exact h2, known_over h3 hb⟩

/-- cells that may be written. -/
def Slots (W : World) (ob n : Nat) : Prop := ∀ i, i < n → (∃ u, W.cell? ⟨ob, i, none⟩ = some u) ∧ W.frozen? ⟨ob, i, none⟩ = false

theorem slots_over {W W' : World} {ob n : Nat} (h : Slots W ob n) (hb : Below W.heap.size W W') : Slots W' ob n := fun i hi => by
  obtain ⟨⟨u, h1⟩, h2⟩ := h i hi
  have hlt := World.block_lt_of_cell? W _ h1
  exact ⟨⟨u, by rw [(bcell hb).1 _ _ hlt]; exact h1⟩, by rw [(bcell hb).2 _ _ hlt]; exact h2⟩

def ForSt (w : World) (n : Nat) (v : Value) (gn : List (Nat × Nat)) (ob k : Nat) (W : World) : Prop :=
  W.cell? ⟨w.heap.size, 0, none⟩ = some (.int .i64 n) ∧ W.cell? ⟨w.heap.size, 1, none⟩ = some v ∧ Slots W ob n ∧ RowsAt W ob n gn k ∧ Below w.heap.size w W ∧ w.heap.size < ob ∧ ob < W.heap.size

theorem ForSt.over {w W W' : World} {n ob k : Nat} {v : Value} {gn : List (Nat × Nat)} (h : ForSt w n v gn ob k W) (hb : Below W.heap.size W W') : ForSt w n v gn ob k W' := by
  obtain ⟨h0, h1, h2, h3, h4, h5, h6⟩ := h
  obtain ⟨hc, hf⟩ := bcell hb
  refine ⟨?_, ?_, slots_over h2 hb, rows_over h3 hb, h4.trans (hb.mono h4.size), h5, Nat.lt_of_lt_of_le h6 hb.size⟩
  · rw [hc _ _ (World.block_lt_of_cell? W _ h0)]; exact h0
  · rw [hc _ _ (World.block_lt_of_cell? W _ h1)]; exact h1
/-- a slice that holds bools. -/
def IsBools (w : World) (v : Value) (l : List Bool) : Prop :=
  ∃ ao cap, v = .slice ao l.length cap ∧ (l ≠ [] → ∃ b off, ao = some ⟨b, off, none⟩ ∧ ∀ i (h : i < l.length), w.cell? ⟨b, off + i, none⟩ = some (.bool l[i]))

theorem isBools_over {w w' : World} {v : Value} {l : List Bool} (h : IsBools w v l) (hb : Below w.heap.size w w') : IsBools w' v l := by
  obtain ⟨ao, cap, rfl, hc⟩ := h
  refine ⟨ao, cap, rfl, fun hne => ?_⟩
  obtain ⟨b, off, rfl, hcl⟩ := hc hne
  refine ⟨b, off, rfl, fun i hi => ?_⟩
  have h1 := hcl i hi
  rw [(bcell hb).1 _ _ (World.block_lt_of_cell? w _ h1)]
  exact h1

/-- a level: who may read, who may have written. -/
structure Lev where
  r : List Bool
  w : List Bool

def LevAt (W : World) (v : Value) (l : Lev) : Prop := ∃ vr vw, v = .agg #[vr, vw] ∧ IsBools W vr l.r ∧ IsBools W vw l.w

theorem levAt_over {W W' : World} {v : Value} {l : Lev} (h : LevAt W v l) (hb : Below W.heap.size W W') : LevAt W' v l := by
  obtain ⟨vr, vw, rfl, h1, h2⟩ := h
  exact ⟨vr, vw, rfl, isBools_over h1 hb, isBools_over h2 hb⟩

def Lev.small (l : Lev) : Prop := l.r.length ≤ 9223372036854775807 ∧ l.w.length ≤ 9223372036854775807

/-- may what has one level be told to what has another one, as far as one actor goes? -/
def okAt (l m : Lev) (i : Nat) : Bool := !((m.r[i]?.getD false && !(l.r[i]?.getD false)) || (l.w[i]?.getD false && !(m.w[i]?.getD false)))
def flowsB (l m : Lev) (n : Nat) : Bool := (List.range n).all (okAt l m)

theorem flowsB_iff {l m : Lev} {n : Nat} : flowsB l m n = true ↔ ∀ i, i < n → (m.r[i]?.getD false = true → l.r[i]?.getD false = true) ∧ (l.w[i]?.getD false = true → m.w[i]?.getD false = true) := by
  unfold flowsB
  rw [List.all_eq_true]
  constructor
  · intro h i hi
    have := h i (List.mem_range.2 hi)
    unfold okAt at this
    revert this
    cases m.r[i]?.getD false <;> cases l.r[i]?.getD false <;> cases l.w[i]?.getD false <;> cases m.w[i]?.getD false <;> simp
  · intro h i hi
    have := h i (List.mem_range.1 hi)
    unfold okAt
    revert this
    cases m.r[i]?.getD false <;> cases l.r[i]?.getD false <;> cases l.w[i]?.getD false <;> cases m.w[i]?.getD false <;> simp

def Lev.len (l : Lev) (n : Nat) : Prop := l.r.length = n ∧ l.w.length = n
/-- a slice that holds numbers. -/
def IsInts (w : World) (v : Value) (l : List Int) : Prop :=
  ∃ ao cap, v = .slice ao l.length cap ∧ (l ≠ [] → ∃ b off, ao = some ⟨b, off, none⟩ ∧ ∀ i (h : i < l.length), w.cell? ⟨b, off + i, none⟩ = some (.int .i64 l[i]))

theorem isInts_over {w w' : World} {v : Value} {l : List Int} (h : IsInts w v l) (hb : Below w.heap.size w w') : IsInts w' v l := by
  obtain ⟨ao, cap, rfl, hc⟩ := h
  refine ⟨ao, cap, rfl, fun hne => ?_⟩
  obtain ⟨b, off, rfl, hcl⟩ := hc hne
  refine ⟨b, off, rfl, fun i hi => ?_⟩
  have h1 := hcl i hi
  rw [(bcell hb).1 _ _ (World.block_lt_of_cell? w _ h1)]
  exact h1

structure Pol where
  owner : Int
  names : List Int

/-- a slice that holds policies. -/
def IsPols (w : World) (v : Value) (ps : List Pol) : Prop :=
  ∃ ao cap, v = .slice ao ps.length cap ∧ (ps ≠ [] → ∃ b off, ao = some ⟨b, off, none⟩ ∧ ∀ i (h : i < ps.length), w.cell? ⟨b, off + i * 2, none⟩ = some (.int .i64 ps[i].owner) ∧ ∃ nv, w.cell? ⟨b, off + i * 2 + 1, none⟩ = some nv ∧ IsInts w nv ps[i].names)

theorem isPols_over {w w' : World} {v : Value} {ps : List Pol} (h : IsPols w v ps) (hb : Below w.heap.size w w') : IsPols w' v ps := by
  obtain ⟨ao, cap, rfl, hc⟩ := h
  refine ⟨ao, cap, rfl, fun hne => ?_⟩
  obtain ⟨b, off, rfl, hcl⟩ := hc hne
  refine ⟨b, off, rfl, fun i hi => ?_⟩
  obtain ⟨h1, nv, h2, h3⟩ := hcl i hi
  exact ⟨by rw [(bcell hb).1 _ _ (World.block_lt_of_cell? w _ h1)]; exact h1, nv, by rw [(bcell hb).1 _ _ (World.block_lt_of_cell? w _ h2)]; exact h2, isInts_over h3 hb⟩
def rises : List Int → Bool
  | x :: y :: l => decide (x < y) && rises (y :: l)
  | _ => true

def polErr (m : Int) (p : Pol) : Int :=
  if isOne m p.owner = true then (if p.names.length ≤ 6 then (if p.names.all (isOne m) = true then (if rises p.names = true then 0 else 4) else 5) else 2) else 5
def firstErr (m : Int) : List Pol → Int
  | [] => 0
  | p :: ps => if polErr m p = 0 then firstErr m ps else polErr m p
def polsErr (m : Int) (ps : List Pol) : Int := if ps.length ≤ 4 then firstErr m ps else 2

theorem firstErr_drop {m : Int} {ps : List Pol} {k : Nat} (hk : k < ps.length) : firstErr m (ps.drop k) = if polErr m ps[k] = 0 then firstErr m (ps.drop (k + 1)) else polErr m ps[k] := by
  rw [List.drop_eq_getElem_cons hk]
  rfl

theorem rises_iff (l : List Int) : rises l = true ↔ ∀ i (h : i + 1 < l.length), l[i] < l[i + 1] := by
  induction l with
  | nil => simp [rises]
  | cons x l ih =>
    cases l with
    | nil => simp [rises]
    | cons y l =>
      simp only [rises, Bool.and_eq_true, decide_eq_true_eq, ih]
      constructor
      · rintro ⟨h1, h2⟩ i hi
        cases i with
        | zero => exact h1
        | succ i => exact h2 i (by simpa using hi)
      · intro h
        exact ⟨h 0 (by simp), fun i hi => h (i + 1) (by simpa using hi)⟩
/-- where the first number is of which something holds; none: -1. -/
def idxI (p : Int → Bool) (l : List Int) : Int := match l.findIdx? p with | some i => i | none => -1

theorem idxI_at {p : Int → Bool} {l : List Int} {k : Nat} (hk : k < l.length) (h : (l.take k).all (fun g => !p g) = true) (hp : p l[k] = true) : idxI p l = k := by
  have : l.findIdx? p = some k := by
    rw [List.findIdx?_eq_some_iff_getElem]
    refine ⟨hk, hp, fun j hj => ?_⟩
    have := List.all_eq_true.1 h l[j] (by rw [List.mem_take_iff_getElem]; exact ⟨j, by omega, rfl⟩)
    simpa using this
  simp [idxI, this]
theorem idxI_none {p : Int → Bool} {l : List Int} (h : l.all (fun g => !p g) = true) : idxI p l = -1 := by
  have : l.findIdx? p = none := by
    rw [List.findIdx?_eq_none_iff]
    intro x hx
    have := List.all_eq_true.1 h x hx
    simpa using this
  simp [idxI, this]
theorem idxI_any (p : Int → Bool) (l : List Int) : decide (0 ≤ idxI p l) = l.any p := by
  unfold idxI
  cases h : l.findIdx? p with
  | none =>
    have : l.any p = false := by rw [List.any_eq_false]; intro x hx; have := (List.findIdx?_eq_none_iff.1 h) x hx; simpa using this
    rw [this]; rfl
  | some i =>
    obtain ⟨hi, hp, _⟩ := List.findIdx?_eq_some_iff_getElem.1 h
    have : l.any p = true := List.any_eq_true.2 ⟨_, List.getElem_mem hi, hp⟩
    rw [this]; simp

set_option maxHeartbeats 1000000 in
theorem indexInt_any (F : FuncId) (cv : Value) (p : Int → Bool) (v : Value) (l : List Int) (w : World) (hv : IsInts w v l) (hn : l.length ≤ 6)
    (hF : Hid (∀ (i : Nat) (h : i < l.length) (w1 : World), Below w.heap.size w w1 → Calls Try.prog F #[.int .i64 l[i], cv] w1 fun e w2 => e = .returned (.bool (p l[i])) ∧ Below w1.heap.size w1 w2))
    (hC : ∀ (args : Array Value) (w : World), (callFunc F args).run Try.prog w = .ok (.enter F args) w) :
    Calls Try.prog 63 #[v, .func (.func F) #[] #[cv]] w fun e w' => e = .returned (.int .i64 (idxI p l)) ∧ Below w.heap.size w w' := by
  obtain ⟨ao, cap, rfl, hcc⟩ := hv
  go_enter Try.func63, Try.ntmps63
  go_wp2_with fail
  go_loopw [8] (fun i wr => ∃ k : Nat, k ≤ l.length ∧ i = .int .i64 k ∧ (l.take k).all (fun g => !p g) = true ∧ Below w.heap.size w wr) (fun i _ => l.length - (intOf i).toNat)
  case atStart => exact ⟨0, Nat.zero_le _, rfl, rfl, Below.refl _ w⟩
  case round =>
    obtain ⟨k, hk, rfl, hall, hbel⟩ := hrel
    by_cases hkl : k < l.length
    · obtain ⟨b, off, rfl, hcl⟩ := hcc (by rintro rfl; simp at hkl)
      have q0 := hcl k hkl
      have hlt := World.block_lt_of_cell? w _ q0
      rw [← (bcell hbel).1 _ _ hlt] at q0
      have hcall := hF.out k hkl
      have hat := fun (hp : p l[k] = true) => idxI_at hkl hall hp
      have htk : p l[k] = false → (l.take (k + 1)).all (fun g => !p g) = true := fun hp => by
        rw [List.take_succ_eq_append_getElem hkl, List.all_append, hall]
        simp [hp]
      obtain ⟨r, hr⟩ : ∃ r, r = p l[k] := ⟨_, rfl⟩
      obtain ⟨g0, hg0⟩ : ∃ r, r = l[k] := ⟨_, rfl⟩
      rw [← hr] at hcall hat htk
      rw [← hg0] at q0 hcall
      have HC := hide hcall
      have HA := hide hat
      have HT := hide htk
      clear hr hg0 hcall hat htk hcl hcc hF
      cases r with
      | true =>
        go_wp2_with fail
        refine (HC.out _ hbel).mono ?_
        rintro e w2 ⟨rfl, hb2⟩
        have hbel2 : Below w.heap.size w w2 := hbel.trans (hb2.mono hbel.size)
        go_wp2_with fail
        go_ret
        exact ⟨by rw [HA.out (by first | rfl | trivial)]; rfl, hbel2⟩
      | false =>
        go_wp2_with fail
        refine (HC.out _ hbel).mono ?_
        rintro e w2 ⟨rfl, hb2⟩
        have hbel2 : Below w.heap.size w w2 := hbel.trans (hb2.mono hbel.size)
        go_wp2_with fail
        exact ⟨⟨k + 1, by omega, by go_num, HT.out (by first | rfl | trivial), hbel2⟩, by simp [intOf]; omega⟩
    · have hke : k = l.length := by omega
      rw [hke, List.take_length] at hall
      have hx := idxI_none hall
      clear hall hcc hF
      go_wp2_with fail
      go_ret
      exact ⟨by rw [hx]; rfl, hbel⟩

set_option maxHeartbeats 400000 in
theorem containsInt_any (F : FuncId) (cv : Value) (p : Int → Bool) (v : Value) (l : List Int) (w : World) (hv : IsInts w v l) (hn : l.length ≤ 6)
    (hF : Hid (∀ (i : Nat) (h : i < l.length) (w1 : World), Below w.heap.size w w1 → Calls Try.prog F #[.int .i64 l[i], cv] w1 fun e w2 => e = .returned (.bool (p l[i])) ∧ Below w1.heap.size w1 w2))
    (hC : ∀ (args : Array Value) (w : World), (callFunc F args).run Try.prog w = .ok (.enter F args) w) :
    Calls Try.prog 24 #[v, .func (.func F) #[] #[cv]] w fun e w' => e = .returned (.bool (l.any p)) ∧ Below w.heap.size w w' := by
  have hI := indexInt_any F cv p v l w hv hn hF hC
  have hx := idxI_any p l
  obtain ⟨r, hr⟩ : ∃ r, r = idxI p l := ⟨_, rfl⟩
  rw [← hr] at hI hx
  rw [← hx]
  have HI := hide hI
  clear hI hx hr hv hC hF
  obtain ⟨u, hu⟩ : ∃ u, u = v := ⟨_, rfl⟩
  go_enter Try.func24, Try.ntmps24
  go_wp2_with fail
  refine (HI.out).mono ?_
  rintro e w1 ⟨rfl, hb1⟩
  go_wp2_with fail
  go_ret
  exact ⟨by simp, hb1⟩

theorem call58 (args : Array Value) (w : World) : (callFunc 147 args).run Try.prog w = .ok (.enter 147 args) w := by simp [go_sem]
set_option maxHeartbeats 400000 in
theorem isNone_any (m x : Int) (b : Nat) (w : World) (h0 : w.cell? ⟨b, 0, none⟩ = some (.int .i64 m)) :
    Calls Try.prog 147 #[.int .i64 x, .pointer (some ⟨b, 0, none⟩)] w fun e w' => e = .returned (.bool (!isOne m x)) ∧ Below w.heap.size w w' := by
  by_cases h1 : x < 0
  · have hx : isOne m x = false := by simp [isOne]; omega
    rw [hx]
    clear hx
    go_enter Try.func147, Try.ntmps147
    go_wp2_with fail
    go_ret
    exact ⟨by simp, Below.refl _ w⟩
  · by_cases h2 : m ≤ x
    · have hx : isOne m x = false := by simp [isOne]; omega
      rw [hx]
      clear hx
      go_enter Try.func147, Try.ntmps147
      go_wp2_with fail
      go_ret
      exact ⟨by simp, Below.refl _ w⟩
    · have hx : isOne m x = true := by simp [isOne]; omega
      rw [hx]
      clear hx
      go_enter Try.func147, Try.ntmps147
      go_wp2_with fail
      go_ret
      exact ⟨by simp, Below.refl _ w⟩

set_option maxHeartbeats 1000000 in
theorem rise_any (v : Value) (l : List Int) (w : World) (hv : IsInts w v l) (hn : l.length ≤ 6) :
    Calls Try.prog 148 #[v] w fun e w' => e = .returned (.bool (rises l)) ∧ Below w.heap.size w w' := by
  obtain ⟨ao, cap, rfl, hcc⟩ := hv
  have HCC := hide hcc
  clear hcc
  go_enter Try.func148, Try.ntmps148
  go_wp2_with fail
  go_loopw [3] (fun i wr => ∃ k n : Nat, k ≤ 6 ∧ i = .int .i64 ((k : Int) + 1) ∧ (∀ j (h : j + 1 < l.length), j < k → l[j] < l[j + 1]) ∧ wr = w.drewN n) (fun i _ => 10 - (intOf i).toNat)
  case atStart => exact ⟨0, 0, Nat.zero_le _, rfl, fun j _ h => absurd h (Nat.not_lt_zero _), rfl⟩
  case round =>
    obtain ⟨k, n, hk, rfl, hall, rfl⟩ := hrel
    by_cases hkl : k + 1 < l.length
    · obtain ⟨b, off, rfl, hcl⟩ := HCC.out (by rintro rfl; simp at hkl)
      have q0 := hcl k (by omega)
      have q1 := hcl (k + 1) hkl
      have hnext : l[k] < l[k + 1] → ∀ j (h : j + 1 < l.length), j < k + 1 → l[j] < l[j + 1] := fun h j hj hjk => by
        by_cases e : j = k
        · subst e; exact h
        · exact hall j hj (by omega)
      have hstop : ¬ l[k] < l[k + 1] → rises l = false := fun h => by
        rw [Bool.eq_false_iff]
        intro hh
        exact h ((rises_iff l).1 hh k hkl)
      obtain ⟨x, hx⟩ : ∃ x, x = l[k] := ⟨_, rfl⟩
      obtain ⟨y, hy⟩ : ∃ y, y = l[k + 1] := ⟨_, rfl⟩
      rw [← hx] at q0
      rw [← hy] at q1
      rw [← hx, ← hy] at hnext hstop
      have HN := hide hnext
      have HS := hide hstop
      have k1 : ((k : Int) + 1) < (l.length : Int) := by omega
      have a1 : (0 : Int) ≤ (k : Int) + 1 := by omega
      have a2 : (0 : Int) ≤ (k : Int) := by omega
      have a3 : (k : Int) < (l.length : Int) := by omega
      have q1' : w.cell? ⟨b, off + (k + 1), none⟩ = some (.int .i64 y) := q1
      clear hnext hstop hx hy hcl hall HCC q1
      by_cases hxy : y ≤ x
      · go_wp2_with fail
        go_region
        go_wp2_with fail
        go_ret
        exact ⟨by rw [HS.out (by omega)]; rfl, below_drewN (Below.refl _ w) (n + 1)⟩
      · go_wp2_with fail
        go_region
        go_wp2_with fail
        exact ⟨⟨k + 1, n + 1, by omega, by go_num, HN.out (by omega), by first | rfl | trivial⟩, by simp [intOf]; omega⟩
    · have hr : rises l = true := (rises_iff l).2 fun j hj => hall j hj (by omega)
      have HR := hide hr
      have k1 : ¬ ((k : Int) + 1) < (l.length : Int) := by omega
      clear hr hall HCC
      go_wp2_with fail
      go_ret
      exact ⟨by rw [HR.out]; rfl, below_drewN (Below.refl _ w) n⟩

set_option maxHeartbeats 2000000 in
theorem checkPolicy_any (m : Int) (s : Value) (p : Pol) (nv : Value) (w : World) (hp : IsInts w nv p.names) :
    Calls Try.prog 122 #[.agg #[.int .i64 m, s], .agg #[.int .i64 p.owner, nv]] w fun e w' => e = .returned (.int .i64 (polErr m p)) ∧ Below w.heap.size w w' := by
  obtain ⟨ow, names⟩ := p
  have hE : polErr m ⟨ow, names⟩ = if isOne m ow = true then (if names.length ≤ 6 then (if (names.any fun x => !isOne m x) = true then 5 else (if rises names = true then 0 else 4)) else 2) else 5 := by
    unfold polErr
    have : names.all (isOne m) = !(names.any fun x => !isOne m x) := by rw [List.any_eq_not_all_not]; simp
    simp only [this]
    cases (names.any fun x => !isOne m x) <;> simp
  simp only at hp ⊢
  have hbel : Below w.heap.size w ((w.alloc (.cells #[.int .i64 m, s] 35)).alloc (.cells #[.int .i64 ow, nv] 143)) := ((Below.refl _ w).alloc (Nat.le_refl _) _).alloc (by simp) _
  have HP := hide fun (W : World) (hb : Below w.heap.size w W) => isInts_over hp hb
  have hN := fun (W : World) (h : W.cell? ⟨w.heap.size, 0, none⟩ = some (.int .i64 m)) => isNone_any m ow w.heap.size W h
  have hK := fun (W : World) (hn : names.length ≤ 6) (hB : Below w.heap.size w W) (h : W.cell? ⟨w.heap.size, 0, none⟩ = some (.int .i64 m)) => containsInt_any 147 (.pointer (some ⟨w.heap.size, 0, none⟩)) (fun x => !isOne m x) nv names W (isInts_over hp hB) hn (hide fun i hi w1 hb => isNone_any m names[i] w.heap.size w1 (by rw [(bcell hb).1 _ _ (World.block_lt_of_cell? W _ h)]; exact h)) call58
  have hR := fun (W : World) (hn : names.length ≤ 6) (hB : Below w.heap.size w W) => rise_any nv names W (isInts_over hp hB) hn
  obtain ⟨r1, hr1⟩ : ∃ r, r = isOne m ow := ⟨_, rfl⟩
  obtain ⟨r2, hr2⟩ : ∃ r, r = names.any fun x => !isOne m x := ⟨_, rfl⟩
  obtain ⟨r3, hr3⟩ : ∃ r, r = rises names := ⟨_, rfl⟩
  rw [← hr1, ← hr2, ← hr3] at hE
  rw [← hr1] at hN
  rw [← hr2] at hK
  rw [← hr3] at hR
  have KN := hide hN
  have KK := hide hK
  have KR := hide hR
  have HE := hide hE
  obtain ⟨ao, cap, rfl, -⟩ := hp
  clear hN hK hR hE hr1 hr2 hr3
  cases r1 with
  | false =>
    go_enter Try.func122, Try.ntmps122
    go_wp2_with fail
    refine (KN.out _ (by simp [go_sem])).mono ?_
    rintro e w1 ⟨rfl, hb1⟩
    have hbel1 : Below w.heap.size w w1 := hbel.trans (hb1.mono (by simp; omega))
    go_wp2_with fail
    go_ret
    exact ⟨by rw [HE.out]; rfl, hbel1⟩
  | true =>
    go_enter Try.func122, Try.ntmps122
    go_wp2_with fail
    refine (KN.out _ (by simp [go_sem])).mono ?_
    rintro e w1 ⟨rfl, hb1⟩
    obtain ⟨hc, hf⟩ := bcell hb1
    have c0 : w1.cell? ⟨w.heap.size, 0, none⟩ = some (.int .i64 m) := by rw [hc _ _ (by simp; omega)]; simp [go_sem]
    have c1 : w1.cell? ⟨w.heap.size + 1, 1, none⟩ = some (.slice ao names.length cap) := by rw [hc _ _ (by simp)]; simp [go_sem]
    have hbel1 : Below w.heap.size w w1 := hbel.trans (hb1.mono (by simp; omega))
    clear hc hf hb1 hbel KN
    by_cases hn : names.length ≤ 6
    · go_wp2_with fail
      refine (KK.out _ hn hbel1 c0).mono ?_
      rintro e w2 ⟨rfl, hb2⟩
      have hbel2 : Below w.heap.size w w2 := hbel1.trans (hb2.mono hbel1.size)
      have d1 : w2.cell? ⟨w.heap.size + 1, 1, none⟩ = some (.slice ao names.length cap) := by rw [(bcell hb2).1 _ _ (World.block_lt_of_cell? w1 _ c1)]; exact c1
      clear c0 c1 KK
      cases r2 with
      | true =>
        go_wp2_with fail
        go_ret
        exact ⟨by rw [HE.out]; simp [hn], hbel2⟩
      | false =>
        go_wp2_with fail
        refine (KR.out _ hn hbel2).mono ?_
        rintro e w3 ⟨rfl, hb3⟩
        have hbel3 : Below w.heap.size w w3 := hbel2.trans (hb3.mono hbel2.size)
        clear d1 KR
        cases r3
        all_goals go_wp2_with fail
        all_goals go_ret
        all_goals exact ⟨by rw [HE.out]; simp [hn], hbel3⟩
    · go_wp2_with fail
      go_ret
      exact ⟨by rw [HE.out]; simp [hn], hbel1⟩

/-- the policies from one on, in memory. -/
theorem isPols_at {w : World} {v : Value} {ps : List Pol} (h : IsPols w v ps) {i : Nat} (hi : i < ps.length) : ∃ b off cap nv, v = .slice (some ⟨b, off, none⟩) ps.length cap ∧ w.cell? ⟨b, off + i * 2, none⟩ = some (.int .i64 ps[i].owner) ∧ w.cell? ⟨b, off + i * 2 + 1, none⟩ = some nv ∧ IsInts w nv ps[i].names := by
  obtain ⟨ao, cap, rfl, hc⟩ := h
  obtain ⟨b, off, rfl, hcl⟩ := hc (by rintro rfl; simp at hi)
  obtain ⟨h1, nv, h2, h3⟩ := hcl i hi
  exact ⟨b, off, cap, nv, rfl, h1, h2, h3⟩

set_option maxHeartbeats 2000000 in
theorem labPolicies_any (m : Int) (s vp : Value) (ps : List Pol) (w : World) (hp : IsPols w vp ps) :
    Calls Try.prog 89 #[.agg #[.int .i64 m, s], vp] w fun e w' => e = .returned (.int .i64 (polsErr m ps)) ∧ Below w.heap.size w w' := by
  have HP := hide hp
  obtain ⟨ao, cap, rfl, -⟩ := hp
  have hbel : Below w.heap.size w (w.alloc (.cells #[.int .i64 m, s] 35)) := (Below.refl _ w).alloc (Nat.le_refl _) _
  have hE : polsErr m ps = if ps.length ≤ 4 then firstErr m ps else 2 := rfl
  have KP := hide fun (p : Pol) (nv : Value) (W : World) (h : IsInts W nv p.names) => checkPolicy_any m s p nv W h
  by_cases hn : ps.length ≤ 4
  · rw [if_pos hn] at hE
    have HE := hide hE
    clear hE
    go_enter Try.func89, Try.ntmps89
    go_wp2_with fail
    go_loopw [13] (fun i wr => ∃ k : Nat, k ≤ ps.length ∧ i = .int .i64 k ∧ firstErr m ps = firstErr m (ps.drop k) ∧ Below w.heap.size w wr ∧ wr.cell? ⟨w.heap.size, 0, none⟩ = some (.int .i64 m) ∧ wr.cell? ⟨w.heap.size, 1, none⟩ = some s) (fun i _ => ps.length - (intOf i).toNat)
    case atStart => exact ⟨0, Nat.zero_le _, rfl, rfl, hbel, by simp [go_sem], by simp [go_sem]⟩
    case round =>
      obtain ⟨k, hk, rfl, hfe, hbw, c0, c1⟩ := hrel
      by_cases hkl : k < ps.length
      · obtain ⟨b, off, cap', nv, hve, q0, q1, q2⟩ := isPols_at (isPols_over HP.out hbw) hkl
        injection hve with e1 e2 e3
        subst e1 e3
        clear e2
        have hfd := firstErr_drop (m := m) hkl
        rw [← hfe] at hfd
        have ltb := World.block_lt_of_cell? wr _ q0
        have ltw := World.block_lt_of_cell? wr _ c0
        have hal : Below wr.heap.size wr (wr.alloc (.cells #[.int .i64 ps[k].owner, nv] 143)) := (Below.refl _ wr).alloc (Nat.le_refl _) _
        have hcall := KP.out ps[k] nv (wr.alloc (.cells #[.int .i64 ps[k].owner, nv] 143)) (isInts_over q2 hal)
        obtain ⟨r, hr⟩ : ∃ r, r = polErr m ps[k] := ⟨_, rfl⟩
        obtain ⟨ow, how⟩ : ∃ r, r = ps[k].owner := ⟨_, rfl⟩
        rw [← hr] at hfd hcall
        rw [← how] at q0 hal hcall
        obtain ⟨nl, nc, nlen, hnv⟩ : ∃ a c n, nv = .slice a n c := by obtain ⟨a, c, e, _⟩ := q2; exact ⟨a, c, _, e⟩
        subst hnv
        have HC := hide hcall
        have HF := hide hfd
        have hbw2 := hbw.trans (hal.mono hbw.size)
        clear hr how hcall hfd q2 hfe
        by_cases hr0 : r = 0
        · subst hr0
          go_wp2_with fail
          refine (HC.out).mono ?_
          rintro e w2 ⟨rfl, hb2⟩
          have hb3 := hbw2.trans (hb2.mono hbw2.size)
          have ltw' : w.heap.size < (wr.alloc (.cells #[.int .i64 ow, .slice nl nlen nc] 143)).heap.size := by simp; exact Nat.lt_succ_of_lt ltw
          have d0 : w2.cell? ⟨w.heap.size, 0, none⟩ = some (.int .i64 m) := by rw [(bcell hb2).1 _ _ ltw', (bcell hal).1 _ _ ltw]; exact c0
          have d1 : w2.cell? ⟨w.heap.size, 1, none⟩ = some s := by rw [(bcell hb2).1 _ _ ltw', (bcell hal).1 _ _ ltw]; exact c1
          clear hbw2 hb2 hal q0 q1 c0 c1 HC
          go_wp2_with fail
          exact ⟨⟨k + 1, by omega, by go_num, by rw [HF.out]; simp, hb3, d0, d1⟩, by simp [intOf]; omega⟩
        · have hne : (r != 0) = true := by simpa using hr0
          go_wp2_with fail
          refine (HC.out).mono ?_
          rintro e w2 ⟨rfl, hb2⟩
          have hb3 := hbw2.trans (hb2.mono hbw2.size)
          clear hbw2 hb2 hal q0 q1 c0 c1 HC
          go_wp2_with fail
          go_ret
          exact ⟨by rw [HE.out, HF.out]; simp [hr0], hb3⟩
      · have hke : k = ps.length := by omega
        have hz : firstErr m ps = 0 := by rw [hfe, hke, List.drop_length]; rfl
        have HZ := hide hz
        clear hz hfe c0 c1
        go_wp2_with fail
        go_ret
        exact ⟨by rw [HE.out, HZ.out]; rfl, hbw⟩
  · rw [if_neg hn] at hE
    have HE := hide hE
    clear hE
    go_enter Try.func89, Try.ntmps89
    go_wp2_with fail
    go_ret
    exact ⟨by rw [HE.out]; rfl, hbel⟩
section
variable {ops : Array Oper} {o : Oper} {a : Act} {W : World} {K : Act → World → Prop} {Q : Exit → Act → World → Prop} {E : Prop}

end

/-- four cells that lie low, and are kept. -/
def Low4 (B : Nat) (p1 p2 p3 p4 : Nat × Nat) (v1 v2 v3 v4 : Value) (W : World) : Prop :=
  W.cell? ⟨p1.1, p1.2, none⟩ = some v1 ∧ W.cell? ⟨p2.1, p2.2, none⟩ = some v2 ∧ W.cell? ⟨p3.1, p3.2, none⟩ = some v3 ∧ W.cell? ⟨p4.1, p4.2, none⟩ = some v4 ∧ B + 1 ≤ W.heap.size ∧ p1.1 < B ∧ p2.1 < B ∧ p3.1 < B ∧ p4.1 < B

theorem Low4.keep {B : Nat} {W W' : World} {p1 p2 p3 p4 : Nat × Nat} {v1 v2 v3 v4 : Value} (h : Low4 B p1 p2 p3 p4 v1 v2 v3 v4 W) (hb : Below B W W') : Low4 B p1 p2 p3 p4 v1 v2 v3 v4 W' := by
  have hc : ∀ b o, b < B → W'.cell? ⟨b, o, none⟩ = W.cell? ⟨b, o, none⟩ := fun b o h => hb.cell (p := ⟨b, o, none⟩) h
  obtain ⟨k1, k2, k3, k4, k6, h1, h2, h3, h4⟩ := h
  exact ⟨by rw [hc _ _ h1]; exact k1, by rw [hc _ _ h2]; exact k2, by rw [hc _ _ h3]; exact k3, by rw [hc _ _ h4]; exact k4, Nat.le_trans k6 hb.size, h1, h2, h3, h4⟩
structure Lab where
  r : List Pol
  w : List Pol
def labErr (m : Int) (b : Lab) : Int := if polsErr m b.r = 0 then polsErr m b.w else polsErr m b.r

def noLev : Lev := ⟨[], []⟩
def lChk (m : Int) (gs : List (Int × Int)) (b : Lab) : Int := if chkErr m gs = 0 then labErr m b else chkErr m gs
def CheckOk : Prop := ∀ (m : Int) (v : Value) (gs : List (Int × Int)) (pr pw : Value) (bl : Lab) (w : World), IsGrants w v gs → IsPols w pr bl.r → IsPols w pw bl.w →
  Calls Try.prog 50 #[.agg #[.int .i64 m, v], .agg #[pr, pw]] w fun e w' => e = .returned (.int .i64 (lChk m gs bl)) ∧ Below w.heap.size w w'
theorem pols_form {w : World} {v : Value} {ps : List Pol} (h : IsPols w v ps) : ∃ a n c, v = .slice a n c := by
  obtain ⟨a, c, e, _⟩ := h
  exact ⟨a, _, c, e⟩
theorem grants_form {w : World} {v : Value} {gs : List (Int × Int)} (h : IsGrants w v gs) : ∃ a n c, v = .slice a n c := by
  obtain ⟨a, c, e, _⟩ := h
  exact ⟨a, _, c, e⟩

set_option maxHeartbeats 2000000 in
theorem checkOk : CheckOk := by
  intro m v gs pr pw bl w hv hp hq
  have hbel : Below w.heap.size w ((w.alloc (.cells #[.int .i64 m, v] 35)).alloc (.cells #[pr, pw] 102)) := ((Below.refl _ w).alloc (Nat.le_refl _) _).alloc (by simp) _
  have hC := fun (W : World) (hB : Below w.heap.size w W) => check_any m v gs W (isGrants_over hv hB)
  have hP := fun (W : World) (hB : Below w.heap.size w W) => labPolicies_any m v pr bl.r W (isPols_over hp hB)
  have hQ := fun (W : World) (hB : Below w.heap.size w W) => labPolicies_any m v pw bl.w W (isPols_over hq hB)
  have hE : lChk m gs bl = if chkErr m gs = 0 then (if polsErr m bl.r = 0 then polsErr m bl.w else polsErr m bl.r) else chkErr m gs := rfl
  obtain ⟨r, hr⟩ : ∃ r, r = chkErr m gs := ⟨_, rfl⟩
  obtain ⟨p1, hp1⟩ : ∃ r, r = polsErr m bl.r := ⟨_, rfl⟩
  obtain ⟨p2, hp2⟩ : ∃ r, r = polsErr m bl.w := ⟨_, rfl⟩
  rw [← hr, ← hp1, ← hp2] at hE
  rw [← hr] at hC
  rw [← hp1] at hP
  rw [← hp2] at hQ
  obtain ⟨va, vn, vc, rfl⟩ := grants_form hv
  obtain ⟨pa, pn, pc, rfl⟩ := pols_form hp
  obtain ⟨qa, qn, qc, rfl⟩ := pols_form hq
  have KC := hide hC
  have KP := hide hP
  have KQ := hide hQ
  have HE := hide hE
  clear hC hP hQ hE hr hp1 hp2 hv hp hq
  go_enter Try.func50, Try.ntmps50
  go_wp2_with fail
  refine (KC.out _ hbel).mono ?_
  rintro e w1 ⟨rfl, hb1⟩
  obtain ⟨hc, hf⟩ := bcell hb1
  have c0 : w1.cell? ⟨w.heap.size, 0, none⟩ = some (.int .i64 m) := by rw [hc _ _ (by simp; omega)]; simp [go_sem]
  have c1 : w1.cell? ⟨w.heap.size, 1, none⟩ = some (.slice va vn vc) := by rw [hc _ _ (by simp; omega)]; simp [go_sem]
  have c2 : w1.cell? ⟨w.heap.size + 1, 0, none⟩ = some (.slice pa pn pc) := by rw [hc _ _ (by simp)]; simp [go_sem]
  have c3 : w1.cell? ⟨w.heap.size + 1, 1, none⟩ = some (.slice qa qn qc) := by rw [hc _ _ (by simp)]; simp [go_sem]
  have hB1 : Below w.heap.size w w1 := hbel.trans (hb1.mono (by simp; omega))
  clear hc hf hb1 hbel KC
  by_cases hr0 : r = 0
  · subst hr0
    go_wp2_with fail
    refine (KP.out _ hB1).mono ?_
    rintro e w2 ⟨rfl, hb2⟩
    have ltw := World.block_lt_of_cell? w1 _ c0
    have ltp := World.block_lt_of_cell? w1 _ c2
    obtain ⟨hc, hf⟩ := bcell hb2
    have d0 : w2.cell? ⟨w.heap.size, 0, none⟩ = some (.int .i64 m) := by rw [hc _ _ ltw]; exact c0
    have d1 : w2.cell? ⟨w.heap.size, 1, none⟩ = some (.slice va vn vc) := by rw [hc _ _ ltw]; exact c1
    have d3 : w2.cell? ⟨w.heap.size + 1, 1, none⟩ = some (.slice qa qn qc) := by rw [hc _ _ ltp]; exact c3
    have hB2 : Below w.heap.size w w2 := hB1.trans (hb2.mono hB1.size)
    clear hc hf hb2 hB1 c0 c1 c2 c3 KP
    by_cases hp0 : p1 = 0
    · subst hp0
      go_wp2_with fail
      refine (KQ.out _ hB2).mono ?_
      rintro e w3 ⟨rfl, hb3⟩
      have hB3 : Below w.heap.size w w3 := hB2.trans (hb3.mono hB2.size)
      clear d0 d1 d3 hb3 KQ
      go_wp2_with fail
      go_ret
      exact ⟨by rw [HE.out]; simp, hB3⟩
    · have hne : (p1 != 0) = true := by simpa using hp0
      go_wp2_with fail
      go_ret
      exact ⟨by rw [HE.out]; simp [hp0], hB2⟩
  · have hne : (r != 0) = true := by simpa using hr0
    go_wp2_with fail
    go_ret
    exact ⟨by rw [HE.out]; simp [hr0], hB1⟩
end Go.Proofs.Ytcbbjjenkommeaa
