/- The document's own answers of levels: are two the same, is one right, may one flow to another. -/
import Derived.Test.YtekgnjifopgboaaRefA
namespace Go.Proofs.Ytekgnjifopgboaa
open Go.RowKit
set_option linter.unusedVariables false

/-- a slice that holds bools. -/
def IsBools (w : World) (v : Value) (l : List Bool) : Prop :=
  ∃ ao cap, v = .slice ao l.length cap ∧ (l ≠ [] → ∃ b off, ao = some ⟨b, off, none⟩ ∧ ∀ i (h : i < l.length), w.cell? ⟨b, off + i, none⟩ = some (.bool l[i]))

theorem isBools_over {w w' : World} {v : Value} {l : List Bool} (h : IsBools w v l) (hb : Below w.heap.size w w') : IsBools w' v l := by
  obtain ⟨ao, cap, rfl, hc⟩ := h
  refine ⟨ao, cap, rfl, fun hne => ?_⟩
  obtain ⟨b, off, rfl, hcl⟩ := hc hne
  refine ⟨b, off, rfl, fun i hi => ?_⟩
  have h1 := hcl i hi
  rw [(bcell hb).1 _ _ (World.block_lt_of_cell? w _ h1)]
  exact h1

theorem isBools_drewN {w : World} {v : Value} {l : List Bool} (h : IsBools w v l) (n : Nat) : IsBools (w.drewN n) v l := h

theorem isBools_at {w : World} {v : Value} {l : List Bool} (h : IsBools w v l) {i : Nat} (hi : i < l.length) : ∃ b off cap, v = .slice (some ⟨b, off, none⟩) l.length cap ∧ w.cell? ⟨b, off + i, none⟩ = some (.bool l[i]) := by
  obtain ⟨ao, cap, rfl, hc⟩ := h
  obtain ⟨b, off, rfl, hcl⟩ := hc (by rintro rfl; simp at hi)
  exact ⟨b, off, cap, rfl, hcl i hi⟩

theorem take_succ_ne {a b : List Bool} {k : Nat} (hka : k < a.length) (hkb : k < b.length) (hne : a[k] ≠ b[k]) : a ≠ b := by
  rintro rfl
  exact hne rfl

set_option maxHeartbeats 1000000 in
theorem sameBools_any (va vb : Value) (a b : List Bool) (w : World) (ha : IsBools w va a) (hb : IsBools w vb b) (hla : a.length ≤ 9223372036854775807) :
    Calls Try.prog 39 #[va, vb] w fun e w' => e = .returned (.bool (decide (a = b))) ∧ ∃ n, w' = w.drewN n := by
  have HA := hide ha
  have HB := hide hb
  obtain ⟨ao, ca, rfl, -⟩ := ha
  obtain ⟨bo, cb, rfl, -⟩ := hb
  by_cases hl : a.length = b.length
  · have hl2 : ((a.length : Int) != b.length) = false := by simp [hl]
    have HL := hide hl
    clear hl
    go_enter Try.func39, Try.ntmps39
    go_wp2_with fail
    go_loopw [5] (fun i wr => ∃ k n : Nat, k ≤ a.length ∧ i = .int .i64 k ∧ a.take k = b.take k ∧ wr = w.drewN n) (fun i _ => a.length - (intOf i).toNat)
    case atStart => exact ⟨0, 0, Nat.zero_le _, rfl, rfl, rfl⟩
    case round =>
      obtain ⟨k, n, hk, rfl, heq, rfl⟩ := hrel
      by_cases hkl : k < a.length
      · have hkb : k < b.length := by have := HL.out; omega
        obtain ⟨b1, o1, c1, e1, q1⟩ := isBools_at HA.out hkl
        obtain ⟨b2, o2, c2, e2, q2⟩ := isBools_at HB.out hkb
        injection e1 with e1a e1b e1c
        injection e2 with e2a e2b e2c
        subst e1a e1c e2a e2c
        have htk : a[k] = b[k] → a.take (k + 1) = b.take (k + 1) := fun h => by
          rw [List.take_succ_eq_append_getElem hkl, List.take_succ_eq_append_getElem hkb, heq, h]
        have hne : a[k] ≠ b[k] → decide (a = b) = false := fun h => decide_eq_false (take_succ_ne hkl hkb h)
        obtain ⟨x, hx⟩ : ∃ x, x = a[k] := ⟨_, rfl⟩
        obtain ⟨y, hy⟩ : ∃ y, y = b[k] := ⟨_, rfl⟩
        rw [← hx] at q1
        rw [← hy] at q2
        rw [← hx, ← hy] at htk hne
        have HT := hide htk
        have HN := hide hne
        clear htk hne heq hx hy e1b e2b
        cases x <;> cases y
        all_goals go_wp2_with fail
        all_goals go_region
        all_goals go_wp2_with fail
        all_goals first
          | exact ⟨⟨k + 1, n + 1, by omega, by go_num, HT.out (by first | rfl | trivial), by first | rfl | trivial⟩, by simp [intOf]; omega⟩
          | (go_ret; exact ⟨by rw [HN.out (by decide)]; rfl, n + 1, rfl⟩)
      · have hke : k = a.length := by omega
        have hab : a = b := by
          have h2 : k = b.length := by have := HL.out; omega
          rw [hke, List.take_length] at heq
          rw [heq, ← hke, h2, List.take_length]
        have hd : decide (a = b) = true := decide_eq_true hab
        have HD := hide hd
        clear hd hab heq
        go_wp2_with fail
        go_ret
        exact ⟨by rw [HD.out]; rfl, n, rfl⟩
  · have hl2 : ((a.length : Int) != b.length) = true := by simp; omega
    have hd : decide (a = b) = false := decide_eq_false (fun h => hl (by rw [h]))
    rw [hd]
    clear hd
    go_enter Try.func39, Try.ntmps39
    go_wp2_with fail
    go_ret
    exact ⟨rfl, 0, rfl⟩

/-- a level: who may read, who may have written. -/
structure Lev where
  r : List Bool
  w : List Bool

def LevAt (W : World) (v : Value) (l : Lev) : Prop := ∃ vr vw, v = .agg #[vr, vw] ∧ IsBools W vr l.r ∧ IsBools W vw l.w

theorem levAt_over {W W' : World} {v : Value} {l : Lev} (h : LevAt W v l) (hb : Below W.heap.size W W') : LevAt W' v l := by
  obtain ⟨vr, vw, rfl, h1, h2⟩ := h
  exact ⟨vr, vw, rfl, isBools_over h1 hb, isBools_over h2 hb⟩

def sameLev (l m : Lev) : Bool := decide (l.r = m.r) && decide (l.w = m.w)
def Lev.small (l : Lev) : Prop := l.r.length ≤ 9223372036854775807 ∧ l.w.length ≤ 9223372036854775807

set_option maxHeartbeats 1000000 in
theorem sameLevel_any (vl vm : Value) (l m : Lev) (w : World) (hl : LevAt w vl l) (hm : LevAt w vm m) (hs : l.small) :
    Calls Try.prog 24 #[vl, vm] w fun e w' => e = .returned (.bool (sameLev l m)) ∧ Below w.heap.size w w' := by
  obtain ⟨r1, w1, rfl, hr1, hw1⟩ := hl
  obtain ⟨r2, w2, rfl, hr2, hw2⟩ := hm
  have hbel : Below w.heap.size w ((w.alloc (.cells #[r1, w1] 30)).alloc (.cells #[r2, w2] 30)) := ((Below.refl _ w).alloc (Nat.le_refl _) _).alloc (by simp) _
  have hS := sameBools_any r1 r2 l.r m.r _ (isBools_over hr1 hbel) (isBools_over hr2 hbel) hs.1
  have hT := fun n => sameBools_any w1 w2 l.w m.w (((w.alloc (.cells #[r1, w1] 30)).alloc (.cells #[r2, w2] 30)).drewN n) (isBools_drewN (isBools_over hw1 hbel) n) (isBools_drewN (isBools_over hw2 hbel) n) hs.2
  have hx : sameLev l m = (decide (l.r = m.r) && decide (l.w = m.w)) := rfl
  obtain ⟨x, hxe⟩ : ∃ x, x = decide (l.r = m.r) := ⟨_, rfl⟩
  obtain ⟨y, hye⟩ : ∃ y, y = decide (l.w = m.w) := ⟨_, rfl⟩
  rw [← hxe] at hS hx
  rw [← hye] at hT hx
  rw [hx]
  have KS := hide hS
  have KT := hide hT
  clear hS hT hxe hye hx hr1 hr2 hw1 hw2
  cases x with
  | false =>
    go_enter Try.func24, Try.ntmps24
    go_wp2_with fail
    refine (KS.out).mono ?_
    rintro e w3 ⟨rfl, n, rfl⟩
    go_wp2_with fail
    go_ret
    exact ⟨by simp, below_drewN hbel n⟩
  | true =>
    go_enter Try.func24, Try.ntmps24
    go_wp2_with fail
    refine (KS.out).mono ?_
    rintro e w3 ⟨rfl, n, rfl⟩
    go_wp2_with fail
    refine (KT.out n).mono ?_
    rintro e w4 ⟨rfl, k, rfl⟩
    go_wp2_with fail
    go_ret
    exact ⟨by simp, below_drewN hbel (n + k)⟩

def levErr (m : Int) (l : Lev) : Int := if (l.r.length : Int) = m ∧ (l.w.length : Int) = m then 0 else 1

set_option maxHeartbeats 1000000 in
theorem checkLevel_any (m : Int) (s vl : Value) (l : Lev) (w : World) (hl : LevAt w vl l) :
    Calls Try.prog 18 #[.agg #[.int .i64 m, s], vl] w fun e w' => e = .returned (.int .i64 (levErr m l)) ∧ Below w.heap.size w w' := by
  obtain ⟨r1, w1, rfl, ⟨ao, ca, rfl, -⟩, ⟨bo, cb, rfl, -⟩⟩ := hl
  have hbel : Below w.heap.size w ((w.alloc (.cells #[.int .i64 m, s] 24)).alloc (.cells #[.slice ao l.r.length ca, .slice bo l.w.length cb] 30)) := ((Below.refl _ w).alloc (Nat.le_refl _) _).alloc (by simp) _
  by_cases h1 : (l.r.length : Int) = m
  · by_cases h2 : (l.w.length : Int) = m
    · have hE : levErr m l = 0 := by unfold levErr; rw [if_pos ⟨h1, h2⟩]
      rw [hE]
      have b1 : ((l.r.length : Int) != m) = false := by simp [h1]
      have b2 : ((l.w.length : Int) != m) = false := by simp [h2]
      clear hE h1 h2
      go_enter Try.func18, Try.ntmps18
      go_wp2_with fail
      go_ret
      exact ⟨rfl, hbel⟩
    · have hE : levErr m l = 1 := by unfold levErr; rw [if_neg (fun h => h2 h.2)]
      rw [hE]
      have b1 : ((l.r.length : Int) != m) = false := by simp [h1]
      have b2 : ((l.w.length : Int) != m) = true := by simpa using h2
      clear hE h1 h2
      go_enter Try.func18, Try.ntmps18
      go_wp2_with fail
      go_ret
      exact ⟨rfl, hbel⟩
  · have hE : levErr m l = 1 := by unfold levErr; rw [if_neg (fun h => h1 h.1)]
    rw [hE]
    have b1 : ((l.r.length : Int) != m) = true := by simpa using h1
    clear hE h1
    go_enter Try.func18, Try.ntmps18
    go_wp2_with fail
    go_ret
    exact ⟨rfl, hbel⟩

/-- may what has one level be told to what has another one, as far as one actor goes? -/
def okAt (l m : Lev) (i : Nat) : Bool := !((m.r[i]?.getD false && !(l.r[i]?.getD false)) || (l.w[i]?.getD false && !(m.w[i]?.getD false)))
def flowsB (l m : Lev) (n : Nat) : Bool := (List.range n).all (okAt l m)

theorem flowsB_iff {l m : Lev} {n : Nat} : flowsB l m n = true ↔ ∀ i, i < n → (m.r[i]?.getD false = true → l.r[i]?.getD false = true) ∧ (l.w[i]?.getD false = true → m.w[i]?.getD false = true) := by
  unfold flowsB
  rw [List.all_eq_true]
  constructor
  · intro h i hi
    have := h i (List.mem_range.2 hi)
    unfold okAt at this
    revert this
    cases m.r[i]?.getD false <;> cases l.r[i]?.getD false <;> cases l.w[i]?.getD false <;> cases m.w[i]?.getD false <;> simp
  · intro h i hi
    have := h i (List.mem_range.1 hi)
    unfold okAt
    revert this
    cases m.r[i]?.getD false <;> cases l.r[i]?.getD false <;> cases l.w[i]?.getD false <;> cases m.w[i]?.getD false <;> simp

theorem isBools_pos {w : World} {v : Value} {l : List Bool} {n : Nat} (h : IsBools w v l) (hl : l.length = n) (h1 : 1 ≤ n) :
    ∃ b off cap, v = .slice (some ⟨b, off, none⟩) n cap ∧ ∀ i, i < n → w.cell? ⟨b, off + i, none⟩ = some (.bool (l[i]?.getD false)) := by
  obtain ⟨ao, cap, rfl, hc⟩ := h
  obtain ⟨b, off, rfl, hcl⟩ := hc (by rintro rfl; simp at hl; omega)
  refine ⟨b, off, cap, by rw [hl], fun i hi => ?_⟩
  have hi' : i < l.length := by omega
  rw [hcl i hi']
  simp [hi']

def Lev.len (l : Lev) (n : Nat) : Prop := l.r.length = n ∧ l.w.length = n

set_option maxHeartbeats 4000000 in
theorem flowsTo_any (vl vm : Value) (l m : Lev) (n : Nat) (w : World) (hl : LevAt w vl l) (hm : LevAt w vm m) (h0 : 1 ≤ n) (hn : n ≤ 6) (h1 : l.len n) (h2 : m.len n) :
    Calls Try.prog 19 #[vl, vm] w fun e w' => e = .returned (.bool (flowsB l m n)) ∧ Below w.heap.size w w' := by
  obtain ⟨r1, w1, rfl, hr1, hw1⟩ := hl
  obtain ⟨r2, w2, rfl, hr2, hw2⟩ := hm
  have hbel : Below w.heap.size w ((w.alloc (.cells #[r1, w1] 30)).alloc (.cells #[r2, w2] 30)) := ((Below.refl _ w).alloc (Nat.le_refl _) _).alloc (by simp) _
  obtain ⟨b1, o1, c1, rfl, q1⟩ := isBools_pos (isBools_over hr1 hbel) h1.1 h0
  obtain ⟨b2, o2, c2, rfl, q2⟩ := isBools_pos (isBools_over hr2 hbel) h2.1 h0
  obtain ⟨b3, o3, c3, rfl, q3⟩ := isBools_pos (isBools_over hw1 hbel) h1.2 h0
  obtain ⟨b4, o4, c4, rfl, q4⟩ := isBools_pos (isBools_over hw2 hbel) h2.2 h0
  have Q1 := hide q1
  have Q2 := hide q2
  have Q3 := hide q3
  have Q4 := hide q4
  clear hr1 hw1 hr2 hw2 q1 q2 q3 q4 h1 h2
  go_enter Try.func19, Try.ntmps19
  go_wp2_with fail
  go_loopw [5] (fun i wr => ∃ k : Nat, k ≤ n ∧ i = .int .i64 k ∧ (List.range k).all (okAt l m) = true ∧ wr = ((w.alloc (.cells #[.slice (some ⟨b1, o1, none⟩) n c1, .slice (some ⟨b3, o3, none⟩) n c3] 30)).alloc (.cells #[.slice (some ⟨b2, o2, none⟩) n c2, .slice (some ⟨b4, o4, none⟩) n c4] 30))) (fun i _ => n - (intOf i).toNat)
  case atStart => exact ⟨0, Nat.zero_le _, rfl, rfl, rfl⟩
  case round =>
    obtain ⟨k, hk, rfl, hall, hwr⟩ := hrel
    rw [← hwr] at hbel Q1 Q2 Q3 Q4
    have z1 : wr.cell? ⟨w.heap.size, 0, none⟩ = some (.slice (some ⟨b1, o1, none⟩) n c1) := by rw [hwr]; simp [go_sem]
    have z2 : wr.cell? ⟨w.heap.size, 1, none⟩ = some (.slice (some ⟨b3, o3, none⟩) n c3) := by rw [hwr]; simp [go_sem]
    have z3 : wr.cell? ⟨w.heap.size + 1, 0, none⟩ = some (.slice (some ⟨b2, o2, none⟩) n c2) := by rw [hwr]; simp [go_sem]
    have z4 : wr.cell? ⟨w.heap.size + 1, 1, none⟩ = some (.slice (some ⟨b4, o4, none⟩) n c4) := by rw [hwr]; simp [go_sem]
    have HWR := hide hwr
    clear hwr
    by_cases hkn : k < n
    · have q1 := Q1.out k hkn
      have q2 := Q2.out k hkn
      have q3 := Q3.out k hkn
      have q4 := Q4.out k hkn
      have hok : okAt l m k = !((m.r[k]?.getD false && !(l.r[k]?.getD false)) || (l.w[k]?.getD false && !(m.w[k]?.getD false))) := rfl
      have hnext : okAt l m k = true → (List.range (k + 1)).all (okAt l m) = true := fun h => by
        rw [List.range_succ, List.all_append, hall]
        simp [h]
      have hstop : okAt l m k = false → flowsB l m n = false := fun h => by
        unfold flowsB
        rw [List.all_eq_false]
        exact ⟨k, List.mem_range.2 hkn, by simp [h]⟩
      generalize m.r[k]?.getD false = xa at hok q2
      generalize l.r[k]?.getD false = xb at hok q1
      generalize l.w[k]?.getD false = xc at hok q3
      generalize m.w[k]?.getD false = xd at hok q4
      rw [hok] at hnext hstop
      have HN := hide hnext
      have HS := hide hstop
      clear hnext hstop hok hall
      cases xa <;> cases xb <;> cases xc <;> cases xd
      all_goals go_wp2_with fail
      all_goals first
        | exact ⟨⟨k + 1, by omega, by go_num, HN.out (by first | rfl | trivial), HWR.out⟩, by simp [intOf]; omega⟩
        | (go_ret; exact ⟨by rw [HS.out (by first | rfl | trivial)]; rfl, hbel⟩)
    · have hke : k = n := by omega
      have hf : flowsB l m n = true := by unfold flowsB; rw [← hke]; exact hall
      have HF := hide hf
      clear hf hall
      go_wp2_with fail
      go_ret
      exact ⟨by rw [HF.out]; rfl, hbel⟩
end Go.Proofs.Ytekgnjifopgboaa
