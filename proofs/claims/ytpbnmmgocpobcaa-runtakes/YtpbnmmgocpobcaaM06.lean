/- The document's own answers of levels: are two the same, is one right, may one flow to another. -/
import Derived.Test.YtpbnmmgocpobcaaM05
import Derived.Deep.CutRange
namespace Go.Proofs.Ytpbnmmgocpobcaa
open Go.RowKit
set_option linter.unusedVariables false

/-- a slice that holds bools. -/
def IsBools (w : World) (v : Value) (l : List Bool) : Prop :=
  ∃ ao cap, v = .slice ao l.length cap ∧ (l ≠ [] → ∃ b off, ao = some ⟨b, off, none⟩ ∧ ∀ i (h : i < l.length), w.cell? ⟨b, off + i, none⟩ = some (.bool l[i]))

theorem isBools_over {w w' : World} {v : Value} {l : List Bool} (h : IsBools w v l) (hb : Below w.heap.size w w') : IsBools w' v l := by
  obtain ⟨ao, cap, rfl, hc⟩ := h
  refine ⟨ao, cap, rfl, fun hne => ?_⟩
  obtain ⟨b, off, rfl, hcl⟩ := hc hne
  refine ⟨b, off, rfl, fun i hi => ?_⟩
  have h1 := hcl i hi
  rw [(bcell hb).1 _ _ (World.block_lt_of_cell? w _ h1)]
  exact h1

theorem isBools_drewN {w : World} {v : Value} {l : List Bool} (h : IsBools w v l) (n : Nat) : IsBools (w.drewN n) v l := h

theorem isBools_at {w : World} {v : Value} {l : List Bool} (h : IsBools w v l) {i : Nat} (hi : i < l.length) : ∃ b off cap, v = .slice (some ⟨b, off, none⟩) l.length cap ∧ w.cell? ⟨b, off + i, none⟩ = some (.bool l[i]) := by
  obtain ⟨ao, cap, rfl, hc⟩ := h
  obtain ⟨b, off, rfl, hcl⟩ := hc (by rintro rfl; simp at hi)
  exact ⟨b, off, cap, rfl, hcl i hi⟩

theorem take_succ_ne {a b : List Bool} {k : Nat} (hka : k < a.length) (hkb : k < b.length) (hne : a[k] ≠ b[k]) : a ≠ b := by
  rintro rfl
  exact hne rfl

/-- a level: who may read, who may have written. -/
structure Lev where
  r : List Bool
  w : List Bool

def LevAt (W : World) (v : Value) (l : Lev) : Prop := ∃ vr vw, v = .agg #[vr, vw] ∧ IsBools W vr l.r ∧ IsBools W vw l.w

theorem levAt_over {W W' : World} {v : Value} {l : Lev} (h : LevAt W v l) (hb : Below W.heap.size W W') : LevAt W' v l := by
  obtain ⟨vr, vw, rfl, h1, h2⟩ := h
  exact ⟨vr, vw, rfl, isBools_over h1 hb, isBools_over h2 hb⟩

def sameLev (l m : Lev) : Bool := decide (l.r = m.r) && decide (l.w = m.w)
def Lev.small (l : Lev) : Prop := l.r.length ≤ 9223372036854775807 ∧ l.w.length ≤ 9223372036854775807

def levErr (m : Int) (l : Lev) : Int := if (l.r.length : Int) = m ∧ (l.w.length : Int) = m then 0 else 1

/-- may what has one level be told to what has another one, as far as one actor goes? -/
def okAt (l m : Lev) (i : Nat) : Bool := !((m.r[i]?.getD false && !(l.r[i]?.getD false)) || (l.w[i]?.getD false && !(m.w[i]?.getD false)))
def flowsB (l m : Lev) (n : Nat) : Bool := (List.range n).all (okAt l m)

theorem flowsB_iff {l m : Lev} {n : Nat} : flowsB l m n = true ↔ ∀ i, i < n → (m.r[i]?.getD false = true → l.r[i]?.getD false = true) ∧ (l.w[i]?.getD false = true → m.w[i]?.getD false = true) := by
  unfold flowsB
  rw [List.all_eq_true]
  constructor
  · intro h i hi
    have := h i (List.mem_range.2 hi)
    unfold okAt at this
    revert this
    cases m.r[i]?.getD false <;> cases l.r[i]?.getD false <;> cases l.w[i]?.getD false <;> cases m.w[i]?.getD false <;> simp
  · intro h i hi
    have := h i (List.mem_range.1 hi)
    unfold okAt
    revert this
    cases m.r[i]?.getD false <;> cases l.r[i]?.getD false <;> cases l.w[i]?.getD false <;> cases m.w[i]?.getD false <;> simp

theorem isBools_pos {w : World} {v : Value} {l : List Bool} {n : Nat} (h : IsBools w v l) (hl : l.length = n) (h1 : 1 ≤ n) :
    ∃ b off cap, v = .slice (some ⟨b, off, none⟩) n cap ∧ ∀ i, i < n → w.cell? ⟨b, off + i, none⟩ = some (.bool (l[i]?.getD false)) := by
  obtain ⟨ao, cap, rfl, hc⟩ := h
  obtain ⟨b, off, rfl, hcl⟩ := hc (by rintro rfl; simp at hl; omega)
  refine ⟨b, off, cap, by rw [hl], fun i hi => ?_⟩
  have hi' : i < l.length := by omega
  rw [hcl i hi']
  simp [hi']

def Lev.len (l : Lev) (n : Nat) : Prop := l.r.length = n ∧ l.w.length = n

end Go.Proofs.Ytpbnmmgocpobcaa
/- The document's own answer who may, by policies. -/
namespace Go.Proofs.Ytpbnmmgocpobcaa
open Go.RowKit
set_option linter.unusedVariables false

/-- a slice that holds numbers. -/
def IsInts (w : World) (v : Value) (l : List Int) : Prop :=
  ∃ ao cap, v = .slice ao l.length cap ∧ (l ≠ [] → ∃ b off, ao = some ⟨b, off, none⟩ ∧ ∀ i (h : i < l.length), w.cell? ⟨b, off + i, none⟩ = some (.int .i64 l[i]))

theorem isInts_over {w w' : World} {v : Value} {l : List Int} (h : IsInts w v l) (hb : Below w.heap.size w w') : IsInts w' v l := by
  obtain ⟨ao, cap, rfl, hc⟩ := h
  refine ⟨ao, cap, rfl, fun hne => ?_⟩
  obtain ⟨b, off, rfl, hcl⟩ := hc hne
  refine ⟨b, off, rfl, fun i hi => ?_⟩
  have h1 := hcl i hi
  rw [(bcell hb).1 _ _ (World.block_lt_of_cell? w _ h1)]
  exact h1

structure Pol where
  owner : Int
  names : List Int

/-- a slice that holds policies. -/
def IsPols (w : World) (v : Value) (ps : List Pol) : Prop :=
  ∃ ao cap, v = .slice ao ps.length cap ∧ (ps ≠ [] → ∃ b off, ao = some ⟨b, off, none⟩ ∧ ∀ i (h : i < ps.length), w.cell? ⟨b, off + i * 2, none⟩ = some (.int .i64 ps[i].owner) ∧ ∃ nv, w.cell? ⟨b, off + i * 2 + 1, none⟩ = some nv ∧ IsInts w nv ps[i].names)

theorem isPols_over {w w' : World} {v : Value} {ps : List Pol} (h : IsPols w v ps) (hb : Below w.heap.size w w') : IsPols w' v ps := by
  obtain ⟨ao, cap, rfl, hc⟩ := h
  refine ⟨ao, cap, rfl, fun hne => ?_⟩
  obtain ⟨b, off, rfl, hcl⟩ := hc hne
  refine ⟨b, off, rfl, fun i hi => ?_⟩
  obtain ⟨h1, nv, h2, h3⟩ := hcl i hi
  exact ⟨by rw [(bcell hb).1 _ _ (World.block_lt_of_cell? w _ h1)]; exact h1, nv, by rw [(bcell hb).1 _ _ (World.block_lt_of_cell? w _ h2)]; exact h2, isInts_over h3 hb⟩

/-- does one act for another one? -/
def actB (gn : List (Nat × Nat)) (n who : Nat) (x : Int) : Bool := (acts gn n who)[x.toNat]?.getD false
def polB (gn : List (Nat × Nat)) (n who : Nat) (p : Pol) : Bool := actB gn n who p.owner || p.names.any (actB gn n who)
def mayB (gn : List (Nat × Nat)) (n who : Nat) (ps : List Pol) : Bool := ps.all (polB gn n who)
def polIn (n : Nat) (p : Pol) : Prop := (0 ≤ p.owner ∧ p.owner < n) ∧ p.names.length ≤ 6 ∧ ∀ x ∈ p.names, 0 ≤ x ∧ x < (n : Int)

/-- three cells that are kept where all below is kept. -/
theorem held3c {w w0 w1 : World} {b0 o0 b1 o1 b2 o2 : Nat} {v0 v1 v2 : Value} (h : w0.cell? ⟨b0, o0, none⟩ = some v0 ∧ w0.cell? ⟨b1, o1, none⟩ = some v1 ∧ w0.cell? ⟨b2, o2, none⟩ = some v2 ∧ Below w.heap.size w w0)
    (hb : Below w0.heap.size w0 w1) : w1.cell? ⟨b0, o0, none⟩ = some v0 ∧ w1.cell? ⟨b1, o1, none⟩ = some v1 ∧ w1.cell? ⟨b2, o2, none⟩ = some v2 ∧ Below w.heap.size w w1 := by
  obtain ⟨h0, h1, h2, hB⟩ := h
  obtain ⟨hc, hf⟩ := bcell hb
  refine ⟨?_, ?_, ?_, hB.trans (hb.mono hB.size)⟩
  · rw [hc _ _ (World.block_lt_of_cell? w0 _ h0)]; exact h0
  · rw [hc _ _ (World.block_lt_of_cell? w0 _ h1)]; exact h1
  · rw [hc _ _ (World.block_lt_of_cell? w0 _ h2)]; exact h2

end Go.Proofs.Ytpbnmmgocpobcaa
/- The document's own check of policies, and of labels. -/
namespace Go.Proofs.Ytpbnmmgocpobcaa
open Go.RowKit
set_option linter.unusedVariables false

def rises : List Int → Bool
  | x :: y :: l => decide (x < y) && rises (y :: l)
  | _ => true

def polErr (m : Int) (p : Pol) : Int :=
  if isOne m p.owner = true then (if p.names.length ≤ 6 then (if p.names.all (isOne m) = true then (if rises p.names = true then 0 else 4) else 5) else 2) else 5
def firstErr (m : Int) : List Pol → Int
  | [] => 0
  | p :: ps => if polErr m p = 0 then firstErr m ps else polErr m p
def polsErr (m : Int) (ps : List Pol) : Int := if ps.length ≤ 4 then firstErr m ps else 2

theorem firstErr_drop {m : Int} {ps : List Pol} {k : Nat} (hk : k < ps.length) : firstErr m (ps.drop k) = if polErr m ps[k] = 0 then firstErr m (ps.drop (k + 1)) else polErr m ps[k] := by
  rw [List.drop_eq_getElem_cons hk]
  rfl

theorem rises_iff (l : List Int) : rises l = true ↔ ∀ i (h : i + 1 < l.length), l[i] < l[i + 1] := by
  induction l with
  | nil => simp [rises]
  | cons x l ih =>
    cases l with
    | nil => simp [rises]
    | cons y l =>
      simp only [rises, Bool.and_eq_true, decide_eq_true_eq, ih]
      constructor
      · rintro ⟨h1, h2⟩ i hi
        cases i with
        | zero => exact h1
        | succ i => exact h2 i (by simpa using hi)
      · intro h
        exact ⟨h 0 (by simp), fun i hi => h (i + 1) (by simpa using hi)⟩

end Go.Proofs.Ytpbnmmgocpobcaa
/- Package label: policies: is a name one of the actors, do names rise, is a label right. -/
namespace Go.Proofs.Ytpbnmmgocpobcaa
open Go.RowKit
set_option linter.unusedVariables false

/-- where the first number is of which something holds; none: -1. -/
def idxI (p : Int → Bool) (l : List Int) : Int := match l.findIdx? p with | some i => i | none => -1

theorem idxI_at {p : Int → Bool} {l : List Int} {k : Nat} (hk : k < l.length) (h : (l.take k).all (fun g => !p g) = true) (hp : p l[k] = true) : idxI p l = k := by
  have : l.findIdx? p = some k := by
    rw [List.findIdx?_eq_some_iff_getElem]
    refine ⟨hk, hp, fun j hj => ?_⟩
    have := List.all_eq_true.1 h l[j] (by rw [List.mem_take_iff_getElem]; exact ⟨j, by omega, rfl⟩)
    simpa using this
  simp [idxI, this]
theorem idxI_none {p : Int → Bool} {l : List Int} (h : l.all (fun g => !p g) = true) : idxI p l = -1 := by
  have : l.findIdx? p = none := by
    rw [List.findIdx?_eq_none_iff]
    intro x hx
    have := List.all_eq_true.1 h x hx
    simpa using this
  simp [idxI, this]
theorem idxI_any (p : Int → Bool) (l : List Int) : decide (0 ≤ idxI p l) = l.any p := by
  unfold idxI
  cases h : l.findIdx? p with
  | none =>
    have : l.any p = false := by rw [List.any_eq_false]; intro x hx; have := (List.findIdx?_eq_none_iff.1 h) x hx; simpa using this
    rw [this]; rfl
  | some i =>
    obtain ⟨hi, hp, _⟩ := List.findIdx?_eq_some_iff_getElem.1 h
    have : l.any p = true := List.any_eq_true.2 ⟨_, List.getElem_mem hi, hp⟩
    rw [this]; simp

set_option maxHeartbeats 1000000 in
theorem indexInt_any (F : FuncId) (cv : Value) (p : Int → Bool) (v : Value) (l : List Int) (w : World) (hv : IsInts w v l) (hn : l.length ≤ 6)
    (hF : Hid (∀ (i : Nat) (h : i < l.length) (w1 : World), Below w.heap.size w w1 → Calls Try.prog F #[.int .i64 l[i], cv] w1 fun e w2 => e = .returned (.bool (p l[i])) ∧ Below w1.heap.size w1 w2))
    (hC : ∀ (args : Array Value) (w : World), (callFunc F args).run Try.prog w = .ok (.enter F args) w) :
    Calls Try.prog 28 #[v, .func (.func F) #[] #[cv]] w fun e w' => e = .returned (.int .i64 (idxI p l)) ∧ Below w.heap.size w w' := by
  obtain ⟨ao, cap, rfl, hcc⟩ := hv
  go_enter Try.func28, Try.ntmps28
  go_wp2_with fail
  go_loopw [8] (fun i wr => ∃ k : Nat, k ≤ l.length ∧ i = .int .i64 k ∧ (l.take k).all (fun g => !p g) = true ∧ Below w.heap.size w wr) (fun i _ => l.length - (intOf i).toNat)
  case atStart => exact ⟨0, Nat.zero_le _, rfl, rfl, Below.refl _ w⟩
  case round =>
    obtain ⟨k, hk, rfl, hall, hbel⟩ := hrel
    by_cases hkl : k < l.length
    · obtain ⟨b, off, rfl, hcl⟩ := hcc (by rintro rfl; simp at hkl)
      have q0 := hcl k hkl
      have hlt := World.block_lt_of_cell? w _ q0
      rw [← (bcell hbel).1 _ _ hlt] at q0
      have hcall := hF.out k hkl
      have hat := fun (hp : p l[k] = true) => idxI_at hkl hall hp
      have htk : p l[k] = false → (l.take (k + 1)).all (fun g => !p g) = true := fun hp => by
        rw [List.take_succ_eq_append_getElem hkl, List.all_append, hall]
        simp [hp]
      obtain ⟨r, hr⟩ : ∃ r, r = p l[k] := ⟨_, rfl⟩
      obtain ⟨g0, hg0⟩ : ∃ r, r = l[k] := ⟨_, rfl⟩
      rw [← hr] at hcall hat htk
      rw [← hg0] at q0 hcall
      have HC := hide hcall
      have HA := hide hat
      have HT := hide htk
      clear hr hg0 hcall hat htk hcl hcc hF
      cases r with
      | true =>
        go_wp2_with fail
        refine (HC.out _ hbel).mono ?_
        rintro e w2 ⟨rfl, hb2⟩
        have hbel2 : Below w.heap.size w w2 := hbel.trans (hb2.mono hbel.size)
        go_wp2_with fail
        go_ret
        exact ⟨by rw [HA.out (by first | rfl | trivial)]; rfl, hbel2⟩
      | false =>
        go_wp2_with fail
        refine (HC.out _ hbel).mono ?_
        rintro e w2 ⟨rfl, hb2⟩
        have hbel2 : Below w.heap.size w w2 := hbel.trans (hb2.mono hbel.size)
        go_wp2_with fail
        exact ⟨⟨k + 1, by omega, by go_num, HT.out (by first | rfl | trivial), hbel2⟩, by simp [intOf]; omega⟩
    · have hke : k = l.length := by omega
      rw [hke, List.take_length] at hall
      have hx := idxI_none hall
      clear hall hcc hF
      go_wp2_with fail
      go_ret
      exact ⟨by rw [hx]; rfl, hbel⟩

set_option maxHeartbeats 400000 in
theorem containsInt_any (F : FuncId) (cv : Value) (p : Int → Bool) (v : Value) (l : List Int) (w : World) (hv : IsInts w v l) (hn : l.length ≤ 6)
    (hF : Hid (∀ (i : Nat) (h : i < l.length) (w1 : World), Below w.heap.size w w1 → Calls Try.prog F #[.int .i64 l[i], cv] w1 fun e w2 => e = .returned (.bool (p l[i])) ∧ Below w1.heap.size w1 w2))
    (hC : ∀ (args : Array Value) (w : World), (callFunc F args).run Try.prog w = .ok (.enter F args) w) :
    Calls Try.prog 19 #[v, .func (.func F) #[] #[cv]] w fun e w' => e = .returned (.bool (l.any p)) ∧ Below w.heap.size w w' := by
  have hI := indexInt_any F cv p v l w hv hn hF hC
  have hx := idxI_any p l
  obtain ⟨r, hr⟩ : ∃ r, r = idxI p l := ⟨_, rfl⟩
  rw [← hr] at hI hx
  rw [← hx]
  have HI := hide hI
  clear hI hx hr hv hC hF
  obtain ⟨u, hu⟩ : ∃ u, u = v := ⟨_, rfl⟩
  go_enter Try.func19, Try.ntmps19
  go_wp2_with fail
  refine (HI.out).mono ?_
  rintro e w1 ⟨rfl, hb1⟩
  go_wp2_with fail
  go_ret
  exact ⟨by simp, hb1⟩

theorem call58 (args : Array Value) (w : World) : (callFunc 70 args).run Try.prog w = .ok (.enter 70 args) w := by simp [go_sem]
set_option maxHeartbeats 400000 in
theorem isNone_any (m x : Int) (b : Nat) (w : World) (h0 : w.cell? ⟨b, 0, none⟩ = some (.int .i64 m)) :
    Calls Try.prog 70 #[.int .i64 x, .pointer (some ⟨b, 0, none⟩)] w fun e w' => e = .returned (.bool (!isOne m x)) ∧ Below w.heap.size w w' := by
  by_cases h1 : x < 0
  · have hx : isOne m x = false := by simp [isOne]; omega
    rw [hx]
    clear hx
    go_enter Try.func70, Try.ntmps70
    go_wp2_with fail
    go_ret
    exact ⟨by simp, Below.refl _ w⟩
  · by_cases h2 : m ≤ x
    · have hx : isOne m x = false := by simp [isOne]; omega
      rw [hx]
      clear hx
      go_enter Try.func70, Try.ntmps70
      go_wp2_with fail
      go_ret
      exact ⟨by simp, Below.refl _ w⟩
    · have hx : isOne m x = true := by simp [isOne]; omega
      rw [hx]
      clear hx
      go_enter Try.func70, Try.ntmps70
      go_wp2_with fail
      go_ret
      exact ⟨by simp, Below.refl _ w⟩

set_option maxHeartbeats 1000000 in
theorem rise_any (v : Value) (l : List Int) (w : World) (hv : IsInts w v l) (hn : l.length ≤ 6) :
    Calls Try.prog 71 #[v] w fun e w' => e = .returned (.bool (rises l)) ∧ Below w.heap.size w w' := by
  obtain ⟨ao, cap, rfl, hcc⟩ := hv
  have HCC := hide hcc
  clear hcc
  go_enter Try.func71, Try.ntmps71
  go_wp2_with fail
  go_loopw [3] (fun i wr => ∃ k n : Nat, k ≤ 6 ∧ i = .int .i64 ((k : Int) + 1) ∧ (∀ j (h : j + 1 < l.length), j < k → l[j] < l[j + 1]) ∧ wr = w.drewN n) (fun i _ => 10 - (intOf i).toNat)
  case atStart => exact ⟨0, 0, Nat.zero_le _, rfl, fun j _ h => absurd h (Nat.not_lt_zero _), rfl⟩
  case round =>
    obtain ⟨k, n, hk, rfl, hall, rfl⟩ := hrel
    by_cases hkl : k + 1 < l.length
    · obtain ⟨b, off, rfl, hcl⟩ := HCC.out (by rintro rfl; simp at hkl)
      have q0 := hcl k (by omega)
      have q1 := hcl (k + 1) hkl
      have hnext : l[k] < l[k + 1] → ∀ j (h : j + 1 < l.length), j < k + 1 → l[j] < l[j + 1] := fun h j hj hjk => by
        by_cases e : j = k
        · subst e; exact h
        · exact hall j hj (by omega)
      have hstop : ¬ l[k] < l[k + 1] → rises l = false := fun h => by
        rw [Bool.eq_false_iff]
        intro hh
        exact h ((rises_iff l).1 hh k hkl)
      obtain ⟨x, hx⟩ : ∃ x, x = l[k] := ⟨_, rfl⟩
      obtain ⟨y, hy⟩ : ∃ y, y = l[k + 1] := ⟨_, rfl⟩
      rw [← hx] at q0
      rw [← hy] at q1
      rw [← hx, ← hy] at hnext hstop
      have HN := hide hnext
      have HS := hide hstop
      have k1 : ((k : Int) + 1) < (l.length : Int) := by omega
      have a1 : (0 : Int) ≤ (k : Int) + 1 := by omega
      have a2 : (0 : Int) ≤ (k : Int) := by omega
      have a3 : (k : Int) < (l.length : Int) := by omega
      have q1' : w.cell? ⟨b, off + (k + 1), none⟩ = some (.int .i64 y) := q1
      clear hnext hstop hx hy hcl hall HCC q1
      by_cases hxy : y ≤ x
      · go_wp2_with fail
        go_region
        go_wp2_with fail
        go_ret
        exact ⟨by rw [HS.out (by omega)]; rfl, below_drewN (Below.refl _ w) (n + 1)⟩
      · go_wp2_with fail
        go_region
        go_wp2_with fail
        exact ⟨⟨k + 1, n + 1, by omega, by go_num, HN.out (by omega), by first | rfl | trivial⟩, by simp [intOf]; omega⟩
    · have hr : rises l = true := (rises_iff l).2 fun j hj => hall j hj (by omega)
      have HR := hide hr
      have k1 : ¬ ((k : Int) + 1) < (l.length : Int) := by omega
      clear hr hall HCC
      go_wp2_with fail
      go_ret
      exact ⟨by rw [HR.out]; rfl, below_drewN (Below.refl _ w) n⟩

set_option maxHeartbeats 2000000 in
theorem checkPolicy_any (m : Int) (s : Value) (p : Pol) (nv : Value) (w : World) (hp : IsInts w nv p.names) :
    Calls Try.prog 69 #[.agg #[.int .i64 m, s], .agg #[.int .i64 p.owner, nv]] w fun e w' => e = .returned (.int .i64 (polErr m p)) ∧ Below w.heap.size w w' := by
  obtain ⟨ow, names⟩ := p
  have hE : polErr m ⟨ow, names⟩ = if isOne m ow = true then (if names.length ≤ 6 then (if (names.any fun x => !isOne m x) = true then 5 else (if rises names = true then 0 else 4)) else 2) else 5 := by
    unfold polErr
    have : names.all (isOne m) = !(names.any fun x => !isOne m x) := by rw [List.any_eq_not_all_not]; simp
    simp only [this]
    cases (names.any fun x => !isOne m x) <;> simp
  simp only at hp ⊢
  have hbel : Below w.heap.size w ((w.alloc (.cells #[.int .i64 m, s] 24)).alloc (.cells #[.int .i64 ow, nv] 122)) := ((Below.refl _ w).alloc (Nat.le_refl _) _).alloc (by simp) _
  have HP := hide fun (W : World) (hb : Below w.heap.size w W) => isInts_over hp hb
  have hN := fun (W : World) (h : W.cell? ⟨w.heap.size, 0, none⟩ = some (.int .i64 m)) => isNone_any m ow w.heap.size W h
  have hK := fun (W : World) (hn : names.length ≤ 6) (hB : Below w.heap.size w W) (h : W.cell? ⟨w.heap.size, 0, none⟩ = some (.int .i64 m)) => containsInt_any 70 (.pointer (some ⟨w.heap.size, 0, none⟩)) (fun x => !isOne m x) nv names W (isInts_over hp hB) hn (hide fun i hi w1 hb => isNone_any m names[i] w.heap.size w1 (by rw [(bcell hb).1 _ _ (World.block_lt_of_cell? W _ h)]; exact h)) call58
  have hR := fun (W : World) (hn : names.length ≤ 6) (hB : Below w.heap.size w W) => rise_any nv names W (isInts_over hp hB) hn
  obtain ⟨r1, hr1⟩ : ∃ r, r = isOne m ow := ⟨_, rfl⟩
  obtain ⟨r2, hr2⟩ : ∃ r, r = names.any fun x => !isOne m x := ⟨_, rfl⟩
  obtain ⟨r3, hr3⟩ : ∃ r, r = rises names := ⟨_, rfl⟩
  rw [← hr1, ← hr2, ← hr3] at hE
  rw [← hr1] at hN
  rw [← hr2] at hK
  rw [← hr3] at hR
  have KN := hide hN
  have KK := hide hK
  have KR := hide hR
  have HE := hide hE
  obtain ⟨ao, cap, rfl, -⟩ := hp
  clear hN hK hR hE hr1 hr2 hr3
  cases r1 with
  | false =>
    go_enter Try.func69, Try.ntmps69
    go_wp2_with fail
    refine (KN.out _ (by simp [go_sem])).mono ?_
    rintro e w1 ⟨rfl, hb1⟩
    have hbel1 : Below w.heap.size w w1 := hbel.trans (hb1.mono (by simp; omega))
    go_wp2_with fail
    go_ret
    exact ⟨by rw [HE.out]; rfl, hbel1⟩
  | true =>
    go_enter Try.func69, Try.ntmps69
    go_wp2_with fail
    refine (KN.out _ (by simp [go_sem])).mono ?_
    rintro e w1 ⟨rfl, hb1⟩
    obtain ⟨hc, hf⟩ := bcell hb1
    have c0 : w1.cell? ⟨w.heap.size, 0, none⟩ = some (.int .i64 m) := by rw [hc _ _ (by simp; omega)]; simp [go_sem]
    have c1 : w1.cell? ⟨w.heap.size + 1, 1, none⟩ = some (.slice ao names.length cap) := by rw [hc _ _ (by simp)]; simp [go_sem]
    have hbel1 : Below w.heap.size w w1 := hbel.trans (hb1.mono (by simp; omega))
    clear hc hf hb1 hbel KN
    by_cases hn : names.length ≤ 6
    · go_wp2_with fail
      refine (KK.out _ hn hbel1 c0).mono ?_
      rintro e w2 ⟨rfl, hb2⟩
      have hbel2 : Below w.heap.size w w2 := hbel1.trans (hb2.mono hbel1.size)
      have d1 : w2.cell? ⟨w.heap.size + 1, 1, none⟩ = some (.slice ao names.length cap) := by rw [(bcell hb2).1 _ _ (World.block_lt_of_cell? w1 _ c1)]; exact c1
      clear c0 c1 KK
      cases r2 with
      | true =>
        go_wp2_with fail
        go_ret
        exact ⟨by rw [HE.out]; simp [hn], hbel2⟩
      | false =>
        go_wp2_with fail
        refine (KR.out _ hn hbel2).mono ?_
        rintro e w3 ⟨rfl, hb3⟩
        have hbel3 : Below w.heap.size w w3 := hbel2.trans (hb3.mono hbel2.size)
        clear d1 KR
        cases r3
        all_goals go_wp2_with fail
        all_goals go_ret
        all_goals exact ⟨by rw [HE.out]; simp [hn], hbel3⟩
    · go_wp2_with fail
      go_ret
      exact ⟨by rw [HE.out]; simp [hn], hbel1⟩

/-- the policies from one on, in memory. -/
theorem isPols_at {w : World} {v : Value} {ps : List Pol} (h : IsPols w v ps) {i : Nat} (hi : i < ps.length) : ∃ b off cap nv, v = .slice (some ⟨b, off, none⟩) ps.length cap ∧ w.cell? ⟨b, off + i * 2, none⟩ = some (.int .i64 ps[i].owner) ∧ w.cell? ⟨b, off + i * 2 + 1, none⟩ = some nv ∧ IsInts w nv ps[i].names := by
  obtain ⟨ao, cap, rfl, hc⟩ := h
  obtain ⟨b, off, rfl, hcl⟩ := hc (by rintro rfl; simp at hi)
  obtain ⟨h1, nv, h2, h3⟩ := hcl i hi
  exact ⟨b, off, cap, nv, rfl, h1, h2, h3⟩

set_option maxHeartbeats 2000000 in
theorem labPolicies_any (m : Int) (s vp : Value) (ps : List Pol) (w : World) (hp : IsPols w vp ps) :
    Calls Try.prog 65 #[.agg #[.int .i64 m, s], vp] w fun e w' => e = .returned (.int .i64 (polsErr m ps)) ∧ Below w.heap.size w w' := by
  have HP := hide hp
  obtain ⟨ao, cap, rfl, -⟩ := hp
  have hbel : Below w.heap.size w (w.alloc (.cells #[.int .i64 m, s] 24)) := (Below.refl _ w).alloc (Nat.le_refl _) _
  have hE : polsErr m ps = if ps.length ≤ 4 then firstErr m ps else 2 := rfl
  have KP := hide fun (p : Pol) (nv : Value) (W : World) (h : IsInts W nv p.names) => checkPolicy_any m s p nv W h
  by_cases hn : ps.length ≤ 4
  · rw [if_pos hn] at hE
    have HE := hide hE
    clear hE
    go_enter Try.func65, Try.ntmps65
    go_wp2_with fail
    go_loopw [13] (fun i wr => ∃ k : Nat, k ≤ ps.length ∧ i = .int .i64 k ∧ firstErr m ps = firstErr m (ps.drop k) ∧ Below w.heap.size w wr ∧ wr.cell? ⟨w.heap.size, 0, none⟩ = some (.int .i64 m) ∧ wr.cell? ⟨w.heap.size, 1, none⟩ = some s) (fun i _ => ps.length - (intOf i).toNat)
    case atStart => exact ⟨0, Nat.zero_le _, rfl, rfl, hbel, by simp [go_sem], by simp [go_sem]⟩
    case round =>
      obtain ⟨k, hk, rfl, hfe, hbw, c0, c1⟩ := hrel
      by_cases hkl : k < ps.length
      · obtain ⟨b, off, cap', nv, hve, q0, q1, q2⟩ := isPols_at (isPols_over HP.out hbw) hkl
        injection hve with e1 e2 e3
        subst e1 e3
        clear e2
        have hfd := firstErr_drop (m := m) hkl
        rw [← hfe] at hfd
        have ltb := World.block_lt_of_cell? wr _ q0
        have ltw := World.block_lt_of_cell? wr _ c0
        have hal : Below wr.heap.size wr (wr.alloc (.cells #[.int .i64 ps[k].owner, nv] 122)) := (Below.refl _ wr).alloc (Nat.le_refl _) _
        have hcall := KP.out ps[k] nv (wr.alloc (.cells #[.int .i64 ps[k].owner, nv] 122)) (isInts_over q2 hal)
        obtain ⟨r, hr⟩ : ∃ r, r = polErr m ps[k] := ⟨_, rfl⟩
        obtain ⟨ow, how⟩ : ∃ r, r = ps[k].owner := ⟨_, rfl⟩
        rw [← hr] at hfd hcall
        rw [← how] at q0 hal hcall
        obtain ⟨nl, nc, nlen, hnv⟩ : ∃ a c n, nv = .slice a n c := by obtain ⟨a, c, e, _⟩ := q2; exact ⟨a, c, _, e⟩
        subst hnv
        have HC := hide hcall
        have HF := hide hfd
        have hbw2 := hbw.trans (hal.mono hbw.size)
        clear hr how hcall hfd q2 hfe
        by_cases hr0 : r = 0
        · subst hr0
          go_wp2_with fail
          refine (HC.out).mono ?_
          rintro e w2 ⟨rfl, hb2⟩
          have hb3 := hbw2.trans (hb2.mono hbw2.size)
          have ltw' : w.heap.size < (wr.alloc (.cells #[.int .i64 ow, .slice nl nlen nc] 122)).heap.size := by simp; exact Nat.lt_succ_of_lt ltw
          have d0 : w2.cell? ⟨w.heap.size, 0, none⟩ = some (.int .i64 m) := by rw [(bcell hb2).1 _ _ ltw', (bcell hal).1 _ _ ltw]; exact c0
          have d1 : w2.cell? ⟨w.heap.size, 1, none⟩ = some s := by rw [(bcell hb2).1 _ _ ltw', (bcell hal).1 _ _ ltw]; exact c1
          clear hbw2 hb2 hal q0 q1 c0 c1 HC
          go_wp2_with fail
          exact ⟨⟨k + 1, by omega, by go_num, by rw [HF.out]; simp, hb3, d0, d1⟩, by simp [intOf]; omega⟩
        · have hne : (r != 0) = true := by simpa using hr0
          go_wp2_with fail
          refine (HC.out).mono ?_
          rintro e w2 ⟨rfl, hb2⟩
          have hb3 := hbw2.trans (hb2.mono hbw2.size)
          clear hbw2 hb2 hal q0 q1 c0 c1 HC
          go_wp2_with fail
          go_ret
          exact ⟨by rw [HE.out, HF.out]; simp [hr0], hb3⟩
      · have hke : k = ps.length := by omega
        have hz : firstErr m ps = 0 := by rw [hfe, hke, List.drop_length]; rfl
        have HZ := hide hz
        clear hz hfe c0 c1
        go_wp2_with fail
        go_ret
        exact ⟨by rw [HE.out, HZ.out]; rfl, hbw⟩
  · rw [if_neg hn] at hE
    have HE := hide hE
    clear hE
    go_enter Try.func65, Try.ntmps65
    go_wp2_with fail
    go_ret
    exact ⟨by rw [HE.out]; rfl, hbel⟩
end Go.Proofs.Ytpbnmmgocpobcaa
