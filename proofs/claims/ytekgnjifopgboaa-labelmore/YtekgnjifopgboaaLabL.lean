/- Package label: those who may, levels that are right, one list within another. -/
import Derived.Test.YtekgnjifopgboaaLabC
namespace Go.Proofs.Ytekgnjifopgboaa
open Go.RowKit
set_option linter.unusedVariables false

theorem take_set_succ {α : Type} (l : List α) (k : Nat) (x : α) (h : k < l.length) : (l.set k x).take (k + 1) = l.take k ++ [x] := by
  rw [List.take_succ_eq_append_getElem (by simpa using h)]
  simp only [List.take_set, List.getElem_set_self]
  rw [List.set_eq_of_length_le (by simp; omega)]

/-- a list of its own that is filled up to a place. -/
def Filled (f : Nat → Bool) (g n k : Nat) (W : World) : Prop := ∃ cur : List Value, cur.length = n ∧ cur.take k = boolCells (rowOf f k) ∧ W.heap[g]? = some (.cells cur.toArray 4 (0, 0))

theorem filled_over {f : Nat → Bool} {g n k : Nat} {W W' : World} (h : Filled f g n k W) (hb : Below W.heap.size W W') : Filled f g n k W' := by
  obtain ⟨cur, h1, h2, h3⟩ := h
  exact ⟨cur, h1, h2, by rw [hb.block g (Array.getElem?_eq_some_iff.1 h3).1]; exact h3⟩

theorem filled_set {f : Nat → Bool} {g n k : Nat} {W : World} (h : Filled f g n k W) (hk : k < n) : Filled f g n (k + 1) (W.setCell ⟨g, k, none⟩ (.bool (f k))) := by
  obtain ⟨cur, h1, h2, h3⟩ := h
  refine ⟨cur.set k (.bool (f k)), by simpa using h1, ?_, ?_⟩
  · rw [take_set_succ _ _ _ (by omega), h2, rowOf_succ]
    simp [boolCells]
  · have := heap_setCell_same W g k _ 4 (.bool (f k)) h3
    simpa using this

theorem filled_cell {f : Nat → Bool} {g n k j : Nat} {W : World} (h : Filled f g n k W) (hj : j < n) : (∃ u, W.cell? ⟨g, j, none⟩ = some u) ∧ W.frozen? ⟨g, j, none⟩ = false := by
  obtain ⟨cur, h1, h2, h3⟩ := h
  refine ⟨⟨cur[j]'(by omega), ?_⟩, ?_⟩
  · simp [World.cell?, h3, h1, hj]
  · simp [World.frozen?, h3]

theorem filled_own {f : Nat → Bool} {g n B : Nat} {W : World} (h : Filled f g n n W) (hn : n ≤ 6) (hg : B ≤ g) : W.ownsRow B 4 1 (.slice (some ⟨g, 0, none⟩) n n) n (boolCells (rowOf f n)) := by
  obtain ⟨cur, h1, h2, h3⟩ := h
  refine ⟨by simp [boolCells, rowOf_length], Or.inr ⟨g, n, cur.toArray, rfl, hg, h3, Nat.le_refl _, by unfold maxLen; omega, by simp [h1], ?_⟩⟩
  rw [Nat.mul_one]
  exact h2

set_option maxHeartbeats 1000000 in
theorem those_any (F : FuncId) (c1 c2 : Value) (f : Nat → Bool) (n : Nat) (h1 : 1 ≤ n) (hn : n ≤ 6) (s : Value) (w : World)
    (hF : Hid (∀ (k : Nat), k < n → ∀ W : World, Below w.heap.size w W → Calls Try.prog F #[.int .i64 k, c1, c2] W fun e w2 => e = .returned (.bool (f k)) ∧ Below W.heap.size W w2))
    (hC : ∀ (args : Array Value) (w : World), (callFunc F args).run Try.prog w = .ok (.enter F args) w) :
    Calls Try.prog 29 #[.agg #[.int .i64 n, s], .func (.func F) #[] #[c1, c2]] w fun e w' => ∃ g, e = .returned (.slice (some ⟨g, 0, none⟩) n n) ∧ w.heap.size ≤ g ∧ g < w'.heap.size ∧ w'.ownsRow w.heap.size 4 1 (.slice (some ⟨g, 0, none⟩) n n) n (boolCells (rowOf f n)) ∧ Below w.heap.size w w' := by
  have hmk := fun w => make35 n hn w
  have hst : Filled f (w.heap.size + 1) n 0 ((w.alloc (.cells #[.int .i64 n, s] 24)).alloc (.cells (List.replicate n (Value.bool false)).toArray 4)) := by
    refine ⟨List.replicate n (.bool false), by simp, by simp [rowOf, boolCells], ?_⟩
    have := heap_alloc_new (w.alloc (.cells #[.int .i64 n, s] 24)) (.cells (List.replicate n (Value.bool false)).toArray 4)
    simpa using this
  have hbel : Below w.heap.size w ((w.alloc (.cells #[.int .i64 n, s] 24)).alloc (.cells (List.replicate n (Value.bool false)).toArray 4)) := ((Below.refl _ w).alloc (Nat.le_refl _) _).alloc (by simp) _
  have HST := hide hst
  have HB := hide hbel
  clear hst hbel
  go_enter Try.func29, Try.ntmps29
  go_wp2_with fail
  go_loopw [12] (fun i wr => ∃ k : Nat, k ≤ n ∧ i = .int .i64 k ∧ Filled f (w.heap.size + 1) n k wr ∧ Below w.heap.size w wr) (fun i _ => n - (intOf i).toNat)
  case atStart => exact ⟨0, Nat.zero_le _, rfl, by simpa using HST.out, by simpa using HB.out⟩
  case round =>
    clear HST HB hmk
    obtain ⟨k, hk, rfl, hfil, hbw⟩ := hrel
    by_cases hkn : k < n
    · have HC := hide (hF.out k hkn _ hbw)
      go_wp2_with fail
      refine (HC.out).mono ?_
      rintro e w2 ⟨rfl, hb2⟩
      have hf2 := filled_over hfil hb2
      have hb3 := hbw.trans (hb2.mono hbw.size)
      obtain ⟨⟨u, d1⟩, d2⟩ := filled_cell hf2 hkn
      have hf3 := filled_set hf2 hkn
      have hb4 := hb3.setCell (p := ⟨w.heap.size + 1, k, none⟩) (by simp) (.bool (f k))
      have HF3 := hide hf3
      have HB4 := hide hb4
      clear hfil hf2 hb2 hb3 hf3 hb4 HC hbw
      go_wp2_with fail
      exact ⟨⟨k + 1, by omega, by go_num, HF3.out, HB4.out⟩, by simp [intOf]; omega⟩
    · have hke : k = n := by omega
      subst hke
      have hlt : w.heap.size + 1 < wr.heap.size := by obtain ⟨cur, _, _, h3⟩ := hfil; exact (Array.getElem?_eq_some_iff.1 h3).1
      have HO := hide (filled_own hfil hn (B := w.heap.size) (by omega))
      clear hfil hF
      go_wp2_with fail
      go_ret
      exact ⟨w.heap.size + 1, rfl, by omega, hlt, HO.out, hbw⟩

/-- a slice that holds levels. -/
def IsLevs (w : World) (v : Value) (ls : List Lev) : Prop :=
  ∃ ao cap, v = .slice ao ls.length cap ∧ (ls ≠ [] → ∃ b off, ao = some ⟨b, off, none⟩ ∧ ∀ i (h : i < ls.length), ∃ rv wv, w.cell? ⟨b, off + i * 2, none⟩ = some rv ∧ w.cell? ⟨b, off + i * 2 + 1, none⟩ = some wv ∧ LevAt w (.agg #[rv, wv]) ls[i])

theorem isLevs_over {w w' : World} {v : Value} {ls : List Lev} (h : IsLevs w v ls) (hb : Below w.heap.size w w') : IsLevs w' v ls := by
  obtain ⟨ao, cap, rfl, hc⟩ := h
  refine ⟨ao, cap, rfl, fun hne => ?_⟩
  obtain ⟨b, off, rfl, hcl⟩ := hc hne
  refine ⟨b, off, rfl, fun i hi => ?_⟩
  obtain ⟨rv, wv, h1, h2, h3⟩ := hcl i hi
  exact ⟨rv, wv, by rw [(bcell hb).1 _ _ (World.block_lt_of_cell? w _ h1)]; exact h1, by rw [(bcell hb).1 _ _ (World.block_lt_of_cell? w _ h2)]; exact h2, levAt_over h3 hb⟩

theorem isLevs_at {w : World} {v : Value} {ls : List Lev} (h : IsLevs w v ls) {i : Nat} (hi : i < ls.length) : ∃ b off cap rv wv, v = .slice (some ⟨b, off, none⟩) ls.length cap ∧ w.cell? ⟨b, off + i * 2, none⟩ = some rv ∧ w.cell? ⟨b, off + i * 2 + 1, none⟩ = some wv ∧ LevAt w (.agg #[rv, wv]) ls[i] := by
  obtain ⟨ao, cap, rfl, hc⟩ := h
  obtain ⟨b, off, rfl, hcl⟩ := hc (by rintro rfl; simp at hi)
  obtain ⟨rv, wv, h1, h2, h3⟩ := hcl i hi
  exact ⟨b, off, cap, rv, wv, rfl, h1, h2, h3⟩

/-- the first level that is none. -/
def firstLev (m : Int) : List Lev → Int
  | [] => 0
  | l :: ls => if levErr m l = 0 then firstLev m ls else levErr m l
theorem firstLev_drop {m : Int} {ls : List Lev} {k : Nat} (hk : k < ls.length) : firstLev m (ls.drop k) = if levErr m ls[k] = 0 then firstLev m (ls.drop (k + 1)) else levErr m ls[k] := by
  rw [List.drop_eq_getElem_cons hk]
  rfl
def allErr (m : Int) (gs : List (Int × Int)) (ls : List Lev) : Int := if chkErr m gs = 0 then firstLev m ls else chkErr m gs

theorem levErr_cases (m : Int) (l : Lev) : (levErr m l = 0 ∧ ((l.r.length : Int) = m ∧ (l.w.length : Int) = m)) ∨ (levErr m l = 1 ∧ ((l.r.length : Int) ≠ m ∨ ((l.r.length : Int) = m ∧ (l.w.length : Int) ≠ m))) := by
  unfold levErr
  by_cases h : (l.r.length : Int) = m ∧ (l.w.length : Int) = m
  · exact Or.inl ⟨if_pos h, h⟩
  · refine Or.inr ⟨if_neg h, ?_⟩
    by_cases h1 : (l.r.length : Int) = m
    · exact Or.inr ⟨h1, fun h2 => h ⟨h1, h2⟩⟩
    · exact Or.inl h1

set_option maxHeartbeats 2000000 in
theorem allRight_any (m : Int) (v vs : Value) (gs : List (Int × Int)) (ls : List Lev) (w : World) (hv : IsGrants w v gs) (hl : IsLevs w vs ls) (hn : ls.length ≤ 2) :
    Calls Try.prog 42 #[.agg #[.int .i64 m, v], vs] w fun e w' => e = .returned (.int .i64 (allErr m gs ls)) ∧ Below w.heap.size w w' := by
  have hbel : Below w.heap.size w (w.alloc (.cells #[.int .i64 m, v] 24)) := (Below.refl _ w).alloc (Nat.le_refl _) _
  have hC := check_any m v gs (w.alloc (.cells #[.int .i64 m, v] 24)) (isGrants_over hv hbel)
  have hE : allErr m gs ls = if chkErr m gs = 0 then firstLev m ls else chkErr m gs := rfl
  have HL := hide hl
  obtain ⟨ao, cap, rfl, -⟩ := hl
  obtain ⟨r, hr⟩ : ∃ r, r = chkErr m gs := ⟨_, rfl⟩
  rw [← hr] at hC hE
  obtain ⟨va, vn, vc, rfl⟩ := grants_form hv
  have HC := hide hC
  have HE := hide hE
  clear hC hE hr hv
  go_enter Try.func42, Try.ntmps42
  go_wp2_with fail
  refine (HC.out).mono ?_
  rintro e w1 ⟨rfl, hb1⟩
  have c0 : w1.cell? ⟨w.heap.size, 0, none⟩ = some (.int .i64 m) := by rw [(bcell hb1).1 _ _ (by simp)]; simp [go_sem]
  have hB1 : Below w.heap.size w w1 := hbel.trans (hb1.mono (by simp))
  clear HC hb1 hbel
  by_cases hr0 : r = 0
  · subst hr0
    go_wp2_with fail
    go_loopw [15] (fun i wr => ∃ k : Nat, k ≤ ls.length ∧ i = .int .i64 k ∧ firstLev m ls = firstLev m (ls.drop k) ∧ Below w.heap.size w wr ∧ wr.cell? ⟨w.heap.size, 0, none⟩ = some (.int .i64 m)) (fun i _ => ls.length - (intOf i).toNat)
    case atStart => exact ⟨0, Nat.zero_le _, rfl, rfl, hB1, c0⟩
    case round =>
      clear hB1 c0
      obtain ⟨k, hk, rfl, hfe, hbw, c0⟩ := hrel
      by_cases hkl : k < ls.length
      · obtain ⟨b, off, cap', rv, wv, hve, q0, q1, q2⟩ := isLevs_at (isLevs_over HL.out hbw) hkl
        injection hve with e1 e2 e3
        subst e1 e3
        clear e2
        have hfd := firstLev_drop (m := m) hkl
        rw [← hfe] at hfd
        have hlc := levErr_cases m ls[k]
        obtain ⟨x, y, hxy, ⟨a1, k1, e1, -⟩, ⟨a2, k2, e2, -⟩⟩ := q2
        obtain ⟨rfl, rfl⟩ : rv = x ∧ wv = y := by simpa using hxy
        subst e1 e2
        obtain ⟨n1, hn1⟩ : ∃ r, r = ls[k].r.length := ⟨_, rfl⟩
        obtain ⟨n2, hn2⟩ : ∃ r, r = ls[k].w.length := ⟨_, rfl⟩
        rw [← hn1, ← hn2] at hlc
        rw [← hn1] at q0
        rw [← hn2] at q1
        have ltw := World.block_lt_of_cell? wr _ c0
        have hal : Below wr.heap.size wr (wr.alloc (.cells #[.slice a1 n1 k1, .slice a2 n2 k2] 30)) := (Below.refl _ wr).alloc (Nat.le_refl _) _
        have hbw2 := hbw.trans (hal.mono hbw.size)
        have d0 : (wr.alloc (.cells #[.slice a1 n1 k1, .slice a2 n2 k2] 30)).cell? ⟨w.heap.size, 0, none⟩ = some (.int .i64 m) := by rw [(bcell hal).1 _ _ ltw]; exact c0
        have D0 := hide d0
        clear hxy hn1 hn2 hfe d0 hal hbw
        rcases hlc with ⟨hz, h1, h2⟩ | ⟨hz, h1 | ⟨h1, h2⟩⟩
        · rw [hz] at hfd
          have HF := hide hfd
          have b1 : ((n1 : Int) != m) = false := by simp [h1]
          have b2 : ((n2 : Int) != m) = false := by simp [h2]
          clear hz hfd h1 h2
          go_wp2_with fail
          exact ⟨⟨k + 1, by omega, by go_num, by rw [HF.out]; simp, hbw2, D0.out⟩, by simp [intOf]; omega⟩
        · rw [hz] at hfd
          have HF := hide hfd
          have b1 : ((n1 : Int) != m) = true := by simpa using h1
          clear hz hfd h1
          go_wp2_with fail
          go_ret
          exact ⟨by rw [HE.out, HF.out]; simp, hbw2⟩
        · rw [hz] at hfd
          have HF := hide hfd
          have b1 : ((n1 : Int) != m) = false := by simp [h1]
          have b2 : ((n2 : Int) != m) = true := by simpa using h2
          clear hz hfd h1 h2
          go_wp2_with fail
          go_ret
          exact ⟨by rw [HE.out, HF.out]; simp, hbw2⟩
      · have hke : k = ls.length := by omega
        have hz : firstLev m ls = 0 := by rw [hfe, hke, List.drop_length]; rfl
        have HZ := hide hz
        clear hz hfe c0
        go_wp2_with fail
        go_ret
        exact ⟨by rw [HE.out, HZ.out]; simp, hbw⟩
  · have hne : (r != 0) = true := by simpa using hr0
    go_wp2_with fail
    go_ret
    exact ⟨by rw [HE.out]; simp [hr0], hB1⟩

/-- is each one of a list one of another list? -/
def withinB (a b : List Bool) (n : Nat) : Bool := (List.range n).all fun i => !((a[i]?.getD false) && !(b[i]?.getD false))

theorem within_flows (l m : Lev) (n : Nat) : (withinB m.r l.r n && withinB l.w m.w n) = flowsB l m n := by
  rw [Bool.eq_iff_iff, flowsB_iff]
  simp only [withinB, Bool.and_eq_true, List.all_eq_true, List.mem_range]
  constructor
  · rintro ⟨h1, h2⟩ i hi
    have a := h1 i hi
    have b := h2 i hi
    revert a b
    cases m.r[i]?.getD false <;> cases l.r[i]?.getD false <;> cases l.w[i]?.getD false <;> cases m.w[i]?.getD false <;> simp
  · intro h
    refine ⟨fun i hi => ?_, fun i hi => ?_⟩ <;> have a := h i hi <;> revert a <;> cases m.r[i]?.getD false <;> cases l.r[i]?.getD false <;> cases l.w[i]?.getD false <;> cases m.w[i]?.getD false <;> simp

set_option maxHeartbeats 1000000 in
theorem within_any (va vb : Value) (a b : List Bool) (n : Nat) (w : World) (h0 : 1 ≤ n) (hn : n ≤ 6) (ha : IsBools w va a) (hb : IsBools w vb b) (hla : a.length = n) (hlb : b.length = n) :
    Calls Try.prog 43 #[va, vb] w fun e w' => e = .returned (.bool (withinB a b n)) ∧ Below w.heap.size w w' := by
  obtain ⟨b1, o1, c1, rfl, q1⟩ := isBools_pos ha hla h0
  obtain ⟨b2, o2, c2, rfl, q2⟩ := isBools_pos hb hlb h0
  have Q1 := hide q1
  have Q2 := hide q2
  clear q1 q2 ha hb hla hlb
  go_enter Try.func43, Try.ntmps43
  go_wp2_with fail
  go_loop [9] (fun i => ∃ k : Nat, k ≤ n ∧ i = .int .i64 k ∧ (List.range k).all (fun i => !((a[i]?.getD false) && !(b[i]?.getD false))) = true) (fun i => n - (intOf i).toNat)
  case atStart => exact ⟨0, Nat.zero_le _, rfl, rfl⟩
  case round =>
    obtain ⟨k, hk, rfl, hall⟩ := hrel
    by_cases hkn : k < n
    · have q1 := Q1.out k hkn
      have q2 := Q2.out k hkn
      have hnext : (!((a[k]?.getD false) && !(b[k]?.getD false))) = true → (List.range (k + 1)).all (fun i => !((a[i]?.getD false) && !(b[i]?.getD false))) = true := fun h => by
        rw [List.range_succ, List.all_append, hall]
        simpa using h
      have hstop : (!((a[k]?.getD false) && !(b[k]?.getD false))) = false → withinB a b n = false := fun h => by
        unfold withinB
        rw [List.all_eq_false]
        exact ⟨k, List.mem_range.2 hkn, by simpa using h⟩
      generalize a[k]?.getD false = x at q1 hnext hstop
      generalize b[k]?.getD false = y at q2 hnext hstop
      have HN := hide hnext
      have HS := hide hstop
      clear hnext hstop hall
      cases x <;> cases y
      all_goals go_wp2_with fail
      all_goals first
        | exact ⟨⟨k + 1, by omega, by go_num, HN.out (by first | rfl | trivial)⟩, by simp [intOf]; omega⟩
        | (go_ret; exact ⟨by rw [HS.out (by first | rfl | trivial)]; rfl, Below.refl _ w⟩)
    · have hke : k = n := by omega
      have hf : withinB a b n = true := by unfold withinB; rw [← hke]; exact hall
      have HF := hide hf
      clear hf hall
      go_wp2_with fail
      go_ret
      exact ⟨by rw [HF.out]; rfl, Below.refl _ w⟩
end Go.Proofs.Ytekgnjifopgboaa
