/- run.Run, whatever it is handed. -/
import Derived.Test.YtcbbjjenkommeaaM23
import Derived.Laws.EntriesVeiled
namespace Go.Proofs.Ytcbbjjenkommeaa.Ex
open Go.RowKit
set_option linter.unusedVariables false
/-- a run in memory. -/
structure RunAt (B : Nat) (vn yn F : Nat) (r : RSt) (ev : Value) (b1 b2 : Nat) (w : World) : Prop where
  own : w.ownsRow B 71 4 ev r.ev.length (evCells r.ev)
  vars : RowAt (intsV r.vars) w b1
  taken : RowAt (intsV r.taken) w b2
  num : NumOk vn yn F r
theorem RunAt.over {B vn yn F : Nat} {r : RSt} {ev : Value} {b1 b2 : Nat} {w w' : World} (h : RunAt B vn yn F r ev b1 b2 w) (hb : Below w.heap.size w w') : RunAt B vn yn F r ev b1 b2 w' :=
  ⟨own_overG h.own hb, h.vars.over hb, h.taken.over hb, h.num⟩
theorem RunAt.other {B vn yn F : Nat} {r : RSt} {ev : Value} {b1 b2 : Nat} {w : World} (h : RunAt B vn yn F r ev b1 b2 w) {b : Nat} (h1 : b1 ≠ b) (h2 : b2 ≠ b) (h3 : ev.ownBlock ≠ some b) (j : Nat) (v : Value) : RunAt B vn yn F r ev b1 b2 (w.setCell ⟨b, j, none⟩ v) :=
  ⟨h.own.kept grow_set1 (Or.inr h3), h.vars.other h1, h.taken.other h2, h.num⟩
theorem evCells_get : ∀ (l : List Ev4) (i : Nat) (h : i < l.length), (evCells l)[i * 4]? = some (.int .i64 l[i].1) ∧ (evCells l)[i * 4 + 1]? = some (.int .i64 l[i].2.1) ∧ (evCells l)[i * 4 + 2]? = some (.int .i64 l[i].2.2.1) ∧ (evCells l)[i * 4 + 3]? = some (.int .i64 l[i].2.2.2)
  | [], i, h => by simp at h
  | e :: r, 0, h => ⟨rfl, rfl, rfl, rfl⟩
  | e :: r, i + 1, h => by
    have := evCells_get r i (by simpa using h)
    rw [Nat.succ_mul]
    simpa [evCells] using this

/-- events in memory. -/
def EvAt (w : World) (v : Value) (l : List Ev4) : Prop := ∃ ao cap, v = .slice ao l.length cap ∧ l.length ≤ cap ∧ cap ≤ maxLen ∧ (l ≠ [] → ∃ b, ao = some ⟨b, 0, none⟩ ∧ RowAt (evCells l) w b)
theorem EvAt.over {w w' : World} {v : Value} {l : List Ev4} (h : EvAt w v l) (hb : Below w.heap.size w w') : EvAt w' v l := by
  obtain ⟨ao, cap, hv, hc, hm, hr⟩ := h
  exact ⟨ao, cap, hv, hc, hm, fun hne => by obtain ⟨b, h1, h2⟩ := hr hne; exact ⟨b, h1, h2.over hb⟩⟩
theorem EvAt.of_own {w : World} {B : Nat} {v : Value} {l : List Ev4} (h : w.ownsRow B 71 4 v l.length (evCells l)) : EvAt w v l := by
  rcases h.2 with ⟨h1, h2⟩ | ⟨g, cap, cur, hv, hb, hg, h1, h2, h3, h4⟩
  · exact ⟨none, 0, by rw [h1, h2], by omega, by unfold maxLen; omega, fun hne => absurd (List.length_eq_zero_iff.1 h2) hne⟩
  · refine ⟨_, cap, hv, h1, h2, fun _ => ⟨g, rfl, fun j u hu => ?_⟩⟩
    have := h.cells (g := g) (by rw [hv]; rfl) j u hu
    rwa [Addr.add_lit, Nat.zero_add] at this
set_option maxHeartbeats 2000000 in
set_option maxRecDepth 100000 in
theorem sameEvents_eq (l : List Ev4) (va vb : Value) (w : World) (ha : EvAt w va l) (hb : EvAt w vb l) (hl : l.length ≤ 9223372036854775807) :
    Calls Try.prog 35 #[va, vb] w fun e w' => e = .returned (.bool true) ∧ Below w.heap.size w w' := by
  obtain ⟨ao, ac, rfl, -, -, hac⟩ := ha
  obtain ⟨bo, bc, rfl, -, -, hbc⟩ := hb
  have HA := hide hac
  have HB := hide hbc
  clear hac hbc
  go_enter Try.func35, Try.ntmps35
  go_wp2_with fail
  go_loopw [5] (fun i wr => ∃ j : Nat, j ≤ l.length ∧ i = .int .i64 j ∧ Below w.heap.size w wr) (fun i _ => l.length - (intOf i).toNat)
  case atStart => exact ⟨0, Nat.zero_le _, rfl, Below.refl _ _⟩
  case round =>
    obtain ⟨j, hj, rfl, hBr⟩ := hrel
    by_cases hjl : j < l.length
    · obtain ⟨b, rfl, hel⟩ := HA.out (by intro hz; rw [hz] at hjl; simp at hjl)
      obtain ⟨b', rfl, hel'⟩ := HB.out (by intro hz; rw [hz] at hjl; simp at hjl)
      obtain ⟨g0, g1, g2, g3⟩ := evCells_get l j hjl
      have q0 := cell_over hBr _ _ (hel _ _ g0)
      have q1 := cell_over hBr _ _ (hel _ _ g1)
      have q2 := cell_over hBr _ _ (hel _ _ g2)
      have q3 := cell_over hBr _ _ (hel _ _ g3)
      have r0 := cell_over hBr _ _ (hel' _ _ g0)
      have r1 := cell_over hBr _ _ (hel' _ _ g1)
      have r2 := cell_over hBr _ _ (hel' _ _ g2)
      have r3 := cell_over hBr _ _ (hel' _ _ g3)
      have hji : (j : Int) < (l.length : Int) := by omega
      obtain ⟨x0, hx0⟩ : ∃ x, x = l[j].1 := ⟨_, rfl⟩
      obtain ⟨x1, hx1⟩ : ∃ x, x = l[j].2.1 := ⟨_, rfl⟩
      obtain ⟨x2, hx2⟩ : ∃ x, x = l[j].2.2.1 := ⟨_, rfl⟩
      obtain ⟨x3, hx3⟩ : ∃ x, x = l[j].2.2.2 := ⟨_, rfl⟩
      rw [← hx0] at q0 r0
      rw [← hx1] at q1 r1
      rw [← hx2] at q2 r2
      rw [← hx3] at q3 r3
      obtain ⟨n0, hn0⟩ : ∃ q, q = l.length := ⟨_, rfl⟩
      rw [← hn0] at hji ⊢
      have HN0 := hide hn0
      clear hel hel' hx0 hx1 hx2 hx3 hn0 g0 g1 g2 g3
      go_wp2_with fail
      go_quiet ((fail))
      go_wp2_with fail
      have hn0 := HN0.out
      subst hn0
      exact ⟨⟨j + 1, by omega, by go_num, below_drewN hBr _⟩, by simp [intOf]; omega⟩
    · go_wp2_with fail
      go_ret
      exact ⟨rfl, hBr⟩
/-- events, wherever they lie. -/
def EvL (w : World) (v : Value) (l : List Ev4) : Prop :=
  l.length ≤ maxLen ∧ ∃ ao cap, v = .slice ao l.length cap ∧ (l ≠ [] → ∃ b off, ao = some ⟨b, off, none⟩ ∧ ∀ i (h : i < l.length), w.cell? ⟨b, off + i * 4, none⟩ = some (.int .i64 l[i].1) ∧ w.cell? ⟨b, off + i * 4 + 1, none⟩ = some (.int .i64 l[i].2.1) ∧ w.cell? ⟨b, off + i * 4 + 2, none⟩ = some (.int .i64 l[i].2.2.1) ∧ w.cell? ⟨b, off + i * 4 + 3, none⟩ = some (.int .i64 l[i].2.2.2))
theorem EvL.over {w w' : World} {v : Value} {l : List Ev4} (h : EvL w v l) (hb : Below w.heap.size w w') : EvL w' v l := by
  obtain ⟨hm, ao, cap, hv, hc⟩ := h
  refine ⟨hm, ao, cap, hv, fun hne => ?_⟩
  obtain ⟨b, off, hao, hel⟩ := hc hne
  refine ⟨b, off, hao, fun i hi => ?_⟩
  obtain ⟨h0, h1, h2, h3⟩ := hel i hi
  exact ⟨cell_over hb _ _ h0, cell_over hb _ _ h1, cell_over hb _ _ h2, cell_over hb _ _ h3⟩
theorem EvAt.evL {w : World} {v : Value} {l : List Ev4} (h : EvAt w v l) : EvL w v l := by
  obtain ⟨ao, cap, hv, h1, h2, hc⟩ := h
  refine ⟨Nat.le_trans h1 h2, ao, cap, hv, fun hne => ?_⟩
  obtain ⟨b, hao, hr⟩ := hc hne
  refine ⟨b, 0, hao, fun i hi => ?_⟩
  obtain ⟨e0, e1, e2, e3⟩ := evCells_get l i hi
  refine ⟨?_, ?_, ?_, ?_⟩
  · simpa using hr _ _ e0
  · simpa using hr _ _ e1
  · simpa using hr _ _ e2
  · simpa using hr _ _ e3
/-- what says something of an event. -/
def SaysOk (F : FuncId) (cap : List Value) (p : Ev4 → Bool) (w : World) : Prop :=
  ∀ (e4 : Ev4) (W : World), Below w.heap.size w W → Calls Try.prog F (.agg #[.int .i64 e4.1, .int .i64 e4.2.1, .int .i64 e4.2.2.1, .int .i64 e4.2.2.2] :: cap).toArray W fun e w' => e = .returned (.bool (p e4)) ∧ Below W.heap.size W w'

set_option maxHeartbeats 2000000 in
theorem indexEv_any (F : FuncId) (cap : List Value) (p : Ev4 → Bool) (l : List Ev4) (v : Value) (w : World) (h : EvL w v l) (hF : Hid (SaysOk F cap p w)) (hC : ∀ (args : Array Value) (w : World), (callFunc F args).run Try.prog w = .ok (.enter F args) w) :
    Calls Try.prog 149 #[v, .func (.func F) #[] cap.toArray] w fun e w' => ∃ r : Int, e = .returned (.int .i64 r) ∧ decide (0 ≤ r) = l.any p ∧ Below w.heap.size w w' := by
  obtain ⟨hm, ao, vcap, rfl, hcc⟩ := h
  have hm2 : l.length ≤ 9223372036854775807 := hm
  have HCC := hide hcc
  clear hcc hm
  go_enter Try.func149, Try.ntmps149
  go_wp2_with fail
  go_loopw [8] (fun i wr => ∃ k : Nat, k ≤ l.length ∧ i = .int .i64 k ∧ (l.take k).any p = false ∧ Below w.heap.size w wr) (fun i _ => l.length - (intOf i).toNat)
  case atStart => exact ⟨0, Nat.zero_le _, rfl, rfl, Below.refl _ _⟩
  case round =>
    obtain ⟨k, hk, rfl, hall, hB⟩ := hrel
    have HA := hide hall
    have HB := hide hB
    clear hall
    by_cases hkl : k < l.length
    · obtain ⟨b, off, rfl, hcl⟩ := HCC.out (by rintro rfl; simp at hkl)
      obtain ⟨c0, c1, c2, c3⟩ := hcl k hkl
      have q0 := cell_over hB _ _ c0
      have q1 := cell_over hB _ _ c1
      have q2 := cell_over hB _ _ c2
      have q3 := cell_over hB _ _ c3
      have hst : p l[k] = true → l.any p = true := fun h => by rw [List.any_eq_true]; exact ⟨l[k], List.getElem_mem hkl, h⟩
      have hnx : p l[k] = false → (l.take (k + 1)).any p = false := fun h => by rw [List.take_succ_eq_append_getElem hkl, List.any_append, HA.out]; simp [h]
      have hcall := hF.out l[k] wr hB
      obtain ⟨r, hr⟩ : ∃ r, r = p l[k] := ⟨_, rfl⟩
      rw [← hr] at hcall hst hnx
      obtain ⟨e4, he4⟩ : ∃ q, q = l[k] := ⟨_, rfl⟩
      rw [← he4] at hcall q0 q1 q2 q3
      obtain ⟨x0, x1, x2, x3⟩ := e4
      dsimp only at hcall q0 q1 q2 q3
      have HCALL := hide hcall
      have HST := hide hst
      have HNX := hide hnx
      clear hcall hst hnx hr hcl HA hF he4 c0 c1 c2 c3 hB
      cases r with
      | false =>
        go_wp2_with fail
        refine (HCALL.out).mono ?_
        rintro e w2 ⟨rfl, hb2⟩
        have HB2 := hide (HB.out.trans (hb2.mono HB.out.size))
        clear hb2
        go_wp2_with fail
        exact ⟨⟨k + 1, by omega, by go_num, HNX.out (by first | rfl | trivial), HB2.out⟩, by simp [intOf]; omega⟩
      | true =>
        go_wp2_with fail
        refine (HCALL.out).mono ?_
        rintro e w2 ⟨rfl, hb2⟩
        have HB2 := hide (HB.out.trans (hb2.mono HB.out.size))
        clear hb2
        go_wp2_with fail
        go_ret
        refine ⟨(k : Int), by first | rfl | trivial, ?_, HB2.out⟩
        rw [HST.out (by first | rfl | trivial)]
        simp
    · have ha := HA.out
      rw [List.take_of_length_le (by omega)] at ha
      have HD := hide ha
      clear ha HA hF hB
      go_wp2_with fail
      go_ret
      refine ⟨-1, by first | rfl | trivial, ?_, HB.out⟩
      rw [HD.out]
      rfl

set_option maxHeartbeats 1000000 in
theorem containsEv_any (F : FuncId) (cap : List Value) (p : Ev4 → Bool) (l : List Ev4) (v : Value) (w : World) (h : EvL w v l) (hF : Hid (SaysOk F cap p w)) (hC : ∀ (args : Array Value) (w : World), (callFunc F args).run Try.prog w = .ok (.enter F args) w) :
    Calls Try.prog 128 #[v, .func (.func F) #[] cap.toArray] w fun e w' => e = .returned (.bool (l.any p)) ∧ Below w.heap.size w w' := by
  have K := hide (indexEv_any F cap p l v w h hF hC)
  obtain ⟨hm, ao, vcap, rfl, hcc⟩ := h
  obtain ⟨q, hq⟩ : ∃ q, q = l.any p := ⟨_, rfl⟩
  rw [← hq] at K ⊢
  clear hcc hq hF
  go_enter Try.func128, Try.ntmps128
  go_wp2_with fail
  refine (K.out).mono ?_
  rintro e w1 ⟨r, rfl, hr, hB⟩
  have HR := hide hr
  clear hr
  go_wp2_with fail
  go_ret
  exact ⟨by rw [← HR.out]; simp, hB⟩

def badKind (e : Ev4) : Bool := decide (e.1 < 1) || decide (3 < e.1)
def ofNone (on vn : Nat) (e : Ev4) : Bool := decide (e.2.2.1 < 0) || decide ((if e.1 = 1 then (on : Int) else (vn : Int)) ≤ e.2.2.1)
/-- what is wrong with events. -/
def evErr (on vn : Nat) (l : List Ev4) : Int := if l.any badKind = true then 7 else if l.any (ofNone on vn) = true then 5 else 0

set_option maxHeartbeats 1000000 in
theorem noKind_any (w : World) : SaysOk 125 [] badKind w := by
  rintro ⟨k, a, c, x⟩ W hB
  have hbel : Below W.heap.size W (W.alloc (.cells #[.int .i64 k, .int .i64 a, .int .i64 c, .int .i64 x] 71)) := (Below.refl _ W).alloc (Nat.le_refl _) _
  unfold badKind
  dsimp only
  show Calls Try.prog 125 #[.agg #[.int .i64 k, .int .i64 a, .int .i64 c, .int .i64 x]] W _
  clear hB
  by_cases h1 : k < 1
  · go_enter Try.func125, Try.ntmps125
    go_wp2_with fail
    go_ret
    exact ⟨by first | (simp; done) | (simp [h1]; done), hbel⟩
  · by_cases h2 : 3 < k
    · go_enter Try.func125, Try.ntmps125
      go_wp2_with fail
      go_ret
      exact ⟨by first | (simp; done) | (simp [h1, h2]; done) | (simp; omega), hbel⟩
    · go_enter Try.func125, Try.ntmps125
      go_wp2_with fail
      go_ret
      exact ⟨by first | (simp; done) | (simp [h1, h2]; done) | (simp; omega), hbel⟩

set_option maxHeartbeats 1000000 in
theorem manyV_any (m : Int) (ga : Option Addr) (gn gc : Nat) (sa : Option Addr) (sn sc : Nat) (ya : Option Addr) (yn yc : Nat) (oa : Option Addr) (on oc : Nat) (va : Option Addr) (vn vc : Nat) (fa : Option Addr) (fn fc : Nat) (ba : Option Addr) (bn bc : Nat) (k : Int) (w : World) : Calls Try.prog 127 #[.agg #[.int .i64 m, .slice ga gn gc, .slice sa sn sc, .slice ya yn yc, .slice oa on oc, .slice va vn vc, .slice fa fn fc, .slice ba bn bc], .int .i64 k] w fun e w' => e = .returned (.int .i64 (if k = 1 then (on : Int) else (vn : Int))) ∧ Below w.heap.size w w' := by
  have hbel : Below w.heap.size w (w.alloc (.cells #[.int .i64 m, .slice ga gn gc, .slice sa sn sc, .slice ya yn yc, .slice oa on oc, .slice va vn vc, .slice fa fn fc, .slice ba bn bc] 41)) := (Below.refl _ w).alloc (Nat.le_refl _) _
  by_cases h1 : k = 1
  · subst h1
    rw [if_pos rfl]
    go_enter Try.func127, Try.ntmps127
    go_wp2_with fail
    go_ret
    exact ⟨rfl, hbel⟩
  · rw [if_neg h1]
    have hb : (k == 1) = false := by simpa using h1
    go_enter Try.func127, Try.ntmps127
    go_wp2_with fail
    go_ret
    exact ⟨rfl, hbel⟩
set_option maxHeartbeats 2000000 in
set_option maxRecDepth 100000 in
theorem noneOf_any (m : Int) (ga : Option Addr) (gn gc : Nat) (sa : Option Addr) (sn sc : Nat) (ya : Option Addr) (yn yc : Nat) (oa : Option Addr) (on oc : Nat) (va : Option Addr) (vn vc : Nat) (fa : Option Addr) (fn fc : Nat) (ba : Option Addr) (bn bc : Nat) (bp : Nat) (w : World) (hp : RowAt [.int .i64 m, .slice ga gn gc, .slice sa sn sc, .slice ya yn yc, .slice oa on oc, .slice va vn vc, .slice fa fn fc, .slice ba bn bc] w bp) : SaysOk 126 [.pointer (some ⟨bp, 0, none⟩)] (ofNone on vn) w := by
  rintro ⟨k, a, c, x⟩ W hB
  have hbel : Below W.heap.size W (W.alloc (.cells #[.int .i64 k, .int .i64 a, .int .i64 c, .int .i64 x] 71)) := (Below.refl _ W).alloc (Nat.le_refl _) _
  have hbd : Below W.heap.size W (W.alloc (.cells #[.int .i64 k, .int .i64 a, .int .i64 c, .int .i64 x] 71)).drew := below_drewN hbel 1
  have hrow := RowAt.newA #[.int .i64 k, .int .i64 a, .int .i64 c, .int .i64 x] 71 W
  have hp2 := (hp.over hB).over hbel
  have KM := hide (manyV_any m ga gn gc sa sn sc ya yn yc oa on oc va vn vc fa fn fc ba bn bc k (W.alloc (.cells #[.int .i64 k, .int .i64 a, .int .i64 c, .int .i64 x] 71)).drew)
  unfold ofNone
  dsimp only
  show Calls Try.prog 126 #[.agg #[.int .i64 k, .int .i64 a, .int .i64 c, .int .i64 x], .pointer (some ⟨bp, 0, none⟩)] W _
  have e0 := hrow 0 _ rfl
  have e1 := hrow 1 _ rfl
  have e2 := hrow 2 _ rfl
  have e3 := hrow 3 _ rfl
  have p0 := hp2 0 _ rfl
  have p1 := hp2 1 _ rfl
  have p2 := hp2 2 _ rfl
  have p3 := hp2 3 _ rfl
  have p4 := hp2 4 _ rfl
  have p5 := hp2 5 _ rfl
  have p6 := hp2 6 _ rfl
  have p7 := hp2 7 _ rfl
  have HBD := hide hbd
  obtain ⟨N, hN⟩ : ∃ q : Int, q = (if k = 1 then (on : Int) else (vn : Int)) := ⟨_, rfl⟩
  rw [← hN] at KM ⊢
  clear hB hp hp2 hrow hN hbel hbd
  by_cases h1 : c < 0
  · have hd : decide (c < 0) = true := by simp [h1]
    have hq : (decide (c < 0) || decide (N ≤ c)) = true := by simp [h1]
    rw [hq]
    clear hq KM
    go_enter Try.func126, Try.ntmps126
    go_wp2_with fail
    refine wp_region_held_drew (S := fun Wz => Wz.cell? ⟨W.heap.size, 0, none⟩ = some (.int .i64 k) ∧ Wz.cell? ⟨W.heap.size, 1, none⟩ = some (.int .i64 a) ∧ Wz.cell? ⟨W.heap.size, 2, none⟩ = some (.int .i64 c) ∧ Wz.cell? ⟨W.heap.size, 3, none⟩ = some (.int .i64 x) ∧ Wz.cell? ⟨bp, 0, none⟩ = some (.int .i64 m) ∧ Wz.cell? ⟨bp, 1, none⟩ = some (.slice ga gn gc) ∧ Wz.cell? ⟨bp, 2, none⟩ = some (.slice sa sn sc) ∧ Wz.cell? ⟨bp, 3, none⟩ = some (.slice ya yn yc) ∧ Wz.cell? ⟨bp, 4, none⟩ = some (.slice oa on oc) ∧ Wz.cell? ⟨bp, 5, none⟩ = some (.slice va vn vc) ∧ Wz.cell? ⟨bp, 6, none⟩ = some (.slice fa fn fc) ∧ Wz.cell? ⟨bp, 7, none⟩ = some (.slice ba bn bc)) (by kernel_rfl) (⟨e0, e1, e2, e3, p0, p1, p2, p3, p4, p5, p6, p7⟩) (fun hHeld => ?_)
    refine tk (i := 0) (oi := ⟨some 4, .fieldAddr 71 (.tmp 2) 2, 0, "view.go:79", #[], none⟩) (v := ?_) (Or.inl ⟨by rfl, ?_⟩) (by assumption) ?_
    rotate_left
    · intro w' hSw
      (try dsimp only at hSw)
      go_simp
      try with_reducible rfl
    try simp only [aput]
    refine tk (i := 1) (oi := ⟨some 5, .load 3 (.tmp 4), 3, "view.go:79", #[⟨0, .data⟩], none⟩) (v := ?_) (Or.inl ⟨by rfl, ?_⟩) (by assumption) ?_
    rotate_left
    · intro w' hSw
      (try dsimp only at hSw)
      go_simp
      try with_reducible rfl
    try simp only [aput]
    refine tk (i := 2) (oi := ⟨some 6, .binOp .lss 3 (.tmp 5) (.const (Go.Value.int Go.IntKind.i64 0)) 3, 4, "view.go:79", #[⟨1, .data⟩], none⟩) (v := ?_) (Or.inl ⟨by rfl, ?_⟩) (by assumption) ?_
    rotate_left
    · intro w' hSw
      (try dsimp only at hSw)
      go_simp
      try with_reducible rfl
    try simp only [aput]
    refine tk (i := 3) (oi := ⟨some 7, .move (.tmp 6), 4, "view.go:79", #[⟨2, .data⟩], none⟩) (v := ?_) (Or.inl ⟨by rfl, ?_⟩) (by assumption) ?_
    rotate_left
    · intro w' hSw
      (try dsimp only at hSw)
      go_simp
      try with_reducible rfl
    try simp only [aput]
    refine tk (i := 4) (oi := ⟨some 8, .fieldAddr 71 (.tmp 2) 2, 0, "view.go:79", #[⟨3, .guard⟩], some (3, false)⟩) (v := undef) (Or.inr ⟨by rfl, rfl⟩) (by assumption) ?_
    try simp only [aput]
    refine tk (i := 5) (oi := ⟨some 9, .load 3 (.tmp 8), 3, "view.go:79", #[⟨4, .data⟩, ⟨3, .guard⟩], some (3, false)⟩) (v := undef) (Or.inr ⟨by rfl, rfl⟩) (by assumption) ?_
    try simp only [aput]
    refine tk (i := 6) (oi := ⟨some 10, .load 41 (.tmp 1), 41, "view.go:79", #[⟨3, .guard⟩], some (3, false)⟩) (v := undef) (Or.inr ⟨by rfl, rfl⟩) (by assumption) ?_
    try simp only [aput]
    refine tk (i := 7) (oi := ⟨some 11, .fieldAddr 71 (.tmp 2) 0, 0, "view.go:79", #[⟨3, .guard⟩], some (3, false)⟩) (v := undef) (Or.inr ⟨by rfl, rfl⟩) (by assumption) ?_
    try simp only [aput]
    refine tk (i := 8) (oi := ⟨some 12, .load 3 (.tmp 11), 3, "view.go:79", #[⟨7, .data⟩, ⟨3, .guard⟩], some (3, false)⟩) (v := undef) (Or.inr ⟨by rfl, rfl⟩) (by assumption) ?_
    try simp only [aput]
    refine tk (i := 9) (oi := { dst := some 13, op := Go.Op.call { callee := Go.Callee.value (Go.Operand.func 127), args := #[Go.Operand.tmp 10, Go.Operand.tmp 12], argTypes := #[41, 3] }, type := 3, pos := "view.go:79", after := #[⟨6, .data⟩, ⟨8, .data⟩, ⟨3, .chain⟩, ⟨3, .guard⟩], guard := some (3, false) }) (v := undef) (Or.inr ⟨by rfl, rfl⟩) (by assumption) ?_
    try simp only [aput]
    refine tk (i := 10) (oi := ⟨some 14, .binOp .geq 3 (.tmp 9) (.tmp 13) 3, 4, "view.go:79", #[⟨5, .data⟩, ⟨9, .data⟩, ⟨3, .guard⟩], some (3, false)⟩) (v := undef) (Or.inr ⟨by rfl, rfl⟩) (by assumption) ?_
    try simp only [aput]
    refine tk (i := 11) (oi := ⟨some 15, .pick (.tmp 7) (.const (Go.Value.bool true)) (.tmp 14), 4, "view.go:79", #[⟨3, .data⟩, ⟨10, .data⟩], none⟩) (v := ?_) (Or.inl ⟨by rfl, ?_⟩) (by assumption) ?_
    rotate_left
    · intro w' hSw
      (try dsimp only at hSw)
      go_simp
      try with_reducible rfl
    try simp only [aput]
    refine tk (i := 12) (oi := ⟨some 3, .assign (.tmp 15), 4, "view.go:79", #[⟨11, .data⟩, ⟨9, .chain⟩, ⟨0, .phase⟩, ⟨1, .phase⟩, ⟨2, .phase⟩, ⟨3, .phase⟩, ⟨4, .phase⟩, ⟨5, .phase⟩, ⟨6, .phase⟩, ⟨7, .phase⟩, ⟨8, .phase⟩, ⟨9, .phase⟩, ⟨10, .phase⟩, ⟨11, .phase⟩], none⟩) (v := ?_) (Or.inl ⟨by rfl, ?_⟩) (by assumption) ?_
    rotate_left
    · intro w' hSw
      (try dsimp only at hSw)
      go_simp
      try with_reducible rfl
    try simp only [aput]
    refine wpAnyH_done (by kernel_rfl) ?_ _
    go_wp2_with fail
    go_ret
    exact ⟨rfl, HBD.out⟩
  · have hd : decide (c < 0) = false := by simp [h1]
    have hq : (decide (c < 0) || decide (N ≤ c)) = decide (N ≤ c) := by simp [h1]
    rw [hq]
    obtain ⟨r, hr⟩ : ∃ r, r = decide (N ≤ c) := ⟨_, rfl⟩
    rw [← hr]
    have HR := hide hr
    clear hq hr
    go_enter Try.func126, Try.ntmps126
    go_wp2_with fail
    refine wp_region_held_drew (S := fun Wz => Wz.cell? ⟨W.heap.size, 0, none⟩ = some (.int .i64 k) ∧ Wz.cell? ⟨W.heap.size, 1, none⟩ = some (.int .i64 a) ∧ Wz.cell? ⟨W.heap.size, 2, none⟩ = some (.int .i64 c) ∧ Wz.cell? ⟨W.heap.size, 3, none⟩ = some (.int .i64 x) ∧ Wz.cell? ⟨bp, 0, none⟩ = some (.int .i64 m) ∧ Wz.cell? ⟨bp, 1, none⟩ = some (.slice ga gn gc) ∧ Wz.cell? ⟨bp, 2, none⟩ = some (.slice sa sn sc) ∧ Wz.cell? ⟨bp, 3, none⟩ = some (.slice ya yn yc) ∧ Wz.cell? ⟨bp, 4, none⟩ = some (.slice oa on oc) ∧ Wz.cell? ⟨bp, 5, none⟩ = some (.slice va vn vc) ∧ Wz.cell? ⟨bp, 6, none⟩ = some (.slice fa fn fc) ∧ Wz.cell? ⟨bp, 7, none⟩ = some (.slice ba bn bc)) (by kernel_rfl) (⟨e0, e1, e2, e3, p0, p1, p2, p3, p4, p5, p6, p7⟩) (fun hHeld => ?_)
    refine tk (i := 0) (oi := ⟨some 4, .fieldAddr 71 (.tmp 2) 2, 0, "view.go:79", #[], none⟩) (v := ?_) (Or.inl ⟨by rfl, ?_⟩) (by assumption) ?_
    rotate_left
    · intro w' hSw
      (try dsimp only at hSw)
      go_simp
      try with_reducible rfl
    try simp only [aput]
    refine tk (i := 1) (oi := ⟨some 5, .load 3 (.tmp 4), 3, "view.go:79", #[⟨0, .data⟩], none⟩) (v := ?_) (Or.inl ⟨by rfl, ?_⟩) (by assumption) ?_
    rotate_left
    · intro w' hSw
      (try dsimp only at hSw)
      go_simp
      try with_reducible rfl
    try simp only [aput]
    refine tk (i := 2) (oi := ⟨some 6, .binOp .lss 3 (.tmp 5) (.const (Go.Value.int Go.IntKind.i64 0)) 3, 4, "view.go:79", #[⟨1, .data⟩], none⟩) (v := ?_) (Or.inl ⟨by rfl, ?_⟩) (by assumption) ?_
    rotate_left
    · intro w' hSw
      (try dsimp only at hSw)
      go_simp
      try with_reducible rfl
    try simp only [aput]
    refine tk (i := 3) (oi := ⟨some 7, .move (.tmp 6), 4, "view.go:79", #[⟨2, .data⟩], none⟩) (v := ?_) (Or.inl ⟨by rfl, ?_⟩) (by assumption) ?_
    rotate_left
    · intro w' hSw
      (try dsimp only at hSw)
      go_simp
      try with_reducible rfl
    try simp only [aput]
    refine tk (i := 4) (oi := ⟨some 8, .fieldAddr 71 (.tmp 2) 2, 0, "view.go:79", #[⟨3, .guard⟩], some (3, false)⟩) (v := ?_) (Or.inl ⟨by rfl, ?_⟩) (by assumption) ?_
    rotate_left
    · intro w' hSw
      (try dsimp only at hSw)
      go_simp
      try with_reducible rfl
    try simp only [aput]
    refine tk (i := 5) (oi := ⟨some 9, .load 3 (.tmp 8), 3, "view.go:79", #[⟨4, .data⟩, ⟨3, .guard⟩], some (3, false)⟩) (v := ?_) (Or.inl ⟨by rfl, ?_⟩) (by assumption) ?_
    rotate_left
    · intro w' hSw
      (try dsimp only at hSw)
      go_simp
      try with_reducible rfl
    try simp only [aput]
    refine tk (i := 6) (oi := ⟨some 10, .load 41 (.tmp 1), 41, "view.go:79", #[⟨3, .guard⟩], some (3, false)⟩) (v := ?_) (Or.inl ⟨by rfl, ?_⟩) (by assumption) ?_
    rotate_left
    · intro w' hSw
      (try dsimp only at hSw)
      go_simp
      try with_reducible rfl
    try simp only [aput]
    refine tk (i := 7) (oi := ⟨some 11, .fieldAddr 71 (.tmp 2) 0, 0, "view.go:79", #[⟨3, .guard⟩], some (3, false)⟩) (v := ?_) (Or.inl ⟨by rfl, ?_⟩) (by assumption) ?_
    rotate_left
    · intro w' hSw
      (try dsimp only at hSw)
      go_simp
      try with_reducible rfl
    try simp only [aput]
    refine tk (i := 8) (oi := ⟨some 12, .load 3 (.tmp 11), 3, "view.go:79", #[⟨7, .data⟩, ⟨3, .guard⟩], some (3, false)⟩) (v := ?_) (Or.inl ⟨by rfl, ?_⟩) (by assumption) ?_
    rotate_left
    · intro w' hSw
      (try dsimp only at hSw)
      go_simp
      try with_reducible rfl
    try simp only [aput]
    refine wpAnyH_ready (rs := [9]) (by kernel_rfl) (by simp) ?_
    refine AllReadyH.cons (o := { dst := some 13, op := Go.Op.call { callee := Go.Callee.value (Go.Operand.func 127), args := #[Go.Operand.tmp 10, Go.Operand.tmp 12], argTypes := #[41, 3] }, type := 3, pos := "view.go:79", after := #[⟨6, .data⟩, ⟨8, .data⟩, ⟨3, .chain⟩, ⟨3, .guard⟩], guard := some (3, false) }) rfl (fun K hK => ?_) AllReadyH.nil
    go_simp
    refine (KM.out).mono ?_
    rintro e W2 ⟨rfl, hb0⟩
    have hb : Below (W.alloc (.cells #[.int .i64 k, .int .i64 a, .int .i64 c, .int .i64 x] 71)).heap.size (W.alloc (.cells #[.int .i64 k, .int .i64 a, .int .i64 c, .int .i64 x] 71)) W2 := ((Below.refl _ _).drew).trans hb0
    have HB2 := hide (HBD.out.trans (hb0.mono HBD.out.size))
    clear hb0
    go_simp
    refine hK.out _ _ (⟨cell_over hb _ _ e0, cell_over hb _ _ e1, cell_over hb _ _ e2, cell_over hb _ _ e3, cell_over hb _ _ p0, cell_over hb _ _ p1, cell_over hb _ _ p2, cell_over hb _ _ p3, cell_over hb _ _ p4, cell_over hb _ _ p5, cell_over hb _ _ p6, cell_over hb _ _ p7⟩) (fun hHeld => ?_)
    clear hK K
    try simp only [aput]
    refine tk (i := 10) (oi := ⟨some 14, .binOp .geq 3 (.tmp 9) (.tmp 13) 3, 4, "view.go:79", #[⟨5, .data⟩, ⟨9, .data⟩, ⟨3, .guard⟩], some (3, false)⟩) (v := ?_) (Or.inl ⟨by rfl, ?_⟩) (by assumption) ?_
    rotate_left
    · intro w' hSw
      (try dsimp only at hSw)
      go_simp
      try with_reducible rfl
    try simp only [aput]
    refine tk (i := 11) (oi := ⟨some 15, .pick (.tmp 7) (.const (Go.Value.bool true)) (.tmp 14), 4, "view.go:79", #[⟨3, .data⟩, ⟨10, .data⟩], none⟩) (v := ?_) (Or.inl ⟨by rfl, ?_⟩) (by assumption) ?_
    rotate_left
    · intro w' hSw
      (try dsimp only at hSw)
      go_simp
      try with_reducible rfl
    try simp only [aput]
    refine tk (i := 12) (oi := ⟨some 3, .assign (.tmp 15), 4, "view.go:79", #[⟨11, .data⟩, ⟨9, .chain⟩, ⟨0, .phase⟩, ⟨1, .phase⟩, ⟨2, .phase⟩, ⟨3, .phase⟩, ⟨4, .phase⟩, ⟨5, .phase⟩, ⟨6, .phase⟩, ⟨7, .phase⟩, ⟨8, .phase⟩, ⟨9, .phase⟩, ⟨10, .phase⟩, ⟨11, .phase⟩], none⟩) (v := ?_) (Or.inl ⟨by rfl, ?_⟩) (by assumption) ?_
    rotate_left
    · intro w' hSw
      (try dsimp only at hSw)
      go_simp
      try with_reducible rfl
    try simp only [aput]
    refine wpAnyH_done (by kernel_rfl) ?_ _
    go_wp2_with fail
    go_ret
    exact ⟨by rw [HR.out]; try simp, HB2.out⟩

set_option maxHeartbeats 2000000 in
set_option maxRecDepth 100000 in
theorem checkEvents_any (m : Int) (ga : Option Addr) (gn gc : Nat) (sa : Option Addr) (sn sc : Nat) (ya : Option Addr) (yn yc : Nat) (oa : Option Addr) (on oc : Nat) (va : Option Addr) (vn vc : Nat) (fa : Option Addr) (fn fc : Nat) (ba : Option Addr) (bn bc : Nat) (la : Option Addr) (ln lc : Nat) (l : List Ev4) (w : World) (h : EvL w (.slice la ln lc) l) :
    Calls Try.prog 94 #[.agg #[.int .i64 m, .slice ga gn gc, .slice sa sn sc, .slice ya yn yc, .slice oa on oc, .slice va vn vc, .slice fa fn fc, .slice ba bn bc], .slice la ln lc] w fun e w' => e = .returned (.int .i64 (evErr on vn l)) ∧ Below w.heap.size w w' := by
  have hmf : ∀ (fn : Fn) (first cap : Array Value) (w : World), (Instr.makeFunc fn first cap).run Try.prog w = .ok (.func fn first cap) w := fun _ _ _ _ => rfl
  have hbel : Below w.heap.size w (w.alloc (.cells #[.int .i64 m, .slice ga gn gc, .slice sa sn sc, .slice ya yn yc, .slice oa on oc, .slice va vn vc, .slice fa fn fc, .slice ba bn bc] 41)) := (Below.refl _ w).alloc (Nat.le_refl _) _
  have hrow := RowAt.newA #[.int .i64 m, .slice ga gn gc, .slice sa sn sc, .slice ya yn yc, .slice oa on oc, .slice va vn vc, .slice fa fn fc, .slice ba bn bc] 41 w
  have K1 := hide (containsEv_any 125 [] badKind l (.slice la ln lc) _ (h.over hbel) (hide (noKind_any _)) (fun args w => by simp [go_sem]))
  have K2 := hide fun W (hW : Below (w.alloc (.cells #[.int .i64 m, .slice ga gn gc, .slice sa sn sc, .slice ya yn yc, .slice oa on oc, .slice va vn vc, .slice fa fn fc, .slice ba bn bc] 41)).heap.size (w.alloc (.cells #[.int .i64 m, .slice ga gn gc, .slice sa sn sc, .slice ya yn yc, .slice oa on oc, .slice va vn vc, .slice fa fn fc, .slice ba bn bc] 41)) W) => containsEv_any 126 [.pointer (some ⟨w.heap.size, 0, none⟩)] (ofNone on vn) l (.slice la ln lc) W ((h.over hbel).over hW) (hide (noneOf_any m ga gn gc sa sn sc ya yn yc oa on oc va vn vc fa fn fc ba bn bc w.heap.size W (hrow.over hW))) (fun args w => by simp [go_sem])
  unfold evErr
  obtain ⟨q1, hq1⟩ : ∃ q, q = l.any badKind := ⟨_, rfl⟩
  obtain ⟨q2, hq2⟩ : ∃ q, q = l.any (ofNone on vn) := ⟨_, rfl⟩
  rw [← hq1] at K1 ⊢
  rw [← hq2] at K2 ⊢
  have HB := hide hbel
  clear h hrow hq1 hq2 hbel
  change Hid (Calls Try.prog 128 #[.slice la ln lc, .func (.func 125) #[] #[]] _ _) at K1
  cases q1 with
  | true =>
    go_enter Try.func94, Try.ntmps94
    go_wp2_with fail
    refine (K1.out).mono ?_
    rintro e w1 ⟨rfl, hb1⟩
    have HB1 := hide (HB.out.trans (hb1.mono HB.out.size))
    clear hb1
    go_wp2_with fail
    go_ret
    exact ⟨by first | rfl | simp, HB1.out⟩
  | false =>
    cases q2 with
    | true =>
      go_enter Try.func94, Try.ntmps94
      go_wp2_with fail
      refine (K1.out).mono ?_
      rintro e w1 ⟨rfl, hb1⟩
      have K2' := hide (K2.out w1 hb1)
      change Hid (Calls Try.prog 128 #[.slice la ln lc, .func (.func 126) #[] #[.pointer (some ⟨w.heap.size, 0, none⟩)]] _ _) at K2'
      have HB1 := hide (HB.out.trans (hb1.mono HB.out.size))
      clear hb1 K1 K2
      go_wp2_with fail
      refine (K2'.out).mono ?_
      rintro e w2 ⟨rfl, hb2⟩
      have HB2 := hide (HB1.out.trans (hb2.mono HB1.out.size))
      clear hb2
      go_wp2_with fail
      go_ret
      exact ⟨by first | rfl | simp, HB2.out⟩
    | false =>
      go_enter Try.func94, Try.ntmps94
      go_wp2_with fail
      refine (K1.out).mono ?_
      rintro e w1 ⟨rfl, hb1⟩
      have K2' := hide (K2.out w1 hb1)
      change Hid (Calls Try.prog 128 #[.slice la ln lc, .func (.func 126) #[] #[.pointer (some ⟨w.heap.size, 0, none⟩)]] _ _) at K2'
      have HB1 := hide (HB.out.trans (hb1.mono HB.out.size))
      clear hb1 K1 K2
      go_wp2_with fail
      refine (K2'.out).mono ?_
      rintro e w2 ⟨rfl, hb2⟩
      have HB2 := hide (HB1.out.trans (hb2.mono HB1.out.size))
      clear hb2
      go_wp2_with fail
      go_ret
      exact ⟨by first | rfl | simp, HB2.out⟩

/-- a program that passes, and one of its actors. -/
def vwErr (X : Prop) (m who : Int) (why : Int) : Prop := why = 0 ↔ (X ∧ 0 ≤ who ∧ who < m)
set_option maxHeartbeats 1000000 in
set_option maxRecDepth 100000 in
theorem viewCheck_any (K kf : Nat) (m : Int) (ga : Option Addr) (gn gc : Nat) (sa : Option Addr) (sn sc : Nat) (ya : Option Addr) (yn yc : Nat) (oa : Option Addr) (on oc : Nat) (va : Option Addr) (vn vc : Nat) (fa : Option Addr) (fn fc : Nat) (ba : Option Addr) (bn bc : Nat) (who : Int) (gs : List (Int × Int)) (sp : List Int) (ls ms : List Lab) (vs : List (Bool × Lab)) (fs : List FnD) (l : List D) (w : World) (h : ProgAt K kf m ga gn gc sa sn sc ya yn yc oa on oc va vn vc fa fn fc ba bn bc gs sp ls ms vs fs l w) :
    Calls Try.prog 91 #[.agg #[.int .i64 m, .slice ga gn gc, .slice sa sn sc, .slice ya yn yc, .slice oa on oc, .slice va vn vc, .slice fa fn fc, .slice ba bn bc], .int .i64 who] w fun e w' => ∃ why : Int, e = .returned (.int .i64 why) ∧ vwErr (Ey.xP K kf m vn yn on sn gs sp ls ms vs fs l) m who why ∧ Below w.heap.size w w' := by
  have hbel : Below w.heap.size w (w.alloc (.cells #[.int .i64 m, .slice ga gn gc, .slice sa sn sc, .slice ya yn yc, .slice oa on oc, .slice va vn vc, .slice fa fn fc, .slice ba bn bc] 41)) := (Below.refl _ w).alloc (Nat.le_refl _) _
  have hrow := RowAt.newA #[.int .i64 m, .slice ga gn gc, .slice sa sn sc, .slice ya yn yc, .slice oa on oc, .slice va vn vc, .slice fa fn fc, .slice ba bn bc] 41 w
  have K1 := hide (Ey.scopeCheck_any K kf m ga gn gc sa sn sc ya yn yc oa on oc va vn vc fa fn fc ba bn bc gs sp ls ms vs fs l _ (h.over hbel))
  have c0 := hrow 0 _ rfl
  have c1 := hrow 1 _ rfl
  have c2 := hrow 2 _ rfl
  have c3 := hrow 3 _ rfl
  have c4 := hrow 4 _ rfl
  have c5 := hrow 5 _ rfl
  have c6 := hrow 6 _ rfl
  have c7 := hrow 7 _ rfl
  have HB := hide hbel
  clear h hrow hbel
  unfold vwErr
  go_enter Try.func91, Try.ntmps91
  go_wp2_with fail
  refine (K1.out).mono ?_
  rintro e w1 ⟨why, rfl, hw, hb1⟩
  have d0 := cell_over hb1 _ _ c0
  have HB1 := hide (HB.out.trans (hb1.mono HB.out.size))
  have HW := hide hw
  clear c0 c1 c2 c3 c4 c5 c6 c7 hb1 hw K1
  by_cases h0 : why = 0
  rotate_left
  · have hb : (why == 0) = false := by simpa using h0
    go_wp2_with fail
    go_ret
    exact ⟨why, rfl, ⟨fun h => absurd h h0, fun h => absurd (HW.out.2 h.1) h0⟩, HB1.out⟩
  subst h0
  by_cases h1 : who < 0
  · go_wp2_with fail
    go_ret
    exact ⟨5, rfl, ⟨fun h => absurd h (by decide), fun h => by omega⟩, HB1.out⟩
  by_cases h2 : who < m
  · have h3 : ¬ m ≤ who := by omega
    go_wp2_with fail
    go_ret
    exact ⟨0, rfl, ⟨fun _ => ⟨HW.out.1 (by first | rfl | trivial), by omega, h2⟩, fun _ => rfl⟩, HB1.out⟩
  · have h3 : m ≤ who := by omega
    go_wp2_with fail
    go_ret
    exact ⟨5, rfl, ⟨fun h => absurd h (by decide), fun h => by omega⟩, HB1.out⟩
/-- does one see an event? -/
def seesE (outs vars : List Bool) (e : Ev4) : Bool := (if e.1 = 1 then outs else vars).getD e.2.2.1.toNat false
def outsB (n : Nat) (touch : Bool) (who : Nat) (gs : List (Int × Int)) (ms : List Lab) : List Bool := ms.map (fun x => hasB touch who (levOf (gnOf gs) n x))
theorem filter_take {p : Ev4 → Bool} {l : List Ev4} {j : Nat} (hj : j < l.length) : (l.take (j + 1)).filter p = (l.take j).filter p ++ (if p l[j] = true then [l[j]] else []) := by
  rw [List.take_succ_eq_append_getElem hj, List.filter_append]
  congr 1
  cases h : p l[j] <;> simp [h]

set_option maxHeartbeats 8000000 in
set_option maxRecDepth 100000 in
/-- the loop, once all is known. -/
theorem eventsLoop (K kf n : Nat) (ga : Option Addr) (gn gc : Nat) (sa : Option Addr) (sn sc : Nat) (ya : Option Addr) (yn yc : Nat) (oa : Option Addr) (on oc : Nat) (va : Option Addr) (vn vc : Nat) (fa : Option Addr) (fn fc : Nat) (ba : Option Addr) (bn bc : Nat) (who : Nat) (touch : Bool) (la : Option Addr) (ln lc : Nat) (evs : List Ev4) (gs : List (Int × Int)) (sp : List Int) (ls ms : List Lab) (vs : List (Bool × Lab)) (fs : List FnD) (l : List D) (w : World) (h : ProgAt K kf (n : Int) ga gn gc sa sn sc ya yn yc oa on oc va vn vc fa fn fc ba bn bc gs sp ls ms vs fs l w) (hE : EvL w (.slice la ln lc) evs) (hlen : evs.length ≤ 100000) (hX : Ey.xP K kf (n : Int) vn yn on sn gs sp ls ms vs fs l) (hwho : who < n) (hev : evErr on vn evs = 0) :
    Calls Try.prog 60 #[.agg #[.int .i64 (n : Int), .slice ga gn gc, .slice sa sn sc, .slice ya yn yc, .slice oa on oc, .slice va vn vc, .slice fa fn fc, .slice ba bn bc], .int .i64 (who : Int), .bool touch, .slice la ln lc] w fun e w' => ∃ st v, e = .returned (.tuple #[v, .int .i64 0]) ∧ Inferred n K kf gs vs ls fs l st ∧ st.vs.length = vn ∧ w'.ownsRow w.heap.size 71 4 v (evs.filter (seesE (outsB n touch who gs ms) (st.vs.map (hasB touch who)))).length (evCells (evs.filter (seesE (outsB n touch who gs ms) (st.vs.map (hasB touch who))))) ∧ Below w.heap.size w w' := by
  have hbel : Below w.heap.size w (w.alloc (.cells #[.int .i64 (n : Int), .slice ga gn gc, .slice sa sn sc, .slice ya yn yc, .slice oa on oc, .slice va vn vc, .slice fa fn fc, .slice ba bn bc] 41)) := (Below.refl _ w).alloc (Nat.le_refl _) _
  have hrow := RowAt.newA #[.int .i64 (n : Int), .slice ga gn gc, .slice sa sn sc, .slice ya yn yc, .slice oa on oc, .slice va vn vc, .slice fa fn fc, .slice ba bn bc] 41 w
  have K1 := hide (viewCheck_any K kf (n : Int) ga gn gc sa sn sc ya yn yc oa on oc va vn vc fa fn fc ba bn bc (who : Int) gs sp ls ms vs fs l _ (h.over hbel))
  have K2 := hide fun W (hW : Below w.heap.size w W) => checkEvents_any (n : Int) ga gn gc sa sn sc ya yn yc oa on oc va vn vc fa fn fc ba bn bc la ln lc evs W (hE.over hW)
  rw [hev] at K2
  have hms : on = ms.length := by obtain ⟨-, a, c, he, -⟩ := h.outs; injection he
  have hlab : ∀ b ∈ ms, lChk (n : Int) gs b = 0 := fun b hb => hX.labs.1 b (List.mem_append_right _ hb)
  have hn6 : n ≤ 6 := by obtain ⟨n', h1, -, h2, -⟩ := chk_ok hX.chk; omega
  have ho5 : on ≤ 5 := hX.ok.outs
  have KC := hide fun W (hW : Below w.heap.size w W) => channels_any n ga gn gc sa sn sc ya yn yc oa on oc va vn vc fa fn fc ba bn bc who touch oa on oc gs ms W (isGrants_over h.grants hW) (h.outs.over hW) hlab hwho hn6 (by omega)
  have KV := hide fun W (hW : Below w.heap.size w W) => vars_any K kf n ga gn gc sa sn sc ya yn yc oa on oc va vn vc fa fn fc ba bn bc who touch gs sp ls ms vs fs l W (h.over hW) hX hwho
  have hnone : ∀ x ∈ evs, ofNone on vn x = false := by
    intro x hx
    unfold evErr at hev
    split at hev
    · omega
    · split at hev
      · omega
      · rename_i h2
        have := List.any_eq_false.1 (by simpa using h2 : evs.any (ofNone on vn) = false) x hx
        simpa using this
  have hlnE : ln = evs.length := by obtain ⟨-, a, c, he, -⟩ := hE; injection he
  have HX := hide hX
  have HE := hide hE
  have HNONE := hide hnone
  have HB0 := hide hbel
  have HR0 := hide hrow
  have HMS := hide hms
  obtain ⟨i0, hi, hz0, hz1, hz2⟩ := info_parts Try.infoE
  obtain ⟨OB, hOB⟩ : ∃ q, q = outsB n touch who gs ms := ⟨_, rfl⟩
  rw [← hOB]
  have hOBl : OB.length = on := by rw [hOB, hms]; simp [outsB]
  have HOB := hide hOB
  have HOBL := hide hOBl
  have a0 := hrow 0 _ rfl
  have a1 := hrow 1 _ rfl
  have a2 := hrow 2 _ rfl
  have a3 := hrow 3 _ rfl
  have a4 := hrow 4 _ rfl
  have a5 := hrow 5 _ rfl
  have a6 := hrow 6 _ rfl
  have a7 := hrow 7 _ rfl
  subst hlnE
  clear h hE hX hev hrow hlab hnone hms hOB hOBl hbel
  go_enter Try.func60, Try.ntmps60
  go_wp2_with fail
  refine (K1.out).mono ?_
  rintro e w1 ⟨why, rfl, hwhy, hb1⟩
  have h0 : why = 0 := hwhy.2 ⟨HX.out, by omega, by omega⟩
  subst h0
  have hB1 := HB0.out.trans (hb1.mono HB0.out.size)
  have K2' := hide (K2.out w1 hB1)
  have hrow1 := HR0.out.over hb1
  have HR1 := hide hrow1
  have HB1 := hide hB1
  have b0 := hrow1 0 _ rfl
  have b1 := hrow1 1 _ rfl
  have b2 := hrow1 2 _ rfl
  have b3 := hrow1 3 _ rfl
  have b4 := hrow1 4 _ rfl
  have b5 := hrow1 5 _ rfl
  have b6 := hrow1 6 _ rfl
  have b7 := hrow1 7 _ rfl
  clear K1 K2 hwhy hb1 hB1 hrow1 a0 a1 a2 a3 a4 a5 a6 a7
  go_wp2_with fail
  refine (K2'.out).mono ?_
  rintro e w2 ⟨rfl, hb2⟩
  have hB2 := HB1.out.trans (hb2.mono HB1.out.size)
  have hrow2 := HR1.out.over hb2
  have hbv : Below w2.heap.size w2 (w2.alloc (.cells #[.int .i64 (n : Int), .slice ga gn gc, .slice sa sn sc, .slice ya yn yc, .slice oa on oc, .slice va vn vc, .slice fa fn fc, .slice ba bn bc, .int .i64 (who : Int), .bool touch] 149)) := (Below.refl _ w2).alloc (Nat.le_refl _) _
  have hrow3 := hrow2.over hbv
  have hview := RowAt.newA #[.int .i64 (n : Int), .slice ga gn gc, .slice sa sn sc, .slice ya yn yc, .slice oa on oc, .slice va vn vc, .slice fa fn fc, .slice ba bn bc, .int .i64 (who : Int), .bool touch] 149 w2
  have HVW := hide hview
  have HR3 := hide hrow3
  have HBV := hide (hB2.trans (hbv.mono hB2.size))
  have c0 := hrow2 0 _ rfl
  have c1 := hrow2 1 _ rfl
  have c2 := hrow2 2 _ rfl
  have c3 := hrow2 3 _ rfl
  have c4 := hrow2 4 _ rfl
  have c5 := hrow2 5 _ rfl
  have c6 := hrow2 6 _ rfl
  have c7 := hrow2 7 _ rfl
  have d0 := hrow3 0 _ rfl
  have d1 := hrow3 1 _ rfl
  have d2 := hrow3 2 _ rfl
  have d3 := hrow3 3 _ rfl
  have d4 := hrow3 4 _ rfl
  have d5 := hrow3 5 _ rfl
  have d6 := hrow3 6 _ rfl
  have d7 := hrow3 7 _ rfl
  have v0 := hview 0 _ rfl
  have v1 := hview 1 _ rfl
  have v2 := hview 2 _ rfl
  have v3 := hview 3 _ rfl
  have v4 := hview 4 _ rfl
  have v5 := hview 5 _ rfl
  have v6 := hview 6 _ rfl
  have v7 := hview 7 _ rfl
  have v8 := hview 8 _ rfl
  have v9 := hview 9 _ rfl
  have hbd : Below (w2.alloc (.cells #[.int .i64 (n : Int), .slice ga gn gc, .slice sa sn sc, .slice ya yn yc, .slice oa on oc, .slice va vn vc, .slice fa fn fc, .slice ba bn bc, .int .i64 (who : Int), .bool touch] 149)).heap.size (w2.alloc (.cells #[.int .i64 (n : Int), .slice ga gn gc, .slice sa sn sc, .slice ya yn yc, .slice oa on oc, .slice va vn vc, .slice fa fn fc, .slice ba bn bc, .int .i64 (who : Int), .bool touch] 149)) (w2.alloc (.cells #[.int .i64 (n : Int), .slice ga gn gc, .slice sa sn sc, .slice ya yn yc, .slice oa on oc, .slice va vn vc, .slice fa fn fc, .slice ba bn bc, .int .i64 (who : Int), .bool touch] 149)).drew := (Below.refl _ _).drew
  have KC' := hide (KC.out (w2.alloc (.cells #[.int .i64 (n : Int), .slice ga gn gc, .slice sa sn sc, .slice ya yn yc, .slice oa on oc, .slice va vn vc, .slice fa fn fc, .slice ba bn bc, .int .i64 (who : Int), .bool touch] 149)).drew (HBV.out.trans (hbd.mono HBV.out.size)))
  have HBD := hide hbd
  clear K2' KC hb2 hB2 hrow2 hrow3 hbv hview hbd b0 b1 b2 b3 b4 b5 b6 b7
  go_wp2_with fail
  clear c0 c1 c2 c3 c4 c5 c6 c7
  refine wp_region_held_drew (S := fun Wz => Wz.cell? ⟨w.heap.size, 0, none⟩ = some (.int .i64 (n : Int)) ∧ Wz.cell? ⟨w.heap.size, 1, none⟩ = some (.slice ga gn gc) ∧ Wz.cell? ⟨w.heap.size, 2, none⟩ = some (.slice sa sn sc) ∧ Wz.cell? ⟨w.heap.size, 3, none⟩ = some (.slice ya yn yc) ∧ Wz.cell? ⟨w.heap.size, 4, none⟩ = some (.slice oa on oc) ∧ Wz.cell? ⟨w.heap.size, 5, none⟩ = some (.slice va vn vc) ∧ Wz.cell? ⟨w.heap.size, 6, none⟩ = some (.slice fa fn fc) ∧ Wz.cell? ⟨w.heap.size, 7, none⟩ = some (.slice ba bn bc) ∧ Wz.cell? ⟨w2.heap.size, 0, none⟩ = some (.int .i64 (n : Int)) ∧ Wz.cell? ⟨w2.heap.size, 1, none⟩ = some (.slice ga gn gc) ∧ Wz.cell? ⟨w2.heap.size, 2, none⟩ = some (.slice sa sn sc) ∧ Wz.cell? ⟨w2.heap.size, 3, none⟩ = some (.slice ya yn yc) ∧ Wz.cell? ⟨w2.heap.size, 4, none⟩ = some (.slice oa on oc) ∧ Wz.cell? ⟨w2.heap.size, 5, none⟩ = some (.slice va vn vc) ∧ Wz.cell? ⟨w2.heap.size, 6, none⟩ = some (.slice fa fn fc) ∧ Wz.cell? ⟨w2.heap.size, 7, none⟩ = some (.slice ba bn bc) ∧ Wz.cell? ⟨w2.heap.size, 8, none⟩ = some (.int .i64 (who : Int)) ∧ Wz.cell? ⟨w2.heap.size, 9, none⟩ = some (.bool touch)) (by kernel_rfl) (⟨d0, d1, d2, d3, d4, d5, d6, d7, v0, v1, v2, v3, v4, v5, v6, v7, v8, v9⟩) (fun hHeld => ?_)
  refine tk (i := 0) (oi := ⟨some 35, .load 149 (.tmp 12), 149, "view.go:37", #[], none⟩) (v := ?_) (Or.inl ⟨by rfl, ?_⟩) (by assumption) ?_
  rotate_left
  · intro w' hSw
    (try dsimp only at hSw)
    go_simp
    try with_reducible rfl
  try simp only [aput]
  refine tk (i := 1) (oi := ⟨some 36, .fieldAddr 41 (.tmp 4) 3, 0, "view.go:37", #[], none⟩) (v := ?_) (Or.inl ⟨by rfl, ?_⟩) (by assumption) ?_
  rotate_left
  · intro w' hSw
    (try dsimp only at hSw)
    go_simp
    try with_reducible rfl
  try simp only [aput]
  refine tk (i := 2) (oi := ⟨some 37, .load 36 (.tmp 36), 36, "view.go:37", #[⟨1, .data⟩], none⟩) (v := ?_) (Or.inl ⟨by rfl, ?_⟩) (by assumption) ?_
  rotate_left
  · intro w' hSw
    (try dsimp only at hSw)
    go_simp
    try with_reducible rfl
  try simp only [aput]
  refine tk (i := 4) (oi := ⟨some 39, .load 149 (.tmp 12), 149, "view.go:37", #[], none⟩) (v := ?_) (Or.inl ⟨by rfl, ?_⟩) (by assumption) ?_
  rotate_left
  · intro w' hSw
    (try dsimp only at hSw)
    go_simp
    try with_reducible rfl
  try simp only [aput]
  refine wpAnyH_ready (rs := [3]) (by kernel_rfl) (by simp) ?_
  refine AllReadyH.cons (o := { dst := some 38, op := Go.Op.call { callee := Go.Callee.value (Go.Operand.func 92), args := #[Go.Operand.tmp 35, Go.Operand.tmp 37], argTypes := #[149, 36] }, type := 60, pos := "view.go:37", after := #[⟨0, .data⟩, ⟨2, .data⟩], guard := none }) rfl (fun K hK => ?_) AllReadyH.nil
  go_simp
  refine (KC'.out).mono ?_
  rintro e w3 ⟨bo, rfl, hbo1, hbo2, hro, hbc0⟩
  have hbc : Below (w2.alloc (.cells #[.int .i64 (n : Int), .slice ga gn gc, .slice sa sn sc, .slice ya yn yc, .slice oa on oc, .slice va vn vc, .slice fa fn fc, .slice ba bn bc, .int .i64 (who : Int), .bool touch] 149)).heap.size (w2.alloc (.cells #[.int .i64 (n : Int), .slice ga gn gc, .slice sa sn sc, .slice ya yn yc, .slice oa on oc, .slice va vn vc, .slice fa fn fc, .slice ba bn bc, .int .i64 (who : Int), .bool touch] 149)) w3 := HBD.out.trans hbc0
  have hBc := HBV.out.trans (hbc.mono HBV.out.size)
  have KV' := hide (KV.out w3 hBc)
  rw [← HMS.out]
  have HRO := hide hro
  have HBC := hide hBc
  clear hbc0 hro hBc KV
  go_simp
  refine hK.out _ _ (⟨cell_over hbc _ _ d0, cell_over hbc _ _ d1, cell_over hbc _ _ d2, cell_over hbc _ _ d3, cell_over hbc _ _ d4, cell_over hbc _ _ d5, cell_over hbc _ _ d6, cell_over hbc _ _ d7, cell_over hbc _ _ v0, cell_over hbc _ _ v1, cell_over hbc _ _ v2, cell_over hbc _ _ v3, cell_over hbc _ _ v4, cell_over hbc _ _ v5, cell_over hbc _ _ v6, cell_over hbc _ _ v7, cell_over hbc _ _ v8, cell_over hbc _ _ v9⟩) (fun hHeld => ?_)
  clear hK K
  try simp only [aput]
  refine wpAnyH_ready (rs := [5]) (by kernel_rfl) (by simp) ?_
  refine AllReadyH.cons (o := { dst := some 40, op := Go.Op.call { callee := Go.Callee.value (Go.Operand.func 95), args := #[Go.Operand.tmp 39], argTypes := #[149] }, type := 60, pos := "view.go:37", after := #[⟨4, .data⟩, ⟨3, .chain⟩], guard := none }) rfl (fun K hK => ?_) AllReadyH.nil
  go_simp
  refine (KV'.out).mono ?_
  rintro e w4 ⟨bv, st, rfl, hbv1, hbv2, hinf, hstl, hrv, hbw⟩
  have hbe : Below (w2.alloc (.cells #[.int .i64 (n : Int), .slice ga gn gc, .slice sa sn sc, .slice ya yn yc, .slice oa on oc, .slice va vn vc, .slice fa fn fc, .slice ba bn bc, .int .i64 (who : Int), .bool touch] 149)).heap.size (w2.alloc (.cells #[.int .i64 (n : Int), .slice ga gn gc, .slice sa sn sc, .slice ya yn yc, .slice oa on oc, .slice va vn vc, .slice fa fn fc, .slice ba bn bc, .int .i64 (who : Int), .bool touch] 149)) w4 := hbc.trans (hbw.mono hbc.size)
  have HRV := hide hrv
  have HRO4 := hide (HRO.out.over hbw hbo2)
  have HB4 := hide (HBC.out.trans (hbw.mono HBC.out.size))
  have hbo4 : bo < w4.heap.size := Nat.lt_of_lt_of_le hbo2 hbw.size
  have HINF := hide hinf
  have HSTL := hide hstl
  clear hrv hbw hinf hstl
  go_simp
  refine hK.out _ _ (⟨cell_over hbe _ _ d0, cell_over hbe _ _ d1, cell_over hbe _ _ d2, cell_over hbe _ _ d3, cell_over hbe _ _ d4, cell_over hbe _ _ d5, cell_over hbe _ _ d6, cell_over hbe _ _ d7, cell_over hbe _ _ v0, cell_over hbe _ _ v1, cell_over hbe _ _ v2, cell_over hbe _ _ v3, cell_over hbe _ _ v4, cell_over hbe _ _ v5, cell_over hbe _ _ v6, cell_over hbe _ _ v7, cell_over hbe _ _ v8, cell_over hbe _ _ v9⟩) (fun hHeld => ?_)
  clear hK K
  try simp only [aput]
  refine tk (i := 6) (oi := ⟨some 13, .assign (.tmp 38), 60, "view.go:37", #[⟨3, .data⟩, ⟨5, .chain⟩, ⟨0, .phase⟩, ⟨1, .phase⟩, ⟨2, .phase⟩, ⟨3, .phase⟩, ⟨4, .textOnly Go.Departure.lateStores⟩, ⟨5, .textOnly Go.Departure.lateStoresUnsure⟩], none⟩) (v := ?_) (Or.inl ⟨by rfl, ?_⟩) (by assumption) ?_
  rotate_left
  · intro w' hSw
    (try dsimp only at hSw)
    go_simp
    try with_reducible rfl
  try simp only [aput]
  refine tk (i := 7) (oi := ⟨some 14, .assign (.tmp 40), 60, "view.go:37", #[⟨5, .data⟩, ⟨6, .chain⟩, ⟨0, .phase⟩, ⟨1, .phase⟩, ⟨2, .phase⟩, ⟨3, .phase⟩, ⟨4, .phase⟩, ⟨5, .phase⟩, ⟨6, .phase⟩], none⟩) (v := ?_) (Or.inl ⟨by rfl, ?_⟩) (by assumption) ?_
  rotate_left
  · intro w' hSw
    (try dsimp only at hSw)
    go_simp
    try with_reducible rfl
  try simp only [aput]
  refine wpAnyH_done (by kernel_rfl) ?_ _
  clear d0 d1 d2 d3 d4 d5 d6 d7 v0 v1 v2 v3 v4 v5 v6 v7 v8 v9 hbc hbe KC' KV' hHeld
  obtain ⟨VB, hVB⟩ : ∃ q, q = st.vs.map (hasB touch who) := ⟨_, rfl⟩
  have hVBl : VB.length = vn := by rw [hVB]; simpa using HSTL.out
  have HVB := hide hVB
  have HVBL := hide hVBl
  rw [← hVB] at HRV
  rw [show (ms.map fun x => hasB touch who (levOf (gnOf gs) n x)) = OB from HOB.out.symm] at HRO4
  clear hVB hVBl HRO
  have hs4 : w.heap.size ≤ w4.heap.size := HB4.out.size
  have HST : Hid (w4.ownsRow w4.heap.size 71 4 (.slice none 0 0) ((evs.take 0).filter (seesE OB VB)).length (evCells ((evs.take 0).filter (seesE OB VB)))) := World.ownsRow_nil _ _ _ _
  go_wp2_with fail
  go_loopw [15, 43] (fun v i wr => ∃ j : Nat, i = .int .i64 (j : Int) ∧ j ≤ evs.length ∧ wr.ownsRow w4.heap.size 71 4 v ((evs.take j).filter (seesE OB VB)).length (evCells ((evs.take j).filter (seesE OB VB))) ∧ Below w4.heap.size w4 wr) (fun _ i _ => evs.length - (intOf i).toNat)
  case atStart => exact ⟨0, rfl, Nat.zero_le _, HST.out, Below.refl _ _⟩
  case round =>
    clear HST
    obtain ⟨j, rfl, hj, hown, hB⟩ := hrel
    have HOWN := hide hown
    have HB := hide hB
    by_cases hjl : j < evs.length
    · obtain ⟨-, ao, ecap, hle, hel⟩ := HE.out
      injection hle with e1 e2 e3
      obtain ⟨eb, eoff, heb, hel2⟩ := hel (by intro hz; rw [hz] at hjl; simp at hjl)
      obtain ⟨p0, p1, p2, p3⟩ := hel2 j hjl
      have e1' := e1.trans heb
      subst e1'
      have hBw := HB4.out.trans (hB.mono HB4.out.size)
      have q0 := cell_over hBw _ _ p0
      have q1 := cell_over hBw _ _ p1
      have q2 := cell_over hBw _ _ p2
      have q3 := cell_over hBw _ _ p3
      have hft := filter_take (p := seesE OB VB) hjl
      have hno := HNONE.out evs[j] (List.getElem_mem hjl)
      have hfl : ((evs.take j).filter (seesE OB VB)).length ≤ 100000 := Nat.le_trans (List.length_filter_le _ _) (by rw [List.length_take]; omega)
      obtain ⟨e4, he4⟩ : ∃ q, q = evs[j] := ⟨_, rfl⟩
      rw [← he4] at q0 q1 q2 q3 hft hno
      obtain ⟨k, a, c, x⟩ := e4
      dsimp only at q0 q1 q2 q3
      unfold ofNone at hno
      simp only [Bool.or_eq_false_iff, decide_eq_false_iff_not, Int.not_lt, Int.not_le] at hno
      obtain ⟨hc0, hc1⟩ := hno
      obtain ⟨cn, hcn⟩ := Int.eq_ofNat_of_zero_le hc0
      subst hcn
      have hro := HRO4.out.over hB hbo4
      have hrv := HRV.out.over hB hbv2
      have HFT := hide hft
      have hba : Below wr.heap.size wr (wr.alloc (.cells #[.int .i64 k, .int .i64 a, .int .i64 (cn : Int), .int .i64 x] 71)) := (Below.refl _ wr).alloc (Nat.le_refl _) _
      have hown2 := own_overG hown hba
      have hw4r : w4.heap.size ≤ wr.heap.size := hB.size
      have HBAx := hide hba
      have HN : Hid (RowAt [.int .i64 k, .int .i64 a, .int .i64 (cn : Int), .int .i64 x] ((wr.alloc (.cells #[.int .i64 k, .int .i64 a, .int .i64 (cn : Int), .int .i64 x] 71)).alloc (.cells #[.int .i64 k, .int .i64 a, .int .i64 (cn : Int), .int .i64 x] 71)) (wr.heap.size + 1)) := by
        have := RowAt.newA #[.int .i64 k, .int .i64 a, .int .i64 (cn : Int), .int .i64 x] 71 (wr.alloc (.cells #[.int .i64 k, .int .i64 a, .int .i64 (cn : Int), .int .i64 x] 71))
        show RowAt _ _ _
        simpa using this
      have hbb : Below (wr.alloc (.cells #[.int .i64 k, .int .i64 a, .int .i64 (cn : Int), .int .i64 x] 71)).heap.size (wr.alloc (.cells #[.int .i64 k, .int .i64 a, .int .i64 (cn : Int), .int .i64 x] 71)) ((wr.alloc (.cells #[.int .i64 k, .int .i64 a, .int .i64 (cn : Int), .int .i64 x] 71)).alloc (.cells #[.int .i64 k, .int .i64 a, .int .i64 (cn : Int), .int .i64 x] 71)) := (Below.refl _ _).alloc (Nat.le_refl _) _
      have hown3 := own_overG hown2 hbb
      have HBBx := hide hbb
      have hsz3 : w4.heap.size ≤ ((wr.alloc (.cells #[.int .i64 k, .int .i64 a, .int .i64 (cn : Int), .int .i64 x] 71)).alloc (.cells #[.int .i64 k, .int .i64 a, .int .i64 (cn : Int), .int .i64 x] 71)).heap.size := by simp; omega
      have KEY : ∀ (L : List Bool) (b : Nat), RowB L b wr → cn < L.length → wr.cell? ⟨b, cn, none⟩ = some (.bool L[cn]!) := fun L b hr hlt => by
        have := hr.row cn (.bool L[cn]) (by simp [hlt])
        simpa [hlt] using this
      clear hel hel2 p0 p1 p2 p3 e1 e2 e3 heb he4 hft hown hown2 hba hbb hBw hB
      by_cases hk1 : k = 1
      · subst hk1
        rw [if_pos rfl] at hc1
        have hcl : cn < OB.length := by rw [HOBL.out]; omega
        have y0 := cell_over HBAx.out _ _ (KEY OB bo hro hcl)
        have hsee : seesE OB VB (1, a, (cn : Int), x) = OB[cn]! := by
          unfold seesE
          rw [if_pos rfl]
          simp [hcl]
        have hci : (cn : Int) < (on : Int) := hc1
        obtain ⟨bx, hbx⟩ : ∃ q, q = OB[cn]! := ⟨_, rfl⟩
        rw [← hbx] at y0 hsee
        have HFT2 := HFT.out
        rw [hsee] at HFT2
        have HFT3 := hide HFT2
        clear hsee hbx KEY hro hrv HFT HFT2 hcl
        cases bx with
        | true =>
          go_wp2_with (at_builtin; refine wpList_append_own _ rfl _ _ 43 rfl w4.heap.size 71 i0 (.agg #[.int .i64 0, .int .i64 0, .int .i64 0, .int .i64 0]) 4 32 Try.underlying43 hi hz0 hz1 hz2 rfl (by decide) _ _ _ rfl hown3 ⟨wr.heap.size + 1, 0, none⟩ 1 1 [.int .i64 1, .int .i64 a, .int .i64 (cn : Int), .int .i64 x] rfl rfl (fun jj u hu => by rw [Addr.add_lit, Nat.zero_add]; exact HN.out jj u hu) (by simp [Value.oneCell']) (by unfold maxLen; omega) (by omega) hsz3 ?_)
          intro v3 w5 hown5 hgr5 _
          have hbl5 := below_grown hown3 hgr5 hsz3
          have hB5 : Below w4.heap.size w4 w5 := ((HB.out.trans (HBAx.out.mono hw4r)).trans (HBBx.out.mono (by simp; omega))).trans hbl5
          have HF := hide (And.intro hown5 hB5)
          clear hown3 hown5 hgr5 hbl5 hB5
          go_wp2_with fail
          refine ⟨⟨j + 1, by go_num, by omega, ?_, HF.out.2⟩, by simp [intOf]; omega⟩
          have h5 := HF.out.1
          rw [HFT3.out, if_pos (by first | rfl | trivial), List.length_append, evCells_append]
          exact h5
        | false =>
          have HF := hide (And.intro (own_overG HOWN.out HBAx.out) (HB.out.trans (HBAx.out.mono hw4r)))
          clear hown3
          go_wp2_with fail
          refine ⟨⟨j + 1, by go_num, by omega, ?_, HF.out.2⟩, by simp [intOf]; omega⟩
          rw [HFT3.out, if_neg (by first | decide | exact id | simp), List.append_nil]
          exact HF.out.1
      · have hkb : (k == 1) = false := by simpa using hk1
        rw [if_neg hk1] at hc1
        have hcl : cn < VB.length := by rw [HVBL.out]; omega
        have y0 := cell_over HBAx.out _ _ (KEY VB bv hrv hcl)
        have hsee : seesE OB VB (k, a, (cn : Int), x) = VB[cn]! := by
          unfold seesE
          rw [if_neg hk1]
          simp [hcl]
        have hci : (cn : Int) < (vn : Int) := hc1
        obtain ⟨bx, hbx⟩ : ∃ q, q = VB[cn]! := ⟨_, rfl⟩
        rw [← hbx] at y0 hsee
        have HFT2 := HFT.out
        rw [hsee] at HFT2
        have HFT3 := hide HFT2
        clear hsee hbx KEY hro hrv HFT HFT2 hcl
        cases bx with
        | true =>
          go_wp2_with (at_builtin; refine wpList_append_own _ rfl _ _ 43 rfl w4.heap.size 71 i0 (.agg #[.int .i64 0, .int .i64 0, .int .i64 0, .int .i64 0]) 4 32 Try.underlying43 hi hz0 hz1 hz2 rfl (by decide) _ _ _ rfl hown3 ⟨wr.heap.size + 1, 0, none⟩ 1 1 [.int .i64 k, .int .i64 a, .int .i64 (cn : Int), .int .i64 x] rfl rfl (fun jj u hu => by rw [Addr.add_lit, Nat.zero_add]; exact HN.out jj u hu) (by simp [Value.oneCell']) (by unfold maxLen; omega) (by omega) hsz3 ?_)
          intro v3 w5 hown5 hgr5 _
          have hbl5 := below_grown hown3 hgr5 hsz3
          have hB5 : Below w4.heap.size w4 w5 := ((HB.out.trans (HBAx.out.mono hw4r)).trans (HBBx.out.mono (by simp; omega))).trans hbl5
          have HF := hide (And.intro hown5 hB5)
          clear hown3 hown5 hgr5 hbl5 hB5
          go_wp2_with fail
          refine ⟨⟨j + 1, by go_num, by omega, ?_, HF.out.2⟩, by simp [intOf]; omega⟩
          have h5 := HF.out.1
          rw [HFT3.out, if_pos (by first | rfl | trivial), List.length_append, evCells_append]
          exact h5
        | false =>
          have HF := hide (And.intro (own_overG HOWN.out HBAx.out) (HB.out.trans (HBAx.out.mono hw4r)))
          clear hown3
          go_wp2_with fail
          refine ⟨⟨j + 1, by go_num, by omega, ?_, HF.out.2⟩, by simp [intOf]; omega⟩
          rw [HFT3.out, if_neg (by first | decide | exact id | simp), List.append_nil]
          exact HF.out.1
    · have hje : j = evs.length := by omega
      rw [hje, List.take_length] at hown
      obtain ⟨va2, vn2, vc2, hv2⟩ : ∃ a n c, u15 = .slice a n c := by
        rcases hown.2 with ⟨h, _⟩ | ⟨g, cap, cur, h, _⟩
        · exact ⟨_, _, _, h⟩
        · exact ⟨_, _, _, h⟩
      subst hv2
      have HF := hide (And.intro (own_base hown hs4) (HB4.out.trans (hB.mono HB4.out.size)))
      clear hown hB
      go_wp2_with fail
      go_ret2
      exact ⟨st, _, rfl, HINF.out, HSTL.out, by rw [← HVB.out]; exact HF.out.1, HF.out.2⟩
end Go.Proofs.Ytcbbjjenkommeaa.Ex
