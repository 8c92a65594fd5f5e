/- scope.Check of any program: just when all is right. -/
import Derived.Test.YtcbbjjenkommeaaM11
import Derived.Maps.AppendAt
namespace Go.Proofs.Ytcbbjjenkommeaa.Ex.Ey
open Go.RowKit
set_option linter.unusedVariables false
/-- what a check says: that all is right, just if it is. -/
def Said (ok : Prop) (w : World) (f : Int → Value) (e : Ending) (w' : World) : Prop := ∃ why : Int, e = .returned (f why) ∧ (why = 0 ↔ ok) ∧ Below w.heap.size w w'

set_option maxHeartbeats 1000000 in
set_option maxRecDepth 100000 in
theorem caught_any (K kf : Nat) (m : Int) (ga : Option Addr) (gn gc : Nat) (sa : Option Addr) (sn sc : Nat) (ya : Option Addr) (yn yc : Nat) (oa : Option Addr) (on oc : Nat) (va : Option Addr) (vn vc : Nat) (fa : Option Addr) (fn fc : Nat) (ba : Option Addr) (bn bc : Nat) (gs : List (Int × Int)) (sp : List Int) (ls ms : List Lab) (vs : List (Bool × Lab)) (fs : List FnD) (l : List D) (w : World) (h : ProgAt K kf m ga gn gc sa sn sc ya yn yc oa on oc va vn vc fa fn fc ba bn bc gs sp ls ms vs fs l w) :
    Calls Try.prog 71 #[.func (.func 72) #[.agg #[.int .i64 m, .slice ga gn gc, .slice sa sn sc, .slice ya yn yc, .slice oa on oc, .slice va vn vc, .slice fa fn fc, .slice ba bn bc]] #[]] w (Said (xP K kf m vn yn on sn gs sp ls ms vs fs l) w fun why => .tuple #[.int .i64 0, .int .i64 why]) := by
  have hmf : ∀ (fn : Fn) (first cap : Array Value) (w : World), (Instr.makeFunc fn first cap).run Try.prog w = .ok (.func fn first cap) w := fun _ _ _ _ => rfl
  have HC : ∀ (args : Array Value) (w : World), (callFunc 72 args).run Try.prog w = .ok (.enter 72 args) w := fun args w => by simp [go_sem]
  have hbel : Below w.heap.size w ((w.alloc (.cells #[.int .i64 0] 3)).alloc (.cells #[.int .i64 0] 26)) := ((Below.refl _ w).alloc (Nat.le_refl _) _).alloc (by simp) _
  have K := hide (checkG_any K kf m ga gn gc sa sn sc ya yn yc oa on oc va vn vc fa fn fc ba bn bc gs sp ls ms vs fs l _ (h.over hbel))
  have q0 : ((w.alloc (.cells #[.int .i64 0] 3)).alloc (.cells #[.int .i64 0] 26)).cell? ⟨w.heap.size, 0, none⟩ = some (.int .i64 0) := by simp [go_sem]
  have q1 : ((w.alloc (.cells #[.int .i64 0] 3)).alloc (.cells #[.int .i64 0] 26)).cell? ⟨w.heap.size + 1, 0, none⟩ = some (.int .i64 0) := by simp [go_sem]
  have z0 : ((w.alloc (.cells #[.int .i64 0] 3)).alloc (.cells #[.int .i64 0] 26)).frozen? ⟨w.heap.size, 0, none⟩ = false := by simp [go_sem]
  have z1 : ((w.alloc (.cells #[.int .i64 0] 3)).alloc (.cells #[.int .i64 0] 26)).frozen? ⟨w.heap.size + 1, 0, none⟩ = false := by simp [go_sem]
  clear h
  go_enter_defers Try.func71, Try.ntmps71
  go_wp2_with fail
  refine (K.out).mono ?_
  rintro e w1 ⟨he, hb1⟩
  obtain ⟨hc, hf⟩ := bcell hb1
  have hB1 := hbel.trans (hb1.mono hbel.size)
  have p0 := cell_over hb1 _ _ q0
  have p1 := cell_over hb1 _ _ q1
  have y0 := (hf w.heap.size 0 (by simp; omega)).trans z0
  have y1 := (hf (w.heap.size + 1) 0 (by simp)).trans z1
  have g1 : w.heap.size + 1 < w1.heap.size := World.block_lt_of_cell? w1 _ p1
  have g0 : w.heap.size < w1.heap.size := by omega
  clear hc hf q0 q1 z0 z1 hb1 K hbel
  rcases he with ⟨hok, rfl⟩ | ⟨hng, why, hne, rfl⟩
  · have HOK := hide hok
    clear hok
    go_wp2_with fail
    refine leaves_cons (f := 106) (args := #[.pointer (some ⟨w.heap.size, 0, none⟩), .pointer (some ⟨w.heap.size + 1, 0, none⟩)]) (by simp) (by simp [go_sem]) ?_
    refine (catch_idle _ _ _).mono ?_
    rintro e u' w2 ⟨rfl, rfl, rfl⟩
    have d0 : ((w1.setCell ⟨w.heap.size, 0, none⟩ (.int .i64 0)).setCell ⟨w.heap.size + 1, 0, none⟩ (.int .i64 0)).cell? ⟨w.heap.size, 0, none⟩ = some (.int .i64 0) := by simp [go_sem, p0]
    have d1 : ((w1.setCell ⟨w.heap.size, 0, none⟩ (.int .i64 0)).setCell ⟨w.heap.size + 1, 0, none⟩ (.int .i64 0)).cell? ⟨w.heap.size + 1, 0, none⟩ = some (.int .i64 0) := by simp [go_sem, p1]
    have hbb : Below w.heap.size w ((w1.setCell ⟨w.heap.size, 0, none⟩ (.int .i64 0)).setCell ⟨w.heap.size + 1, 0, none⟩ (.int .i64 0)) := (hB1.setCell (by simp) _).setCell (by simp) _
    generalize ((w1.setCell ⟨w.heap.size, 0, none⟩ (.int .i64 0)).setCell ⟨w.heap.size + 1, 0, none⟩ (.int .i64 0)) = wF at d0 d1 hbb ⊢
    simp [Leaves, settle, results, Try.results71, go_sem, d0, d1]
    exact ⟨0, rfl, ⟨fun _ => HOK.out, fun _ => rfl⟩, hbb⟩
  · have HNG := hide hng
    clear hng
    unfold gaveW
    go_wp2_with fail
    refine leaves_cons (f := 106) (args := #[.pointer (some ⟨w.heap.size, 0, none⟩), .pointer (some ⟨w.heap.size + 1, 0, none⟩)]) (by simp) (by simp [go_sem]) ?_
    refine (catch_gave w.heap.size 0 0 _ _ [] _ (by omega) p0 p1 y0 y1).mono ?_
    rintro e u' w2 ⟨rfl, rfl, d0, d1, hb2⟩
    have hbb : Below w.heap.size w w2 := hB1.trans hb2
    simp [Leaves, settle, results, Try.results71, go_sem, d0, d1]
    exact ⟨why, rfl, ⟨fun h => absurd h hne, fun h => absurd h HNG.out⟩, hbb⟩

set_option maxHeartbeats 1000000 in
set_option maxRecDepth 100000 in
theorem scopeCheck_any (K kf : Nat) (m : Int) (ga : Option Addr) (gn gc : Nat) (sa : Option Addr) (sn sc : Nat) (ya : Option Addr) (yn yc : Nat) (oa : Option Addr) (on oc : Nat) (va : Option Addr) (vn vc : Nat) (fa : Option Addr) (fn fc : Nat) (ba : Option Addr) (bn bc : Nat) (gs : List (Int × Int)) (sp : List Int) (ls ms : List Lab) (vs : List (Bool × Lab)) (fs : List FnD) (l : List D) (w : World) (h : ProgAt K kf m ga gn gc sa sn sc ya yn yc oa on oc va vn vc fa fn fc ba bn bc gs sp ls ms vs fs l w) :
    Calls Try.prog 36 #[.agg #[.int .i64 m, .slice ga gn gc, .slice sa sn sc, .slice ya yn yc, .slice oa on oc, .slice va vn vc, .slice fa fn fc, .slice ba bn bc]] w (Said (xP K kf m vn yn on sn gs sp ls ms vs fs l) w fun why => .int .i64 why) := by
  have hbel : Below w.heap.size w ((w.alloc (.cells #[.int .i64 m, .slice ga gn gc, .slice sa sn sc, .slice ya yn yc, .slice oa on oc, .slice va vn vc, .slice fa fn fc, .slice ba bn bc] 41)).alloc (.cells #[.int .i64 m, .slice ga gn gc, .slice sa sn sc, .slice ya yn yc, .slice oa on oc, .slice va vn vc, .slice fa fn fc, .slice ba bn bc] 125)) := ((Below.refl _ w).alloc (Nat.le_refl _) _).alloc (by simp) _
  have K := hide (caught_any K kf m ga gn gc sa sn sc ya yn yc oa on oc va vn vc fa fn fc ba bn bc gs sp ls ms vs fs l _ (h.over hbel))
  clear h
  go_enter Try.func36, Try.ntmps36
  go_wp2_with fail
  refine (K.out).mono ?_
  rintro e w1 ⟨why, rfl, hok, hb1⟩
  have hB1 := hbel.trans (hb1.mono hbel.size)
  have HOK := hide hok
  clear hbel hb1 K hok
  go_wp2_with fail
  go_ret
  exact ⟨why, rfl, HOK.out, hB1⟩
end Go.Proofs.Ytcbbjjenkommeaa.Ex.Ey
namespace Go.Proofs.Ytcbbjjenkommeaa.Ex
open Go.RowKit
set_option linter.unusedVariables false
theorem call31 (args : Array Value) (w : World) : (callFunc 98 args).run Try.prog w = .ok (.enter 98 args) w := by simp [go_sem]
theorem call32 (args : Array Value) (w : World) : (callFunc 99 args).run Try.prog w = .ok (.enter 99 args) w := by simp [go_sem]
theorem RowAt.set {cs : List Value} {w : World} {b j : Nat} {v : Value} (h : RowAt cs w b) (hj : j < cs.length) : RowAt (cs.set j v) (w.setCell ⟨b, j, none⟩ v) b := by
  have hc := h j _ (List.getElem?_eq_getElem hj)
  have hb := World.block_lt_of_cell? w _ hc
  intro k u hu
  by_cases hk : k = j
  · subst hk
    rw [List.getElem?_set_self hj] at hu
    simp at hu
    subst hu
    simp [go_sem, hc]
  · rw [List.getElem?_set_ne (by omega)] at hu
    have := h k u hu
    simp [go_sem, this]
theorem RowAt.other {cs : List Value} {w : World} {b b' j : Nat} {v : Value} (h : RowAt cs w b) (hb : b ≠ b') : RowAt cs (w.setCell ⟨b', j, none⟩ v) b := fun k u hu => by
  have := h k u hu
  simp [go_sem, this]
theorem RowAt.drew {cs : List Value} {w : World} {b : Nat} (h : RowAt cs w b) : RowAt cs w.drew b := fun k u hu => h k u hu
theorem held8b {w w0 w1 : World} {a0 a1 a2 a3 a4 a5 a6 a7 : Addr} {v0 v1 v2 v3 v4 v5 v6 v7 : Value}
    (h : w0.cell? a0 = some v0 ∧ w0.cell? a1 = some v1 ∧ w0.cell? a2 = some v2 ∧ w0.cell? a3 = some v3 ∧ w0.cell? a4 = some v4 ∧ w0.cell? a5 = some v5 ∧ w0.cell? a6 = some v6 ∧ w0.cell? a7 = some v7 ∧ Below w.heap.size w w0) (hb : Below w0.heap.size w0 w1) :
    w1.cell? a0 = some v0 ∧ w1.cell? a1 = some v1 ∧ w1.cell? a2 = some v2 ∧ w1.cell? a3 = some v3 ∧ w1.cell? a4 = some v4 ∧ w1.cell? a5 = some v5 ∧ w1.cell? a6 = some v6 ∧ w1.cell? a7 = some v7 ∧ Below w.heap.size w w1 := by
  obtain ⟨h0, h1, h2, h3, h4, h5, h6, h7, hB⟩ := h
  exact ⟨cell_over hb _ _ h0, cell_over hb _ _ h1, cell_over hb _ _ h2, cell_over hb _ _ h3, cell_over hb _ _ h4, cell_over hb _ _ h5, cell_over hb _ _ h6, cell_over hb _ _ h7, hB.trans (hb.mono hB.size)⟩
theorem grow_cellR {w w' : World} {r b j : Nat} {u : Value} (hg : w.grownBy w' (some r)) (h : w.cell? ⟨b, j, none⟩ = some u) (hne : b ≠ r) : w'.cell? ⟨b, j, none⟩ = some u := by
  have hb := World.block_lt_of_cell? w _ h
  rw [World.cell?_of_block (w := w) (hg.block b hb (fun e => hne (Option.some.inj e)))]
  exact h
theorem grow_set {w : World} {r n j : Nat} {u : Value} : w.grownBy ((w.drewN n).setCell ⟨r, j, none⟩ u) (some r) := by
  have h := Below.heap_setCell (w.drewN n) ⟨r, j, none⟩ u
  refine ⟨rfl, rfl, rfl, by simp [World.setCell], fun k hk hne => ?_⟩
  rw [h k (fun e => hne (by rw [e]))]
  rfl
theorem held4 {w w0 w1 : World} {a0 a1 a2 a3 : Addr} {v0 v1 v2 v3 : Value}
    (h : w0.cell? a0 = some v0 ∧ w0.cell? a1 = some v1 ∧ w0.cell? a2 = some v2 ∧ w0.cell? a3 = some v3 ∧ Below w.heap.size w w0) (hb : Below w0.heap.size w0 w1) :
    w1.cell? a0 = some v0 ∧ w1.cell? a1 = some v1 ∧ w1.cell? a2 = some v2 ∧ w1.cell? a3 = some v3 ∧ Below w.heap.size w w1 := by
  obtain ⟨h0, h1, h2, h3, hB⟩ := h
  exact ⟨cell_over hb _ _ h0, cell_over hb _ _ h1, cell_over hb _ _ h2, cell_over hb _ _ h3, hB.trans (hb.mono hB.size)⟩
theorem Try.infoE : (Try.prog.info? 71).map (fun i => (i.zero, i.size, i.bytes)) = some (some (.agg #[.int .i64 0, .int .i64 0, .int .i64 0, .int .i64 0]), 4, 32) := by kernel_rfl
theorem RowAt.newA (cs : Array Value) (t : Nat) (w : World) : RowAt cs.toList (w.alloc (.cells cs t)) w.heap.size := fun j u hu => by
  rw [Lib.cell_of_heap (heap_alloc_new w _)]
  simpa using hu
theorem RowAt.more {cs rest : List Value} {w : World} {b : Nat} (h : RowAt (cs ++ rest) w b) : RowAt cs w b := fun j u hu => h j u (by rw [List.getElem?_append_left (List.getElem?_eq_some_iff.1 hu).1]; exact hu)
theorem keep3g {w w' : World} {r a b j k l : Nat} {x y z : Value} (h : w.cell? ⟨a, j, none⟩ = some x ∧ w.cell? ⟨b, k, none⟩ = some y ∧ w.cell? ⟨b, l, none⟩ = some z) (hg : w.grownBy w' (some r)) (ha : a ≠ r) (hb : b ≠ r) :
    w'.cell? ⟨a, j, none⟩ = some x ∧ w'.cell? ⟨b, k, none⟩ = some y ∧ w'.cell? ⟨b, l, none⟩ = some z := ⟨grow_cellR hg h.1 ha, grow_cellR hg h.2.1 hb, grow_cellR hg h.2.2 hb⟩
theorem keep4b {w w' : World} {b j k l m : Nat} {x y z u : Value} (h : w.cell? ⟨b, j, none⟩ = some x ∧ w.cell? ⟨b, k, none⟩ = some y ∧ w.cell? ⟨b, l, none⟩ = some z ∧ w.cell? ⟨b, m, none⟩ = some u) (hg : Below w.heap.size w w') :
    w'.cell? ⟨b, j, none⟩ = some x ∧ w'.cell? ⟨b, k, none⟩ = some y ∧ w'.cell? ⟨b, l, none⟩ = some z ∧ w'.cell? ⟨b, m, none⟩ = some u := ⟨cell_over hg _ _ h.1, cell_over hg _ _ h.2.1, cell_over hg _ _ h.2.2.1, cell_over hg _ _ h.2.2.2⟩
/-- lists of numbers. -/
def ListsAt (w : World) (v : Value) (ls : List (List Int)) : Prop :=
  ls.length ≤ maxLen ∧ ∃ ao cap, v = .slice ao ls.length cap ∧ (ls ≠ [] → ∃ b off, ao = some ⟨b, off, none⟩ ∧ ∀ i (h : i < ls.length), ∃ u, w.cell? ⟨b, off + i, none⟩ = some u ∧ IsInts w u ls[i] ∧ ls[i].length ≤ 9223372036854775807)
theorem ListsAt.over {w w' : World} {v : Value} {ls : List (List Int)} (h : ListsAt w v ls) (hb : Below w.heap.size w w') : ListsAt w' v ls := by
  obtain ⟨hm, ao, cap, hv, hc⟩ := h
  refine ⟨hm, ao, cap, hv, fun hne => ?_⟩
  obtain ⟨b, off, hao, hel⟩ := hc hne
  refine ⟨b, off, hao, fun i hi => ?_⟩
  obtain ⟨u, h0, h1, h2⟩ := hel i hi
  exact ⟨u, cell_over hb _ _ h0, h1.over hb, h2⟩

set_option maxHeartbeats 1000000 in
theorem isLong_any (a : Option Addr) (n c : Nat) (w : World) : Calls Try.prog 98 #[.slice a n c] w fun e w' => e = .returned (.bool (decide (100 < n))) ∧ w' = w := by
  by_cases h : 100 < n
  · go_enter Try.func98, Try.ntmps98
    go_wp2_with fail
    go_ret
    exact ⟨by simp; omega, rfl⟩
  · go_enter Try.func98, Try.ntmps98
    go_wp2_with fail
    go_ret
    exact ⟨by simp; omega, rfl⟩

set_option maxHeartbeats 1000000 in
theorem hasBeyond_any (l : List Int) (v : Value) (w : World) (h : IsInts w v l) (hl : l.length ≤ 9223372036854775807) : Calls Try.prog 99 #[v] w fun e w' => e = .returned (.bool (!l.all in32)) ∧ w' = w := by
  have K := hide (containsInts_any l _ w h hl)
  obtain ⟨a, c, rfl, -⟩ := h
  go_enter Try.func99, Try.ntmps99
  go_wp2_with fail
  refine (K.out).mono ?_
  rintro e w1 ⟨rfl, rfl⟩
  go_wp2_with fail
  go_ret
  exact ⟨rfl, rfl⟩

set_option maxHeartbeats 1000000 in
theorem indexLists_any (F : FuncId) (p : List Int → Bool) (ls : List (List Int)) (v : Value) (w : World) (h : ListsAt w v ls)
    (hF : Hid (∀ (l : List Int) (u : Value), IsInts w u l → l.length ≤ 9223372036854775807 → Calls Try.prog F #[u] w fun e w' => e = .returned (.bool (p l)) ∧ w' = w)) (hC : ∀ (args : Array Value) (w : World), (callFunc F args).run Try.prog w = .ok (.enter F args) w) :
    Calls Try.prog 129 #[v, .func (.func F) #[] #[]] w fun e w' => ∃ r : Int, e = .returned (.int .i64 r) ∧ decide (0 ≤ r) = ls.any p ∧ w' = w := by
  obtain ⟨hm, ao, cap, rfl, hcc⟩ := h
  have hm2 : ls.length ≤ 9223372036854775807 := hm
  have HCC := hide hcc
  clear hcc hm
  go_enter Try.func129, Try.ntmps129
  go_wp2_with fail
  go_loopw [8] (fun i wr => ∃ k : Nat, k ≤ ls.length ∧ i = .int .i64 k ∧ (ls.take k).any p = false ∧ wr = w) (fun i _ => ls.length - (intOf i).toNat)
  case atStart => exact ⟨0, Nat.zero_le _, rfl, rfl, rfl⟩
  case round =>
    obtain ⟨k, hk, rfl, hall, rfl⟩ := hrel
    have HA := hide hall
    clear hall
    by_cases hkl : k < ls.length
    · obtain ⟨b, off, rfl, hcl⟩ := HCC.out (by rintro rfl; simp at hkl)
      obtain ⟨u, q0, hu, hul⟩ := hcl k hkl
      have hst : p ls[k] = true → ls.any p = true := fun h => by rw [List.any_eq_true]; exact ⟨ls[k], List.getElem_mem hkl, h⟩
      have hnx : p ls[k] = false → (ls.take (k + 1)).any p = false := fun h => by rw [List.take_succ_eq_append_getElem hkl, List.any_append, HA.out]; simp [h]
      have hcall := hF.out ls[k] u hu hul
      obtain ⟨r, hr⟩ : ∃ r, r = p ls[k] := ⟨_, rfl⟩
      rw [← hr] at hcall hst hnx
      have HCALL := hide hcall
      have HST := hide hst
      have HNX := hide hnx
      obtain ⟨a2, c2, rfl, -⟩ := hu
      clear hcall hst hnx hr hcl HA hF
      cases r with
      | false =>
        go_wp2_with fail
        refine (HCALL.out).mono ?_
        rintro e w2 ⟨rfl, rfl⟩
        go_wp2_with fail
        exact ⟨⟨k + 1, by omega, by go_num, HNX.out (by first | rfl | trivial), by first | rfl | trivial⟩, by simp [intOf]; omega⟩
      | true =>
        go_wp2_with fail
        refine (HCALL.out).mono ?_
        rintro e w2 ⟨rfl, rfl⟩
        go_wp2_with fail
        go_ret
        refine ⟨(k : Int), by first | rfl | trivial, ?_, by first | rfl | trivial⟩
        rw [HST.out (by first | rfl | trivial)]
        simp
    · have ha := HA.out
      rw [List.take_of_length_le (by omega)] at ha
      have HD := hide ha
      clear ha HA hF
      go_wp2_with fail
      go_ret
      refine ⟨-1, by first | rfl | trivial, ?_, by first | rfl | trivial⟩
      rw [HD.out]
      rfl

set_option maxHeartbeats 1000000 in
theorem containsLists_any (F : FuncId) (p : List Int → Bool) (ls : List (List Int)) (v : Value) (w : World) (h : ListsAt w v ls)
    (hF : Hid (∀ (l : List Int) (u : Value), IsInts w u l → l.length ≤ 9223372036854775807 → Calls Try.prog F #[u] w fun e w' => e = .returned (.bool (p l)) ∧ w' = w)) (hC : ∀ (args : Array Value) (w : World), (callFunc F args).run Try.prog w = .ok (.enter F args) w) :
    Calls Try.prog 100 #[v, .func (.func F) #[] #[]] w fun e w' => e = .returned (.bool (ls.any p)) ∧ w' = w := by
  have K := hide (indexLists_any F p ls v w h hF hC)
  obtain ⟨hm, ao, cap, rfl, hcc⟩ := h
  obtain ⟨q, hq⟩ : ∃ q, q = ls.any p := ⟨_, rfl⟩
  rw [← hq] at K ⊢
  clear hcc hq hF
  go_enter Try.func100, Try.ntmps100
  go_wp2_with fail
  refine (K.out).mono ?_
  rintro e w1 ⟨r, rfl, hr, rfl⟩
  have HR := hide hr
  clear hr
  go_wp2_with fail
  go_ret
  exact ⟨by rw [← HR.out]; simp, rfl⟩

/-- what a run may be asked for. -/
structure okR (K kf : Nat) (m : Int) (vn yn on sn : Nat) (gs : List (Int × Int)) (sp : List Int) (ls ms : List Lab) (vs : List (Bool × Lab)) (fs : List FnD) (l : List D) (ins : List (List Int)) (fuel : Int) : Prop where
  prog : Ey.xP K kf m vn yn on sn gs sp ls ms vs fs l
  many : ins.length = yn
  long : ∀ x ∈ ins, x.length ≤ 100
  num : ∀ x ∈ ins, ∀ y ∈ x, I32 y
  f0 : 0 ≤ fuel
  f1 : fuel ≤ 2000

set_option maxHeartbeats 2000000 in
set_option maxRecDepth 100000 in
theorem runCheck_any (K kf : Nat) (m : Int) (ga : Option Addr) (gn gc : Nat) (sa : Option Addr) (sn sc : Nat) (ya : Option Addr) (yn yc : Nat) (oa : Option Addr) (on oc : Nat) (va : Option Addr) (vn vc : Nat) (fa : Option Addr) (fn fc : Nat) (ba : Option Addr) (bn bc : Nat) (xa : Option Addr) (xn xc : Nat) (ins : List (List Int)) (fuel : Int) (gs : List (Int × Int)) (sp : List Int) (ls ms : List Lab) (vs : List (Bool × Lab)) (fs : List FnD) (l : List D) (w : World) (h : ProgAt K kf m ga gn gc sa sn sc ya yn yc oa on oc va vn vc fa fn fc ba bn bc gs sp ls ms vs fs l w) (hx : ListsAt w (.slice xa xn xc) ins) :
    Calls Try.prog 68 #[.agg #[.int .i64 m, .slice ga gn gc, .slice sa sn sc, .slice ya yn yc, .slice oa on oc, .slice va vn vc, .slice fa fn fc, .slice ba bn bc], .slice xa xn xc, .int .i64 fuel] w (Ey.Said (okR K kf m vn yn on sn gs sp ls ms vs fs l ins fuel) w fun why => .int .i64 why) := by
  have hmf : ∀ (fn : Fn) (first cap : Array Value) (w : World), (Instr.makeFunc fn first cap).run Try.prog w = .ok (.func fn first cap) w := fun _ _ _ _ => rfl
  have hbel : Below w.heap.size w (w.alloc (.cells #[.int .i64 m, .slice ga gn gc, .slice sa sn sc, .slice ya yn yc, .slice oa on oc, .slice va vn vc, .slice fa fn fc, .slice ba bn bc] 41)) := (Below.refl _ w).alloc (Nat.le_refl _) _
  have K1 := hide (Ey.scopeCheck_any K kf m ga gn gc sa sn sc ya yn yc oa on oc va vn vc fa fn fc ba bn bc gs sp ls ms vs fs l _ (h.over hbel))
  have HX := hide (hx.over hbel)
  have hxn : xn = ins.length := by obtain ⟨-, a, c, he, -⟩ := hx; injection he
  have hxl : xn ≤ 9223372036854775807 := by rw [hxn]; exact hx.1
  have hyl : yn ≤ 9223372036854775807 := by obtain ⟨hm, a, c, he, -⟩ := h.ins; injection he with e1 e2 e3; rw [e2]; exact hm
  have HXN := hide hxn
  have K2 := hide fun W (hw : ListsAt W (.slice xa xn xc) ins) => containsLists_any 98 (fun l => decide (100 < l.length)) ins (.slice xa xn xc) W hw (hide fun l u hu _ => by
    obtain ⟨a, c, rfl, -⟩ := hu
    exact isLong_any a l.length c W) call31
  have K3 := hide fun W (hw : ListsAt W (.slice xa xn xc) ins) => containsLists_any 99 (fun l => !l.all in32) ins (.slice xa xn xc) W hw (hide fun l u hu hl => hasBeyond_any l u W hu hl) call32
  obtain ⟨q2, hq2⟩ : ∃ q, q = ins.any (fun l => decide (100 < l.length)) := ⟨_, rfl⟩
  obtain ⟨q3, hq3⟩ : ∃ q, q = ins.any (fun l => !l.all in32) := ⟨_, rfl⟩
  rw [← hq2] at K2
  rw [← hq3] at K3
  have HQ2 := hide hq2
  have HQ3 := hide hq3
  have c3 : (w.alloc (.cells #[.int .i64 m, .slice ga gn gc, .slice sa sn sc, .slice ya yn yc, .slice oa on oc, .slice va vn vc, .slice fa fn fc, .slice ba bn bc] 41)).cell? ⟨w.heap.size, 3, none⟩ = some (.slice ya yn yc) := by simp [go_sem]
  clear h hx hxn hq2 hq3
  go_enter Try.func68, Try.ntmps68
  go_wp2_with fail
  refine (K1.out).mono ?_
  rintro e w1 ⟨why, rfl, hok, hb1⟩
  have d3 := cell_over hb1 _ _ c3
  have HX1 := hide (HX.out.over hb1)
  have hB1 := hbel.trans (hb1.mono hbel.size)
  have HOK := hide hok
  clear hbel hb1 K1 HX c3 hok
  by_cases hw : why = 0
  rotate_left
  · have hwb : (why == 0) = false := by simpa using hw
    go_wp2_with fail
    go_ret
    exact ⟨why, rfl, ⟨fun h => absurd h hw, fun h => absurd (HOK.out.2 h.prog) hw⟩, hB1⟩
  subst hw
  by_cases hxy : xn = yn
  rotate_left
  · have hb : ((xn : Int) == (yn : Int)) = false := by simp; omega
    go_wp2_with fail
    go_ret
    exact ⟨1, rfl, ⟨fun h => absurd h (by decide), fun h => absurd (HXN.out.trans h.many) hxy⟩, hB1⟩
  have hb : ((xn : Int) == (yn : Int)) = true := by simp; omega
  have HXY := hide hxy
  clear hxy
  go_wp2_with fail
  refine (K2.out _ HX1.out).mono ?_
  rintro e w2 ⟨rfl, rfl⟩
  cases q2 with
  | true =>
    go_wp2_with fail
    go_ret
    refine ⟨2, rfl, ⟨fun h => absurd h (by decide), fun h => ?_⟩, hB1⟩
    obtain ⟨x, hx, hl⟩ := List.any_eq_true.1 HQ2.out.symm
    exact absurd (h.long x hx) (by simpa using hl)
  | false =>
  go_wp2_with fail
  refine (K3.out _ HX1.out).mono ?_
  rintro e w3 ⟨rfl, rfl⟩
  cases q3 with
  | true =>
    go_wp2_with fail
    go_ret
    refine ⟨3, rfl, ⟨fun h => absurd h (by decide), fun h => ?_⟩, hB1⟩
    obtain ⟨x, hx, hl⟩ := List.any_eq_true.1 HQ3.out.symm
    have ha : x.all in32 = true := List.all_eq_true.2 fun y hy => by simpa [in32, I32] using h.num x hx y hy
    simp [ha] at hl
  | false =>
  by_cases hf0 : fuel < 0
  · go_wp2_with fail
    go_ret
    exact ⟨3, rfl, ⟨fun h => absurd h (by decide), fun h => by have := h.f0; omega⟩, hB1⟩
  by_cases hf1 : 2000 < fuel
  · go_wp2_with fail
    go_ret
    exact ⟨3, rfl, ⟨fun h => absurd h (by decide), fun h => by have := h.f1; omega⟩, hB1⟩
  go_wp2_with fail
  go_ret
  refine ⟨0, rfl, ⟨fun _ => ⟨HOK.out.1 (by first | rfl | trivial), by rw [← HXN.out]; exact HXY.out, fun x hx => ?_, fun x hx y hy => ?_, by omega, by omega⟩, fun _ => rfl⟩, hB1⟩
  · have := List.any_eq_false.1 HQ2.out.symm x hx
    simpa using this
  · have := List.any_eq_false.1 HQ3.out.symm x hx
    simp only [Bool.not_eq_true, Bool.not_eq_false'] at this
    have := List.all_eq_true.1 this y hy
    simpa [in32, I32] using this
abbrev intsV (l : List Int) : List Value := l.map fun x => Value.int .i64 x
def evCells : List Ev4 → List Value
  | [] => []
  | e :: r => .int .i64 e.1 :: .int .i64 e.2.1 :: .int .i64 e.2.2.1 :: .int .i64 e.2.2.2 :: evCells r
theorem evCells_append : ∀ (l m : List Ev4), evCells (l ++ m) = evCells l ++ evCells m
  | [], m => rfl
  | e :: r, m => by simp [evCells, evCells_append r m]
/-- what a runner holds of its own in memory: the row of events, and the blocks of one who watches. -/
structure Ow where
  ev : Value
  X : Nat → Prop
def Ow.at (E : Ow) (k : Nat) : Prop := E.ev.ownBlock = some k ∨ E.X k
/-- the runner's own blocks. -/
def Yb (br b1 b2 : Nat) (ev : Value) (k : Nat) : Prop := k = br ∨ k = b1 ∨ k = b2 ∨ ev.ownBlock = some k
/-- one who watches: what it holds in memory (with blocks X of its own, apart from Y's), and what holds of it at a depth. -/
structure ObsI where
  fn : FuncId
  cap : List Value
  ent : ∀ (args : Array Value) (w : World), (callFunc fn args).run Try.prog w = .ok (.enter fn args) w
  ob : Ob
  In : (Nat → Prop) → WSt → (Nat → Prop) → World → Prop
  ok : Nat → WSt → Prop
  lt : ∀ {Y s X w}, In Y s X w → ∀ k, X k → k < w.heap.size ∧ ¬ Y k
  kept : ∀ {Y Y' s X w w'}, In Y s X w → w'.os = w.os → w'.tape = w.tape → w'.output = w.output → w.heap.size ≤ w'.heap.size → (∀ k, k < w.heap.size → ¬ Y k → w'.heap[k]? = w.heap[k]?) → (∀ k, Y' k → Y k ∨ w.heap.size ≤ k) → In Y' s X w'
  less : ∀ {dp s}, ok (dp + 1) s → ok dp s

structure RnG (I : ObsI) (B : Nat) (R : List Value) (br b1 b2 b3 : Nat) (fl : List Int) (dp : Nat) (st : RSt) (ev : Ow) (w : World) : Prop where
  row : RowAt (ev.ev :: .slice (some ⟨b1, 0, none⟩) st.vars.length st.vars.length :: .slice (some ⟨b2, 0, none⟩) st.taken.length st.taken.length :: .int .i64 (st.steps : Int) :: .int .i64 st.en :: .int .i64 st.sp :: (R ++ [.int .i64 (dp : Int), .func (.func I.fn) #[] I.cap.toArray])) w br
  vars : RowAt (intsV st.vars) w b1
  taken : RowAt (intsV st.taken) w b2
  first : RowAt (intsV fl) w b3
  own : w.ownsRow B 71 4 ev.ev st.ev.length (evCells st.ev)
  z0 : ∀ j, w.frozen? ⟨br, j, none⟩ = false
  z1 : ∀ j, w.frozen? ⟨b1, j, none⟩ = false
  z2 : ∀ j, w.frozen? ⟨b2, j, none⟩ = false
  apart : br ≠ b1 ∧ br ≠ b2 ∧ b1 ≠ b2 ∧ b3 ≠ br ∧ b3 ≠ b1 ∧ b3 ≠ b2
  evA : ¬ ev.at br ∧ ¬ ev.at b1 ∧ ¬ ev.at b2 ∧ ¬ ev.at b3
  lo : B ≤ br ∧ B ≤ b1 ∧ B ≤ b2
  hi : br < w.heap.size ∧ b1 < w.heap.size ∧ b2 < w.heap.size ∧ b3 < w.heap.size ∧ B ≤ w.heap.size
  ob : I.In (Yb br b1 b2 ev.ev) st.o ev.X w
  xlo : ∀ k, ev.X k → B ≤ k
  okd : I.ok dp st.o

theorem RnG.ev' {I : ObsI} {B : Nat} {R : List Value} {br b1 b2 b3 : Nat} {fl : List Int} {dp : Nat} {st : RSt} {ev : Ow} {w : World} (h : RnG I B R br b1 b2 b3 fl dp st ev w) : ∀ k, ev.at k → B ≤ k ∧ k < w.heap.size := fun k hk => by
  rcases hk with hk | hk
  · exact h.own.lt k hk
  · exact ⟨h.xlo k hk, (I.lt h.ob k hk).1⟩

theorem RnG.over {I : ObsI} {B : Nat} {R : List Value} {br b1 b2 b3 : Nat} {fl : List Int} {dp : Nat} {st : RSt} {ev : Ow} {w w' : World} (h : RnG I B R br b1 b2 b3 fl dp st ev w) (hb : Below w.heap.size w w') : RnG I B R br b1 b2 b3 fl dp st ev w' := by
  obtain ⟨hc, hf⟩ := bcell hb
  have hs := hb.size
  refine ⟨h.row.over hb, h.vars.over hb, h.taken.over hb, h.first.over hb, ?_, fun j => (hf _ _ h.hi.1).trans (h.z0 j), fun j => (hf _ _ h.hi.2.1).trans (h.z1 j), fun j => (hf _ _ h.hi.2.2.1).trans (h.z2 j), h.apart, h.evA, h.lo, ⟨by have := h.hi; omega, by have := h.hi; omega, by have := h.hi; omega, by have := h.hi; omega, by have := h.hi; omega⟩, I.kept h.ob hb.os hb.tape hb.output hb.size (fun k hk _ => hb.block k hk) (fun k hk => Or.inl hk), h.xlo, h.okd⟩
  have hg : w.grownBy w' none := ⟨hb.os, hb.tape, hb.output, hb.size, fun k hk _ => hb.block k hk⟩
  exact h.own.kept hg (by cases hv : ev.ev.ownBlock <;> simp)

/-- what is kept while it runs. -/
structure Fr (br b1 b2 : Nat) (ev ev' : Ow) (w w' : World) : Prop where
  os : w'.os = w.os
  tape : w'.tape = w.tape
  output : w'.output = w.output
  size : w.heap.size ≤ w'.heap.size
  block : ∀ k, k < w.heap.size → k ≠ br → k ≠ b1 → k ≠ b2 → ¬ ev.at k → w'.heap[k]? = w.heap[k]?
  evB : ∀ k, ev'.at k → ev.at k ∨ w.heap.size ≤ k
theorem Fr.of_below {br b1 b2 : Nat} {ev : Ow} {w w' : World} (h : Below w.heap.size w w') : Fr br b1 b2 ev ev w w' := ⟨h.os, h.tape, h.output, h.size, fun k hk _ _ _ _ => h.block k hk, fun k hk => Or.inl hk⟩
theorem Fr.refl (br b1 b2 : Nat) (ev : Ow) (w : World) : Fr br b1 b2 ev ev w w := Fr.of_below (Below.refl _ _)
theorem Fr.trans {br b1 b2 : Nat} {ev ev1 ev2 : Ow} {w w1 w2 : World} (h : Fr br b1 b2 ev ev1 w w1) (k : Fr br b1 b2 ev1 ev2 w1 w2) : Fr br b1 b2 ev ev2 w w2 := by
  refine ⟨k.os.trans h.os, k.tape.trans h.tape, k.output.trans h.output, Nat.le_trans h.size k.size, fun i hi h0 h1 h2 h3 => ?_, fun i hi => ?_⟩
  · refine (k.block i (Nat.lt_of_lt_of_le hi h.size) h0 h1 h2 (fun hx => ?_)).trans (h.block i hi h0 h1 h2 h3)
    rcases h.evB i hx with he | he
    · exact h3 he
    · omega
  · rcases k.evB i hi with he | he
    · exact h.evB i he
    · exact Or.inr (Nat.le_trans h.size he)
theorem Fr.over {br b1 b2 : Nat} {ev ev1 : Ow} {w w1 w2 : World} (h : Fr br b1 b2 ev ev1 w w1) (k : Below w1.heap.size w1 w2) : Fr br b1 b2 ev ev1 w w2 := h.trans (Fr.of_below k)
theorem Fr.cell {br b1 b2 : Nat} {ev ev' : Ow} {w w' : World} (h : Fr br b1 b2 ev ev' w w') {b j : Nat} {u : Value} (hc : w.cell? ⟨b, j, none⟩ = some u) (h0 : b ≠ br) (h1 : b ≠ b1) (h2 : b ≠ b2) (h3 : ¬ ev.at b) : w'.cell? ⟨b, j, none⟩ = some u :=
  (World.cell?_of_block (h.block b (World.block_lt_of_cell? w _ hc) h0 h1 h2 h3)).trans hc
theorem Fr.frozen {br b1 b2 : Nat} {ev ev' : Ow} {w w' : World} (h : Fr br b1 b2 ev ev' w w') {b j : Nat} (hb : b < w.heap.size) (h0 : b ≠ br) (h1 : b ≠ b1) (h2 : b ≠ b2) (h3 : ¬ ev.at b) : w'.frozen? ⟨b, j, none⟩ = w.frozen? ⟨b, j, none⟩ :=
  World.frozen?_of_block (h.block b hb h0 h1 h2 h3)

section
variable {I : ObsI} {B : Nat} {R : List Value} {br b1 b2 b3 : Nat} {fl : List Int} {dp : Nat} {st : RSt} {ev : Ow} {w : World}

/-- what lay there ahead of all is as it was. -/
theorem RnG.below {ev' : Ow} {w' : World} (h : RnG I B R br b1 b2 b3 fl dp st ev w) (f : Fr br b1 b2 ev ev' w w') : Below B w w' :=
  ⟨f.os, f.tape, f.output, f.size, fun k hk => f.block k (by have := h.hi; omega) (by have := h.lo; omega) (by have := h.lo; omega) (by have := h.lo; omega) (fun hx => by have := (h.ev' k hx).1; omega)⟩

/-- a box made later is kept. -/
theorem RnG.box {ev' : Ow} {w1 w2 : World} {b j : Nat} {u : Value} (h : RnG I B R br b1 b2 b3 fl dp st ev w) (f : Fr br b1 b2 ev ev' w1 w2) (hb : w.heap.size ≤ b) (hc : w1.cell? ⟨b, j, none⟩ = some u) : w2.cell? ⟨b, j, none⟩ = some u := by
  have := h.hi
  exact f.cell hc (by omega) (by omega) (by omega) (fun hx => by have := (h.ev' b hx).2; omega)

theorem RnG.ints (h : RnG I B R br b1 b2 b3 fl dp st ev w) : IsInts w (.slice (some ⟨b1, 0, none⟩) st.vars.length st.vars.length) st.vars := by
  refine ⟨_, _, rfl, fun _ => ⟨b1, 0, rfl, fun i hi => ?_⟩⟩
  rw [Nat.zero_add]
  exact h.vars i _ (by simp [hi])

theorem grow_set1 {r j : Nat} {u : Value} : w.grownBy (w.setCell ⟨r, j, none⟩ u) (some r) := grow_set (n := 0)
theorem frozen_set {a b j k : Nat} {u : Value} : (w.setCell ⟨a, j, none⟩ u).frozen? ⟨b, k, none⟩ = w.frozen? ⟨b, k, none⟩ := by simp [go_sem]
/-- who watches, behind a store of the runner's. -/
theorem RnG.obSet (h : RnG I B R br b1 b2 b3 fl dp st ev w) (r j : Nat) (u : Value) (hr : r = br ∨ r = b1 ∨ r = b2) : I.In (Yb br b1 b2 ev.ev) st.o ev.X (w.setCell ⟨r, j, none⟩ u) :=
  have g := grow_set1 (w := w) (r := r) (j := j) (u := u)
  I.kept h.ob g.os g.tape g.output g.size (fun k hk hy => g.block k hk (fun e => hy (by
    have e := Option.some.inj e
    rcases hr with hr | hr | hr
    · exact Or.inl (by omega)
    · exact Or.inr (Or.inl (by omega))
    · exact Or.inr (Or.inr (Or.inl (by omega)))))) (fun k hk => Or.inl hk)

/-- a store into the row itself. -/
theorem RnG.set0 (h : RnG I B R br b1 b2 b3 fl dp st ev w) (j : Nat) (u : Value) {dp' : Nat} {st' : RSt} (hv : st'.vars = st.vars) (ht : st'.taken = st.taken) (he : st'.ev = st.ev) (ho : st'.o = st.o) (hd : I.ok dp' st.o) (hj : j < 8 + R.length)
    (hr : (ev.ev :: .slice (some ⟨b1, 0, none⟩) st.vars.length st.vars.length :: .slice (some ⟨b2, 0, none⟩) st.taken.length st.taken.length :: .int .i64 (st.steps : Int) :: .int .i64 st.en :: .int .i64 st.sp :: (R ++ [.int .i64 (dp : Int), .func (.func I.fn) #[] I.cap.toArray])).set j u = ev.ev :: .slice (some ⟨b1, 0, none⟩) st.vars.length st.vars.length :: .slice (some ⟨b2, 0, none⟩) st.taken.length st.taken.length :: .int .i64 (st'.steps : Int) :: .int .i64 st'.en :: .int .i64 st'.sp :: (R ++ [.int .i64 (dp' : Int), .func (.func I.fn) #[] I.cap.toArray])) :
    RnG I B R br b1 b2 b3 fl dp' st' ev (w.setCell ⟨br, j, none⟩ u) := by
  obtain ⟨a1, a2, a3, a4, a5, a6⟩ := h.apart
  refine ⟨?_, ?_, ?_, h.first.other a4, ?_, fun k => frozen_set.trans (h.z0 k), fun k => frozen_set.trans (h.z1 k), fun k => frozen_set.trans (h.z2 k), h.apart, h.evA, h.lo, by simpa [World.setCell] using h.hi, ?_, h.xlo, ?_⟩
  · rw [hv, ht, ← hr]
    exact h.row.set (by simp; omega)
  · rw [hv]; exact h.vars.other (Ne.symm a1)
  · rw [ht]; exact h.taken.other (Ne.symm a2)
  · rw [he]; exact h.own.kept grow_set1 (Or.inr (fun hx => h.evA.1 (Or.inl hx)))
  · rw [ho]; exact h.obSet br j u (Or.inl rfl)
  · rw [ho]; exact hd

theorem RnG.setStep (h : RnG I B R br b1 b2 b3 fl dp st ev w) : RnG I B R br b1 b2 b3 fl dp st.step ev (w.setCell ⟨br, 3, none⟩ (.int .i64 ((st.steps : Int) + 1))) :=
  h.set0 3 _ rfl rfl rfl rfl h.okd (by omega) (by simp [RSt.step])
theorem RnG.setEnd (h : RnG I B R br b1 b2 b3 fl dp st ev w) (en' : Int) : RnG I B R br b1 b2 b3 fl dp { st with en := en' } ev (w.setCell ⟨br, 4, none⟩ (.int .i64 en')) :=
  h.set0 4 _ rfl rfl rfl rfl h.okd (by omega) (by simp)
theorem RnG.setStop (h : RnG I B R br b1 b2 b3 fl dp st ev w) (a : Int) : RnG I B R br b1 b2 b3 fl dp { st with sp := a } ev (w.setCell ⟨br, 5, none⟩ (.int .i64 a)) :=
  h.set0 5 _ rfl rfl rfl rfl h.okd (by omega) (by simp)

theorem fr_set0 (h : RnG I B R br b1 b2 b3 fl dp st ev w) (j : Nat) (u : Value) : Fr br b1 b2 ev ev w (w.setCell ⟨br, j, none⟩ u) :=
  have g := grow_set1 (w := w) (r := br) (j := j) (u := u)
  ⟨g.os, g.tape, g.output, g.size, fun k hk h0 _ _ _ => g.block k hk (by simpa using h0), fun k hk => Or.inl hk⟩
theorem fr_set1 (h : RnG I B R br b1 b2 b3 fl dp st ev w) (j : Nat) (u : Value) : Fr br b1 b2 ev ev w (w.setCell ⟨b1, j, none⟩ u) :=
  have g := grow_set1 (w := w) (r := b1) (j := j) (u := u)
  ⟨g.os, g.tape, g.output, g.size, fun k hk _ h0 _ _ => g.block k hk (by simpa using h0), fun k hk => Or.inl hk⟩
theorem fr_set2 (h : RnG I B R br b1 b2 b3 fl dp st ev w) (j : Nat) (u : Value) : Fr br b1 b2 ev ev w (w.setCell ⟨b2, j, none⟩ u) :=
  have g := grow_set1 (w := w) (r := b2) (j := j) (u := u)
  ⟨g.os, g.tape, g.output, g.size, fun k hk _ _ h0 _ => g.block k hk (by simpa using h0), fun k hk => Or.inl hk⟩

theorem RnG.setVar (h : RnG I B R br b1 b2 b3 fl dp st ev w) (v x : Int) (hv : v.toNat < st.vars.length) : RnG I B R br b1 b2 b3 fl dp (st.setv v x) ev (w.setCell ⟨b1, v.toNat, none⟩ (.int .i64 x)) := by
  obtain ⟨a1, a2, a3, a4, a5, a6⟩ := h.apart
  refine ⟨?_, ?_, h.taken.other (Ne.symm a3), h.first.other a5, h.own.kept grow_set1 (Or.inr (fun hx => h.evA.2.1 (Or.inl hx))), fun k => frozen_set.trans (h.z0 k), fun k => frozen_set.trans (h.z1 k), fun k => frozen_set.trans (h.z2 k), h.apart, h.evA, h.lo, by simpa [World.setCell] using h.hi, h.obSet b1 _ _ (Or.inr (Or.inl rfl)), h.xlo, h.okd⟩
  · have := h.row.other (j := v.toNat) (v := .int .i64 x) a1
    simpa [RSt.setv] using this
  · have := h.vars.set (j := v.toNat) (v := .int .i64 x) (by simpa using hv)
    simpa [RSt.setv, intsV] using this

theorem RnG.setTaken (h : RnG I B R br b1 b2 b3 fl dp st ev w) (c : Nat) (x : Int) (hv : c < st.taken.length) : RnG I B R br b1 b2 b3 fl dp { st with taken := st.taken.set c x } ev (w.setCell ⟨b2, c, none⟩ (.int .i64 x)) := by
  obtain ⟨a1, a2, a3, a4, a5, a6⟩ := h.apart
  refine ⟨?_, h.vars.other a3, ?_, h.first.other a6, h.own.kept grow_set1 (Or.inr (fun hx => h.evA.2.2.1 (Or.inl hx))), fun k => frozen_set.trans (h.z0 k), fun k => frozen_set.trans (h.z1 k), fun k => frozen_set.trans (h.z2 k), h.apart, h.evA, h.lo, by simpa [World.setCell] using h.hi, h.obSet b2 _ _ (Or.inr (Or.inr rfl)), h.xlo, h.okd⟩
  · have := h.row.other (j := c) (v := .int .i64 x) a2
    simpa using this
  · have := h.taken.set (j := c) (v := .int .i64 x) (by simpa using hv)
    simpa [intsV] using this

/-- an event more: behind the append, ahead of the store. -/
theorem RnG.grown {v' : Value} {w' : World} (h : RnG I B R br b1 b2 b3 fl dp st ev w) (e : Ev4) (hg : w.grownBy w' ev.ev.ownBlock) (ho : w'.ownsRow B 71 4 v' (st.ev.length + 1) (evCells st.ev ++ evCells [e])) (hat : v'.ownBlock = ev.ev.ownBlock ∨ v'.ownBlock = some w.heap.size) :
    RnG I B R br b1 b2 b3 fl dp (st.tell e) ⟨v', ev.X⟩ (w'.setCell ⟨br, 0, none⟩ v') ∧ Fr br b1 b2 ev ⟨v', ev.X⟩ w (w'.setCell ⟨br, 0, none⟩ v') := by
  obtain ⟨a1, a2, a3, a4, a5, a6⟩ := h.apart
  have e1 : ev.ev.ownBlock ≠ some br := fun hx => h.evA.1 (Or.inl hx)
  have e2 : ev.ev.ownBlock ≠ some b1 := fun hx => h.evA.2.1 (Or.inl hx)
  have e3 : ev.ev.ownBlock ≠ some b2 := fun hx => h.evA.2.2.1 (Or.inl hx)
  have e4 : ev.ev.ownBlock ≠ some b3 := fun hx => h.evA.2.2.2 (Or.inl hx)
  have hi := h.hi
  have hk : ∀ b, b < w.heap.size → ev.ev.ownBlock ≠ some b → w'.heap[b]? = w.heap[b]? := fun b hb hne => hg.block b hb (fun hx => hne hx.symm)
  have hrow : ∀ (cs : List Value) (b : Nat), RowAt cs w b → b < w.heap.size → ev.ev.ownBlock ≠ some b → RowAt cs w' b := fun cs b hr hb hne j u hu => (World.cell?_of_block (hk b hb hne)).trans (hr j u hu)
  have hne : ∀ b, b < w.heap.size → ev.ev.ownBlock ≠ some b → v'.ownBlock ≠ some b := fun b hb hx => by
    rcases hat with h1 | h1
    · rw [h1]; exact hx
    · rw [h1]; intro hy; injection hy; omega
  have hnx : ∀ b, b < w.heap.size → ¬ ev.at b → ¬ (Ow.mk v' ev.X).at b := fun b hb hx hy => by
    rcases hy with hy | hy
    · exact hne b hb (fun q => hx (Or.inl q)) hy
    · exact hx (Or.inr hy)
  have hz : ∀ b k, b < w.heap.size → ev.ev.ownBlock ≠ some b → w'.frozen? ⟨b, k, none⟩ = w.frozen? ⟨b, k, none⟩ := fun b k hb hx => World.frozen?_of_block (hk b hb hx)
  have hs := hg.size
  have g := grow_set1 (w := w') (r := br) (j := 0) (u := v')
  constructor
  · refine ⟨?_, (hrow _ _ h.vars hi.2.1 e2).other (Ne.symm a1), (hrow _ _ h.taken hi.2.2.1 e3).other (Ne.symm a2), (hrow _ _ h.first hi.2.2.2.1 e4).other a4, ?_, fun k => frozen_set.trans ((hz _ _ hi.1 e1).trans (h.z0 k)), fun k => frozen_set.trans ((hz _ _ hi.2.1 e2).trans (h.z1 k)), fun k => frozen_set.trans ((hz _ _ hi.2.2.1 e3).trans (h.z2 k)), h.apart, ⟨hnx _ hi.1 h.evA.1, hnx _ hi.2.1 h.evA.2.1, hnx _ hi.2.2.1 h.evA.2.2.1, hnx _ hi.2.2.2.1 h.evA.2.2.2⟩, h.lo, by simp [World.setCell]; omega, ?_, h.xlo, h.okd⟩
    · have := (hrow _ _ h.row hi.1 e1).set (j := 0) (v := v') (by simp)
      simpa [RSt.tell] using this
    · have hl : (st.tell e).ev.length = st.ev.length + 1 := by simp [RSt.tell]
      have hc : evCells (st.tell e).ev = evCells st.ev ++ evCells [e] := evCells_append _ _
      rw [hl, hc]
      exact ho.kept grow_set1 (Or.inr (hne _ hi.1 e1))
    · refine I.kept h.ob (g.os.trans hg.os) (g.tape.trans hg.tape) (g.output.trans hg.output) (Nat.le_trans hg.size g.size) (fun k hk2 hy => (g.block k (by omega) (fun q => hy (Or.inl (Option.some.inj q)))).trans (hk k hk2 (fun q => hy (Or.inr (Or.inr (Or.inr q)))))) (fun k hy => ?_)
      rcases hy with hy | hy | hy | hy
      · exact Or.inl (Or.inl hy)
      · exact Or.inl (Or.inr (Or.inl hy))
      · exact Or.inl (Or.inr (Or.inr (Or.inl hy)))
      · rcases hat with h1 | h1
        · rw [h1] at hy; exact Or.inl (Or.inr (Or.inr (Or.inr hy)))
        · rw [h1] at hy; injection hy with hy; exact Or.inr (by omega)
  · refine ⟨g.os.trans hg.os, g.tape.trans hg.tape, g.output.trans hg.output, Nat.le_trans hg.size g.size, fun k hk2 h0 _ _ h3 => (g.block k (by omega) (by simpa using h0)).trans (hk k hk2 (fun q => h3 (Or.inl q))), fun k hy => ?_⟩
    rcases hy with hy | hy
    · rcases hat with h1 | h1
      · exact Or.inl (Or.inl (h1 ▸ hy))
      · have hy : v'.ownBlock = some k := hy
        rw [h1] at hy; injection hy with hy; exact Or.inr (by omega)
    · exact Or.inl (Or.inr hy)
end

/-- numbers that are right. -/
structure NumOk (nv ni F : Nat) (st : RSt) : Prop where
  vl : st.vars.length = nv
  tl : st.taken.length = ni
  i32 : ∀ x ∈ st.vars, I32 x
  tk : ∀ x ∈ st.taken, 0 ≤ x ∧ x ≤ (st.steps : Int)
  el : st.ev.length ≤ st.steps
  sb : st.steps ≤ F
theorem NumOk.step {nv ni F : Nat} {st : RSt} (h : NumOk nv ni F st) (hs : st.steps < F) : NumOk nv ni F st.step :=
  ⟨h.vl, h.tl, h.i32, fun x hx => ⟨(h.tk x hx).1, by have := (h.tk x hx).2; simp [RSt.step]; omega⟩, Nat.le_succ_of_le h.el, hs⟩
theorem NumOk.out {nv ni F : Nat} {st : RSt} (h : NumOk nv ni F st) : NumOk nv ni F st.out := ⟨h.vl, h.tl, h.i32, h.tk, h.el, h.sb⟩
theorem NumOk.pass {nv ni F : Nat} {st : RSt} (h : NumOk nv ni F st) (ob : Ob) (kind : Nat) (a : Int) (dp : Nat) (d : D) : NumOk nv ni F (passR ob kind a dp d st).2 := by
  unfold passR
  split
  · exact ⟨h.vl, h.tl, h.i32, h.tk, h.el, h.sb⟩
  · exact ⟨h.vl, h.tl, h.i32, h.tk, h.el, h.sb⟩
theorem mem_set {l : List Int} {i : Nat} {x y : Int} (h : y ∈ l.set i x) : y = x ∨ y ∈ l := by
  rcases List.mem_or_eq_of_mem_set h with h | h
  · exact Or.inr h
  · exact Or.inl h
theorem NumOk.setv {nv ni F : Nat} {st : RSt} (h : NumOk nv ni F st) {v x : Int} (hx : I32 x) : NumOk nv ni F (st.setv v x) :=
  ⟨by simp [RSt.setv, h.vl], h.tl, fun y hy => by rcases mem_set hy with rfl | hy; exact hx; exact h.i32 y hy, h.tk, h.el, h.sb⟩
theorem NumOk.tell {nv ni F : Nat} {st : RSt} (h : NumOk nv ni F st) (e : Ev4) (hl : st.ev.length < st.steps) : NumOk nv ni F (st.tell e) :=
  ⟨h.vl, h.tl, h.i32, h.tk, by simp [RSt.tell]; omega, h.sb⟩
theorem NumOk.took {nv ni F : Nat} {st : RSt} (h : NumOk nv ni F st) (hs : st.steps < F) (c : Int) : NumOk nv ni F (st.step.took c) := by
  refine ⟨h.vl, by simp [RSt.took, RSt.step, h.tl], h.i32, fun y hy => ?_, Nat.le_succ_of_le h.el, hs⟩
  have hst : (st.step.took c).steps = st.steps + 1 := rfl
  rw [hst]
  rcases mem_set hy with rfl | hy
  · have : st.step.taken.getD c.toNat 0 = 0 ∨ st.step.taken.getD c.toNat 0 ∈ st.taken := by
      rw [List.getD_eq_getElem?_getD]
      cases hc : st.step.taken[c.toNat]? with
      | none => exact Or.inl rfl
      | some x => exact Or.inr (List.mem_of_getElem? hc)
    rcases this with hz | hz
    · rw [hz]; omega
    · have := h.tk _ hz; omega
  · have := h.tk y hy; omega
/-- numbers that are right behind a step. -/
structure NumS (nv ni F : Nat) (st : RSt) : Prop where
  ok : NumOk nv ni F st
  el : st.ev.length < st.steps
  tk : ∀ x ∈ st.taken, x + 1 ≤ (st.steps : Int)
theorem NumOk.stepS {nv ni F : Nat} {st : RSt} (h : NumOk nv ni F st) (hs : st.steps < F) : NumS nv ni F st.step :=
  ⟨h.step hs, Nat.lt_succ_of_le h.el, fun x hx => by have := (h.tk x hx).2; show x + 1 ≤ ((st.steps + 1 : Nat) : Int); omega⟩
theorem NumS.pass {nv ni F : Nat} {st : RSt} (h : NumS nv ni F st) (ob : Ob) (kind : Nat) (a : Int) (dp : Nat) (d : D) : NumS nv ni F (passR ob kind a dp d st).2 := by
  refine ⟨h.ok.pass ob kind a dp d, ?_, ?_⟩
  · unfold passR
    split
    · exact h.el
    · exact h.el
  · unfold passR
    split
    · exact h.tk
    · exact h.tk
theorem NumS.took {nv ni F : Nat} {st : RSt} (h : NumS nv ni F st) (c : Int) : NumOk nv ni F (st.took c) := by
  refine ⟨h.ok.vl, by simp [RSt.took, h.ok.tl], h.ok.i32, fun y hy => ?_, h.ok.el, h.ok.sb⟩
  have hst : (st.took c).steps = st.steps := rfl
  rw [hst]
  rcases mem_set hy with rfl | hy
  · have : st.taken.getD c.toNat 0 = 0 ∨ st.taken.getD c.toNat 0 ∈ st.taken := by
      rw [List.getD_eq_getElem?_getD]
      cases hc : st.taken[c.toNat]? with
      | none => exact Or.inl rfl
      | some x => exact Or.inr (List.mem_of_getElem? hc)
    rcases this with hz | hz
    · have := h.el; rw [hz]; omega
    · have := h.ok.tk _ hz; have := h.tk _ hz; omega
  · exact h.ok.tk y hy
theorem NumS.tell {nv ni F : Nat} {st : RSt} (h : NumS nv ni F st) (e : Ev4) : NumOk nv ni F (st.tell e) := h.ok.tell e h.el
theorem NumS.setv {nv ni F : Nat} {st : RSt} (h : NumS nv ni F st) {v x : Int} (hx : I32 x) : NumS nv ni F (st.setv v x) := ⟨h.ok.setv hx, h.el, h.tk⟩
theorem held2 {w w0 w1 : World} {a0 a1 : Addr} {v0 v1 : Value} (h : w0.cell? a0 = some v0 ∧ w0.cell? a1 = some v1 ∧ Below w.heap.size w w0) (hb : Below w0.heap.size w0 w1) :
    w1.cell? a0 = some v0 ∧ w1.cell? a1 = some v1 ∧ Below w.heap.size w w1 := ⟨cell_over hb _ _ h.1, cell_over hb _ _ h.2.1, over_trans h.2.2 hb⟩

set_option maxHeartbeats 2000000 in
set_option maxRecDepth 100000 in
theorem size_node (kd va ot ek en : Int) (xa : Option Addr) (xl xc : Nat) (aa : Option Addr) (al ac : Nat) (ta : Option Addr) (tl tc : Nat) (ea : Option Addr) (el ec : Nat) (n1 n2 : Int) (w : World) (h1 : 0 ≤ n1 ∧ n1 ≤ 100) (h2 : 0 ≤ n2 ∧ n2 ≤ 100)
    (KT : Hid (∀ W, Below w.heap.size w W → Calls Try.prog 101 #[.slice ta tl tc] W fun e w' => e = .returned (.int .i64 n1) ∧ Below W.heap.size W w'))
    (KE : Hid (∀ W, Below w.heap.size w W → Calls Try.prog 101 #[.slice ea el ec] W fun e w' => e = .returned (.int .i64 n2) ∧ Below W.heap.size W w')) :
    Calls Try.prog 105 #[.agg #[.int .i64 kd, .int .i64 va, .int .i64 ot, .int .i64 ek, .int .i64 en, .slice xa xl xc, .slice aa al ac, .slice ta tl tc, .slice ea el ec]] w fun e w' => e = .returned (.int .i64 (1 + n1 + n2)) ∧ Below w.heap.size w w' := by
  have hbel : Below w.heap.size w (w.alloc (.cells #[.int .i64 kd, .int .i64 va, .int .i64 ot, .int .i64 ek, .int .i64 en, .slice xa xl xc, .slice aa al ac, .slice ta tl tc, .slice ea el ec] 78)) := (Below.refl _ w).alloc (Nat.le_refl _) _
  have q7 : (w.alloc (.cells #[.int .i64 kd, .int .i64 va, .int .i64 ot, .int .i64 ek, .int .i64 en, .slice xa xl xc, .slice aa al ac, .slice ta tl tc, .slice ea el ec] 78)).cell? ⟨w.heap.size, 7, none⟩ = some (.slice ta tl tc) := by simp [go_sem]
  have q8 : (w.alloc (.cells #[.int .i64 kd, .int .i64 va, .int .i64 ot, .int .i64 ek, .int .i64 en, .slice xa xl xc, .slice aa al ac, .slice ta tl tc, .slice ea el ec] 78)).cell? ⟨w.heap.size, 8, none⟩ = some (.slice ea el ec) := by simp [go_sem]
  obtain ⟨a1, a2⟩ := h1
  obtain ⟨a3, a4⟩ := h2
  go_enter Try.func105, Try.ntmps105
  go_wp2_with fail
  go_region_held3 (fun W => W.cell? ⟨w.heap.size, 7, none⟩ = some (.slice ta tl tc) ∧ W.cell? ⟨w.heap.size, 8, none⟩ = some (.slice ea el ec) ∧ Below w.heap.size w W) (first | assumption | exact ⟨q7, q8, below_drewN hbel 1⟩ | exact held2 (by assumption) hbp | exact held2 (by assumption) hbq | fail) (first | (go_at_call_of 101 (Value.slice ta tl tc); refine (KT.out _ (by assumption : _ ∧ _ ∧ Below _ _ _).2.2).mono ?_; rintro e wp ⟨rfl, hbp⟩) | (go_at_call_of 101 (Value.slice ea el ec); refine (KE.out _ (by assumption : _ ∧ _ ∧ Below _ _ _).2.2).mono ?_; rintro e wq ⟨rfl, hbq⟩))
  obtain ⟨-, -, hB⟩ := (by assumption : _ ∧ _ ∧ Below _ _ _)
  have HW : Hid (IntKind.i64.wrap (IntKind.i64.wrap (1 + n1) + n2) = 1 + n1 + n2) := by
    show _ = _
    rw [IntWalk.i64_in (1 + n1) (by omega), IntWalk.i64_in _ (by omega)]
  clear q7 q8 hbel KT KE
  go_wp2_with fail
  go_ret
  refine ⟨?_, hB⟩
  first | rfl | (rw [← HW.out]; rfl)

/-- how many there are, if one knows of each of them. -/
def ManyOk (K k : Nat) : Prop := ∀ (v : Value) (l : List D) (w : World), StmtsAt w K k v l → cnts k l ≤ 100 → Calls Try.prog 101 #[v] w fun e w' => e = .returned (.int .i64 (cnts k l : Nat)) ∧ Below w.heap.size w w'
def SizeOk (K k : Nat) : Prop := ∀ (cs : List Value) (d : D) (w : World), RS w K k cs d → cntS k d ≤ 100 → Calls Try.prog 105 #[.agg cs.toArray] w fun e w' => e = .returned (.int .i64 (cntS k d : Nat)) ∧ Below w.heap.size w w'

theorem size_succ (K k : Nat) (h : ManyOk K k) : SizeOk K (k + 1) := by
  intro cs d w hr hc
  have hcn : cntS (k + 1) d = 1 + cnts k (sThen d) + cnts k (sElse d) := rfl
  obtain ⟨ek, en, xa, xl, xc, aa, ac, ta, tc, ea, ec, rfl, -, -, -, -, -, hT, hE, -, -, -⟩ := hr.form
  rw [hcn] at hc ⊢
  have := size_node (sKind d) (sVar d) (sOther d) ek en xa xl xc aa (sArgs d).length ac ta (sThen d).length tc ea (sElse d).length ec (cnts k (sThen d) : Nat) (cnts k (sElse d) : Nat) w (by omega) (by omega)
    (hide fun W hW => h _ _ W (hT.over hW) (by omega)) (hide fun W hW => h _ _ W (hE.over hW) (by omega))
  push_cast
  exact this

set_option maxHeartbeats 2000000 in
set_option maxRecDepth 100000 in
theorem many_of (K k : Nat) (h : SizeOk K k) : ManyOk K k := by
  intro v l w hl hc
  have hlen : l.length ≤ 9223372036854775807 := hl.1
  obtain ⟨ao, cap, rfl, hcc⟩ := hl.2
  have HC := hide hcc
  have HS := hide h
  have HCN := hide hc
  clear hcc hl h hc
  go_enter Try.func101, Try.ntmps101
  go_wp2_with fail
  go_loopw [3, 8] (fun c i wr => ∃ j : Nat, j ≤ l.length ∧ i = .int .i64 j ∧ c = .int .i64 (cnts k (l.take j) : Nat) ∧ Below w.heap.size w wr) (fun _ i _ => l.length - (intOf i).toNat)
  case atStart => exact ⟨0, Nat.zero_le _, rfl, by simp [cnts], Below.refl _ w⟩
  case round =>
    obtain ⟨j, hj, rfl, rfl, hB⟩ := hrel
    by_cases hjl : j < l.length
    · obtain ⟨b, off, rfl, hcl⟩ := HC.out (by rintro rfl; simp at hjl)
      obtain ⟨cs, hl9, hcs, hr⟩ := hcl j l[j] (List.getElem?_eq_getElem hjl)
      have htk := cnts_take (k := k) hjl
      have hle : cnts k (l.take (j + 1)) ≤ 100 := by
        have e1 : cnts k l = cnts k (l.take (j + 1)) + cnts k (l.drop (j + 1)) := by
          unfold cnts
          rw [← List.sum_append, ← List.map_append, List.take_append_drop]
        have := HCN.out
        omega
      obtain ⟨k', rfl⟩ : ∃ k', k = k' + 1 := by
        cases k with
        | zero => exact hr.elim
        | succ k => exact ⟨k, rfl⟩
      have KZ := hide fun W (hW : Below w.heap.size w W) => HS.out cs l[j] W (RS.mono (cell_over hW) _ _ _ _ (Nat.le_refl _) hr) (by omega)
      obtain ⟨ek, en, xa, xl, xc, aa, ac, ta, tc, ea, ec, hcse, -, -, -, -, -, -, -, -, -, -⟩ := hr.form
      subst hcse
      obtain ⟨kd, hkd⟩ : ∃ q, q = sKind l[j] := ⟨_, rfl⟩
      obtain ⟨va, hva⟩ : ∃ q, q = sVar l[j] := ⟨_, rfl⟩
      obtain ⟨ot, hot⟩ : ∃ q, q = sOther l[j] := ⟨_, rfl⟩
      obtain ⟨al, hal⟩ : ∃ q, q = (sArgs l[j]).length := ⟨_, rfl⟩
      obtain ⟨tl, htl⟩ : ∃ q, q = (sThen l[j]).length := ⟨_, rfl⟩
      obtain ⟨el, hel⟩ : ∃ q, q = (sElse l[j]).length := ⟨_, rfl⟩
      rw [← hkd, ← hva, ← hot, ← hal, ← htl, ← hel] at hcs KZ
      obtain ⟨M, hM⟩ : ∃ M : Nat, M = cnts (k' + 1) (l.take j) := ⟨_, rfl⟩
      obtain ⟨N, hN⟩ : ∃ N : Nat, N = cntS (k' + 1) l[j] := ⟨_, rfl⟩
      rw [← hM, ← hN] at htk
      rw [← hN] at KZ
      rw [← hM]
      have HTK := hide htk
      have hMN : M + N ≤ 100 := by omega
      have q0 : wr.cell? ⟨b, off + j * 9, none⟩ = _ := cell_over hB _ _ (hcs 0 _ rfl)
      have q1 := cell_over hB _ _ (hcs 1 _ rfl)
      have q2 := cell_over hB _ _ (hcs 2 _ rfl)
      have q3 := cell_over hB _ _ (hcs 3 _ rfl)
      have q4 := cell_over hB _ _ (hcs 4 _ rfl)
      have q5 := cell_over hB _ _ (hcs 5 _ rfl)
      have q6 := cell_over hB _ _ (hcs 6 _ rfl)
      have q7 := cell_over hB _ _ (hcs 7 _ rfl)
      have q8 := cell_over hB _ _ (hcs 8 _ rfl)
      have hba : Below wr.heap.size wr (wr.alloc (.cells #[.int .i64 kd, .int .i64 va, .int .i64 ot, .int .i64 ek, .int .i64 en, .slice xa xl xc, .slice aa al ac, .slice ta tl tc, .slice ea el ec] 78)) := (Below.refl _ wr).alloc (Nat.le_refl _) _
      have hBa := hB.trans (hba.mono hB.size)
      have KZ' := hide (KZ.out _ hBa)
      clear hcs hcl hr hl9 hkd hva hot hal htl hel hM hN htk hle KZ HS
      go_wp2_with fail
      refine (KZ'.out).mono ?_
      rintro e w1 ⟨rfl, hb1⟩
      have hB1 := hBa.trans (hb1.mono hBa.size)
      clear KZ' hb1 hBa hba q0 q1 q2 q3 q4 q5 q6 q7 q8 hB
      go_wp2_with fail
      refine ⟨⟨j + 1, by omega, by go_num, ?_, hB1⟩, by simp [intOf]; omega⟩
      rw [HTK.out]
      simp
    · have hd : l.take j = l := List.take_of_length_le (by omega)
      rw [hd]
      go_wp2_with fail
      go_ret
      exact ⟨rfl, hB⟩

theorem many_any (K : Nat) : ∀ k, ManyOk K k
  | 0 => many_of K 0 (fun cs d w hr _ => hr.elim)
  | k + 1 => many_of K (k + 1) (size_succ K k (many_any K k))
theorem size_any (K : Nat) : ∀ k, SizeOk K k
  | 0 => fun cs d w hr _ => hr.elim
  | k + 1 => size_succ K k (many_any K k)
end Go.Proofs.Ytcbbjjenkommeaa.Ex
