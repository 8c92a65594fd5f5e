/- What the small run is asked for is right. -/
import Derived.Test.YtpbnmmgocpobcaaM20
import Derived.Test.YtpbnmmgocpobcaaM22
namespace Go.Proofs.Ytpbnmmgocpobcaa.Ex
open Go.RowKit
set_option linter.unusedVariables false

theorem call31 (args : Array Value) (w : World) : (callFunc 17 args).run Try.prog w = .ok (.enter 17 args) w := by simp [go_sem]
theorem call32 (args : Array Value) (w : World) : (callFunc 18 args).run Try.prog w = .ok (.enter 18 args) w := by simp [go_sem]

set_option maxHeartbeats 1000000 in
theorem isLong_one (by' : Nat) (w : World) : Calls Try.prog 17 #[.slice (some ⟨by', 0, none⟩) 1 1] w fun e w' => e = .returned (.bool false) ∧ w' = w := by
  go_enter Try.func17, Try.ntmps17
  go_wp2_with fail
  go_ret
  exact ⟨rfl, rfl⟩

theorem ints7 {by' : Nat} {w : World} (h : w.cell? ⟨by', 0, none⟩ = some (.int .i64 7)) : IsInts w (.slice (some ⟨by', 0, none⟩) 1 1) [7] := by
  refine ⟨some ⟨by', 0, none⟩, 1, rfl, fun _ => ⟨by', 0, rfl, fun i hi => ?_⟩⟩
  have hi0 : i = 0 := by simpa using hi
  subst hi0
  exact h

set_option maxHeartbeats 1000000 in
theorem hasBeyond_one (by' : Nat) (w : World) (h : w.cell? ⟨by', 0, none⟩ = some (.int .i64 7)) : Calls Try.prog 18 #[.slice (some ⟨by', 0, none⟩) 1 1] w fun e w' => e = .returned (.bool false) ∧ w' = w := by
  have K := hide (containsInts_any [7] _ w (ints7 h) (by simp))
  clear h
  go_enter Try.func18, Try.ntmps18
  go_wp2_with fail
  refine (K.out).mono ?_
  rintro e w1 ⟨rfl, rfl⟩
  go_wp2_with fail
  go_ret
  exact ⟨rfl, rfl⟩

set_option maxHeartbeats 1000000 in
theorem indexLists (F : FuncId) (bx by' : Nat) (w : World) (h : w.cell? ⟨bx, 0, none⟩ = some (.slice (some ⟨by', 0, none⟩) 1 1))
    (hF : Hid (Calls Try.prog F #[.slice (some ⟨by', 0, none⟩) 1 1] w fun e w' => e = .returned (.bool false) ∧ w' = w)) (hC : ∀ (args : Array Value) (w : World), (callFunc F args).run Try.prog w = .ok (.enter F args) w) :
    Calls Try.prog 29 #[.slice (some ⟨bx, 0, none⟩) 1 1, .func (.func F) #[] #[]] w fun e w' => e = .returned (.int .i64 (-1)) ∧ w' = w := by
  go_enter Try.func29, Try.ntmps29
  go_wp2_with fail
  go_loopw [8] (fun i wr => ∃ j : Int, 0 ≤ j ∧ j ≤ 1 ∧ i = .int .i64 j ∧ wr = w) (fun i _ => 1 - (intOf i).toNat)
  case atStart => exact ⟨0, by omega, by omega, rfl, rfl⟩
  case round =>
    obtain ⟨j, hj0, hj, rfl, hw⟩ := hrel
    have hw' := hw.symm
    subst hw'
    clear hw
    rcases (by omega : j = 0 ∨ j = 1) with rfl | rfl
    · go_wp2_with fail
      refine (hF.out).mono ?_
      rintro e w1 ⟨rfl, rfl⟩
      go_wp2_with fail
      exact ⟨⟨1, by omega, by omega, by first | rfl | go_num, by first | rfl | trivial⟩, by simp [intOf]⟩
    · go_wp2_with fail
      go_ret
      exact ⟨rfl, by first | rfl | trivial⟩

set_option maxHeartbeats 1000000 in
theorem containsLists (F : FuncId) (bx by' : Nat) (w : World) (h : w.cell? ⟨bx, 0, none⟩ = some (.slice (some ⟨by', 0, none⟩) 1 1))
    (hF : Hid (Calls Try.prog F #[.slice (some ⟨by', 0, none⟩) 1 1] w fun e w' => e = .returned (.bool false) ∧ w' = w)) (hC : ∀ (args : Array Value) (w : World), (callFunc F args).run Try.prog w = .ok (.enter F args) w) :
    Calls Try.prog 21 #[.slice (some ⟨bx, 0, none⟩) 1 1, .func (.func F) #[] #[]] w fun e w' => e = .returned (.bool false) ∧ w' = w := by
  have K := hide (indexLists F bx by' w h hF hC)
  go_enter Try.func21, Try.ntmps21
  go_wp2_with fail
  refine (K.out).mono ?_
  rintro e w1 ⟨rfl, rfl⟩
  go_wp2_with fail
  go_ret
  exact ⟨rfl, rfl⟩

/-- the small program with what comes in. -/
structure SmallIn (bi bo bv bm bx by' : Nat) (w : World) : Prop where
  prog : Small bi bo bv bm w
  lists : w.cell? ⟨bx, 0, none⟩ = some (.slice (some ⟨by', 0, none⟩) 1 1)
  seven : w.cell? ⟨by', 0, none⟩ = some (.int .i64 7)
theorem SmallIn.over {bi bo bv bm bx by' : Nat} {w w' : World} (h : SmallIn bi bo bv bm bx by' w) (hB : Below w.heap.size w w') : SmallIn bi bo bv bm bx by' w' :=
  ⟨h.prog.over hB, cell_over hB _ _ h.lists, cell_over hB _ _ h.seven⟩

set_option maxHeartbeats 4000000 in
set_option maxRecDepth 100000 in
theorem runCheck_small (bi bo bv bm bx by' : Nat) (w : World) (h : SmallIn bi bo bv bm bx by' w) : Calls Try.prog 9 #[smallV bi bo bv bm, .slice (some ⟨bx, 0, none⟩) 1 1, .int .i64 9] w fun e w' => e = .returned (.int .i64 0) ∧ Below w.heap.size w w' := by
  have hmf : ∀ (fn : Fn) (first cap : Array Value) (w : World), (Instr.makeFunc fn first cap).run Try.prog w = .ok (.func fn first cap) w := fun _ _ _ _ => rfl
  obtain ⟨W0, hW0⟩ : ∃ q, q = w.alloc (.cells (smallC bi bo bv bm).toArray 31) := ⟨_, rfl⟩
  have hbel : Below w.heap.size w W0 := by rw [hW0]; exact (Below.refl _ w).alloc (Nat.le_refl _) _
  have HC : Hid (RowAt (smallC bi bo bv bm) W0 w.heap.size) := by
    rw [hW0]
    exact RowAt.new _ 31 w
  have HS := hide (h.over hbel)
  have K1 := hide (scopeCheck_small bi bo bv bm W0 HS.out.prog)
  have K2 := hide fun W (hs : SmallIn bi bo bv bm bx by' W) => containsLists 17 bx by' W hs.lists (isLong_one by' W) call31
  have K3 := hide fun W (hs : SmallIn bi bo bv bm bx by' W) => containsLists 18 bx by' W hs.lists (hasBeyond_one by' W hs.seven) call32
  have HW := hide hW0
  clear hW0 h
  unfold smallV at K1 ⊢
  go_enter Try.func9, Try.ntmps9
  go_wp2_with fail
  have hw0 := HW.out
  change W0 = w.alloc (.cells #[.int .i64 1, .slice none 0 0, .slice none 0 0, .slice (some ⟨bi, 0, none⟩) 1 1, .slice (some ⟨bo, 0, none⟩) 1 1, .slice (some ⟨bv, 0, none⟩) 1 1, .slice none 0 0, .slice (some ⟨bm, 0, none⟩) 2 2] 31) at hw0
  rw [← hw0]
  clear hw0 HW
  refine (K1.out).mono ?_
  rintro e w1 ⟨rfl, hb1⟩
  have c3 := HC.out.over hb1 3 _ rfl
  have HS1 := hide (HS.out.over hb1)
  have hB1 := hbel.trans (hb1.mono hbel.size)
  clear hbel hb1 K1 HS HC
  go_wp2_with fail
  refine (K2.out _ HS1.out).mono ?_
  rintro e w2 ⟨rfl, rfl⟩
  go_wp2_with fail
  refine (K3.out _ HS1.out).mono ?_
  rintro e w2 ⟨rfl, rfl⟩
  go_wp2_with fail
  go_ret
  exact ⟨rfl, hB1⟩
end Go.Proofs.Ytpbnmmgocpobcaa.Ex
/- What a run is asked for, whatever it is. -/
namespace Go.Proofs.Ytpbnmmgocpobcaa.Ex
open Go.RowKit
set_option linter.unusedVariables false

/-- lists of numbers. -/
def ListsAt (w : World) (v : Value) (ls : List (List Int)) : Prop :=
  ls.length ≤ maxLen ∧ ∃ ao cap, v = .slice ao ls.length cap ∧ (ls ≠ [] → ∃ b off, ao = some ⟨b, off, none⟩ ∧ ∀ i (h : i < ls.length), ∃ u, w.cell? ⟨b, off + i, none⟩ = some u ∧ IsInts w u ls[i] ∧ ls[i].length ≤ 9223372036854775807)
theorem ListsAt.over {w w' : World} {v : Value} {ls : List (List Int)} (h : ListsAt w v ls) (hb : Below w.heap.size w w') : ListsAt w' v ls := by
  obtain ⟨hm, ao, cap, hv, hc⟩ := h
  refine ⟨hm, ao, cap, hv, fun hne => ?_⟩
  obtain ⟨b, off, hao, hel⟩ := hc hne
  refine ⟨b, off, hao, fun i hi => ?_⟩
  obtain ⟨u, h0, h1, h2⟩ := hel i hi
  exact ⟨u, cell_over hb _ _ h0, h1.over hb, h2⟩

set_option maxHeartbeats 1000000 in
theorem isLong_any (a : Option Addr) (n c : Nat) (w : World) : Calls Try.prog 17 #[.slice a n c] w fun e w' => e = .returned (.bool (decide (100 < n))) ∧ w' = w := by
  by_cases h : 100 < n
  · go_enter Try.func17, Try.ntmps17
    go_wp2_with fail
    go_ret
    exact ⟨by simp; omega, rfl⟩
  · go_enter Try.func17, Try.ntmps17
    go_wp2_with fail
    go_ret
    exact ⟨by simp; omega, rfl⟩

set_option maxHeartbeats 1000000 in
theorem hasBeyond_any (l : List Int) (v : Value) (w : World) (h : IsInts w v l) (hl : l.length ≤ 9223372036854775807) : Calls Try.prog 18 #[v] w fun e w' => e = .returned (.bool (!l.all in32)) ∧ w' = w := by
  have K := hide (containsInts_any l _ w h hl)
  obtain ⟨a, c, rfl, -⟩ := h
  go_enter Try.func18, Try.ntmps18
  go_wp2_with fail
  refine (K.out).mono ?_
  rintro e w1 ⟨rfl, rfl⟩
  go_wp2_with fail
  go_ret
  exact ⟨rfl, rfl⟩

set_option maxHeartbeats 1000000 in
theorem indexLists_any (F : FuncId) (p : List Int → Bool) (ls : List (List Int)) (v : Value) (w : World) (h : ListsAt w v ls)
    (hF : Hid (∀ (l : List Int) (u : Value), IsInts w u l → l.length ≤ 9223372036854775807 → Calls Try.prog F #[u] w fun e w' => e = .returned (.bool (p l)) ∧ w' = w)) (hC : ∀ (args : Array Value) (w : World), (callFunc F args).run Try.prog w = .ok (.enter F args) w) :
    Calls Try.prog 29 #[v, .func (.func F) #[] #[]] w fun e w' => ∃ r : Int, e = .returned (.int .i64 r) ∧ decide (0 ≤ r) = ls.any p ∧ w' = w := by
  obtain ⟨hm, ao, cap, rfl, hcc⟩ := h
  have hm2 : ls.length ≤ 9223372036854775807 := hm
  have HCC := hide hcc
  clear hcc hm
  go_enter Try.func29, Try.ntmps29
  go_wp2_with fail
  go_loopw [8] (fun i wr => ∃ k : Nat, k ≤ ls.length ∧ i = .int .i64 k ∧ (ls.take k).any p = false ∧ wr = w) (fun i _ => ls.length - (intOf i).toNat)
  case atStart => exact ⟨0, Nat.zero_le _, rfl, rfl, rfl⟩
  case round =>
    obtain ⟨k, hk, rfl, hall, rfl⟩ := hrel
    have HA := hide hall
    clear hall
    by_cases hkl : k < ls.length
    · obtain ⟨b, off, rfl, hcl⟩ := HCC.out (by rintro rfl; simp at hkl)
      obtain ⟨u, q0, hu, hul⟩ := hcl k hkl
      have hst : p ls[k] = true → ls.any p = true := fun h => by rw [List.any_eq_true]; exact ⟨ls[k], List.getElem_mem hkl, h⟩
      have hnx : p ls[k] = false → (ls.take (k + 1)).any p = false := fun h => by rw [List.take_succ_eq_append_getElem hkl, List.any_append, HA.out]; simp [h]
      have hcall := hF.out ls[k] u hu hul
      obtain ⟨r, hr⟩ : ∃ r, r = p ls[k] := ⟨_, rfl⟩
      rw [← hr] at hcall hst hnx
      have HCALL := hide hcall
      have HST := hide hst
      have HNX := hide hnx
      obtain ⟨a2, c2, rfl, -⟩ := hu
      clear hcall hst hnx hr hcl HA hF
      cases r with
      | false =>
        go_wp2_with fail
        refine (HCALL.out).mono ?_
        rintro e w2 ⟨rfl, rfl⟩
        go_wp2_with fail
        exact ⟨⟨k + 1, by omega, by go_num, HNX.out (by first | rfl | trivial), by first | rfl | trivial⟩, by simp [intOf]; omega⟩
      | true =>
        go_wp2_with fail
        refine (HCALL.out).mono ?_
        rintro e w2 ⟨rfl, rfl⟩
        go_wp2_with fail
        go_ret
        refine ⟨(k : Int), by first | rfl | trivial, ?_, by first | rfl | trivial⟩
        rw [HST.out (by first | rfl | trivial)]
        simp
    · have ha := HA.out
      rw [List.take_of_length_le (by omega)] at ha
      have HD := hide ha
      clear ha HA hF
      go_wp2_with fail
      go_ret
      refine ⟨-1, by first | rfl | trivial, ?_, by first | rfl | trivial⟩
      rw [HD.out]
      rfl

set_option maxHeartbeats 1000000 in
theorem containsLists_any (F : FuncId) (p : List Int → Bool) (ls : List (List Int)) (v : Value) (w : World) (h : ListsAt w v ls)
    (hF : Hid (∀ (l : List Int) (u : Value), IsInts w u l → l.length ≤ 9223372036854775807 → Calls Try.prog F #[u] w fun e w' => e = .returned (.bool (p l)) ∧ w' = w)) (hC : ∀ (args : Array Value) (w : World), (callFunc F args).run Try.prog w = .ok (.enter F args) w) :
    Calls Try.prog 21 #[v, .func (.func F) #[] #[]] w fun e w' => e = .returned (.bool (ls.any p)) ∧ w' = w := by
  have K := hide (indexLists_any F p ls v w h hF hC)
  obtain ⟨hm, ao, cap, rfl, hcc⟩ := h
  obtain ⟨q, hq⟩ : ∃ q, q = ls.any p := ⟨_, rfl⟩
  rw [← hq] at K ⊢
  clear hcc hq hF
  go_enter Try.func21, Try.ntmps21
  go_wp2_with fail
  refine (K.out).mono ?_
  rintro e w1 ⟨r, rfl, hr, rfl⟩
  have HR := hide hr
  clear hr
  go_wp2_with fail
  go_ret
  exact ⟨by rw [← HR.out]; simp, rfl⟩

/-- what a run may be asked for. -/
structure okR (K kf : Nat) (vn yn : Nat) (fs : List FnD) (l : List D) (ins : List (List Int)) (fuel : Int) : Prop where
  prog : okP K kf vn yn fs l
  many : ins.length = yn
  long : ∀ x ∈ ins, x.length ≤ 100
  num : ∀ x ∈ ins, ∀ y ∈ x, I32 y
  f0 : 0 ≤ fuel
  f1 : fuel ≤ 2000

set_option maxHeartbeats 2000000 in
set_option maxRecDepth 100000 in
theorem runCheck_any (K kf : Nat) (m : Int) (ga : Option Addr) (gn gc : Nat) (sa : Option Addr) (sn sc : Nat) (ya : Option Addr) (yn yc : Nat) (oa : Option Addr) (on oc : Nat) (va : Option Addr) (vn vc : Nat) (fa : Option Addr) (fn fc : Nat) (ba : Option Addr) (bn bc : Nat) (xa : Option Addr) (xn xc : Nat) (ins : List (List Int)) (fuel : Int) (gs : List (Int × Int)) (sp : List Int) (ls ms : List Lab) (vs : List (Bool × Lab)) (fs : List FnD) (l : List D) (w : World) (h : ProgAt K kf m ga gn gc sa sn sc ya yn yc oa on oc va vn vc fa fn fc ba bn bc gs sp ls ms vs fs l w) (hx : ListsAt w (.slice xa xn xc) ins) :
    Calls Try.prog 9 #[.agg #[.int .i64 m, .slice ga gn gc, .slice sa sn sc, .slice ya yn yc, .slice oa on oc, .slice va vn vc, .slice fa fn fc, .slice ba bn bc], .slice xa xn xc, .int .i64 fuel] w (Said (okR K kf vn yn fs l ins fuel) w fun why => .int .i64 why) := by
  have hmf : ∀ (fn : Fn) (first cap : Array Value) (w : World), (Instr.makeFunc fn first cap).run Try.prog w = .ok (.func fn first cap) w := fun _ _ _ _ => rfl
  have hbel : Below w.heap.size w (w.alloc (.cells #[.int .i64 m, .slice ga gn gc, .slice sa sn sc, .slice ya yn yc, .slice oa on oc, .slice va vn vc, .slice fa fn fc, .slice ba bn bc] 31)) := (Below.refl _ w).alloc (Nat.le_refl _) _
  have K1 := hide (scopeCheck_any K kf m ga gn gc sa sn sc ya yn yc oa on oc va vn vc fa fn fc ba bn bc gs sp ls ms vs fs l _ (h.over hbel))
  have HX := hide (hx.over hbel)
  have hxn : xn = ins.length := by obtain ⟨-, a, c, he, -⟩ := hx; injection he
  have hxl : xn ≤ 9223372036854775807 := by rw [hxn]; exact hx.1
  have hyl : yn ≤ 9223372036854775807 := by obtain ⟨hm, a, c, he, -⟩ := h.ins; injection he with e1 e2 e3; rw [e2]; exact hm
  have HXN := hide hxn
  have K2 := hide fun W (hw : ListsAt W (.slice xa xn xc) ins) => containsLists_any 17 (fun l => decide (100 < l.length)) ins (.slice xa xn xc) W hw (hide fun l u hu _ => by
    obtain ⟨a, c, rfl, -⟩ := hu
    exact isLong_any a l.length c W) call31
  have K3 := hide fun W (hw : ListsAt W (.slice xa xn xc) ins) => containsLists_any 18 (fun l => !l.all in32) ins (.slice xa xn xc) W hw (hide fun l u hu hl => hasBeyond_any l u W hu hl) call32
  obtain ⟨q2, hq2⟩ : ∃ q, q = ins.any (fun l => decide (100 < l.length)) := ⟨_, rfl⟩
  obtain ⟨q3, hq3⟩ : ∃ q, q = ins.any (fun l => !l.all in32) := ⟨_, rfl⟩
  rw [← hq2] at K2
  rw [← hq3] at K3
  have HQ2 := hide hq2
  have HQ3 := hide hq3
  have c3 : (w.alloc (.cells #[.int .i64 m, .slice ga gn gc, .slice sa sn sc, .slice ya yn yc, .slice oa on oc, .slice va vn vc, .slice fa fn fc, .slice ba bn bc] 31)).cell? ⟨w.heap.size, 3, none⟩ = some (.slice ya yn yc) := by simp [go_sem]
  clear h hx hxn hq2 hq3
  go_enter Try.func9, Try.ntmps9
  go_wp2_with fail
  refine (K1.out).mono ?_
  rintro e w1 ⟨why, rfl, hok, hb1⟩
  have d3 := cell_over hb1 _ _ c3
  have HX1 := hide (HX.out.over hb1)
  have hB1 := hbel.trans (hb1.mono hbel.size)
  have HOK := hide hok
  clear hbel hb1 K1 HX c3 hok
  by_cases hw : why = 0
  rotate_left
  · have hwb : (why == 0) = false := by simpa using hw
    go_wp2_with fail
    go_ret
    exact ⟨why, rfl, fun h => absurd h hw, hB1⟩
  subst hw
  by_cases hxy : xn = yn
  rotate_left
  · have hb : ((xn : Int) == (yn : Int)) = false := by simp; omega
    go_wp2_with fail
    go_ret
    exact ⟨1, rfl, fun h => absurd h (by decide), hB1⟩
  have hb : ((xn : Int) == (yn : Int)) = true := by simp; omega
  have HXY := hide hxy
  clear hxy
  go_wp2_with fail
  refine (K2.out _ HX1.out).mono ?_
  rintro e w2 ⟨rfl, rfl⟩
  cases q2 with
  | true =>
    go_wp2_with fail
    go_ret
    exact ⟨2, rfl, fun h => absurd h (by decide), hB1⟩
  | false =>
  go_wp2_with fail
  refine (K3.out _ HX1.out).mono ?_
  rintro e w3 ⟨rfl, rfl⟩
  cases q3 with
  | true =>
    go_wp2_with fail
    go_ret
    exact ⟨3, rfl, fun h => absurd h (by decide), hB1⟩
  | false =>
  by_cases hf0 : fuel < 0
  · go_wp2_with fail
    go_ret
    exact ⟨3, rfl, fun h => absurd h (by decide), hB1⟩
  by_cases hf1 : 2000 < fuel
  · go_wp2_with fail
    go_ret
    exact ⟨3, rfl, fun h => absurd h (by decide), hB1⟩
  go_wp2_with fail
  go_ret
  refine ⟨0, rfl, fun _ => ⟨HOK.out (by first | rfl | trivial), by rw [← HXN.out]; exact HXY.out, fun x hx => ?_, fun x hx y hy => ?_, by omega, by omega⟩, hB1⟩
  · have := List.any_eq_false.1 HQ2.out.symm x hx
    simpa using this
  · have := List.any_eq_false.1 HQ3.out.symm x hx
    simp only [Bool.not_eq_true, Bool.not_eq_false'] at this
    have := List.all_eq_true.1 this y hy
    simpa [in32, I32] using this
end Go.Proofs.Ytpbnmmgocpobcaa.Ex
