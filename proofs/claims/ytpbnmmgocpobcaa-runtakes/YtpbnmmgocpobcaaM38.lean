/- What must be in any case. -/
import Derived.Test.YtpbnmmgocpobcaaM37
import Derived.Test.YtpbnmmgocpobcaaM36
namespace Go.Proofs.Ytpbnmmgocpobcaa.Ex
open Go.RowKit
set_option linter.unusedVariables false

def Smalls (w : World) (e : Ending) (w' : World) : Prop := ∃ bi bo bv bm, e = .returned (smallV bi bo bv bm) ∧ Small bi bo bv bm w' ∧ Below w.heap.size w w'

theorem RowAt.at {cs : List Value} {w w' : World} {b : Nat} {a : Array Value} {t : Nat} (ha : a.toList = cs) (hb : b = w.heap.size) (hw : Below (w.alloc (.cells a t)).heap.size (w.alloc (.cells a t)) w') : RowAt cs w' b := by
  subst hb
  rw [← ha]
  exact (RowAt.newA a t w).over hw

set_option maxHeartbeats 4000000 in
set_option maxRecDepth 100000 in
theorem small_any (w : World) : Calls Try.prog 12 #[] w (Smalls w) := by
  go_enter Try.func12, Try.ntmps12
  go_wp2_with fail
  have hbr := fun (W : World) (o : Obj) => (Below.refl _ W).alloc (Nat.le_refl _) o
  refine bodyPost_ret (v := smallV (w.heap.size + 1) (w.heap.size + 1 + 1) (w.heap.size + 1 + 1 + 1) (w.heap.size + 1 + 1 + 1 + 1)) (by simp [results, Try.results12, go_sem]) rfl ⟨_, _, _, _, rfl, ⟨?_, ?_, ?_, ?_⟩, ?_⟩
  · exact RowAt.at rfl (by simp) (over_trans (over_trans (hbr _ _) (hbr _ _)) (hbr _ _))
  · exact RowAt.at rfl (by simp) (over_trans (hbr _ _) (hbr _ _))
  · exact RowAt.at rfl (by simp) (hbr _ _)
  · exact RowAt.at rfl (by simp) (Below.refl _ _)
  · exact over_trans (over_trans (over_trans (over_trans (hbr _ _) (hbr _ _)) (hbr _ _)) (hbr _ _)) (hbr _ _)

set_option maxHeartbeats 1000000 in
theorem sameInts_one (a b : Nat) (w : World) (ha : w.cell? ⟨a, 0, none⟩ = some (.int .i64 1)) (hb : w.cell? ⟨b, 0, none⟩ = some (.int .i64 1)) :
    Calls Try.prog 14 #[.slice (some ⟨a, 0, none⟩) 1 1, .slice (some ⟨b, 0, none⟩) 1 1] w fun e w' => e = .returned (.bool true) ∧ ∃ n, w' = w.drewN n := by
  go_enter Try.func14, Try.ntmps14
  go_wp2_with fail
  go_loopw [5] (fun i wr => ∃ j : Int, 0 ≤ j ∧ j ≤ 1 ∧ i = .int .i64 j ∧ ∃ n, wr = w.drewN n) (fun i _ => 1 - (intOf i).toNat)
  case atStart => exact ⟨0, by omega, by omega, rfl, 0, rfl⟩
  case round =>
    obtain ⟨j, hj0, hj, rfl, n, rfl⟩ := hrel
    rcases (by omega : j = 0 ∨ j = 1) with rfl | rfl
    · go_wp2_with fail
      go_quiet ((fail))
      go_wp2_with fail
      exact ⟨⟨1, by omega, by omega, by first | rfl | go_num, _, by first | rfl | exact World.drewN_drewN _ _ _⟩, by simp [intOf]⟩
    · go_wp2_with fail
      go_ret
      exact ⟨rfl, n, by first | rfl | trivial⟩

theorem num4 (w : World) : RX w 1 [.int .i64 1, .int .i64 4, .slice none 0 0] (xD 1 4 []) := ⟨1, 4, _, [], rfl, rfl, ⟨by omega, by omega⟩, ⟨by omega, by omega⟩, by simp, none, 0, rfl, fun h => absurd rfl h⟩
theorem noInts (w : World) : IsInts w (.slice none 0 0) [] := ⟨none, 0, rfl, fun h => absurd rfl h⟩

set_option maxHeartbeats 4000000 in
set_option maxRecDepth 100000 in
theorem begun_any (w : World) : Calls Try.prog 6 #[] w fun e w' => e = .returned (.bool true) ∧ Below w.heap.size w w' := by
  have K1 := hide small_any
  have K2 := hide fun bi bo bv bm bx by' W (hS : SmallIn bi bo bv bm bx by' W) => Run_small bi bo bv bm bx by' W hS
  have K3 := hide fun W => eval_any 1 _ _ W _ [] (num4 W) (noInts W) (by simp)
  have he : evalErr [] 1 (xD 1 4 []) = 0 := by decide
  have hv : evalVal [] 1 (xD 1 4 []) = 4 := by decide
  rw [he, hv] at K3
  clear he hv
  go_enter Try.func6, Try.ntmps6
  go_wp2_with fail
  refine (K1.out _).mono ?_
  rintro e w1 ⟨bi, bo, bv, bm, rfl, hSm, hb1⟩
  have hS : SmallIn bi bo bv bm (w1.heap.size + 1) w1.heap.size ((w1.alloc (.cells #[.int .i64 7] 3)).alloc (.cells #[.slice (some ⟨w1.heap.size, 0, none⟩) 1 1] 25)) :=
    ⟨hSm.over (((Below.refl _ w1).alloc (Nat.le_refl _) _).alloc (by simp) _), by simp [go_sem], by simp [go_sem]⟩
  have hB1 : Below w.heap.size w ((w1.alloc (.cells #[.int .i64 7] 3)).alloc (.cells #[.slice (some ⟨w1.heap.size, 0, none⟩) 1 1] 25)) := (hb1.alloc hb1.size _).alloc (by have := hb1.size; simp; omega) _
  have K2' := hide (K2.out _ _ _ _ _ _ _ hS)
  clear K1 K2 hSm hb1 hS
  unfold smallV at K2' ⊢
  go_wp2_with fail
  refine (K2'.out).mono ?_
  rintro e w2 ⟨g, c, b1, b2, rfl, hrow, ht, hb2⟩
  have hB2 := hB1.trans (hb2.mono hB1.size)
  clear K2' hb2 hB1
  go_wp2_with fail
  refine (K3.out _).mono ?_
  rintro e w3 ⟨rfl, hb3⟩
  have hba := (Below.refl _ w2).alloc (Nat.le_refl _) (.cells #[.slice (some ⟨g, 0, none⟩) 1 c, .slice (some ⟨b1, 0, none⟩) 1 1, .slice (some ⟨b2, 0, none⟩) 1 1, .int .i64 2, .int .i64 1, .int .i64 0] 35)
  have hb3' := over_trans hba hb3
  have hB3 := hB2.trans (hb3'.mono hB2.size)
  have hr := (RowAt.newA #[.slice (some ⟨g, 0, none⟩) 1 c, .slice (some ⟨b1, 0, none⟩) 1 1, .slice (some ⟨b2, 0, none⟩) 1 1, .int .i64 2, .int .i64 1, .int .i64 0] 35 w2).over hb3
  have r0 := hr 0 _ rfl
  have r2 := hr 2 _ rfl
  have r3 := hr 3 _ rfl
  have r4 := hr 4 _ rfl
  have hrow3 := hrow.over hb3'
  have g0 := hrow3 0 _ rfl
  have g1 := hrow3 1 _ rfl
  have g2 := hrow3 2 _ rfl
  have g3 := hrow3 3 _ rfl
  have t3 := cell_over hb3' _ _ ht
  clear hrow hrow3 ht hr hba hb3 hb3' hB2 K3
  have q3 : (w3.alloc (.cells #[.int .i64 1] 3)).cell? ⟨w3.heap.size, 0, none⟩ = some (.int .i64 1) := by simp [go_sem]
  have K4 := hide (sameInts_one b2 w3.heap.size _ (cell_over ((Below.refl _ w3).alloc (Nat.le_refl _) _) _ _ t3) q3)
  have hB4 : Below w.heap.size w (w3.alloc (.cells #[.int .i64 1] 3)) := hB3.alloc hB3.size _
  go_wp2_with fail
  refine (K4.out).mono ?_
  rintro e w4 ⟨rfl, n, rfl⟩
  have hB5 := below_drewN hB4 n
  go_wp2_with fail
  go_ret
  exact ⟨rfl, hB5⟩
end Go.Proofs.Ytpbnmmgocpobcaa.Ex
/- The law RunMore, at any program. -/
namespace Go.Proofs.Ytpbnmmgocpobcaa.Ex
open Go.RowKit
set_option linter.unusedVariables false

theorem runX_more (K kf : Nat) (fs : List FnD) (F F' : Nat) (ins : List (List Int)) (l : List D) (vn yn : Nat) (hF : F ≤ F') (hF' : F' ≤ 2000) : More F (runX K kf fs F ins l vn yn) (runX K kf fs F' ins l vn yn) :=
  rn_more K kf fs F F' ins hF 6001 0 kf l _ (st0 vn yn) (Nat.zero_le _) (by show 3 * (F' - 0) + 1 ≤ 6001; omega)

/-- what run.Run answers, in one form. -/
theorem runU {K kf vn yn : Nat} {fs : List FnD} {l : List D} {ins : List (List Int)} {fuel : Int} {w : World} {e : Ending} {w' : World} (h : RunSaid K kf vn yn fs l ins fuel w e w') :
    ∃ (ea : Option Addr) (el ec : Nat) (va : Option Addr) (vl vc : Nat) (ta : Option Addr) (tl tc : Nat) (s en why : Int), e = .returned (.tuple #[.agg #[.slice ea el ec, .slice va vl vc, .slice ta tl tc, .int .i64 s, .int .i64 en, .int .i64 0], .int .i64 why]) ∧ Below w.heap.size w w' ∧
      (why = 0 → okR K kf vn yn fs l ins fuel ∧ ∃ b1 b2, RunAt w.heap.size vn yn fuel.toNat (runX K kf fs fuel.toNat ins l vn yn) (.slice ea el ec) b1 b2 w' ∧ (runX K kf fs fuel.toNat ins l vn yn).2.ev.length = el ∧ (some ⟨b1, 0, none⟩ = va ∧ vn = vl ∧ vn = vc) ∧ (some ⟨b2, 0, none⟩ = ta ∧ yn = tl ∧ yn = tc) ∧ ((runX K kf fs fuel.toNat ins l vn yn).2.steps : Int) = s ∧ endX (runX K kf fs fuel.toNat ins l vn yn).1 = en) ∧
      (why ≠ 0 → va = none ∧ vl = 0 ∧ vc = 0) := by
  obtain ⟨h | h, hb⟩ := h
  · obtain ⟨why, hne, rfl⟩ := h
    exact ⟨none, 0, 0, none, 0, 0, none, 0, 0, 0, 0, why, rfl, hb, fun h => absurd h hne, fun _ => ⟨rfl, rfl, rfl⟩⟩
  · obtain ⟨hok, ev, b1, b2, rfl, hr⟩ := h
    obtain ⟨ea, ec, he, -⟩ := EvAt.of_own hr.own
    subst he
    exact ⟨ea, _, ec, _, _, _, _, _, _, _, _, 0, rfl, hb, fun _ => ⟨hok, b1, b2, hr, rfl, ⟨rfl, rfl, rfl⟩, ⟨rfl, rfl, rfl⟩, rfl, rfl⟩, fun h => absurd rfl h⟩

set_option maxHeartbeats 4000000 in
set_option maxRecDepth 100000 in
theorem runMore_any (K kf : Nat) (m : Int) (ga : Option Addr) (gn gc : Nat) (sa : Option Addr) (sn sc : Nat) (ya : Option Addr) (yn yc : Nat) (oa : Option Addr) (on oc : Nat) (va : Option Addr) (vn vc : Nat) (fa : Option Addr) (fn fc : Nat) (ba : Option Addr) (bn bc : Nat) (xa : Option Addr) (xn xc : Nat) (ins : List (List Int)) (fuel more : Int) (gs : List (Int × Int)) (sp : List Int) (ls ms : List Lab) (vs : List (Bool × Lab)) (fs : List FnD) (l : List D) (w : World) (h : ProgAt K kf m ga gn gc sa sn sc ya yn yc oa on oc va vn vc fa fn fc ba bn bc gs sp ls ms vs fs l w) (hx : ListsAt w (.slice xa xn xc) ins) :
    Calls Try.prog 3 #[.agg #[.int .i64 m, .slice ga gn gc, .slice sa sn sc, .slice ya yn yc, .slice oa on oc, .slice va vn vc, .slice fa fn fc, .slice ba bn bc], .slice xa xn xc, .int .i64 fuel, .int .i64 more] w fun e w' => e = .returned (.bool true) ∧ Below w.heap.size w w' := by
  have KB := hide begun_any
  have KR := hide fun W (hP : ProgAt K kf m ga gn gc sa sn sc ya yn yc oa on oc va vn vc fa fn fc ba bn bc gs sp ls ms vs fs l W) (hX : ListsAt W (.slice xa xn xc) ins) (fu : Int) => Run_any K kf m ga gn gc sa sn sc ya yn yc oa on oc va vn vc fa fn fc ba bn bc xa xn xc ins fu gs sp ls ms vs fs l W hP hX
  have H0 := hide h
  have HX0 := hide hx
  have hbel : Below w.heap.size w (w.alloc (.cells #[.int .i64 m, .slice ga gn gc, .slice sa sn sc, .slice ya yn yc, .slice oa on oc, .slice va vn vc, .slice fa fn fc, .slice ba bn bc] 31)) := (Below.refl _ w).alloc (Nat.le_refl _) _
  have c0 : (w.alloc (.cells #[.int .i64 m, .slice ga gn gc, .slice sa sn sc, .slice ya yn yc, .slice oa on oc, .slice va vn vc, .slice fa fn fc, .slice ba bn bc] 31)).cell? ⟨w.heap.size, 0, none⟩ = some (.int .i64 m) := by simp [go_sem]
  have c1 : (w.alloc (.cells #[.int .i64 m, .slice ga gn gc, .slice sa sn sc, .slice ya yn yc, .slice oa on oc, .slice va vn vc, .slice fa fn fc, .slice ba bn bc] 31)).cell? ⟨w.heap.size, 1, none⟩ = some (.slice ga gn gc) := by simp [go_sem]
  have c2 : (w.alloc (.cells #[.int .i64 m, .slice ga gn gc, .slice sa sn sc, .slice ya yn yc, .slice oa on oc, .slice va vn vc, .slice fa fn fc, .slice ba bn bc] 31)).cell? ⟨w.heap.size, 2, none⟩ = some (.slice sa sn sc) := by simp [go_sem]
  have c3 : (w.alloc (.cells #[.int .i64 m, .slice ga gn gc, .slice sa sn sc, .slice ya yn yc, .slice oa on oc, .slice va vn vc, .slice fa fn fc, .slice ba bn bc] 31)).cell? ⟨w.heap.size, 3, none⟩ = some (.slice ya yn yc) := by simp [go_sem]
  have c4 : (w.alloc (.cells #[.int .i64 m, .slice ga gn gc, .slice sa sn sc, .slice ya yn yc, .slice oa on oc, .slice va vn vc, .slice fa fn fc, .slice ba bn bc] 31)).cell? ⟨w.heap.size, 4, none⟩ = some (.slice oa on oc) := by simp [go_sem]
  have c5 : (w.alloc (.cells #[.int .i64 m, .slice ga gn gc, .slice sa sn sc, .slice ya yn yc, .slice oa on oc, .slice va vn vc, .slice fa fn fc, .slice ba bn bc] 31)).cell? ⟨w.heap.size, 5, none⟩ = some (.slice va vn vc) := by simp [go_sem]
  have c6 : (w.alloc (.cells #[.int .i64 m, .slice ga gn gc, .slice sa sn sc, .slice ya yn yc, .slice oa on oc, .slice va vn vc, .slice fa fn fc, .slice ba bn bc] 31)).cell? ⟨w.heap.size, 6, none⟩ = some (.slice fa fn fc) := by simp [go_sem]
  have c7 : (w.alloc (.cells #[.int .i64 m, .slice ga gn gc, .slice sa sn sc, .slice ya yn yc, .slice oa on oc, .slice va vn vc, .slice fa fn fc, .slice ba bn bc] 31)).cell? ⟨w.heap.size, 7, none⟩ = some (.slice ba bn bc) := by simp [go_sem]
  clear h hx
  go_enter Try.func3, Try.ntmps3
  go_wp2_with fail
  refine (KR.out _ (H0.out.over hbel) (HX0.out.over hbel) fuel).mono ?_
  rintro e w1 h1
  obtain ⟨ea, el, ec, va1, vl1, vc1, ta1, tl1, tc1, s1, en1, why1, rfl, hb1, hq1, -⟩ := runU h1
  have d0 := cell_over hb1 _ _ c0
  have d1 := cell_over hb1 _ _ c1
  have d2 := cell_over hb1 _ _ c2
  have d3 := cell_over hb1 _ _ c3
  have d4 := cell_over hb1 _ _ c4
  have d5 := cell_over hb1 _ _ c5
  have d6 := cell_over hb1 _ _ c6
  have d7 := cell_over hb1 _ _ c7
  have hB1 := hbel.trans (hb1.mono hbel.size)
  have HQ1 := hide hq1
  have hba := (Below.refl _ w1).alloc (Nat.le_refl _) (.cells #[.slice ea el ec, .slice va1 vl1 vc1, .slice ta1 tl1 tc1, .int .i64 s1, .int .i64 en1, .int .i64 0] 35)
  have hB1a := hB1.trans (hba.mono hB1.size)
  have f0 := cell_over hba _ _ d0
  have f1 := cell_over hba _ _ d1
  have f2 := cell_over hba _ _ d2
  have f3 := cell_over hba _ _ d3
  have f4 := cell_over hba _ _ d4
  have f5 := cell_over hba _ _ d5
  have f6 := cell_over hba _ _ d6
  have f7 := cell_over hba _ _ d7
  have g0 : (w1.alloc (.cells #[.slice ea el ec, .slice va1 vl1 vc1, .slice ta1 tl1 tc1, .int .i64 s1, .int .i64 en1, .int .i64 0] 35)).cell? ⟨w1.heap.size, 0, none⟩ = some (.slice ea el ec) := by simp [go_sem]
  have g1 : (w1.alloc (.cells #[.slice ea el ec, .slice va1 vl1 vc1, .slice ta1 tl1 tc1, .int .i64 s1, .int .i64 en1, .int .i64 0] 35)).cell? ⟨w1.heap.size, 1, none⟩ = some (.slice va1 vl1 vc1) := by simp [go_sem]
  have g2 : (w1.alloc (.cells #[.slice ea el ec, .slice va1 vl1 vc1, .slice ta1 tl1 tc1, .int .i64 s1, .int .i64 en1, .int .i64 0] 35)).cell? ⟨w1.heap.size, 2, none⟩ = some (.slice ta1 tl1 tc1) := by simp [go_sem]
  have g3 : (w1.alloc (.cells #[.slice ea el ec, .slice va1 vl1 vc1, .slice ta1 tl1 tc1, .int .i64 s1, .int .i64 en1, .int .i64 0] 35)).cell? ⟨w1.heap.size, 3, none⟩ = some (.int .i64 s1) := by simp [go_sem]
  have g4 : (w1.alloc (.cells #[.slice ea el ec, .slice va1 vl1 vc1, .slice ta1 tl1 tc1, .int .i64 s1, .int .i64 en1, .int .i64 0] 35)).cell? ⟨w1.heap.size, 4, none⟩ = some (.int .i64 en1) := by simp [go_sem]
  have g5 : (w1.alloc (.cells #[.slice ea el ec, .slice va1 vl1 vc1, .slice ta1 tl1 tc1, .int .i64 s1, .int .i64 en1, .int .i64 0] 35)).cell? ⟨w1.heap.size, 5, none⟩ = some (.int .i64 0) := by simp [go_sem]
  clear h1 hq1 c0 c1 c2 c3 c4 c5 c6 c7 d0 d1 d2 d3 d4 d5 d6 d7 hb1
  go_wp2_with fail
  refine (KR.out _ (H0.out.over hB1a) (HX0.out.over hB1a) more).mono ?_
  rintro e w2 h2
  obtain ⟨fa2, fl2, fc2, va2, vl2, vc2, ta2, tl2, tc2, s2, en2, why2, rfl, hb2, hq2, -⟩ := runU h2
  have hB2 := hB1a.trans (hb2.mono hB1a.size)
  have HQ2 := hide hq2
  have hbb := (Below.refl _ w2).alloc (Nat.le_refl _) (.cells #[.slice fa2 fl2 fc2, .slice va2 vl2 vc2, .slice ta2 tl2 tc2, .int .i64 s2, .int .i64 en2, .int .i64 0] 35)
  have hB2b := hB2.trans (hbb.mono hB2.size)
  have HB12 := hide (over_trans (over_trans hba hb2) hbb)
  have k0 := cell_over hbb _ _ (cell_over hb2 _ _ g0)
  have k1 := cell_over hbb _ _ (cell_over hb2 _ _ g1)
  have k2 := cell_over hbb _ _ (cell_over hb2 _ _ g2)
  have k3 := cell_over hbb _ _ (cell_over hb2 _ _ g3)
  have k4 := cell_over hbb _ _ (cell_over hb2 _ _ g4)
  have k5 := cell_over hbb _ _ (cell_over hb2 _ _ g5)
  have n0 : (w2.alloc (.cells #[.slice fa2 fl2 fc2, .slice va2 vl2 vc2, .slice ta2 tl2 tc2, .int .i64 s2, .int .i64 en2, .int .i64 0] 35)).cell? ⟨w2.heap.size, 0, none⟩ = some (.slice fa2 fl2 fc2) := by simp [go_sem]
  have n1 : (w2.alloc (.cells #[.slice fa2 fl2 fc2, .slice va2 vl2 vc2, .slice ta2 tl2 tc2, .int .i64 s2, .int .i64 en2, .int .i64 0] 35)).cell? ⟨w2.heap.size, 1, none⟩ = some (.slice va2 vl2 vc2) := by simp [go_sem]
  have n2 : (w2.alloc (.cells #[.slice fa2 fl2 fc2, .slice va2 vl2 vc2, .slice ta2 tl2 tc2, .int .i64 s2, .int .i64 en2, .int .i64 0] 35)).cell? ⟨w2.heap.size, 2, none⟩ = some (.slice ta2 tl2 tc2) := by simp [go_sem]
  have n3 : (w2.alloc (.cells #[.slice fa2 fl2 fc2, .slice va2 vl2 vc2, .slice ta2 tl2 tc2, .int .i64 s2, .int .i64 en2, .int .i64 0] 35)).cell? ⟨w2.heap.size, 3, none⟩ = some (.int .i64 s2) := by simp [go_sem]
  have n4 : (w2.alloc (.cells #[.slice fa2 fl2 fc2, .slice va2 vl2 vc2, .slice ta2 tl2 tc2, .int .i64 s2, .int .i64 en2, .int .i64 0] 35)).cell? ⟨w2.heap.size, 4, none⟩ = some (.int .i64 en2) := by simp [go_sem]
  have n5 : (w2.alloc (.cells #[.slice fa2 fl2 fc2, .slice va2 vl2 vc2, .slice ta2 tl2 tc2, .int .i64 s2, .int .i64 en2, .int .i64 0] 35)).cell? ⟨w2.heap.size, 5, none⟩ = some (.int .i64 0) := by simp [go_sem]
  have HB2X := hide hbb
  clear h2 hq2 g0 g1 g2 g3 g4 g5 f0 f1 f2 f3 f4 f5 f6 f7 hb2 KR
  go_wp2_with fail
  refine (KB.out _).mono ?_
  rintro e w3 ⟨rfl, hb3⟩
  have hB3 := hB2b.trans (hb3.mono hB2b.size)
  have HB3 := hide hb3
  have x0 := cell_over hb3 _ _ k0
  have y0 := cell_over hb3 _ _ n0
  have x1 := cell_over hb3 _ _ k1
  have y1 := cell_over hb3 _ _ n1
  have x2 := cell_over hb3 _ _ k2
  have y2 := cell_over hb3 _ _ n2
  have x3 := cell_over hb3 _ _ k3
  have y3 := cell_over hb3 _ _ n3
  have x4 := cell_over hb3 _ _ k4
  have y4 := cell_over hb3 _ _ n4
  have x5 := cell_over hb3 _ _ k5
  have y5 := cell_over hb3 _ _ n5
  have hl12 : w1.heap.size < w3.heap.size := World.block_lt_of_cell? w3 _ x0
  clear k0 n0 k1 n1 k2 n2 k3 n3 k4 n4 k5 n5 hb3 KB hB2b hB2 hB1a hB1 hba hbb hbel
  by_cases z1 : why1 = 0
  rotate_left
  · have zb : (why1 == 0) = false := by simpa using z1
    go_wp2_with fail
    go_ret
    exact ⟨rfl, hB3⟩
  subst z1
  by_cases z2 : why2 = 0
  rotate_left
  · have zb : (why2 == 0) = false := by simpa using z2
    go_wp2_with fail
    go_ret
    exact ⟨rfl, hB3⟩
  subst z2
  by_cases z3 : more < fuel
  · go_wp2_with fail
    go_ret
    exact ⟨rfl, hB3⟩
  obtain ⟨hok1, b1, b2, hr1, he1, ⟨hv1, hv1b, hv1c⟩, ⟨ht1, ht1b, ht1c⟩, hs1, hen1⟩ := HQ1.out rfl
  obtain ⟨hok2, c1, c2, hr2, he2, ⟨hv2, hv2b, hv2c⟩, ⟨ht2, ht2b, ht2c⟩, hs2, hen2⟩ := HQ2.out rfl
  obtain ⟨F, hF⟩ := Int.eq_ofNat_of_zero_le hok1.f0
  obtain ⟨F', hF'⟩ := Int.eq_ofNat_of_zero_le hok2.f0
  subst hF
  subst hF'
  simp only [Int.toNat_natCast] at hr1 hr2 he1 he2 hs1 hs2 hen1 hen2
  have hM := runX_more K kf fs F F' ins l vn yn (by omega) (by have := hok2.f1; omega)
  have hf1 := hok1.f1
  have hf2 := hok2.f1
  have hvn := hok1.prog.vars
  have hyn := hok1.prog.ins
  have hr1' := (hr1.over HB12.out).over HB3.out
  have hr2' := (hr2.over HB2X.out).over HB3.out
  subst hv1 hv1b hv1c ht1 ht1b ht1c hv2 hv2b hv2c ht2 ht2b ht2c
  obtain ⟨r1, hr1e⟩ : ∃ q, q = runX K kf fs F ins l vn yn := ⟨_, rfl⟩
  obtain ⟨r2, hr2e⟩ : ∃ q, q = runX K kf fs F' ins l vn yn := ⟨_, rfl⟩
  rw [← hr1e] at hM hr1' he1 hs1 hen1
  rw [← hr2e] at hM hr2' he2 hs2 hen2
  clear hr1e hr2e hr1 hr2 hok1 hok2 HQ1 HQ2 HB12 HB2X HB3 H0 HX0
  have hse : r1.2.ev.length ≤ 2000 := by have := hr1'.num.el; have := hr1'.num.sb; omega
  have hse2 : r2.2.ev.length ≤ 2000 := by have := hr2'.num.el; have := hr2'.num.sb; omega
  obtain ⟨hsF, ⟨hb, he⟩ | ⟨hb, hsE, hpre⟩⟩ := hM
  · subst he
    have KS := hide (sameRun_eq _ _ F F' vn yn r2 _ _ b1 b2 c1 c2 w3 hr1' hr2' (by omega) (by omega) hse2)
    have e1 : endX r2.1 = 1 := by rw [hb]; rfl
    rw [e1] at hen1 hen2
    subst he1 he2 hs1 hs2 hen1 hen2
    have KS' : Hid (Calls Try.prog 7 #[.agg #[.slice ea r2.2.ev.length ec, .slice (some ⟨b1, 0, none⟩) vn vn, .slice (some ⟨b2, 0, none⟩) yn yn, .int .i64 (r2.2.steps : Int), .int .i64 1, .int .i64 0], .agg #[.slice fa2 r2.2.ev.length fc2, .slice (some ⟨c1, 0, none⟩) vn vn, .slice (some ⟨c2, 0, none⟩) yn yn, .int .i64 (r2.2.steps : Int), .int .i64 1, .int .i64 0]] w3 fun e w' => e = .returned (.bool true) ∧ Below w3.heap.size w3 w') := by
      have := KS.out
      unfold runV at this
      rw [e1] at this
      exact this
    obtain ⟨N, hN⟩ : ∃ q, q = r2.2.ev.length := ⟨_, rfl⟩
    obtain ⟨ss, hss⟩ : ∃ q, q = (r2.2.steps : Int) := ⟨_, rfl⟩
    rw [← hN] at KS' x0 y0
    rw [← hss] at KS' x3 y3
    rw [← hN, ← hss]
    clear KS e1 hb hsF hse hse2 hr1' hr2' hN hss
    go_wp2_with fail
    refine (KS'.out).mono ?_
    rintro e w4 ⟨rfl, hb4⟩
    have hB4 := hB3.trans (hb4.mono hB3.size)
    go_wp2_with fail
    go_ret
    exact ⟨rfl, hB4⟩
  · have e1 : endX r1.1 = 2 := by rw [hb]; rfl
    rw [e1] at hen1
    rw [hsE] at hs1
    have KS := hide (begins_eq r1.2.ev r2.2.ev _ _ w3 (EvAt.of_own hr1'.own) (EvAt.of_own hr2'.own) hpre hse2)
    subst hs1 hen1
    clear e1 hb hsF hsE hpre hse hse2 hr1' hr2' he1 he2 hs2 hen2
    go_wp2_with fail
    refine (KS.out).mono ?_
    rintro e w4 ⟨rfl, hb4⟩
    have hB4 := hB3.trans (hb4.mono hB3.size)
    go_wp2_with fail
    go_ret
    exact ⟨by first | rfl | simp, hB4⟩
end Go.Proofs.Ytpbnmmgocpobcaa.Ex
