/- runBegun: what must be in any case. -/
import Derived.Test.YtcbbjjenkommeaaM18
import Derived.Laws.AppendOwnNone
namespace Go.Proofs.Ytcbbjjenkommeaa.Ex
open Go.RowKit
set_option linter.unusedVariables false
theorem small_run : runX 1 1 [] (9 : Int).toNat [[7]] obAll [sm1, sm2] 1 1 o0 = ⟨[(1, 1, 0, 7)], [7], [1], 2, 1, 0, o0⟩ := by kernel_rfl
/-- the small program, and one number that comes in. -/
structure SmallIn (bi bo bv bm bx by' : Nat) (w : World) : Prop where
  small : Small bi bo bv bm w
  xs : w.cell? ⟨bx, 0, none⟩ = some (.slice (some ⟨by', 0, none⟩) 1 1)
  ys : w.cell? ⟨by', 0, none⟩ = some (.int .i64 7)
def Ran (w : World) (e : Ending) (w' : World) : Prop :=
  ∃ g c b1 b2, e = .returned (.tuple #[.agg #[.slice (some ⟨g, 0, none⟩) 1 c, .slice (some ⟨b1, 0, none⟩) 1 1, .slice (some ⟨b2, 0, none⟩) 1 1, .int .i64 2, .int .i64 1, .int .i64 0], .int .i64 0]) ∧ RowAt [.int .i64 1, .int .i64 1, .int .i64 0, .int .i64 7] w' g ∧ w'.cell? ⟨b2, 0, none⟩ = some (.int .i64 1) ∧ Below w.heap.size w w'
theorem small_okR : okR 1 1 1 1 1 1 0 [] [] [⟨[], []⟩] [⟨[], []⟩] [(false, ⟨[], []⟩)] [] [sm1, sm2] [[7]] 9 :=
  ⟨smallX, rfl, fun x hx => by simp at hx; subst hx; simp, fun x hx y hy => by simp at hx; subst hx; simp at hy; subst hy; exact ⟨by omega, by omega⟩, by omega, by omega⟩
theorem Run_small (bi bo bv bm bx by' : Nat) (w : World) (hS : SmallIn bi bo bv bm bx by' w) :
    Calls Try.prog 12 #[smallV bi bo bv bm, .slice (some ⟨bx, 0, none⟩) 1 1, .int .i64 9] w (Ran w) := by
  have hx : ListsAt w (.slice (some ⟨bx, 0, none⟩) 1 1) [[7]] := by
    refine ⟨by simp [maxLen], some ⟨bx, 0, none⟩, 1, rfl, fun _ => ⟨bx, 0, rfl, fun i hi => ?_⟩⟩
    have : i = 0 := by simp at hi; omega
    subst this
    refine ⟨_, hS.xs, ⟨some ⟨by', 0, none⟩, 1, rfl, fun _ => ⟨by', 0, rfl, fun j hj => ?_⟩⟩, by simp⟩
    have : j = 0 := by simp at hj; omega
    subst this
    exact hS.ys
  refine (Run_any 1 1 1 none 0 0 none 0 0 (some ⟨bi, 0, none⟩) 1 1 (some ⟨bo, 0, none⟩) 1 1 (some ⟨bv, 0, none⟩) 1 1 none 0 0 (some ⟨bm, 0, none⟩) 2 2 (some ⟨bx, 0, none⟩) 1 1 [[7]] 9 [] [] [⟨[], []⟩] [⟨[], []⟩] [(false, ⟨[], []⟩)] [] [sm1, sm2] w (smallProg hS.small) hx).mono ?_
  rintro e w' ⟨why, hw, hB, ⟨hne, -⟩ | ⟨-, ev, b1, b2, rfl, hr⟩⟩
  · exact absurd (hw.2 small_okR) hne
  · rw [small_run] at hr ⊢
    have ho := hr.own
    rcases ho.2 with ⟨-, h⟩ | ⟨g, cap, cur, rfl, -⟩
    · exact absurd h (by simp)
    · refine ⟨g, cap, b1, b2, rfl, fun j u hu => ?_, hr.taken 0 _ rfl, hB⟩
      have := ho.cells (g := g) rfl j u hu
      rwa [Addr.add_lit, Nat.zero_add] at this
def Smalls (w : World) (e : Ending) (w' : World) : Prop := ∃ bi bo bv bm, e = .returned (smallV bi bo bv bm) ∧ Small bi bo bv bm w' ∧ Below w.heap.size w w'
theorem RowAt.at {cs : List Value} {w w' : World} {b : Nat} {a : Array Value} {t : Nat} (ha : a.toList = cs) (hb : b = w.heap.size) (hw : Below (w.alloc (.cells a t)).heap.size (w.alloc (.cells a t)) w') : RowAt cs w' b := by
  subst hb
  rw [← ha]
  exact (RowAt.newA a t w).over hw
set_option maxHeartbeats 4000000 in
set_option maxRecDepth 100000 in
theorem small_any (w : World) : Calls Try.prog 30 #[] w (Smalls w) := by
  go_enter Try.func30, Try.ntmps30
  go_wp2_with fail
  have hbr := fun (W : World) (o : Obj) => (Below.refl _ W).alloc (Nat.le_refl _) o
  refine bodyPost_ret (v := smallV (w.heap.size + 1) (w.heap.size + 1 + 1) (w.heap.size + 1 + 1 + 1) (w.heap.size + 1 + 1 + 1 + 1)) (by simp [results, Try.results30, go_sem]) rfl ⟨_, _, _, _, rfl, ⟨?_, ?_, ?_, ?_⟩, ?_⟩
  · exact RowAt.at rfl (by simp) (over_trans (over_trans (hbr _ _) (hbr _ _)) (hbr _ _))
  · exact RowAt.at rfl (by simp) (over_trans (hbr _ _) (hbr _ _))
  · exact RowAt.at rfl (by simp) (hbr _ _)
  · exact RowAt.at rfl (by simp) (Below.refl _ _)
  · exact over_trans (over_trans (over_trans (over_trans (hbr _ _) (hbr _ _)) (hbr _ _)) (hbr _ _)) (hbr _ _)
set_option maxHeartbeats 1000000 in
theorem sameInts_one (a b : Nat) (w : World) (ha : w.cell? ⟨a, 0, none⟩ = some (.int .i64 1)) (hb : w.cell? ⟨b, 0, none⟩ = some (.int .i64 1)) :
    Calls Try.prog 31 #[.slice (some ⟨a, 0, none⟩) 1 1, .slice (some ⟨b, 0, none⟩) 1 1] w fun e w' => e = .returned (.bool true) ∧ ∃ n, w' = w.drewN n := by
  go_enter Try.func31, Try.ntmps31
  go_wp2_with fail
  go_loopw [5] (fun i wr => ∃ j : Int, 0 ≤ j ∧ j ≤ 1 ∧ i = .int .i64 j ∧ ∃ n, wr = w.drewN n) (fun i _ => 1 - (intOf i).toNat)
  case atStart => exact ⟨0, by omega, by omega, rfl, 0, rfl⟩
  case round =>
    obtain ⟨j, hj0, hj, rfl, n, rfl⟩ := hrel
    rcases (by omega : j = 0 ∨ j = 1) with rfl | rfl
    · go_wp2_with fail
      go_quiet ((fail))
      go_wp2_with fail
      exact ⟨⟨1, by omega, by omega, by first | rfl | go_num, _, by first | rfl | exact World.drewN_drewN _ _ _⟩, by simp [intOf]⟩
    · go_wp2_with fail
      go_ret
      exact ⟨rfl, n, by first | rfl | trivial⟩
theorem num4 (w : World) : RX w 1 [.int .i64 1, .int .i64 4, .slice none 0 0] (xD 1 4 []) := ⟨1, 4, _, [], rfl, rfl, ⟨by omega, by omega⟩, ⟨by omega, by omega⟩, by simp, none, 0, rfl, fun h => absurd rfl h⟩
theorem noInts (w : World) : IsInts w (.slice none 0 0) [] := ⟨none, 0, rfl, fun h => absurd rfl h⟩
set_option maxHeartbeats 4000000 in
set_option maxRecDepth 100000 in
theorem begun_any (w : World) : Calls Try.prog 11 #[] w fun e w' => e = .returned (.bool true) ∧ Below w.heap.size w w' := by
  have K1 := hide small_any
  have K2 := hide fun bi bo bv bm bx by' W (hS : SmallIn bi bo bv bm bx by' W) => Run_small bi bo bv bm bx by' W hS
  have K3 := hide fun W => eval_any 1 _ _ W _ [] (num4 W) (noInts W) (by simp)
  have he : evalErr [] 1 (xD 1 4 []) = 0 := by decide
  have hv : evalVal [] 1 (xD 1 4 []) = 4 := by decide
  rw [he, hv] at K3
  clear he hv
  go_enter Try.func11, Try.ntmps11
  go_wp2_with fail
  refine (K1.out _).mono ?_
  rintro e w1 ⟨bi, bo, bv, bm, rfl, hSm, hb1⟩
  have hS : SmallIn bi bo bv bm (w1.heap.size + 1) w1.heap.size ((w1.alloc (.cells #[.int .i64 7] 3)).alloc (.cells #[.slice (some ⟨w1.heap.size, 0, none⟩) 1 1] 25)) :=
    ⟨hSm.over (((Below.refl _ w1).alloc (Nat.le_refl _) _).alloc (by simp) _), by simp [go_sem], by simp [go_sem]⟩
  have hB1 : Below w.heap.size w ((w1.alloc (.cells #[.int .i64 7] 3)).alloc (.cells #[.slice (some ⟨w1.heap.size, 0, none⟩) 1 1] 25)) := (hb1.alloc hb1.size _).alloc (by have := hb1.size; simp; omega) _
  have K2' := hide (K2.out _ _ _ _ _ _ _ hS)
  clear K1 K2 hSm hb1 hS
  unfold smallV at K2' ⊢
  go_wp2_with fail
  refine (K2'.out).mono ?_
  rintro e w2 ⟨g, c, b1, b2, rfl, hrow, ht, hb2⟩
  have hB2 := hB1.trans (hb2.mono hB1.size)
  clear K2' hb2 hB1
  go_wp2_with fail
  refine (K3.out _).mono ?_
  rintro e w3 ⟨rfl, hb3⟩
  have hba := (Below.refl _ w2).alloc (Nat.le_refl _) (.cells #[.slice (some ⟨g, 0, none⟩) 1 c, .slice (some ⟨b1, 0, none⟩) 1 1, .slice (some ⟨b2, 0, none⟩) 1 1, .int .i64 2, .int .i64 1, .int .i64 0] 45)
  have hb3' := over_trans hba hb3
  have hB3 := hB2.trans (hb3'.mono hB2.size)
  have hr := (RowAt.newA #[.slice (some ⟨g, 0, none⟩) 1 c, .slice (some ⟨b1, 0, none⟩) 1 1, .slice (some ⟨b2, 0, none⟩) 1 1, .int .i64 2, .int .i64 1, .int .i64 0] 45 w2).over hb3
  have r0 := hr 0 _ rfl
  have r2 := hr 2 _ rfl
  have r3 := hr 3 _ rfl
  have r4 := hr 4 _ rfl
  have hrow3 := hrow.over hb3'
  have g0 := hrow3 0 _ rfl
  have g1 := hrow3 1 _ rfl
  have g2 := hrow3 2 _ rfl
  have g3 := hrow3 3 _ rfl
  have t3 := cell_over hb3' _ _ ht
  clear hrow hrow3 ht hr hba hb3 hb3' hB2 K3
  have q3 : (w3.alloc (.cells #[.int .i64 1] 3)).cell? ⟨w3.heap.size, 0, none⟩ = some (.int .i64 1) := by simp [go_sem]
  have K4 := hide (sameInts_one b2 w3.heap.size _ (cell_over ((Below.refl _ w3).alloc (Nat.le_refl _) _) _ _ t3) q3)
  have hB4 : Below w.heap.size w (w3.alloc (.cells #[.int .i64 1] 3)) := hB3.alloc hB3.size _
  go_wp2_with fail
  refine (K4.out).mono ?_
  rintro e w4 ⟨rfl, n, rfl⟩
  have hB5 := below_drewN hB4 n
  go_wp2_with fail
  go_ret
  exact ⟨rfl, hB5⟩
theorem runX_more (K kf : Nat) (fs : List FnD) (F F' : Nat) (ins : List (List Int)) (l : List D) (vn yn : Nat) (o : WSt) (hF : F ≤ F') (hF' : F' ≤ 2000) :
    ((runX K kf fs F ins obAll l vn yn o).en = 1 ∧ runX K kf fs F' ins obAll l vn yn o = runX K kf fs F ins obAll l vn yn o) ∨ ((runX K kf fs F ins obAll l vn yn o).en = 2 ∧ (runX K kf fs F ins obAll l vn yn o).steps = F ∧ (runX K kf fs F ins obAll l vn yn o).ev <+: (runX K kf fs F' ins obAll l vn yn o).ev) := by
  have h := rn_more K kf fs F F' ins obAll (fun _ _ _ _ _ => rfl) hF 6001 0 kf l (cntF kf fs : Nat) 0 (st0 vn yn o) (Nat.zero_le _) (by show 3 * (F' - 0) + 1 ≤ 6001; omega)
  unfold runX
  obtain ⟨hs, ⟨h1, h2⟩ | ⟨h1, h2, h3, h4⟩⟩ := h
  · refine Or.inl ⟨?_, by rw [h2]⟩
    unfold finX
    rw [if_pos h1]
  · refine Or.inr ?_
    have ea : finX (rn K kf fs F ins obAll 6001 0 kf l (cntF kf fs : Nat) 0 (st0 vn yn o)) = (rn K kf fs F ins obAll 6001 0 kf l (cntF kf fs : Nat) 0 (st0 vn yn o)).2 := by
      unfold finX
      rw [if_neg (by rw [h1]; decide)]
    rw [ea]
    refine ⟨h3, h2, ?_⟩
    unfold finX
    split
    · exact h4
    · exact h4

/-- what run.Run answers, in one form. -/
theorem runU {K kf : Nat} {m : Int} {vn yn on sn : Nat} {gs : List (Int × Int)} {sp : List Int} {ls ms : List Lab} {vs : List (Bool × Lab)} {fs : List FnD} {l : List D} {ins : List (List Int)} {fuel : Int} {w : World} {e : Ending} {w' : World} (h : RunSaid K kf m vn yn on sn gs sp ls ms vs fs l ins fuel w e w') :
    ∃ (ea : Option Addr) (el ec : Nat) (va : Option Addr) (vl vc : Nat) (ta : Option Addr) (tl tc : Nat) (s en tp why : Int), e = .returned (.tuple #[.agg #[.slice ea el ec, .slice va vl vc, .slice ta tl tc, .int .i64 s, .int .i64 en, .int .i64 tp], .int .i64 why]) ∧ Below w.heap.size w w' ∧
      (why = 0 → okR K kf m vn yn on sn gs sp ls ms vs fs l ins fuel ∧ ∃ b1 b2, RunAt w.heap.size vn yn fuel.toNat (runX K kf fs fuel.toNat ins obAll l vn yn o0) (.slice ea el ec) b1 b2 w' ∧ (runX K kf fs fuel.toNat ins obAll l vn yn o0).ev.length = el ∧ (some ⟨b1, 0, none⟩ = va ∧ vn = vl ∧ vn = vc) ∧ (some ⟨b2, 0, none⟩ = ta ∧ yn = tl ∧ yn = tc) ∧ ((runX K kf fs fuel.toNat ins obAll l vn yn o0).steps : Int) = s ∧ (runX K kf fs fuel.toNat ins obAll l vn yn o0).en = en ∧ (runX K kf fs fuel.toNat ins obAll l vn yn o0).sp = tp) ∧
      (why ≠ 0 → va = none ∧ vl = 0 ∧ vc = 0) ∧ (why = 0 ↔ okR K kf m vn yn on sn gs sp ls ms vs fs l ins fuel) := by
  obtain ⟨why, hw, hb, ⟨hne, rfl⟩ | ⟨h0, ev, b1, b2, rfl, hr⟩⟩ := h
  · exact ⟨none, 0, 0, none, 0, 0, none, 0, 0, 0, 0, 0, why, rfl, hb, fun h => absurd h hne, fun _ => ⟨rfl, rfl, rfl⟩, hw⟩
  · subst h0
    obtain ⟨ea, ec, he, -⟩ := EvAt.of_own hr.own
    subst he
    exact ⟨ea, _, ec, _, _, _, _, _, _, _, _, _, 0, rfl, hb, fun _ => ⟨hw.1 rfl, b1, b2, hr, rfl, ⟨rfl, rfl, rfl⟩, ⟨rfl, rfl, rfl⟩, rfl, rfl, rfl⟩, fun h => absurd rfl h, hw⟩

set_option maxHeartbeats 4000000 in
set_option maxRecDepth 100000 in
theorem runMore_any (K kf : Nat) (m : Int) (ga : Option Addr) (gn gc : Nat) (sa : Option Addr) (sn sc : Nat) (ya : Option Addr) (yn yc : Nat) (oa : Option Addr) (on oc : Nat) (va : Option Addr) (vn vc : Nat) (fa : Option Addr) (fn fc : Nat) (ba : Option Addr) (bn bc : Nat) (xa : Option Addr) (xn xc : Nat) (ins : List (List Int)) (fuel more : Int) (gs : List (Int × Int)) (sp : List Int) (ls ms : List Lab) (vs : List (Bool × Lab)) (fs : List FnD) (l : List D) (w : World) (h : ProgAt K kf m ga gn gc sa sn sc ya yn yc oa on oc va vn vc fa fn fc ba bn bc gs sp ls ms vs fs l w) (hx : ListsAt w (.slice xa xn xc) ins) :
    Calls Try.prog 4 #[.agg #[.int .i64 m, .slice ga gn gc, .slice sa sn sc, .slice ya yn yc, .slice oa on oc, .slice va vn vc, .slice fa fn fc, .slice ba bn bc], .slice xa xn xc, .int .i64 fuel, .int .i64 more] w fun e w' => e = .returned (.bool true) ∧ Below w.heap.size w w' := by
  have KB := hide begun_any
  have KR := hide fun W (hP : ProgAt K kf m ga gn gc sa sn sc ya yn yc oa on oc va vn vc fa fn fc ba bn bc gs sp ls ms vs fs l W) (hX : ListsAt W (.slice xa xn xc) ins) (fu : Int) => Run_any K kf m ga gn gc sa sn sc ya yn yc oa on oc va vn vc fa fn fc ba bn bc xa xn xc ins fu gs sp ls ms vs fs l W hP hX
  have H0 := hide h
  have HX0 := hide hx
  have hbel : Below w.heap.size w (w.alloc (.cells #[.int .i64 m, .slice ga gn gc, .slice sa sn sc, .slice ya yn yc, .slice oa on oc, .slice va vn vc, .slice fa fn fc, .slice ba bn bc] 41)) := (Below.refl _ w).alloc (Nat.le_refl _) _
  have c0 : (w.alloc (.cells #[.int .i64 m, .slice ga gn gc, .slice sa sn sc, .slice ya yn yc, .slice oa on oc, .slice va vn vc, .slice fa fn fc, .slice ba bn bc] 41)).cell? ⟨w.heap.size, 0, none⟩ = some (.int .i64 m) := by simp [go_sem]
  have c1 : (w.alloc (.cells #[.int .i64 m, .slice ga gn gc, .slice sa sn sc, .slice ya yn yc, .slice oa on oc, .slice va vn vc, .slice fa fn fc, .slice ba bn bc] 41)).cell? ⟨w.heap.size, 1, none⟩ = some (.slice ga gn gc) := by simp [go_sem]
  have c2 : (w.alloc (.cells #[.int .i64 m, .slice ga gn gc, .slice sa sn sc, .slice ya yn yc, .slice oa on oc, .slice va vn vc, .slice fa fn fc, .slice ba bn bc] 41)).cell? ⟨w.heap.size, 2, none⟩ = some (.slice sa sn sc) := by simp [go_sem]
  have c3 : (w.alloc (.cells #[.int .i64 m, .slice ga gn gc, .slice sa sn sc, .slice ya yn yc, .slice oa on oc, .slice va vn vc, .slice fa fn fc, .slice ba bn bc] 41)).cell? ⟨w.heap.size, 3, none⟩ = some (.slice ya yn yc) := by simp [go_sem]
  have c4 : (w.alloc (.cells #[.int .i64 m, .slice ga gn gc, .slice sa sn sc, .slice ya yn yc, .slice oa on oc, .slice va vn vc, .slice fa fn fc, .slice ba bn bc] 41)).cell? ⟨w.heap.size, 4, none⟩ = some (.slice oa on oc) := by simp [go_sem]
  have c5 : (w.alloc (.cells #[.int .i64 m, .slice ga gn gc, .slice sa sn sc, .slice ya yn yc, .slice oa on oc, .slice va vn vc, .slice fa fn fc, .slice ba bn bc] 41)).cell? ⟨w.heap.size, 5, none⟩ = some (.slice va vn vc) := by simp [go_sem]
  have c6 : (w.alloc (.cells #[.int .i64 m, .slice ga gn gc, .slice sa sn sc, .slice ya yn yc, .slice oa on oc, .slice va vn vc, .slice fa fn fc, .slice ba bn bc] 41)).cell? ⟨w.heap.size, 6, none⟩ = some (.slice fa fn fc) := by simp [go_sem]
  have c7 : (w.alloc (.cells #[.int .i64 m, .slice ga gn gc, .slice sa sn sc, .slice ya yn yc, .slice oa on oc, .slice va vn vc, .slice fa fn fc, .slice ba bn bc] 41)).cell? ⟨w.heap.size, 7, none⟩ = some (.slice ba bn bc) := by simp [go_sem]
  clear h hx
  go_enter Try.func4, Try.ntmps4
  go_wp2_with fail
  refine (KR.out _ (H0.out.over hbel) (HX0.out.over hbel) fuel).mono ?_
  rintro e w1 h1
  obtain ⟨ea, el, ec, va1, vl1, vc1, ta1, tl1, tc1, s1, en1, tp1, why1, rfl, hb1, hq1, -, -⟩ := runU h1
  have d0 := cell_over hb1 _ _ c0
  have d1 := cell_over hb1 _ _ c1
  have d2 := cell_over hb1 _ _ c2
  have d3 := cell_over hb1 _ _ c3
  have d4 := cell_over hb1 _ _ c4
  have d5 := cell_over hb1 _ _ c5
  have d6 := cell_over hb1 _ _ c6
  have d7 := cell_over hb1 _ _ c7
  have hB1 := hbel.trans (hb1.mono hbel.size)
  have HQ1 := hide hq1
  have hba := (Below.refl _ w1).alloc (Nat.le_refl _) (.cells #[.slice ea el ec, .slice va1 vl1 vc1, .slice ta1 tl1 tc1, .int .i64 s1, .int .i64 en1, .int .i64 tp1] 45)
  have hB1a := hB1.trans (hba.mono hB1.size)
  have f0 := cell_over hba _ _ d0
  have f1 := cell_over hba _ _ d1
  have f2 := cell_over hba _ _ d2
  have f3 := cell_over hba _ _ d3
  have f4 := cell_over hba _ _ d4
  have f5 := cell_over hba _ _ d5
  have f6 := cell_over hba _ _ d6
  have f7 := cell_over hba _ _ d7
  have g0 : (w1.alloc (.cells #[.slice ea el ec, .slice va1 vl1 vc1, .slice ta1 tl1 tc1, .int .i64 s1, .int .i64 en1, .int .i64 tp1] 45)).cell? ⟨w1.heap.size, 0, none⟩ = some (.slice ea el ec) := by simp [go_sem]
  have g1 : (w1.alloc (.cells #[.slice ea el ec, .slice va1 vl1 vc1, .slice ta1 tl1 tc1, .int .i64 s1, .int .i64 en1, .int .i64 tp1] 45)).cell? ⟨w1.heap.size, 1, none⟩ = some (.slice va1 vl1 vc1) := by simp [go_sem]
  have g2 : (w1.alloc (.cells #[.slice ea el ec, .slice va1 vl1 vc1, .slice ta1 tl1 tc1, .int .i64 s1, .int .i64 en1, .int .i64 tp1] 45)).cell? ⟨w1.heap.size, 2, none⟩ = some (.slice ta1 tl1 tc1) := by simp [go_sem]
  have g3 : (w1.alloc (.cells #[.slice ea el ec, .slice va1 vl1 vc1, .slice ta1 tl1 tc1, .int .i64 s1, .int .i64 en1, .int .i64 tp1] 45)).cell? ⟨w1.heap.size, 3, none⟩ = some (.int .i64 s1) := by simp [go_sem]
  have g4 : (w1.alloc (.cells #[.slice ea el ec, .slice va1 vl1 vc1, .slice ta1 tl1 tc1, .int .i64 s1, .int .i64 en1, .int .i64 tp1] 45)).cell? ⟨w1.heap.size, 4, none⟩ = some (.int .i64 en1) := by simp [go_sem]
  have g5 : (w1.alloc (.cells #[.slice ea el ec, .slice va1 vl1 vc1, .slice ta1 tl1 tc1, .int .i64 s1, .int .i64 en1, .int .i64 tp1] 45)).cell? ⟨w1.heap.size, 5, none⟩ = some (.int .i64 tp1) := by simp [go_sem]
  clear h1 hq1 c0 c1 c2 c3 c4 c5 c6 c7 d0 d1 d2 d3 d4 d5 d6 d7 hb1
  go_wp2_with fail
  refine (KR.out _ (H0.out.over hB1a) (HX0.out.over hB1a) more).mono ?_
  rintro e w2 h2
  obtain ⟨fa2, fl2, fc2, va2, vl2, vc2, ta2, tl2, tc2, s2, en2, tp2, why2, rfl, hb2, hq2, -, -⟩ := runU h2
  have hB2 := hB1a.trans (hb2.mono hB1a.size)
  have HQ2 := hide hq2
  have hbb := (Below.refl _ w2).alloc (Nat.le_refl _) (.cells #[.slice fa2 fl2 fc2, .slice va2 vl2 vc2, .slice ta2 tl2 tc2, .int .i64 s2, .int .i64 en2, .int .i64 tp2] 45)
  have hB2b := hB2.trans (hbb.mono hB2.size)
  have HB12 := hide (over_trans (over_trans hba hb2) hbb)
  have k0 := cell_over hbb _ _ (cell_over hb2 _ _ g0)
  have k1 := cell_over hbb _ _ (cell_over hb2 _ _ g1)
  have k2 := cell_over hbb _ _ (cell_over hb2 _ _ g2)
  have k3 := cell_over hbb _ _ (cell_over hb2 _ _ g3)
  have k4 := cell_over hbb _ _ (cell_over hb2 _ _ g4)
  have k5 := cell_over hbb _ _ (cell_over hb2 _ _ g5)
  have n0 : (w2.alloc (.cells #[.slice fa2 fl2 fc2, .slice va2 vl2 vc2, .slice ta2 tl2 tc2, .int .i64 s2, .int .i64 en2, .int .i64 tp2] 45)).cell? ⟨w2.heap.size, 0, none⟩ = some (.slice fa2 fl2 fc2) := by simp [go_sem]
  have n1 : (w2.alloc (.cells #[.slice fa2 fl2 fc2, .slice va2 vl2 vc2, .slice ta2 tl2 tc2, .int .i64 s2, .int .i64 en2, .int .i64 tp2] 45)).cell? ⟨w2.heap.size, 1, none⟩ = some (.slice va2 vl2 vc2) := by simp [go_sem]
  have n2 : (w2.alloc (.cells #[.slice fa2 fl2 fc2, .slice va2 vl2 vc2, .slice ta2 tl2 tc2, .int .i64 s2, .int .i64 en2, .int .i64 tp2] 45)).cell? ⟨w2.heap.size, 2, none⟩ = some (.slice ta2 tl2 tc2) := by simp [go_sem]
  have n3 : (w2.alloc (.cells #[.slice fa2 fl2 fc2, .slice va2 vl2 vc2, .slice ta2 tl2 tc2, .int .i64 s2, .int .i64 en2, .int .i64 tp2] 45)).cell? ⟨w2.heap.size, 3, none⟩ = some (.int .i64 s2) := by simp [go_sem]
  have n4 : (w2.alloc (.cells #[.slice fa2 fl2 fc2, .slice va2 vl2 vc2, .slice ta2 tl2 tc2, .int .i64 s2, .int .i64 en2, .int .i64 tp2] 45)).cell? ⟨w2.heap.size, 4, none⟩ = some (.int .i64 en2) := by simp [go_sem]
  have n5 : (w2.alloc (.cells #[.slice fa2 fl2 fc2, .slice va2 vl2 vc2, .slice ta2 tl2 tc2, .int .i64 s2, .int .i64 en2, .int .i64 tp2] 45)).cell? ⟨w2.heap.size, 5, none⟩ = some (.int .i64 tp2) := by simp [go_sem]
  have HB2X := hide hbb
  clear h2 hq2 g0 g1 g2 g3 g4 g5 f0 f1 f2 f3 f4 f5 f6 f7 hb2 KR
  go_wp2_with fail
  refine (KB.out _).mono ?_
  rintro e w3 ⟨rfl, hb3⟩
  have hB3 := hB2b.trans (hb3.mono hB2b.size)
  have HB3 := hide hb3
  have x0 := cell_over hb3 _ _ k0
  have y0 := cell_over hb3 _ _ n0
  have x1 := cell_over hb3 _ _ k1
  have y1 := cell_over hb3 _ _ n1
  have x2 := cell_over hb3 _ _ k2
  have y2 := cell_over hb3 _ _ n2
  have x3 := cell_over hb3 _ _ k3
  have y3 := cell_over hb3 _ _ n3
  have x4 := cell_over hb3 _ _ k4
  have y4 := cell_over hb3 _ _ n4
  have x5 := cell_over hb3 _ _ k5
  have y5 := cell_over hb3 _ _ n5
  have hl12 : w1.heap.size < w3.heap.size := World.block_lt_of_cell? w3 _ x0
  clear k0 n0 k1 n1 k2 n2 k3 n3 k4 n4 k5 n5 hb3 KB hB2b hB2 hB1a hB1 hba hbb hbel
  by_cases z1 : why1 = 0
  rotate_left
  · have zb : (why1 == 0) = false := by simpa using z1
    go_wp2_with fail
    go_ret
    exact ⟨rfl, hB3⟩
  subst z1
  by_cases z2 : why2 = 0
  rotate_left
  · have zb : (why2 == 0) = false := by simpa using z2
    go_wp2_with fail
    go_ret
    exact ⟨rfl, hB3⟩
  subst z2
  by_cases z3 : more < fuel
  · go_wp2_with fail
    go_ret
    exact ⟨rfl, hB3⟩
  obtain ⟨hok1, b1, b2, hr1, he1, ⟨hv1, hv1b, hv1c⟩, ⟨ht1, ht1b, ht1c⟩, hs1, hen1, htp1⟩ := HQ1.out rfl
  obtain ⟨hok2, c1, c2, hr2, he2, ⟨hv2, hv2b, hv2c⟩, ⟨ht2, ht2b, ht2c⟩, hs2, hen2, htp2⟩ := HQ2.out rfl
  obtain ⟨F, hF⟩ := Int.eq_ofNat_of_zero_le hok1.f0
  obtain ⟨F', hF'⟩ := Int.eq_ofNat_of_zero_le hok2.f0
  subst hF
  subst hF'
  simp only [Int.toNat_natCast] at hr1 hr2 he1 he2 hs1 hs2 hen1 hen2 htp1 htp2
  have hM := runX_more K kf fs F F' ins l vn yn o0 (by omega) (by have := hok2.f1; omega)
  have hf1 := hok1.f1
  have hf2 := hok2.f1
  have hvn := hok1.prog.ok.vars
  have hyn := hok1.prog.ok.ins
  have hr1' := (hr1.over HB12.out).over HB3.out
  have hr2' := (hr2.over HB2X.out).over HB3.out
  subst hv1 hv1b hv1c ht1 ht1b ht1c hv2 hv2b hv2c ht2 ht2b ht2c
  obtain ⟨r1, hr1e⟩ : ∃ q, q = runX K kf fs F ins obAll l vn yn o0 := ⟨_, rfl⟩
  obtain ⟨r2, hr2e⟩ : ∃ q, q = runX K kf fs F' ins obAll l vn yn o0 := ⟨_, rfl⟩
  rw [← hr1e] at hM hr1' he1 hs1 hen1 htp1
  rw [← hr2e] at hM hr2' he2 hs2 hen2 htp2
  clear hr1e hr2e hr1 hr2 hok1 hok2 HQ1 HQ2 HB12 HB2X HB3 H0 HX0
  have hse : r1.ev.length ≤ 2000 := by have := hr1'.num.el; have := hr1'.num.sb; omega
  have hse2 : r2.ev.length ≤ 2000 := by have := hr2'.num.el; have := hr2'.num.sb; omega
  obtain ⟨hb, he⟩ | ⟨hb, hsE, hpre⟩ := hM
  · subst he
    have KS := hide (sameRun_eq _ _ F F' vn yn r2 _ _ b1 b2 c1 c2 w3 hr1' hr2' (by omega) (by omega) hse)
    rw [hb] at hen1 hen2
    subst he1 he2 hs1 hs2 hen1 hen2 htp1 htp2
    have KS' : Hid (Calls Try.prog 13 #[.agg #[.slice ea r2.ev.length ec, .slice (some ⟨b1, 0, none⟩) vn vn, .slice (some ⟨b2, 0, none⟩) yn yn, .int .i64 (r2.steps : Int), .int .i64 1, .int .i64 r2.sp], .agg #[.slice fa2 r2.ev.length fc2, .slice (some ⟨c1, 0, none⟩) vn vn, .slice (some ⟨c2, 0, none⟩) yn yn, .int .i64 (r2.steps : Int), .int .i64 1, .int .i64 r2.sp]] w3 fun e w' => e = .returned (.bool true) ∧ Below w3.heap.size w3 w') := by
      have := KS.out
      unfold runV at this
      rw [hb] at this
      exact this
    obtain ⟨N, hN⟩ : ∃ q, q = r2.ev.length := ⟨_, rfl⟩
    obtain ⟨ss, hss⟩ : ∃ q, q = (r2.steps : Int) := ⟨_, rfl⟩
    obtain ⟨tt, htt⟩ : ∃ q, q = r2.sp := ⟨_, rfl⟩
    rw [← hN] at KS' x0 y0
    rw [← hss] at KS' x3 y3
    rw [← htt] at KS' x5 y5
    rw [← hN, ← hss, ← htt]
    clear KS hb hse hse2 hr1' hr2' hN hss htt
    go_wp2_with fail
    refine (KS'.out).mono ?_
    rintro e w4 ⟨rfl, hb4⟩
    have hB4 := hB3.trans (hb4.mono hB3.size)
    go_wp2_with fail
    go_ret
    exact ⟨rfl, hB4⟩
  · rw [hb] at hen1
    rw [hsE] at hs1
    have KS := hide (begins_eq r1.ev r2.ev _ _ w3 (EvAt.of_own hr1'.own) (EvAt.of_own hr2'.own) hpre hse2)
    subst hs1 hen1
    clear hb hsE hpre hse hse2 hr1' hr2' he1 he2 hs2 hen2 htp1 htp2
    go_wp2_with fail
    refine (KS.out).mono ?_
    rintro e w4 ⟨rfl, hb4⟩
    have hB4 := hB3.trans (hb4.mono hB3.size)
    go_wp2_with fail
    go_ret
    exact ⟨by first | rfl | simp, hB4⟩
theorem Try.infoS : (Try.prog.info? 25).map (fun i => (i.zero, i.size, i.bytes)) = some (some (.slice none 0 0), 1, 24) := by kernel_rfl

theorem grown_refl (w : World) (row : Option Nat) : w.grownBy w row := ⟨rfl, rfl, rfl, Nat.le_refl _, fun _ _ _ => rfl⟩

theorem IsInts.grown {w w' : World} {row : Option Nat} {u : Value} {l : List Int} (h : IsInts w u l) (hg : w.grownBy w' row) (hne : l ≠ [] → ∀ k, u.ownBlock = some k → row ≠ some k) : IsInts w' u l := by
  obtain ⟨ao, cap, rfl, hc⟩ := h
  refine ⟨ao, cap, rfl, fun hl => ?_⟩
  obtain ⟨b, off, rfl, hel⟩ := hc hl
  exact ⟨b, off, rfl, fun i hi => hg.cell (hel i hi) (fun hx => hne hl b rfl hx.symm)⟩

theorem own_ints {w : World} {B : Nat} {v : Value} {n : Nat} {l : List Int} (h : w.ownsRow B 3 1 v n (intsV l)) (hn : n = l.length) : IsInts w v l := by
  subst hn
  rcases h.2 with ⟨h1, h2⟩ | ⟨g, cap, cur, hv, hb, hg, h1, h2, h3, h4⟩
  · exact ⟨none, 0, by rw [h1, h2], fun hne => absurd (List.length_eq_zero_iff.1 h2) hne⟩
  · refine ⟨_, cap, hv, fun _ => ⟨g, 0, rfl, fun i hi => ?_⟩⟩
    have := h.cells (g := g) (by rw [hv]; rfl) i (.int .i64 l[i]) (by simp [hi])
    rwa [Addr.add_lit] at this

section
variable {ops : Array Oper} {o : Oper} {a : Act} {W : World} {K : Act → World → Prop} {Q : Exit → Act → World → Prop} {E : Prop}

set_option maxRecDepth 100000 in
theorem step_appS (hg : o.guard = none) (s x : Operand) (hop : o.op = Op.call { callee := Callee.builtin Builtin.append, args := #[s, x], argTypes := #[25, 25] })
    (B : Nat) (v xv : Value) (n : Nat) (xs : List Value) (l : List Int) (hs : a.eval s = v) (hx : a.eval x = xv) (hown : W.ownsRow B 3 1 v n xs) (hv : IsInts W xv l) (hsh : ∀ k c, xv = .slice none k c → c = 0)
    (hb : (n + l.length) * 8 ≤ 140737488355328) (hB : B ≤ W.heap.size)
    (h : ∀ v' W', W'.ownsRow B 3 1 v' (n + l.length) (xs ++ intsV l) → W.grownBy W' v.ownBlock → K (a.put o.dst v') W') :
    if Region.wanted o (yielded ops a.tmps) = true then Oper.wp Try.prog o a W K Q else E := by
  have hw : Region.wanted o (yielded ops a.tmps) = true := by simp [Region.wanted, hg]
  rw [if_pos hw]
  obtain ⟨i, hi, hz, h2, h16⟩ := info_parts Try.infoI
  obtain ⟨ao, cap, rfl, hcc⟩ := hv
  cases ao with
  | none =>
    have hl : l = [] := by
      apply Classical.byContradiction
      intro hne
      obtain ⟨b, off, h, _⟩ := hcc hne
      cases h
    subst hl
    have hcap : cap = 0 := hsh _ _ rfl
    subst hcap
    have hr := run_append_owned_none (P := Try.prog) W B 25 o.type 3 i 1 Try.underlying25 hi _ n xs hown
    have hK := h v W (by simpa using hown) (grown_refl W _)
    unfold Oper.wp execOp
    simp only [hop, resolve, invoke, builtin, Sem.run_bind, Sem.run_pure, Result.andThen_ok, List.map_toArray, List.map_cons, List.map_nil, hs, hx, List.length_nil, hr]
    exact hK
  | some ad =>
    obtain ⟨v', w', hr, h3, h4, h5, h6⟩ := run_append_own_at (P := Try.prog) W B 25 o.type 3 i _ 1 8 Try.underlying25 hi hz h2 h16 (by rfl) (by decide) v n xs hown ad l.length cap (intsV l) (by simp) (by
      intro j u hu
      have hj : j < l.length := by have := (List.getElem?_eq_some_iff.1 hu).1; simpa using this
      obtain ⟨b', off, hb', hcl⟩ := hcc (by rintro rfl; simp at hj)
      injection hb' with hb'
      subst hb'
      rw [Addr.add_lit]
      have : u = .int .i64 l[j] := by simp [hj] at hu; exact hu.symm
      rw [this]
      exact hcl j hj) (by intro u hu; simp at hu; obtain ⟨y, -, rfl⟩ := hu; rfl) (by simp only [maxLen]; omega) hb hB
    have hK := h v' w' h3 h4
    unfold Oper.wp execOp
    simp only [hop, resolve, invoke, builtin, Sem.run_bind, Sem.run_pure, Result.andThen_ok, List.map_toArray, List.map_cons, List.map_nil, hs, hx, hr]
    exact hK
end

/-- the same, as far as it is taken. -/
def Mix (l l' : List Int) (t : Int) : Prop := ∀ i : Nat, (i : Int) < t → l.getD i 0 = l'.getD i 0
theorem Mix.refl (l : List Int) (t : Int) : Mix l l t := fun _ _ => rfl
theorem Mix.take (l m : List Int) (n : Nat) (h : n ≤ l.length) : Mix l (l.take n ++ m) n := fun i hi => by
  have hi2 : i < n := by omega
  rw [List.getD_eq_getElem?_getD, List.getD_eq_getElem?_getD, List.getElem?_append_left (by simp; omega), List.getElem?_take, if_pos hi2]

/-- lists of numbers, one of them behind the other, in a row of one's own. -/
structure MixAt (B : Nat) (ins : List (List Int)) (T : List Int) (mv : Value) (j : Nat) (us : List Value) (ml : List (List Int)) (w : World) : Prop where
  own : w.ownsRow B 25 1 mv j us
  len : ml.length = j
  one : ∀ i (h : i < ml.length), ∃ u, us[i]? = some u ∧ IsInts w u ml[i] ∧ (ml[i] ≠ [] → ∀ k, u.ownBlock = some k → mv.ownBlock ≠ some k ∧ k < w.heap.size) ∧ ml[i].length ≤ 9223372036854775807 ∧ Mix (ins.getD i []) ml[i] (T.getD i 0)

theorem MixAt.over {B : Nat} {ins : List (List Int)} {T : List Int} {mv : Value} {j : Nat} {us : List Value} {ml : List (List Int)} {w w' : World} (h : MixAt B ins T mv j us ml w) (hb : Below w.heap.size w w') : MixAt B ins T mv j us ml w' :=
  ⟨own_overG h.own hb, h.len, fun i hi => by
    obtain ⟨u, h1, h2, h3, h5, h6⟩ := h.one i hi
    exact ⟨u, h1, h2.over hb, fun hne k hk => ⟨(h3 hne k hk).1, Nat.lt_of_lt_of_le (h3 hne k hk).2 hb.size⟩, h5, h6⟩⟩

theorem MixAt.lists {B : Nat} {ins : List (List Int)} {T : List Int} {mv : Value} {j : Nat} {us : List Value} {ml : List (List Int)} {w : World} (h : MixAt B ins T mv j us ml w) (hj : j ≤ maxLen) : ListsAt w mv ml := by
  have hl := h.len
  rcases h.own.2 with ⟨h1, h2⟩ | ⟨g, cap, cur, hv, hb, hg, h1, h2, h3, h4⟩
  · refine ⟨by omega, none, 0, by rw [h1, hl, h2], fun hne => absurd (List.length_eq_zero_iff.1 (by omega)) hne⟩
  · refine ⟨by omega, _, cap, by rw [hv, hl], fun _ => ⟨g, 0, rfl, fun i hi => ?_⟩⟩
    obtain ⟨u, h5, h6, -, h7, -⟩ := h.one i hi
    have := h.own.cells (g := g) (by rw [hv]; rfl) i u h5
    rw [Addr.add_lit] at this
    exact ⟨u, this, h6, h7⟩

/-- one list more. -/
theorem MixAt.snoc {B : Nat} {ins : List (List Int)} {T : List Int} {mv mv' : Value} {j : Nat} {us : List Value} {ml : List (List Int)} {w w' : World} (h : MixAt B ins T mv j us ml w) (hg : w.grownBy w' mv.ownBlock) (hat : mv'.ownBlock = mv.ownBlock ∨ mv'.ownBlock = some w.heap.size)
    {u : Value} {l : List Int} (ho : w'.ownsRow B 25 1 mv' (j + 1) (us ++ [u])) (hu : IsInts w u l) (hne : l ≠ [] → ∀ k, u.ownBlock = some k → mv.ownBlock ≠ some k ∧ k < w.heap.size) (hl : l.length ≤ 9223372036854775807) (hm : Mix (ins.getD j []) l (T.getD j 0)) : MixAt B ins T mv' (j + 1) (us ++ [u]) (ml ++ [l]) w' := by
  have hjl := h.len
  have hul : us.length = j := by have := h.own.1; omega
  refine ⟨ho, by simp [hjl], fun i hi => ?_⟩
  by_cases hij : i < ml.length
  · obtain ⟨x, h1, h2, h3, h5, h6⟩ := h.one i hij
    rw [List.getElem_append_left hij]
    refine ⟨x, by rw [List.getElem?_append_left (by omega)]; exact h1, h2.grown hg (fun hz k hk => (h3 hz k hk).1), fun hz k hk => ⟨?_, Nat.lt_of_lt_of_le (h3 hz k hk).2 hg.size⟩, h5, h6⟩
    rcases hat with e | e
    · rw [e]; exact (h3 hz k hk).1
    · rw [e]; intro hy; injection hy with hy; have := (h3 hz k hk).2; omega
  · have hie : i = ml.length := by simp at hi; omega
    subst hie
    have e : (ml ++ [l])[ml.length]'hi = l := by simp
    rw [e]
    refine ⟨u, by rw [List.getElem?_append_right (by omega)]; simp [hjl, hul], hu.grown hg (fun hz k hk => (hne hz k hk).1), fun hz k hk => ⟨?_, Nat.lt_of_lt_of_le (hne hz k hk).2 hg.size⟩, hl, ?_⟩
    · rcases hat with e | e
      · rw [e]; exact (hne hz k hk).1
      · rw [e]; intro hy; injection hy with hy; have := (hne hz k hk).2; omega
    · rw [hjl]; exact hm
theorem keepA {wr W : World} {a : Addr} {u : Value} {o : Obj} (h : W.cell? a = some u ∧ Below wr.heap.size wr W) : (W.alloc o).cell? a = some u ∧ Below wr.heap.size wr (W.alloc o) :=
  ⟨cell_over ((Below.refl _ W).alloc (Nat.le_refl _) o) _ _ h.1, h.2.alloc h.2.size _⟩
theorem keepG {wr W W2 : World} {b j : Nat} {u v : Value} (h : W.cell? ⟨b, j, none⟩ = some u ∧ Below wr.heap.size wr W) (hg : W.grownBy W2 v.ownBlock) (hv : ∀ k, v.ownBlock = some k → wr.heap.size ≤ k) (hb : b < wr.heap.size) : W2.cell? ⟨b, j, none⟩ = some u ∧ Below wr.heap.size wr W2 :=
  ⟨hg.cell h.1 (fun hx => by have := hv b hx.symm; omega), ⟨hg.os.trans h.2.os, hg.tape.trans h.2.tape, hg.output.trans h.2.output, Nat.le_trans h.2.size hg.size, fun k hk => (hg.block k (Nat.lt_of_lt_of_le hk h.2.size) (fun hx => by have := hv k hx.symm; omega)).trans (h.2.block k hk)⟩⟩
end Go.Proofs.Ytcbbjjenkommeaa.Ex
