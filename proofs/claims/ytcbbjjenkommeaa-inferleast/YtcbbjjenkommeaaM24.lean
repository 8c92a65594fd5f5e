/- scope.Check of any program: just when all is right. -/
import Derived.Test.YtcbbjjenkommeaaM23
namespace Go.Proofs.Ytcbbjjenkommeaa.Ex.Ey
open Go.RowKit
set_option linter.unusedVariables false
/-- what a check says: that all is right, just if it is. -/
def Said (ok : Prop) (w : World) (f : Int → Value) (e : Ending) (w' : World) : Prop := ∃ why : Int, e = .returned (f why) ∧ (why = 0 ↔ ok) ∧ Below w.heap.size w w'

set_option maxHeartbeats 1000000 in
set_option maxRecDepth 100000 in
theorem caught_any (K kf : Nat) (m : Int) (ga : Option Addr) (gn gc : Nat) (sa : Option Addr) (sn sc : Nat) (ya : Option Addr) (yn yc : Nat) (oa : Option Addr) (on oc : Nat) (va : Option Addr) (vn vc : Nat) (fa : Option Addr) (fn fc : Nat) (ba : Option Addr) (bn bc : Nat) (gs : List (Int × Int)) (sp : List Int) (ls ms : List Lab) (vs : List (Bool × Lab)) (fs : List FnD) (l : List D) (w : World) (h : ProgAt K kf m ga gn gc sa sn sc ya yn yc oa on oc va vn vc fa fn fc ba bn bc gs sp ls ms vs fs l w) :
    Calls Try.prog 71 #[.func (.func 72) #[.agg #[.int .i64 m, .slice ga gn gc, .slice sa sn sc, .slice ya yn yc, .slice oa on oc, .slice va vn vc, .slice fa fn fc, .slice ba bn bc]] #[]] w (Said (xP K kf m vn yn on sn gs sp ls ms vs fs l) w fun why => .tuple #[.int .i64 0, .int .i64 why]) := by
  have hmf : ∀ (fn : Fn) (first cap : Array Value) (w : World), (Instr.makeFunc fn first cap).run Try.prog w = .ok (.func fn first cap) w := fun _ _ _ _ => rfl
  have HC : ∀ (args : Array Value) (w : World), (callFunc 72 args).run Try.prog w = .ok (.enter 72 args) w := fun args w => by simp [go_sem]
  have hbel : Below w.heap.size w ((w.alloc (.cells #[.int .i64 0] 3)).alloc (.cells #[.int .i64 0] 26)) := ((Below.refl _ w).alloc (Nat.le_refl _) _).alloc (by simp) _
  have K := hide (checkG_any K kf m ga gn gc sa sn sc ya yn yc oa on oc va vn vc fa fn fc ba bn bc gs sp ls ms vs fs l _ (h.over hbel))
  have q0 : ((w.alloc (.cells #[.int .i64 0] 3)).alloc (.cells #[.int .i64 0] 26)).cell? ⟨w.heap.size, 0, none⟩ = some (.int .i64 0) := by simp [go_sem]
  have q1 : ((w.alloc (.cells #[.int .i64 0] 3)).alloc (.cells #[.int .i64 0] 26)).cell? ⟨w.heap.size + 1, 0, none⟩ = some (.int .i64 0) := by simp [go_sem]
  have z0 : ((w.alloc (.cells #[.int .i64 0] 3)).alloc (.cells #[.int .i64 0] 26)).frozen? ⟨w.heap.size, 0, none⟩ = false := by simp [go_sem]
  have z1 : ((w.alloc (.cells #[.int .i64 0] 3)).alloc (.cells #[.int .i64 0] 26)).frozen? ⟨w.heap.size + 1, 0, none⟩ = false := by simp [go_sem]
  clear h
  go_enter_defers Try.func71, Try.ntmps71
  go_wp2_with fail
  refine (K.out).mono ?_
  rintro e w1 ⟨he, hb1⟩
  obtain ⟨hc, hf⟩ := bcell hb1
  have hB1 := hbel.trans (hb1.mono hbel.size)
  have p0 := cell_over hb1 _ _ q0
  have p1 := cell_over hb1 _ _ q1
  have y0 := (hf w.heap.size 0 (by simp; omega)).trans z0
  have y1 := (hf (w.heap.size + 1) 0 (by simp)).trans z1
  have g1 : w.heap.size + 1 < w1.heap.size := World.block_lt_of_cell? w1 _ p1
  have g0 : w.heap.size < w1.heap.size := by omega
  clear hc hf q0 q1 z0 z1 hb1 K hbel
  rcases he with ⟨hok, rfl⟩ | ⟨hng, why, hne, rfl⟩
  · have HOK := hide hok
    clear hok
    go_wp2_with fail
    refine leaves_cons (f := 106) (args := #[.pointer (some ⟨w.heap.size, 0, none⟩), .pointer (some ⟨w.heap.size + 1, 0, none⟩)]) (by simp) (by simp [go_sem]) ?_
    refine (catch_idle _ _ _).mono ?_
    rintro e u' w2 ⟨rfl, rfl, rfl⟩
    have d0 : ((w1.setCell ⟨w.heap.size, 0, none⟩ (.int .i64 0)).setCell ⟨w.heap.size + 1, 0, none⟩ (.int .i64 0)).cell? ⟨w.heap.size, 0, none⟩ = some (.int .i64 0) := by simp [go_sem, p0]
    have d1 : ((w1.setCell ⟨w.heap.size, 0, none⟩ (.int .i64 0)).setCell ⟨w.heap.size + 1, 0, none⟩ (.int .i64 0)).cell? ⟨w.heap.size + 1, 0, none⟩ = some (.int .i64 0) := by simp [go_sem, p1]
    have hbb : Below w.heap.size w ((w1.setCell ⟨w.heap.size, 0, none⟩ (.int .i64 0)).setCell ⟨w.heap.size + 1, 0, none⟩ (.int .i64 0)) := (hB1.setCell (by simp) _).setCell (by simp) _
    generalize ((w1.setCell ⟨w.heap.size, 0, none⟩ (.int .i64 0)).setCell ⟨w.heap.size + 1, 0, none⟩ (.int .i64 0)) = wF at d0 d1 hbb ⊢
    simp [Leaves, settle, results, Try.results71, go_sem, d0, d1]
    exact ⟨0, rfl, ⟨fun _ => HOK.out, fun _ => rfl⟩, hbb⟩
  · have HNG := hide hng
    clear hng
    unfold gaveW
    go_wp2_with fail
    refine leaves_cons (f := 106) (args := #[.pointer (some ⟨w.heap.size, 0, none⟩), .pointer (some ⟨w.heap.size + 1, 0, none⟩)]) (by simp) (by simp [go_sem]) ?_
    refine (catch_gave w.heap.size 0 0 _ _ [] _ (by omega) p0 p1 y0 y1).mono ?_
    rintro e u' w2 ⟨rfl, rfl, d0, d1, hb2⟩
    have hbb : Below w.heap.size w w2 := hB1.trans hb2
    simp [Leaves, settle, results, Try.results71, go_sem, d0, d1]
    exact ⟨why, rfl, ⟨fun h => absurd h hne, fun h => absurd h HNG.out⟩, hbb⟩

set_option maxHeartbeats 1000000 in
set_option maxRecDepth 100000 in
theorem scopeCheck_any (K kf : Nat) (m : Int) (ga : Option Addr) (gn gc : Nat) (sa : Option Addr) (sn sc : Nat) (ya : Option Addr) (yn yc : Nat) (oa : Option Addr) (on oc : Nat) (va : Option Addr) (vn vc : Nat) (fa : Option Addr) (fn fc : Nat) (ba : Option Addr) (bn bc : Nat) (gs : List (Int × Int)) (sp : List Int) (ls ms : List Lab) (vs : List (Bool × Lab)) (fs : List FnD) (l : List D) (w : World) (h : ProgAt K kf m ga gn gc sa sn sc ya yn yc oa on oc va vn vc fa fn fc ba bn bc gs sp ls ms vs fs l w) :
    Calls Try.prog 36 #[.agg #[.int .i64 m, .slice ga gn gc, .slice sa sn sc, .slice ya yn yc, .slice oa on oc, .slice va vn vc, .slice fa fn fc, .slice ba bn bc]] w (Said (xP K kf m vn yn on sn gs sp ls ms vs fs l) w fun why => .int .i64 why) := by
  have hbel : Below w.heap.size w ((w.alloc (.cells #[.int .i64 m, .slice ga gn gc, .slice sa sn sc, .slice ya yn yc, .slice oa on oc, .slice va vn vc, .slice fa fn fc, .slice ba bn bc] 41)).alloc (.cells #[.int .i64 m, .slice ga gn gc, .slice sa sn sc, .slice ya yn yc, .slice oa on oc, .slice va vn vc, .slice fa fn fc, .slice ba bn bc] 125)) := ((Below.refl _ w).alloc (Nat.le_refl _) _).alloc (by simp) _
  have K := hide (caught_any K kf m ga gn gc sa sn sc ya yn yc oa on oc va vn vc fa fn fc ba bn bc gs sp ls ms vs fs l _ (h.over hbel))
  clear h
  go_enter Try.func36, Try.ntmps36
  go_wp2_with fail
  refine (K.out).mono ?_
  rintro e w1 ⟨why, rfl, hok, hb1⟩
  have hB1 := hbel.trans (hb1.mono hbel.size)
  have HOK := hide hok
  clear hbel hb1 K hok
  go_wp2_with fail
  go_ret
  exact ⟨why, rfl, HOK.out, hB1⟩
end Go.Proofs.Ytcbbjjenkommeaa.Ex.Ey
namespace Go.Proofs.Ytcbbjjenkommeaa.Ex
open Go.RowKit
set_option linter.unusedVariables false
set_option maxHeartbeats 4000000 in
set_option maxRecDepth 100000 in
theorem checkW (m : Int) (ga : Option Addr) (gn gc : Nat) (sa : Option Addr) (sn sc : Nat) (ya : Option Addr) (yn yc : Nat) (oa : Option Addr) (on oc : Nat) (va : Option Addr) (vn vc : Nat) (fa : Option Addr) (fn fc : Nat) (ba : Option Addr) (bn bc : Nat) (gs : List (Int × Int)) (la : Option Addr) (ln lc : Nat) (ka : Option Addr) (kn kc : Nat) (LsV LsF : List Lev) (w : World) (hg : IsGrants w (.slice ga gn gc) gs) (hV : IsLevs w (.slice la ln lc) LsV) (hF : IsLevs w (.slice ka kn kc) LsF) (hvl : LsV.length ≤ 9223372036854775807) (hfl : LsF.length ≤ 9223372036854775807) (hvn : vn ≤ 9223372036854775807) (hfn : fn ≤ 9223372036854775807)
    (X : Prop) (KS : ∀ W, Below w.heap.size w W → Calls Try.prog 36 #[.agg #[.int .i64 m, .slice ga gn gc, .slice sa sn sc, .slice ya yn yc, .slice oa on oc, .slice va vn vc, .slice fa fn fc, .slice ba bn bc]] W fun e w' => ∃ why : Int, e = .returned (.int .i64 why) ∧ (why = 0 ↔ X) ∧ Below W.heap.size W w') :
    Calls Try.prog 52 #[.agg #[.int .i64 m, .slice ga gn gc, .slice sa sn sc, .slice ya yn yc, .slice oa on oc, .slice va vn vc, .slice fa fn fc, .slice ba bn bc], .agg #[.slice la ln lc, .slice ka kn kc]] w fun e w' => ∃ why : Int, e = .returned (.int .i64 why) ∧ (why = 0 ↔ (X ∧ LsV.length = vn ∧ LsF.length = fn ∧ (∀ x ∈ LsV, lRight m gs x = 0) ∧ ∀ x ∈ LsF, lRight m gs x = 0)) ∧ Below w.heap.size w w' := by
  have hb0 : Below w.heap.size w ((w.alloc (.cells #[.int .i64 m, .slice ga gn gc, .slice sa sn sc, .slice ya yn yc, .slice oa on oc, .slice va vn vc, .slice fa fn fc, .slice ba bn bc] 41)).alloc (.cells #[.slice la ln lc, .slice ka kn kc] 54)) := ((Below.refl _ w).alloc (Nat.le_refl _) _).alloc (by simp) _
  have K1 := hide (KS _ hb0)
  have hlv : ln = LsV.length := by obtain ⟨a, c, he, -⟩ := hV; injection he
  have hlf : kn = LsF.length := by obtain ⟨a, c, he, -⟩ := hF; injection he
  have hln : ln ≤ 9223372036854775807 := by omega
  have hkn : kn ≤ 9223372036854775807 := by omega
  have HNLsV := hide hlv
  have HNLsF := hide hlf
  have HLsV := hide hV
  have HLsF := hide hF
  have KR := hide fun vl (x : Lev) W (hW : Below w.heap.size w W) (hx : LevAt W vl x) => rightOk m (.slice ga gn gc) gs vl x W (isGrants_over hg hW) hx
  have rowP : RowAt [.int .i64 m, .slice ga gn gc, .slice sa sn sc, .slice ya yn yc, .slice oa on oc, .slice va vn vc, .slice fa fn fc, .slice ba bn bc] ((w.alloc (.cells #[.int .i64 m, .slice ga gn gc, .slice sa sn sc, .slice ya yn yc, .slice oa on oc, .slice va vn vc, .slice fa fn fc, .slice ba bn bc] 41)).alloc (.cells #[.slice la ln lc, .slice ka kn kc] 54)) w.heap.size := (RowAt.new [.int .i64 m, .slice ga gn gc, .slice sa sn sc, .slice ya yn yc, .slice oa on oc, .slice va vn vc, .slice fa fn fc, .slice ba bn bc] 41 w).over ((Below.refl _ _).alloc (Nat.le_refl _) _)
  have rowL : RowAt [.slice la ln lc, .slice ka kn kc] ((w.alloc (.cells #[.int .i64 m, .slice ga gn gc, .slice sa sn sc, .slice ya yn yc, .slice oa on oc, .slice va vn vc, .slice fa fn fc, .slice ba bn bc] 41)).alloc (.cells #[.slice la ln lc, .slice ka kn kc] 54)) (w.heap.size + 1) := by
    have := RowAt.new [.slice la ln lc, .slice ka kn kc] 54 (w.alloc (.cells #[.int .i64 m, .slice ga gn gc, .slice sa sn sc, .slice ya yn yc, .slice oa on oc, .slice va vn vc, .slice fa fn fc, .slice ba bn bc] 41))
    simpa using this
  have HB0 := hide hb0
  have HRP := hide rowP
  have HRL := hide rowL
  have c0 := rowP 0 _ rfl
  have c1 := rowP 1 _ rfl
  have c2 := rowP 2 _ rfl
  have c3 := rowP 3 _ rfl
  have c4 := rowP 4 _ rfl
  have c5 := rowP 5 _ rfl
  have c6 := rowP 6 _ rfl
  have c7 := rowP 7 _ rfl
  clear hb0 rowP rowL hV hF hg KS hlv hlf hvl hfl
  go_enter Try.func52, Try.ntmps52
  go_wp2_with fail
  refine (K1.out).mono ?_
  rintro e w1 ⟨why, rfl, hP, hb1⟩
  have HB1 := hide (over_trans HB0.out hb1)
  have HRP1 := hide (HRP.out.over hb1)
  have hRL1 := HRL.out.over hb1
  have HPW := hide hP
  clear c0 c1 c2 c3 c4 c5 c6 c7 K1 hP hb1
  by_cases hz : why = 0
  rotate_left
  · have HZ := hide hz
    go_wp2_with fail
    go_ret
    exact ⟨why, rfl, ⟨fun h => absurd h HZ.out, fun h => absurd (HPW.out.2 h.1) HZ.out⟩, HB1.out⟩
  subst hz
  have HX : Hid X := hide (HPW.out.1 rfl)
  have l0 := hRL1 0 _ rfl
  have l1 := hRL1 1 _ rfl
  have c5 := HRP1.out 5 _ rfl
  have c6 := HRP1.out 6 _ rfl
  clear hRL1 HPW
  by_cases hlen : ln = vn
  rotate_left
  · have hlb : ((ln : Int) != (vn : Int)) = true := by simp; omega
    have HL := hide hlen
    go_wp2_with fail
    go_ret
    exact ⟨1, rfl, ⟨fun h => absurd h (by decide), fun h => absurd (HNLsV.out.trans h.2.1) HL.out⟩, HB1.out⟩
  subst hlen
  by_cases hlen2 : kn = fn
  rotate_left
  · have hlb2 : ((kn : Int) != (fn : Int)) = true := by simp; omega
    have HL := hide hlen2
    go_wp2_with fail
    go_ret
    exact ⟨1, rfl, ⟨fun h => absurd h (by decide), fun h => absurd (HNLsF.out.trans h.2.2.1) HL.out⟩, HB1.out⟩
  subst hlen2
  have hba := (Below.refl _ w1).alloc (Nat.le_refl _) (.cells #[.slice la ln lc, .slice ka kn kc] 52)
  have hRS : RowAt [.slice la ln lc, .slice ka kn kc] (w1.alloc (.cells #[.slice la ln lc, .slice ka kn kc] 52)) w1.heap.size := RowAt.new [.slice la ln lc, .slice ka kn kc] 52 w1
  have HRS0 := hide hRS
  have HRP0 := hide (HRP1.out.over hba)
  have HBA0 := hide hba
  clear hRS hba HRP1
  go_wp2_with fail
  clear l0 l1 c5 c6
  go_loopw [38] (fun i wr => ∃ j : Nat, j ≤ 2 ∧ i = .int .i64 j ∧ (1 ≤ j → ∀ x ∈ LsV, lRight m gs x = 0) ∧ (2 ≤ j → ∀ x ∈ LsF, lRight m gs x = 0) ∧ RowAt [.int .i64 m, .slice ga gn gc, .slice sa sn sc, .slice ya yn yc, .slice oa on oc, .slice va ln vc, .slice fa kn fc, .slice ba bn bc] wr w.heap.size ∧ RowAt [.slice la ln lc, .slice ka kn kc] wr w1.heap.size ∧ Below w1.heap.size w1 wr) (fun i _ => 2 - (intOf i).toNat)
  case atStart => exact ⟨0, by omega, rfl, fun h => absurd h (by omega), fun h => absurd h (by omega), HRP0.out, HRS0.out, HBA0.out⟩
  case round =>
    obtain ⟨j, hj, rfl, hj1, hj2, hrp, hrs, hB⟩ := hrel
    have HJ1 := hide hj1
    have HJ2 := hide hj2
    have HRP2 := hide hrp
    have HRS := hide hrs
    have HBB := hide hB
    have g0 := hrs 0 _ rfl
    have g1 := hrs 1 _ rfl
    clear hj1 hj2 hrp hrs hB
    rcases (by omega : j = 0 ∨ j = 1 ∨ j = 2) with rfl | rfl | rfl
    · go_wp2_with fail
      have HLw := hide (HLsV.out)
      go_loopw [44] (fun i wr => ∃ q : Nat, q ≤ ln ∧ i = .int .i64 q ∧ (∀ x ∈ LsV.take q, lRight m gs x = 0) ∧ (RowAt [.int .i64 m, .slice ga gn gc, .slice sa sn sc, .slice ya yn yc, .slice oa on oc, .slice va ln vc, .slice fa kn fc, .slice ba bn bc] wr w.heap.size) ∧ (RowAt [.slice la ln lc, .slice ka kn kc] wr w1.heap.size) ∧ Below w1.heap.size w1 wr) (fun i _ => ln - (intOf i).toNat)
      case atStart => exact ⟨0, Nat.zero_le _, rfl, by simp, HRP2.out, HRS.out, HBB.out⟩
      case round =>
        obtain ⟨q, hq, rfl, hok, hrp, hrs, hB2⟩ := hrel
        have HOK := hide hok
        clear hok
        by_cases hql : q < ln
        · have hqd : q < LsV.length := by have := HNLsV.out; omega
          have hlv := isLevs_over HLw.out (over_trans HB1.out hB2)
          obtain ⟨ao', cap', he', hel⟩ := hlv
          injection he' with e1 e2 e3
          obtain ⟨b, off, hbo, hel⟩ := hel (by intro hh; rw [hh] at hqd; simp at hqd)
          have e1' := e1.trans hbo
          subst e1'
          obtain ⟨rv, wv, g0, g1, hla⟩ := hel q hqd
          obtain ⟨p1, k1, p2, k2, hfm⟩ := lev_form hla
          simp at hfm
          obtain ⟨rfl, rfl⟩ := hfm
          obtain ⟨x, hx⟩ : ∃ x, x = LsV[q] := ⟨_, rfl⟩
          rw [← hx] at g0 g1 hla
          obtain ⟨n1, hn1⟩ : ∃ z, z = x.r.length := ⟨_, rfl⟩
          obtain ⟨n2, hn2⟩ : ∃ z, z = x.w.length := ⟨_, rfl⟩
          rw [← hn1] at g0 hla
          rw [← hn2] at g1 hla
          have hba := (Below.refl _ wr).alloc (Nat.le_refl _) (.cells #[.slice p1 n1 k1, .slice p2 n2 k2] 62)
          have KR2 := hide (KR.out _ x _ (over_trans HB1.out (over_trans hB2 hba)) (levAt_over hla hba))
          have hrp' := hrp.over hba
          have f0 := hrp' 0 _ rfl
          have f1 := hrp' 1 _ rfl
          have hmem : x ∈ LsV := by rw [hx]; exact List.getElem_mem hqd
          have HMEM := hide hmem
          have HTK : Hid (LsV.take (q + 1) = LsV.take q ++ [x]) := hide (by rw [hx]; exact List.take_succ_eq_append_getElem hqd)
          obtain ⟨r, hr⟩ : ∃ z, z = lRight m gs x := ⟨_, rfl⟩
          rw [← hr] at KR2
          have HR := hide hr
          have HRPA := hide hrp'
          have HRSA := hide (hrs.over hba)
          have HBA := hide (over_trans hB2 hba)
          clear hrp' hba hla hel e1 e2 e3 hbo hx hn1 hn2 hr hrp hrs hmem hB2
          go_wp2_with fail
          refine (KR2.out).mono ?_
          rintro e w5 ⟨rfl, hb5⟩
          have HB5 := hide (over_trans HBA.out hb5)
          have HRP5 := hide (HRPA.out.over hb5)
          have HRS5 := hide (HRSA.out.over hb5)
          clear hb5 KR2 f0 f1 g0 g1
          by_cases hr0 : r = 0
          · subst hr0
            have HNX : Hid (∀ x ∈ LsV.take (q + 1), lRight m gs x = 0) := hide (fun y hy => by
              rw [HTK.out, List.mem_append, List.mem_singleton] at hy
              rcases hy with hy | rfl
              · exact HOK.out y hy
              · exact HR.out.symm)
            go_wp2_with fail
            refine ⟨⟨_, _, _, _, _, _, _, _, _, _, _, _, _, _, _, ?_, rfl⟩, ?_⟩
            · exact ⟨q + 1, by omega, by go_num, HNX.out, HRP5.out, HRS5.out, HB5.out⟩
            · simp [intOf]; omega
          · have HR0 := hide hr0
            go_wp2_with fail
            go_ret
            refine ⟨r, rfl, ⟨fun h => absurd h HR0.out, fun h => absurd (HR.out.trans (h.2.2.2.1 x HMEM.out)) HR0.out⟩, over_trans HB1.out HB5.out⟩
        · have HALL : Hid (∀ x ∈ LsV, lRight m gs x = 0) := hide (take_full (by have := HNLsV.out; omega) HOK.out)
          have HRP3 := hide hrp
          have HRS3 := hide hrs
          have HB3 := hide hB2
          clear hrp hrs hB2 HOK
          go_wp2_with fail
          exact ⟨⟨1, by omega, by go_num, fun _ => HALL.out, fun h => absurd h (by omega), HRP3.out, HRS3.out, HB3.out⟩, by simp [intOf]⟩

    · go_wp2_with fail
      have HLw := hide (HLsF.out)
      go_loopw [44] (fun i wr => ∃ q : Nat, q ≤ kn ∧ i = .int .i64 q ∧ (∀ x ∈ LsF.take q, lRight m gs x = 0) ∧ (RowAt [.int .i64 m, .slice ga gn gc, .slice sa sn sc, .slice ya yn yc, .slice oa on oc, .slice va ln vc, .slice fa kn fc, .slice ba bn bc] wr w.heap.size) ∧ (RowAt [.slice la ln lc, .slice ka kn kc] wr w1.heap.size) ∧ Below w1.heap.size w1 wr) (fun i _ => kn - (intOf i).toNat)
      case atStart => exact ⟨0, Nat.zero_le _, rfl, by simp, HRP2.out, HRS.out, HBB.out⟩
      case round =>
        obtain ⟨q, hq, rfl, hok, hrp, hrs, hB2⟩ := hrel
        have HOK := hide hok
        clear hok
        by_cases hql : q < kn
        · have hqd : q < LsF.length := by have := HNLsF.out; omega
          have hlv := isLevs_over HLw.out (over_trans HB1.out hB2)
          obtain ⟨ao', cap', he', hel⟩ := hlv
          injection he' with e1 e2 e3
          obtain ⟨b, off, hbo, hel⟩ := hel (by intro hh; rw [hh] at hqd; simp at hqd)
          have e1' := e1.trans hbo
          subst e1'
          obtain ⟨rv, wv, g0, g1, hla⟩ := hel q hqd
          obtain ⟨p1, k1, p2, k2, hfm⟩ := lev_form hla
          simp at hfm
          obtain ⟨rfl, rfl⟩ := hfm
          obtain ⟨x, hx⟩ : ∃ x, x = LsF[q] := ⟨_, rfl⟩
          rw [← hx] at g0 g1 hla
          obtain ⟨n1, hn1⟩ : ∃ z, z = x.r.length := ⟨_, rfl⟩
          obtain ⟨n2, hn2⟩ : ∃ z, z = x.w.length := ⟨_, rfl⟩
          rw [← hn1] at g0 hla
          rw [← hn2] at g1 hla
          have hba := (Below.refl _ wr).alloc (Nat.le_refl _) (.cells #[.slice p1 n1 k1, .slice p2 n2 k2] 62)
          have KR2 := hide (KR.out _ x _ (over_trans HB1.out (over_trans hB2 hba)) (levAt_over hla hba))
          have hrp' := hrp.over hba
          have f0 := hrp' 0 _ rfl
          have f1 := hrp' 1 _ rfl
          have hmem : x ∈ LsF := by rw [hx]; exact List.getElem_mem hqd
          have HMEM := hide hmem
          have HTK : Hid (LsF.take (q + 1) = LsF.take q ++ [x]) := hide (by rw [hx]; exact List.take_succ_eq_append_getElem hqd)
          obtain ⟨r, hr⟩ : ∃ z, z = lRight m gs x := ⟨_, rfl⟩
          rw [← hr] at KR2
          have HR := hide hr
          have HRPA := hide hrp'
          have HRSA := hide (hrs.over hba)
          have HBA := hide (over_trans hB2 hba)
          clear hrp' hba hla hel e1 e2 e3 hbo hx hn1 hn2 hr hrp hrs hmem hB2
          go_wp2_with fail
          refine (KR2.out).mono ?_
          rintro e w5 ⟨rfl, hb5⟩
          have HB5 := hide (over_trans HBA.out hb5)
          have HRP5 := hide (HRPA.out.over hb5)
          have HRS5 := hide (HRSA.out.over hb5)
          clear hb5 KR2 f0 f1 g0 g1
          by_cases hr0 : r = 0
          · subst hr0
            have HNX : Hid (∀ x ∈ LsF.take (q + 1), lRight m gs x = 0) := hide (fun y hy => by
              rw [HTK.out, List.mem_append, List.mem_singleton] at hy
              rcases hy with hy | rfl
              · exact HOK.out y hy
              · exact HR.out.symm)
            go_wp2_with fail
            refine ⟨⟨_, _, _, _, _, _, _, _, _, _, _, _, _, _, _, ?_, rfl⟩, ?_⟩
            · exact ⟨q + 1, by omega, by go_num, HNX.out, HRP5.out, HRS5.out, HB5.out⟩
            · simp [intOf]; omega
          · have HR0 := hide hr0
            go_wp2_with fail
            go_ret
            refine ⟨r, rfl, ⟨fun h => absurd h HR0.out, fun h => absurd (HR.out.trans (h.2.2.2.2 x HMEM.out)) HR0.out⟩, over_trans HB1.out HB5.out⟩
        · have HALL : Hid (∀ x ∈ LsF, lRight m gs x = 0) := hide (take_full (by have := HNLsF.out; omega) HOK.out)
          have HRP3 := hide hrp
          have HRS3 := hide hrs
          have HB3 := hide hB2
          clear hrp hrs hB2 HOK
          go_wp2_with fail
          exact ⟨⟨2, by omega, by go_num, fun _ => HJ1.out (by omega), fun _ => HALL.out, HRP3.out, HRS3.out, HB3.out⟩, by simp [intOf]⟩

    · go_wp2_with fail
      go_ret
      exact ⟨0, rfl, ⟨fun _ => ⟨HX.out, HNLsV.out.symm, HNLsF.out.symm, HJ1.out (by omega), HJ2.out (by omega)⟩, fun _ => rfl⟩, over_trans HB1.out HBB.out⟩
set_option maxHeartbeats 2000000 in
set_option maxRecDepth 100000 in
theorem equalB (A B : List Bool) (x y : Value) (w : World) (ha : IsBools w x A) (hb : IsBools w y B) (hA : A.length ≤ 9223372036854775807) (hB : B.length ≤ 9223372036854775807) :
    Calls Try.prog 123 #[x, y] w fun e w' => e = .returned (.bool (decide (A = B))) ∧ Below w.heap.size w w' := by
  obtain ⟨a1, k1, rfl, h1⟩ := ha
  obtain ⟨a2, k2, rfl, h2⟩ := hb
  have H1 := hide h1
  have H2 := hide h2
  clear h1 h2
  by_cases hl : A.length = B.length
  rotate_left
  · have hne : decide (A = B) = false := by simp; intro h; exact hl (by rw [h])
    rw [hne]
    have hlb : ((A.length : Int) != (B.length : Int)) = true := by simp; omega
    go_enter Try.func123, Try.ntmps123
    go_wp2_with fail
    go_ret
    exact ⟨rfl, Below.refl _ _⟩
  obtain ⟨R, hR⟩ : ∃ R, R = decide (A = B) := ⟨_, rfl⟩
  rw [← hR]
  obtain ⟨N, hN⟩ : ∃ N, N = A.length := ⟨_, rfl⟩
  have hNB : N = B.length := hN.trans hl
  rw [← hN, ← hNB]
  have hA' : N ≤ 9223372036854775807 := by omega
  have HR := hide hR
  have HN := hide hN
  have HNB := hide hNB
  clear hA hB hl hR hN hNB
  go_enter Try.func123, Try.ntmps123
  go_wp2_with fail
  go_loopw [13] (fun i wr => ∃ k : Nat, k ≤ N ∧ i = .int .i64 k ∧ Hid (A.take k = B.take k) ∧ Below w.heap.size w wr) (fun i _ => N - (intOf i).toNat)
  case atStart => exact ⟨0, Nat.zero_le _, rfl, hide (by simp), Below.refl _ _⟩
  case round =>
    obtain ⟨k, hk, rfl, HT, hB⟩ := hrel
    by_cases hkl : k < N
    · have hkA : k < A.length := by rw [← HN.out]; exact hkl
      have hkB : k < B.length := by rw [← HNB.out]; exact hkl
      obtain ⟨b1, o1, rfl, e1⟩ := H1.out (by intro h; rw [h] at hkA; simp at hkA)
      obtain ⟨b2, o2, rfl, e2⟩ := H2.out (by intro h; rw [h] at hkB; simp at hkB)
      have q1 : wr.cell? ⟨b1, o1 + k, none⟩ = _ := cell_over hB _ _ (e1 k hkA)
      have q2 : wr.cell? ⟨b2, o2 + k, none⟩ = _ := cell_over hB _ _ (e2 k hkB)
      obtain ⟨u, hu⟩ : ∃ u, u = A[k] := ⟨_, rfl⟩
      obtain ⟨v, hv⟩ : ∃ v, v = B[k] := ⟨_, rfl⟩
      rw [← hu] at q1
      rw [← hv] at q2
      have HTA : Hid (A.take (k + 1) = A.take k ++ [u]) := hide (by rw [hu]; exact List.take_succ_eq_append_getElem hkA)
      have HTB : Hid (B.take (k + 1) = B.take k ++ [v]) := hide (by rw [hv]; exact List.take_succ_eq_append_getElem hkB)
      have HU : Hid (A[k]? = some u) := hide (by rw [hu]; exact List.getElem?_eq_getElem hkA)
      have HV : Hid (B[k]? = some v) := hide (by rw [hv]; exact List.getElem?_eq_getElem hkB)
      clear e1 e2 hu hv hkA hkB
      by_cases huv : u = v
      · subst huv
        have HT2 : Hid (A.take (k + 1) = B.take (k + 1)) := hide (by rw [HTA.out, HTB.out, HT.out])
        go_wp2_with fail
        go_region
        go_wp2_with fail
        exact ⟨⟨k + 1, by omega, by go_num, HT2, hB.drew⟩, by simp [intOf]; omega⟩
      · have hb : (u != v) = true := by simpa using huv
        have HR2 : Hid (R = false) := hide (by rw [HR.out]; simp; intro h; have h1 := HU.out; rw [h, HV.out] at h1; exact huv (by injection h1 with h1; exact h1.symm))
        clear HTA HTB HU HV
        cases u <;> cases v
        all_goals first
          | exact absurd rfl huv
          | (clear huv hb
             go_wp2_with fail
             go_region
             go_wp2_with fail
             go_ret
             exact ⟨by rw [HR2.out]; rfl, hB.drew⟩)
    · have HR2 : Hid (R = true) := hide (by
        rw [HR.out]
        have := HT.out
        rw [List.take_of_length_le (by have := HN.out; omega), List.take_of_length_le (by have := HNB.out; omega)] at this
        simp [this])
      go_wp2_with fail
      go_ret
      exact ⟨by rw [HR2.out]; rfl, hB⟩
set_option maxHeartbeats 2000000 in
set_option maxRecDepth 100000 in
theorem sameW (l k : Lev) (vl vk : Value) (w : World) (hl : LevAt w vl l) (hk : LevAt w vk k) (n : Nat) (h6 : n ≤ 6) (hn : l.len n) (hm : k.len n) :
    Calls Try.prog 90 #[vl, vk] w fun e w' => e = .returned (.bool (decide (l.r = k.r) && decide (l.w = k.w))) ∧ Below w.heap.size w w' := by
  obtain ⟨x1, x2, rfl, b1, b2⟩ := hl
  obtain ⟨y1, y2, rfl, b3, b4⟩ := hk
  have KR := hide fun W (hW : Below w.heap.size w W) => equalB l.r k.r x1 y1 W (isBools_over b1 hW) (isBools_over b3 hW) (by have := hn.1; omega) (by have := hm.1; omega)
  have KW := hide fun W (hW : Below w.heap.size w W) => equalB l.w k.w x2 y2 W (isBools_over b2 hW) (isBools_over b4 hW) (by have := hn.2; omega) (by have := hm.2; omega)
  obtain ⟨a1, c1, rfl, -⟩ := b1
  obtain ⟨a2, c2, rfl, -⟩ := b2
  obtain ⟨a3, c3, rfl, -⟩ := b3
  obtain ⟨a4, c4, rfl, -⟩ := b4
  obtain ⟨R1, hR1⟩ : ∃ q, q = decide (l.r = k.r) := ⟨_, rfl⟩
  obtain ⟨R2, hR2⟩ : ∃ q, q = decide (l.w = k.w) := ⟨_, rfl⟩
  rw [← hR1] at KR ⊢
  rw [← hR2] at KW ⊢
  obtain ⟨z1, hz1⟩ : ∃ q, q = l.r.length := ⟨_, rfl⟩
  obtain ⟨z2, hz2⟩ : ∃ q, q = l.w.length := ⟨_, rfl⟩
  obtain ⟨z3, hz3⟩ : ∃ q, q = k.r.length := ⟨_, rfl⟩
  obtain ⟨z4, hz4⟩ : ∃ q, q = k.w.length := ⟨_, rfl⟩
  rw [← hz1, ← hz3] at KR ⊢
  rw [← hz2, ← hz4] at KW ⊢
  clear hR1 hR2 hz1 hz2 hz3 hz4 hn hm
  have hb0 : Below w.heap.size w ((w.alloc (.cells #[.slice a1 z1 c1, .slice a2 z2 c2] 62)).alloc (.cells #[.slice a3 z3 c3, .slice a4 z4 c4] 62)) := ((Below.refl _ w).alloc (Nat.le_refl _) _).alloc (by simp) _
  have r1 : RowAt [.slice a1 z1 c1, .slice a2 z2 c2] ((w.alloc (.cells #[.slice a1 z1 c1, .slice a2 z2 c2] 62)).alloc (.cells #[.slice a3 z3 c3, .slice a4 z4 c4] 62)) w.heap.size := (RowAt.new [.slice a1 z1 c1, .slice a2 z2 c2] 62 w).over ((Below.refl _ _).alloc (Nat.le_refl _) _)
  have r2 : RowAt [.slice a3 z3 c3, .slice a4 z4 c4] ((w.alloc (.cells #[.slice a1 z1 c1, .slice a2 z2 c2] 62)).alloc (.cells #[.slice a3 z3 c3, .slice a4 z4 c4] 62)) (w.heap.size + 1) := by
    have := RowAt.new [.slice a3 z3 c3, .slice a4 z4 c4] 62 (w.alloc (.cells #[.slice a1 z1 c1, .slice a2 z2 c2] 62))
    simpa using this
  have K1 := hide (KR.out _ hb0)
  have HB0 := hide hb0
  have HR1 := hide r1
  have HR2 := hide r2
  have f0 := r1 0 _ rfl
  have f1 := r1 1 _ rfl
  have f2 := r2 0 _ rfl
  have f3 := r2 1 _ rfl
  clear hb0 r1 r2 KR
  go_enter Try.func90, Try.ntmps90
  go_wp2_with fail
  refine (K1.out).mono ?_
  rintro e w1 ⟨rfl, hb1⟩
  have g1 := HR1.out.over hb1 1 _ rfl
  have g3 := HR2.out.over hb1 1 _ rfl
  have HB1 := hide (over_trans HB0.out hb1)
  have K2 := hide (KW.out _ HB1.out)
  clear f0 f1 f2 f3 hb1 K1
  cases R1 with
  | false =>
    go_wp2_with fail
    go_ret
    exact ⟨rfl, HB1.out⟩
  | true =>
    go_wp2_with fail
    refine (K2.out).mono ?_
    rintro e w2 ⟨rfl, hb2⟩
    have HB2 := hide (over_trans HB1.out hb2)
    go_wp2_with fail
    go_ret
    exact ⟨by simp, HB2.out⟩

set_option maxHeartbeats 4000000 in
set_option maxRecDepth 100000 in
theorem knownW (n : Nat) (h1 : 1 ≤ n) (h6 : n ≤ 6) (ga : Option Addr) (gn gc : Nat) (sa : Option Addr) (sn sc : Nat) (ya : Option Addr) (yn yc : Nat) (oa : Option Addr) (on oc : Nat) (va : Option Addr) (vn vc : Nat) (fa : Option Addr) (fn fc : Nat) (ba : Option Addr) (bn bc : Nat) (la : Option Addr) (ln lc : Nat) (ka : Option Addr) (kn kc : Nat) (gs : List (Int × Int)) (vs : List (Bool × Lab)) (LsV : List Lev) (w : World) (hg : IsGrants w (.slice ga gn gc) gs) (hE : chkErr n gs = 0) (hv : VarsAt w (.slice va vn vc) vs) (hvc : ∀ v ∈ vs, lChk n gs v.2 = 0) (hL : IsLevs w (.slice la ln lc) LsV) (hll : LsV.length = vs.length) (hlen : ∀ x ∈ LsV, x.len n) (h16 : vs.length ≤ 16) :
    Calls Try.prog 54 #[.agg #[.int .i64 (n : Int), .slice ga gn gc, .slice sa sn sc, .slice ya yn yc, .slice oa on oc, .slice va vn vc, .slice fa fn fc, .slice ba bn bc, .slice la ln lc, .slice ka kn kc]] w fun e w' => (∃ b : Bool, e = .returned (.bool b) ∧ (b = true ↔ (∀ i (h : i < vs.length), vs[i].1 = true → LsV.getD i noLev = levOf (gnOf gs) n vs[i].2))) ∧ Below w.heap.size w w' := by
  have hvn : vn = vs.length := by obtain ⟨-, a, c, he, -⟩ := hv; injection he
  have hb0 : Below w.heap.size w (w.alloc (.cells #[.int .i64 (n : Int), .slice ga gn gc, .slice sa sn sc, .slice ya yn yc, .slice oa on oc, .slice va vn vc, .slice fa fn fc, .slice ba bn bc, .slice la ln lc, .slice ka kn kc] 88)) := (Below.refl _ w).alloc (Nat.le_refl _) _
  have rowW : RowAt [.int .i64 (n : Int), .slice ga gn gc, .slice sa sn sc, .slice ya yn yc, .slice oa on oc, .slice va vn vc, .slice fa fn fc, .slice ba bn bc, .slice la ln lc, .slice ka kn kc] (w.alloc (.cells #[.int .i64 (n : Int), .slice ga gn gc, .slice sa sn sc, .slice ya yn yc, .slice oa on oc, .slice va vn vc, .slice fa fn fc, .slice ba bn bc, .slice la ln lc, .slice ka kn kc] 88)) w.heap.size := RowAt.new [.int .i64 (n : Int), .slice ga gn gc, .slice sa sn sc, .slice ya yn yc, .slice oa on oc, .slice va vn vc, .slice fa fn fc, .slice ba bn bc, .slice la ln lc, .slice ka kn kc] 88 w
  have KLV := hide fun (pr pw : Value) (bl : Lab) W (hb : Below w.heap.size w W) (h2 : IsPols W pr bl.r) (h3 : IsPols W pw bl.w) (h4 : lChk n gs bl = 0) => levelW (n : Int) ga gn gc sa sn sc ya yn yc oa on oc va vn vc fa fn fc ba bn bc la ln lc ka kn kc gs pr pw bl W (isGrants_over hg hb) h2 h3 h4
  have HV := hide hv
  have HVC := hide hvc
  have HL := hide hL
  have HLL := hide hll
  have HLEN := hide hlen
  have HVN := hide hvn
  have HB0 := hide hb0
  have HRW := hide rowW
  have hvn16 : vn ≤ 16 := by omega
  have c5 := rowW 5 _ rfl
  clear hv hvc hL hll hlen hvn hb0 rowW h16
  go_enter Try.func54, Try.ntmps54
  go_wp2_with fail
  go_loopw [10] (fun i wr => ∃ j : Nat, j ≤ vn ∧ i = .int .i64 j ∧ Hid (∀ i (h : i < vs.length), i < j → vs[i].1 = true → LsV.getD i noLev = levOf (gnOf gs) n vs[i].2) ∧ RowAt [.int .i64 (n : Int), .slice ga gn gc, .slice sa sn sc, .slice ya yn yc, .slice oa on oc, .slice va vn vc, .slice fa fn fc, .slice ba bn bc, .slice la ln lc, .slice ka kn kc] wr w.heap.size ∧ Below w.heap.size w wr) (fun i _ => vn - (intOf i).toNat)
  case atStart => exact ⟨0, Nat.zero_le _, rfl, hide (fun i h hi => absurd hi (by omega)), HRW.out, HB0.out⟩
  case round =>
    obtain ⟨j, hj, rfl, HOK, hrow, hB⟩ := hrel
    clear c5
    by_cases hjl : j < vn
    · have hjv : j < vs.length := by have := HVN.out; omega
      have hjL : j < LsV.length := by have := HLL.out; omega
      obtain ⟨-, va', vc', hve, hvel⟩ := HV.out.over hB
      injection hve with v1 v2 v3
      obtain ⟨bv, ov, hvo, hvel⟩ := hvel (by intro h; rw [h] at hjv; simp at hjv)
      obtain ⟨pr, pw, k0, k1, k2, hpr, hpw⟩ := hvel j hjv
      have e1 := v1.trans hvo
      obtain ⟨la', lc', hle, hlel⟩ := isLevs_over HL.out hB
      injection hle with l1 l2 l3
      obtain ⟨bl, ol, hlo, hlel⟩ := hlel (by intro h; rw [h] at hjL; simp at hjL)
      obtain ⟨rv, wv, l0, l1', hlev⟩ := hlel j hjL
      have e2 := l1.trans hlo
      subst e1 e2
      obtain ⟨p1, q1, r1, hrf⟩ := pols_form hpr
      obtain ⟨p2, q2, r2, hwf⟩ := pols_form hpw
      subst hrf hwf
      obtain ⟨p3, q3, r3, p4, q4, r4, hf3, hf4⟩ := lev_slices hlev
      subst hf3 hf4
      have HX : Hid (LsV.getD j noLev = LsV[j]) := hide (by simp [List.getD_eq_getElem?_getD, List.getElem?_eq_getElem hjL])
      have HXL : Hid (LsV[j].len n) := hide (HLEN.out _ (List.getElem_mem hjL))
      obtain ⟨kn1, hkn1⟩ : ∃ q, q = vs[j].1 := ⟨_, rfl⟩
      rw [← hkn1] at k0
      have HKN := hide hkn1
      have hjn : j < ln := by omega
      clear hvel hlel v2 v3 l2 l3 hvo hlo hkn1 v1 l1
      cases kn1 with
      | false =>
        have HOK2 : Hid (∀ i (h : i < vs.length), i < j + 1 → vs[i].1 = true → LsV.getD i noLev = levOf (gnOf gs) n vs[i].2) := hide (fun i h hi hk => by
          by_cases hij : i = j
          · subst hij; rw [← HKN.out] at hk; cases hk
          · exact HOK.out i h (by omega) hk)
        have hba := (Below.refl _ wr).alloc (Nat.le_refl _) (.cells #[.bool false, .slice p1 q1 r1, .slice p2 q2 r2] 120)
        have HRA := hide (hrow.over hba)
        have HBA := hide (over_trans hB hba)
        have c5 := hrow 5 _ rfl
        clear hba hrow hB
        go_wp2_with fail
        go_region
        go_wp2_with fail
        exact ⟨⟨j + 1, by omega, by go_num, HOK2, HRA.out, HBA.out.drew⟩, by simp [intOf]; omega⟩
      | true =>
        have hba := (Below.refl _ wr).alloc (Nat.le_refl _) (.cells #[.bool true, .slice p1 q1 r1, .slice p2 q2 r2] 120)
        have HRA := hide (hrow.over hba)
        have HRV : Hid (RowAt [.bool true, .slice p1 q1 r1, .slice p2 q2 r2] (wr.alloc (.cells #[.bool true, .slice p1 q1 r1, .slice p2 q2 r2] 120)) wr.heap.size) := hide (RowAt.new [.bool true, .slice p1 q1 r1, .slice p2 q2 r2] 120 wr)
        have HBA := hide (over_trans hB hba)
        have l0 := cell_over hba _ _ l0
        have l1 := cell_over hba _ _ l1'
        have hbd := over_trans hB (over_trans hba (Below.refl _ _).drew)
        have KL := hide fun W hW => KLV.out (.slice p1 q1 r1) (.slice p2 q2 r2) vs[j].2 W (over_trans HBA.out hW) (isPols_over (isPols_over hpr hba) hW) (isPols_over (isPols_over hpw hba) hW) (HVC.out _ (List.getElem_mem hjv))
        have KE := hide fun v W (hW : Below (wr.alloc (.cells #[.bool true, .slice p1 q1 r1, .slice p2 q2 r2] 120)).heap.size (wr.alloc (.cells #[.bool true, .slice p1 q1 r1, .slice p2 q2 r2] 120)) W) (hM : LevAt W v (levOf (gnOf gs) n vs[j].2)) => sameW _ LsV[j] v _ W hM (levAt_over (levAt_over hlev hba) hW) n h6 ⟨rowOf_length _ _, rowOf_length _ _⟩ HXL.out
        obtain ⟨R, hR⟩ : ∃ R, R = (decide ((levOf (gnOf gs) n vs[j].2).r = LsV[j].r) && decide ((levOf (gnOf gs) n vs[j].2).w = LsV[j].w)) := ⟨_, rfl⟩
        rw [← hR] at KE
        have HR : Hid (R = true ↔ LsV.getD j noLev = levOf (gnOf gs) n vs[j].2) := hide (by
          rw [hR, HX.out]
          cases hq : LsV[j] with
          | mk rr ww =>
            cases hp : levOf (gnOf gs) n vs[j].2 with
            | mk r2 w2 => simp; constructor
                          · rintro ⟨a, b⟩; exact ⟨a.symm, b.symm⟩
                          · rintro ⟨a, b⟩; exact ⟨a.symm, b.symm⟩)
        clear hR
        have hS0 : (wr.alloc (.cells #[.bool true, .slice p1 q1 r1, .slice p2 q2 r2] 120)).cell? ⟨w.heap.size, 0, none⟩ = some (.int .i64 (n : Int)) ∧ (wr.alloc (.cells #[.bool true, .slice p1 q1 r1, .slice p2 q2 r2] 120)).cell? ⟨w.heap.size, 1, none⟩ = some (.slice ga gn gc) ∧ (wr.alloc (.cells #[.bool true, .slice p1 q1 r1, .slice p2 q2 r2] 120)).cell? ⟨w.heap.size, 2, none⟩ = some (.slice sa sn sc) ∧ (wr.alloc (.cells #[.bool true, .slice p1 q1 r1, .slice p2 q2 r2] 120)).cell? ⟨w.heap.size, 3, none⟩ = some (.slice ya yn yc) ∧ (wr.alloc (.cells #[.bool true, .slice p1 q1 r1, .slice p2 q2 r2] 120)).cell? ⟨w.heap.size, 4, none⟩ = some (.slice oa on oc) ∧ (wr.alloc (.cells #[.bool true, .slice p1 q1 r1, .slice p2 q2 r2] 120)).cell? ⟨w.heap.size, 5, none⟩ = some (.slice (some ⟨bv, ov, none⟩) vn vc) ∧ (wr.alloc (.cells #[.bool true, .slice p1 q1 r1, .slice p2 q2 r2] 120)).cell? ⟨w.heap.size, 6, none⟩ = some (.slice fa fn fc) ∧ (wr.alloc (.cells #[.bool true, .slice p1 q1 r1, .slice p2 q2 r2] 120)).cell? ⟨w.heap.size, 7, none⟩ = some (.slice ba bn bc) ∧ (wr.alloc (.cells #[.bool true, .slice p1 q1 r1, .slice p2 q2 r2] 120)).cell? ⟨w.heap.size, 8, none⟩ = some (.slice (some ⟨bl, ol, none⟩) ln lc) ∧ (wr.alloc (.cells #[.bool true, .slice p1 q1 r1, .slice p2 q2 r2] 120)).cell? ⟨w.heap.size, 9, none⟩ = some (.slice ka kn kc) ∧ (wr.alloc (.cells #[.bool true, .slice p1 q1 r1, .slice p2 q2 r2] 120)).cell? ⟨wr.heap.size, 0, none⟩ = some (.bool true) ∧ (wr.alloc (.cells #[.bool true, .slice p1 q1 r1, .slice p2 q2 r2] 120)).cell? ⟨wr.heap.size, 1, none⟩ = some (.slice p1 q1 r1) ∧ (wr.alloc (.cells #[.bool true, .slice p1 q1 r1, .slice p2 q2 r2] 120)).cell? ⟨wr.heap.size, 2, none⟩ = some (.slice p2 q2 r2) ∧ (wr.alloc (.cells #[.bool true, .slice p1 q1 r1, .slice p2 q2 r2] 120)).cell? ⟨bl, ol + j * 2, none⟩ = some (.slice p3 q3 r3) ∧ (wr.alloc (.cells #[.bool true, .slice p1 q1 r1, .slice p2 q2 r2] 120)).cell? ⟨bl, ol + j * 2 + 1, none⟩ = some (.slice p4 q4 r4) := by
          have hr0 := HRA.out
          have hrv := HRV.out
          exact ⟨hr0 0 _ rfl, hr0 1 _ rfl, hr0 2 _ rfl, hr0 3 _ rfl, hr0 4 _ rfl, hr0 5 _ rfl, hr0 6 _ rfl, hr0 7 _ rfl, hr0 8 _ rfl, hr0 9 _ rfl, hrv 0 _ rfl, hrv 1 _ rfl, hrv 2 _ rfl, l0, l1⟩
        have c5 := hrow 5 _ rfl
        clear hba hrow hB hbd l1' hpr hpw hlev
        go_wp2_with fail
        refine wp_region_held_drew (S := fun Wz => Wz.cell? ⟨w.heap.size, 0, none⟩ = some (.int .i64 (n : Int)) ∧ Wz.cell? ⟨w.heap.size, 1, none⟩ = some (.slice ga gn gc) ∧ Wz.cell? ⟨w.heap.size, 2, none⟩ = some (.slice sa sn sc) ∧ Wz.cell? ⟨w.heap.size, 3, none⟩ = some (.slice ya yn yc) ∧ Wz.cell? ⟨w.heap.size, 4, none⟩ = some (.slice oa on oc) ∧ Wz.cell? ⟨w.heap.size, 5, none⟩ = some (.slice (some ⟨bv, ov, none⟩) vn vc) ∧ Wz.cell? ⟨w.heap.size, 6, none⟩ = some (.slice fa fn fc) ∧ Wz.cell? ⟨w.heap.size, 7, none⟩ = some (.slice ba bn bc) ∧ Wz.cell? ⟨w.heap.size, 8, none⟩ = some (.slice (some ⟨bl, ol, none⟩) ln lc) ∧ Wz.cell? ⟨w.heap.size, 9, none⟩ = some (.slice ka kn kc) ∧ Wz.cell? ⟨wr.heap.size, 0, none⟩ = some (.bool true) ∧ Wz.cell? ⟨wr.heap.size, 1, none⟩ = some (.slice p1 q1 r1) ∧ Wz.cell? ⟨wr.heap.size, 2, none⟩ = some (.slice p2 q2 r2) ∧ Wz.cell? ⟨bl, ol + j * 2, none⟩ = some (.slice p3 q3 r3) ∧ Wz.cell? ⟨bl, ol + j * 2 + 1, none⟩ = some (.slice p4 q4 r4)) (by kernel_rfl) (hS0) (fun hHeld => ?_)
        refine tk (i := 0) (oi := ⟨some 15, .fieldAddr 120 (.tmp 4) 0, 0, "walker.go:36", #[], none⟩) (v := ?_) (Or.inl ⟨by rfl, ?_⟩) (by assumption) ?_
        rotate_left
        · intro w' hSw
          (try dsimp only at hSw)
          go_simp
          try with_reducible rfl
        try simp only [aput]
        refine tk (i := 1) (oi := ⟨some 16, .load 4 (.tmp 15), 4, "walker.go:36", #[⟨0, .data⟩], none⟩) (v := ?_) (Or.inl ⟨by rfl, ?_⟩) (by assumption) ?_
        rotate_left
        · intro w' hSw
          (try dsimp only at hSw)
          go_simp
          try with_reducible rfl
        try simp only [aput]
        refine tk (i := 2) (oi := ⟨some 17, .move (.tmp 16), 4, "walker.go:36", #[⟨1, .data⟩], none⟩) (v := ?_) (Or.inl ⟨by rfl, ?_⟩) (by assumption) ?_
        rotate_left
        · intro w' hSw
          (try dsimp only at hSw)
          go_simp
          try with_reducible rfl
        try simp only [aput]
        refine tk (i := 3) (oi := ⟨some 18, .fieldAddr 88 (.tmp 1) 0, 0, "walker.go:36", #[⟨2, .guard⟩], some (2, true)⟩) (v := ?_) (Or.inl ⟨by rfl, ?_⟩) (by assumption) ?_
        rotate_left
        · intro w' hSw
          (try dsimp only at hSw)
          go_simp
          try with_reducible rfl
        try simp only [aput]
        refine tk (i := 4) (oi := ⟨some 19, .load 86 (.tmp 18), 86, "walker.go:36", #[⟨3, .data⟩, ⟨2, .guard⟩], some (2, true)⟩) (v := ?_) (Or.inl ⟨by rfl, ?_⟩) (by assumption) ?_
        rotate_left
        · intro w' hSw
          (try dsimp only at hSw)
          go_simp
          try with_reducible rfl
        try simp only [aput]
        refine tk (i := 5) (oi := ⟨some 20, .fieldAddr 120 (.tmp 4) 1, 0, "walker.go:36", #[⟨2, .guard⟩], some (2, true)⟩) (v := ?_) (Or.inl ⟨by rfl, ?_⟩) (by assumption) ?_
        rotate_left
        · intro w' hSw
          (try dsimp only at hSw)
          go_simp
          try with_reducible rfl
        try simp only [aput]
        refine tk (i := 6) (oi := ⟨some 21, .load 102 (.tmp 20), 102, "walker.go:36", #[⟨5, .data⟩, ⟨2, .guard⟩], some (2, true)⟩) (v := ?_) (Or.inl ⟨by rfl, ?_⟩) (by assumption) ?_
        rotate_left
        · intro w' hSw
          (try dsimp only at hSw)
          go_simp
          try with_reducible rfl
        try simp only [aput]
        refine tk (i := 8) (oi := ⟨some 23, .fieldAddr 88 (.tmp 1) 0, 0, "walker.go:36", #[⟨2, .guard⟩], some (2, true)⟩) (v := ?_) (Or.inl ⟨by rfl, ?_⟩) (by assumption) ?_
        rotate_left
        · intro w' hSw
          (try dsimp only at hSw)
          go_simp
          try with_reducible rfl
        try simp only [aput]
        refine tk (i := 9) (oi := ⟨some 24, .fieldAddr 86 (.tmp 23) 1, 0, "walker.go:36", #[⟨8, .data⟩, ⟨2, .guard⟩], some (2, true)⟩) (v := ?_) (Or.inl ⟨by rfl, ?_⟩) (by assumption) ?_
        rotate_left
        · intro w' hSw
          (try dsimp only at hSw)
          go_simp
          try with_reducible rfl
        try simp only [aput]
        refine tk (i := 10) (oi := ⟨some 25, .fieldAddr 54 (.tmp 24) 0, 0, "walker.go:36", #[⟨9, .data⟩, ⟨2, .guard⟩], some (2, true)⟩) (v := ?_) (Or.inl ⟨by rfl, ?_⟩) (by assumption) ?_
        rotate_left
        · intro w' hSw
          (try dsimp only at hSw)
          go_simp
          try with_reducible rfl
        try simp only [aput]
        refine tk (i := 11) (oi := ⟨some 26, .load 52 (.tmp 25), 52, "walker.go:36", #[⟨10, .data⟩, ⟨2, .guard⟩], some (2, true)⟩) (v := ?_) (Or.inl ⟨by rfl, ?_⟩) (by assumption) ?_
        rotate_left
        · intro w' hSw
          (try dsimp only at hSw)
          go_simp
          try with_reducible rfl
        try simp only [aput]
        refine tk (i := 12) (oi := ⟨some 27, .move (.tmp 3), 3, "walker.go:36", #[⟨2, .guard⟩], some (2, true)⟩) (v := ?_) (Or.inl ⟨by rfl, ?_⟩) (by assumption) ?_
        rotate_left
        · intro w' hSw
          (try dsimp only at hSw)
          go_simp
          try with_reducible rfl
        try simp only [aput]
        refine tk (i := 13) (oi := ⟨some 28, .indexAddr 52 (.tmp 26) (.tmp 27), 0, "walker.go:36", #[⟨11, .data⟩, ⟨12, .data⟩, ⟨2, .guard⟩], some (2, true)⟩) (v := ?_) (Or.inl ⟨by rfl, ?_⟩) (by assumption) ?_
        rotate_left
        · intro w' hSw
          (try dsimp only at hSw)
          go_simp
          try with_reducible rfl
        try simp only [aput]
        refine tk (i := 14) (oi := ⟨some 29, .load 62 (.tmp 28), 62, "walker.go:36", #[⟨13, .data⟩, ⟨2, .guard⟩], some (2, true)⟩) (v := ?_) (Or.inl ⟨by rfl, ?_⟩) (by assumption) ?_
        rotate_left
        · intro w' hSw
          (try dsimp only at hSw)
          go_simp
          try with_reducible rfl
        try simp only [aput]
        refine wpAnyH_ready (rs := [7]) (by kernel_rfl) (by simp) ?_
        refine AllReadyH.cons (o := { dst := some 22, op := Go.Op.call { callee := Go.Callee.value (Go.Operand.func 74), args := #[Go.Operand.tmp 19, Go.Operand.tmp 21], argTypes := #[86, 102] }, type := 62, pos := "walker.go:36", after := #[⟨4, .data⟩, ⟨6, .data⟩, ⟨2, .chain⟩, ⟨2, .guard⟩], guard := some (2, true) }) rfl (fun K hK => ?_) AllReadyH.nil
        go_simp
        refine (KL.out _ ((Below.refl _ _).drew)).mono ?_
        rintro e W5 ⟨vj, rfl, hfr, hb5⟩
        have hbz := over_trans ((Below.refl _ (wr.alloc (.cells #[.bool true, .slice p1 q1 r1, .slice p2 q2 r2] 120))).drew) hb5
        obtain ⟨m1, m2, m3, m4, m5, m6, hNV⟩ : ∃ m1 m2 m3 m4 m5 m6, vj = .agg #[.slice m1 m2 m3, .slice m4 m5 m6] := by
          obtain ⟨x, y, e, -⟩ := levAt_fresh hfr
          subst e
          obtain ⟨z1, z2, z3, z4, z5, z6, rfl, rfl⟩ := lev_slices (levAt_fresh hfr)
          exact ⟨_, _, _, _, _, _, rfl⟩
        subst hNV
        have hM5 := levAt_fresh hfr
        have hr0 := HRA.out.over hbz
        have hrv := HRV.out.over hbz
        have hS5 : W5.cell? ⟨w.heap.size, 0, none⟩ = some (.int .i64 (n : Int)) ∧ W5.cell? ⟨w.heap.size, 1, none⟩ = some (.slice ga gn gc) ∧ W5.cell? ⟨w.heap.size, 2, none⟩ = some (.slice sa sn sc) ∧ W5.cell? ⟨w.heap.size, 3, none⟩ = some (.slice ya yn yc) ∧ W5.cell? ⟨w.heap.size, 4, none⟩ = some (.slice oa on oc) ∧ W5.cell? ⟨w.heap.size, 5, none⟩ = some (.slice (some ⟨bv, ov, none⟩) vn vc) ∧ W5.cell? ⟨w.heap.size, 6, none⟩ = some (.slice fa fn fc) ∧ W5.cell? ⟨w.heap.size, 7, none⟩ = some (.slice ba bn bc) ∧ W5.cell? ⟨w.heap.size, 8, none⟩ = some (.slice (some ⟨bl, ol, none⟩) ln lc) ∧ W5.cell? ⟨w.heap.size, 9, none⟩ = some (.slice ka kn kc) ∧ W5.cell? ⟨wr.heap.size, 0, none⟩ = some (.bool true) ∧ W5.cell? ⟨wr.heap.size, 1, none⟩ = some (.slice p1 q1 r1) ∧ W5.cell? ⟨wr.heap.size, 2, none⟩ = some (.slice p2 q2 r2) ∧ W5.cell? ⟨bl, ol + j * 2, none⟩ = some (.slice p3 q3 r3) ∧ W5.cell? ⟨bl, ol + j * 2 + 1, none⟩ = some (.slice p4 q4 r4) := ⟨hr0 0 _ rfl, hr0 1 _ rfl, hr0 2 _ rfl, hr0 3 _ rfl, hr0 4 _ rfl, hr0 5 _ rfl, hr0 6 _ rfl, hr0 7 _ rfl, hr0 8 _ rfl, hr0 9 _ rfl, hrv 0 _ rfl, hrv 1 _ rfl, hrv 2 _ rfl, cell_over hbz _ _ l0, cell_over hbz _ _ l1⟩
        have HBZ5 := hide hbz
        have HM5 := hide hM5
        clear hr0 hrv hM5 hfr hb5 hbz
        go_simp
        refine hK.out _ _ (hS5) (fun hHeld => ?_)
        clear hK K
        try simp only [aput]
        refine wpAnyH_ready (rs := [15]) (by kernel_rfl) (by simp) ?_
        refine AllReadyH.cons (o := { dst := some 30, op := Go.Op.call { callee := Go.Callee.value (Go.Operand.func 90), args := #[Go.Operand.tmp 22, Go.Operand.tmp 29], argTypes := #[62, 62] }, type := 4, pos := "walker.go:36", after := #[⟨7, .data⟩, ⟨14, .data⟩, ⟨7, .chain⟩, ⟨2, .guard⟩], guard := some (2, true) }) rfl (fun K hK => ?_) AllReadyH.nil
        go_simp
        refine (KE.out _ W5 HBZ5.out HM5.out).mono ?_
        rintro e W6 ⟨rfl, hb6⟩
        have hbz := over_trans HBZ5.out hb6
        have hr0 := HRA.out.over hbz
        have hrv := HRV.out.over hbz
        have hS6 : W6.cell? ⟨w.heap.size, 0, none⟩ = some (.int .i64 (n : Int)) ∧ W6.cell? ⟨w.heap.size, 1, none⟩ = some (.slice ga gn gc) ∧ W6.cell? ⟨w.heap.size, 2, none⟩ = some (.slice sa sn sc) ∧ W6.cell? ⟨w.heap.size, 3, none⟩ = some (.slice ya yn yc) ∧ W6.cell? ⟨w.heap.size, 4, none⟩ = some (.slice oa on oc) ∧ W6.cell? ⟨w.heap.size, 5, none⟩ = some (.slice (some ⟨bv, ov, none⟩) vn vc) ∧ W6.cell? ⟨w.heap.size, 6, none⟩ = some (.slice fa fn fc) ∧ W6.cell? ⟨w.heap.size, 7, none⟩ = some (.slice ba bn bc) ∧ W6.cell? ⟨w.heap.size, 8, none⟩ = some (.slice (some ⟨bl, ol, none⟩) ln lc) ∧ W6.cell? ⟨w.heap.size, 9, none⟩ = some (.slice ka kn kc) ∧ W6.cell? ⟨wr.heap.size, 0, none⟩ = some (.bool true) ∧ W6.cell? ⟨wr.heap.size, 1, none⟩ = some (.slice p1 q1 r1) ∧ W6.cell? ⟨wr.heap.size, 2, none⟩ = some (.slice p2 q2 r2) ∧ W6.cell? ⟨bl, ol + j * 2, none⟩ = some (.slice p3 q3 r3) ∧ W6.cell? ⟨bl, ol + j * 2 + 1, none⟩ = some (.slice p4 q4 r4) := ⟨hr0 0 _ rfl, hr0 1 _ rfl, hr0 2 _ rfl, hr0 3 _ rfl, hr0 4 _ rfl, hr0 5 _ rfl, hr0 6 _ rfl, hr0 7 _ rfl, hr0 8 _ rfl, hr0 9 _ rfl, hrv 0 _ rfl, hrv 1 _ rfl, hrv 2 _ rfl, cell_over hbz _ _ l0, cell_over hbz _ _ l1⟩
        have HBZ6 := hide hbz
        clear hr0 hrv hb6 hbz
        go_simp
        refine hK.out _ _ (hS6) (fun hHeld => ?_)
        clear hK K
        try simp only [aput]
        refine tk (i := 16) (oi := ⟨some 31, .unOp .not 4 (.tmp 30), 4, "walker.go:36", #[⟨15, .data⟩, ⟨2, .guard⟩], some (2, true)⟩) (v := ?_) (Or.inl ⟨by rfl, ?_⟩) (by assumption) ?_
        rotate_left
        · intro w' hSw
          (try dsimp only at hSw)
          go_simp
          try with_reducible rfl
        try simp only [aput]
        refine tk (i := 17) (oi := ⟨some 32, .pick (.tmp 17) (.tmp 31) (.const (Go.Value.bool false)), 4, "walker.go:36", #[⟨2, .data⟩, ⟨16, .data⟩], none⟩) (v := ?_) (Or.inl ⟨by rfl, ?_⟩) (by assumption) ?_
        rotate_left
        · intro w' hSw
          (try dsimp only at hSw)
          go_simp
          try with_reducible rfl
        try simp only [aput]
        refine wpAnyH_done (by kernel_rfl) ?_ _
        cases R with
        | false =>
          have HNO : Hid (¬ (∀ i (h : i < vs.length), vs[i].1 = true → LsV.getD i noLev = levOf (gnOf gs) n vs[i].2)) := hide (fun h => by
            have h2 := HR.out.2 (h j hjv HKN.out.symm)
            cases h2)
          go_wp2_with fail
          go_ret
          exact ⟨⟨false, rfl, fun h => absurd h (by simp), fun h => absurd h HNO.out⟩, over_trans HBA.out HBZ6.out⟩
        | true =>
          have HOK2 : Hid (∀ i (h : i < vs.length), i < j + 1 → vs[i].1 = true → LsV.getD i noLev = levOf (gnOf gs) n vs[i].2) := hide (fun i h hi hk => by
            by_cases hij : i = j
            · subst hij; exact HR.out.1 rfl
            · exact HOK.out i h (by omega) hk)
          go_wp2_with fail
          exact ⟨⟨j + 1, by omega, by go_num, HOK2, HRA.out.over HBZ6.out, over_trans HBA.out HBZ6.out⟩, by simp [intOf]; omega⟩
    · go_wp2_with fail
      go_ret
      exact ⟨⟨true, rfl, fun _ i h hk => HOK.out i h (by have := HVN.out; omega) hk, fun _ => rfl⟩, hB⟩
end Go.Proofs.Ytcbbjjenkommeaa.Ex
