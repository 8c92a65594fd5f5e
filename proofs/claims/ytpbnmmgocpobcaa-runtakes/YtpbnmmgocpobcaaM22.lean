/- Checks of a program, whatever it is. -/
import Derived.Test.YtpbnmmgocpobcaaM21
import Derived.Test.YtpbnmmgocpobcaaM16
import Derived.Test.YtpbnmmgocpobcaaM20
import Derived.Recover
import Derived.Defers
namespace Go.Proofs.Ytpbnmmgocpobcaa.Ex
open Go.RowKit
set_option linter.unusedVariables false

/-- a program in memory. -/
structure ProgAt (K kf : Nat) (m : Int) (ga : Option Addr) (gn gc : Nat) (sa : Option Addr) (sn sc : Nat) (ya : Option Addr) (yn yc : Nat) (oa : Option Addr) (on oc : Nat) (va : Option Addr) (vn vc : Nat) (fa : Option Addr) (fn fc : Nat) (ba : Option Addr) (bn bc : Nat) (gs : List (Int × Int)) (sp : List Int) (ls ms : List Lab) (vs : List (Bool × Lab)) (fs : List FnD) (l : List D) (w : World) : Prop where
  m64 : In64 m
  grants : IsGrants w (.slice ga gn gc) gs
  speak : IsInts w (.slice sa sn sc) sp
  speakL : sp.length ≤ 9223372036854775807
  ins : LabsAt w (.slice ya yn yc) ls
  outs : LabsAt w (.slice oa on oc) ms
  vars : VarsAt w (.slice va vn vc) vs
  funcs : FnsAt w K kf (.slice fa fn fc) fs
  main : StmtsAt w K kf (.slice ba bn bc) l
  insN : ya = none → yc = 0
  outsN : oa = none → oc = 0
theorem ProgAt.over {K kf : Nat} {m : Int} {ga : Option Addr} {gn gc : Nat} {sa : Option Addr} {sn sc : Nat} {ya : Option Addr} {yn yc : Nat} {oa : Option Addr} {on oc : Nat} {va : Option Addr} {vn vc : Nat} {fa : Option Addr} {fn fc : Nat} {ba : Option Addr} {bn bc : Nat} {gs : List (Int × Int)} {sp : List Int} {ls ms : List Lab} {vs : List (Bool × Lab)} {fs : List FnD} {l : List D} {w w' : World} (h : ProgAt K kf m ga gn gc sa sn sc ya yn yc oa on oc va vn vc fa fn fc ba bn bc gs sp ls ms vs fs l w) (hb : Below w.heap.size w w') : ProgAt K kf m ga gn gc sa sn sc ya yn yc oa on oc va vn vc fa fn fc ba bn bc gs sp ls ms vs fs l w' :=
  ⟨h.m64, isGrants_over h.grants hb, h.speak.over hb, h.speakL, h.ins.over hb, h.outs.over hb, h.vars.over hb, h.funcs.over hb, h.main.over hb, h.insN, h.outsN⟩

/-- a program that may be run. -/
structure okP (K kf : Nat) (vn yn : Nat) (fs : List FnD) (l : List D) : Prop where
  vars : vn ≤ 16
  ins : yn ≤ 5
  funcs : fs.length ≤ 5
  many : cntF kf fs + cnts kf l ≤ 50
  body : ∀ i (h : i < fs.length), okF K vn yn (i : Int) fs kf fs[i]
  main : ∀ s ∈ l, okS K vn yn (fs.length : Int) fs kf s

set_option maxHeartbeats 2000000 in
set_option maxRecDepth 100000 in
theorem checkG_any (K kf : Nat) (m : Int) (ga : Option Addr) (gn gc : Nat) (sa : Option Addr) (sn sc : Nat) (ya : Option Addr) (yn yc : Nat) (oa : Option Addr) (on oc : Nat) (va : Option Addr) (vn vc : Nat) (fa : Option Addr) (fn fc : Nat) (ba : Option Addr) (bn bc : Nat) (gs : List (Int × Int)) (sp : List Int) (ls ms : List Lab) (vs : List (Bool × Lab)) (fs : List FnD) (l : List D) (w : World) (h : ProgAt K kf m ga gn gc sa sn sc ya yn yc oa on oc va vn vc fa fn fc ba bn bc gs sp ls ms vs fs l w) :
    Calls Try.prog 27 #[.agg #[.int .i64 m, .slice ga gn gc, .slice sa sn sc, .slice ya yn yc, .slice oa on oc, .slice va vn vc, .slice fa fn fc, .slice ba bn bc]] w (Goes (okP K kf vn yn fs l) w) := by
  have hbel : Below w.heap.size w (w.alloc (.cells #[.int .i64 m, .slice ga gn gc, .slice sa sn sc, .slice ya yn yc, .slice oa on oc, .slice va vn vc, .slice fa fn fc, .slice ba bn bc] 75)) := (Below.refl _ w).alloc (Nat.le_refl _) _
  have HP := hide (h.over hbel)
  have KP := hide pass_any
  have KM := hide must_any
  have KO := hide isOneOf_any
  have KA := hide (Go.Proofs.Ytpbnmmgocpobcaa.check_any m (.slice ga gn gc) gs)
  have hvl : vn ≤ 9223372036854775807 := by obtain ⟨hm, a, c, he, -⟩ := h.vars; injection he with e1 e2 e3; rw [e2]; exact hm
  have c0 : (w.alloc (.cells #[.int .i64 m, .slice ga gn gc, .slice sa sn sc, .slice ya yn yc, .slice oa on oc, .slice va vn vc, .slice fa fn fc, .slice ba bn bc] 75)).cell? ⟨w.heap.size, 0, none⟩ = some (.int .i64 m) := by simp [go_sem]
  have c1 : (w.alloc (.cells #[.int .i64 m, .slice ga gn gc, .slice sa sn sc, .slice ya yn yc, .slice oa on oc, .slice va vn vc, .slice fa fn fc, .slice ba bn bc] 75)).cell? ⟨w.heap.size, 1, none⟩ = some (.slice ga gn gc) := by simp [go_sem]
  have c2 : (w.alloc (.cells #[.int .i64 m, .slice ga gn gc, .slice sa sn sc, .slice ya yn yc, .slice oa on oc, .slice va vn vc, .slice fa fn fc, .slice ba bn bc] 75)).cell? ⟨w.heap.size, 2, none⟩ = some (.slice sa sn sc) := by simp [go_sem]
  have c3 : (w.alloc (.cells #[.int .i64 m, .slice ga gn gc, .slice sa sn sc, .slice ya yn yc, .slice oa on oc, .slice va vn vc, .slice fa fn fc, .slice ba bn bc] 75)).cell? ⟨w.heap.size, 3, none⟩ = some (.slice ya yn yc) := by simp [go_sem]
  have c4 : (w.alloc (.cells #[.int .i64 m, .slice ga gn gc, .slice sa sn sc, .slice ya yn yc, .slice oa on oc, .slice va vn vc, .slice fa fn fc, .slice ba bn bc] 75)).cell? ⟨w.heap.size, 4, none⟩ = some (.slice oa on oc) := by simp [go_sem]
  have c5 : (w.alloc (.cells #[.int .i64 m, .slice ga gn gc, .slice sa sn sc, .slice ya yn yc, .slice oa on oc, .slice va vn vc, .slice fa fn fc, .slice ba bn bc] 75)).cell? ⟨w.heap.size, 5, none⟩ = some (.slice va vn vc) := by simp [go_sem]
  have c6 : (w.alloc (.cells #[.int .i64 m, .slice ga gn gc, .slice sa sn sc, .slice ya yn yc, .slice oa on oc, .slice va vn vc, .slice fa fn fc, .slice ba bn bc] 75)).cell? ⟨w.heap.size, 6, none⟩ = some (.slice fa fn fc) := by simp [go_sem]
  have c7 : (w.alloc (.cells #[.int .i64 m, .slice ga gn gc, .slice sa sn sc, .slice ya yn yc, .slice oa on oc, .slice va vn vc, .slice fa fn fc, .slice ba bn bc] 75)).cell? ⟨w.heap.size, 7, none⟩ = some (.slice ba bn bc) := by simp [go_sem]
  clear h
  go_enter Try.func27, Try.ntmps27
  go_wp2_with fail
  refine (KA.out _ (HP.out.grants)).mono ?_
  rintro e w1 ⟨rfl, hb1⟩
  have d0 := cell_over hb1 _ _ c0
  have d1 := cell_over hb1 _ _ c1
  have d2 := cell_over hb1 _ _ c2
  have d3 := cell_over hb1 _ _ c3
  have d4 := cell_over hb1 _ _ c4
  have d5 := cell_over hb1 _ _ c5
  have d6 := cell_over hb1 _ _ c6
  have d7 := cell_over hb1 _ _ c7
  have hB1 := hbel.trans (hb1.mono hbel.size)
  have HP1 := hide (HP.out.over hb1)
  obtain ⟨ce, hce⟩ : ∃ q, q = chkErr m gs := ⟨_, rfl⟩
  rw [← hce]
  clear KA c0 c1 c2 c3 c4 c5 c6 c7 hb1 hbel hce HP
  go_wp2_with fail
  refine (KP.out _ _).mono ?_
  rintro e wz ⟨he, rfl⟩
  rcases he with ⟨hz, rfl⟩ | ⟨hz, rfl⟩
  rotate_left
  · have hz2 : ce ≠ 0 := by simpa using hz
    unfold gaveW
    go_wp2_with fail
    exact ⟨rfl, Or.inr ⟨ce, hz2, rfl⟩, hB1⟩
  clear hz
  by_cases hlim : ((vn : Int) ≤ 16 ∧ (yn : Int) ≤ 5 ∧ (on : Int) ≤ 5 ∧ (fn : Int) ≤ 5 ∧ (sn : Int) ≤ m)
  rotate_left
  · have HL := hide hlim
    clear hlim
    go_wp2_with fail
    all_goals
      refine (KM.out _ _ _).mono ?_
      rintro e wz ⟨he, rfl⟩
      rcases he with ⟨hz, rfl⟩ | ⟨hz, rfl⟩
      · exfalso
        have := HL.out
        first | (simp at hz; done) | (simp at hz; omega)
      · clear hz
        unfold gaveW
        go_wp2_with fail
        exact ⟨rfl, Or.inr ⟨2, by decide, rfl⟩, hB1⟩
  obtain ⟨l1, l2, l3, l4, l5⟩ := hlim
  go_wp2_with fail
  refine (KM.out _ _ _).mono ?_
  rintro e wz ⟨he, rfl⟩
  rcases he with ⟨hz, rfl⟩ | ⟨hz, rfl⟩
  rotate_left
  · cases hz
  clear hz
  have hsn : sn = sp.length := by obtain ⟨a, c, he, -⟩ := HP1.out.speak; injection he
  have hsl : sn ≤ 9223372036854775807 := by rw [hsn]; exact HP1.out.speakL
  have HSN := hide hsn
  clear hsn
  go_wp2_with fail
  go_loopw [53] (fun i wr => ∃ n : Nat, n ≤ sn ∧ i = .int .i64 n ∧ (wr.cell? ⟨w.heap.size, 0, none⟩ = some (.int .i64 m) ∧ wr.cell? ⟨w.heap.size, 1, none⟩ = some (.slice ga gn gc) ∧ wr.cell? ⟨w.heap.size, 2, none⟩ = some (.slice sa sn sc) ∧ wr.cell? ⟨w.heap.size, 3, none⟩ = some (.slice ya yn yc) ∧ wr.cell? ⟨w.heap.size, 4, none⟩ = some (.slice oa on oc) ∧ wr.cell? ⟨w.heap.size, 5, none⟩ = some (.slice va vn vc) ∧ wr.cell? ⟨w.heap.size, 6, none⟩ = some (.slice fa fn fc) ∧ wr.cell? ⟨w.heap.size, 7, none⟩ = some (.slice ba bn bc)) ∧ Below wz.heap.size wz wr) (fun i _ => sn - (intOf i).toNat)
  case atStart => exact ⟨0, Nat.zero_le _, rfl, ⟨d0, d1, d2, d3, d4, d5, d6, d7⟩, Below.refl _ _⟩
  case round =>
    clear d0 d1 d2 d3 d4 d5 d6 d7
    obtain ⟨n, hn, rfl, ⟨d0, d1, d2, d3, d4, d5, d6, d7⟩, hB⟩ := hrel
    have hBw := hB1.trans (hB.mono hB1.size)
    by_cases hnl : n < sn
    · obtain ⟨a2, c2, he, hel⟩ := HP1.out.speak.over hB
      injection he with e1 e2 e3
      have hnd : n < sp.length := by omega
      obtain ⟨b, off, hbo, hel2⟩ := hel (by intro h; rw [h] at hnd; simp at hnd)
      have q := hel2 n hnd
      have e1' := e1.trans hbo
      subst e1'
      obtain ⟨x, hx⟩ : ∃ x, x = sp[n] := ⟨_, rfl⟩
      rw [← hx] at q
      clear hel hel2 hx e1 e2 e3 hbo
      go_wp2_with fail
      refine (KO.out _ _ _).mono ?_
      rintro e wy ⟨rfl, rfl⟩
      obtain ⟨ok, hok⟩ : ∃ q, q = decide (0 ≤ x ∧ x < m) := ⟨_, rfl⟩
      rw [← hok]
      clear hok
      go_wp2_with fail
      refine (KM.out _ _ _).mono ?_
      rintro e wx ⟨he, rfl⟩
      rcases he with ⟨hz, rfl⟩ | ⟨hz, rfl⟩
      rotate_left
      · clear hz
        unfold gaveW
        go_wp2_with fail
        exact ⟨rfl, Or.inr ⟨5, by decide, rfl⟩, hBw⟩
      clear hz
      go_wp2_with fail
      exact ⟨⟨n + 1, by omega, by go_num, ⟨d0, d1, d2, d3, d4, d5, d6, d7⟩, hB⟩, by simp [intOf]; omega⟩
    · have HP2 := hide (HP1.out.over hB)
      obtain ⟨w2, hw2⟩ : ∃ q, q = wr := ⟨_, rfl⟩
      rw [← hw2] at d0 d1 d2 d3 d4 d5 d6 d7 hBw HP2 ⊢
      clear hw2 hB HP1 hB1
      have KL := hide (labelsG_any m ga gn gc sa sn sc ya yn yc oa on oc va vn vc fa fn fc ba bn bc gs ls ms vs w2 HP2.out.grants HP2.out.ins HP2.out.outs HP2.out.vars (by omega) (by omega) HP2.out.insN HP2.out.outsN)
      go_wp2_with fail
      refine (KL.out).mono ?_
      rintro e w3 ⟨he, hb3⟩
      have hBw3 := hBw.trans (hb3.mono hBw.size)
      have HP3 := hide (HP2.out.over hb3)
      have r0 := cell_over hb3 _ _ d0
      have r1 := cell_over hb3 _ _ d1
      have r2 := cell_over hb3 _ _ d2
      have r3 := cell_over hb3 _ _ d3
      have r4 := cell_over hb3 _ _ d4
      have r5 := cell_over hb3 _ _ d5
      have r6 := cell_over hb3 _ _ d6
      have r7 := cell_over hb3 _ _ d7
      clear KL d0 d1 d2 d3 d4 d5 d6 d7
      rcases he with ⟨-, rfl⟩ | ⟨why, hne, rfl⟩
      rotate_left
      · unfold gaveW
        go_wp2_with fail
        exact ⟨rfl, Or.inr ⟨why, hne, rfl⟩, hBw3⟩
      clear hb3 HP2 hBw
      have KI := hide (limits_any K kf m ga gn gc sa sn sc ya yn yc oa on oc va vn vc fa fn fc ba bn bc fs l w3 HP3.out.funcs HP3.out.main)
      go_wp2_with fail
      refine (KI.out).mono ?_
      rintro e w4 ⟨he, hb4⟩
      have hBw4 := hBw3.trans (hb4.mono hBw3.size)
      have HP4 := hide (HP3.out.over hb4)
      have d0 := cell_over hb4 _ _ r0
      have d1 := cell_over hb4 _ _ r1
      have d2 := cell_over hb4 _ _ r2
      have d3 := cell_over hb4 _ _ r3
      have d4 := cell_over hb4 _ _ r4
      have d5 := cell_over hb4 _ _ r5
      have d6 := cell_over hb4 _ _ r6
      have d7 := cell_over hb4 _ _ r7
      clear KI r0 r1 r2 r3 r4 r5 r6 r7
      rcases he with ⟨rfl, hlm⟩ | rfl
      rotate_left
      · unfold gaveW
        go_wp2_with fail
        exact ⟨rfl, Or.inr ⟨2, by decide, rfl⟩, hBw4⟩
      have HLM := hide hlm
      have hfn : fn = fs.length := by obtain ⟨-, a, c, he, -⟩ := HP4.out.funcs; injection he
      have HFN := hide hfn
      clear hb4 HP3 hBw3 hlm hfn
      go_wp2_with fail
      go_loopw [73] (fun i wr => ∃ n : Nat, n ≤ fn ∧ i = .int .i64 n ∧ (∀ j (h : j < fs.length), j < n → okF K vn yn (j : Int) fs kf fs[j]) ∧ (wr.cell? ⟨w.heap.size, 0, none⟩ = some (.int .i64 m) ∧ wr.cell? ⟨w.heap.size, 1, none⟩ = some (.slice ga gn gc) ∧ wr.cell? ⟨w.heap.size, 2, none⟩ = some (.slice sa sn sc) ∧ wr.cell? ⟨w.heap.size, 3, none⟩ = some (.slice ya yn yc) ∧ wr.cell? ⟨w.heap.size, 4, none⟩ = some (.slice oa on oc) ∧ wr.cell? ⟨w.heap.size, 5, none⟩ = some (.slice va vn vc) ∧ wr.cell? ⟨w.heap.size, 6, none⟩ = some (.slice fa fn fc) ∧ wr.cell? ⟨w.heap.size, 7, none⟩ = some (.slice ba bn bc)) ∧ Below w4.heap.size w4 wr) (fun i _ => fn - (intOf i).toNat)
      case atStart => exact ⟨0, Nat.zero_le _, rfl, fun j h h' => absurd h' (by omega), ⟨d0, d1, d2, d3, d4, d5, d6, d7⟩, Below.refl _ _⟩
      case round =>
        clear d0 d1 d2 d3 d4 d5 d6 d7
        obtain ⟨n, hn, rfl, hok, ⟨d0, d1, d2, d3, d4, d5, d6, d7⟩, hB⟩ := hrel
        have HOK := hide hok
        clear hok
        have hBw := hBw4.trans (hB.mono hBw4.size)
        by_cases hnl : n < fn
        · obtain ⟨-, ao, cap, he, hel⟩ := HP4.out.funcs.over hB
          injection he with e1 e2 e3
          have hnd : n < fs.length := by omega
          obtain ⟨b, off, hbo, hel2⟩ := hel (by intro h; rw [h] at hnd; simp at hnd)
          obtain ⟨vP, vB, x0, x1, x2, q0, q1, q2, q3, q4, hp, ⟨hpl, pa, pc, hvp, hpc⟩, hs, hx⟩ := hel2 n hnd
          have e1' := e1.trans hbo
          subst e1'
          subst hvp
          have hs0 := hs
          obtain ⟨-, za, zc, hvb, -⟩ := hs0
          subst hvb
          obtain ⟨xa, xc, hxf⟩ := hx.form
          simp only [List.cons.injEq, and_true] at hxf
          obtain ⟨rfl, rfl, rfl⟩ := hxf
          have hba := (Below.refl _ wr).alloc (Nat.le_refl _) (.cells #[.slice pa fs[n].ps.length pc, .slice za fs[n].body.length zc, .int .i64 (kindOf fs[n].res), .int .i64 (numOf fs[n].res), .slice xa (argsOf fs[n].res).length xc] 80)
          have hBa := hBw.trans (hba.mono hBw.size)
          have hB4a := over_trans hB hba
          have KF := hide (functionG_any K kf kf fs fs[n] (n : Int) m ga gn gc sa sn sc ya yn yc oa on oc va vn vc (some ⟨b, off, none⟩) fn fc ba bn bc pa fs[n].ps.length pc za fs[n].body.length zc (kindOf fs[n].res) (numOf fs[n].res) xa (argsOf fs[n].res).length xc _ hvl (by omega) (by omega) (by omega) (by omega) (by omega) (hp.over hba) hpl hpc (hs.over hba) (hx.over hba) (HP4.out.funcs.over hB4a))
          obtain ⟨pl, hpl2⟩ : ∃ q, q = fs[n].ps.length := ⟨_, rfl⟩
          obtain ⟨zl, hzl2⟩ : ∃ q, q = fs[n].body.length := ⟨_, rfl⟩
          obtain ⟨ek, hek2⟩ : ∃ q, q = kindOf fs[n].res := ⟨_, rfl⟩
          obtain ⟨en, hen2⟩ : ∃ q, q = numOf fs[n].res := ⟨_, rfl⟩
          obtain ⟨xl, hxl2⟩ : ∃ q, q = (argsOf fs[n].res).length := ⟨_, rfl⟩
          rw [← hpl2, ← hzl2, ← hek2, ← hen2, ← hxl2] at KF hba hBa hB4a
          rw [← hpl2] at q0
          rw [← hzl2] at q1
          rw [← hek2] at q2
          rw [← hen2] at q3
          rw [← hxl2] at q4
          have f0 := cell_over hba _ _ d0
          have f1 := cell_over hba _ _ d1
          have f2 := cell_over hba _ _ d2
          have f3 := cell_over hba _ _ d3
          have f4 := cell_over hba _ _ d4
          have f5 := cell_over hba _ _ d5
          have f6 := cell_over hba _ _ d6
          have f7 := cell_over hba _ _ d7
          clear hel hel2 e1 e2 e3 hbo hp hpl hpc hs hx hpl2 hzl2 hek2 hen2 hxl2 d0 d1 d2 d3 d4 d5 d6 d7
          go_wp2_with fail
          refine (KF.out).mono ?_
          rintro e w5 ⟨he, hb5⟩
          have hB5 := over_trans hB4a hb5
          have hBw5 := hBa.trans (hb5.mono hBa.size)
          have r0 := cell_over hb5 _ _ f0
          have r1 := cell_over hb5 _ _ f1
          have r2 := cell_over hb5 _ _ f2
          have r3 := cell_over hb5 _ _ f3
          have r4 := cell_over hb5 _ _ f4
          have r5 := cell_over hb5 _ _ f5
          have r6 := cell_over hb5 _ _ f6
          have r7 := cell_over hb5 _ _ f7
          clear KF f0 f1 f2 f3 f4 f5 f6 f7 hb5 hba hBa hB4a hB hBw q0 q1 q2 q3 q4
          rcases he with ⟨hok, rfl⟩ | ⟨why, hne, rfl⟩
          rotate_left
          · unfold gaveW
            go_wp2_with fail
            exact ⟨rfl, Or.inr ⟨why, hne, rfl⟩, hBw5⟩
          have HOK2 := hide hok
          clear hok
          go_wp2_with fail
          refine ⟨⟨n + 1, by omega, by go_num, fun j h h' => ?_, ⟨r0, r1, r2, r3, r4, r5, r6, r7⟩, hB5⟩, by simp [intOf]; omega⟩
          by_cases hjn : j < n
          · exact HOK.out j h hjn
          · obtain rfl : j = n := by omega
            exact HOK2.out
        · have KS := hide (stmtsG_any K kf fs (fn : Int) m ga gn gc sa sn sc ya yn yc oa on oc va vn vc fa fn fc ba bn bc hvl (by omega) (by omega) (by omega) (by omega) (by have := HFN.out; omega) kf (.slice ba bn bc) l wr (HP4.out.main.over hB) (HP4.out.funcs.over hB))
          go_wp2_with fail
          refine (KS.out).mono ?_
          rintro e w5 ⟨he, hb5⟩
          have hBw5 := hBw.trans (hb5.mono hBw.size)
          clear KS d0 d1 d2 d3 d4 d5 d6 d7 hb5 hB hBw
          rcases he with ⟨hok, rfl⟩ | ⟨why, hne, rfl⟩
          rotate_left
          · unfold gaveW
            go_wp2_with fail
            exact ⟨rfl, Or.inr ⟨why, hne, rfl⟩, hBw5⟩
          have HOK2 := hide hok
          clear hok
          go_wp2_with fail
          go_end0
          have hfn := HFN.out
          have hlm := HLM.out
          refine ⟨Or.inl ⟨⟨by omega, by omega, by omega, by omega, fun j h => HOK.out j h (by omega), ?_⟩, rfl⟩, hBw5⟩
          rw [← hfn]
          exact HOK2.out
end Go.Proofs.Ytpbnmmgocpobcaa.Ex
/- What is given up is caught; scope.Check of any program. -/
namespace Go.Proofs.Ytpbnmmgocpobcaa.Ex
open Go.RowKit
set_option linter.unusedVariables false

theorem assertW (v : Value) (w : World) : (Instr.typeAssert (.iface 87 v) 20 87 false).run Try.prog w = .ok v w := by
  simp [Instr.typeAssert, run_underlying Try.underlying87, go_sem, Result.andThen]

set_option maxHeartbeats 1000000 in
theorem catch_gave (B : Nat) (x y a e : Int) (older : List PanicEntry) (w : World) (hB : B + 2 ≤ w.heap.size)
    (c0 : w.cell? ⟨B, 0, none⟩ = some (.int .i64 x)) (c1 : w.cell? ⟨B + 1, 0, none⟩ = some (.int .i64 y))
    (f0 : w.frozen? ⟨B, 0, none⟩ = false) (f1 : w.frozen? ⟨B + 1, 0, none⟩ = false) :
    CallsD Try.prog 37 #[.pointer (some ⟨B, 0, none⟩), .pointer (some ⟨B + 1, 0, none⟩)] (.panicking ({ v := .iface 87 (.agg #[.int .i64 a, .int .i64 e]), recovered := false } :: older)) w fun en u' w' =>
      en = .returned (.tuple #[]) ∧ u' = .panicking ({ v := .iface 87 (.agg #[.int .i64 a, .int .i64 e]), recovered := true } :: older) ∧
      w'.cell? ⟨B, 0, none⟩ = some (.int .i64 a) ∧ w'.cell? ⟨B + 1, 0, none⟩ = some (.int .i64 e) ∧ Below B w w' := by
  have hta := assertW
  refine callsD_of_wpS Try.func37 rfl fun c₀ cs hu => ?_
  apply wpS_seq
  apply wpS_region
  simp [wpOpsS, go_sem, recoverD, hu, Try.ntmps37, Exit.thenS]
  refine wpS_of_wp ?_
  change Code.wp Try.prog _ _ { tmps := #[.pointer (some ⟨B, 0, none⟩), .pointer (some ⟨B + 1, 0, none⟩), .iface 87 (.agg #[.int .i64 a, .int .i64 e]), undef, .iface 87 (.agg #[.int .i64 a, .int .i64 e]), undef, undef, undef, undef, undef, undef, undef, undef], defers := [] } w
  go_wp2
  have k1 : B < w.heap.size := by omega
  have k2 : B + 1 < w.heap.size := by omega
  go_region
  go_wp2
  refine ⟨rfl, _, by cases c₀; simp_all, .tuple #[], by simp [results, Try.results37], rfl, rfl, ?_⟩
  refine ⟨by simp [go_sem, k1, c0], by simp [go_sem, k2, c1], ?_⟩
  exact (((((Below.refl B w).setCell (by simp) _).setCell (by simp) _)).alloc (by simp [World.setCell]; omega) _).drew

/-- what a check says: that all is right, and then it is. -/
def Said (ok : Prop) (w : World) (f : Int → Value) (e : Ending) (w' : World) : Prop := ∃ why : Int, e = .returned (f why) ∧ (why = 0 → ok) ∧ Below w.heap.size w w'

set_option maxHeartbeats 1000000 in
set_option maxRecDepth 100000 in
theorem caught_any (K kf : Nat) (m : Int) (ga : Option Addr) (gn gc : Nat) (sa : Option Addr) (sn sc : Nat) (ya : Option Addr) (yn yc : Nat) (oa : Option Addr) (on oc : Nat) (va : Option Addr) (vn vc : Nat) (fa : Option Addr) (fn fc : Nat) (ba : Option Addr) (bn bc : Nat) (gs : List (Int × Int)) (sp : List Int) (ls ms : List Lab) (vs : List (Bool × Lab)) (fs : List FnD) (l : List D) (w : World) (h : ProgAt K kf m ga gn gc sa sn sc ya yn yc oa on oc va vn vc fa fn fc ba bn bc gs sp ls ms vs fs l w) :
    Calls Try.prog 26 #[.func (.func 27) #[.agg #[.int .i64 m, .slice ga gn gc, .slice sa sn sc, .slice ya yn yc, .slice oa on oc, .slice va vn vc, .slice fa fn fc, .slice ba bn bc]] #[]] w (Said (okP K kf vn yn fs l) w fun why => .tuple #[.int .i64 0, .int .i64 why]) := by
  have hmf : ∀ (fn : Fn) (first cap : Array Value) (w : World), (Instr.makeFunc fn first cap).run Try.prog w = .ok (.func fn first cap) w := fun _ _ _ _ => rfl
  have HC : ∀ (args : Array Value) (w : World), (callFunc 27 args).run Try.prog w = .ok (.enter 27 args) w := fun args w => by simp [go_sem]
  have hbel : Below w.heap.size w ((w.alloc (.cells #[.int .i64 0] 3)).alloc (.cells #[.int .i64 0] 36)) := ((Below.refl _ w).alloc (Nat.le_refl _) _).alloc (by simp) _
  have K := hide (checkG_any K kf m ga gn gc sa sn sc ya yn yc oa on oc va vn vc fa fn fc ba bn bc gs sp ls ms vs fs l _ (h.over hbel))
  have q0 : ((w.alloc (.cells #[.int .i64 0] 3)).alloc (.cells #[.int .i64 0] 36)).cell? ⟨w.heap.size, 0, none⟩ = some (.int .i64 0) := by simp [go_sem]
  have q1 : ((w.alloc (.cells #[.int .i64 0] 3)).alloc (.cells #[.int .i64 0] 36)).cell? ⟨w.heap.size + 1, 0, none⟩ = some (.int .i64 0) := by simp [go_sem]
  have z0 : ((w.alloc (.cells #[.int .i64 0] 3)).alloc (.cells #[.int .i64 0] 36)).frozen? ⟨w.heap.size, 0, none⟩ = false := by simp [go_sem]
  have z1 : ((w.alloc (.cells #[.int .i64 0] 3)).alloc (.cells #[.int .i64 0] 36)).frozen? ⟨w.heap.size + 1, 0, none⟩ = false := by simp [go_sem]
  clear h
  go_enter_defers Try.func26, Try.ntmps26
  go_wp2_with fail
  refine (K.out).mono ?_
  rintro e w1 ⟨he, hb1⟩
  obtain ⟨hc, hf⟩ := bcell hb1
  have hB1 := hbel.trans (hb1.mono hbel.size)
  have p0 := cell_over hb1 _ _ q0
  have p1 := cell_over hb1 _ _ q1
  have y0 := (hf w.heap.size 0 (by simp; omega)).trans z0
  have y1 := (hf (w.heap.size + 1) 0 (by simp)).trans z1
  have g1 : w.heap.size + 1 < w1.heap.size := World.block_lt_of_cell? w1 _ p1
  have g0 : w.heap.size < w1.heap.size := by omega
  clear hc hf q0 q1 z0 z1 hb1 K hbel
  rcases he with ⟨hok, rfl⟩ | ⟨why, hne, rfl⟩
  · have HOK := hide hok
    clear hok
    go_wp2_with fail
    refine leaves_cons (f := 37) (args := #[.pointer (some ⟨w.heap.size, 0, none⟩), .pointer (some ⟨w.heap.size + 1, 0, none⟩)]) (by simp) (by simp [go_sem]) ?_
    refine (catch_idle _ _ _).mono ?_
    rintro e u' w2 ⟨rfl, rfl, rfl⟩
    have d0 : ((w1.setCell ⟨w.heap.size, 0, none⟩ (.int .i64 0)).setCell ⟨w.heap.size + 1, 0, none⟩ (.int .i64 0)).cell? ⟨w.heap.size, 0, none⟩ = some (.int .i64 0) := by simp [go_sem, p0]
    have d1 : ((w1.setCell ⟨w.heap.size, 0, none⟩ (.int .i64 0)).setCell ⟨w.heap.size + 1, 0, none⟩ (.int .i64 0)).cell? ⟨w.heap.size + 1, 0, none⟩ = some (.int .i64 0) := by simp [go_sem, p1]
    have hbb : Below w.heap.size w ((w1.setCell ⟨w.heap.size, 0, none⟩ (.int .i64 0)).setCell ⟨w.heap.size + 1, 0, none⟩ (.int .i64 0)) := (hB1.setCell (by simp) _).setCell (by simp) _
    generalize ((w1.setCell ⟨w.heap.size, 0, none⟩ (.int .i64 0)).setCell ⟨w.heap.size + 1, 0, none⟩ (.int .i64 0)) = wF at d0 d1 hbb ⊢
    simp [Leaves, settle, results, Try.results26, go_sem, d0, d1]
    exact ⟨0, rfl, fun _ => HOK.out, hbb⟩
  · unfold gaveW
    go_wp2_with fail
    refine leaves_cons (f := 37) (args := #[.pointer (some ⟨w.heap.size, 0, none⟩), .pointer (some ⟨w.heap.size + 1, 0, none⟩)]) (by simp) (by simp [go_sem]) ?_
    refine (catch_gave w.heap.size 0 0 _ _ [] _ (by omega) p0 p1 y0 y1).mono ?_
    rintro e u' w2 ⟨rfl, rfl, d0, d1, hb2⟩
    have hbb : Below w.heap.size w w2 := hB1.trans hb2
    simp [Leaves, settle, results, Try.results26, go_sem, d0, d1]
    exact ⟨why, rfl, fun h => absurd h hne, hbb⟩

set_option maxHeartbeats 1000000 in
set_option maxRecDepth 100000 in
theorem scopeCheck_any (K kf : Nat) (m : Int) (ga : Option Addr) (gn gc : Nat) (sa : Option Addr) (sn sc : Nat) (ya : Option Addr) (yn yc : Nat) (oa : Option Addr) (on oc : Nat) (va : Option Addr) (vn vc : Nat) (fa : Option Addr) (fn fc : Nat) (ba : Option Addr) (bn bc : Nat) (gs : List (Int × Int)) (sp : List Int) (ls ms : List Lab) (vs : List (Bool × Lab)) (fs : List FnD) (l : List D) (w : World) (h : ProgAt K kf m ga gn gc sa sn sc ya yn yc oa on oc va vn vc fa fn fc ba bn bc gs sp ls ms vs fs l w) :
    Calls Try.prog 16 #[.agg #[.int .i64 m, .slice ga gn gc, .slice sa sn sc, .slice ya yn yc, .slice oa on oc, .slice va vn vc, .slice fa fn fc, .slice ba bn bc]] w (Said (okP K kf vn yn fs l) w fun why => .int .i64 why) := by
  have hbel : Below w.heap.size w ((w.alloc (.cells #[.int .i64 m, .slice ga gn gc, .slice sa sn sc, .slice ya yn yc, .slice oa on oc, .slice va vn vc, .slice fa fn fc, .slice ba bn bc] 31)).alloc (.cells #[.int .i64 m, .slice ga gn gc, .slice sa sn sc, .slice ya yn yc, .slice oa on oc, .slice va vn vc, .slice fa fn fc, .slice ba bn bc] 75)) := ((Below.refl _ w).alloc (Nat.le_refl _) _).alloc (by simp) _
  have K := hide (caught_any K kf m ga gn gc sa sn sc ya yn yc oa on oc va vn vc fa fn fc ba bn bc gs sp ls ms vs fs l _ (h.over hbel))
  clear h
  go_enter Try.func16, Try.ntmps16
  go_wp2_with fail
  refine (K.out).mono ?_
  rintro e w1 ⟨why, rfl, hok, hb1⟩
  have hB1 := hbel.trans (hb1.mono hbel.size)
  have HOK := hide hok
  clear hbel hb1 K hok
  go_wp2_with fail
  go_ret
  exact ⟨why, rfl, HOK.out, hB1⟩
end Go.Proofs.Ytpbnmmgocpobcaa.Ex
