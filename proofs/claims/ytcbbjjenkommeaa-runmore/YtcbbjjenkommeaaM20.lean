/- The law RunTakes, at any program. -/
import Derived.Test.YtcbbjjenkommeaaM19
import Derived.SizedLaws
namespace Go.Proofs.Ytcbbjjenkommeaa.Ex
open Go.RowKit
set_option linter.unusedVariables false
theorem runX_takes (K kf : Nat) (fs : List FnD) (F : Nat) (ins ins' : List (List Int)) (ob : Ob) (l : List D) (vn yn : Nat) (o : WSt) (h1 : ins.length = yn) (h2 : ins'.length = yn) (hA : Agree ins ins' (runX K kf fs F ins ob l vn yn o).taken) : runX K kf fs F ins' ob l vn yn o = runX K kf fs F ins ob l vn yn o := by
  unfold runX
  refine congrArg finX (rn_takes K kf fs F ins ins' ob yn h1 h2 6001 0 kf l _ 0 (st0 vn yn o) ⟨by simp [st0], fun c => ?_⟩ ?_)
  · simp only [st0, List.getD_eq_getElem?_getD]
    cases hc : (List.replicate yn (0 : Int))[c]? with
    | none => simp
    | some x => have := List.eq_of_mem_replicate (List.mem_of_getElem? hc); simp [this]
  · unfold runX finX at hA
    split at hA
    · exact hA
    · exact hA

/-- lists of numbers, with the room that they have. -/
def CListsAt (w : World) (v : Value) (ls : List (List Int)) : Prop :=
  ls.length ≤ maxLen ∧ ∃ ao cap, v = .slice ao ls.length cap ∧ (ls ≠ [] → ∃ b off, ao = some ⟨b, off, none⟩ ∧ ∀ i (h : i < ls.length), ∃ ua uc, w.cell? ⟨b, off + i, none⟩ = some (.slice ua ls[i].length uc) ∧ IsInts w (.slice ua ls[i].length uc) ls[i] ∧ ls[i].length ≤ uc ∧ uc ≤ maxLen ∧ (ua = none → uc = 0))
theorem CListsAt.lists {w : World} {v : Value} {ls : List (List Int)} (h : CListsAt w v ls) : ListsAt w v ls := by
  obtain ⟨hm, ao, cap, hv, hc⟩ := h
  refine ⟨hm, ao, cap, hv, fun hne => ?_⟩
  obtain ⟨b, off, hao, hel⟩ := hc hne
  refine ⟨b, off, hao, fun i hi => ?_⟩
  obtain ⟨ua, uc, h0, h1, h2, h3, -⟩ := hel i hi
  exact ⟨_, h0, h1, by unfold maxLen at h3; omega⟩

set_option maxHeartbeats 4000000 in
set_option maxRecDepth 100000 in
theorem runTakes_any (K kf : Nat) (m : Int) (ga : Option Addr) (gn gc : Nat) (sa : Option Addr) (sn sc : Nat) (ya : Option Addr) (yn yc : Nat) (oa : Option Addr) (on oc : Nat) (va : Option Addr) (vn vc : Nat) (fa : Option Addr) (fn fc : Nat) (ba : Option Addr) (bn bc : Nat) (xa : Option Addr) (xn xc : Nat) (ins : List (List Int)) (qa : Option Addr) (qn qc : Nat) (others : List (List Int)) (fuel : Int) (gs : List (Int × Int)) (sp : List Int) (ls ms : List Lab) (vs : List (Bool × Lab)) (fs : List FnD) (l : List D) (w : World) (h : ProgAt K kf m ga gn gc sa sn sc ya yn yc oa on oc va vn vc fa fn fc ba bn bc gs sp ls ms vs fs l w) (hx : CListsAt w (.slice xa xn xc) ins) (hq : CListsAt w (.slice qa qn qc) others) (hqs : ∀ x ∈ others, x.length * 8 ≤ 140737488351232) :
    Calls Try.prog 5 #[.agg #[.int .i64 m, .slice ga gn gc, .slice sa sn sc, .slice ya yn yc, .slice oa on oc, .slice va vn vc, .slice fa fn fc, .slice ba bn bc], .slice xa xn xc, .slice qa qn qc, .int .i64 fuel] w fun e w' => e = .returned (.bool true) ∧ Below w.heap.size w w' := by
  have KB := hide begun_any
  have KR := hide fun W (hP : ProgAt K kf m ga gn gc sa sn sc ya yn yc oa on oc va vn vc fa fn fc ba bn bc gs sp ls ms vs fs l W) (ya2 : Option Addr) (yn2 yc2 : Nat) (is : List (List Int)) (hX : ListsAt W (.slice ya2 yn2 yc2) is) => Run_any K kf m ga gn gc sa sn sc ya yn yc oa on oc va vn vc fa fn fc ba bn bc ya2 yn2 yc2 is fuel gs sp ls ms vs fs l W hP hX
  have H0 := hide h
  have HX0 := hide hx
  have HQ0 := hide hq
  have hbel : Below w.heap.size w (w.alloc (.cells #[.int .i64 m, .slice ga gn gc, .slice sa sn sc, .slice ya yn yc, .slice oa on oc, .slice va vn vc, .slice fa fn fc, .slice ba bn bc] 41)) := (Below.refl _ w).alloc (Nat.le_refl _) _
  have c0 : (w.alloc (.cells #[.int .i64 m, .slice ga gn gc, .slice sa sn sc, .slice ya yn yc, .slice oa on oc, .slice va vn vc, .slice fa fn fc, .slice ba bn bc] 41)).cell? ⟨w.heap.size, 0, none⟩ = some (.int .i64 m) := by simp [go_sem]
  have c1 : (w.alloc (.cells #[.int .i64 m, .slice ga gn gc, .slice sa sn sc, .slice ya yn yc, .slice oa on oc, .slice va vn vc, .slice fa fn fc, .slice ba bn bc] 41)).cell? ⟨w.heap.size, 1, none⟩ = some (.slice ga gn gc) := by simp [go_sem]
  have c2 : (w.alloc (.cells #[.int .i64 m, .slice ga gn gc, .slice sa sn sc, .slice ya yn yc, .slice oa on oc, .slice va vn vc, .slice fa fn fc, .slice ba bn bc] 41)).cell? ⟨w.heap.size, 2, none⟩ = some (.slice sa sn sc) := by simp [go_sem]
  have c3 : (w.alloc (.cells #[.int .i64 m, .slice ga gn gc, .slice sa sn sc, .slice ya yn yc, .slice oa on oc, .slice va vn vc, .slice fa fn fc, .slice ba bn bc] 41)).cell? ⟨w.heap.size, 3, none⟩ = some (.slice ya yn yc) := by simp [go_sem]
  have c4 : (w.alloc (.cells #[.int .i64 m, .slice ga gn gc, .slice sa sn sc, .slice ya yn yc, .slice oa on oc, .slice va vn vc, .slice fa fn fc, .slice ba bn bc] 41)).cell? ⟨w.heap.size, 4, none⟩ = some (.slice oa on oc) := by simp [go_sem]
  have c5 : (w.alloc (.cells #[.int .i64 m, .slice ga gn gc, .slice sa sn sc, .slice ya yn yc, .slice oa on oc, .slice va vn vc, .slice fa fn fc, .slice ba bn bc] 41)).cell? ⟨w.heap.size, 5, none⟩ = some (.slice va vn vc) := by simp [go_sem]
  have c6 : (w.alloc (.cells #[.int .i64 m, .slice ga gn gc, .slice sa sn sc, .slice ya yn yc, .slice oa on oc, .slice va vn vc, .slice fa fn fc, .slice ba bn bc] 41)).cell? ⟨w.heap.size, 6, none⟩ = some (.slice fa fn fc) := by simp [go_sem]
  have c7 : (w.alloc (.cells #[.int .i64 m, .slice ga gn gc, .slice sa sn sc, .slice ya yn yc, .slice oa on oc, .slice va vn vc, .slice fa fn fc, .slice ba bn bc] 41)).cell? ⟨w.heap.size, 7, none⟩ = some (.slice ba bn bc) := by simp [go_sem]
  clear h hx hq
  go_enter Try.func5, Try.ntmps5
  go_wp2_with fail
  refine (KR.out _ (H0.out.over hbel) _ _ _ _ (HX0.out.lists.over hbel)).mono ?_
  rintro e w1 h1
  obtain ⟨ea, el, ec, va1, vl1, vc1, ta1, tl1, tc1, s1, en1, tp1, why1, rfl, hb1, hq1, hq2, -⟩ := runU h1
  have d0 := cell_over hb1 _ _ c0
  have d1 := cell_over hb1 _ _ c1
  have d2 := cell_over hb1 _ _ c2
  have d3 := cell_over hb1 _ _ c3
  have d4 := cell_over hb1 _ _ c4
  have d5 := cell_over hb1 _ _ c5
  have d6 := cell_over hb1 _ _ c6
  have d7 := cell_over hb1 _ _ c7
  have hB1 := hbel.trans (hb1.mono hbel.size)
  have HQ1 := hide hq1
  have HQ2 := hide hq2
  have hba := (Below.refl _ w1).alloc (Nat.le_refl _) (.cells #[.slice ea el ec, .slice va1 vl1 vc1, .slice ta1 tl1 tc1, .int .i64 s1, .int .i64 en1, .int .i64 tp1] 45)
  have hB1a := hB1.trans (hba.mono hB1.size)
  have f0 := cell_over hba _ _ d0
  have f1 := cell_over hba _ _ d1
  have f2 := cell_over hba _ _ d2
  have f3 := cell_over hba _ _ d3
  have f4 := cell_over hba _ _ d4
  have f5 := cell_over hba _ _ d5
  have f6 := cell_over hba _ _ d6
  have f7 := cell_over hba _ _ d7
  have g0 : (w1.alloc (.cells #[.slice ea el ec, .slice va1 vl1 vc1, .slice ta1 tl1 tc1, .int .i64 s1, .int .i64 en1, .int .i64 tp1] 45)).cell? ⟨w1.heap.size, 0, none⟩ = some (.slice ea el ec) := by simp [go_sem]
  have g1 : (w1.alloc (.cells #[.slice ea el ec, .slice va1 vl1 vc1, .slice ta1 tl1 tc1, .int .i64 s1, .int .i64 en1, .int .i64 tp1] 45)).cell? ⟨w1.heap.size, 1, none⟩ = some (.slice va1 vl1 vc1) := by simp [go_sem]
  have g2 : (w1.alloc (.cells #[.slice ea el ec, .slice va1 vl1 vc1, .slice ta1 tl1 tc1, .int .i64 s1, .int .i64 en1, .int .i64 tp1] 45)).cell? ⟨w1.heap.size, 2, none⟩ = some (.slice ta1 tl1 tc1) := by simp [go_sem]
  have g3 : (w1.alloc (.cells #[.slice ea el ec, .slice va1 vl1 vc1, .slice ta1 tl1 tc1, .int .i64 s1, .int .i64 en1, .int .i64 tp1] 45)).cell? ⟨w1.heap.size, 3, none⟩ = some (.int .i64 s1) := by simp [go_sem]
  have g4 : (w1.alloc (.cells #[.slice ea el ec, .slice va1 vl1 vc1, .slice ta1 tl1 tc1, .int .i64 s1, .int .i64 en1, .int .i64 tp1] 45)).cell? ⟨w1.heap.size, 4, none⟩ = some (.int .i64 en1) := by simp [go_sem]
  have g5 : (w1.alloc (.cells #[.slice ea el ec, .slice va1 vl1 vc1, .slice ta1 tl1 tc1, .int .i64 s1, .int .i64 en1, .int .i64 tp1] 45)).cell? ⟨w1.heap.size, 5, none⟩ = some (.int .i64 tp1) := by simp [go_sem]
  clear h1 hq1 hq2 c0 c1 c2 c3 c4 c5 c6 c7 d0 d1 d2 d3 d4 d5 d6 d7 hb1
  go_wp2_with fail
  refine (KB.out _).mono ?_
  rintro e w3 ⟨rfl, hb3⟩
  have hB3 := hB1a.trans (hb3.mono hB1a.size)
  have HB3 := hide hb3
  have x0 := cell_over hb3 _ _ g0
  have x1 := cell_over hb3 _ _ g1
  have x2 := cell_over hb3 _ _ g2
  have x3 := cell_over hb3 _ _ g3
  have x4 := cell_over hb3 _ _ g4
  have x5 := cell_over hb3 _ _ g5
  have y0 := cell_over hb3 _ _ f0
  have y1 := cell_over hb3 _ _ f1
  have y2 := cell_over hb3 _ _ f2
  have y3 := cell_over hb3 _ _ f3
  have y4 := cell_over hb3 _ _ f4
  have y5 := cell_over hb3 _ _ f5
  have y6 := cell_over hb3 _ _ f6
  have y7 := cell_over hb3 _ _ f7
  have HB13 := hide (over_trans hba hb3)
  clear g0 g1 g2 g3 g4 g5 f0 f1 f2 f3 f4 f5 f6 f7 hb3 KB hB1a hba hbel
  by_cases z1 : why1 = 0
  rotate_left
  · have zb : (why1 == 0) = false := by simpa using z1
    obtain ⟨q1, q2, q3⟩ := HQ2.out z1
    subst q1 q2 q3
    go_wp2_with fail
    go_ret
    exact ⟨rfl, hB3⟩
  subst z1
  obtain ⟨hok1, b1, b2, hr1, he1, ⟨hv1, hv1b, hv1c⟩, ⟨ht1, ht1b, ht1c⟩, hs1, hen1, htp1⟩ := HQ1.out rfl
  subst hv1 hv1b hv1c ht1 ht1b ht1c
  obtain ⟨F, hF⟩ := Int.eq_ofNat_of_zero_le hok1.f0
  subst hF
  simp only [Int.toNat_natCast] at hr1 he1 hs1 hen1 htp1
  have hr3 := hr1.over HB13.out
  have hxn : xn = ins.length := by obtain ⟨-, a, c, he, -⟩ := HX0.out; injection he
  have hxy : ins.length = yn := hok1.many
  have hy5 : yn ≤ 5 := hok1.prog.ok.ins
  have hf1 := hok1.f1
  obtain ⟨RX1, hRX⟩ : ∃ q, q = runX K kf fs F ins obAll l vn yn o0 := ⟨_, rfl⟩
  have hT := rowInts hr3.taken
  rw [hr3.num.tl] at hT
  have htl : RX1.taken.length = yn := by rw [hRX]; exact hr3.num.tl
  have htk : ∀ x ∈ RX1.taken, 0 ≤ x ∧ x ≤ 2000 := by
    rw [hRX]
    intro x hx
    have h1 := hr3.num.tk x hx
    have h2 : (runX K kf fs F ins obAll l vn yn o0).steps ≤ F := hr3.num.sb
    omega
  rw [← hRX] at hr3 hT he1 hs1 hen1 htp1
  have HTP1 := hide htp1
  have HR3 := hide hr3
  have HT := hide hT
  have HTL := hide htl
  have HTK := hide htk
  have HOK := hide hok1
  have HRX := hide hRX
  have HE1 := hide he1
  have HS1 := hide hs1
  have HEN1 := hide hen1
  have HXY := hide hxy
  have HXN := hide hxn
  have hqn : qn = others.length := by obtain ⟨-, a, c, he, -⟩ := HQ0.out; injection he
  have HQN := hide hqn
  have hql : qn ≤ 9223372036854775807 := by rw [hqn]; exact HQ0.out.1
  have hx5 : xn ≤ 5 := by omega
  obtain ⟨i0, hi, hz0, hz1, hz2⟩ := info_parts Try.infoS
  have HST : Hid (MixAt w3.heap.size ins RX1.taken (.slice none 0 0) 0 [] [] w3) := ⟨World.ownsRow_nil _ _ _ _, rfl, fun i h => by simp at h⟩
  clear hok1 hr1 hr3 hT htl htk hRX he1 hs1 hen1 htp1 hxy hxn hqn HQ1 HQ2 HB13 hf1 HB3
  go_wp2_with fail
  go_loopw [11, 12] (fun mv i wr => ∃ (j : Nat) (us : List Value) (ml : List (List Int)), i = .int .i64 j ∧ j ≤ xn ∧ MixAt w3.heap.size ins RX1.taken mv j us ml wr ∧ Below w3.heap.size w3 wr) (fun _ i _ => xn - (intOf i).toNat)
  case atStart => exact ⟨0, [], [], rfl, Nat.zero_le _, HST.out, Below.refl _ _⟩
  case round =>
    clear HST
    obtain ⟨j, us, ml, rfl, hj, hM, hB⟩ := hrel
    have HM := hide hM
    have HB := hide hB
    have c2 := cell_over hB _ _ x2
    by_cases hjl : j < xn
    · have hjd : j < ins.length := by rw [← HXN.out]; exact hjl
      have hjt : j < RX1.taken.length := by have := HTL.out; have := HXY.out; omega
      obtain ⟨ta', tc', hte, htel⟩ := HT.out
      injection hte with q1 q2 q3
      obtain ⟨tb, toff, htb, htel2⟩ := htel (by intro hz; rw [hz] at hjt; simp at hjt)
      have t0 := cell_over hB _ _ (htel2 j hjt)
      have q1' := q1.trans htb
      injection q1' with q1'
      injection q1' with q4 q5 q6
      subst q4 q5
      rw [Nat.zero_add] at t0
      have htk := HTK.out _ (List.getElem_mem hjt)
      have hgd : RX1.taken.getD j 0 = RX1.taken[j] := by simp [hjt]
      obtain ⟨tz, htz⟩ : ∃ q, q = RX1.taken[j] := ⟨_, rfl⟩
      rw [← htz] at t0 htk hgd
      obtain ⟨ht0, ht2⟩ := htk
      obtain ⟨tn, htn⟩ := Int.eq_ofNat_of_zero_le ht0
      subst htn
      have hwB : Below w.heap.size w wr := hB3.trans (hB.mono hB3.size)
      obtain ⟨-, xo, xcap, hxe, hxel⟩ := HX0.out
      injection hxe with e1 e2 e3
      obtain ⟨xb, xoff, hxb, hxel2⟩ := hxel (by intro hz; rw [hz] at hjd; simp at hjd)
      have e1' := e1.trans hxb
      subst e1'
      obtain ⟨la, lc, lv0, lin, hlc, hlm, hln⟩ := hxel2 j hjd
      have lv := cell_over hwB _ _ lv0
      have hinW := lin.over hwB
      have hlb : ins[j] ≠ [] → ∀ k, (Value.slice la ins[j].length lc).ownBlock = some k → k < w.heap.size := fun hz k hk => by
        obtain ⟨a', c', he', hel'⟩ := lin
        injection he' with f1 f2 f3
        obtain ⟨lb, lo, hlb, hlel⟩ := hel' hz
        have f1' := f1.trans hlb
        subst f1'
        have hp : 0 < ins[j].length := List.length_pos_iff.2 hz
        have := World.block_lt_of_cell? w _ (hlel 0 hp)
        simp [Value.ownBlock] at hk
        subst hk
        exact this
      have hmb : ∀ k, k < w3.heap.size → ∀ mv0 : Value, wr.ownsRow w3.heap.size 25 1 mv0 j us → mv0.ownBlock ≠ some k := fun k hk mv0 ho hx => by have := (ho.lt k hx).1; omega
      have hwl : w.heap.size ≤ w3.heap.size := hB3.size
      have hwr : w3.heap.size ≤ wr.heap.size := hB.size
      have hneI : ins[j] ≠ [] → ∀ k, (Value.slice la ins[j].length lc).ownBlock = some k → u11.ownBlock ≠ some k ∧ k < wr.heap.size := fun hz k hk => by
        have := hlb hz k hk
        exact ⟨hmb k (by omega) u11 hM.own, by omega⟩
      have hlong : ins[j].length ≤ 100 := HOK.out.long _ (List.getElem_mem hjd)
      have hgi : ins.getD j [] = ins[j] := by simp [hjd]
      have hmI : Mix (ins.getD j []) ins[j] (RX1.taken.getD j 0) := by rw [hgi]; exact Mix.refl _ _
      have HGI := hide hgi
      have HGD := hide hgd
      have HLIN := hide lin
      have HINW := hide hinW
      have HNEI := hide hneI
      have HMI := hide hmI
      have hMn : j ≤ 5 := by omega
      have hji : (j : Int) < (xn : Int) := by omega
      have hjy : (j : Int) < (yn : Int) := by have := HXY.out; have := HXN.out; omega
      clear hxel hxel2 e1 e2 e3 hxb lv0 lin hinW hneI hmI hgi hgd htel htel2 htb q1 q2 q3 htz hlb hmb hM
      obtain ⟨I0, hI0⟩ : ∃ q, q = ins[j] := ⟨_, rfl⟩
      rw [← hI0] at lv hlc hlong HGI HLIN HINW HNEI HMI
      clear hI0
      obtain ⟨ll, hll⟩ : ∃ q, q = I0.length := ⟨_, rfl⟩
      rw [← hll] at lv hlc hlong HLIN HINW HNEI
      have HLL := hide hll
      clear hll
      by_cases hc1 : (tn : Int) ≤ (ll : Int)
      rotate_left
      · have hba := (Below.refl _ wr).alloc (Nat.le_refl _) (.cells #[.slice la ll lc] 25)
        have hMa := MixAt.over (HM.out) hba
        have hownM := hMa.own
        have hsM : w3.heap.size ≤ (wr.alloc (.cells #[.slice la ll lc] 25)).heap.size := Nat.le_trans (HB.out).size hba.size
        have HNM := hide (RowAt.newA #[.slice la ll lc] 25 wr)
        have HMA := hide hMa
        have HIN := hide (IsInts.over (HINW.out) hba)
        have HNE := hide (HNEI.out)
        have HLE := hide ((by rw [← HLL.out]; omega : I0.length ≤ 9223372036854775807))
        have HMX := hide (HMI.out)
        have HBA := hide ((HB.out).trans (hba.mono (HB.out).size))
        go_wp2_with (at_builtin; refine wpList_append_own_at _ rfl _ _ 42 rfl w3.heap.size 25 i0 (.slice none 0 0) 1 24 Try.underlying42 hi hz0 hz1 hz2 rfl (by decide) _ _ _ rfl hownM ⟨wr.heap.size, 0, none⟩ 1 1 [.slice la ll lc] rfl rfl (fun jj uu hu => by rw [Addr.add_lit, Nat.zero_add]; exact HNM.out jj uu hu) (by simp [Value.oneCell']) (by unfold maxLen; omega) (by omega) hsM ?_)
        intro mv2 w5 hown5 hgr5 _ hat5
        have HF := hide (MixAt.snoc HMA.out hgr5 (by simpa using hat5) hown5 HIN.out (fun hz k hk => ⟨(HNE.out hz k hk).1, Nat.lt_of_lt_of_le (HNE.out hz k hk).2 hba.size⟩) HLE.out HMX.out)
        have HBF := hide (HBA.out.trans (below_grown hownM hgr5 hsM))
        clear hown5 hgr5 hat5 hownM hMa hba HMA HIN HNE HLE HMX HBA HNM
        go_wp2_with fail
        exact ⟨⟨j + 1, _, _, by go_num, by omega, HF.out, HBF.out⟩, by simp [intOf]; omega⟩
      by_cases hc2 : (j : Int) < (qn : Int)
      rotate_left
      · have hba := (Below.refl _ wr).alloc (Nat.le_refl _) (.cells #[.slice la ll lc] 25)
        have hMa := MixAt.over (HM.out) hba
        have hownM := hMa.own
        have hsM : w3.heap.size ≤ (wr.alloc (.cells #[.slice la ll lc] 25)).heap.size := Nat.le_trans (HB.out).size hba.size
        have HNM := hide (RowAt.newA #[.slice la ll lc] 25 wr)
        have HMA := hide hMa
        have HIN := hide (IsInts.over (HINW.out) hba)
        have HNE := hide (HNEI.out)
        have HLE := hide ((by rw [← HLL.out]; omega : I0.length ≤ 9223372036854775807))
        have HMX := hide (HMI.out)
        have HBA := hide ((HB.out).trans (hba.mono (HB.out).size))
        go_wp2_with (at_builtin; refine wpList_append_own_at _ rfl _ _ 42 rfl w3.heap.size 25 i0 (.slice none 0 0) 1 24 Try.underlying42 hi hz0 hz1 hz2 rfl (by decide) _ _ _ rfl hownM ⟨wr.heap.size, 0, none⟩ 1 1 [.slice la ll lc] rfl rfl (fun jj uu hu => by rw [Addr.add_lit, Nat.zero_add]; exact HNM.out jj uu hu) (by simp [Value.oneCell']) (by unfold maxLen; omega) (by omega) hsM ?_)
        intro mv2 w5 hown5 hgr5 _ hat5
        have HF := hide (MixAt.snoc HMA.out hgr5 (by simpa using hat5) hown5 HIN.out (fun hz k hk => ⟨(HNE.out hz k hk).1, Nat.lt_of_lt_of_le (HNE.out hz k hk).2 hba.size⟩) HLE.out HMX.out)
        have HBF := hide (HBA.out.trans (below_grown hownM hgr5 hsM))
        clear hown5 hgr5 hat5 hownM hMa hba HMA HIN HNE HLE HMX HBA HNM
        go_wp2_with fail
        exact ⟨⟨j + 1, _, _, by go_num, by omega, HF.out, HBF.out⟩, by simp [intOf]; omega⟩
      have hjq : j < others.length := by have := HQN.out; omega
      obtain ⟨-, qo, qcap, hqe, hqel⟩ := HQ0.out
      injection hqe with e1 e2 e3
      obtain ⟨qb, qoff, hqb, hqel2⟩ := hqel (by intro hz; rw [hz] at hjq; simp at hjq)
      have e1' := e1.trans hqb
      subst e1'
      obtain ⟨za, zc, zv0, zin, hzc, hzm, hzn⟩ := hqel2 j hjq
      have zv := cell_over hwB _ _ zv0
      have hqb2 : qb < wr.heap.size := World.block_lt_of_cell? wr _ zv
      have hzs := hqs others[j] (List.getElem_mem hjq)
      obtain ⟨O0, hO0⟩ : ∃ q, q = others[j] := ⟨_, rfl⟩
      rw [← hO0] at zv zin hzc hzs
      have HZIN := hide (zin.over hwB)
      clear hO0 hqel hqel2 e1 e2 e3 hqb zv0 zin
      obtain ⟨zl, hzl⟩ : ∃ q, q = O0.length := ⟨_, rfl⟩
      rw [← hzl] at zv hzc hzs HZIN
      have HZL := hide hzl
      have HZN := hide hzn
      have HLN := hide hln
      clear hzl hzn hln
      have htl3 : tn ≤ I0.length := by have := HLL.out; omega
      have hlc3 : (ll : Int) ≤ (lc : Int) := by omega
      have hlcm : lc ≤ 9223372036854775807 := by unfold maxLen at hlm; omega
      have htc : (tn : Int) ≤ (lc : Int) := by omega
      have hTK : Hid (IsInts wr (.slice la tn lc) (I0.take tn)) := by
        have h1 := HINW.out
        rw [HLL.out] at h1
        exact h1.prefix htl3 lc
      have hTL : (I0.take tn).length = tn := by simp; omega
      have HTL2 := hide hTL
      have hbd : Hid ((0 + (I0.take tn).length + O0.length) * 8 ≤ 140737488355328) := by
        have := HZL.out
        show _ ≤ _
        rw [hTL, ← this]
        omega
      have hown0 : Hid ((wr.drew.alloc (.cells #[] 3)).ownsRow wr.heap.size 3 1 (.slice (some ⟨wr.heap.size, 0, none⟩) 0 0) 0 []) := World.ownsRow_made (base := wr.heap.size) (e := 3) (size := 1) wr.drew #[] 0 (Nat.le_refl _) (by unfold maxLen; omega) rfl
      have HV1 : Hid (∀ k, (Value.slice (some ⟨wr.heap.size, 0, none⟩) 0 0).ownBlock = some k → wr.heap.size ≤ k) := fun k hk => by simp [Value.ownBlock] at hk; omega
      clear hTL
      go_wp2_with fail
      go_region_held3 (fun W => W.cell? ⟨qb, qoff + j, none⟩ = some (.slice za zl zc) ∧ Below wr.heap.size wr W) (first | assumption | exact ⟨zv, below_drewN (Below.refl _ _) 1⟩ | exact keepA (by assumption) | exact keepG (by assumption) hgr2 HV1.out hqb2 | exact keepG (by assumption) hgr3 HV2 hqb2 | fail) (first | (refine step_appS rfl _ _ rfl wr.heap.size (.slice (some ⟨wr.heap.size, 0, none⟩) 0 0) (.slice la tn lc) 0 [] (I0.take tn) rfl rfl hown0.out (hTK.out.over ((below_drewN (Below.refl _ _) 1).alloc (Nat.le_refl _) _)) (fun k c hx => by injection hx with f1 f2 f3; rw [← f3]; exact HLN.out f1) (by have := HTL2.out; omega) (by simp) ?_; intro v2 W2 hown2 hgr2) | (refine step_appS rfl _ _ rfl wr.heap.size v2 (.slice za zl zc) (0 + (I0.take tn).length) ([] ++ intsV (I0.take tn)) O0 rfl rfl hown2 (HZIN.out.over (by assumption : _ ∧ _).2) (fun k c hx => by injection hx with f1 f2 f3; rw [← f3]; exact HZN.out f1) hbd.out (by assumption : _ ∧ Below _ _ _).2.size ?_; intro v3 W3 hown3 hgr3; have HV2 := fun k (hk : v2.ownBlock = some k) => (hown2.lt k hk).1))
      have hB3r := (by assumption : _ ∧ Below wr.heap.size wr W3).2
      obtain ⟨a3, n3, c3, hv3⟩ : ∃ a n c, v3 = .slice a n c := by
        rcases hown3.2 with ⟨h, _⟩ | ⟨g, cap, cur, h, _⟩
        · exact ⟨_, _, _, h⟩
        · exact ⟨_, _, _, h⟩
      subst hv3
      have hl3 : 0 + (I0.take tn).length + O0.length = (I0.take tn ++ O0).length := by simp
      have hown3' : W3.ownsRow wr.heap.size 3 1 (.slice a3 n3 c3) (0 + (I0.take tn).length + O0.length) (intsV (I0.take tn ++ O0)) := by simpa [intsV] using hown3
      have hin3 := own_ints hown3' hl3
      have hne3 : I0.take tn ++ O0 ≠ [] → ∀ k, (Value.slice a3 n3 c3).ownBlock = some k → u11.ownBlock ≠ some k ∧ k < W3.heap.size := fun _ k hk => ⟨fun hx => by have := (HM.out.own.lt k hx).2; have := (hown3'.lt k hk).1; omega, (hown3'.lt k hk).2⟩
      have hlen3 : (I0.take tn ++ O0).length ≤ 9223372036854775807 := by have := hbd.out; omega
      have hmix3 : Mix (ins.getD j []) (I0.take tn ++ O0) (RX1.taken.getD j 0) := by rw [HGI.out, HGD.out]; exact Mix.take I0 O0 tn htl3
      have HM3 := hide (HM.out.over hB3r)
      have HB3r := hide (HB.out.trans (hB3r.mono hwr))
      have HI3 := hide hin3
      have HNE3 := hide hne3
      have HLEN3 := hide hlen3
      have HMIX3 := hide hmix3
      clear hown3 hown3' hgr3 HV2 hown2 hgr2 hin3 hne3 hlen3 hmix3 hB3r hl3 hown0 hTK hbd HV1 zv lv t0 c2
      have hba := (Below.refl _ W3).alloc (Nat.le_refl _) (.cells #[.slice a3 n3 c3] 25)
      have hMa := MixAt.over (HM3.out) hba
      have hownM := hMa.own
      have hsM : w3.heap.size ≤ (W3.alloc (.cells #[.slice a3 n3 c3] 25)).heap.size := Nat.le_trans (HB3r.out).size hba.size
      have HNM := hide (RowAt.newA #[.slice a3 n3 c3] 25 W3)
      have HMA := hide hMa
      have HIN := hide (IsInts.over (HI3.out) hba)
      have HNE := hide (HNE3.out)
      have HLE := hide (HLEN3.out)
      have HMX := hide (HMIX3.out)
      have HBA := hide ((HB3r.out).trans (hba.mono (HB3r.out).size))
      go_wp2_with (at_builtin; refine wpList_append_own_at _ rfl _ _ 42 rfl w3.heap.size 25 i0 (.slice none 0 0) 1 24 Try.underlying42 hi hz0 hz1 hz2 rfl (by decide) _ _ _ rfl hownM ⟨W3.heap.size, 0, none⟩ 1 1 [.slice a3 n3 c3] rfl rfl (fun jj uu hu => by rw [Addr.add_lit, Nat.zero_add]; exact HNM.out jj uu hu) (by simp [Value.oneCell']) (by unfold maxLen; omega) (by omega) hsM ?_)
      intro mv2 w5 hown5 hgr5 _ hat5
      have HF := hide (MixAt.snoc HMA.out hgr5 (by simpa using hat5) hown5 HIN.out (fun hz k hk => ⟨(HNE.out hz k hk).1, Nat.lt_of_lt_of_le (HNE.out hz k hk).2 hba.size⟩) HLE.out HMX.out)
      have HBF := hide (HBA.out.trans (below_grown hownM hgr5 hsM))
      clear hown5 hgr5 hat5 hownM hMa hba HMA HIN HNE HLE HMX HBA HNM
      go_wp2_with fail
      exact ⟨⟨j + 1, _, _, by go_num, by omega, HF.out, HBF.out⟩, by simp [intOf]; omega⟩
    · have hjE : j = xn := by omega
      subst hjE
      have hwB : Below w.heap.size w wr := hB3.trans (hB.mono hB3.size)
      obtain ⟨ma, mn, mc, hmv⟩ : ∃ a n c, u11 = .slice a n c := by
        rcases hM.own.2 with ⟨h, _⟩ | ⟨g, cap, cur, h, _⟩
        · exact ⟨_, _, _, h⟩
        · exact ⟨_, _, _, h⟩
      subst hmv
      have hlists := hM.lists (by unfold maxLen; omega)
      have K2 := hide (KR.out wr (H0.out.over hwB) ma mn mc ml hlists)
      have yy0 := cell_over hB _ _ y0
      have yy1 := cell_over hB _ _ y1
      have yy2 := cell_over hB _ _ y2
      have yy3 := cell_over hB _ _ y3
      have yy4 := cell_over hB _ _ y4
      have yy5 := cell_over hB _ _ y5
      have yy6 := cell_over hB _ _ y6
      have yy7 := cell_over hB _ _ y7
      have hml : ml.length = j := hM.len
      have hagr : Agree ins ml RX1.taken := fun c i hi2 => by
        by_cases hc : c < j
        · obtain ⟨u, -, -, -, -, hmx⟩ := hM.one c (by omega)
          have e : ml.getD c [] = ml[c]'(by omega) := by rw [List.getD_eq_getElem?_getD, List.getElem?_eq_getElem (by omega)]; rfl
          rw [e]
          exact hmx i hi2
        · have e : RX1.taken.getD c 0 = 0 := by rw [List.getD_eq_getElem?_getD, List.getElem?_eq_none (by have := HTL.out; have := HXY.out; have := HXN.out; omega)]; rfl
          rw [e] at hi2
          omega
      have HML := hide hml
      have HAGR := hide hagr
      have hqs0 := cell_over hB _ _ x0
      have hqs1 := cell_over hB _ _ x1
      have hqs3 := cell_over hB _ _ x3
      have hqs4 := cell_over hB _ _ x4
      have hqs5 := cell_over hB _ _ x5
      have HWB := hide hwB
      clear hlists hml hagr hM hB hwB KR HM
      go_wp2_with fail
      refine (K2.out).mono ?_
      rintro e w6 h6
      obtain ⟨fa2, fl2, fc2, va2, vl2, vc2, ta2, tl2, tc2, s2, en2, tp2, why2, rfl, hb6, hq6, -, -⟩ := runU h6
      have hbb := (Below.refl _ w6).alloc (Nat.le_refl _) (.cells #[.slice fa2 fl2 fc2, .slice va2 vl2 vc2, .slice ta2 tl2 tc2, .int .i64 s2, .int .i64 en2, .int .i64 tp2] 45)
      have hB6 := HWB.out.trans (hb6.mono HWB.out.size)
      have hB6b := hB6.trans (hbb.mono hB6.size)
      have HQ6 := hide hq6
      have HB36 := hide (over_trans (over_trans HB.out hb6) hbb)
      have HBB := hide hbb
      have v0 := cell_over hbb _ _ (cell_over hb6 _ _ hqs0)
      have v1 := cell_over hbb _ _ (cell_over hb6 _ _ hqs1)
      have v2 := cell_over hbb _ _ (cell_over hb6 _ _ c2)
      have v3 := cell_over hbb _ _ (cell_over hb6 _ _ hqs3)
      have v4 := cell_over hbb _ _ (cell_over hb6 _ _ hqs4)
      have v5 := cell_over hbb _ _ (cell_over hb6 _ _ hqs5)
      have u0 : (w6.alloc (.cells #[.slice fa2 fl2 fc2, .slice va2 vl2 vc2, .slice ta2 tl2 tc2, .int .i64 s2, .int .i64 en2, .int .i64 tp2] 45)).cell? ⟨w6.heap.size, 0, none⟩ = some (.slice fa2 fl2 fc2) := by simp [go_sem]
      have u1 : (w6.alloc (.cells #[.slice fa2 fl2 fc2, .slice va2 vl2 vc2, .slice ta2 tl2 tc2, .int .i64 s2, .int .i64 en2, .int .i64 tp2] 45)).cell? ⟨w6.heap.size, 1, none⟩ = some (.slice va2 vl2 vc2) := by simp [go_sem]
      have u2 : (w6.alloc (.cells #[.slice fa2 fl2 fc2, .slice va2 vl2 vc2, .slice ta2 tl2 tc2, .int .i64 s2, .int .i64 en2, .int .i64 tp2] 45)).cell? ⟨w6.heap.size, 2, none⟩ = some (.slice ta2 tl2 tc2) := by simp [go_sem]
      have u3 : (w6.alloc (.cells #[.slice fa2 fl2 fc2, .slice va2 vl2 vc2, .slice ta2 tl2 tc2, .int .i64 s2, .int .i64 en2, .int .i64 tp2] 45)).cell? ⟨w6.heap.size, 3, none⟩ = some (.int .i64 s2) := by simp [go_sem]
      have u4 : (w6.alloc (.cells #[.slice fa2 fl2 fc2, .slice va2 vl2 vc2, .slice ta2 tl2 tc2, .int .i64 s2, .int .i64 en2, .int .i64 tp2] 45)).cell? ⟨w6.heap.size, 4, none⟩ = some (.int .i64 en2) := by simp [go_sem]
      have u5 : (w6.alloc (.cells #[.slice fa2 fl2 fc2, .slice va2 vl2 vc2, .slice ta2 tl2 tc2, .int .i64 s2, .int .i64 en2, .int .i64 tp2] 45)).cell? ⟨w6.heap.size, 5, none⟩ = some (.int .i64 tp2) := by simp [go_sem]
      clear h6 hq6 hb6 hbb K2 hqs0 hqs1 hqs3 hqs4 hqs5 c2 x0 x1 x2 x3 x4 x5 yy0 y0 yy1 y1 yy2 y2 yy3 y3 yy4 y4 yy5 y5 yy6 y6 yy7 y7
      by_cases z2 : why2 = 0
      rotate_left
      · have zb : (why2 == 0) = false := by simpa using z2
        go_wp2_with fail
        go_ret
        exact ⟨rfl, hB6b⟩
      subst z2
      obtain ⟨hok2, c1, c2', hr2, he2, ⟨hv2, hv2b, hv2c⟩, ⟨ht2, ht2b, ht2c⟩, hs2, hen2, htp2⟩ := HQ6.out rfl
      simp only [Int.toNat_natCast] at hr2 he2 hs2 hen2 htp2
      have hsame : runX K kf fs F ml obAll l vn yn o0 = RX1 := by
        have hA := HAGR.out
        rw [HRX.out] at hA ⊢
        exact runX_takes K kf fs F ins ml obAll l vn yn o0 HXY.out (by have := HML.out; have := HXY.out; have := HXN.out; omega) hA
      rw [hsame] at hr2 he2 hs2 hen2 htp2
      have hr2' := hr2.over HBB.out
      have hr1' := HR3.out.over HB36.out
      have hE1 := HE1.out
      have hS1 := HS1.out
      have hN1 := HEN1.out
      have hTP1 := HTP1.out
      subst hv2 hv2b hv2c ht2 ht2b ht2c he2 hs2 hen2 htp2 hE1 hS1 hN1 hTP1
      have hlen : RX1.ev.length ≤ 2000 := by have h1 := hr1'.num.el; have h2 : RX1.steps ≤ F := hr1'.num.sb; have := HOK.out.f1; omega
      have KS := hide (sameRun_eq _ _ _ _ vn yn RX1 _ _ b1 b2 c1 c2' _ hr1' hr2' (by have := HOK.out.prog.ok.vars; omega) (by omega) hlen)
      unfold runV at KS
      obtain ⟨N, hN⟩ : ∃ q, q = RX1.ev.length := ⟨_, rfl⟩
      obtain ⟨ss, hss⟩ : ∃ q, q = (RX1.steps : Int) := ⟨_, rfl⟩
      obtain ⟨ee, hee⟩ : ∃ q, q = RX1.en := ⟨_, rfl⟩
      obtain ⟨tt, htt⟩ : ∃ q, q = RX1.sp := ⟨_, rfl⟩
      rw [← hN, ← hss, ← hee, ← htt] at KS v0 v1 v2 v3 v4 v5 u0 u1 u2 u3 u4 u5 hB6b ⊢
      clear hr2 hr2' hr1' hsame hlen hN hss hee htt HR3 HT HTL HTK HRX HE1 HS1 HEN1 HQ6 HB36 HBB
      go_wp2_with fail
      refine (KS.out).mono ?_
      rintro e w7 ⟨rfl, hb7⟩
      have hB7 := hB6b.trans (hb7.mono hB6b.size)
      go_wp2_with fail
      go_ret
      exact ⟨by first | rfl | simp, hB7⟩
end Go.Proofs.Ytcbbjjenkommeaa.Ex
namespace Go.Proofs.Ytcbbjjenkommeaa.Ex
open Go.RowKit Go.ChangeShapes Go.WideShapes
set_option linter.unusedVariables false
section
variable {H : Type} {enc : TypeId × Value → H} {W : World}

theorem Try.bytes3 : Try.prog.bytesOf 3 = 8 := by kernel_rfl

theorem weightsAll_mem {P : Program} {e : TypeId} : ∀ {l : List (DataW H)} {d : DataW H}, d ∈ l → ∀ n ∈ d.weights P e, n ∈ DataW.weightsAll P e l
  | a :: l, d, h, n, hn => by
    simp only [DataW.weightsAll, List.mem_append]
    rcases List.mem_cons.1 h with rfl | h
    · exact Or.inl hn
    · exact Or.inr (weightsAll_mem h n hn)

theorem listsC {v : Value} {l : List (List Int)} (hl : LAt 1 (fun cs x => ∃ u, cs = [u] ∧ LAt 1 (fun cs x => cs = [.int .i64 x]) W u x) W v l) : CListsAt W v l := by
  obtain ⟨hm, ao, cap, hv, -, -, -, hc⟩ := hl
  refine ⟨hm, ao, cap, hv, fun hne => ?_⟩
  obtain ⟨b, off, hb, hel⟩ := hc hne
  refine ⟨b, off, hb, fun i hi => ?_⟩
  obtain ⟨cs, -, hcs, u, rfl, hu⟩ := hel i l[i] (List.getElem?_eq_getElem hi)
  have hin := intsOf hu
  obtain ⟨-, ua, uc, rfl, h1, h2, h3, -⟩ := hu
  exact ⟨ua, uc, by have := hcs 0 _ rfl; simpa using this, hin, h1, h2, h3⟩

set_option maxRecDepth 100000 in
theorem lists_small {fuel : Nat} {v : Value} {x : DataW H × List MemPlace} (h : DataW.trod enc Try.prog W 0 (fun _ => true) true fuel 42 [v] = some x) (hw : ∀ n ∈ x.1.weights Try.prog 42, n ≤ reachBytes) {l : List (List Int)} (hl : CListsAt W v l) : ∀ y ∈ l, y.length * 8 ≤ 140737488351232 := by
  intro y hy
  obtain ⟨i, hi⟩ := List.mem_iff_getElem?.1 hy
  have hil := (List.getElem?_eq_some_iff.1 hi).1
  obtain ⟨-, ao, cap, hv, hc⟩ := hl
  obtain ⟨b, off, hb, hel⟩ := hc (by intro hz; rw [hz] at hil; simp at hil)
  obtain ⟨ua, uc, hcell, hin, -⟩ := hel i hil
  have hyi : l[i] = y := (List.getElem?_eq_some_iff.1 hi).2
  rw [hyi] at hcell hin
  subst hb
  subst hv
  rcases DataW.trod_slice Try.underlying42 h with ⟨hcs, -⟩ | ⟨ad, len, cap', elems, rest, m, rfl, hcs, rfl, -, hlc, hcm, hen, hat, -, -⟩
  · simp at hcs
  · simp only [List.cons.injEq, Value.slice.injEq, and_true, Option.some.injEq] at hcs
    obtain ⟨rfl, hlen, rfl⟩ := hcs
    rw [Try.cells25] at hat
    have hi2 := hat i (by omega)
    rw [List.getElem?_eq_getElem (by omega), Option.bind_eq_some_iff] at hi2
    obtain ⟨cs, hcc, ht⟩ := hi2
    obtain ⟨-, hl1, hcl⟩ := World.cells?_some hcc
    have h0 := hcl 0 (by omega)
    have hlen1 : cs.length = 1 := hl1
    match cs, hlen1 with
    | [u], _ =>
      simp only [Nat.mul_one, Addr.add_lit, Nat.add_zero, List.getElem?_cons_zero] at h0
      rw [hcell] at h0
      have hu := Option.some.inj h0
      subst hu
      have hwe : ∀ n ∈ (elems[i]'(by omega)).1.weights Try.prog 25, n ≤ reachBytes := fun n hn => hw n (by
        simp only [DataW.weights, Try.underlying42]
        refine List.mem_cons_of_mem _ (List.mem_append_left _ (weightsAll_mem (List.mem_map_of_mem (List.getElem_mem (by omega : i < elems.length))) n hn)))
      rcases DataW.trod_slice Try.underlying25 ht with ⟨hcs2, -⟩ | ⟨ad2, len2, cap2, es, rs, m2, rfl, hcs2, hx2, -, -, -, hen2, -, -, -⟩
      · simp only [List.cons.injEq, Value.slice.injEq, and_true] at hcs2
        obtain ⟨-, h5, -⟩ := hcs2
        rw [h5]
        omega
      · simp only [List.cons.injEq, Value.slice.injEq, and_true] at hcs2
        obtain ⟨-, h5, -⟩ := hcs2
        have hw0 := hwe (((es.map (·.1)).length + (rs.map (·.1)).length) * Try.prog.bytesOf 3) (by
          rw [hx2]
          simp only [DataW.weights, Try.underlying25]
          exact List.mem_cons_self)
        rw [Try.bytes3] at hw0
        simp only [List.length_map, reachBytes] at hw0
        omega
end
end Go.Proofs.Ytcbbjjenkommeaa.Ex
