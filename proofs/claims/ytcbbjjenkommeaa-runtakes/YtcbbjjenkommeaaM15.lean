/- Loops. -/
import Derived.Test.YtcbbjjenkommeaaM14
namespace Go.Proofs.Ytcbbjjenkommeaa.Ex
open Go.RowKit
set_option linter.unusedVariables false
set_option maxHeartbeats 2000000 in
set_option maxRecDepth 100000 in
theorem stmtR8 (m : Int) (ga : Option Addr) (gn gc : Nat) (sa : Option Addr) (sn sc : Nat) (ya : Option Addr) (yn yc : Nat) (oa : Option Addr) (on oc : Nat) (va : Option Addr) (vn vc : Nat) (fa : Option Addr) (fn fc : Nat) (ba : Option Addr) (bn bc : Nat) (xa : Option Addr) (xn xc : Nat) (F fln c3 : Nat) (B br b1 b2 b3 : Nat) (fl : List Int) {I : ObsI} (dp : Nat) (st : RSt) (ev : Ow) (sv : Int) (so ek ex : Int) (pa : Option Addr) (pl pc : Nat) (aa : Option Addr) (al ac : Nat) (ta : Option Addr) (tl tc : Nat) (ea : Option Addr) (el ec : Nat) (a : Int) (r : Bool × RSt) (w0 w : World) (h : RnG I B [.int .i64 m, .slice ga gn gc, .slice sa sn sc, .slice ya yn yc, .slice oa on oc, .slice va vn vc, .slice fa fn fc, .slice ba bn bc, .slice xa xn xc, .int .i64 (F : Int), .slice (some ⟨b3, 0, none⟩) fln c3] br b1 b2 b3 fl dp st ev w) (hB0 : Below w0.heap.size w0 w)
    (KL : Hid (∀ W, RnG I B [.int .i64 m, .slice ga gn gc, .slice sa sn sc, .slice ya yn yc, .slice oa on oc, .slice va vn vc, .slice fa fn fc, .slice ba bn bc, .slice xa xn xc, .int .i64 (F : Int), .slice (some ⟨b3, 0, none⟩) fln c3] br b1 b2 b3 fl dp st ev W → Below w0.heap.size w0 W → Calls Try.prog 135 #[.pointer (some ⟨br, 0, none⟩), .agg #[.int .i64 8, .int .i64 sv, .int .i64 so, .int .i64 ek, .int .i64 ex, .slice pa pl pc, .slice aa al ac, .slice ta tl tc, .slice ea el ec], .int .i64 a] W (RanR I m ga gn gc sa sn sc ya yn yc oa on oc va vn vc fa fn fc ba bn bc xa xn xc F fln c3 B br b1 b2 b3 fl dp r ev W))) :
    Calls Try.prog 104 #[.pointer (some ⟨br, 0, none⟩), .agg #[.int .i64 8, .int .i64 sv, .int .i64 so, .int .i64 ek, .int .i64 ex, .slice pa pl pc, .slice aa al ac, .slice ta tl tc, .slice ea el ec], .int .i64 a] w (RanR I m ga gn gc sa sn sc ya yn yc oa on oc va vn vc fa fn fc ba bn bc xa xn xc F fln c3 B br b1 b2 b3 fl dp r ev w) := by
  have hbel : Below w.heap.size w (w.alloc (.cells #[.int .i64 8, .int .i64 sv, .int .i64 so, .int .i64 ek, .int .i64 ex, .slice pa pl pc, .slice aa al ac, .slice ta tl tc, .slice ea el ec] 78)) := (Below.refl _ w).alloc (Nat.le_refl _) _
  have HE := hide (KL.out _ (h.over hbel) (hB0.trans (hbel.mono hB0.size)))
  have s0 : (w.alloc (.cells #[.int .i64 8, .int .i64 sv, .int .i64 so, .int .i64 ek, .int .i64 ex, .slice pa pl pc, .slice aa al ac, .slice ta tl tc, .slice ea el ec] 78)).cell? ⟨w.heap.size, 0, none⟩ = some (.int .i64 8) := by simp [go_sem]
  have s1 : (w.alloc (.cells #[.int .i64 8, .int .i64 sv, .int .i64 so, .int .i64 ek, .int .i64 ex, .slice pa pl pc, .slice aa al ac, .slice ta tl tc, .slice ea el ec] 78)).cell? ⟨w.heap.size, 1, none⟩ = some (.int .i64 sv) := by simp [go_sem]
  have s2 : (w.alloc (.cells #[.int .i64 8, .int .i64 sv, .int .i64 so, .int .i64 ek, .int .i64 ex, .slice pa pl pc, .slice aa al ac, .slice ta tl tc, .slice ea el ec] 78)).cell? ⟨w.heap.size, 2, none⟩ = some (.int .i64 so) := by simp [go_sem]
  have s3 : (w.alloc (.cells #[.int .i64 8, .int .i64 sv, .int .i64 so, .int .i64 ek, .int .i64 ex, .slice pa pl pc, .slice aa al ac, .slice ta tl tc, .slice ea el ec] 78)).cell? ⟨w.heap.size, 3, none⟩ = some (.int .i64 ek) := by simp [go_sem]
  have s4 : (w.alloc (.cells #[.int .i64 8, .int .i64 sv, .int .i64 so, .int .i64 ek, .int .i64 ex, .slice pa pl pc, .slice aa al ac, .slice ta tl tc, .slice ea el ec] 78)).cell? ⟨w.heap.size, 4, none⟩ = some (.int .i64 ex) := by simp [go_sem]
  have s5 : (w.alloc (.cells #[.int .i64 8, .int .i64 sv, .int .i64 so, .int .i64 ek, .int .i64 ex, .slice pa pl pc, .slice aa al ac, .slice ta tl tc, .slice ea el ec] 78)).cell? ⟨w.heap.size, 5, none⟩ = some (.slice pa pl pc) := by simp [go_sem]
  have s6 : (w.alloc (.cells #[.int .i64 8, .int .i64 sv, .int .i64 so, .int .i64 ek, .int .i64 ex, .slice pa pl pc, .slice aa al ac, .slice ta tl tc, .slice ea el ec] 78)).cell? ⟨w.heap.size, 6, none⟩ = some (.slice aa al ac) := by simp [go_sem]
  have s7 : (w.alloc (.cells #[.int .i64 8, .int .i64 sv, .int .i64 so, .int .i64 ek, .int .i64 ex, .slice pa pl pc, .slice aa al ac, .slice ta tl tc, .slice ea el ec] 78)).cell? ⟨w.heap.size, 7, none⟩ = some (.slice ta tl tc) := by simp [go_sem]
  have s8 : (w.alloc (.cells #[.int .i64 8, .int .i64 sv, .int .i64 so, .int .i64 ek, .int .i64 ex, .slice pa pl pc, .slice aa al ac, .slice ta tl tc, .slice ea el ec] 78)).cell? ⟨w.heap.size, 8, none⟩ = some (.slice ea el ec) := by simp [go_sem]
  clear h hB0 KL
  obtain ⟨r1, r2⟩ := r
  go_enter Try.func104, Try.ntmps104
  go_wp2_with fail
  refine (HE.out).mono ?_
  rintro e wt ⟨he, ⟨ev', hrt, hft⟩, hno⟩
  subst he
  have HF := hide (And.intro hrt ((Fr.of_below (ev := ev) (br := br) (b1 := b1) (b2 := b2) hbel).trans hft))
  have HN := hide hno
  clear hrt hft hno
  go_wp2_with fail
  go_ret
  exact ⟨rfl, ⟨ev', HF.out⟩, HN.out⟩

set_option maxHeartbeats 2000000 in
set_option maxRecDepth 100000 in
theorem stmtR2 (m : Int) (ga : Option Addr) (gn gc : Nat) (sa : Option Addr) (sn sc : Nat) (ya : Option Addr) (yn yc : Nat) (oa : Option Addr) (on oc : Nat) (va : Option Addr) (vn vc : Nat) (fa : Option Addr) (fn fc : Nat) (ba : Option Addr) (bn bc : Nat) (xa : Option Addr) (xn xc : Nat) (F fln c3 : Nat) (B br b1 b2 b3 : Nat) (fl : List Int) {I : ObsI} (dp : Nat) (st : RSt) (ev : Ow) (sv : Int) (so ek ex : Int) (pa : Option Addr) (pl pc : Nat) (aa : Option Addr) (al ac : Nat) (ta : Option Addr) (tl tc : Nat) (ea : Option Addr) (el ec : Nat) (a : Int) (r : Bool × RSt) (w0 w : World) (h : RnG I B [.int .i64 m, .slice ga gn gc, .slice sa sn sc, .slice ya yn yc, .slice oa on oc, .slice va vn vc, .slice fa fn fc, .slice ba bn bc, .slice xa xn xc, .int .i64 (F : Int), .slice (some ⟨b3, 0, none⟩) fln c3] br b1 b2 b3 fl dp st ev w) (hB0 : Below w0.heap.size w0 w)
    (KL : Hid (∀ W, RnG I B [.int .i64 m, .slice ga gn gc, .slice sa sn sc, .slice ya yn yc, .slice oa on oc, .slice va vn vc, .slice fa fn fc, .slice ba bn bc, .slice xa xn xc, .int .i64 (F : Int), .slice (some ⟨b3, 0, none⟩) fln c3] br b1 b2 b3 fl dp st ev W → Below w0.heap.size w0 W → Calls Try.prog 131 #[.pointer (some ⟨br, 0, none⟩), .agg #[.int .i64 2, .int .i64 sv, .int .i64 so, .int .i64 ek, .int .i64 ex, .slice pa pl pc, .slice aa al ac, .slice ta tl tc, .slice ea el ec], .int .i64 a] W (RanR I m ga gn gc sa sn sc ya yn yc oa on oc va vn vc fa fn fc ba bn bc xa xn xc F fln c3 B br b1 b2 b3 fl dp r ev W))) :
    Calls Try.prog 104 #[.pointer (some ⟨br, 0, none⟩), .agg #[.int .i64 2, .int .i64 sv, .int .i64 so, .int .i64 ek, .int .i64 ex, .slice pa pl pc, .slice aa al ac, .slice ta tl tc, .slice ea el ec], .int .i64 a] w (RanR I m ga gn gc sa sn sc ya yn yc oa on oc va vn vc fa fn fc ba bn bc xa xn xc F fln c3 B br b1 b2 b3 fl dp r ev w) := by
  have hbel : Below w.heap.size w (w.alloc (.cells #[.int .i64 2, .int .i64 sv, .int .i64 so, .int .i64 ek, .int .i64 ex, .slice pa pl pc, .slice aa al ac, .slice ta tl tc, .slice ea el ec] 78)) := (Below.refl _ w).alloc (Nat.le_refl _) _
  have HE := hide (KL.out _ (h.over hbel) (hB0.trans (hbel.mono hB0.size)))
  have s0 : (w.alloc (.cells #[.int .i64 2, .int .i64 sv, .int .i64 so, .int .i64 ek, .int .i64 ex, .slice pa pl pc, .slice aa al ac, .slice ta tl tc, .slice ea el ec] 78)).cell? ⟨w.heap.size, 0, none⟩ = some (.int .i64 2) := by simp [go_sem]
  have s1 : (w.alloc (.cells #[.int .i64 2, .int .i64 sv, .int .i64 so, .int .i64 ek, .int .i64 ex, .slice pa pl pc, .slice aa al ac, .slice ta tl tc, .slice ea el ec] 78)).cell? ⟨w.heap.size, 1, none⟩ = some (.int .i64 sv) := by simp [go_sem]
  have s2 : (w.alloc (.cells #[.int .i64 2, .int .i64 sv, .int .i64 so, .int .i64 ek, .int .i64 ex, .slice pa pl pc, .slice aa al ac, .slice ta tl tc, .slice ea el ec] 78)).cell? ⟨w.heap.size, 2, none⟩ = some (.int .i64 so) := by simp [go_sem]
  have s3 : (w.alloc (.cells #[.int .i64 2, .int .i64 sv, .int .i64 so, .int .i64 ek, .int .i64 ex, .slice pa pl pc, .slice aa al ac, .slice ta tl tc, .slice ea el ec] 78)).cell? ⟨w.heap.size, 3, none⟩ = some (.int .i64 ek) := by simp [go_sem]
  have s4 : (w.alloc (.cells #[.int .i64 2, .int .i64 sv, .int .i64 so, .int .i64 ek, .int .i64 ex, .slice pa pl pc, .slice aa al ac, .slice ta tl tc, .slice ea el ec] 78)).cell? ⟨w.heap.size, 4, none⟩ = some (.int .i64 ex) := by simp [go_sem]
  have s5 : (w.alloc (.cells #[.int .i64 2, .int .i64 sv, .int .i64 so, .int .i64 ek, .int .i64 ex, .slice pa pl pc, .slice aa al ac, .slice ta tl tc, .slice ea el ec] 78)).cell? ⟨w.heap.size, 5, none⟩ = some (.slice pa pl pc) := by simp [go_sem]
  have s6 : (w.alloc (.cells #[.int .i64 2, .int .i64 sv, .int .i64 so, .int .i64 ek, .int .i64 ex, .slice pa pl pc, .slice aa al ac, .slice ta tl tc, .slice ea el ec] 78)).cell? ⟨w.heap.size, 6, none⟩ = some (.slice aa al ac) := by simp [go_sem]
  have s7 : (w.alloc (.cells #[.int .i64 2, .int .i64 sv, .int .i64 so, .int .i64 ek, .int .i64 ex, .slice pa pl pc, .slice aa al ac, .slice ta tl tc, .slice ea el ec] 78)).cell? ⟨w.heap.size, 7, none⟩ = some (.slice ta tl tc) := by simp [go_sem]
  have s8 : (w.alloc (.cells #[.int .i64 2, .int .i64 sv, .int .i64 so, .int .i64 ek, .int .i64 ex, .slice pa pl pc, .slice aa al ac, .slice ta tl tc, .slice ea el ec] 78)).cell? ⟨w.heap.size, 8, none⟩ = some (.slice ea el ec) := by simp [go_sem]
  clear h hB0 KL
  obtain ⟨r1, r2⟩ := r
  go_enter Try.func104, Try.ntmps104
  go_wp2_with fail
  refine (HE.out).mono ?_
  rintro e wt ⟨he, ⟨ev', hrt, hft⟩, hno⟩
  subst he
  have HF := hide (And.intro hrt ((Fr.of_below (ev := ev) (br := br) (b1 := b1) (b2 := b2) hbel).trans hft))
  have HN := hide hno
  clear hrt hft hno
  go_wp2_with fail
  go_ret
  exact ⟨rfl, ⟨ev', HF.out⟩, HN.out⟩

def stepsAt (br : Nat) (w : World) : Nat := (intOf ((w.cell? ⟨br, 3, none⟩).getD undef)).toNat

set_option maxHeartbeats 2000000 in
set_option maxRecDepth 100000 in
theorem loopR (m : Int) (ga : Option Addr) (gn gc : Nat) (sa : Option Addr) (sn sc : Nat) (ya : Option Addr) (yn yc : Nat) (oa : Option Addr) (on oc : Nat) (va : Option Addr) (vn vc : Nat) (fa : Option Addr) (fn fc : Nat) (ba : Option Addr) (bn bc : Nat) (xa : Option Addr) (xn xc : Nat) (F fln c3 : Nat) (B br b1 b2 b3 : Nat) (fl : List Int) {I : ObsI} (dp : Nat) (K kf k g : Nat) (fs : List FnD) (ins : List (List Int)) (d : D) (sv : Int) (so ek ex : Int) (pa : Option Addr) (pl pc : Nat) (aa : Option Addr) (al ac : Nat) (ta : Option Addr) (tl tc : Nat) (ea : Option Addr) (el ec : Nat) (a : Int) (w0 : World) (hF : F ≤ 2000) (ha : 0 ≤ a ∧ a ≤ 100)
    (hx : RX w0 K [.int .i64 ek, .int .i64 ex, .slice pa pl pc] (sExpr d)) (ho : okX vn K (sExpr d))
    (HS : Hid (∀ g', g' < g → ∀ st ev W, RnG I B [.int .i64 m, .slice ga gn gc, .slice sa sn sc, .slice ya yn yc, .slice oa on oc, .slice va vn vc, .slice fa fn fc, .slice ba bn bc, .slice xa xn xc, .int .i64 (F : Int), .slice (some ⟨b3, 0, none⟩) fln c3] br b1 b2 b3 fl dp st ev W → I.ok (dp + 1) st.o → Below w0.heap.size w0 W → NumOk vn yn F st → 3 * (F - st.steps) + 1 ≤ g' → Calls Try.prog 134 #[.pointer (some ⟨br, 0, none⟩), .slice ta tl tc, .int .i64 (a + 1)] W (InsR I m ga gn gc sa sn sc ya yn yc oa on oc va vn vc fa fn fc ba bn bc xa xn xc F fln c3 B br b1 b2 b3 fl dp (rn K kf fs F ins I.ob g' 0 (k - 1) (sThen d) (a + 1) (dp + 1) st) ev W)))
    (KP : Hid (∀ st ev W, RnG I B [.int .i64 m, .slice ga gn gc, .slice sa sn sc, .slice ya yn yc, .slice oa on oc, .slice va vn vc, .slice fa fn fc, .slice ba bn bc, .slice xa xn xc, .int .i64 (F : Int), .slice (some ⟨b3, 0, none⟩) fln c3] br b1 b2 b3 fl dp st ev W → I.ok (dp + 1) st.o → Below w0.heap.size w0 W → Calls Try.prog 103 #[.pointer (some ⟨br, 0, none⟩), .int .i64 2, .agg #[.int .i64 8, .int .i64 sv, .int .i64 so, .int .i64 ek, .int .i64 ex, .slice pa pl pc, .slice aa al ac, .slice ta tl tc, .slice ea el ec], .int .i64 a] W (PassP I B [.int .i64 m, .slice ga gn gc, .slice sa sn sc, .slice ya yn yc, .slice oa on oc, .slice va vn vc, .slice fa fn fc, .slice ba bn bc, .slice xa xn xc, .int .i64 (F : Int), .slice (some ⟨b3, 0, none⟩) fln c3] br b1 b2 b3 fl dp 2 d (passR I.ob 2 a dp d st) ev W)))
    (st : RSt) (ev : Ow) (w : World) (hok : I.ok (dp + 1) st.o) (hBB : B = w0.heap.size) (h : RnG I B [.int .i64 m, .slice ga gn gc, .slice sa sn sc, .slice ya yn yc, .slice oa on oc, .slice va vn vc, .slice fa fn fc, .slice ba bn bc, .slice xa xn xc, .int .i64 (F : Int), .slice (some ⟨b3, 0, none⟩) fln c3] br b1 b2 b3 fl dp st ev w) (hB0 : Below w0.heap.size w0 w) (hno : NumOk vn yn F st) (hg : 3 * (F - st.steps) + 2 ≤ g) :
    Calls Try.prog 135 #[.pointer (some ⟨br, 0, none⟩), .agg #[.int .i64 8, .int .i64 sv, .int .i64 so, .int .i64 ek, .int .i64 ex, .slice pa pl pc, .slice aa al ac, .slice ta tl tc, .slice ea el ec], .int .i64 a] w (RanR I m ga gn gc sa sn sc ya yn yc oa on oc va vn vc fa fn fc ba bn bc xa xn xc F fln c3 B br b1 b2 b3 fl dp (rn K kf fs F ins I.ob g 2 k [d] a dp st) ev w) := by
  subst hBB
  have hbel : Below w.heap.size w (w.alloc (.cells #[.int .i64 8, .int .i64 sv, .int .i64 so, .int .i64 ek, .int .i64 ex, .slice pa pl pc, .slice aa al ac, .slice ta tl tc, .slice ea el ec] 78)) := (Below.refl _ w).alloc (Nat.le_refl _) _
  have H0 := hide h
  have HB0 := hide hB0
  have HX := hide hx
  have HOX := hide ho
  obtain ⟨a1, a2⟩ := ha
  have s0 : (w.alloc (.cells #[.int .i64 8, .int .i64 sv, .int .i64 so, .int .i64 ek, .int .i64 ex, .slice pa pl pc, .slice aa al ac, .slice ta tl tc, .slice ea el ec] 78)).cell? ⟨w.heap.size, 0, none⟩ = some (.int .i64 8) := by simp [go_sem]
  have s1 : (w.alloc (.cells #[.int .i64 8, .int .i64 sv, .int .i64 so, .int .i64 ek, .int .i64 ex, .slice pa pl pc, .slice aa al ac, .slice ta tl tc, .slice ea el ec] 78)).cell? ⟨w.heap.size, 1, none⟩ = some (.int .i64 sv) := by simp [go_sem]
  have s2 : (w.alloc (.cells #[.int .i64 8, .int .i64 sv, .int .i64 so, .int .i64 ek, .int .i64 ex, .slice pa pl pc, .slice aa al ac, .slice ta tl tc, .slice ea el ec] 78)).cell? ⟨w.heap.size, 2, none⟩ = some (.int .i64 so) := by simp [go_sem]
  have s3 : (w.alloc (.cells #[.int .i64 8, .int .i64 sv, .int .i64 so, .int .i64 ek, .int .i64 ex, .slice pa pl pc, .slice aa al ac, .slice ta tl tc, .slice ea el ec] 78)).cell? ⟨w.heap.size, 3, none⟩ = some (.int .i64 ek) := by simp [go_sem]
  have s4 : (w.alloc (.cells #[.int .i64 8, .int .i64 sv, .int .i64 so, .int .i64 ek, .int .i64 ex, .slice pa pl pc, .slice aa al ac, .slice ta tl tc, .slice ea el ec] 78)).cell? ⟨w.heap.size, 4, none⟩ = some (.int .i64 ex) := by simp [go_sem]
  have s5 : (w.alloc (.cells #[.int .i64 8, .int .i64 sv, .int .i64 so, .int .i64 ek, .int .i64 ex, .slice pa pl pc, .slice aa al ac, .slice ta tl tc, .slice ea el ec] 78)).cell? ⟨w.heap.size, 5, none⟩ = some (.slice pa pl pc) := by simp [go_sem]
  have s6 : (w.alloc (.cells #[.int .i64 8, .int .i64 sv, .int .i64 so, .int .i64 ek, .int .i64 ex, .slice pa pl pc, .slice aa al ac, .slice ta tl tc, .slice ea el ec] 78)).cell? ⟨w.heap.size, 6, none⟩ = some (.slice aa al ac) := by simp [go_sem]
  have s7 : (w.alloc (.cells #[.int .i64 8, .int .i64 sv, .int .i64 so, .int .i64 ek, .int .i64 ex, .slice pa pl pc, .slice aa al ac, .slice ta tl tc, .slice ea el ec] 78)).cell? ⟨w.heap.size, 7, none⟩ = some (.slice ta tl tc) := by simp [go_sem]
  have s8 : (w.alloc (.cells #[.int .i64 8, .int .i64 sv, .int .i64 so, .int .i64 ek, .int .i64 ex, .slice pa pl pc, .slice aa al ac, .slice ta tl tc, .slice ea el ec] 78)).cell? ⟨w.heap.size, 8, none⟩ = some (.slice ea el ec) := by simp [go_sem]
  have HC0 := hide s0
  have HC1 := hide s1
  have HC2 := hide s2
  have HC3 := hide s3
  have HC4 := hide s4
  have HC5 := hide s5
  have HC6 := hide s6
  have HC7 := hide s7
  have HC8 := hide s8
  clear s0 s1 s2 s6 s8
  obtain ⟨T, hT⟩ : ∃ T, T = rn K kf fs F ins I.ob g 2 k [d] a dp st := ⟨_, rfl⟩
  have HST : Hid (∃ g' st' ev', RnG I w0.heap.size [.int .i64 m, .slice ga gn gc, .slice sa sn sc, .slice ya yn yc, .slice oa on oc, .slice va vn vc, .slice fa fn fc, .slice ba bn bc, .slice xa xn xc, .int .i64 (F : Int), .slice (some ⟨b3, 0, none⟩) fln c3] br b1 b2 b3 fl dp st' ev' (w.alloc (.cells #[.int .i64 8, .int .i64 sv, .int .i64 so, .int .i64 ek, .int .i64 ex, .slice pa pl pc, .slice aa al ac, .slice ta tl tc, .slice ea el ec] 78)) ∧ Fr br b1 b2 ev ev' (w.alloc (.cells #[.int .i64 8, .int .i64 sv, .int .i64 so, .int .i64 ek, .int .i64 ex, .slice pa pl pc, .slice aa al ac, .slice ta tl tc, .slice ea el ec] 78)) (w.alloc (.cells #[.int .i64 8, .int .i64 sv, .int .i64 so, .int .i64 ek, .int .i64 ex, .slice pa pl pc, .slice aa al ac, .slice ta tl tc, .slice ea el ec] 78)) ∧ NumOk vn yn F st' ∧ 3 * (F - st'.steps) + 2 ≤ g' ∧ g' ≤ g ∧ I.ok (dp + 1) st'.o ∧ rn K kf fs F ins I.ob g' 2 k [d] a dp st' = T) := ⟨g, st, ev, h.over hbel, Fr.refl _ _ _ _ _, hno, hg, Nat.le_refl _, hok, hT.symm⟩
  rw [← hT]
  clear h hB0 hno hg hT hx ho hok
  go_enter Try.func135, Try.ntmps135
  go_wp2_with fail
  go_loopw [6] (fun s wr => s = .bool false ∧ ∃ g' st' ev', RnG I w0.heap.size [.int .i64 m, .slice ga gn gc, .slice sa sn sc, .slice ya yn yc, .slice oa on oc, .slice va vn vc, .slice fa fn fc, .slice ba bn bc, .slice xa xn xc, .int .i64 (F : Int), .slice (some ⟨b3, 0, none⟩) fln c3] br b1 b2 b3 fl dp st' ev' wr ∧ Fr br b1 b2 ev ev' (w.alloc (.cells #[.int .i64 8, .int .i64 sv, .int .i64 so, .int .i64 ek, .int .i64 ex, .slice pa pl pc, .slice aa al ac, .slice ta tl tc, .slice ea el ec] 78)) wr ∧ NumOk vn yn F st' ∧ 3 * (F - st'.steps) + 2 ≤ g' ∧ g' ≤ g ∧ I.ok (dp + 1) st'.o ∧ rn K kf fs F ins I.ob g' 2 k [d] a dp st' = T) (fun _ wr => 2001 - stepsAt br wr)
  case atStart => exact ⟨rfl, HST.out⟩
  case round =>
    clear HST
    obtain ⟨rfl, g', st', ev', hr, hf, hno, hg', hgg, hok, hrn⟩ := hrel
    have t3 := H0.out.box hf (Nat.le_refl _) s3
    have t4 := H0.out.box hf (Nat.le_refl _) s4
    have t5 := H0.out.box hf (Nat.le_refl _) s5
    have t7 := H0.out.box hf (Nat.le_refl _) s7
    clear s3 s4 s5 s7
    have hBr := H0.out.below ((Fr.of_below hbel).trans hf)
    have hB0r : Below w0.heap.size w0 wr := HB0.out.trans hBr
    obtain ⟨g2, rfl⟩ : ∃ g2, g' = g2 + 1 := ⟨g' - 1, by omega⟩
    have hsteps : stepsAt br wr = st'.steps := by
      have c3 := hr.row 3 _ rfl
      unfold stepsAt
      rw [c3]
      simp [intOf]
    have KV := hide (valueR_any m ga gn gc sa sn sc ya yn yc oa on oc va vn vc fa fn fc ba bn bc xa xn xc F fln c3 w0.heap.size br b1 b2 b3 fl dp st' ev' K _ (sExpr d) wr hr (HX.out.over hB0r) (by rw [hno.vl]; exact HOX.out) hno.i32)
    have hun : rn K kf fs F ins I.ob (g2 + 1) 2 k [d] a dp st' = if valX st'.vars K (sExpr d) = 0 then (true, st') else contR (rn K kf fs F ins I.ob g2 0 (k - 1) (sThen d) (a + 1) (dp + 1) st') (fun st'' => if st''.steps = F then (false, st''.out) else contR (passR I.ob 2 a dp d st''.step) (fun st1 => rn K kf fs F ins I.ob g2 2 k [d] a dp st1)) := by simp only [rn]
    rw [hun] at hrn
    have HR := hide hr
    have HNO := hide hno
    have HFR := hide hf
    have HG := hide hg'
    have HGG := hide hgg
    have HSP := hide hsteps
    have HB0R := hide hB0r
    have HOK := hide hok
    clear hok
    by_cases hz : valX st'.vars K (sExpr d) = 0
    · rw [if_pos hz] at hrn
      rw [hz] at KV
      have HRN := hide hrn
      clear hrn hun hr hno hf hg' hsteps hz hBr hB0r HS
      go_wp2_with fail
      refine (KV.out).mono ?_
      rintro e w1 ⟨rfl, hb1⟩
      have HB1 := hide hb1
      clear hb1 KV
      go_wp2_with fail
      go_ret
      rw [← HRN.out]
      exact ⟨rfl, ⟨ev', HR.out.over HB1.out, (Fr.of_below hbel).trans (HFR.out.over HB1.out)⟩, HNO.out⟩
    · rw [if_neg hz] at hrn
      have KS := hide fun W (hW : Below wr.heap.size wr W) => HS.out g2 (by omega) st' ev' W (hr.over hW) HOK.out (hB0r.trans (hW.mono hB0r.size)) hno (by omega)
      have hgr := (rn_gr K kf fs F ins I.ob g2 0 (k - 1) (sThen d) (a + 1) (dp + 1) st').steps
      obtain ⟨r, hrr⟩ : ∃ r, r = rn K kf fs F ins I.ob g2 0 (k - 1) (sThen d) (a + 1) (dp + 1) st' := ⟨_, rfl⟩
      rw [← hrr] at KS hgr hrn
      obtain ⟨vx, hvx⟩ : ∃ q, q = valX st'.vars K (sExpr d) := ⟨_, rfl⟩
      rw [← hvx] at KV hz
      have hzb : (vx == 0) = false := by simpa using hz
      have HRN := hide hrn
      have HGR := hide hgr
      clear hrn hun hr hno hf hg' hgg hsteps hz hBr hB0r HS hvx hrr hgr HX HOX
      go_wp2_with fail
      refine (KV.out).mono ?_
      rintro e w1 ⟨rfl, hb1⟩
      have u7 := cell_over hb1 _ _ t7
      have KS' := hide (KS.out w1 hb1)
      have HB1 := hide hb1
      clear hb1 KV KS t3 t4 t5 t7
      obtain ⟨rb, rs⟩ := r
      cases rb with
      | false =>
        go_wp2_with fail
        refine (KS'.out).mono ?_
        rintro e w2 ⟨he, ⟨ev2, hr2, hf2⟩, hno2, hok2⟩
        subst he
        have HF2 := hide (And.intro hr2 ((Fr.of_below hbel).trans ((HFR.out.over HB1.out).trans hf2)))
        have HN2 := hide hno2
        clear hr2 hf2 hno2
        go_wp2_with fail
        go_ret
        rw [← HRN.out]
        exact ⟨rfl, ⟨ev2, HF2.out⟩, HN2.out⟩
      | true =>
        go_wp2_with fail
        refine (KS'.out).mono ?_
        rintro e w2 ⟨he, ⟨ev2, hr2, hf2⟩, hno2, hok2⟩
        subst he
        have HR2 := hide hr2
        have HF2 := hide ((HFR.out.over HB1.out).trans hf2)
        have HN2 := hide hno2
        clear hr2 hf2 hno2 KS'
        have HOK2 := hide hok2
        clear hok2
        by_cases hs : rs.steps = F
        · have KN := hide (step_no m ga gn gc sa sn sc ya yn yc oa on oc va vn vc fa fn fc ba bn bc xa xn xc F fln c3 w0.heap.size br b1 b2 b3 fl dp rs ev2 w2 HR2.out hs)
          have HHS := hide hs
          clear hs
          go_wp2_with fail
          refine (KN.out).mono ?_
          rintro e w3 ⟨rfl, hr3, hf3⟩
          have HF3 := hide (And.intro hr3 ((Fr.of_below hbel).trans (HF2.out.trans hf3)))
          clear hr3 hf3
          go_wp2_with fail
          go_ret
          rw [← HRN.out]
          have e2 : contR (true, rs) (fun st'' => if st''.steps = F then (false, st''.out) else contR (passR I.ob 2 a dp d st''.step) (fun st1 => rn K kf fs F ins I.ob g2 2 k [d] a dp st1)) = (false, rs.out) := by
            unfold contR
            simp only [if_true, HHS.out]
          rw [e2]
          exact ⟨rfl, ⟨ev2, HF3.out⟩, HN2.out.out⟩
        · have hs2 : rs.steps < F := by have : rs.steps ≤ F := HN2.out.sb; omega
          have KN := hide (step_yes m ga gn gc sa sn sc ya yn yc oa on oc va vn vc fa fn fc ba bn bc xa xn xc F fln c3 w0.heap.size br b1 b2 b3 fl dp rs ev2 w2 HR2.out hs2 hF)
          have HHS := hide hs
          clear hs
          go_wp2_with fail
          refine (KN.out).mono ?_
          rintro e w3 ⟨rfl, hr3, hf3⟩
          have HF3 := hide (And.intro hr3 (HF2.out.trans hf3))
          clear hr3 hf3
          have x0 := H0.out.box HF3.out.2 (Nat.le_refl _) HC0.out
          have x1 := H0.out.box HF3.out.2 (Nat.le_refl _) HC1.out
          have x2 := H0.out.box HF3.out.2 (Nat.le_refl _) HC2.out
          have x3 := H0.out.box HF3.out.2 (Nat.le_refl _) HC3.out
          have x4 := H0.out.box HF3.out.2 (Nat.le_refl _) HC4.out
          have x5 := H0.out.box HF3.out.2 (Nat.le_refl _) HC5.out
          have x6 := H0.out.box HF3.out.2 (Nat.le_refl _) HC6.out
          have x7 := H0.out.box HF3.out.2 (Nat.le_refl _) HC7.out
          have x8 := H0.out.box HF3.out.2 (Nat.le_refl _) HC8.out
          have hB3 : Below w0.heap.size w0 w3 := HB0.out.trans (H0.out.below ((Fr.of_below hbel).trans HF3.out.2))
          have KP' := hide (KP.out rs.step ev2 w3 HF3.out.1 HOK2.out hB3)
          have hps := pass_steps I.ob 2 a dp d rs.step
          have hnp := (HN2.out.step hs2).pass I.ob 2 a dp d
          have e2 : contR (true, rs) (fun st'' => if st''.steps = F then (false, st''.out) else contR (passR I.ob 2 a dp d st''.step) (fun st1 => rn K kf fs F ins I.ob g2 2 k [d] a dp st1)) = contR (passR I.ob 2 a dp d rs.step) (fun st1 => rn K kf fs F ins I.ob g2 2 k [d] a dp st1) := by
            unfold contR
            simp only [if_true, if_neg HHS.out]
          have hrn2 := e2.symm.trans HRN.out
          obtain ⟨pb, ps, hpp⟩ : ∃ pb ps, passR I.ob 2 a dp d rs.step = (pb, ps) := ⟨_, _, rfl⟩
          rw [hpp] at KP' hps hnp hrn2
          have HPS := hide hps
          have HNP := hide hnp
          have HRN2 := hide hrn2
          clear hps hnp hrn2 e2 hpp hB3 KN KP
          cases pb with
          | false =>
            go_wp2_with fail
            refine (KP'.out).mono ?_
            rintro e w4 ⟨he, ev4, hr4, hf4, -⟩
            subst he
            have HF4 := hide (And.intro hr4 ((Fr.of_below hbel).trans (HF3.out.2.trans hf4)))
            clear hr4 hf4
            go_wp2_with fail
            go_ret
            rw [← HRN2.out]
            exact ⟨rfl, ⟨ev4, HF4.out⟩, HNP.out⟩
          | true =>
            go_wp2_with fail
            refine (KP'.out).mono ?_
            rintro e w4 ⟨he, ev4, hr4, hf4, hn4⟩
            subst he
            have HF4 := hide (And.intro hr4 (HF3.out.2.trans hf4))
            have HN4 := hide (hn4 rfl (Or.inr rfl))
            clear hr4 hf4 hn4
            go_wp2_with fail
            have hsp := HSP.out
            have hgr : st'.steps ≤ rs.steps := HGR.out
            have hgg := HG.out
            have hp4 : ps.steps = rs.steps + 1 := HPS.out
            have hst : stepsAt br w4 = rs.steps + 1 := by
              have c3 := HF4.out.1.row 3 _ rfl
              unfold stepsAt
              rw [c3]
              simp [intOf, hp4]
            refine ⟨⟨rfl, g2, ps, ev4, HF4.out.1, HF4.out.2, HNP.out, by rw [hp4]; omega, by have := HGG.out; omega, HN4.out, HRN2.out⟩, ?_⟩
            rw [hst, hsp]
            omega
end Go.Proofs.Ytcbbjjenkommeaa.Ex
