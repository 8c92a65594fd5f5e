/- Loops. -/
import Derived.Test.YtpbnmmgocpobcaaM29
namespace Go.Proofs.Ytpbnmmgocpobcaa.Ex
open Go.RowKit
set_option linter.unusedVariables false


set_option maxHeartbeats 2000000 in
set_option maxRecDepth 100000 in
theorem stmtR8 (m : Int) (ga : Option Addr) (gn gc : Nat) (sa : Option Addr) (sn sc : Nat) (ya : Option Addr) (yn yc : Nat) (oa : Option Addr) (on oc : Nat) (va : Option Addr) (vn vc : Nat) (fa : Option Addr) (fn fc : Nat) (ba : Option Addr) (bn bc : Nat) (xa : Option Addr) (xn xc : Nat) (F fln c3 : Nat) (B br b1 b2 b3 : Nat) (fl : List Int) (en : Int) (st : RSt) (ev : Value) (sv : Int) (so ek ex : Int) (pa : Option Addr) (pl pc : Nat) (aa : Option Addr) (al ac : Nat) (ta : Option Addr) (tl tc : Nat) (ea : Option Addr) (el ec : Nat) (a : Int) (r : Bool × RSt) (w0 w : World) (h : RnG B [.int .i64 m, .slice ga gn gc, .slice sa sn sc, .slice ya yn yc, .slice oa on oc, .slice va vn vc, .slice fa fn fc, .slice ba bn bc, .slice xa xn xc, .int .i64 (F : Int), .slice (some ⟨b3, 0, none⟩) fln c3] br b1 b2 b3 fl en st ev w) (hB0 : Below w0.heap.size w0 w)
    (KL : Hid (∀ W, RnG B [.int .i64 m, .slice ga gn gc, .slice sa sn sc, .slice ya yn yc, .slice oa on oc, .slice va vn vc, .slice fa fn fc, .slice ba bn bc, .slice xa xn xc, .int .i64 (F : Int), .slice (some ⟨b3, 0, none⟩) fln c3] br b1 b2 b3 fl en st ev W → Below w0.heap.size w0 W → Calls Try.prog 50 #[.pointer (some ⟨br, 0, none⟩), .agg #[.int .i64 8, .int .i64 sv, .int .i64 so, .int .i64 ek, .int .i64 ex, .slice pa pl pc, .slice aa al ac, .slice ta tl tc, .slice ea el ec], .int .i64 a] W (RanR m ga gn gc sa sn sc ya yn yc oa on oc va vn vc fa fn fc ba bn bc xa xn xc F fln c3 B br b1 b2 b3 fl en r ev W))) :
    Calls Try.prog 32 #[.pointer (some ⟨br, 0, none⟩), .agg #[.int .i64 8, .int .i64 sv, .int .i64 so, .int .i64 ek, .int .i64 ex, .slice pa pl pc, .slice aa al ac, .slice ta tl tc, .slice ea el ec], .int .i64 a] w (RanR m ga gn gc sa sn sc ya yn yc oa on oc va vn vc fa fn fc ba bn bc xa xn xc F fln c3 B br b1 b2 b3 fl en r ev w) := by
  have hbel : Below w.heap.size w (w.alloc (.cells #[.int .i64 8, .int .i64 sv, .int .i64 so, .int .i64 ek, .int .i64 ex, .slice pa pl pc, .slice aa al ac, .slice ta tl tc, .slice ea el ec] 71)) := (Below.refl _ w).alloc (Nat.le_refl _) _
  have HE := hide (KL.out _ (h.over hbel) (hB0.trans (hbel.mono hB0.size)))
  have s0 : (w.alloc (.cells #[.int .i64 8, .int .i64 sv, .int .i64 so, .int .i64 ek, .int .i64 ex, .slice pa pl pc, .slice aa al ac, .slice ta tl tc, .slice ea el ec] 71)).cell? ⟨w.heap.size, 0, none⟩ = some (.int .i64 8) := by simp [go_sem]
  have s1 : (w.alloc (.cells #[.int .i64 8, .int .i64 sv, .int .i64 so, .int .i64 ek, .int .i64 ex, .slice pa pl pc, .slice aa al ac, .slice ta tl tc, .slice ea el ec] 71)).cell? ⟨w.heap.size, 1, none⟩ = some (.int .i64 sv) := by simp [go_sem]
  have s2 : (w.alloc (.cells #[.int .i64 8, .int .i64 sv, .int .i64 so, .int .i64 ek, .int .i64 ex, .slice pa pl pc, .slice aa al ac, .slice ta tl tc, .slice ea el ec] 71)).cell? ⟨w.heap.size, 2, none⟩ = some (.int .i64 so) := by simp [go_sem]
  have s3 : (w.alloc (.cells #[.int .i64 8, .int .i64 sv, .int .i64 so, .int .i64 ek, .int .i64 ex, .slice pa pl pc, .slice aa al ac, .slice ta tl tc, .slice ea el ec] 71)).cell? ⟨w.heap.size, 3, none⟩ = some (.int .i64 ek) := by simp [go_sem]
  have s4 : (w.alloc (.cells #[.int .i64 8, .int .i64 sv, .int .i64 so, .int .i64 ek, .int .i64 ex, .slice pa pl pc, .slice aa al ac, .slice ta tl tc, .slice ea el ec] 71)).cell? ⟨w.heap.size, 4, none⟩ = some (.int .i64 ex) := by simp [go_sem]
  have s5 : (w.alloc (.cells #[.int .i64 8, .int .i64 sv, .int .i64 so, .int .i64 ek, .int .i64 ex, .slice pa pl pc, .slice aa al ac, .slice ta tl tc, .slice ea el ec] 71)).cell? ⟨w.heap.size, 5, none⟩ = some (.slice pa pl pc) := by simp [go_sem]
  have s6 : (w.alloc (.cells #[.int .i64 8, .int .i64 sv, .int .i64 so, .int .i64 ek, .int .i64 ex, .slice pa pl pc, .slice aa al ac, .slice ta tl tc, .slice ea el ec] 71)).cell? ⟨w.heap.size, 6, none⟩ = some (.slice aa al ac) := by simp [go_sem]
  have s7 : (w.alloc (.cells #[.int .i64 8, .int .i64 sv, .int .i64 so, .int .i64 ek, .int .i64 ex, .slice pa pl pc, .slice aa al ac, .slice ta tl tc, .slice ea el ec] 71)).cell? ⟨w.heap.size, 7, none⟩ = some (.slice ta tl tc) := by simp [go_sem]
  have s8 : (w.alloc (.cells #[.int .i64 8, .int .i64 sv, .int .i64 so, .int .i64 ek, .int .i64 ex, .slice pa pl pc, .slice aa al ac, .slice ta tl tc, .slice ea el ec] 71)).cell? ⟨w.heap.size, 8, none⟩ = some (.slice ea el ec) := by simp [go_sem]
  clear h hB0 KL
  obtain ⟨r1, r2⟩ := r
  go_enter Try.func32, Try.ntmps32
  go_wp2_with fail
  refine (HE.out).mono ?_
  rintro e wt ⟨he, ⟨ev', hrt, hft⟩, hno⟩
  subst he
  have HF := hide (And.intro hrt ((Fr.of_below (ev := ev) (br := br) (b1 := b1) (b2 := b2) hbel).trans hft))
  have HN := hide hno
  clear hrt hft hno
  go_wp2_with fail
  go_ret
  exact ⟨rfl, ⟨ev', HF.out⟩, HN.out⟩

set_option maxHeartbeats 2000000 in
set_option maxRecDepth 100000 in
theorem stmtR2 (m : Int) (ga : Option Addr) (gn gc : Nat) (sa : Option Addr) (sn sc : Nat) (ya : Option Addr) (yn yc : Nat) (oa : Option Addr) (on oc : Nat) (va : Option Addr) (vn vc : Nat) (fa : Option Addr) (fn fc : Nat) (ba : Option Addr) (bn bc : Nat) (xa : Option Addr) (xn xc : Nat) (F fln c3 : Nat) (B br b1 b2 b3 : Nat) (fl : List Int) (en : Int) (st : RSt) (ev : Value) (sv : Int) (so ek ex : Int) (pa : Option Addr) (pl pc : Nat) (aa : Option Addr) (al ac : Nat) (ta : Option Addr) (tl tc : Nat) (ea : Option Addr) (el ec : Nat) (a : Int) (r : Bool × RSt) (w0 w : World) (h : RnG B [.int .i64 m, .slice ga gn gc, .slice sa sn sc, .slice ya yn yc, .slice oa on oc, .slice va vn vc, .slice fa fn fc, .slice ba bn bc, .slice xa xn xc, .int .i64 (F : Int), .slice (some ⟨b3, 0, none⟩) fln c3] br b1 b2 b3 fl en st ev w) (hB0 : Below w0.heap.size w0 w)
    (KL : Hid (∀ W, RnG B [.int .i64 m, .slice ga gn gc, .slice sa sn sc, .slice ya yn yc, .slice oa on oc, .slice va vn vc, .slice fa fn fc, .slice ba bn bc, .slice xa xn xc, .int .i64 (F : Int), .slice (some ⟨b3, 0, none⟩) fln c3] br b1 b2 b3 fl en st ev W → Below w0.heap.size w0 W → Calls Try.prog 47 #[.pointer (some ⟨br, 0, none⟩), .agg #[.int .i64 2, .int .i64 sv, .int .i64 so, .int .i64 ek, .int .i64 ex, .slice pa pl pc, .slice aa al ac, .slice ta tl tc, .slice ea el ec]] W (RanR m ga gn gc sa sn sc ya yn yc oa on oc va vn vc fa fn fc ba bn bc xa xn xc F fln c3 B br b1 b2 b3 fl en r ev W))) :
    Calls Try.prog 32 #[.pointer (some ⟨br, 0, none⟩), .agg #[.int .i64 2, .int .i64 sv, .int .i64 so, .int .i64 ek, .int .i64 ex, .slice pa pl pc, .slice aa al ac, .slice ta tl tc, .slice ea el ec], .int .i64 a] w (RanR m ga gn gc sa sn sc ya yn yc oa on oc va vn vc fa fn fc ba bn bc xa xn xc F fln c3 B br b1 b2 b3 fl en r ev w) := by
  have hbel : Below w.heap.size w (w.alloc (.cells #[.int .i64 2, .int .i64 sv, .int .i64 so, .int .i64 ek, .int .i64 ex, .slice pa pl pc, .slice aa al ac, .slice ta tl tc, .slice ea el ec] 71)) := (Below.refl _ w).alloc (Nat.le_refl _) _
  have HE := hide (KL.out _ (h.over hbel) (hB0.trans (hbel.mono hB0.size)))
  have s0 : (w.alloc (.cells #[.int .i64 2, .int .i64 sv, .int .i64 so, .int .i64 ek, .int .i64 ex, .slice pa pl pc, .slice aa al ac, .slice ta tl tc, .slice ea el ec] 71)).cell? ⟨w.heap.size, 0, none⟩ = some (.int .i64 2) := by simp [go_sem]
  have s1 : (w.alloc (.cells #[.int .i64 2, .int .i64 sv, .int .i64 so, .int .i64 ek, .int .i64 ex, .slice pa pl pc, .slice aa al ac, .slice ta tl tc, .slice ea el ec] 71)).cell? ⟨w.heap.size, 1, none⟩ = some (.int .i64 sv) := by simp [go_sem]
  have s2 : (w.alloc (.cells #[.int .i64 2, .int .i64 sv, .int .i64 so, .int .i64 ek, .int .i64 ex, .slice pa pl pc, .slice aa al ac, .slice ta tl tc, .slice ea el ec] 71)).cell? ⟨w.heap.size, 2, none⟩ = some (.int .i64 so) := by simp [go_sem]
  have s3 : (w.alloc (.cells #[.int .i64 2, .int .i64 sv, .int .i64 so, .int .i64 ek, .int .i64 ex, .slice pa pl pc, .slice aa al ac, .slice ta tl tc, .slice ea el ec] 71)).cell? ⟨w.heap.size, 3, none⟩ = some (.int .i64 ek) := by simp [go_sem]
  have s4 : (w.alloc (.cells #[.int .i64 2, .int .i64 sv, .int .i64 so, .int .i64 ek, .int .i64 ex, .slice pa pl pc, .slice aa al ac, .slice ta tl tc, .slice ea el ec] 71)).cell? ⟨w.heap.size, 4, none⟩ = some (.int .i64 ex) := by simp [go_sem]
  have s5 : (w.alloc (.cells #[.int .i64 2, .int .i64 sv, .int .i64 so, .int .i64 ek, .int .i64 ex, .slice pa pl pc, .slice aa al ac, .slice ta tl tc, .slice ea el ec] 71)).cell? ⟨w.heap.size, 5, none⟩ = some (.slice pa pl pc) := by simp [go_sem]
  have s6 : (w.alloc (.cells #[.int .i64 2, .int .i64 sv, .int .i64 so, .int .i64 ek, .int .i64 ex, .slice pa pl pc, .slice aa al ac, .slice ta tl tc, .slice ea el ec] 71)).cell? ⟨w.heap.size, 6, none⟩ = some (.slice aa al ac) := by simp [go_sem]
  have s7 : (w.alloc (.cells #[.int .i64 2, .int .i64 sv, .int .i64 so, .int .i64 ek, .int .i64 ex, .slice pa pl pc, .slice aa al ac, .slice ta tl tc, .slice ea el ec] 71)).cell? ⟨w.heap.size, 7, none⟩ = some (.slice ta tl tc) := by simp [go_sem]
  have s8 : (w.alloc (.cells #[.int .i64 2, .int .i64 sv, .int .i64 so, .int .i64 ek, .int .i64 ex, .slice pa pl pc, .slice aa al ac, .slice ta tl tc, .slice ea el ec] 71)).cell? ⟨w.heap.size, 8, none⟩ = some (.slice ea el ec) := by simp [go_sem]
  clear h hB0 KL
  obtain ⟨r1, r2⟩ := r
  go_enter Try.func32, Try.ntmps32
  go_wp2_with fail
  refine (HE.out).mono ?_
  rintro e wt ⟨he, ⟨ev', hrt, hft⟩, hno⟩
  subst he
  have HF := hide (And.intro hrt ((Fr.of_below (ev := ev) (br := br) (b1 := b1) (b2 := b2) hbel).trans hft))
  have HN := hide hno
  clear hrt hft hno
  go_wp2_with fail
  go_ret
  exact ⟨rfl, ⟨ev', HF.out⟩, HN.out⟩

def stepsAt (br : Nat) (w : World) : Nat := (intOf ((w.cell? ⟨br, 3, none⟩).getD undef)).toNat

set_option maxHeartbeats 2000000 in
set_option maxRecDepth 100000 in
theorem loopR (m : Int) (ga : Option Addr) (gn gc : Nat) (sa : Option Addr) (sn sc : Nat) (ya : Option Addr) (yn yc : Nat) (oa : Option Addr) (on oc : Nat) (va : Option Addr) (vn vc : Nat) (fa : Option Addr) (fn fc : Nat) (ba : Option Addr) (bn bc : Nat) (xa : Option Addr) (xn xc : Nat) (F fln c3 : Nat) (B br b1 b2 b3 : Nat) (fl : List Int) (en : Int) (K kf k g : Nat) (fs : List FnD) (ins : List (List Int)) (d : D) (sv : Int) (so ek ex : Int) (pa : Option Addr) (pl pc : Nat) (aa : Option Addr) (al ac : Nat) (ta : Option Addr) (tl tc : Nat) (ea : Option Addr) (el ec : Nat) (a : Int) (w0 : World) (hF : F ≤ 2000) (ha : 0 ≤ a ∧ a ≤ 100)
    (hx : RX w0 K [.int .i64 ek, .int .i64 ex, .slice pa pl pc] (sExpr d)) (ho : okX vn K (sExpr d))
    (HS : Hid (∀ g', g' < g → ∀ st ev W, RnG B [.int .i64 m, .slice ga gn gc, .slice sa sn sc, .slice ya yn yc, .slice oa on oc, .slice va vn vc, .slice fa fn fc, .slice ba bn bc, .slice xa xn xc, .int .i64 (F : Int), .slice (some ⟨b3, 0, none⟩) fln c3] br b1 b2 b3 fl en st ev W → Below w0.heap.size w0 W → NumOk vn yn F st → 3 * (F - st.steps) + 1 ≤ g' → Calls Try.prog 23 #[.pointer (some ⟨br, 0, none⟩), .slice ta tl tc, .int .i64 (a + 1)] W (RanR m ga gn gc sa sn sc ya yn yc oa on oc va vn vc fa fn fc ba bn bc xa xn xc F fln c3 B br b1 b2 b3 fl en (rn K kf fs F ins g' 0 (k - 1) (sThen d) (a + 1) st) ev W)))
    (st : RSt) (ev : Value) (w : World) (hBB : B = w0.heap.size) (h : RnG B [.int .i64 m, .slice ga gn gc, .slice sa sn sc, .slice ya yn yc, .slice oa on oc, .slice va vn vc, .slice fa fn fc, .slice ba bn bc, .slice xa xn xc, .int .i64 (F : Int), .slice (some ⟨b3, 0, none⟩) fln c3] br b1 b2 b3 fl en st ev w) (hB0 : Below w0.heap.size w0 w) (hno : NumOk vn yn F st) (hg : 3 * (F - st.steps) + 2 ≤ g) :
    Calls Try.prog 50 #[.pointer (some ⟨br, 0, none⟩), .agg #[.int .i64 8, .int .i64 sv, .int .i64 so, .int .i64 ek, .int .i64 ex, .slice pa pl pc, .slice aa al ac, .slice ta tl tc, .slice ea el ec], .int .i64 a] w (RanR m ga gn gc sa sn sc ya yn yc oa on oc va vn vc fa fn fc ba bn bc xa xn xc F fln c3 B br b1 b2 b3 fl en (rn K kf fs F ins g 2 k [d] a st) ev w) := by
  subst hBB
  have hbel : Below w.heap.size w (w.alloc (.cells #[.int .i64 8, .int .i64 sv, .int .i64 so, .int .i64 ek, .int .i64 ex, .slice pa pl pc, .slice aa al ac, .slice ta tl tc, .slice ea el ec] 71)) := (Below.refl _ w).alloc (Nat.le_refl _) _
  have H0 := hide h
  have HB0 := hide hB0
  have HX := hide hx
  have HOX := hide ho
  obtain ⟨a1, a2⟩ := ha
  have s3 : (w.alloc (.cells #[.int .i64 8, .int .i64 sv, .int .i64 so, .int .i64 ek, .int .i64 ex, .slice pa pl pc, .slice aa al ac, .slice ta tl tc, .slice ea el ec] 71)).cell? ⟨w.heap.size, 3, none⟩ = some (.int .i64 ek) := by simp [go_sem]
  have s4 : (w.alloc (.cells #[.int .i64 8, .int .i64 sv, .int .i64 so, .int .i64 ek, .int .i64 ex, .slice pa pl pc, .slice aa al ac, .slice ta tl tc, .slice ea el ec] 71)).cell? ⟨w.heap.size, 4, none⟩ = some (.int .i64 ex) := by simp [go_sem]
  have s5 : (w.alloc (.cells #[.int .i64 8, .int .i64 sv, .int .i64 so, .int .i64 ek, .int .i64 ex, .slice pa pl pc, .slice aa al ac, .slice ta tl tc, .slice ea el ec] 71)).cell? ⟨w.heap.size, 5, none⟩ = some (.slice pa pl pc) := by simp [go_sem]
  have s7 : (w.alloc (.cells #[.int .i64 8, .int .i64 sv, .int .i64 so, .int .i64 ek, .int .i64 ex, .slice pa pl pc, .slice aa al ac, .slice ta tl tc, .slice ea el ec] 71)).cell? ⟨w.heap.size, 7, none⟩ = some (.slice ta tl tc) := by simp [go_sem]
  obtain ⟨T, hT⟩ : ∃ T, T = rn K kf fs F ins g 2 k [d] a st := ⟨_, rfl⟩
  have HST : Hid (∃ g' st' ev', RnG w0.heap.size [.int .i64 m, .slice ga gn gc, .slice sa sn sc, .slice ya yn yc, .slice oa on oc, .slice va vn vc, .slice fa fn fc, .slice ba bn bc, .slice xa xn xc, .int .i64 (F : Int), .slice (some ⟨b3, 0, none⟩) fln c3] br b1 b2 b3 fl en st' ev' (w.alloc (.cells #[.int .i64 8, .int .i64 sv, .int .i64 so, .int .i64 ek, .int .i64 ex, .slice pa pl pc, .slice aa al ac, .slice ta tl tc, .slice ea el ec] 71)) ∧ Fr br b1 b2 ev ev' (w.alloc (.cells #[.int .i64 8, .int .i64 sv, .int .i64 so, .int .i64 ek, .int .i64 ex, .slice pa pl pc, .slice aa al ac, .slice ta tl tc, .slice ea el ec] 71)) (w.alloc (.cells #[.int .i64 8, .int .i64 sv, .int .i64 so, .int .i64 ek, .int .i64 ex, .slice pa pl pc, .slice aa al ac, .slice ta tl tc, .slice ea el ec] 71)) ∧ NumOk vn yn F st' ∧ 3 * (F - st'.steps) + 2 ≤ g' ∧ g' ≤ g ∧ rn K kf fs F ins g' 2 k [d] a st' = T) := ⟨g, st, ev, h.over hbel, Fr.refl _ _ _ _ _, hno, hg, Nat.le_refl _, hT.symm⟩
  rw [← hT]
  clear h hB0 hno hg hT hx ho
  go_enter Try.func50, Try.ntmps50
  go_wp2_with fail
  go_loopw [6] (fun s wr => s = .bool false ∧ ∃ g' st' ev', RnG w0.heap.size [.int .i64 m, .slice ga gn gc, .slice sa sn sc, .slice ya yn yc, .slice oa on oc, .slice va vn vc, .slice fa fn fc, .slice ba bn bc, .slice xa xn xc, .int .i64 (F : Int), .slice (some ⟨b3, 0, none⟩) fln c3] br b1 b2 b3 fl en st' ev' wr ∧ Fr br b1 b2 ev ev' (w.alloc (.cells #[.int .i64 8, .int .i64 sv, .int .i64 so, .int .i64 ek, .int .i64 ex, .slice pa pl pc, .slice aa al ac, .slice ta tl tc, .slice ea el ec] 71)) wr ∧ NumOk vn yn F st' ∧ 3 * (F - st'.steps) + 2 ≤ g' ∧ g' ≤ g ∧ rn K kf fs F ins g' 2 k [d] a st' = T) (fun _ wr => 2001 - stepsAt br wr)
  case atStart => exact ⟨rfl, HST.out⟩
  case round =>
    clear HST
    obtain ⟨rfl, g', st', ev', hr, hf, hno, hg', hgg, hrn⟩ := hrel
    have t3 := H0.out.box hf (Nat.le_refl _) s3
    have t4 := H0.out.box hf (Nat.le_refl _) s4
    have t5 := H0.out.box hf (Nat.le_refl _) s5
    have t7 := H0.out.box hf (Nat.le_refl _) s7
    have HS7 := hide s7
    clear s3 s4 s5 s7
    have hBr := H0.out.below ((Fr.of_below hbel).trans hf)
    have hB0r : Below w0.heap.size w0 wr := HB0.out.trans hBr
    obtain ⟨g2, rfl⟩ : ∃ g2, g' = g2 + 1 := ⟨g' - 1, by omega⟩
    have hsteps : stepsAt br wr = st'.steps := by
      have c3 := hr.row 3 _ rfl
      unfold stepsAt
      rw [c3]
      simp [intOf]
    have KV := hide (valueR_any m ga gn gc sa sn sc ya yn yc oa on oc va vn vc fa fn fc ba bn bc xa xn xc F fln c3 w0.heap.size br b1 b2 b3 fl en st' ev' K _ (sExpr d) wr hr (HX.out.over hB0r) (by rw [hno.vl]; exact HOX.out) hno.i32)
    have hun : rn K kf fs F ins (g2 + 1) 2 k [d] a st' = if valX st'.vars K (sExpr d) = 0 then (true, st') else contR (rn K kf fs F ins g2 0 (k - 1) (sThen d) (a + 1) st') (fun st'' => if st''.steps = F then (false, st'') else rn K kf fs F ins g2 2 k [d] a st''.step) := by simp only [rn]
    rw [hun] at hrn
    have HR := hide hr
    have HNO := hide hno
    have HFR := hide hf
    have HG := hide hg'
    have HGG := hide hgg
    have HSP := hide hsteps
    have HB0R := hide hB0r
    by_cases hz : valX st'.vars K (sExpr d) = 0
    · rw [if_pos hz] at hrn
      rw [hz] at KV
      have HRN := hide hrn
      clear hrn hun hr hno hf hg' hsteps hz hBr hB0r HS
      go_wp2_with fail
      refine (KV.out).mono ?_
      rintro e w1 ⟨rfl, hb1⟩
      have HB1 := hide hb1
      clear hb1 KV
      go_wp2_with fail
      go_ret
      rw [← HRN.out]
      exact ⟨rfl, ⟨ev', HR.out.over HB1.out, (Fr.of_below hbel).trans (HFR.out.over HB1.out)⟩, HNO.out⟩
    · rw [if_neg hz] at hrn
      have KS := hide fun W (hW : Below wr.heap.size wr W) => HS.out g2 (by omega) st' ev' W (hr.over hW) (hB0r.trans (hW.mono hB0r.size)) hno (by omega)
      have hgr := (rn_gr K kf fs F ins g2 0 (k - 1) (sThen d) (a + 1) st').steps
      obtain ⟨r, hrr⟩ : ∃ r, r = rn K kf fs F ins g2 0 (k - 1) (sThen d) (a + 1) st' := ⟨_, rfl⟩
      rw [← hrr] at KS hgr hrn
      obtain ⟨vx, hvx⟩ : ∃ q, q = valX st'.vars K (sExpr d) := ⟨_, rfl⟩
      rw [← hvx] at KV hz
      have hzb : (vx == 0) = false := by simpa using hz
      have HRN := hide hrn
      have HGR := hide hgr
      clear hrn hun hr hno hf hg' hgg hsteps hz hBr hB0r HS hvx hrr hgr HX HOX
      go_wp2_with fail
      refine (KV.out).mono ?_
      rintro e w1 ⟨rfl, hb1⟩
      have u7 := cell_over hb1 _ _ t7
      have KS' := hide (KS.out w1 hb1)
      have HB1 := hide hb1
      clear hb1 KV KS t3 t4 t5 t7
      obtain ⟨rb, rs⟩ := r
      cases rb with
      | false =>
        go_wp2_with fail
        refine (KS'.out).mono ?_
        rintro e w2 ⟨he, ⟨ev2, hr2, hf2⟩, hno2⟩
        subst he
        have HF2 := hide (And.intro hr2 ((Fr.of_below hbel).trans ((HFR.out.over HB1.out).trans hf2)))
        have HN2 := hide hno2
        clear hr2 hf2 hno2
        go_wp2_with fail
        go_ret
        rw [← HRN.out]
        exact ⟨rfl, ⟨ev2, HF2.out⟩, HN2.out⟩
      | true =>
        go_wp2_with fail
        refine (KS'.out).mono ?_
        rintro e w2 ⟨he, ⟨ev2, hr2, hf2⟩, hno2⟩
        subst he
        have HR2 := hide hr2
        have HF2 := hide ((HFR.out.over HB1.out).trans hf2)
        have HN2 := hide hno2
        clear hr2 hf2 hno2 KS'
        by_cases hs : rs.steps = F
        · have KN := hide (step_no m ga gn gc sa sn sc ya yn yc oa on oc va vn vc fa fn fc ba bn bc xa xn xc F fln c3 w0.heap.size br b1 b2 b3 fl en rs ev2 w2 HR2.out hs)
          have HHS := hide hs
          clear hs
          go_wp2_with fail
          refine (KN.out).mono ?_
          rintro e w3 ⟨rfl, hr3, hf3⟩
          have HF3 := hide (And.intro hr3 ((Fr.of_below hbel).trans (HF2.out.trans hf3)))
          clear hr3 hf3
          go_wp2_with fail
          go_ret
          rw [← HRN.out]
          have e2 : contR (true, rs) (fun st'' => if st''.steps = F then (false, st'') else rn K kf fs F ins g2 2 k [d] a st''.step) = (false, rs) := by
            unfold contR
            simp only [if_true, HHS.out]
          rw [e2]
          exact ⟨rfl, ⟨ev2, HF3.out⟩, HN2.out⟩
        · have hs2 : rs.steps < F := by have : rs.steps ≤ F := HN2.out.sb; omega
          have KN := hide (step_yes m ga gn gc sa sn sc ya yn yc oa on oc va vn vc fa fn fc ba bn bc xa xn xc F fln c3 w0.heap.size br b1 b2 b3 fl en rs ev2 w2 HR2.out hs2 hF)
          have HHS := hide hs
          clear hs
          go_wp2_with fail
          refine (KN.out).mono ?_
          rintro e w3 ⟨rfl, hr3, hf3⟩
          have HF3 := hide (And.intro hr3 (HF2.out.trans hf3))
          clear hr3 hf3
          go_wp2_with fail
          have hsp := HSP.out
          have hgr : st'.steps ≤ rs.steps := HGR.out
          have hgg := HG.out
          have hst : stepsAt br w3 = rs.steps + 1 := by
            have c3 := HF3.out.1.row 3 _ rfl
            unfold stepsAt
            rw [c3]
            simp [intOf, RSt.step]
          have e2 : contR (true, rs) (fun st'' => if st''.steps = F then (false, st'') else rn K kf fs F ins g2 2 k [d] a st''.step) = rn K kf fs F ins g2 2 k [d] a rs.step := by
            unfold contR
            simp only [if_true, if_neg HHS.out]
          have e3 : rs.step.steps = rs.steps + 1 := rfl
          refine ⟨⟨rfl, g2, rs.step, ev2, HF3.out.1, HF3.out.2, HN2.out.step hs2, by rw [e3]; omega, by have := HGG.out; omega, e2.symm.trans HRN.out⟩, ?_⟩
          rw [hst, hsp]
          omega
end Go.Proofs.Ytpbnmmgocpobcaa.Ex
