/- Commands that come to others. -/
import Derived.Test.YtpbnmmgocpobcaaM28
namespace Go.Proofs.Ytpbnmmgocpobcaa.Ex
open Go.RowKit
set_option linter.unusedVariables false

theorem okX_check {w : World} {m k : Nat} {cs : List Value} {d : D} (h : RX w k cs d) (hc : checkX m k d = 0) : okX m k d := by
  unfold checkX at hc
  split at hc
  · omega
  · exact okX_of k cs d h (firstX_zero hc)

/-- how a run goes on. -/
def RanR (m : Int) (ga : Option Addr) (gn gc : Nat) (sa : Option Addr) (sn sc : Nat) (ya : Option Addr) (yn yc : Nat) (oa : Option Addr) (on oc : Nat) (va : Option Addr) (vn vc : Nat) (fa : Option Addr) (fn fc : Nat) (ba : Option Addr) (bn bc : Nat) (xa : Option Addr) (xn xc : Nat) (F fln c3 : Nat) (B br b1 b2 b3 : Nat) (fl : List Int) (en : Int) (r : Bool × RSt) (ev : Value) (w : World) (e : Ending) (w' : World) : Prop :=
  e = .returned (.bool r.1) ∧ (∃ ev', RnG B [.int .i64 m, .slice ga gn gc, .slice sa sn sc, .slice ya yn yc, .slice oa on oc, .slice va vn vc, .slice fa fn fc, .slice ba bn bc, .slice xa xn xc, .int .i64 (F : Int), .slice (some ⟨b3, 0, none⟩) fln c3] br b1 b2 b3 fl en r.2 ev' w' ∧ Fr br b1 b2 ev ev' w w') ∧ NumOk vn yn F r.2

set_option maxHeartbeats 2000000 in
set_option maxRecDepth 100000 in
theorem stmtR7 (m : Int) (ga : Option Addr) (gn gc : Nat) (sa : Option Addr) (sn sc : Nat) (ya : Option Addr) (yn yc : Nat) (oa : Option Addr) (on oc : Nat) (va : Option Addr) (vn vc : Nat) (fa : Option Addr) (fn fc : Nat) (ba : Option Addr) (bn bc : Nat) (xa : Option Addr) (xn xc : Nat) (F fln c3 : Nat) (B br b1 b2 b3 : Nat) (fl : List Int) (en : Int) (st : RSt) (ev : Value) (K : Nat) (d : D) (sv : Int) (so ek ex : Int) (pa : Option Addr) (pl pc : Nat) (aa : Option Addr) (al ac : Nat) (ta : Option Addr) (tl tc : Nat) (ea : Option Addr) (el ec : Nat) (a : Int) (n1 : Int) (rT rE : Bool × RSt) (w0 w : World) (h : RnG B [.int .i64 m, .slice ga gn gc, .slice sa sn sc, .slice ya yn yc, .slice oa on oc, .slice va vn vc, .slice fa fn fc, .slice ba bn bc, .slice xa xn xc, .int .i64 (F : Int), .slice (some ⟨b3, 0, none⟩) fln c3] br b1 b2 b3 fl en st ev w) (hB0 : Below w0.heap.size w0 w) (hx : RX w K [.int .i64 ek, .int .i64 ex, .slice pa pl pc] d) (ho : okX st.vars.length K d) (hi : ∀ x ∈ st.vars, I32 x) (ha : 0 ≤ a ∧ a ≤ 100) (hn1 : 0 ≤ n1 ∧ n1 ≤ 100)
    (KT : Hid (∀ W, RnG B [.int .i64 m, .slice ga gn gc, .slice sa sn sc, .slice ya yn yc, .slice oa on oc, .slice va vn vc, .slice fa fn fc, .slice ba bn bc, .slice xa xn xc, .int .i64 (F : Int), .slice (some ⟨b3, 0, none⟩) fln c3] br b1 b2 b3 fl en st ev W → Below w0.heap.size w0 W → Calls Try.prog 23 #[.pointer (some ⟨br, 0, none⟩), .slice ta tl tc, .int .i64 (a + 1)] W (RanR m ga gn gc sa sn sc ya yn yc oa on oc va vn vc fa fn fc ba bn bc xa xn xc F fln c3 B br b1 b2 b3 fl en rT ev W)))
    (KE : Hid (∀ W, RnG B [.int .i64 m, .slice ga gn gc, .slice sa sn sc, .slice ya yn yc, .slice oa on oc, .slice va vn vc, .slice fa fn fc, .slice ba bn bc, .slice xa xn xc, .int .i64 (F : Int), .slice (some ⟨b3, 0, none⟩) fln c3] br b1 b2 b3 fl en st ev W → Below w0.heap.size w0 W → Calls Try.prog 23 #[.pointer (some ⟨br, 0, none⟩), .slice ea el ec, .int .i64 (a + 1 + n1)] W (RanR m ga gn gc sa sn sc ya yn yc oa on oc va vn vc fa fn fc ba bn bc xa xn xc F fln c3 B br b1 b2 b3 fl en rE ev W)))
    (KM : Hid (∀ W, Below w0.heap.size w0 W → Calls Try.prog 30 #[.slice ta tl tc] W fun e w' => e = .returned (.int .i64 n1) ∧ Below W.heap.size W w')) :
    Calls Try.prog 32 #[.pointer (some ⟨br, 0, none⟩), .agg #[.int .i64 7, .int .i64 sv, .int .i64 so, .int .i64 ek, .int .i64 ex, .slice pa pl pc, .slice aa al ac, .slice ta tl tc, .slice ea el ec], .int .i64 a] w (RanR m ga gn gc sa sn sc ya yn yc oa on oc va vn vc fa fn fc ba bn bc xa xn xc F fln c3 B br b1 b2 b3 fl en (if valX st.vars K d = 0 then rE else rT) ev w) := by
  have hbel : Below w.heap.size w (w.alloc (.cells #[.int .i64 7, .int .i64 sv, .int .i64 so, .int .i64 ek, .int .i64 ex, .slice pa pl pc, .slice aa al ac, .slice ta tl tc, .slice ea el ec] 71)) := (Below.refl _ w).alloc (Nat.le_refl _) _
  have h' := h.over hbel
  have KV := hide fun W (hW : Below w.heap.size w W) => valueR_any m ga gn gc sa sn sc ya yn yc oa on oc va vn vc fa fn fc ba bn bc xa xn xc F fln c3 B br b1 b2 b3 fl en st ev K _ d W (h.over hW) (hx.over hW) ho hi
  have H0 := hide h
  obtain ⟨a1, a2⟩ := ha
  obtain ⟨a3, a4⟩ := hn1
  have s0 : (w.alloc (.cells #[.int .i64 7, .int .i64 sv, .int .i64 so, .int .i64 ek, .int .i64 ex, .slice pa pl pc, .slice aa al ac, .slice ta tl tc, .slice ea el ec] 71)).cell? ⟨w.heap.size, 0, none⟩ = some (.int .i64 7) := by simp [go_sem]
  have s1 : (w.alloc (.cells #[.int .i64 7, .int .i64 sv, .int .i64 so, .int .i64 ek, .int .i64 ex, .slice pa pl pc, .slice aa al ac, .slice ta tl tc, .slice ea el ec] 71)).cell? ⟨w.heap.size, 1, none⟩ = some (.int .i64 sv) := by simp [go_sem]
  have s2 : (w.alloc (.cells #[.int .i64 7, .int .i64 sv, .int .i64 so, .int .i64 ek, .int .i64 ex, .slice pa pl pc, .slice aa al ac, .slice ta tl tc, .slice ea el ec] 71)).cell? ⟨w.heap.size, 2, none⟩ = some (.int .i64 so) := by simp [go_sem]
  have s3 : (w.alloc (.cells #[.int .i64 7, .int .i64 sv, .int .i64 so, .int .i64 ek, .int .i64 ex, .slice pa pl pc, .slice aa al ac, .slice ta tl tc, .slice ea el ec] 71)).cell? ⟨w.heap.size, 3, none⟩ = some (.int .i64 ek) := by simp [go_sem]
  have s4 : (w.alloc (.cells #[.int .i64 7, .int .i64 sv, .int .i64 so, .int .i64 ek, .int .i64 ex, .slice pa pl pc, .slice aa al ac, .slice ta tl tc, .slice ea el ec] 71)).cell? ⟨w.heap.size, 4, none⟩ = some (.int .i64 ex) := by simp [go_sem]
  have s5 : (w.alloc (.cells #[.int .i64 7, .int .i64 sv, .int .i64 so, .int .i64 ek, .int .i64 ex, .slice pa pl pc, .slice aa al ac, .slice ta tl tc, .slice ea el ec] 71)).cell? ⟨w.heap.size, 5, none⟩ = some (.slice pa pl pc) := by simp [go_sem]
  have s6 : (w.alloc (.cells #[.int .i64 7, .int .i64 sv, .int .i64 so, .int .i64 ek, .int .i64 ex, .slice pa pl pc, .slice aa al ac, .slice ta tl tc, .slice ea el ec] 71)).cell? ⟨w.heap.size, 6, none⟩ = some (.slice aa al ac) := by simp [go_sem]
  have s7 : (w.alloc (.cells #[.int .i64 7, .int .i64 sv, .int .i64 so, .int .i64 ek, .int .i64 ex, .slice pa pl pc, .slice aa al ac, .slice ta tl tc, .slice ea el ec] 71)).cell? ⟨w.heap.size, 7, none⟩ = some (.slice ta tl tc) := by simp [go_sem]
  have s8 : (w.alloc (.cells #[.int .i64 7, .int .i64 sv, .int .i64 so, .int .i64 ek, .int .i64 ex, .slice pa pl pc, .slice aa al ac, .slice ta tl tc, .slice ea el ec] 71)).cell? ⟨w.heap.size, 8, none⟩ = some (.slice ea el ec) := by simp [go_sem]
  obtain ⟨vx, hvx⟩ : ∃ q, q = valX st.vars K d := ⟨_, rfl⟩
  rw [← hvx] at KV ⊢
  clear h h' hx ho hi hvx
  by_cases hz : vx = 0
  · subst hz
    rw [if_pos rfl]
    go_enter Try.func32, Try.ntmps32
    go_wp2_with fail
    refine (KV.out _ hbel).mono ?_
    rintro e w1 ⟨rfl, hb1⟩
    have t7 := cell_over hb1 _ _ s7
    have t8 := cell_over hb1 _ _ s8
    have hB1 := over_trans hbel hb1
    have HB1 := hide hB1
    have HM := hide (KM.out w1.drew (hB0.trans (hB1.drew.mono hB0.size)))
    have HE := hide fun W (hW : Below w1.drew.heap.size w1.drew W) => KE.out W ((H0.out.over hB1.drew).over hW) ((hB0.trans (hB1.drew.mono hB0.size)).trans (hW.mono (Nat.le_trans hB0.size hB1.size)))
    have HWR : Hid (IntKind.i64.wrap (IntKind.i64.wrap (a + 1) + n1) = a + 1 + n1) := by
      show _ = _
      rw [IntWalk.i64_in (a + 1) (by omega), IntWalk.i64_in _ (by omega)]
    clear KV s0 s1 s2 s3 s4 s5 s6 s7 s8 hb1 hbel KT KM KE hB1 hB0
    obtain ⟨r1, r2⟩ := rE
    go_wp2_with fail
    go_region_held3 (fun W => W.cell? ⟨w.heap.size, 7, none⟩ = some (.slice ta tl tc) ∧ W.cell? ⟨w.heap.size, 8, none⟩ = some (.slice ea el ec)) (first | assumption | exact ⟨t7, t8⟩ | exact ⟨cell_over hbp _ _ (by assumption : _ ∧ _).1, cell_over hbp _ _ (by assumption : _ ∧ _).2⟩ | exact ⟨H0.out.box hft (Nat.le_refl _) (by assumption : _ ∧ _).1, H0.out.box hft (Nat.le_refl _) (by assumption : _ ∧ _).2⟩ | fail) (first | (go_at_call 30; refine (HM.out).mono ?_; rintro e wp ⟨rfl, hbp⟩) | (go_at_call 23; rw [HWR.out]; refine (HE.out _ hbp).mono ?_; rintro e wt ⟨he, ⟨ev', hrt, hft⟩, hno⟩; subst he))
    have HF := hide (And.intro hrt ((Fr.of_below (ev := ev) (br := br) (b1 := b1) (b2 := b2) HB1.out.drew).trans ((Fr.of_below hbp).trans hft)))
    have HN := hide hno
    clear hrt hft hno
    go_wp2_with fail
    go_ret
    exact ⟨rfl, ⟨ev', HF.out⟩, HN.out⟩
  · rw [if_neg hz]
    have hzb : (vx == 0) = false := by simpa using hz
    go_enter Try.func32, Try.ntmps32
    go_wp2_with fail
    refine (KV.out _ hbel).mono ?_
    rintro e w1 ⟨rfl, hb1⟩
    have t7 := cell_over hb1 _ _ s7
    have hB1 := over_trans hbel hb1
    have HE := hide (KT.out w1 (H0.out.over hB1) (hB0.trans (hB1.mono hB0.size)))
    have HB1 := hide hB1
    clear KV s0 s1 s2 s3 s4 s5 s6 s7 s8 hb1 hbel KE KM KT hB1 hB0
    obtain ⟨r1, r2⟩ := rT
    go_wp2_with fail
    refine (HE.out).mono ?_
    rintro e wt ⟨he, ⟨ev', hrt, hft⟩, hno⟩
    subst he
    have HF := hide (And.intro hrt ((Fr.of_below (ev := ev) (br := br) (b1 := b1) (b2 := b2) HB1.out).trans hft))
    have HN := hide hno
    clear hrt hft hno
    go_wp2_with fail
    go_ret
    exact ⟨rfl, ⟨ev', HF.out⟩, HN.out⟩
end Go.Proofs.Ytpbnmmgocpobcaa.Ex
