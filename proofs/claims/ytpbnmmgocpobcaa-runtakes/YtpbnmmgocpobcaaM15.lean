/- Checks of commands, whatever they are. -/
import Derived.Test.YtpbnmmgocpobcaaM10
import Derived.Test.YtpbnmmgocpobcaaM11
import Derived.Test.YtpbnmmgocpobcaaM12
import Derived.Test.YtpbnmmgocpobcaaM13
import Derived.Test.YtpbnmmgocpobcaaM14
namespace Go.Proofs.Ytpbnmmgocpobcaa.Ex
open Go.RowKit
set_option linter.unusedVariables false

/-- a command that may be done: by itself. -/
def okS1 (K : Nat) (nv ni : Nat) (funcs : Int) (fs : List FnD) (d : D) : Prop :=
  (1 ≤ sKind d ∧ sKind d ≤ 8) ∧ ((sKind d = 1 ∨ sKind d = 2 ∨ sKind d = 3 ∨ sKind d = 5 ∨ sKind d = 6) → 0 ≤ sVar d ∧ sVar d < nv) ∧
  (sKind d = 2 → (0 ≤ sOther d ∧ sOther d < funcs) ∧ (∀ f, fs[(sOther d).toNat]? = some f → f.ps.length = (sArgs d).length) ∧ ∀ a ∈ sArgs d, checkX nv K a = 0) ∧
  (sKind d = 3 → 0 ≤ sOther d ∧ sOther d < ni) ∧ ((sKind d = 1 ∨ 4 ≤ sKind d) → checkX nv K (sExpr d) = 0)
/-- commands that may be done, with those in them. -/
def okS (K : Nat) (nv ni : Nat) (funcs : Int) (fs : List FnD) : Nat → D → Prop
  | 0, _ => False
  | k + 1, d => okS1 K nv ni funcs fs d ∧ (∀ s ∈ sThen d, okS K nv ni funcs fs k s) ∧ ∀ s ∈ sElse d, okS K nv ni funcs fs k s

theorem Goes.imp {p q : Prop} {w : World} {e : Ending} {w' : World} (h : Goes p w e w') (hpq : p → q) : Goes q w e w' := by
  obtain ⟨h, hB⟩ := h
  refine ⟨?_, hB⟩
  rcases h with ⟨hp, he⟩ | h
  · exact Or.inl ⟨hpq hp, he⟩
  · exact Or.inr h

set_option maxHeartbeats 4000000 in
set_option maxRecDepth 100000 in
theorem stmtNone (kd : Int) (hk : ¬ (1 ≤ kd ∧ kd ≤ 8)) (funcs : Int) (m : Int) (ga : Option Addr) (gn gc : Nat) (sa : Option Addr) (sn sc : Nat) (ya : Option Addr) (yn yc : Nat) (oa : Option Addr) (on oc : Nat) (va : Option Addr) (vn vc : Nat) (fa : Option Addr) (fn fc : Nat) (ba : Option Addr) (bn bc : Nat) (vr ot ek en : Int) (xa : Option Addr) (xl xc : Nat) (aa : Option Addr) (al ac : Nat) (ta : Option Addr) (tl tc : Nat) (ea : Option Addr) (el ec : Nat) (w : World) :
    Calls Try.prog 62 #[.agg #[.int .i64 m, .slice ga gn gc, .slice sa sn sc, .slice ya yn yc, .slice oa on oc, .slice va vn vc, .slice fa fn fc, .slice ba bn bc], .agg #[.int .i64 kd, .int .i64 vr, .int .i64 ot, .int .i64 ek, .int .i64 en, .slice xa xl xc, .slice aa al ac, .slice ta tl tc, .slice ea el ec], .int .i64 funcs] w (Goes False w) := by
  have K1 := hide (shapeOfNone kd hk)
  have K2 := hide must_any
  have hbel : Below w.heap.size w ((w.alloc (.cells #[.int .i64 m, .slice ga gn gc, .slice sa sn sc, .slice ya yn yc, .slice oa on oc, .slice va vn vc, .slice fa fn fc, .slice ba bn bc] 75)).alloc (.cells #[.int .i64 kd, .int .i64 vr, .int .i64 ot, .int .i64 ek, .int .i64 en, .slice xa xl xc, .slice aa al ac, .slice ta tl tc, .slice ea el ec] 71)) := ((Below.refl _ w).alloc (Nat.le_refl _) _).alloc (by simp) _
  clear hk
  go_enter Try.func62, Try.ntmps62
  go_wp2_with fail
  refine (K1.out _).mono ?_
  rintro e w1 ⟨rfl, hb1⟩
  have hB1 := hbel.trans (hb1.mono hbel.size)
  have hB2 := hB1.trans (((Below.refl _ w1).alloc (Nat.le_refl _) (.cells #[.bool false, .bool false, .bool false, .bool false, .bool false, .bool false] 117)).mono hB1.size)
  clear hb1 hbel
  go_wp2_with fail
  refine (K2.out _ _ _).mono ?_
  rintro e wz ⟨he, rfl⟩
  have he2 : e = gaveW 7 := by
    rcases he with ⟨he, _⟩ | ⟨_, he⟩
    · cases he
    · exact he
  subst he2
  clear he
  unfold gaveW
  go_wp2_with fail
  exact ⟨rfl, Or.inr ⟨7, by decide, rfl⟩, hB2⟩

theorem stmtG_any' (K k kf : Nat) (fs : List FnD) (funcs : Int) (m : Int) (ga : Option Addr) (gn gc : Nat) (sa : Option Addr) (sn sc : Nat) (ya : Option Addr) (yn yc : Nat) (oa : Option Addr) (on oc : Nat) (va : Option Addr) (vn vc : Nat) (fa : Option Addr) (fn fc : Nat) (ba : Option Addr) (bn bc : Nat) (cs : List Value) (d : D) (w : World) (hv : vn ≤ 9223372036854775807) (h0f : 0 ≤ funcs) (h1f : funcs ≤ 9223372036854775807) (hyl : yn ≤ 9223372036854775807) (hol : on ≤ 9223372036854775807)
    (hs : RS w K (k + 1) cs d) (hfs : FnsAt w K kf (.slice fa fn fc) fs) (hff : funcs ≤ fs.length) :
    Calls Try.prog 62 #[.agg #[.int .i64 m, .slice ga gn gc, .slice sa sn sc, .slice ya yn yc, .slice oa on oc, .slice va vn vc, .slice fa fn fc, .slice ba bn bc], .agg cs.toArray, .int .i64 funcs] w (Goes (okS1 K vn yn funcs fs d) w) := by
  obtain ⟨ek, en, xa, xl, xc, aa, ac, ta, tc, ea, ec, rfl, i0, i1, i2, hde, hda, -, -, -, -, -⟩ := hs.form
  unfold okS1
  by_cases hk : 1 ≤ sKind d ∧ sKind d ≤ 8
  · rcases (by omega : sKind d = 1 ∨ sKind d = 2 ∨ sKind d = 3 ∨ sKind d = 4 ∨ sKind d = 5 ∨ sKind d = 6 ∨ sKind d = 7 ∨ sKind d = 8) with h | h | h | h | h | h | h | h
    · have H := stmtG1 K kf fs (sExpr d) (sArgs d) funcs m ga gn gc sa sn sc ya yn yc oa on oc va vn vc fa fn fc ba bn bc (sVar d) (sOther d) ek en xa xl xc aa (sArgs d).length ac ta (sThen d).length tc ea (sElse d).length ec w hv i1 i2 h0f h1f hyl hol hde hda hfs hff
      have e : (sC (sKind d) (sVar d) (sOther d) ek en xa xl xc aa (sArgs d).length ac ta (sThen d).length tc ea (sElse d).length ec).toArray = #[.int .i64 1, .int .i64 (sVar d), .int .i64 (sOther d), .int .i64 ek, .int .i64 en, .slice xa xl xc, .slice aa (sArgs d).length ac, .slice ta (sThen d).length tc, .slice ea (sElse d).length ec] := by rw [h]
      rw [e]
      exact H.mono fun e w' hg => hg.imp fun hp => ⟨by omega, fun _ => hp.1, fun h => by omega, fun h => by omega, fun _ => hp.2⟩
    · have H := stmtG2 K kf fs (sExpr d) (sArgs d) funcs m ga gn gc sa sn sc ya yn yc oa on oc va vn vc fa fn fc ba bn bc (sVar d) (sOther d) ek en xa xl xc aa (sArgs d).length ac ta (sThen d).length tc ea (sElse d).length ec w hv i1 i2 h0f h1f hyl hol hde hda hfs hff
      have e : (sC (sKind d) (sVar d) (sOther d) ek en xa xl xc aa (sArgs d).length ac ta (sThen d).length tc ea (sElse d).length ec).toArray = #[.int .i64 2, .int .i64 (sVar d), .int .i64 (sOther d), .int .i64 ek, .int .i64 en, .slice xa xl xc, .slice aa (sArgs d).length ac, .slice ta (sThen d).length tc, .slice ea (sElse d).length ec] := by rw [h]
      rw [e]
      exact H.mono fun e w' hg => hg.imp fun hp => ⟨by omega, fun _ => hp.1, fun _ => ⟨hp.2.1, hp.2.2.1, hp.2.2.2⟩, fun h => by omega, fun h => by omega⟩
    · have H := stmtG3 K kf fs (sExpr d) (sArgs d) funcs m ga gn gc sa sn sc ya yn yc oa on oc va vn vc fa fn fc ba bn bc (sVar d) (sOther d) ek en xa xl xc aa (sArgs d).length ac ta (sThen d).length tc ea (sElse d).length ec w hv i1 i2 h0f h1f hyl hol hde hda hfs hff
      have e : (sC (sKind d) (sVar d) (sOther d) ek en xa xl xc aa (sArgs d).length ac ta (sThen d).length tc ea (sElse d).length ec).toArray = #[.int .i64 3, .int .i64 (sVar d), .int .i64 (sOther d), .int .i64 ek, .int .i64 en, .slice xa xl xc, .slice aa (sArgs d).length ac, .slice ta (sThen d).length tc, .slice ea (sElse d).length ec] := by rw [h]
      rw [e]
      exact H.mono fun e w' hg => hg.imp fun hp => ⟨by omega, fun _ => hp.1, fun h => by omega, fun _ => hp.2, fun h => by omega⟩
    · have H := stmtG4 K kf fs (sExpr d) (sArgs d) funcs m ga gn gc sa sn sc ya yn yc oa on oc va vn vc fa fn fc ba bn bc (sVar d) (sOther d) ek en xa xl xc aa (sArgs d).length ac ta (sThen d).length tc ea (sElse d).length ec w hv i1 i2 h0f h1f hyl hol hde hda hfs hff
      have e : (sC (sKind d) (sVar d) (sOther d) ek en xa xl xc aa (sArgs d).length ac ta (sThen d).length tc ea (sElse d).length ec).toArray = #[.int .i64 4, .int .i64 (sVar d), .int .i64 (sOther d), .int .i64 ek, .int .i64 en, .slice xa xl xc, .slice aa (sArgs d).length ac, .slice ta (sThen d).length tc, .slice ea (sElse d).length ec] := by rw [h]
      rw [e]
      exact H.mono fun e w' hg => hg.imp fun hp => ⟨by omega, fun h => by omega, fun h => by omega, fun h => by omega, fun _ => hp.2⟩
    · have H := stmtG5 K kf fs (sExpr d) (sArgs d) funcs m ga gn gc sa sn sc ya yn yc oa on oc va vn vc fa fn fc ba bn bc (sVar d) (sOther d) ek en xa xl xc aa (sArgs d).length ac ta (sThen d).length tc ea (sElse d).length ec w hv i1 i2 h0f h1f hyl hol hde hda hfs hff
      have e : (sC (sKind d) (sVar d) (sOther d) ek en xa xl xc aa (sArgs d).length ac ta (sThen d).length tc ea (sElse d).length ec).toArray = #[.int .i64 5, .int .i64 (sVar d), .int .i64 (sOther d), .int .i64 ek, .int .i64 en, .slice xa xl xc, .slice aa (sArgs d).length ac, .slice ta (sThen d).length tc, .slice ea (sElse d).length ec] := by rw [h]
      rw [e]
      exact H.mono fun e w' hg => hg.imp fun hp => ⟨by omega, fun _ => hp.1, fun h => by omega, fun h => by omega, fun _ => hp.2⟩
    · have H := stmtG6 K kf fs (sExpr d) (sArgs d) funcs m ga gn gc sa sn sc ya yn yc oa on oc va vn vc fa fn fc ba bn bc (sVar d) (sOther d) ek en xa xl xc aa (sArgs d).length ac ta (sThen d).length tc ea (sElse d).length ec w hv i1 i2 h0f h1f hyl hol hde hda hfs hff
      have e : (sC (sKind d) (sVar d) (sOther d) ek en xa xl xc aa (sArgs d).length ac ta (sThen d).length tc ea (sElse d).length ec).toArray = #[.int .i64 6, .int .i64 (sVar d), .int .i64 (sOther d), .int .i64 ek, .int .i64 en, .slice xa xl xc, .slice aa (sArgs d).length ac, .slice ta (sThen d).length tc, .slice ea (sElse d).length ec] := by rw [h]
      rw [e]
      exact H.mono fun e w' hg => hg.imp fun hp => ⟨by omega, fun _ => hp.1, fun h => by omega, fun h => by omega, fun _ => hp.2⟩
    · have H := stmtG7 K kf fs (sExpr d) (sArgs d) funcs m ga gn gc sa sn sc ya yn yc oa on oc va vn vc fa fn fc ba bn bc (sVar d) (sOther d) ek en xa xl xc aa (sArgs d).length ac ta (sThen d).length tc ea (sElse d).length ec w hv i1 i2 h0f h1f hyl hol hde hda hfs hff
      have e : (sC (sKind d) (sVar d) (sOther d) ek en xa xl xc aa (sArgs d).length ac ta (sThen d).length tc ea (sElse d).length ec).toArray = #[.int .i64 7, .int .i64 (sVar d), .int .i64 (sOther d), .int .i64 ek, .int .i64 en, .slice xa xl xc, .slice aa (sArgs d).length ac, .slice ta (sThen d).length tc, .slice ea (sElse d).length ec] := by rw [h]
      rw [e]
      exact H.mono fun e w' hg => hg.imp fun hp => ⟨by omega, fun h => by omega, fun h => by omega, fun h => by omega, fun _ => hp⟩
    · have H := stmtG8 K kf fs (sExpr d) (sArgs d) funcs m ga gn gc sa sn sc ya yn yc oa on oc va vn vc fa fn fc ba bn bc (sVar d) (sOther d) ek en xa xl xc aa (sArgs d).length ac ta (sThen d).length tc ea (sElse d).length ec w hv i1 i2 h0f h1f hyl hol hde hda hfs hff
      have e : (sC (sKind d) (sVar d) (sOther d) ek en xa xl xc aa (sArgs d).length ac ta (sThen d).length tc ea (sElse d).length ec).toArray = #[.int .i64 8, .int .i64 (sVar d), .int .i64 (sOther d), .int .i64 ek, .int .i64 en, .slice xa xl xc, .slice aa (sArgs d).length ac, .slice ta (sThen d).length tc, .slice ea (sElse d).length ec] := by rw [h]
      rw [e]
      exact H.mono fun e w' hg => hg.imp fun hp => ⟨by omega, fun h => by omega, fun h => by omega, fun h => by omega, fun _ => hp⟩
  · exact (stmtNone (sKind d) hk funcs m ga gn gc sa sn sc ya yn yc oa on oc va vn vc fa fn fc ba bn bc (sVar d) (sOther d) ek en xa xl xc aa (sArgs d).length ac ta (sThen d).length tc ea (sElse d).length ec w).mono fun e w' hg => hg.imp fun hp => hp.elim
end Go.Proofs.Ytpbnmmgocpobcaa.Ex
/- Checks of commands, whatever they are: one behind the other. -/
namespace Go.Proofs.Ytpbnmmgocpobcaa.Ex
open Go.RowKit
set_option linter.unusedVariables false

theorem FnsAt.mono {w : World} {K k m : Nat} {v : Value} {l : List FnD} (h : FnsAt w K k v l) (hkm : k ≤ m) : FnsAt w K m v l := by
  obtain ⟨hm, ao, cap, hv, hc⟩ := h
  refine ⟨hm, ao, cap, hv, fun hne => ?_⟩
  obtain ⟨b, off, hao, hel⟩ := hc hne
  refine ⟨b, off, hao, fun i hi => ?_⟩
  obtain ⟨vP, vB, x0, x1, x2, h0, h1, h2, h3, h4, hp, hpl, hs, hx⟩ := hel i hi
  exact ⟨vP, vB, x0, x1, x2, h0, h1, h2, h3, h4, hp, hpl, XS.mono hs (fun _ _ hh => hh) (fun cs d _ hh => RS.mono (fun _ _ q => q) k m cs d hkm hh), hx⟩

set_option maxHeartbeats 8000000 in
set_option maxRecDepth 100000 in
theorem stmtsG_any (K kf : Nat) (fs : List FnD) (funcs : Int) (m : Int) (ga : Option Addr) (gn gc : Nat) (sa : Option Addr) (sn sc : Nat) (ya : Option Addr) (yn yc : Nat) (oa : Option Addr) (on oc : Nat) (va : Option Addr) (vn vc : Nat) (fa : Option Addr) (fn fc : Nat) (ba : Option Addr) (bn bc : Nat) (hv : vn ≤ 9223372036854775807) (h0f : 0 ≤ funcs) (h1f : funcs ≤ 9223372036854775807) (hyl : yn ≤ 9223372036854775807) (hol : on ≤ 9223372036854775807) (hff : funcs ≤ fs.length) : ∀ (k : Nat) (v : Value) (l : List D) (w : World), StmtsAt w K k v l → FnsAt w K kf (.slice fa fn fc) fs →
    Calls Try.prog 45 #[.agg #[.int .i64 m, .slice ga gn gc, .slice sa sn sc, .slice ya yn yc, .slice oa on oc, .slice va vn vc, .slice fa fn fc, .slice ba bn bc], v, .int .i64 funcs] w (Goes (∀ s ∈ l, okS K vn yn funcs fs k s) w) := by
  intro k
  induction k with
  | zero =>
    intro v l w h hf
    obtain rfl := h.zero
    obtain ⟨-, ao, cap, rfl, -⟩ := h
    have hbel : Below w.heap.size w (w.alloc (.cells #[.int .i64 m, .slice ga gn gc, .slice sa sn sc, .slice ya yn yc, .slice oa on oc, .slice va vn vc, .slice fa fn fc, .slice ba bn bc] 75)) := (Below.refl _ w).alloc (Nat.le_refl _) _
    show Calls Try.prog 45 #[.agg #[.int .i64 m, .slice ga gn gc, .slice sa sn sc, .slice ya yn yc, .slice oa on oc, .slice va vn vc, .slice fa fn fc, .slice ba bn bc], .slice ao 0 cap, .int .i64 funcs] w _
    clear hf
    go_enter Try.func45, Try.ntmps45
    go_wp2_with fail
    go_loopw [10] (fun i wr => i = .int .i64 0 ∧ Below w.heap.size w wr) (fun _ _ => 0)
    case atStart => exact ⟨rfl, hbel⟩
    case round =>
      obtain ⟨rfl, hB⟩ := hrel
      go_wp2_with fail
      go_end0
      exact ⟨Or.inl ⟨by simp, rfl⟩, hB⟩
  | succ k ih =>
    intro v l w h hf
    have hlen : l.length ≤ 9223372036854775807 := h.1
    obtain ⟨ao, cap, rfl, hc⟩ := h.2
    have HC := hide hc
    have HF := hide hf
    have IH := hide ih
    have KS := hide fun cs d W (hs : RS W K (k + 1) cs d) (hfs : FnsAt W K (max kf (k + 1)) (.slice fa fn fc) fs) => stmtG_any' K k (max kf (k + 1)) fs funcs m ga gn gc sa sn sc ya yn yc oa on oc va vn vc fa fn fc ba bn bc cs d W hv h0f h1f hyl hol hs hfs hff
    clear hc ih h hf
    have hbel : Below w.heap.size w (w.alloc (.cells #[.int .i64 m, .slice ga gn gc, .slice sa sn sc, .slice ya yn yc, .slice oa on oc, .slice va vn vc, .slice fa fn fc, .slice ba bn bc] 75)) := (Below.refl _ w).alloc (Nat.le_refl _) _
    have c0 : (w.alloc (.cells #[.int .i64 m, .slice ga gn gc, .slice sa sn sc, .slice ya yn yc, .slice oa on oc, .slice va vn vc, .slice fa fn fc, .slice ba bn bc] 75)).cell? ⟨w.heap.size, 0, none⟩ = some (.int .i64 m) := by simp [go_sem]
    have c1 : (w.alloc (.cells #[.int .i64 m, .slice ga gn gc, .slice sa sn sc, .slice ya yn yc, .slice oa on oc, .slice va vn vc, .slice fa fn fc, .slice ba bn bc] 75)).cell? ⟨w.heap.size, 1, none⟩ = some (.slice ga gn gc) := by simp [go_sem]
    have c2 : (w.alloc (.cells #[.int .i64 m, .slice ga gn gc, .slice sa sn sc, .slice ya yn yc, .slice oa on oc, .slice va vn vc, .slice fa fn fc, .slice ba bn bc] 75)).cell? ⟨w.heap.size, 2, none⟩ = some (.slice sa sn sc) := by simp [go_sem]
    have c3 : (w.alloc (.cells #[.int .i64 m, .slice ga gn gc, .slice sa sn sc, .slice ya yn yc, .slice oa on oc, .slice va vn vc, .slice fa fn fc, .slice ba bn bc] 75)).cell? ⟨w.heap.size, 3, none⟩ = some (.slice ya yn yc) := by simp [go_sem]
    have c4 : (w.alloc (.cells #[.int .i64 m, .slice ga gn gc, .slice sa sn sc, .slice ya yn yc, .slice oa on oc, .slice va vn vc, .slice fa fn fc, .slice ba bn bc] 75)).cell? ⟨w.heap.size, 4, none⟩ = some (.slice oa on oc) := by simp [go_sem]
    have c5 : (w.alloc (.cells #[.int .i64 m, .slice ga gn gc, .slice sa sn sc, .slice ya yn yc, .slice oa on oc, .slice va vn vc, .slice fa fn fc, .slice ba bn bc] 75)).cell? ⟨w.heap.size, 5, none⟩ = some (.slice va vn vc) := by simp [go_sem]
    have c6 : (w.alloc (.cells #[.int .i64 m, .slice ga gn gc, .slice sa sn sc, .slice ya yn yc, .slice oa on oc, .slice va vn vc, .slice fa fn fc, .slice ba bn bc] 75)).cell? ⟨w.heap.size, 6, none⟩ = some (.slice fa fn fc) := by simp [go_sem]
    have c7 : (w.alloc (.cells #[.int .i64 m, .slice ga gn gc, .slice sa sn sc, .slice ya yn yc, .slice oa on oc, .slice va vn vc, .slice fa fn fc, .slice ba bn bc] 75)).cell? ⟨w.heap.size, 7, none⟩ = some (.slice ba bn bc) := by simp [go_sem]
    go_enter Try.func45, Try.ntmps45
    go_wp2_with fail
    go_loopw [10] (fun i wr => ∃ j : Nat, j ≤ l.length ∧ i = .int .i64 j ∧ (∀ s ∈ l.take j, okS K vn yn funcs fs (k + 1) s) ∧ (wr.cell? ⟨w.heap.size, 0, none⟩ = some (.int .i64 m) ∧ wr.cell? ⟨w.heap.size, 1, none⟩ = some (.slice ga gn gc) ∧ wr.cell? ⟨w.heap.size, 2, none⟩ = some (.slice sa sn sc) ∧ wr.cell? ⟨w.heap.size, 3, none⟩ = some (.slice ya yn yc) ∧ wr.cell? ⟨w.heap.size, 4, none⟩ = some (.slice oa on oc) ∧ wr.cell? ⟨w.heap.size, 5, none⟩ = some (.slice va vn vc) ∧ wr.cell? ⟨w.heap.size, 6, none⟩ = some (.slice fa fn fc) ∧ wr.cell? ⟨w.heap.size, 7, none⟩ = some (.slice ba bn bc)) ∧ Below w.heap.size w wr) (fun i _ => l.length - (intOf i).toNat)
    case atStart => exact ⟨0, Nat.zero_le _, rfl, by simp, ⟨c0, c1, c2, c3, c4, c5, c6, c7⟩, hbel⟩
    case round =>
      clear c0 c1 c2 c3 c4 c5 c6 c7 hbel
      obtain ⟨j, hj, rfl, hok, ⟨c0, c1, c2, c3, c4, c5, c6, c7⟩, hB⟩ := hrel
      have HOK := hide hok
      clear hok
      by_cases hjl : j < l.length
      · obtain ⟨b, off, rfl, hcl⟩ := HC.out (by rintro rfl; simp at hjl)
        obtain ⟨cs, hl9, hcs, hr⟩ := hcl j l[j] (List.getElem?_eq_getElem hjl)
        have htk : l.take (j + 1) = l.take j ++ [l[j]] := List.take_succ_eq_append_getElem hjl
        obtain ⟨d, hd⟩ : ∃ d, d = l[j] := ⟨_, rfl⟩
        rw [← hd] at hr htk
        have HTK := hide htk
        obtain ⟨ek, en, xa, xl, xc, aa, ac, ta, tc, ea, ec, hcse, -, -, -, -, -, hT, hE, -, -, -⟩ := hr.form
        subst hcse
        obtain ⟨kd, hkd⟩ : ∃ q, q = sKind d := ⟨_, rfl⟩
        obtain ⟨vr, hvr⟩ : ∃ q, q = sVar d := ⟨_, rfl⟩
        obtain ⟨ot, hot⟩ : ∃ q, q = sOther d := ⟨_, rfl⟩
        obtain ⟨al, hal⟩ : ∃ q, q = (sArgs d).length := ⟨_, rfl⟩
        obtain ⟨tl, htl⟩ : ∃ q, q = (sThen d).length := ⟨_, rfl⟩
        obtain ⟨el, hel⟩ : ∃ q, q = (sElse d).length := ⟨_, rfl⟩
        rw [← hkd, ← hvr, ← hot, ← hal, ← htl, ← hel] at hcs hr
        rw [← htl] at hT
        rw [← hel] at hE
        have q0 : wr.cell? ⟨b, off + j * 9, none⟩ = _ := cell_over hB _ _ (hcs 0 _ rfl)
        have q1 := cell_over hB _ _ (hcs 1 _ rfl)
        have q2 := cell_over hB _ _ (hcs 2 _ rfl)
        have q3 := cell_over hB _ _ (hcs 3 _ rfl)
        have q4 := cell_over hB _ _ (hcs 4 _ rfl)
        have q5 := cell_over hB _ _ (hcs 5 _ rfl)
        have q6 := cell_over hB _ _ (hcs 6 _ rfl)
        have q7 := cell_over hB _ _ (hcs 7 _ rfl)
        have q8 := cell_over hB _ _ (hcs 8 _ rfl)
        have hba : Below wr.heap.size wr (wr.alloc (.cells #[.int .i64 kd, .int .i64 vr, .int .i64 ot, .int .i64 ek, .int .i64 en, .slice xa xl xc, .slice aa al ac, .slice ta tl tc, .slice ea el ec] 71)) := (Below.refl _ wr).alloc (Nat.le_refl _) _
        have hBa := hB.trans (hba.mono hB.size)
        have f0 := cell_over hba _ _ c0
        have f1 := cell_over hba _ _ c1
        have f2 := cell_over hba _ _ c2
        have f3 := cell_over hba _ _ c3
        have f4 := cell_over hba _ _ c4
        have f5 := cell_over hba _ _ c5
        have f6 := cell_over hba _ _ c6
        have f7 := cell_over hba _ _ c7
        have s0 : (wr.alloc (.cells #[.int .i64 kd, .int .i64 vr, .int .i64 ot, .int .i64 ek, .int .i64 en, .slice xa xl xc, .slice aa al ac, .slice ta tl tc, .slice ea el ec] 71)).cell? ⟨wr.heap.size, 0, none⟩ = some (.int .i64 kd) := by simp [go_sem]
        have s1 : (wr.alloc (.cells #[.int .i64 kd, .int .i64 vr, .int .i64 ot, .int .i64 ek, .int .i64 en, .slice xa xl xc, .slice aa al ac, .slice ta tl tc, .slice ea el ec] 71)).cell? ⟨wr.heap.size, 1, none⟩ = some (.int .i64 vr) := by simp [go_sem]
        have s2 : (wr.alloc (.cells #[.int .i64 kd, .int .i64 vr, .int .i64 ot, .int .i64 ek, .int .i64 en, .slice xa xl xc, .slice aa al ac, .slice ta tl tc, .slice ea el ec] 71)).cell? ⟨wr.heap.size, 2, none⟩ = some (.int .i64 ot) := by simp [go_sem]
        have s3 : (wr.alloc (.cells #[.int .i64 kd, .int .i64 vr, .int .i64 ot, .int .i64 ek, .int .i64 en, .slice xa xl xc, .slice aa al ac, .slice ta tl tc, .slice ea el ec] 71)).cell? ⟨wr.heap.size, 3, none⟩ = some (.int .i64 ek) := by simp [go_sem]
        have s4 : (wr.alloc (.cells #[.int .i64 kd, .int .i64 vr, .int .i64 ot, .int .i64 ek, .int .i64 en, .slice xa xl xc, .slice aa al ac, .slice ta tl tc, .slice ea el ec] 71)).cell? ⟨wr.heap.size, 4, none⟩ = some (.int .i64 en) := by simp [go_sem]
        have s5 : (wr.alloc (.cells #[.int .i64 kd, .int .i64 vr, .int .i64 ot, .int .i64 ek, .int .i64 en, .slice xa xl xc, .slice aa al ac, .slice ta tl tc, .slice ea el ec] 71)).cell? ⟨wr.heap.size, 5, none⟩ = some (.slice xa xl xc) := by simp [go_sem]
        have s6 : (wr.alloc (.cells #[.int .i64 kd, .int .i64 vr, .int .i64 ot, .int .i64 ek, .int .i64 en, .slice xa xl xc, .slice aa al ac, .slice ta tl tc, .slice ea el ec] 71)).cell? ⟨wr.heap.size, 6, none⟩ = some (.slice aa al ac) := by simp [go_sem]
        have s7 : (wr.alloc (.cells #[.int .i64 kd, .int .i64 vr, .int .i64 ot, .int .i64 ek, .int .i64 en, .slice xa xl xc, .slice aa al ac, .slice ta tl tc, .slice ea el ec] 71)).cell? ⟨wr.heap.size, 7, none⟩ = some (.slice ta tl tc) := by simp [go_sem]
        have s8 : (wr.alloc (.cells #[.int .i64 kd, .int .i64 vr, .int .i64 ot, .int .i64 ek, .int .i64 en, .slice xa xl xc, .slice aa al ac, .slice ta tl tc, .slice ea el ec] 71)).cell? ⟨wr.heap.size, 8, none⟩ = some (.slice ea el ec) := by simp [go_sem]
        have K1 := hide (KS.out _ d _ (RS.mono (cell_over hBa) (k + 1) (k + 1) _ d (Nat.le_refl _) hr) ((HF.out.over hBa).mono (Nat.le_max_left _ _)))
        have K2 := hide fun W (hW : Below w.heap.size w W) => IH.out (.slice ta tl tc) (sThen d) W (hT.over hW) (HF.out.over hW)
        have K3 := hide fun W (hW : Below w.heap.size w W) => IH.out (.slice ea el ec) (sElse d) W (hE.over hW) (HF.out.over hW)
        clear hT hE hcs hcl hr hl9 hkd hvr hot hal htl hel hd htk
        go_wp2_with fail
        refine (K1.out).mono ?_
        rintro e w1 ⟨he, hb1⟩
        have hB1 := hBa.trans (hb1.mono hBa.size)
        rcases he with ⟨hp1, rfl⟩ | ⟨why, hwhy, rfl⟩
        rotate_left
        · unfold gaveW
          go_wp2_with fail
          exact ⟨rfl, Or.inr ⟨why, hwhy, rfl⟩, hB1⟩
        have HP1 := hide hp1
        have t7 := cell_over hb1 _ _ s7
        have t8 := cell_over hb1 _ _ s8
        have g0 := cell_over hb1 _ _ f0
        have g1 := cell_over hb1 _ _ f1
        have g2 := cell_over hb1 _ _ f2
        have g3 := cell_over hb1 _ _ f3
        have g4 := cell_over hb1 _ _ f4
        have g5 := cell_over hb1 _ _ f5
        have g6 := cell_over hb1 _ _ f6
        have g7 := cell_over hb1 _ _ f7
        have K2' := hide (K2.out w1 hB1)
        clear K1 K2 hp1 hb1 hBa hba hB c0 c1 c2 c3 c4 c5 c6 c7 f0 f1 f2 f3 f4 f5 f6 f7 q0 q1 q2 q3 q4 q5 q6 q7 q8 s0 s1 s2 s3 s4 s5 s6 s7 s8
        go_wp2_with fail
        refine (K2'.out).mono ?_
        rintro e w2 ⟨he, hb2⟩
        have hB2 := hB1.trans (hb2.mono hB1.size)
        rcases he with ⟨hp2, rfl⟩ | ⟨why, hwhy, rfl⟩
        rotate_left
        · unfold gaveW
          go_wp2_with fail
          exact ⟨rfl, Or.inr ⟨why, hwhy, rfl⟩, hB2⟩
        have HP2 := hide hp2
        have u8 := cell_over hb2 _ _ t8
        have r0 := cell_over hb2 _ _ g0
        have r1 := cell_over hb2 _ _ g1
        have r2 := cell_over hb2 _ _ g2
        have r3 := cell_over hb2 _ _ g3
        have r4 := cell_over hb2 _ _ g4
        have r5 := cell_over hb2 _ _ g5
        have r6 := cell_over hb2 _ _ g6
        have r7 := cell_over hb2 _ _ g7
        have K3' := hide (K3.out w2 hB2)
        clear K2' K3 hp2 hb2 hB1 g0 g1 g2 g3 g4 g5 g6 g7 t7 t8
        go_wp2_with fail
        refine (K3'.out).mono ?_
        rintro e w3 ⟨he, hb3⟩
        have hB3 := hB2.trans (hb3.mono hB2.size)
        rcases he with ⟨hp3, rfl⟩ | ⟨why, hwhy, rfl⟩
        rotate_left
        · unfold gaveW
          go_wp2_with fail
          exact ⟨rfl, Or.inr ⟨why, hwhy, rfl⟩, hB3⟩
        have z0 := cell_over hb3 _ _ r0
        have z1 := cell_over hb3 _ _ r1
        have z2 := cell_over hb3 _ _ r2
        have z3 := cell_over hb3 _ _ r3
        have z4 := cell_over hb3 _ _ r4
        have z5 := cell_over hb3 _ _ r5
        have z6 := cell_over hb3 _ _ r6
        have z7 := cell_over hb3 _ _ r7
        have hnext : ∀ s ∈ l.take (j + 1), okS K vn yn funcs fs (k + 1) s := fun s hs => by
          rw [HTK.out, List.mem_append, List.mem_singleton] at hs
          rcases hs with hs | rfl
          · exact HOK.out s hs
          · exact ⟨HP1.out, HP2.out, hp3⟩
        have HNX := hide hnext
        clear hnext hp3 K3' hb3 hB2 r0 r1 r2 r3 r4 r5 r6 r7 u8
        go_wp2_with fail
        exact ⟨⟨j + 1, by omega, by go_num, HNX.out, ⟨z0, z1, z2, z3, z4, z5, z6, z7⟩, hB3⟩, by simp [intOf]; omega⟩
      · have hall : l.take j = l := List.take_of_length_le (by omega)
        have hok2 := HOK.out
        rw [hall] at hok2
        have HOK2 := hide hok2
        clear hok2 hall
        go_wp2_with fail
        go_end0
        exact ⟨Or.inl ⟨HOK2.out, rfl⟩, hB⟩
end Go.Proofs.Ytpbnmmgocpobcaa.Ex
