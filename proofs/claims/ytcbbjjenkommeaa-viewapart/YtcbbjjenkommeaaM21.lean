/- Checks of commands, whatever they are. -/
import Derived.Test.YtcbbjjenkommeaaM20
namespace Go.Proofs.Ytcbbjjenkommeaa.Ex.Ey
open Go.RowKit
set_option linter.unusedVariables false
/-- what a command's kind does not name. -/
def zerS (d : D) : Prop :=
  ((sKind d = 4 ∨ sKind d = 7 ∨ sKind d = 8) → sVar d = 0) ∧ ((sKind d = 1 ∨ sKind d = 5 ∨ sKind d = 6 ∨ sKind d = 7 ∨ sKind d = 8) → sOther d = 0) ∧ ((sKind d = 2 ∨ sKind d = 3) → numOf (sExpr d) = 0) ∧ (sKind d ≠ 2 → sArgs d = []) ∧ ((sKind d ≠ 7 ∧ sKind d ≠ 8) → sThen d = []) ∧ (sKind d ≠ 7 → sElse d = [])
/-- just what a command must be. -/
def xS1 (K : Nat) (nv ni no : Nat) (funcs : Int) (fs : List FnD) (d : D) : Prop := okS1 K nv ni no funcs fs d ∧ zerS d
def xS (K : Nat) (nv ni no : Nat) (funcs : Int) (fs : List FnD) : Nat → D → Prop
  | 0, _ => False
  | k + 1, d => xS1 K nv ni no funcs fs d ∧ (∀ s ∈ sThen d, xS K nv ni no funcs fs k s) ∧ ∀ s ∈ sElse d, xS K nv ni no funcs fs k s
theorem xS.ok {K nv ni no : Nat} {funcs : Int} {fs : List FnD} : ∀ {k : Nat} {d : D}, xS K nv ni no funcs fs k d → okS K nv ni no funcs fs k d
  | 0, _, h => h
  | k + 1, d, h => ⟨h.1.1, fun s hs => xS.ok (h.2.1 s hs), fun s hs => xS.ok (h.2.2 s hs)⟩
theorem len0 {α : Type} {l : List α} : l.length = 0 ↔ l = [] := List.length_eq_zero_iff

set_option maxHeartbeats 4000000 in
set_option maxRecDepth 100000 in
theorem stmtNone (kd : Int) (hk : ¬ (1 ≤ kd ∧ kd ≤ 8)) (funcs : Int) (m : Int) (ga : Option Addr) (gn gc : Nat) (sa : Option Addr) (sn sc : Nat) (ya : Option Addr) (yn yc : Nat) (oa : Option Addr) (on oc : Nat) (va : Option Addr) (vn vc : Nat) (fa : Option Addr) (fn fc : Nat) (ba : Option Addr) (bn bc : Nat) (vr ot ek en : Int) (xa : Option Addr) (xl xc : Nat) (aa : Option Addr) (al ac : Nat) (ta : Option Addr) (tl tc : Nat) (ea : Option Addr) (el ec : Nat) (w : World) :
    Calls Try.prog 141 #[.agg #[.int .i64 m, .slice ga gn gc, .slice sa sn sc, .slice ya yn yc, .slice oa on oc, .slice va vn vc, .slice fa fn fc, .slice ba bn bc], .agg #[.int .i64 kd, .int .i64 vr, .int .i64 ot, .int .i64 ek, .int .i64 en, .slice xa xl xc, .slice aa al ac, .slice ta tl tc, .slice ea el ec], .int .i64 funcs] w (Goes False w) := by
  have K1 := hide (shapeOfNone kd hk)
  have K2 := hide must_any
  have hbel : Below w.heap.size w ((w.alloc (.cells #[.int .i64 m, .slice ga gn gc, .slice sa sn sc, .slice ya yn yc, .slice oa on oc, .slice va vn vc, .slice fa fn fc, .slice ba bn bc] 125)).alloc (.cells #[.int .i64 kd, .int .i64 vr, .int .i64 ot, .int .i64 ek, .int .i64 en, .slice xa xl xc, .slice aa al ac, .slice ta tl tc, .slice ea el ec] 78)) := ((Below.refl _ w).alloc (Nat.le_refl _) _).alloc (by simp) _
  clear hk
  go_enter Try.func141, Try.ntmps141
  go_wp2_with fail
  refine (K1.out _).mono ?_
  rintro e w1 ⟨rfl, hb1⟩
  have hB1 := hbel.trans (hb1.mono hbel.size)
  have hB2 := hB1.trans (((Below.refl _ w1).alloc (Nat.le_refl _) (.cells #[.bool false, .bool false, .bool false, .bool false, .bool false, .bool false] 201)).mono hB1.size)
  clear hb1 hbel
  go_wp2_with fail
  refine (K2.out _ _ _).mono ?_
  rintro e wz ⟨he, rfl⟩
  have he2 : e = gaveW 7 := by
    rcases he with ⟨he, _⟩ | ⟨_, he⟩
    · cases he
    · exact he
  subst he2
  clear he
  unfold gaveW
  go_wp2_with fail
  exact ⟨rfl, Or.inr ⟨fun h => h, 7, by decide, rfl⟩, hB2⟩

theorem stmtG_any' (K k kf : Nat) (fs : List FnD) (funcs : Int) (m : Int) (ga : Option Addr) (gn gc : Nat) (sa : Option Addr) (sn sc : Nat) (ya : Option Addr) (yn yc : Nat) (oa : Option Addr) (on oc : Nat) (va : Option Addr) (vn vc : Nat) (fa : Option Addr) (fn fc : Nat) (ba : Option Addr) (bn bc : Nat) (cs : List Value) (d : D) (w : World) (hv : vn ≤ 9223372036854775807) (h0f : 0 ≤ funcs) (h1f : funcs ≤ 9223372036854775807) (hyl : yn ≤ 9223372036854775807) (hol : on ≤ 9223372036854775807)
    (hs : RS w K (k + 1) cs d) (hfs : FnsAt w K kf (.slice fa fn fc) fs) (hff : funcs ≤ fs.length) :
    Calls Try.prog 141 #[.agg #[.int .i64 m, .slice ga gn gc, .slice sa sn sc, .slice ya yn yc, .slice oa on oc, .slice va vn vc, .slice fa fn fc, .slice ba bn bc], .agg cs.toArray, .int .i64 funcs] w (Goes (xS1 K vn yn on funcs fs d) w) := by
  obtain ⟨ek, en, xa, xl, xc, aa, ac, ta, tc, ea, ec, rfl, i0, i1, i2, hde, hda, -, -, hek, hen, hxl⟩ := hs.form
  unfold xS1 okS1 zerS
  by_cases hk : 1 ≤ sKind d ∧ sKind d ≤ 8
  · rcases (by omega : sKind d = 1 ∨ sKind d = 2 ∨ sKind d = 3 ∨ sKind d = 4 ∨ sKind d = 5 ∨ sKind d = 6 ∨ sKind d = 7 ∨ sKind d = 8) with h | h | h | h | h | h | h | h
    · have H := stmtG1 K kf fs (sExpr d) (sArgs d) funcs m ga gn gc sa sn sc ya yn yc oa on oc va vn vc fa fn fc ba bn bc (sVar d) (sOther d) ek en xa xl xc aa (sArgs d).length ac ta (sThen d).length tc ea (sElse d).length ec w hv i1 i2 h0f h1f hyl hol hde hda hfs hff
      have e : (sC (sKind d) (sVar d) (sOther d) ek en xa xl xc aa (sArgs d).length ac ta (sThen d).length tc ea (sElse d).length ec).toArray = #[.int .i64 1, .int .i64 (sVar d), .int .i64 (sOther d), .int .i64 ek, .int .i64 en, .slice xa xl xc, .slice aa (sArgs d).length ac, .slice ta (sThen d).length tc, .slice ea (sElse d).length ec] := by rw [h]
      rw [e]
      exact H.mono fun e w' hg => hg.imp (by simp only [len0, h]; first | (constructor <;> (intro hp; simp at hp ⊢; simp_all)) | skip)
    · have H := stmtG2 K kf fs (sExpr d) (sArgs d) funcs m ga gn gc sa sn sc ya yn yc oa on oc va vn vc fa fn fc ba bn bc (sVar d) (sOther d) ek en xa xl xc aa (sArgs d).length ac ta (sThen d).length tc ea (sElse d).length ec w hv i1 i2 h0f h1f hyl hol hde hda hfs hff
      have e : (sC (sKind d) (sVar d) (sOther d) ek en xa xl xc aa (sArgs d).length ac ta (sThen d).length tc ea (sElse d).length ec).toArray = #[.int .i64 2, .int .i64 (sVar d), .int .i64 (sOther d), .int .i64 ek, .int .i64 en, .slice xa xl xc, .slice aa (sArgs d).length ac, .slice ta (sThen d).length tc, .slice ea (sElse d).length ec] := by rw [h]
      rw [e]
      exact H.mono fun e w' hg => hg.imp (by simp only [len0, hek, hen, hxl, h]; first | (constructor <;> (intro hp; simp at hp ⊢; simp_all)) | skip)
    · have H := stmtG3 K kf fs (sExpr d) (sArgs d) funcs m ga gn gc sa sn sc ya yn yc oa on oc va vn vc fa fn fc ba bn bc (sVar d) (sOther d) ek en xa xl xc aa (sArgs d).length ac ta (sThen d).length tc ea (sElse d).length ec w hv i1 i2 h0f h1f hyl hol hde hda hfs hff
      have e : (sC (sKind d) (sVar d) (sOther d) ek en xa xl xc aa (sArgs d).length ac ta (sThen d).length tc ea (sElse d).length ec).toArray = #[.int .i64 3, .int .i64 (sVar d), .int .i64 (sOther d), .int .i64 ek, .int .i64 en, .slice xa xl xc, .slice aa (sArgs d).length ac, .slice ta (sThen d).length tc, .slice ea (sElse d).length ec] := by rw [h]
      rw [e]
      exact H.mono fun e w' hg => hg.imp (by simp only [len0, hek, hen, hxl, h]; first | (constructor <;> (intro hp; simp at hp ⊢; simp_all)) | skip)
    · have H := stmtG4 K kf fs (sExpr d) (sArgs d) funcs m ga gn gc sa sn sc ya yn yc oa on oc va vn vc fa fn fc ba bn bc (sVar d) (sOther d) ek en xa xl xc aa (sArgs d).length ac ta (sThen d).length tc ea (sElse d).length ec w hv i1 i2 h0f h1f hyl hol hde hda hfs hff
      have e : (sC (sKind d) (sVar d) (sOther d) ek en xa xl xc aa (sArgs d).length ac ta (sThen d).length tc ea (sElse d).length ec).toArray = #[.int .i64 4, .int .i64 (sVar d), .int .i64 (sOther d), .int .i64 ek, .int .i64 en, .slice xa xl xc, .slice aa (sArgs d).length ac, .slice ta (sThen d).length tc, .slice ea (sElse d).length ec] := by rw [h]
      rw [e]
      exact H.mono fun e w' hg => hg.imp (by simp only [len0, h]; first | (constructor <;> (intro hp; simp at hp ⊢; simp_all)) | skip)
    · have H := stmtG5 K kf fs (sExpr d) (sArgs d) funcs m ga gn gc sa sn sc ya yn yc oa on oc va vn vc fa fn fc ba bn bc (sVar d) (sOther d) ek en xa xl xc aa (sArgs d).length ac ta (sThen d).length tc ea (sElse d).length ec w hv i1 i2 h0f h1f hyl hol hde hda hfs hff
      have e : (sC (sKind d) (sVar d) (sOther d) ek en xa xl xc aa (sArgs d).length ac ta (sThen d).length tc ea (sElse d).length ec).toArray = #[.int .i64 5, .int .i64 (sVar d), .int .i64 (sOther d), .int .i64 ek, .int .i64 en, .slice xa xl xc, .slice aa (sArgs d).length ac, .slice ta (sThen d).length tc, .slice ea (sElse d).length ec] := by rw [h]
      rw [e]
      exact H.mono fun e w' hg => hg.imp (by simp only [len0, h]; first | (constructor <;> (intro hp; simp at hp ⊢; simp_all)) | skip)
    · have H := stmtG6 K kf fs (sExpr d) (sArgs d) funcs m ga gn gc sa sn sc ya yn yc oa on oc va vn vc fa fn fc ba bn bc (sVar d) (sOther d) ek en xa xl xc aa (sArgs d).length ac ta (sThen d).length tc ea (sElse d).length ec w hv i1 i2 h0f h1f hyl hol hde hda hfs hff
      have e : (sC (sKind d) (sVar d) (sOther d) ek en xa xl xc aa (sArgs d).length ac ta (sThen d).length tc ea (sElse d).length ec).toArray = #[.int .i64 6, .int .i64 (sVar d), .int .i64 (sOther d), .int .i64 ek, .int .i64 en, .slice xa xl xc, .slice aa (sArgs d).length ac, .slice ta (sThen d).length tc, .slice ea (sElse d).length ec] := by rw [h]
      rw [e]
      exact H.mono fun e w' hg => hg.imp (by simp only [len0, h]; first | (constructor <;> (intro hp; simp at hp ⊢; simp_all)) | skip)
    · have H := stmtG7 K kf fs (sExpr d) (sArgs d) funcs m ga gn gc sa sn sc ya yn yc oa on oc va vn vc fa fn fc ba bn bc (sVar d) (sOther d) ek en xa xl xc aa (sArgs d).length ac ta (sThen d).length tc ea (sElse d).length ec w hv i1 i2 h0f h1f hyl hol hde hda hfs hff
      have e : (sC (sKind d) (sVar d) (sOther d) ek en xa xl xc aa (sArgs d).length ac ta (sThen d).length tc ea (sElse d).length ec).toArray = #[.int .i64 7, .int .i64 (sVar d), .int .i64 (sOther d), .int .i64 ek, .int .i64 en, .slice xa xl xc, .slice aa (sArgs d).length ac, .slice ta (sThen d).length tc, .slice ea (sElse d).length ec] := by rw [h]
      rw [e]
      exact H.mono fun e w' hg => hg.imp (by simp only [len0, h]; first | (constructor <;> (intro hp; simp at hp ⊢; simp_all)) | skip)
    · have H := stmtG8 K kf fs (sExpr d) (sArgs d) funcs m ga gn gc sa sn sc ya yn yc oa on oc va vn vc fa fn fc ba bn bc (sVar d) (sOther d) ek en xa xl xc aa (sArgs d).length ac ta (sThen d).length tc ea (sElse d).length ec w hv i1 i2 h0f h1f hyl hol hde hda hfs hff
      have e : (sC (sKind d) (sVar d) (sOther d) ek en xa xl xc aa (sArgs d).length ac ta (sThen d).length tc ea (sElse d).length ec).toArray = #[.int .i64 8, .int .i64 (sVar d), .int .i64 (sOther d), .int .i64 ek, .int .i64 en, .slice xa xl xc, .slice aa (sArgs d).length ac, .slice ta (sThen d).length tc, .slice ea (sElse d).length ec] := by rw [h]
      rw [e]
      exact H.mono fun e w' hg => hg.imp (by simp only [len0, h]; first | (constructor <;> (intro hp; simp at hp ⊢; simp_all)) | skip)
  · exact (stmtNone (sKind d) hk funcs m ga gn gc sa sn sc ya yn yc oa on oc va vn vc fa fn fc ba bn bc (sVar d) (sOther d) ek en xa xl xc aa (sArgs d).length ac ta (sThen d).length tc ea (sElse d).length ec w).mono fun e w' hg => hg.imp ⟨fun hp => hp.elim, fun hp => hk hp.1.1⟩
set_option maxHeartbeats 8000000 in
set_option maxRecDepth 100000 in
theorem stmtsG_any (K kf : Nat) (fs : List FnD) (funcs : Int) (m : Int) (ga : Option Addr) (gn gc : Nat) (sa : Option Addr) (sn sc : Nat) (ya : Option Addr) (yn yc : Nat) (oa : Option Addr) (on oc : Nat) (va : Option Addr) (vn vc : Nat) (fa : Option Addr) (fn fc : Nat) (ba : Option Addr) (bn bc : Nat) (hv : vn ≤ 9223372036854775807) (h0f : 0 ≤ funcs) (h1f : funcs ≤ 9223372036854775807) (hyl : yn ≤ 9223372036854775807) (hol : on ≤ 9223372036854775807) (hff : funcs ≤ fs.length) : ∀ (k : Nat) (v : Value) (l : List D) (w : World), StmtsAt w K k v l → FnsAt w K kf (.slice fa fn fc) fs →
    Calls Try.prog 113 #[.agg #[.int .i64 m, .slice ga gn gc, .slice sa sn sc, .slice ya yn yc, .slice oa on oc, .slice va vn vc, .slice fa fn fc, .slice ba bn bc], v, .int .i64 funcs] w (Goes (∀ s ∈ l, xS K vn yn on funcs fs k s) w) := by
  intro k
  induction k with
  | zero =>
    intro v l w h hf
    obtain rfl := h.zero
    obtain ⟨-, ao, cap, rfl, -⟩ := h
    have hbel : Below w.heap.size w (w.alloc (.cells #[.int .i64 m, .slice ga gn gc, .slice sa sn sc, .slice ya yn yc, .slice oa on oc, .slice va vn vc, .slice fa fn fc, .slice ba bn bc] 125)) := (Below.refl _ w).alloc (Nat.le_refl _) _
    show Calls Try.prog 113 #[.agg #[.int .i64 m, .slice ga gn gc, .slice sa sn sc, .slice ya yn yc, .slice oa on oc, .slice va vn vc, .slice fa fn fc, .slice ba bn bc], .slice ao 0 cap, .int .i64 funcs] w _
    clear hf
    go_enter Try.func113, Try.ntmps113
    go_wp2_with fail
    go_loopw [10] (fun i wr => i = .int .i64 0 ∧ Below w.heap.size w wr) (fun _ _ => 0)
    case atStart => exact ⟨rfl, hbel⟩
    case round =>
      obtain ⟨rfl, hB⟩ := hrel
      go_wp2_with fail
      go_end0
      exact ⟨Or.inl ⟨by simp, rfl⟩, hB⟩
  | succ k ih =>
    intro v l w h hf
    have hlen : l.length ≤ 9223372036854775807 := h.1
    obtain ⟨ao, cap, rfl, hc⟩ := h.2
    have HC := hide hc
    have HF := hide hf
    have IH := hide ih
    have KS := hide fun cs d W (hs : RS W K (k + 1) cs d) (hfs : FnsAt W K (max kf (k + 1)) (.slice fa fn fc) fs) => stmtG_any' K k (max kf (k + 1)) fs funcs m ga gn gc sa sn sc ya yn yc oa on oc va vn vc fa fn fc ba bn bc cs d W hv h0f h1f hyl hol hs hfs hff
    clear hc ih h hf
    have hbel : Below w.heap.size w (w.alloc (.cells #[.int .i64 m, .slice ga gn gc, .slice sa sn sc, .slice ya yn yc, .slice oa on oc, .slice va vn vc, .slice fa fn fc, .slice ba bn bc] 125)) := (Below.refl _ w).alloc (Nat.le_refl _) _
    have c0 : (w.alloc (.cells #[.int .i64 m, .slice ga gn gc, .slice sa sn sc, .slice ya yn yc, .slice oa on oc, .slice va vn vc, .slice fa fn fc, .slice ba bn bc] 125)).cell? ⟨w.heap.size, 0, none⟩ = some (.int .i64 m) := by simp [go_sem]
    have c1 : (w.alloc (.cells #[.int .i64 m, .slice ga gn gc, .slice sa sn sc, .slice ya yn yc, .slice oa on oc, .slice va vn vc, .slice fa fn fc, .slice ba bn bc] 125)).cell? ⟨w.heap.size, 1, none⟩ = some (.slice ga gn gc) := by simp [go_sem]
    have c2 : (w.alloc (.cells #[.int .i64 m, .slice ga gn gc, .slice sa sn sc, .slice ya yn yc, .slice oa on oc, .slice va vn vc, .slice fa fn fc, .slice ba bn bc] 125)).cell? ⟨w.heap.size, 2, none⟩ = some (.slice sa sn sc) := by simp [go_sem]
    have c3 : (w.alloc (.cells #[.int .i64 m, .slice ga gn gc, .slice sa sn sc, .slice ya yn yc, .slice oa on oc, .slice va vn vc, .slice fa fn fc, .slice ba bn bc] 125)).cell? ⟨w.heap.size, 3, none⟩ = some (.slice ya yn yc) := by simp [go_sem]
    have c4 : (w.alloc (.cells #[.int .i64 m, .slice ga gn gc, .slice sa sn sc, .slice ya yn yc, .slice oa on oc, .slice va vn vc, .slice fa fn fc, .slice ba bn bc] 125)).cell? ⟨w.heap.size, 4, none⟩ = some (.slice oa on oc) := by simp [go_sem]
    have c5 : (w.alloc (.cells #[.int .i64 m, .slice ga gn gc, .slice sa sn sc, .slice ya yn yc, .slice oa on oc, .slice va vn vc, .slice fa fn fc, .slice ba bn bc] 125)).cell? ⟨w.heap.size, 5, none⟩ = some (.slice va vn vc) := by simp [go_sem]
    have c6 : (w.alloc (.cells #[.int .i64 m, .slice ga gn gc, .slice sa sn sc, .slice ya yn yc, .slice oa on oc, .slice va vn vc, .slice fa fn fc, .slice ba bn bc] 125)).cell? ⟨w.heap.size, 6, none⟩ = some (.slice fa fn fc) := by simp [go_sem]
    have c7 : (w.alloc (.cells #[.int .i64 m, .slice ga gn gc, .slice sa sn sc, .slice ya yn yc, .slice oa on oc, .slice va vn vc, .slice fa fn fc, .slice ba bn bc] 125)).cell? ⟨w.heap.size, 7, none⟩ = some (.slice ba bn bc) := by simp [go_sem]
    go_enter Try.func113, Try.ntmps113
    go_wp2_with fail
    go_loopw [10] (fun i wr => ∃ j : Nat, j ≤ l.length ∧ i = .int .i64 j ∧ (∀ s ∈ l.take j, xS K vn yn on funcs fs (k + 1) s) ∧ (wr.cell? ⟨w.heap.size, 0, none⟩ = some (.int .i64 m) ∧ wr.cell? ⟨w.heap.size, 1, none⟩ = some (.slice ga gn gc) ∧ wr.cell? ⟨w.heap.size, 2, none⟩ = some (.slice sa sn sc) ∧ wr.cell? ⟨w.heap.size, 3, none⟩ = some (.slice ya yn yc) ∧ wr.cell? ⟨w.heap.size, 4, none⟩ = some (.slice oa on oc) ∧ wr.cell? ⟨w.heap.size, 5, none⟩ = some (.slice va vn vc) ∧ wr.cell? ⟨w.heap.size, 6, none⟩ = some (.slice fa fn fc) ∧ wr.cell? ⟨w.heap.size, 7, none⟩ = some (.slice ba bn bc)) ∧ Below w.heap.size w wr) (fun i _ => l.length - (intOf i).toNat)
    case atStart => exact ⟨0, Nat.zero_le _, rfl, by simp, ⟨c0, c1, c2, c3, c4, c5, c6, c7⟩, hbel⟩
    case round =>
      clear c0 c1 c2 c3 c4 c5 c6 c7 hbel
      obtain ⟨j, hj, rfl, hok, ⟨c0, c1, c2, c3, c4, c5, c6, c7⟩, hB⟩ := hrel
      have HOK := hide hok
      clear hok
      by_cases hjl : j < l.length
      · obtain ⟨b, off, rfl, hcl⟩ := HC.out (by rintro rfl; simp at hjl)
        obtain ⟨cs, hl9, hcs, hr⟩ := hcl j l[j] (List.getElem?_eq_getElem hjl)
        have htk : l.take (j + 1) = l.take j ++ [l[j]] := List.take_succ_eq_append_getElem hjl
        obtain ⟨d, hd⟩ : ∃ d, d = l[j] := ⟨_, rfl⟩
        have hmd := List.getElem_mem hjl
        rw [← hd] at hr htk hmd
        have HMD := hide hmd
        clear hmd
        have HTK := hide htk
        obtain ⟨ek, en, xa, xl, xc, aa, ac, ta, tc, ea, ec, hcse, -, -, -, -, -, hT, hE, -, -, -⟩ := hr.form
        subst hcse
        obtain ⟨kd, hkd⟩ : ∃ q, q = sKind d := ⟨_, rfl⟩
        obtain ⟨vr, hvr⟩ : ∃ q, q = sVar d := ⟨_, rfl⟩
        obtain ⟨ot, hot⟩ : ∃ q, q = sOther d := ⟨_, rfl⟩
        obtain ⟨al, hal⟩ : ∃ q, q = (sArgs d).length := ⟨_, rfl⟩
        obtain ⟨tl, htl⟩ : ∃ q, q = (sThen d).length := ⟨_, rfl⟩
        obtain ⟨el, hel⟩ : ∃ q, q = (sElse d).length := ⟨_, rfl⟩
        rw [← hkd, ← hvr, ← hot, ← hal, ← htl, ← hel] at hcs hr
        rw [← htl] at hT
        rw [← hel] at hE
        have q0 : wr.cell? ⟨b, off + j * 9, none⟩ = _ := cell_over hB _ _ (hcs 0 _ rfl)
        have q1 := cell_over hB _ _ (hcs 1 _ rfl)
        have q2 := cell_over hB _ _ (hcs 2 _ rfl)
        have q3 := cell_over hB _ _ (hcs 3 _ rfl)
        have q4 := cell_over hB _ _ (hcs 4 _ rfl)
        have q5 := cell_over hB _ _ (hcs 5 _ rfl)
        have q6 := cell_over hB _ _ (hcs 6 _ rfl)
        have q7 := cell_over hB _ _ (hcs 7 _ rfl)
        have q8 := cell_over hB _ _ (hcs 8 _ rfl)
        have hba : Below wr.heap.size wr (wr.alloc (.cells #[.int .i64 kd, .int .i64 vr, .int .i64 ot, .int .i64 ek, .int .i64 en, .slice xa xl xc, .slice aa al ac, .slice ta tl tc, .slice ea el ec] 78)) := (Below.refl _ wr).alloc (Nat.le_refl _) _
        have hBa := hB.trans (hba.mono hB.size)
        have f0 := cell_over hba _ _ c0
        have f1 := cell_over hba _ _ c1
        have f2 := cell_over hba _ _ c2
        have f3 := cell_over hba _ _ c3
        have f4 := cell_over hba _ _ c4
        have f5 := cell_over hba _ _ c5
        have f6 := cell_over hba _ _ c6
        have f7 := cell_over hba _ _ c7
        have s0 : (wr.alloc (.cells #[.int .i64 kd, .int .i64 vr, .int .i64 ot, .int .i64 ek, .int .i64 en, .slice xa xl xc, .slice aa al ac, .slice ta tl tc, .slice ea el ec] 78)).cell? ⟨wr.heap.size, 0, none⟩ = some (.int .i64 kd) := by simp [go_sem]
        have s1 : (wr.alloc (.cells #[.int .i64 kd, .int .i64 vr, .int .i64 ot, .int .i64 ek, .int .i64 en, .slice xa xl xc, .slice aa al ac, .slice ta tl tc, .slice ea el ec] 78)).cell? ⟨wr.heap.size, 1, none⟩ = some (.int .i64 vr) := by simp [go_sem]
        have s2 : (wr.alloc (.cells #[.int .i64 kd, .int .i64 vr, .int .i64 ot, .int .i64 ek, .int .i64 en, .slice xa xl xc, .slice aa al ac, .slice ta tl tc, .slice ea el ec] 78)).cell? ⟨wr.heap.size, 2, none⟩ = some (.int .i64 ot) := by simp [go_sem]
        have s3 : (wr.alloc (.cells #[.int .i64 kd, .int .i64 vr, .int .i64 ot, .int .i64 ek, .int .i64 en, .slice xa xl xc, .slice aa al ac, .slice ta tl tc, .slice ea el ec] 78)).cell? ⟨wr.heap.size, 3, none⟩ = some (.int .i64 ek) := by simp [go_sem]
        have s4 : (wr.alloc (.cells #[.int .i64 kd, .int .i64 vr, .int .i64 ot, .int .i64 ek, .int .i64 en, .slice xa xl xc, .slice aa al ac, .slice ta tl tc, .slice ea el ec] 78)).cell? ⟨wr.heap.size, 4, none⟩ = some (.int .i64 en) := by simp [go_sem]
        have s5 : (wr.alloc (.cells #[.int .i64 kd, .int .i64 vr, .int .i64 ot, .int .i64 ek, .int .i64 en, .slice xa xl xc, .slice aa al ac, .slice ta tl tc, .slice ea el ec] 78)).cell? ⟨wr.heap.size, 5, none⟩ = some (.slice xa xl xc) := by simp [go_sem]
        have s6 : (wr.alloc (.cells #[.int .i64 kd, .int .i64 vr, .int .i64 ot, .int .i64 ek, .int .i64 en, .slice xa xl xc, .slice aa al ac, .slice ta tl tc, .slice ea el ec] 78)).cell? ⟨wr.heap.size, 6, none⟩ = some (.slice aa al ac) := by simp [go_sem]
        have s7 : (wr.alloc (.cells #[.int .i64 kd, .int .i64 vr, .int .i64 ot, .int .i64 ek, .int .i64 en, .slice xa xl xc, .slice aa al ac, .slice ta tl tc, .slice ea el ec] 78)).cell? ⟨wr.heap.size, 7, none⟩ = some (.slice ta tl tc) := by simp [go_sem]
        have s8 : (wr.alloc (.cells #[.int .i64 kd, .int .i64 vr, .int .i64 ot, .int .i64 ek, .int .i64 en, .slice xa xl xc, .slice aa al ac, .slice ta tl tc, .slice ea el ec] 78)).cell? ⟨wr.heap.size, 8, none⟩ = some (.slice ea el ec) := by simp [go_sem]
        have K1 := hide (KS.out _ d _ (RS.mono (cell_over hBa) (k + 1) (k + 1) _ d (Nat.le_refl _) hr) ((HF.out.over hBa).mono (Nat.le_max_left _ _)))
        have K2 := hide fun W (hW : Below w.heap.size w W) => IH.out (.slice ta tl tc) (sThen d) W (hT.over hW) (HF.out.over hW)
        have K3 := hide fun W (hW : Below w.heap.size w W) => IH.out (.slice ea el ec) (sElse d) W (hE.over hW) (HF.out.over hW)
        clear hT hE hcs hcl hr hl9 hkd hvr hot hal htl hel hd htk
        go_wp2_with fail
        refine (K1.out).mono ?_
        rintro e w1 ⟨he, hb1⟩
        have hB1 := hBa.trans (hb1.mono hBa.size)
        rcases he with ⟨hp1, rfl⟩ | ⟨hnp, why, hwhy, rfl⟩
        rotate_left
        · have HN := hide (fun hall : ∀ s ∈ l, xS K vn yn on funcs fs (k + 1) s => hnp (hall d HMD.out).1)
          clear hnp
          unfold gaveW
          go_wp2_with fail
          exact ⟨rfl, Or.inr ⟨HN.out, why, hwhy, rfl⟩, hB1⟩
        have HP1 := hide hp1
        have t7 := cell_over hb1 _ _ s7
        have t8 := cell_over hb1 _ _ s8
        have g0 := cell_over hb1 _ _ f0
        have g1 := cell_over hb1 _ _ f1
        have g2 := cell_over hb1 _ _ f2
        have g3 := cell_over hb1 _ _ f3
        have g4 := cell_over hb1 _ _ f4
        have g5 := cell_over hb1 _ _ f5
        have g6 := cell_over hb1 _ _ f6
        have g7 := cell_over hb1 _ _ f7
        have K2' := hide (K2.out w1 hB1)
        clear K1 K2 hp1 hb1 hBa hba hB c0 c1 c2 c3 c4 c5 c6 c7 f0 f1 f2 f3 f4 f5 f6 f7 q0 q1 q2 q3 q4 q5 q6 q7 q8 s0 s1 s2 s3 s4 s5 s6 s7 s8
        go_wp2_with fail
        refine (K2'.out).mono ?_
        rintro e w2 ⟨he, hb2⟩
        have hB2 := hB1.trans (hb2.mono hB1.size)
        rcases he with ⟨hp2, rfl⟩ | ⟨hnp, why, hwhy, rfl⟩
        rotate_left
        · have HN := hide (fun hall : ∀ s ∈ l, xS K vn yn on funcs fs (k + 1) s => hnp (hall d HMD.out).2.1)
          clear hnp
          unfold gaveW
          go_wp2_with fail
          exact ⟨rfl, Or.inr ⟨HN.out, why, hwhy, rfl⟩, hB2⟩
        have HP2 := hide hp2
        have u8 := cell_over hb2 _ _ t8
        have r0 := cell_over hb2 _ _ g0
        have r1 := cell_over hb2 _ _ g1
        have r2 := cell_over hb2 _ _ g2
        have r3 := cell_over hb2 _ _ g3
        have r4 := cell_over hb2 _ _ g4
        have r5 := cell_over hb2 _ _ g5
        have r6 := cell_over hb2 _ _ g6
        have r7 := cell_over hb2 _ _ g7
        have K3' := hide (K3.out w2 hB2)
        clear K2' K3 hp2 hb2 hB1 g0 g1 g2 g3 g4 g5 g6 g7 t7 t8
        go_wp2_with fail
        refine (K3'.out).mono ?_
        rintro e w3 ⟨he, hb3⟩
        have hB3 := hB2.trans (hb3.mono hB2.size)
        rcases he with ⟨hp3, rfl⟩ | ⟨hnp, why, hwhy, rfl⟩
        rotate_left
        · have HN := hide (fun hall : ∀ s ∈ l, xS K vn yn on funcs fs (k + 1) s => hnp (hall d HMD.out).2.2)
          clear hnp
          unfold gaveW
          go_wp2_with fail
          exact ⟨rfl, Or.inr ⟨HN.out, why, hwhy, rfl⟩, hB3⟩
        have z0 := cell_over hb3 _ _ r0
        have z1 := cell_over hb3 _ _ r1
        have z2 := cell_over hb3 _ _ r2
        have z3 := cell_over hb3 _ _ r3
        have z4 := cell_over hb3 _ _ r4
        have z5 := cell_over hb3 _ _ r5
        have z6 := cell_over hb3 _ _ r6
        have z7 := cell_over hb3 _ _ r7
        have hnext : ∀ s ∈ l.take (j + 1), xS K vn yn on funcs fs (k + 1) s := fun s hs => by
          rw [HTK.out, List.mem_append, List.mem_singleton] at hs
          rcases hs with hs | rfl
          · exact HOK.out s hs
          · exact ⟨HP1.out, HP2.out, hp3⟩
        have HNX := hide hnext
        clear hnext hp3 K3' hb3 hB2 r0 r1 r2 r3 r4 r5 r6 r7 u8
        go_wp2_with fail
        exact ⟨⟨j + 1, by omega, by go_num, HNX.out, ⟨z0, z1, z2, z3, z4, z5, z6, z7⟩, hB3⟩, by simp [intOf]; omega⟩
      · have hall : l.take j = l := List.take_of_length_le (by omega)
        have hok2 := HOK.out
        rw [hall] at hok2
        have HOK2 := hide hok2
        clear hok2 hall
        go_wp2_with fail
        go_end0
        exact ⟨Or.inl ⟨HOK2.out, rfl⟩, hB⟩
set_option maxHeartbeats 1000000 in
theorem index_any (vs : List Int) (x : Int) (v : Value) (w : World) (hv : IsInts w v vs) (hl : vs.length ≤ 9223372036854775807) :
    Calls Try.prog 151 #[v, .int .i64 x] w fun e w' => ∃ r : Int, e = .returned (.int .i64 r) ∧ (-1 ≤ r ∧ (0 ≤ r ↔ x ∈ vs)) ∧ ∃ n, w' = w.drewN n := by
  obtain ⟨ao, cap, rfl, hcc⟩ := hv
  have HCC := hide hcc
  clear hcc
  go_enter Try.func151, Try.ntmps151
  go_wp2_with fail
  go_loopw [8] (fun i wr => ∃ k : Nat, k ≤ vs.length ∧ i = .int .i64 k ∧ Hid (x ∉ vs.take k) ∧ ∃ n, wr = w.drewN n) (fun i _ => vs.length - (intOf i).toNat)
  case atStart => exact ⟨0, Nat.zero_le _, rfl, hide (by simp), 0, rfl⟩
  case round =>
    obtain ⟨k, hk, rfl, HX, n, rfl⟩ := hrel
    by_cases hkl : k < vs.length
    · obtain ⟨b, off, rfl, hcl⟩ := HCC.out (by rintro rfl; simp at hkl)
      have q0 := hcl k hkl
      obtain ⟨y, hy⟩ : ∃ y, y = vs[k] := ⟨_, rfl⟩
      rw [← hy] at q0
      have HM : Hid (y ∈ vs) := hide (by rw [hy]; exact List.getElem_mem hkl)
      have HT : Hid (vs.take (k + 1) = vs.take k ++ [y]) := hide (by rw [hy]; exact List.take_succ_eq_append_getElem hkl)
      clear hcl hy
      by_cases hxy : x = y
      · subst hxy
        go_wp2_with fail
        go_ret
        exact ⟨(k : Int), rfl, ⟨by omega, fun _ => HM.out, fun _ => by omega⟩, n, rfl⟩
      · have hb : (x == y) = false := by simpa using hxy
        have HX2 : Hid (x ∉ vs.take (k + 1)) := hide (by rw [HT.out]; simp [hxy]; exact HX.out)
        go_wp2_with fail
        exact ⟨⟨k + 1, by omega, by go_num, HX2, n, rfl⟩, by simp [intOf]; omega⟩
    · have HX2 : Hid (x ∉ vs) := hide (by have := HX.out; rw [List.take_of_length_le (by omega)] at this; exact this)
      go_wp2_with fail
      go_ret
      exact ⟨-1, rfl, ⟨by omega, fun h => absurd h (by omega), fun h => absurd h HX2.out⟩, n, rfl⟩

set_option maxHeartbeats 1000000 in
theorem contains_any (vs : List Int) (x : Int) (v : Value) (w : World) (hv : IsInts w v vs) (hl : vs.length ≤ 9223372036854775807) :
    Calls Try.prog 139 #[v, .int .i64 x] w fun e w' => e = .returned (.bool (decide (x ∈ vs))) ∧ ∃ n, w' = w.drewN n := by
  have HI := hide (index_any vs x v w hv hl)
  obtain ⟨ao, cap, rfl, -⟩ := hv
  go_enter Try.func139, Try.ntmps139
  go_wp2_with fail
  refine (HI.out).mono ?_
  rintro e w1 ⟨r, rfl, hr, n, rfl⟩
  clear HI
  have HR := hide hr
  clear hr
  go_wp2_with fail
  go_ret
  refine ⟨?_, n, rfl⟩
  have := HR.out
  by_cases h : x ∈ vs
  · have h0 : 0 ≤ r := this.2.2 h
    simp [h, h0]
  · have h0 : ¬ 0 ≤ r := fun hh => h (this.2.1 hh)
    simp [h, h0]

/-- a function that may be called, with so many ahead of it. -/
def xF (K : Nat) (nv ni no : Nat) (ahead : Int) (fs : List FnD) (k : Nat) (f : FnD) : Prop :=
  f.ps.length ≤ 4 ∧ (∀ p ∈ f.ps, 0 ≤ p ∧ p < nv) ∧ (∀ i (h : i < f.ps.length), f.ps[i] ∉ f.ps.take i) ∧ (∀ s ∈ f.body, xS K nv ni no ahead fs k s) ∧ checkX nv K f.res = 0
theorem xF.ok {K nv ni no : Nat} {ahead : Int} {fs : List FnD} {k : Nat} {f : FnD} (h : xF K nv ni no ahead fs k f) : okF K nv ni no ahead fs k f := ⟨h.1, h.2.1, fun s hs => (h.2.2.2.1 s hs).ok, h.2.2.2.2⟩

set_option maxHeartbeats 8000000 in
set_option maxRecDepth 100000 in
theorem functionG_any (K kf k : Nat) (fs : List FnD) (f : FnD) (funcs : Int) (m : Int) (ga : Option Addr) (gn gc : Nat) (sa : Option Addr) (sn sc : Nat) (ya : Option Addr) (yn yc : Nat) (oa : Option Addr) (on oc : Nat) (va : Option Addr) (vn vc : Nat) (fa : Option Addr) (fn fc : Nat) (ba : Option Addr) (bn bc : Nat) (pa : Option Addr) (pn pc : Nat) (za : Option Addr) (zn zc : Nat) (ek en : Int) (xa : Option Addr) (xl xc : Nat) (w : World)
    (hv : vn ≤ 9223372036854775807) (h0f : 0 ≤ funcs) (h1f : funcs ≤ 9223372036854775807) (hyl : yn ≤ 9223372036854775807) (hol : on ≤ 9223372036854775807) (hff : funcs ≤ fs.length)
    (hp : IsInts w (.slice pa pn pc) f.ps) (hpl : f.ps.length ≤ maxLen) (hpc : pn ≤ pc ∧ pc ≤ maxLen) (hs : StmtsAt w K k (.slice za zn zc) f.body) (hx : RX w K [.int .i64 ek, .int .i64 en, .slice xa xl xc] f.res) (hfs : FnsAt w K kf (.slice fa fn fc) fs) :
    Calls Try.prog 112 #[.agg #[.int .i64 m, .slice ga gn gc, .slice sa sn sc, .slice ya yn yc, .slice oa on oc, .slice va vn vc, .slice fa fn fc, .slice ba bn bc], .agg #[.slice pa pn pc, .slice za zn zc, .int .i64 ek, .int .i64 en, .slice xa xl xc], .int .i64 funcs] w (Goes (xF K vn yn on funcs fs k f) w) := by
  have K1 := hide must_any
  have K2 := hide isOneOf_any
  have KS := hide fun W (hB : Below w.heap.size w W) => stmtsG_any K kf fs funcs m ga gn gc sa sn sc ya yn yc oa on oc va vn vc fa fn fc ba bn bc hv h0f h1f hyl hol hff k (.slice za zn zc) f.body W (hs.over hB) (hfs.over hB)
  have KX := hide fun W (hB : Below w.heap.size w W) => exprG_any K m ga gn gc sa sn sc ya yn yc oa on oc va vn vc fa fn fc ba bn bc _ f.res W (hx.over hB) hv
  have KC := hide fun W (hB : Below w.heap.size w W) (x : Int) (i : Nat) (hi : i ≤ pn) (c : Nat) => contains_any (f.ps.take i) x (.slice pa i c) W
  have hpn : pn = f.ps.length := by obtain ⟨a2, c2, he, -⟩ := hp; injection he
  have HP := hide hp
  have HPN := hide hpn
  have hpn2 : pn ≤ 9223372036854775807 := by rw [hpn]; exact hpl
  obtain ⟨hpc1, hpc2⟩ := hpc
  have hpc3 : pc ≤ 9223372036854775807 := hpc2
  clear hp hpl hs hx hfs hpn hpc2
  have hbel : Below w.heap.size w ((w.alloc (.cells #[.int .i64 m, .slice ga gn gc, .slice sa sn sc, .slice ya yn yc, .slice oa on oc, .slice va vn vc, .slice fa fn fc, .slice ba bn bc] 125)).alloc (.cells #[.slice pa pn pc, .slice za zn zc, .int .i64 ek, .int .i64 en, .slice xa xl xc] 133)) := ((Below.refl _ w).alloc (Nat.le_refl _) _).alloc (by simp) _
  have c0 : ((w.alloc (.cells #[.int .i64 m, .slice ga gn gc, .slice sa sn sc, .slice ya yn yc, .slice oa on oc, .slice va vn vc, .slice fa fn fc, .slice ba bn bc] 125)).alloc (.cells #[.slice pa pn pc, .slice za zn zc, .int .i64 ek, .int .i64 en, .slice xa xl xc] 133)).cell? ⟨w.heap.size, 0, none⟩ = some (.int .i64 m) := by simp [go_sem]
  have c1 : ((w.alloc (.cells #[.int .i64 m, .slice ga gn gc, .slice sa sn sc, .slice ya yn yc, .slice oa on oc, .slice va vn vc, .slice fa fn fc, .slice ba bn bc] 125)).alloc (.cells #[.slice pa pn pc, .slice za zn zc, .int .i64 ek, .int .i64 en, .slice xa xl xc] 133)).cell? ⟨w.heap.size, 1, none⟩ = some (.slice ga gn gc) := by simp [go_sem]
  have c2 : ((w.alloc (.cells #[.int .i64 m, .slice ga gn gc, .slice sa sn sc, .slice ya yn yc, .slice oa on oc, .slice va vn vc, .slice fa fn fc, .slice ba bn bc] 125)).alloc (.cells #[.slice pa pn pc, .slice za zn zc, .int .i64 ek, .int .i64 en, .slice xa xl xc] 133)).cell? ⟨w.heap.size, 2, none⟩ = some (.slice sa sn sc) := by simp [go_sem]
  have c3 : ((w.alloc (.cells #[.int .i64 m, .slice ga gn gc, .slice sa sn sc, .slice ya yn yc, .slice oa on oc, .slice va vn vc, .slice fa fn fc, .slice ba bn bc] 125)).alloc (.cells #[.slice pa pn pc, .slice za zn zc, .int .i64 ek, .int .i64 en, .slice xa xl xc] 133)).cell? ⟨w.heap.size, 3, none⟩ = some (.slice ya yn yc) := by simp [go_sem]
  have c4 : ((w.alloc (.cells #[.int .i64 m, .slice ga gn gc, .slice sa sn sc, .slice ya yn yc, .slice oa on oc, .slice va vn vc, .slice fa fn fc, .slice ba bn bc] 125)).alloc (.cells #[.slice pa pn pc, .slice za zn zc, .int .i64 ek, .int .i64 en, .slice xa xl xc] 133)).cell? ⟨w.heap.size, 4, none⟩ = some (.slice oa on oc) := by simp [go_sem]
  have c5 : ((w.alloc (.cells #[.int .i64 m, .slice ga gn gc, .slice sa sn sc, .slice ya yn yc, .slice oa on oc, .slice va vn vc, .slice fa fn fc, .slice ba bn bc] 125)).alloc (.cells #[.slice pa pn pc, .slice za zn zc, .int .i64 ek, .int .i64 en, .slice xa xl xc] 133)).cell? ⟨w.heap.size, 5, none⟩ = some (.slice va vn vc) := by simp [go_sem]
  have c6 : ((w.alloc (.cells #[.int .i64 m, .slice ga gn gc, .slice sa sn sc, .slice ya yn yc, .slice oa on oc, .slice va vn vc, .slice fa fn fc, .slice ba bn bc] 125)).alloc (.cells #[.slice pa pn pc, .slice za zn zc, .int .i64 ek, .int .i64 en, .slice xa xl xc] 133)).cell? ⟨w.heap.size, 6, none⟩ = some (.slice fa fn fc) := by simp [go_sem]
  have c7 : ((w.alloc (.cells #[.int .i64 m, .slice ga gn gc, .slice sa sn sc, .slice ya yn yc, .slice oa on oc, .slice va vn vc, .slice fa fn fc, .slice ba bn bc] 125)).alloc (.cells #[.slice pa pn pc, .slice za zn zc, .int .i64 ek, .int .i64 en, .slice xa xl xc] 133)).cell? ⟨w.heap.size, 7, none⟩ = some (.slice ba bn bc) := by simp [go_sem]
  have f0 : ((w.alloc (.cells #[.int .i64 m, .slice ga gn gc, .slice sa sn sc, .slice ya yn yc, .slice oa on oc, .slice va vn vc, .slice fa fn fc, .slice ba bn bc] 125)).alloc (.cells #[.slice pa pn pc, .slice za zn zc, .int .i64 ek, .int .i64 en, .slice xa xl xc] 133)).cell? ⟨w.heap.size + 1, 0, none⟩ = some (.slice pa pn pc) := by simp [go_sem]
  have f1 : ((w.alloc (.cells #[.int .i64 m, .slice ga gn gc, .slice sa sn sc, .slice ya yn yc, .slice oa on oc, .slice va vn vc, .slice fa fn fc, .slice ba bn bc] 125)).alloc (.cells #[.slice pa pn pc, .slice za zn zc, .int .i64 ek, .int .i64 en, .slice xa xl xc] 133)).cell? ⟨w.heap.size + 1, 1, none⟩ = some (.slice za zn zc) := by simp [go_sem]
  have f2 : ((w.alloc (.cells #[.int .i64 m, .slice ga gn gc, .slice sa sn sc, .slice ya yn yc, .slice oa on oc, .slice va vn vc, .slice fa fn fc, .slice ba bn bc] 125)).alloc (.cells #[.slice pa pn pc, .slice za zn zc, .int .i64 ek, .int .i64 en, .slice xa xl xc] 133)).cell? ⟨w.heap.size + 1, 2, none⟩ = some (.int .i64 ek) := by simp [go_sem]
  have f3 : ((w.alloc (.cells #[.int .i64 m, .slice ga gn gc, .slice sa sn sc, .slice ya yn yc, .slice oa on oc, .slice va vn vc, .slice fa fn fc, .slice ba bn bc] 125)).alloc (.cells #[.slice pa pn pc, .slice za zn zc, .int .i64 ek, .int .i64 en, .slice xa xl xc] 133)).cell? ⟨w.heap.size + 1, 3, none⟩ = some (.int .i64 en) := by simp [go_sem]
  have f4 : ((w.alloc (.cells #[.int .i64 m, .slice ga gn gc, .slice sa sn sc, .slice ya yn yc, .slice oa on oc, .slice va vn vc, .slice fa fn fc, .slice ba bn bc] 125)).alloc (.cells #[.slice pa pn pc, .slice za zn zc, .int .i64 ek, .int .i64 en, .slice xa xl xc] 133)).cell? ⟨w.heap.size + 1, 4, none⟩ = some (.slice xa xl xc) := by simp [go_sem]
  go_enter Try.func112, Try.ntmps112
  go_wp2_with fail
  refine (K1.out _ _ _).mono ?_
  rintro e wz ⟨he, rfl⟩
  rcases he with ⟨hz, rfl⟩ | ⟨hz, rfl⟩
  rotate_left
  · have HN : Hid (¬ xF K vn yn on funcs fs k f) := hide (fun hf => absurd hf.1 (by rw [← HPN.out]; simp at hz; omega))
    clear hz
    unfold gaveW
    go_wp2_with fail
    exact ⟨rfl, Or.inr ⟨HN.out, 2, by decide, rfl⟩, hbel⟩
  have hp4 : pn ≤ 4 := by simp at hz; omega
  have HP4 : Hid (f.ps.length ≤ 4) := by rw [← HPN.out]; exact hp4
  clear hz hp4
  go_wp2_with fail
  go_loopw [18] (fun i wr => ∃ n : Nat, n ≤ pn ∧ i = .int .i64 n ∧ (∀ p ∈ f.ps.take n, 0 ≤ p ∧ p < (vn : Int)) ∧ (wr.cell? ⟨w.heap.size, 0, none⟩ = some (.int .i64 m) ∧ wr.cell? ⟨w.heap.size, 1, none⟩ = some (.slice ga gn gc) ∧ wr.cell? ⟨w.heap.size, 2, none⟩ = some (.slice sa sn sc) ∧ wr.cell? ⟨w.heap.size, 3, none⟩ = some (.slice ya yn yc) ∧ wr.cell? ⟨w.heap.size, 4, none⟩ = some (.slice oa on oc) ∧ wr.cell? ⟨w.heap.size, 5, none⟩ = some (.slice va vn vc) ∧ wr.cell? ⟨w.heap.size, 6, none⟩ = some (.slice fa fn fc) ∧ wr.cell? ⟨w.heap.size, 7, none⟩ = some (.slice ba bn bc) ∧ wr.cell? ⟨w.heap.size + 1, 0, none⟩ = some (.slice pa pn pc) ∧ wr.cell? ⟨w.heap.size + 1, 1, none⟩ = some (.slice za zn zc) ∧ wr.cell? ⟨w.heap.size + 1, 2, none⟩ = some (.int .i64 ek) ∧ wr.cell? ⟨w.heap.size + 1, 3, none⟩ = some (.int .i64 en) ∧ wr.cell? ⟨w.heap.size + 1, 4, none⟩ = some (.slice xa xl xc)) ∧ Below w.heap.size w wr) (fun i _ => pn - (intOf i).toNat)
  case atStart => exact ⟨0, Nat.zero_le _, rfl, by simp, ⟨c0, c1, c2, c3, c4, c5, c6, c7, f0, f1, f2, f3, f4⟩, hbel⟩
  case round =>
    clear c0 c1 c2 c3 c4 c5 c6 c7 f0 f1 f2 f3 f4 hbel
    obtain ⟨n, hn, rfl, hok, ⟨c0, c1, c2, c3, c4, c5, c6, c7, f0, f1, f2, f3, f4⟩, hB⟩ := hrel
    have HOK := hide hok
    clear hok
    by_cases hnl : n < pn
    · have hnd : n < f.ps.length := by rw [← HPN.out]; exact hnl
      obtain ⟨a2, kk2, he, hpc⟩ := HP.out
      injection he with e1 e2 e3
      subst e1
      obtain ⟨b, off, rfl, hel⟩ := hpc (by intro h; rw [h] at hnd; simp at hnd)
      have q := cell_over hB _ _ (hel n hnd)
      have htk : f.ps.take (n + 1) = f.ps.take n ++ [f.ps[n]] := List.take_succ_eq_append_getElem hnd
      obtain ⟨x, hx⟩ : ∃ q, q = f.ps[n] := ⟨_, rfl⟩
      have hmx := List.getElem_mem hnd
      rw [← hx] at q htk hmx
      have HTK := hide htk
      have HMX := hide hmx
      clear hmx
      clear hpc hel hx htk e2 e3
      go_wp2_with fail
      refine (K2.out _ _ _).mono ?_
      rintro e wz ⟨rfl, rfl⟩
      go_wp2_with fail
      refine (K1.out _ _ _).mono ?_
      rintro e wz ⟨he, rfl⟩
      rcases he with ⟨hvar, rfl⟩ | ⟨hz, rfl⟩
      rotate_left
      · have HN : Hid (¬ xF K vn yn on funcs fs k f) := hide (fun hf => absurd (hf.2.1 x HMX.out) (by simp at hz; omega))
        clear hz
        unfold gaveW
        go_wp2_with fail
        exact ⟨rfl, Or.inr ⟨HN.out, 5, by decide, rfl⟩, hB⟩
      have hv2 : 0 ≤ x ∧ x < vn := by simpa using hvar
      have hnx : ∀ p ∈ f.ps.take (n + 1), 0 ≤ p ∧ p < (vn : Int) := fun p hp => by
        rw [HTK.out, List.mem_append, List.mem_singleton] at hp
        rcases hp with hp | rfl
        · exact HOK.out p hp
        · exact hv2
      have HNX := hide hnx
      clear hnx hv2 hvar
      go_wp2_with fail
      exact ⟨⟨n + 1, by omega, by go_num, HNX.out, ⟨c0, c1, c2, c3, c4, c5, c6, c7, f0, f1, f2, f3, f4⟩, hB⟩, by simp [intOf]; omega⟩
    · have hall : f.ps.take n = f.ps := List.take_of_length_le (by rw [← HPN.out]; omega)
      have hok2 := HOK.out
      rw [hall] at hok2
      have HOK2 := hide hok2
      clear hok2 hall HOK
      obtain ⟨w1, hw1⟩ : ∃ q, q = wr := ⟨_, rfl⟩
      rw [← hw1] at c0 c1 c2 c3 c4 c5 c6 c7 f0 f1 f2 f3 f4 hB ⊢
      clear hw1
      go_wp2_with fail
      go_loopw [33] (fun i wr => ∃ n : Nat, n ≤ pn ∧ i = .int .i64 n ∧ Hid (∀ i (h : i < f.ps.length), i < n → f.ps[i] ∉ f.ps.take i) ∧ (wr.cell? ⟨w.heap.size, 0, none⟩ = some (.int .i64 m) ∧ wr.cell? ⟨w.heap.size, 1, none⟩ = some (.slice ga gn gc) ∧ wr.cell? ⟨w.heap.size, 2, none⟩ = some (.slice sa sn sc) ∧ wr.cell? ⟨w.heap.size, 3, none⟩ = some (.slice ya yn yc) ∧ wr.cell? ⟨w.heap.size, 4, none⟩ = some (.slice oa on oc) ∧ wr.cell? ⟨w.heap.size, 5, none⟩ = some (.slice va vn vc) ∧ wr.cell? ⟨w.heap.size, 6, none⟩ = some (.slice fa fn fc) ∧ wr.cell? ⟨w.heap.size, 7, none⟩ = some (.slice ba bn bc) ∧ wr.cell? ⟨w.heap.size + 1, 0, none⟩ = some (.slice pa pn pc) ∧ wr.cell? ⟨w.heap.size + 1, 1, none⟩ = some (.slice za zn zc) ∧ wr.cell? ⟨w.heap.size + 1, 2, none⟩ = some (.int .i64 ek) ∧ wr.cell? ⟨w.heap.size + 1, 3, none⟩ = some (.int .i64 en) ∧ wr.cell? ⟨w.heap.size + 1, 4, none⟩ = some (.slice xa xl xc)) ∧ Below w.heap.size w wr) (fun i _ => pn - (intOf i).toNat)
      case atStart => exact ⟨0, Nat.zero_le _, rfl, hide (fun i h hi => absurd hi (by omega)), ⟨c0, c1, c2, c3, c4, c5, c6, c7, f0, f1, f2, f3, f4⟩, hB⟩
      case round =>
        clear c0 c1 c2 c3 c4 c5 c6 c7 f0 f1 f2 f3 f4 hB
        obtain ⟨n, hn, rfl, HDI, ⟨c0, c1, c2, c3, c4, c5, c6, c7, f0, f1, f2, f3, f4⟩, hB⟩ := hrel
        by_cases hnl : n < pn
        · have hnd : n < f.ps.length := by rw [← HPN.out]; exact hnl
          obtain ⟨a2, kk2, he, hpc⟩ := HP.out
          injection he with e1 e2 e3
          subst e1
          have hpre := (HP.out.over hB)
          rw [HPN.out] at hpre
          have hpre2 := hpre.prefix (i := n) (by omega) pc
          obtain ⟨b, off, rfl, hel⟩ := hpc (by intro h; rw [h] at hnd; simp at hnd)
          have q := cell_over hB _ _ (hel n hnd)
          obtain ⟨x, hx⟩ : ∃ q, q = f.ps[n] := ⟨_, rfl⟩
          rw [← hx] at q
          have HXE := hide hx
          have HND := hide hnd
          have KC' := hide (contains_any _ x _ _ hpre2 (by simp; omega))
          clear hpc hel hx e2 e3 hpre hpre2
          go_wp2_with fail
          refine (KC'.out).mono ?_
          rintro e w5 ⟨rfl, nd, rfl⟩
          obtain ⟨rb, hrb⟩ : ∃ q, q = decide (x ∈ f.ps.take n) := ⟨_, rfl⟩
          rw [← hrb]
          have HRB := hide hrb
          clear hrb
          have hBd := below_drewN hB nd
          go_wp2_with fail
          refine (K1.out _ _ _).mono ?_
          rintro e wz ⟨he, rfl⟩
          rcases he with ⟨hz, rfl⟩ | ⟨hz, rfl⟩
          rotate_left
          · have HN : Hid (¬ xF K vn yn on funcs fs k f) := hide (fun hf => absurd (hf.2.2.1 n HND.out) (by rw [← HXE.out]; have hq := HRB.out; simp at hz; rw [hz] at hq; simpa using hq))
            clear hz
            unfold gaveW
            go_wp2_with fail
            exact ⟨rfl, Or.inr ⟨HN.out, 6, by decide, rfl⟩, hBd⟩
          have HDI2 : Hid (∀ i (h : i < f.ps.length), i < n + 1 → f.ps[i] ∉ f.ps.take i) := hide (fun i h hi => by
            by_cases hin : i = n
            · subst hin
              rw [← HXE.out]
              have hq := HRB.out
              simp at hz
              rw [hz] at hq
              simpa using hq
            · exact HDI.out i h (by omega))
          clear hz
          go_wp2_with fail
          exact ⟨⟨n + 1, by omega, by go_num, HDI2, ⟨c0, c1, c2, c3, c4, c5, c6, c7, f0, f1, f2, f3, f4⟩, hBd⟩, by simp [intOf]; omega⟩
        · have HDI3 : Hid (∀ i (h : i < f.ps.length), f.ps[i] ∉ f.ps.take i) := hide (fun i h => HDI.out i h (by have := HPN.out; omega))
          have KS' := hide (KS.out _ hB)
          go_wp2_with fail
          refine (KS'.out).mono ?_
          rintro e w6 ⟨he, hb6⟩
          have hB6 := hB.trans (hb6.mono hB.size)
          rcases he with ⟨hbd, rfl⟩ | ⟨hnb, why, hwhy, rfl⟩
          rotate_left
          · have HN : Hid (¬ xF K vn yn on funcs fs k f) := hide (fun hf => hnb hf.2.2.2.1)
            clear hnb
            unfold gaveW
            go_wp2_with fail
            exact ⟨rfl, Or.inr ⟨HN.out, why, hwhy, rfl⟩, hB6⟩
          have HBD := hide hbd
          have r0 := cell_over hb6 _ _ c0
          have r1 := cell_over hb6 _ _ c1
          have r2 := cell_over hb6 _ _ c2
          have r3 := cell_over hb6 _ _ c3
          have r4 := cell_over hb6 _ _ c4
          have r5 := cell_over hb6 _ _ c5
          have r6 := cell_over hb6 _ _ c6
          have r7 := cell_over hb6 _ _ c7
          have g0 := cell_over hb6 _ _ f0
          have g1 := cell_over hb6 _ _ f1
          have g2 := cell_over hb6 _ _ f2
          have g3 := cell_over hb6 _ _ f3
          have g4 := cell_over hb6 _ _ f4
          have KX' := hide (KX.out _ hB6)
          clear hbd hb6 hB c0 c1 c2 c3 c4 c5 c6 c7 f0 f1 f2 f3 f4 KS'
          go_wp2_with fail
          refine (KX'.out).mono ?_
          rintro e w7 ⟨he, hb7⟩
          have hB7 := hB6.trans (hb7.mono hB6.size)
          rcases he with ⟨hex, rfl⟩ | ⟨hnb, why, hwhy, rfl⟩
          rotate_left
          · have HN : Hid (¬ xF K vn yn on funcs fs k f) := hide (fun hf => hnb hf.2.2.2.2)
            clear hnb
            unfold gaveW
            go_wp2_with fail
            exact ⟨rfl, Or.inr ⟨HN.out, why, hwhy, rfl⟩, hB7⟩
          have HEX := hide hex
          clear hex KX'
          go_wp2_with fail
          go_end0
          exact ⟨Or.inl ⟨⟨HP4.out, HOK2.out, HDI3.out, HBD.out, HEX.out⟩, rfl⟩, hB7⟩
end Go.Proofs.Ytcbbjjenkommeaa.Ex.Ey
