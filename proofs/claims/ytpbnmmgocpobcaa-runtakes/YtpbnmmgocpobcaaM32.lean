/- Commands one behind the other. -/
import Derived.Test.YtpbnmmgocpobcaaM31
namespace Go.Proofs.Ytpbnmmgocpobcaa.Ex
open Go.RowKit
set_option linter.unusedVariables false

/-- what a run goes by. -/
structure CtxR (K kf : Nat) (m : Int) (ga : Option Addr) (gn gc : Nat) (sa : Option Addr) (sn sc : Nat) (ya : Option Addr) (yn yc : Nat) (oa : Option Addr) (on oc : Nat) (va : Option Addr) (vn vc : Nat) (fa : Option Addr) (fn fc : Nat) (ba : Option Addr) (bn bc : Nat) (xa : Option Addr) (xn xc : Nat) (F fln c3 : Nat) (br b1 b2 b3 : Nat) (fl : List Int) (en : Int) (fs : List FnD) (ins : List (List Int)) (w0 : World) : Prop where
  funcs : FnsAt w0 K kf (.slice fa fn fc) fs
  lists : ListsAt w0 (.slice xa xn xc) ins
  many : ins.length = yn
  long : ∀ x ∈ ins, x.length ≤ 100
  num : ∀ x ∈ ins, ∀ y ∈ x, I32 y
  fuel : F ≤ 2000
  vars : vn ≤ 16
  fnE : fn = fs.length
  fn5 : fs.length ≤ 5
  flE : fl = (List.range (fs.length + 1)).map (fun i => ((cntF kf (fs.take i) : Nat) : Int))
  flN : fln = fs.length + 1
  cnt : cntF kf fs ≤ 50
  body : ∀ i (h : i < fs.length), okF K vn yn (i : Int) fs kf fs[i]

def StmtsC (K kf : Nat) (m : Int) (ga : Option Addr) (gn gc : Nat) (sa : Option Addr) (sn sc : Nat) (ya : Option Addr) (yn yc : Nat) (oa : Option Addr) (on oc : Nat) (va : Option Addr) (vn vc : Nat) (fa : Option Addr) (fn fc : Nat) (ba : Option Addr) (bn bc : Nat) (xa : Option Addr) (xn xc : Nat) (F fln c3 : Nat) (br b1 b2 b3 : Nat) (fl : List Int) (en : Int) (fs : List FnD) (ins : List (List Int)) (w0 : World) (g : Nat) : Prop := ∀ (k : Nat) (v : Value) (l : List D) (c a : Int) (st : RSt) (ev : Value) (w : World), StmtsAt w0 K k v l → c ≤ fs.length → (∀ s ∈ l, okS K vn yn c fs k s) → 0 ≤ a → a + (cnts k l : Nat) ≤ 100 → Below w0.heap.size w0 w → RnG w0.heap.size [.int .i64 m, .slice ga gn gc, .slice sa sn sc, .slice ya yn yc, .slice oa on oc, .slice va vn vc, .slice fa fn fc, .slice ba bn bc, .slice xa xn xc, .int .i64 (F : Int), .slice (some ⟨b3, 0, none⟩) fln c3] br b1 b2 b3 fl en st ev w → NumOk vn yn F st → 3 * (F - st.steps) + 1 ≤ g →
  Calls Try.prog 23 #[.pointer (some ⟨br, 0, none⟩), v, .int .i64 a] w (RanR m ga gn gc sa sn sc ya yn yc oa on oc va vn vc fa fn fc ba bn bc xa xn xc F fln c3 w0.heap.size br b1 b2 b3 fl en (rn K kf fs F ins g 0 k l a st) ev w)

def StmtC (K kf : Nat) (m : Int) (ga : Option Addr) (gn gc : Nat) (sa : Option Addr) (sn sc : Nat) (ya : Option Addr) (yn yc : Nat) (oa : Option Addr) (on oc : Nat) (va : Option Addr) (vn vc : Nat) (fa : Option Addr) (fn fc : Nat) (ba : Option Addr) (bn bc : Nat) (xa : Option Addr) (xn xc : Nat) (F fln c3 : Nat) (br b1 b2 b3 : Nat) (fl : List Int) (en : Int) (fs : List FnD) (ins : List (List Int)) (w0 : World) (g : Nat) : Prop := ∀ (k : Nat) (cs : List Value) (d : D) (c a : Int) (st : RSt) (ev : Value) (w : World), RS w0 K k cs d → c ≤ fs.length → okS K vn yn c fs k d → 0 ≤ a → a + (cntS k d : Nat) ≤ 100 → Below w0.heap.size w0 w → RnG w0.heap.size [.int .i64 m, .slice ga gn gc, .slice sa sn sc, .slice ya yn yc, .slice oa on oc, .slice va vn vc, .slice fa fn fc, .slice ba bn bc, .slice xa xn xc, .int .i64 (F : Int), .slice (some ⟨b3, 0, none⟩) fln c3] br b1 b2 b3 fl en st.step ev w → NumOk vn yn F st → st.steps < F → 3 * (F - (st.steps + 1)) + 3 ≤ g →
  Calls Try.prog 32 #[.pointer (some ⟨br, 0, none⟩), .agg cs.toArray, .int .i64 a] w (RanR m ga gn gc sa sn sc ya yn yc oa on oc va vn vc fa fn fc ba bn bc xa xn xc F fln c3 w0.heap.size br b1 b2 b3 fl en (rn K kf fs F ins g 1 k [d] a st.step) ev w)

theorem StmtsAt.at {w : World} {K k : Nat} {ao : Option Addr} {cap n : Nat} {l : List D} (h : StmtsAt w K k (.slice ao n cap) l) {j : Nat} (hj : j < l.length) :
    ∃ b off cs, ao = some ⟨b, off, none⟩ ∧ (∀ (i : Nat) (u : Value), cs[i]? = some u → w.cell? ⟨b, off + j * 9 + i, none⟩ = some u) ∧ RS w K k cs l[j] := by
  obtain ⟨-, ao', cap', he, hc⟩ := h
  injection he with e1 e2 e3
  obtain ⟨b, off, hb, hel⟩ := hc (by intro hz; rw [hz] at hj; simp at hj)
  obtain ⟨cs, -, hcs, hr⟩ := hel j l[j] (List.getElem?_eq_getElem hj)
  exact ⟨b, off, cs, e1.trans hb, hcs, hr⟩

theorem cnts_drop {k : Nat} {l : List D} {j : Nat} (hj : j < l.length) : cnts k (l.drop j) = cntS k l[j] + cnts k (l.drop (j + 1)) := by
  unfold cnts
  rw [List.drop_eq_getElem_cons hj, List.map_cons, List.sum_cons]

set_option maxHeartbeats 4000000 in
set_option maxRecDepth 100000 in
theorem stmtsR (K kf : Nat) (m : Int) (ga : Option Addr) (gn gc : Nat) (sa : Option Addr) (sn sc : Nat) (ya : Option Addr) (yn yc : Nat) (oa : Option Addr) (on oc : Nat) (va : Option Addr) (vn vc : Nat) (fa : Option Addr) (fn fc : Nat) (ba : Option Addr) (bn bc : Nat) (xa : Option Addr) (xn xc : Nat) (F fln c3 : Nat) (br b1 b2 b3 : Nat) (fl : List Int) (en : Int) (fs : List FnD) (ins : List (List Int)) (w0 : World) (g : Nat) (X : CtxR K kf m ga gn gc sa sn sc ya yn yc oa on oc va vn vc fa fn fc ba bn bc xa xn xc F fln c3 br b1 b2 b3 fl en fs ins w0) (HM : Hid (∀ g', g' < g → StmtC K kf m ga gn gc sa sn sc ya yn yc oa on oc va vn vc fa fn fc ba bn bc xa xn xc F fln c3 br b1 b2 b3 fl en fs ins w0 g')) : StmtsC K kf m ga gn gc sa sn sc ya yn yc oa on oc va vn vc fa fn fc ba bn bc xa xn xc F fln c3 br b1 b2 b3 fl en fs ins w0 g := by
  intro k v l c a st ev w hl hc hok ha hac hB0 h hno hg
  have hlen : l.length ≤ 9223372036854775807 := hl.1
  obtain ⟨ao, cap, rfl, -⟩ := hl.2
  have HL := hide hl
  have HOK := hide hok
  have H0 := hide h
  have HB0 := hide hB0
  have HC := hide hc
  have hF := X.fuel
  obtain ⟨T, hT⟩ : ∃ T, T = rn K kf fs F ins g 0 k l a st := ⟨_, rfl⟩
  rw [← hT]
  have HST : Hid (∃ (j g' : Nat) (st' : RSt) (ev' : Value), j ≤ l.length ∧ 0 ≤ a ∧ a + (cnts k (l.drop j) : Nat) ≤ 100 ∧ RnG w0.heap.size [.int .i64 m, .slice ga gn gc, .slice sa sn sc, .slice ya yn yc, .slice oa on oc, .slice va vn vc, .slice fa fn fc, .slice ba bn bc, .slice xa xn xc, .int .i64 (F : Int), .slice (some ⟨b3, 0, none⟩) fln c3] br b1 b2 b3 fl en st' ev' w ∧ Fr br b1 b2 ev ev' w w ∧ NumOk vn yn F st' ∧ 3 * (F - st'.steps) + 1 ≤ g' ∧ g' ≤ g ∧ rn K kf fs F ins g' 0 k (l.drop j) a st' = T ∧ j = 0) := ⟨0, g, st, ev, Nat.zero_le _, ha, by simpa using hac, h, Fr.refl _ _ _ _ _, hno, hg, Nat.le_refl _, by rw [List.drop_zero]; exact hT.symm, rfl⟩
  clear hl hok hB0 hno hg hT hac ha hc h
  go_enter Try.func23, Try.ntmps23
  go_wp2_with fail
  go_loopw [2, 6, 11] (fun z s i wr => ∃ (j g' : Nat) (st' : RSt) (ev' : Value) (a' : Int), z = .int .i64 a' ∧ s = .bool false ∧ i = .int .i64 j ∧ j ≤ l.length ∧ 0 ≤ a' ∧ a' + (cnts k (l.drop j) : Nat) ≤ 100 ∧ RnG w0.heap.size [.int .i64 m, .slice ga gn gc, .slice sa sn sc, .slice ya yn yc, .slice oa on oc, .slice va vn vc, .slice fa fn fc, .slice ba bn bc, .slice xa xn xc, .int .i64 (F : Int), .slice (some ⟨b3, 0, none⟩) fln c3] br b1 b2 b3 fl en st' ev' wr ∧ Fr br b1 b2 ev ev' w wr ∧ NumOk vn yn F st' ∧ 3 * (F - st'.steps) + 1 ≤ g' ∧ g' ≤ g ∧ rn K kf fs F ins g' 0 k (l.drop j) a' st' = T) (fun _ _ i _ => l.length - (intOf i).toNat)
  case atStart =>
    obtain ⟨j, g', st', ev', i1, i2, i3, i4, i5, i6, i7, i8, i9, rfl⟩ := HST.out
    exact ⟨0, g', st', ev', a, rfl, rfl, rfl, i1, i2, i3, i4, i5, i6, i7, i8, i9⟩
  case round =>
    clear HST
    obtain ⟨j, g', st', ev', a', rfl, rfl, rfl, hj, ha, hac, hr, hf, hno, hg', hgg, hrn⟩ := hrel
    have hB0r : Below w0.heap.size w0 wr := HB0.out.trans (H0.out.below hf)
    obtain ⟨g2, rfl⟩ : ∃ g2, g' = g2 + 1 := ⟨g' - 1, by omega⟩
    have HR := hide hr
    have HFR := hide hf
    have HNO := hide hno
    by_cases hjl : j < l.length
    · obtain ⟨b, off, cs, hao, hcs, hrs⟩ := HL.out.at hjl
      subst hao
      have hdr := cnts_drop (k := k) hjl
      have hun : rn K kf fs F ins (g2 + 1) 0 k (l.drop j) a' st' = if st'.steps = F then (false, st') else contR (rn K kf fs F ins g2 1 k [l[j]] a' st'.step) (fun st'' => rn K kf fs F ins g2 0 k (l.drop (j + 1)) (a' + cntS k l[j]) st'') := by
        rw [List.drop_eq_getElem_cons hjl]
        simp only [rn]
      rw [hun] at hrn
      have hokj := HOK.out l[j] (List.getElem_mem hjl)
      obtain ⟨k', rfl⟩ : ∃ k', k = k' + 1 := by
        cases k with
        | zero => exact hrs.elim
        | succ k => exact ⟨k, rfl⟩
      obtain ⟨d, hd⟩ : ∃ d, d = l[j] := ⟨_, rfl⟩
      rw [← hd] at hrs hdr hrn hokj
      have hrs0 := hrs
      obtain ⟨ek, ex, pa, pl, pc, aa, ac, ta, tc, ea, ec, hcse, -, -, -, -, -, -, -, -, -, -⟩ := hrs0.form
      obtain ⟨kd, hkd⟩ : ∃ q, q = sKind d := ⟨_, rfl⟩
      obtain ⟨sv, hsv⟩ : ∃ q, q = sVar d := ⟨_, rfl⟩
      obtain ⟨so, hso⟩ : ∃ q, q = sOther d := ⟨_, rfl⟩
      obtain ⟨al, hal⟩ : ∃ q, q = (sArgs d).length := ⟨_, rfl⟩
      obtain ⟨tl, htl⟩ : ∃ q, q = (sThen d).length := ⟨_, rfl⟩
      obtain ⟨el, hel⟩ : ∃ q, q = (sElse d).length := ⟨_, rfl⟩
      rw [← hkd, ← hsv, ← hso, ← hal, ← htl, ← hel] at hcse
      subst hcse
      clear hkd hsv hso hal htl hel hd hun
      have q0 : wr.cell? ⟨b, off + j * 9, none⟩ = _ := cell_over hB0r _ _ (hcs 0 _ rfl)
      have q1 := cell_over hB0r _ _ (hcs 1 _ rfl)
      have q2 := cell_over hB0r _ _ (hcs 2 _ rfl)
      have q3 := cell_over hB0r _ _ (hcs 3 _ rfl)
      have q4 := cell_over hB0r _ _ (hcs 4 _ rfl)
      have q5 := cell_over hB0r _ _ (hcs 5 _ rfl)
      have q6 := cell_over hB0r _ _ (hcs 6 _ rfl)
      have q7 := cell_over hB0r _ _ (hcs 7 _ rfl)
      have q8 := cell_over hB0r _ _ (hcs 8 _ rfl)
      have hba : Below wr.heap.size wr (wr.alloc (.cells #[.int .i64 kd, .int .i64 sv, .int .i64 so, .int .i64 ek, .int .i64 ex, .slice pa pl pc, .slice aa al ac, .slice ta tl tc, .slice ea el ec] 71)) := (Below.refl _ wr).alloc (Nat.le_refl _) _
      have hrb := hr.over hba
      have hB0b := hB0r.trans (hba.mono hB0r.size)
      by_cases hsF : st'.steps = F
      · rw [if_pos hsF] at hrn
        have KN := hide (step_no m ga gn gc sa sn sc ya yn yc oa on oc va vn vc fa fn fc ba bn bc xa xn xc F fln c3 w0.heap.size br b1 b2 b3 fl en st' ev' (wr.alloc (.cells #[.int .i64 kd, .int .i64 sv, .int .i64 so, .int .i64 ek, .int .i64 ex, .slice pa pl pc, .slice aa al ac, .slice ta tl tc, .slice ea el ec] 71)) hrb hsF)
        have HRN := hide hrn
        clear hrn hsF hr hf hno hg' hrb hB0b hB0r hcs hrs hokj hdr HM
        go_wp2_with fail
        refine (KN.out).mono ?_
        rintro e w3 ⟨rfl, hr3, hf3⟩
        have HF3 := hide (And.intro hr3 ((HFR.out.over hba).trans hf3))
        clear hr3 hf3
        go_wp2_with fail
        go_ret
        rw [← HRN.out]
        exact ⟨rfl, ⟨ev', HF3.out⟩, HNO.out⟩
      · rw [if_neg hsF] at hrn
        have hsL : st'.steps < F := by have : st'.steps ≤ F := hno.sb; omega
        have KN := hide (step_yes m ga gn gc sa sn sc ya yn yc oa on oc va vn vc fa fn fc ba bn bc xa xn xc F fln c3 w0.heap.size br b1 b2 b3 fl en st' ev' (wr.alloc (.cells #[.int .i64 kd, .int .i64 sv, .int .i64 so, .int .i64 ek, .int .i64 ex, .slice pa pl pc, .slice aa al ac, .slice ta tl tc, .slice ea el ec] 71)) hrb hsL hF)
        have KM := hide fun W (hW : RnG w0.heap.size [.int .i64 m, .slice ga gn gc, .slice sa sn sc, .slice ya yn yc, .slice oa on oc, .slice va vn vc, .slice fa fn fc, .slice ba bn bc, .slice xa xn xc, .int .i64 (F : Int), .slice (some ⟨b3, 0, none⟩) fln c3] br b1 b2 b3 fl en st'.step ev' W) (hBW : Below w0.heap.size w0 W) => HM.out g2 (by omega) (k' + 1) _ d c a' st' ev' W hrs HC.out hokj ha (by omega) hBW hW hno hsL (by omega)
        have KZ := hide fun W (hBW : Below w0.heap.size w0 W) => size_any K (k' + 1) _ d W (RS.mono (cell_over hBW) _ _ _ _ (Nat.le_refl _) hrs) (by omega)
        have hgr := (rn_gr K kf fs F ins g2 1 (k' + 1) [d] a' st'.step).steps
        obtain ⟨R1, hR1⟩ : ∃ q, q = rn K kf fs F ins g2 1 (k' + 1) [d] a' st'.step := ⟨_, rfl⟩
        obtain ⟨N, hN⟩ : ∃ N : Nat, N = cntS (k' + 1) d := ⟨_, rfl⟩
        rw [← hR1] at KM hgr hrn
        rw [← hN] at KZ hdr hrn
        have HRN := hide hrn
        have HGR := hide hgr
        have HB0B := hide hB0b
        have HG' := hide hg'
        have HRB := hide hrb
        have hN100 : N ≤ 100 := by omega
        have HDR := hide hdr
        have HAC := hide hac
        have HGG := hide hgg
        have e0 : (wr.alloc (.cells #[.int .i64 kd, .int .i64 sv, .int .i64 so, .int .i64 ek, .int .i64 ex, .slice pa pl pc, .slice aa al ac, .slice ta tl tc, .slice ea el ec] 71)).cell? ⟨wr.heap.size, 0, none⟩ = some (.int .i64 kd) := by simp [go_sem]
        have e1 : (wr.alloc (.cells #[.int .i64 kd, .int .i64 sv, .int .i64 so, .int .i64 ek, .int .i64 ex, .slice pa pl pc, .slice aa al ac, .slice ta tl tc, .slice ea el ec] 71)).cell? ⟨wr.heap.size, 1, none⟩ = some (.int .i64 sv) := by simp [go_sem]
        have e2 : (wr.alloc (.cells #[.int .i64 kd, .int .i64 sv, .int .i64 so, .int .i64 ek, .int .i64 ex, .slice pa pl pc, .slice aa al ac, .slice ta tl tc, .slice ea el ec] 71)).cell? ⟨wr.heap.size, 2, none⟩ = some (.int .i64 so) := by simp [go_sem]
        have e3 : (wr.alloc (.cells #[.int .i64 kd, .int .i64 sv, .int .i64 so, .int .i64 ek, .int .i64 ex, .slice pa pl pc, .slice aa al ac, .slice ta tl tc, .slice ea el ec] 71)).cell? ⟨wr.heap.size, 3, none⟩ = some (.int .i64 ek) := by simp [go_sem]
        have e4 : (wr.alloc (.cells #[.int .i64 kd, .int .i64 sv, .int .i64 so, .int .i64 ek, .int .i64 ex, .slice pa pl pc, .slice aa al ac, .slice ta tl tc, .slice ea el ec] 71)).cell? ⟨wr.heap.size, 4, none⟩ = some (.int .i64 ex) := by simp [go_sem]
        have e5 : (wr.alloc (.cells #[.int .i64 kd, .int .i64 sv, .int .i64 so, .int .i64 ek, .int .i64 ex, .slice pa pl pc, .slice aa al ac, .slice ta tl tc, .slice ea el ec] 71)).cell? ⟨wr.heap.size, 5, none⟩ = some (.slice pa pl pc) := by simp [go_sem]
        have e6 : (wr.alloc (.cells #[.int .i64 kd, .int .i64 sv, .int .i64 so, .int .i64 ek, .int .i64 ex, .slice pa pl pc, .slice aa al ac, .slice ta tl tc, .slice ea el ec] 71)).cell? ⟨wr.heap.size, 6, none⟩ = some (.slice aa al ac) := by simp [go_sem]
        have e7 : (wr.alloc (.cells #[.int .i64 kd, .int .i64 sv, .int .i64 so, .int .i64 ek, .int .i64 ex, .slice pa pl pc, .slice aa al ac, .slice ta tl tc, .slice ea el ec] 71)).cell? ⟨wr.heap.size, 7, none⟩ = some (.slice ta tl tc) := by simp [go_sem]
        have e8 : (wr.alloc (.cells #[.int .i64 kd, .int .i64 sv, .int .i64 so, .int .i64 ek, .int .i64 ex, .slice pa pl pc, .slice aa al ac, .slice ta tl tc, .slice ea el ec] 71)).cell? ⟨wr.heap.size, 8, none⟩ = some (.slice ea el ec) := by simp [go_sem]
        clear hrn hsF hr hf hno hg' hgg hrb hB0b hB0r hcs hrs hokj hdr HM hgr hR1 hN hac
        obtain ⟨rb, rs⟩ := R1
        go_wp2_with fail
        refine (KN.out).mono ?_
        rintro e w3 ⟨rfl, hr3, hf3⟩
        have hB3 : Below w0.heap.size w0 w3 := HB0B.out.trans (HRB.out.below hf3)
        have KM' := hide (KM.out w3 hr3 hB3)
        have i0 := HR.out.box hf3 (Nat.le_refl _) e0
        have i1 := HR.out.box hf3 (Nat.le_refl _) e1
        have i2 := HR.out.box hf3 (Nat.le_refl _) e2
        have i3 := HR.out.box hf3 (Nat.le_refl _) e3
        have i4 := HR.out.box hf3 (Nat.le_refl _) e4
        have i5 := HR.out.box hf3 (Nat.le_refl _) e5
        have i6 := HR.out.box hf3 (Nat.le_refl _) e6
        have i7 := HR.out.box hf3 (Nat.le_refl _) e7
        have i8 := HR.out.box hf3 (Nat.le_refl _) e8
        have HR3 := hide hr3
        have HF3 := hide hf3
        have HB3 := hide hB3
        clear KN KM hr3 hf3 hB3 e0 e1 e2 e3 e4 e5 e6 e7 e8 q0 q1 q2 q3 q4 q5 q6 q7 q8
        cases rb with
        | false =>
          go_wp2_with fail
          refine (KM'.out).mono ?_
          rintro e w4 ⟨he, ⟨ev4, hr4, hf4⟩, hno4⟩
          subst he
          have HF4 := hide (And.intro hr4 (((HFR.out.over hba).trans HF3.out).trans hf4))
          have HN4 := hide hno4
          clear hr4 hf4 hno4
          go_wp2_with fail
          go_ret
          rw [← HRN.out]
          exact ⟨rfl, ⟨ev4, HF4.out⟩, HN4.out⟩
        | true =>
          go_wp2_with fail
          refine (KM'.out).mono ?_
          rintro e w4 ⟨he, ⟨ev4, hr4, hf4⟩, hno4⟩
          subst he
          have hr4' : RnG w0.heap.size [.int .i64 m, .slice ga gn gc, .slice sa sn sc, .slice ya yn yc, .slice oa on oc, .slice va vn vc, .slice fa fn fc, .slice ba bn bc, .slice xa xn xc, .int .i64 (F : Int), .slice (some ⟨b3, 0, none⟩) fln c3] br b1 b2 b3 fl en rs ev4 w4 := hr4
          have hno4' : NumOk vn yn F rs := hno4
          have HF34 := hide (HF3.out.trans hf4)
          have hB4 : Below w0.heap.size w0 w4 := HB3.out.trans (HR3.out.below hf4)
          have KZ' := hide (KZ.out w4 hB4)
          have j0 := HR.out.box hf4 (Nat.le_refl _) i0
          have j1 := HR.out.box hf4 (Nat.le_refl _) i1
          have j2 := HR.out.box hf4 (Nat.le_refl _) i2
          have j3 := HR.out.box hf4 (Nat.le_refl _) i3
          have j4 := HR.out.box hf4 (Nat.le_refl _) i4
          have j5 := HR.out.box hf4 (Nat.le_refl _) i5
          have j6 := HR.out.box hf4 (Nat.le_refl _) i6
          have j7 := HR.out.box hf4 (Nat.le_refl _) i7
          have j8 := HR.out.box hf4 (Nat.le_refl _) i8
          have HR4 := hide hr4'
          have HN4 := hide hno4'
          clear KM' KZ hr4 hr4' hf4 hno4 hno4' hB4 i0 i1 i2 i3 i4 i5 i6 i7 i8
          go_wp2_with fail
          refine (KZ'.out).mono ?_
          rintro e w5 ⟨rfl, hb5⟩
          have HB5 := hide hb5
          clear hb5 KZ' j0 j1 j2 j3 j4 j5 j6 j7 j8
          go_wp2_with fail
          have hdr := HDR.out
          have hac := HAC.out
          have hgr : st'.step.steps ≤ rs.steps := HGR.out
          have hst : st'.step.steps = st'.steps + 1 := rfl
          have hg' := HG'.out
          have hwr : wrap64 (a' + (N : Int)) = a' + N := by unfold wrap64; omega
          refine ⟨⟨j + 1, g2, rs, ev4, a' + N, by rw [hwr], rfl, by go_num, by omega, by omega, by omega, HR4.out.over HB5.out, ((HFR.out.over hba).trans HF34.out).over HB5.out, HN4.out, by omega, by have := HGG.out; omega, ?_⟩, by simp [intOf]; omega⟩
          rw [← HRN.out]
          rfl
    · have hd : l.drop j = [] := List.drop_eq_nil_of_le (by omega)
      have hun : rn K kf fs F ins (g2 + 1) 0 k (l.drop j) a' st' = (true, st') := by rw [hd]; simp only [rn]
      rw [hun] at hrn
      have HRN := hide hrn
      clear hun hrn hd hr hf hno hg' hgg hac hB0r
      go_wp2_with fail
      go_ret
      rw [← HRN.out]
      exact ⟨rfl, ⟨ev', HR.out, HFR.out⟩, HNO.out⟩
end Go.Proofs.Ytpbnmmgocpobcaa.Ex
