/- Commands one behind the other. -/
import Derived.Test.YtcbbjjenkommeaaM16
namespace Go.Proofs.Ytcbbjjenkommeaa.Ex
open Go.RowKit
set_option linter.unusedVariables false
/-- what a run goes by. -/
structure CtxR (I : ObsI) (K kf : Nat) (m : Int) (ga : Option Addr) (gn gc : Nat) (sa : Option Addr) (sn sc : Nat) (ya : Option Addr) (yn yc : Nat) (oa : Option Addr) (on oc : Nat) (va : Option Addr) (vn vc : Nat) (fa : Option Addr) (fn fc : Nat) (ba : Option Addr) (bn bc : Nat) (xa : Option Addr) (xn xc : Nat) (F fln c3 : Nat) (br b1 b2 b3 : Nat) (fl : List Int) (fs : List FnD) (ins : List (List Int)) (w0 : World) : Prop where
  funcs : FnsAt w0 K kf (.slice fa fn fc) fs
  lists : ListsAt w0 (.slice xa xn xc) ins
  many : ins.length = yn
  long : ∀ x ∈ ins, x.length ≤ 100
  num : ∀ x ∈ ins, ∀ y ∈ x, I32 y
  fuel : F ≤ 2000
  vars : vn ≤ 16
  fnE : fn = fs.length
  fn5 : fs.length ≤ 5
  flE : fl = (List.range (fs.length + 1)).map (fun i => ((cntF kf (fs.take i) : Nat) : Int))
  flN : fln = fs.length + 1
  cnt : cntF kf fs ≤ 50
  may : MayOk I w0 K vn yn on fs
  body : ∀ i (h : i < fs.length), okF K vn yn on (i : Int) fs kf fs[i]

def StmtsC (I : ObsI) (K kf : Nat) (m : Int) (ga : Option Addr) (gn gc : Nat) (sa : Option Addr) (sn sc : Nat) (ya : Option Addr) (yn yc : Nat) (oa : Option Addr) (on oc : Nat) (va : Option Addr) (vn vc : Nat) (fa : Option Addr) (fn fc : Nat) (ba : Option Addr) (bn bc : Nat) (xa : Option Addr) (xn xc : Nat) (F fln c3 : Nat) (br b1 b2 b3 : Nat) (fl : List Int) (fs : List FnD) (ins : List (List Int)) (w0 : World) (g : Nat) : Prop := ∀ (k : Nat) (v : Value) (l : List D) (c a : Int) (dp : Nat) (st : RSt) (ev : Ow) (w : World), StmtsAt w0 K k v l → c ≤ fs.length → (∀ s ∈ l, okS K vn yn on c fs k s) → 0 ≤ a → a + (cnts k l : Nat) ≤ 100 → dp + g ≤ 9000 → Below w0.heap.size w0 w → RnG I w0.heap.size [.int .i64 m, .slice ga gn gc, .slice sa sn sc, .slice ya yn yc, .slice oa on oc, .slice va vn vc, .slice fa fn fc, .slice ba bn bc, .slice xa xn xc, .int .i64 (F : Int), .slice (some ⟨b3, 0, none⟩) fln c3] br b1 b2 b3 fl dp st ev w → NumOk vn yn F st → 3 * (F - st.steps) + 1 ≤ g →
  Calls Try.prog 70 #[.pointer (some ⟨br, 0, none⟩), v, .int .i64 a] w (RanR I m ga gn gc sa sn sc ya yn yc oa on oc va vn vc fa fn fc ba bn bc xa xn xc F fln c3 w0.heap.size br b1 b2 b3 fl dp (rn K kf fs F ins I.ob g 0 k l a dp st) ev w)

def StmtC (I : ObsI) (K kf : Nat) (m : Int) (ga : Option Addr) (gn gc : Nat) (sa : Option Addr) (sn sc : Nat) (ya : Option Addr) (yn yc : Nat) (oa : Option Addr) (on oc : Nat) (va : Option Addr) (vn vc : Nat) (fa : Option Addr) (fn fc : Nat) (ba : Option Addr) (bn bc : Nat) (xa : Option Addr) (xn xc : Nat) (F fln c3 : Nat) (br b1 b2 b3 : Nat) (fl : List Int) (fs : List FnD) (ins : List (List Int)) (w0 : World) (g : Nat) : Prop := ∀ (k : Nat) (cs : List Value) (d : D) (c a : Int) (dp : Nat) (st : RSt) (ev : Ow) (w : World), RS w0 K k cs d → c ≤ fs.length → okS K vn yn on c fs k d → 0 ≤ a → a + (cntS k d : Nat) ≤ 100 → dp + g ≤ 9000 → Below w0.heap.size w0 w → RnG I w0.heap.size [.int .i64 m, .slice ga gn gc, .slice sa sn sc, .slice ya yn yc, .slice oa on oc, .slice va vn vc, .slice fa fn fc, .slice ba bn bc, .slice xa xn xc, .int .i64 (F : Int), .slice (some ⟨b3, 0, none⟩) fln c3] br b1 b2 b3 fl dp st ev w → NumS vn yn F st → ((sKind d = 7 ∨ sKind d = 8) → I.ok (dp + 1) st.o) → 3 * (F - st.steps) + 3 ≤ g →
  Calls Try.prog 104 #[.pointer (some ⟨br, 0, none⟩), .agg cs.toArray, .int .i64 a] w (RanR I m ga gn gc sa sn sc ya yn yc oa on oc va vn vc fa fn fc ba bn bc xa xn xc F fln c3 w0.heap.size br b1 b2 b3 fl dp (rn K kf fs F ins I.ob g 1 k [d] a dp st) ev w)

theorem StmtsAt.at {w : World} {K k : Nat} {ao : Option Addr} {cap n : Nat} {l : List D} (h : StmtsAt w K k (.slice ao n cap) l) {j : Nat} (hj : j < l.length) :
    ∃ b off cs, ao = some ⟨b, off, none⟩ ∧ (∀ (i : Nat) (u : Value), cs[i]? = some u → w.cell? ⟨b, off + j * 9 + i, none⟩ = some u) ∧ RS w K k cs l[j] := by
  obtain ⟨-, ao', cap', he, hc⟩ := h
  injection he with e1 e2 e3
  obtain ⟨b, off, hb, hel⟩ := hc (by intro hz; rw [hz] at hj; simp at hj)
  obtain ⟨cs, -, hcs, hr⟩ := hel j l[j] (List.getElem?_eq_getElem hj)
  exact ⟨b, off, cs, e1.trans hb, hcs, hr⟩

theorem cnts_drop {k : Nat} {l : List D} {j : Nat} (hj : j < l.length) : cnts k (l.drop j) = cntS k l[j] + cnts k (l.drop (j + 1)) := by
  unfold cnts
  rw [List.drop_eq_getElem_cons hj, List.map_cons, List.sum_cons]

set_option maxHeartbeats 4000000 in
set_option maxRecDepth 100000 in
theorem stmtsR (I : ObsI) (K kf : Nat) (m : Int) (ga : Option Addr) (gn gc : Nat) (sa : Option Addr) (sn sc : Nat) (ya : Option Addr) (yn yc : Nat) (oa : Option Addr) (on oc : Nat) (va : Option Addr) (vn vc : Nat) (fa : Option Addr) (fn fc : Nat) (ba : Option Addr) (bn bc : Nat) (xa : Option Addr) (xn xc : Nat) (F fln c3 : Nat) (br b1 b2 b3 : Nat) (fl : List Int) (fs : List FnD) (ins : List (List Int)) (w0 : World) (g : Nat) (X : CtxR I K kf m ga gn gc sa sn sc ya yn yc oa on oc va vn vc fa fn fc ba bn bc xa xn xc F fln c3 br b1 b2 b3 fl fs ins w0) (HM : Hid (∀ g', g' < g → StmtC I K kf m ga gn gc sa sn sc ya yn yc oa on oc va vn vc fa fn fc ba bn bc xa xn xc F fln c3 br b1 b2 b3 fl fs ins w0 g')) : StmtsC I K kf m ga gn gc sa sn sc ya yn yc oa on oc va vn vc fa fn fc ba bn bc xa xn xc F fln c3 br b1 b2 b3 fl fs ins w0 g := by
  intro k v l c a dp st ev w hl hc hok ha hac hdp hB0 h hno hg
  have hlen : l.length ≤ 9223372036854775807 := hl.1
  obtain ⟨ao, cap, rfl, -⟩ := hl.2
  have HL := hide hl
  have HOK := hide hok
  have H0 := hide h
  have HB0 := hide hB0
  have HC := hide hc
  have hF := X.fuel
  obtain ⟨T, hT⟩ : ∃ T, T = rn K kf fs F ins I.ob g 0 k l a dp st := ⟨_, rfl⟩
  rw [← hT]
  have HST : Hid (∃ (j g' : Nat) (st' : RSt) (ev' : Ow), j ≤ l.length ∧ 0 ≤ a ∧ a + (cnts k (l.drop j) : Nat) ≤ 100 ∧ RnG I w0.heap.size [.int .i64 m, .slice ga gn gc, .slice sa sn sc, .slice ya yn yc, .slice oa on oc, .slice va vn vc, .slice fa fn fc, .slice ba bn bc, .slice xa xn xc, .int .i64 (F : Int), .slice (some ⟨b3, 0, none⟩) fln c3] br b1 b2 b3 fl dp st' ev' w ∧ Fr br b1 b2 ev ev' w w ∧ NumOk vn yn F st' ∧ 3 * (F - st'.steps) + 1 ≤ g' ∧ g' ≤ g ∧ rn K kf fs F ins I.ob g' 0 k (l.drop j) a dp st' = T ∧ j = 0) := ⟨0, g, st, ev, Nat.zero_le _, ha, by simpa using hac, h, Fr.refl _ _ _ _ _, hno, hg, Nat.le_refl _, by rw [List.drop_zero]; exact hT.symm, rfl⟩
  clear hl hok hB0 hno hg hT hac ha hc h
  go_enter Try.func70, Try.ntmps70
  go_wp2_with fail
  go_loopw [2, 6, 11] (fun z s i wr => ∃ (j g' : Nat) (st' : RSt) (ev' : Ow) (a' : Int), z = .int .i64 a' ∧ s = .bool false ∧ i = .int .i64 j ∧ j ≤ l.length ∧ 0 ≤ a' ∧ a' + (cnts k (l.drop j) : Nat) ≤ 100 ∧ RnG I w0.heap.size [.int .i64 m, .slice ga gn gc, .slice sa sn sc, .slice ya yn yc, .slice oa on oc, .slice va vn vc, .slice fa fn fc, .slice ba bn bc, .slice xa xn xc, .int .i64 (F : Int), .slice (some ⟨b3, 0, none⟩) fln c3] br b1 b2 b3 fl dp st' ev' wr ∧ Fr br b1 b2 ev ev' w wr ∧ NumOk vn yn F st' ∧ 3 * (F - st'.steps) + 1 ≤ g' ∧ g' ≤ g ∧ rn K kf fs F ins I.ob g' 0 k (l.drop j) a' dp st' = T) (fun _ _ i _ => l.length - (intOf i).toNat)
  case atStart =>
    obtain ⟨j, g', st', ev', i1, i2, i3, i4, i5, i6, i7, i8, i9, rfl⟩ := HST.out
    exact ⟨0, g', st', ev', a, rfl, rfl, rfl, i1, i2, i3, i4, i5, i6, i7, i8, i9⟩
  case round =>
    clear HST
    obtain ⟨j, g', st', ev', a', rfl, rfl, rfl, hj, ha, hac, hr, hf, hno, hg', hgg, hrn⟩ := hrel
    have hB0r : Below w0.heap.size w0 wr := HB0.out.trans (H0.out.below hf)
    obtain ⟨g2, rfl⟩ : ∃ g2, g' = g2 + 1 := ⟨g' - 1, by omega⟩
    have HR := hide hr
    have HFR := hide hf
    have HNO := hide hno
    by_cases hjl : j < l.length
    · obtain ⟨b, off, cs, hao, hcs, hrs⟩ := HL.out.at hjl
      subst hao
      have hdr := cnts_drop (k := k) hjl
      have hun : rn K kf fs F ins I.ob (g2 + 1) 0 k (l.drop j) a' dp st' = if st'.steps = F then (false, st'.out) else contR (passR I.ob 1 a' dp l[j] st'.step) (fun st1 => contR (rn K kf fs F ins I.ob g2 1 k [l[j]] a' dp st1) (fun st'' => rn K kf fs F ins I.ob g2 0 k (l.drop (j + 1)) (a' + cntS k l[j]) dp st'')) := by
        rw [List.drop_eq_getElem_cons hjl]
        simp only [rn]
      rw [hun] at hrn
      have hokj := HOK.out l[j] (List.getElem_mem hjl)
      obtain ⟨k', rfl⟩ : ∃ k', k = k' + 1 := by
        cases k with
        | zero => exact hrs.elim
        | succ k => exact ⟨k, rfl⟩
      obtain ⟨d, hd⟩ : ∃ d, d = l[j] := ⟨_, rfl⟩
      rw [← hd] at hrs hdr hrn hokj
      have hrs0 := hrs
      obtain ⟨ek, ex, pa, pl, pc, aa, ac, ta, tc, ea, ec, hcse, -, -, -, -, -, -, -, -, -, -⟩ := hrs0.form
      obtain ⟨kd, hkd⟩ : ∃ q, q = sKind d := ⟨_, rfl⟩
      obtain ⟨sv, hsv⟩ : ∃ q, q = sVar d := ⟨_, rfl⟩
      obtain ⟨so, hso⟩ : ∃ q, q = sOther d := ⟨_, rfl⟩
      obtain ⟨al, hal⟩ : ∃ q, q = (sArgs d).length := ⟨_, rfl⟩
      obtain ⟨tl, htl⟩ : ∃ q, q = (sThen d).length := ⟨_, rfl⟩
      obtain ⟨el, hel⟩ : ∃ q, q = (sElse d).length := ⟨_, rfl⟩
      rw [← hkd, ← hsv, ← hso, ← hal, ← htl, ← hel] at hcse
      subst hcse
      clear hkd hsv hso hal htl hel hd hun
      have q0 : wr.cell? ⟨b, off + j * 9, none⟩ = _ := cell_over hB0r _ _ (hcs 0 _ rfl)
      have q1 := cell_over hB0r _ _ (hcs 1 _ rfl)
      have q2 := cell_over hB0r _ _ (hcs 2 _ rfl)
      have q3 := cell_over hB0r _ _ (hcs 3 _ rfl)
      have q4 := cell_over hB0r _ _ (hcs 4 _ rfl)
      have q5 := cell_over hB0r _ _ (hcs 5 _ rfl)
      have q6 := cell_over hB0r _ _ (hcs 6 _ rfl)
      have q7 := cell_over hB0r _ _ (hcs 7 _ rfl)
      have q8 := cell_over hB0r _ _ (hcs 8 _ rfl)
      have hba : Below wr.heap.size wr (wr.alloc (.cells #[.int .i64 kd, .int .i64 sv, .int .i64 so, .int .i64 ek, .int .i64 ex, .slice pa pl pc, .slice aa al ac, .slice ta tl tc, .slice ea el ec] 78)) := (Below.refl _ wr).alloc (Nat.le_refl _) _
      have hrb := hr.over hba
      have hB0b := hB0r.trans (hba.mono hB0r.size)
      by_cases hsF : st'.steps = F
      · rw [if_pos hsF] at hrn
        have KN := hide (step_no m ga gn gc sa sn sc ya yn yc oa on oc va vn vc fa fn fc ba bn bc xa xn xc F fln c3 w0.heap.size br b1 b2 b3 fl dp st' ev' (wr.alloc (.cells #[.int .i64 kd, .int .i64 sv, .int .i64 so, .int .i64 ek, .int .i64 ex, .slice pa pl pc, .slice aa al ac, .slice ta tl tc, .slice ea el ec] 78)) hrb hsF)
        have HRN := hide hrn
        clear hrn hsF hr hf hno hg' hrb hB0b hB0r hcs hrs hokj hdr HM
        go_wp2_with fail
        refine (KN.out).mono ?_
        rintro e w3 ⟨rfl, hr3, hf3⟩
        have HF3 := hide (And.intro hr3 ((HFR.out.over hba).trans hf3))
        clear hr3 hf3
        go_wp2_with fail
        go_ret
        rw [← HRN.out]
        exact ⟨rfl, ⟨ev', HF3.out⟩, HNO.out.out⟩
      · rw [if_neg hsF] at hrn
        have hsL : st'.steps < F := by have : st'.steps ≤ F := hno.sb; omega
        have KN := hide (step_yes m ga gn gc sa sn sc ya yn yc oa on oc va vn vc fa fn fc ba bn bc xa xn xc F fln c3 w0.heap.size br b1 b2 b3 fl dp st' ev' (wr.alloc (.cells #[.int .i64 kd, .int .i64 sv, .int .i64 so, .int .i64 ek, .int .i64 ex, .slice pa pl pc, .slice aa al ac, .slice ta tl tc, .slice ea el ec] 78)) hrb hsL hF)
        obtain ⟨qb, s1, hpp⟩ : ∃ qb qs, passR I.ob 1 a' dp d st'.step = (qb, qs) := ⟨_, _, rfl⟩
        have hps : s1.steps = st'.steps + 1 := by
          have := pass_steps I.ob 1 a' dp d st'.step
          rw [hpp] at this
          exact this
        have hns : NumS vn yn F s1 := by
          have := (hno.stepS hsL).pass I.ob 1 a' dp d
          rw [hpp] at this
          exact this
        have KP := hide fun W (hW : RnG I w0.heap.size [.int .i64 m, .slice ga gn gc, .slice sa sn sc, .slice ya yn yc, .slice oa on oc, .slice va vn vc, .slice fa fn fc, .slice ba bn bc, .slice xa xn xc, .int .i64 (F : Int), .slice (some ⟨b3, 0, none⟩) fln c3] br b1 b2 b3 fl dp st'.step ev' W) (hBW : Below w0.heap.size w0 W) => passes_any m ga gn gc sa sn sc ya yn yc oa on oc va vn vc fa fn fc ba bn bc xa xn xc F fln c3 w0.heap.size br b1 b2 b3 fl dp st'.step ev' K (k' + 1) fs w0 1 a' kd sv so ek ex pa pl pc aa al ac ta tl tc ea el ec d c W X.may hBW hW hrs HC.out hokj ha (by omega) (by omega) (Or.inl rfl)
        have KM := hide fun W ev1 (hW : RnG I w0.heap.size [.int .i64 m, .slice ga gn gc, .slice sa sn sc, .slice ya yn yc, .slice oa on oc, .slice va vn vc, .slice fa fn fc, .slice ba bn bc, .slice xa xn xc, .int .i64 (F : Int), .slice (some ⟨b3, 0, none⟩) fln c3] br b1 b2 b3 fl dp s1 ev1 W) (hBW : Below w0.heap.size w0 W) hk7 => HM.out g2 (by omega) (k' + 1) _ d c a' dp s1 ev1 W hrs HC.out hokj ha (by omega) (by omega) hBW hW hns hk7 (by rw [hps]; omega)
        have KZ := hide fun W (hBW : Below w0.heap.size w0 W) => size_any K (k' + 1) _ d W (RS.mono (cell_over hBW) _ _ _ _ (Nat.le_refl _) hrs) (by omega)
        have hgr := (rn_gr K kf fs F ins I.ob g2 1 (k' + 1) [d] a' dp s1).steps
        rw [hpp] at KP hrn
        obtain ⟨N, hN⟩ : ∃ N : Nat, N = cntS (k' + 1) d := ⟨_, rfl⟩
        rw [← hN] at KZ hdr hrn
        have hrn2 : qb = true → contR (rn K kf fs F ins I.ob g2 1 (k' + 1) [d] a' dp s1) (fun st'' => rn K kf fs F ins I.ob g2 0 (k' + 1) (l.drop (j + 1)) (a' + N) dp st'') = T := fun hq => by rw [hq] at hrn; exact hrn
        have hrn1 : qb = false → (false, s1) = T := fun hq => by rw [hq] at hrn; exact hrn
        obtain ⟨R1, hR1⟩ : ∃ q, q = rn K kf fs F ins I.ob g2 1 (k' + 1) [d] a' dp s1 := ⟨_, rfl⟩
        rw [← hR1] at KM hgr hrn2
        have HRN1 := hide hrn1
        have HRN2 := hide hrn2
        have HPS := hide hps
        have HNS := hide hns
        have HGR := hide hgr
        have HB0B := hide hB0b
        have HG' := hide hg'
        have HRB := hide hrb
        have hN100 : N ≤ 100 := by omega
        have HDR := hide hdr
        have HAC := hide hac
        have HGG := hide hgg
        have e0 : (wr.alloc (.cells #[.int .i64 kd, .int .i64 sv, .int .i64 so, .int .i64 ek, .int .i64 ex, .slice pa pl pc, .slice aa al ac, .slice ta tl tc, .slice ea el ec] 78)).cell? ⟨wr.heap.size, 0, none⟩ = some (.int .i64 kd) := by simp [go_sem]
        have e1 : (wr.alloc (.cells #[.int .i64 kd, .int .i64 sv, .int .i64 so, .int .i64 ek, .int .i64 ex, .slice pa pl pc, .slice aa al ac, .slice ta tl tc, .slice ea el ec] 78)).cell? ⟨wr.heap.size, 1, none⟩ = some (.int .i64 sv) := by simp [go_sem]
        have e2 : (wr.alloc (.cells #[.int .i64 kd, .int .i64 sv, .int .i64 so, .int .i64 ek, .int .i64 ex, .slice pa pl pc, .slice aa al ac, .slice ta tl tc, .slice ea el ec] 78)).cell? ⟨wr.heap.size, 2, none⟩ = some (.int .i64 so) := by simp [go_sem]
        have e3 : (wr.alloc (.cells #[.int .i64 kd, .int .i64 sv, .int .i64 so, .int .i64 ek, .int .i64 ex, .slice pa pl pc, .slice aa al ac, .slice ta tl tc, .slice ea el ec] 78)).cell? ⟨wr.heap.size, 3, none⟩ = some (.int .i64 ek) := by simp [go_sem]
        have e4 : (wr.alloc (.cells #[.int .i64 kd, .int .i64 sv, .int .i64 so, .int .i64 ek, .int .i64 ex, .slice pa pl pc, .slice aa al ac, .slice ta tl tc, .slice ea el ec] 78)).cell? ⟨wr.heap.size, 4, none⟩ = some (.int .i64 ex) := by simp [go_sem]
        have e5 : (wr.alloc (.cells #[.int .i64 kd, .int .i64 sv, .int .i64 so, .int .i64 ek, .int .i64 ex, .slice pa pl pc, .slice aa al ac, .slice ta tl tc, .slice ea el ec] 78)).cell? ⟨wr.heap.size, 5, none⟩ = some (.slice pa pl pc) := by simp [go_sem]
        have e6 : (wr.alloc (.cells #[.int .i64 kd, .int .i64 sv, .int .i64 so, .int .i64 ek, .int .i64 ex, .slice pa pl pc, .slice aa al ac, .slice ta tl tc, .slice ea el ec] 78)).cell? ⟨wr.heap.size, 6, none⟩ = some (.slice aa al ac) := by simp [go_sem]
        have e7 : (wr.alloc (.cells #[.int .i64 kd, .int .i64 sv, .int .i64 so, .int .i64 ek, .int .i64 ex, .slice pa pl pc, .slice aa al ac, .slice ta tl tc, .slice ea el ec] 78)).cell? ⟨wr.heap.size, 7, none⟩ = some (.slice ta tl tc) := by simp [go_sem]
        have e8 : (wr.alloc (.cells #[.int .i64 kd, .int .i64 sv, .int .i64 so, .int .i64 ek, .int .i64 ex, .slice pa pl pc, .slice aa al ac, .slice ta tl tc, .slice ea el ec] 78)).cell? ⟨wr.heap.size, 8, none⟩ = some (.slice ea el ec) := by simp [go_sem]
        clear hrn hrn1 hrn2 hps hns hpp hsF hr hf hno hg' hgg hrb hB0b hB0r hcs hrs hokj hdr HM hgr hR1 hN hac
        have HE0 := hide e0
        have HE1 := hide e1
        have HE2 := hide e2
        have HE3 := hide e3
        have HE4 := hide e4
        have HE5 := hide e5
        have HE6 := hide e6
        have HE7 := hide e7
        have HE8 := hide e8
        obtain ⟨rb, rs⟩ := R1
        cases qb with
        | false =>
          go_wp2_with fail
          refine (KN.out).mono ?_
          rintro e w3 ⟨rfl, hr3, hf3⟩
          have hB3 : Below w0.heap.size w0 w3 := HB0B.out.trans (HRB.out.below hf3)
          have KP' := hide (KP.out w3 hr3 hB3)
          have i0 := HR.out.box hf3 (Nat.le_refl _) e0
          have i1 := HR.out.box hf3 (Nat.le_refl _) e1
          have i2 := HR.out.box hf3 (Nat.le_refl _) e2
          have i3 := HR.out.box hf3 (Nat.le_refl _) e3
          have i4 := HR.out.box hf3 (Nat.le_refl _) e4
          have i5 := HR.out.box hf3 (Nat.le_refl _) e5
          have i6 := HR.out.box hf3 (Nat.le_refl _) e6
          have i7 := HR.out.box hf3 (Nat.le_refl _) e7
          have i8 := HR.out.box hf3 (Nat.le_refl _) e8
          have HF3 := hide hf3
          clear KN KM KP hr3 hf3 hB3 e0 e1 e2 e3 e4 e5 e6 e7 e8 q0 q1 q2 q3 q4 q5 q6 q7 q8
          go_wp2_with fail
          refine (KP'.out).mono ?_
          rintro e w4 ⟨he, ev4, hr4, hf4, -⟩
          dsimp only at he
          subst he
          have HF4 := hide (And.intro hr4 (((HFR.out.over hba).trans HF3.out).trans hf4))
          clear hr4 hf4
          go_wp2_with fail
          go_ret
          rw [← HRN1.out (by first | rfl | trivial)]
          exact ⟨rfl, ⟨ev4, HF4.out⟩, HNS.out.ok⟩
        | true =>
        go_wp2_with fail
        refine (KN.out).mono ?_
        rintro e w3 ⟨rfl, hr3, hf3⟩
        have hB3 : Below w0.heap.size w0 w3 := HB0B.out.trans (HRB.out.below hf3)
        have KP' := hide (KP.out w3 hr3 hB3)
        have x0 := HR.out.box hf3 (Nat.le_refl _) e0
        have x1 := HR.out.box hf3 (Nat.le_refl _) e1
        have x2 := HR.out.box hf3 (Nat.le_refl _) e2
        have x3 := HR.out.box hf3 (Nat.le_refl _) e3
        have x4 := HR.out.box hf3 (Nat.le_refl _) e4
        have x5 := HR.out.box hf3 (Nat.le_refl _) e5
        have x6 := HR.out.box hf3 (Nat.le_refl _) e6
        have x7 := HR.out.box hf3 (Nat.le_refl _) e7
        have x8 := HR.out.box hf3 (Nat.le_refl _) e8
        have HR2 := hide hr3
        have HF2 := hide hf3
        have HB2 := hide hB3
        clear KN KP hr3 hf3 hB3 e0 e1 e2 e3 e4 e5 e6 e7 e8 q0 q1 q2 q3 q4 q5 q6 q7 q8
        go_wp2_with fail
        refine (KP'.out).mono ?_
        rintro e w2 ⟨he, ev2, hr2, hf2, hk2⟩
        dsimp only at he hr2 hk2
        subst he
        have hB2 : Below w0.heap.size w0 w2 := HB2.out.trans (HR2.out.below hf2)
        have KM' := hide (KM.out w2 ev2 hr2 hB2 (fun hk => hk2 rfl (Or.inl ⟨rfl, hk⟩)))
        have i0 := HR.out.box hf2 (Nat.le_refl _) x0
        have i1 := HR.out.box hf2 (Nat.le_refl _) x1
        have i2 := HR.out.box hf2 (Nat.le_refl _) x2
        have i3 := HR.out.box hf2 (Nat.le_refl _) x3
        have i4 := HR.out.box hf2 (Nat.le_refl _) x4
        have i5 := HR.out.box hf2 (Nat.le_refl _) x5
        have i6 := HR.out.box hf2 (Nat.le_refl _) x6
        have i7 := HR.out.box hf2 (Nat.le_refl _) x7
        have i8 := HR.out.box hf2 (Nat.le_refl _) x8
        have HR3 := hide hr2
        have HF3 := hide (HF2.out.trans hf2)
        have HB3 := hide hB2
        clear KP' KM hr2 hf2 hB2 hk2 HF2 HR2 HB2 x0 x1 x2 x3 x4 x5 x6 x7 x8
        cases rb with
        | false =>
          go_wp2_with fail
          refine (KM'.out).mono ?_
          rintro e w4 ⟨he, ⟨ev4, hr4, hf4⟩, hno4⟩
          dsimp only at he
          subst he
          have HF4 := hide (And.intro hr4 (((HFR.out.over hba).trans HF3.out).trans hf4))
          have HN4 := hide hno4
          clear hr4 hf4 hno4
          go_wp2_with fail
          go_ret
          rw [← HRN2.out (by first | rfl | trivial)]
          exact ⟨rfl, ⟨ev4, HF4.out⟩, HN4.out⟩
        | true =>
          go_wp2_with fail
          refine (KM'.out).mono ?_
          rintro e w4 ⟨he, ⟨ev4, hr4, hf4⟩, hno4⟩
          dsimp only at he
          subst he
          have hr4' : RnG I w0.heap.size [.int .i64 m, .slice ga gn gc, .slice sa sn sc, .slice ya yn yc, .slice oa on oc, .slice va vn vc, .slice fa fn fc, .slice ba bn bc, .slice xa xn xc, .int .i64 (F : Int), .slice (some ⟨b3, 0, none⟩) fln c3] br b1 b2 b3 fl dp rs ev4 w4 := hr4
          have hno4' : NumOk vn yn F rs := hno4
          have HF34 := hide (HF3.out.trans hf4)
          have hB4 : Below w0.heap.size w0 w4 := HB3.out.trans (HR3.out.below hf4)
          have KZ' := hide (KZ.out w4 hB4)
          have j0 := HR.out.box (HF3.out.trans hf4) (Nat.le_refl _) HE0.out
          have j1 := HR.out.box (HF3.out.trans hf4) (Nat.le_refl _) HE1.out
          have j2 := HR.out.box (HF3.out.trans hf4) (Nat.le_refl _) HE2.out
          have j3 := HR.out.box (HF3.out.trans hf4) (Nat.le_refl _) HE3.out
          have j4 := HR.out.box (HF3.out.trans hf4) (Nat.le_refl _) HE4.out
          have j5 := HR.out.box (HF3.out.trans hf4) (Nat.le_refl _) HE5.out
          have j6 := HR.out.box (HF3.out.trans hf4) (Nat.le_refl _) HE6.out
          have j7 := HR.out.box (HF3.out.trans hf4) (Nat.le_refl _) HE7.out
          have j8 := HR.out.box (HF3.out.trans hf4) (Nat.le_refl _) HE8.out
          have HR4 := hide hr4'
          have HN4 := hide hno4'
          clear KM' KZ hr4 hr4' hf4 hno4 hno4' hB4 i0 i1 i2 i3 i4 i5 i6 i7 i8
          go_wp2_with fail
          refine (KZ'.out).mono ?_
          rintro e w5 ⟨rfl, hb5⟩
          have HB5 := hide hb5
          clear hb5 KZ' j0 j1 j2 j3 j4 j5 j6 j7 j8
          go_wp2_with fail
          have hdr := HDR.out
          have hac := HAC.out
          have hgr : s1.steps ≤ rs.steps := HGR.out
          have hst : s1.steps = st'.steps + 1 := HPS.out
          have hg' := HG'.out
          have hwr : wrap64 (a' + (N : Int)) = a' + N := by unfold wrap64; omega
          refine ⟨⟨j + 1, g2, rs, ev4, a' + N, by rw [hwr], rfl, by go_num, by omega, by omega, by omega, HR4.out.over HB5.out, ((HFR.out.over hba).trans HF34.out).over HB5.out, HN4.out, by omega, by have := HGG.out; omega, ?_⟩, by simp [intOf]; omega⟩
          rw [← HRN2.out (by first | rfl | trivial)]
          rfl
    · have hd : l.drop j = [] := List.drop_eq_nil_of_le (by omega)
      have hun : rn K kf fs F ins I.ob (g2 + 1) 0 k (l.drop j) a' dp st' = (true, st') := by rw [hd]; simp only [rn]
      rw [hun] at hrn
      have HRN := hide hrn
      clear hun hrn hd hr hf hno hg' hgg hac hB0r
      go_wp2_with fail
      go_ret
      rw [← HRN.out]
      exact ⟨rfl, ⟨ev', HR.out, HFR.out⟩, HNO.out⟩
theorem rn_one (K kf : Nat) (fs : List FnD) (F : Nat) (ins : List (List Int)) (ob : Ob) (g k : Nat) (d : D) (l : List D) (a : Int) (dp : Nat) (st : RSt) : rn K kf fs F ins ob (g + 1) 1 k (d :: l) a dp st =
      if sKind d = 2 then contR (rn K kf fs F ins ob g 0 kf (fnAt fs (sOther d)).body (cntF kf (fs.take (sOther d).toNat)) dp (st.args K fs d)) (fun st1 => contR (passR ob 3 a dp d st1) (fun st' => (true, st'.setv (sVar d) (valX st'.vars K (fnAt fs (sOther d)).res))))
      else if sKind d = 7 then (if valX st.vars K (sExpr d) = 0 then rn K kf fs F ins ob g 0 (k - 1) (sElse d) (a + 1 + cnts (k - 1) (sThen d)) (dp + 1) st else rn K kf fs F ins ob g 0 (k - 1) (sThen d) (a + 1) (dp + 1) st)
      else if sKind d = 8 then rn K kf fs F ins ob g 2 k [d] a dp st
      else (true, oneX K ins d a st) := by
  simp only [rn]

theorem next_in {ins : List (List Int)} (h : ∀ x ∈ ins, ∀ y ∈ x, I32 y) (st : RSt) (c : Int) : I32 (nextX ins st c) := by
  unfold nextX
  rw [List.getD_eq_getElem?_getD, List.getD_eq_getElem?_getD]
  have z : I32 0 := ⟨by omega, by omega⟩
  cases hc : ins[c.toNat]? with
  | none => simpa using z
  | some l =>
    simp only [Option.getD_some]
    cases hy : l[(st.taken.getD c.toNat 0).toNat]? with
    | none => simpa using z
    | some y => simpa using h l (List.mem_of_getElem? hc) y (List.mem_of_getElem? hy)

set_option maxHeartbeats 4000000 in
theorem stmtC_of (I : ObsI) (K kf : Nat) (m : Int) (ga : Option Addr) (gn gc : Nat) (sa : Option Addr) (sn sc : Nat) (ya : Option Addr) (yn yc : Nat) (oa : Option Addr) (on oc : Nat) (va : Option Addr) (vn vc : Nat) (fa : Option Addr) (fn fc : Nat) (ba : Option Addr) (bn bc : Nat) (xa : Option Addr) (xn xc : Nat) (F fln c3 : Nat) (br b1 b2 b3 : Nat) (fl : List Int) (fs : List FnD) (ins : List (List Int)) (w0 : World) (g : Nat) (X : CtxR I K kf m ga gn gc sa sn sc ya yn yc oa on oc va vn vc fa fn fc ba bn bc xa xn xc F fln c3 br b1 b2 b3 fl fs ins w0) (HS : ∀ g', g' < g → StmtsC I K kf m ga gn gc sa sn sc ya yn yc oa on oc va vn vc fa fn fc ba bn bc xa xn xc F fln c3 br b1 b2 b3 fl fs ins w0 g') : StmtC I K kf m ga gn gc sa sn sc ya yn yc oa on oc va vn vc fa fn fc ba bn bc xa xn xc F fln c3 br b1 b2 b3 fl fs ins w0 g := by
  intro k cs d c a dp st ev w hrs hc hok ha hac hdp hB0 h hns hk7 hg
  obtain ⟨k', rfl⟩ : ∃ k', k = k' + 1 := by
    cases k with
    | zero => exact hrs.elim
    | succ k => exact ⟨k, rfl⟩
  obtain ⟨g2, rfl⟩ : ∃ g2, g = g2 + 1 := ⟨g - 1, by omega⟩
  have hcn : cntS (k' + 1) d = 1 + cnts k' (sThen d) + cnts k' (sElse d) := rfl
  have hno1 := hns.ok
  have hvl : st.vars.length = vn := hno1.vl
  have hokS := hok
  obtain ⟨ek, ex, pa, pl, pc, aa, ac, ta, tc, ea, ec, rfl, -, -, -, hX, hA, hT, hE, -, -, -⟩ := hrs.form
  obtain ⟨⟨⟨k1, k8⟩, hvar, hcall, hget, hexp, -, -⟩, hokT, hokE⟩ := hok
  have hXw := hX.over hB0
  have hoX : (sKind d = 1 ∨ 4 ≤ sKind d) → okX st.vars.length K (sExpr d) := fun hk => by rw [hvl]; exact okX_check hX (hexp hk)
  have hvI : (sKind d = 1 ∨ 4 ≤ sKind d) → I32 (valX st.vars K (sExpr d)) := fun hk => valX_in hno1.i32 K _ (hoX hk)
  have hF := X.fuel
  have hv16 := X.vars
  have hsb : st.steps ≤ F := hno1.sb
  have hel : st.ev.length ≤ 2000 := by have := hno1.el; omega
  rw [rn_one]
  rcases (by omega : sKind d = 1 ∨ sKind d = 2 ∨ sKind d = 3 ∨ sKind d = 4 ∨ sKind d = 5 ∨ sKind d = 6 ∨ sKind d = 7 ∨ sKind d = 8) with hk | hk | hk | hk | hk | hk | hk | hk
  · rw [if_neg (by omega), if_neg (by omega), if_neg (by omega)]
    obtain ⟨v0, v1⟩ := hvar (by omega)
    obtain ⟨n, hn⟩ := Int.eq_ofNat_of_zero_le v0
    have he : oneX K ins d a st = st.setv (sVar d) (valX st.vars K (sExpr d)) := by unfold oneX; rw [if_pos hk]
    rw [he, hk, hn]
    refine (stmtR1 m ga gn gc sa sn sc ya yn yc oa on oc va vn vc fa fn fc ba bn bc xa xn xc F fln c3 w0.heap.size br b1 b2 b3 fl dp st ev K (sExpr d) n (sOther d) ek ex pa pl pc aa (sArgs d).length ac ta (sThen d).length tc ea (sElse d).length ec a w h hXw (hoX (by omega)) hno1.i32 (by rw [hvl]; omega) (by rw [hvl]; exact hv16)).mono ?_
    rintro e w' ⟨h1, h2, h3⟩
    exact ⟨h1, ⟨ev, h2, h3⟩, hno1.setv (hvI (by omega))⟩
  · rw [if_pos hk]
    obtain ⟨v0, v1⟩ := hvar (by omega)
    obtain ⟨n, hn⟩ := Int.eq_ofNat_of_zero_le v0
    obtain ⟨⟨o0, o1⟩, hpn, hargs⟩ := hcall hk
    obtain ⟨c', hc'⟩ := Int.eq_ofNat_of_zero_le o0
    have hcl : c' < fs.length := by omega
    obtain ⟨-, fao, fcap, hfe, hfel⟩ := X.funcs
    injection hfe with e1 e2 e3
    obtain ⟨fb, foff, hfb, hfel2⟩ := hfel (by intro hz; rw [hz] at hcl; simp at hcl)
    have e1' := e1.trans hfb
    subst e1'
    obtain ⟨vP, vB, x0, x1, x2, f0, f1, f2, f3, f4, hp, ⟨hpl, qa, qc, hvp, hpc⟩, hbd, hx⟩ := hfel2 c' hcl
    subst hvp
    have hbd0 := hbd
    obtain ⟨-, za, zc, hvb, -⟩ := hbd0
    subst hvb
    obtain ⟨ra, rc, hxf⟩ := hx.form
    simp only [List.cons.injEq, and_true] at hxf
    obtain ⟨rfl, rfl, rfl⟩ := hxf
    obtain ⟨hb4, hbp, hbs, hbr⟩ := X.body c' hcl
    have hfa : fnAt fs (sOther d) = fs[c'] := by rw [hc']; simp [fnAt, hcl]
    have hpa : fs[c'].ps.length = (sArgs d).length := hpn _ (by rw [hc']; simp [hcl])
    have hfst : (sOther d).toNat = c' := by rw [hc']; rfl
    have hflc : fl[c']? = some ((cntF kf (fs.take c') : Nat) : Int) := by
      rw [X.flE, List.getElem?_map, List.getElem?_range (by omega)]
      rfl
    have hcf : cntF kf (fs.take c') + cnts kf fs[c'].body ≤ 50 := by
      have h1 := cntF_take (k := kf) hcl
      have h2 : cntF kf fs = cntF kf (fs.take (c' + 1)) + cntF kf (fs.drop (c' + 1)) := by
        unfold cntF
        rw [← List.sum_append, ← List.map_append, List.take_append_drop]
      have := X.cnt
      omega
    have harg : ∀ x ∈ sArgs d, okX vn K x := fun x hxm => by
      obtain ⟨j, hj⟩ := List.mem_iff_getElem?.1 hxm
      obtain ⟨-, aa', ac', hae, hael⟩ := hA
      obtain ⟨eb, eo, heb, hael2⟩ := hael (by intro hz; rw [hz] at hxm; cases hxm)
      obtain ⟨cs, -, -, hrx⟩ := hael2 j x hj
      exact okX_check hrx (hargs x hxm)
    have hrr : rn K kf fs F ins I.ob g2 0 kf (fnAt fs (sOther d)).body (cntF kf (fs.take (sOther d).toNat)) dp (st.args K fs d) = rn K kf fs F ins I.ob g2 0 kf fs[c'].body (cntF kf (fs.take c')) dp { st with vars := setAll st.vars (fs[c'].ps.zip ((sArgs d).map (valX st.vars K))) } := by
      unfold RSt.args
      rw [hfa, hfst]
    have hrs' := hrs
    rw [hk, hn, hc'] at hrs'
    rw [hrr, hfa, hk, hn, hc']
    refine stmtR2 m ga gn gc sa sn sc ya yn yc oa on oc va vn vc (some ⟨fb, foff, none⟩) fn fc ba bn bc xa xn xc F fln c3 w0.heap.size br b1 b2 b3 fl dp st ev (n : Int) (c' : Int) ek ex pa pl pc aa (sArgs d).length ac ta (sThen d).length tc ea (sElse d).length ec a _ w0 w h hB0 (hide fun W hW hBW => ?_)
    exact callR m ga gn gc sa sn sc ya yn yc oa on oc va vn vc fn fc ba bn bc xa xn xc F fln c3 br b1 b2 b3 fl dp d K kf g2 fs[c'].ps (sArgs d) fs[c'].res _ n c' fb foff ek ex pa pl pc aa (sArgs d).length ac ta (sThen d).length tc ea (sElse d).length ec a qa fs[c'].ps.length qc za fs[c'].body.length zc (kindOf fs[c'].res) (numOf fs[c'].res) ra (argsOf fs[c'].res).length rc w0 (fun st => rn K kf fs F ins I.ob g2 0 kf fs[c'].body (cntF kf (fs.take c')) dp st)
      (by rw [X.fnE]; exact hcl) (by omega) hv16 (by rw [X.fnE]; exact X.fn5) f0 f1 f2 f3 f4 hp hbp hpa hA harg (by omega) hx (okX_check hx hbr) hflc (by rw [X.flE, X.flN]; simp)
      (hide fun st2 ev2 W2 hW2 hBW2 hno2 hgg => HS g2 (by omega) kf _ fs[c'].body (c' : Int) _ dp st2 ev2 W2 hbd (by omega) hbs (by omega) (by omega) (by omega) hBW2 hW2 hno2 hgg)
      (hide fun st2 ev2 W2 hW2 hBW2 => passes_any m ga gn gc sa sn sc ya yn yc oa on oc va vn vc (some ⟨fb, foff, none⟩) fn fc ba bn bc xa xn xc F fln c3 w0.heap.size br b1 b2 b3 fl dp st2 ev2 K (k' + 1) fs w0 3 a 2 (n : Int) (c' : Int) ek ex pa pl pc aa (sArgs d).length ac ta (sThen d).length tc ea (sElse d).length ec d c W2 X.may hBW2 hW2 hrs' hc hokS ha (by omega) (by omega) (Or.inr (Or.inr ⟨rfl, hk⟩)))
      st ev W hW hBW hno1 (by omega)
  · rw [if_neg (by omega), if_neg (by omega), if_neg (by omega)]
    obtain ⟨v0, v1⟩ := hvar (by omega)
    obtain ⟨n, hn⟩ := Int.eq_ofNat_of_zero_le v0
    have he : oneX K ins d a st = (st.took (sOther d)).setv (sVar d) (nextX ins st (sOther d)) := by unfold oneX; rw [if_neg (by omega), if_pos hk]
    obtain ⟨o0, o1⟩ := hget hk
    rw [he, hk, hn]
    refine (stmtR3 m ga gn gc sa sn sc ya yn yc oa on oc va vn vc fa fn fc ba bn bc xa xn xc F fln c3 w0.heap.size br b1 b2 b3 fl dp st ev n (sOther d) ek ex pa pl pc aa (sArgs d).length ac ta (sThen d).length tc ea (sElse d).length ec a ins w0 w h hB0 h.lo.2.2 X.lists o0 (by rw [X.many]; exact o1) (by rw [X.many]; exact hno1.tl.symm) (fun x hx => ⟨(hno1.tk x hx).1, by have := (hno1.tk x hx).2; omega⟩) X.long (by rw [hvl]; omega) (by rw [hvl]; exact hv16)).mono ?_
    rintro e w' ⟨h1, h2, h3⟩
    exact ⟨h1, ⟨ev, h2, h3⟩, (hns.took _).setv (next_in X.num _ _)⟩
  · rw [if_neg (by omega), if_neg (by omega), if_neg (by omega)]
    have he : oneX K ins d a st = st.tell (1, a, sOther d, valX st.vars K (sExpr d)) := by unfold oneX; rw [if_neg (by omega), if_neg (by omega), if_pos hk]
    rw [he, hk]
    refine (stmtR4 m ga gn gc sa sn sc ya yn yc oa on oc va vn vc fa fn fc ba bn bc xa xn xc F fln c3 w0.heap.size br b1 b2 b3 fl dp st ev K (sExpr d) (sVar d) (sOther d) ek ex pa pl pc aa (sArgs d).length ac ta (sThen d).length tc ea (sElse d).length ec a w h hXw (hoX (by omega)) hno1.i32 hel).mono ?_
    rintro e w' ⟨h1, ev', h2, h3⟩
    exact ⟨h1, ⟨ev', h2, h3⟩, hns.tell _⟩
  · rw [if_neg (by omega), if_neg (by omega), if_neg (by omega)]
    obtain ⟨v0, v1⟩ := hvar (by omega)
    obtain ⟨n, hn⟩ := Int.eq_ofNat_of_zero_le v0
    have he : oneX K ins d a st = (st.setv (sVar d) (valX st.vars K (sExpr d))).tell (2, a, sVar d, valX st.vars K (sExpr d)) := by unfold oneX; rw [if_neg (by omega), if_neg (by omega), if_neg (by omega), if_pos hk]
    rw [he, hk, hn]
    refine (stmtR5 m ga gn gc sa sn sc ya yn yc oa on oc va vn vc fa fn fc ba bn bc xa xn xc F fln c3 w0.heap.size br b1 b2 b3 fl dp st ev K (sExpr d) n (sOther d) ek ex pa pl pc aa (sArgs d).length ac ta (sThen d).length tc ea (sElse d).length ec a w h hXw (hoX (by omega)) hno1.i32 (by rw [hvl]; omega) (by rw [hvl]; exact hv16) hel).mono ?_
    rintro e w' ⟨h1, ev', h2, h3⟩
    exact ⟨h1, ⟨ev', h2, h3⟩, (hns.setv (hvI (by omega))).tell _⟩
  · rw [if_neg (by omega), if_neg (by omega), if_neg (by omega)]
    obtain ⟨v0, v1⟩ := hvar (by omega)
    obtain ⟨n, hn⟩ := Int.eq_ofNat_of_zero_le v0
    have he : oneX K ins d a st = (st.setv (sVar d) (valX st.vars K (sExpr d))).tell (3, a, sVar d, valX st.vars K (sExpr d)) := by unfold oneX; rw [if_neg (by omega), if_neg (by omega), if_neg (by omega), if_neg (by omega), if_pos hk]
    rw [he, hk, hn]
    refine (stmtR6 m ga gn gc sa sn sc ya yn yc oa on oc va vn vc fa fn fc ba bn bc xa xn xc F fln c3 w0.heap.size br b1 b2 b3 fl dp st ev K (sExpr d) n (sOther d) ek ex pa pl pc aa (sArgs d).length ac ta (sThen d).length tc ea (sElse d).length ec a w h hXw (hoX (by omega)) hno1.i32 (by rw [hvl]; omega) (by rw [hvl]; exact hv16) hel).mono ?_
    rintro e w' ⟨h1, ev', h2, h3⟩
    exact ⟨h1, ⟨ev', h2, h3⟩, (hns.setv (hvI (by omega))).tell _⟩
  · rw [if_neg (by omega), if_pos hk]
    rw [hk]
    exact stmtR7 m ga gn gc sa sn sc ya yn yc oa on oc va vn vc fa fn fc ba bn bc xa xn xc F fln c3 w0.heap.size br b1 b2 b3 fl dp st ev K (sExpr d) (sVar d) (sOther d) ek ex pa pl pc aa (sArgs d).length ac ta (sThen d).length tc ea (sElse d).length ec a (cnts k' (sThen d) : Nat) _ _ w0 w h hB0 hXw (hoX (by omega)) hno1.i32 (by omega) (by omega)
      (hide fun W hW hBW => (insideR m ga gn gc sa sn sc ya yn yc oa on oc va vn vc fa fn fc ba bn bc xa xn xc F fln c3 w0.heap.size br b1 b2 b3 fl dp st ev ta (sThen d).length tc (a + 1) _ W (by omega) (hk7 (Or.inl hk)) hW (hide fun W3 hW3 hB3 => HS g2 (by omega) k' _ (sThen d) c (a + 1) (dp + 1) st ev W3 hT hc hokT (by omega) (by omega) (by omega) (hBW.trans hB3) hW3 hno1 (by omega))).mono (fun e w' hh => ⟨hh.1, hh.2.1, hh.2.2.1⟩))
      (hide fun W hW hBW => (insideR m ga gn gc sa sn sc ya yn yc oa on oc va vn vc fa fn fc ba bn bc xa xn xc F fln c3 w0.heap.size br b1 b2 b3 fl dp st ev ea (sElse d).length ec (a + 1 + (cnts k' (sThen d) : Nat)) _ W (by omega) (hk7 (Or.inl hk)) hW (hide fun W3 hW3 hB3 => HS g2 (by omega) k' _ (sElse d) c (a + 1 + (cnts k' (sThen d) : Nat)) (dp + 1) st ev W3 hE hc hokE (by omega) (by omega) (by omega) (hBW.trans hB3) hW3 hno1 (by omega))).mono (fun e w' hh => ⟨hh.1, hh.2.1, hh.2.2.1⟩))
      (hide fun W hBW => many_any K k' _ (sThen d) W (hT.over hBW) (by omega))
  · rw [if_neg (by omega), if_neg (by omega), if_pos hk]
    have hrs' := hrs
    rw [hk] at hrs'
    rw [hk]
    exact stmtR8 m ga gn gc sa sn sc ya yn yc oa on oc va vn vc fa fn fc ba bn bc xa xn xc F fln c3 w0.heap.size br b1 b2 b3 fl dp st ev (sVar d) (sOther d) ek ex pa pl pc aa (sArgs d).length ac ta (sThen d).length tc ea (sElse d).length ec a _ w0 w h hB0
      (hide fun W hW hBW => loopR m ga gn gc sa sn sc ya yn yc oa on oc va vn vc fa fn fc ba bn bc xa xn xc F fln c3 w0.heap.size br b1 b2 b3 fl dp K kf (k' + 1) g2 fs ins d (sVar d) (sOther d) ek ex pa pl pc aa (sArgs d).length ac ta (sThen d).length tc ea (sElse d).length ec a w0 hF (by omega) hX (okX_check hX (hexp (by omega)))
        (hide fun g' hg' st2 ev2 W2 hW2 hok2 hBW2 hno2 hgg => (insideR m ga gn gc sa sn sc ya yn yc oa on oc va vn vc fa fn fc ba bn bc xa xn xc F fln c3 w0.heap.size br b1 b2 b3 fl dp st2 ev2 ta (sThen d).length tc (a + 1) _ W2 (by omega) hok2 hW2 (hide fun W3 hW3 hB3 => HS g' (by omega) k' _ (sThen d) c (a + 1) (dp + 1) st2 ev2 W3 hT hc hokT (by omega) (by omega) (by omega) (hBW2.trans hB3) hW3 hno2 hgg)))
        (hide fun st2 ev2 W2 hW2 hok2 hBW2 => passes_any m ga gn gc sa sn sc ya yn yc oa on oc va vn vc fa fn fc ba bn bc xa xn xc F fln c3 w0.heap.size br b1 b2 b3 fl dp st2 ev2 K (k' + 1) fs w0 2 a 8 (sVar d) (sOther d) ek ex pa pl pc aa (sArgs d).length ac ta (sThen d).length tc ea (sElse d).length ec d c W2 X.may hBW2 hW2 hrs' hc hokS ha (by omega) (by omega) (Or.inr (Or.inl ⟨rfl, hk, hok2⟩)))
        st ev W (hk7 (Or.inr hk)) rfl hW hBW hno1 (by omega))
theorem stmts_all (I : ObsI) (K kf : Nat) (m : Int) (ga : Option Addr) (gn gc : Nat) (sa : Option Addr) (sn sc : Nat) (ya : Option Addr) (yn yc : Nat) (oa : Option Addr) (on oc : Nat) (va : Option Addr) (vn vc : Nat) (fa : Option Addr) (fn fc : Nat) (ba : Option Addr) (bn bc : Nat) (xa : Option Addr) (xn xc : Nat) (F fln c3 : Nat) (br b1 b2 b3 : Nat) (fl : List Int) (fs : List FnD) (ins : List (List Int)) (w0 : World) (X : CtxR I K kf m ga gn gc sa sn sc ya yn yc oa on oc va vn vc fa fn fc ba bn bc xa xn xc F fln c3 br b1 b2 b3 fl fs ins w0) : ∀ g, StmtsC I K kf m ga gn gc sa sn sc ya yn yc oa on oc va vn vc fa fn fc ba bn bc xa xn xc F fln c3 br b1 b2 b3 fl fs ins w0 g := by
  intro g
  induction g using Nat.strongRecOn with
  | ind g ih => exact stmtsR I K kf m ga gn gc sa sn sc ya yn yc oa on oc va vn vc fa fn fc ba bn bc xa xn xc F fln c3 br b1 b2 b3 fl fs ins w0 g X (hide fun g' hg' => stmtC_of I K kf m ga gn gc sa sn sc ya yn yc oa on oc va vn vc fa fn fc ba bn bc xa xn xc F fln c3 br b1 b2 b3 fl fs ins w0 g' X (fun g'' hg'' => ih g'' (Nat.lt_trans hg'' hg')))

def flOf (kf : Nat) (fs : List FnD) (j : Nat) : List Int := (List.range (j + 1)).map (fun i => ((cntF kf (fs.take i) : Nat) : Int))
theorem flOf_succ (kf : Nat) (fs : List FnD) (j : Nat) : flOf kf fs (j + 1) = flOf kf fs j ++ [((cntF kf (fs.take (j + 1)) : Nat) : Int)] := by
  unfold flOf
  rw [List.range_succ, List.map_append]
  rfl
theorem flOf_last (kf : Nat) (fs : List FnD) (j : Nat) : (flOf kf fs j)[j]? = some ((cntF kf (fs.take j) : Nat) : Int) := by
  unfold flOf
  rw [List.getElem?_map, List.getElem?_range (by omega)]
  rfl

theorem keepW2 {w w' : World} {a0 a1 : Addr} {v0 v1 : Value} (h : w.cell? a0 = some v0 ∧ w.cell? a1 = some v1) (hb : Below w.heap.size w w') : w'.cell? a0 = some v0 ∧ w'.cell? a1 = some v1 := ⟨cell_over hb _ _ h.1, cell_over hb _ _ h.2⟩
theorem own_cell1 {W : World} {B e : Nat} {v : Value} {n : Nat} {xs : List Value} (h : W.ownsRow B e 1 v n xs) (hn : 0 < n) : ∃ g cap, v = .slice (some ⟨g, 0, none⟩) n cap ∧ B ≤ g ∧ g < W.heap.size ∧ RowAt xs W g := by
  rcases h.2 with ⟨_, h0⟩ | ⟨g, cap, cur, hv, hb, hg, h1, h2, h3, h4⟩
  · omega
  · refine ⟨g, cap, hv, hb, (Array.getElem?_eq_some_iff.1 hg).1, fun j u hu => ?_⟩
    have := h.cells (g := g) (by rw [hv]; rfl) j u hu
    rwa [Addr.add_lit, Nat.zero_add] at this

section
variable {ops : Array Oper} {o : Oper} {a : Act} {W : World} {K : Act → World → Prop} {Q : Exit → Act → World → Prop} {E : Prop}


set_option maxRecDepth 100000 in
theorem step_appI (hg : o.guard = none) (s x : Operand) (hop : o.op = Op.call { callee := Callee.builtin Builtin.append, args := #[s, x], argTypes := #[25, 25] })
    (B b g cap n : Nat) (xs : List Value) (z : Int) (hs : a.eval s = .slice (some ⟨g, 0, none⟩) n cap) (hx : a.eval x = .slice (some ⟨b, 0, none⟩) 1 1)
    (hown : W.ownsRow B 3 1 (.slice (some ⟨g, 0, none⟩) n cap) n xs) (hb : W.cell? ⟨b, 0, none⟩ = some (.int .i64 z)) (hk : n ≤ 1000) (hB : B ≤ W.heap.size)
    (h : ∀ v' W', W'.ownsRow B 3 1 v' (n + 1) (xs ++ [.int .i64 z]) → W.grownBy W' (some g) → (∀ j u, xs[j]? = some u → W'.cell? ⟨g, j, none⟩ = some u) → K (a.put o.dst v') W') :
    if Region.wanted o (yielded ops a.tmps) = true then Oper.wp Try.prog o a W K Q else E := by
  have hw : Region.wanted o (yielded ops a.tmps) = true := by simp [Region.wanted, hg]
  rw [if_pos hw]
  obtain ⟨i, hi, hz, h2, h16⟩ := info_parts Try.infoI
  have hnews : ∀ (j : Nat) (u : Value), ([.int .i64 z] : List Value)[j]? = some u → W.cell? ((⟨b, 0, none⟩ : Addr).add j) = some u := by
    intro j u hu
    rw [Addr.add_lit]
    match j, hu with
    | 0, hu => simp at hu; subst hu; simpa using hb
    | j + 1, hu => simp at hu
  have h1 : ∀ u ∈ ([.int .i64 z] : List Value), u.oneCell' = true := by intro u hu; simp at hu; subst hu; rfl
  obtain ⟨v', w', hr, h3, h4, h5, h6⟩ := run_append_own_at (P := Try.prog) W B 25 o.type 3 i _ 1 8 Try.underlying25 hi hz h2 h16 (by rfl) (by decide) _ n xs hown ⟨b, 0, none⟩ 1 1 [.int .i64 z] rfl hnews h1 (by simp only [maxLen]; omega) (by omega) hB
  have hcell : ∀ j u, xs[j]? = some u → w'.cell? ⟨g, j, none⟩ = some u := by
    intro j u hu
    have hu' : (xs ++ [.int .i64 z])[j]? = some u := by rw [List.getElem?_append_left (List.getElem?_eq_some_iff.1 hu).1]; exact hu
    have hlen := hown.1
    rcases hown.2 with ⟨hz, _⟩ | ⟨g', cap', cur, hv, hbg, hgg, hnc, hcm, hcs, htake⟩
    · cases hz
    · injection hv with q1 q2 q3
      injection q1 with q1
      injection q1 with q1
      subst q1
      subst q3
      by_cases hroom : n + 1 ≤ cap
      · have hr2 := run_append_room (P := Try.prog) W 25 o.type 3 i Try.underlying25 hi g n cap cur hgg ⟨b, 0, none⟩ 1 1 [.int .i64 z] (by rw [h2]; rfl) hnews h1 hroom (by rw [h2, hcs]; simp; omega)
        rw [hr] at hr2
        injection hr2 with r1 r2
        have := h3.cells (g := g) (by rw [r1]; rfl) j u hu'
        rwa [Addr.add_lit, Nat.zero_add] at this
      · have holds := hown.cells (g := g) rfl
        have hr2 := run_append_grow (P := Try.prog) W 25 o.type 3 i _ Try.underlying25 hi hz ⟨g, 0, none⟩ n cap xs (by rw [h2]; exact hlen) holds ⟨b, 0, none⟩ 1 1 [.int .i64 z] (by rw [h2]; rfl) hnews (by omega) (by omega) (growslice_fits (by omega) (by rw [h16]; omega))
        rw [hr] at hr2
        injection hr2 with r1 r2
        have hc := holds j u hu
        rw [Addr.add_lit, Nat.zero_add] at hc
        rw [r2]
        exact cell_over ((Below.refl _ W).drew.alloc (Nat.le_refl _) _) _ _ hc
  have hK := h v' w' h3 h4 hcell
  unfold Oper.wp execOp
  simp only [hop, resolve, invoke, builtin, Sem.run_bind, Sem.run_pure, Result.andThen_ok, List.map_toArray, List.map_cons, List.map_nil, hs, hx, hr]
  exact hK
end

set_option maxHeartbeats 2000000 in
set_option maxRecDepth 100000 in
theorem firsts_any (K kf : Nat) (m : Int) (ga : Option Addr) (gn gc : Nat) (sa : Option Addr) (sn sc : Nat) (ya : Option Addr) (yn yc : Nat) (oa : Option Addr) (on oc : Nat) (va : Option Addr) (vn vc : Nat) (fa : Option Addr) (fn fc : Nat) (ba : Option Addr) (bn bc : Nat) (fs : List FnD) (w : World) (hf : FnsAt w K kf (.slice fa fn fc) fs) (hcnt : cntF kf fs ≤ 50) (hfn : fn ≤ 5) :
    Calls Try.prog 69 #[.agg #[.int .i64 m, .slice ga gn gc, .slice sa sn sc, .slice ya yn yc, .slice oa on oc, .slice va vn vc, .slice fa fn fc, .slice ba bn bc]] w fun e w' => ∃ g cap, e = .returned (.slice (some ⟨g, 0, none⟩) (fs.length + 1) cap) ∧ w.heap.size ≤ g ∧ g < w'.heap.size ∧ RowAt (intsV (flOf kf fs fs.length)) w' g ∧ Below w.heap.size w w' := by
  obtain ⟨i0, hi, hz0, hz1, hz2⟩ := info_parts Try.infoI
  have hbel : Below w.heap.size w (w.alloc (.cells #[.int .i64 m, .slice ga gn gc, .slice sa sn sc, .slice ya yn yc, .slice oa on oc, .slice va vn vc, .slice fa fn fc, .slice ba bn bc] 41)) := (Below.refl _ w).alloc (Nat.le_refl _) _
  have hbF : Below w.heap.size w ((w.alloc (.cells #[.int .i64 m, .slice ga gn gc, .slice sa sn sc, .slice ya yn yc, .slice oa on oc, .slice va vn vc, .slice fa fn fc, .slice ba bn bc] 41)).alloc (.cells #[.int .i64 0] 3)) := hbel.alloc (by simp) _
  have hE : fn = fs.length := by obtain ⟨-, a, c, he, -⟩ := hf; injection he
  have HE := hide hE
  have HF := hide hf
  have HC := hide hcnt
  have hst : Hid (((w.alloc (.cells #[.int .i64 m, .slice ga gn gc, .slice sa sn sc, .slice ya yn yc, .slice oa on oc, .slice va vn vc, .slice fa fn fc, .slice ba bn bc] 41)).alloc (.cells #[.int .i64 0] 3)).ownsRow (w.heap.size + 1) 3 1 (.slice (some ⟨w.heap.size + 1, 0, none⟩) 1 1) 1 (intsV (flOf kf fs 0))) := by
    have := World.ownsRow_lit (base := w.heap.size + 1) (e := 3) (size := 1) (w.alloc (.cells #[.int .i64 m, .slice ga gn gc, .slice sa sn sc, .slice ya yn yc, .slice oa on oc, .slice va vn vc, .slice fa fn fc, .slice ba bn bc] 41)) #[.int .i64 0] 1 (by simp) (by unfold maxLen; omega) rfl
    show World.ownsRow _ _ _ _ _ _ _
    simpa [flOf, cntF] using this
  have HB : Hid (Below (w.heap.size + 1) (w.alloc (.cells #[.int .i64 m, .slice ga gn gc, .slice sa sn sc, .slice ya yn yc, .slice oa on oc, .slice va vn vc, .slice fa fn fc, .slice ba bn bc] 41)) ((w.alloc (.cells #[.int .i64 m, .slice ga gn gc, .slice sa sn sc, .slice ya yn yc, .slice oa on oc, .slice va vn vc, .slice fa fn fc, .slice ba bn bc] 41)).alloc (.cells #[.int .i64 0] 3))) := (Below.refl _ _).alloc (by simp) _
  have HBEL := hide hbel
  clear hbF hf hcnt hE
  go_enter Try.func69, Try.ntmps69
  go_wp2_with fail
  go_loopw [3, 10] (fun s i wr => ∃ j : Nat, j ≤ fn ∧ i = .int .i64 j ∧ wr.ownsRow (w.heap.size + 1) 3 1 s (j + 1) (intsV (flOf kf fs j)) ∧ Below (w.heap.size + 1) (w.alloc (.cells #[.int .i64 m, .slice ga gn gc, .slice sa sn sc, .slice ya yn yc, .slice oa on oc, .slice va vn vc, .slice fa fn fc, .slice ba bn bc] 41)) wr) (fun _ i _ => fn - (intOf i).toNat)
  case atStart => exact ⟨0, Nat.zero_le _, rfl, hst.out, HB.out⟩
  case round =>
    clear hst HB
    obtain ⟨j, hj, rfl, hown, hB⟩ := hrel
    have hBw : Below w.heap.size w wr := HBEL.out.trans (hB.mono (by omega))
    obtain ⟨J1, hJ1⟩ : ∃ q, q = j + 1 := ⟨_, rfl⟩
    rw [← hJ1] at hown
    obtain ⟨g, cap, rfl, hgb, hgl, hgr⟩ := own_cell1 hown (by omega)
    have hji : (j : Int) < (J1 : Int) := by omega
    have hJ5 : J1 ≤ 10 := by omega
    have HJ1 := hide hJ1
    clear hJ1
    have HGR := hide hgr
    have HOWN := hide hown
    have HBB := hide hB
    have HBW := hide hBw
    by_cases hjl : j < fn
    · have hjd : j < fs.length := by rw [← HE.out]; exact hjl
      obtain ⟨-, ao, fcap, he, hel⟩ := HF.out
      injection he with e1 e2 e3
      obtain ⟨b, off, hbo, hel2⟩ := hel (by intro hz; rw [hz] at hjd; simp at hjd)
      obtain ⟨vP, vB, x0, x1, x2, f0, f1, f2, f3, f4, -, ⟨-, pa, pc, hvp, -⟩, hbd, hx⟩ := hel2 j hjd
      have e1' := e1.trans hbo
      subst e1'
      subst hvp
      have hbd0 := hbd
      obtain ⟨-, za, zc, hvb, -⟩ := hbd0
      subst hvb
      obtain ⟨ra, rc, hxf⟩ := hx.form
      simp only [List.cons.injEq, and_true] at hxf
      obtain ⟨rfl, rfl, rfl⟩ := hxf
      have hct := cntF_take (k := kf) hjd
      have hle : cntF kf (fs.take (j + 1)) ≤ 50 := by
        have h2 : cntF kf fs = cntF kf (fs.take (j + 1)) + cntF kf (fs.drop (j + 1)) := by
          unfold cntF
          rw [← List.sum_append, ← List.map_append, List.take_append_drop]
        have := HC.out
        omega
      have KM := hide fun W (hW : Below w.heap.size w W) => many_any K kf _ fs[j].body W (hbd.over hW) (by omega)
      have m0 := cell_over hBw _ _ f0
      have m1 := cell_over hBw _ _ f1
      have m2 := cell_over hBw _ _ f2
      have m3 := cell_over hBw _ _ f3
      have m4 := cell_over hBw _ _ f4
      obtain ⟨pl, hpl⟩ : ∃ q, q = fs[j].ps.length := ⟨_, rfl⟩
      obtain ⟨zl, hzl⟩ : ∃ q, q = fs[j].body.length := ⟨_, rfl⟩
      obtain ⟨rk, hrk⟩ : ∃ q, q = kindOf fs[j].res := ⟨_, rfl⟩
      obtain ⟨rN, hrN⟩ : ∃ q, q = numOf fs[j].res := ⟨_, rfl⟩
      obtain ⟨rl, hrl⟩ : ∃ q, q = (argsOf fs[j].res).length := ⟨_, rfl⟩
      rw [← hpl] at m0
      rw [← hzl] at m1 KM
      rw [← hrk] at m2
      rw [← hrN] at m3
      rw [← hrl] at m4
      obtain ⟨N, hN⟩ : ∃ N : Nat, N = cnts kf fs[j].body := ⟨_, rfl⟩
      obtain ⟨M, hM⟩ : ∃ M : Nat, M = cntF kf (fs.take j) := ⟨_, rfl⟩
      rw [← hN, ← hM] at hct
      rw [← hN] at KM
      have hMN : M + N ≤ 50 := by omega
      have HCT := hide hct
      have l0 : wr.cell? ⟨g, j, none⟩ = some (.int .i64 (M : Int)) := by rw [hM]; exact hgr j _ (by simp [flOf_last])
      have hba := (Below.refl _ wr).alloc (Nat.le_refl _) (.cells #[.slice pa pl pc, .slice za zl zc, .int .i64 rk, .int .i64 rN, .slice ra rl rc] 133)
      have l1 := cell_over hba _ _ l0
      have t1 : (wr.alloc (.cells #[.slice pa pl pc, .slice za zl zc, .int .i64 rk, .int .i64 rN, .slice ra rl rc] 133)).cell? ⟨wr.heap.size, 1, none⟩ = some (.slice za zl zc) := by simp [go_sem]
      have hBa := hBw.trans (hba.mono hBw.size)
      have KM' := hide fun W (hW : Below (wr.alloc (.cells #[.slice pa pl pc, .slice za zl zc, .int .i64 rk, .int .i64 rN, .slice ra rl rc] 133)).heap.size (wr.alloc (.cells #[.slice pa pl pc, .slice za zl zc, .int .i64 rk, .int .i64 rN, .slice ra rl rc] 133)) W) => KM.out W (hBa.trans (hW.mono hBa.size))
      have hsz : w.heap.size + 1 ≤ wr.heap.size := by have := hB.size; simpa using this
      have HFJ : Hid ((intsV (flOf kf fs j))[j]? = some (.int .i64 (M : Int))) := by
        show _ = _
        rw [hM]
        simp [flOf_last]
      have hgn : wr.heap.size ≠ g := by omega
      clear hel hel2 f0 f1 f2 f3 f4 hbd hx hct hle hpl hzl hrk hrN hrl hN hM e1 e2 e3 hbo hown hB hBw hgr KM l0
      go_wp2_with fail
      have hst1 : Hid (∀ W, Below wr.heap.size wr W → W.ownsRow (w.heap.size + 1) 3 1 (.slice (some ⟨g, 0, none⟩) J1 cap) J1 (intsV (flOf kf fs j))) := fun W hW => own_overG HOWN.out hW
      have KM2 := hide (KM'.out _ (below_drewN (Below.refl _ _) 1))
      have HBA := hide hba
      have hwrap : Hid (IntKind.i64.wrap ((M : Int) + (N : Int)) = ((M + N : Nat) : Int)) := by
        show _ = _
        rw [IntWalk.i64_in _ (by omega)]
        omega
      clear KM' HGR m0 m1 m2 m3 m4
      go_region_held3 (fun W => W.cell? ⟨g, j, none⟩ = some (.int .i64 (M : Int)) ∧ W.cell? ⟨wr.heap.size, 1, none⟩ = some (.slice za zl zc)) (first | assumption | exact ⟨l1, t1⟩ | exact keepW2 (by assumption) hbp | exact keepW2 (by assumption) ((Below.refl _ _).alloc (Nat.le_refl _) _) | exact ⟨hkeep j _ HFJ.out, grow_cellR hgr2 (by assumption : _ ∧ _).2 hgn⟩ | fail) (first | (go_at_call 101; refine (KM2.out).mono ?_; rintro e wp ⟨rfl, hbp⟩) | (refine step_appI rfl _ _ rfl (w.heap.size + 1) wp.heap.size g cap J1 (intsV (flOf kf fs j)) (IntKind.i64.wrap ((M : Int) + (N : Int))) rfl rfl (hst1.out _ (over_trans (over_trans HBA.out.drew hbp) ((Below.refl _ _).alloc (Nat.le_refl _) _))) (by simp [go_sem]) (by omega) (Nat.le_trans (Nat.le_trans hsz (over_trans HBA.out.drew hbp).size) ((Below.refl _ _).alloc (Nat.le_refl _) _).size) ?_; intro v2 W2 hown2 hgr2 hkeep))
      have hB2 : Below (w.heap.size + 1) (w.alloc (.cells #[.int .i64 m, .slice ga gn gc, .slice sa sn sc, .slice ya yn yc, .slice oa on oc, .slice va vn vc, .slice (some ⟨b, off, none⟩) fn fc, .slice ba bn bc] 41)) W2 := by
        have hs := hgr2.size
        have h1 := over_trans (over_trans (HBA.out.drew) hbp) ((Below.refl _ wp).alloc (Nat.le_refl _) (.cells #[.int .i64 (IntKind.i64.wrap ((M : Int) + (N : Int)))] 3))
        have h2 := HBB.out.trans (h1.mono hsz)
        exact ⟨hgr2.os.trans h2.os, hgr2.tape.trans h2.tape, hgr2.output.trans h2.output, Nat.le_trans h2.size hs, fun k hk => (hgr2.block k (by have := h1.size; omega) (fun e => by have := Option.some.inj e; omega)).trans (h2.block k hk)⟩
      have HF2 := hide (And.intro hown2 hB2)
      clear hown2 hgr2 hkeep hB2 hbp l1 t1 hba
      go_wp2_with fail
      refine ⟨⟨j + 1, by omega, by go_num, ?_, HF2.out.2⟩, by simp [intOf]; omega⟩
      have h1 := HF2.out.1
      rw [hwrap.out] at h1
      have h2 := HJ1.out
      rw [flOf_succ, HCT.out, ← h2]
      simpa [intsV] using h1
    · have hjE : j = fn := by omega
      subst hjE
      go_wp2_with fail
      go_ret
      have hE := HE.out
      have hJ := HJ1.out
      refine ⟨g, cap, ?_, by omega, hgl, ?_, HBW.out⟩
      · rw [← hE, ← hJ]; rfl
      · rw [← hE]
        exact HGR.out
end Go.Proofs.Ytcbbjjenkommeaa.Ex
