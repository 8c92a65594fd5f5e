/- A run of any program: every command. -/
import Derived.Test.YtpbnmmgocpobcaaM32
namespace Go.Proofs.Ytpbnmmgocpobcaa.Ex
open Go.RowKit
set_option linter.unusedVariables false

theorem rn_one (K kf : Nat) (fs : List FnD) (F : Nat) (ins : List (List Int)) (g k : Nat) (d : D) (l : List D) (a : Int) (st : RSt) : rn K kf fs F ins (g + 1) 1 k (d :: l) a st =
      if sKind d = 2 then contR (rn K kf fs F ins g 0 kf (fnAt fs (sOther d)).body (cntF kf (fs.take (sOther d).toNat)) (st.args K fs d)) (fun st' => (true, st'.setv (sVar d) (valX st'.vars K (fnAt fs (sOther d)).res)))
      else if sKind d = 7 then (if valX st.vars K (sExpr d) = 0 then rn K kf fs F ins g 0 (k - 1) (sElse d) (a + 1 + cnts (k - 1) (sThen d)) st else rn K kf fs F ins g 0 (k - 1) (sThen d) (a + 1) st)
      else if sKind d = 8 then rn K kf fs F ins g 2 k [d] a st
      else (true, oneX K ins d a st) := by
  simp only [rn]

theorem next_in {ins : List (List Int)} (h : ∀ x ∈ ins, ∀ y ∈ x, I32 y) (st : RSt) (c : Int) : I32 (nextX ins st c) := by
  unfold nextX
  rw [List.getD_eq_getElem?_getD, List.getD_eq_getElem?_getD]
  have z : I32 0 := ⟨by omega, by omega⟩
  cases hc : ins[c.toNat]? with
  | none => simpa using z
  | some l =>
    simp only [Option.getD_some]
    cases hy : l[(st.taken.getD c.toNat 0).toNat]? with
    | none => simpa using z
    | some y => simpa using h l (List.mem_of_getElem? hc) y (List.mem_of_getElem? hy)

set_option maxHeartbeats 4000000 in
theorem stmtC_of (K kf : Nat) (m : Int) (ga : Option Addr) (gn gc : Nat) (sa : Option Addr) (sn sc : Nat) (ya : Option Addr) (yn yc : Nat) (oa : Option Addr) (on oc : Nat) (va : Option Addr) (vn vc : Nat) (fa : Option Addr) (fn fc : Nat) (ba : Option Addr) (bn bc : Nat) (xa : Option Addr) (xn xc : Nat) (F fln c3 : Nat) (br b1 b2 b3 : Nat) (fl : List Int) (en : Int) (fs : List FnD) (ins : List (List Int)) (w0 : World) (g : Nat) (X : CtxR K kf m ga gn gc sa sn sc ya yn yc oa on oc va vn vc fa fn fc ba bn bc xa xn xc F fln c3 br b1 b2 b3 fl en fs ins w0) (HS : ∀ g', g' < g → StmtsC K kf m ga gn gc sa sn sc ya yn yc oa on oc va vn vc fa fn fc ba bn bc xa xn xc F fln c3 br b1 b2 b3 fl en fs ins w0 g') : StmtC K kf m ga gn gc sa sn sc ya yn yc oa on oc va vn vc fa fn fc ba bn bc xa xn xc F fln c3 br b1 b2 b3 fl en fs ins w0 g := by
  intro k cs d c a st ev w hrs hc hok ha hac hB0 h hno hs hg
  obtain ⟨k', rfl⟩ : ∃ k', k = k' + 1 := by
    cases k with
    | zero => exact hrs.elim
    | succ k => exact ⟨k, rfl⟩
  obtain ⟨g2, rfl⟩ : ∃ g2, g = g2 + 1 := ⟨g - 1, by omega⟩
  have hcn : cntS (k' + 1) d = 1 + cnts k' (sThen d) + cnts k' (sElse d) := rfl
  have hno1 := hno.step hs
  have hvl : st.step.vars.length = vn := hno.vl
  have hst1 : st.step.steps = st.steps + 1 := rfl
  obtain ⟨ek, ex, pa, pl, pc, aa, ac, ta, tc, ea, ec, rfl, -, -, -, hX, hA, hT, hE, -, -, -⟩ := hrs.form
  obtain ⟨⟨⟨k1, k8⟩, hvar, hcall, hget, hexp⟩, hokT, hokE⟩ := hok
  have hXw := hX.over hB0
  have hoX : (sKind d = 1 ∨ 4 ≤ sKind d) → okX st.step.vars.length K (sExpr d) := fun hk => by rw [hvl]; exact okX_check hX (hexp hk)
  have hvI : (sKind d = 1 ∨ 4 ≤ sKind d) → I32 (valX st.step.vars K (sExpr d)) := fun hk => valX_in hno1.i32 K _ (hoX hk)
  have hF := X.fuel
  have hv16 := X.vars
  have hsb : st.steps ≤ F := hno.sb
  have hel : st.step.ev.length ≤ 2000 := by have := hno.el; show st.ev.length ≤ 2000; omega
  rw [rn_one]
  rcases (by omega : sKind d = 1 ∨ sKind d = 2 ∨ sKind d = 3 ∨ sKind d = 4 ∨ sKind d = 5 ∨ sKind d = 6 ∨ sKind d = 7 ∨ sKind d = 8) with hk | hk | hk | hk | hk | hk | hk | hk
  · rw [if_neg (by omega), if_neg (by omega), if_neg (by omega)]
    obtain ⟨v0, v1⟩ := hvar (by omega)
    obtain ⟨n, hn⟩ := Int.eq_ofNat_of_zero_le v0
    have he : oneX K ins d a st.step = st.step.setv (sVar d) (valX st.step.vars K (sExpr d)) := by unfold oneX; rw [if_pos hk]
    rw [he, hk, hn]
    refine (stmtR1 m ga gn gc sa sn sc ya yn yc oa on oc va vn vc fa fn fc ba bn bc xa xn xc F fln c3 w0.heap.size br b1 b2 b3 fl en st.step ev K (sExpr d) n (sOther d) ek ex pa pl pc aa (sArgs d).length ac ta (sThen d).length tc ea (sElse d).length ec a w h hXw (hoX (by omega)) hno1.i32 (by rw [hvl]; omega) (by rw [hvl]; exact hv16)).mono ?_
    rintro e w' ⟨h1, h2, h3⟩
    exact ⟨h1, ⟨ev, h2, h3⟩, hno1.setv (hvI (by omega))⟩
  · rw [if_pos hk]
    obtain ⟨v0, v1⟩ := hvar (by omega)
    obtain ⟨n, hn⟩ := Int.eq_ofNat_of_zero_le v0
    obtain ⟨⟨o0, o1⟩, hpn, hargs⟩ := hcall hk
    obtain ⟨c', hc'⟩ := Int.eq_ofNat_of_zero_le o0
    have hcl : c' < fs.length := by omega
    obtain ⟨-, fao, fcap, hfe, hfel⟩ := X.funcs
    injection hfe with e1 e2 e3
    obtain ⟨fb, foff, hfb, hfel2⟩ := hfel (by intro hz; rw [hz] at hcl; simp at hcl)
    have e1' := e1.trans hfb
    subst e1'
    obtain ⟨vP, vB, x0, x1, x2, f0, f1, f2, f3, f4, hp, ⟨hpl, qa, qc, hvp, hpc⟩, hbd, hx⟩ := hfel2 c' hcl
    subst hvp
    have hbd0 := hbd
    obtain ⟨-, za, zc, hvb, -⟩ := hbd0
    subst hvb
    obtain ⟨ra, rc, hxf⟩ := hx.form
    simp only [List.cons.injEq, and_true] at hxf
    obtain ⟨rfl, rfl, rfl⟩ := hxf
    obtain ⟨hb4, hbp, hbs, hbr⟩ := X.body c' hcl
    have hfa : fnAt fs (sOther d) = fs[c'] := by rw [hc']; simp [fnAt, hcl]
    have hpa : fs[c'].ps.length = (sArgs d).length := hpn _ (by rw [hc']; simp [hcl])
    have hfst : (sOther d).toNat = c' := by rw [hc']; rfl
    have hflc : fl[c']? = some ((cntF kf (fs.take c') : Nat) : Int) := by
      rw [X.flE, List.getElem?_map, List.getElem?_range (by omega)]
      rfl
    have hcf : cntF kf (fs.take c') + cnts kf fs[c'].body ≤ 50 := by
      have h1 := cntF_take (k := kf) hcl
      have h2 : cntF kf fs = cntF kf (fs.take (c' + 1)) + cntF kf (fs.drop (c' + 1)) := by
        unfold cntF
        rw [← List.sum_append, ← List.map_append, List.take_append_drop]
      have := X.cnt
      omega
    have harg : ∀ x ∈ sArgs d, okX vn K x := fun x hxm => by
      obtain ⟨j, hj⟩ := List.mem_iff_getElem?.1 hxm
      obtain ⟨-, aa', ac', hae, hael⟩ := hA
      obtain ⟨eb, eo, heb, hael2⟩ := hael (by intro hz; rw [hz] at hxm; cases hxm)
      obtain ⟨cs, -, -, hrx⟩ := hael2 j x hj
      exact okX_check hrx (hargs x hxm)
    have hrr : rn K kf fs F ins g2 0 kf (fnAt fs (sOther d)).body (cntF kf (fs.take (sOther d).toNat)) (st.step.args K fs d) = rn K kf fs F ins g2 0 kf fs[c'].body (cntF kf (fs.take c')) { st.step with vars := setAll st.step.vars (fs[c'].ps.zip ((sArgs d).map (valX st.step.vars K))) } := by
      unfold RSt.args
      rw [hfa, hfst]
    rw [hrr, hfa, hk, hn, hc']
    refine stmtR2 m ga gn gc sa sn sc ya yn yc oa on oc va vn vc (some ⟨fb, foff, none⟩) fn fc ba bn bc xa xn xc F fln c3 w0.heap.size br b1 b2 b3 fl en st.step ev (n : Int) (c' : Int) ek ex pa pl pc aa (sArgs d).length ac ta (sThen d).length tc ea (sElse d).length ec a _ w0 w h hB0 (hide fun W hW hBW => ?_)
    exact callR m ga gn gc sa sn sc ya yn yc oa on oc va vn vc fn fc ba bn bc xa xn xc F fln c3 br b1 b2 b3 fl en K kf g2 fs[c'].ps (sArgs d) fs[c'].res _ n c' fb foff ek ex pa pl pc aa (sArgs d).length ac ta (sThen d).length tc ea (sElse d).length ec a qa fs[c'].ps.length qc za fs[c'].body.length zc (kindOf fs[c'].res) (numOf fs[c'].res) ra (argsOf fs[c'].res).length rc w0 (fun st => rn K kf fs F ins g2 0 kf fs[c'].body (cntF kf (fs.take c')) st)
      (by rw [X.fnE]; exact hcl) (by omega) hv16 (by rw [X.fnE]; exact X.fn5) f0 f1 f2 f3 f4 hp hbp hpa hA harg (by omega) hx (okX_check hx hbr) hflc (by rw [X.flE, X.flN]; simp)
      (hide fun st2 ev2 W2 hW2 hBW2 hno2 hgg => HS g2 (by omega) kf _ fs[c'].body (c' : Int) _ st2 ev2 W2 hbd (by omega) hbs (by omega) (by omega) hBW2 hW2 hno2 hgg)
      st.step ev W hW hBW hno1 (by rw [hst1]; omega)
  · rw [if_neg (by omega), if_neg (by omega), if_neg (by omega)]
    obtain ⟨v0, v1⟩ := hvar (by omega)
    obtain ⟨n, hn⟩ := Int.eq_ofNat_of_zero_le v0
    have he : oneX K ins d a st.step = (st.step.took (sOther d)).setv (sVar d) (nextX ins st.step (sOther d)) := by unfold oneX; rw [if_neg (by omega), if_pos hk]
    obtain ⟨o0, o1⟩ := hget hk
    rw [he, hk, hn]
    refine (stmtR3 m ga gn gc sa sn sc ya yn yc oa on oc va vn vc fa fn fc ba bn bc xa xn xc F fln c3 w0.heap.size br b1 b2 b3 fl en st.step ev n (sOther d) ek ex pa pl pc aa (sArgs d).length ac ta (sThen d).length tc ea (sElse d).length ec a ins w0 w h hB0 h.lo.2.2 X.lists o0 (by rw [X.many]; exact o1) (by rw [X.many]; exact hno.tl.symm) (fun x hx => ⟨(hno.tk x hx).1, by have := (hno.tk x hx).2; omega⟩) X.long (by rw [hvl]; omega) (by rw [hvl]; exact hv16)).mono ?_
    rintro e w' ⟨h1, h2, h3⟩
    exact ⟨h1, ⟨ev, h2, h3⟩, (hno.took hs _).setv (next_in X.num _ _)⟩
  · rw [if_neg (by omega), if_neg (by omega), if_neg (by omega)]
    have he : oneX K ins d a st.step = st.step.tell (1, a, sOther d, valX st.step.vars K (sExpr d)) := by unfold oneX; rw [if_neg (by omega), if_neg (by omega), if_pos hk]
    rw [he, hk]
    refine (stmtR4 m ga gn gc sa sn sc ya yn yc oa on oc va vn vc fa fn fc ba bn bc xa xn xc F fln c3 w0.heap.size br b1 b2 b3 fl en st.step ev K (sExpr d) (sVar d) (sOther d) ek ex pa pl pc aa (sArgs d).length ac ta (sThen d).length tc ea (sElse d).length ec a w h hXw (hoX (by omega)) hno1.i32 hel).mono ?_
    rintro e w' ⟨h1, ev', h2, h3⟩
    exact ⟨h1, ⟨ev', h2, h3⟩, hno1.tell _ (by rw [hst1]; have := hno.el; show st.ev.length < _; omega)⟩
  · rw [if_neg (by omega), if_neg (by omega), if_neg (by omega)]
    obtain ⟨v0, v1⟩ := hvar (by omega)
    obtain ⟨n, hn⟩ := Int.eq_ofNat_of_zero_le v0
    have he : oneX K ins d a st.step = (st.step.setv (sVar d) (valX st.step.vars K (sExpr d))).tell (2, a, sVar d, valX st.step.vars K (sExpr d)) := by unfold oneX; rw [if_neg (by omega), if_neg (by omega), if_neg (by omega), if_pos hk]
    rw [he, hk, hn]
    refine (stmtR5 m ga gn gc sa sn sc ya yn yc oa on oc va vn vc fa fn fc ba bn bc xa xn xc F fln c3 w0.heap.size br b1 b2 b3 fl en st.step ev K (sExpr d) n (sOther d) ek ex pa pl pc aa (sArgs d).length ac ta (sThen d).length tc ea (sElse d).length ec a w h hXw (hoX (by omega)) hno1.i32 (by rw [hvl]; omega) (by rw [hvl]; exact hv16) hel).mono ?_
    rintro e w' ⟨h1, ev', h2, h3⟩
    exact ⟨h1, ⟨ev', h2, h3⟩, (hno1.setv (hvI (by omega))).tell _ (by show st.ev.length < st.steps + 1; have := hno.el; omega)⟩
  · rw [if_neg (by omega), if_neg (by omega), if_neg (by omega)]
    obtain ⟨v0, v1⟩ := hvar (by omega)
    obtain ⟨n, hn⟩ := Int.eq_ofNat_of_zero_le v0
    have he : oneX K ins d a st.step = (st.step.setv (sVar d) (valX st.step.vars K (sExpr d))).tell (3, a, sVar d, valX st.step.vars K (sExpr d)) := by unfold oneX; rw [if_neg (by omega), if_neg (by omega), if_neg (by omega), if_neg (by omega), if_pos hk]
    rw [he, hk, hn]
    refine (stmtR6 m ga gn gc sa sn sc ya yn yc oa on oc va vn vc fa fn fc ba bn bc xa xn xc F fln c3 w0.heap.size br b1 b2 b3 fl en st.step ev K (sExpr d) n (sOther d) ek ex pa pl pc aa (sArgs d).length ac ta (sThen d).length tc ea (sElse d).length ec a w h hXw (hoX (by omega)) hno1.i32 (by rw [hvl]; omega) (by rw [hvl]; exact hv16) hel).mono ?_
    rintro e w' ⟨h1, ev', h2, h3⟩
    exact ⟨h1, ⟨ev', h2, h3⟩, (hno1.setv (hvI (by omega))).tell _ (by show st.ev.length < st.steps + 1; have := hno.el; omega)⟩
  · rw [if_neg (by omega), if_pos hk]
    rw [hk]
    exact stmtR7 m ga gn gc sa sn sc ya yn yc oa on oc va vn vc fa fn fc ba bn bc xa xn xc F fln c3 w0.heap.size br b1 b2 b3 fl en st.step ev K (sExpr d) (sVar d) (sOther d) ek ex pa pl pc aa (sArgs d).length ac ta (sThen d).length tc ea (sElse d).length ec a (cnts k' (sThen d) : Nat) _ _ w0 w h hB0 hXw (hoX (by omega)) hno1.i32 (by omega) (by omega)
      (hide fun W hW hBW => HS g2 (by omega) k' _ (sThen d) c (a + 1) st.step ev W hT hc hokT (by omega) (by omega) hBW hW hno1 (by rw [hst1]; omega))
      (hide fun W hW hBW => HS g2 (by omega) k' _ (sElse d) c (a + 1 + (cnts k' (sThen d) : Nat)) st.step ev W hE hc hokE (by omega) (by omega) hBW hW hno1 (by rw [hst1]; omega))
      (hide fun W hBW => many_any K k' _ (sThen d) W (hT.over hBW) (by omega))
  · rw [if_neg (by omega), if_neg (by omega), if_pos hk]
    rw [hk]
    exact stmtR8 m ga gn gc sa sn sc ya yn yc oa on oc va vn vc fa fn fc ba bn bc xa xn xc F fln c3 w0.heap.size br b1 b2 b3 fl en st.step ev (sVar d) (sOther d) ek ex pa pl pc aa (sArgs d).length ac ta (sThen d).length tc ea (sElse d).length ec a _ w0 w h hB0
      (hide fun W hW hBW => loopR m ga gn gc sa sn sc ya yn yc oa on oc va vn vc fa fn fc ba bn bc xa xn xc F fln c3 w0.heap.size br b1 b2 b3 fl en K kf (k' + 1) g2 fs ins d (sVar d) (sOther d) ek ex pa pl pc aa (sArgs d).length ac ta (sThen d).length tc ea (sElse d).length ec a w0 hF (by omega) hX (okX_check hX (hexp (by omega)))
        (hide fun g' hg' st2 ev2 W2 hW2 hBW2 hno2 hgg => HS g' (by omega) k' _ (sThen d) c (a + 1) st2 ev2 W2 hT hc hokT (by omega) (by omega) hBW2 hW2 hno2 hgg)
        st.step ev W rfl hW hBW hno1 (by rw [hst1]; omega))
end Go.Proofs.Ytpbnmmgocpobcaa.Ex
