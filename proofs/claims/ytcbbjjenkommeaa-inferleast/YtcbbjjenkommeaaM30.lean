/- InferLeast: the law. -/
import Derived.Test.YtcbbjjenkommeaaM29
namespace Go.Proofs.Ytcbbjjenkommeaa.Ex
open Go.RowKit
set_option linter.unusedVariables false
theorem apL_lt {W0 W : World} {v : Value} {Ls : List Lev} (h : ApL W0 W v Ls) : ∀ g, v.ownBlock = some g → W0.heap.size ≤ g ∧ g < W.heap.size := by
  obtain ⟨us, ho, -⟩ := h
  intro g hg
  rcases ho.2 with ⟨h, -⟩ | ⟨g', cap, cur, h, hb, hh, -⟩
  · rw [h] at hg; cases hg
  · rw [h] at hg
    simp [Value.ownBlock] at hg
    subst hg
    exact ⟨hb, (Array.getElem?_eq_some_iff.1 hh).1⟩
theorem ApL.over {W0 W W' : World} {v : Value} {Ls : List Lev} (h : ApL W0 W v Ls) (hb : Below W.heap.size W W') : ApL W0 W' v Ls :=
  h.keep (row := none) ⟨hb.os, hb.tape, hb.output, hb.size, fun k hk _ => hb.block k hk⟩ (by cases v.ownBlock <;> simp)
theorem apL_new {W0 W : World} (hb : Below W0.heap.size W0 W) : ApL W0 (W.alloc (.cells #[] 62)) (.slice (some ⟨W.heap.size, 0, none⟩) 0 0) [] :=
  ⟨[], ⟨rfl, Or.inr ⟨W.heap.size, 0, #[], rfl, hb.size, heap_of_alloc _ _, Nat.le_refl _, by simp [maxLen], rfl, rfl⟩⟩, fun i h => absurd h (by simp)⟩
theorem apL_ne {W0 W : World} {v : Value} {Ls : List Lev} (h : ApL W0 W v Ls) : Value.ownBlock (.slice (some ⟨W.heap.size, 0, none⟩) 0 0) ≠ v.ownBlock := fun e => by
  have := (apL_lt h _ e.symm).2
  simp at this

theorem all_len {n : Nat} {a b : List Lev} (h1 : ∀ x ∈ a, x.len n) (h2 : ∀ x ∈ b, x.len n) : ∀ x ∈ a ++ b, x.len n := fun x hx => by
  rcases List.mem_append.1 hx with h | h
  · exact h1 x h
  · exact h2 x h
theorem le_append {n : Nat} {a b : ISt} (h : LeI n a b) (hl : b.vs.length = a.vs.length ∧ b.fs.length = a.fs.length) (j : Nat) (h1 : j < (a.vs ++ a.fs).length) (h2 : j < (b.vs ++ b.fs).length) : flowsB (a.vs ++ a.fs)[j] (b.vs ++ b.fs)[j] n = true := by
  by_cases hj : j < a.vs.length
  · rw [List.getElem_append_left hj, List.getElem_append_left (by omega)]
    have := h.1 j
    simpa [List.getD_eq_getElem?_getD, hj, (by omega : j < b.vs.length)] using this
  · rw [List.getElem_append_right (by omega), List.getElem_append_right (by omega)]
    have := h.2 (j - a.vs.length)
    have e : j - b.vs.length = j - a.vs.length := by omega
    simp only [e]
    have k1 : j - a.vs.length < a.fs.length := by simp at h1; omega
    have k2 : j - a.vs.length < b.fs.length := by omega
    simpa [List.getD_eq_getElem?_getD, k1, k2] using this

set_option maxHeartbeats 8000000 in
set_option maxRecDepth 100000 in
theorem leastLaw (K kf : Nat) (m : Int) (ga : Option Addr) (gn gc : Nat) (sa : Option Addr) (sn sc : Nat) (ya : Option Addr) (yn yc : Nat) (oa : Option Addr) (on oc : Nat) (va : Option Addr) (vn vc : Nat) (fa : Option Addr) (fn fc : Nat) (ba : Option Addr) (bn bc : Nat) (gs : List (Int × Int)) (sp : List Int) (ls ms : List Lab) (vs : List (Bool × Lab)) (fs : List FnD) (l : List D) (la : Option Addr) (ln lc : Nat) (ka : Option Addr) (kn kc : Nat) (L : ISt) (w : World) (h : ProgAt K kf m ga gn gc sa sn sc ya yn yc oa on oc va vn vc fa fn fc ba bn bc gs sp ls ms vs fs l w) (hV : IsLevs w (.slice la ln lc) L.vs) (hF : IsLevs w (.slice ka kn kc) L.fs) (hvl : L.vs.length ≤ 9223372036854775807) (hfl : L.fs.length ≤ 9223372036854775807) (hna : la = none → lc = 0) (hnk : ka = none → kc = 0) :
    Calls Try.prog 6 #[.agg #[.int .i64 m, .slice ga gn gc, .slice sa sn sc, .slice ya yn yc, .slice oa on oc, .slice va vn vc, .slice fa fn fc, .slice ba bn bc], .agg #[.slice la ln lc, .slice ka kn kc]] w fun e w' => e = .returned (.bool true) ∧ Below w.heap.size w w' := by
  have KS : ∀ W, Below w.heap.size w W → Calls Try.prog 36 #[.agg #[.int .i64 m, .slice ga gn gc, .slice sa sn sc, .slice ya yn yc, .slice oa on oc, .slice va vn vc, .slice fa fn fc, .slice ba bn bc]] W fun e w' => ∃ why : Int, e = .returned (.int .i64 why) ∧ (why = 0 ↔ (Ey.xP K kf m vn yn on sn gs sp ls ms vs fs l)) ∧ Below W.heap.size W w' := fun W hW => Ey.scopeCheck_any K kf m ga gn gc sa sn sc ya yn yc oa on oc va vn vc fa fn fc ba bn bc gs sp ls ms vs fs l W (h.over hW)
  have hX : (Ey.xP K kf m vn yn on sn gs sp ls ms vs fs l) → okP K kf m vn yn on gs sp ls ms vs fs l := fun hx => hx.ok
  have hb0 : Below w.heap.size w ((w.alloc (.cells #[.int .i64 m, .slice ga gn gc, .slice sa sn sc, .slice ya yn yc, .slice oa on oc, .slice va vn vc, .slice fa fn fc, .slice ba bn bc] 41)).alloc (.cells #[.slice la ln lc, .slice ka kn kc] 54)) := ((Below.refl _ w).alloc (Nat.le_refl _) _).alloc (by simp) _
  have KI := hide (inferW K kf m ga gn gc sa sn sc ya yn yc oa on oc va vn vc fa fn fc ba bn bc gs sp ls ms vs fs l _ (h.over hb0) (fun why => (why = 0 ↔ (Ey.xP K kf m vn yn on sn gs sp ls ms vs fs l))) (fun W hW => KS W (over_trans hb0 hW)) (fun hp => hX (hp.1 rfl)))
  have KF := hide fun (la : Option Addr) (ln lc : Nat) (ka : Option Addr) (kn kc : Nat) (L : ISt) W (hW : Below w.heap.size w W) h1 h2 h3 h4 => fitsW K kf m ga gn gc sa sn sc ya yn yc oa on oc va vn vc fa fn fc ba bn bc gs sp ls ms vs fs l la ln lc ka kn kc L W (h.over hW) h1 h2 h3 h4 (Ey.xP K kf m vn yn on sn gs sp ls ms vs fs l) (fun W2 hW2 => KS W2 (over_trans hW hW2)) hX
  have KB1 := hide inferBegun_any
  have KB2 := hide Go.Proofs.Ytcbbjjenkommeaa.begun_any
  have rowP : RowAt [.int .i64 m, .slice ga gn gc, .slice sa sn sc, .slice ya yn yc, .slice oa on oc, .slice va vn vc, .slice fa fn fc, .slice ba bn bc] ((w.alloc (.cells #[.int .i64 m, .slice ga gn gc, .slice sa sn sc, .slice ya yn yc, .slice oa on oc, .slice va vn vc, .slice fa fn fc, .slice ba bn bc] 41)).alloc (.cells #[.slice la ln lc, .slice ka kn kc] 54)) w.heap.size := (RowAt.new [.int .i64 m, .slice ga gn gc, .slice sa sn sc, .slice ya yn yc, .slice oa on oc, .slice va vn vc, .slice fa fn fc, .slice ba bn bc] 41 w).over ((Below.refl _ _).alloc (Nat.le_refl _) _)
  have rowL : RowAt [.slice la ln lc, .slice ka kn kc] ((w.alloc (.cells #[.int .i64 m, .slice ga gn gc, .slice sa sn sc, .slice ya yn yc, .slice oa on oc, .slice va vn vc, .slice fa fn fc, .slice ba bn bc] 41)).alloc (.cells #[.slice la ln lc, .slice ka kn kc] 54)) (w.heap.size + 1) := by
    have := RowAt.new [.slice la ln lc, .slice ka kn kc] 54 (w.alloc (.cells #[.int .i64 m, .slice ga gn gc, .slice sa sn sc, .slice ya yn yc, .slice oa on oc, .slice va vn vc, .slice fa fn fc, .slice ba bn bc] 41))
    simpa using this
  have HB0 := hide hb0
  have HRP := hide rowP
  have HRL := hide rowL
  have H := hide h
  have HX := hide hX
  have HV := hide hV
  have HF := hide hF
  have HNN := hide (And.intro hna hnk)
  have vn_eq : Hid (vn = vs.length) := hide (by obtain ⟨-, a, c, he, -⟩ := h.vars; injection he)
  have HBD := hide (And.intro hvl hfl)
  have c0 := rowP 0 _ rfl
  have c1 := rowP 1 _ rfl
  have c2 := rowP 2 _ rfl
  have c3 := rowP 3 _ rfl
  have c4 := rowP 4 _ rfl
  have c5 := rowP 5 _ rfl
  have c6 := rowP 6 _ rfl
  have c7 := rowP 7 _ rfl
  clear hb0 rowP rowL h hX hV hF hvl hfl KS hna hnk
  go_enter Try.func6, Try.ntmps6
  go_wp2_with fail
  refine (KI.out).mono ?_
  rintro e w1 ⟨why, hPw, hb1, hres⟩
  have HPW := hide hPw
  have hB1 := over_trans HB0.out hb1
  have HRP1 := hide (HRP.out.over hb1)
  have HRL1 := hide (HRL.out.over hb1)
  clear c0 c1 c2 c3 c4 c5 c6 c7 KI hPw
  rcases hres with ⟨hne, rfl⟩ | ⟨hz, hok, n, st, pa', pn', pc', qa', qn', qc', hm, rfl, hI1, hI2, hl1, hl2, hv1, hv2, hinf, hp0, hq0⟩
  · have hba := (Below.refl _ w1).alloc (Nat.le_refl _) (.cells #[.slice none 0 0, .slice none 0 0] 54)
    have HB1 := hide (over_trans hB1 hba)
    have HRM := hide (RowAt.new [.slice none 0 0, .slice none 0 0] 54 w1)
    have HNE := hide hne
    clear hb1 hB1 hba
    go_wp2_with fail
    refine (KB1.out _).mono ?_
    rintro e w2 ⟨rfl, hb2⟩
    have hrm2 := HRM.out.over hb2
    have HRM2 := hide hrm2
    go_wp2_with fail
    refine (KB2.out _).mono ?_
    rintro e w3 ⟨rfl, hb3⟩
    have hrm3 := HRM2.out.over hb3
    have m0 := hrm3 0 _ rfl
    have HEND := hide (over_trans HB1.out (over_trans hb2 hb3))
    clear hrm2 hrm3 hb2 hb3
    go_wp2_with fail
    go_ret
    exact ⟨rfl, HEND.out⟩
  · subst hz
    have HXP : Hid (Ey.xP K kf m vn yn on sn gs sp ls ms vs fs l) := hide (HPW.out.1 rfl)
    have hba := (Below.refl _ w1).alloc (Nat.le_refl _) (.cells #[.slice pa' pn' pc', .slice qa' qn' qc'] 54)
    have HB1 := hide (over_trans hB1 hba)
    have HRM := hide (RowAt.new [.slice pa' pn' pc', .slice qa' qn' qc'] 54 w1)
    have HRP2 := hide (HRP1.out.over hba)
    have HRL2 := hide (HRL1.out.over hba)
    have HI1 := hide (isLevs_over hI1 hba)
    have HI2 := hide (isLevs_over hI2 hba)
    have HINF := hide (And.intro hinf (And.intro hp0 hq0))
    have HOK := hide hok
    have HLE := hide (And.intro hl1 (And.intro hl2 (And.intro hv1 hv2)))
    have HMN := hide hm
    clear hb1 hB1 hba hI1 hI2 hinf hp0 hq0 hok hl1 hl2 hv1 hv2 hm HRP1 HRL1 HRP HRL HB0
    go_wp2_with fail
    refine (KB1.out _).mono ?_
    rintro e w2 ⟨rfl, hb2⟩
    go_wp2_with fail
    refine (KB2.out _).mono ?_
    rintro e w3 ⟨rfl, hb3⟩
    have hb23 := over_trans hb2 hb3
    have HB3 := hide (over_trans HB1.out hb23)
    have hrp3 := HRP2.out.over hb23
    have hrl3 := HRL2.out.over hb23
    have hrm3 := HRM.out.over hb23
    have HRP3 := hide hrp3
    have HRL3 := hide hrl3
    have HRM3 := hide hrm3
    have HJ1 := hide (isLevs_over HI1.out hb23)
    have HJ2 := hide (isLevs_over HI2.out hb23)
    have K3 := hide (KF.out pa' pn' pc' qa' qn' qc' st w3 HB3.out HJ1.out HJ2.out (by have h1 := HLE.out.2.2.1; have h2 := HOK.out.vars; omega) (by have h1 := HLE.out.2.2.2; have h2 := HOK.out.funcs; omega))
    have c0 := hrp3 0 _ rfl
    have c1 := hrp3 1 _ rfl
    have c2 := hrp3 2 _ rfl
    have c3 := hrp3 3 _ rfl
    have c4 := hrp3 4 _ rfl
    have c5 := hrp3 5 _ rfl
    have c6 := hrp3 6 _ rfl
    have c7 := hrp3 7 _ rfl
    have m0 := hrm3 0 _ rfl
    have m1 := hrm3 1 _ rfl
    clear hb2 hb3 hb23 hrp3 hrl3 hrm3 HRP2 HRL2 HRM HI1 HI2
    go_wp2_with fail
    refine (K3.out).mono ?_
    rintro e w4 ⟨why, hwhy, hb4, hres⟩
    have hmm := HMN.out
    have hwz : why = 0 := hwhy.2 ⟨HXP.out, HLE.out.2.2.1, HLE.out.2.2.2, fun x hx => by rw [hmm]; exact len_right (by rw [← hmm]; exact HOK.out.chk) (HLE.out.1 x hx), fun x hx => by rw [hmm]; exact len_right (by rw [← hmm]; exact HOK.out.chk) (HLE.out.2.1 x hx)⟩
    rcases hres with ⟨hne, -⟩ | ⟨-, n', b, hn', rfl, hbb⟩
    · exact absurd hwz hne
    obtain rfl : n = n' := by omega
    have hbt : b = true := hbb.2 ⟨inferred_known HINF.out.1, inferred_fits HINF.out.1⟩
    have hB4 := over_trans HB3.out hb4
    have HB4 := hide hB4
    have hrp4 := HRP3.out.over hb4
    have hrl4 := HRL3.out.over hb4
    have HRP4 := hide hrp4
    have HRL4 := hide hrl4
    have HRM4 := hide (HRM3.out.over hb4)
    have HK1 := hide (isLevs_over HJ1.out hb4)
    have HK2 := hide (isLevs_over HJ2.out hb4)
    have K4 := hide (KF.out la ln lc ka kn kc L w4 HB4.out (isLevs_over HV.out hB4) (isLevs_over HF.out hB4) HBD.out.1 HBD.out.2)
    clear c0 c1 c2 c3 c4 c5 c6 c7 m0 m1 K3 hmm hwz hwhy hn' hbb hB4 HRP3 HRL3 HRM3 HJ1 HJ2 hb4
    subst hbt
    have c0 := hrp4 0 _ rfl
    have c1 := hrp4 1 _ rfl
    have c2 := hrp4 2 _ rfl
    have c3 := hrp4 3 _ rfl
    have c4 := hrp4 4 _ rfl
    have c5 := hrp4 5 _ rfl
    have c6 := hrp4 6 _ rfl
    have c7 := hrp4 7 _ rfl
    have l0 := hrl4 0 _ rfl
    have l1 := hrl4 1 _ rfl
    clear hrp4 hrl4
    go_wp2_with fail
    refine (K4.out).mono ?_
    rintro e w5 ⟨why2, hwhy2, hb5, hres⟩
    rcases hres with ⟨hne, rfl⟩ | ⟨hz2, n', b, hn', rfl, hbb⟩
    · have HEND := hide (over_trans HB4.out hb5)
      clear c0 c1 c2 c3 c4 c5 c6 c7 l0 l1 hwhy2
      go_wp2_with fail
      go_ret
      exact ⟨rfl, HEND.out⟩
    have HW2 := hide hwhy2
    have HZ2 := hide hz2
    have HN2 := hide hn'
    have HBB := hide hbb
    have hB5 := over_trans HB4.out hb5
    have HB5 := hide hB5
    have HRP5 := hide (HRP4.out.over hb5)
    have HRL5 := hide (HRL4.out.over hb5)
    have HRM5 := hide (HRM4.out.over hb5)
    have HM1 := hide (isLevs_over HK1.out hb5)
    have HM2 := hide (isLevs_over HK2.out hb5)
    have HL1 := hide (isLevs_over HV.out hB5)
    have HL2 := hide (isLevs_over HF.out hB5)
    clear c0 c1 c2 c3 c4 c5 c6 c7 l0 l1 hwhy2 hn' hbb hz2 hB5 hb5 K4 HRP4 HRL4 HRM4 HK1 HK2
    cases b with
    | false =>
      go_wp2_with fail
      go_ret
      exact ⟨rfl, HB5.out⟩
    | true =>
      have hlv2 := HW2.out.1 HZ2.out
      have HLB : Hid (st.vs.length ≤ 16 ∧ st.fs.length ≤ 5 ∧ L.vs.length ≤ 16 ∧ L.fs.length ≤ 5) := hide (by have q1 := HLE.out.2.2.1; have q2 := HLE.out.2.2.2; have q3 := HOK.out.vars; have q4 := HOK.out.funcs; have q5 := hlv2.2.1; have q6 := hlv2.2.2.1; omega)
      have HLV2 := hide hlv2
      have hS0 : w5.cell? ⟨w1.heap.size, 0, none⟩ = some (.slice pa' pn' pc') ∧ w5.cell? ⟨w1.heap.size, 1, none⟩ = some (.slice qa' qn' qc') ∧ w5.cell? ⟨(w.heap.size + 1), 0, none⟩ = some (.slice la ln lc) ∧ w5.cell? ⟨(w.heap.size + 1), 1, none⟩ = some (.slice ka kn kc) := by have hr := HRM5.out; have hq := HRL5.out; exact ⟨hr 0 _ rfl, hr 1 _ rfl, hq 0 _ rfl, hq 1 _ rfl⟩
      clear hlv2
      go_wp2_with fail
      refine wp_region_held_drew (S := fun Wz => Wz.cell? ⟨w1.heap.size, 0, none⟩ = some (.slice pa' pn' pc') ∧ Wz.cell? ⟨w1.heap.size, 1, none⟩ = some (.slice qa' qn' qc') ∧ Wz.cell? ⟨(w.heap.size + 1), 0, none⟩ = some (.slice la ln lc) ∧ Wz.cell? ⟨(w.heap.size + 1), 1, none⟩ = some (.slice ka kn kc)) (by kernel_rfl) (hS0) (fun hHeld => ?_)
      refine tk (i := 1) (oi := ⟨some 55, .fieldAddr 54 (.tmp 5) 0, 0, "flows.go:146", #[], none⟩) (v := ?_) (Or.inl ⟨by rfl, ?_⟩) (by assumption) ?_
      rotate_left
      · intro w' hSw
        (try dsimp only at hSw)
        go_simp
        try with_reducible rfl
      try simp only [aput]
      refine tk (i := 2) (oi := ⟨some 56, .load 52 (.tmp 55), 52, "flows.go:146", #[⟨1, .data⟩], none⟩) (v := ?_) (Or.inl ⟨by rfl, ?_⟩) (by assumption) ?_
      rotate_left
      · intro w' hSw
        (try dsimp only at hSw)
        go_simp
        try with_reducible rfl
      try simp only [aput]
      refine tk (i := 4) (oi := ⟨some 58, .fieldAddr 54 (.tmp 5) 1, 0, "flows.go:146", #[], none⟩) (v := ?_) (Or.inl ⟨by rfl, ?_⟩) (by assumption) ?_
      rotate_left
      · intro w' hSw
        (try dsimp only at hSw)
        go_simp
        try with_reducible rfl
      try simp only [aput]
      refine tk (i := 5) (oi := ⟨some 59, .load 52 (.tmp 58), 52, "flows.go:146", #[⟨4, .data⟩], none⟩) (v := ?_) (Or.inl ⟨by rfl, ?_⟩) (by assumption) ?_
      rotate_left
      · intro w' hSw
        (try dsimp only at hSw)
        go_simp
        try with_reducible rfl
      try simp only [aput]
      refine tk (i := 8) (oi := ⟨some 62, .fieldAddr 54 (.tmp 3) 0, 0, "flows.go:146", #[], none⟩) (v := ?_) (Or.inl ⟨by rfl, ?_⟩) (by assumption) ?_
      rotate_left
      · intro w' hSw
        (try dsimp only at hSw)
        go_simp
        try with_reducible rfl
      try simp only [aput]
      refine tk (i := 9) (oi := ⟨some 63, .load 52 (.tmp 62), 52, "flows.go:146", #[⟨8, .data⟩], none⟩) (v := ?_) (Or.inl ⟨by rfl, ?_⟩) (by assumption) ?_
      rotate_left
      · intro w' hSw
        (try dsimp only at hSw)
        go_simp
        try with_reducible rfl
      try simp only [aput]
      refine tk (i := 11) (oi := ⟨some 65, .fieldAddr 54 (.tmp 3) 1, 0, "flows.go:146", #[], none⟩) (v := ?_) (Or.inl ⟨by rfl, ?_⟩) (by assumption) ?_
      rotate_left
      · intro w' hSw
        (try dsimp only at hSw)
        go_simp
        try with_reducible rfl
      try simp only [aput]
      refine tk (i := 12) (oi := ⟨some 66, .load 52 (.tmp 65), 52, "flows.go:146", #[⟨11, .data⟩], none⟩) (v := ?_) (Or.inl ⟨by rfl, ?_⟩) (by assumption) ?_
      rotate_left
      · intro w' hSw
        (try dsimp only at hSw)
        go_simp
        try with_reducible rfl
      try simp only [aput]
      refine wpAnyH_ready (rs := [0, 7]) (by kernel_rfl) (by simp) ?_
      refine (AllReadyH.cons (o := ⟨some 54, .buildSlice 52 0 #[], 52, "flows.go:146", #[], none⟩) rfl (fun K hK => ?_) (AllReadyH.cons (o := ⟨some 61, .buildSlice 52 0 #[], 52, "flows.go:146", #[], none⟩) rfl (fun K hK => ?_) AllReadyH.nil))
      · go_simp
        have HE1 : Hid (Below w5.heap.size w5 ((w5.alloc (.cells #[] 62)).drew)) := hide (((Below.refl _ w5).alloc (Nat.le_refl _) (.cells #[] 62)).drew)
        have HR1 : Hid (ApL w5 ((w5.alloc (.cells #[] 62)).drew) (.slice (some ⟨w5.heap.size, 0, none⟩) 0 0) []) := hide (apL_new (W0 := w5) (W := w5) (Below.refl _ w5))
        refine hK.out _ _ (by have hr := HRM5.out.over (HE1.out); have hq := HRL5.out.over (HE1.out); exact ⟨hr 0 _ rfl, hr 1 _ rfl, hq 0 _ rfl, hq 1 _ rfl⟩) (fun hHeld => ?_)
        clear hK K
        try simp only [aput]
        generalize ((w5.alloc (.cells #[] 62)).drew) = X1 at HE1 HR1 hHeld ⊢
        refine wpAnyH_ready (rs := [3, 7]) (by kernel_rfl) (by simp) ?_
        refine (AllReadyH.cons (o := { dst := some 57, op := Go.Op.call { callee := Go.Callee.builtin Go.Builtin.append, args := #[Go.Operand.tmp 54, Go.Operand.tmp 56], argTypes := #[52, 52] }, type := 52, pos := "flows.go:146", after := #[⟨0, .data⟩, ⟨2, .data⟩], guard := none }) rfl (fun K hK => ?_) (AllReadyH.cons (o := ⟨some 61, .buildSlice 52 0 #[], 52, "flows.go:146", #[], none⟩) rfl (fun K hK => ?_) AllReadyH.nil))
        · obtain ⟨v2, X2, hrun, hap, hgr, hat⟩ := appLev HR1.out (HE1.out) HM1.out HINF.out.2.1 (by have h16 := HLB.out; simp; omega)
          obtain ⟨za2, zn2, zc2, hv2⟩ : ∃ za zn zc, v2 = .slice za zn zc := by obtain ⟨us, ho, -⟩ := hap; exact own_form ho
          subst hv2
          have HE2 : Hid (Below w5.heap.size w5 X2) := hide ((HE1.out).trans (grown_none hgr (fun g e => (apL_lt HR1.out g e).1) ((HE1.out).size)))
          have HR2 := hide hap
          refine step_appR rfl _ _ _ rfl _ _ _ _ rfl rfl hrun ?_
          refine hK.out _ _ (by have hr := HRM5.out.over (HE2.out); have hq := HRL5.out.over (HE2.out); exact ⟨hr 0 _ rfl, hr 1 _ rfl, hq 0 _ rfl, hq 1 _ rfl⟩) (fun hHeld => ?_)
          clear hK K
          try simp only [aput]
          clear hrun hap hgr hat
          refine wpAnyH_ready (rs := [6, 7]) (by kernel_rfl) (by simp) ?_
          refine (AllReadyH.cons (o := { dst := some 60, op := Go.Op.call { callee := Go.Callee.builtin Go.Builtin.append, args := #[Go.Operand.tmp 57, Go.Operand.tmp 59], argTypes := #[52, 52] }, type := 52, pos := "flows.go:146", after := #[⟨3, .data⟩, ⟨5, .data⟩, ⟨3, .chain⟩], guard := none }) rfl (fun K hK => ?_) (AllReadyH.cons (o := ⟨some 61, .buildSlice 52 0 #[], 52, "flows.go:146", #[], none⟩) rfl (fun K hK => ?_) AllReadyH.nil))
          · obtain ⟨v3, X3, hrun, hap, hgr, hat⟩ := appLev HR2.out (HE2.out) HM2.out HINF.out.2.2 (by have h16 := HLB.out; simp; omega)
            obtain ⟨za3, zn3, zc3, hv3⟩ : ∃ za zn zc, v3 = .slice za zn zc := by obtain ⟨us, ho, -⟩ := hap; exact own_form ho
            subst hv3
            have HE3 : Hid (Below w5.heap.size w5 X3) := hide ((HE2.out).trans (grown_none hgr (fun g e => (apL_lt HR2.out g e).1) ((HE2.out).size)))
            have HR3 := hide hap
            refine step_appR rfl _ _ _ rfl _ _ _ _ rfl rfl hrun ?_
            refine hK.out _ _ (by have hr := HRM5.out.over (HE3.out); have hq := HRL5.out.over (HE3.out); exact ⟨hr 0 _ rfl, hr 1 _ rfl, hq 0 _ rfl, hq 1 _ rfl⟩) (fun hHeld => ?_)
            clear hK K
            try simp only [aput]
            clear hrun hap hgr hat
            refine wpAnyH_ready (rs := [7]) (by kernel_rfl) (by simp) ?_
            refine (AllReadyH.cons (o := ⟨some 61, .buildSlice 52 0 #[], 52, "flows.go:146", #[], none⟩) rfl (fun K hK => ?_) AllReadyH.nil)
            go_simp
            have HE4 : Hid (Below w5.heap.size w5 (X3.alloc (.cells #[] 62))) := hide (((HE3.out).alloc ((HE3.out).size) (.cells #[] 62)))
            have HR4 : Hid (ApL w5 (X3.alloc (.cells #[] 62)) (.slice (some ⟨X3.heap.size, 0, none⟩) 0 0) []) := hide (apL_new (W0 := w5) (W := X3) (HE3.out))
            have HO4 : Hid (ApL w5 (X3.alloc (.cells #[] 62)) (.slice za3 zn3 zc3) (([] ++ st.vs) ++ st.fs)) := hide (HR3.out.over ((Below.refl _ _).alloc (Nat.le_refl _) _))
            have HD4 : Hid (Value.ownBlock (.slice (some ⟨X3.heap.size, 0, none⟩) 0 0) ≠ Value.ownBlock (.slice za3 zn3 zc3)) := hide (apL_ne HR3.out)
            refine hK.out _ _ (by have hr := HRM5.out.over (HE4.out); have hq := HRL5.out.over (HE4.out); exact ⟨hr 0 _ rfl, hr 1 _ rfl, hq 0 _ rfl, hq 1 _ rfl⟩) (fun hHeld => ?_)
            clear hK K
            try simp only [aput]
            generalize (X3.alloc (.cells #[] 62)) = X4 at HE4 HR4 HO4 hHeld ⊢
            refine wpAnyH_ready (rs := [10]) (by kernel_rfl) (by simp) ?_
            refine (AllReadyH.cons (o := { dst := some 64, op := Go.Op.call { callee := Go.Callee.builtin Go.Builtin.append, args := #[Go.Operand.tmp 61, Go.Operand.tmp 63], argTypes := #[52, 52] }, type := 52, pos := "flows.go:146", after := #[⟨7, .data⟩, ⟨9, .data⟩, ⟨6, .chain⟩], guard := none }) rfl (fun K hK => ?_) AllReadyH.nil)
            obtain ⟨v5, X5, hrun, hap, hgr, hat⟩ := appLev HR4.out (HE4.out) HL1.out HNN.out.1 (by have h16 := HLB.out; simp; omega)
            obtain ⟨za5, zn5, zc5, hv5⟩ : ∃ za zn zc, v5 = .slice za zn zc := by obtain ⟨us, ho, -⟩ := hap; exact own_form ho
            subst hv5
            have HE5 : Hid (Below w5.heap.size w5 X5) := hide ((HE4.out).trans (grown_none hgr (fun g e => (apL_lt HR4.out g e).1) ((HE4.out).size)))
            have HR5 := hide hap
            have HO5 : Hid (ApL w5 X5 (.slice za3 zn3 zc3) (([] ++ st.vs) ++ st.fs)) := hide (HO4.out.keep hgr (Or.inr (Ne.symm (Ne.symm (hide (Ne.symm HD4.out)).out))))
            have HD5 : Hid (Value.ownBlock (.slice za5 zn5 zc5) ≠ Value.ownBlock (.slice za3 zn3 zc3)) := hide (by
              rcases hat with e | e
              · rw [e]; exact Ne.symm (hide (Ne.symm HD4.out)).out
              · rw [e]; intro e2; have h9 := (apL_lt HO4.out _ e2.symm).2; omega)
            refine step_appR rfl _ _ _ rfl _ _ _ _ rfl rfl hrun ?_
            refine hK.out _ _ (by have hr := HRM5.out.over (HE5.out); have hq := HRL5.out.over (HE5.out); exact ⟨hr 0 _ rfl, hr 1 _ rfl, hq 0 _ rfl, hq 1 _ rfl⟩) (fun hHeld => ?_)
            clear hK K
            try simp only [aput]
            clear hrun hap hgr hat
            refine wpAnyH_ready (rs := [13]) (by kernel_rfl) (by simp) ?_
            refine (AllReadyH.cons (o := { dst := some 67, op := Go.Op.call { callee := Go.Callee.builtin Go.Builtin.append, args := #[Go.Operand.tmp 64, Go.Operand.tmp 66], argTypes := #[52, 52] }, type := 52, pos := "flows.go:146", after := #[⟨10, .data⟩, ⟨12, .data⟩, ⟨10, .chain⟩], guard := none }) rfl (fun K hK => ?_) AllReadyH.nil)
            obtain ⟨v6, X6, hrun, hap, hgr, hat⟩ := appLev HR5.out (HE5.out) HL2.out HNN.out.2 (by have h16 := HLB.out; simp; omega)
            obtain ⟨za6, zn6, zc6, hv6⟩ : ∃ za zn zc, v6 = .slice za zn zc := by obtain ⟨us, ho, -⟩ := hap; exact own_form ho
            subst hv6
            have HE6 : Hid (Below w5.heap.size w5 X6) := hide ((HE5.out).trans (grown_none hgr (fun g e => (apL_lt HR5.out g e).1) ((HE5.out).size)))
            have HR6 := hide hap
            have HO6 : Hid (ApL w5 X6 (.slice za3 zn3 zc3) (([] ++ st.vs) ++ st.fs)) := hide (HO5.out.keep hgr (Or.inr (Ne.symm (Ne.symm (hide (Ne.symm HD5.out)).out))))
            have HD6 : Hid (Value.ownBlock (.slice za6 zn6 zc6) ≠ Value.ownBlock (.slice za3 zn3 zc3)) := hide (by
              rcases hat with e | e
              · rw [e]; exact Ne.symm (hide (Ne.symm HD5.out)).out
              · rw [e]; intro e2; have h9 := (apL_lt HO5.out _ e2.symm).2; omega)
            refine step_appR rfl _ _ _ rfl _ _ _ _ rfl rfl hrun ?_
            refine hK.out _ _ (by have hr := HRM5.out.over (HE6.out); have hq := HRL5.out.over (HE6.out); exact ⟨hr 0 _ rfl, hr 1 _ rfl, hq 0 _ rfl, hq 1 _ rfl⟩) (fun hHeld => ?_)
            clear hK K
            try simp only [aput]
            clear hrun hap hgr hat
            refine tk (i := 14) (oi := ⟨some 8, .assign (.tmp 60), 52, "flows.go:146", #[⟨6, .data⟩, ⟨13, .chain⟩, ⟨0, .phase⟩, ⟨1, .phase⟩, ⟨2, .phase⟩, ⟨3, .phase⟩, ⟨4, .phase⟩, ⟨5, .phase⟩, ⟨6, .phase⟩, ⟨7, .textOnly Go.Departure.lateStores⟩, ⟨8, .textOnly Go.Departure.lateStores⟩, ⟨9, .textOnly Go.Departure.lateStores⟩, ⟨10, .textOnly Go.Departure.lateStoresUnsure⟩, ⟨11, .textOnly Go.Departure.lateStores⟩, ⟨12, .textOnly Go.Departure.lateStores⟩, ⟨13, .textOnly Go.Departure.lateStoresUnsure⟩], none⟩) (v := ?_) (Or.inl ⟨by rfl, ?_⟩) (by assumption) ?_
            rotate_left
            · intro w' hSw
              (try dsimp only at hSw)
              go_simp
              try with_reducible rfl
            try simp only [aput]
            refine tk (i := 15) (oi := ⟨some 9, .assign (.tmp 67), 52, "flows.go:146", #[⟨13, .data⟩, ⟨14, .chain⟩, ⟨0, .phase⟩, ⟨1, .phase⟩, ⟨2, .phase⟩, ⟨3, .phase⟩, ⟨4, .phase⟩, ⟨5, .phase⟩, ⟨6, .phase⟩, ⟨7, .phase⟩, ⟨8, .phase⟩, ⟨9, .phase⟩, ⟨10, .phase⟩, ⟨11, .phase⟩, ⟨12, .phase⟩, ⟨13, .phase⟩, ⟨14, .phase⟩], none⟩) (v := ?_) (Or.inl ⟨by rfl, ?_⟩) (by assumption) ?_
            rotate_left
            · intro w' hSw
              (try dsimp only at hSw)
              go_simp
              try with_reducible rfl
            try simp only [aput]
            refine wpAnyH_done (by kernel_rfl) ?_ _
            have HRA : Hid (IsLevs X6 (.slice za3 zn3 zc3) (st.vs ++ st.fs)) := hide (by have := HO6.out.levs HE6.out; simpa using this)
            have HRB : Hid (IsLevs X6 (.slice za6 zn6 zc6) (L.vs ++ L.fs)) := hide (by have := HR6.out.levs HE6.out; simpa using this)
            have HEE := HE6
            have HZA : Hid (zn3 = st.vs.length + st.fs.length) := hide (by obtain ⟨ao, cp, he, -⟩ := HRA.out; injection he with e1 e2; rw [e2]; simp)
            have HZC : Hid (zn6 = L.vs.length + L.fs.length) := hide (by obtain ⟨ao, cp, he, -⟩ := HRB.out; injection he with e1 e2; rw [e2]; simp)
            have hz100 : zn3 ≤ 21 := by have h1 := HZA.out; have h2 := HLB.out; omega
            have HLL : Hid (L.vs.length = st.vs.length ∧ L.fs.length = st.fs.length) := hide (by have q1 := HLE.out.2.2.1; have q2 := HLE.out.2.2.2; have q5 := HLV2.out.2.1; have q6 := HLV2.out.2.2.1; omega)
            have hzc : zn3 = zn6 := by have h1 := HZA.out; have h2 := HZC.out; have h3 := HLL.out; omega
            have HRP6 := hide (HRP5.out.over HEE.out)
            clear hS0 hHeld
            subst hzc
            go_wp2_with fail
            go_loopw [10] (fun i wr => ∃ j : Nat, j ≤ zn3 ∧ i = .int .i64 j ∧ RowAt [.int .i64 m, .slice ga gn gc, .slice sa sn sc, .slice ya yn yc, .slice oa on oc, .slice va vn vc, .slice fa fn fc, .slice ba bn bc] wr w.heap.size ∧ Below X6.heap.size X6 wr) (fun i _ => zn3 - (intOf i).toNat)
            case atStart => exact ⟨0, Nat.zero_le _, rfl, HRP6.out, Below.refl _ _⟩
            case round =>
              obtain ⟨j, hj, rfl, hrp, hB⟩ := hrel
              by_cases hjl : j < zn3
              · have hja : j < (st.vs ++ st.fs).length := by have h1 := HZA.out; simp; omega
                have hjb : j < (L.vs ++ L.fs).length := by have h1 := HZA.out; have h3 := HLL.out; simp; omega
                obtain ⟨ao1, cp1, he1, hel1⟩ := isLevs_over HRA.out hB
                obtain ⟨ao2, cp2, he2, hel2⟩ := isLevs_over HRB.out hB
                injection he1 with e11 e12 e13
                injection he2 with e21 e22 e23
                obtain ⟨ba1, oa1, hbo1, hel1⟩ := hel1 (by intro hh; rw [hh] at hja; simp at hja)
                obtain ⟨bb1, ob1, hbo2, hel2⟩ := hel2 (by intro hh; rw [hh] at hjb; simp at hjb)
                have e1 := e11.trans hbo1
                have e2 := e21.trans hbo2
                obtain ⟨rv1, wv1, g0, g1, hlv1⟩ := hel1 j hja
                obtain ⟨rv2, wv2, g2, g3, hlv2⟩ := hel2 j hjb
                obtain ⟨p1, p2, p3, p4, p5, p6, hp1, hp2⟩ := lev_slices hlv1
                obtain ⟨q1, q2, q3, q4, q5, q6, hq1, hq2⟩ := lev_slices hlv2
                subst hp1 hp2 hq1 hq2
                subst e1 e2
                have hBw : Below w.heap.size w wr := over_trans (over_trans HB5.out HEE.out) hB
                have hmm := HMN.out
                have hchk : chkErr n gs = 0 := by rw [← hmm]; exact HOK.out.chk
                have KFl := hide fun W (hW : Below wr.heap.size wr W) => flowsOk m (.slice ga gn gc) gs (.agg #[.slice p1 p2 p3, .slice p4 p5 p6]) (.agg #[.slice q1 q2 q3, .slice q4 q5 q6]) _ _ W (isGrants_over H.out.grants (over_trans hBw hW)) (levAt_over hlv1 hW) (levAt_over hlv2 hW)
                have hl2a : lTwo m gs (st.vs ++ st.fs)[j] (L.vs ++ L.fs)[j] = 0 := by
                  rw [hmm]
                  refine lTwo_of hchk (all_len HLE.out.1 HLE.out.2.1 _ (List.getElem_mem hja)) (all_len (fun x hx => right_len hchk (by rw [← hmm]; exact HLV2.out.2.2.2.1 x hx)) (fun x hx => right_len hchk (by rw [← hmm]; exact HLV2.out.2.2.2.2 x hx)) _ (List.getElem_mem hjb))
                have hfl : flowsB (st.vs ++ st.fs)[j] (L.vs ++ L.fs)[j] m.toNat = true := by
                  rw [hmm, Int.toNat_natCast]
                  have hbb := HBB.out.1 (by simp)
                  have hnn : n = n' := by have := HN2.out; omega
                  subst hnn
                  exact le_append (inferred_least HINF.out.1 (HLV2.out.2.1.trans vn_eq.out) HLV2.out.2.2.1 hbb.1 hbb.2) HLL.out j hja hjb
                rw [hl2a, hfl] at KFl
                have t0 := hrp 0 _ rfl
                have t1 := hrp 1 _ rfl
                have hS0 : wr.cell? ⟨w.heap.size, 0, none⟩ = some (.int .i64 m) ∧ wr.cell? ⟨w.heap.size, 1, none⟩ = some (.slice ga gn gc) ∧ wr.cell? ⟨ba1, oa1 + j * 2, none⟩ = some (.slice p1 p2 p3) ∧ wr.cell? ⟨ba1, oa1 + j * 2 + 1, none⟩ = some (.slice p4 p5 p6) ∧ wr.cell? ⟨bb1, ob1 + j * 2, none⟩ = some (.slice q1 q2 q3) ∧ wr.cell? ⟨bb1, ob1 + j * 2 + 1, none⟩ = some (.slice q4 q5 q6) := ⟨t0, t1, g0, g1, g2, g3⟩
                have HRPW := hide hrp
                have HBW := hide hB
                clear hel1 hel2 hlv1 hlv2 e11 e12 e13 e21 e22 e23 hbo1 hbo2 hl2a hfl hmm hchk hBw hrp hB
                go_wp2_with fail
                refine wp_region_held_drew (S := fun Wz => Wz.cell? ⟨w.heap.size, 0, none⟩ = some (.int .i64 m) ∧ Wz.cell? ⟨w.heap.size, 1, none⟩ = some (.slice ga gn gc) ∧ Wz.cell? ⟨ba1, oa1 + j * 2, none⟩ = some (.slice p1 p2 p3) ∧ Wz.cell? ⟨ba1, oa1 + j * 2 + 1, none⟩ = some (.slice p4 p5 p6) ∧ Wz.cell? ⟨bb1, ob1 + j * 2, none⟩ = some (.slice q1 q2 q3) ∧ Wz.cell? ⟨bb1, ob1 + j * 2 + 1, none⟩ = some (.slice q4 q5 q6)) (by kernel_rfl) (hS0) (fun hHeld => ?_)
                refine tk (i := 0) (oi := ⟨some 75, .fieldAddr 41 (.tmp 2) 0, 0, "flows.go:148", #[], none⟩) (v := ?_) (Or.inl ⟨by rfl, ?_⟩) (by assumption) ?_
                rotate_left
                · intro w' hSw
                  (try dsimp only at hSw)
                  go_simp
                  try with_reducible rfl
                try simp only [aput]
                refine tk (i := 1) (oi := ⟨some 76, .load 35 (.tmp 75), 35, "flows.go:148", #[⟨0, .data⟩], none⟩) (v := ?_) (Or.inl ⟨by rfl, ?_⟩) (by assumption) ?_
                rotate_left
                · intro w' hSw
                  (try dsimp only at hSw)
                  go_simp
                  try with_reducible rfl
                try simp only [aput]
                refine tk (i := 2) (oi := ⟨some 77, .move (.tmp 8), 52, "flows.go:148", #[], none⟩) (v := ?_) (Or.inl ⟨by rfl, ?_⟩) (by assumption) ?_
                rotate_left
                · intro w' hSw
                  (try dsimp only at hSw)
                  go_simp
                  try with_reducible rfl
                try simp only [aput]
                refine tk (i := 3) (oi := ⟨some 78, .move (.tmp 10), 3, "flows.go:148", #[], none⟩) (v := ?_) (Or.inl ⟨by rfl, ?_⟩) (by assumption) ?_
                rotate_left
                · intro w' hSw
                  (try dsimp only at hSw)
                  go_simp
                  try with_reducible rfl
                try simp only [aput]
                refine tk (i := 4) (oi := ⟨some 79, .indexAddr 52 (.tmp 77) (.tmp 78), 0, "flows.go:148", #[⟨2, .data⟩, ⟨3, .data⟩], none⟩) (v := ?_) (Or.inl ⟨by rfl, ?_⟩) (by assumption) ?_
                rotate_left
                · intro w' hSw
                  (try dsimp only at hSw)
                  go_simp
                  try with_reducible rfl
                try simp only [aput]
                refine tk (i := 5) (oi := ⟨some 80, .load 62 (.tmp 79), 62, "flows.go:148", #[⟨4, .data⟩], none⟩) (v := ?_) (Or.inl ⟨by rfl, ?_⟩) (by assumption) ?_
                rotate_left
                · intro w' hSw
                  (try dsimp only at hSw)
                  go_simp
                  try with_reducible rfl
                try simp only [aput]
                refine tk (i := 6) (oi := ⟨some 81, .move (.tmp 9), 52, "flows.go:148", #[], none⟩) (v := ?_) (Or.inl ⟨by rfl, ?_⟩) (by assumption) ?_
                rotate_left
                · intro w' hSw
                  (try dsimp only at hSw)
                  go_simp
                  try with_reducible rfl
                try simp only [aput]
                refine tk (i := 7) (oi := ⟨some 82, .move (.tmp 10), 3, "flows.go:148", #[], none⟩) (v := ?_) (Or.inl ⟨by rfl, ?_⟩) (by assumption) ?_
                rotate_left
                · intro w' hSw
                  (try dsimp only at hSw)
                  go_simp
                  try with_reducible rfl
                try simp only [aput]
                refine tk (i := 8) (oi := ⟨some 83, .indexAddr 52 (.tmp 81) (.tmp 82), 0, "flows.go:148", #[⟨6, .data⟩, ⟨7, .data⟩], none⟩) (v := ?_) (Or.inl ⟨by rfl, ?_⟩) (by assumption) ?_
                rotate_left
                · intro w' hSw
                  (try dsimp only at hSw)
                  go_simp
                  try with_reducible rfl
                try simp only [aput]
                refine tk (i := 9) (oi := ⟨some 84, .load 62 (.tmp 83), 62, "flows.go:148", #[⟨8, .data⟩], none⟩) (v := ?_) (Or.inl ⟨by rfl, ?_⟩) (by assumption) ?_
                rotate_left
                · intro w' hSw
                  (try dsimp only at hSw)
                  go_simp
                  try with_reducible rfl
                try simp only [aput]
                refine wpAnyH_ready (rs := [10]) (by kernel_rfl) (by simp) ?_
                refine AllReadyH.cons (o := { dst := some 85, op := Go.Op.call { callee := Go.Callee.value (Go.Operand.func 19), args := #[Go.Operand.tmp 76, Go.Operand.tmp 80, Go.Operand.tmp 84], argTypes := #[35, 62, 62] }, type := 57, pos := "flows.go:148", after := #[⟨1, .data⟩, ⟨5, .data⟩, ⟨9, .data⟩], guard := none }) rfl (fun K hK => ?_) AllReadyH.nil
                go_simp
                refine (KFl.out _ ((Below.refl _ wr).drew)).mono ?_
                rintro e W9 ⟨rfl, hb9⟩
                have hbz9 : Below wr.heap.size wr W9 := over_trans ((Below.refl _ wr).drew) hb9
                have hS9 : W9.cell? ⟨w.heap.size, 0, none⟩ = some (.int .i64 m) ∧ W9.cell? ⟨w.heap.size, 1, none⟩ = some (.slice ga gn gc) ∧ W9.cell? ⟨ba1, oa1 + j * 2, none⟩ = some (.slice p1 p2 p3) ∧ W9.cell? ⟨ba1, oa1 + j * 2 + 1, none⟩ = some (.slice p4 p5 p6) ∧ W9.cell? ⟨bb1, ob1 + j * 2, none⟩ = some (.slice q1 q2 q3) ∧ W9.cell? ⟨bb1, ob1 + j * 2 + 1, none⟩ = some (.slice q4 q5 q6) := ⟨cell_over hbz9 _ _ t0, cell_over hbz9 _ _ t1, cell_over hbz9 _ _ g0, cell_over hbz9 _ _ g1, cell_over hbz9 _ _ g2, cell_over hbz9 _ _ g3⟩
                have HB9 := hide hbz9
                clear hb9 hbz9
                go_simp
                refine hK.out _ _ (hS9) (fun hHeld => ?_)
                clear hK K
                try simp only [aput]
                refine tk (i := 11) (oi := { dst := some 74, op := Go.Op.move (Go.Operand.tmp 85), type := 57, pos := "flows.go:148", after := #[⟨10, .data⟩], guard := none }) (v := ?_) (Or.inl ⟨by rfl, ?_⟩) (by assumption) ?_
                rotate_left
                · intro w' hSw
                  (try dsimp only at hSw)
                  go_simp
                  try with_reducible rfl
                try simp only [aput]
                refine tk (i := 12) (oi := ⟨some 86, .extract (.tmp 74) 0, 4, "flows.go:148", #[⟨11, .data⟩], none⟩) (v := ?_) (Or.inl ⟨by rfl, ?_⟩) (by assumption) ?_
                rotate_left
                · intro w' hSw
                  (try dsimp only at hSw)
                  go_simp
                  try with_reducible rfl
                try simp only [aput]
                refine tk (i := 13) (oi := ⟨some 87, .extract (.tmp 74) 1, 26, "flows.go:148", #[⟨11, .data⟩, ⟨14, .gcOnly Go.Departure.lateStores⟩], none⟩) (v := ?_) (Or.inl ⟨by rfl, ?_⟩) (by assumption) ?_
                rotate_left
                · intro w' hSw
                  (try dsimp only at hSw)
                  go_simp
                  try with_reducible rfl
                try simp only [aput]
                refine tk (i := 14) (oi := ⟨some 11, .assign (.tmp 86), 4, "flows.go:148", #[⟨12, .data⟩, ⟨10, .chain⟩, ⟨0, .phase⟩, ⟨1, .phase⟩, ⟨2, .phase⟩, ⟨3, .phase⟩, ⟨4, .phase⟩, ⟨5, .phase⟩, ⟨6, .phase⟩, ⟨7, .phase⟩, ⟨8, .phase⟩, ⟨9, .phase⟩, ⟨10, .phase⟩, ⟨11, .phase⟩, ⟨12, .phase⟩, ⟨13, .textOnly Go.Departure.lateStores⟩], none⟩) (v := ?_) (Or.inl ⟨by rfl, ?_⟩) (by assumption) ?_
                rotate_left
                · intro w' hSw
                  (try dsimp only at hSw)
                  go_simp
                  try with_reducible rfl
                try simp only [aput]
                refine tk (i := 15) (oi := ⟨some 12, .assign (.tmp 87), 26, "flows.go:148", #[⟨13, .data⟩, ⟨14, .chain⟩, ⟨0, .phase⟩, ⟨1, .phase⟩, ⟨2, .phase⟩, ⟨3, .phase⟩, ⟨4, .phase⟩, ⟨5, .phase⟩, ⟨6, .phase⟩, ⟨7, .phase⟩, ⟨8, .phase⟩, ⟨9, .phase⟩, ⟨10, .phase⟩, ⟨11, .phase⟩, ⟨12, .phase⟩, ⟨13, .phase⟩, ⟨14, .phase⟩], none⟩) (v := ?_) (Or.inl ⟨by rfl, ?_⟩) (by assumption) ?_
                rotate_left
                · intro w' hSw
                  (try dsimp only at hSw)
                  go_simp
                  try with_reducible rfl
                try simp only [aput]
                refine wpAnyH_done (by kernel_rfl) ?_ _
                go_wp2_with fail
                exact ⟨⟨j + 1, by omega, by go_num, HRPW.out.over HB9.out, over_trans HBW.out HB9.out⟩, by simp [intOf]; omega⟩
              · have HEND := hide (over_trans (over_trans HB5.out HEE.out) hB)
                go_wp2_with fail
                go_ret
                exact ⟨rfl, HEND.out⟩
          · go_simp
            have HE3 : Hid (Below w5.heap.size w5 (X2.alloc (.cells #[] 62))) := hide (((HE2.out).alloc ((HE2.out).size) (.cells #[] 62)))
            have HR3 : Hid (ApL w5 (X2.alloc (.cells #[] 62)) (.slice (some ⟨X2.heap.size, 0, none⟩) 0 0) []) := hide (apL_new (W0 := w5) (W := X2) (HE2.out))
            have HO3 : Hid (ApL w5 (X2.alloc (.cells #[] 62)) (.slice za2 zn2 zc2) ([] ++ st.vs)) := hide (HR2.out.over ((Below.refl _ _).alloc (Nat.le_refl _) _))
            have HD3 : Hid (Value.ownBlock (.slice (some ⟨X2.heap.size, 0, none⟩) 0 0) ≠ Value.ownBlock (.slice za2 zn2 zc2)) := hide (apL_ne HR2.out)
            refine hK.out _ _ (by have hr := HRM5.out.over (HE3.out); have hq := HRL5.out.over (HE3.out); exact ⟨hr 0 _ rfl, hr 1 _ rfl, hq 0 _ rfl, hq 1 _ rfl⟩) (fun hHeld => ?_)
            clear hK K
            try simp only [aput]
            generalize (X2.alloc (.cells #[] 62)) = X3 at HE3 HR3 HO3 hHeld ⊢
            refine wpAnyH_ready (rs := [6]) (by kernel_rfl) (by simp) ?_
            refine (AllReadyH.cons (o := { dst := some 60, op := Go.Op.call { callee := Go.Callee.builtin Go.Builtin.append, args := #[Go.Operand.tmp 57, Go.Operand.tmp 59], argTypes := #[52, 52] }, type := 52, pos := "flows.go:146", after := #[⟨3, .data⟩, ⟨5, .data⟩, ⟨3, .chain⟩], guard := none }) rfl (fun K hK => ?_) AllReadyH.nil)
            obtain ⟨v4, X4, hrun, hap, hgr, hat⟩ := appLev HO3.out (HE3.out) HM2.out HINF.out.2.2 (by have h16 := HLB.out; simp; omega)
            obtain ⟨za4, zn4, zc4, hv4⟩ : ∃ za zn zc, v4 = .slice za zn zc := by obtain ⟨us, ho, -⟩ := hap; exact own_form ho
            subst hv4
            have HE4 : Hid (Below w5.heap.size w5 X4) := hide ((HE3.out).trans (grown_none hgr (fun g e => (apL_lt HO3.out g e).1) ((HE3.out).size)))
            have HR4 := hide hap
            have HO4 : Hid (ApL w5 X4 (.slice (some ⟨X2.heap.size, 0, none⟩) 0 0) []) := hide (HR3.out.keep hgr (Or.inr (Ne.symm (hide (Ne.symm HD3.out)).out)))
            have HD4 : Hid (Value.ownBlock (.slice za4 zn4 zc4) ≠ Value.ownBlock (.slice (some ⟨X2.heap.size, 0, none⟩) 0 0)) := hide (by
              rcases hat with e | e
              · rw [e]; exact (hide (Ne.symm HD3.out)).out
              · rw [e]; intro e2; have h9 := (apL_lt HR3.out _ e2.symm).2; omega)
            refine step_appR rfl _ _ _ rfl _ _ _ _ rfl rfl hrun ?_
            refine hK.out _ _ (by have hr := HRM5.out.over (HE4.out); have hq := HRL5.out.over (HE4.out); exact ⟨hr 0 _ rfl, hr 1 _ rfl, hq 0 _ rfl, hq 1 _ rfl⟩) (fun hHeld => ?_)
            clear hK K
            try simp only [aput]
            clear hrun hap hgr hat
            refine wpAnyH_ready (rs := [10]) (by kernel_rfl) (by simp) ?_
            refine (AllReadyH.cons (o := { dst := some 64, op := Go.Op.call { callee := Go.Callee.builtin Go.Builtin.append, args := #[Go.Operand.tmp 61, Go.Operand.tmp 63], argTypes := #[52, 52] }, type := 52, pos := "flows.go:146", after := #[⟨7, .data⟩, ⟨9, .data⟩, ⟨6, .chain⟩], guard := none }) rfl (fun K hK => ?_) AllReadyH.nil)
            obtain ⟨v5, X5, hrun, hap, hgr, hat⟩ := appLev HO4.out (HE4.out) HL1.out HNN.out.1 (by have h16 := HLB.out; simp; omega)
            obtain ⟨za5, zn5, zc5, hv5⟩ : ∃ za zn zc, v5 = .slice za zn zc := by obtain ⟨us, ho, -⟩ := hap; exact own_form ho
            subst hv5
            have HE5 : Hid (Below w5.heap.size w5 X5) := hide ((HE4.out).trans (grown_none hgr (fun g e => (apL_lt HO4.out g e).1) ((HE4.out).size)))
            have HR5 := hide hap
            have HO5 : Hid (ApL w5 X5 (.slice za4 zn4 zc4) (([] ++ st.vs) ++ st.fs)) := hide (HR4.out.keep hgr (Or.inr (Ne.symm (Ne.symm HD4.out))))
            have HD5 : Hid (Value.ownBlock (.slice za5 zn5 zc5) ≠ Value.ownBlock (.slice za4 zn4 zc4)) := hide (by
              rcases hat with e | e
              · rw [e]; exact Ne.symm HD4.out
              · rw [e]; intro e2; have h9 := (apL_lt HR4.out _ e2.symm).2; omega)
            refine step_appR rfl _ _ _ rfl _ _ _ _ rfl rfl hrun ?_
            refine hK.out _ _ (by have hr := HRM5.out.over (HE5.out); have hq := HRL5.out.over (HE5.out); exact ⟨hr 0 _ rfl, hr 1 _ rfl, hq 0 _ rfl, hq 1 _ rfl⟩) (fun hHeld => ?_)
            clear hK K
            try simp only [aput]
            clear hrun hap hgr hat
            refine wpAnyH_ready (rs := [13]) (by kernel_rfl) (by simp) ?_
            refine (AllReadyH.cons (o := { dst := some 67, op := Go.Op.call { callee := Go.Callee.builtin Go.Builtin.append, args := #[Go.Operand.tmp 64, Go.Operand.tmp 66], argTypes := #[52, 52] }, type := 52, pos := "flows.go:146", after := #[⟨10, .data⟩, ⟨12, .data⟩, ⟨10, .chain⟩], guard := none }) rfl (fun K hK => ?_) AllReadyH.nil)
            obtain ⟨v6, X6, hrun, hap, hgr, hat⟩ := appLev HR5.out (HE5.out) HL2.out HNN.out.2 (by have h16 := HLB.out; simp; omega)
            obtain ⟨za6, zn6, zc6, hv6⟩ : ∃ za zn zc, v6 = .slice za zn zc := by obtain ⟨us, ho, -⟩ := hap; exact own_form ho
            subst hv6
            have HE6 : Hid (Below w5.heap.size w5 X6) := hide ((HE5.out).trans (grown_none hgr (fun g e => (apL_lt HR5.out g e).1) ((HE5.out).size)))
            have HR6 := hide hap
            have HO6 : Hid (ApL w5 X6 (.slice za4 zn4 zc4) (([] ++ st.vs) ++ st.fs)) := hide (HO5.out.keep hgr (Or.inr (Ne.symm (Ne.symm (hide (Ne.symm HD5.out)).out))))
            have HD6 : Hid (Value.ownBlock (.slice za6 zn6 zc6) ≠ Value.ownBlock (.slice za4 zn4 zc4)) := hide (by
              rcases hat with e | e
              · rw [e]; exact Ne.symm (hide (Ne.symm HD5.out)).out
              · rw [e]; intro e2; have h9 := (apL_lt HO5.out _ e2.symm).2; omega)
            refine step_appR rfl _ _ _ rfl _ _ _ _ rfl rfl hrun ?_
            refine hK.out _ _ (by have hr := HRM5.out.over (HE6.out); have hq := HRL5.out.over (HE6.out); exact ⟨hr 0 _ rfl, hr 1 _ rfl, hq 0 _ rfl, hq 1 _ rfl⟩) (fun hHeld => ?_)
            clear hK K
            try simp only [aput]
            clear hrun hap hgr hat
            refine tk (i := 14) (oi := ⟨some 8, .assign (.tmp 60), 52, "flows.go:146", #[⟨6, .data⟩, ⟨13, .chain⟩, ⟨0, .phase⟩, ⟨1, .phase⟩, ⟨2, .phase⟩, ⟨3, .phase⟩, ⟨4, .phase⟩, ⟨5, .phase⟩, ⟨6, .phase⟩, ⟨7, .textOnly Go.Departure.lateStores⟩, ⟨8, .textOnly Go.Departure.lateStores⟩, ⟨9, .textOnly Go.Departure.lateStores⟩, ⟨10, .textOnly Go.Departure.lateStoresUnsure⟩, ⟨11, .textOnly Go.Departure.lateStores⟩, ⟨12, .textOnly Go.Departure.lateStores⟩, ⟨13, .textOnly Go.Departure.lateStoresUnsure⟩], none⟩) (v := ?_) (Or.inl ⟨by rfl, ?_⟩) (by assumption) ?_
            rotate_left
            · intro w' hSw
              (try dsimp only at hSw)
              go_simp
              try with_reducible rfl
            try simp only [aput]
            refine tk (i := 15) (oi := ⟨some 9, .assign (.tmp 67), 52, "flows.go:146", #[⟨13, .data⟩, ⟨14, .chain⟩, ⟨0, .phase⟩, ⟨1, .phase⟩, ⟨2, .phase⟩, ⟨3, .phase⟩, ⟨4, .phase⟩, ⟨5, .phase⟩, ⟨6, .phase⟩, ⟨7, .phase⟩, ⟨8, .phase⟩, ⟨9, .phase⟩, ⟨10, .phase⟩, ⟨11, .phase⟩, ⟨12, .phase⟩, ⟨13, .phase⟩, ⟨14, .phase⟩], none⟩) (v := ?_) (Or.inl ⟨by rfl, ?_⟩) (by assumption) ?_
            rotate_left
            · intro w' hSw
              (try dsimp only at hSw)
              go_simp
              try with_reducible rfl
            try simp only [aput]
            refine wpAnyH_done (by kernel_rfl) ?_ _
            have HRA : Hid (IsLevs X6 (.slice za4 zn4 zc4) (st.vs ++ st.fs)) := hide (by have := HO6.out.levs HE6.out; simpa using this)
            have HRB : Hid (IsLevs X6 (.slice za6 zn6 zc6) (L.vs ++ L.fs)) := hide (by have := HR6.out.levs HE6.out; simpa using this)
            have HEE := HE6
            have HZA : Hid (zn4 = st.vs.length + st.fs.length) := hide (by obtain ⟨ao, cp, he, -⟩ := HRA.out; injection he with e1 e2; rw [e2]; simp)
            have HZC : Hid (zn6 = L.vs.length + L.fs.length) := hide (by obtain ⟨ao, cp, he, -⟩ := HRB.out; injection he with e1 e2; rw [e2]; simp)
            have hz100 : zn4 ≤ 21 := by have h1 := HZA.out; have h2 := HLB.out; omega
            have HLL : Hid (L.vs.length = st.vs.length ∧ L.fs.length = st.fs.length) := hide (by have q1 := HLE.out.2.2.1; have q2 := HLE.out.2.2.2; have q5 := HLV2.out.2.1; have q6 := HLV2.out.2.2.1; omega)
            have hzc : zn4 = zn6 := by have h1 := HZA.out; have h2 := HZC.out; have h3 := HLL.out; omega
            have HRP6 := hide (HRP5.out.over HEE.out)
            clear hS0 hHeld
            subst hzc
            go_wp2_with fail
            go_loopw [10] (fun i wr => ∃ j : Nat, j ≤ zn4 ∧ i = .int .i64 j ∧ RowAt [.int .i64 m, .slice ga gn gc, .slice sa sn sc, .slice ya yn yc, .slice oa on oc, .slice va vn vc, .slice fa fn fc, .slice ba bn bc] wr w.heap.size ∧ Below X6.heap.size X6 wr) (fun i _ => zn4 - (intOf i).toNat)
            case atStart => exact ⟨0, Nat.zero_le _, rfl, HRP6.out, Below.refl _ _⟩
            case round =>
              obtain ⟨j, hj, rfl, hrp, hB⟩ := hrel
              by_cases hjl : j < zn4
              · have hja : j < (st.vs ++ st.fs).length := by have h1 := HZA.out; simp; omega
                have hjb : j < (L.vs ++ L.fs).length := by have h1 := HZA.out; have h3 := HLL.out; simp; omega
                obtain ⟨ao1, cp1, he1, hel1⟩ := isLevs_over HRA.out hB
                obtain ⟨ao2, cp2, he2, hel2⟩ := isLevs_over HRB.out hB
                injection he1 with e11 e12 e13
                injection he2 with e21 e22 e23
                obtain ⟨ba1, oa1, hbo1, hel1⟩ := hel1 (by intro hh; rw [hh] at hja; simp at hja)
                obtain ⟨bb1, ob1, hbo2, hel2⟩ := hel2 (by intro hh; rw [hh] at hjb; simp at hjb)
                have e1 := e11.trans hbo1
                have e2 := e21.trans hbo2
                obtain ⟨rv1, wv1, g0, g1, hlv1⟩ := hel1 j hja
                obtain ⟨rv2, wv2, g2, g3, hlv2⟩ := hel2 j hjb
                obtain ⟨p1, p2, p3, p4, p5, p6, hp1, hp2⟩ := lev_slices hlv1
                obtain ⟨q1, q2, q3, q4, q5, q6, hq1, hq2⟩ := lev_slices hlv2
                subst hp1 hp2 hq1 hq2
                subst e1 e2
                have hBw : Below w.heap.size w wr := over_trans (over_trans HB5.out HEE.out) hB
                have hmm := HMN.out
                have hchk : chkErr n gs = 0 := by rw [← hmm]; exact HOK.out.chk
                have KFl := hide fun W (hW : Below wr.heap.size wr W) => flowsOk m (.slice ga gn gc) gs (.agg #[.slice p1 p2 p3, .slice p4 p5 p6]) (.agg #[.slice q1 q2 q3, .slice q4 q5 q6]) _ _ W (isGrants_over H.out.grants (over_trans hBw hW)) (levAt_over hlv1 hW) (levAt_over hlv2 hW)
                have hl2a : lTwo m gs (st.vs ++ st.fs)[j] (L.vs ++ L.fs)[j] = 0 := by
                  rw [hmm]
                  refine lTwo_of hchk (all_len HLE.out.1 HLE.out.2.1 _ (List.getElem_mem hja)) (all_len (fun x hx => right_len hchk (by rw [← hmm]; exact HLV2.out.2.2.2.1 x hx)) (fun x hx => right_len hchk (by rw [← hmm]; exact HLV2.out.2.2.2.2 x hx)) _ (List.getElem_mem hjb))
                have hfl : flowsB (st.vs ++ st.fs)[j] (L.vs ++ L.fs)[j] m.toNat = true := by
                  rw [hmm, Int.toNat_natCast]
                  have hbb := HBB.out.1 (by simp)
                  have hnn : n = n' := by have := HN2.out; omega
                  subst hnn
                  exact le_append (inferred_least HINF.out.1 (HLV2.out.2.1.trans vn_eq.out) HLV2.out.2.2.1 hbb.1 hbb.2) HLL.out j hja hjb
                rw [hl2a, hfl] at KFl
                have t0 := hrp 0 _ rfl
                have t1 := hrp 1 _ rfl
                have hS0 : wr.cell? ⟨w.heap.size, 0, none⟩ = some (.int .i64 m) ∧ wr.cell? ⟨w.heap.size, 1, none⟩ = some (.slice ga gn gc) ∧ wr.cell? ⟨ba1, oa1 + j * 2, none⟩ = some (.slice p1 p2 p3) ∧ wr.cell? ⟨ba1, oa1 + j * 2 + 1, none⟩ = some (.slice p4 p5 p6) ∧ wr.cell? ⟨bb1, ob1 + j * 2, none⟩ = some (.slice q1 q2 q3) ∧ wr.cell? ⟨bb1, ob1 + j * 2 + 1, none⟩ = some (.slice q4 q5 q6) := ⟨t0, t1, g0, g1, g2, g3⟩
                have HRPW := hide hrp
                have HBW := hide hB
                clear hel1 hel2 hlv1 hlv2 e11 e12 e13 e21 e22 e23 hbo1 hbo2 hl2a hfl hmm hchk hBw hrp hB
                go_wp2_with fail
                refine wp_region_held_drew (S := fun Wz => Wz.cell? ⟨w.heap.size, 0, none⟩ = some (.int .i64 m) ∧ Wz.cell? ⟨w.heap.size, 1, none⟩ = some (.slice ga gn gc) ∧ Wz.cell? ⟨ba1, oa1 + j * 2, none⟩ = some (.slice p1 p2 p3) ∧ Wz.cell? ⟨ba1, oa1 + j * 2 + 1, none⟩ = some (.slice p4 p5 p6) ∧ Wz.cell? ⟨bb1, ob1 + j * 2, none⟩ = some (.slice q1 q2 q3) ∧ Wz.cell? ⟨bb1, ob1 + j * 2 + 1, none⟩ = some (.slice q4 q5 q6)) (by kernel_rfl) (hS0) (fun hHeld => ?_)
                refine tk (i := 0) (oi := ⟨some 75, .fieldAddr 41 (.tmp 2) 0, 0, "flows.go:148", #[], none⟩) (v := ?_) (Or.inl ⟨by rfl, ?_⟩) (by assumption) ?_
                rotate_left
                · intro w' hSw
                  (try dsimp only at hSw)
                  go_simp
                  try with_reducible rfl
                try simp only [aput]
                refine tk (i := 1) (oi := ⟨some 76, .load 35 (.tmp 75), 35, "flows.go:148", #[⟨0, .data⟩], none⟩) (v := ?_) (Or.inl ⟨by rfl, ?_⟩) (by assumption) ?_
                rotate_left
                · intro w' hSw
                  (try dsimp only at hSw)
                  go_simp
                  try with_reducible rfl
                try simp only [aput]
                refine tk (i := 2) (oi := ⟨some 77, .move (.tmp 8), 52, "flows.go:148", #[], none⟩) (v := ?_) (Or.inl ⟨by rfl, ?_⟩) (by assumption) ?_
                rotate_left
                · intro w' hSw
                  (try dsimp only at hSw)
                  go_simp
                  try with_reducible rfl
                try simp only [aput]
                refine tk (i := 3) (oi := ⟨some 78, .move (.tmp 10), 3, "flows.go:148", #[], none⟩) (v := ?_) (Or.inl ⟨by rfl, ?_⟩) (by assumption) ?_
                rotate_left
                · intro w' hSw
                  (try dsimp only at hSw)
                  go_simp
                  try with_reducible rfl
                try simp only [aput]
                refine tk (i := 4) (oi := ⟨some 79, .indexAddr 52 (.tmp 77) (.tmp 78), 0, "flows.go:148", #[⟨2, .data⟩, ⟨3, .data⟩], none⟩) (v := ?_) (Or.inl ⟨by rfl, ?_⟩) (by assumption) ?_
                rotate_left
                · intro w' hSw
                  (try dsimp only at hSw)
                  go_simp
                  try with_reducible rfl
                try simp only [aput]
                refine tk (i := 5) (oi := ⟨some 80, .load 62 (.tmp 79), 62, "flows.go:148", #[⟨4, .data⟩], none⟩) (v := ?_) (Or.inl ⟨by rfl, ?_⟩) (by assumption) ?_
                rotate_left
                · intro w' hSw
                  (try dsimp only at hSw)
                  go_simp
                  try with_reducible rfl
                try simp only [aput]
                refine tk (i := 6) (oi := ⟨some 81, .move (.tmp 9), 52, "flows.go:148", #[], none⟩) (v := ?_) (Or.inl ⟨by rfl, ?_⟩) (by assumption) ?_
                rotate_left
                · intro w' hSw
                  (try dsimp only at hSw)
                  go_simp
                  try with_reducible rfl
                try simp only [aput]
                refine tk (i := 7) (oi := ⟨some 82, .move (.tmp 10), 3, "flows.go:148", #[], none⟩) (v := ?_) (Or.inl ⟨by rfl, ?_⟩) (by assumption) ?_
                rotate_left
                · intro w' hSw
                  (try dsimp only at hSw)
                  go_simp
                  try with_reducible rfl
                try simp only [aput]
                refine tk (i := 8) (oi := ⟨some 83, .indexAddr 52 (.tmp 81) (.tmp 82), 0, "flows.go:148", #[⟨6, .data⟩, ⟨7, .data⟩], none⟩) (v := ?_) (Or.inl ⟨by rfl, ?_⟩) (by assumption) ?_
                rotate_left
                · intro w' hSw
                  (try dsimp only at hSw)
                  go_simp
                  try with_reducible rfl
                try simp only [aput]
                refine tk (i := 9) (oi := ⟨some 84, .load 62 (.tmp 83), 62, "flows.go:148", #[⟨8, .data⟩], none⟩) (v := ?_) (Or.inl ⟨by rfl, ?_⟩) (by assumption) ?_
                rotate_left
                · intro w' hSw
                  (try dsimp only at hSw)
                  go_simp
                  try with_reducible rfl
                try simp only [aput]
                refine wpAnyH_ready (rs := [10]) (by kernel_rfl) (by simp) ?_
                refine AllReadyH.cons (o := { dst := some 85, op := Go.Op.call { callee := Go.Callee.value (Go.Operand.func 19), args := #[Go.Operand.tmp 76, Go.Operand.tmp 80, Go.Operand.tmp 84], argTypes := #[35, 62, 62] }, type := 57, pos := "flows.go:148", after := #[⟨1, .data⟩, ⟨5, .data⟩, ⟨9, .data⟩], guard := none }) rfl (fun K hK => ?_) AllReadyH.nil
                go_simp
                refine (KFl.out _ ((Below.refl _ wr).drew)).mono ?_
                rintro e W9 ⟨rfl, hb9⟩
                have hbz9 : Below wr.heap.size wr W9 := over_trans ((Below.refl _ wr).drew) hb9
                have hS9 : W9.cell? ⟨w.heap.size, 0, none⟩ = some (.int .i64 m) ∧ W9.cell? ⟨w.heap.size, 1, none⟩ = some (.slice ga gn gc) ∧ W9.cell? ⟨ba1, oa1 + j * 2, none⟩ = some (.slice p1 p2 p3) ∧ W9.cell? ⟨ba1, oa1 + j * 2 + 1, none⟩ = some (.slice p4 p5 p6) ∧ W9.cell? ⟨bb1, ob1 + j * 2, none⟩ = some (.slice q1 q2 q3) ∧ W9.cell? ⟨bb1, ob1 + j * 2 + 1, none⟩ = some (.slice q4 q5 q6) := ⟨cell_over hbz9 _ _ t0, cell_over hbz9 _ _ t1, cell_over hbz9 _ _ g0, cell_over hbz9 _ _ g1, cell_over hbz9 _ _ g2, cell_over hbz9 _ _ g3⟩
                have HB9 := hide hbz9
                clear hb9 hbz9
                go_simp
                refine hK.out _ _ (hS9) (fun hHeld => ?_)
                clear hK K
                try simp only [aput]
                refine tk (i := 11) (oi := { dst := some 74, op := Go.Op.move (Go.Operand.tmp 85), type := 57, pos := "flows.go:148", after := #[⟨10, .data⟩], guard := none }) (v := ?_) (Or.inl ⟨by rfl, ?_⟩) (by assumption) ?_
                rotate_left
                · intro w' hSw
                  (try dsimp only at hSw)
                  go_simp
                  try with_reducible rfl
                try simp only [aput]
                refine tk (i := 12) (oi := ⟨some 86, .extract (.tmp 74) 0, 4, "flows.go:148", #[⟨11, .data⟩], none⟩) (v := ?_) (Or.inl ⟨by rfl, ?_⟩) (by assumption) ?_
                rotate_left
                · intro w' hSw
                  (try dsimp only at hSw)
                  go_simp
                  try with_reducible rfl
                try simp only [aput]
                refine tk (i := 13) (oi := ⟨some 87, .extract (.tmp 74) 1, 26, "flows.go:148", #[⟨11, .data⟩, ⟨14, .gcOnly Go.Departure.lateStores⟩], none⟩) (v := ?_) (Or.inl ⟨by rfl, ?_⟩) (by assumption) ?_
                rotate_left
                · intro w' hSw
                  (try dsimp only at hSw)
                  go_simp
                  try with_reducible rfl
                try simp only [aput]
                refine tk (i := 14) (oi := ⟨some 11, .assign (.tmp 86), 4, "flows.go:148", #[⟨12, .data⟩, ⟨10, .chain⟩, ⟨0, .phase⟩, ⟨1, .phase⟩, ⟨2, .phase⟩, ⟨3, .phase⟩, ⟨4, .phase⟩, ⟨5, .phase⟩, ⟨6, .phase⟩, ⟨7, .phase⟩, ⟨8, .phase⟩, ⟨9, .phase⟩, ⟨10, .phase⟩, ⟨11, .phase⟩, ⟨12, .phase⟩, ⟨13, .textOnly Go.Departure.lateStores⟩], none⟩) (v := ?_) (Or.inl ⟨by rfl, ?_⟩) (by assumption) ?_
                rotate_left
                · intro w' hSw
                  (try dsimp only at hSw)
                  go_simp
                  try with_reducible rfl
                try simp only [aput]
                refine tk (i := 15) (oi := ⟨some 12, .assign (.tmp 87), 26, "flows.go:148", #[⟨13, .data⟩, ⟨14, .chain⟩, ⟨0, .phase⟩, ⟨1, .phase⟩, ⟨2, .phase⟩, ⟨3, .phase⟩, ⟨4, .phase⟩, ⟨5, .phase⟩, ⟨6, .phase⟩, ⟨7, .phase⟩, ⟨8, .phase⟩, ⟨9, .phase⟩, ⟨10, .phase⟩, ⟨11, .phase⟩, ⟨12, .phase⟩, ⟨13, .phase⟩, ⟨14, .phase⟩], none⟩) (v := ?_) (Or.inl ⟨by rfl, ?_⟩) (by assumption) ?_
                rotate_left
                · intro w' hSw
                  (try dsimp only at hSw)
                  go_simp
                  try with_reducible rfl
                try simp only [aput]
                refine wpAnyH_done (by kernel_rfl) ?_ _
                go_wp2_with fail
                exact ⟨⟨j + 1, by omega, by go_num, HRPW.out.over HB9.out, over_trans HBW.out HB9.out⟩, by simp [intOf]; omega⟩
              · have HEND := hide (over_trans (over_trans HB5.out HEE.out) hB)
                go_wp2_with fail
                go_ret
                exact ⟨rfl, HEND.out⟩
        · go_simp
          have HE2 : Hid (Below w5.heap.size w5 (X1.alloc (.cells #[] 62))) := hide (((HE1.out).alloc ((HE1.out).size) (.cells #[] 62)))
          have HR2 : Hid (ApL w5 (X1.alloc (.cells #[] 62)) (.slice (some ⟨X1.heap.size, 0, none⟩) 0 0) []) := hide (apL_new (W0 := w5) (W := X1) (HE1.out))
          have HO2 : Hid (ApL w5 (X1.alloc (.cells #[] 62)) (.slice (some ⟨w5.heap.size, 0, none⟩) 0 0) []) := hide (HR1.out.over ((Below.refl _ _).alloc (Nat.le_refl _) _))
          have HD2 : Hid (Value.ownBlock (.slice (some ⟨X1.heap.size, 0, none⟩) 0 0) ≠ Value.ownBlock (.slice (some ⟨w5.heap.size, 0, none⟩) 0 0)) := hide (apL_ne HR1.out)
          refine hK.out _ _ (by have hr := HRM5.out.over (HE2.out); have hq := HRL5.out.over (HE2.out); exact ⟨hr 0 _ rfl, hr 1 _ rfl, hq 0 _ rfl, hq 1 _ rfl⟩) (fun hHeld => ?_)
          clear hK K
          try simp only [aput]
          generalize (X1.alloc (.cells #[] 62)) = X2 at HE2 HR2 HO2 hHeld ⊢
          refine wpAnyH_ready (rs := [3]) (by kernel_rfl) (by simp) ?_
          refine (AllReadyH.cons (o := { dst := some 57, op := Go.Op.call { callee := Go.Callee.builtin Go.Builtin.append, args := #[Go.Operand.tmp 54, Go.Operand.tmp 56], argTypes := #[52, 52] }, type := 52, pos := "flows.go:146", after := #[⟨0, .data⟩, ⟨2, .data⟩], guard := none }) rfl (fun K hK => ?_) AllReadyH.nil)
          obtain ⟨v3, X3, hrun, hap, hgr, hat⟩ := appLev HO2.out (HE2.out) HM1.out HINF.out.2.1 (by have h16 := HLB.out; simp; omega)
          obtain ⟨za3, zn3, zc3, hv3⟩ : ∃ za zn zc, v3 = .slice za zn zc := by obtain ⟨us, ho, -⟩ := hap; exact own_form ho
          subst hv3
          have HE3 : Hid (Below w5.heap.size w5 X3) := hide ((HE2.out).trans (grown_none hgr (fun g e => (apL_lt HO2.out g e).1) ((HE2.out).size)))
          have HR3 := hide hap
          have HO3 : Hid (ApL w5 X3 (.slice (some ⟨X1.heap.size, 0, none⟩) 0 0) []) := hide (HR2.out.keep hgr (Or.inr (Ne.symm (hide (Ne.symm HD2.out)).out)))
          have HD3 : Hid (Value.ownBlock (.slice za3 zn3 zc3) ≠ Value.ownBlock (.slice (some ⟨X1.heap.size, 0, none⟩) 0 0)) := hide (by
            rcases hat with e | e
            · rw [e]; exact (hide (Ne.symm HD2.out)).out
            · rw [e]; intro e2; have h9 := (apL_lt HR2.out _ e2.symm).2; omega)
          refine step_appR rfl _ _ _ rfl _ _ _ _ rfl rfl hrun ?_
          refine hK.out _ _ (by have hr := HRM5.out.over (HE3.out); have hq := HRL5.out.over (HE3.out); exact ⟨hr 0 _ rfl, hr 1 _ rfl, hq 0 _ rfl, hq 1 _ rfl⟩) (fun hHeld => ?_)
          clear hK K
          try simp only [aput]
          clear hrun hap hgr hat
          refine wpAnyH_ready (rs := [6]) (by kernel_rfl) (by simp) ?_
          refine (AllReadyH.cons (o := { dst := some 60, op := Go.Op.call { callee := Go.Callee.builtin Go.Builtin.append, args := #[Go.Operand.tmp 57, Go.Operand.tmp 59], argTypes := #[52, 52] }, type := 52, pos := "flows.go:146", after := #[⟨3, .data⟩, ⟨5, .data⟩, ⟨3, .chain⟩], guard := none }) rfl (fun K hK => ?_) AllReadyH.nil)
          obtain ⟨v4, X4, hrun, hap, hgr, hat⟩ := appLev HR3.out (HE3.out) HM2.out HINF.out.2.2 (by have h16 := HLB.out; simp; omega)
          obtain ⟨za4, zn4, zc4, hv4⟩ : ∃ za zn zc, v4 = .slice za zn zc := by obtain ⟨us, ho, -⟩ := hap; exact own_form ho
          subst hv4
          have HE4 : Hid (Below w5.heap.size w5 X4) := hide ((HE3.out).trans (grown_none hgr (fun g e => (apL_lt HR3.out g e).1) ((HE3.out).size)))
          have HR4 := hide hap
          have HO4 : Hid (ApL w5 X4 (.slice (some ⟨X1.heap.size, 0, none⟩) 0 0) []) := hide (HO3.out.keep hgr (Or.inr (Ne.symm HD3.out)))
          have HD4 : Hid (Value.ownBlock (.slice za4 zn4 zc4) ≠ Value.ownBlock (.slice (some ⟨X1.heap.size, 0, none⟩) 0 0)) := hide (by
            rcases hat with e | e
            · rw [e]; exact HD3.out
            · rw [e]; intro e2; have h9 := (apL_lt HO3.out _ e2.symm).2; omega)
          refine step_appR rfl _ _ _ rfl _ _ _ _ rfl rfl hrun ?_
          refine hK.out _ _ (by have hr := HRM5.out.over (HE4.out); have hq := HRL5.out.over (HE4.out); exact ⟨hr 0 _ rfl, hr 1 _ rfl, hq 0 _ rfl, hq 1 _ rfl⟩) (fun hHeld => ?_)
          clear hK K
          try simp only [aput]
          clear hrun hap hgr hat
          refine wpAnyH_ready (rs := [10]) (by kernel_rfl) (by simp) ?_
          refine (AllReadyH.cons (o := { dst := some 64, op := Go.Op.call { callee := Go.Callee.builtin Go.Builtin.append, args := #[Go.Operand.tmp 61, Go.Operand.tmp 63], argTypes := #[52, 52] }, type := 52, pos := "flows.go:146", after := #[⟨7, .data⟩, ⟨9, .data⟩, ⟨6, .chain⟩], guard := none }) rfl (fun K hK => ?_) AllReadyH.nil)
          obtain ⟨v5, X5, hrun, hap, hgr, hat⟩ := appLev HO4.out (HE4.out) HL1.out HNN.out.1 (by have h16 := HLB.out; simp; omega)
          obtain ⟨za5, zn5, zc5, hv5⟩ : ∃ za zn zc, v5 = .slice za zn zc := by obtain ⟨us, ho, -⟩ := hap; exact own_form ho
          subst hv5
          have HE5 : Hid (Below w5.heap.size w5 X5) := hide ((HE4.out).trans (grown_none hgr (fun g e => (apL_lt HO4.out g e).1) ((HE4.out).size)))
          have HR5 := hide hap
          have HO5 : Hid (ApL w5 X5 (.slice za4 zn4 zc4) (([] ++ st.vs) ++ st.fs)) := hide (HR4.out.keep hgr (Or.inr (Ne.symm (Ne.symm HD4.out))))
          have HD5 : Hid (Value.ownBlock (.slice za5 zn5 zc5) ≠ Value.ownBlock (.slice za4 zn4 zc4)) := hide (by
            rcases hat with e | e
            · rw [e]; exact Ne.symm HD4.out
            · rw [e]; intro e2; have h9 := (apL_lt HR4.out _ e2.symm).2; omega)
          refine step_appR rfl _ _ _ rfl _ _ _ _ rfl rfl hrun ?_
          refine hK.out _ _ (by have hr := HRM5.out.over (HE5.out); have hq := HRL5.out.over (HE5.out); exact ⟨hr 0 _ rfl, hr 1 _ rfl, hq 0 _ rfl, hq 1 _ rfl⟩) (fun hHeld => ?_)
          clear hK K
          try simp only [aput]
          clear hrun hap hgr hat
          refine wpAnyH_ready (rs := [13]) (by kernel_rfl) (by simp) ?_
          refine (AllReadyH.cons (o := { dst := some 67, op := Go.Op.call { callee := Go.Callee.builtin Go.Builtin.append, args := #[Go.Operand.tmp 64, Go.Operand.tmp 66], argTypes := #[52, 52] }, type := 52, pos := "flows.go:146", after := #[⟨10, .data⟩, ⟨12, .data⟩, ⟨10, .chain⟩], guard := none }) rfl (fun K hK => ?_) AllReadyH.nil)
          obtain ⟨v6, X6, hrun, hap, hgr, hat⟩ := appLev HR5.out (HE5.out) HL2.out HNN.out.2 (by have h16 := HLB.out; simp; omega)
          obtain ⟨za6, zn6, zc6, hv6⟩ : ∃ za zn zc, v6 = .slice za zn zc := by obtain ⟨us, ho, -⟩ := hap; exact own_form ho
          subst hv6
          have HE6 : Hid (Below w5.heap.size w5 X6) := hide ((HE5.out).trans (grown_none hgr (fun g e => (apL_lt HR5.out g e).1) ((HE5.out).size)))
          have HR6 := hide hap
          have HO6 : Hid (ApL w5 X6 (.slice za4 zn4 zc4) (([] ++ st.vs) ++ st.fs)) := hide (HO5.out.keep hgr (Or.inr (Ne.symm (Ne.symm (hide (Ne.symm HD5.out)).out))))
          have HD6 : Hid (Value.ownBlock (.slice za6 zn6 zc6) ≠ Value.ownBlock (.slice za4 zn4 zc4)) := hide (by
            rcases hat with e | e
            · rw [e]; exact Ne.symm (hide (Ne.symm HD5.out)).out
            · rw [e]; intro e2; have h9 := (apL_lt HO5.out _ e2.symm).2; omega)
          refine step_appR rfl _ _ _ rfl _ _ _ _ rfl rfl hrun ?_
          refine hK.out _ _ (by have hr := HRM5.out.over (HE6.out); have hq := HRL5.out.over (HE6.out); exact ⟨hr 0 _ rfl, hr 1 _ rfl, hq 0 _ rfl, hq 1 _ rfl⟩) (fun hHeld => ?_)
          clear hK K
          try simp only [aput]
          clear hrun hap hgr hat
          refine tk (i := 14) (oi := ⟨some 8, .assign (.tmp 60), 52, "flows.go:146", #[⟨6, .data⟩, ⟨13, .chain⟩, ⟨0, .phase⟩, ⟨1, .phase⟩, ⟨2, .phase⟩, ⟨3, .phase⟩, ⟨4, .phase⟩, ⟨5, .phase⟩, ⟨6, .phase⟩, ⟨7, .textOnly Go.Departure.lateStores⟩, ⟨8, .textOnly Go.Departure.lateStores⟩, ⟨9, .textOnly Go.Departure.lateStores⟩, ⟨10, .textOnly Go.Departure.lateStoresUnsure⟩, ⟨11, .textOnly Go.Departure.lateStores⟩, ⟨12, .textOnly Go.Departure.lateStores⟩, ⟨13, .textOnly Go.Departure.lateStoresUnsure⟩], none⟩) (v := ?_) (Or.inl ⟨by rfl, ?_⟩) (by assumption) ?_
          rotate_left
          · intro w' hSw
            (try dsimp only at hSw)
            go_simp
            try with_reducible rfl
          try simp only [aput]
          refine tk (i := 15) (oi := ⟨some 9, .assign (.tmp 67), 52, "flows.go:146", #[⟨13, .data⟩, ⟨14, .chain⟩, ⟨0, .phase⟩, ⟨1, .phase⟩, ⟨2, .phase⟩, ⟨3, .phase⟩, ⟨4, .phase⟩, ⟨5, .phase⟩, ⟨6, .phase⟩, ⟨7, .phase⟩, ⟨8, .phase⟩, ⟨9, .phase⟩, ⟨10, .phase⟩, ⟨11, .phase⟩, ⟨12, .phase⟩, ⟨13, .phase⟩, ⟨14, .phase⟩], none⟩) (v := ?_) (Or.inl ⟨by rfl, ?_⟩) (by assumption) ?_
          rotate_left
          · intro w' hSw
            (try dsimp only at hSw)
            go_simp
            try with_reducible rfl
          try simp only [aput]
          refine wpAnyH_done (by kernel_rfl) ?_ _
          have HRA : Hid (IsLevs X6 (.slice za4 zn4 zc4) (st.vs ++ st.fs)) := hide (by have := HO6.out.levs HE6.out; simpa using this)
          have HRB : Hid (IsLevs X6 (.slice za6 zn6 zc6) (L.vs ++ L.fs)) := hide (by have := HR6.out.levs HE6.out; simpa using this)
          have HEE := HE6
          have HZA : Hid (zn4 = st.vs.length + st.fs.length) := hide (by obtain ⟨ao, cp, he, -⟩ := HRA.out; injection he with e1 e2; rw [e2]; simp)
          have HZC : Hid (zn6 = L.vs.length + L.fs.length) := hide (by obtain ⟨ao, cp, he, -⟩ := HRB.out; injection he with e1 e2; rw [e2]; simp)
          have hz100 : zn4 ≤ 21 := by have h1 := HZA.out; have h2 := HLB.out; omega
          have HLL : Hid (L.vs.length = st.vs.length ∧ L.fs.length = st.fs.length) := hide (by have q1 := HLE.out.2.2.1; have q2 := HLE.out.2.2.2; have q5 := HLV2.out.2.1; have q6 := HLV2.out.2.2.1; omega)
          have hzc : zn4 = zn6 := by have h1 := HZA.out; have h2 := HZC.out; have h3 := HLL.out; omega
          have HRP6 := hide (HRP5.out.over HEE.out)
          clear hS0 hHeld
          subst hzc
          go_wp2_with fail
          go_loopw [10] (fun i wr => ∃ j : Nat, j ≤ zn4 ∧ i = .int .i64 j ∧ RowAt [.int .i64 m, .slice ga gn gc, .slice sa sn sc, .slice ya yn yc, .slice oa on oc, .slice va vn vc, .slice fa fn fc, .slice ba bn bc] wr w.heap.size ∧ Below X6.heap.size X6 wr) (fun i _ => zn4 - (intOf i).toNat)
          case atStart => exact ⟨0, Nat.zero_le _, rfl, HRP6.out, Below.refl _ _⟩
          case round =>
            obtain ⟨j, hj, rfl, hrp, hB⟩ := hrel
            by_cases hjl : j < zn4
            · have hja : j < (st.vs ++ st.fs).length := by have h1 := HZA.out; simp; omega
              have hjb : j < (L.vs ++ L.fs).length := by have h1 := HZA.out; have h3 := HLL.out; simp; omega
              obtain ⟨ao1, cp1, he1, hel1⟩ := isLevs_over HRA.out hB
              obtain ⟨ao2, cp2, he2, hel2⟩ := isLevs_over HRB.out hB
              injection he1 with e11 e12 e13
              injection he2 with e21 e22 e23
              obtain ⟨ba1, oa1, hbo1, hel1⟩ := hel1 (by intro hh; rw [hh] at hja; simp at hja)
              obtain ⟨bb1, ob1, hbo2, hel2⟩ := hel2 (by intro hh; rw [hh] at hjb; simp at hjb)
              have e1 := e11.trans hbo1
              have e2 := e21.trans hbo2
              obtain ⟨rv1, wv1, g0, g1, hlv1⟩ := hel1 j hja
              obtain ⟨rv2, wv2, g2, g3, hlv2⟩ := hel2 j hjb
              obtain ⟨p1, p2, p3, p4, p5, p6, hp1, hp2⟩ := lev_slices hlv1
              obtain ⟨q1, q2, q3, q4, q5, q6, hq1, hq2⟩ := lev_slices hlv2
              subst hp1 hp2 hq1 hq2
              subst e1 e2
              have hBw : Below w.heap.size w wr := over_trans (over_trans HB5.out HEE.out) hB
              have hmm := HMN.out
              have hchk : chkErr n gs = 0 := by rw [← hmm]; exact HOK.out.chk
              have KFl := hide fun W (hW : Below wr.heap.size wr W) => flowsOk m (.slice ga gn gc) gs (.agg #[.slice p1 p2 p3, .slice p4 p5 p6]) (.agg #[.slice q1 q2 q3, .slice q4 q5 q6]) _ _ W (isGrants_over H.out.grants (over_trans hBw hW)) (levAt_over hlv1 hW) (levAt_over hlv2 hW)
              have hl2a : lTwo m gs (st.vs ++ st.fs)[j] (L.vs ++ L.fs)[j] = 0 := by
                rw [hmm]
                refine lTwo_of hchk (all_len HLE.out.1 HLE.out.2.1 _ (List.getElem_mem hja)) (all_len (fun x hx => right_len hchk (by rw [← hmm]; exact HLV2.out.2.2.2.1 x hx)) (fun x hx => right_len hchk (by rw [← hmm]; exact HLV2.out.2.2.2.2 x hx)) _ (List.getElem_mem hjb))
              have hfl : flowsB (st.vs ++ st.fs)[j] (L.vs ++ L.fs)[j] m.toNat = true := by
                rw [hmm, Int.toNat_natCast]
                have hbb := HBB.out.1 (by simp)
                have hnn : n = n' := by have := HN2.out; omega
                subst hnn
                exact le_append (inferred_least HINF.out.1 (HLV2.out.2.1.trans vn_eq.out) HLV2.out.2.2.1 hbb.1 hbb.2) HLL.out j hja hjb
              rw [hl2a, hfl] at KFl
              have t0 := hrp 0 _ rfl
              have t1 := hrp 1 _ rfl
              have hS0 : wr.cell? ⟨w.heap.size, 0, none⟩ = some (.int .i64 m) ∧ wr.cell? ⟨w.heap.size, 1, none⟩ = some (.slice ga gn gc) ∧ wr.cell? ⟨ba1, oa1 + j * 2, none⟩ = some (.slice p1 p2 p3) ∧ wr.cell? ⟨ba1, oa1 + j * 2 + 1, none⟩ = some (.slice p4 p5 p6) ∧ wr.cell? ⟨bb1, ob1 + j * 2, none⟩ = some (.slice q1 q2 q3) ∧ wr.cell? ⟨bb1, ob1 + j * 2 + 1, none⟩ = some (.slice q4 q5 q6) := ⟨t0, t1, g0, g1, g2, g3⟩
              have HRPW := hide hrp
              have HBW := hide hB
              clear hel1 hel2 hlv1 hlv2 e11 e12 e13 e21 e22 e23 hbo1 hbo2 hl2a hfl hmm hchk hBw hrp hB
              go_wp2_with fail
              refine wp_region_held_drew (S := fun Wz => Wz.cell? ⟨w.heap.size, 0, none⟩ = some (.int .i64 m) ∧ Wz.cell? ⟨w.heap.size, 1, none⟩ = some (.slice ga gn gc) ∧ Wz.cell? ⟨ba1, oa1 + j * 2, none⟩ = some (.slice p1 p2 p3) ∧ Wz.cell? ⟨ba1, oa1 + j * 2 + 1, none⟩ = some (.slice p4 p5 p6) ∧ Wz.cell? ⟨bb1, ob1 + j * 2, none⟩ = some (.slice q1 q2 q3) ∧ Wz.cell? ⟨bb1, ob1 + j * 2 + 1, none⟩ = some (.slice q4 q5 q6)) (by kernel_rfl) (hS0) (fun hHeld => ?_)
              refine tk (i := 0) (oi := ⟨some 75, .fieldAddr 41 (.tmp 2) 0, 0, "flows.go:148", #[], none⟩) (v := ?_) (Or.inl ⟨by rfl, ?_⟩) (by assumption) ?_
              rotate_left
              · intro w' hSw
                (try dsimp only at hSw)
                go_simp
                try with_reducible rfl
              try simp only [aput]
              refine tk (i := 1) (oi := ⟨some 76, .load 35 (.tmp 75), 35, "flows.go:148", #[⟨0, .data⟩], none⟩) (v := ?_) (Or.inl ⟨by rfl, ?_⟩) (by assumption) ?_
              rotate_left
              · intro w' hSw
                (try dsimp only at hSw)
                go_simp
                try with_reducible rfl
              try simp only [aput]
              refine tk (i := 2) (oi := ⟨some 77, .move (.tmp 8), 52, "flows.go:148", #[], none⟩) (v := ?_) (Or.inl ⟨by rfl, ?_⟩) (by assumption) ?_
              rotate_left
              · intro w' hSw
                (try dsimp only at hSw)
                go_simp
                try with_reducible rfl
              try simp only [aput]
              refine tk (i := 3) (oi := ⟨some 78, .move (.tmp 10), 3, "flows.go:148", #[], none⟩) (v := ?_) (Or.inl ⟨by rfl, ?_⟩) (by assumption) ?_
              rotate_left
              · intro w' hSw
                (try dsimp only at hSw)
                go_simp
                try with_reducible rfl
              try simp only [aput]
              refine tk (i := 4) (oi := ⟨some 79, .indexAddr 52 (.tmp 77) (.tmp 78), 0, "flows.go:148", #[⟨2, .data⟩, ⟨3, .data⟩], none⟩) (v := ?_) (Or.inl ⟨by rfl, ?_⟩) (by assumption) ?_
              rotate_left
              · intro w' hSw
                (try dsimp only at hSw)
                go_simp
                try with_reducible rfl
              try simp only [aput]
              refine tk (i := 5) (oi := ⟨some 80, .load 62 (.tmp 79), 62, "flows.go:148", #[⟨4, .data⟩], none⟩) (v := ?_) (Or.inl ⟨by rfl, ?_⟩) (by assumption) ?_
              rotate_left
              · intro w' hSw
                (try dsimp only at hSw)
                go_simp
                try with_reducible rfl
              try simp only [aput]
              refine tk (i := 6) (oi := ⟨some 81, .move (.tmp 9), 52, "flows.go:148", #[], none⟩) (v := ?_) (Or.inl ⟨by rfl, ?_⟩) (by assumption) ?_
              rotate_left
              · intro w' hSw
                (try dsimp only at hSw)
                go_simp
                try with_reducible rfl
              try simp only [aput]
              refine tk (i := 7) (oi := ⟨some 82, .move (.tmp 10), 3, "flows.go:148", #[], none⟩) (v := ?_) (Or.inl ⟨by rfl, ?_⟩) (by assumption) ?_
              rotate_left
              · intro w' hSw
                (try dsimp only at hSw)
                go_simp
                try with_reducible rfl
              try simp only [aput]
              refine tk (i := 8) (oi := ⟨some 83, .indexAddr 52 (.tmp 81) (.tmp 82), 0, "flows.go:148", #[⟨6, .data⟩, ⟨7, .data⟩], none⟩) (v := ?_) (Or.inl ⟨by rfl, ?_⟩) (by assumption) ?_
              rotate_left
              · intro w' hSw
                (try dsimp only at hSw)
                go_simp
                try with_reducible rfl
              try simp only [aput]
              refine tk (i := 9) (oi := ⟨some 84, .load 62 (.tmp 83), 62, "flows.go:148", #[⟨8, .data⟩], none⟩) (v := ?_) (Or.inl ⟨by rfl, ?_⟩) (by assumption) ?_
              rotate_left
              · intro w' hSw
                (try dsimp only at hSw)
                go_simp
                try with_reducible rfl
              try simp only [aput]
              refine wpAnyH_ready (rs := [10]) (by kernel_rfl) (by simp) ?_
              refine AllReadyH.cons (o := { dst := some 85, op := Go.Op.call { callee := Go.Callee.value (Go.Operand.func 19), args := #[Go.Operand.tmp 76, Go.Operand.tmp 80, Go.Operand.tmp 84], argTypes := #[35, 62, 62] }, type := 57, pos := "flows.go:148", after := #[⟨1, .data⟩, ⟨5, .data⟩, ⟨9, .data⟩], guard := none }) rfl (fun K hK => ?_) AllReadyH.nil
              go_simp
              refine (KFl.out _ ((Below.refl _ wr).drew)).mono ?_
              rintro e W9 ⟨rfl, hb9⟩
              have hbz9 : Below wr.heap.size wr W9 := over_trans ((Below.refl _ wr).drew) hb9
              have hS9 : W9.cell? ⟨w.heap.size, 0, none⟩ = some (.int .i64 m) ∧ W9.cell? ⟨w.heap.size, 1, none⟩ = some (.slice ga gn gc) ∧ W9.cell? ⟨ba1, oa1 + j * 2, none⟩ = some (.slice p1 p2 p3) ∧ W9.cell? ⟨ba1, oa1 + j * 2 + 1, none⟩ = some (.slice p4 p5 p6) ∧ W9.cell? ⟨bb1, ob1 + j * 2, none⟩ = some (.slice q1 q2 q3) ∧ W9.cell? ⟨bb1, ob1 + j * 2 + 1, none⟩ = some (.slice q4 q5 q6) := ⟨cell_over hbz9 _ _ t0, cell_over hbz9 _ _ t1, cell_over hbz9 _ _ g0, cell_over hbz9 _ _ g1, cell_over hbz9 _ _ g2, cell_over hbz9 _ _ g3⟩
              have HB9 := hide hbz9
              clear hb9 hbz9
              go_simp
              refine hK.out _ _ (hS9) (fun hHeld => ?_)
              clear hK K
              try simp only [aput]
              refine tk (i := 11) (oi := { dst := some 74, op := Go.Op.move (Go.Operand.tmp 85), type := 57, pos := "flows.go:148", after := #[⟨10, .data⟩], guard := none }) (v := ?_) (Or.inl ⟨by rfl, ?_⟩) (by assumption) ?_
              rotate_left
              · intro w' hSw
                (try dsimp only at hSw)
                go_simp
                try with_reducible rfl
              try simp only [aput]
              refine tk (i := 12) (oi := ⟨some 86, .extract (.tmp 74) 0, 4, "flows.go:148", #[⟨11, .data⟩], none⟩) (v := ?_) (Or.inl ⟨by rfl, ?_⟩) (by assumption) ?_
              rotate_left
              · intro w' hSw
                (try dsimp only at hSw)
                go_simp
                try with_reducible rfl
              try simp only [aput]
              refine tk (i := 13) (oi := ⟨some 87, .extract (.tmp 74) 1, 26, "flows.go:148", #[⟨11, .data⟩, ⟨14, .gcOnly Go.Departure.lateStores⟩], none⟩) (v := ?_) (Or.inl ⟨by rfl, ?_⟩) (by assumption) ?_
              rotate_left
              · intro w' hSw
                (try dsimp only at hSw)
                go_simp
                try with_reducible rfl
              try simp only [aput]
              refine tk (i := 14) (oi := ⟨some 11, .assign (.tmp 86), 4, "flows.go:148", #[⟨12, .data⟩, ⟨10, .chain⟩, ⟨0, .phase⟩, ⟨1, .phase⟩, ⟨2, .phase⟩, ⟨3, .phase⟩, ⟨4, .phase⟩, ⟨5, .phase⟩, ⟨6, .phase⟩, ⟨7, .phase⟩, ⟨8, .phase⟩, ⟨9, .phase⟩, ⟨10, .phase⟩, ⟨11, .phase⟩, ⟨12, .phase⟩, ⟨13, .textOnly Go.Departure.lateStores⟩], none⟩) (v := ?_) (Or.inl ⟨by rfl, ?_⟩) (by assumption) ?_
              rotate_left
              · intro w' hSw
                (try dsimp only at hSw)
                go_simp
                try with_reducible rfl
              try simp only [aput]
              refine tk (i := 15) (oi := ⟨some 12, .assign (.tmp 87), 26, "flows.go:148", #[⟨13, .data⟩, ⟨14, .chain⟩, ⟨0, .phase⟩, ⟨1, .phase⟩, ⟨2, .phase⟩, ⟨3, .phase⟩, ⟨4, .phase⟩, ⟨5, .phase⟩, ⟨6, .phase⟩, ⟨7, .phase⟩, ⟨8, .phase⟩, ⟨9, .phase⟩, ⟨10, .phase⟩, ⟨11, .phase⟩, ⟨12, .phase⟩, ⟨13, .phase⟩, ⟨14, .phase⟩], none⟩) (v := ?_) (Or.inl ⟨by rfl, ?_⟩) (by assumption) ?_
              rotate_left
              · intro w' hSw
                (try dsimp only at hSw)
                go_simp
                try with_reducible rfl
              try simp only [aput]
              refine wpAnyH_done (by kernel_rfl) ?_ _
              go_wp2_with fail
              exact ⟨⟨j + 1, by omega, by go_num, HRPW.out.over HB9.out, over_trans HBW.out HB9.out⟩, by simp [intOf]; omega⟩
            · have HEND := hide (over_trans (over_trans HB5.out HEE.out) hB)
              go_wp2_with fail
              go_ret
              exact ⟨rfl, HEND.out⟩
      · go_simp
        have HE1 : Hid (Below w5.heap.size w5 ((w5.alloc (.cells #[] 62)).drew)) := hide (((Below.refl _ w5).alloc (Nat.le_refl _) (.cells #[] 62)).drew)
        have HR1 : Hid (ApL w5 ((w5.alloc (.cells #[] 62)).drew) (.slice (some ⟨w5.heap.size, 0, none⟩) 0 0) []) := hide (apL_new (W0 := w5) (W := w5) (Below.refl _ w5))
        refine hK.out _ _ (by have hr := HRM5.out.over (HE1.out); have hq := HRL5.out.over (HE1.out); exact ⟨hr 0 _ rfl, hr 1 _ rfl, hq 0 _ rfl, hq 1 _ rfl⟩) (fun hHeld => ?_)
        clear hK K
        try simp only [aput]
        generalize ((w5.alloc (.cells #[] 62)).drew) = X1 at HE1 HR1 hHeld ⊢
        refine wpAnyH_ready (rs := [0]) (by kernel_rfl) (by simp) ?_
        refine (AllReadyH.cons (o := ⟨some 54, .buildSlice 52 0 #[], 52, "flows.go:146", #[], none⟩) rfl (fun K hK => ?_) AllReadyH.nil)
        go_simp
        have HE2 : Hid (Below w5.heap.size w5 (X1.alloc (.cells #[] 62))) := hide (((HE1.out).alloc ((HE1.out).size) (.cells #[] 62)))
        have HR2 : Hid (ApL w5 (X1.alloc (.cells #[] 62)) (.slice (some ⟨X1.heap.size, 0, none⟩) 0 0) []) := hide (apL_new (W0 := w5) (W := X1) (HE1.out))
        have HO2 : Hid (ApL w5 (X1.alloc (.cells #[] 62)) (.slice (some ⟨w5.heap.size, 0, none⟩) 0 0) []) := hide (HR1.out.over ((Below.refl _ _).alloc (Nat.le_refl _) _))
        have HD2 : Hid (Value.ownBlock (.slice (some ⟨X1.heap.size, 0, none⟩) 0 0) ≠ Value.ownBlock (.slice (some ⟨w5.heap.size, 0, none⟩) 0 0)) := hide (apL_ne HR1.out)
        refine hK.out _ _ (by have hr := HRM5.out.over (HE2.out); have hq := HRL5.out.over (HE2.out); exact ⟨hr 0 _ rfl, hr 1 _ rfl, hq 0 _ rfl, hq 1 _ rfl⟩) (fun hHeld => ?_)
        clear hK K
        try simp only [aput]
        generalize (X1.alloc (.cells #[] 62)) = X2 at HE2 HR2 HO2 hHeld ⊢
        refine wpAnyH_ready (rs := [3]) (by kernel_rfl) (by simp) ?_
        refine (AllReadyH.cons (o := { dst := some 57, op := Go.Op.call { callee := Go.Callee.builtin Go.Builtin.append, args := #[Go.Operand.tmp 54, Go.Operand.tmp 56], argTypes := #[52, 52] }, type := 52, pos := "flows.go:146", after := #[⟨0, .data⟩, ⟨2, .data⟩], guard := none }) rfl (fun K hK => ?_) AllReadyH.nil)
        obtain ⟨v3, X3, hrun, hap, hgr, hat⟩ := appLev HR2.out (HE2.out) HM1.out HINF.out.2.1 (by have h16 := HLB.out; simp; omega)
        obtain ⟨za3, zn3, zc3, hv3⟩ : ∃ za zn zc, v3 = .slice za zn zc := by obtain ⟨us, ho, -⟩ := hap; exact own_form ho
        subst hv3
        have HE3 : Hid (Below w5.heap.size w5 X3) := hide ((HE2.out).trans (grown_none hgr (fun g e => (apL_lt HR2.out g e).1) ((HE2.out).size)))
        have HR3 := hide hap
        have HO3 : Hid (ApL w5 X3 (.slice (some ⟨w5.heap.size, 0, none⟩) 0 0) []) := hide (HO2.out.keep hgr (Or.inr (Ne.symm HD2.out)))
        have HD3 : Hid (Value.ownBlock (.slice za3 zn3 zc3) ≠ Value.ownBlock (.slice (some ⟨w5.heap.size, 0, none⟩) 0 0)) := hide (by
          rcases hat with e | e
          · rw [e]; exact HD2.out
          · rw [e]; intro e2; have h9 := (apL_lt HO2.out _ e2.symm).2; omega)
        refine step_appR rfl _ _ _ rfl _ _ _ _ rfl rfl hrun ?_
        refine hK.out _ _ (by have hr := HRM5.out.over (HE3.out); have hq := HRL5.out.over (HE3.out); exact ⟨hr 0 _ rfl, hr 1 _ rfl, hq 0 _ rfl, hq 1 _ rfl⟩) (fun hHeld => ?_)
        clear hK K
        try simp only [aput]
        clear hrun hap hgr hat
        refine wpAnyH_ready (rs := [6]) (by kernel_rfl) (by simp) ?_
        refine (AllReadyH.cons (o := { dst := some 60, op := Go.Op.call { callee := Go.Callee.builtin Go.Builtin.append, args := #[Go.Operand.tmp 57, Go.Operand.tmp 59], argTypes := #[52, 52] }, type := 52, pos := "flows.go:146", after := #[⟨3, .data⟩, ⟨5, .data⟩, ⟨3, .chain⟩], guard := none }) rfl (fun K hK => ?_) AllReadyH.nil)
        obtain ⟨v4, X4, hrun, hap, hgr, hat⟩ := appLev HR3.out (HE3.out) HM2.out HINF.out.2.2 (by have h16 := HLB.out; simp; omega)
        obtain ⟨za4, zn4, zc4, hv4⟩ : ∃ za zn zc, v4 = .slice za zn zc := by obtain ⟨us, ho, -⟩ := hap; exact own_form ho
        subst hv4
        have HE4 : Hid (Below w5.heap.size w5 X4) := hide ((HE3.out).trans (grown_none hgr (fun g e => (apL_lt HR3.out g e).1) ((HE3.out).size)))
        have HR4 := hide hap
        have HO4 : Hid (ApL w5 X4 (.slice (some ⟨w5.heap.size, 0, none⟩) 0 0) []) := hide (HO3.out.keep hgr (Or.inr (Ne.symm HD3.out)))
        have HD4 : Hid (Value.ownBlock (.slice za4 zn4 zc4) ≠ Value.ownBlock (.slice (some ⟨w5.heap.size, 0, none⟩) 0 0)) := hide (by
          rcases hat with e | e
          · rw [e]; exact HD3.out
          · rw [e]; intro e2; have h9 := (apL_lt HO3.out _ e2.symm).2; omega)
        refine step_appR rfl _ _ _ rfl _ _ _ _ rfl rfl hrun ?_
        refine hK.out _ _ (by have hr := HRM5.out.over (HE4.out); have hq := HRL5.out.over (HE4.out); exact ⟨hr 0 _ rfl, hr 1 _ rfl, hq 0 _ rfl, hq 1 _ rfl⟩) (fun hHeld => ?_)
        clear hK K
        try simp only [aput]
        clear hrun hap hgr hat
        refine wpAnyH_ready (rs := [10]) (by kernel_rfl) (by simp) ?_
        refine (AllReadyH.cons (o := { dst := some 64, op := Go.Op.call { callee := Go.Callee.builtin Go.Builtin.append, args := #[Go.Operand.tmp 61, Go.Operand.tmp 63], argTypes := #[52, 52] }, type := 52, pos := "flows.go:146", after := #[⟨7, .data⟩, ⟨9, .data⟩, ⟨6, .chain⟩], guard := none }) rfl (fun K hK => ?_) AllReadyH.nil)
        obtain ⟨v5, X5, hrun, hap, hgr, hat⟩ := appLev HO4.out (HE4.out) HL1.out HNN.out.1 (by have h16 := HLB.out; simp; omega)
        obtain ⟨za5, zn5, zc5, hv5⟩ : ∃ za zn zc, v5 = .slice za zn zc := by obtain ⟨us, ho, -⟩ := hap; exact own_form ho
        subst hv5
        have HE5 : Hid (Below w5.heap.size w5 X5) := hide ((HE4.out).trans (grown_none hgr (fun g e => (apL_lt HO4.out g e).1) ((HE4.out).size)))
        have HR5 := hide hap
        have HO5 : Hid (ApL w5 X5 (.slice za4 zn4 zc4) (([] ++ st.vs) ++ st.fs)) := hide (HR4.out.keep hgr (Or.inr (Ne.symm (Ne.symm HD4.out))))
        have HD5 : Hid (Value.ownBlock (.slice za5 zn5 zc5) ≠ Value.ownBlock (.slice za4 zn4 zc4)) := hide (by
          rcases hat with e | e
          · rw [e]; exact Ne.symm HD4.out
          · rw [e]; intro e2; have h9 := (apL_lt HR4.out _ e2.symm).2; omega)
        refine step_appR rfl _ _ _ rfl _ _ _ _ rfl rfl hrun ?_
        refine hK.out _ _ (by have hr := HRM5.out.over (HE5.out); have hq := HRL5.out.over (HE5.out); exact ⟨hr 0 _ rfl, hr 1 _ rfl, hq 0 _ rfl, hq 1 _ rfl⟩) (fun hHeld => ?_)
        clear hK K
        try simp only [aput]
        clear hrun hap hgr hat
        refine wpAnyH_ready (rs := [13]) (by kernel_rfl) (by simp) ?_
        refine (AllReadyH.cons (o := { dst := some 67, op := Go.Op.call { callee := Go.Callee.builtin Go.Builtin.append, args := #[Go.Operand.tmp 64, Go.Operand.tmp 66], argTypes := #[52, 52] }, type := 52, pos := "flows.go:146", after := #[⟨10, .data⟩, ⟨12, .data⟩, ⟨10, .chain⟩], guard := none }) rfl (fun K hK => ?_) AllReadyH.nil)
        obtain ⟨v6, X6, hrun, hap, hgr, hat⟩ := appLev HR5.out (HE5.out) HL2.out HNN.out.2 (by have h16 := HLB.out; simp; omega)
        obtain ⟨za6, zn6, zc6, hv6⟩ : ∃ za zn zc, v6 = .slice za zn zc := by obtain ⟨us, ho, -⟩ := hap; exact own_form ho
        subst hv6
        have HE6 : Hid (Below w5.heap.size w5 X6) := hide ((HE5.out).trans (grown_none hgr (fun g e => (apL_lt HR5.out g e).1) ((HE5.out).size)))
        have HR6 := hide hap
        have HO6 : Hid (ApL w5 X6 (.slice za4 zn4 zc4) (([] ++ st.vs) ++ st.fs)) := hide (HO5.out.keep hgr (Or.inr (Ne.symm (Ne.symm (hide (Ne.symm HD5.out)).out))))
        have HD6 : Hid (Value.ownBlock (.slice za6 zn6 zc6) ≠ Value.ownBlock (.slice za4 zn4 zc4)) := hide (by
          rcases hat with e | e
          · rw [e]; exact Ne.symm (hide (Ne.symm HD5.out)).out
          · rw [e]; intro e2; have h9 := (apL_lt HO5.out _ e2.symm).2; omega)
        refine step_appR rfl _ _ _ rfl _ _ _ _ rfl rfl hrun ?_
        refine hK.out _ _ (by have hr := HRM5.out.over (HE6.out); have hq := HRL5.out.over (HE6.out); exact ⟨hr 0 _ rfl, hr 1 _ rfl, hq 0 _ rfl, hq 1 _ rfl⟩) (fun hHeld => ?_)
        clear hK K
        try simp only [aput]
        clear hrun hap hgr hat
        refine tk (i := 14) (oi := ⟨some 8, .assign (.tmp 60), 52, "flows.go:146", #[⟨6, .data⟩, ⟨13, .chain⟩, ⟨0, .phase⟩, ⟨1, .phase⟩, ⟨2, .phase⟩, ⟨3, .phase⟩, ⟨4, .phase⟩, ⟨5, .phase⟩, ⟨6, .phase⟩, ⟨7, .textOnly Go.Departure.lateStores⟩, ⟨8, .textOnly Go.Departure.lateStores⟩, ⟨9, .textOnly Go.Departure.lateStores⟩, ⟨10, .textOnly Go.Departure.lateStoresUnsure⟩, ⟨11, .textOnly Go.Departure.lateStores⟩, ⟨12, .textOnly Go.Departure.lateStores⟩, ⟨13, .textOnly Go.Departure.lateStoresUnsure⟩], none⟩) (v := ?_) (Or.inl ⟨by rfl, ?_⟩) (by assumption) ?_
        rotate_left
        · intro w' hSw
          (try dsimp only at hSw)
          go_simp
          try with_reducible rfl
        try simp only [aput]
        refine tk (i := 15) (oi := ⟨some 9, .assign (.tmp 67), 52, "flows.go:146", #[⟨13, .data⟩, ⟨14, .chain⟩, ⟨0, .phase⟩, ⟨1, .phase⟩, ⟨2, .phase⟩, ⟨3, .phase⟩, ⟨4, .phase⟩, ⟨5, .phase⟩, ⟨6, .phase⟩, ⟨7, .phase⟩, ⟨8, .phase⟩, ⟨9, .phase⟩, ⟨10, .phase⟩, ⟨11, .phase⟩, ⟨12, .phase⟩, ⟨13, .phase⟩, ⟨14, .phase⟩], none⟩) (v := ?_) (Or.inl ⟨by rfl, ?_⟩) (by assumption) ?_
        rotate_left
        · intro w' hSw
          (try dsimp only at hSw)
          go_simp
          try with_reducible rfl
        try simp only [aput]
        refine wpAnyH_done (by kernel_rfl) ?_ _
        have HRA : Hid (IsLevs X6 (.slice za4 zn4 zc4) (st.vs ++ st.fs)) := hide (by have := HO6.out.levs HE6.out; simpa using this)
        have HRB : Hid (IsLevs X6 (.slice za6 zn6 zc6) (L.vs ++ L.fs)) := hide (by have := HR6.out.levs HE6.out; simpa using this)
        have HEE := HE6
        have HZA : Hid (zn4 = st.vs.length + st.fs.length) := hide (by obtain ⟨ao, cp, he, -⟩ := HRA.out; injection he with e1 e2; rw [e2]; simp)
        have HZC : Hid (zn6 = L.vs.length + L.fs.length) := hide (by obtain ⟨ao, cp, he, -⟩ := HRB.out; injection he with e1 e2; rw [e2]; simp)
        have hz100 : zn4 ≤ 21 := by have h1 := HZA.out; have h2 := HLB.out; omega
        have HLL : Hid (L.vs.length = st.vs.length ∧ L.fs.length = st.fs.length) := hide (by have q1 := HLE.out.2.2.1; have q2 := HLE.out.2.2.2; have q5 := HLV2.out.2.1; have q6 := HLV2.out.2.2.1; omega)
        have hzc : zn4 = zn6 := by have h1 := HZA.out; have h2 := HZC.out; have h3 := HLL.out; omega
        have HRP6 := hide (HRP5.out.over HEE.out)
        clear hS0 hHeld
        subst hzc
        go_wp2_with fail
        go_loopw [10] (fun i wr => ∃ j : Nat, j ≤ zn4 ∧ i = .int .i64 j ∧ RowAt [.int .i64 m, .slice ga gn gc, .slice sa sn sc, .slice ya yn yc, .slice oa on oc, .slice va vn vc, .slice fa fn fc, .slice ba bn bc] wr w.heap.size ∧ Below X6.heap.size X6 wr) (fun i _ => zn4 - (intOf i).toNat)
        case atStart => exact ⟨0, Nat.zero_le _, rfl, HRP6.out, Below.refl _ _⟩
        case round =>
          obtain ⟨j, hj, rfl, hrp, hB⟩ := hrel
          by_cases hjl : j < zn4
          · have hja : j < (st.vs ++ st.fs).length := by have h1 := HZA.out; simp; omega
            have hjb : j < (L.vs ++ L.fs).length := by have h1 := HZA.out; have h3 := HLL.out; simp; omega
            obtain ⟨ao1, cp1, he1, hel1⟩ := isLevs_over HRA.out hB
            obtain ⟨ao2, cp2, he2, hel2⟩ := isLevs_over HRB.out hB
            injection he1 with e11 e12 e13
            injection he2 with e21 e22 e23
            obtain ⟨ba1, oa1, hbo1, hel1⟩ := hel1 (by intro hh; rw [hh] at hja; simp at hja)
            obtain ⟨bb1, ob1, hbo2, hel2⟩ := hel2 (by intro hh; rw [hh] at hjb; simp at hjb)
            have e1 := e11.trans hbo1
            have e2 := e21.trans hbo2
            obtain ⟨rv1, wv1, g0, g1, hlv1⟩ := hel1 j hja
            obtain ⟨rv2, wv2, g2, g3, hlv2⟩ := hel2 j hjb
            obtain ⟨p1, p2, p3, p4, p5, p6, hp1, hp2⟩ := lev_slices hlv1
            obtain ⟨q1, q2, q3, q4, q5, q6, hq1, hq2⟩ := lev_slices hlv2
            subst hp1 hp2 hq1 hq2
            subst e1 e2
            have hBw : Below w.heap.size w wr := over_trans (over_trans HB5.out HEE.out) hB
            have hmm := HMN.out
            have hchk : chkErr n gs = 0 := by rw [← hmm]; exact HOK.out.chk
            have KFl := hide fun W (hW : Below wr.heap.size wr W) => flowsOk m (.slice ga gn gc) gs (.agg #[.slice p1 p2 p3, .slice p4 p5 p6]) (.agg #[.slice q1 q2 q3, .slice q4 q5 q6]) _ _ W (isGrants_over H.out.grants (over_trans hBw hW)) (levAt_over hlv1 hW) (levAt_over hlv2 hW)
            have hl2a : lTwo m gs (st.vs ++ st.fs)[j] (L.vs ++ L.fs)[j] = 0 := by
              rw [hmm]
              refine lTwo_of hchk (all_len HLE.out.1 HLE.out.2.1 _ (List.getElem_mem hja)) (all_len (fun x hx => right_len hchk (by rw [← hmm]; exact HLV2.out.2.2.2.1 x hx)) (fun x hx => right_len hchk (by rw [← hmm]; exact HLV2.out.2.2.2.2 x hx)) _ (List.getElem_mem hjb))
            have hfl : flowsB (st.vs ++ st.fs)[j] (L.vs ++ L.fs)[j] m.toNat = true := by
              rw [hmm, Int.toNat_natCast]
              have hbb := HBB.out.1 (by simp)
              have hnn : n = n' := by have := HN2.out; omega
              subst hnn
              exact le_append (inferred_least HINF.out.1 (HLV2.out.2.1.trans vn_eq.out) HLV2.out.2.2.1 hbb.1 hbb.2) HLL.out j hja hjb
            rw [hl2a, hfl] at KFl
            have t0 := hrp 0 _ rfl
            have t1 := hrp 1 _ rfl
            have hS0 : wr.cell? ⟨w.heap.size, 0, none⟩ = some (.int .i64 m) ∧ wr.cell? ⟨w.heap.size, 1, none⟩ = some (.slice ga gn gc) ∧ wr.cell? ⟨ba1, oa1 + j * 2, none⟩ = some (.slice p1 p2 p3) ∧ wr.cell? ⟨ba1, oa1 + j * 2 + 1, none⟩ = some (.slice p4 p5 p6) ∧ wr.cell? ⟨bb1, ob1 + j * 2, none⟩ = some (.slice q1 q2 q3) ∧ wr.cell? ⟨bb1, ob1 + j * 2 + 1, none⟩ = some (.slice q4 q5 q6) := ⟨t0, t1, g0, g1, g2, g3⟩
            have HRPW := hide hrp
            have HBW := hide hB
            clear hel1 hel2 hlv1 hlv2 e11 e12 e13 e21 e22 e23 hbo1 hbo2 hl2a hfl hmm hchk hBw hrp hB
            go_wp2_with fail
            refine wp_region_held_drew (S := fun Wz => Wz.cell? ⟨w.heap.size, 0, none⟩ = some (.int .i64 m) ∧ Wz.cell? ⟨w.heap.size, 1, none⟩ = some (.slice ga gn gc) ∧ Wz.cell? ⟨ba1, oa1 + j * 2, none⟩ = some (.slice p1 p2 p3) ∧ Wz.cell? ⟨ba1, oa1 + j * 2 + 1, none⟩ = some (.slice p4 p5 p6) ∧ Wz.cell? ⟨bb1, ob1 + j * 2, none⟩ = some (.slice q1 q2 q3) ∧ Wz.cell? ⟨bb1, ob1 + j * 2 + 1, none⟩ = some (.slice q4 q5 q6)) (by kernel_rfl) (hS0) (fun hHeld => ?_)
            refine tk (i := 0) (oi := ⟨some 75, .fieldAddr 41 (.tmp 2) 0, 0, "flows.go:148", #[], none⟩) (v := ?_) (Or.inl ⟨by rfl, ?_⟩) (by assumption) ?_
            rotate_left
            · intro w' hSw
              (try dsimp only at hSw)
              go_simp
              try with_reducible rfl
            try simp only [aput]
            refine tk (i := 1) (oi := ⟨some 76, .load 35 (.tmp 75), 35, "flows.go:148", #[⟨0, .data⟩], none⟩) (v := ?_) (Or.inl ⟨by rfl, ?_⟩) (by assumption) ?_
            rotate_left
            · intro w' hSw
              (try dsimp only at hSw)
              go_simp
              try with_reducible rfl
            try simp only [aput]
            refine tk (i := 2) (oi := ⟨some 77, .move (.tmp 8), 52, "flows.go:148", #[], none⟩) (v := ?_) (Or.inl ⟨by rfl, ?_⟩) (by assumption) ?_
            rotate_left
            · intro w' hSw
              (try dsimp only at hSw)
              go_simp
              try with_reducible rfl
            try simp only [aput]
            refine tk (i := 3) (oi := ⟨some 78, .move (.tmp 10), 3, "flows.go:148", #[], none⟩) (v := ?_) (Or.inl ⟨by rfl, ?_⟩) (by assumption) ?_
            rotate_left
            · intro w' hSw
              (try dsimp only at hSw)
              go_simp
              try with_reducible rfl
            try simp only [aput]
            refine tk (i := 4) (oi := ⟨some 79, .indexAddr 52 (.tmp 77) (.tmp 78), 0, "flows.go:148", #[⟨2, .data⟩, ⟨3, .data⟩], none⟩) (v := ?_) (Or.inl ⟨by rfl, ?_⟩) (by assumption) ?_
            rotate_left
            · intro w' hSw
              (try dsimp only at hSw)
              go_simp
              try with_reducible rfl
            try simp only [aput]
            refine tk (i := 5) (oi := ⟨some 80, .load 62 (.tmp 79), 62, "flows.go:148", #[⟨4, .data⟩], none⟩) (v := ?_) (Or.inl ⟨by rfl, ?_⟩) (by assumption) ?_
            rotate_left
            · intro w' hSw
              (try dsimp only at hSw)
              go_simp
              try with_reducible rfl
            try simp only [aput]
            refine tk (i := 6) (oi := ⟨some 81, .move (.tmp 9), 52, "flows.go:148", #[], none⟩) (v := ?_) (Or.inl ⟨by rfl, ?_⟩) (by assumption) ?_
            rotate_left
            · intro w' hSw
              (try dsimp only at hSw)
              go_simp
              try with_reducible rfl
            try simp only [aput]
            refine tk (i := 7) (oi := ⟨some 82, .move (.tmp 10), 3, "flows.go:148", #[], none⟩) (v := ?_) (Or.inl ⟨by rfl, ?_⟩) (by assumption) ?_
            rotate_left
            · intro w' hSw
              (try dsimp only at hSw)
              go_simp
              try with_reducible rfl
            try simp only [aput]
            refine tk (i := 8) (oi := ⟨some 83, .indexAddr 52 (.tmp 81) (.tmp 82), 0, "flows.go:148", #[⟨6, .data⟩, ⟨7, .data⟩], none⟩) (v := ?_) (Or.inl ⟨by rfl, ?_⟩) (by assumption) ?_
            rotate_left
            · intro w' hSw
              (try dsimp only at hSw)
              go_simp
              try with_reducible rfl
            try simp only [aput]
            refine tk (i := 9) (oi := ⟨some 84, .load 62 (.tmp 83), 62, "flows.go:148", #[⟨8, .data⟩], none⟩) (v := ?_) (Or.inl ⟨by rfl, ?_⟩) (by assumption) ?_
            rotate_left
            · intro w' hSw
              (try dsimp only at hSw)
              go_simp
              try with_reducible rfl
            try simp only [aput]
            refine wpAnyH_ready (rs := [10]) (by kernel_rfl) (by simp) ?_
            refine AllReadyH.cons (o := { dst := some 85, op := Go.Op.call { callee := Go.Callee.value (Go.Operand.func 19), args := #[Go.Operand.tmp 76, Go.Operand.tmp 80, Go.Operand.tmp 84], argTypes := #[35, 62, 62] }, type := 57, pos := "flows.go:148", after := #[⟨1, .data⟩, ⟨5, .data⟩, ⟨9, .data⟩], guard := none }) rfl (fun K hK => ?_) AllReadyH.nil
            go_simp
            refine (KFl.out _ ((Below.refl _ wr).drew)).mono ?_
            rintro e W9 ⟨rfl, hb9⟩
            have hbz9 : Below wr.heap.size wr W9 := over_trans ((Below.refl _ wr).drew) hb9
            have hS9 : W9.cell? ⟨w.heap.size, 0, none⟩ = some (.int .i64 m) ∧ W9.cell? ⟨w.heap.size, 1, none⟩ = some (.slice ga gn gc) ∧ W9.cell? ⟨ba1, oa1 + j * 2, none⟩ = some (.slice p1 p2 p3) ∧ W9.cell? ⟨ba1, oa1 + j * 2 + 1, none⟩ = some (.slice p4 p5 p6) ∧ W9.cell? ⟨bb1, ob1 + j * 2, none⟩ = some (.slice q1 q2 q3) ∧ W9.cell? ⟨bb1, ob1 + j * 2 + 1, none⟩ = some (.slice q4 q5 q6) := ⟨cell_over hbz9 _ _ t0, cell_over hbz9 _ _ t1, cell_over hbz9 _ _ g0, cell_over hbz9 _ _ g1, cell_over hbz9 _ _ g2, cell_over hbz9 _ _ g3⟩
            have HB9 := hide hbz9
            clear hb9 hbz9
            go_simp
            refine hK.out _ _ (hS9) (fun hHeld => ?_)
            clear hK K
            try simp only [aput]
            refine tk (i := 11) (oi := { dst := some 74, op := Go.Op.move (Go.Operand.tmp 85), type := 57, pos := "flows.go:148", after := #[⟨10, .data⟩], guard := none }) (v := ?_) (Or.inl ⟨by rfl, ?_⟩) (by assumption) ?_
            rotate_left
            · intro w' hSw
              (try dsimp only at hSw)
              go_simp
              try with_reducible rfl
            try simp only [aput]
            refine tk (i := 12) (oi := ⟨some 86, .extract (.tmp 74) 0, 4, "flows.go:148", #[⟨11, .data⟩], none⟩) (v := ?_) (Or.inl ⟨by rfl, ?_⟩) (by assumption) ?_
            rotate_left
            · intro w' hSw
              (try dsimp only at hSw)
              go_simp
              try with_reducible rfl
            try simp only [aput]
            refine tk (i := 13) (oi := ⟨some 87, .extract (.tmp 74) 1, 26, "flows.go:148", #[⟨11, .data⟩, ⟨14, .gcOnly Go.Departure.lateStores⟩], none⟩) (v := ?_) (Or.inl ⟨by rfl, ?_⟩) (by assumption) ?_
            rotate_left
            · intro w' hSw
              (try dsimp only at hSw)
              go_simp
              try with_reducible rfl
            try simp only [aput]
            refine tk (i := 14) (oi := ⟨some 11, .assign (.tmp 86), 4, "flows.go:148", #[⟨12, .data⟩, ⟨10, .chain⟩, ⟨0, .phase⟩, ⟨1, .phase⟩, ⟨2, .phase⟩, ⟨3, .phase⟩, ⟨4, .phase⟩, ⟨5, .phase⟩, ⟨6, .phase⟩, ⟨7, .phase⟩, ⟨8, .phase⟩, ⟨9, .phase⟩, ⟨10, .phase⟩, ⟨11, .phase⟩, ⟨12, .phase⟩, ⟨13, .textOnly Go.Departure.lateStores⟩], none⟩) (v := ?_) (Or.inl ⟨by rfl, ?_⟩) (by assumption) ?_
            rotate_left
            · intro w' hSw
              (try dsimp only at hSw)
              go_simp
              try with_reducible rfl
            try simp only [aput]
            refine tk (i := 15) (oi := ⟨some 12, .assign (.tmp 87), 26, "flows.go:148", #[⟨13, .data⟩, ⟨14, .chain⟩, ⟨0, .phase⟩, ⟨1, .phase⟩, ⟨2, .phase⟩, ⟨3, .phase⟩, ⟨4, .phase⟩, ⟨5, .phase⟩, ⟨6, .phase⟩, ⟨7, .phase⟩, ⟨8, .phase⟩, ⟨9, .phase⟩, ⟨10, .phase⟩, ⟨11, .phase⟩, ⟨12, .phase⟩, ⟨13, .phase⟩, ⟨14, .phase⟩], none⟩) (v := ?_) (Or.inl ⟨by rfl, ?_⟩) (by assumption) ?_
            rotate_left
            · intro w' hSw
              (try dsimp only at hSw)
              go_simp
              try with_reducible rfl
            try simp only [aput]
            refine wpAnyH_done (by kernel_rfl) ?_ _
            go_wp2_with fail
            exact ⟨⟨j + 1, by omega, by go_num, HRPW.out.over HB9.out, over_trans HBW.out HB9.out⟩, by simp [intOf]; omega⟩
          · have HEND := hide (over_trans (over_trans HB5.out HEE.out) hB)
            go_wp2_with fail
            go_ret
            exact ⟨rfl, HEND.out⟩
end Go.Proofs.Ytcbbjjenkommeaa.Ex
