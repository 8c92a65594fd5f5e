/- A run of any program: where the commands begin. -/
import Derived.Test.YtpbnmmgocpobcaaM33
namespace Go.Proofs.Ytpbnmmgocpobcaa.Ex
open Go.RowKit
set_option linter.unusedVariables false

theorem stmts_all (K kf : Nat) (m : Int) (ga : Option Addr) (gn gc : Nat) (sa : Option Addr) (sn sc : Nat) (ya : Option Addr) (yn yc : Nat) (oa : Option Addr) (on oc : Nat) (va : Option Addr) (vn vc : Nat) (fa : Option Addr) (fn fc : Nat) (ba : Option Addr) (bn bc : Nat) (xa : Option Addr) (xn xc : Nat) (F fln c3 : Nat) (br b1 b2 b3 : Nat) (fl : List Int) (en : Int) (fs : List FnD) (ins : List (List Int)) (w0 : World) (X : CtxR K kf m ga gn gc sa sn sc ya yn yc oa on oc va vn vc fa fn fc ba bn bc xa xn xc F fln c3 br b1 b2 b3 fl en fs ins w0) : ∀ g, StmtsC K kf m ga gn gc sa sn sc ya yn yc oa on oc va vn vc fa fn fc ba bn bc xa xn xc F fln c3 br b1 b2 b3 fl en fs ins w0 g := by
  intro g
  induction g using Nat.strongRecOn with
  | ind g ih => exact stmtsR K kf m ga gn gc sa sn sc ya yn yc oa on oc va vn vc fa fn fc ba bn bc xa xn xc F fln c3 br b1 b2 b3 fl en fs ins w0 g X (hide fun g' hg' => stmtC_of K kf m ga gn gc sa sn sc ya yn yc oa on oc va vn vc fa fn fc ba bn bc xa xn xc F fln c3 br b1 b2 b3 fl en fs ins w0 g' X (fun g'' hg'' => ih g'' (Nat.lt_trans hg'' hg')))

def flOf (kf : Nat) (fs : List FnD) (j : Nat) : List Int := (List.range (j + 1)).map (fun i => ((cntF kf (fs.take i) : Nat) : Int))
theorem flOf_succ (kf : Nat) (fs : List FnD) (j : Nat) : flOf kf fs (j + 1) = flOf kf fs j ++ [((cntF kf (fs.take (j + 1)) : Nat) : Int)] := by
  unfold flOf
  rw [List.range_succ, List.map_append]
  rfl
theorem flOf_length (kf : Nat) (fs : List FnD) (j : Nat) : (flOf kf fs j).length = j + 1 := by simp [flOf]
theorem flOf_last (kf : Nat) (fs : List FnD) (j : Nat) : (flOf kf fs j)[j]? = some ((cntF kf (fs.take j) : Nat) : Int) := by
  unfold flOf
  rw [List.getElem?_map, List.getElem?_range (by omega)]
  rfl

theorem keepW2 {w w' : World} {a0 a1 : Addr} {v0 v1 : Value} (h : w.cell? a0 = some v0 ∧ w.cell? a1 = some v1) (hb : Below w.heap.size w w') : w'.cell? a0 = some v0 ∧ w'.cell? a1 = some v1 := ⟨cell_over hb _ _ h.1, cell_over hb _ _ h.2⟩
theorem own_cell1 {W : World} {B e : Nat} {v : Value} {n : Nat} {xs : List Value} (h : W.ownsRow B e 1 v n xs) (hn : 0 < n) : ∃ g cap, v = .slice (some ⟨g, 0, none⟩) n cap ∧ B ≤ g ∧ g < W.heap.size ∧ RowAt xs W g := by
  rcases h.2 with ⟨_, h0⟩ | ⟨g, cap, cur, hv, hb, hg, h1, h2, h3, h4⟩
  · omega
  · refine ⟨g, cap, hv, hb, (Array.getElem?_eq_some_iff.1 hg).1, fun j u hu => ?_⟩
    have := h.cells (g := g) (by rw [hv]; rfl) j u hu
    rwa [Addr.add_lit, Nat.zero_add] at this

section
variable {ops : Array Oper} {o : Oper} {a : Act} {W : World} {K : Act → World → Prop} {Q : Exit → Act → World → Prop} {E : Prop}


set_option maxRecDepth 100000 in
theorem step_appI (hg : o.guard = none) (s x : Operand) (hop : o.op = Op.call { callee := Callee.builtin Builtin.append, args := #[s, x], argTypes := #[25, 25] })
    (B b g cap n : Nat) (xs : List Value) (z : Int) (hs : a.eval s = .slice (some ⟨g, 0, none⟩) n cap) (hx : a.eval x = .slice (some ⟨b, 0, none⟩) 1 1)
    (hown : W.ownsRow B 3 1 (.slice (some ⟨g, 0, none⟩) n cap) n xs) (hb : W.cell? ⟨b, 0, none⟩ = some (.int .i64 z)) (hk : n ≤ 1000) (hB : B ≤ W.heap.size)
    (h : ∀ v' W', W'.ownsRow B 3 1 v' (n + 1) (xs ++ [.int .i64 z]) → W.grownBy W' (some g) → (∀ j u, xs[j]? = some u → W'.cell? ⟨g, j, none⟩ = some u) → K (a.put o.dst v') W') :
    if Region.wanted o (yielded ops a.tmps) = true then Oper.wp Try.prog o a W K Q else E := by
  have hw : Region.wanted o (yielded ops a.tmps) = true := by simp [Region.wanted, hg]
  rw [if_pos hw]
  obtain ⟨i, hi, hz, h2, h16⟩ := info_parts Try.infoI
  have hnews : ∀ (j : Nat) (u : Value), ([.int .i64 z] : List Value)[j]? = some u → W.cell? ((⟨b, 0, none⟩ : Addr).add j) = some u := by
    intro j u hu
    rw [Addr.add_lit]
    match j, hu with
    | 0, hu => simp at hu; subst hu; simpa using hb
    | j + 1, hu => simp at hu
  have h1 : ∀ u ∈ ([.int .i64 z] : List Value), u.oneCell' = true := by intro u hu; simp at hu; subst hu; rfl
  obtain ⟨v', w', hr, h3, h4, h5, h6⟩ := run_append_own_at (P := Try.prog) W B 25 o.type 3 i _ 1 8 Try.underlying25 hi hz h2 h16 (by rfl) (by decide) _ n xs hown ⟨b, 0, none⟩ 1 1 [.int .i64 z] rfl hnews h1 (by simp only [maxLen]; omega) (by omega) hB
  have hcell : ∀ j u, xs[j]? = some u → w'.cell? ⟨g, j, none⟩ = some u := by
    intro j u hu
    have hu' : (xs ++ [.int .i64 z])[j]? = some u := by rw [List.getElem?_append_left (List.getElem?_eq_some_iff.1 hu).1]; exact hu
    have hlen := hown.1
    rcases hown.2 with ⟨hz, _⟩ | ⟨g', cap', cur, hv, hbg, hgg, hnc, hcm, hcs, htake⟩
    · cases hz
    · injection hv with q1 q2 q3
      injection q1 with q1
      injection q1 with q1
      subst q1
      subst q3
      by_cases hroom : n + 1 ≤ cap
      · have hr2 := run_append_room (P := Try.prog) W 25 o.type 3 i Try.underlying25 hi g n cap cur hgg ⟨b, 0, none⟩ 1 1 [.int .i64 z] (by rw [h2]; rfl) hnews h1 hroom (by rw [h2, hcs]; simp; omega)
        rw [hr] at hr2
        injection hr2 with r1 r2
        have := h3.cells (g := g) (by rw [r1]; rfl) j u hu'
        rwa [Addr.add_lit, Nat.zero_add] at this
      · have holds := hown.cells (g := g) rfl
        have hr2 := run_append_grow (P := Try.prog) W 25 o.type 3 i _ Try.underlying25 hi hz ⟨g, 0, none⟩ n cap xs (by rw [h2]; exact hlen) holds ⟨b, 0, none⟩ 1 1 [.int .i64 z] (by rw [h2]; rfl) hnews (by omega) (by omega) (growslice_fits (by omega) (by rw [h16]; omega))
        rw [hr] at hr2
        injection hr2 with r1 r2
        have hc := holds j u hu
        rw [Addr.add_lit, Nat.zero_add] at hc
        rw [r2]
        exact cell_over ((Below.refl _ W).drew.alloc (Nat.le_refl _) _) _ _ hc
  have hK := h v' w' h3 h4 hcell
  unfold Oper.wp execOp
  simp only [hop, resolve, invoke, builtin, Sem.run_bind, Sem.run_pure, Result.andThen_ok, List.map_toArray, List.map_cons, List.map_nil, hs, hx, hr]
  exact hK
end

set_option maxHeartbeats 2000000 in
set_option maxRecDepth 100000 in
theorem firsts_any (K kf : Nat) (m : Int) (ga : Option Addr) (gn gc : Nat) (sa : Option Addr) (sn sc : Nat) (ya : Option Addr) (yn yc : Nat) (oa : Option Addr) (on oc : Nat) (va : Option Addr) (vn vc : Nat) (fa : Option Addr) (fn fc : Nat) (ba : Option Addr) (bn bc : Nat) (fs : List FnD) (w : World) (hf : FnsAt w K kf (.slice fa fn fc) fs) (hcnt : cntF kf fs ≤ 50) (hfn : fn ≤ 5) :
    Calls Try.prog 22 #[.agg #[.int .i64 m, .slice ga gn gc, .slice sa sn sc, .slice ya yn yc, .slice oa on oc, .slice va vn vc, .slice fa fn fc, .slice ba bn bc]] w fun e w' => ∃ g cap, e = .returned (.slice (some ⟨g, 0, none⟩) (fs.length + 1) cap) ∧ w.heap.size ≤ g ∧ g < w'.heap.size ∧ RowAt (intsV (flOf kf fs fs.length)) w' g ∧ Below w.heap.size w w' := by
  obtain ⟨i0, hi, hz0, hz1, hz2⟩ := info_parts Try.infoI
  have hbel : Below w.heap.size w (w.alloc (.cells #[.int .i64 m, .slice ga gn gc, .slice sa sn sc, .slice ya yn yc, .slice oa on oc, .slice va vn vc, .slice fa fn fc, .slice ba bn bc] 31)) := (Below.refl _ w).alloc (Nat.le_refl _) _
  have hbF : Below w.heap.size w ((w.alloc (.cells #[.int .i64 m, .slice ga gn gc, .slice sa sn sc, .slice ya yn yc, .slice oa on oc, .slice va vn vc, .slice fa fn fc, .slice ba bn bc] 31)).alloc (.cells #[.int .i64 0] 3)) := hbel.alloc (by simp) _
  have hE : fn = fs.length := by obtain ⟨-, a, c, he, -⟩ := hf; injection he
  have HE := hide hE
  have HF := hide hf
  have HC := hide hcnt
  have hst : Hid (((w.alloc (.cells #[.int .i64 m, .slice ga gn gc, .slice sa sn sc, .slice ya yn yc, .slice oa on oc, .slice va vn vc, .slice fa fn fc, .slice ba bn bc] 31)).alloc (.cells #[.int .i64 0] 3)).ownsRow (w.heap.size + 1) 3 1 (.slice (some ⟨w.heap.size + 1, 0, none⟩) 1 1) 1 (intsV (flOf kf fs 0))) := by
    have := World.ownsRow_lit (base := w.heap.size + 1) (e := 3) (size := 1) (w.alloc (.cells #[.int .i64 m, .slice ga gn gc, .slice sa sn sc, .slice ya yn yc, .slice oa on oc, .slice va vn vc, .slice fa fn fc, .slice ba bn bc] 31)) #[.int .i64 0] 1 (by simp) (by unfold maxLen; omega) rfl
    show World.ownsRow _ _ _ _ _ _ _
    simpa [flOf, cntF] using this
  have HB : Hid (Below (w.heap.size + 1) (w.alloc (.cells #[.int .i64 m, .slice ga gn gc, .slice sa sn sc, .slice ya yn yc, .slice oa on oc, .slice va vn vc, .slice fa fn fc, .slice ba bn bc] 31)) ((w.alloc (.cells #[.int .i64 m, .slice ga gn gc, .slice sa sn sc, .slice ya yn yc, .slice oa on oc, .slice va vn vc, .slice fa fn fc, .slice ba bn bc] 31)).alloc (.cells #[.int .i64 0] 3))) := (Below.refl _ _).alloc (by simp) _
  have HBEL := hide hbel
  clear hbF hf hcnt hE
  go_enter Try.func22, Try.ntmps22
  go_wp2_with fail
  go_loopw [3, 10] (fun s i wr => ∃ j : Nat, j ≤ fn ∧ i = .int .i64 j ∧ wr.ownsRow (w.heap.size + 1) 3 1 s (j + 1) (intsV (flOf kf fs j)) ∧ Below (w.heap.size + 1) (w.alloc (.cells #[.int .i64 m, .slice ga gn gc, .slice sa sn sc, .slice ya yn yc, .slice oa on oc, .slice va vn vc, .slice fa fn fc, .slice ba bn bc] 31)) wr) (fun _ i _ => fn - (intOf i).toNat)
  case atStart => exact ⟨0, Nat.zero_le _, rfl, hst.out, HB.out⟩
  case round =>
    clear hst HB
    obtain ⟨j, hj, rfl, hown, hB⟩ := hrel
    have hBw : Below w.heap.size w wr := HBEL.out.trans (hB.mono (by omega))
    obtain ⟨J1, hJ1⟩ : ∃ q, q = j + 1 := ⟨_, rfl⟩
    rw [← hJ1] at hown
    obtain ⟨g, cap, rfl, hgb, hgl, hgr⟩ := own_cell1 hown (by omega)
    have hji : (j : Int) < (J1 : Int) := by omega
    have hJ5 : J1 ≤ 10 := by omega
    have HJ1 := hide hJ1
    clear hJ1
    have HGR := hide hgr
    have HOWN := hide hown
    have HBB := hide hB
    have HBW := hide hBw
    by_cases hjl : j < fn
    · have hjd : j < fs.length := by rw [← HE.out]; exact hjl
      obtain ⟨-, ao, fcap, he, hel⟩ := HF.out
      injection he with e1 e2 e3
      obtain ⟨b, off, hbo, hel2⟩ := hel (by intro hz; rw [hz] at hjd; simp at hjd)
      obtain ⟨vP, vB, x0, x1, x2, f0, f1, f2, f3, f4, -, ⟨-, pa, pc, hvp, -⟩, hbd, hx⟩ := hel2 j hjd
      have e1' := e1.trans hbo
      subst e1'
      subst hvp
      have hbd0 := hbd
      obtain ⟨-, za, zc, hvb, -⟩ := hbd0
      subst hvb
      obtain ⟨ra, rc, hxf⟩ := hx.form
      simp only [List.cons.injEq, and_true] at hxf
      obtain ⟨rfl, rfl, rfl⟩ := hxf
      have hct := cntF_take (k := kf) hjd
      have hle : cntF kf (fs.take (j + 1)) ≤ 50 := by
        have h2 : cntF kf fs = cntF kf (fs.take (j + 1)) + cntF kf (fs.drop (j + 1)) := by
          unfold cntF
          rw [← List.sum_append, ← List.map_append, List.take_append_drop]
        have := HC.out
        omega
      have KM := hide fun W (hW : Below w.heap.size w W) => many_any K kf _ fs[j].body W (hbd.over hW) (by omega)
      have m0 := cell_over hBw _ _ f0
      have m1 := cell_over hBw _ _ f1
      have m2 := cell_over hBw _ _ f2
      have m3 := cell_over hBw _ _ f3
      have m4 := cell_over hBw _ _ f4
      obtain ⟨pl, hpl⟩ : ∃ q, q = fs[j].ps.length := ⟨_, rfl⟩
      obtain ⟨zl, hzl⟩ : ∃ q, q = fs[j].body.length := ⟨_, rfl⟩
      obtain ⟨rk, hrk⟩ : ∃ q, q = kindOf fs[j].res := ⟨_, rfl⟩
      obtain ⟨rN, hrN⟩ : ∃ q, q = numOf fs[j].res := ⟨_, rfl⟩
      obtain ⟨rl, hrl⟩ : ∃ q, q = (argsOf fs[j].res).length := ⟨_, rfl⟩
      rw [← hpl] at m0
      rw [← hzl] at m1 KM
      rw [← hrk] at m2
      rw [← hrN] at m3
      rw [← hrl] at m4
      obtain ⟨N, hN⟩ : ∃ N : Nat, N = cnts kf fs[j].body := ⟨_, rfl⟩
      obtain ⟨M, hM⟩ : ∃ M : Nat, M = cntF kf (fs.take j) := ⟨_, rfl⟩
      rw [← hN, ← hM] at hct
      rw [← hN] at KM
      have hMN : M + N ≤ 50 := by omega
      have HCT := hide hct
      have l0 : wr.cell? ⟨g, j, none⟩ = some (.int .i64 (M : Int)) := by rw [hM]; exact hgr j _ (by simp [flOf_last])
      have hba := (Below.refl _ wr).alloc (Nat.le_refl _) (.cells #[.slice pa pl pc, .slice za zl zc, .int .i64 rk, .int .i64 rN, .slice ra rl rc] 80)
      have l1 := cell_over hba _ _ l0
      have t1 : (wr.alloc (.cells #[.slice pa pl pc, .slice za zl zc, .int .i64 rk, .int .i64 rN, .slice ra rl rc] 80)).cell? ⟨wr.heap.size, 1, none⟩ = some (.slice za zl zc) := by simp [go_sem]
      have hBa := hBw.trans (hba.mono hBw.size)
      have KM' := hide fun W (hW : Below (wr.alloc (.cells #[.slice pa pl pc, .slice za zl zc, .int .i64 rk, .int .i64 rN, .slice ra rl rc] 80)).heap.size (wr.alloc (.cells #[.slice pa pl pc, .slice za zl zc, .int .i64 rk, .int .i64 rN, .slice ra rl rc] 80)) W) => KM.out W (hBa.trans (hW.mono hBa.size))
      have hsz : w.heap.size + 1 ≤ wr.heap.size := by have := hB.size; simpa using this
      have HFJ : Hid ((intsV (flOf kf fs j))[j]? = some (.int .i64 (M : Int))) := by
        show _ = _
        rw [hM]
        simp [flOf_last]
      have hgn : wr.heap.size ≠ g := by omega
      clear hel hel2 f0 f1 f2 f3 f4 hbd hx hct hle hpl hzl hrk hrN hrl hN hM e1 e2 e3 hbo hown hB hBw hgr KM l0
      go_wp2_with fail
      have hst1 : Hid (∀ W, Below wr.heap.size wr W → W.ownsRow (w.heap.size + 1) 3 1 (.slice (some ⟨g, 0, none⟩) J1 cap) J1 (intsV (flOf kf fs j))) := fun W hW => own_overG HOWN.out hW
      have KM2 := hide (KM'.out _ (below_drewN (Below.refl _ _) 1))
      have HBA := hide hba
      have hwrap : Hid (IntKind.i64.wrap ((M : Int) + (N : Int)) = ((M + N : Nat) : Int)) := by
        show _ = _
        rw [IntWalk.i64_in _ (by omega)]
        omega
      clear KM' HGR m0 m1 m2 m3 m4
      go_region_held3 (fun W => W.cell? ⟨g, j, none⟩ = some (.int .i64 (M : Int)) ∧ W.cell? ⟨wr.heap.size, 1, none⟩ = some (.slice za zl zc)) (first | assumption | exact ⟨l1, t1⟩ | exact keepW2 (by assumption) hbp | exact keepW2 (by assumption) ((Below.refl _ _).alloc (Nat.le_refl _) _) | exact ⟨hkeep j _ HFJ.out, grow_cell hgr2 (by assumption : _ ∧ _).2 hgn⟩ | fail) (first | (go_at_call 30; refine (KM2.out).mono ?_; rintro e wp ⟨rfl, hbp⟩) | (refine step_appI rfl _ _ rfl (w.heap.size + 1) wp.heap.size g cap J1 (intsV (flOf kf fs j)) (IntKind.i64.wrap ((M : Int) + (N : Int))) rfl rfl (hst1.out _ (over_trans (over_trans HBA.out.drew hbp) ((Below.refl _ _).alloc (Nat.le_refl _) _))) (by simp [go_sem]) (by omega) (Nat.le_trans (Nat.le_trans hsz (over_trans HBA.out.drew hbp).size) ((Below.refl _ _).alloc (Nat.le_refl _) _).size) ?_; intro v2 W2 hown2 hgr2 hkeep))
      have hB2 : Below (w.heap.size + 1) (w.alloc (.cells #[.int .i64 m, .slice ga gn gc, .slice sa sn sc, .slice ya yn yc, .slice oa on oc, .slice va vn vc, .slice (some ⟨b, off, none⟩) fn fc, .slice ba bn bc] 31)) W2 := by
        have hs := hgr2.size
        have h1 := over_trans (over_trans (HBA.out.drew) hbp) ((Below.refl _ wp).alloc (Nat.le_refl _) (.cells #[.int .i64 (IntKind.i64.wrap ((M : Int) + (N : Int)))] 3))
        have h2 := HBB.out.trans (h1.mono hsz)
        exact ⟨hgr2.os.trans h2.os, hgr2.tape.trans h2.tape, hgr2.output.trans h2.output, Nat.le_trans h2.size hs, fun k hk => (hgr2.block k (by have := h1.size; omega) (fun e => by have := Option.some.inj e; omega)).trans (h2.block k hk)⟩
      have HF2 := hide (And.intro hown2 hB2)
      clear hown2 hgr2 hkeep hB2 hbp l1 t1 hba
      go_wp2_with fail
      refine ⟨⟨j + 1, by omega, by go_num, ?_, HF2.out.2⟩, by simp [intOf]; omega⟩
      have h1 := HF2.out.1
      rw [hwrap.out] at h1
      have h2 := HJ1.out
      rw [flOf_succ, HCT.out, ← h2]
      simpa [intsV] using h1
    · have hjE : j = fn := by omega
      subst hjE
      go_wp2_with fail
      go_ret
      have hE := HE.out
      have hJ := HJ1.out
      refine ⟨g, cap, ?_, by omega, hgl, ?_, HBW.out⟩
      · rw [← hE, ← hJ]; rfl
      · rw [← hE]
        exact HGR.out
end Go.Proofs.Ytpbnmmgocpobcaa.Ex
/- Who runs any program, anew. -/
namespace Go.Proofs.Ytpbnmmgocpobcaa.Ex
open Go.RowKit
set_option linter.unusedVariables false

def zerosA (n : Nat) : Array Value := (List.replicate n (Value.int .i64 0)).toArray
theorem makeI (n : Nat) (hn : n ≤ 100) (w : World) : (Instr.makeSlice 25 (.int .i64 n) (.int .i64 n)).run Try.prog w = .ok (.slice (some ⟨w.heap.size, 0, none⟩) n n) (w.alloc (.cells (zerosA n) 3)) := by
  obtain ⟨i, hi, hz, h1, h2⟩ := info_parts Try.infoI
  have := run_make (P := Try.prog) w 25 3 i (.int .i64 0) Try.underlying25 hi hz .i64 .i64 (n : Int) (n : Int) (by omega) (by omega) (by rw [h2]; omega) (by omega)
  rw [this, h1]
  simp only [Int.toNat_natCast, Nat.mul_one]
  have e : madeCells (Value.int .i64 0).cells n = zerosA n := by
    unfold zerosA
    apply Array.ext
    · simp [madeCells]
    · intro j h1 h2
      simp [madeCells, Value.cells, Nat.mod_one]
  rw [e]

def st0 (vn yn : Nat) : RSt := ⟨[], List.replicate vn 0, List.replicate yn 0, 0⟩
theorem st0_ok (vn yn F : Nat) : NumOk vn yn F (st0 vn yn) := by
  refine ⟨by simp [st0], by simp [st0], fun x hx => ?_, fun x hx => ?_, by simp [st0], by simp [st0]⟩
  · have := List.eq_of_mem_replicate hx
    subst this
    exact ⟨by omega, by omega⟩
  · have := List.eq_of_mem_replicate hx
    subst this
    simp [st0]

theorem RnG.new (B : Nat) (R : List Value) (w : World) (g : Nat) (fl : List Int) (vn yn : Nat) (hB : B ≤ w.heap.size) (hg : g < w.heap.size) (hr : RowAt (intsV fl) w g) :
    RnG B R w.heap.size (w.heap.size + 1) (w.heap.size + 1 + 1) g fl 0 (st0 vn yn) (.slice none 0 0) (((w.alloc (.cells (.slice none 0 0 :: .slice (some ⟨w.heap.size + 1, 0, none⟩) vn vn :: .slice (some ⟨w.heap.size + 1 + 1, 0, none⟩) yn yn :: .int .i64 0 :: .int .i64 0 :: .int .i64 0 :: R).toArray 48)).alloc (.cells (zerosA vn) 3)).alloc (.cells (zerosA yn) 3)) := by
  have b1 := (Below.refl _ w).alloc (Nat.le_refl _) (.cells (.slice none 0 0 :: .slice (some ⟨w.heap.size + 1, 0, none⟩) vn vn :: .slice (some ⟨w.heap.size + 1 + 1, 0, none⟩) yn yn :: .int .i64 0 :: .int .i64 0 :: .int .i64 0 :: R).toArray 48)
  have b2 := fun (W : World) (ob : Obj) => (Below.refl _ W).alloc (Nat.le_refl _) ob
  refine ⟨?_, ?_, ?_, ((hr.over b1).over (b2 _ _)).over (b2 _ _), World.ownsRow_nil _ _ _ _, fun j => by simp [go_sem], fun j => by simp [go_sem], fun j => by simp [go_sem], ⟨by omega, by omega, by omega, by omega, by omega, by omega⟩, ⟨by simp [Value.ownBlock], by simp [Value.ownBlock], by simp [Value.ownBlock], by simp [Value.ownBlock]⟩, ⟨hB, by omega, by omega⟩, ⟨by simp; omega, by simp, by simp, by simp; omega, by simp; omega⟩⟩
  · have := ((RowAt.newA (.slice none 0 0 :: .slice (some ⟨w.heap.size + 1, 0, none⟩) vn vn :: .slice (some ⟨w.heap.size + 1 + 1, 0, none⟩) yn yn :: .int .i64 0 :: .int .i64 0 :: .int .i64 0 :: R).toArray 48 w).over (b2 _ (.cells (zerosA vn) 3))).over (b2 _ (.cells (zerosA yn) 3))
    simpa [st0] using this
  · have := (RowAt.newA (zerosA vn) 3 (w.alloc (.cells (.slice none 0 0 :: .slice (some ⟨w.heap.size + 1, 0, none⟩) vn vn :: .slice (some ⟨w.heap.size + 1 + 1, 0, none⟩) yn yn :: .int .i64 0 :: .int .i64 0 :: .int .i64 0 :: R).toArray 48))).over (b2 _ (.cells (zerosA yn) 3))
    simpa [st0, zerosA, intsV] using this
  · have := RowAt.newA (zerosA yn) 3 ((w.alloc (.cells (.slice none 0 0 :: .slice (some ⟨w.heap.size + 1, 0, none⟩) vn vn :: .slice (some ⟨w.heap.size + 1 + 1, 0, none⟩) yn yn :: .int .i64 0 :: .int .i64 0 :: .int .i64 0 :: R).toArray 48)).alloc (.cells (zerosA vn) 3))
    simpa [st0, zerosA, intsV] using this

def NewRG (m : Int) (ga : Option Addr) (gn gc : Nat) (sa : Option Addr) (sn sc : Nat) (ya : Option Addr) (yn yc : Nat) (oa : Option Addr) (on oc : Nat) (va : Option Addr) (vn vc : Nat) (fa : Option Addr) (fn fc : Nat) (ba : Option Addr) (bn bc : Nat) (xa : Option Addr) (xn xc : Nat) (F : Nat) (kf : Nat) (fs : List FnD) (w : World) (e : Ending) (w' : World) : Prop :=
  ∃ br b1 b2 b3 c3, e = .returned (.pointer (some ⟨br, 0, none⟩)) ∧ RnG w.heap.size [.int .i64 m, .slice ga gn gc, .slice sa sn sc, .slice ya yn yc, .slice oa on oc, .slice va vn vc, .slice fa fn fc, .slice ba bn bc, .slice xa xn xc, .int .i64 (F : Int), .slice (some ⟨b3, 0, none⟩) (fs.length + 1) c3] br b1 b2 b3 (flOf kf fs fs.length) 0 (st0 vn yn) (.slice none 0 0) w' ∧ Below w.heap.size w w'

set_option maxHeartbeats 4000000 in
set_option maxRecDepth 100000 in
theorem newRunner_any (K kf : Nat) (m : Int) (ga : Option Addr) (gn gc : Nat) (sa : Option Addr) (sn sc : Nat) (ya : Option Addr) (yn yc : Nat) (oa : Option Addr) (on oc : Nat) (va : Option Addr) (vn vc : Nat) (fa : Option Addr) (fn fc : Nat) (ba : Option Addr) (bn bc : Nat) (xa : Option Addr) (xn xc : Nat) (F : Nat) (fs : List FnD) (w : World) (hf : FnsAt w K kf (.slice fa fn fc) fs) (hcnt : cntF kf fs ≤ 50) (hfn : fn ≤ 5) (hvn : vn ≤ 16) (hyn : yn ≤ 5) :
    Calls Try.prog 10 #[.agg #[.int .i64 m, .slice ga gn gc, .slice sa sn sc, .slice ya yn yc, .slice oa on oc, .slice va vn vc, .slice fa fn fc, .slice ba bn bc], .slice xa xn xc, .int .i64 (F : Int)] w (NewRG m ga gn gc sa sn sc ya yn yc oa on oc va vn vc fa fn fc ba bn bc xa xn xc F kf fs w) := by
  have hbel : Below w.heap.size w (w.alloc (.cells #[.int .i64 m, .slice ga gn gc, .slice sa sn sc, .slice ya yn yc, .slice oa on oc, .slice va vn vc, .slice fa fn fc, .slice ba bn bc] 31)) := (Below.refl _ w).alloc (Nat.le_refl _) _
  have K := hide fun W (hW : Below w.heap.size w W) => firsts_any K kf m ga gn gc sa sn sc ya yn yc oa on oc va vn vc fa fn fc ba bn bc fs W (hf.over hW) hcnt hfn
  have mk1 := makeI vn (by omega)
  have mk2 := makeI yn (by omega)
  have c0 : (w.alloc (.cells #[.int .i64 m, .slice ga gn gc, .slice sa sn sc, .slice ya yn yc, .slice oa on oc, .slice va vn vc, .slice fa fn fc, .slice ba bn bc] 31)).cell? ⟨w.heap.size, 0, none⟩ = some (.int .i64 m) := by simp [go_sem]
  have c1 : (w.alloc (.cells #[.int .i64 m, .slice ga gn gc, .slice sa sn sc, .slice ya yn yc, .slice oa on oc, .slice va vn vc, .slice fa fn fc, .slice ba bn bc] 31)).cell? ⟨w.heap.size, 1, none⟩ = some (.slice ga gn gc) := by simp [go_sem]
  have c2 : (w.alloc (.cells #[.int .i64 m, .slice ga gn gc, .slice sa sn sc, .slice ya yn yc, .slice oa on oc, .slice va vn vc, .slice fa fn fc, .slice ba bn bc] 31)).cell? ⟨w.heap.size, 2, none⟩ = some (.slice sa sn sc) := by simp [go_sem]
  have c3 : (w.alloc (.cells #[.int .i64 m, .slice ga gn gc, .slice sa sn sc, .slice ya yn yc, .slice oa on oc, .slice va vn vc, .slice fa fn fc, .slice ba bn bc] 31)).cell? ⟨w.heap.size, 3, none⟩ = some (.slice ya yn yc) := by simp [go_sem]
  have c4 : (w.alloc (.cells #[.int .i64 m, .slice ga gn gc, .slice sa sn sc, .slice ya yn yc, .slice oa on oc, .slice va vn vc, .slice fa fn fc, .slice ba bn bc] 31)).cell? ⟨w.heap.size, 4, none⟩ = some (.slice oa on oc) := by simp [go_sem]
  have c5 : (w.alloc (.cells #[.int .i64 m, .slice ga gn gc, .slice sa sn sc, .slice ya yn yc, .slice oa on oc, .slice va vn vc, .slice fa fn fc, .slice ba bn bc] 31)).cell? ⟨w.heap.size, 5, none⟩ = some (.slice va vn vc) := by simp [go_sem]
  have c6 : (w.alloc (.cells #[.int .i64 m, .slice ga gn gc, .slice sa sn sc, .slice ya yn yc, .slice oa on oc, .slice va vn vc, .slice fa fn fc, .slice ba bn bc] 31)).cell? ⟨w.heap.size, 6, none⟩ = some (.slice fa fn fc) := by simp [go_sem]
  have c7 : (w.alloc (.cells #[.int .i64 m, .slice ga gn gc, .slice sa sn sc, .slice ya yn yc, .slice oa on oc, .slice va vn vc, .slice fa fn fc, .slice ba bn bc] 31)).cell? ⟨w.heap.size, 7, none⟩ = some (.slice ba bn bc) := by simp [go_sem]
  have hr0 := Below.refl (w.alloc (.cells #[.int .i64 m, .slice ga gn gc, .slice sa sn sc, .slice ya yn yc, .slice oa on oc, .slice va vn vc, .slice fa fn fc, .slice ba bn bc] 31)).heap.size (w.alloc (.cells #[.int .i64 m, .slice ga gn gc, .slice sa sn sc, .slice ya yn yc, .slice oa on oc, .slice va vn vc, .slice fa fn fc, .slice ba bn bc] 31))
  have hbel1 := hbel.drew
  have KF := hide (K.out (w.alloc (.cells #[.int .i64 m, .slice ga gn gc, .slice sa sn sc, .slice ya yn yc, .slice oa on oc, .slice va vn vc, .slice fa fn fc, .slice ba bn bc] 31)).drew hbel1)
  clear K hf hcnt hfn
  go_enter Try.func10, Try.ntmps10
  go_wp2_with fail
  go_region_held3 (fun W => W.cell? ⟨w.heap.size, 0, none⟩ = some (.int .i64 m) ∧ W.cell? ⟨w.heap.size, 1, none⟩ = some (.slice ga gn gc) ∧ W.cell? ⟨w.heap.size, 2, none⟩ = some (.slice sa sn sc) ∧ W.cell? ⟨w.heap.size, 3, none⟩ = some (.slice ya yn yc) ∧ W.cell? ⟨w.heap.size, 4, none⟩ = some (.slice oa on oc) ∧ W.cell? ⟨w.heap.size, 5, none⟩ = some (.slice va vn vc) ∧ W.cell? ⟨w.heap.size, 6, none⟩ = some (.slice fa fn fc) ∧ W.cell? ⟨w.heap.size, 7, none⟩ = some (.slice ba bn bc) ∧ Below w.heap.size w W) (first | assumption | exact ⟨c0, c1, c2, c3, c4, c5, c6, c7, hbel1⟩ | exact held8b (by assumption) hbp | exact held8b (by assumption) ((Below.refl _ _).alloc (Nat.le_refl _) _) | fail) (first | (go_at_call 22; refine (KF.out).mono ?_; rintro e wp ⟨g, cap, rfl, hg, hgl, hgc, hbp⟩))
  have e3 := cell_over hbp _ _ c3
  have e5 := cell_over hbp _ _ c5
  have hlt := World.block_lt_of_cell? wp _ e3
  have hne : w.heap.size ≠ wp.heap.size := Nat.ne_of_lt hlt
  have hBp := hbel1.trans (hbp.mono hbel1.size)
  have HR := hide (RnG.new w.heap.size [.int .i64 m, .slice ga gn gc, .slice sa sn sc, .slice ya yn yc, .slice oa on oc, .slice va vn vc, .slice fa fn fc, .slice ba bn bc, .slice xa xn xc, .int .i64 (F : Int), .slice (some ⟨g, 0, none⟩) (fs.length + 1) cap] wp g (flOf kf fs fs.length) vn yn hBp.size hgl hgc)
  have HBP := hide hBp
  clear c0 c1 c2 c3 c4 c5 c6 c7 hr0 hbp hbel hbel1 hgc hBp KF
  go_wp2_with fail
  go_ret
  refine ⟨wp.heap.size, wp.heap.size + 1, wp.heap.size + 1 + 1, g, cap, rfl, ?_, ?_⟩
  · exact HR.out
  · have hs := HBP.out.size
    exact (((HBP.out).alloc (by omega) _).alloc (by simp; omega) _).alloc (by simp; omega) _
end Go.Proofs.Ytpbnmmgocpobcaa.Ex
