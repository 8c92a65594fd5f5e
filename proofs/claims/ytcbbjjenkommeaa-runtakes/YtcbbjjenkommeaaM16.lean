/- Calls. -/
import Derived.Test.YtcbbjjenkommeaaM15
namespace Go.Proofs.Ytcbbjjenkommeaa.Ex
open Go.RowKit
set_option linter.unusedVariables false
theorem Try.infoI : (Try.prog.info? 3).map (fun i => (i.zero, i.size, i.bytes)) = some (some (.int .i64 0), 1, 8) := by kernel_rfl
theorem own_overG {w w' : World} {B e s : Nat} {v : Value} {n : Nat} {xs : List Value} (h : w.ownsRow B e s v n xs) (hb : Below w.heap.size w w') : w'.ownsRow B e s v n xs :=
  h.kept (row := none) ⟨hb.os, hb.tape, hb.output, hb.size, fun k hk _ => hb.block k hk⟩ (by cases hv : v.ownBlock <;> simp)
theorem setAll_length (vs : List Int) : ∀ (l : List (Int × Int)), (setAll vs l).length = vs.length := by
  intro l
  induction l generalizing vs with
  | nil => rfl
  | cons a l ih => exact (ih (vs.set a.1.toNat a.2)).trans (by simp)
theorem setAll_in {vs : List Int} (hv : ∀ x ∈ vs, I32 x) : ∀ (l : List (Int × Int)), (∀ q ∈ l, I32 q.2) → ∀ x ∈ setAll vs l, I32 x := by
  intro l
  induction l generalizing vs with
  | nil => intro _; exact hv
  | cons a l ih =>
    intro hl
    refine ih (vs := vs.set a.1.toNat a.2) (fun x hx => ?_) (fun q hq => hl q (List.mem_cons_of_mem _ hq))
    rcases mem_set hx with rfl | hx
    · exact hl a (List.mem_cons_self ..)
    · exact hv x hx
theorem keep5h {w w' : World} {r b c e j0 j1 j2 j3 j4 : Nat} {v0 v1 v2 v3 v4 : Value} (h : w.cell? ⟨b, j0, none⟩ = some v0 ∧ w.cell? ⟨c, j1, none⟩ = some v1 ∧ w.cell? ⟨e, j2, none⟩ = some v2 ∧ w.cell? ⟨e, j3, none⟩ = some v3 ∧ w.cell? ⟨e, j4, none⟩ = some v4) (hg : w.grownBy w' (some r)) (hb : b ≠ r) (hc : c ≠ r) (he : e ≠ r) :
    w'.cell? ⟨b, j0, none⟩ = some v0 ∧ w'.cell? ⟨c, j1, none⟩ = some v1 ∧ w'.cell? ⟨e, j2, none⟩ = some v2 ∧ w'.cell? ⟨e, j3, none⟩ = some v3 ∧ w'.cell? ⟨e, j4, none⟩ = some v4 := ⟨grow_cellR hg h.1 hb, grow_cellR hg h.2.1 hc, grow_cellR hg h.2.2.1 he, grow_cellR hg h.2.2.2.1 he, grow_cellR hg h.2.2.2.2 he⟩
theorem cell_over' {w w' : World} {B : Nat} (hb : Below B w w') (hB : w.heap.size ≤ B) {a : Addr} {u : Value} (h : w.cell? a = some u) : w'.cell? a = some u := by
  rw [hb.cell (Nat.lt_of_lt_of_le (World.block_lt_of_cell? w _ h) hB)]
  exact h
set_option maxHeartbeats 4000000 in
set_option maxRecDepth 100000 in
theorem callR (m : Int) (ga : Option Addr) (gn gc : Nat) (sa : Option Addr) (sn sc : Nat) (ya : Option Addr) (yn yc : Nat) (oa : Option Addr) (on oc : Nat) (va : Option Addr) (vn vc : Nat) (fn fc : Nat) (ba : Option Addr) (bn bc : Nat) (xa : Option Addr) (xn xc : Nat) (F fln c3 : Nat) (br b1 b2 b3 : Nat) (fl : List Int) {I : ObsI} (dp : Nat) (d : D) (K kf g : Nat) (ps : List Int) (asl : List D) (res : D) (fst : Int) (n c fb foff : Nat) (ek ex : Int) (pa : Option Addr) (pl pc : Nat) (aa : Option Addr) (al ac : Nat) (ta : Option Addr) (tl tc : Nat) (ea : Option Addr) (el ec : Nat) (a : Int) (qa : Option Addr) (ql qc : Nat) (za : Option Addr) (zl zc : Nat) (rk rN : Int) (ra : Option Addr) (rl rc : Nat) (w0 : World) (rr : RSt → Bool × RSt)
    (hc : c < fn) (hn : n < vn) (hvn : vn ≤ 16) (hfn : fn ≤ 5)
    (f0 : w0.cell? ⟨fb, foff + c * 5, none⟩ = some (.slice qa ql qc)) (f1 : w0.cell? ⟨fb, foff + c * 5 + 1, none⟩ = some (.slice za zl zc)) (f2 : w0.cell? ⟨fb, foff + c * 5 + 2, none⟩ = some (.int .i64 rk)) (f3 : w0.cell? ⟨fb, foff + c * 5 + 3, none⟩ = some (.int .i64 rN)) (f4 : w0.cell? ⟨fb, foff + c * 5 + 4, none⟩ = some (.slice ra rl rc))
    (hps : IsInts w0 (.slice qa ql qc) ps) (hpb : ∀ p ∈ ps, 0 ≤ p ∧ p < (vn : Int)) (hpl : ps.length = asl.length) (has : XS 3 (RX w0 K) w0 (.slice aa al ac) asl) (hok : ∀ x ∈ asl, okX vn K x) (hal : asl.length ≤ 5)
    (hres : RX w0 K [.int .i64 rk, .int .i64 rN, .slice ra rl rc] res) (hro : okX vn K res) (hfl : fl[c]? = some fst) (hfll : fl.length = fln)
    (HS : Hid (∀ st ev W, RnG I w0.heap.size [.int .i64 m, .slice ga gn gc, .slice sa sn sc, .slice ya yn yc, .slice oa on oc, .slice va vn vc, .slice (some ⟨fb, foff, none⟩) fn fc, .slice ba bn bc, .slice xa xn xc, .int .i64 (F : Int), .slice (some ⟨b3, 0, none⟩) fln c3] br b1 b2 b3 fl dp st ev W → Below w0.heap.size w0 W → NumOk vn yn F st → 3 * (F - st.steps) + 1 ≤ g → Calls Try.prog 70 #[.pointer (some ⟨br, 0, none⟩), .slice za zl zc, .int .i64 fst] W (RanR I m ga gn gc sa sn sc ya yn yc oa on oc va vn vc (some ⟨fb, foff, none⟩) fn fc ba bn bc xa xn xc F fln c3 w0.heap.size br b1 b2 b3 fl dp (rr st) ev W)))
    (KP : Hid (∀ st ev W, RnG I w0.heap.size [.int .i64 m, .slice ga gn gc, .slice sa sn sc, .slice ya yn yc, .slice oa on oc, .slice va vn vc, .slice (some ⟨fb, foff, none⟩) fn fc, .slice ba bn bc, .slice xa xn xc, .int .i64 (F : Int), .slice (some ⟨b3, 0, none⟩) fln c3] br b1 b2 b3 fl dp st ev W → Below w0.heap.size w0 W → Calls Try.prog 103 #[.pointer (some ⟨br, 0, none⟩), .int .i64 3, .agg #[.int .i64 2, .int .i64 (n : Int), .int .i64 (c : Int), .int .i64 ek, .int .i64 ex, .slice pa pl pc, .slice aa al ac, .slice ta tl tc, .slice ea el ec], .int .i64 a] W (PassP I w0.heap.size [.int .i64 m, .slice ga gn gc, .slice sa sn sc, .slice ya yn yc, .slice oa on oc, .slice va vn vc, .slice (some ⟨fb, foff, none⟩) fn fc, .slice ba bn bc, .slice xa xn xc, .int .i64 (F : Int), .slice (some ⟨b3, 0, none⟩) fln c3] br b1 b2 b3 fl dp 3 d (passR I.ob 3 a dp d st) ev W)))
    (st : RSt) (ev : Ow) (w : World) (h : RnG I w0.heap.size [.int .i64 m, .slice ga gn gc, .slice sa sn sc, .slice ya yn yc, .slice oa on oc, .slice va vn vc, .slice (some ⟨fb, foff, none⟩) fn fc, .slice ba bn bc, .slice xa xn xc, .int .i64 (F : Int), .slice (some ⟨b3, 0, none⟩) fln c3] br b1 b2 b3 fl dp st ev w) (hB0 : Below w0.heap.size w0 w) (hno : NumOk vn yn F st) (hg : 3 * (F - st.steps) + 1 ≤ g) :
    Calls Try.prog 131 #[.pointer (some ⟨br, 0, none⟩), .agg #[.int .i64 2, .int .i64 (n : Int), .int .i64 (c : Int), .int .i64 ek, .int .i64 ex, .slice pa pl pc, .slice aa al ac, .slice ta tl tc, .slice ea el ec], .int .i64 a] w (RanR I m ga gn gc sa sn sc ya yn yc oa on oc va vn vc (some ⟨fb, foff, none⟩) fn fc ba bn bc xa xn xc F fln c3 w0.heap.size br b1 b2 b3 fl dp (contR (rr { st with vars := setAll st.vars (ps.zip (asl.map (valX st.vars K))) }) (fun st1 => contR (passR I.ob 3 a dp d st1) (fun st' => (true, st'.setv (n : Int) (valX st'.vars K res))))) ev w) := by
  have hbel : Below w.heap.size w (w.alloc (.cells #[.int .i64 2, .int .i64 (n : Int), .int .i64 (c : Int), .int .i64 ek, .int .i64 ex, .slice pa pl pc, .slice aa al ac, .slice ta tl tc, .slice ea el ec] 78)) := (Below.refl _ w).alloc (Nat.le_refl _) _
  have H0 := hide h
  have HB0 := hide hB0
  have hB2 := hB0.trans (hbel.mono hB0.size)
  have s1 : (w.alloc (.cells #[.int .i64 2, .int .i64 (n : Int), .int .i64 (c : Int), .int .i64 ek, .int .i64 ex, .slice pa pl pc, .slice aa al ac, .slice ta tl tc, .slice ea el ec] 78)).cell? ⟨w.heap.size, 1, none⟩ = some (.int .i64 (n : Int)) := by simp [go_sem]
  have s2 : (w.alloc (.cells #[.int .i64 2, .int .i64 (n : Int), .int .i64 (c : Int), .int .i64 ek, .int .i64 ex, .slice pa pl pc, .slice aa al ac, .slice ta tl tc, .slice ea el ec] 78)).cell? ⟨w.heap.size, 2, none⟩ = some (.int .i64 (c : Int)) := by simp [go_sem]
  have s6 : (w.alloc (.cells #[.int .i64 2, .int .i64 (n : Int), .int .i64 (c : Int), .int .i64 ek, .int .i64 ex, .slice pa pl pc, .slice aa al ac, .slice ta tl tc, .slice ea el ec] 78)).cell? ⟨w.heap.size, 6, none⟩ = some (.slice aa al ac) := by simp [go_sem]
  have q12 := cell_over hbel _ _ (h.row 12 _ rfl)
  have g0 := cell_over hB2 _ _ f0
  have g1 := cell_over hB2 _ _ f1
  have g2 := cell_over hB2 _ _ f2
  have g3 := cell_over hB2 _ _ f3
  have g4 := cell_over hB2 _ _ f4
  have hcn : (c : Int) < (fn : Int) := by omega
  have hlr := h.hi.1
  clear f0 f1 f2 f3 f4
  have hbz := (Below.refl _ (w.alloc (.cells #[.int .i64 2, .int .i64 (n : Int), .int .i64 (c : Int), .int .i64 ek, .int .i64 ex, .slice pa pl pc, .slice aa al ac, .slice ta tl tc, .slice ea el ec] 78))).alloc (Nat.le_refl _) (.cells #[.slice none 0 0, .slice none 0 0, .int .i64 0, .int .i64 0, .slice none 0 0] 133)
  have q12z := cell_over hbz _ _ q12
  have s2z := cell_over hbz _ _ s2
  have g0z := cell_over hbz _ _ g0
  have g1z := cell_over hbz _ _ g1
  have g2z := cell_over hbz _ _ g2
  have g3z := cell_over hbz _ _ g3
  have g4z := cell_over hbz _ _ g4
  have hbA : Below w.heap.size w (((w.alloc (.cells #[.int .i64 2, .int .i64 (n : Int), .int .i64 (c : Int), .int .i64 ek, .int .i64 ex, .slice pa pl pc, .slice aa al ac, .slice ta tl tc, .slice ea el ec] 78)).alloc (.cells #[.slice qa ql qc, .slice za zl zc, .int .i64 rk, .int .i64 rN, .slice ra rl rc] 133)).drew) := (hbel.alloc (by simp) _).drew
  have HBA := hide hbA
  have p0 : (((w.alloc (.cells #[.int .i64 2, .int .i64 (n : Int), .int .i64 (c : Int), .int .i64 ek, .int .i64 ex, .slice pa pl pc, .slice aa al ac, .slice ta tl tc, .slice ea el ec] 78)).alloc (.cells #[.slice qa ql qc, .slice za zl zc, .int .i64 rk, .int .i64 rN, .slice ra rl rc] 133)).drew).cell? ⟨w.heap.size + 1, 0, none⟩ = some (.slice qa ql qc) := by simp [go_sem]
  have p1 : (((w.alloc (.cells #[.int .i64 2, .int .i64 (n : Int), .int .i64 (c : Int), .int .i64 ek, .int .i64 ex, .slice pa pl pc, .slice aa al ac, .slice ta tl tc, .slice ea el ec] 78)).alloc (.cells #[.slice qa ql qc, .slice za zl zc, .int .i64 rk, .int .i64 rN, .slice ra rl rc] 133)).drew).cell? ⟨w.heap.size + 1, 1, none⟩ = some (.slice za zl zc) := by simp [go_sem]
  have p2 : (((w.alloc (.cells #[.int .i64 2, .int .i64 (n : Int), .int .i64 (c : Int), .int .i64 ek, .int .i64 ex, .slice pa pl pc, .slice aa al ac, .slice ta tl tc, .slice ea el ec] 78)).alloc (.cells #[.slice qa ql qc, .slice za zl zc, .int .i64 rk, .int .i64 rN, .slice ra rl rc] 133)).drew).cell? ⟨w.heap.size + 1, 2, none⟩ = some (.int .i64 rk) := by simp [go_sem]
  have p3 : (((w.alloc (.cells #[.int .i64 2, .int .i64 (n : Int), .int .i64 (c : Int), .int .i64 ek, .int .i64 ex, .slice pa pl pc, .slice aa al ac, .slice ta tl tc, .slice ea el ec] 78)).alloc (.cells #[.slice qa ql qc, .slice za zl zc, .int .i64 rk, .int .i64 rN, .slice ra rl rc] 133)).drew).cell? ⟨w.heap.size + 1, 3, none⟩ = some (.int .i64 rN) := by simp [go_sem]
  have p4 : (((w.alloc (.cells #[.int .i64 2, .int .i64 (n : Int), .int .i64 (c : Int), .int .i64 ek, .int .i64 ex, .slice pa pl pc, .slice aa al ac, .slice ta tl tc, .slice ea el ec] 78)).alloc (.cells #[.slice qa ql qc, .slice za zl zc, .int .i64 rk, .int .i64 rN, .slice ra rl rc] 133)).drew).cell? ⟨w.heap.size + 1, 4, none⟩ = some (.slice ra rl rc) := by simp [go_sem]
  have r1 : (((w.alloc (.cells #[.int .i64 2, .int .i64 (n : Int), .int .i64 (c : Int), .int .i64 ek, .int .i64 ex, .slice pa pl pc, .slice aa al ac, .slice ta tl tc, .slice ea el ec] 78)).alloc (.cells #[.slice qa ql qc, .slice za zl zc, .int .i64 rk, .int .i64 rN, .slice ra rl rc] 133)).drew).cell? ⟨w.heap.size, 1, none⟩ = some (.int .i64 (n : Int)) := by simp [go_sem]
  have r2 : (((w.alloc (.cells #[.int .i64 2, .int .i64 (n : Int), .int .i64 (c : Int), .int .i64 ek, .int .i64 ex, .slice pa pl pc, .slice aa al ac, .slice ta tl tc, .slice ea el ec] 78)).alloc (.cells #[.slice qa ql qc, .slice za zl zc, .int .i64 rk, .int .i64 rN, .slice ra rl rc] 133)).drew).cell? ⟨w.heap.size, 2, none⟩ = some (.int .i64 (c : Int)) := by simp [go_sem]
  have r6 : (((w.alloc (.cells #[.int .i64 2, .int .i64 (n : Int), .int .i64 (c : Int), .int .i64 ek, .int .i64 ex, .slice pa pl pc, .slice aa al ac, .slice ta tl tc, .slice ea el ec] 78)).alloc (.cells #[.slice qa ql qc, .slice za zl zc, .int .i64 rk, .int .i64 rN, .slice ra rl rc] 133)).drew).cell? ⟨w.heap.size, 6, none⟩ = some (.slice aa al ac) := by simp [go_sem]
  have hszA : (((w.alloc (.cells #[.int .i64 2, .int .i64 (n : Int), .int .i64 (c : Int), .int .i64 ek, .int .i64 ex, .slice pa pl pc, .slice aa al ac, .slice ta tl tc, .slice ea el ec] 78)).alloc (.cells #[.slice qa ql qc, .slice za zl zc, .int .i64 rk, .int .i64 rN, .slice ra rl rc] 133)).drew).heap.size = w.heap.size + 2 := by simp
  have HP := hide (And.intro p0 (And.intro p1 (And.intro p2 (And.intro p3 (And.intro p4 (And.intro r1 r2))))))
  have HSZ := hide hszA
  have hrw : RowAt [.int .i64 2, .int .i64 (n : Int), .int .i64 (c : Int), .int .i64 ek, .int .i64 ex, .slice pa pl pc, .slice aa al ac, .slice ta tl tc, .slice ea el ec] (((w.alloc (.cells #[.int .i64 2, .int .i64 (n : Int), .int .i64 (c : Int), .int .i64 ek, .int .i64 ex, .slice pa pl pc, .slice aa al ac, .slice ta tl tc, .slice ea el ec] 78)).alloc (.cells #[.slice qa ql qc, .slice za zl zc, .int .i64 rk, .int .i64 rN, .slice ra rl rc] 133)).drew) w.heap.size := ((RowAt.newA #[.int .i64 2, .int .i64 (n : Int), .int .i64 (c : Int), .int .i64 ek, .int .i64 ex, .slice pa pl pc, .slice aa al ac, .slice ta tl tc, .slice ea el ec] 78 w).over ((Below.refl _ _).alloc (Nat.le_refl _) _)).drew
  have HRW := hide hrw
  clear hrw
  have hali : al = asl.length := by obtain ⟨-, a, c, he, -⟩ := has; injection he
  have HAL := hide hali
  have hal2 : al ≤ 5 := by rw [hali]; exact hal
  have HAS := hide has
  have HOK := hide hok
  have HNO := hide hno
  have HPS := hide hps
  have HPB := hide hpb
  have HPL := hide hpl
  have HRES := hide hres
  have HRO := hide hro
  have HFL := hide hfl
  have HFLL := hide hfll
  have HG := hide hg
  obtain ⟨i0, hi, hz0, hz1, hz2⟩ := info_parts Try.infoI
  have hst0 : Hid ((((w.alloc (.cells #[.int .i64 2, .int .i64 (n : Int), .int .i64 (c : Int), .int .i64 ek, .int .i64 ex, .slice pa pl pc, .slice aa al ac, .slice ta tl tc, .slice ea el ec] 78)).alloc (.cells #[.slice qa ql qc, .slice za zl zc, .int .i64 rk, .int .i64 rN, .slice ra rl rc] 133)).drew).ownsRow (w.heap.size + 2) 3 1 (.slice none 0 0) 0 []) := World.ownsRow_nil _ _ _ _
  clear hpl hali hal hps hpb hres hro hfl hfll has hok hno hB0 hszA h p0 p1 p2 p3 p4 r1 r2 hg
  go_enter Try.func131, Try.ntmps131
  go_wp2_with fail
  go_region
  go_wp2_with fail
  obtain ⟨WX, hWX⟩ : ∃ q, q = (((w.alloc (.cells #[.int .i64 2, .int .i64 (n : Int), .int .i64 (c : Int), .int .i64 ek, .int .i64 ex, .slice pa pl pc, .slice aa al ac, .slice ta tl tc, .slice ea el ec] 78)).alloc (.cells #[.slice qa ql qc, .slice za zl zc, .int .i64 rk, .int .i64 rN, .slice ra rl rc] 133)).drew) := ⟨_, rfl⟩
  rw [← hWX] at HBA HP HSZ HRW hst0 r6 hbA ⊢
  clear q12 q12z s1 s2 s6 s2z g0 g0z g1 g1z g2 g2z g3 g3z g4 g4z hbz hbel hB2 hWX hcn
  go_loopw [8, 25] (fun v i wr => ∃ j : Nat, j ≤ al ∧ i = .int .i64 j ∧ wr.ownsRow (w.heap.size + 2) 3 1 v j (intsV ((asl.take j).map (valX st.vars K))) ∧ Below (w.heap.size + 2) WX wr) (fun _ i _ => al - (intOf i).toNat)
  case atStart => exact ⟨0, Nat.zero_le _, rfl, hst0.out, Below.refl _ _⟩
  case round =>
    obtain ⟨j, hj, rfl, hown, hB⟩ := hrel
    have hBw : Below w.heap.size w wr := hbA.trans (hB.mono (by omega))
    have hB0r : Below w0.heap.size w0 wr := HB0.out.trans (hBw.mono HB0.out.size)
    have HOWN := hide hown
    have HB := hide hB
    have HBW := hide hBw
    by_cases hjl : j < al
    · obtain ⟨hal0, aa', ac', hae, hel⟩ := HAS.out
      injection hae with e1 e2 e3
      have hjd : j < asl.length := by omega
      obtain ⟨eb, eoff, heb, hel2⟩ := hel (by intro hq; rw [hq] at hjd; simp at hjd)
      obtain ⟨cs, hcl, hcs, hrx⟩ := hel2 j asl[j] (List.getElem?_eq_getElem hjd)
      have e1' := e1.trans heb
      subst e1'
      obtain ⟨k0, n0, x0, l0, c0, rfl⟩ : ∃ k0 n0 x0 l0 c0, cs = [.int .i64 k0, .int .i64 n0, .slice x0 l0 c0] := by
        obtain ⟨a, c, hf⟩ := hrx.form
        exact ⟨_, _, _, _, _, hf⟩
      have m0 : wr.cell? ⟨eb, eoff + j * 3, none⟩ = _ := cell_over hB0r _ _ (hcs 0 _ rfl)
      have m1 := cell_over hB0r _ _ (hcs 1 _ rfl)
      have m2 := cell_over hB0r _ _ (hcs 2 _ rfl)
      have hba := (Below.refl _ wr).alloc (Nat.le_refl _) (.cells #[.int .i64 k0, .int .i64 n0, .slice x0 l0 c0] 24)
      have hBa := hBw.trans (hba.mono hBw.size)
      have hB0a := hB0r.trans (hba.mono hB0r.size)
      have hno := HNO.out
      have KV := hide (valueR_any m ga gn gc sa sn sc ya yn yc oa on oc va vn vc (some ⟨fb, foff, none⟩) fn fc ba bn bc xa xn xc F fln c3 w0.heap.size br b1 b2 b3 fl dp st ev K _ asl[j] (wr.alloc (.cells #[.int .i64 k0, .int .i64 n0, .slice x0 l0 c0] 24)) (H0.out.over hBa) (hrx.over hB0a) (by rw [hno.vl]; exact HOK.out _ (List.getElem_mem hjd)) hno.i32)
      have htk : (asl.take (j + 1)).map (valX st.vars K) = (asl.take j).map (valX st.vars K) ++ [valX st.vars K asl[j]] := by rw [List.take_succ_eq_append_getElem hjd, List.map_append]; rfl
      obtain ⟨x, hx⟩ : ∃ x, x = valX st.vars K asl[j] := ⟨_, rfl⟩
      rw [← hx] at KV htk
      have HTK := hide htk
      have hs2 : w.heap.size + 2 ≤ wr.heap.size := by rw [← HSZ.out]; exact hB.size
      have hownB := own_overG hown hba
      clear hel hel2 hcs hcl hrx e1 e2 e3 heb hno htk hx hown hBa hB0a
      go_wp2_with fail
      refine (KV.out).mono ?_
      rintro e w2 ⟨rfl, hb2⟩
      have hsz2 : w.heap.size + 2 ≤ w2.heap.size := Nat.le_trans hs2 (Nat.le_trans hba.size hb2.size)
      have hb3 := (Below.refl _ w2).alloc (Nat.le_refl _) (.cells #[.int .i64 x] 3)
      have hownC := own_overG (own_overG hownB hb2) hb3
      have hB3 := over_trans (over_trans hba hb2) hb3
      have HN := hide (RowAt.newA #[.int .i64 x] 3 w2)
      have hs3 : w.heap.size + 2 ≤ (w2.alloc (.cells #[.int .i64 x] 3)).heap.size := Nat.le_trans hsz2 hb3.size
      clear KV hba hb2 hb3 hownB m0 m1 m2
      go_wp2_with (at_builtin; refine wpList_append_own _ rfl _ _ 25 rfl (w.heap.size + 2) 3 i0 (.int .i64 0) 1 8 Try.underlying25 hi hz0 hz1 hz2 rfl (by decide) _ _ _ rfl hownC ⟨w2.heap.size, 0, none⟩ 1 1 [.int .i64 x] rfl rfl (fun jj u hu => by rw [Addr.add_lit, Nat.zero_add]; exact HN.out jj u hu) (by simp [Value.oneCell']) (by unfold maxLen; omega) (by omega) hs3 ?_)
      intro v3 w3 hown3 hgr3 _
      have hbl3 := below_grown hownC hgr3 hs3
      have HF := hide (And.intro hown3 ((HB.out.trans (hB3.mono hs2)).trans hbl3))
      clear hownC hown3 hgr3 hbl3 hB3
      go_wp2_with fail
      refine ⟨⟨j + 1, by omega, by go_num, ?_, HF.out.2⟩, by simp [intOf]; omega⟩
      have := HF.out.1
      rw [HTK.out]
      simpa [intsV] using this
    · have hjE : j = al := by omega
      subst hjE
      have htl : asl.take j = asl := List.take_of_length_le (by have := HAL.out; omega)
      rw [htl] at HOWN
      obtain ⟨ao, cap, hu8, hao⟩ : ∃ ao cap, u8 = .slice ao j cap ∧ (0 < j → ∃ g, ao = some ⟨g, 0, none⟩ ∧ w.heap.size + 2 ≤ g ∧ RowAt (intsV (asl.map (valX st.vars K))) wr g) := by
        rcases HOWN.out.2 with ⟨h1, h2⟩ | ⟨g, cap, cur, h1, h2, h3, h4, h5, h6, h7⟩
        · exact ⟨none, 0, by rw [h1, h2], fun hz => by omega⟩
        · refine ⟨_, cap, h1, fun _ => ⟨g, rfl, h2, fun jj u hu => ?_⟩⟩
          have := HOWN.out.cells (g := g) (by rw [h1]; rfl) jj u hu
          rwa [Addr.add_lit, Nat.zero_add] at this
      subst hu8
      have HAO := hide hao
      obtain ⟨P0, P1, P2, P3, P4, P5, P6⟩ := HP.out
      have pw0 := cell_over' HB.out (by rw [HSZ.out]; exact Nat.le_refl _) P0
      have HPW := hide (And.intro (cell_over' HB.out (by rw [HSZ.out]; exact Nat.le_refl _) P1) (And.intro (cell_over' HB.out (by rw [HSZ.out]; exact Nat.le_refl _) P2) (And.intro (cell_over' HB.out (by rw [HSZ.out]; exact Nat.le_refl _) P3) (And.intro (cell_over' HB.out (by rw [HSZ.out]; exact Nat.le_refl _) P4) (And.intro (cell_over' HB.out (by rw [HSZ.out]; exact Nat.le_refl _) P5) (cell_over' HB.out (by rw [HSZ.out]; exact Nat.le_refl _) P6))))))
      have hrw1 : RowAt [.int .i64 2, .int .i64 (n : Int), .int .i64 (c : Int), .int .i64 ek, .int .i64 ex, .slice pa pl pc, .slice aa j ac, .slice ta tl tc, .slice ea el ec] wr w.heap.size := fun jj u hu => cell_over' HB.out (by rw [HSZ.out]; exact Nat.le_refl _) (HRW.out jj u hu)
      have HRW1 := hide hrw1
      clear hrw1
      have hqp : ql = ps.length := by obtain ⟨a, c, he, -⟩ := HPS.out; injection he
      have hqj : ql = j := by have := HPL.out; have := HAL.out; omega
      have HQP := hide hqp
      have HQJ := hide hqj
      have hq5 : ql ≤ 5 := by omega
      obtain ⟨xs, hxs⟩ : ∃ xs, xs = asl.map (valX st.vars K) := ⟨_, rfl⟩
      have hxl : xs.length = j := by rw [hxs]; simp; exact HAL.out.symm
      have hxi : ∀ x ∈ xs, I32 x := by
        intro x hx
        rw [hxs] at hx
        obtain ⟨y, hy, rfl⟩ := List.mem_map.1 hx
        exact valX_in HNO.out.i32 K y (by rw [HNO.out.vl]; exact HOK.out y hy)
      rw [← hxs] at HAO
      have HXS := hide hxs
      have HXL := hide hxl
      have HXI := hide hxi
      have HST2 : Hid (RnG I w0.heap.size [.int .i64 m, .slice ga gn gc, .slice sa sn sc, .slice ya yn yc, .slice oa on oc, .slice va vn vc, .slice (some ⟨fb, foff, none⟩) fn fc, .slice ba bn bc, .slice xa xn xc, .int .i64 (F : Int), .slice (some ⟨b3, 0, none⟩) fln c3] br b1 b2 b3 fl dp ({ st with vars := setAll st.vars ((ps.zip xs).take 0) }) ev wr ∧ Fr br b1 b2 ev ev wr wr) := ⟨by simpa [setAll] using H0.out.over hBw, Fr.refl _ _ _ _ _⟩
      clear hjl hB hBw hB0r hbA hown htl hao P0 P1 P2 P3 P4 P5 P6 hqp hqj hxs hxl hxi HOWN hst0 r6
      obtain ⟨w1, hw1⟩ : ∃ q, q = wr := ⟨_, rfl⟩
      rw [← hw1] at pw0 HAO HPW HRW1 HST2 HB HBW ⊢
      clear hw1
      go_wp2_with fail
      go_loopw [39] (fun i wq => ∃ q : Nat, q ≤ ql ∧ i = .int .i64 q ∧ RnG I w0.heap.size [.int .i64 m, .slice ga gn gc, .slice sa sn sc, .slice ya yn yc, .slice oa on oc, .slice va vn vc, .slice (some ⟨fb, foff, none⟩) fn fc, .slice ba bn bc, .slice xa xn xc, .int .i64 (F : Int), .slice (some ⟨b3, 0, none⟩) fln c3] br b1 b2 b3 fl dp ({ st with vars := setAll st.vars ((ps.zip xs).take q) }) ev wq ∧ Fr br b1 b2 ev ev w1 wq) (fun i _ => ql - (intOf i).toNat)
      case atStart => exact ⟨0, Nat.zero_le _, rfl, HST2.out⟩
      case round =>
        obtain ⟨q, hq, rfl, hr, hf⟩ := hrel
        have HR := hide hr
        have HF := hide hf
        have hfw : Fr br b1 b2 ev ev w wr := (Fr.of_below HBW.out).trans hf
        have hB0q : Below w0.heap.size w0 wr := HB0.out.trans (H0.out.below hfw)
        have hvl : (setAll st.vars ((ps.zip xs).take q)).length = vn := by rw [setAll_length]; exact HNO.out.vl
        by_cases hql : q < ql
        · obtain ⟨qa', qc', hqe, hqel⟩ := HPS.out
          injection hqe with e1 e2 e3
          have hqd : q < ps.length := by omega
          have hqx : q < xs.length := by have := HXL.out; have := HQJ.out; omega
          obtain ⟨pb, poff, hpb, hqel2⟩ := hqel (by intro hz; rw [hz] at hqd; simp at hqd)
          have e1' := e1.trans hpb
          subst e1'
          have m0 := cell_over hB0q _ _ (hqel2 q hqd)
          obtain ⟨pv0, pv1⟩ := HPB.out ps[q] (List.getElem_mem hqd)
          have htk : setAll st.vars ((ps.zip xs).take (q + 1)) = (setAll st.vars ((ps.zip xs).take q)).set ps[q].toNat xs[q] := by
            have hz : q < (ps.zip xs).length := by rw [List.length_zip]; omega
            rw [List.take_succ_eq_append_getElem hz]
            simp [setAll, List.foldl_append]
          obtain ⟨g, hg1, hg2, hg3⟩ := HAO.out (by have := HQJ.out; omega)
          have m1 := H0.out.box hf (by omega : w.heap.size ≤ g) (hg3 q (.int .i64 xs[q]) (by simp [hqx]))
          subst hg1
          obtain ⟨x, hx⟩ : ∃ x, x = xs[q] := ⟨_, rfl⟩
          obtain ⟨pz, hpz⟩ : ∃ p, p = ps[q] := ⟨_, rfl⟩
          rw [← hx] at m1 htk
          rw [← hpz] at m0 pv0 pv1 htk
          obtain ⟨pn, rfl⟩ := Int.eq_ofNat_of_zero_le pv0
          rw [Int.toNat_natCast] at htk
          have hpn : pn < vn := by omega
          have m2 := hr.row 1 _ rfl
          have m3 : wr.cell? ⟨b1, pn, none⟩ = some (.int .i64 ((setAll st.vars ((ps.zip xs).take q))[pn]'(by rw [hvl]; exact hpn))) := hr.vars pn _ (by simp [hvl, hpn])
          have m4 := hr.z1 pn
          have m5 := hr.hi.2.1
          have m6 := hr.hi.1
          have hset := hr.setVar (pn : Int) x (by show pn < (setAll st.vars ((ps.zip xs).take q)).length; rw [hvl]; exact hpn)
          have HSET : Hid (RnG I w0.heap.size [.int .i64 m, .slice ga gn gc, .slice sa sn sc, .slice ya yn yc, .slice oa on oc, .slice va vn vc, .slice (some ⟨fb, foff, none⟩) fn fc, .slice ba bn bc, .slice xa xn xc, .int .i64 (F : Int), .slice (some ⟨b3, 0, none⟩) fln c3] br b1 b2 b3 fl dp ({ st with vars := setAll st.vars ((ps.zip xs).take (q + 1)) }) ev (wr.setCell ⟨b1, pn, none⟩ (.int .i64 x)) ∧ Fr br b1 b2 ev ev w1 (wr.setCell ⟨b1, pn, none⟩ (.int .i64 x))) := by
            refine ⟨?_, hf.trans (fr_set1 hr _ _)⟩
            rw [htk]
            exact hset
          obtain ⟨y, hy⟩ : ∃ y, y = (setAll st.vars ((ps.zip xs).take q))[pn]'(by rw [hvl]; exact hpn) := ⟨_, rfl⟩
          rw [← hy] at m3
          have m2' : wr.cell? ⟨br, 1, none⟩ = some (.slice (some ⟨b1, 0, none⟩) vn vn) := by
            have : (setAll st.vars ((ps.zip xs).take q)).length = vn := hvl
            simp only [this] at m2
            exact m2
          have hpi : (pn : Int) < (vn : Int) := by omega
          have hqi : (q : Int) < (j : Int) := by have := HQJ.out; omega
          clear hqel hqel2 e1 e2 e3 hpb hx hpz hg3 htk hset hy hr hf hfw hB0q hvl m2 HAO hqx hqd
          go_wp2_with fail
          go_region
          go_wp2_with fail
          exact ⟨⟨q + 1, by omega, by go_num, HSET.out.1.drewN 1, HSET.out.2.over (below_drewN (Below.refl _ _) 1)⟩, by simp [intOf]; omega⟩
        · have hqE : q = ql := by omega
          subst hqE
          have htz : (ps.zip xs).take q = ps.zip xs := List.take_of_length_le (by rw [List.length_zip]; have := HQP.out; omega)
          rw [htz] at hr
          have hfull := hr
          obtain ⟨st2, hst2⟩ : ∃ q, q = ({ st with vars := setAll st.vars (ps.zip xs) } : RSt) := ⟨_, rfl⟩
          have hstx : ({ st with vars := setAll st.vars (ps.zip (asl.map (valX st.vars K))) } : RSt) = st2 := by rw [hst2, HXS.out]
          rw [← hst2] at hfull
          have hno2 : NumOk vn yn F st2 := by
            rw [hst2]
            refine ⟨by show (setAll _ _).length = vn; rw [setAll_length]; exact HNO.out.vl, HNO.out.tl, setAll_in HNO.out.i32 _ (fun z hz => HXI.out _ (List.of_mem_zip hz).2), HNO.out.tk, HNO.out.el, HNO.out.sb⟩
          have hg2 : 3 * (F - st2.steps) + 1 ≤ g := by rw [hst2]; exact HG.out
          have hB0q2 : Below w0.heap.size w0 wr.drew := hB0q.drew
          have KS := hide (HS.out st2 ev wr.drew (hfull.drewN 1) hB0q2 hno2 hg2)
          obtain ⟨y1, y2, y3, y4, y5, y6⟩ := HPW.out
          have z1 := H0.out.box hf (by omega) y1
          have z2 := H0.out.box hf (by omega) y2
          have z3 := H0.out.box hf (by omega) y3
          have z4 := H0.out.box hf (by omega) y4
          have z5 := H0.out.box hf (by omega) y5
          have z6 := H0.out.box hf (by omega) y6
          have HRW2 : Hid (RowAt [.int .i64 2, .int .i64 (n : Int), .int .i64 (c : Int), .int .i64 ek, .int .i64 ex, .slice pa pl pc, .slice aa j ac, .slice ta tl tc, .slice ea el ec] wr.drew w.heap.size) := fun jj u hu => (H0.out.box hf (Nat.le_refl _) (HRW1.out jj u hu) : wr.cell? ⟨w.heap.size, jj, none⟩ = some u)
          have z16 := hfull.row 16 _ rfl
          have zb3 : wr.cell? ⟨b3, c, none⟩ = some (.int .i64 fst) := hfull.first c _ (by simp [HFL.out])
          have hcl : c < fl.length := (List.getElem?_eq_some_iff.1 HFL.out).1
          have hci : (c : Int) < (fln : Int) := by have := HFLL.out; omega
          have KEEP : Hid (∀ W ev2 st3, RnG I w0.heap.size [.int .i64 m, .slice ga gn gc, .slice sa sn sc, .slice ya yn yc, .slice oa on oc, .slice va vn vc, .slice (some ⟨fb, foff, none⟩) fn fc, .slice ba bn bc, .slice xa xn xc, .int .i64 (F : Int), .slice (some ⟨b3, 0, none⟩) fln c3] br b1 b2 b3 fl dp st3 ev2 W → Fr br b1 b2 ev ev2 wr.drew W → (W.cell? ⟨w.heap.size + 1, 1, none⟩ = some (.slice za zl zc) ∧ W.cell? ⟨br, 16, none⟩ = some (.slice (some ⟨b3, 0, none⟩) fln c3) ∧ W.cell? ⟨w.heap.size, 2, none⟩ = some (.int .i64 (c : Int)) ∧ W.cell? ⟨b3, c, none⟩ = some (.int .i64 fst) ∧ W.cell? ⟨w.heap.size, 0, none⟩ = some (.int .i64 2) ∧ W.cell? ⟨w.heap.size, 1, none⟩ = some (.int .i64 (n : Int)) ∧ W.cell? ⟨w.heap.size, 3, none⟩ = some (.int .i64 ek) ∧ W.cell? ⟨w.heap.size, 4, none⟩ = some (.int .i64 ex) ∧ W.cell? ⟨w.heap.size, 5, none⟩ = some (.slice pa pl pc) ∧ W.cell? ⟨w.heap.size, 6, none⟩ = some (.slice aa j ac) ∧ W.cell? ⟨w.heap.size, 7, none⟩ = some (.slice ta tl tc) ∧ W.cell? ⟨w.heap.size, 8, none⟩ = some (.slice ea el ec))) := fun W ev2 st3 hr3 hf3 =>
            ⟨H0.out.box hf3 (by omega) z1, hr3.row 16 _ rfl, H0.out.box hf3 (by omega) z6, hr3.first c _ (by simp [HFL.out]), H0.out.box hf3 (Nat.le_refl _) (HRW2.out 0 _ rfl), H0.out.box hf3 (Nat.le_refl _) (HRW2.out 1 _ rfl), H0.out.box hf3 (Nat.le_refl _) (HRW2.out 3 _ rfl), H0.out.box hf3 (Nat.le_refl _) (HRW2.out 4 _ rfl), H0.out.box hf3 (Nat.le_refl _) (HRW2.out 5 _ rfl), H0.out.box hf3 (Nat.le_refl _) (HRW2.out 6 _ rfl), H0.out.box hf3 (Nat.le_refl _) (HRW2.out 7 _ rfl), H0.out.box hf3 (Nat.le_refl _) (HRW2.out 8 _ rfl)⟩
          have z01 := KEEP.out wr.drew ev _ (hfull.drewN 1) (Fr.refl _ _ _ _ _)
          have Z01 := hide z01
          have KEEP5 : Hid (∀ W ev2, Fr br b1 b2 ev ev2 wr.drew W → (W.cell? ⟨w.heap.size, 1, none⟩ = some (.int .i64 (n : Int)) ∧ W.cell? ⟨w.heap.size + 1, 2, none⟩ = some (.int .i64 rk) ∧ W.cell? ⟨w.heap.size + 1, 3, none⟩ = some (.int .i64 rN) ∧ W.cell? ⟨w.heap.size + 1, 4, none⟩ = some (.slice ra rl rc))) := fun W ev2 hf3 =>
            ⟨H0.out.box hf3 (by omega) z5, H0.out.box hf3 (by omega) z2, H0.out.box hf3 (by omega) z3, H0.out.box hf3 (by omega) z4⟩
          have HFW := hide hfw
          have HB0Q := hide hB0q2
          have HFULL := hide hfull
          clear z01
          obtain ⟨T, hT⟩ : ∃ T, T = rr st2 := ⟨_, rfl⟩
          have HRR : Hid (rr ({ st with vars := setAll st.vars (ps.zip (asl.map (valX st.vars K))) } : RSt) = T) := by rw [hT]; exact congrArg rr hstx
          rw [← hT] at KS
          clear hT
          clear hr hf hfw hB0q hvl hql hq htz hfull hst2 hstx hno2 hg2 hB0q2 y1 y2 y3 y4 y5 y6 z2 z3 z4 z5 HPW HAO HXS HST2 HS hcl
          obtain ⟨tb, ts⟩ := T
          cases tb with
          | false =>
            go_wp2_with fail
            refine wp_region_held_drew (S := fun Wz => Wz.cell? ⟨w.heap.size + 1, 1, none⟩ = some (.slice za zl zc) ∧ Wz.cell? ⟨br, 16, none⟩ = some (.slice (some ⟨b3, 0, none⟩) fln c3) ∧ Wz.cell? ⟨w.heap.size, 2, none⟩ = some (.int .i64 (c : Int)) ∧ Wz.cell? ⟨b3, c, none⟩ = some (.int .i64 fst) ∧ Wz.cell? ⟨w.heap.size, 0, none⟩ = some (.int .i64 2) ∧ Wz.cell? ⟨w.heap.size, 1, none⟩ = some (.int .i64 (n : Int)) ∧ Wz.cell? ⟨w.heap.size, 3, none⟩ = some (.int .i64 ek) ∧ Wz.cell? ⟨w.heap.size, 4, none⟩ = some (.int .i64 ex) ∧ Wz.cell? ⟨w.heap.size, 5, none⟩ = some (.slice pa pl pc) ∧ Wz.cell? ⟨w.heap.size, 6, none⟩ = some (.slice aa j ac) ∧ Wz.cell? ⟨w.heap.size, 7, none⟩ = some (.slice ta tl tc) ∧ Wz.cell? ⟨w.heap.size, 8, none⟩ = some (.slice ea el ec)) (by kernel_rfl) (Z01.out) (fun hHeld => ?_)
            refine tk (i := 0) (oi := ⟨some 56, .move (.tmp 0), 73, "runner.go:121", #[], none⟩) (v := ?_) (Or.inl ⟨by rfl, ?_⟩) (by assumption) ?_
            rotate_left
            · intro w' hSw
              (try dsimp only at hSw)
              go_simp
              try with_reducible rfl
            try simp only [aput]
            refine tk (i := 1) (oi := ⟨some 57, .fieldAddr 133 (.tmp 7) 1, 0, "runner.go:121", #[], none⟩) (v := ?_) (Or.inl ⟨by rfl, ?_⟩) (by assumption) ?_
            rotate_left
            · intro w' hSw
              (try dsimp only at hSw)
              go_simp
              try with_reducible rfl
            try simp only [aput]
            refine tk (i := 2) (oi := ⟨some 58, .load 39 (.tmp 57), 39, "runner.go:121", #[⟨1, .data⟩], none⟩) (v := ?_) (Or.inl ⟨by rfl, ?_⟩) (by assumption) ?_
            rotate_left
            · intro w' hSw
              (try dsimp only at hSw)
              go_simp
              try with_reducible rfl
            try simp only [aput]
            refine tk (i := 3) (oi := ⟨some 59, .move (.tmp 0), 73, "runner.go:121", #[], none⟩) (v := ?_) (Or.inl ⟨by rfl, ?_⟩) (by assumption) ?_
            rotate_left
            · intro w' hSw
              (try dsimp only at hSw)
              go_simp
              try with_reducible rfl
            try simp only [aput]
            refine tk (i := 4) (oi := ⟨some 60, .nilCheck (.tmp 59), 0, "runner.go:121", #[⟨3, .data⟩], none⟩) (v := ?_) (Or.inl ⟨by rfl, ?_⟩) (by assumption) ?_
            rotate_left
            · intro w' hSw
              (try dsimp only at hSw)
              go_simp
              try with_reducible rfl
            try simp only [aput]
            refine tk (i := 5) (oi := ⟨some 61, .fieldAddr 83 (.tmp 60) 4, 0, "runner.go:121", #[⟨4, .data⟩], none⟩) (v := ?_) (Or.inl ⟨by rfl, ?_⟩) (by assumption) ?_
            rotate_left
            · intro w' hSw
              (try dsimp only at hSw)
              go_simp
              try with_reducible rfl
            try simp only [aput]
            refine tk (i := 6) (oi := ⟨some 62, .load 25 (.tmp 61), 25, "runner.go:121", #[⟨5, .data⟩], none⟩) (v := ?_) (Or.inl ⟨by rfl, ?_⟩) (by assumption) ?_
            rotate_left
            · intro w' hSw
              (try dsimp only at hSw)
              go_simp
              try with_reducible rfl
            try simp only [aput]
            refine tk (i := 7) (oi := ⟨some 63, .fieldAddr 78 (.tmp 4) 2, 0, "runner.go:121", #[], none⟩) (v := ?_) (Or.inl ⟨by rfl, ?_⟩) (by assumption) ?_
            rotate_left
            · intro w' hSw
              (try dsimp only at hSw)
              go_simp
              try with_reducible rfl
            try simp only [aput]
            refine tk (i := 8) (oi := ⟨some 64, .load 3 (.tmp 63), 3, "runner.go:121", #[⟨7, .data⟩], none⟩) (v := ?_) (Or.inl ⟨by rfl, ?_⟩) (by assumption) ?_
            rotate_left
            · intro w' hSw
              (try dsimp only at hSw)
              go_simp
              try with_reducible rfl
            try simp only [aput]
            refine tk (i := 9) (oi := ⟨some 65, .indexAddr 25 (.tmp 62) (.tmp 64), 0, "runner.go:121", #[⟨6, .data⟩, ⟨8, .data⟩], none⟩) (v := ?_) (Or.inl ⟨by rfl, ?_⟩) (by assumption) ?_
            rotate_left
            · intro w' hSw
              (try dsimp only at hSw)
              go_simp
              try with_reducible rfl
            try simp only [aput]
            refine tk (i := 10) (oi := ⟨some 66, .load 3 (.tmp 65), 3, "runner.go:121", #[⟨9, .data⟩], none⟩) (v := ?_) (Or.inl ⟨by rfl, ?_⟩) (by assumption) ?_
            rotate_left
            · intro w' hSw
              (try dsimp only at hSw)
              go_simp
              try with_reducible rfl
            try simp only [aput]
            refine wpAnyH_ready (rs := [11]) (by kernel_rfl) (by simp) ?_
            refine AllReadyH.cons (o := { dst := some 67, op := Go.Op.call { callee := Go.Callee.value (Go.Operand.func 70), args := #[Go.Operand.tmp 56, Go.Operand.tmp 58, Go.Operand.tmp 66], argTypes := #[73, 39, 3] }, type := 4, pos := "runner.go:121", after := #[⟨0, .data⟩, ⟨2, .data⟩, ⟨10, .data⟩], guard := none }) rfl (fun K hK => ?_) AllReadyH.nil
            go_simp
            refine (KS.out).mono ?_
            rintro e wt ⟨he, ⟨ev2, hr2, hf2⟩, hno2⟩
            dsimp only at he
            subst he
            go_simp
            refine hK.out _ _ (KEEP.out _ _ _ hr2 hf2) (fun hHeld => ?_)
            clear hK K
            try simp only [aput]
            refine tk (i := 12) (oi := ⟨some 68, .unOp .not 4 (.tmp 67), 4, "runner.go:121", #[⟨11, .data⟩], none⟩) (v := ?_) (Or.inl ⟨by rfl, ?_⟩) (by assumption) ?_
            rotate_left
            · intro w' hSw
              (try dsimp only at hSw)
              go_simp
              try with_reducible rfl
            try simp only [aput]
            refine tk (i := 13) (oi := ⟨some 69, .move (.tmp 68), 4, "runner.go:121", #[⟨12, .data⟩, ⟨11, .chain⟩], none⟩) (v := ?_) (Or.inl ⟨by rfl, ?_⟩) (by assumption) ?_
            rotate_left
            · intro w' hSw
              (try dsimp only at hSw)
              go_simp
              try with_reducible rfl
            try simp only [aput]
            refine tk (i := 14) (oi := ⟨some 70, .move (.tmp 0), 73, "runner.go:121", #[⟨13, .guard⟩], some (13, false)⟩) (v := undef) (Or.inr ⟨by rfl, rfl⟩) (by assumption) ?_
            try simp only [aput]
            refine tk (i := 15) (oi := ⟨some 71, .load 78 (.tmp 4), 78, "runner.go:121", #[⟨13, .guard⟩], some (13, false)⟩) (v := undef) (Or.inr ⟨by rfl, rfl⟩) (by assumption) ?_
            try simp only [aput]
            refine tk (i := 16) (oi := ⟨some 72, .move (.tmp 2), 3, "runner.go:121", #[⟨13, .guard⟩], some (13, false)⟩) (v := undef) (Or.inr ⟨by rfl, rfl⟩) (by assumption) ?_
            try simp only [aput]
            refine tk (i := 17) (oi := { dst := some 73, op := Go.Op.call { callee := Go.Callee.value (Go.Operand.func 103), args := #[Go.Operand.tmp 70, Go.Operand.const (Go.Value.int Go.IntKind.i64 3), Go.Operand.tmp 71, Go.Operand.tmp 72], argTypes := #[73, 3, 78, 3] }, type := 4, pos := "runner.go:121", after := #[⟨14, .data⟩, ⟨15, .data⟩, ⟨16, .data⟩, ⟨13, .chain⟩, ⟨13, .guard⟩], guard := some (13, false) }) (v := undef) (Or.inr ⟨by rfl, rfl⟩) (by assumption) ?_
            try simp only [aput]
            refine tk (i := 18) (oi := ⟨some 74, .unOp .not 4 (.tmp 73), 4, "runner.go:121", #[⟨17, .data⟩, ⟨13, .guard⟩], some (13, false)⟩) (v := undef) (Or.inr ⟨by rfl, rfl⟩) (by assumption) ?_
            try simp only [aput]
            refine tk (i := 19) (oi := ⟨some 75, .pick (.tmp 69) (.const (Go.Value.bool true)) (.tmp 74), 4, "runner.go:121", #[⟨13, .data⟩, ⟨18, .data⟩], none⟩) (v := ?_) (Or.inl ⟨by rfl, ?_⟩) (by assumption) ?_
            rotate_left
            · intro w' hSw
              (try dsimp only at hSw)
              go_simp
              try with_reducible rfl
            try simp only [aput]
            refine wpAnyH_done (by kernel_rfl) ?_ _
            have HF2 := hide (And.intro hr2 ((HFW.out.over (below_drewN (Below.refl _ _) 1)).trans hf2))
            have HN2 := hide hno2
            clear hr2 hf2 hno2
            go_wp2_with fail
            go_ret
            rw [HRR.out]
            exact ⟨rfl, ⟨ev2, HF2.out⟩, HN2.out⟩
          | true =>
            have KPT := hide (KP.out ts)
            obtain ⟨qb, qs, hpp⟩ : ∃ qb qs, passR I.ob 3 a dp d ts = (qb, qs) := ⟨_, _, rfl⟩
            have HNP : Hid (NumOk vn yn F ts → NumOk vn yn F qs) := fun hq => by
              have := hq.pass I.ob 3 a dp d
              rw [hpp] at this
              exact this
            rw [hpp] at KPT
            have e9 : contR (true, ts) (fun st1 => contR (passR I.ob 3 a dp d st1) (fun st' => (true, st'.setv (n : Int) (valX st'.vars K res)))) = contR (qb, qs) (fun st' => (true, st'.setv (n : Int) (valX st'.vars K res))) := by
              show contR (passR I.ob 3 a dp d ts) (fun st' => (true, st'.setv (n : Int) (valX st'.vars K res))) = _
              rw [hpp]
            have HE9 := hide e9
            clear hpp e9 KP z1 z16 z6 zb3
            cases qb with
            | false =>
              go_wp2_with fail
              refine wp_region_held_drew (S := fun Wz => Wz.cell? ⟨w.heap.size + 1, 1, none⟩ = some (.slice za zl zc) ∧ Wz.cell? ⟨br, 16, none⟩ = some (.slice (some ⟨b3, 0, none⟩) fln c3) ∧ Wz.cell? ⟨w.heap.size, 2, none⟩ = some (.int .i64 (c : Int)) ∧ Wz.cell? ⟨b3, c, none⟩ = some (.int .i64 fst) ∧ Wz.cell? ⟨w.heap.size, 0, none⟩ = some (.int .i64 2) ∧ Wz.cell? ⟨w.heap.size, 1, none⟩ = some (.int .i64 (n : Int)) ∧ Wz.cell? ⟨w.heap.size, 3, none⟩ = some (.int .i64 ek) ∧ Wz.cell? ⟨w.heap.size, 4, none⟩ = some (.int .i64 ex) ∧ Wz.cell? ⟨w.heap.size, 5, none⟩ = some (.slice pa pl pc) ∧ Wz.cell? ⟨w.heap.size, 6, none⟩ = some (.slice aa j ac) ∧ Wz.cell? ⟨w.heap.size, 7, none⟩ = some (.slice ta tl tc) ∧ Wz.cell? ⟨w.heap.size, 8, none⟩ = some (.slice ea el ec)) (by kernel_rfl) (Z01.out) (fun hHeld => ?_)
              refine tk (i := 0) (oi := ⟨some 56, .move (.tmp 0), 73, "runner.go:121", #[], none⟩) (v := ?_) (Or.inl ⟨by rfl, ?_⟩) (by assumption) ?_
              rotate_left
              · intro w' hSw
                (try dsimp only at hSw)
                go_simp
                try with_reducible rfl
              try simp only [aput]
              refine tk (i := 1) (oi := ⟨some 57, .fieldAddr 133 (.tmp 7) 1, 0, "runner.go:121", #[], none⟩) (v := ?_) (Or.inl ⟨by rfl, ?_⟩) (by assumption) ?_
              rotate_left
              · intro w' hSw
                (try dsimp only at hSw)
                go_simp
                try with_reducible rfl
              try simp only [aput]
              refine tk (i := 2) (oi := ⟨some 58, .load 39 (.tmp 57), 39, "runner.go:121", #[⟨1, .data⟩], none⟩) (v := ?_) (Or.inl ⟨by rfl, ?_⟩) (by assumption) ?_
              rotate_left
              · intro w' hSw
                (try dsimp only at hSw)
                go_simp
                try with_reducible rfl
              try simp only [aput]
              refine tk (i := 3) (oi := ⟨some 59, .move (.tmp 0), 73, "runner.go:121", #[], none⟩) (v := ?_) (Or.inl ⟨by rfl, ?_⟩) (by assumption) ?_
              rotate_left
              · intro w' hSw
                (try dsimp only at hSw)
                go_simp
                try with_reducible rfl
              try simp only [aput]
              refine tk (i := 4) (oi := ⟨some 60, .nilCheck (.tmp 59), 0, "runner.go:121", #[⟨3, .data⟩], none⟩) (v := ?_) (Or.inl ⟨by rfl, ?_⟩) (by assumption) ?_
              rotate_left
              · intro w' hSw
                (try dsimp only at hSw)
                go_simp
                try with_reducible rfl
              try simp only [aput]
              refine tk (i := 5) (oi := ⟨some 61, .fieldAddr 83 (.tmp 60) 4, 0, "runner.go:121", #[⟨4, .data⟩], none⟩) (v := ?_) (Or.inl ⟨by rfl, ?_⟩) (by assumption) ?_
              rotate_left
              · intro w' hSw
                (try dsimp only at hSw)
                go_simp
                try with_reducible rfl
              try simp only [aput]
              refine tk (i := 6) (oi := ⟨some 62, .load 25 (.tmp 61), 25, "runner.go:121", #[⟨5, .data⟩], none⟩) (v := ?_) (Or.inl ⟨by rfl, ?_⟩) (by assumption) ?_
              rotate_left
              · intro w' hSw
                (try dsimp only at hSw)
                go_simp
                try with_reducible rfl
              try simp only [aput]
              refine tk (i := 7) (oi := ⟨some 63, .fieldAddr 78 (.tmp 4) 2, 0, "runner.go:121", #[], none⟩) (v := ?_) (Or.inl ⟨by rfl, ?_⟩) (by assumption) ?_
              rotate_left
              · intro w' hSw
                (try dsimp only at hSw)
                go_simp
                try with_reducible rfl
              try simp only [aput]
              refine tk (i := 8) (oi := ⟨some 64, .load 3 (.tmp 63), 3, "runner.go:121", #[⟨7, .data⟩], none⟩) (v := ?_) (Or.inl ⟨by rfl, ?_⟩) (by assumption) ?_
              rotate_left
              · intro w' hSw
                (try dsimp only at hSw)
                go_simp
                try with_reducible rfl
              try simp only [aput]
              refine tk (i := 9) (oi := ⟨some 65, .indexAddr 25 (.tmp 62) (.tmp 64), 0, "runner.go:121", #[⟨6, .data⟩, ⟨8, .data⟩], none⟩) (v := ?_) (Or.inl ⟨by rfl, ?_⟩) (by assumption) ?_
              rotate_left
              · intro w' hSw
                (try dsimp only at hSw)
                go_simp
                try with_reducible rfl
              try simp only [aput]
              refine tk (i := 10) (oi := ⟨some 66, .load 3 (.tmp 65), 3, "runner.go:121", #[⟨9, .data⟩], none⟩) (v := ?_) (Or.inl ⟨by rfl, ?_⟩) (by assumption) ?_
              rotate_left
              · intro w' hSw
                (try dsimp only at hSw)
                go_simp
                try with_reducible rfl
              try simp only [aput]
              refine wpAnyH_ready (rs := [11]) (by kernel_rfl) (by simp) ?_
              refine AllReadyH.cons (o := { dst := some 67, op := Go.Op.call { callee := Go.Callee.value (Go.Operand.func 70), args := #[Go.Operand.tmp 56, Go.Operand.tmp 58, Go.Operand.tmp 66], argTypes := #[73, 39, 3] }, type := 4, pos := "runner.go:121", after := #[⟨0, .data⟩, ⟨2, .data⟩, ⟨10, .data⟩], guard := none }) rfl (fun K hK => ?_) AllReadyH.nil
              go_simp
              refine (KS.out).mono ?_
              rintro e wt ⟨he, ⟨ev2, hr2, hf2⟩, hno2⟩
              dsimp only at he
              subst he
              go_simp
              refine hK.out _ _ (KEEP.out _ _ _ hr2 hf2) (fun hHeld => ?_)
              clear hK K
              try simp only [aput]
              refine tk (i := 12) (oi := ⟨some 68, .unOp .not 4 (.tmp 67), 4, "runner.go:121", #[⟨11, .data⟩], none⟩) (v := ?_) (Or.inl ⟨by rfl, ?_⟩) (by assumption) ?_
              rotate_left
              · intro w' hSw
                (try dsimp only at hSw)
                go_simp
                try with_reducible rfl
              try simp only [aput]
              refine tk (i := 13) (oi := ⟨some 69, .move (.tmp 68), 4, "runner.go:121", #[⟨12, .data⟩, ⟨11, .chain⟩], none⟩) (v := ?_) (Or.inl ⟨by rfl, ?_⟩) (by assumption) ?_
              rotate_left
              · intro w' hSw
                (try dsimp only at hSw)
                go_simp
                try with_reducible rfl
              try simp only [aput]
              refine tk (i := 14) (oi := ⟨some 70, .move (.tmp 0), 73, "runner.go:121", #[⟨13, .guard⟩], some (13, false)⟩) (v := ?_) (Or.inl ⟨by rfl, ?_⟩) (by assumption) ?_
              rotate_left
              · intro w' hSw
                (try dsimp only at hSw)
                go_simp
                try with_reducible rfl
              try simp only [aput]
              refine tk (i := 15) (oi := ⟨some 71, .load 78 (.tmp 4), 78, "runner.go:121", #[⟨13, .guard⟩], some (13, false)⟩) (v := ?_) (Or.inl ⟨by rfl, ?_⟩) (by assumption) ?_
              rotate_left
              · intro w' hSw
                (try dsimp only at hSw)
                go_simp
                try with_reducible rfl
              try simp only [aput]
              refine tk (i := 16) (oi := ⟨some 72, .move (.tmp 2), 3, "runner.go:121", #[⟨13, .guard⟩], some (13, false)⟩) (v := ?_) (Or.inl ⟨by rfl, ?_⟩) (by assumption) ?_
              rotate_left
              · intro w' hSw
                (try dsimp only at hSw)
                go_simp
                try with_reducible rfl
              try simp only [aput]
              refine wpAnyH_ready (rs := [17]) (by kernel_rfl) (by simp) ?_
              refine AllReadyH.cons (o := { dst := some 73, op := Go.Op.call { callee := Go.Callee.value (Go.Operand.func 103), args := #[Go.Operand.tmp 70, Go.Operand.const (Go.Value.int Go.IntKind.i64 3), Go.Operand.tmp 71, Go.Operand.tmp 72], argTypes := #[73, 3, 78, 3] }, type := 4, pos := "runner.go:121", after := #[⟨14, .data⟩, ⟨15, .data⟩, ⟨16, .data⟩, ⟨13, .chain⟩, ⟨13, .guard⟩], guard := some (13, false) }) rfl (fun K hK => ?_) AllReadyH.nil
              go_simp
              refine (KPT.out ev2 _ hr2 (HB0Q.out.trans ((HFULL.out.drewN 1).below hf2))).mono ?_
              rintro e w4 ⟨he4, ev4, hr4, hf4, hn4⟩
              dsimp only at he4
              subst he4
              go_simp
              refine hK.out _ _ (KEEP.out _ _ _ hr4 (hf2.trans hf4)) (fun hHeld => ?_)
              clear hK K
              try simp only [aput]
              refine tk (i := 18) (oi := ⟨some 74, .unOp .not 4 (.tmp 73), 4, "runner.go:121", #[⟨17, .data⟩, ⟨13, .guard⟩], some (13, false)⟩) (v := ?_) (Or.inl ⟨by rfl, ?_⟩) (by assumption) ?_
              rotate_left
              · intro w' hSw
                (try dsimp only at hSw)
                go_simp
                try with_reducible rfl
              try simp only [aput]
              refine tk (i := 19) (oi := ⟨some 75, .pick (.tmp 69) (.const (Go.Value.bool true)) (.tmp 74), 4, "runner.go:121", #[⟨13, .data⟩, ⟨18, .data⟩], none⟩) (v := ?_) (Or.inl ⟨by rfl, ?_⟩) (by assumption) ?_
              rotate_left
              · intro w' hSw
                (try dsimp only at hSw)
                go_simp
                try with_reducible rfl
              try simp only [aput]
              refine wpAnyH_done (by kernel_rfl) ?_ _
              have HF4 := hide (And.intro hr4 (((HFW.out.over (below_drewN (Below.refl _ _) 1)).trans hf2).trans hf4))
              have HN4 := hide (HNP.out hno2)
              clear hr2 hf2 hno2 hr4 hf4 hn4
              go_wp2_with fail
              go_ret
              rw [HRR.out, HE9.out]
              exact ⟨rfl, ⟨ev4, HF4.out⟩, HN4.out⟩
            | true =>
              go_wp2_with fail
              refine wp_region_held_drew (S := fun Wz => Wz.cell? ⟨w.heap.size + 1, 1, none⟩ = some (.slice za zl zc) ∧ Wz.cell? ⟨br, 16, none⟩ = some (.slice (some ⟨b3, 0, none⟩) fln c3) ∧ Wz.cell? ⟨w.heap.size, 2, none⟩ = some (.int .i64 (c : Int)) ∧ Wz.cell? ⟨b3, c, none⟩ = some (.int .i64 fst) ∧ Wz.cell? ⟨w.heap.size, 0, none⟩ = some (.int .i64 2) ∧ Wz.cell? ⟨w.heap.size, 1, none⟩ = some (.int .i64 (n : Int)) ∧ Wz.cell? ⟨w.heap.size, 3, none⟩ = some (.int .i64 ek) ∧ Wz.cell? ⟨w.heap.size, 4, none⟩ = some (.int .i64 ex) ∧ Wz.cell? ⟨w.heap.size, 5, none⟩ = some (.slice pa pl pc) ∧ Wz.cell? ⟨w.heap.size, 6, none⟩ = some (.slice aa j ac) ∧ Wz.cell? ⟨w.heap.size, 7, none⟩ = some (.slice ta tl tc) ∧ Wz.cell? ⟨w.heap.size, 8, none⟩ = some (.slice ea el ec)) (by kernel_rfl) (Z01.out) (fun hHeld => ?_)
              refine tk (i := 0) (oi := ⟨some 56, .move (.tmp 0), 73, "runner.go:121", #[], none⟩) (v := ?_) (Or.inl ⟨by rfl, ?_⟩) (by assumption) ?_
              rotate_left
              · intro w' hSw
                (try dsimp only at hSw)
                go_simp
                try with_reducible rfl
              try simp only [aput]
              refine tk (i := 1) (oi := ⟨some 57, .fieldAddr 133 (.tmp 7) 1, 0, "runner.go:121", #[], none⟩) (v := ?_) (Or.inl ⟨by rfl, ?_⟩) (by assumption) ?_
              rotate_left
              · intro w' hSw
                (try dsimp only at hSw)
                go_simp
                try with_reducible rfl
              try simp only [aput]
              refine tk (i := 2) (oi := ⟨some 58, .load 39 (.tmp 57), 39, "runner.go:121", #[⟨1, .data⟩], none⟩) (v := ?_) (Or.inl ⟨by rfl, ?_⟩) (by assumption) ?_
              rotate_left
              · intro w' hSw
                (try dsimp only at hSw)
                go_simp
                try with_reducible rfl
              try simp only [aput]
              refine tk (i := 3) (oi := ⟨some 59, .move (.tmp 0), 73, "runner.go:121", #[], none⟩) (v := ?_) (Or.inl ⟨by rfl, ?_⟩) (by assumption) ?_
              rotate_left
              · intro w' hSw
                (try dsimp only at hSw)
                go_simp
                try with_reducible rfl
              try simp only [aput]
              refine tk (i := 4) (oi := ⟨some 60, .nilCheck (.tmp 59), 0, "runner.go:121", #[⟨3, .data⟩], none⟩) (v := ?_) (Or.inl ⟨by rfl, ?_⟩) (by assumption) ?_
              rotate_left
              · intro w' hSw
                (try dsimp only at hSw)
                go_simp
                try with_reducible rfl
              try simp only [aput]
              refine tk (i := 5) (oi := ⟨some 61, .fieldAddr 83 (.tmp 60) 4, 0, "runner.go:121", #[⟨4, .data⟩], none⟩) (v := ?_) (Or.inl ⟨by rfl, ?_⟩) (by assumption) ?_
              rotate_left
              · intro w' hSw
                (try dsimp only at hSw)
                go_simp
                try with_reducible rfl
              try simp only [aput]
              refine tk (i := 6) (oi := ⟨some 62, .load 25 (.tmp 61), 25, "runner.go:121", #[⟨5, .data⟩], none⟩) (v := ?_) (Or.inl ⟨by rfl, ?_⟩) (by assumption) ?_
              rotate_left
              · intro w' hSw
                (try dsimp only at hSw)
                go_simp
                try with_reducible rfl
              try simp only [aput]
              refine tk (i := 7) (oi := ⟨some 63, .fieldAddr 78 (.tmp 4) 2, 0, "runner.go:121", #[], none⟩) (v := ?_) (Or.inl ⟨by rfl, ?_⟩) (by assumption) ?_
              rotate_left
              · intro w' hSw
                (try dsimp only at hSw)
                go_simp
                try with_reducible rfl
              try simp only [aput]
              refine tk (i := 8) (oi := ⟨some 64, .load 3 (.tmp 63), 3, "runner.go:121", #[⟨7, .data⟩], none⟩) (v := ?_) (Or.inl ⟨by rfl, ?_⟩) (by assumption) ?_
              rotate_left
              · intro w' hSw
                (try dsimp only at hSw)
                go_simp
                try with_reducible rfl
              try simp only [aput]
              refine tk (i := 9) (oi := ⟨some 65, .indexAddr 25 (.tmp 62) (.tmp 64), 0, "runner.go:121", #[⟨6, .data⟩, ⟨8, .data⟩], none⟩) (v := ?_) (Or.inl ⟨by rfl, ?_⟩) (by assumption) ?_
              rotate_left
              · intro w' hSw
                (try dsimp only at hSw)
                go_simp
                try with_reducible rfl
              try simp only [aput]
              refine tk (i := 10) (oi := ⟨some 66, .load 3 (.tmp 65), 3, "runner.go:121", #[⟨9, .data⟩], none⟩) (v := ?_) (Or.inl ⟨by rfl, ?_⟩) (by assumption) ?_
              rotate_left
              · intro w' hSw
                (try dsimp only at hSw)
                go_simp
                try with_reducible rfl
              try simp only [aput]
              refine wpAnyH_ready (rs := [11]) (by kernel_rfl) (by simp) ?_
              refine AllReadyH.cons (o := { dst := some 67, op := Go.Op.call { callee := Go.Callee.value (Go.Operand.func 70), args := #[Go.Operand.tmp 56, Go.Operand.tmp 58, Go.Operand.tmp 66], argTypes := #[73, 39, 3] }, type := 4, pos := "runner.go:121", after := #[⟨0, .data⟩, ⟨2, .data⟩, ⟨10, .data⟩], guard := none }) rfl (fun K hK => ?_) AllReadyH.nil
              go_simp
              refine (KS.out).mono ?_
              rintro e wt ⟨he, ⟨ev2, hr2, hf2⟩, hno2⟩
              dsimp only at he
              subst he
              go_simp
              refine hK.out _ _ (KEEP.out _ _ _ hr2 hf2) (fun hHeld => ?_)
              clear hK K
              try simp only [aput]
              refine tk (i := 12) (oi := ⟨some 68, .unOp .not 4 (.tmp 67), 4, "runner.go:121", #[⟨11, .data⟩], none⟩) (v := ?_) (Or.inl ⟨by rfl, ?_⟩) (by assumption) ?_
              rotate_left
              · intro w' hSw
                (try dsimp only at hSw)
                go_simp
                try with_reducible rfl
              try simp only [aput]
              refine tk (i := 13) (oi := ⟨some 69, .move (.tmp 68), 4, "runner.go:121", #[⟨12, .data⟩, ⟨11, .chain⟩], none⟩) (v := ?_) (Or.inl ⟨by rfl, ?_⟩) (by assumption) ?_
              rotate_left
              · intro w' hSw
                (try dsimp only at hSw)
                go_simp
                try with_reducible rfl
              try simp only [aput]
              refine tk (i := 14) (oi := ⟨some 70, .move (.tmp 0), 73, "runner.go:121", #[⟨13, .guard⟩], some (13, false)⟩) (v := ?_) (Or.inl ⟨by rfl, ?_⟩) (by assumption) ?_
              rotate_left
              · intro w' hSw
                (try dsimp only at hSw)
                go_simp
                try with_reducible rfl
              try simp only [aput]
              refine tk (i := 15) (oi := ⟨some 71, .load 78 (.tmp 4), 78, "runner.go:121", #[⟨13, .guard⟩], some (13, false)⟩) (v := ?_) (Or.inl ⟨by rfl, ?_⟩) (by assumption) ?_
              rotate_left
              · intro w' hSw
                (try dsimp only at hSw)
                go_simp
                try with_reducible rfl
              try simp only [aput]
              refine tk (i := 16) (oi := ⟨some 72, .move (.tmp 2), 3, "runner.go:121", #[⟨13, .guard⟩], some (13, false)⟩) (v := ?_) (Or.inl ⟨by rfl, ?_⟩) (by assumption) ?_
              rotate_left
              · intro w' hSw
                (try dsimp only at hSw)
                go_simp
                try with_reducible rfl
              try simp only [aput]
              refine wpAnyH_ready (rs := [17]) (by kernel_rfl) (by simp) ?_
              refine AllReadyH.cons (o := { dst := some 73, op := Go.Op.call { callee := Go.Callee.value (Go.Operand.func 103), args := #[Go.Operand.tmp 70, Go.Operand.const (Go.Value.int Go.IntKind.i64 3), Go.Operand.tmp 71, Go.Operand.tmp 72], argTypes := #[73, 3, 78, 3] }, type := 4, pos := "runner.go:121", after := #[⟨14, .data⟩, ⟨15, .data⟩, ⟨16, .data⟩, ⟨13, .chain⟩, ⟨13, .guard⟩], guard := some (13, false) }) rfl (fun K hK => ?_) AllReadyH.nil
              go_simp
              refine (KPT.out ev2 _ hr2 (HB0Q.out.trans ((HFULL.out.drewN 1).below hf2))).mono ?_
              rintro e w4 ⟨he4, ev4, hr4, hf4, hn4⟩
              dsimp only at he4
              subst he4
              go_simp
              refine hK.out _ _ (KEEP.out _ _ _ hr4 (hf2.trans hf4)) (fun hHeld => ?_)
              clear hK K
              try simp only [aput]
              refine tk (i := 18) (oi := ⟨some 74, .unOp .not 4 (.tmp 73), 4, "runner.go:121", #[⟨17, .data⟩, ⟨13, .guard⟩], some (13, false)⟩) (v := ?_) (Or.inl ⟨by rfl, ?_⟩) (by assumption) ?_
              rotate_left
              · intro w' hSw
                (try dsimp only at hSw)
                go_simp
                try with_reducible rfl
              try simp only [aput]
              refine tk (i := 19) (oi := ⟨some 75, .pick (.tmp 69) (.const (Go.Value.bool true)) (.tmp 74), 4, "runner.go:121", #[⟨13, .data⟩, ⟨18, .data⟩], none⟩) (v := ?_) (Or.inl ⟨by rfl, ?_⟩) (by assumption) ?_
              rotate_left
              · intro w' hSw
                (try dsimp only at hSw)
                go_simp
                try with_reducible rfl
              try simp only [aput]
              refine wpAnyH_done (by kernel_rfl) ?_ _
              have HNP2 := hide (HNP.out hno2)
              have HFt := hide hf2
              clear hr2 hf2 hno2 hn4
              dsimp only at hr4
              have hft4 := HFt.out.trans hf4
              obtain ⟨x5, x2, x3, x4⟩ := KEEP5.out _ _ hft4
              have hno2' : NumOk vn yn F qs := HNP2.out
              have HF2 := hide ((HFW.out.over (below_drewN (Below.refl _ _) 1)).trans hft4)
              have hB0t : Below w0.heap.size w0 w4 := HB0Q.out.trans ((HFULL.out.drewN 1).below hft4)
              have h' := hr4.drewN 1
              have KV := hide (valueR_any m ga gn gc sa sn sc ya yn yc oa on oc va vn vc (some ⟨fb, foff, none⟩) fn fc ba bn bc xa xn xc F fln c3 w0.heap.size br b1 b2 b3 fl dp qs ev4 K _ res w4.drew h' (HRES.out.over hB0t.drew) (by rw [hno2'.vl]; exact HRO.out) hno2'.i32)
              have x1 := h'.row 1 _ rfl
              rw [hno2'.vl] at x1
              have hnl : n < qs.vars.length := by rw [hno2'.vl]; exact hn
              have HRF : Hid (∀ W, Below w4.drew.heap.size w4.drew W → RnG I w0.heap.size [.int .i64 m, .slice ga gn gc, .slice sa sn sc, .slice ya yn yc, .slice oa on oc, .slice va vn vc, .slice (some ⟨fb, foff, none⟩) fn fc, .slice ba bn bc, .slice xa xn xc, .int .i64 (F : Int), .slice (some ⟨b3, 0, none⟩) fln c3] br b1 b2 b3 fl dp (qs.setv (n : Int) (valX qs.vars K res)) ev4 (W.setCell ⟨b1, n, none⟩ (.int .i64 (valX qs.vars K res))) ∧ Fr br b1 b2 ev ev4 w (W.setCell ⟨b1, n, none⟩ (.int .i64 (valX qs.vars K res)))) := fun W hW => by
                have r := (h'.over hW).setVar (n : Int) (valX qs.vars K res) (by simpa using hnl)
                exact ⟨by simpa using r, (HF2.out.over (below_drewN (Below.refl _ _) 1)).trans ((Fr.of_below hW).trans (fr_set1 (h'.over hW) _ _))⟩
              have hvw : ∀ W, Below w4.drew.heap.size w4.drew W → W.cell? ⟨b1, n, none⟩ = some (.int .i64 qs.vars[n]) ∧ W.frozen? ⟨b1, n, none⟩ = false ∧ b1 < W.heap.size := fun W hW => ⟨(h'.over hW).vars n _ (by simp [hnl]), (h'.over hW).z1 n, (h'.over hW).hi.2.1⟩
              obtain ⟨y, hy⟩ : ∃ y, y = qs.vars[n] := ⟨_, rfl⟩
              rw [← hy] at hvw
              have HVW := hide hvw
              have hI := valX_in hno2'.i32 K res (by rw [hno2'.vl]; exact HRO.out)
              have HNF := hide (hno2'.setv (v := (n : Int)) hI)
              have nb : w.heap.size ≠ b1 := by have := H0.out.hi; omega
              have nb1 : w.heap.size + 1 ≠ b1 := by have := H0.out.hi; omega
              have nr : br ≠ b1 := H0.out.apart.1
              have hni : (n : Int) < (vn : Int) := by omega
              obtain ⟨vx, hvx⟩ : ∃ q, q = valX qs.vars K res := ⟨_, rfl⟩
              have HVX := hide hvx
              rw [← hvx] at KV HRF
              clear hr4 hf4 hft4 hno2' h' hB0t hnl hvw hy hI hvx
              go_wp2_with fail
              go_region_held3 (fun W => W.cell? ⟨br, 1, none⟩ = some (.slice (some ⟨b1, 0, none⟩) vn vn) ∧ W.cell? ⟨w.heap.size, 1, none⟩ = some (.int .i64 (n : Int)) ∧ W.cell? ⟨w.heap.size + 1, 2, none⟩ = some (.int .i64 rk) ∧ W.cell? ⟨w.heap.size + 1, 3, none⟩ = some (.int .i64 rN) ∧ W.cell? ⟨w.heap.size + 1, 4, none⟩ = some (.slice ra rl rc)) (first | assumption | exact ⟨x1, x5, x2, x3, x4⟩ | exact keep5b (by assumption) hbp | exact keep5h (by assumption) (grow_set (n := 0)) nr nb nb1 | fail) (first | (go_at_call 130; refine (KV.out).mono ?_; rintro e wp ⟨rfl, hbp⟩; obtain ⟨u0, uz, ul⟩ := HVW.out _ hbp))
              have HE := hide (HRF.out _ hbp)
              go_wp2_with fail
              go_ret
              rw [HRR.out, HE9.out]
              have hvx := HVX.out
              subst hvx
              exact ⟨rfl, ⟨ev4, HE.out⟩, HNF.out⟩
end Go.Proofs.Ytcbbjjenkommeaa.Ex
