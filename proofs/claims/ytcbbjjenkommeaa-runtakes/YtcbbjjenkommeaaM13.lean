/- Small steps of the one who runs. -/
import Derived.Test.YtcbbjjenkommeaaM12
namespace Go.Proofs.Ytcbbjjenkommeaa.Ex
open Go.RowKit
set_option linter.unusedVariables false
theorem RnG.drewN {B : Nat} {R : List Value} {br b1 b2 b3 : Nat} {fl : List Int} {I : ObsI} {dp : Nat} {st : RSt} {ev : Ow} {w : World} (h : RnG I B R br b1 b2 b3 fl dp st ev w) (n : Nat) : RnG I B R br b1 b2 b3 fl dp st ev (w.drewN n) := h.over (below_drewN (Below.refl _ _) n)
theorem Fr.drewN {br b1 b2 : Nat} {ev ev1 : Ow} {w w1 : World} (n : Nat) (h : Fr br b1 b2 ev ev1 (w.drewN n) w1) : Fr br b1 b2 ev ev1 w w1 := (Fr.of_below (below_drewN (Below.refl _ w) n)).trans h

set_option maxHeartbeats 1000000 in
set_option maxRecDepth 100000 in
theorem step_yes (m : Int) (ga : Option Addr) (gn gc : Nat) (sa : Option Addr) (sn sc : Nat) (ya : Option Addr) (yn yc : Nat) (oa : Option Addr) (on oc : Nat) (va : Option Addr) (vn vc : Nat) (fa : Option Addr) (fn fc : Nat) (ba : Option Addr) (bn bc : Nat) (xa : Option Addr) (xn xc : Nat) (F fln c3 : Nat) (B br b1 b2 b3 : Nat) (fl : List Int) {I : ObsI} (dp : Nat) (st : RSt) (ev : Ow) (w : World) (h : RnG I B [.int .i64 m, .slice ga gn gc, .slice sa sn sc, .slice ya yn yc, .slice oa on oc, .slice va vn vc, .slice fa fn fc, .slice ba bn bc, .slice xa xn xc, .int .i64 (F : Int), .slice (some ⟨b3, 0, none⟩) fln c3] br b1 b2 b3 fl dp st ev w) (hs : st.steps < F) (hF : F ≤ 2000) :
    Calls Try.prog 102 #[.pointer (some ⟨br, 0, none⟩)] w fun e w' => e = .returned (.bool true) ∧ RnG I B [.int .i64 m, .slice ga gn gc, .slice sa sn sc, .slice ya yn yc, .slice oa on oc, .slice va vn vc, .slice fa fn fc, .slice ba bn bc, .slice xa xn xc, .int .i64 (F : Int), .slice (some ⟨b3, 0, none⟩) fln c3] br b1 b2 b3 fl dp st.step ev w' ∧ Fr br b1 b2 ev ev w w' := by
  have HR : Hid (∀ n, RnG I B [.int .i64 m, .slice ga gn gc, .slice sa sn sc, .slice ya yn yc, .slice oa on oc, .slice va vn vc, .slice fa fn fc, .slice ba bn bc, .slice xa xn xc, .int .i64 (F : Int), .slice (some ⟨b3, 0, none⟩) fln c3] br b1 b2 b3 fl dp st.step ev ((w.drewN n).setCell ⟨br, 3, none⟩ (.int .i64 ((st.steps : Int) + 1))) ∧ Fr br b1 b2 ev ev w ((w.drewN n).setCell ⟨br, 3, none⟩ (.int .i64 ((st.steps : Int) + 1)))) := fun n => ⟨(h.drewN n).setStep, (fr_set0 (h.drewN n) _ _).drewN⟩
  have c3 := h.row 3 _ rfl
  have c15 := h.row 15 _ rfl
  have z3 := h.z0 3
  have hl := h.hi.1
  obtain ⟨s, hsn⟩ : ∃ q, q = st.steps := ⟨_, rfl⟩
  rw [← hsn] at c3 HR hs
  have hne : ((s : Int) == (F : Int)) = false := by simp; omega
  clear h hsn
  go_enter Try.func102, Try.ntmps102
  go_wp2_with fail
  go_quiet ((fail))
  go_wp2_with fail
  go_ret
  exact ⟨rfl, HR.out nq⟩

set_option maxHeartbeats 1000000 in
set_option maxRecDepth 100000 in
theorem step_no (m : Int) (ga : Option Addr) (gn gc : Nat) (sa : Option Addr) (sn sc : Nat) (ya : Option Addr) (yn yc : Nat) (oa : Option Addr) (on oc : Nat) (va : Option Addr) (vn vc : Nat) (fa : Option Addr) (fn fc : Nat) (ba : Option Addr) (bn bc : Nat) (xa : Option Addr) (xn xc : Nat) (F fln c3 : Nat) (B br b1 b2 b3 : Nat) (fl : List Int) {I : ObsI} (dp : Nat) (st : RSt) (ev : Ow) (w : World) (h : RnG I B [.int .i64 m, .slice ga gn gc, .slice sa sn sc, .slice ya yn yc, .slice oa on oc, .slice va vn vc, .slice fa fn fc, .slice ba bn bc, .slice xa xn xc, .int .i64 (F : Int), .slice (some ⟨b3, 0, none⟩) fln c3] br b1 b2 b3 fl dp st ev w) (hs : st.steps = F) :
    Calls Try.prog 102 #[.pointer (some ⟨br, 0, none⟩)] w fun e w' => e = .returned (.bool false) ∧ RnG I B [.int .i64 m, .slice ga gn gc, .slice sa sn sc, .slice ya yn yc, .slice oa on oc, .slice va vn vc, .slice fa fn fc, .slice ba bn bc, .slice xa xn xc, .int .i64 (F : Int), .slice (some ⟨b3, 0, none⟩) fln c3] br b1 b2 b3 fl dp st.out ev w' ∧ Fr br b1 b2 ev ev w w' := by
  have HR : Hid (∀ n, RnG I B [.int .i64 m, .slice ga gn gc, .slice sa sn sc, .slice ya yn yc, .slice oa on oc, .slice va vn vc, .slice fa fn fc, .slice ba bn bc, .slice xa xn xc, .int .i64 (F : Int), .slice (some ⟨b3, 0, none⟩) fln c3] br b1 b2 b3 fl dp st.out ev ((w.drewN n).setCell ⟨br, 4, none⟩ (.int .i64 2)) ∧ Fr br b1 b2 ev ev w ((w.drewN n).setCell ⟨br, 4, none⟩ (.int .i64 2))) := fun n => ⟨(h.drewN n).setEnd 2, (fr_set0 (h.drewN n) _ _).drewN⟩
  have c4 := h.row 4 _ rfl
  have z4 := h.z0 4
  have c3 := h.row 3 _ rfl
  have c15 := h.row 15 _ rfl
  have hl := h.hi.1
  rw [hs] at c3
  clear h hs
  go_enter Try.func102, Try.ntmps102
  go_wp2_with fail
  go_quiet ((fail))
  go_wp2_with fail
  go_ret
  exact ⟨rfl, HR.out nq⟩

set_option maxHeartbeats 1000000 in
set_option maxRecDepth 100000 in
theorem valueR_any (m : Int) (ga : Option Addr) (gn gc : Nat) (sa : Option Addr) (sn sc : Nat) (ya : Option Addr) (yn yc : Nat) (oa : Option Addr) (on oc : Nat) (va : Option Addr) (vn vc : Nat) (fa : Option Addr) (fn fc : Nat) (ba : Option Addr) (bn bc : Nat) (xa : Option Addr) (xn xc : Nat) (F fln c3 : Nat) (B br b1 b2 b3 : Nat) (fl : List Int) {I : ObsI} (dp : Nat) (st : RSt) (ev : Ow) (K : Nat) (cs : List Value) (d : D) (w : World) (h : RnG I B [.int .i64 m, .slice ga gn gc, .slice sa sn sc, .slice ya yn yc, .slice oa on oc, .slice va vn vc, .slice fa fn fc, .slice ba bn bc, .slice xa xn xc, .int .i64 (F : Int), .slice (some ⟨b3, 0, none⟩) fln c3] br b1 b2 b3 fl dp st ev w) (hx : RX w K cs d) (ho : okX st.vars.length K d) (hi : ∀ x ∈ st.vars, I32 x) :
    Calls Try.prog 130 #[.pointer (some ⟨br, 0, none⟩), .agg cs.toArray] w fun e w' => e = .returned (.int .i64 (valX st.vars K d)) ∧ Below w.heap.size w w' := by
  obtain ⟨k0, n0, x0, l0, c0, rfl⟩ : ∃ k0 n0 x0 l0 c0, cs = [.int .i64 k0, .int .i64 n0, .slice x0 l0 c0] := by
    obtain ⟨a, c, hf⟩ := hx.form
    exact ⟨_, _, _, _, _, hf⟩
  have hbel : Below w.heap.size w (w.alloc (.cells #[.int .i64 k0, .int .i64 n0, .slice x0 l0 c0] 24)) := (Below.refl _ w).alloc (Nat.le_refl _) _
  have KV := hide fun W (hB : Below w.heap.size w W) => pval_any st.vars hi K _ d W _ (hx.over hB) ho (h.ints.over hB)
  have c1 := cell_over hbel _ _ (h.row 1 _ rfl)
  have e0 : (w.alloc (.cells #[.int .i64 k0, .int .i64 n0, .slice x0 l0 c0] 24)).cell? ⟨w.heap.size, 0, none⟩ = some (.int .i64 k0) := by simp [go_sem]
  have e1 : (w.alloc (.cells #[.int .i64 k0, .int .i64 n0, .slice x0 l0 c0] 24)).cell? ⟨w.heap.size, 1, none⟩ = some (.int .i64 n0) := by simp [go_sem]
  have e2 : (w.alloc (.cells #[.int .i64 k0, .int .i64 n0, .slice x0 l0 c0] 24)).cell? ⟨w.heap.size, 2, none⟩ = some (.slice x0 l0 c0) := by simp [go_sem]
  obtain ⟨vl, hvl⟩ : ∃ q, q = st.vars.length := ⟨_, rfl⟩
  obtain ⟨vx, hvx⟩ : ∃ q, q = valX st.vars K d := ⟨_, rfl⟩
  rw [← hvl] at c1 KV
  rw [← hvx] at KV ⊢
  clear h hx ho hi hvl hvx
  show Calls Try.prog 130 #[.pointer (some ⟨br, 0, none⟩), .agg #[.int .i64 k0, .int .i64 n0, .slice x0 l0 c0]] w _
  go_enter Try.func130, Try.ntmps130
  go_wp2_with fail
  go_region_held3 (fun W => W.cell? ⟨w.heap.size, 0, none⟩ = some (.int .i64 k0) ∧ W.cell? ⟨w.heap.size, 1, none⟩ = some (.int .i64 n0) ∧ W.cell? ⟨w.heap.size, 2, none⟩ = some (.slice x0 l0 c0) ∧ W.cell? ⟨br, 1, none⟩ = some (.slice (some ⟨b1, 0, none⟩) vl vl) ∧ Below w.heap.size w W) (first | assumption | exact ⟨e0, e1, e2, c1, below_drewN hbel 1⟩ | exact held4 (by assumption) hbp | fail) (first | (go_at_call 26; refine (KV.out _ (by assumption : _ ∧ _ ∧ _ ∧ _ ∧ Below _ _ _).2.2.2.2).mono ?_; rintro e wp ⟨rfl, hbp⟩))
  have hB := (by assumption : _ ∧ _ ∧ _ ∧ _ ∧ Below _ _ _).2.2.2.2
  go_wp2_with fail
  go_ret
  exact ⟨rfl, hB⟩

set_option maxHeartbeats 1000000 in
set_option maxRecDepth 100000 in
theorem tellR_any (m : Int) (ga : Option Addr) (gn gc : Nat) (sa : Option Addr) (sn sc : Nat) (ya : Option Addr) (yn yc : Nat) (oa : Option Addr) (on oc : Nat) (va : Option Addr) (vn vc : Nat) (fa : Option Addr) (fn fc : Nat) (ba : Option Addr) (bn bc : Nat) (xa : Option Addr) (xn xc : Nat) (F fln c3 : Nat) (B br b1 b2 b3 : Nat) (fl : List Int) {I : ObsI} (dp : Nat) (st : RSt) (ev : Ow) (k a c x : Int) (w : World) (h : RnG I B [.int .i64 m, .slice ga gn gc, .slice sa sn sc, .slice ya yn yc, .slice oa on oc, .slice va vn vc, .slice fa fn fc, .slice ba bn bc, .slice xa xn xc, .int .i64 (F : Int), .slice (some ⟨b3, 0, none⟩) fln c3] br b1 b2 b3 fl dp st ev w) (hl : st.ev.length ≤ 2000) :
    Calls Try.prog 133 #[.pointer (some ⟨br, 0, none⟩), .int .i64 k, .int .i64 a, .int .i64 c, .int .i64 x] w fun e w' => e = .returned (.tuple #[]) ∧ ∃ ev', RnG I B [.int .i64 m, .slice ga gn gc, .slice sa sn sc, .slice ya yn yc, .slice oa on oc, .slice va vn vc, .slice fa fn fc, .slice ba bn bc, .slice xa xn xc, .int .i64 (F : Int), .slice (some ⟨b3, 0, none⟩) fln c3] br b1 b2 b3 fl dp (st.tell (k, a, c, x)) ev' w' ∧ Fr br b1 b2 ev ev' w w' := by
  obtain ⟨i0, hi, hz0, hz1, hz2⟩ := info_parts Try.infoE
  have hbel : Below w.heap.size w (w.alloc (.cells #[.int .i64 k, .int .i64 a, .int .i64 c, .int .i64 x] 71)) := (Below.refl _ w).alloc (Nat.le_refl _) _
  have HR := hide (h.over hbel)
  have HF := hide (Fr.of_below (br := br) (b1 := b1) (b2 := b2) (ev := ev) hbel)
  have hnew := RowAt.newA #[.int .i64 k, .int .i64 a, .int .i64 c, .int .i64 x] 71 w
  have HN := hide hnew
  have hown := (HR.out).own
  have hB : B ≤ (w.alloc (.cells #[.int .i64 k, .int .i64 a, .int .i64 c, .int .i64 x] 71)).heap.size := HR.out.hi.2.2.2.2
  have c0 := h.row 0 _ rfl
  have c0' := cell_over hbel _ _ c0
  have z0 := h.z0 0
  have z0' := HR.out.z0 0
  have hlt := h.hi.1
  have hlt' := HR.out.hi.1
  clear h hnew
  go_enter Try.func133, Try.ntmps133
  go_wp2_with (at_builtin; refine wpList_append_own_at _ rfl _ _ 43 rfl B 71 i0 (.agg #[.int .i64 0, .int .i64 0, .int .i64 0, .int .i64 0]) 4 32 Try.underlying43 hi hz0 hz1 hz2 rfl (by decide) _ _ _ rfl hown ⟨w.heap.size, 0, none⟩ 1 1 [.int .i64 k, .int .i64 a, .int .i64 c, .int .i64 x] rfl rfl (fun jj u hu => by rw [Addr.add_lit, Nat.zero_add]; exact HN.out jj u hu) (by simp [Value.oneCell']) (by unfold maxLen; omega) (by omega) hB ?_)
  intro v2 w2 hown2 hgr2 _ hat
  obtain ⟨va2, vn2, vc2, rfl⟩ : ∃ a n c, v2 = .slice a n c := by
    rcases hown2.2 with ⟨h, _⟩ | ⟨g, cap, cur, h, _⟩
    · exact ⟨_, _, _, h⟩
    · exact ⟨_, _, _, h⟩
  have HE := hide (HR.out.grown (k, a, c, x) hgr2 hown2 (by simpa using hat))
  have z2 : w2.frozen? ⟨br, 0, none⟩ = false := (World.frozen?_of_block (hgr2.block br hlt' (fun hx => HR.out.evA.1 (Or.inl hx.symm)))).trans z0'
  have d0 := hgr2.cell c0' (fun hx => HR.out.evA.1 (Or.inl hx.symm))
  clear c0 c0' z0 z0' hown hown2 hgr2 hat hi hz0 hz1 hz2
  go_wp2_with fail
  go_end0
  exact ⟨rfl, _, HE.out.1, HF.out.trans HE.out.2⟩

set_option maxHeartbeats 1000000 in
set_option maxRecDepth 100000 in
theorem nextR_any (m : Int) (ga : Option Addr) (gn gc : Nat) (sa : Option Addr) (sn sc : Nat) (ya : Option Addr) (yn yc : Nat) (oa : Option Addr) (on oc : Nat) (va : Option Addr) (vn vc : Nat) (fa : Option Addr) (fn fc : Nat) (ba : Option Addr) (bn bc : Nat) (xa : Option Addr) (xn xc : Nat) (F fln c3 : Nat) (B br b1 b2 b3 : Nat) (fl : List Int) {I : ObsI} (dp : Nat) (st : RSt) (ev : Ow) (ins : List (List Int)) (c : Int) (w0 w : World) (hB0 : Below w0.heap.size w0 w) (h : RnG I B [.int .i64 m, .slice ga gn gc, .slice sa sn sc, .slice ya yn yc, .slice oa on oc, .slice va vn vc, .slice fa fn fc, .slice ba bn bc, .slice xa xn xc, .int .i64 (F : Int), .slice (some ⟨b3, 0, none⟩) fln c3] br b1 b2 b3 fl dp st ev w) (hBB : w0.heap.size ≤ b2) (hx : ListsAt w0 (.slice xa xn xc) ins) (h0 : 0 ≤ c) (h1 : c < ins.length) (h2 : ins.length = st.taken.length) (h3 : ∀ x ∈ st.taken, 0 ≤ x ∧ x ≤ 2000) (h4 : ∀ x ∈ ins, x.length ≤ 100) :
    Calls Try.prog 132 #[.pointer (some ⟨br, 0, none⟩), .int .i64 c] w fun e w' => e = .returned (.int .i64 (nextX ins st c)) ∧ RnG I B [.int .i64 m, .slice ga gn gc, .slice sa sn sc, .slice ya yn yc, .slice oa on oc, .slice va vn vc, .slice fa fn fc, .slice ba bn bc, .slice xa xn xc, .int .i64 (F : Int), .slice (some ⟨b3, 0, none⟩) fln c3] br b1 b2 b3 fl dp (st.took c) ev w' ∧ Fr br b1 b2 ev ev w w' ∧ w.grownBy w' (some b2) := by
  obtain ⟨n, rfl⟩ := Int.eq_ofNat_of_zero_le h0
  have hn : n < ins.length := by omega
  have hnt : n < st.taken.length := by omega
  obtain ⟨-, xo, xcap, hxe, hel⟩ := hx
  injection hxe with e1 e2 e3
  obtain ⟨xb, xoff, hbo, hel2⟩ := hel (by intro h; rw [h] at hn; simp at hn)
  have e1' := e1.trans hbo
  subst e1'
  obtain ⟨u, hu, ⟨la, lc, rfl, hli⟩, hul⟩ := hel2 n hn
  have hul2 : ins[n].length ≤ 100 := h4 _ (List.getElem_mem hn)
  obtain ⟨t, ht⟩ : ∃ t, t = st.taken[n] := ⟨_, rfl⟩
  have htb := h3 st.taken[n] (List.getElem_mem hnt)
  have hgt : st.taken.getD (n : Int).toNat 0 = t := by rw [ht]; simp [hnt]
  have hins : ins.getD (n : Int).toNat [] = ins[n] := by simp [hn]
  have hnx : nextX ins st n = ins[n].getD t.toNat 0 := by unfold nextX; rw [hgt, hins]
  rw [← ht] at htb
  have c2 := h.row 2 _ rfl
  have c14 := h.row 14 _ rfl
  have t0 : w.cell? ⟨b2, n, none⟩ = some (.int .i64 t) := by rw [ht]; exact h.taken n _ (by simp [hnt])
  have z2 := h.z2 n
  have q := cell_over hB0 _ _ hu
  have hxb : xb < w0.heap.size := World.block_lt_of_cell? w0 _ hu
  have hxb2 : xb ≠ b2 := by omega
  have HR : Hid (∀ k, RnG I B [.int .i64 m, .slice ga gn gc, .slice sa sn sc, .slice ya yn yc, .slice oa on oc, .slice va vn vc, .slice fa fn fc, .slice ba bn bc, .slice (some ⟨xb, xoff, none⟩) xn xc, .int .i64 (F : Int), .slice (some ⟨b3, 0, none⟩) fln c3] br b1 b2 b3 fl dp (st.took n) ev ((w.drewN k).setCell ⟨b2, n, none⟩ (.int .i64 (t + 1))) ∧ Fr br b1 b2 ev ev w ((w.drewN k).setCell ⟨b2, n, none⟩ (.int .i64 (t + 1)))) := fun k => by
    have := (h.drewN k).setTaken n (t + 1) hnt
    refine ⟨?_, (fr_set2 (h.drewN k) _ _).drewN⟩
    unfold RSt.took
    rw [hgt]
    simpa using this
  have hl0 := h.hi.1
  have hl2 := h.hi.2.2.1
  have hap := h.apart.2.1
  have htl : (n : Int) < (st.taken.length : Int) := by omega
  have hxl : (n : Int) < (xn : Int) := by omega
  obtain ⟨tl, htle⟩ : ∃ q, q = st.taken.length := ⟨_, rfl⟩
  rw [← htle] at c2 htl
  obtain ⟨ll, hll⟩ : ∃ q, q = ins[n].length := ⟨_, rfl⟩
  rw [← hll] at q hul2
  by_cases hlt : t.toNat < ins[n].length
  · obtain ⟨lb, loff, hlb, hlc⟩ := hli (by intro hz; rw [hz] at hlt; simp at hlt)
    have r0 := hlc t.toNat hlt
    have hlbb : lb < w0.heap.size := World.block_lt_of_cell? w0 _ r0
    have r1 := cell_over hB0 _ _ r0
    have hlb2 : lb ≠ b2 := by omega
    have hv : ins[n].getD t.toNat 0 = ins[n][t.toNat] := by simp [hlt]
    rw [hnx, hv]
    obtain ⟨y, hy⟩ : ∃ y, y = ins[n][t.toNat] := ⟨_, rfl⟩
    rw [← hy] at r1 ⊢
    subst hlb
    have hlt2 : t < (ll : Int) := by omega
    obtain ⟨ht1, ht2⟩ := htb
    obtain ⟨tn, rfl⟩ := Int.eq_ofNat_of_zero_le ht1
    rw [Int.toNat_natCast] at r1
    clear h hel hel2 hli hlc hu r0 hnx hv hy hgt hins e1 e2 e3 hbo hB0 ht h3 h4 hll htle hul
    go_enter Try.func132, Try.ntmps132
    go_wp2_with fail
    go_quiet ((fail))
    go_wp2_with fail
    go_ret
    exact ⟨rfl, (HR.out nq).1, (HR.out nq).2, grow_set⟩
  · have hv : ins[n].getD t.toNat 0 = 0 := by
      rw [List.getD_eq_getElem?_getD, List.getElem?_eq_none (by omega)]; rfl
    rw [hnx, hv]
    have hlt2 : ¬ t < (ll : Int) := by omega
    obtain ⟨ht1, ht2⟩ := htb
    obtain ⟨tn, rfl⟩ := Int.eq_ofNat_of_zero_le ht1
    clear h hel hel2 hli hu hnx hv hgt hins e1 e2 e3 hbo hB0 ht h3 h4 hll htle hul
    go_enter Try.func132, Try.ntmps132
    go_wp2_with fail
    go_quiet ((fail))
    go_wp2_with fail
    go_ret
    exact ⟨rfl, (HR.out nq).1, (HR.out nq).2, grow_set⟩
/-- all but some blocks are kept. -/
structure FrX (X : Nat → Prop) (w w' : World) : Prop where
  os : w'.os = w.os
  tape : w'.tape = w.tape
  output : w'.output = w.output
  size : w.heap.size ≤ w'.heap.size
  block : ∀ k, k < w.heap.size → ¬ X k → w'.heap[k]? = w.heap[k]?
theorem FrX.row {X : Nat → Prop} {w w' : World} (h : FrX X w w') {cs : List Value} {b : Nat} (hr : RowAt cs w b) (hx : ¬ X b) : RowAt cs w' b := fun j u hu =>
  (World.cell?_of_block (h.block b (World.block_lt_of_cell? w _ (hr j u hu)) hx)).trans (hr j u hu)
/-- behind one who watches. -/
theorem RnG.may {I : ObsI} {B : Nat} {R : List Value} {br b1 b2 b3 : Nat} {fl : List Int} {dp : Nat} {st : RSt} {ev : Ow} {w w' : World} (h : RnG I B R br b1 b2 b3 fl dp st ev w) {o' : WSt} {X' : Nat → Prop} (hF : FrX ev.X w w') (hX : ∀ k, X' k → ev.X k ∨ w.heap.size ≤ k) (hI : I.In (Yb br b1 b2 ev.ev) o' X' w') (hok : I.ok dp o') :
    RnG I B R br b1 b2 b3 fl dp (st.held o') ⟨ev.ev, X'⟩ w' ∧ Fr br b1 b2 ev ⟨ev.ev, X'⟩ w w' := by
  have hi := h.hi
  have hs := hF.size
  have x0 : ¬ ev.X br := fun q => h.evA.1 (Or.inr q)
  have x1 : ¬ ev.X b1 := fun q => h.evA.2.1 (Or.inr q)
  have x2 : ¬ ev.X b2 := fun q => h.evA.2.2.1 (Or.inr q)
  have x3 : ¬ ev.X b3 := fun q => h.evA.2.2.2 (Or.inr q)
  have hn : ∀ b, b < w.heap.size → ¬ ev.at b → ¬ (Ow.mk ev.ev X').at b := fun b hb hx hy => by
    rcases hy with hy | hy
    · exact hx (Or.inl hy)
    · rcases hX b hy with hz | hz
      · exact hx (Or.inr hz)
      · omega
  have hz : ∀ b j, b < w.heap.size → ¬ ev.X b → w'.frozen? ⟨b, j, none⟩ = w.frozen? ⟨b, j, none⟩ := fun b j hb hx => World.frozen?_of_block (hF.block b hb hx)
  constructor
  · refine ⟨hF.row h.row x0, hF.row h.vars x1, hF.row h.taken x2, hF.row h.first x3, ?_, fun j => (hz _ _ hi.1 x0).trans (h.z0 j), fun j => (hz _ _ hi.2.1 x1).trans (h.z1 j), fun j => (hz _ _ hi.2.2.1 x2).trans (h.z2 j), h.apart, ⟨hn _ hi.1 h.evA.1, hn _ hi.2.1 h.evA.2.1, hn _ hi.2.2.1 h.evA.2.2.1, hn _ hi.2.2.2.1 h.evA.2.2.2⟩, h.lo, ⟨by omega, by omega, by omega, by omega, by omega⟩, hI, fun k hk => ?_, hok⟩
    · refine ⟨h.own.1, ?_⟩
      rcases h.own.2 with hh | ⟨g, cap, cur, hv, hb, hg, rest⟩
      · exact Or.inl hh
      · refine Or.inr ⟨g, cap, cur, hv, hb, ?_, rest⟩
        rw [hF.block g (Array.getElem?_eq_some_iff.1 hg).1 (fun q => (I.lt h.ob g q).2 (Or.inr (Or.inr (Or.inr (by rw [hv]; rfl)))))]
        exact hg
    · rcases hX k hk with hz | hz
      · exact h.xlo k hz
      · omega
  · refine ⟨hF.os, hF.tape, hF.output, hF.size, fun k hk _ _ _ hx => hF.block k hk (fun q => hx (Or.inr q)), fun k hk => ?_⟩
    rcases hk with hk | hk
    · exact Or.inl (Or.inl hk)
    · rcases hX k hk with hz | hz
      · exact Or.inl (Or.inr hz)
      · exact Or.inr hz

/-- what one who watches answers, called. -/
def MayOk (I : ObsI) (w0 : World) (K nv ni no : Nat) (fs : List FnD) : Prop :=
  ∀ (Y : Nat → Prop) (s : WSt) (X : Nat → Prop) (W : World) (kind : Nat) (a : Int) (dp k : Nat) (cs : List Value) (d : D) (funcs : Int), I.In Y s X W → Below w0.heap.size w0 W → RS w0 K k cs d → funcs ≤ fs.length → okS K nv ni no funcs fs k d → 0 ≤ a → a ≤ 100 → dp ≤ 9000 → I.ok dp s →
    (kind = 1 ∨ (kind = 2 ∧ sKind d = 8 ∧ I.ok (dp + 1) s) ∨ (kind = 3 ∧ sKind d = 2)) →
    Calls Try.prog I.fn (.agg (.int .i64 kind :: .int .i64 a :: .int .i64 dp :: cs).toArray :: I.cap).toArray W fun e W' => e = .returned (.bool (I.ob kind a dp d s).1) ∧ ∃ X', I.In Y (I.ob kind a dp d s).2 X' W' ∧ (∀ k, X' k → X k ∨ W.heap.size ≤ k) ∧ FrX X W W' ∧ I.ok dp (I.ob kind a dp d s).2 ∧
      ((I.ob kind a dp d s).1 = true → (kind = 1 ∧ (sKind d = 7 ∨ sKind d = 8)) ∨ kind = 2 → I.ok (dp + 1) (I.ob kind a dp d s).2)
/-- how it goes on, in memory. -/
def PassP (I : ObsI) (B : Nat) (R : List Value) (br b1 b2 b3 : Nat) (fl : List Int) (dp : Nat) (kind : Nat) (d : D) (r : Bool × RSt) (ev : Ow) (w : World) (e : Ending) (w' : World) : Prop :=
  e = .returned (.bool r.1) ∧ ∃ ev', RnG I B R br b1 b2 b3 fl dp r.2 ev' w' ∧ Fr br b1 b2 ev ev' w w' ∧ (r.1 = true → (kind = 1 ∧ (sKind d = 7 ∨ sKind d = 8)) ∨ kind = 2 → I.ok (dp + 1) r.2.o)

set_option maxHeartbeats 4000000 in
set_option maxRecDepth 100000 in
theorem passes_any (m : Int) (ga : Option Addr) (gn gc : Nat) (sa : Option Addr) (sn sc : Nat) (ya : Option Addr) (yn yc : Nat) (oa : Option Addr) (on oc : Nat) (va : Option Addr) (vn vc : Nat) (fa : Option Addr) (fn fc : Nat) (ba : Option Addr) (bn bc : Nat) (xa : Option Addr) (xn xc : Nat) (F fln c3 : Nat) (B br b1 b2 b3 : Nat) (fl : List Int) {I : ObsI} (dp : Nat) (st : RSt) (ev : Ow) (K k : Nat) (fs : List FnD) (w0 : World) (kind : Nat) (a : Int) (kd vr ot ek en : Int) (ea : Option Addr) (el ec : Nat) (aa : Option Addr) (al ac : Nat) (ta : Option Addr) (tl tc : Nat) (la : Option Addr) (ll lc : Nat) (d : D) (funcs : Int) (w : World) (hM : MayOk I w0 K vn yn on fs) (hB0 : Below w0.heap.size w0 w) (h : RnG I B [.int .i64 m, .slice ga gn gc, .slice sa sn sc, .slice ya yn yc, .slice oa on oc, .slice va vn vc, .slice fa fn fc, .slice ba bn bc, .slice xa xn xc, .int .i64 (F : Int), .slice (some ⟨b3, 0, none⟩) fln c3] br b1 b2 b3 fl dp st ev w) (hs : RS w0 K k [.int .i64 kd, .int .i64 vr, .int .i64 ot, .int .i64 ek, .int .i64 en, .slice ea el ec, .slice aa al ac, .slice ta tl tc, .slice la ll lc] d) (hf : funcs ≤ fs.length) (ho : okS K vn yn on funcs fs k d) (ha0 : 0 ≤ a) (ha1 : a ≤ 100) (hdp : dp ≤ 9000) (hkind : kind = 1 ∨ (kind = 2 ∧ sKind d = 8 ∧ I.ok (dp + 1) st.o) ∨ (kind = 3 ∧ sKind d = 2)) :
    Calls Try.prog 103 #[.pointer (some ⟨br, 0, none⟩), .int .i64 (kind : Int), .agg #[.int .i64 kd, .int .i64 vr, .int .i64 ot, .int .i64 ek, .int .i64 en, .slice ea el ec, .slice aa al ac, .slice ta tl tc, .slice la ll lc], .int .i64 a] w (PassP I B [.int .i64 m, .slice ga gn gc, .slice sa sn sc, .slice ya yn yc, .slice oa on oc, .slice va vn vc, .slice fa fn fc, .slice ba bn bc, .slice xa xn xc, .int .i64 (F : Int), .slice (some ⟨b3, 0, none⟩) fln c3] br b1 b2 b3 fl dp kind d (passR I.ob kind a dp d st) ev w) := by
  have hbel : Below w.heap.size w (w.alloc (.cells #[.int .i64 kd, .int .i64 vr, .int .i64 ot, .int .i64 ek, .int .i64 en, .slice ea el ec, .slice aa al ac, .slice ta tl tc, .slice la ll lc] 78)) := (Below.refl _ w).alloc (Nat.le_refl _) _
  have hbd : Below w.heap.size w (w.alloc (.cells #[.int .i64 kd, .int .i64 vr, .int .i64 ot, .int .i64 ek, .int .i64 en, .slice ea el ec, .slice aa al ac, .slice ta tl tc, .slice la ll lc] 78)).drew := below_drewN hbel 1
  have h2 := h.over hbd
  have KM := hide (hM _ st.o ev.X (w.alloc (.cells #[.int .i64 kd, .int .i64 vr, .int .i64 ot, .int .i64 ek, .int .i64 en, .slice ea el ec, .slice aa al ac, .slice ta tl tc, .slice la ll lc] 78)).drew kind a dp k [.int .i64 kd, .int .i64 vr, .int .i64 ot, .int .i64 ek, .int .i64 en, .slice ea el ec, .slice aa al ac, .slice ta tl tc, .slice la ll lc] d funcs h2.ob (hB0.trans (hbd.mono hB0.size)) hs hf ho ha0 ha1 hdp h.okd hkind)
  have HR := hide h2
  have HF := hide (Fr.of_below (br := br) (b1 := b1) (b2 := b2) (ev := ev) hbd)
  have HBX : Hid (∀ ev' w', Fr br b1 b2 ev ev' (w.alloc (.cells #[.int .i64 kd, .int .i64 vr, .int .i64 ot, .int .i64 ek, .int .i64 en, .slice ea el ec, .slice aa al ac, .slice ta tl tc, .slice la ll lc] 78)).drew w' → ∀ j u, (w.alloc (.cells #[.int .i64 kd, .int .i64 vr, .int .i64 ot, .int .i64 ek, .int .i64 en, .slice ea el ec, .slice aa al ac, .slice ta tl tc, .slice la ll lc] 78)).cell? ⟨w.heap.size, j, none⟩ = some u → w'.cell? ⟨w.heap.size, j, none⟩ = some u) := fun ev' w' hF j u hc => h.box hF (Nat.le_refl _) (show (w.alloc _).drew.cell? _ = _ from hc)
  have hrow := RowAt.newA #[.int .i64 kd, .int .i64 vr, .int .i64 ot, .int .i64 ek, .int .i64 en, .slice ea el ec, .slice aa al ac, .slice ta tl tc, .slice la ll lc] 78 w
  have q17 := cell_over hbel _ _ (h.row 17 _ rfl)
  have q18 := cell_over hbel _ _ (h.row 18 _ rfl)
  have e0 : (w.alloc (.cells #[.int .i64 kd, .int .i64 vr, .int .i64 ot, .int .i64 ek, .int .i64 en, .slice ea el ec, .slice aa al ac, .slice ta tl tc, .slice la ll lc] 78)).cell? ⟨w.heap.size, 0, none⟩ = some (.int .i64 kd) := hrow 0 _ rfl
  have e1 : (w.alloc (.cells #[.int .i64 kd, .int .i64 vr, .int .i64 ot, .int .i64 ek, .int .i64 en, .slice ea el ec, .slice aa al ac, .slice ta tl tc, .slice la ll lc] 78)).cell? ⟨w.heap.size, 1, none⟩ = some (.int .i64 vr) := hrow 1 _ rfl
  have e2 : (w.alloc (.cells #[.int .i64 kd, .int .i64 vr, .int .i64 ot, .int .i64 ek, .int .i64 en, .slice ea el ec, .slice aa al ac, .slice ta tl tc, .slice la ll lc] 78)).cell? ⟨w.heap.size, 2, none⟩ = some (.int .i64 ot) := hrow 2 _ rfl
  have e3 : (w.alloc (.cells #[.int .i64 kd, .int .i64 vr, .int .i64 ot, .int .i64 ek, .int .i64 en, .slice ea el ec, .slice aa al ac, .slice ta tl tc, .slice la ll lc] 78)).cell? ⟨w.heap.size, 3, none⟩ = some (.int .i64 ek) := hrow 3 _ rfl
  have e4 : (w.alloc (.cells #[.int .i64 kd, .int .i64 vr, .int .i64 ot, .int .i64 ek, .int .i64 en, .slice ea el ec, .slice aa al ac, .slice ta tl tc, .slice la ll lc] 78)).cell? ⟨w.heap.size, 4, none⟩ = some (.int .i64 en) := hrow 4 _ rfl
  have e5 : (w.alloc (.cells #[.int .i64 kd, .int .i64 vr, .int .i64 ot, .int .i64 ek, .int .i64 en, .slice ea el ec, .slice aa al ac, .slice ta tl tc, .slice la ll lc] 78)).cell? ⟨w.heap.size, 5, none⟩ = some (.slice ea el ec) := hrow 5 _ rfl
  have e6 : (w.alloc (.cells #[.int .i64 kd, .int .i64 vr, .int .i64 ot, .int .i64 ek, .int .i64 en, .slice ea el ec, .slice aa al ac, .slice ta tl tc, .slice la ll lc] 78)).cell? ⟨w.heap.size, 6, none⟩ = some (.slice aa al ac) := hrow 6 _ rfl
  have e7 : (w.alloc (.cells #[.int .i64 kd, .int .i64 vr, .int .i64 ot, .int .i64 ek, .int .i64 en, .slice ea el ec, .slice aa al ac, .slice ta tl tc, .slice la ll lc] 78)).cell? ⟨w.heap.size, 7, none⟩ = some (.slice ta tl tc) := hrow 7 _ rfl
  have e8 : (w.alloc (.cells #[.int .i64 kd, .int .i64 vr, .int .i64 ot, .int .i64 ek, .int .i64 en, .slice ea el ec, .slice aa al ac, .slice ta tl tc, .slice la ll lc] 78)).cell? ⟨w.heap.size, 8, none⟩ = some (.slice la ll lc) := hrow 8 _ rfl
  have hpass : passR I.ob kind a dp d st = if (I.ob kind a dp d st.o).1 = true then (true, st.held (I.ob kind a dp d st.o).2) else (false, st.stop a (I.ob kind a dp d st.o).2) := rfl
  rw [hpass]
  obtain ⟨ro, hro⟩ : ∃ ro, ro = I.ob kind a dp d st.o := ⟨_, rfl⟩
  rw [← hro] at KM ⊢
  have hl := h2.hi.1
  clear h h2 hbel hbd hrow hM hB0 hs hf ho ha0 ha1 hdp hkind hpass hro
  unfold PassP
  have hC := I.ent
  obtain ⟨rb, ros⟩ := ro
  dsimp only at KM ⊢
  go_enter Try.func103, Try.ntmps103
  go_wp2_with fail
  refine wp_region_held_drew (S := fun Wz => Wz.cell? ⟨br, 17, none⟩ = some (.int .i64 (dp : Int)) ∧ Wz.cell? ⟨br, 18, none⟩ = some (.func (.func I.fn) #[] I.cap.toArray) ∧ Wz.cell? ⟨w.heap.size, 0, none⟩ = some (.int .i64 kd) ∧ Wz.cell? ⟨w.heap.size, 1, none⟩ = some (.int .i64 vr) ∧ Wz.cell? ⟨w.heap.size, 2, none⟩ = some (.int .i64 ot) ∧ Wz.cell? ⟨w.heap.size, 3, none⟩ = some (.int .i64 ek) ∧ Wz.cell? ⟨w.heap.size, 4, none⟩ = some (.int .i64 en) ∧ Wz.cell? ⟨w.heap.size, 5, none⟩ = some (.slice ea el ec) ∧ Wz.cell? ⟨w.heap.size, 6, none⟩ = some (.slice aa al ac) ∧ Wz.cell? ⟨w.heap.size, 7, none⟩ = some (.slice ta tl tc) ∧ Wz.cell? ⟨w.heap.size, 8, none⟩ = some (.slice la ll lc)) (by kernel_rfl) (⟨q17, q18, e0, e1, e2, e3, e4, e5, e6, e7, e8⟩) (fun hHeld => ?_)
  refine tk (i := 0) (oi := ⟨some 9, .move (.tmp 0), 73, "runner.go:57", #[], none⟩) (v := ?_) (Or.inl ⟨by rfl, ?_⟩) (by assumption) ?_
  rotate_left
  · intro w' hSw
    (try dsimp only at hSw)
    go_simp
    try with_reducible rfl
  try simp only [aput]
  refine tk (i := 1) (oi := ⟨some 10, .nilCheck (.tmp 9), 0, "runner.go:57", #[⟨0, .data⟩], none⟩) (v := ?_) (Or.inl ⟨by rfl, ?_⟩) (by assumption) ?_
  rotate_left
  · intro w' hSw
    (try dsimp only at hSw)
    go_simp
    try with_reducible rfl
  try simp only [aput]
  refine tk (i := 2) (oi := ⟨some 11, .fieldAddr 83 (.tmp 10) 6, 0, "runner.go:57", #[⟨1, .data⟩], none⟩) (v := ?_) (Or.inl ⟨by rfl, ?_⟩) (by assumption) ?_
  rotate_left
  · intro w' hSw
    (try dsimp only at hSw)
    go_simp
    try with_reducible rfl
  try simp only [aput]
  refine tk (i := 3) (oi := ⟨some 12, .load 81 (.tmp 11), 81, "runner.go:57", #[⟨2, .data⟩], none⟩) (v := ?_) (Or.inl ⟨by rfl, ?_⟩) (by assumption) ?_
  rotate_left
  · intro w' hSw
    (try dsimp only at hSw)
    go_simp
    try with_reducible rfl
  try simp only [aput]
  refine tk (i := 4) (oi := ⟨some 13, .move (.tmp 1), 3, "runner.go:57", #[], none⟩) (v := ?_) (Or.inl ⟨by rfl, ?_⟩) (by assumption) ?_
  rotate_left
  · intro w' hSw
    (try dsimp only at hSw)
    go_simp
    try with_reducible rfl
  try simp only [aput]
  refine tk (i := 5) (oi := ⟨some 14, .move (.tmp 3), 3, "runner.go:57", #[], none⟩) (v := ?_) (Or.inl ⟨by rfl, ?_⟩) (by assumption) ?_
  rotate_left
  · intro w' hSw
    (try dsimp only at hSw)
    go_simp
    try with_reducible rfl
  try simp only [aput]
  refine tk (i := 6) (oi := ⟨some 15, .move (.tmp 0), 73, "runner.go:57", #[], none⟩) (v := ?_) (Or.inl ⟨by rfl, ?_⟩) (by assumption) ?_
  rotate_left
  · intro w' hSw
    (try dsimp only at hSw)
    go_simp
    try with_reducible rfl
  try simp only [aput]
  refine tk (i := 7) (oi := ⟨some 16, .nilCheck (.tmp 15), 0, "runner.go:57", #[⟨6, .data⟩], none⟩) (v := ?_) (Or.inl ⟨by rfl, ?_⟩) (by assumption) ?_
  rotate_left
  · intro w' hSw
    (try dsimp only at hSw)
    go_simp
    try with_reducible rfl
  try simp only [aput]
  refine tk (i := 8) (oi := ⟨some 17, .fieldAddr 83 (.tmp 16) 5, 0, "runner.go:57", #[⟨7, .data⟩], none⟩) (v := ?_) (Or.inl ⟨by rfl, ?_⟩) (by assumption) ?_
  rotate_left
  · intro w' hSw
    (try dsimp only at hSw)
    go_simp
    try with_reducible rfl
  try simp only [aput]
  refine tk (i := 9) (oi := ⟨some 18, .load 3 (.tmp 17), 3, "runner.go:57", #[⟨8, .data⟩], none⟩) (v := ?_) (Or.inl ⟨by rfl, ?_⟩) (by assumption) ?_
  rotate_left
  · intro w' hSw
    (try dsimp only at hSw)
    go_simp
    try with_reducible rfl
  try simp only [aput]
  refine tk (i := 10) (oi := ⟨some 19, .load 78 (.tmp 6), 78, "runner.go:57", #[], none⟩) (v := ?_) (Or.inl ⟨by rfl, ?_⟩) (by assumption) ?_
  rotate_left
  · intro w' hSw
    (try dsimp only at hSw)
    go_simp
    try with_reducible rfl
  try simp only [aput]
  refine tk (i := 11) (oi := ⟨some 20, .build 80 #[(0, .tmp 13), (1, .tmp 14), (2, .tmp 18), (3, .tmp 19)], 80, "runner.go:57", #[⟨4, .data⟩, ⟨5, .data⟩, ⟨9, .data⟩, ⟨10, .data⟩], none⟩) (v := ?_) (Or.inl ⟨by rfl, ?_⟩) (by assumption) ?_
  rotate_left
  · intro w' hSw
    (try dsimp only at hSw)
    go_simp
    try with_reducible rfl
  try simp only [aput]
  refine wpAnyH_ready (rs := [12]) (by kernel_rfl) (by simp) ?_
  refine AllReadyH.cons (o := { dst := some 21, op := Go.Op.call { callee := Go.Callee.value (Go.Operand.tmp 12), args := #[Go.Operand.tmp 20], argTypes := #[80] }, type := 4, pos := "runner.go:57", after := #[⟨3, .data⟩, ⟨11, .data⟩], guard := none }) rfl (fun K hK => ?_) AllReadyH.nil
  go_simp
  refine (KM.out).mono ?_
  rintro e W2 ⟨rfl, X', hI2, hX2, hF2, hok2, hnx⟩
  have hm := HR.out.may hF2 hX2 hI2 hok2
  have HRM := hide hm.1
  have HFM := hide hm.2
  have HNX := hide hnx
  have g17 := HRM.out.row 17 _ rfl
  have g18 := HRM.out.row 18 _ rfl
  have g0 := HBX.out _ _ HFM.out 0 _ e0
  have g1 := HBX.out _ _ HFM.out 1 _ e1
  have g2 := HBX.out _ _ HFM.out 2 _ e2
  have g3 := HBX.out _ _ HFM.out 3 _ e3
  have g4 := HBX.out _ _ HFM.out 4 _ e4
  have g5 := HBX.out _ _ HFM.out 5 _ e5
  have g6 := HBX.out _ _ HFM.out 6 _ e6
  have g7 := HBX.out _ _ HFM.out 7 _ e7
  have g8 := HBX.out _ _ HFM.out 8 _ e8
  clear KM hI2 hX2 hF2 hok2 hm hnx HR HBX
  go_simp
  refine hK.out _ _ (⟨g17, g18, g0, g1, g2, g3, g4, g5, g6, g7, g8⟩) (fun hHeld => ?_)
  clear hK K
  try simp only [aput]
  refine wpAnyH_done (by kernel_rfl) ?_ _
  cases rb with
  | true =>
    go_wp2_with fail
    go_ret
    exact ⟨rfl, _, HRM.out, HF.out.trans HFM.out, fun hk => HNX.out (by first | rfl | trivial) hk⟩
  | false =>
    have c4 := HRM.out.row 4 _ rfl
    have c5 := HRM.out.row 5 _ rfl
    have z4 := HRM.out.z0 4
    have z5 := HRM.out.z0 5
    have hl2 := HRM.out.hi.1
    have HE := hide ((HRM.out.setEnd 3).setStop a)
    have HG := hide ((fr_set0 HRM.out 4 (.int .i64 3)).trans (fr_set0 (HRM.out.setEnd 3) 5 (.int .i64 a)))
    go_wp2_with fail
    go_ret
    exact ⟨rfl, _, HE.out, HF.out.trans (HFM.out.trans HG.out)⟩
end Go.Proofs.Ytcbbjjenkommeaa.Ex
