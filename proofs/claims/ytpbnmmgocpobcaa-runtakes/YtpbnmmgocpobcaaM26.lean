/- Small steps of the one who runs. -/
import Derived.Test.YtpbnmmgocpobcaaM25
namespace Go.Proofs.Ytpbnmmgocpobcaa.Ex
open Go.RowKit
set_option linter.unusedVariables false


theorem RnG.drewN {B : Nat} {R : List Value} {br b1 b2 b3 : Nat} {fl : List Int} {en : Int} {st : RSt} {ev : Value} {w : World} (h : RnG B R br b1 b2 b3 fl en st ev w) (n : Nat) : RnG B R br b1 b2 b3 fl en st ev (w.drewN n) := h.over (below_drewN (Below.refl _ _) n)
theorem Fr.drewN {br b1 b2 : Nat} {ev ev1 : Value} {w w1 : World} (n : Nat) (h : Fr br b1 b2 ev ev1 (w.drewN n) w1) : Fr br b1 b2 ev ev1 w w1 := (Fr.of_below (below_drewN (Below.refl _ w) n)).trans h

set_option maxHeartbeats 1000000 in
set_option maxRecDepth 100000 in
theorem step_yes (m : Int) (ga : Option Addr) (gn gc : Nat) (sa : Option Addr) (sn sc : Nat) (ya : Option Addr) (yn yc : Nat) (oa : Option Addr) (on oc : Nat) (va : Option Addr) (vn vc : Nat) (fa : Option Addr) (fn fc : Nat) (ba : Option Addr) (bn bc : Nat) (xa : Option Addr) (xn xc : Nat) (F fln c3 : Nat) (B br b1 b2 b3 : Nat) (fl : List Int) (en : Int) (st : RSt) (ev : Value) (w : World) (h : RnG B [.int .i64 m, .slice ga gn gc, .slice sa sn sc, .slice ya yn yc, .slice oa on oc, .slice va vn vc, .slice fa fn fc, .slice ba bn bc, .slice xa xn xc, .int .i64 (F : Int), .slice (some ⟨b3, 0, none⟩) fln c3] br b1 b2 b3 fl en st ev w) (hs : st.steps < F) (hF : F ≤ 2000) :
    Calls Try.prog 31 #[.pointer (some ⟨br, 0, none⟩)] w fun e w' => e = .returned (.bool true) ∧ RnG B [.int .i64 m, .slice ga gn gc, .slice sa sn sc, .slice ya yn yc, .slice oa on oc, .slice va vn vc, .slice fa fn fc, .slice ba bn bc, .slice xa xn xc, .int .i64 (F : Int), .slice (some ⟨b3, 0, none⟩) fln c3] br b1 b2 b3 fl en st.step ev w' ∧ Fr br b1 b2 ev ev w w' := by
  have HR : Hid (∀ n, RnG B [.int .i64 m, .slice ga gn gc, .slice sa sn sc, .slice ya yn yc, .slice oa on oc, .slice va vn vc, .slice fa fn fc, .slice ba bn bc, .slice xa xn xc, .int .i64 (F : Int), .slice (some ⟨b3, 0, none⟩) fln c3] br b1 b2 b3 fl en st.step ev ((w.drewN n).setCell ⟨br, 3, none⟩ (.int .i64 ((st.steps : Int) + 1))) ∧ Fr br b1 b2 ev ev w ((w.drewN n).setCell ⟨br, 3, none⟩ (.int .i64 ((st.steps : Int) + 1)))) := fun n => ⟨(h.drewN n).setStep, (fr_set0 (h.drewN n) _ _).drewN⟩
  have c3 := h.row 3 _ rfl
  have c15 := h.row 15 _ rfl
  have z3 := h.z0 3
  have hl := h.hi.1
  obtain ⟨s, hsn⟩ : ∃ q, q = st.steps := ⟨_, rfl⟩
  rw [← hsn] at c3 HR hs
  have hne : ((s : Int) == (F : Int)) = false := by simp; omega
  clear h hsn
  go_enter Try.func31, Try.ntmps31
  go_wp2_with fail
  go_quiet ((fail))
  go_wp2_with fail
  go_ret
  exact ⟨rfl, HR.out nq⟩

set_option maxHeartbeats 1000000 in
set_option maxRecDepth 100000 in
theorem step_no (m : Int) (ga : Option Addr) (gn gc : Nat) (sa : Option Addr) (sn sc : Nat) (ya : Option Addr) (yn yc : Nat) (oa : Option Addr) (on oc : Nat) (va : Option Addr) (vn vc : Nat) (fa : Option Addr) (fn fc : Nat) (ba : Option Addr) (bn bc : Nat) (xa : Option Addr) (xn xc : Nat) (F fln c3 : Nat) (B br b1 b2 b3 : Nat) (fl : List Int) (en : Int) (st : RSt) (ev : Value) (w : World) (h : RnG B [.int .i64 m, .slice ga gn gc, .slice sa sn sc, .slice ya yn yc, .slice oa on oc, .slice va vn vc, .slice fa fn fc, .slice ba bn bc, .slice xa xn xc, .int .i64 (F : Int), .slice (some ⟨b3, 0, none⟩) fln c3] br b1 b2 b3 fl en st ev w) (hs : st.steps = F) :
    Calls Try.prog 31 #[.pointer (some ⟨br, 0, none⟩)] w fun e w' => e = .returned (.bool false) ∧ RnG B [.int .i64 m, .slice ga gn gc, .slice sa sn sc, .slice ya yn yc, .slice oa on oc, .slice va vn vc, .slice fa fn fc, .slice ba bn bc, .slice xa xn xc, .int .i64 (F : Int), .slice (some ⟨b3, 0, none⟩) fln c3] br b1 b2 b3 fl en st ev w' ∧ Fr br b1 b2 ev ev w w' := by
  have HR : Hid (∀ n, RnG B [.int .i64 m, .slice ga gn gc, .slice sa sn sc, .slice ya yn yc, .slice oa on oc, .slice va vn vc, .slice fa fn fc, .slice ba bn bc, .slice xa xn xc, .int .i64 (F : Int), .slice (some ⟨b3, 0, none⟩) fln c3] br b1 b2 b3 fl en st ev (w.drewN n) ∧ Fr br b1 b2 ev ev w (w.drewN n)) := fun n => ⟨h.drewN n, Fr.of_below (below_drewN (Below.refl _ _) n)⟩
  have c3 := h.row 3 _ rfl
  have c15 := h.row 15 _ rfl
  have hl := h.hi.1
  rw [hs] at c3
  clear h hs
  go_enter Try.func31, Try.ntmps31
  go_wp2_with fail
  go_quiet ((fail))
  go_wp2_with fail
  go_ret
  exact ⟨rfl, HR.out nq⟩

set_option maxHeartbeats 1000000 in
set_option maxRecDepth 100000 in
theorem valueR_any (m : Int) (ga : Option Addr) (gn gc : Nat) (sa : Option Addr) (sn sc : Nat) (ya : Option Addr) (yn yc : Nat) (oa : Option Addr) (on oc : Nat) (va : Option Addr) (vn vc : Nat) (fa : Option Addr) (fn fc : Nat) (ba : Option Addr) (bn bc : Nat) (xa : Option Addr) (xn xc : Nat) (F fln c3 : Nat) (B br b1 b2 b3 : Nat) (fl : List Int) (en : Int) (st : RSt) (ev : Value) (K : Nat) (cs : List Value) (d : D) (w : World) (h : RnG B [.int .i64 m, .slice ga gn gc, .slice sa sn sc, .slice ya yn yc, .slice oa on oc, .slice va vn vc, .slice fa fn fc, .slice ba bn bc, .slice xa xn xc, .int .i64 (F : Int), .slice (some ⟨b3, 0, none⟩) fln c3] br b1 b2 b3 fl en st ev w) (hx : RX w K cs d) (ho : okX st.vars.length K d) (hi : ∀ x ∈ st.vars, I32 x) :
    Calls Try.prog 46 #[.pointer (some ⟨br, 0, none⟩), .agg cs.toArray] w fun e w' => e = .returned (.int .i64 (valX st.vars K d)) ∧ Below w.heap.size w w' := by
  obtain ⟨k0, n0, x0, l0, c0, rfl⟩ : ∃ k0 n0 x0 l0 c0, cs = [.int .i64 k0, .int .i64 n0, .slice x0 l0 c0] := by
    obtain ⟨a, c, hf⟩ := hx.form
    exact ⟨_, _, _, _, _, hf⟩
  have hbel : Below w.heap.size w (w.alloc (.cells #[.int .i64 k0, .int .i64 n0, .slice x0 l0 c0] 54)) := (Below.refl _ w).alloc (Nat.le_refl _) _
  have KV := hide fun W (hB : Below w.heap.size w W) => pval_any st.vars hi K _ d W _ (hx.over hB) ho (h.ints.over hB)
  have c1 := cell_over hbel _ _ (h.row 1 _ rfl)
  have e0 : (w.alloc (.cells #[.int .i64 k0, .int .i64 n0, .slice x0 l0 c0] 54)).cell? ⟨w.heap.size, 0, none⟩ = some (.int .i64 k0) := by simp [go_sem]
  have e1 : (w.alloc (.cells #[.int .i64 k0, .int .i64 n0, .slice x0 l0 c0] 54)).cell? ⟨w.heap.size, 1, none⟩ = some (.int .i64 n0) := by simp [go_sem]
  have e2 : (w.alloc (.cells #[.int .i64 k0, .int .i64 n0, .slice x0 l0 c0] 54)).cell? ⟨w.heap.size, 2, none⟩ = some (.slice x0 l0 c0) := by simp [go_sem]
  obtain ⟨vl, hvl⟩ : ∃ q, q = st.vars.length := ⟨_, rfl⟩
  obtain ⟨vx, hvx⟩ : ∃ q, q = valX st.vars K d := ⟨_, rfl⟩
  rw [← hvl] at c1 KV
  rw [← hvx] at KV ⊢
  clear h hx ho hi hvl hvx
  show Calls Try.prog 46 #[.pointer (some ⟨br, 0, none⟩), .agg #[.int .i64 k0, .int .i64 n0, .slice x0 l0 c0]] w _
  go_enter Try.func46, Try.ntmps46
  go_wp2_with fail
  go_region_held3 (fun W => W.cell? ⟨w.heap.size, 0, none⟩ = some (.int .i64 k0) ∧ W.cell? ⟨w.heap.size, 1, none⟩ = some (.int .i64 n0) ∧ W.cell? ⟨w.heap.size, 2, none⟩ = some (.slice x0 l0 c0) ∧ W.cell? ⟨br, 1, none⟩ = some (.slice (some ⟨b1, 0, none⟩) vl vl) ∧ Below w.heap.size w W) (first | assumption | exact ⟨e0, e1, e2, c1, below_drewN hbel 1⟩ | exact held4 (by assumption) hbp | fail) (first | (go_at_call 25; refine (KV.out _ (by assumption : _ ∧ _ ∧ _ ∧ _ ∧ Below _ _ _).2.2.2.2).mono ?_; rintro e wp ⟨rfl, hbp⟩))
  have hB := (by assumption : _ ∧ _ ∧ _ ∧ _ ∧ Below _ _ _).2.2.2.2
  go_wp2_with fail
  go_ret
  exact ⟨rfl, hB⟩

set_option maxHeartbeats 1000000 in
set_option maxRecDepth 100000 in
theorem tellR_any (m : Int) (ga : Option Addr) (gn gc : Nat) (sa : Option Addr) (sn sc : Nat) (ya : Option Addr) (yn yc : Nat) (oa : Option Addr) (on oc : Nat) (va : Option Addr) (vn vc : Nat) (fa : Option Addr) (fn fc : Nat) (ba : Option Addr) (bn bc : Nat) (xa : Option Addr) (xn xc : Nat) (F fln c3 : Nat) (B br b1 b2 b3 : Nat) (fl : List Int) (en : Int) (st : RSt) (ev : Value) (k a c x : Int) (w : World) (h : RnG B [.int .i64 m, .slice ga gn gc, .slice sa sn sc, .slice ya yn yc, .slice oa on oc, .slice va vn vc, .slice fa fn fc, .slice ba bn bc, .slice xa xn xc, .int .i64 (F : Int), .slice (some ⟨b3, 0, none⟩) fln c3] br b1 b2 b3 fl en st ev w) (hl : st.ev.length ≤ 2000) :
    Calls Try.prog 49 #[.pointer (some ⟨br, 0, none⟩), .int .i64 k, .int .i64 a, .int .i64 c, .int .i64 x] w fun e w' => e = .returned (.tuple #[]) ∧ ∃ ev', RnG B [.int .i64 m, .slice ga gn gc, .slice sa sn sc, .slice ya yn yc, .slice oa on oc, .slice va vn vc, .slice fa fn fc, .slice ba bn bc, .slice xa xn xc, .int .i64 (F : Int), .slice (some ⟨b3, 0, none⟩) fln c3] br b1 b2 b3 fl en (st.tell (k, a, c, x)) ev' w' ∧ Fr br b1 b2 ev ev' w w' := by
  obtain ⟨i0, hi, hz0, hz1, hz2⟩ := info_parts Try.infoE
  have hbel : Below w.heap.size w (w.alloc (.cells #[.int .i64 k, .int .i64 a, .int .i64 c, .int .i64 x] 56)) := (Below.refl _ w).alloc (Nat.le_refl _) _
  have HR := hide (h.over hbel)
  have HF := hide (Fr.of_below (br := br) (b1 := b1) (b2 := b2) (ev := ev) hbel)
  have hnew := RowAt.newA #[.int .i64 k, .int .i64 a, .int .i64 c, .int .i64 x] 56 w
  have HN := hide hnew
  have hown := (HR.out).own
  have hB : B ≤ (w.alloc (.cells #[.int .i64 k, .int .i64 a, .int .i64 c, .int .i64 x] 56)).heap.size := HR.out.hi.2.2.2.2
  have c0 := h.row 0 _ rfl
  have c0' := cell_over hbel _ _ c0
  have z0 := h.z0 0
  have z0' := HR.out.z0 0
  have hlt := h.hi.1
  have hlt' := HR.out.hi.1
  clear h hnew
  go_enter Try.func49, Try.ntmps49
  go_wp2_with (at_builtin; refine wpList_append_own_at _ rfl _ _ 33 rfl B 56 i0 (.agg #[.int .i64 0, .int .i64 0, .int .i64 0, .int .i64 0]) 4 32 Try.underlying33 hi hz0 hz1 hz2 rfl (by decide) _ _ _ rfl hown ⟨w.heap.size, 0, none⟩ 1 1 [.int .i64 k, .int .i64 a, .int .i64 c, .int .i64 x] rfl rfl (fun jj u hu => by rw [Addr.add_lit, Nat.zero_add]; exact HN.out jj u hu) (by simp [Value.oneCell']) (by unfold maxLen; omega) (by omega) hB ?_)
  intro v2 w2 hown2 hgr2 _ hat
  obtain ⟨va2, vn2, vc2, rfl⟩ : ∃ a n c, v2 = .slice a n c := by
    rcases hown2.2 with ⟨h, _⟩ | ⟨g, cap, cur, h, _⟩
    · exact ⟨_, _, _, h⟩
    · exact ⟨_, _, _, h⟩
  have HE := hide (HR.out.grown (k, a, c, x) hgr2 hown2 (by simpa using hat))
  have z2 : w2.frozen? ⟨br, 0, none⟩ = false := (World.frozen?_of_block (hgr2.block br hlt' (fun hx => HR.out.evA.1 hx.symm))).trans z0'
  have d0 := hgr2.cell c0' (fun hx => HR.out.evA.1 hx.symm)
  clear c0 c0' z0 z0' hown hown2 hgr2 hat hi hz0 hz1 hz2
  go_wp2_with fail
  go_end0
  exact ⟨rfl, _, HE.out.1, HF.out.trans HE.out.2⟩

set_option maxHeartbeats 1000000 in
set_option maxRecDepth 100000 in
theorem nextR_any (m : Int) (ga : Option Addr) (gn gc : Nat) (sa : Option Addr) (sn sc : Nat) (ya : Option Addr) (yn yc : Nat) (oa : Option Addr) (on oc : Nat) (va : Option Addr) (vn vc : Nat) (fa : Option Addr) (fn fc : Nat) (ba : Option Addr) (bn bc : Nat) (xa : Option Addr) (xn xc : Nat) (F fln c3 : Nat) (B br b1 b2 b3 : Nat) (fl : List Int) (en : Int) (st : RSt) (ev : Value) (ins : List (List Int)) (c : Int) (w0 w : World) (hB0 : Below w0.heap.size w0 w) (h : RnG B [.int .i64 m, .slice ga gn gc, .slice sa sn sc, .slice ya yn yc, .slice oa on oc, .slice va vn vc, .slice fa fn fc, .slice ba bn bc, .slice xa xn xc, .int .i64 (F : Int), .slice (some ⟨b3, 0, none⟩) fln c3] br b1 b2 b3 fl en st ev w) (hBB : w0.heap.size ≤ b2) (hx : ListsAt w0 (.slice xa xn xc) ins) (h0 : 0 ≤ c) (h1 : c < ins.length) (h2 : ins.length = st.taken.length) (h3 : ∀ x ∈ st.taken, 0 ≤ x ∧ x ≤ 2000) (h4 : ∀ x ∈ ins, x.length ≤ 100) :
    Calls Try.prog 48 #[.pointer (some ⟨br, 0, none⟩), .int .i64 c] w fun e w' => e = .returned (.int .i64 (nextX ins st c)) ∧ RnG B [.int .i64 m, .slice ga gn gc, .slice sa sn sc, .slice ya yn yc, .slice oa on oc, .slice va vn vc, .slice fa fn fc, .slice ba bn bc, .slice xa xn xc, .int .i64 (F : Int), .slice (some ⟨b3, 0, none⟩) fln c3] br b1 b2 b3 fl en (st.took c) ev w' ∧ Fr br b1 b2 ev ev w w' ∧ w.grownBy w' (some b2) := by
  obtain ⟨n, rfl⟩ := Int.eq_ofNat_of_zero_le h0
  have hn : n < ins.length := by omega
  have hnt : n < st.taken.length := by omega
  obtain ⟨-, xo, xcap, hxe, hel⟩ := hx
  injection hxe with e1 e2 e3
  obtain ⟨xb, xoff, hbo, hel2⟩ := hel (by intro h; rw [h] at hn; simp at hn)
  have e1' := e1.trans hbo
  subst e1'
  obtain ⟨u, hu, ⟨la, lc, rfl, hli⟩, hul⟩ := hel2 n hn
  have hul2 : ins[n].length ≤ 100 := h4 _ (List.getElem_mem hn)
  obtain ⟨t, ht⟩ : ∃ t, t = st.taken[n] := ⟨_, rfl⟩
  have htb := h3 st.taken[n] (List.getElem_mem hnt)
  have hgt : st.taken.getD (n : Int).toNat 0 = t := by rw [ht]; simp [hnt]
  have hins : ins.getD (n : Int).toNat [] = ins[n] := by simp [hn]
  have hnx : nextX ins st n = ins[n].getD t.toNat 0 := by unfold nextX; rw [hgt, hins]
  rw [← ht] at htb
  have c2 := h.row 2 _ rfl
  have c14 := h.row 14 _ rfl
  have t0 : w.cell? ⟨b2, n, none⟩ = some (.int .i64 t) := by rw [ht]; exact h.taken n _ (by simp [hnt])
  have z2 := h.z2 n
  have q := cell_over hB0 _ _ hu
  have hxb : xb < w0.heap.size := World.block_lt_of_cell? w0 _ hu
  have hxb2 : xb ≠ b2 := by omega
  have HR : Hid (∀ k, RnG B [.int .i64 m, .slice ga gn gc, .slice sa sn sc, .slice ya yn yc, .slice oa on oc, .slice va vn vc, .slice fa fn fc, .slice ba bn bc, .slice (some ⟨xb, xoff, none⟩) xn xc, .int .i64 (F : Int), .slice (some ⟨b3, 0, none⟩) fln c3] br b1 b2 b3 fl en (st.took n) ev ((w.drewN k).setCell ⟨b2, n, none⟩ (.int .i64 (t + 1))) ∧ Fr br b1 b2 ev ev w ((w.drewN k).setCell ⟨b2, n, none⟩ (.int .i64 (t + 1)))) := fun k => by
    have := (h.drewN k).setTaken n (t + 1) hnt
    refine ⟨?_, (fr_set2 (h.drewN k) _ _).drewN⟩
    unfold RSt.took
    rw [hgt]
    simpa using this
  have hl0 := h.hi.1
  have hl2 := h.hi.2.2.1
  have hap := h.apart.2.1
  have htl : (n : Int) < (st.taken.length : Int) := by omega
  have hxl : (n : Int) < (xn : Int) := by omega
  obtain ⟨tl, htle⟩ : ∃ q, q = st.taken.length := ⟨_, rfl⟩
  rw [← htle] at c2 htl
  obtain ⟨ll, hll⟩ : ∃ q, q = ins[n].length := ⟨_, rfl⟩
  rw [← hll] at q hul2
  by_cases hlt : t.toNat < ins[n].length
  · obtain ⟨lb, loff, hlb, hlc⟩ := hli (by intro hz; rw [hz] at hlt; simp at hlt)
    have r0 := hlc t.toNat hlt
    have hlbb : lb < w0.heap.size := World.block_lt_of_cell? w0 _ r0
    have r1 := cell_over hB0 _ _ r0
    have hlb2 : lb ≠ b2 := by omega
    have hv : ins[n].getD t.toNat 0 = ins[n][t.toNat] := by simp [hlt]
    rw [hnx, hv]
    obtain ⟨y, hy⟩ : ∃ y, y = ins[n][t.toNat] := ⟨_, rfl⟩
    rw [← hy] at r1 ⊢
    subst hlb
    have hlt2 : t < (ll : Int) := by omega
    obtain ⟨ht1, ht2⟩ := htb
    obtain ⟨tn, rfl⟩ := Int.eq_ofNat_of_zero_le ht1
    rw [Int.toNat_natCast] at r1
    clear h hel hel2 hli hlc hu r0 hnx hv hy hgt hins e1 e2 e3 hbo hB0 ht h3 h4 hll htle hul
    go_enter Try.func48, Try.ntmps48
    go_wp2_with fail
    go_quiet ((fail))
    go_wp2_with fail
    go_ret
    exact ⟨rfl, (HR.out nq).1, (HR.out nq).2, grow_set⟩
  · have hv : ins[n].getD t.toNat 0 = 0 := by
      rw [List.getD_eq_getElem?_getD, List.getElem?_eq_none (by omega)]; rfl
    rw [hnx, hv]
    have hlt2 : ¬ t < (ll : Int) := by omega
    obtain ⟨ht1, ht2⟩ := htb
    obtain ⟨tn, rfl⟩ := Int.eq_ofNat_of_zero_le ht1
    clear h hel hel2 hli hu hnx hv hgt hins e1 e2 e3 hbo hB0 ht h3 h4 hll htle hul
    go_enter Try.func48, Try.ntmps48
    go_wp2_with fail
    go_quiet ((fail))
    go_wp2_with fail
    go_ret
    exact ⟨rfl, (HR.out nq).1, (HR.out nq).2, grow_set⟩
end Go.Proofs.Ytpbnmmgocpobcaa.Ex
