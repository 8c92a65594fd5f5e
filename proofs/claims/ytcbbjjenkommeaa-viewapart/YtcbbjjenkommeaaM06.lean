/- A level joined with those of all variables in an expression: whoever goes through commands. -/
import Derived.Test.YtcbbjjenkommeaaM05
import Derived.Deep.RegionHeld3
import Derived.Laws.AppendOwnNone
import Derived.Recover
import Derived.Defers
namespace Go.Proofs.Ytcbbjjenkommeaa.Ex
open Go.RowKit Go.Shelf
set_option linter.unusedVariables false
attribute [local go_sem] Oper.semAt_some

theorem lTwo_of {n : Nat} {gs : List (Int × Int)} {l k : Lev} (h : chkErr n gs = 0) (hl : l.len n) (hk : k.len n) : lTwo n gs l k = 0 := by
  have e1 : levErr (n : Int) l = 0 := by unfold levErr; rw [if_pos ⟨by rw [hl.1], by rw [hl.2]⟩]
  have e2 : levErr (n : Int) k = 0 := by unfold levErr; rw [if_pos ⟨by rw [hk.1], by rw [hk.2]⟩]
  simp [lTwo, lRight, h, e1, e2]
theorem lev_slices {w : World} {x y : Value} {l : Lev} (h : LevAt w (.agg #[x, y]) l) : ∃ p1 q1 r1 p2 q2 r2, x = .slice p1 q1 r1 ∧ y = .slice p2 q2 r2 := by
  obtain ⟨u, v, e, ⟨a, c, e2, -⟩, ⟨a', c', e3, -⟩⟩ := h
  simp at e
  obtain ⟨rfl, rfl⟩ := e
  exact ⟨_, _, _, _, _, _, e2, e3⟩
theorem keeps_below {W W' : World} (h : Below W.heap.size W W') : KeepsOthers W W' := KeepsOthers.of_grownBy (row := none) ⟨h.os, h.tape, h.output, h.size, fun k hk _ => h.block k hk⟩ (fun _ _ e => by cases e)
theorem isBools_setS {W : World} {p : Addr} {a : Option Addr} {m c : Nat} {v : Value} {l : List Bool} (hp : W.cell? p = some (.slice a m c)) (h : IsBools W v l) (u : Value) : IsBools (W.setCell p u) v l := by
  obtain ⟨ao, cap, hv, hel⟩ := h
  refine ⟨ao, cap, hv, fun hne => ?_⟩
  obtain ⟨b, off, hao, hel⟩ := hel hne
  refine ⟨b, off, hao, fun i hi => ?_⟩
  have hc := hel i hi
  have hne : p ≠ ⟨b, off + i, none⟩ := by
    rintro rfl
    rw [hp] at hc
    cases hc
  rw [World.cell?_setCell_other _ _ _ _ hne]
  exact hc
theorem levAt_setS {W : World} {p : Addr} {a : Option Addr} {m c : Nat} {v : Value} {l : Lev} (hp : W.cell? p = some (.slice a m c)) (h : LevAt W v l) (u : Value) : LevAt (W.setCell p u) v l := by
  obtain ⟨x, y, hv, hx, hy⟩ := h
  exact ⟨x, y, hv, isBools_setS hp hx u, isBools_setS hp hy u⟩
theorem with_snoc (n : Nat) (L : List Lev) (l : Lev) (vs : List Int) (v : Int) : withL n L l (vs ++ [v]) = joinL (withL n L l vs) (L.getD v.toNat noLev) n := by simp [withL]

/-- what a loop over the variables keeps. -/
def WithI (n : Nat) (s : Nat) (wc : List Value) (lr lw : Value) (Ls : List Lev) (l : Lev) (nv : Nat) (pre : List (VarN nv)) (W : World) : Prop :=
  ∃ xr xw, W.cell? ⟨s + 1, 0, none⟩ = some xr ∧ W.cell? ⟨s + 1, 1, none⟩ = some xw ∧ W.frozen? ⟨s + 1, 0, none⟩ = false ∧ W.frozen? ⟨s + 1, 1, none⟩ = false ∧ LevAt W (.agg #[xr, xw]) (withL n Ls l (pre.map Subtype.val)) ∧ ((xr = lr ∧ xw = lw) ∨ NewL s (.agg #[xr, xw])) ∧ RowAt wc W s ∧
    W.cell? ⟨s + 1 + 1 + 1, 0, none⟩ = some (.slice none 0 0) ∧ W.cell? ⟨s + 1 + 1 + 1, 1, none⟩ = some (.slice none 0 0) ∧ W.frozen? ⟨s + 1 + 1 + 1, 0, none⟩ = false ∧ W.frozen? ⟨s + 1 + 1 + 1, 1, none⟩ = false
theorem withI_own (n : Nat) (s : Nat) (wc : List Value) (lr lw : Value) (Ls : List Lev) (l : Lev) (nv : Nat) : Own (WithI n s wc lr lw Ls l nv) := by
  rintro pre A B row ⟨xr, xw, c0, c1, f0, f1, hl, hd, hrow, r0, r1, g0, g1⟩ hg hr
  exact ⟨xr, xw, cell_kept c0 hg hr, cell_kept c1 hg hr, (frozen_kept c0 hg hr).trans f0, (frozen_kept c1 hg hr).trans f1, levAt_cells hl (fun a u h => cell_kept h hg hr), hd, fun j u h => cell_kept (hrow j u h) hg hr, cell_kept r0 hg hr, cell_kept r1 hg hr, (frozen_kept r0 hg hr).trans g0, (frozen_kept r1 hg hr).trans g1⟩

theorem with_step {n nv : Nat} {wc : List Value} {lr lw : Value} {Ls : List Lev} {l : Lev} {pre : List (VarN nv)} {x : VarN nv} {w W W2 : World} {v1 v2 : Value} (hI : WithI n w.heap.size wc lr lw Ls l nv pre W) (hB : Below w.heap.size w W) (hb2 : Below W.heap.size W W2)
    (hf : LevFresh W W2 (.agg #[v1, v2]) (joinL (withL n Ls l (pre.map Subtype.val)) (Ls.getD x.1.toNat noLev) n)) :
    KeepsOthers W ((W2.setCell ⟨w.heap.size + 1, 0, none⟩ v1).setCell ⟨w.heap.size + 1, 1, none⟩ v2) ∧ Below w.heap.size W ((W2.setCell ⟨w.heap.size + 1, 0, none⟩ v1).setCell ⟨w.heap.size + 1, 1, none⟩ v2) ∧ WithI n w.heap.size wc lr lw Ls l nv (pre ++ [x]) ((W2.setCell ⟨w.heap.size + 1, 0, none⟩ v1).setCell ⟨w.heap.size + 1, 1, none⟩ v2) ∧ Below w.heap.size w ((W2.setCell ⟨w.heap.size + 1, 0, none⟩ v1).setCell ⟨w.heap.size + 1, 1, none⟩ v2) := by
  obtain ⟨xr, xw, c0, c1, f0, f1, hl, hd, hrow, s0, s1, g0, g1⟩ := hI
  have hbs : w.heap.size + 1 + 1 + 1 < W.heap.size := World.block_lt_of_cell? W _ s0
  have hBW : Below w.heap.size W ((W2.setCell ⟨w.heap.size + 1, 0, none⟩ v1).setCell ⟨w.heap.size + 1, 1, none⟩ v2) := ((hb2.mono (by omega)).setCell (by simp) _).setCell (by simp) _
  have hc2 : ∀ b o u, b ≠ w.heap.size + 1 → W.cell? ⟨b, o, none⟩ = some u → ((W2.setCell ⟨w.heap.size + 1, 0, none⟩ v1).setCell ⟨w.heap.size + 1, 1, none⟩ v2).cell? ⟨b, o, none⟩ = some u := fun b o u hb h => by
    have e := cell_over hb2 _ _ h
    simp [go_sem, e]
  refine ⟨(keeps_below hb2).trans ((KeepsOthers.setCell _ _ _).trans (KeepsOthers.setCell _ _ _)), hBW, ?_, hB.trans hBW⟩
  have hof := newL_fresh hf
  obtain ⟨u1, u2, hu, ho1, ho2, -⟩ := hf
  simp at hu
  obtain ⟨rfl, rfl⟩ := hu
  refine ⟨v1, v2, ?_, ?_, ?_, ?_, ?_, Or.inr ?_, fun j u h => hc2 _ _ _ (by omega) (hrow j u h), hc2 _ _ _ (by omega) s0, hc2 _ _ _ (by omega) s1, ?_, ?_⟩
  · simp [go_sem, cell_over hb2 _ _ c0]
  · have h0 := cell_over hb2 _ _ c1
    simp [go_sem, h0]
  · simp [go_sem, ((bcell hb2).2 _ _ (by omega : w.heap.size + 1 < W.heap.size)).trans f0]
  · simp [go_sem, ((bcell hb2).2 _ _ (by omega : w.heap.size + 1 < W.heap.size)).trans f1]
  · rw [List.map_append, List.map_singleton, with_snoc]
    refine ⟨v1, v2, rfl, isBools_own (ownB_set (ownB_set ho1 (by simp; omega) _) (by simp; omega) _), isBools_own (ownB_set (ownB_set ho2 (by simp; omega) _) (by simp; omega) _)⟩
  · obtain ⟨a, b, e, h1, h2⟩ := hof
    exact ⟨a, b, e, fun a n c h => Nat.le_trans hB.size (h1 a n c h), fun a n c h => Nat.le_trans hB.size (h2 a n c h)⟩
  · simp [go_sem, ((bcell hb2).2 _ _ hbs).trans g0]
  · simp [go_sem, ((bcell hb2).2 _ _ hbs).trans g1]

set_option maxHeartbeats 4000000 in
set_option maxRecDepth 100000 in
theorem withW' (n : Nat) (h1 : 1 ≤ n) (h6 : n ≤ 6) (ga : Option Addr) (gn gc : Nat) (sa : Option Addr) (sn sc : Nat) (ya : Option Addr) (yn yc : Nat) (oa : Option Addr) (on oc : Nat) (va : Option Addr) (vn vc : Nat) (fa : Option Addr) (fn fc : Nat) (ba : Option Addr) (bn bc : Nat) (la : Option Addr) (ln lc : Nat) (ka : Option Addr) (kn kc : Nat) (gs : List (Int × Int)) (Ls : List Lev) (p1 : Option Addr) (q1 r1 : Nat) (p2 : Option Addr) (q2 r2 : Nat) (l : Lev) (K : Nat) (ek en : Int) (xa : Option Addr) (xl xc : Nat) (d : D) (ys : List (VarN Ls.length)) (w : World)
    (hg : IsGrants w (.slice ga gn gc) gs) (hE : chkErr n gs = 0) (hL : IsLevs w (.slice la ln lc) Ls) (hLl : ∀ x ∈ Ls, x.len n) (hl : LevAt w (.agg #[.slice p1 q1 r1, .slice p2 q2 r2]) l) (hll : l.len n) (hlm : Ls.length ≤ 9223372036854775807)
    (hx : RX w K [.int .i64 ek, .int .i64 en, .slice xa xl xc] d) (hys : ys.map Subtype.val = varsX K d) :
    Calls Try.prog 78 #[.agg #[.int .i64 (n : Int), .slice ga gn gc, .slice sa sn sc, .slice ya yn yc, .slice oa on oc, .slice va vn vc, .slice fa fn fc, .slice ba bn bc, .slice la ln lc, .slice ka kn kc], .agg #[.slice p1 q1 r1, .slice p2 q2 r2], .agg #[.int .i64 ek, .int .i64 en, .slice xa xl xc]] w fun e w' =>
      (∃ v, e = .returned v ∧ LevAt w' v (withL n Ls l (varsX K d)) ∧ (v = .agg #[.slice p1 q1 r1, .slice p2 q2 r2] ∨ NewL w.heap.size v)) ∧ Below w.heap.size w w' := by
  have hbel : Below w.heap.size w (((((w.alloc (.cells #[.int .i64 (n : Int), .slice ga gn gc, .slice sa sn sc, .slice ya yn yc, .slice oa on oc, .slice va vn vc, .slice fa fn fc, .slice ba bn bc, .slice la ln lc, .slice ka kn kc] 86)).alloc (.cells #[.slice p1 q1 r1, .slice p2 q2 r2] 62)).alloc (.cells #[.int .i64 ek, .int .i64 en, .slice xa xl xc] 24)).alloc (.cells #[.slice none 0 0, .slice none 0 0] 62)).alloc (.cells #[.int .i64 ek, .int .i64 en, .slice xa xl xc] 24)) := by
    refine Below.alloc ?_ (by simp <;> omega) _
    refine Below.alloc ?_ (by simp <;> omega) _
    refine Below.alloc ?_ (by simp <;> omega) _
    refine Below.alloc ?_ (by simp <;> omega) _
    exact (Below.refl _ w).alloc (Nat.le_refl _) _
  have hI0 : WithI n w.heap.size [.int .i64 (n : Int), .slice ga gn gc, .slice sa sn sc, .slice ya yn yc, .slice oa on oc, .slice va vn vc, .slice fa fn fc, .slice ba bn bc, .slice la ln lc, .slice ka kn kc] (.slice p1 q1 r1) (.slice p2 q2 r2) Ls l Ls.length [] (((((w.alloc (.cells #[.int .i64 (n : Int), .slice ga gn gc, .slice sa sn sc, .slice ya yn yc, .slice oa on oc, .slice va vn vc, .slice fa fn fc, .slice ba bn bc, .slice la ln lc, .slice ka kn kc] 86)).alloc (.cells #[.slice p1 q1 r1, .slice p2 q2 r2] 62)).alloc (.cells #[.int .i64 ek, .int .i64 en, .slice xa xl xc] 24)).alloc (.cells #[.slice none 0 0, .slice none 0 0] 62)).alloc (.cells #[.int .i64 ek, .int .i64 en, .slice xa xl xc] 24)) := by
    refine ⟨.slice p1 q1 r1, .slice p2 q2 r2, by simp [go_sem], by simp [go_sem], by simp [go_sem], by simp [go_sem], levAt_over hl hbel, Or.inl ⟨rfl, rfl⟩, ?_, by simp [go_sem], by simp [go_sem], by simp [go_sem], by simp [go_sem]⟩
    intro j u hu
    have hj : j < 10 := by have := (List.getElem?_eq_some_iff.1 hu).1; simpa using this
    rcases (by omega : j = 0 ∨ j = 1 ∨ j = 2 ∨ j = 3 ∨ j = 4 ∨ j = 5 ∨ j = 6 ∨ j = 7 ∨ j = 8 ∨ j = 9) with h | h | h | h | h | h | h | h | h | h <;> subst h <;> simp at hu <;> subst hu <;> simp [go_sem]
  have k0 : (((((w.alloc (.cells #[.int .i64 (n : Int), .slice ga gn gc, .slice sa sn sc, .slice ya yn yc, .slice oa on oc, .slice va vn vc, .slice fa fn fc, .slice ba bn bc, .slice la ln lc, .slice ka kn kc] 86)).alloc (.cells #[.slice p1 q1 r1, .slice p2 q2 r2] 62)).alloc (.cells #[.int .i64 ek, .int .i64 en, .slice xa xl xc] 24)).alloc (.cells #[.slice none 0 0, .slice none 0 0] 62)).alloc (.cells #[.int .i64 ek, .int .i64 en, .slice xa xl xc] 24)).cell? ⟨w.heap.size + 1 + 1 + 1 + 1, 0, none⟩ = some (.int .i64 ek) := by simp [go_sem]
  have k1 : (((((w.alloc (.cells #[.int .i64 (n : Int), .slice ga gn gc, .slice sa sn sc, .slice ya yn yc, .slice oa on oc, .slice va vn vc, .slice fa fn fc, .slice ba bn bc, .slice la ln lc, .slice ka kn kc] 86)).alloc (.cells #[.slice p1 q1 r1, .slice p2 q2 r2] 62)).alloc (.cells #[.int .i64 ek, .int .i64 en, .slice xa xl xc] 24)).alloc (.cells #[.slice none 0 0, .slice none 0 0] 62)).alloc (.cells #[.int .i64 ek, .int .i64 en, .slice xa xl xc] 24)).cell? ⟨w.heap.size + 1 + 1 + 1 + 1, 1, none⟩ = some (.int .i64 en) := by simp [go_sem]
  have k2 : (((((w.alloc (.cells #[.int .i64 (n : Int), .slice ga gn gc, .slice sa sn sc, .slice ya yn yc, .slice oa on oc, .slice va vn vc, .slice fa fn fc, .slice ba bn bc, .slice la ln lc, .slice ka kn kc] 86)).alloc (.cells #[.slice p1 q1 r1, .slice p2 q2 r2] 62)).alloc (.cells #[.int .i64 ek, .int .i64 en, .slice xa xl xc] 24)).alloc (.cells #[.slice none 0 0, .slice none 0 0] 62)).alloc (.cells #[.int .i64 ek, .int .i64 en, .slice xa xl xc] 24)).cell? ⟨w.heap.size + 1 + 1 + 1 + 1, 2, none⟩ = some (.slice xa xl xc) := by simp [go_sem]
  have HST := hide (vars_stops Fence.wide rfl 2 trivial trivial rfl Ls.length (w.heap.size + 1 + 1 + 1 + 1) K w ek en xa xl xc d ys _ (by simp) hbel k0 k1 k2 hx hys)
  have KJ := hide fun (W : World) (hB : Below w.heap.size w W) (xr xw kr kw : Value) (a b : Lev) (ha : LevAt W (.agg #[xr, xw]) a) (hb : LevAt W (.agg #[kr, kw]) b) (la' : a.len n) (lb : b.len n) => joinW (n : Int) ga gn gc sa sn sc ya yn yc oa on oc va vn vc fa fn fc ba bn bc la ln lc ka kn kc gs xr xw kr kw a b W (isGrants_over hg hB) ha hb (lTwo_of hE la' lb)
  have HL := hide fun (W : World) (hB : Below w.heap.size w W) => isLevs_over hL hB
  have HBEL := hide hbel
  have HI0 := hide hI0
  have hln : ln = Ls.length := by obtain ⟨ao, cap, he, -⟩ := hL; injection he
  have HYS := hide hys
  have HLN := hide hln
  have hln2 : ln ≤ 9223372036854775807 := by rw [hln]; exact hlm
  clear hln
  clear hbel hI0 k0 k1 k2 hx hL hg hE hl hys
  refine (callsIn_wide (n := 3)).1 ?_
  refine callsIn_of_wp_marks Try.func78 rfl trivial ?_ rfl
  simp only [Try.ntmps78, List.size_toArray, List.length_cons, List.length_nil, Nat.reduceAdd, Nat.reduceSub, Array.replicate_succ, Array.replicate_zero, List.push_toArray, List.append_toArray, List.nil_append, List.cons_append]
  gi_wp2_with (refine ⟨trivial, ?_⟩; gi_at_call 116; refine (vars_in Fence.wide _ trivial rfl _ _ _ _ _ _).mono ?_; rintro e w' ⟨rfl, rfl⟩)
  refine wpIn_rangeFunc_ownF (F := Fence.wide) rfl (by omega) (gf := 143) (lb := #[.pointer (some ⟨w.heap.size + 1 + 1 + 1 + 1, 0, none⟩)]) rfl trivial (enters_of Try.func143 (by kernel_rfl) rfl)
    HST.out belowK_t (belowK_b (by simp <;> omega)) (Below.refl _ _) (fun _ => rfl)
    (fun pre W => WithI n w.heap.size [.int .i64 (n : Int), .slice ga gn gc, .slice sa sn sc, .slice ya yn yc, .slice oa on oc, .slice va vn vc, .slice fa fn fc, .slice ba bn bc, .slice la ln lc, .slice ka kn kc] (.slice p1 q1 r1) (.slice p2 q2 r2) Ls l Ls.length pre W ∧ Below w.heap.size w W)
    (fun _ _ _ => False)
    (OwnFrom.and (Own.from (withI_own n w.heap.size [.int .i64 (n : Int), .slice ga gn gc, .slice sa sn sc, .slice ya yn yc, .slice oa on oc, .slice va vn vc, .slice fa fn fc, .slice ba bn bc, .slice la ln lc, .slice ka kn kc] (.slice p1 q1 r1) (.slice p2 q2 r2) Ls l Ls.length) _) (ownFrom_below (Nat.le_refl _) (by simp <;> omega)))
    (fun _ _ _ _ _ hs _ _ => hs)
    ⟨HI0.out, HBEL.out⟩
    (fun x => { tmps := #[.agg #[.int .i64 (n : Int), .slice ga gn gc, .slice sa sn sc, .slice ya yn yc, .slice oa on oc, .slice va vn vc, .slice fa fn fc, .slice ba bn bc, .slice la ln lc, .slice ka kn kc], .agg #[.slice p1 q1 r1, .slice p2 q2 r2], .agg #[.int .i64 ek, .int .i64 en, .slice xa xl xc], .pointer (some ⟨w.heap.size, 0, none⟩), .pointer (some ⟨w.heap.size + 1, 0, none⟩), .pointer (some ⟨w.heap.size + 1 + 1, 0, none⟩), .pointer (some ⟨w.heap.size + 1 + 1 + 1, 0, none⟩), .int .i64 x.1, .agg #[.int .i64 ek, .int .i64 en, .slice xa xl xc], .func (.func 143) #[] #[.pointer (some ⟨w.heap.size + 1 + 1 + 1 + 1, 0, none⟩)], .int .i64 x.1, undef, undef, undef, undef, undef, undef, undef, undef, undef, undef], defers := [] }) ?assign ?body ?done ?stop
  case assign =>
    intro l x W K hK
    gi_wp2
    exact hK
  case body =>
    clear HST HI0 HBEL HYS
    rintro lo pre x W ⟨⟨xr, xw, c0, c1, f0, f1, hl, hd, hrow, s0, s1, g0, g1⟩, hB⟩ _
    have HSTEP := hide fun (v1 v2 : Value) (W2 : World) => with_step (x := x) (v1 := v1) (v2 := v2) (W2 := W2) ⟨xr, xw, c0, c1, f0, f1, hl, hd, hrow, s0, s1, g0, g1⟩ hB
    obtain ⟨a1, a2, a3, a4, a5, a6, rfl, rfl⟩ := lev_slices hl
    obtain ⟨x, hx0, hx1⟩ := x
    obtain ⟨j, rfl⟩ : ∃ j : Nat, x = (j : Int) := ⟨x.toNat, by omega⟩
    have hj : j < Ls.length := by omega
    obtain ⟨b, off, cap, rv, wv, hv, e0w, e1w, hlevw⟩ := isLevs_at (HL.out w (Below.refl _ _)) hj
    have hbb : b < w.heap.size := World.block_lt_of_cell? w _ e0w
    have e0 := cell_over hB _ _ e0w
    have e1 := cell_over hB _ _ e1w
    have hlev := levAt_over hlevw hB
    clear e0w e1w hlevw
    injection hv with hv1 hv2 hv3
    subst hv1 hv3
    have hj2 : j < ln := by rw [HLN.out]; exact hj
    clear hv2
    obtain ⟨b1, b2, b3, b4, b5, b6, rfl, rfl⟩ := lev_slices hlev
    have w0 := hrow 0 _ rfl
    have w1 := hrow 1 _ rfl
    have w2 := hrow 2 _ rfl
    have w3 := hrow 3 _ rfl
    have w4 := hrow 4 _ rfl
    have w5 := hrow 5 _ rfl
    have w6 := hrow 6 _ rfl
    have w7 := hrow 7 _ rfl
    have w8 := hrow 8 _ rfl
    have w9 := hrow 9 _ rfl
    have KJ2 := hide (fun W2 (hb : Below W.heap.size W W2) => KJ.out W2 (hB.trans (hb.mono hB.size)) _ _ _ _ _ _ (levAt_over hl hb) (levAt_over hlev hb) (with_len _ _ hll) (hLl _ (List.getElem_mem hj)))
    have hlj : Ls.getD (j : Int).toNat noLev = Ls[j] := by simp [List.getD_eq_getElem?_getD, hj]
    have HLJ := hide hlj
    clear hlj
    clear KJ HL hl hlev hd hrow hB hLl hll
    have hj3 : (j : Int) < (ln : Int) := by omega
    have hmx : Try.prog.follows .mixedOrders = true := by kernel_rfl
    have hd1 : 1 ≤ 3 - 1 - 1 := by omega
    gi_wp2
    have hSS : (fun W2 : World => W2.cell? ⟨w.heap.size, 0, none⟩ = some (.int .i64 (n : Int)) ∧ W2.cell? ⟨w.heap.size, 1, none⟩ = some (.slice ga gn gc) ∧ W2.cell? ⟨w.heap.size, 2, none⟩ = some (.slice sa sn sc) ∧ W2.cell? ⟨w.heap.size, 3, none⟩ = some (.slice ya yn yc) ∧ W2.cell? ⟨w.heap.size, 4, none⟩ = some (.slice oa on oc) ∧ W2.cell? ⟨w.heap.size, 5, none⟩ = some (.slice va vn vc) ∧ W2.cell? ⟨w.heap.size, 6, none⟩ = some (.slice fa fn fc) ∧ W2.cell? ⟨w.heap.size, 7, none⟩ = some (.slice ba bn bc) ∧ W2.cell? ⟨w.heap.size, 8, none⟩ = some (.slice (some ⟨b, off, none⟩) ln lc) ∧ W2.cell? ⟨w.heap.size, 9, none⟩ = some (.slice ka kn kc) ∧ W2.cell? ⟨b, off + j * 2, none⟩ = some (.slice b1 b2 b3) ∧ W2.cell? ⟨b, off + j * 2 + 1, none⟩ = some (.slice b4 b5 b6)) W.drew := ⟨w0, w1, w2, w3, w4, w5, w6, w7, w8, w9, e0, e1⟩
    refine region_round (S := fun W2 => W2.cell? ⟨w.heap.size, 0, none⟩ = some (.int .i64 (n : Int)) ∧ W2.cell? ⟨w.heap.size, 1, none⟩ = some (.slice ga gn gc) ∧ W2.cell? ⟨w.heap.size, 2, none⟩ = some (.slice sa sn sc) ∧ W2.cell? ⟨w.heap.size, 3, none⟩ = some (.slice ya yn yc) ∧ W2.cell? ⟨w.heap.size, 4, none⟩ = some (.slice oa on oc) ∧ W2.cell? ⟨w.heap.size, 5, none⟩ = some (.slice va vn vc) ∧ W2.cell? ⟨w.heap.size, 6, none⟩ = some (.slice fa fn fc) ∧ W2.cell? ⟨w.heap.size, 7, none⟩ = some (.slice ba bn bc) ∧ W2.cell? ⟨w.heap.size, 8, none⟩ = some (.slice (some ⟨b, off, none⟩) ln lc) ∧ W2.cell? ⟨w.heap.size, 9, none⟩ = some (.slice ka kn kc) ∧ W2.cell? ⟨b, off + j * 2, none⟩ = some (.slice b1 b2 b3) ∧ W2.cell? ⟨b, off + j * 2 + 1, none⟩ = some (.slice b4 b5 b6)) hmx ?_ ?_
    · intro i o ho c hc
      match i with
      | 0 | 1 | 2 | 3 | 4 | 5 | 6 | 7 | 8 | 9 => simp at ho; subst ho; cases hc
      | i + 10 => simp at ho
    refine tk (i := 0) (oi := ⟨some 11, Op.load 86 (Operand.tmp 3), 86, "walk.go:47", #[], none⟩) (v := ?_) (Or.inl ⟨by rfl, ?_⟩) (by assumption) ?_
    rotate_left
    · intro w' hSw
      (try dsimp only at hSw)
      go_simp
      try with_reducible rfl
    try simp only [aput]
    refine tk (i := 2) (oi := ⟨some 13, Op.fieldAddr 86 (Operand.tmp 3) 1, 0, "walk.go:47", #[], none⟩) (v := ?_) (Or.inl ⟨by rfl, ?_⟩) (by assumption) ?_
    rotate_left
    · intro w' hSw
      (try dsimp only at hSw)
      go_simp
      try with_reducible rfl
    try simp only [aput]
    refine tk (i := 3) (oi := { dst := some 14, op := Op.fieldAddr 54 (Operand.tmp 13) 0, type := 0, pos := "walk.go:47", after := #[{ on := 2, ground := Ground.data }], guard := none }) (v := ?_) (Or.inl ⟨by rfl, ?_⟩) (by assumption) ?_
    rotate_left
    · intro w' hSw
      (try dsimp only at hSw)
      go_simp
      try with_reducible rfl
    try simp only [aput]
    refine tk (i := 4) (oi := { dst := some 15, op := Op.load 52 (Operand.tmp 14), type := 52, pos := "walk.go:47", after := #[{ on := 3, ground := Ground.data }], guard := none }) (v := ?_) (Or.inl ⟨by rfl, ?_⟩) (by assumption) ?_
    rotate_left
    · intro w' hSw
      (try dsimp only at hSw)
      go_simp
      try with_reducible rfl
    try simp only [aput]
    refine tk (i := 5) (oi := ⟨some 16, Op.move (Operand.tmp 7), 3, "walk.go:47", #[], none⟩) (v := ?_) (Or.inl ⟨by rfl, ?_⟩) (by assumption) ?_
    rotate_left
    · intro w' hSw
      (try dsimp only at hSw)
      go_simp
      try with_reducible rfl
    try simp only [aput]
    refine tk (i := 6) (oi := { dst := some 17, op := Op.indexAddr 52 (Operand.tmp 15) (Operand.tmp 16), type := 0, pos := "walk.go:47", after := #[{ on := 4, ground := Ground.data }, { on := 5, ground := Ground.data }], guard := none }) (v := ?_) (Or.inl ⟨by rfl, ?_⟩) (by assumption) ?_
    rotate_left
    · intro w' hSw
      (try dsimp only at hSw)
      go_simp
      try with_reducible rfl
    try simp only [aput]
    refine tk (i := 7) (oi := { dst := some 18, op := Op.load 62 (Operand.tmp 17), type := 62, pos := "walk.go:47", after := #[{ on := 6, ground := Ground.data }], guard := none }) (v := ?_) (Or.inl ⟨by rfl, ?_⟩) (by assumption) ?_
    rotate_left
    · intro w' hSw
      (try dsimp only at hSw)
      go_simp
      try with_reducible rfl
    try simp only [aput]
    refine wpAnyH_ready (rs := [1]) (by kernel_rfl) (by simp) ?_
    refine AllReadyH.cons (o := ⟨some 12, Op.load 62 (Operand.tmp 4), 62, "walk.go:47", #[], none⟩) rfl (fun K hK => ?_) AllReadyH.nil
    go_simp
    refine hK.out _ _ hSS (fun hHeld => ?_)
    clear hK K hHeld
    try simp only [aput]
    refine wpAnyH_ready (rs := [8]) (by kernel_rfl) (by simp) ?_
    refine AllReadyH.cons (o := { dst := some 19, op := Op.call { callee := Callee.value (Operand.func 41), args := #[Operand.tmp 11, Operand.tmp 12, Operand.tmp 18], argTypes := #[86, 62, 62] }, type := 62, pos := "walk.go:47", after := #[{ on := 0, ground := Ground.data }, { on := 1, ground := Ground.data }, { on := 7, ground := Ground.data }], guard := none }) rfl (fun K hK => ?_) AllReadyH.nil
    go_simp
    refine (KJ2.out _ ((Below.refl _ W).drew)).mono ?_
    rintro e wj ⟨vj, rfl, hf, hb⟩
    have HF := hide hf
    obtain ⟨v1, v2, rfl, ho1, ho2, -⟩ := hf
    obtain ⟨o1, o2, o3, rfl⟩ := own_form ho1
    obtain ⟨o4, o5, o6, rfl⟩ := own_form ho2
    have HBJ : Hid (Below W.heap.size W wj) := ((Below.refl _ W).drew).trans (hb.mono (Nat.le_refl _))
    have hbs : w.heap.size + 1 + 1 + 1 < W.heap.size := World.block_lt_of_cell? W _ s0
    have c0j := cell_over HBJ.out _ _ c0
    have c1j := cell_over HBJ.out _ _ c1
    have f0j : wj.frozen? ⟨w.heap.size + 1, 0, none⟩ = false := ((bcell HBJ.out).2 _ _ (by omega)).trans f0
    have f1j : wj.frozen? ⟨w.heap.size + 1, 1, none⟩ = false := ((bcell HBJ.out).2 _ _ (by omega)).trans f1
    have hSj : (fun W2 : World => W2.cell? ⟨w.heap.size, 0, none⟩ = some (.int .i64 (n : Int)) ∧ W2.cell? ⟨w.heap.size, 1, none⟩ = some (.slice ga gn gc) ∧ W2.cell? ⟨w.heap.size, 2, none⟩ = some (.slice sa sn sc) ∧ W2.cell? ⟨w.heap.size, 3, none⟩ = some (.slice ya yn yc) ∧ W2.cell? ⟨w.heap.size, 4, none⟩ = some (.slice oa on oc) ∧ W2.cell? ⟨w.heap.size, 5, none⟩ = some (.slice va vn vc) ∧ W2.cell? ⟨w.heap.size, 6, none⟩ = some (.slice fa fn fc) ∧ W2.cell? ⟨w.heap.size, 7, none⟩ = some (.slice ba bn bc) ∧ W2.cell? ⟨w.heap.size, 8, none⟩ = some (.slice (some ⟨b, off, none⟩) ln lc) ∧ W2.cell? ⟨w.heap.size, 9, none⟩ = some (.slice ka kn kc) ∧ W2.cell? ⟨b, off + j * 2, none⟩ = some (.slice b1 b2 b3) ∧ W2.cell? ⟨b, off + j * 2 + 1, none⟩ = some (.slice b4 b5 b6)) wj := by
      have hh := cell_over HBJ.out
      exact ⟨hh _ _ w0, hh _ _ w1, hh _ _ w2, hh _ _ w3, hh _ _ w4, hh _ _ w5, hh _ _ w6, hh _ _ w7, hh _ _ w8, hh _ _ w9, hh _ _ e0, hh _ _ e1⟩
    go_simp
    refine hK.out _ _ hSj (fun hHeld => ?_)
    clear hK K hHeld
    try simp only [aput]
    refine wpAnyH_ready (rs := [9]) (by kernel_rfl) (by simp) ?_
    refine AllReadyH.cons (o := { dst := none, op := Op.store 62 (Operand.tmp 4) (Operand.tmp 19), type := 0, pos := "walk.go:47", after := #[{ on := 8, ground := Ground.data }, { on := 8, ground := Ground.chain }, { on := 0, ground := Ground.phase }, { on := 1, ground := Ground.phase }, { on := 2, ground := Ground.phase }, { on := 3, ground := Ground.phase }, { on := 4, ground := Ground.phase }, { on := 5, ground := Ground.phase }, { on := 6, ground := Ground.phase }, { on := 7, ground := Ground.phase }, { on := 8, ground := Ground.phase }], guard := none }) rfl (fun K hK => ?_) AllReadyH.nil
    go_simp
    refine hK.out _ _ ?_ (fun hHeld => ?_)
    · obtain ⟨t0, t1, t2, t3, t4, t5, t6, t7, t8, t9, t10, t11⟩ := hSj
      have hne : b ≠ w.heap.size + 1 := by omega
      have ho : ∀ b' o' u, b' ≠ w.heap.size + 1 → wj.cell? ⟨b', o', none⟩ = some u → ((wj.setCell ⟨w.heap.size + 1, 0, none⟩ (.slice o1 o2 o3)).setCell ⟨w.heap.size + 1, 1, none⟩ (.slice o4 o5 o6)).cell? ⟨b', o', none⟩ = some u := fun b' o' u hb' h => by
        have := hb'.symm
        simp [go_sem, h]
      exact ⟨ho _ _ _ (by omega) t0, ho _ _ _ (by omega) t1, ho _ _ _ (by omega) t2, ho _ _ _ (by omega) t3, ho _ _ _ (by omega) t4, ho _ _ _ (by omega) t5, ho _ _ _ (by omega) t6, ho _ _ _ (by omega) t7, ho _ _ _ (by omega) t8, ho _ _ _ (by omega) t9, ho _ _ _ hne t10, ho _ _ _ hne t11⟩
    clear hK K hHeld
    refine wpAnyH_done (by kernel_rfl) ?_ _
    have hfin := HSTEP.out (.slice o1 o2 o3) (.slice o4 o5 o6) wj HBJ.out (by rw [HLJ.out]; exact HF.out)
    exact hfin
  case done =>
    rintro D zs W hD rfl ⟨⟨xr, xw, c0, c1, f0, f1, hl, hd, hrow, s0, s1, g0, g1⟩, hB⟩ hK
    obtain ⟨a1, a2, a3, a4, a5, a6, rfl, rfl⟩ := lev_slices hl
    gi_wp2
    have hbs : w.heap.size + 1 + 1 + 1 < W.heap.size := World.block_lt_of_cell? W _ s0
    have hK2 := (KeepsOthers.setCell W ⟨w.heap.size + 1 + 1 + 1, 0, none⟩ (.slice a1 a2 a3)).same D _ hK rfl
    have hK3 := (KeepsOthers.setCell (W.setCell ⟨w.heap.size + 1 + 1 + 1, 0, none⟩ (.slice a1 a2 a3)) ⟨w.heap.size + 1 + 1 + 1, 1, none⟩ (.slice a4 a5 a6)).same D _ hK2 rfl
    have x0 : ((W.setCell ⟨w.heap.size + 1 + 1 + 1, 0, none⟩ (.slice a1 a2 a3)).setCell ⟨w.heap.size + 1 + 1 + 1, 1, none⟩ (.slice a4 a5 a6)).cell? ⟨w.heap.size + 1 + 1 + 1, 0, none⟩ = some (.slice a1 a2 a3) := by simp [go_sem, s0]
    have x1 : ((W.setCell ⟨w.heap.size + 1 + 1 + 1, 0, none⟩ (.slice a1 a2 a3)).setCell ⟨w.heap.size + 1 + 1 + 1, 1, none⟩ (.slice a4 a5 a6)).cell? ⟨w.heap.size + 1 + 1 + 1, 1, none⟩ = some (.slice a4 a5 a6) := by simp [go_sem, s1]
    have hkc : ∀ a u, ((W.setCell ⟨w.heap.size + 1 + 1 + 1, 0, none⟩ (.slice a1 a2 a3)).setCell ⟨w.heap.size + 1 + 1 + 1, 1, none⟩ (.slice a4 a5 a6)).cell? a = some u → (((W.setCell ⟨w.heap.size + 1 + 1 + 1, 0, none⟩ (.slice a1 a2 a3)).setCell ⟨w.heap.size + 1 + 1 + 1, 1, none⟩ (.slice a4 a5 a6)).putObj D (.deferred none)).cell? a = some u := fun a u h => cell_kept h (grownBy_putObj' _ D (.deferred none)) (fun r e => by cases e; exact ⟨_, hK3, rfl⟩)
    have y0 := hkc _ _ x0
    have y1 := hkc _ _ x1
    have s1' : (W.setCell ⟨w.heap.size + 1 + 1 + 1, 0, none⟩ (.slice a1 a2 a3)).cell? ⟨w.heap.size + 1 + 1 + 1, 1, none⟩ = some (.slice none 0 0) := by simp [go_sem, s1]
    refine ⟨by simp, .inl ⟨_, _, rfl, run_takeDeferred hK3, ?_⟩⟩
    refine ⟨.agg #[.slice a1 a2 a3, .slice a4 a5 a6], by simp [results, Try.f78, go_sem, y0, y1], ⟨_, rfl, ?_, ?_⟩, ?_⟩
    · rw [← HYS.out]
      exact levAt_cells (levAt_setS s1' (levAt_setS s0 hl _) _) hkc
    · rcases hd with ⟨h1, h2⟩ | h
      · exact Or.inl (by rw [h1, h2])
      · exact Or.inr h
    · exact ((hB.setCell (by simp; omega) _).setCell (by simp; omega) _).trans (belowK_b (w := w) (Nat.le_refl _) _ D _ _ (by simp at hD; omega) hK3 rfl rfl)
  case stop =>
    rintro D c pre W _ _ h _
    exact h.elim
end Go.Proofs.Ytcbbjjenkommeaa.Ex
namespace Go.Proofs.Ytcbbjjenkommeaa.Ex
open Go.RowKit
set_option linter.unusedVariables false
set_option maxHeartbeats 1000000 in
theorem catch_idle (p q : Addr) (w : World) :
    CallsD Try.prog 106 #[.pointer (some p), .pointer (some q)] .returning w fun e u' w' => e = .returned (.tuple #[]) ∧ u' = .returning ∧ w' = w := by
  refine callsD_of_wpS Try.func106 rfl fun c₀ cs hu => ?_
  apply wpS_seq
  apply wpS_region
  simp [wpOpsS, go_sem, recoverD, hu, Try.ntmps106, Exit.thenS]
  refine wpS_of_wp ?_
  change Code.wp Try.prog _ _ { tmps := #[.pointer (some p), .pointer (some q), .nilIface, undef, .nilIface, undef, undef, undef, undef, undef, undef, undef, undef], defers := [] } w
  go_wp2
  cases c₀
  simp_all [bodyPostS, results, Try.results106]
/-- the cells of labels that lie one behind the other. -/
def LabCells (w : World) : List Lab → List Value → Prop
  | [], xs => xs = []
  | l :: r, xs => ∃ (pr pw : Value) (ys : List Value), xs = pr :: pw :: ys ∧ IsPols w pr l.r ∧ IsPols w pw l.w ∧ LabCells w r ys
theorem LabCells.over {w w' : World} (hb : Below w.heap.size w w') : ∀ {l : List Lab} {xs : List Value}, LabCells w l xs → LabCells w' l xs
  | [], _, h => h
  | a :: l, _, h => by
    obtain ⟨pr, pw, ys, rfl, h1, h2, h3⟩ := h
    exact ⟨pr, pw, ys, rfl, isPols_over h1 hb, isPols_over h2 hb, h3.over hb⟩
theorem LabCells.append {w : World} : ∀ {l m : List Lab} {xs ys : List Value}, LabCells w l xs → LabCells w m ys → LabCells w (l ++ m) (xs ++ ys)
  | [], _, _, _, h, h' => by have e : _ = _ := h; subst e; exact h'
  | a :: l, _, _, _, h, h' => by
    obtain ⟨pr, pw, zs, rfl, h1, h2, h3⟩ := h
    exact ⟨pr, pw, zs ++ _, rfl, h1, h2, h3.append h'⟩
theorem LabCells.length {w : World} : ∀ {l : List Lab} {xs : List Value}, LabCells w l xs → xs.length = l.length * 2
  | [], _, h => by have e : _ = _ := h; subst e; rfl
  | a :: l, _, h => by
    obtain ⟨pr, pw, zs, rfl, h1, h2, h3⟩ := h
    have := h3.length
    simp
    omega
theorem LabCells.one {w : World} : ∀ {l : List Lab} {xs : List Value}, LabCells w l xs → ∀ u ∈ xs, u.oneCell' = true
  | [], _, h, u, hu => by have e : _ = _ := h; subst e; cases hu
  | a :: l, _, h, u, hu => by
    obtain ⟨pr, pw, zs, rfl, h1, h2, h3⟩ := h
    obtain ⟨x, n, c, rfl⟩ := pols_form h1
    obtain ⟨y, n', c', rfl⟩ := pols_form h2
    simp only [List.mem_cons] at hu
    rcases hu with rfl | rfl | hu
    · rfl
    · rfl
    · exact h3.one u hu
theorem LabCells.at {w : World} : ∀ {l : List Lab} {xs : List Value}, LabCells w l xs → ∀ (j : Nat) (hj : j < l.length), ∃ pr pw, xs[j * 2]? = some pr ∧ xs[j * 2 + 1]? = some pw ∧ IsPols w pr l[j].r ∧ IsPols w pw l[j].w
  | a :: l, _, h, 0, hj => by
    obtain ⟨pr, pw, zs, rfl, h1, h2, h3⟩ := h
    exact ⟨pr, pw, rfl, rfl, h1, h2⟩
  | a :: l, _, h, j + 1, hj => by
    obtain ⟨pr, pw, zs, rfl, h1, h2, h3⟩ := h
    obtain ⟨pr', pw', e1, e2, e3, e4⟩ := h3.at j (by simpa using hj)
    exact ⟨pr', pw', by rw [Nat.succ_mul]; exact e1, by rw [Nat.succ_mul]; exact e2, e3, e4⟩
theorem labs_cells {w : World} {b off : Nat} : ∀ (ls : List Lab) (o : Nat), (∀ i (h : i < ls.length), ∃ (pr pw : Value), w.cell? ⟨b, o + i * 2, none⟩ = some pr ∧ w.cell? ⟨b, o + i * 2 + 1, none⟩ = some pw ∧ IsPols w pr ls[i].r ∧ IsPols w pw ls[i].w) →
    ∃ xs, LabCells w ls xs ∧ ∀ j u, xs[j]? = some u → w.cell? ⟨b, o + j, none⟩ = some u
  | [], o, _ => ⟨[], rfl, fun j u hu => by simp at hu⟩
  | l :: ls, o, h => by
    obtain ⟨pr, pw, h0, h1, h2, h3⟩ := h 0 (by simp)
    obtain ⟨xs, hx, hc⟩ := labs_cells (w := w) (b := b) (off := off) ls (o + 2) (fun i hi => by
      obtain ⟨pr', pw', e0, e1, e2, e3⟩ := h (i + 1) (by simpa using hi)
      refine ⟨pr', pw', ?_, ?_, e2, e3⟩
      · rw [← e0]; congr 2; omega
      · rw [← e1]; congr 2; omega)
    refine ⟨pr :: pw :: xs, ⟨pr, pw, xs, rfl, h2, h3, hx⟩, fun j u hu => ?_⟩
    match j, hu with
    | 0, hu => simp at hu; subst hu; simpa using h0
    | 1, hu => simp at hu; subst hu; simpa using h1
    | j + 2, hu =>
      have := hc j u (by simpa using hu)
      rw [← this]
      congr 2
      omega
set_option maxHeartbeats 1000000 in
theorem growOf0 (w : World) : Calls Try.prog 150 #[.slice none 0 0, .int .i64 0] w fun e w' => ∃ v, e = .returned v ∧ w'.ownsRow w.heap.size 102 2 v 0 [] ∧ Below w.heap.size w w' := by
  go_enter Try.func150, Try.ntmps150
  go_wp2_with fail
  go_ret
  exact ⟨_, rfl, World.ownsRow_nil _ _ _ _, Below.refl _ _⟩

set_option maxHeartbeats 1000000 in
theorem growOf1 (w : World) : Calls Try.prog 150 #[.slice none 0 0, .int .i64 1] w fun e w' => ∃ v, e = .returned v ∧ w'.ownsRow w.heap.size 102 2 v 0 [] ∧ Below w.heap.size w w' := by
  go_enter Try.func150, Try.ntmps150
  go_wp2_with fail
  go_ret
  refine ⟨_, rfl, ⟨rfl, Or.inr ⟨w.heap.size, grownCap w 1 0 102, _, rfl, Nat.le_refl _, heap_alloc_new w _, Nat.zero_le _, grownCap_le_maxLen _ _ _ _ (by decide), ?_, rfl⟩⟩, ((Below.refl _ w).alloc (Nat.le_refl _) _).drew⟩
  have := grownCap_ge w 1 0 102
  simp [Builtin.zeroCells]
  unfold grownCap at this ⊢
  omega

set_option maxHeartbeats 1000000 in
theorem growOf2 (w : World) : Calls Try.prog 150 #[.slice none 0 0, .int .i64 2] w fun e w' => ∃ v, e = .returned v ∧ w'.ownsRow w.heap.size 102 2 v 0 [] ∧ Below w.heap.size w w' := by
  go_enter Try.func150, Try.ntmps150
  go_wp2_with fail
  go_ret
  refine ⟨_, rfl, ⟨rfl, Or.inr ⟨w.heap.size, grownCap w 2 0 102, _, rfl, Nat.le_refl _, heap_alloc_new w _, Nat.zero_le _, grownCap_le_maxLen _ _ _ _ (by decide), ?_, rfl⟩⟩, ((Below.refl _ w).alloc (Nat.le_refl _) _).drew⟩
  have := grownCap_ge w 2 0 102
  simp [Builtin.zeroCells]
  unfold grownCap at this ⊢
  omega

set_option maxHeartbeats 1000000 in
theorem growOf3 (w : World) : Calls Try.prog 150 #[.slice none 0 0, .int .i64 3] w fun e w' => ∃ v, e = .returned v ∧ w'.ownsRow w.heap.size 102 2 v 0 [] ∧ Below w.heap.size w w' := by
  go_enter Try.func150, Try.ntmps150
  go_wp2_with fail
  go_ret
  refine ⟨_, rfl, ⟨rfl, Or.inr ⟨w.heap.size, grownCap w 3 0 102, _, rfl, Nat.le_refl _, heap_alloc_new w _, Nat.zero_le _, grownCap_le_maxLen _ _ _ _ (by decide), ?_, rfl⟩⟩, ((Below.refl _ w).alloc (Nat.le_refl _) _).drew⟩
  have := grownCap_ge w 3 0 102
  simp [Builtin.zeroCells]
  unfold grownCap at this ⊢
  omega

set_option maxHeartbeats 1000000 in
theorem growOf4 (w : World) : Calls Try.prog 150 #[.slice none 0 0, .int .i64 4] w fun e w' => ∃ v, e = .returned v ∧ w'.ownsRow w.heap.size 102 2 v 0 [] ∧ Below w.heap.size w w' := by
  go_enter Try.func150, Try.ntmps150
  go_wp2_with fail
  go_ret
  refine ⟨_, rfl, ⟨rfl, Or.inr ⟨w.heap.size, grownCap w 4 0 102, _, rfl, Nat.le_refl _, heap_alloc_new w _, Nat.zero_le _, grownCap_le_maxLen _ _ _ _ (by decide), ?_, rfl⟩⟩, ((Below.refl _ w).alloc (Nat.le_refl _) _).drew⟩
  have := grownCap_ge w 4 0 102
  simp [Builtin.zeroCells]
  unfold grownCap at this ⊢
  omega

set_option maxHeartbeats 1000000 in
theorem growOf5 (w : World) : Calls Try.prog 150 #[.slice none 0 0, .int .i64 5] w fun e w' => ∃ v, e = .returned v ∧ w'.ownsRow w.heap.size 102 2 v 0 [] ∧ Below w.heap.size w w' := by
  go_enter Try.func150, Try.ntmps150
  go_wp2_with fail
  go_ret
  refine ⟨_, rfl, ⟨rfl, Or.inr ⟨w.heap.size, grownCap w 5 0 102, _, rfl, Nat.le_refl _, heap_alloc_new w _, Nat.zero_le _, grownCap_le_maxLen _ _ _ _ (by decide), ?_, rfl⟩⟩, ((Below.refl _ w).alloc (Nat.le_refl _) _).drew⟩
  have := grownCap_ge w 5 0 102
  simp [Builtin.zeroCells]
  unfold grownCap at this ⊢
  omega

set_option maxHeartbeats 1000000 in
theorem growOf6 (w : World) : Calls Try.prog 150 #[.slice none 0 0, .int .i64 6] w fun e w' => ∃ v, e = .returned v ∧ w'.ownsRow w.heap.size 102 2 v 0 [] ∧ Below w.heap.size w w' := by
  go_enter Try.func150, Try.ntmps150
  go_wp2_with fail
  go_ret
  refine ⟨_, rfl, ⟨rfl, Or.inr ⟨w.heap.size, grownCap w 6 0 102, _, rfl, Nat.le_refl _, heap_alloc_new w _, Nat.zero_le _, grownCap_le_maxLen _ _ _ _ (by decide), ?_, rfl⟩⟩, ((Below.refl _ w).alloc (Nat.le_refl _) _).drew⟩
  have := grownCap_ge w 6 0 102
  simp [Builtin.zeroCells]
  unfold grownCap at this ⊢
  omega

set_option maxHeartbeats 1000000 in
theorem growOf7 (w : World) : Calls Try.prog 150 #[.slice none 0 0, .int .i64 7] w fun e w' => ∃ v, e = .returned v ∧ w'.ownsRow w.heap.size 102 2 v 0 [] ∧ Below w.heap.size w w' := by
  go_enter Try.func150, Try.ntmps150
  go_wp2_with fail
  go_ret
  refine ⟨_, rfl, ⟨rfl, Or.inr ⟨w.heap.size, grownCap w 7 0 102, _, rfl, Nat.le_refl _, heap_alloc_new w _, Nat.zero_le _, grownCap_le_maxLen _ _ _ _ (by decide), ?_, rfl⟩⟩, ((Below.refl _ w).alloc (Nat.le_refl _) _).drew⟩
  have := grownCap_ge w 7 0 102
  simp [Builtin.zeroCells]
  unfold grownCap at this ⊢
  omega

set_option maxHeartbeats 1000000 in
theorem growOf8 (w : World) : Calls Try.prog 150 #[.slice none 0 0, .int .i64 8] w fun e w' => ∃ v, e = .returned v ∧ w'.ownsRow w.heap.size 102 2 v 0 [] ∧ Below w.heap.size w w' := by
  go_enter Try.func150, Try.ntmps150
  go_wp2_with fail
  go_ret
  refine ⟨_, rfl, ⟨rfl, Or.inr ⟨w.heap.size, grownCap w 8 0 102, _, rfl, Nat.le_refl _, heap_alloc_new w _, Nat.zero_le _, grownCap_le_maxLen _ _ _ _ (by decide), ?_, rfl⟩⟩, ((Below.refl _ w).alloc (Nat.le_refl _) _).drew⟩
  have := grownCap_ge w 8 0 102
  simp [Builtin.zeroCells]
  unfold grownCap at this ⊢
  omega

set_option maxHeartbeats 1000000 in
theorem growOf9 (w : World) : Calls Try.prog 150 #[.slice none 0 0, .int .i64 9] w fun e w' => ∃ v, e = .returned v ∧ w'.ownsRow w.heap.size 102 2 v 0 [] ∧ Below w.heap.size w w' := by
  go_enter Try.func150, Try.ntmps150
  go_wp2_with fail
  go_ret
  refine ⟨_, rfl, ⟨rfl, Or.inr ⟨w.heap.size, grownCap w 9 0 102, _, rfl, Nat.le_refl _, heap_alloc_new w _, Nat.zero_le _, grownCap_le_maxLen _ _ _ _ (by decide), ?_, rfl⟩⟩, ((Below.refl _ w).alloc (Nat.le_refl _) _).drew⟩
  have := grownCap_ge w 9 0 102
  simp [Builtin.zeroCells]
  unfold grownCap at this ⊢
  omega

set_option maxHeartbeats 1000000 in
theorem growOf10 (w : World) : Calls Try.prog 150 #[.slice none 0 0, .int .i64 10] w fun e w' => ∃ v, e = .returned v ∧ w'.ownsRow w.heap.size 102 2 v 0 [] ∧ Below w.heap.size w w' := by
  go_enter Try.func150, Try.ntmps150
  go_wp2_with fail
  go_ret
  refine ⟨_, rfl, ⟨rfl, Or.inr ⟨w.heap.size, grownCap w 10 0 102, _, rfl, Nat.le_refl _, heap_alloc_new w _, Nat.zero_le _, grownCap_le_maxLen _ _ _ _ (by decide), ?_, rfl⟩⟩, ((Below.refl _ w).alloc (Nat.le_refl _) _).drew⟩
  have := grownCap_ge w 10 0 102
  simp [Builtin.zeroCells]
  unfold grownCap at this ⊢
  omega

theorem growOf (n : Nat) (hn : n ≤ 10) (w : World) : Calls Try.prog 150 #[.slice none 0 0, .int .i64 n] w fun e w' => ∃ v, e = .returned v ∧ w'.ownsRow w.heap.size 102 2 v 0 [] ∧ Below w.heap.size w w' := by
  match n, hn with
  | 0, _ => exact growOf0 w
  | 1, _ => exact growOf1 w
  | 2, _ => exact growOf2 w
  | 3, _ => exact growOf3 w
  | 4, _ => exact growOf4 w
  | 5, _ => exact growOf5 w
  | 6, _ => exact growOf6 w
  | 7, _ => exact growOf7 w
  | 8, _ => exact growOf8 w
  | 9, _ => exact growOf9 w
  | 10, _ => exact growOf10 w

theorem LabsAt.src2 {w : World} {ad : Addr} {n cap : Nat} {ls : List Lab} (h : LabsAt w (.slice (some ad) n cap) ls) : ∃ xs, LabCells w ls xs ∧ ∀ j u, xs[j]? = some u → w.cell? (ad.add j) = some u := by
  obtain ⟨-, ao, cap', he, hc⟩ := h
  injection he with e1 e2 e3
  rcases hl : ls with _ | ⟨a, l⟩
  · exact ⟨[], rfl, fun j u hu => by simp at hu⟩
  · obtain ⟨b, off, hbo, hel⟩ := hc (by rw [hl]; simp)
    rw [← e1] at hbo
    have hbo2 := Option.some.inj hbo
    subst hbo2
    obtain ⟨xs, hx, hxc⟩ := labs_cells (w := w) (b := b) (off := off) ls off (fun i hi => hel i hi)
    refine ⟨xs, hl ▸ hx, fun j u hu => ?_⟩
    rw [Addr.add_lit]
    exact hxc j u hu

set_option maxHeartbeats 8000000 in
set_option maxRecDepth 100000 in
theorem concat_any (g : Nat) (ya : Option Addr) (yn yc : Nat) (oa : Option Addr) (on oc : Nat) (ls ms : List Lab) (w : World) (hg : RowAt [.slice ya yn yc, .slice oa on oc] w g) (h1 : LabsAt w (.slice ya yn yc) ls) (h2 : LabsAt w (.slice oa on oc) ms) (hy : yn ≤ 5) (ho : on ≤ 5) (hyc : ya = none → yc = 0) (hoc : oa = none → oc = 0) :
    Calls Try.prog 137 #[.slice (some ⟨g, 0, none⟩) 2 2] w fun e w' => ∃ v xs, e = .returned v ∧ w'.ownsRow w.heap.size 102 2 v (ls ++ ms).length xs ∧ LabCells w' (ls ++ ms) xs ∧ Below w.heap.size w w' := by
  obtain ⟨i0, hi, hz0, hz1, hz2⟩ := info_parts Try.infoL
  have K1 := hide (growOf (yn + on) (by omega) w)
  have HG := hide hg
  have H1 := hide h1
  have H2 := hide h2
  have hyn : yn = ls.length := by obtain ⟨-, a, c, he, -⟩ := h1; injection he
  have hon : on = ms.length := by obtain ⟨-, a, c, he, -⟩ := h2; injection he
  have HYN := hide hyn
  have HON := hide hon
  clear hg h1 h2 hyn hon
  go_enter Try.func137, Try.ntmps137
  go_wp2_with fail
  go_loopw [3, 11] (fun s i wr => ∃ j : Int, 0 ≤ j ∧ j ≤ 2 ∧ i = .int .i64 j ∧ s = .int .i64 (if j = 0 then 0 else if j = 1 then (yn : Int) else (yn : Int) + on) ∧ wr = w) (fun _ i _ => 2 - (intOf i).toNat)
  case atStart => exact ⟨0, by omega, by omega, rfl, rfl, rfl⟩
  case round =>
    obtain ⟨j, hj0, hj, rfl, rfl, hw⟩ := hrel
    have hw' := hw.symm
    subst hw'
    clear hw
    rcases (by omega : j = 0 ∨ j = 1 ∨ j = 2) with rfl | rfl | rfl
    · have q := HG.out 0 _ rfl
      rw [if_pos rfl]
      go_wp2_with fail
      exact ⟨⟨1, by omega, by omega, by first | rfl | go_num, by first | rfl | simp, by first | rfl | trivial⟩, by simp [intOf]⟩
    · have q := HG.out 1 _ rfl
      rw [if_neg (by omega), if_pos rfl]
      go_wp2_with fail
      exact ⟨⟨2, by omega, by omega, by first | rfl | go_num, by first | rfl | simp, by first | rfl | trivial⟩, by simp [intOf]⟩
    · rw [if_neg (by omega), if_neg (by omega)]
      have K1' : Hid (Calls Try.prog 150 #[.slice none 0 0, .int .i64 ((yn : Int) + on)] w fun e w' => ∃ v, e = .returned v ∧ w'.ownsRow w.heap.size 102 2 v 0 [] ∧ Below w.heap.size w w') := by
        have := K1.out
        rw [Int.natCast_add] at this
        exact this
      obtain ⟨T, hT⟩ : ∃ T, T = (yn : Int) + on := ⟨_, rfl⟩
      rw [← hT] at K1' ⊢
      have hT0 : 0 ≤ T := by omega
      have hT1 : T ≤ 10 := by omega
      clear hT
      go_wp2_with fail
      refine (K1'.out).mono ?_
      rintro e w1 ⟨v, rfl, hown, hb1⟩
      clear K1 K1'
      obtain ⟨va, vn, vc, hvf⟩ : ∃ a n c, v = .slice a n c := by
        rcases hown.2 with ⟨h, _⟩ | ⟨g, cap, cur, h, _⟩
        · exact ⟨_, _, _, h⟩
        · exact ⟨_, _, _, h⟩
      subst hvf
      go_wp2_with fail
      go_loopw [6, 27] (fun nv i wq => ∃ (j : Int) (xs : List Value), 0 ≤ j ∧ j ≤ 2 ∧ i = .int .i64 j ∧ wq.ownsRow w.heap.size 102 2 nv (if j = 0 then [] else if j = 1 then ls else ls ++ ms).length xs ∧ LabCells w (if j = 0 then [] else if j = 1 then ls else ls ++ ms) xs ∧ Below w.heap.size w wq) (fun _ i _ => 2 - (intOf i).toNat)
      case atStart => exact ⟨0, [], by omega, by omega, rfl, hown, rfl, hb1⟩
      case round =>
        clear hown hb1
        obtain ⟨j, xs, hj0, hj, rfl, hown, hcl, hB⟩ := hrel
        rcases (by omega : j = 0 ∨ j = 1 ∨ j = 2) with rfl | rfl | rfl
        · rw [if_pos rfl] at hown hcl
          have q := HG.out.over hB 0 _ rfl
          have hs1 : w.heap.size ≤ wr.heap.size := hB.size
          cases ya with
          | none =>
            have hc0 := hyc rfl
            have hl0 : ls = [] := by
              obtain ⟨-, a0, c0, he, hcc⟩ := H1.out
              injection he with e1 e2 e3
              rcases h : ls with _ | ⟨x, r⟩
              · rfl
              · obtain ⟨b, off, hbo, -⟩ := hcc (by rw [h]; simp)
                rw [← e1] at hbo
                cases hbo
            have hn0 : yn = 0 := by rw [HYN.out, hl0]; rfl
            subst hc0 hn0
            go_wp2_with (at_builtin; refine wpList_append_own_none rfl _ _ 36 rfl w.heap.size 102 i0 2 Try.underlying36 hi _ _ _ rfl hown rfl ?_)
            go_wp2_with fail
            refine ⟨⟨1, xs, by omega, by omega, by first | rfl | go_num, ?_, ?_, hB⟩, by simp [intOf]⟩
            · rw [if_neg (by omega), if_pos rfl]
              rw [hl0]
              simpa using hown
            · rw [if_neg (by omega), if_pos rfl]
              rw [hl0]
              simpa using hcl
          | some ad =>
            obtain ⟨ys, hys, hyc0⟩ := H1.out.src2
            have hyc2 := fun j u hu => cell_over hB _ _ (hyc0 j u hu)
            have hb0 : ([] : List Lab).length + yn ≤ 10 := by simp; omega
            go_wp2_with (at_builtin; refine wpList_append_own _ rfl _ _ 36 rfl w.heap.size 102 i0 (.agg #[.slice none 0 0, .slice none 0 0]) 2 48 Try.underlying36 hi hz0 hz1 hz2 rfl (by decide) _ _ _ rfl hown ad yn yc ys rfl (by rw [hys.length, HYN.out]) hyc2 hys.one (by unfold maxLen; omega) (by omega) hs1 ?_)
            intro v2 w3 hown2 hgr2 _
            have hbl2 := below_grown hown hgr2 hs1
            have HO2 := hide hown2
            have hcl2 := (hcl.append hys)
            go_wp2_with fail
            refine ⟨⟨1, xs ++ ys, by omega, by omega, by first | rfl | go_num, ?_, ?_, hB.trans hbl2⟩, by simp [intOf]⟩
            · rw [if_neg (by omega), if_pos rfl]
              have h3 := HO2.out
              rw [HYN.out] at h3
              simpa using h3
            · rw [if_neg (by omega), if_pos rfl]
              simpa using hcl2
        · rw [if_neg (by omega), if_pos rfl] at hown hcl
          have q := HG.out.over hB 1 _ rfl
          have hs1 : w.heap.size ≤ wr.heap.size := hB.size
          cases oa with
          | none =>
            have hc0 := hoc rfl
            have hl0 : ms = [] := by
              obtain ⟨-, a0, c0, he, hcc⟩ := H2.out
              injection he with e1 e2 e3
              rcases h : ms with _ | ⟨x, r⟩
              · rfl
              · obtain ⟨b, off, hbo, -⟩ := hcc (by rw [h]; simp)
                rw [← e1] at hbo
                cases hbo
            have hn0 : on = 0 := by rw [HON.out, hl0]; rfl
            subst hc0 hn0
            go_wp2_with (at_builtin; refine wpList_append_own_none rfl _ _ 36 rfl w.heap.size 102 i0 2 Try.underlying36 hi _ _ _ rfl hown rfl ?_)
            go_wp2_with fail
            refine ⟨⟨2, xs, by omega, by omega, by first | rfl | go_num, ?_, ?_, hB⟩, by simp [intOf]⟩
            · rw [if_neg (by omega), if_neg (by omega)]
              rw [hl0]
              simpa using hown
            · rw [if_neg (by omega), if_neg (by omega)]
              rw [hl0]
              simpa using hcl
          | some ad =>
            obtain ⟨ys, hys, hyc0⟩ := H2.out.src2
            have hyc2 := fun j u hu => cell_over hB _ _ (hyc0 j u hu)
            have hb0 : ls.length + on ≤ 10 := by have := HYN.out; omega
            go_wp2_with (at_builtin; refine wpList_append_own _ rfl _ _ 36 rfl w.heap.size 102 i0 (.agg #[.slice none 0 0, .slice none 0 0]) 2 48 Try.underlying36 hi hz0 hz1 hz2 rfl (by decide) _ _ _ rfl hown ad on oc ys rfl (by rw [hys.length, HON.out]) hyc2 hys.one (by unfold maxLen; omega) (by omega) hs1 ?_)
            intro v2 w3 hown2 hgr2 _
            have hbl2 := below_grown hown hgr2 hs1
            have HO2 := hide hown2
            have hcl2 := (hcl.append hys)
            go_wp2_with fail
            refine ⟨⟨2, xs ++ ys, by omega, by omega, by first | rfl | go_num, ?_, ?_, hB.trans hbl2⟩, by simp [intOf]⟩
            · rw [if_neg (by omega), if_neg (by omega)]
              have h3 := HO2.out
              rw [HON.out] at h3
              simpa using h3
            · rw [if_neg (by omega), if_neg (by omega)]
              simpa using hcl2
        · rw [if_neg (by omega), if_neg (by omega)] at hown hcl
          go_wp2_with fail
          go_ret
          exact ⟨_, xs, rfl, hown, hcl.over hB, hB⟩
theorem own_cellsL {W : World} {B e : Nat} {v : Value} {n : Nat} {xs : List Value} (h : W.ownsRow B e 2 v n xs) (hn : 0 < n) : ∃ g cap, v = .slice (some ⟨g, 0, none⟩) n cap ∧ B ≤ g ∧ g < W.heap.size ∧ ∀ j u, xs[j]? = some u → W.cell? ((⟨g, 0, none⟩ : Addr).add j) = some u := by
  rcases h.2 with ⟨_, h0⟩ | ⟨g, cap, cur, hv, hb, hg, h1, h2, h3, h4⟩
  · omega
  · refine ⟨g, cap, hv, hb, (Array.getElem?_eq_some_iff.1 hg).1, fun j u hu => ?_⟩
    rw [Addr.add_lit, Lib.cell_of_heap hg]
    rw [← h4, List.getElem?_take] at hu
    split at hu
    · simpa using hu
    · cases hu

/-- labels that passed. -/
def labsOk (m : Int) (gs : List (Int × Int)) (ls : List Lab) (vs : List (Bool × Lab)) : Prop :=
  (∀ b ∈ ls, lChk m gs b = 0) ∧ (∀ v ∈ vs, lChk m gs v.2 = 0) ∧ ∀ v ∈ vs, v.1 = false → v.2.r = [] ∧ v.2.w = []
theorem take_next {α : Type} {P : α → Prop} {l : List α} {n : Nat} (h : n < l.length) (h1 : ∀ b ∈ l.take n, P b) (h2 : P l[n]) : ∀ b ∈ l.take (n + 1), P b := fun b hb => by
  rw [List.take_succ_eq_append_getElem h, List.mem_append, List.mem_singleton] at hb
  rcases hb with hb | rfl
  · exact h1 b hb
  · exact h2
theorem take_full {α : Type} {P : α → Prop} {l : List α} {n : Nat} (h : l.length ≤ n) (h1 : ∀ b ∈ l.take n, P b) : ∀ b ∈ l, P b := by
  rw [List.take_of_length_le h] at h1
  exact h1
theorem pols_len {w : World} {a : Option Addr} {n c : Nat} {ps : List Pol} (h : IsPols w (.slice a n c) ps) : n = ps.length := by
  obtain ⟨ao, cap, he, -⟩ := h
  injection he
/-- a program in memory. -/
structure ProgAt (K kf : Nat) (m : Int) (ga : Option Addr) (gn gc : Nat) (sa : Option Addr) (sn sc : Nat) (ya : Option Addr) (yn yc : Nat) (oa : Option Addr) (on oc : Nat) (va : Option Addr) (vn vc : Nat) (fa : Option Addr) (fn fc : Nat) (ba : Option Addr) (bn bc : Nat) (gs : List (Int × Int)) (sp : List Int) (ls ms : List Lab) (vs : List (Bool × Lab)) (fs : List FnD) (l : List D) (w : World) : Prop where
  m64 : In64 m
  grants : IsGrants w (.slice ga gn gc) gs
  speak : IsInts w (.slice sa sn sc) sp
  speakL : sp.length ≤ 9223372036854775807
  ins : LabsAt w (.slice ya yn yc) ls
  outs : LabsAt w (.slice oa on oc) ms
  vars : VarsAt w (.slice va vn vc) vs
  funcs : FnsAt w K kf (.slice fa fn fc) fs
  main : StmtsAt w K kf (.slice ba bn bc) l
  insN : ya = none → yc = 0
  outsN : oa = none → oc = 0
theorem ProgAt.over {K kf : Nat} {m : Int} {ga : Option Addr} {gn gc : Nat} {sa : Option Addr} {sn sc : Nat} {ya : Option Addr} {yn yc : Nat} {oa : Option Addr} {on oc : Nat} {va : Option Addr} {vn vc : Nat} {fa : Option Addr} {fn fc : Nat} {ba : Option Addr} {bn bc : Nat} {gs : List (Int × Int)} {sp : List Int} {ls ms : List Lab} {vs : List (Bool × Lab)} {fs : List FnD} {l : List D} {w w' : World} (h : ProgAt K kf m ga gn gc sa sn sc ya yn yc oa on oc va vn vc fa fn fc ba bn bc gs sp ls ms vs fs l w) (hb : Below w.heap.size w w') : ProgAt K kf m ga gn gc sa sn sc ya yn yc oa on oc va vn vc fa fn fc ba bn bc gs sp ls ms vs fs l w' :=
  ⟨h.m64, isGrants_over h.grants hb, h.speak.over hb, h.speakL, h.ins.over hb, h.outs.over hb, h.vars.over hb, h.funcs.over hb, h.main.over hb, h.insN, h.outsN⟩

/-- a program that may be run. -/
structure okP (K kf : Nat) (m : Int) (vn yn on : Nat) (gs : List (Int × Int)) (sp : List Int) (ls ms : List Lab) (vs : List (Bool × Lab)) (fs : List FnD) (l : List D) : Prop where
  chk : chkErr m gs = 0
  speak : ∀ x ∈ sp, 0 ≤ x ∧ x < m
  labs : labsOk m gs (ls ++ ms) vs
  outs : on ≤ 5
  vars : vn ≤ 16
  ins : yn ≤ 5
  funcs : fs.length ≤ 5
  many : cntF kf fs + cnts kf l ≤ 50
  body : ∀ i (h : i < fs.length), okF K vn yn on (i : Int) fs kf fs[i]
  main : ∀ s ∈ l, okS K vn yn on (fs.length : Int) fs kf s
theorem assertW (v : Value) (w : World) : (Instr.typeAssert (.iface 162 v) 20 162 false).run Try.prog w = .ok v w := by
  simp [Instr.typeAssert, run_underlying Try.underlying162, go_sem, Result.andThen]

set_option maxHeartbeats 1000000 in
theorem catch_gave (B : Nat) (x y a e : Int) (older : List PanicEntry) (w : World) (hB : B + 2 ≤ w.heap.size)
    (c0 : w.cell? ⟨B, 0, none⟩ = some (.int .i64 x)) (c1 : w.cell? ⟨B + 1, 0, none⟩ = some (.int .i64 y))
    (f0 : w.frozen? ⟨B, 0, none⟩ = false) (f1 : w.frozen? ⟨B + 1, 0, none⟩ = false) :
    CallsD Try.prog 106 #[.pointer (some ⟨B, 0, none⟩), .pointer (some ⟨B + 1, 0, none⟩)] (.panicking ({ v := .iface 162 (.agg #[.int .i64 a, .int .i64 e]), recovered := false } :: older)) w fun en u' w' =>
      en = .returned (.tuple #[]) ∧ u' = .panicking ({ v := .iface 162 (.agg #[.int .i64 a, .int .i64 e]), recovered := true } :: older) ∧
      w'.cell? ⟨B, 0, none⟩ = some (.int .i64 a) ∧ w'.cell? ⟨B + 1, 0, none⟩ = some (.int .i64 e) ∧ Below B w w' := by
  have hta := assertW
  refine callsD_of_wpS Try.func106 rfl fun c₀ cs hu => ?_
  apply wpS_seq
  apply wpS_region
  simp [wpOpsS, go_sem, recoverD, hu, Try.ntmps106, Exit.thenS]
  refine wpS_of_wp ?_
  change Code.wp Try.prog _ _ { tmps := #[.pointer (some ⟨B, 0, none⟩), .pointer (some ⟨B + 1, 0, none⟩), .iface 162 (.agg #[.int .i64 a, .int .i64 e]), undef, .iface 162 (.agg #[.int .i64 a, .int .i64 e]), undef, undef, undef, undef, undef, undef, undef, undef], defers := [] } w
  go_wp2
  have k1 : B < w.heap.size := by omega
  have k2 : B + 1 < w.heap.size := by omega
  go_region
  go_wp2
  refine ⟨rfl, _, by cases c₀; simp_all, .tuple #[], by simp [results, Try.results106], rfl, rfl, ?_⟩
  refine ⟨by simp [go_sem, k1, c0], by simp [go_sem, k2, c1], ?_⟩
  exact (((((Below.refl B w).setCell (by simp) _).setCell (by simp) _)).alloc (by simp [World.setCell]; omega) _).drew
end Go.Proofs.Ytcbbjjenkommeaa.Ex
