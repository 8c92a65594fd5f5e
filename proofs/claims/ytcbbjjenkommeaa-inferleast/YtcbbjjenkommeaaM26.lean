/- Of an expression, where all is right. -/
import Derived.Test.YtcbbjjenkommeaaM25
namespace Go.Proofs.Ytcbbjjenkommeaa.Ex
open Go.RowKit
set_option linter.unusedVariables false
/-- a level is kept, when it is put into a box that holds no bools. -/
theorem lev_end {W : World} {rb : Nat} {x y v : Value} {l : Lev} (h : LevAt W v l) (hr : ∀ j u, W.cell? ⟨rb, j, none⟩ = some u → ∃ a m c, u = .slice a m c) : LevAt ((W.setCell ⟨rb, 0, none⟩ x).setCell ⟨rb, 1, none⟩ y) v l := by
  have hbo : ∀ u l, IsBools W u l → IsBools ((W.setCell ⟨rb, 0, none⟩ x).setCell ⟨rb, 1, none⟩ y) u l := by
    intro u l ⟨ao, cap, e, hel⟩
    refine ⟨ao, cap, e, fun hne => ?_⟩
    obtain ⟨b, off, hao, hel⟩ := hel hne
    refine ⟨b, off, hao, fun i hi => ?_⟩
    have hb : b ≠ rb := fun eb => by
      subst eb
      obtain ⟨a, m, c, e⟩ := hr _ _ (hel i hi)
      cases e
    rw [set_far (Or.inl (Ne.symm hb)), set_far (Or.inl (Ne.symm hb))]
    exact hel i hi
  obtain ⟨x', y', e, bx, by'⟩ := h
  exact ⟨x', y', e, hbo _ _ bx, hbo _ _ by'⟩

set_option maxHeartbeats 4000000 in
set_option maxRecDepth 100000 in
theorem ofW (K kf n : Nat) (h1 : 1 ≤ n) (h6 : n ≤ 6) (ga : Option Addr) (gn gc : Nat) (sa : Option Addr) (sn sc : Nat) (ya : Option Addr) (yn yc : Nat) (oa : Option Addr) (on oc : Nat) (va : Option Addr) (vn vc : Nat) (fa : Option Addr) (fn fc : Nat) (ba : Option Addr) (bn bc : Nat) (gs : List (Int × Int)) (sp : List Int) (ls ms : List Lab) (vs : List (Bool × Lab)) (fs : List FnD) (l : List D) (la : Option Addr) (ln lc : Nat) (ka : Option Addr) (kn kc : Nat) (L : ISt) (w : World) (h : ProgAt K kf (n : Int) ga gn gc sa sn sc ya yn yc oa on oc va vn vc fa fn fc ba bn bc gs sp ls ms vs fs l w) (hV : IsLevs w (.slice la ln lc) L.vs) (hF : IsLevs w (.slice ka kn kc) L.fs) (hvl : L.vs.length ≤ 9223372036854775807) (hfl : L.fs.length ≤ 9223372036854775807)
    (X : Prop) (KS : ∀ W, Below w.heap.size w W → Calls Try.prog 36 #[.agg #[.int .i64 (n : Int), .slice ga gn gc, .slice sa sn sc, .slice ya yn yc, .slice oa on oc, .slice va vn vc, .slice fa fn fc, .slice ba bn bc]] W fun e w' => ∃ why : Int, e = .returned (.int .i64 why) ∧ (why = 0 ↔ X) ∧ Below W.heap.size W w') (hX : X) (hok : okP K kf (n : Int) vn yn on gs sp ls ms vs fs l) (hlo : levsOk (n : Int) gs vn fs.length L)
    (K2 : Nat) (ek en : Int) (xa : Option Addr) (xl xc : Nat) (d : D) (hx : RX w K2 [.int .i64 ek, .int .i64 en, .slice xa xl xc] d) (hck : checkX (vn : Int) K2 d = 0) (hvx : ∀ x ∈ varsX K2 d, 0 ≤ x ∧ x < (L.vs.length : Int)) :
    Calls Try.prog 42 #[.agg #[.int .i64 (n : Int), .slice ga gn gc, .slice sa sn sc, .slice ya yn yc, .slice oa on oc, .slice va vn vc, .slice fa fn fc, .slice ba bn bc], .agg #[.slice la ln lc, .slice ka kn kc], .agg #[.int .i64 ek, .int .i64 en, .slice xa xl xc]] w fun e w' => ∃ k1 k2 k3 k4 k5 k6, e = .returned (.tuple #[.agg #[.slice k1 k2 k3, .slice k4 k5 k6], .int .i64 0]) ∧ LevAt w' (.agg #[.slice k1 k2 k3, .slice k4 k5 k6]) (withL n L.vs (botL n) (varsX K2 d)) ∧ Below w.heap.size w w' := by
  obtain rfl : vn = vs.length := by obtain ⟨-, a, c, he, -⟩ := h.vars; injection he
  obtain rfl : yn = ls.length := by obtain ⟨-, a, c, he, -⟩ := h.ins; injection he
  have hfn : fn = fs.length := by obtain ⟨-, a, c, he, -⟩ := h.funcs; injection he
  subst hfn
  have hb0 : Below w.heap.size w ((((w.alloc (.cells #[.int .i64 (n : Int), .slice ga gn gc, .slice sa sn sc, .slice ya ls.length yc, .slice oa on oc, .slice va vs.length vc, .slice fa fs.length fc, .slice ba bn bc] 41)).alloc (.cells #[.slice la ln lc, .slice ka kn kc] 54)).alloc (.cells #[.int .i64 ek, .int .i64 en, .slice xa xl xc] 24)).alloc (.cells #[.slice none 0 0, .slice none 0 0] 62)) := ((((Below.refl _ w).alloc (Nat.le_refl _) _).alloc (by simp) _).alloc (by simp <;> omega) _).alloc (by simp <;> omega) _
  have K1 := hide (checkW (n : Int) ga gn gc sa sn sc ya ls.length yc oa on oc va vs.length vc fa fs.length fc ba bn bc gs la ln lc ka kn kc L.vs L.fs ((((w.alloc (.cells #[.int .i64 (n : Int), .slice ga gn gc, .slice sa sn sc, .slice ya ls.length yc, .slice oa on oc, .slice va vs.length vc, .slice fa fs.length fc, .slice ba bn bc] 41)).alloc (.cells #[.slice la ln lc, .slice ka kn kc] 54)).alloc (.cells #[.int .i64 ek, .int .i64 en, .slice xa xl xc] 24)).alloc (.cells #[.slice none 0 0, .slice none 0 0] 62)) (isGrants_over h.grants hb0) (isLevs_over hV hb0) (isLevs_over hF hb0) hvl hfl h.vars.1 h.funcs.1 X (fun W hW => KS W (over_trans hb0 hW)))
  have KX := hide fun W (hW : Below w.heap.size w W) => check_any K2 [.int .i64 ek, .int .i64 en, .slice xa xl xc] d W (vs.length : Int) (by omega) (by have := hok.vars; omega) (hx.over hW)
  rw [hck] at KX
  have KWO := hide (walkerOf_any n ga gn gc sa sn sc ya ls.length yc oa on oc va vs.length vc fa fs.length fc ba bn bc la ln lc ka kn kc)
  have KB := hide (bottomW n h1 h6 ga gn gc sa sn sc ya ls.length yc oa on oc va vs.length vc fa fs.length fc ba bn bc la ln lc ka kn kc)
  have hlen : ∀ x ∈ L.vs, x.len n := fun x hx => right_len hok.chk (hlo.2.2.1 x hx)
  have KWW := hide fun W (hW : Below w.heap.size w W) v (hv : LevO n (fun _ _ => False) W v (botL n)) => withC (⟨n, ga, gn, gc, sa, sn, sc, ya, ls.length, yc, oa, on, oc, va, vs.length, vc, fa, fs.length, fc, ba, bn, bc, la, ln, lc, ka, kn, kc⟩ : WC) h1 h6 gs L.vs (fun _ _ => False) ⟨fun _ _ _ _ h => h⟩ v (botL n) K2 [.int .i64 ek, .int .i64 en, .slice xa xl xc] d W (isGrants_over h.grants hW) hok.chk (levsO_of h1 (isLevs_over hV hW) hlen (fun _ h => h.elim)) hv (by have := hlo.1; have := hok.vars; omega) (fun _ h => h.elim) (hx.over hW) hvx
  have rowP : RowAt [.int .i64 (n : Int), .slice ga gn gc, .slice sa sn sc, .slice ya ls.length yc, .slice oa on oc, .slice va vs.length vc, .slice fa fs.length fc, .slice ba bn bc] ((((w.alloc (.cells #[.int .i64 (n : Int), .slice ga gn gc, .slice sa sn sc, .slice ya ls.length yc, .slice oa on oc, .slice va vs.length vc, .slice fa fs.length fc, .slice ba bn bc] 41)).alloc (.cells #[.slice la ln lc, .slice ka kn kc] 54)).alloc (.cells #[.int .i64 ek, .int .i64 en, .slice xa xl xc] 24)).alloc (.cells #[.slice none 0 0, .slice none 0 0] 62)) w.heap.size := (RowAt.new [.int .i64 (n : Int), .slice ga gn gc, .slice sa sn sc, .slice ya ls.length yc, .slice oa on oc, .slice va vs.length vc, .slice fa fs.length fc, .slice ba bn bc] 41 w).over ((((Below.refl _ _).alloc (Nat.le_refl _) _).alloc (by simp) _).alloc (by simp <;> omega) _)
  have rowL : RowAt [.slice la ln lc, .slice ka kn kc] ((((w.alloc (.cells #[.int .i64 (n : Int), .slice ga gn gc, .slice sa sn sc, .slice ya ls.length yc, .slice oa on oc, .slice va vs.length vc, .slice fa fs.length fc, .slice ba bn bc] 41)).alloc (.cells #[.slice la ln lc, .slice ka kn kc] 54)).alloc (.cells #[.int .i64 ek, .int .i64 en, .slice xa xl xc] 24)).alloc (.cells #[.slice none 0 0, .slice none 0 0] 62)) (w.heap.size + 1) := by
    have := (RowAt.new [.slice la ln lc, .slice ka kn kc] 54 (w.alloc (.cells #[.int .i64 (n : Int), .slice ga gn gc, .slice sa sn sc, .slice ya ls.length yc, .slice oa on oc, .slice va vs.length vc, .slice fa fs.length fc, .slice ba bn bc] 41))).over (((Below.refl _ _).alloc (Nat.le_refl _) (.cells #[.int .i64 ek, .int .i64 en, .slice xa xl xc] 24)).alloc (by simp) (.cells #[.slice none 0 0, .slice none 0 0] 62))
    simpa using this
  have rowE : RowAt [.int .i64 ek, .int .i64 en, .slice xa xl xc] ((((w.alloc (.cells #[.int .i64 (n : Int), .slice ga gn gc, .slice sa sn sc, .slice ya ls.length yc, .slice oa on oc, .slice va vs.length vc, .slice fa fs.length fc, .slice ba bn bc] 41)).alloc (.cells #[.slice la ln lc, .slice ka kn kc] 54)).alloc (.cells #[.int .i64 ek, .int .i64 en, .slice xa xl xc] 24)).alloc (.cells #[.slice none 0 0, .slice none 0 0] 62)) (w.heap.size + 2) := by
    have := (RowAt.new [.int .i64 ek, .int .i64 en, .slice xa xl xc] 24 ((w.alloc (.cells #[.int .i64 (n : Int), .slice ga gn gc, .slice sa sn sc, .slice ya ls.length yc, .slice oa on oc, .slice va vs.length vc, .slice fa fs.length fc, .slice ba bn bc] 41)).alloc (.cells #[.slice la ln lc, .slice ka kn kc] 54))).over ((Below.refl _ _).alloc (Nat.le_refl _) (.cells #[.slice none 0 0, .slice none 0 0] 62))
    simpa using this
  have hbk : ((((w.alloc (.cells #[.int .i64 (n : Int), .slice ga gn gc, .slice sa sn sc, .slice ya ls.length yc, .slice oa on oc, .slice va vs.length vc, .slice fa fs.length fc, .slice ba bn bc] 41)).alloc (.cells #[.slice la ln lc, .slice ka kn kc] 54)).alloc (.cells #[.int .i64 ek, .int .i64 en, .slice xa xl xc] 24)).alloc (.cells #[.slice none 0 0, .slice none 0 0] 62)).heap[w.heap.size + 3]? = some (.cells #[.slice none 0 0, .slice none 0 0] 62) := by
    have := heap_of_alloc (((w.alloc (.cells #[.int .i64 (n : Int), .slice ga gn gc, .slice sa sn sc, .slice ya ls.length yc, .slice oa on oc, .slice va vs.length vc, .slice fa fs.length fc, .slice ba bn bc] 41)).alloc (.cells #[.slice la ln lc, .slice ka kn kc] 54)).alloc (.cells #[.int .i64 ek, .int .i64 en, .slice xa xl xc] 24)) (.cells #[.slice none 0 0, .slice none 0 0] 62)
    simpa using this
  have hsz0 : ((((w.alloc (.cells #[.int .i64 (n : Int), .slice ga gn gc, .slice sa sn sc, .slice ya ls.length yc, .slice oa on oc, .slice va vs.length vc, .slice fa fs.length fc, .slice ba bn bc] 41)).alloc (.cells #[.slice la ln lc, .slice ka kn kc] 54)).alloc (.cells #[.int .i64 ek, .int .i64 en, .slice xa xl xc] 24)).alloc (.cells #[.slice none 0 0, .slice none 0 0] 62)).heap.size = w.heap.size + 4 := by simp
  have HB0 := hide hb0
  have HRP := hide rowP
  have HRL := hide rowL
  have HRE0 := hide rowE
  have HBK0 := hide hbk
  have HSZ0 := hide hsz0
  have HOKW : Hid (∀ why : Int, (why = 0 ↔ (X ∧ L.vs.length = vs.length ∧ L.fs.length = fs.length ∧ (∀ x ∈ L.vs, lRight n gs x = 0) ∧ ∀ x ∈ L.fs, lRight n gs x = 0)) → why = 0) := hide (fun why hh => hh.2 ⟨hX, hlo⟩)
  have c0 := rowP 0 _ rfl
  have c1 := rowP 1 _ rfl
  have c2 := rowP 2 _ rfl
  have c3 := rowP 3 _ rfl
  have c4 := rowP 4 _ rfl
  have c5 := rowP 5 _ rfl
  have c6 := rowP 6 _ rfl
  have c7 := rowP 7 _ rfl
  have l0 := rowL 0 _ rfl
  have l1 := rowL 1 _ rfl
  clear hb0 rowP rowL rowE hbk h hV hF hvl hfl KS hX hok hlo hx hck hvx hlen hsz0
  go_enter Try.func42, Try.ntmps42
  go_wp2_with fail
  refine (K1.out).mono ?_
  rintro e w1 ⟨why, rfl, hPw, hb1⟩
  obtain rfl : why = 0 := HOKW.out why hPw
  have HRP1 := hide (HRP.out.over hb1)
  have HRL1 := hide (HRL.out.over hb1)
  have hre1 := HRE0.out.over hb1
  have HRE1 := hide hre1
  have HBK1 := hide ((hb1.block _ (by rw [HSZ0.out]; omega)).trans HBK0.out)
  have HSZ1 : Hid (w.heap.size + 3 < w1.heap.size) := hide (by have := hb1.size; rw [HSZ0.out] at this; omega)
  have HB1 := hide (over_trans HB0.out hb1)
  have KX1 := hide (KX.out w1 HB1.out)
  have x0 := hre1 0 _ rfl
  have x1 := hre1 1 _ rfl
  have x2 := hre1 2 _ rfl
  clear c0 c1 c2 c3 c4 c5 c6 c7 l0 l1 K1 hPw hb1 hre1
  have c5 := HRP1.out 5 _ rfl
  go_wp2_with fail
  refine (KX1.out).mono ?_
  rintro e w2 ⟨rfl, hb2⟩
  have HB2 := hide (over_trans HB1.out hb2)
  have hrp2 := HRP1.out.over hb2
  have hrl2 := HRL1.out.over hb2
  have HRE2 := hide (HRE1.out.over hb2)
  have HBK2 := hide ((hb2.block _ HSZ1.out).trans HBK1.out)
  have HSZ2 : Hid (w.heap.size + 3 < w2.heap.size) := hide (Nat.lt_of_lt_of_le HSZ1.out hb2.size)
  have K3 := hide (KWO.out w2)
  clear c5 x0 x1 x2 KX1 hb2
  have c0 := hrp2 0 _ rfl
  have c1 := hrp2 1 _ rfl
  have c2 := hrp2 2 _ rfl
  have c3 := hrp2 3 _ rfl
  have c4 := hrp2 4 _ rfl
  have c5 := hrp2 5 _ rfl
  have c6 := hrp2 6 _ rfl
  have c7 := hrp2 7 _ rfl
  have l0 := hrl2 0 _ rfl
  have l1 := hrl2 1 _ rfl
  clear hrp2 hrl2
  go_wp2_with fail
  refine (K3.out).mono ?_
  rintro e w3 ⟨rfl, hb3⟩
  have hba := (Below.refl _ w3).alloc (Nat.le_refl _) (.cells #[.int .i64 (n : Int), .slice ga gn gc, .slice sa sn sc, .slice ya ls.length yc, .slice oa on oc, .slice va vs.length vc, .slice fa fs.length fc, .slice ba bn bc, .slice la ln lc, .slice ka kn kc] 88)
  have hb4 := over_trans hb3 hba
  have HBA := hide (over_trans HB2.out hb4)
  have HRE := hide (HRE2.out.over hb4)
  have HBK := hide ((hb4.block _ HSZ2.out).trans HBK2.out)
  have HLT : Hid (w.heap.size + 3 < (w3.alloc (.cells #[.int .i64 (n : Int), .slice ga gn gc, .slice sa sn sc, .slice ya ls.length yc, .slice oa on oc, .slice va vs.length vc, .slice fa fs.length fc, .slice ba bn bc, .slice la ln lc, .slice ka kn kc] 88)).heap.size) := hide (Nat.lt_of_lt_of_le HSZ2.out hb4.size)
  have HRW := hide (RowAt.new [.int .i64 (n : Int), .slice ga gn gc, .slice sa sn sc, .slice ya ls.length yc, .slice oa on oc, .slice va vs.length vc, .slice fa fs.length fc, .slice ba bn bc, .slice la ln lc, .slice ka kn kc] 88 w3)
  have KW := hide fun W (hW : Below (w3.alloc (.cells #[.int .i64 (n : Int), .slice ga gn gc, .slice sa sn sc, .slice ya ls.length yc, .slice oa on oc, .slice va vs.length vc, .slice fa fs.length fc, .slice ba bn bc, .slice la ln lc, .slice ka kn kc] 88)).heap.size (w3.alloc (.cells #[.int .i64 (n : Int), .slice ga gn gc, .slice sa sn sc, .slice ya ls.length yc, .slice oa on oc, .slice va vs.length vc, .slice fa fs.length fc, .slice ba bn bc, .slice la ln lc, .slice ka kn kc] 88)) W) v hv => KWW.out W (over_trans HBA.out hW) v hv
  have HNE3 : Hid (w.heap.size + 3 ≠ w3.heap.size) := hide (by have := Nat.lt_of_lt_of_le HSZ2.out hb3.size; omega)
  have hS0 : (w3.alloc (.cells #[.int .i64 (n : Int), .slice ga gn gc, .slice sa sn sc, .slice ya ls.length yc, .slice oa on oc, .slice va vs.length vc, .slice fa fs.length fc, .slice ba bn bc, .slice la ln lc, .slice ka kn kc] 88)).cell? ⟨w3.heap.size, 0, none⟩ = some (.int .i64 (n : Int)) ∧ (w3.alloc (.cells #[.int .i64 (n : Int), .slice ga gn gc, .slice sa sn sc, .slice ya ls.length yc, .slice oa on oc, .slice va vs.length vc, .slice fa fs.length fc, .slice ba bn bc, .slice la ln lc, .slice ka kn kc] 88)).cell? ⟨w3.heap.size, 1, none⟩ = some (.slice ga gn gc) ∧ (w3.alloc (.cells #[.int .i64 (n : Int), .slice ga gn gc, .slice sa sn sc, .slice ya ls.length yc, .slice oa on oc, .slice va vs.length vc, .slice fa fs.length fc, .slice ba bn bc, .slice la ln lc, .slice ka kn kc] 88)).cell? ⟨w3.heap.size, 2, none⟩ = some (.slice sa sn sc) ∧ (w3.alloc (.cells #[.int .i64 (n : Int), .slice ga gn gc, .slice sa sn sc, .slice ya ls.length yc, .slice oa on oc, .slice va vs.length vc, .slice fa fs.length fc, .slice ba bn bc, .slice la ln lc, .slice ka kn kc] 88)).cell? ⟨w3.heap.size, 3, none⟩ = some (.slice ya ls.length yc) ∧ (w3.alloc (.cells #[.int .i64 (n : Int), .slice ga gn gc, .slice sa sn sc, .slice ya ls.length yc, .slice oa on oc, .slice va vs.length vc, .slice fa fs.length fc, .slice ba bn bc, .slice la ln lc, .slice ka kn kc] 88)).cell? ⟨w3.heap.size, 4, none⟩ = some (.slice oa on oc) ∧ (w3.alloc (.cells #[.int .i64 (n : Int), .slice ga gn gc, .slice sa sn sc, .slice ya ls.length yc, .slice oa on oc, .slice va vs.length vc, .slice fa fs.length fc, .slice ba bn bc, .slice la ln lc, .slice ka kn kc] 88)).cell? ⟨w3.heap.size, 5, none⟩ = some (.slice va vs.length vc) ∧ (w3.alloc (.cells #[.int .i64 (n : Int), .slice ga gn gc, .slice sa sn sc, .slice ya ls.length yc, .slice oa on oc, .slice va vs.length vc, .slice fa fs.length fc, .slice ba bn bc, .slice la ln lc, .slice ka kn kc] 88)).cell? ⟨w3.heap.size, 6, none⟩ = some (.slice fa fs.length fc) ∧ (w3.alloc (.cells #[.int .i64 (n : Int), .slice ga gn gc, .slice sa sn sc, .slice ya ls.length yc, .slice oa on oc, .slice va vs.length vc, .slice fa fs.length fc, .slice ba bn bc, .slice la ln lc, .slice ka kn kc] 88)).cell? ⟨w3.heap.size, 7, none⟩ = some (.slice ba bn bc) ∧ (w3.alloc (.cells #[.int .i64 (n : Int), .slice ga gn gc, .slice sa sn sc, .slice ya ls.length yc, .slice oa on oc, .slice va vs.length vc, .slice fa fs.length fc, .slice ba bn bc, .slice la ln lc, .slice ka kn kc] 88)).cell? ⟨w3.heap.size, 8, none⟩ = some (.slice la ln lc) ∧ (w3.alloc (.cells #[.int .i64 (n : Int), .slice ga gn gc, .slice sa sn sc, .slice ya ls.length yc, .slice oa on oc, .slice va vs.length vc, .slice fa fs.length fc, .slice ba bn bc, .slice la ln lc, .slice ka kn kc] 88)).cell? ⟨w3.heap.size, 9, none⟩ = some (.slice ka kn kc) ∧ (w3.alloc (.cells #[.int .i64 (n : Int), .slice ga gn gc, .slice sa sn sc, .slice ya ls.length yc, .slice oa on oc, .slice va vs.length vc, .slice fa fs.length fc, .slice ba bn bc, .slice la ln lc, .slice ka kn kc] 88)).cell? ⟨(w.heap.size + 2), 0, none⟩ = some (.int .i64 ek) ∧ (w3.alloc (.cells #[.int .i64 (n : Int), .slice ga gn gc, .slice sa sn sc, .slice ya ls.length yc, .slice oa on oc, .slice va vs.length vc, .slice fa fs.length fc, .slice ba bn bc, .slice la ln lc, .slice ka kn kc] 88)).cell? ⟨(w.heap.size + 2), 1, none⟩ = some (.int .i64 en) ∧ (w3.alloc (.cells #[.int .i64 (n : Int), .slice ga gn gc, .slice sa sn sc, .slice ya ls.length yc, .slice oa on oc, .slice va vs.length vc, .slice fa fs.length fc, .slice ba bn bc, .slice la ln lc, .slice ka kn kc] 88)).cell? ⟨(w.heap.size + 2), 2, none⟩ = some (.slice xa xl xc) := by
    have hr0 := HRW.out
    have hre := HRE.out
    exact ⟨hr0 0 _ rfl, hr0 1 _ rfl, hr0 2 _ rfl, hr0 3 _ rfl, hr0 4 _ rfl, hr0 5 _ rfl, hr0 6 _ rfl, hr0 7 _ rfl, hr0 8 _ rfl, hr0 9 _ rfl, hre 0 _ rfl, hre 1 _ rfl, hre 2 _ rfl⟩
  clear c0 c1 c2 c3 c4 c5 c6 c7 l0 l1 K3 hb3 hba hb4
  go_wp2_with fail
  refine wp_region_held_drew (S := fun Wz => Wz.cell? ⟨w3.heap.size, 0, none⟩ = some (.int .i64 (n : Int)) ∧ Wz.cell? ⟨w3.heap.size, 1, none⟩ = some (.slice ga gn gc) ∧ Wz.cell? ⟨w3.heap.size, 2, none⟩ = some (.slice sa sn sc) ∧ Wz.cell? ⟨w3.heap.size, 3, none⟩ = some (.slice ya ls.length yc) ∧ Wz.cell? ⟨w3.heap.size, 4, none⟩ = some (.slice oa on oc) ∧ Wz.cell? ⟨w3.heap.size, 5, none⟩ = some (.slice va vs.length vc) ∧ Wz.cell? ⟨w3.heap.size, 6, none⟩ = some (.slice fa fs.length fc) ∧ Wz.cell? ⟨w3.heap.size, 7, none⟩ = some (.slice ba bn bc) ∧ Wz.cell? ⟨w3.heap.size, 8, none⟩ = some (.slice la ln lc) ∧ Wz.cell? ⟨w3.heap.size, 9, none⟩ = some (.slice ka kn kc) ∧ Wz.cell? ⟨(w.heap.size + 2), 0, none⟩ = some (.int .i64 ek) ∧ Wz.cell? ⟨(w.heap.size + 2), 1, none⟩ = some (.int .i64 en) ∧ Wz.cell? ⟨(w.heap.size + 2), 2, none⟩ = some (.slice xa xl xc)) (by kernel_rfl) (hS0) (fun hHeld => ?_)
  refine tk (i := 0) (oi := ⟨some 30, .fieldAddr 88 (.tmp 10) 0, 0, "infer.go:20", #[], none⟩) (v := ?_) (Or.inl ⟨by rfl, ?_⟩) (by assumption) ?_
  rotate_left
  · intro w' hSw
    (try dsimp only at hSw)
    go_simp
    try with_reducible rfl
  try simp only [aput]
  refine tk (i := 1) (oi := ⟨some 31, .load 86 (.tmp 30), 86, "infer.go:20", #[⟨0, .data⟩], none⟩) (v := ?_) (Or.inl ⟨by rfl, ?_⟩) (by assumption) ?_
  rotate_left
  · intro w' hSw
    (try dsimp only at hSw)
    go_simp
    try with_reducible rfl
  try simp only [aput]
  refine tk (i := 2) (oi := ⟨some 32, .fieldAddr 88 (.tmp 10) 0, 0, "infer.go:20", #[], none⟩) (v := ?_) (Or.inl ⟨by rfl, ?_⟩) (by assumption) ?_
  rotate_left
  · intro w' hSw
    (try dsimp only at hSw)
    go_simp
    try with_reducible rfl
  try simp only [aput]
  refine tk (i := 3) (oi := ⟨some 33, .load 86 (.tmp 32), 86, "infer.go:20", #[⟨2, .data⟩], none⟩) (v := ?_) (Or.inl ⟨by rfl, ?_⟩) (by assumption) ?_
  rotate_left
  · intro w' hSw
    (try dsimp only at hSw)
    go_simp
    try with_reducible rfl
  try simp only [aput]
  refine tk (i := 5) (oi := ⟨some 35, .load 24 (.tmp 5), 24, "infer.go:20", #[], none⟩) (v := ?_) (Or.inl ⟨by rfl, ?_⟩) (by assumption) ?_
  rotate_left
  · intro w' hSw
    (try dsimp only at hSw)
    go_simp
    try with_reducible rfl
  try simp only [aput]
  refine wpAnyH_ready (rs := [4]) (by kernel_rfl) (by simp) ?_
  refine AllReadyH.cons (o := { dst := some 34, op := Go.Op.call { callee := Go.Callee.value (Go.Operand.func 73), args := #[Go.Operand.tmp 33], argTypes := #[86] }, type := 62, pos := "infer.go:20", after := #[⟨3, .data⟩], guard := none }) rfl (fun K hK => ?_) AllReadyH.nil
  go_simp
  refine (KB.out _).mono ?_
  rintro e W5 ⟨vj, rfl, hfr, hb5⟩
  have hbz := over_trans ((Below.refl _ (w3.alloc (.cells #[.int .i64 (n : Int), .slice ga gn gc, .slice sa sn sc, .slice ya ls.length yc, .slice oa on oc, .slice va vs.length vc, .slice fa fs.length fc, .slice ba bn bc, .slice la ln lc, .slice ka kn kc] 88))).drew) hb5
  obtain ⟨m1, m2, m3, m4, m5, m6, hNV⟩ : ∃ m1 m2 m3 m4 m5 m6, vj = .agg #[.slice m1 m2 m3, .slice m4 m5 m6] := by
    obtain ⟨x, y, e, -⟩ := levAt_fresh hfr
    subst e
    obtain ⟨z1, z2, z3, z4, z5, z6, rfl, rfl⟩ := lev_slices (levAt_fresh hfr)
    exact ⟨_, _, _, _, _, _, rfl⟩
  subst hNV
  have hM5 : LevO n (fun _ _ => False) W5 (.agg #[.slice m1 m2 m3, .slice m4 m5 m6]) (botL n) := ⟨levAt_fresh hfr, botL_len n, _, _, rfl, fun _ _ _ _ h => h, fun _ _ _ _ h => h⟩
  have hr0 := HRW.out.over hbz
  have hre := HRE.out.over hbz
  have hS5 : W5.cell? ⟨w3.heap.size, 0, none⟩ = some (.int .i64 (n : Int)) ∧ W5.cell? ⟨w3.heap.size, 1, none⟩ = some (.slice ga gn gc) ∧ W5.cell? ⟨w3.heap.size, 2, none⟩ = some (.slice sa sn sc) ∧ W5.cell? ⟨w3.heap.size, 3, none⟩ = some (.slice ya ls.length yc) ∧ W5.cell? ⟨w3.heap.size, 4, none⟩ = some (.slice oa on oc) ∧ W5.cell? ⟨w3.heap.size, 5, none⟩ = some (.slice va vs.length vc) ∧ W5.cell? ⟨w3.heap.size, 6, none⟩ = some (.slice fa fs.length fc) ∧ W5.cell? ⟨w3.heap.size, 7, none⟩ = some (.slice ba bn bc) ∧ W5.cell? ⟨w3.heap.size, 8, none⟩ = some (.slice la ln lc) ∧ W5.cell? ⟨w3.heap.size, 9, none⟩ = some (.slice ka kn kc) ∧ W5.cell? ⟨(w.heap.size + 2), 0, none⟩ = some (.int .i64 ek) ∧ W5.cell? ⟨(w.heap.size + 2), 1, none⟩ = some (.int .i64 en) ∧ W5.cell? ⟨(w.heap.size + 2), 2, none⟩ = some (.slice xa xl xc) := ⟨hr0 0 _ rfl, hr0 1 _ rfl, hr0 2 _ rfl, hr0 3 _ rfl, hr0 4 _ rfl, hr0 5 _ rfl, hr0 6 _ rfl, hr0 7 _ rfl, hr0 8 _ rfl, hr0 9 _ rfl, hre 0 _ rfl, hre 1 _ rfl, hre 2 _ rfl⟩
  have K6 := hide (KW.out W5 hbz _ hM5)
  have HBZ5 := hide hbz
  clear hr0 hre hM5 hfr hb5 hbz
  go_simp
  refine hK.out _ _ (hS5) (fun hHeld => ?_)
  clear hK K
  try simp only [aput]
  refine wpAnyH_ready (rs := [6]) (by kernel_rfl) (by simp) ?_
  refine AllReadyH.cons (o := { dst := some 36, op := Go.Op.call { callee := Go.Callee.value (Go.Operand.func 78), args := #[Go.Operand.tmp 31, Go.Operand.tmp 34, Go.Operand.tmp 35], argTypes := #[86, 62, 24] }, type := 62, pos := "infer.go:20", after := #[⟨1, .data⟩, ⟨4, .data⟩, ⟨5, .data⟩, ⟨4, .chain⟩], guard := none }) rfl (fun K hK => ?_) AllReadyH.nil
  go_simp
  refine (K6.out).mono ?_
  rintro e W6 ⟨⟨k1, k2, k3, k4, k5, k6, rfl, hlo⟩, hb6⟩
  have hbz := over_trans HBZ5.out hb6
  have hr0 := HRW.out.over hbz
  have hre := HRE.out.over hbz
  have hS6 : W6.cell? ⟨w3.heap.size, 0, none⟩ = some (.int .i64 (n : Int)) ∧ W6.cell? ⟨w3.heap.size, 1, none⟩ = some (.slice ga gn gc) ∧ W6.cell? ⟨w3.heap.size, 2, none⟩ = some (.slice sa sn sc) ∧ W6.cell? ⟨w3.heap.size, 3, none⟩ = some (.slice ya ls.length yc) ∧ W6.cell? ⟨w3.heap.size, 4, none⟩ = some (.slice oa on oc) ∧ W6.cell? ⟨w3.heap.size, 5, none⟩ = some (.slice va vs.length vc) ∧ W6.cell? ⟨w3.heap.size, 6, none⟩ = some (.slice fa fs.length fc) ∧ W6.cell? ⟨w3.heap.size, 7, none⟩ = some (.slice ba bn bc) ∧ W6.cell? ⟨w3.heap.size, 8, none⟩ = some (.slice la ln lc) ∧ W6.cell? ⟨w3.heap.size, 9, none⟩ = some (.slice ka kn kc) ∧ W6.cell? ⟨(w.heap.size + 2), 0, none⟩ = some (.int .i64 ek) ∧ W6.cell? ⟨(w.heap.size + 2), 1, none⟩ = some (.int .i64 en) ∧ W6.cell? ⟨(w.heap.size + 2), 2, none⟩ = some (.slice xa xl xc) := ⟨hr0 0 _ rfl, hr0 1 _ rfl, hr0 2 _ rfl, hr0 3 _ rfl, hr0 4 _ rfl, hr0 5 _ rfl, hr0 6 _ rfl, hr0 7 _ rfl, hr0 8 _ rfl, hr0 9 _ rfl, hre 0 _ rfl, hre 1 _ rfl, hre 2 _ rfl⟩
  have HLO := hide hlo
  have HB6 := hide (over_trans HBA.out hbz)
  have hbk : W6.heap[w.heap.size + 3]? = some (.cells #[.slice none 0 0, .slice none 0 0] 62) := (hbz.block _ HLT.out).trans HBK.out
  have HBK6 := hide hbk
  have r0 : W6.cell? ⟨w.heap.size + 3, 0, none⟩ = some (.slice none 0 0) := by rw [Lib.cell_of_heap hbk]; rfl
  have r1 : W6.cell? ⟨w.heap.size + 3, 1, none⟩ = some (.slice none 0 0) := by rw [Lib.cell_of_heap hbk]; rfl
  have rz : ∀ j, W6.frozen? ⟨w.heap.size + 3, j, none⟩ = false := fun j => by simp [World.frozen?, hbk]
  have HS6 := hide hS6
  clear hr0 hre hlo hb6 hbz hbk
  go_simp
  refine hK.out _ _ (hS6) (fun hHeld => ?_)
  clear hK K
  try simp only [aput]
  refine wpAnyH_ready (rs := [7]) (by kernel_rfl) (by simp) ?_
  refine AllReadyH.cons (o := ⟨none, .store 62 (.tmp 6) (.tmp 36), 0, "infer.go:20", #[⟨6, .data⟩, ⟨6, .chain⟩, ⟨0, .phase⟩, ⟨1, .phase⟩, ⟨2, .phase⟩, ⟨3, .phase⟩, ⟨4, .phase⟩, ⟨5, .phase⟩, ⟨6, .phase⟩], none⟩) rfl (fun K hK => ?_) AllReadyH.nil
  go_simp
  refine hK.out _ _ (by obtain ⟨t0, t1, t2, t3, t4, t5, t6, t7, t8, t9, t10, t11, t12⟩ := hS6; have hne := HNE3.out; exact ⟨by simp [go_sem, t0], by simp [go_sem, t1], by simp [go_sem, t2], by simp [go_sem, t3], by simp [go_sem, t4], by simp [go_sem, t5], by simp [go_sem, t6], by simp [go_sem, t7], by simp [go_sem, t8], by simp [go_sem, t9], by simp [go_sem, t10], by simp [go_sem, t11], by simp [go_sem, t12]⟩) (fun hHeld => ?_)
  clear hK K
  try simp only [aput]
  refine tk (i := 8) (oi := ⟨some 7, .assign (.const (Go.Value.int Go.IntKind.i64 0)), 26, "infer.go:20", #[⟨7, .chain⟩, ⟨0, .phase⟩, ⟨1, .phase⟩, ⟨2, .phase⟩, ⟨3, .phase⟩, ⟨4, .phase⟩, ⟨5, .phase⟩, ⟨6, .phase⟩, ⟨7, .phase⟩], none⟩) (v := ?_) (Or.inl ⟨by rfl, ?_⟩) (by assumption) ?_
  rotate_left
  · intro w' hSw
    (try dsimp only at hSw)
    go_simp
    try with_reducible rfl
  try simp only [aput]
  refine wpAnyH_done (by kernel_rfl) ?_ _
  have hcr : ∀ j u, W6.cell? ⟨w.heap.size + 3, j, none⟩ = some u → ∃ a m c, u = .slice a m c := fun j u hu => by
    rw [Lib.cell_of_heap HBK6.out] at hu
    match j, hu with
    | 0, hu => simp at hu; exact ⟨_, _, _, hu.symm⟩
    | 1, hu => simp at hu; exact ⟨_, _, _, hu.symm⟩
    | j + 2, hu => simp at hu
  have hfin := lev_end (x := .slice k1 k2 k3) (y := .slice k4 k5 k6) HLO.out.at_ hcr
  have HFIN := hide hfin
  clear hfin hcr
  go_wp2_with fail
  have r0' : W6.cell? ⟨w.heap.size + 1 + 1 + 1, 0, none⟩ = some (.slice none 0 0) := r0
  have r1' : W6.cell? ⟨w.heap.size + 1 + 1 + 1, 1, none⟩ = some (.slice none 0 0) := r1
  refine bodyPost_ret (v := .tuple #[.agg #[.slice k1 k2 k3, .slice k4 k5 k6], .int .i64 0]) (by simp [results, Try.results42, go_sem, r0', r1']) rfl ⟨k1, k2, k3, k4, k5, k6, rfl, HFIN.out, ?_⟩
  exact (HB6.out.setCell (p := ⟨w.heap.size + 3, 0, none⟩) (by simp) _).setCell (p := ⟨w.heap.size + 3, 1, none⟩) (by simp) _
theorem smallX : Ey.xP 1 1 1 1 1 1 0 [] [] [⟨[], []⟩] [⟨[], []⟩] [(false, ⟨[], []⟩)] [] [sm1, sm2] := by
  refine ⟨smallOk.chk, by simp, smallOk.speak, smallOk.labs, ⟨by have := smallOk.many; omega, fun f hf => absurd hf (by simp), ?_⟩, fun i h => absurd h (by simp), ?_⟩
  · intro s hs
    simp at hs
    rcases hs with rfl | rfl
    · exact ⟨by omega, fun s hs => absurd hs (by simp [sm1]), fun s hs => absurd hs (by simp [sm1])⟩
    · exact ⟨by omega, fun s hs => absurd hs (by simp [sm2]), fun s hs => absurd hs (by simp [sm2])⟩
  · intro s hs
    simp at hs
    rcases hs with rfl | rfl
    · exact ⟨⟨sm1_ok, fun _ => rfl, fun _ => rfl, fun _ => rfl, fun _ => rfl, fun _ => rfl, fun _ => rfl⟩, fun s hs => absurd hs (by simp [sm1]), fun s hs => absurd hs (by simp [sm1])⟩
    · exact ⟨⟨sm2_ok, fun _ => rfl, fun _ => rfl, fun h => absurd h (by decide), fun _ => rfl, fun _ => rfl, fun _ => rfl⟩, fun s hs => absurd hs (by simp [sm2]), fun s hs => absurd hs (by simp [sm2])⟩
theorem checkSmall (bi bo bv bm : Nat) (w : World) (h : Small bi bo bv bm w) : ∀ W, Below w.heap.size w W → Calls Try.prog 36 #[.agg #[.int .i64 1, .slice none 0 0, .slice none 0 0, .slice (some ⟨bi, 0, none⟩) 1 1, .slice (some ⟨bo, 0, none⟩) 1 1, .slice (some ⟨bv, 0, none⟩) 1 1, .slice none 0 0, .slice (some ⟨bm, 0, none⟩) 2 2]] W fun e w' => ∃ why : Int, e = .returned (.int .i64 why) ∧ (why = 0 ↔ True) ∧ Below W.heap.size W w' := fun W hW =>
  (Ey.scopeCheck_any 1 1 1 none 0 0 none 0 0 (some ⟨bi, 0, none⟩) 1 1 (some ⟨bo, 0, none⟩) 1 1 (some ⟨bv, 0, none⟩) 1 1 none 0 0 (some ⟨bm, 0, none⟩) 2 2 [] [] [⟨[], []⟩] [⟨[], []⟩] [(false, ⟨[], []⟩)] [] [sm1, sm2] W (smallProg (h.over hW))).mono fun e w' hh => by
    obtain ⟨why, he, hx, hB⟩ := hh
    exact ⟨why, he, ⟨fun _ => trivial, fun _ => hx.2 smallX⟩, hB⟩
theorem inferSmall (bi bo bv bm : Nat) (w : World) (h : Small bi bo bv bm w) : Calls Try.prog 15 #[.agg #[.int .i64 1, .slice none 0 0, .slice none 0 0, .slice (some ⟨bi, 0, none⟩) 1 1, .slice (some ⟨bo, 0, none⟩) 1 1, .slice (some ⟨bv, 0, none⟩) 1 1, .slice none 0 0, .slice (some ⟨bm, 0, none⟩) 2 2]] w fun e w' => ∃ la lc ka kc, e = .returned (.tuple #[.agg #[.slice la 1 lc, .slice ka 0 kc], .int .i64 0]) ∧ IsLevs w' (.slice la 1 lc) [⟨[true], [true]⟩] ∧ IsLevs w' (.slice ka 0 kc) [] ∧ Below w.heap.size w w' := by
  refine (inferW 1 1 1 none 0 0 none 0 0 (some ⟨bi, 0, none⟩) 1 1 (some ⟨bo, 0, none⟩) 1 1 (some ⟨bv, 0, none⟩) 1 1 none 0 0 (some ⟨bm, 0, none⟩) 2 2 [] [] [⟨[], []⟩] [⟨[], []⟩] [(false, ⟨[], []⟩)] [] [sm1, sm2] w (smallProg h) (fun why => (why = 0 ↔ True)) (checkSmall bi bo bv bm w h) (fun _ => smallOk)).mono ?_
  rintro e w' ⟨why, hP, hB, hh⟩
  have hw : why = 0 := hP.2 trivial
  rcases hh with ⟨hne, -⟩ | ⟨-, -, n, st, la, ln, lc, ka, kn, kc, hn, rfl, h1, h2, -, -, -, -, hinf, -, -⟩
  · exact absurd hw hne
  · obtain rfl : n = 1 := by omega
    obtain ⟨e1, e2⟩ := small_inf hinf
    rw [e1] at h1
    rw [e2] at h2
    obtain rfl : ln = 1 := by obtain ⟨a, c, he, -⟩ := h1; injection he
    obtain rfl : kn = 0 := by obtain ⟨a, c, he, -⟩ := h2; injection he
    exact ⟨la, lc, ka, kc, rfl, h1, h2, hB⟩
def smL : ISt := ⟨[⟨[true], [true]⟩], [], false⟩
theorem smL_fits : passB 1 1 1 [false] [levOf [] 1 ⟨[], []⟩] [] [sm1, sm2] smL true = true := by rfl
theorem smL_ok : levsOk (1 : Int) [] 1 0 smL := by
  refine ⟨rfl, rfl, fun x hx => ?_, fun x hx => absurd hx (by simp [smL])⟩
  simp [smL] at hx
  subst hx
  rfl
theorem fitsSmall (bi bo bv bm : Nat) (la : Option Addr) (lc : Nat) (ka : Option Addr) (kc : Nat) (w : World) (h : Small bi bo bv bm w) (h1 : IsLevs w (.slice la 1 lc) [⟨[true], [true]⟩]) (h2 : IsLevs w (.slice ka 0 kc) []) : Calls Try.prog 18 #[.agg #[.int .i64 1, .slice none 0 0, .slice none 0 0, .slice (some ⟨bi, 0, none⟩) 1 1, .slice (some ⟨bo, 0, none⟩) 1 1, .slice (some ⟨bv, 0, none⟩) 1 1, .slice none 0 0, .slice (some ⟨bm, 0, none⟩) 2 2], .agg #[.slice la 1 lc, .slice ka 0 kc]] w fun e w' => e = .returned (.tuple #[.bool true, .int .i64 0]) ∧ Below w.heap.size w w' := by
  refine (fitsW 1 1 1 none 0 0 none 0 0 (some ⟨bi, 0, none⟩) 1 1 (some ⟨bo, 0, none⟩) 1 1 (some ⟨bv, 0, none⟩) 1 1 none 0 0 (some ⟨bm, 0, none⟩) 2 2 [] [] [⟨[], []⟩] [⟨[], []⟩] [(false, ⟨[], []⟩)] [] [sm1, sm2] la 1 lc ka 0 kc smL w (smallProg h) h1 h2 (by simp [smL]) (by simp [smL]) True (checkSmall bi bo bv bm w h) (fun _ => smallOk)).mono ?_
  rintro e w' ⟨why, hP, hB, hh⟩
  have hw : why = 0 := hP.2 ⟨trivial, smL_ok⟩
  rcases hh with ⟨hne, -⟩ | ⟨-, n, b, hn, rfl, hb⟩
  · exact absurd hw hne
  · obtain rfl : n = 1 := by omega
    have : b = true := hb.2 ⟨fun i hi hk => by
      have : i = 0 := by simp at hi; omega
      subst this
      exact absurd hk (by simp), smL_fits⟩
    subst this
    exact ⟨rfl, hB⟩
theorem smX_chk : checkX ((1 : Nat) : Int) 1 (xD 2 0 []) = 0 := sm_chk
theorem smX_vars : varsX 1 (xD 2 0 []) = [0] := by rfl
theorem smX_of : withL 1 smL.vs (botL 1) (varsX 1 (xD 2 0 [])) = ⟨[true], [true]⟩ := by rfl
theorem ofSmall (bi bo bv bm : Nat) (la : Option Addr) (lc : Nat) (ka : Option Addr) (kc : Nat) (w : World) (h : Small bi bo bv bm w) (h1 : IsLevs w (.slice la 1 lc) [⟨[true], [true]⟩]) (h2 : IsLevs w (.slice ka 0 kc) []) : Calls Try.prog 42 #[.agg #[.int .i64 1, .slice none 0 0, .slice none 0 0, .slice (some ⟨bi, 0, none⟩) 1 1, .slice (some ⟨bo, 0, none⟩) 1 1, .slice (some ⟨bv, 0, none⟩) 1 1, .slice none 0 0, .slice (some ⟨bm, 0, none⟩) 2 2], .agg #[.slice la 1 lc, .slice ka 0 kc], .agg #[.int .i64 2, .int .i64 0, .slice none 0 0]] w fun e w' => ∃ k1 k2 k3 k4 k5 k6, e = .returned (.tuple #[.agg #[.slice k1 k2 k3, .slice k4 k5 k6], .int .i64 0]) ∧ LevAt w' (.agg #[.slice k1 k2 k3, .slice k4 k5 k6]) ⟨[true], [true]⟩ ∧ Below w.heap.size w w' := by
  have key := ofW 1 1 1 (by omega) (by omega) none 0 0 none 0 0 (some ⟨bi, 0, none⟩) 1 1 (some ⟨bo, 0, none⟩) 1 1 (some ⟨bv, 0, none⟩) 1 1 none 0 0 (some ⟨bm, 0, none⟩) 2 2 [] [] [⟨[], []⟩] [⟨[], []⟩] [(false, ⟨[], []⟩)] [] [sm1, sm2] la 1 lc ka 0 kc smL w (smallProg h) h1 h2 (by simp [smL]) (by simp [smL]) True (checkSmall bi bo bv bm w h) trivial smallOk smL_ok 1 2 0 none 0 0 (xD 2 0 []) ⟨2, 0, _, [], rfl, rfl, i64_small _ (by omega) (by omega), i64_small _ (by omega) (by omega), xs_nil⟩ smX_chk (by rw [smX_vars]; intro x hx; simp at hx; subst hx; simp [smL])
  rw [smX_of] at key
  exact key
theorem inferred_fits {n K kf : Nat} {gs : List (Int × Int)} {vs : List (Bool × Lab)} {ls : List Lab} {fs : List FnD} {main : List D} {st : ISt} (h : Inferred n K kf gs vs ls fs main st) : passB n K kf (vs.map Prod.fst) (ls.map (levOf (gnOf gs) n)) fs main st true = true := by
  obtain ⟨k, hk, hm, -⟩ := h
  have hk2 : st = passI n K kf (vs.map Prod.fst) (ls.map (levOf (gnOf gs) n)) fs main ⟨(iterI n K kf (vs.map Prod.fst) (ls.map (levOf (gnOf gs) n)) fs main (init0 gs n vs fs.length) k).vs, (iterI n K kf (vs.map Prod.fst) (ls.map (levOf (gnOf gs) n)) fs main (init0 gs n vs fs.length) k).fs, false⟩ := hk
  rw [hk2] at hm
  obtain ⟨h1, h2⟩ := pass_fits n K kf _ _ fs main _ hm
  rw [hk2, h1]
  exact h2
theorem init_getD {gs : List (Int × Int)} {n : Nat} {vs : List (Bool × Lab)} {i : Nat} (h : i < vs.length) : (initL gs n vs).getD i noLev = if vs[i].1 = true then levOf (gnOf gs) n vs[i].2 else botL n := by
  simp [initL, List.getD_eq_getElem?_getD, h]
/-- levels at first are right. -/
theorem init_right (gs : List (Int × Int)) (n : Nat) (vs : List (Bool × Lab)) (nf : Nat) (b : Bool) : RightI n vs.length nf (vs.map Prod.fst) (initL gs n vs) ⟨initL gs n vs, List.replicate nf (botL n), b⟩ := by
  refine ⟨by simp [initL], by simp, fun l hl => ?_, fun l hl => ?_, fun i _ => rfl⟩
  · simp only [initL, List.mem_map] at hl
    obtain ⟨v, -, rfl⟩ := hl
    split
    · exact levOf_len' _ _ _
    · exact botL_len n
  · rw [List.eq_of_mem_replicate hl]
    exact botL_len n
theorem RightI.more {n nv nf : Nat} {known : List Bool} {L : List Lev} {st : ISt} (h : RightI n nv nf known L st) (b : Bool) : RightI n nv nf known L ⟨st.vs, st.fs, b⟩ := ⟨h.lv, h.lf, h.rv, h.rf, h.kn⟩
theorem iter_right (n K kf : Nat) (gs : List (Int × Int)) (vs : List (Bool × Lab)) (ls : List Lab) (fs : List FnD) (main : List D) : ∀ k, RightI n vs.length fs.length (vs.map Prod.fst) (initL gs n vs) (iterI n K kf (vs.map Prod.fst) (ls.map (levOf (gnOf gs) n)) fs main (init0 gs n vs fs.length) k)
  | 0 => init_right gs n vs fs.length true
  | k + 1 => (pass_step n vs.length fs.length K kf _ (initL gs n vs) _ fs main _).1 ((iter_right n K kf gs vs ls fs main k).more false)
/-- what is inferred keeps to what is Known. -/
theorem inferred_known {n K kf : Nat} {gs : List (Int × Int)} {vs : List (Bool × Lab)} {ls : List Lab} {fs : List FnD} {main : List D} {st : ISt} (h : Inferred n K kf gs vs ls fs main st) : ∀ i (hi : i < vs.length), vs[i].1 = true → st.vs.getD i noLev = levOf (gnOf gs) n vs[i].2 := by
  obtain ⟨k, hk, -, -⟩ := h
  intro i hi hkn
  have hr := iter_right n K kf gs vs ls fs main (k + 1)
  rw [← hk] at hr
  rw [hr.kn i (by simp [List.getD_eq_getElem?_getD, hi, hkn]), init_getD hi, if_pos hkn]
theorem iter_least (n K kf : Nat) (gs : List (Int × Int)) (vs : List (Bool × Lab)) (ls : List Lab) (fs : List FnD) (main : List D) (L : ISt) (hv : L.vs.length = vs.length) (hf : L.fs.length = fs.length) (hkn : ∀ i (hi : i < vs.length), vs[i].1 = true → L.vs.getD i noLev = levOf (gnOf gs) n vs[i].2) (hb : passB n K kf (vs.map Prod.fst) (ls.map (levOf (gnOf gs) n)) fs main L true = true) : ∀ k, LeI n (iterI n K kf (vs.map Prod.fst) (ls.map (levOf (gnOf gs) n)) fs main (init0 gs n vs fs.length) k) L
  | 0 => by
    refine ⟨fun i => ?_, fun i => ?_⟩
    · show flowsB ((initL gs n vs).getD i noLev) _ n = true
      by_cases hi : i < vs.length
      · rw [init_getD hi]
        split
        · rename_i hk
          rw [hkn i hi hk]
          exact fl_refl _ _
        · exact fl_bot _ _
      · rw [getD_out (by simp [initL]; omega), getD_out (by omega)]
        exact fl_refl _ _
    · show flowsB ((List.replicate fs.length (botL n)).getD i noLev) _ n = true
      by_cases hi : i < fs.length
      · have : (List.replicate fs.length (botL n)).getD i noLev = botL n := by simp [List.getD_eq_getElem?_getD, hi]
        rw [this]
        exact fl_bot _ _
      · rw [getD_out (by simp; omega), getD_out (by omega)]
        exact fl_refl _ _
  | k + 1 => pass_least n K kf _ _ fs main L _ (iter_least n K kf gs vs ls fs main L hv hf hkn hb k) hb
/-- what is inferred flows to all that fits. -/
theorem inferred_least {n K kf : Nat} {gs : List (Int × Int)} {vs : List (Bool × Lab)} {ls : List Lab} {fs : List FnD} {main : List D} {st L : ISt} (h : Inferred n K kf gs vs ls fs main st) (hv : L.vs.length = vs.length) (hf : L.fs.length = fs.length) (hkn : ∀ i (hi : i < vs.length), vs[i].1 = true → L.vs.getD i noLev = levOf (gnOf gs) n vs[i].2) (hb : passB n K kf (vs.map Prod.fst) (ls.map (levOf (gnOf gs) n)) fs main L true = true) : LeI n st L := by
  obtain ⟨k, hk, -, -⟩ := h
  rw [hk]
  exact iter_least n K kf gs vs ls fs main L hv hf hkn hb (k + 1)
end Go.Proofs.Ytcbbjjenkommeaa.Ex
