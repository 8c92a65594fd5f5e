/- The least levels that may be, of a program. -/
import Derived.Test.YtcbbjjenkommeaaM13
namespace Go.Proofs.Ytcbbjjenkommeaa.Ex
open Go.RowKit
set_option linter.unusedVariables false
/-- no row of bools. -/
def NotB (W : World) (b : Nat) : Prop := ∀ (cur : Array Value) (fr : Nat × Nat), W.heap[b]? ≠ some (Obj.cells cur 4 fr)
theorem NotB.set {W : World} {b b' j : Nat} {u : Value} (h : NotB W b) : NotB (W.setCell ⟨b', j, none⟩ u) b := by
  intro cur fr he
  by_cases hb : b' = b
  · subst hb
    simp only [World.setCell, Array.getElem?_modify, if_true] at he
    cases ho : W.heap[b']? with
    | none => rw [ho] at he; simp at he
    | some o =>
      rw [ho] at he
      cases o with
      | cells c e f =>
        simp at he
        obtain ⟨-, rfl, -⟩ := he
        exact h _ _ ho
      | _ => simp at he
  · rw [heap_set_other hb] at he
    exact h cur fr he
theorem OwnLevs.setLow {n B : Nat} {W : World} {v : Value} {Ls : List Lev} (h1 : 1 ≤ n) (h : OwnLevs n B W v Ls) {b j : Nat} {u : Value} (hb : b < B) (hn : NotB W b) : OwnLevs n B (W.setCell ⟨b, j, none⟩ u) v Ls :=
  h.keep h1 grow_cell (by
    cases hv : v.ownBlock with
    | none => exact Or.inl rfl
    | some g =>
      refine Or.inr fun e => ?_
      injection e with e
      have := (ownLevs_ne h g hv).1
      omega) (fun g e => by injection e with e; subst e; exact hn)
theorem OwnLevs.low {n B B' : Nat} {W : World} {v : Value} {Ls : List Lev} (h : OwnLevs n B W v Ls) (hb : B' ≤ B) : OwnLevs n B' W v Ls := by
  obtain ⟨us, ho, hel⟩ := h
  exact ⟨us, own_low ho hb, hel⟩
/-- cells one behind the other. -/
def setN (b : Nat) : List Value → Nat → World → World
  | [], _, W => W
  | u :: us, j, W => setN b us (j + 1) (W.setCell ⟨b, j, none⟩ u)
theorem OwnLevs.setN {n B b : Nat} {v : Value} {Ls : List Lev} (h1 : 1 ≤ n) (hb : b < B) : ∀ (us : List Value) (j : Nat) (W : World), OwnLevs n B W v Ls → NotB W b → OwnLevs n B (setN b us j W) v Ls
  | [], _, _, h, _ => h
  | u :: us, j, W, h, hn => OwnLevs.setN h1 hb us (j + 1) _ (h.setLow h1 hb hn) hn.set
theorem below_setN {B b : Nat} {w : World} (hb : B ≤ b) : ∀ (us : List Value) (j : Nat) (W : World), Below B w W → Below B w (setN b us j W)
  | [], _, _, h => h
  | u :: us, j, W, h => below_setN hb us (j + 1) _ (h.setCell hb u)
theorem LeastI.box {n B bw : Nat} {P : List Value} {Ls Fs : List Lev} {v k : Value} {W : World} {b j : Nat} {u : Value} (h1 : 1 ≤ n) (h : LeastI n B bw P Ls Fs v k W) (hb : b ≠ bw) (hv : v.ownBlock ≠ some b) (hk : k.ownBlock ≠ some b) (hn : NotB W b) : LeastI n B bw P Ls Fs v k (W.setCell ⟨b, j, none⟩ u) := by
  have hbw : (W.setCell ⟨b, j, none⟩ u).heap[bw]? = W.heap[bw]? := heap_set_other hb u
  refine ⟨fun i x hx => (World.cell?_of_block (a := ⟨bw, i, none⟩) hbw).trans (h.row i x hx), fun i => (World.frozen?_of_block (a := ⟨bw, i, none⟩) hbw).trans (h.fz i), h.vs.keep h1 grow_cell (Or.inr hv) (fun g e => by injection e with e; subst e; exact hn), h.fs.keep h1 grow_cell (Or.inr hk) (fun g e => by injection e with e; subst e; exact hn), h.ap, h.ap2, ?_, h.lo.1, by simpa [World.setCell] using h.lo.2⟩
  obtain ⟨c, f, e⟩ := h.ty
  exact ⟨c, f, hbw.trans e⟩
theorem init_take {gs : List (Int × Int)} {n : Nat} {vs : List (Bool × Lab)} {j : Nat} (h : j < vs.length) : initL gs n (vs.take (j + 1)) = initL gs n (vs.take j) ++ [if vs[j].1 = true then levOf (gnOf gs) n vs[j].2 else botL n] := by
  unfold initL
  rw [List.take_succ_eq_append_getElem h, List.map_append]
  rfl
theorem notB_new {W : World} {cs : Array Value} {T : Nat} (h : T ≠ 4) : NotB (W.alloc (.cells cs T)) W.heap.size := by
  intro cur fr he
  rw [heap_of_alloc] at he
  injection he with he
  injection he with e1 e2 e3
  exact h e2
theorem NotB.over {W W' : World} {b : Nat} (h : NotB W b) (hb : Below W.heap.size W W') (hlt : b < W.heap.size) : NotB W' b := fun cur fr he => h cur fr ((hb.block b hlt) ▸ he)

theorem step_appR {ops : Array Oper} {o : Oper} {a : Act} {W : World} {K : Act → World → Prop} {Q : Exit → Act → World → Prop} {E : Prop} (hg : o.guard = none) (s x : Operand) (t : TypeId) (hop : o.op = Op.call { callee := Callee.builtin Builtin.append, args := #[s, x], argTypes := #[t, t] }) (v u v' : Value) (W' : World) (hs : a.eval s = v) (hx : a.eval x = u)
    (hr : (Builtin.append_ #[t, t] o.type #[v, u]).run Try.prog W = .ok v' W') (h : K (a.put o.dst v') W') : if Region.wanted o (yielded ops a.tmps) = true then Oper.wp Try.prog o a W K Q else E := by
  have hw : Region.wanted o (yielded ops a.tmps) = true := by simp [Region.wanted, hg]
  rw [if_pos hw]
  unfold Oper.wp execOp
  simp only [hop, resolve, invoke, builtin, Sem.run_bind, Sem.run_pure, Result.andThen_ok, List.map_toArray, List.map_cons, List.map_nil, hs, hx, hr]
  exact h

set_option maxHeartbeats 4000000 in
set_option maxRecDepth 100000 in
theorem leastW (n : Nat) (h1 : 1 ≤ n) (h6 : n ≤ 6) (ga : Option Addr) (gn gc : Nat) (sa : Option Addr) (sn sc : Nat) (ya : Option Addr) (yn yc : Nat) (oa : Option Addr) (on oc : Nat) (va : Option Addr) (vn vc : Nat) (fa : Option Addr) (fn fc : Nat) (ba : Option Addr) (bn bc : Nat) (gs : List (Int × Int)) (vs : List (Bool × Lab)) (w : World) (hg : IsGrants w (.slice ga gn gc) gs) (hE : chkErr n gs = 0) (hv : VarsAt w (.slice va vn vc) vs) (hvc : ∀ v ∈ vs, lChk n gs v.2 = 0) (h16 : vs.length ≤ 16) (hf5 : fn ≤ 5) :
    Calls Try.prog 37 #[.agg #[.int .i64 (n : Int), .slice ga gn gc, .slice sa sn sc, .slice ya yn yc, .slice oa on oc, .slice va vn vc, .slice fa fn fc, .slice ba bn bc]] w fun e w' => ∃ la ln lc ka kn2 kc, e = .returned (.agg #[.int .i64 (n : Int), .slice ga gn gc, .slice sa sn sc, .slice ya yn yc, .slice oa on oc, .slice va vn vc, .slice fa fn fc, .slice ba bn bc, .slice la ln lc, .slice ka kn2 kc]) ∧ OwnLevs n w.heap.size w' (.slice la ln lc) (initL gs n vs) ∧ OwnLevs n w.heap.size w' (.slice ka kn2 kc) (List.replicate fn (botL n)) ∧ (Value.ownBlock (.slice la ln lc) = none ∨ Value.ownBlock (.slice la ln lc) ≠ Value.ownBlock (.slice ka kn2 kc)) ∧ Below w.heap.size w w' := by
  obtain ⟨i0, hi, hz0, hz1, hz2⟩ := info_parts Try.infoLv
  have hb0 : Below w.heap.size w ((w.alloc (.cells #[.int .i64 (n : Int), .slice ga gn gc, .slice sa sn sc, .slice ya yn yc, .slice oa on oc, .slice va vn vc, .slice fa fn fc, .slice ba bn bc] 41)).alloc (.cells #[.int .i64 0, .slice none 0 0, .slice none 0 0, .slice none 0 0, .slice none 0 0, .slice none 0 0, .slice none 0 0, .slice none 0 0, .slice none 0 0, .slice none 0 0] 88)) := ((Below.refl _ w).alloc (Nat.le_refl _) _).alloc (by simp) _
  have KW := hide (walkerOf_any n ga gn gc sa sn sc ya yn yc oa on oc va vn vc fa fn fc ba bn bc none 0 0 none 0 0 ((w.alloc (.cells #[.int .i64 (n : Int), .slice ga gn gc, .slice sa sn sc, .slice ya yn yc, .slice oa on oc, .slice va vn vc, .slice fa fn fc, .slice ba bn bc] 41)).alloc (.cells #[.int .i64 0, .slice none 0 0, .slice none 0 0, .slice none 0 0, .slice none 0 0, .slice none 0 0, .slice none 0 0, .slice none 0 0, .slice none 0 0, .slice none 0 0] 88)))
  have KB := hide fun (la : Option Addr) (ln lc : Nat) (ka : Option Addr) (kn kc : Nat) W => bottomW n h1 h6 ga gn gc sa sn sc ya yn yc oa on oc va vn vc fa fn fc ba bn bc la ln lc ka kn kc W
  have KL := hide fun (la : Option Addr) (ln lc : Nat) (ka : Option Addr) (kn kc : Nat) (pr pw : Value) (bl : Lab) W (hb : Below w.heap.size w W) (h2 : IsPols W pr bl.r) (h3 : IsPols W pw bl.w) (h4 : lChk n gs bl = 0) => levelW (n : Int) ga gn gc sa sn sc ya yn yc oa on oc va vn vc fa fn fc ba bn bc la ln lc ka kn kc gs pr pw bl W (isGrants_over hg hb) h2 h3 h4
  have rowP : RowAt [.int .i64 (n : Int), .slice ga gn gc, .slice sa sn sc, .slice ya yn yc, .slice oa on oc, .slice va vn vc, .slice fa fn fc, .slice ba bn bc] ((w.alloc (.cells #[.int .i64 (n : Int), .slice ga gn gc, .slice sa sn sc, .slice ya yn yc, .slice oa on oc, .slice va vn vc, .slice fa fn fc, .slice ba bn bc] 41)).alloc (.cells #[.int .i64 0, .slice none 0 0, .slice none 0 0, .slice none 0 0, .slice none 0 0, .slice none 0 0, .slice none 0 0, .slice none 0 0, .slice none 0 0, .slice none 0 0] 88)) w.heap.size := (RowAt.new [.int .i64 (n : Int), .slice ga gn gc, .slice sa sn sc, .slice ya yn yc, .slice oa on oc, .slice va vn vc, .slice fa fn fc, .slice ba bn bc] 41 w).over ((Below.refl _ _).alloc (Nat.le_refl _) _)
  have HB0 := hide hb0
  have HRP := hide rowP
  have HV := hide hv
  have HVC := hide hvc
  have hvn : vn = vs.length := by obtain ⟨-, a, c, he, -⟩ := hv; injection he
  have hvn16 : vn ≤ 16 := by omega
  have HVN := hide hvn
  obtain ⟨V0, hV0⟩ : ∃ q, q = ((w.alloc (.cells #[.int .i64 (n : Int), .slice ga gn gc, .slice sa sn sc, .slice ya yn yc, .slice oa on oc, .slice va vn vc, .slice fa fn fc, .slice ba bn bc] 41)).alloc (.cells #[.int .i64 0, .slice none 0 0, .slice none 0 0, .slice none 0 0, .slice none 0 0, .slice none 0 0, .slice none 0 0, .slice none 0 0, .slice none 0 0, .slice none 0 0] 88)) := ⟨_, rfl⟩
  have hs0 : V0.heap.size = w.heap.size + 1 + 1 := by rw [hV0]; simp
  rw [← hV0] at HB0 HRP
  have HS0 := hide hs0
  have HSZ : Hid (∀ W, Below (w.heap.size + 1 + 1) V0 W → (w.heap.size + 1 + 1) ≤ W.heap.size) := fun W h => by have := h.size; rw [HS0.out] at this; exact this
  have nb1 : NotB V0 (w.heap.size + 1) := by
    rw [hV0]
    have := notB_new (W := w.alloc (.cells #[.int .i64 (n : Int), .slice ga gn gc, .slice sa sn sc, .slice ya yn yc, .slice oa on oc, .slice va vn vc, .slice fa fn fc, .slice ba bn bc] 41)) (cs := #[.int .i64 0, .slice none 0 0, .slice none 0 0, .slice none 0 0, .slice none 0 0, .slice none 0 0, .slice none 0 0, .slice none 0 0, .slice none 0 0, .slice none 0 0]) (T := 88) (by decide)
    simpa using this
  have zr : RowAt [.int .i64 0, .slice none 0 0, .slice none 0 0, .slice none 0 0, .slice none 0 0, .slice none 0 0, .slice none 0 0, .slice none 0 0, .slice none 0 0, .slice none 0 0] V0 (w.heap.size + 1) := by
    rw [hV0]
    have := RowAt.new [.int .i64 0, .slice none 0 0, .slice none 0 0, .slice none 0 0, .slice none 0 0, .slice none 0 0, .slice none 0 0, .slice none 0 0, .slice none 0 0, .slice none 0 0] 88 (w.alloc (.cells #[.int .i64 (n : Int), .slice ga gn gc, .slice sa sn sc, .slice ya yn yc, .slice oa on oc, .slice va vn vc, .slice fa fn fc, .slice ba bn bc] 41))
    simpa using this
  have zf : ∀ j, V0.frozen? ⟨w.heap.size + 1, j, none⟩ = false := fun j => by rw [hV0]; simp [go_sem]
  have NB1 := hide nb1
  have ZR := hide zr
  have ZF := hide zf
  have c0 := rowP 0 _ rfl
  have c1 := rowP 1 _ rfl
  have c2 := rowP 2 _ rfl
  have c3 := rowP 3 _ rfl
  have c4 := rowP 4 _ rfl
  have c5 := rowP 5 _ rfl
  have c6 := rowP 6 _ rfl
  have c7 := rowP 7 _ rfl
  clear hb0 rowP hv hvc hg hE hvn hs0 nb1 zr zf
  go_enter Try.func37, Try.ntmps37
  go_wp2_with fail
  refine (KW.out).mono ?_
  rintro e w1 ⟨rfl, hb1⟩
  rw [← hV0] at hb1
  have hbw2 := (Below.refl _ w1).alloc (Nat.le_refl _) (.cells #[.int .i64 (n : Int), .slice ga gn gc, .slice sa sn sc, .slice ya yn yc, .slice oa on oc, .slice va vn vc, .slice fa fn fc, .slice ba bn bc, .slice none 0 0, .slice none 0 0] 88)
  have hB02 : Below (w.heap.size + 1 + 1) V0 (w1.alloc (.cells #[.int .i64 (n : Int), .slice ga gn gc, .slice sa sn sc, .slice ya yn yc, .slice oa on oc, .slice va vn vc, .slice fa fn fc, .slice ba bn bc, .slice none 0 0, .slice none 0 0] 88)) := by rw [← HS0.out]; exact over_trans hb1 hbw2
  have hL0 : LeastI n (w.heap.size + 1 + 1) w1.heap.size [.int .i64 (n : Int), .slice ga gn gc, .slice sa sn sc, .slice ya yn yc, .slice oa on oc, .slice va vn vc, .slice fa fn fc, .slice ba bn bc] [] [] (.slice none 0 0) (.slice none 0 0) (w1.alloc (.cells #[.int .i64 (n : Int), .slice ga gn gc, .slice sa sn sc, .slice ya yn yc, .slice oa on oc, .slice va vn vc, .slice fa fn fc, .slice ba bn bc, .slice none 0 0, .slice none 0 0] 88)) := by
    refine ⟨RowAt.new [.int .i64 (n : Int), .slice ga gn gc, .slice sa sn sc, .slice ya yn yc, .slice oa on oc, .slice va vn vc, .slice fa fn fc, .slice ba bn bc, .slice none 0 0, .slice none 0 0] 88 w1, fun j => by simp [go_sem], ownLevs_nil _ _ _, ownLevs_nil _ _ _, Or.inl rfl, ⟨by simp [Value.ownBlock], by simp [Value.ownBlock]⟩, ⟨_, _, heap_of_alloc _ _⟩, ?_, by simp⟩
    have := hb1.size
    rw [HS0.out] at this
    exact this
  have HL0 := hide hL0
  have HB02 := hide hB02
  have hRP2 := HRP.out.over (over_trans hb1 hbw2)
  have HRP2 := hide hRP2
  clear c0 c1 c2 c3 c4 c5 c6 c7 KW hb1 hbw2 hB02 hL0 hV0
  have c0 := hRP2 0 _ rfl
  have c1 := hRP2 1 _ rfl
  have c2 := hRP2 2 _ rfl
  have c3 := hRP2 3 _ rfl
  have c4 := hRP2 4 _ rfl
  have c5 := hRP2 5 _ rfl
  have c6 := hRP2 6 _ rfl
  have c7 := hRP2 7 _ rfl
  clear hRP2
  go_wp2_with fail
  go_loopw [13] (fun x wr => ∃ (j : Nat) (la : Option Addr) (ln lc : Nat), j ≤ vn ∧ x = .int .i64 j ∧ LeastI n (w.heap.size + 1 + 1) w1.heap.size [.int .i64 (n : Int), .slice ga gn gc, .slice sa sn sc, .slice ya yn yc, .slice oa on oc, .slice va vn vc, .slice fa fn fc, .slice ba bn bc] (initL gs n (vs.take j)) [] (.slice la ln lc) (.slice none 0 0) wr ∧ Below (w.heap.size + 1 + 1) V0 wr) (fun x _ => vn - (intOf x).toNat)
  case atStart => exact ⟨0, none, 0, 0, Nat.zero_le _, rfl, HL0.out, HB02.out⟩
  case round =>
    clear c0 c1 c2 c3 c4 c5 c6 c7
    obtain ⟨j, la, ln, lc, hj, rfl, hL, hB⟩ := hrel
    have hBw := HB0.out.trans (hB.mono (by omega))
    have hrp : RowAt [.int .i64 (n : Int), .slice ga gn gc, .slice sa sn sc, .slice ya yn yc, .slice oa on oc, .slice va vn vc, .slice fa fn fc, .slice ba bn bc] wr w.heap.size := fun i u hu => (hB.cell (p := ⟨w.heap.size, i, none⟩) (by simp <;> omega)).trans (HRP.out i u hu)
    by_cases hlt : j < vn
    · have hj2 : j < vs.length := by rw [← HVN.out]; exact hlt
      obtain ⟨-, va', vc', hve, hvel⟩ := HV.out
      injection hve with x1 x2 x3
      obtain ⟨bv, ov, hvo, hvel⟩ := hvel (by intro h; rw [h] at hj2; simp at hj2)
      obtain ⟨pr, pw, g0, g1, g2, hpr, hpw⟩ := hvel j hj2
      have hva : va = some ⟨bv, ov, none⟩ := x1.trans hvo
      subst hva
      obtain ⟨b1, b2, b3, rfl⟩ := pols_form hpr
      obtain ⟨b4, b5, b6, rfl⟩ := pols_form hpw
      have g0 := cell_over hBw _ _ g0
      have g1 := cell_over hBw _ _ g1
      have g2 := cell_over hBw _ _ g2
      have HIN := hide (init_take (gs := gs) (n := n) hj2)
      obtain ⟨kn, hkn⟩ : ∃ q, q = vs[j].1 := ⟨_, rfl⟩
      obtain ⟨lb, hlb⟩ : ∃ q, q = vs[j].2 := ⟨_, rfl⟩
      rw [← hkn] at g0 HIN
      rw [← hlb] at hpr hpw HIN
      have HCK := hide (HVC.out vs[j] (List.getElem_mem hj2))
      rw [← hlb] at HCK
      have hba := (Below.refl _ wr).alloc (Nat.le_refl _) (.cells #[.bool kn, .slice b1 b2 b3, .slice b4 b5 b6] 120)
      have hL1 := hL.over h1 hba
      have rowV := RowAt.new [.bool kn, .slice b1 b2 b3, .slice b4 b5 b6] 120 wr
      have KB1 := hide (KB.out la ln lc none 0 0 (wr.alloc (.cells #[.bool kn, .slice b1 b2 b3, .slice b4 b5 b6] 120)))
      have hB1 := hB.trans (hba.mono (HSZ.out _ hB))
      have HL1 := hide hL1
      have HB1 := hide hB1
      have HRV := hide rowV
      have HPR := hide (isPols_over hpr (hBw.trans (hba.mono hBw.size)))
      have HPW := hide (isPols_over hpw (hBw.trans (hba.mono hBw.size)))
      have HBW1 := hide (hBw.trans (hba.mono hBw.size))
      have hj3 : (j : Int) < (vn : Int) := by omega
      have d0 := hL1.row 0 _ rfl
      have d1 := hL1.row 1 _ rfl
      have d2 := hL1.row 2 _ rfl
      have d3 := hL1.row 3 _ rfl
      have d4 := hL1.row 4 _ rfl
      have d5 := hL1.row 5 _ rfl
      have d6 := hL1.row 6 _ rfl
      have d7 := hL1.row 7 _ rfl
      have d8 := hL1.row 8 _ rfl
      have d9 := hL1.row 9 _ rfl
      have e0 := rowV 0 _ rfl
      have e1 := rowV 1 _ rfl
      have e2 := rowV 2 _ rfl
      clear hL hB hBw hrp hvel hvo x1 x2 x3 hpr hpw hkn hlb hba hL1 rowV hB1
      go_wp2_with fail
      refine (KB1.out).mono ?_
      rintro e W3 ⟨vj, rfl, hfr, hb3⟩
      have hT3 := levT_fresh hfr (botL_len n)
      obtain ⟨a1, a2, a3, a4, a5, a6, hvj⟩ : ∃ a1 a2 a3 a4 a5 a6, vj = .agg #[.slice a1 a2 a3, .slice a4 a5 a6] := by
        obtain ⟨x, y, e, -⟩ := levAt_fresh hfr
        subst e
        obtain ⟨z1, z2, z3, z4, z5, z6, rfl, rfl⟩ := lev_slices (levAt_fresh hfr)
        exact ⟨_, _, _, _, _, _, rfl⟩
      subst hvj
      have hb4 := (Below.refl _ W3).alloc (Nat.le_refl _) (.cells #[.slice a1 a2 a3, .slice a4 a5 a6] 62)
      have hb34 := over_trans hb3 hb4
      have hL4 := HL1.out.over h1 hb34
      have HT4 := hide (hT3.over h1 hb4)
      have hB4 := HB1.out.trans (hb34.mono (HSZ.out _ HB1.out))
      have rowA := RowAt.new [.slice a1 a2 a3, .slice a4 a5 a6] 62 W3
      have rowV := HRV.out.over hb34
      have HL4 := hide hL4
      have HB4 := hide hB4
      have HRA := hide rowA
      have HP4 := hide (isPols_over HPR.out hb34)
      have HQ4 := hide (isPols_over HPW.out hb34)
      have HBW4 := hide (HBW1.out.trans (hb34.mono HBW1.out.size))
      have HVB : Hid (Value.ownBlock (.slice la ln lc) ≠ some W3.heap.size ∧ W3.heap.size ≠ w1.heap.size ∧ w1.heap.size < W3.heap.size) := by
        have h3 := hb3.size
        have h4 := HL1.out.lo.2
        refine ⟨fun e => ?_, by omega, by omega⟩
        obtain ⟨-, c, f, he⟩ := ownLevs_ne HL1.out.vs _ e
        have := (Array.getElem?_eq_some_iff.1 he).1
        omega
      have HNB := hide (notB_new (W := W3) (cs := #[.slice a1 a2 a3, .slice a4 a5 a6]) (T := 62) (by decide))
      clear d0 d1 d2 d3 d4 d5 d6 d7 d8 d9 e0 e1 e2 hfr hb3 hT3 hb4 hb34 hL4 hB4 KB1 HL1 HB1 HRV HPR HPW HBW1
      have d0 := HL4.out.row 0 _ rfl
      have d1 := HL4.out.row 1 _ rfl
      have d2 := HL4.out.row 2 _ rfl
      have d3 := HL4.out.row 3 _ rfl
      have d4 := HL4.out.row 4 _ rfl
      have d5 := HL4.out.row 5 _ rfl
      have d6 := HL4.out.row 6 _ rfl
      have d7 := HL4.out.row 7 _ rfl
      have d8 := HL4.out.row 8 _ rfl
      have d9 := HL4.out.row 9 _ rfl
      have e0 := rowV 0 _ rfl
      have e1 := rowV 1 _ rfl
      have e2 := rowV 2 _ rfl
      have f0 := rowA 0 _ rfl
      have f1 := rowA 1 _ rfl
      clear rowA rowV
      cases kn with
      | false =>
        have HLb := HL4
        have HBb := HB4
        have HT := HT4
        have hbN := (Below.refl _ (W3.alloc (.cells #[.slice a1 a2 a3, .slice a4 a5 a6] 62))).alloc (Nat.le_refl _) (.cells #[.slice a1 a2 a3, .slice a4 a5 a6] 62)
        have hLN := HLb.out.over h1 hbN
        have hN := RowAt.new [.slice a1 a2 a3, .slice a4 a5 a6] 62 (W3.alloc (.cells #[.slice a1 a2 a3, .slice a4 a5 a6] 62))
        have hsz : (W3.alloc (.cells #[.slice a1 a2 a3, .slice a4 a5 a6] 62)).heap.size = (W3.heap.size + 1) := by simp
        rw [hsz] at hN
        have HN := hide hN
        clear hN hsz
        obtain ⟨us, hous, helu⟩ := hLN.vs
        have HHEL := hide helu
        have HOUS := hide hous
        have HTN := hide (HT.out.over h1 hbN)
        have HLN := hide hLN
        have HBW := hide (show (w.heap.size + 1 + 1) ≤ ((W3.alloc (.cells #[.slice a1 a2 a3, .slice a4 a5 a6] 62)).alloc (.cells #[.slice a1 a2 a3, .slice a4 a5 a6] 62)).heap.size by have := hLN.lo; omega)
        have hl16 : (initL gs n (vs.take j)).length ≤ 16 := by simp [initL]; omega
        have HBN := hide (HBb.out.trans (hbN.mono (HSZ.out _ HBb.out)))
        have dN := hLN.row 8 _ rfl
        have fN := hLN.fz 8
        clear hbN hLN helu
        go_wp2_with (at_builtin; refine wpList_append_own_at _ rfl _ _ 52 rfl (w.heap.size + 1 + 1) 62 i0 (.agg #[.slice none 0 0, .slice none 0 0]) 2 48 Try.underlying52 hi hz0 hz1 hz2 rfl (by decide) _ _ _ rfl HOUS.out ⟨(W3.heap.size + 1), 0, none⟩ 1 1 [.slice a1 a2 a3, .slice a4 a5 a6] rfl rfl (fun jj u hu => by rw [Addr.add_lit, Nat.zero_add]; exact HN.out jj u hu) (by simp [Value.oneCell']) (by unfold maxLen; omega) (by omega) HBW.out ?_)
        intro v2 w2 hown2 hgr2 _ hat
        obtain ⟨va2, vn2, vc2, rfl⟩ := own_form hown2
        have hfin := LeastI.addV h1 rfl HLN.out HOUS.out HHEL.out HTN.out hown2 hgr2 (by simpa using hat)
        have d2 := hgr2.cell dN (fun hx => HLN.out.ap2.1 hx.symm)
        have f2 : w2.frozen? ⟨w1.heap.size, 8, none⟩ = false := (World.frozen?_of_block (a := ⟨w1.heap.size, 8, none⟩) (hgr2.block w1.heap.size HLN.out.lo.2 (fun hx => HLN.out.ap2.1 hx.symm))).trans fN
        have HFIN := hide hfin
        clear hfin hown2 hgr2 hat hous dN fN
        go_wp2_with fail
        refine ⟨⟨j + 1, va2, vn2, vc2, by omega, by go_num, by rw [HIN.out]; exact HFIN.out.1, HBN.out.trans HFIN.out.2⟩, by simp [intOf]; omega⟩
      | true =>
        have KL1 := hide (KL.out la ln lc none 0 0 _ _ lb _ HBW4.out HP4.out HQ4.out HCK.out)
        go_wp2_with fail
        refine (KL1.out).mono ?_
        rintro e W5 ⟨vj, rfl, hfr, hb5⟩
        have hfr2 : LevFresh (W3.alloc (.cells #[.slice a1 a2 a3, .slice a4 a5 a6] 62)) W5 vj (levOf (gnOf gs) n lb) := by simpa using hfr
        have hT5 := levT_fresh hfr2 (levOf_len' _ n lb)
        obtain ⟨m1, m2, m3, m4, m5, m6, hvj⟩ : ∃ a1 a2 a3 a4 a5 a6, vj = .agg #[.slice a1 a2 a3, .slice a4 a5 a6] := by
          obtain ⟨x, y, e, -⟩ := levAt_fresh hfr2
          subst e
          obtain ⟨z1, z2, z3, z4, z5, z6, rfl, rfl⟩ := lev_slices (levAt_fresh hfr2)
          exact ⟨_, _, _, _, _, _, rfl⟩
        subst hvj
        have hlt4 : W3.heap.size < (W3.alloc (.cells #[.slice a1 a2 a3, .slice a4 a5 a6] 62)).heap.size := by simp
        have nb5 := HNB.out.over hb5 hlt4
        have p0 := cell_over hb5 _ _ f0
        have p1 := cell_over hb5 _ _ f1
        have z0 : W5.frozen? ⟨W3.heap.size, 0, none⟩ = false := ((bcell hb5).2 _ _ hlt4).trans (by simp [go_sem])
        have z1 : W5.frozen? ⟨W3.heap.size, 1, none⟩ = false := ((bcell hb5).2 _ _ hlt4).trans (by simp [go_sem])
        have hL5 := HL4.out.over h1 hb5
        have hL6 := (hL5.box (j := 0) (u := .slice m1 m2 m3) h1 HVB.out.2.1 HVB.out.1 (by simp [Value.ownBlock]) nb5).box (j := 1) (u := .slice m4 m5 m6) h1 HVB.out.2.1 HVB.out.1 (by simp [Value.ownBlock]) nb5.set
        have HLb := hide hL6
        have hlo3 : (w.heap.size + 1 + 1) ≤ W3.heap.size := by have := HL4.out.lo.1; have := HVB.out.2.2; omega
        have HBb := hide (((HB4.out.trans (hb5.mono (HSZ.out _ HB4.out))).setCell (p := ⟨W3.heap.size, 0, none⟩) hlo3 (.slice m1 m2 m3)).setCell (p := ⟨W3.heap.size, 1, none⟩) hlo3 (.slice m4 m5 m6))
        have HT := hide ((hT5.keep h1 (fun k cur fr hk => (grow_cell (b := W3.heap.size) (j := 0) (u := .slice m1 m2 m3)).block k (Array.getElem?_eq_some_iff.1 hk).1 (fun e => by injection e with e; subst e; exact nb5 cur fr hk))).keep h1 (fun k cur fr hk => (grow_cell (b := W3.heap.size) (j := 1) (u := .slice m4 m5 m6)).block k (Array.getElem?_eq_some_iff.1 hk).1 (fun e => by injection e with e; subst e; exact nb5.set cur fr hk)))
        have q0 : ((W5.setCell ⟨W3.heap.size, 0, none⟩ (.slice m1 m2 m3)).setCell ⟨W3.heap.size, 1, none⟩ (.slice m4 m5 m6)).cell? ⟨W3.heap.size, 0, none⟩ = some (.slice m1 m2 m3) := by simp [go_sem, p0]
        have q1 : ((W5.setCell ⟨W3.heap.size, 0, none⟩ (.slice m1 m2 m3)).setCell ⟨W3.heap.size, 1, none⟩ (.slice m4 m5 m6)).cell? ⟨W3.heap.size, 1, none⟩ = some (.slice m4 m5 m6) := by simp [go_sem, p1]
        clear d0 d1 d2 d3 d4 d5 d6 d7 d8 d9 e0 e1 e2 f0 f1 KL1 hfr hfr2 hT5 hL5
        have d0 := hL6.row 0 _ rfl
        have d1 := hL6.row 1 _ rfl
        have d2 := hL6.row 2 _ rfl
        have d3 := hL6.row 3 _ rfl
        have d4 := hL6.row 4 _ rfl
        have d5 := hL6.row 5 _ rfl
        have d6 := hL6.row 6 _ rfl
        have d7 := hL6.row 7 _ rfl
        have d8 := hL6.row 8 _ rfl
        have d9 := hL6.row 9 _ rfl
        clear hL6 hb5
        have hbN := (Below.refl _ ((W5.setCell ⟨W3.heap.size, 0, none⟩ (.slice m1 m2 m3)).setCell ⟨W3.heap.size, 1, none⟩ (.slice m4 m5 m6))).alloc (Nat.le_refl _) (.cells #[.slice m1 m2 m3, .slice m4 m5 m6] 62)
        have hLN := HLb.out.over h1 hbN
        have hN := RowAt.new [.slice m1 m2 m3, .slice m4 m5 m6] 62 ((W5.setCell ⟨W3.heap.size, 0, none⟩ (.slice m1 m2 m3)).setCell ⟨W3.heap.size, 1, none⟩ (.slice m4 m5 m6))
        have hsz : ((W5.setCell ⟨W3.heap.size, 0, none⟩ (.slice m1 m2 m3)).setCell ⟨W3.heap.size, 1, none⟩ (.slice m4 m5 m6)).heap.size = W5.heap.size := by simp [World.setCell]
        rw [hsz] at hN
        have HN := hide hN
        clear hN hsz
        obtain ⟨us, hous, helu⟩ := hLN.vs
        have HHEL := hide helu
        have HOUS := hide hous
        have HTN := hide (HT.out.over h1 hbN)
        have HLN := hide hLN
        have HBW := hide (show (w.heap.size + 1 + 1) ≤ (((W5.setCell ⟨W3.heap.size, 0, none⟩ (.slice m1 m2 m3)).setCell ⟨W3.heap.size, 1, none⟩ (.slice m4 m5 m6)).alloc (.cells #[.slice m1 m2 m3, .slice m4 m5 m6] 62)).heap.size by have := hLN.lo; omega)
        have hl16 : (initL gs n (vs.take j)).length ≤ 16 := by simp [initL]; omega
        have HBN := hide (HBb.out.trans (hbN.mono (HSZ.out _ HBb.out)))
        have dN := hLN.row 8 _ rfl
        have fN := hLN.fz 8
        clear hbN hLN helu
        go_wp2_with (at_builtin; refine wpList_append_own_at _ rfl _ _ 52 rfl (w.heap.size + 1 + 1) 62 i0 (.agg #[.slice none 0 0, .slice none 0 0]) 2 48 Try.underlying52 hi hz0 hz1 hz2 rfl (by decide) _ _ _ rfl HOUS.out ⟨W5.heap.size, 0, none⟩ 1 1 [.slice m1 m2 m3, .slice m4 m5 m6] rfl rfl (fun jj u hu => by rw [Addr.add_lit, Nat.zero_add]; exact HN.out jj u hu) (by simp [Value.oneCell']) (by unfold maxLen; omega) (by omega) HBW.out ?_)
        intro v2 w2 hown2 hgr2 _ hat
        obtain ⟨va2, vn2, vc2, rfl⟩ := own_form hown2
        have hfin := LeastI.addV h1 rfl HLN.out HOUS.out HHEL.out HTN.out hown2 hgr2 (by simpa using hat)
        have d2 := hgr2.cell dN (fun hx => HLN.out.ap2.1 hx.symm)
        have f2 : w2.frozen? ⟨w1.heap.size, 8, none⟩ = false := (World.frozen?_of_block (a := ⟨w1.heap.size, 8, none⟩) (hgr2.block w1.heap.size HLN.out.lo.2 (fun hx => HLN.out.ap2.1 hx.symm))).trans fN
        have HFIN := hide hfin
        clear hfin hown2 hgr2 hat hous dN fN
        go_wp2_with fail
        refine ⟨⟨j + 1, va2, vn2, vc2, by omega, by go_num, by rw [HIN.out]; exact HFIN.out.1, HBN.out.trans HFIN.out.2⟩, by simp [intOf]; omega⟩
    · have hj2 : vs.take j = vs := List.take_of_length_le (by rw [← HVN.out]; omega)
      rw [hj2] at hL
      have HL := hide hL
      have HB := hide hB
      have c0 := hrp 0 _ rfl
      have c1 := hrp 1 _ rfl
      have c2 := hrp 2 _ rfl
      have c3 := hrp 3 _ rfl
      have c4 := hrp 4 _ rfl
      have c5 := hrp 5 _ rfl
      have c6 := hrp 6 _ rfl
      have c7 := hrp 7 _ rfl
      clear hj2 hL hB hBw hrp
      go_wp2_with fail
      go_loopw [41] (fun x wr => ∃ (q : Nat) (ka : Option Addr) (kn2 kc : Nat), q ≤ fn ∧ x = .int .i64 q ∧ LeastI n (w.heap.size + 1 + 1) w1.heap.size [.int .i64 (n : Int), .slice ga gn gc, .slice sa sn sc, .slice ya yn yc, .slice oa on oc, .slice va vn vc, .slice fa fn fc, .slice ba bn bc] (initL gs n vs) (List.replicate q (botL n)) (.slice la ln lc) (.slice ka kn2 kc) wr ∧ Below (w.heap.size + 1 + 1) V0 wr) (fun x _ => fn - (intOf x).toNat)
      case atStart => exact ⟨0, none, 0, 0, Nat.zero_le _, rfl, HL.out, HB.out⟩
      case round =>
        clear c0 c1 c2 c3 c4 c5 c6 c7 HL HB
        obtain ⟨q, ka, kn2, kc, hq, rfl, hL, hB⟩ := hrel
        have HL := hide hL
        have HBX := hide hB
        have d0 := hL.row 0 _ rfl
        have d1 := hL.row 1 _ rfl
        have d2 := hL.row 2 _ rfl
        have d3 := hL.row 3 _ rfl
        have d4 := hL.row 4 _ rfl
        have d5 := hL.row 5 _ rfl
        have d6 := hL.row 6 _ rfl
        have d7 := hL.row 7 _ rfl
        have d8 := hL.row 8 _ rfl
        have d9 := hL.row 9 _ rfl
        have KB1 := hide (KB.out la ln lc ka kn2 kc wr.drew)
        clear hL hB
        by_cases hlt2 : q < fn
        · have hq3 : (q : Int) < (fn : Int) := by omega
          go_wp2_with fail
          refine wp_region_held_drew (S := fun Wz => True) (by kernel_rfl) (trivial) (fun hHeld => ?_)
          refine tk (i := 0) (oi := ⟨some 43, .fieldAddr 88 (.tmp 3) 0, 0, "walker.go:28", #[], none⟩) (v := ?_) (Or.inl ⟨by rfl, ?_⟩) (by assumption) ?_
          rotate_left
          · intro w' hSw
            (try dsimp only at hSw)
            go_simp
            try with_reducible rfl
          try simp only [aput]
          refine tk (i := 1) (oi := ⟨some 44, .fieldAddr 86 (.tmp 43) 1, 0, "walker.go:28", #[⟨0, .data⟩], none⟩) (v := ?_) (Or.inl ⟨by rfl, ?_⟩) (by assumption) ?_
          rotate_left
          · intro w' hSw
            (try dsimp only at hSw)
            go_simp
            try with_reducible rfl
          try simp only [aput]
          refine tk (i := 2) (oi := ⟨some 45, .fieldAddr 54 (.tmp 44) 1, 0, "walker.go:28", #[⟨1, .data⟩], none⟩) (v := ?_) (Or.inl ⟨by rfl, ?_⟩) (by assumption) ?_
          rotate_left
          · intro w' hSw
            (try dsimp only at hSw)
            go_simp
            try with_reducible rfl
          try simp only [aput]
          refine tk (i := 4) (oi := ⟨some 47, .fieldAddr 88 (.tmp 3) 0, 0, "walker.go:28", #[], none⟩) (v := ?_) (Or.inl ⟨by rfl, ?_⟩) (by assumption) ?_
          rotate_left
          · intro w' hSw
            (try dsimp only at hSw)
            go_simp
            try with_reducible rfl
          try simp only [aput]
          refine wpAnyH_ready (rs := [3, 5]) (by kernel_rfl) (by simp) ?_
          refine (AllReadyH.cons (o := ⟨some 46, .load 52 (.tmp 45), 52, "walker.go:28", #[⟨2, .data⟩], none⟩) rfl (fun K hK => ?_) (AllReadyH.cons (o := ⟨some 48, .load 86 (.tmp 47), 86, "walker.go:28", #[⟨4, .data⟩], none⟩) rfl (fun K hK => ?_) AllReadyH.nil))
          · go_simp
            refine hK.out _ _ trivial (fun hHeld => ?_)
            clear hK K
            try simp only [aput]
            refine wpAnyH_ready (rs := [5]) (by kernel_rfl) (by simp) ?_
            refine (AllReadyH.cons (o := ⟨some 48, .load 86 (.tmp 47), 86, "walker.go:28", #[⟨4, .data⟩], none⟩) rfl (fun K hK => ?_) AllReadyH.nil)
            go_simp
            refine hK.out _ _ trivial (fun hHeld => ?_)
            clear hK K
            try simp only [aput]
            refine wpAnyH_ready (rs := [6]) (by kernel_rfl) (by simp) ?_
            refine (AllReadyH.cons (o := { dst := some 49, op := Go.Op.call { callee := Go.Callee.value (Go.Operand.func 73), args := #[Go.Operand.tmp 48], argTypes := #[86] }, type := 62, pos := "walker.go:28", after := #[⟨5, .data⟩], guard := none }) rfl (fun K hK => ?_) AllReadyH.nil)
            go_simp
            refine (KB1.out).mono ?_
            rintro e W3 ⟨vj, rfl, hfr, hb3⟩
            have hT3 := levT_fresh hfr (botL_len n)
            obtain ⟨a1, a2, a3, a4, a5, a6, hvj⟩ : ∃ a1 a2 a3 a4 a5 a6, vj = .agg #[.slice a1 a2 a3, .slice a4 a5 a6] := by
              obtain ⟨x, y, e, -⟩ := levAt_fresh hfr
              subst e
              obtain ⟨z1, z2, z3, z4, z5, z6, rfl, rfl⟩ := lev_slices (levAt_fresh hfr)
              exact ⟨_, _, _, _, _, _, rfl⟩
            subst hvj
            have hb3' := over_trans ((Below.refl _ wr).drew) hb3
            have hL3 := HL.out.over h1 hb3'
            have hB3 := HBX.out.trans (hb3'.mono (HSZ.out _ HBX.out))
            have x9 := hL3.row 9 _ rfl
            have hbN := (Below.refl _ W3).alloc (Nat.le_refl _) (.cells #[.slice a1 a2 a3, .slice a4 a5 a6] 62)
            have hLN := hL3.over h1 hbN
            have hN := RowAt.new [.slice a1 a2 a3, .slice a4 a5 a6] 62 W3
            obtain ⟨us, hous, helu⟩ := hLN.fs
            have hTN := hT3.over h1 hbN
            have hBN := hB3.trans (hbN.mono (HSZ.out _ hB3))
            have y9 := hLN.row 9 _ rfl
            have z9 := hLN.fz 9
            have hBW : (w.heap.size + 1 + 1) ≤ (W3.alloc (.cells #[.slice a1 a2 a3, .slice a4 a5 a6] 62)).heap.size := HSZ.out _ hBN
            obtain ⟨v2, w2, hrun, hown2, hgr2, -, hat⟩ := run_append_own_at (P := Try.prog) (w := W3.alloc (.cells #[.slice a1 a2 a3, .slice a4 a5 a6] 62)) (w.heap.size + 1 + 1) 52 52 62 i0 (.agg #[.slice none 0 0, .slice none 0 0]) 2 48 Try.underlying52 hi hz0 hz1 hz2 rfl (by decide) _ _ _ hous ⟨W3.heap.size, 0, none⟩ 1 1 [.slice a1 a2 a3, .slice a4 a5 a6] rfl (fun jj u hu => by rw [Addr.add_lit, Nat.zero_add]; exact hN jj u hu) (by simp [Value.oneCell']) (by unfold maxLen; simp; omega) (by simp; omega) hBW
            obtain ⟨va2, vn2, vc2, rfl⟩ := own_form hown2
            have hfin := LeastI.addF h1 rfl hLN hous helu hTN hown2 hgr2 hat
            have d2 := hgr2.cell y9 (fun hx => hLN.ap2.2 hx.symm)
            have f2 : w2.frozen? ⟨w1.heap.size, 9, none⟩ = false := (World.frozen?_of_block (a := ⟨w1.heap.size, 9, none⟩) (hgr2.block w1.heap.size hLN.lo.2 (fun hx => hLN.ap2.2 hx.symm))).trans z9
            have HFIN := hide hfin
            have HBN := hide hBN
            clear hfin hown2 hgr2 hat hous helu hTN hN hL3 hB3 hb3 hb3' hfr hT3 hbN hLN hBN z9
            go_simp
            refine hK.out _ _ trivial (fun hHeld => ?_)
            clear hK K
            try simp only [aput]
            refine wpAnyH_ready (rs := [7]) (by kernel_rfl) (by simp) ?_
            refine (AllReadyH.cons (o := ⟨some 50, .buildSlice 52 1 #[(0, .tmp 49)], 52, "walker.go:28", #[⟨6, .data⟩], none⟩) rfl (fun K hK => ?_) AllReadyH.nil)
            go_simp
            refine hK.out _ _ trivial (fun hHeld => ?_)
            clear hK K
            try simp only [aput]
            refine wpAnyH_ready (rs := [8]) (by kernel_rfl) (by simp) ?_
            refine (AllReadyH.cons (o := { dst := some 51, op := Go.Op.call { callee := Go.Callee.builtin Go.Builtin.append, args := #[Go.Operand.tmp 46, Go.Operand.tmp 50], argTypes := #[52, 52] }, type := 52, pos := "walker.go:28", after := #[⟨3, .data⟩, ⟨7, .data⟩, ⟨6, .chain⟩], guard := none }) rfl (fun K hK => ?_) AllReadyH.nil)
            refine step_appR rfl _ _ _ rfl _ _ _ _ rfl rfl hrun ?_
            refine hK.out _ _ trivial (fun hHeld => ?_)
            clear hK K
            try simp only [aput]
            refine wpAnyH_ready (rs := [9]) (by kernel_rfl) (by simp) ?_
            refine (AllReadyH.cons (o := ⟨some 52, .fieldAddr 88 (.tmp 3) 0, 0, "walker.go:28", #[⟨0, .phase⟩, ⟨1, .phase⟩, ⟨2, .phase⟩, ⟨3, .phase⟩, ⟨4, .phase⟩, ⟨5, .phase⟩, ⟨6, .phase⟩, ⟨7, .phase⟩, ⟨8, .phase⟩], none⟩) rfl (fun K hK => ?_) AllReadyH.nil)
            go_simp
            refine hK.out _ _ trivial (fun hHeld => ?_)
            clear hK K
            try simp only [aput]
            refine wpAnyH_ready (rs := [10]) (by kernel_rfl) (by simp) ?_
            refine (AllReadyH.cons (o := ⟨some 53, .fieldAddr 86 (.tmp 52) 1, 0, "walker.go:28", #[⟨9, .data⟩, ⟨0, .phase⟩, ⟨1, .phase⟩, ⟨2, .phase⟩, ⟨3, .phase⟩, ⟨4, .phase⟩, ⟨5, .phase⟩, ⟨6, .phase⟩, ⟨7, .phase⟩, ⟨8, .phase⟩], none⟩) rfl (fun K hK => ?_) AllReadyH.nil)
            go_simp
            refine hK.out _ _ trivial (fun hHeld => ?_)
            clear hK K
            try simp only [aput]
            refine wpAnyH_ready (rs := [11]) (by kernel_rfl) (by simp) ?_
            refine (AllReadyH.cons (o := ⟨some 54, .fieldAddr 54 (.tmp 53) 1, 0, "walker.go:28", #[⟨10, .data⟩, ⟨0, .phase⟩, ⟨1, .phase⟩, ⟨2, .phase⟩, ⟨3, .phase⟩, ⟨4, .phase⟩, ⟨5, .phase⟩, ⟨6, .phase⟩, ⟨7, .phase⟩, ⟨8, .phase⟩], none⟩) rfl (fun K hK => ?_) AllReadyH.nil)
            go_simp
            refine hK.out _ _ trivial (fun hHeld => ?_)
            clear hK K
            try simp only [aput]
            refine wpAnyH_ready (rs := [12]) (by kernel_rfl) (by simp) ?_
            refine (AllReadyH.cons (o := ⟨none, .store 52 (.tmp 54) (.tmp 51), 0, "walker.go:28", #[⟨11, .data⟩, ⟨8, .data⟩, ⟨8, .chain⟩, ⟨0, .phase⟩, ⟨1, .phase⟩, ⟨2, .phase⟩, ⟨3, .phase⟩, ⟨4, .phase⟩, ⟨5, .phase⟩, ⟨6, .phase⟩, ⟨7, .phase⟩, ⟨8, .phase⟩], none⟩) rfl (fun K hK => ?_) AllReadyH.nil)
            go_simp
            refine hK.out _ _ trivial (fun hHeld => ?_)
            clear hK K
            try simp only [aput]
            refine wpAnyH_done (by kernel_rfl) ?_ _
            go_wp2_with fail
            refine ⟨⟨q + 1, va2, vn2, vc2, by omega, by go_num, by rw [List.replicate_succ']; exact HFIN.out.1, HBN.out.trans HFIN.out.2⟩, by simp [intOf]; omega⟩
          · go_simp
            refine hK.out _ _ trivial (fun hHeld => ?_)
            clear hK K
            try simp only [aput]
            refine wpAnyH_ready (rs := [3, 6]) (by kernel_rfl) (by simp) ?_
            refine (AllReadyH.cons (o := ⟨some 46, .load 52 (.tmp 45), 52, "walker.go:28", #[⟨2, .data⟩], none⟩) rfl (fun K hK => ?_) (AllReadyH.cons (o := { dst := some 49, op := Go.Op.call { callee := Go.Callee.value (Go.Operand.func 73), args := #[Go.Operand.tmp 48], argTypes := #[86] }, type := 62, pos := "walker.go:28", after := #[⟨5, .data⟩], guard := none }) rfl (fun K hK => ?_) AllReadyH.nil))
            · go_simp
              refine hK.out _ _ trivial (fun hHeld => ?_)
              clear hK K
              try simp only [aput]
              refine wpAnyH_ready (rs := [6]) (by kernel_rfl) (by simp) ?_
              refine (AllReadyH.cons (o := { dst := some 49, op := Go.Op.call { callee := Go.Callee.value (Go.Operand.func 73), args := #[Go.Operand.tmp 48], argTypes := #[86] }, type := 62, pos := "walker.go:28", after := #[⟨5, .data⟩], guard := none }) rfl (fun K hK => ?_) AllReadyH.nil)
              go_simp
              refine (KB1.out).mono ?_
              rintro e W3 ⟨vj, rfl, hfr, hb3⟩
              have hT3 := levT_fresh hfr (botL_len n)
              obtain ⟨a1, a2, a3, a4, a5, a6, hvj⟩ : ∃ a1 a2 a3 a4 a5 a6, vj = .agg #[.slice a1 a2 a3, .slice a4 a5 a6] := by
                obtain ⟨x, y, e, -⟩ := levAt_fresh hfr
                subst e
                obtain ⟨z1, z2, z3, z4, z5, z6, rfl, rfl⟩ := lev_slices (levAt_fresh hfr)
                exact ⟨_, _, _, _, _, _, rfl⟩
              subst hvj
              have hb3' := over_trans ((Below.refl _ wr).drew) hb3
              have hL3 := HL.out.over h1 hb3'
              have hB3 := HBX.out.trans (hb3'.mono (HSZ.out _ HBX.out))
              have x9 := hL3.row 9 _ rfl
              have hbN := (Below.refl _ W3).alloc (Nat.le_refl _) (.cells #[.slice a1 a2 a3, .slice a4 a5 a6] 62)
              have hLN := hL3.over h1 hbN
              have hN := RowAt.new [.slice a1 a2 a3, .slice a4 a5 a6] 62 W3
              obtain ⟨us, hous, helu⟩ := hLN.fs
              have hTN := hT3.over h1 hbN
              have hBN := hB3.trans (hbN.mono (HSZ.out _ hB3))
              have y9 := hLN.row 9 _ rfl
              have z9 := hLN.fz 9
              have hBW : (w.heap.size + 1 + 1) ≤ (W3.alloc (.cells #[.slice a1 a2 a3, .slice a4 a5 a6] 62)).heap.size := HSZ.out _ hBN
              obtain ⟨v2, w2, hrun, hown2, hgr2, -, hat⟩ := run_append_own_at (P := Try.prog) (w := W3.alloc (.cells #[.slice a1 a2 a3, .slice a4 a5 a6] 62)) (w.heap.size + 1 + 1) 52 52 62 i0 (.agg #[.slice none 0 0, .slice none 0 0]) 2 48 Try.underlying52 hi hz0 hz1 hz2 rfl (by decide) _ _ _ hous ⟨W3.heap.size, 0, none⟩ 1 1 [.slice a1 a2 a3, .slice a4 a5 a6] rfl (fun jj u hu => by rw [Addr.add_lit, Nat.zero_add]; exact hN jj u hu) (by simp [Value.oneCell']) (by unfold maxLen; simp; omega) (by simp; omega) hBW
              obtain ⟨va2, vn2, vc2, rfl⟩ := own_form hown2
              have hfin := LeastI.addF h1 rfl hLN hous helu hTN hown2 hgr2 hat
              have d2 := hgr2.cell y9 (fun hx => hLN.ap2.2 hx.symm)
              have f2 : w2.frozen? ⟨w1.heap.size, 9, none⟩ = false := (World.frozen?_of_block (a := ⟨w1.heap.size, 9, none⟩) (hgr2.block w1.heap.size hLN.lo.2 (fun hx => hLN.ap2.2 hx.symm))).trans z9
              have HFIN := hide hfin
              have HBN := hide hBN
              clear hfin hown2 hgr2 hat hous helu hTN hN hL3 hB3 hb3 hb3' hfr hT3 hbN hLN hBN z9
              go_simp
              refine hK.out _ _ trivial (fun hHeld => ?_)
              clear hK K
              try simp only [aput]
              refine wpAnyH_ready (rs := [7]) (by kernel_rfl) (by simp) ?_
              refine (AllReadyH.cons (o := ⟨some 50, .buildSlice 52 1 #[(0, .tmp 49)], 52, "walker.go:28", #[⟨6, .data⟩], none⟩) rfl (fun K hK => ?_) AllReadyH.nil)
              go_simp
              refine hK.out _ _ trivial (fun hHeld => ?_)
              clear hK K
              try simp only [aput]
              refine wpAnyH_ready (rs := [8]) (by kernel_rfl) (by simp) ?_
              refine (AllReadyH.cons (o := { dst := some 51, op := Go.Op.call { callee := Go.Callee.builtin Go.Builtin.append, args := #[Go.Operand.tmp 46, Go.Operand.tmp 50], argTypes := #[52, 52] }, type := 52, pos := "walker.go:28", after := #[⟨3, .data⟩, ⟨7, .data⟩, ⟨6, .chain⟩], guard := none }) rfl (fun K hK => ?_) AllReadyH.nil)
              refine step_appR rfl _ _ _ rfl _ _ _ _ rfl rfl hrun ?_
              refine hK.out _ _ trivial (fun hHeld => ?_)
              clear hK K
              try simp only [aput]
              refine wpAnyH_ready (rs := [9]) (by kernel_rfl) (by simp) ?_
              refine (AllReadyH.cons (o := ⟨some 52, .fieldAddr 88 (.tmp 3) 0, 0, "walker.go:28", #[⟨0, .phase⟩, ⟨1, .phase⟩, ⟨2, .phase⟩, ⟨3, .phase⟩, ⟨4, .phase⟩, ⟨5, .phase⟩, ⟨6, .phase⟩, ⟨7, .phase⟩, ⟨8, .phase⟩], none⟩) rfl (fun K hK => ?_) AllReadyH.nil)
              go_simp
              refine hK.out _ _ trivial (fun hHeld => ?_)
              clear hK K
              try simp only [aput]
              refine wpAnyH_ready (rs := [10]) (by kernel_rfl) (by simp) ?_
              refine (AllReadyH.cons (o := ⟨some 53, .fieldAddr 86 (.tmp 52) 1, 0, "walker.go:28", #[⟨9, .data⟩, ⟨0, .phase⟩, ⟨1, .phase⟩, ⟨2, .phase⟩, ⟨3, .phase⟩, ⟨4, .phase⟩, ⟨5, .phase⟩, ⟨6, .phase⟩, ⟨7, .phase⟩, ⟨8, .phase⟩], none⟩) rfl (fun K hK => ?_) AllReadyH.nil)
              go_simp
              refine hK.out _ _ trivial (fun hHeld => ?_)
              clear hK K
              try simp only [aput]
              refine wpAnyH_ready (rs := [11]) (by kernel_rfl) (by simp) ?_
              refine (AllReadyH.cons (o := ⟨some 54, .fieldAddr 54 (.tmp 53) 1, 0, "walker.go:28", #[⟨10, .data⟩, ⟨0, .phase⟩, ⟨1, .phase⟩, ⟨2, .phase⟩, ⟨3, .phase⟩, ⟨4, .phase⟩, ⟨5, .phase⟩, ⟨6, .phase⟩, ⟨7, .phase⟩, ⟨8, .phase⟩], none⟩) rfl (fun K hK => ?_) AllReadyH.nil)
              go_simp
              refine hK.out _ _ trivial (fun hHeld => ?_)
              clear hK K
              try simp only [aput]
              refine wpAnyH_ready (rs := [12]) (by kernel_rfl) (by simp) ?_
              refine (AllReadyH.cons (o := ⟨none, .store 52 (.tmp 54) (.tmp 51), 0, "walker.go:28", #[⟨11, .data⟩, ⟨8, .data⟩, ⟨8, .chain⟩, ⟨0, .phase⟩, ⟨1, .phase⟩, ⟨2, .phase⟩, ⟨3, .phase⟩, ⟨4, .phase⟩, ⟨5, .phase⟩, ⟨6, .phase⟩, ⟨7, .phase⟩, ⟨8, .phase⟩], none⟩) rfl (fun K hK => ?_) AllReadyH.nil)
              go_simp
              refine hK.out _ _ trivial (fun hHeld => ?_)
              clear hK K
              try simp only [aput]
              refine wpAnyH_done (by kernel_rfl) ?_ _
              go_wp2_with fail
              refine ⟨⟨q + 1, va2, vn2, vc2, by omega, by go_num, by rw [List.replicate_succ']; exact HFIN.out.1, HBN.out.trans HFIN.out.2⟩, by simp [intOf]; omega⟩
            · go_simp
              refine (KB1.out).mono ?_
              rintro e W3 ⟨vj, rfl, hfr, hb3⟩
              have hT3 := levT_fresh hfr (botL_len n)
              obtain ⟨a1, a2, a3, a4, a5, a6, hvj⟩ : ∃ a1 a2 a3 a4 a5 a6, vj = .agg #[.slice a1 a2 a3, .slice a4 a5 a6] := by
                obtain ⟨x, y, e, -⟩ := levAt_fresh hfr
                subst e
                obtain ⟨z1, z2, z3, z4, z5, z6, rfl, rfl⟩ := lev_slices (levAt_fresh hfr)
                exact ⟨_, _, _, _, _, _, rfl⟩
              subst hvj
              have hb3' := over_trans ((Below.refl _ wr).drew) hb3
              have hL3 := HL.out.over h1 hb3'
              have hB3 := HBX.out.trans (hb3'.mono (HSZ.out _ HBX.out))
              have x9 := hL3.row 9 _ rfl
              have hbN := (Below.refl _ W3).alloc (Nat.le_refl _) (.cells #[.slice a1 a2 a3, .slice a4 a5 a6] 62)
              have hLN := hL3.over h1 hbN
              have hN := RowAt.new [.slice a1 a2 a3, .slice a4 a5 a6] 62 W3
              obtain ⟨us, hous, helu⟩ := hLN.fs
              have hTN := hT3.over h1 hbN
              have hBN := hB3.trans (hbN.mono (HSZ.out _ hB3))
              have y9 := hLN.row 9 _ rfl
              have z9 := hLN.fz 9
              have hBW : (w.heap.size + 1 + 1) ≤ (W3.alloc (.cells #[.slice a1 a2 a3, .slice a4 a5 a6] 62)).heap.size := HSZ.out _ hBN
              obtain ⟨v2, w2, hrun, hown2, hgr2, -, hat⟩ := run_append_own_at (P := Try.prog) (w := W3.alloc (.cells #[.slice a1 a2 a3, .slice a4 a5 a6] 62)) (w.heap.size + 1 + 1) 52 52 62 i0 (.agg #[.slice none 0 0, .slice none 0 0]) 2 48 Try.underlying52 hi hz0 hz1 hz2 rfl (by decide) _ _ _ hous ⟨W3.heap.size, 0, none⟩ 1 1 [.slice a1 a2 a3, .slice a4 a5 a6] rfl (fun jj u hu => by rw [Addr.add_lit, Nat.zero_add]; exact hN jj u hu) (by simp [Value.oneCell']) (by unfold maxLen; simp; omega) (by simp; omega) hBW
              obtain ⟨va2, vn2, vc2, rfl⟩ := own_form hown2
              have hfin := LeastI.addF h1 rfl hLN hous helu hTN hown2 hgr2 hat
              have d2 := hgr2.cell y9 (fun hx => hLN.ap2.2 hx.symm)
              have f2 : w2.frozen? ⟨w1.heap.size, 9, none⟩ = false := (World.frozen?_of_block (a := ⟨w1.heap.size, 9, none⟩) (hgr2.block w1.heap.size hLN.lo.2 (fun hx => hLN.ap2.2 hx.symm))).trans z9
              have HFIN := hide hfin
              have HBN := hide hBN
              clear hfin hown2 hgr2 hat hous helu hTN hN hL3 hB3 hb3 hb3' hfr hT3 hbN hLN hBN z9
              go_simp
              refine hK.out _ _ trivial (fun hHeld => ?_)
              clear hK K
              try simp only [aput]
              refine wpAnyH_ready (rs := [3, 7]) (by kernel_rfl) (by simp) ?_
              refine (AllReadyH.cons (o := ⟨some 46, .load 52 (.tmp 45), 52, "walker.go:28", #[⟨2, .data⟩], none⟩) rfl (fun K hK => ?_) (AllReadyH.cons (o := ⟨some 50, .buildSlice 52 1 #[(0, .tmp 49)], 52, "walker.go:28", #[⟨6, .data⟩], none⟩) rfl (fun K hK => ?_) AllReadyH.nil))
              · go_simp
                refine hK.out _ _ trivial (fun hHeld => ?_)
                clear hK K
                try simp only [aput]
                refine wpAnyH_ready (rs := [7]) (by kernel_rfl) (by simp) ?_
                refine (AllReadyH.cons (o := ⟨some 50, .buildSlice 52 1 #[(0, .tmp 49)], 52, "walker.go:28", #[⟨6, .data⟩], none⟩) rfl (fun K hK => ?_) AllReadyH.nil)
                go_simp
                refine hK.out _ _ trivial (fun hHeld => ?_)
                clear hK K
                try simp only [aput]
                refine wpAnyH_ready (rs := [8]) (by kernel_rfl) (by simp) ?_
                refine (AllReadyH.cons (o := { dst := some 51, op := Go.Op.call { callee := Go.Callee.builtin Go.Builtin.append, args := #[Go.Operand.tmp 46, Go.Operand.tmp 50], argTypes := #[52, 52] }, type := 52, pos := "walker.go:28", after := #[⟨3, .data⟩, ⟨7, .data⟩, ⟨6, .chain⟩], guard := none }) rfl (fun K hK => ?_) AllReadyH.nil)
                refine step_appR rfl _ _ _ rfl _ _ _ _ rfl rfl hrun ?_
                refine hK.out _ _ trivial (fun hHeld => ?_)
                clear hK K
                try simp only [aput]
                refine wpAnyH_ready (rs := [9]) (by kernel_rfl) (by simp) ?_
                refine (AllReadyH.cons (o := ⟨some 52, .fieldAddr 88 (.tmp 3) 0, 0, "walker.go:28", #[⟨0, .phase⟩, ⟨1, .phase⟩, ⟨2, .phase⟩, ⟨3, .phase⟩, ⟨4, .phase⟩, ⟨5, .phase⟩, ⟨6, .phase⟩, ⟨7, .phase⟩, ⟨8, .phase⟩], none⟩) rfl (fun K hK => ?_) AllReadyH.nil)
                go_simp
                refine hK.out _ _ trivial (fun hHeld => ?_)
                clear hK K
                try simp only [aput]
                refine wpAnyH_ready (rs := [10]) (by kernel_rfl) (by simp) ?_
                refine (AllReadyH.cons (o := ⟨some 53, .fieldAddr 86 (.tmp 52) 1, 0, "walker.go:28", #[⟨9, .data⟩, ⟨0, .phase⟩, ⟨1, .phase⟩, ⟨2, .phase⟩, ⟨3, .phase⟩, ⟨4, .phase⟩, ⟨5, .phase⟩, ⟨6, .phase⟩, ⟨7, .phase⟩, ⟨8, .phase⟩], none⟩) rfl (fun K hK => ?_) AllReadyH.nil)
                go_simp
                refine hK.out _ _ trivial (fun hHeld => ?_)
                clear hK K
                try simp only [aput]
                refine wpAnyH_ready (rs := [11]) (by kernel_rfl) (by simp) ?_
                refine (AllReadyH.cons (o := ⟨some 54, .fieldAddr 54 (.tmp 53) 1, 0, "walker.go:28", #[⟨10, .data⟩, ⟨0, .phase⟩, ⟨1, .phase⟩, ⟨2, .phase⟩, ⟨3, .phase⟩, ⟨4, .phase⟩, ⟨5, .phase⟩, ⟨6, .phase⟩, ⟨7, .phase⟩, ⟨8, .phase⟩], none⟩) rfl (fun K hK => ?_) AllReadyH.nil)
                go_simp
                refine hK.out _ _ trivial (fun hHeld => ?_)
                clear hK K
                try simp only [aput]
                refine wpAnyH_ready (rs := [12]) (by kernel_rfl) (by simp) ?_
                refine (AllReadyH.cons (o := ⟨none, .store 52 (.tmp 54) (.tmp 51), 0, "walker.go:28", #[⟨11, .data⟩, ⟨8, .data⟩, ⟨8, .chain⟩, ⟨0, .phase⟩, ⟨1, .phase⟩, ⟨2, .phase⟩, ⟨3, .phase⟩, ⟨4, .phase⟩, ⟨5, .phase⟩, ⟨6, .phase⟩, ⟨7, .phase⟩, ⟨8, .phase⟩], none⟩) rfl (fun K hK => ?_) AllReadyH.nil)
                go_simp
                refine hK.out _ _ trivial (fun hHeld => ?_)
                clear hK K
                try simp only [aput]
                refine wpAnyH_done (by kernel_rfl) ?_ _
                go_wp2_with fail
                refine ⟨⟨q + 1, va2, vn2, vc2, by omega, by go_num, by rw [List.replicate_succ']; exact HFIN.out.1, HBN.out.trans HFIN.out.2⟩, by simp [intOf]; omega⟩
              · go_simp
                refine hK.out _ _ trivial (fun hHeld => ?_)
                clear hK K
                try simp only [aput]
                refine wpAnyH_ready (rs := [3]) (by kernel_rfl) (by simp) ?_
                refine (AllReadyH.cons (o := ⟨some 46, .load 52 (.tmp 45), 52, "walker.go:28", #[⟨2, .data⟩], none⟩) rfl (fun K hK => ?_) AllReadyH.nil)
                go_simp
                refine hK.out _ _ trivial (fun hHeld => ?_)
                clear hK K
                try simp only [aput]
                refine wpAnyH_ready (rs := [8]) (by kernel_rfl) (by simp) ?_
                refine (AllReadyH.cons (o := { dst := some 51, op := Go.Op.call { callee := Go.Callee.builtin Go.Builtin.append, args := #[Go.Operand.tmp 46, Go.Operand.tmp 50], argTypes := #[52, 52] }, type := 52, pos := "walker.go:28", after := #[⟨3, .data⟩, ⟨7, .data⟩, ⟨6, .chain⟩], guard := none }) rfl (fun K hK => ?_) AllReadyH.nil)
                refine step_appR rfl _ _ _ rfl _ _ _ _ rfl rfl hrun ?_
                refine hK.out _ _ trivial (fun hHeld => ?_)
                clear hK K
                try simp only [aput]
                refine wpAnyH_ready (rs := [9]) (by kernel_rfl) (by simp) ?_
                refine (AllReadyH.cons (o := ⟨some 52, .fieldAddr 88 (.tmp 3) 0, 0, "walker.go:28", #[⟨0, .phase⟩, ⟨1, .phase⟩, ⟨2, .phase⟩, ⟨3, .phase⟩, ⟨4, .phase⟩, ⟨5, .phase⟩, ⟨6, .phase⟩, ⟨7, .phase⟩, ⟨8, .phase⟩], none⟩) rfl (fun K hK => ?_) AllReadyH.nil)
                go_simp
                refine hK.out _ _ trivial (fun hHeld => ?_)
                clear hK K
                try simp only [aput]
                refine wpAnyH_ready (rs := [10]) (by kernel_rfl) (by simp) ?_
                refine (AllReadyH.cons (o := ⟨some 53, .fieldAddr 86 (.tmp 52) 1, 0, "walker.go:28", #[⟨9, .data⟩, ⟨0, .phase⟩, ⟨1, .phase⟩, ⟨2, .phase⟩, ⟨3, .phase⟩, ⟨4, .phase⟩, ⟨5, .phase⟩, ⟨6, .phase⟩, ⟨7, .phase⟩, ⟨8, .phase⟩], none⟩) rfl (fun K hK => ?_) AllReadyH.nil)
                go_simp
                refine hK.out _ _ trivial (fun hHeld => ?_)
                clear hK K
                try simp only [aput]
                refine wpAnyH_ready (rs := [11]) (by kernel_rfl) (by simp) ?_
                refine (AllReadyH.cons (o := ⟨some 54, .fieldAddr 54 (.tmp 53) 1, 0, "walker.go:28", #[⟨10, .data⟩, ⟨0, .phase⟩, ⟨1, .phase⟩, ⟨2, .phase⟩, ⟨3, .phase⟩, ⟨4, .phase⟩, ⟨5, .phase⟩, ⟨6, .phase⟩, ⟨7, .phase⟩, ⟨8, .phase⟩], none⟩) rfl (fun K hK => ?_) AllReadyH.nil)
                go_simp
                refine hK.out _ _ trivial (fun hHeld => ?_)
                clear hK K
                try simp only [aput]
                refine wpAnyH_ready (rs := [12]) (by kernel_rfl) (by simp) ?_
                refine (AllReadyH.cons (o := ⟨none, .store 52 (.tmp 54) (.tmp 51), 0, "walker.go:28", #[⟨11, .data⟩, ⟨8, .data⟩, ⟨8, .chain⟩, ⟨0, .phase⟩, ⟨1, .phase⟩, ⟨2, .phase⟩, ⟨3, .phase⟩, ⟨4, .phase⟩, ⟨5, .phase⟩, ⟨6, .phase⟩, ⟨7, .phase⟩, ⟨8, .phase⟩], none⟩) rfl (fun K hK => ?_) AllReadyH.nil)
                go_simp
                refine hK.out _ _ trivial (fun hHeld => ?_)
                clear hK K
                try simp only [aput]
                refine wpAnyH_done (by kernel_rfl) ?_ _
                go_wp2_with fail
                refine ⟨⟨q + 1, va2, vn2, vc2, by omega, by go_num, by rw [List.replicate_succ']; exact HFIN.out.1, HBN.out.trans HFIN.out.2⟩, by simp [intOf]; omega⟩
        · have hq2 : fn = q := by omega
          subst hq2
          have nbw : NotB wr (w.heap.size + 1) := fun cur fr he => NB1.out cur fr ((HBX.out.block (w.heap.size + 1) (by omega)) ▸ he)
          have hzr : RowAt [.int .i64 0, .slice none 0 0, .slice none 0 0, .slice none 0 0, .slice none 0 0, .slice none 0 0, .slice none 0 0, .slice none 0 0, .slice none 0 0, .slice none 0 0] wr (w.heap.size + 1) := fun i u hu => (HBX.out.cell (p := ⟨w.heap.size + 1, i, none⟩) (by simp)).trans (ZR.out i u hu)
          have hzf : ∀ j, wr.frozen? ⟨w.heap.size + 1, j, none⟩ = false := fun j => (HBX.out.frozen (p := ⟨w.heap.size + 1, j, none⟩) (by simp)).trans (ZF.out j)
          have z0 := hzr 0 _ rfl
          have z1 := hzr 1 _ rfl
          have z2 := hzr 2 _ rfl
          have z3 := hzr 3 _ rfl
          have z4 := hzr 4 _ rfl
          have z5 := hzr 5 _ rfl
          have z6 := hzr 6 _ rfl
          have z7 := hzr 7 _ rfl
          have z8 := hzr 8 _ rfl
          have z9 := hzr 9 _ rfl
          have f0 := hzf 0
          have f1 := hzf 1
          have f2 := hzf 2
          have f3 := hzf 3
          have f4 := hzf 4
          have f5 := hzf 5
          have f6 := hzf 6
          have f7 := hzf 7
          have f8 := hzf 8
          have f9 := hzf 9
          have HNW := hide nbw
          clear nbw hzr hzf
          go_wp2_with fail
          refine bodyPost_ret (v := .agg #[.int .i64 (n : Int), .slice ga gn gc, .slice sa sn sc, .slice ya yn yc, .slice oa on oc, .slice va vn vc, .slice fa fn fc, .slice ba bn bc, .slice la ln lc, .slice ka kn2 kc]) (by simp [results, Try.results37, go_sem, z0, z1, z2, z3, z4, z5, z6, z7, z8, z9]) rfl ⟨la, ln, lc, ka, kn2, kc, rfl, ?_, ?_, HL.out.ap, ?_⟩
          · refine OwnLevs.low (B := w.heap.size + 1 + 1) ?_ (by omega)
            exact OwnLevs.setN h1 (by omega) [.int .i64 (n : Int), .slice ga gn gc, .slice sa sn sc, .slice ya yn yc, .slice oa on oc, .slice va vn vc, .slice fa fn fc, .slice ba bn bc, .slice la ln lc, .slice ka kn2 kc] 0 wr HL.out.vs HNW.out
          · refine OwnLevs.low (B := w.heap.size + 1 + 1) ?_ (by omega)
            exact OwnLevs.setN h1 (by omega) [.int .i64 (n : Int), .slice ga gn gc, .slice sa sn sc, .slice ya yn yc, .slice oa on oc, .slice va vn vc, .slice fa fn fc, .slice ba bn bc, .slice la ln lc, .slice ka kn2 kc] 0 wr HL.out.fs HNW.out
          · exact below_setN (by omega) [.int .i64 (n : Int), .slice ga gn gc, .slice sa sn sc, .slice ya yn yc, .slice oa on oc, .slice va vn vc, .slice fa fn fc, .slice ba bn bc, .slice la ln lc, .slice ka kn2 kc] 0 wr (HB0.out.trans (HBX.out.mono (by omega)))
end Go.Proofs.Ytcbbjjenkommeaa.Ex
