/- Infer of any program. -/
import Derived.Test.YtcbbjjenkommeaaM15
import Derived.Deep.RegionHeld2
namespace Go.Proofs.Ytcbbjjenkommeaa.Ex
open Go.RowKit
set_option linter.unusedVariables false
theorem own_none {n B : Nat} {W : World} {a : Option Addr} {ln lc : Nat} {Ls : List Lev} (h : OwnLevs n B W (.slice a ln lc) Ls) : a = none → lc = 0 := by
  obtain ⟨us, ho, -⟩ := h
  intro e
  rcases ho.2 with ⟨h, -⟩ | ⟨g, cap, cur, h, -⟩
  · injection h with h1 h2 h3
  · injection h with h1 h2 h3
    rw [e] at h1
    cases h1
theorem infStart (c : WC) {w1 w2 : World} {Ls Fs : List Lev} {nv nf : Nat} (n1 : 1 ≤ c.n) (hv : OwnLevs c.n w1.heap.size w2 (.slice c.la c.ln c.lc) Ls) (hk : OwnLevs c.n w1.heap.size w2 (.slice c.ka c.kn c.kc) Fs) (hap : Value.ownBlock (.slice c.la c.ln c.lc) = none ∨ Value.ownBlock (.slice c.la c.ln c.lc) ≠ Value.ownBlock (.slice c.ka c.kn c.kc)) (hb2 : Below w1.heap.size w1 w2) (hlv : Ls.length = nv) (hlf : Fs.length = nf) :
    InfC c w1 w2.heap.size (w2.heap.size + 1) ∧ InfI c w1 nv nf w2.heap.size (w2.heap.size + 1) ⟨Ls, Fs, true⟩ ((w2.alloc (.cells c.cs.toArray 88)).alloc (.cells #[.bool true] 4)) := by
  have e1 : ∀ a, c.la = some a → a.off = 0 ∧ a.spot = none ∧ w1.heap.size ≤ a.block ∧ a.block < w2.heap.size ∧ (∀ j, w2.frozen? ⟨a.block, j, none⟩ = false) ∧ NotB w2 a.block := fun a e => by
    rw [e] at hv
    obtain ⟨o1, o2, o3, o4, o5⟩ := ownLevs_at hv
    obtain ⟨-, cur, fr, hh⟩ := ownLevs_ne hv a.block (by simp [Value.ownBlock])
    exact ⟨o1, o2, o3, o4, o5, fun cur' fr' h' => by rw [hh] at h'; injection h' with h'; injection h' with h1 h2; exact absurd h2 (by decide)⟩
  have e2 : ∀ a, c.ka = some a → a.off = 0 ∧ a.spot = none ∧ w1.heap.size ≤ a.block ∧ a.block < w2.heap.size ∧ (∀ j, w2.frozen? ⟨a.block, j, none⟩ = false) ∧ NotB w2 a.block := fun a e => by
    rw [e] at hk
    obtain ⟨o1, o2, o3, o4, o5⟩ := ownLevs_at hk
    obtain ⟨-, cur, fr, hh⟩ := ownLevs_ne hk a.block (by simp [Value.ownBlock])
    exact ⟨o1, o2, o3, o4, o5, fun cur' fr' h' => by rw [hh] at h'; injection h' with h'; injection h' with h1 h2; exact absurd h2 (by decide)⟩
  have hx : ∀ k, XI c (w2.heap.size + 1) w2 k → NotB w2 k ∨ w2.heap.size ≤ k := fun k h => by
    rcases h with ⟨a, e, rfl⟩ | ⟨a, e, rfl⟩ | rfl
    · exact Or.inl (e1 a e).2.2.2.2.2
    · exact Or.inl (e2 a e).2.2.2.2.2
    · exact Or.inr (by omega)
  have hb : Below w2.heap.size w2 ((w2.alloc (.cells c.cs.toArray 88)).alloc (.cells #[.bool true] 4)) := ((Below.refl _ w2).alloc (Nat.le_refl _) _).alloc (by simp) _
  refine ⟨⟨fun a e => ?_, fun a e => ?_, fun a b ea eb => ?_, ?_, by omega⟩, ⟨over_trans hb2 hb, (ownLevs_levsO n1 hv hx).over (xiOk c _) hb, (ownLevs_levsO n1 hk hx).over (xiOk c _) hb, hlv, hlf, ?_, ?_, ?_, fun a e => ?_, fun a e => ?_⟩⟩
  · obtain ⟨o1, o2, o3, o4, -⟩ := e1 a e; exact ⟨o1, o2, o3, by omega, by omega⟩
  · obtain ⟨o1, o2, o3, o4, -⟩ := e2 a e; exact ⟨o1, o2, o3, by omega, by omega⟩
  · rw [ea, eb] at hap
    rcases hap with h | h
    · simp [Value.ownBlock] at h
    · intro e; apply h; simp [Value.ownBlock, e]
  · have := hb2.size; omega
  · simp [go_sem]
  · simp [go_sem]
  · exact (RowAt.new c.cs 88 w2).over ((Below.refl _ _).alloc (Nat.le_refl _) _)
  · obtain ⟨o1, o2, o3, o4, o5, -⟩ := e1 a e
    exact ⟨Nat.lt_of_lt_of_le o4 hb.size, fun j => ((bcell hb).2 _ _ o4).trans (o5 j)⟩
  · obtain ⟨o1, o2, o3, o4, o5, -⟩ := e2 a e
    exact ⟨Nat.lt_of_lt_of_le o4 hb.size, fun j => ((bcell hb).2 _ _ o4).trans (o5 j)⟩
/-- after so many rounds. -/
def InfP (c : WC) (K kf : Nat) (gs : List (Int × Int)) (vs : List (Bool × Lab)) (ls : List Lab) (fs : List FnD) (l : List D) (w0 : World) (bw : Nat) (x : Value × World) (N : Nat) : Prop :=
  ∃ bm k, x.1 = .pointer (some ⟨bm, 0, none⟩) ∧ InfC c w0 bw bm ∧ InfI c w0 vs.length fs.length bw bm (iterI c.n K kf (vs.map Prod.fst) (ls.map (levOf (gnOf gs) c.n)) fs l (init0 gs c.n vs fs.length) k) x.2 ∧ bw < x.2.heap.size ∧
    N = 2 * bitsI c.n (iterI c.n K kf (vs.map Prod.fst) (ls.map (levOf (gnOf gs) c.n)) fs l (init0 gs c.n vs fs.length) k) + (if (iterI c.n K kf (vs.map Prod.fst) (ls.map (levOf (gnOf gs) c.n)) fs l (init0 gs c.n vs fs.length) k).more = true then 1 else 0) ∧
    ∀ j, j < k → (iterI c.n K kf (vs.map Prod.fst) (ls.map (levOf (gnOf gs) c.n)) fs l (init0 gs c.n vs fs.length) j).more = true
/-- what Infer says. -/
def InfSaid (K kf : Nat) (m : Int) (vn yn on : Nat) (gs : List (Int × Int)) (sp : List Int) (ls ms : List Lab) (vs : List (Bool × Lab)) (fs : List FnD) (l : List D) (P : Int → Prop) (w : World) (e : Ending) (w' : World) : Prop :=
  ∃ why : Int, P why ∧ Below w.heap.size w w' ∧ ((why ≠ 0 ∧ e = .returned (.tuple #[.agg #[.slice none 0 0, .slice none 0 0], .int .i64 why])) ∨
    (why = 0 ∧ okP K kf m vn yn on gs sp ls ms vs fs l ∧ ∃ (n : Nat) (st : ISt) (la : Option Addr) (ln lc : Nat) (ka : Option Addr) (kn kc : Nat), m = n ∧ e = .returned (.tuple #[.agg #[.slice la ln lc, .slice ka kn kc], .int .i64 0]) ∧ IsLevs w' (.slice la ln lc) st.vs ∧ IsLevs w' (.slice ka kn kc) st.fs ∧ (∀ x ∈ st.vs, x.len n) ∧ (∀ x ∈ st.fs, x.len n) ∧ st.vs.length = vn ∧ st.fs.length = fs.length ∧ Inferred n K kf gs vs ls fs l st ∧ (la = none → lc = 0) ∧ (ka = none → kc = 0)))

set_option maxHeartbeats 2000000 in
set_option maxRecDepth 100000 in
theorem inferW1 (K kf n : Nat) (h1 : 1 ≤ n) (h6 : n ≤ 6) (ga : Option Addr) (gn gc : Nat) (sa : Option Addr) (sn sc : Nat) (ya : Option Addr) (yn yc : Nat) (oa : Option Addr) (on oc : Nat) (va : Option Addr) (vn vc : Nat) (fa : Option Addr) (fn fc : Nat) (ba : Option Addr) (bn bc : Nat) (gs : List (Int × Int)) (sp : List Int) (ls ms : List Lab) (vs : List (Bool × Lab)) (fs : List FnD) (l : List D) (w : World) (h : ProgAt K kf (n : Int) ga gn gc sa sn sc ya yn yc oa on oc va vn vc fa fn fc ba bn bc gs sp ls ms vs fs l w)
    (P : Int → Prop) (KS : ∀ W, Below w.heap.size w W → Calls Try.prog 36 #[.agg #[.int .i64 (n : Int), .slice ga gn gc, .slice sa sn sc, .slice ya yn yc, .slice oa on oc, .slice va vn vc, .slice fa fn fc, .slice ba bn bc]] W fun e w' => ∃ why : Int, e = .returned (.int .i64 why) ∧ P why ∧ Below W.heap.size W w') (hP : P 0 → okP K kf (n : Int) vn yn on gs sp ls ms vs fs l) :
    Calls Try.prog 15 #[.agg #[.int .i64 (n : Int), .slice ga gn gc, .slice sa sn sc, .slice ya yn yc, .slice oa on oc, .slice va vn vc, .slice fa fn fc, .slice ba bn bc]] w (InfSaid K kf (n : Int) vn yn on gs sp ls ms vs fs l P w) := by
  obtain rfl : vn = vs.length := by obtain ⟨-, a, c, he, -⟩ := h.vars; injection he
  obtain rfl : yn = ls.length := by obtain ⟨-, a, c, he, -⟩ := h.ins; injection he
  obtain rfl : fn = fs.length := by obtain ⟨-, a, c, he, -⟩ := h.funcs; injection he
  have hb0 : Below w.heap.size w ((w.alloc (.cells #[.int .i64 (n : Int), .slice ga gn gc, .slice sa sn sc, .slice ya ls.length yc, .slice oa on oc, .slice va vs.length vc, .slice fa fs.length fc, .slice ba bn bc] 41)).alloc (.cells #[.slice none 0 0, .slice none 0 0] 54)) := ((Below.refl _ w).alloc (Nat.le_refl _) _).alloc (by simp) _
  have K1 := hide (KS _ hb0)
  have KL := hide fun W (hW : Below w.heap.size w W) (hok : okP K kf (n : Int) vs.length ls.length on gs sp ls ms vs fs l) => leastW n h1 h6 ga gn gc sa sn sc ya ls.length yc oa on oc va vs.length vc fa fs.length fc ba bn bc gs vs W (isGrants_over h.grants hW) hok.chk (h.vars.over hW) hok.labs.2.1 hok.vars hok.funcs
  have rowP : RowAt [.int .i64 (n : Int), .slice ga gn gc, .slice sa sn sc, .slice ya ls.length yc, .slice oa on oc, .slice va vs.length vc, .slice fa fs.length fc, .slice ba bn bc] ((w.alloc (.cells #[.int .i64 (n : Int), .slice ga gn gc, .slice sa sn sc, .slice ya ls.length yc, .slice oa on oc, .slice va vs.length vc, .slice fa fs.length fc, .slice ba bn bc] 41)).alloc (.cells #[.slice none 0 0, .slice none 0 0] 54)) w.heap.size := (RowAt.new [.int .i64 (n : Int), .slice ga gn gc, .slice sa sn sc, .slice ya ls.length yc, .slice oa on oc, .slice va vs.length vc, .slice fa fs.length fc, .slice ba bn bc] 41 w).over ((Below.refl _ _).alloc (Nat.le_refl _) _)
  have heR : ((w.alloc (.cells #[.int .i64 (n : Int), .slice ga gn gc, .slice sa sn sc, .slice ya ls.length yc, .slice oa on oc, .slice va vs.length vc, .slice fa fs.length fc, .slice ba bn bc] 41)).alloc (.cells #[.slice none 0 0, .slice none 0 0] 54)).heap[w.heap.size + 1]? = some (.cells #[.slice none 0 0, .slice none 0 0] 54) := by
    have := heap_of_alloc (w.alloc (.cells #[.int .i64 (n : Int), .slice ga gn gc, .slice sa sn sc, .slice ya ls.length yc, .slice oa on oc, .slice va vs.length vc, .slice fa fs.length fc, .slice ba bn bc] 41)) (.cells #[.slice none 0 0, .slice none 0 0] 54)
    simpa using this
  have HP := hide hP
  have H := hide h
  obtain ⟨V0, hV0⟩ : ∃ q, q = ((w.alloc (.cells #[.int .i64 (n : Int), .slice ga gn gc, .slice sa sn sc, .slice ya ls.length yc, .slice oa on oc, .slice va vs.length vc, .slice fa fs.length fc, .slice ba bn bc] 41)).alloc (.cells #[.slice none 0 0, .slice none 0 0] 54)) := ⟨_, rfl⟩
  have hs0 : V0.heap.size = w.heap.size + 1 + 1 := by rw [hV0]; simp
  rw [← hV0] at hb0 rowP heR
  have HB0 := hide hb0
  have HRP := hide rowP
  have HER := hide heR
  have HS0 := hide hs0
  rw [hV0] at rowP
  have c0 := rowP 0 _ rfl
  have c1 := rowP 1 _ rfl
  have c2 := rowP 2 _ rfl
  have c3 := rowP 3 _ rfl
  have c4 := rowP 4 _ rfl
  have c5 := rowP 5 _ rfl
  have c6 := rowP 6 _ rfl
  have c7 := rowP 7 _ rfl
  clear hb0 rowP heR h hP hs0 KS
  go_enter Try.func15, Try.ntmps15
  go_wp2_with fail
  refine (K1.out).mono ?_
  rintro e w1 ⟨why, rfl, hPw, hb1⟩
  rw [← hV0] at hb1
  clear c0 c1 c2 c3 c4 c5 c6 c7 K1
  have hRP1 := HRP.out.over hb1
  have heR1 : w1.heap[w.heap.size + 1]? = some (.cells #[.slice none 0 0, .slice none 0 0] 54) := (hb1.block _ (by rw [HS0.out]; omega)).trans HER.out
  have HB1 := hide (over_trans HB0.out (by simpa using hb1))
  have hsz1 : w.heap.size + 1 + 1 ≤ w1.heap.size := by have := hb1.size; rw [HS0.out] at this; exact this
  have r0 : w1.cell? ⟨w.heap.size + 1, 0, none⟩ = some (.slice none 0 0) := by rw [Lib.cell_of_heap heR1]; rfl
  have r1 : w1.cell? ⟨w.heap.size + 1, 1, none⟩ = some (.slice none 0 0) := by rw [Lib.cell_of_heap heR1]; rfl
  have rz : ∀ j, w1.frozen? ⟨w.heap.size + 1, j, none⟩ = false := fun j => by simp [World.frozen?, heR1]
  have HR1 := hide heR1
  have HSZ1 := hide hsz1
  by_cases hz : why = 0
  · subst hz
    have hok := HP.out hPw
    have HOK := hide hok
    have HPW := hide hPw
    have KL1 := hide (KL.out w1 HB1.out hok)
    have c0 := hRP1 0 _ rfl
    have c1 := hRP1 1 _ rfl
    have c2 := hRP1 2 _ rfl
    have c3 := hRP1 3 _ rfl
    have c4 := hRP1 4 _ rfl
    have c5 := hRP1 5 _ rfl
    have c6 := hRP1 6 _ rfl
    have c7 := hRP1 7 _ rfl
    clear hok hPw hb1 hRP1 heR1 hV0 hsz1 KL HP
    go_wp2_with fail
    refine (KL1.out).mono ?_
    rintro e w2 ⟨la, ln, lc, ka, kn, kc, rfl, hv, hk, hap, hb2⟩
    have hS := infStart (⟨n, ga, gn, gc, sa, sn, sc, ya, ls.length, yc, oa, on, oc, va, vs.length, vc, fa, fs.length, fc, ba, bn, bc, la, ln, lc, ka, kn, kc⟩ : WC) h1 hv hk hap hb2 (nv := vs.length) (nf := fs.length) (by simp [initL]) (by simp)
    have HSt := hide hS
    have HNN := hide (And.intro (own_none hv) (own_none hk))
    have HB2 := hide hb2
    have hPr := H.out.over HB1.out
    have hok := HOK.out
    have KA : Hid (∀ (bm : Nat) (st : ISt) (W : World), InfC (⟨n, ga, gn, gc, sa, sn, sc, ya, ls.length, yc, oa, on, oc, va, vs.length, vc, fa, fs.length, fc, ba, bn, bc, la, ln, lc, ka, kn, kc⟩ : WC) w1 w2.heap.size bm → InfI (⟨n, ga, gn, gc, sa, sn, sc, ya, ls.length, yc, oa, on, oc, va, vs.length, vc, fa, fs.length, fc, ba, bn, bc, la, ln, lc, ka, kn, kc⟩ : WC) w1 vs.length fs.length w2.heap.size bm st W → Calls Try.prog 38 #[.agg #[.int .i64 (n : Int), .slice ga gn gc, .slice sa sn sc, .slice ya ls.length yc, .slice oa on oc, .slice va vs.length vc, .slice fa fs.length fc, .slice ba bn bc, .slice la ln lc, .slice ka kn kc], .func (.func 39) #[] #[.pointer (some ⟨w2.heap.size, 0, none⟩), .pointer (some ⟨bm, 0, none⟩)]] W fun e W' => e = .returned (.tuple #[]) ∧ InfI (⟨n, ga, gn, gc, sa, sn, sc, ya, ls.length, yc, oa, on, oc, va, vs.length, vc, fa, fs.length, fc, ba, bn, bc, la, ln, lc, ka, kn, kc⟩ : WC) w1 vs.length fs.length w2.heap.size bm (passI n K kf (vs.map Prod.fst) (ls.map (levOf (gnOf gs) n)) fs l st) W' ∧ FrW (XI (⟨n, ga, gn, gc, sa, sn, sc, ya, ls.length, yc, oa, on, oc, va, vs.length, vc, fa, fs.length, fc, ba, bn, bc, la, ln, lc, ka, kn, kc⟩ : WC) bm) W W') := fun bm st W hC hI =>
      askedW (winvI (c := (⟨n, ga, gn, gc, sa, sn, sc, ya, ls.length, yc, oa, on, oc, va, vs.length, vc, fa, fs.length, fc, ba, bn, bc, la, ln, lc, ka, kn, kc⟩ : WC)) h1 h6 hPr.grants hok.chk hok.vars hC) (flowI n) callInf (hide (flowInf (⟨n, ga, gn, gc, sa, sn, sc, ya, ls.length, yc, oa, on, oc, va, vs.length, vc, fa, fs.length, fc, ba, bn, bc, la, ln, lc, ka, kn, kc⟩ : WC) w1 vs.length w2.heap.size bm fs gs h1 hPr.grants hok.chk hC)) vs hPr.vars rfl ls hPr.ins (fun b hb => hok.labs.1 b (List.mem_append_left _ hb)) rfl hok.ins kf hPr.funcs hok.funcs hok.body l hPr.main hok.main hok.many st W hI
    have HBits : Hid (∀ st, BitsI n vs.length fs.length st (passI n K kf (vs.map Prod.fst) (ls.map (levOf (gnOf gs) n)) fs l st)) := fun st => pass_bits n K kf vs.length ls.length on _ _ fs l st hok.body hok.main
    obtain ⟨μ, hμ⟩ := least_fun (InfP (⟨n, ga, gn, gc, sa, sn, sc, ya, ls.length, yc, oa, on, oc, va, vs.length, vc, fa, fs.length, fc, ba, bn, bc, la, ln, lc, ka, kn, kc⟩ : WC) K kf gs vs ls fs l w1 w2.heap.size)
    have HM := hide hμ
    clear hv hk hap hS hPr hok hμ hb2 c0 c1 c2 c3 c4 c5 c6 c7 KL1 r0 r1 rz
    go_wp2_with fail
    go_loopw [6] (fun x wr => ∃ N, InfP (⟨n, ga, gn, gc, sa, sn, sc, ya, ls.length, yc, oa, on, oc, va, vs.length, vc, fa, fs.length, fc, ba, bn, bc, la, ln, lc, ka, kn, kc⟩ : WC) K kf gs vs ls fs l w1 w2.heap.size (x, wr) N) (fun x wr => μ (x, wr))
    case atStart => exact ⟨_, w2.heap.size + 1, 0, rfl, HSt.out.1, HSt.out.2, by simp <;> omega, rfl, fun j hj => absurd hj (by omega)⟩
    case round =>
      obtain ⟨N, hN⟩ := hrel
      obtain ⟨⟨bm, k, hx, hC, hI, hlt, hNe, hmore⟩, -⟩ := HM.out _ _ hN
      clear hN
      dsimp only at hx hI hlt
      subst hx
      have HNE := hide hNe
      have HMO := hide hmore
      have hI2 := hI
      by_cases hm : ((iterI n K kf (vs.map Prod.fst) (ls.map (levOf (gnOf gs) n)) fs l (init0 gs n vs fs.length) k)).more = true
      · have m0 : wr.cell? ⟨bm, 0, none⟩ = some (.bool true) := by have := hI.more; rw [← hm]; exact this
        have mz : wr.frozen? ⟨bm, 0, none⟩ = false := hI.mz
        have hI1 := InfI.setM (b := false) h1 hC hI
        have KA1 := hide (KA.out bm _ _ hC hI1)
        have HC := hide hC
        have HL := hide hlt
        have HMM := hide hm
        have rw0 : RowAt [.int .i64 (n : Int), .slice ga gn gc, .slice sa sn sc, .slice ya ls.length yc, .slice oa on oc, .slice va vs.length vc, .slice fa fs.length fc, .slice ba bn bc, .slice la ln lc, .slice ka kn kc] (wr.setCell ⟨bm, 0, none⟩ (.bool false)) w2.heap.size := hI1.row
        have c0 := rw0 0 _ rfl
        have c1 := rw0 1 _ rfl
        have c2 := rw0 2 _ rfl
        have c3 := rw0 3 _ rfl
        have c4 := rw0 4 _ rfl
        have c5 := rw0 5 _ rfl
        have c6 := rw0 6 _ rfl
        have c7 := rw0 7 _ rfl
        have c8 := rw0 8 _ rfl
        have c9 := rw0 9 _ rfl
        have HLen := hide (And.intro hI1.lv hI1.lf)
        clear rw0 hI hI1 hI2 hNe hmore hlt hC hm
        go_wp2_with fail
        refine (KA1.out).mono ?_
        rintro e w3 ⟨rfl, hI3, hF3⟩
        clear c0 c1 c2 c3 c4 c5 c6 c7 c8 c9 m0 mz KA1
        have m0 := hI3.more
        have HI3 := hide hI3
        have HF3 := hide hF3
        clear hI3 hF3
        go_wp2_with fail
        have hsz : w2.heap.size < w3.heap.size := by have h1 := HF3.out.size; have h2 := HL.out; simp [World.setCell] at h1; omega
        obtain ⟨-, b1, b2⟩ := HBits.out ⟨(iterI n K kf (vs.map Prod.fst) (ls.map (levOf (gnOf gs) n)) fs l (init0 gs n vs fs.length) k).vs, (iterI n K kf (vs.map Prod.fst) (ls.map (levOf (gnOf gs) n)) fs l (init0 gs n vs fs.length) k).fs, false⟩ HLen.out
        have hP : InfP (⟨n, ga, gn, gc, sa, sn, sc, ya, ls.length, yc, oa, on, oc, va, vs.length, vc, fa, fs.length, fc, ba, bn, bc, la, ln, lc, ka, kn, kc⟩ : WC) K kf gs vs ls fs l w1 w2.heap.size (.pointer (some ⟨w3.heap.size, 0, none⟩), _) _ := ⟨w3.heap.size, k + 1, rfl, HC.out.newM HI3.out hsz, InfI.newM h1 HC.out HI3.out, by simp <;> omega, rfl, fun j hj => by
          by_cases hjk : j = k
          · subst hjk; exact HMM.out
          · exact HMO.out j (by omega)⟩
        refine ⟨⟨_, hP⟩, Nat.lt_of_le_of_lt ((HM.out _ _ hP).2 _ hP) ?_⟩
        rw [HNE.out, if_pos HMM.out]
        have hbe : bitsI n ⟨(iterI n K kf (vs.map Prod.fst) (ls.map (levOf (gnOf gs) n)) fs l (init0 gs n vs fs.length) k).vs, (iterI n K kf (vs.map Prod.fst) (ls.map (levOf (gnOf gs) n)) fs l (init0 gs n vs fs.length) k).fs, false⟩ = bitsI n (iterI n K kf (vs.map Prod.fst) (ls.map (levOf (gnOf gs) n)) fs l (init0 gs n vs fs.length) k) := rfl
        rw [hbe] at b1 b2
        show 2 * bitsI n (passI n K kf (vs.map Prod.fst) (ls.map (levOf (gnOf gs) n)) fs l ⟨(iterI n K kf (vs.map Prod.fst) (ls.map (levOf (gnOf gs) n)) fs l (init0 gs n vs fs.length) k).vs, (iterI n K kf (vs.map Prod.fst) (ls.map (levOf (gnOf gs) n)) fs l (init0 gs n vs fs.length) k).fs, false⟩) + (if (passI n K kf (vs.map Prod.fst) (ls.map (levOf (gnOf gs) n)) fs l ⟨(iterI n K kf (vs.map Prod.fst) (ls.map (levOf (gnOf gs) n)) fs l (init0 gs n vs fs.length) k).vs, (iterI n K kf (vs.map Prod.fst) (ls.map (levOf (gnOf gs) n)) fs l (init0 gs n vs fs.length) k).fs, false⟩).more = true then 1 else 0) < 2 * bitsI n (iterI n K kf (vs.map Prod.fst) (ls.map (levOf (gnOf gs) n)) fs l (init0 gs n vs fs.length) k) + 1
        split
        · rename_i hmm
          rcases b2 hmm with h | h
          · cases h
          · omega
        · omega
      · have hmf : ((iterI n K kf (vs.map Prod.fst) (ls.map (levOf (gnOf gs) n)) fs l (init0 gs n vs fs.length) k)).more = false := by simpa using hm
        have m0 : wr.cell? ⟨bm, 0, none⟩ = some (.bool false) := by have := hI.more; rw [← hmf]; exact this
        have hblk : wr.heap[w.heap.size + 1]? = some (.cells #[.slice none 0 0, .slice none 0 0] 54) := (hI.below.block _ (by have := HSZ1.out; omega)).trans HR1.out
        have r0 : wr.cell? ⟨w.heap.size + 1, 0, none⟩ = some (.slice none 0 0) := by rw [Lib.cell_of_heap hblk]; rfl
        have r1 : wr.cell? ⟨w.heap.size + 1, 1, none⟩ = some (.slice none 0 0) := by rw [Lib.cell_of_heap hblk]; rfl
        have rz : ∀ j, wr.frozen? ⟨w.heap.size + 1, j, none⟩ = false := fun j => by simp [World.frozen?, hblk]
        have HBK := hide hblk
        have rw0 : RowAt [.int .i64 (n : Int), .slice ga gn gc, .slice sa sn sc, .slice ya ls.length yc, .slice oa on oc, .slice va vs.length vc, .slice fa fs.length fc, .slice ba bn bc, .slice la ln lc, .slice ka kn kc] wr w2.heap.size := hI.row
        have c8 := rw0 8 _ rfl
        have c9 := rw0 9 _ rfl
        have HI := hide hI
        have HC := hide hC
        have HMF := hide hmf
        clear rw0 hI hI2 hNe hmore hlt hC hm hmf hblk
        go_wp2_with fail
        have hBf : Below w.heap.size w ((wr.setCell ⟨w.heap.size + 1, 0, none⟩ (.slice la ln lc)).setCell ⟨w.heap.size + 1, 1, none⟩ (.slice ka kn kc)) := ((HB1.out.trans (HI.out.below.mono (by have := HSZ1.out; omega))).setCell (p := ⟨w.heap.size + 1, 0, none⟩) (by simp) _).setCell (p := ⟨w.heap.size + 1, 1, none⟩) (by simp) _
        have hcr : ∀ j u, wr.cell? ⟨w.heap.size + 1, j, none⟩ = some u → ∃ a m c, u = .slice a m c := fun j u hu => by
          rw [Lib.cell_of_heap HBK.out] at hu
          match j, hu with
          | 0, hu => simp at hu; exact ⟨_, _, _, hu.symm⟩
          | 1, hu => simp at hu; exact ⟨_, _, _, hu.symm⟩
          | j + 2, hu => simp at hu
        have hL1 := levs_end (x := .slice la ln lc) (y := .slice ka kn kc) HI.out.vs hcr (fun a m c e => by injection e with e1; have := (HC.out.la a e1).2.2.1; have := HSZ1.out; omega)
        have hL2 := levs_end (x := .slice la ln lc) (y := .slice ka kn kc) HI.out.fs hcr (fun a m c e => by injection e with e1; have := (HC.out.ka a e1).2.2.1; have := HSZ1.out; omega)
        have hk0 : k ≠ 0 := fun e => by have := HMF.out; rw [e] at this; cases this
        obtain ⟨k', hk'⟩ := Nat.exists_eq_succ_of_ne_zero hk0
        refine bodyPost_ret (v := .tuple #[.agg #[.slice la ln lc, .slice ka kn kc], .int .i64 0]) (by simp [results, Try.results15, go_sem, r0, r1]) rfl ⟨0, HPW.out, hBf, Or.inr ⟨rfl, HOK.out, n, _, la, ln, lc, ka, kn, kc, rfl, rfl, hL1, hL2, HI.out.vs.len, HI.out.fs.len, HI.out.lv, HI.out.lf, ⟨k', ?_, HMF.out, fun j hj => HMO.out (j + 1) (by omega)⟩, HNN.out.1, HNN.out.2⟩⟩
        rw [hk']
  · have HZ := hide hz
    have HPW := hide hPw
    clear hPw hb1 hRP1 heR1 hV0 hsz1 KL HP
    go_wp2_with fail
    refine bodyPost_ret (v := .tuple #[.agg #[.slice none 0 0, .slice none 0 0], .int .i64 why]) ?_ rfl ⟨why, HPW.out, ?_, Or.inl ⟨HZ.out, rfl⟩⟩
    · simp [results, Try.results15, go_sem, r0, r1]
    · exact (HB1.out.setCell (p := ⟨w.heap.size + 1, 0, none⟩) (by simp) _).setCell (p := ⟨w.heap.size + 1, 1, none⟩) (by simp) _

set_option maxHeartbeats 2000000 in
set_option maxRecDepth 100000 in
theorem inferW0 (K kf : Nat) (m : Int) (ga : Option Addr) (gn gc : Nat) (sa : Option Addr) (sn sc : Nat) (ya : Option Addr) (yn yc : Nat) (oa : Option Addr) (on oc : Nat) (va : Option Addr) (vn vc : Nat) (fa : Option Addr) (fn fc : Nat) (ba : Option Addr) (bn bc : Nat) (gs : List (Int × Int)) (sp : List Int) (ls ms : List Lab) (vs : List (Bool × Lab)) (fs : List FnD) (l : List D) (w : World)
    (P : Int → Prop) (KS : ∀ W, Below w.heap.size w W → Calls Try.prog 36 #[.agg #[.int .i64 m, .slice ga gn gc, .slice sa sn sc, .slice ya yn yc, .slice oa on oc, .slice va vn vc, .slice fa fn fc, .slice ba bn bc]] W fun e w' => ∃ why : Int, e = .returned (.int .i64 why) ∧ P why ∧ Below W.heap.size W w') (hP : ¬ P 0) :
    Calls Try.prog 15 #[.agg #[.int .i64 m, .slice ga gn gc, .slice sa sn sc, .slice ya yn yc, .slice oa on oc, .slice va vn vc, .slice fa fn fc, .slice ba bn bc]] w (InfSaid K kf m vn yn on gs sp ls ms vs fs l P w) := by
  have hb0 : Below w.heap.size w ((w.alloc (.cells #[.int .i64 m, .slice ga gn gc, .slice sa sn sc, .slice ya yn yc, .slice oa on oc, .slice va vn vc, .slice fa fn fc, .slice ba bn bc] 41)).alloc (.cells #[.slice none 0 0, .slice none 0 0] 54)) := ((Below.refl _ w).alloc (Nat.le_refl _) _).alloc (by simp) _
  have K1 := hide (KS _ hb0)
  have rowP : RowAt [.int .i64 m, .slice ga gn gc, .slice sa sn sc, .slice ya yn yc, .slice oa on oc, .slice va vn vc, .slice fa fn fc, .slice ba bn bc] ((w.alloc (.cells #[.int .i64 m, .slice ga gn gc, .slice sa sn sc, .slice ya yn yc, .slice oa on oc, .slice va vn vc, .slice fa fn fc, .slice ba bn bc] 41)).alloc (.cells #[.slice none 0 0, .slice none 0 0] 54)) w.heap.size := (RowAt.new [.int .i64 m, .slice ga gn gc, .slice sa sn sc, .slice ya yn yc, .slice oa on oc, .slice va vn vc, .slice fa fn fc, .slice ba bn bc] 41 w).over ((Below.refl _ _).alloc (Nat.le_refl _) _)
  have rowR : RowAt [.slice none 0 0, .slice none 0 0] ((w.alloc (.cells #[.int .i64 m, .slice ga gn gc, .slice sa sn sc, .slice ya yn yc, .slice oa on oc, .slice va vn vc, .slice fa fn fc, .slice ba bn bc] 41)).alloc (.cells #[.slice none 0 0, .slice none 0 0] 54)) (w.heap.size + 1) := by
    have := RowAt.new [.slice none 0 0, .slice none 0 0] 54 (w.alloc (.cells #[.int .i64 m, .slice ga gn gc, .slice sa sn sc, .slice ya yn yc, .slice oa on oc, .slice va vn vc, .slice fa fn fc, .slice ba bn bc] 41))
    simpa using this
  have rf : ∀ j, ((w.alloc (.cells #[.int .i64 m, .slice ga gn gc, .slice sa sn sc, .slice ya yn yc, .slice oa on oc, .slice va vn vc, .slice fa fn fc, .slice ba bn bc] 41)).alloc (.cells #[.slice none 0 0, .slice none 0 0] 54)).frozen? ⟨w.heap.size + 1, j, none⟩ = false := fun j => by simp [go_sem]
  have HB0 := hide hb0
  have HRR := hide rowR
  have HRF := hide rf
  have HP := hide hP
  have c0 := rowP 0 _ rfl
  have c1 := rowP 1 _ rfl
  have c2 := rowP 2 _ rfl
  have c3 := rowP 3 _ rfl
  have c4 := rowP 4 _ rfl
  have c5 := rowP 5 _ rfl
  have c6 := rowP 6 _ rfl
  have c7 := rowP 7 _ rfl
  clear hb0 rowP rowR rf hP KS
  go_enter Try.func15, Try.ntmps15
  go_wp2_with fail
  refine (K1.out).mono ?_
  rintro e w1 ⟨why, rfl, hPw, hb1⟩
  have hrr := HRR.out.over hb1
  have r0 := hrr 0 _ rfl
  have r1 := hrr 1 _ rfl
  have rz : ∀ j, w1.frozen? ⟨w.heap.size + 1, j, none⟩ = false := fun j => ((bcell hb1).2 _ _ (by simp)).trans (HRF.out j)
  have HB1 := hide (over_trans HB0.out hb1)
  have hz : why ≠ 0 := fun e => HP.out (e ▸ hPw)
  have HZ := hide hz
  have HPW := hide hPw
  clear hPw hb1 hrr c0 c1 c2 c3 c4 c5 c6 c7 K1
  go_wp2_with fail
  refine bodyPost_ret (v := .tuple #[.agg #[.slice none 0 0, .slice none 0 0], .int .i64 why]) ?_ rfl ⟨why, HPW.out, ?_, Or.inl ⟨HZ.out, rfl⟩⟩
  · simp [results, Try.results15, go_sem, r0, r1]
  · exact (HB1.out.setCell (p := ⟨w.heap.size + 1, 0, none⟩) (by simp) _).setCell (p := ⟨w.heap.size + 1, 1, none⟩) (by simp) _

/-- Infer, of any program. -/
theorem inferW (K kf : Nat) (m : Int) (ga : Option Addr) (gn gc : Nat) (sa : Option Addr) (sn sc : Nat) (ya : Option Addr) (yn yc : Nat) (oa : Option Addr) (on oc : Nat) (va : Option Addr) (vn vc : Nat) (fa : Option Addr) (fn fc : Nat) (ba : Option Addr) (bn bc : Nat) (gs : List (Int × Int)) (sp : List Int) (ls ms : List Lab) (vs : List (Bool × Lab)) (fs : List FnD) (l : List D) (w : World) (h : ProgAt K kf m ga gn gc sa sn sc ya yn yc oa on oc va vn vc fa fn fc ba bn bc gs sp ls ms vs fs l w)
    (P : Int → Prop) (KS : ∀ W, Below w.heap.size w W → Calls Try.prog 36 #[.agg #[.int .i64 m, .slice ga gn gc, .slice sa sn sc, .slice ya yn yc, .slice oa on oc, .slice va vn vc, .slice fa fn fc, .slice ba bn bc]] W fun e w' => ∃ why : Int, e = .returned (.int .i64 why) ∧ P why ∧ Below W.heap.size W w') (hP : P 0 → okP K kf m vn yn on gs sp ls ms vs fs l) :
    Calls Try.prog 15 #[.agg #[.int .i64 m, .slice ga gn gc, .slice sa sn sc, .slice ya yn yc, .slice oa on oc, .slice va vn vc, .slice fa fn fc, .slice ba bn bc]] w (InfSaid K kf m vn yn on gs sp ls ms vs fs l P w) := by
  by_cases h0 : P 0
  · obtain ⟨n, rfl, n1, n6, -⟩ := chk_ok (hP h0).chk
    exact inferW1 K kf n n1 n6 ga gn gc sa sn sc ya yn yc oa on oc va vn vc fa fn fc ba bn bc gs sp ls ms vs fs l w h P KS hP
  · exact inferW0 K kf m ga gn gc sa sn sc ya yn yc oa on oc va vn vc fa fn fc ba bn bc gs sp ls ms vs fs l w P KS h0
end Go.Proofs.Ytcbbjjenkommeaa.Ex
namespace Go.Proofs.Ytcbbjjenkommeaa.Ex.Ey
open Go.RowKit
set_option linter.unusedVariables false
/-- it goes on, and something holds then; or it gives up, and that does not hold. -/
def Goes (ok : Prop) (w : World) (e : Ending) (w' : World) : Prop := ((ok ∧ e = .returned (.tuple #[])) ∨ (¬ ok ∧ ∃ why : Int, why ≠ 0 ∧ e = gaveW why)) ∧ Below w.heap.size w w'
theorem Goes.imp {p q : Prop} {w : World} {e : Ending} {w' : World} (h : Goes p w e w') (hpq : p ↔ q) : Goes q w e w' := by
  have : p = q := propext hpq
  subst this
  exact h

set_option maxHeartbeats 1000000 in
set_option maxRecDepth 100000 in
theorem exprG_any (K : Nat) (m : Int) (ga : Option Addr) (gn gc : Nat) (sa : Option Addr) (sn sc : Nat) (ya : Option Addr) (yn yc : Nat) (oa : Option Addr) (on oc : Nat) (va : Option Addr) (vn vc : Nat) (fa : Option Addr) (fn fc : Nat) (ba : Option Addr) (bn bc : Nat) (cs : List Value) (d : D) (w : World) (h : RX w K cs d) (hv : vn ≤ 9223372036854775807) : Calls Try.prog 140 #[.agg #[.int .i64 m, .slice ga gn gc, .slice sa sn sc, .slice ya yn yc, .slice oa on oc, .slice va vn vc, .slice fa fn fc, .slice ba bn bc], .agg cs.toArray] w (Goes (checkX vn K d = 0) w) := by
  have K1 := hide fun W hB => check_any K cs d W (vn : Int) (by omega) (by omega) (h.over hB)
  have K2 := hide pass_any
  obtain ⟨xa, xc, rfl⟩ := h.form
  obtain ⟨ek, hek⟩ : ∃ q, q = kindOf d := ⟨_, rfl⟩
  obtain ⟨en, hen⟩ : ∃ q, q = numOf d := ⟨_, rfl⟩
  obtain ⟨xl, hxl⟩ : ∃ q, q = (argsOf d).length := ⟨_, rfl⟩
  rw [← hek, ← hen, ← hxl] at K1 ⊢
  clear hek hen hxl h
  obtain ⟨r, hr⟩ : ∃ q, q = checkX vn K d := ⟨_, rfl⟩
  rw [← hr] at K1 ⊢
  clear hr
  have hbel : Below w.heap.size w ((w.alloc (.cells #[.int .i64 m, .slice ga gn gc, .slice sa sn sc, .slice ya yn yc, .slice oa on oc, .slice va vn vc, .slice fa fn fc, .slice ba bn bc] 125)).alloc (.cells #[.int .i64 ek, .int .i64 en, .slice xa xl xc] 24)) := ((Below.refl _ w).alloc (Nat.le_refl _) _).alloc (by simp) _
  show Calls Try.prog 140 #[.agg #[.int .i64 m, .slice ga gn gc, .slice sa sn sc, .slice ya yn yc, .slice oa on oc, .slice va vn vc, .slice fa fn fc, .slice ba bn bc], .agg #[.int .i64 ek, .int .i64 en, .slice xa xl xc]] w _
  go_enter Try.func140, Try.ntmps140
  go_wp2_with fail
  refine (K1.out _ hbel).mono ?_
  rintro e w1 ⟨rfl, hb1⟩
  have hB1 := hbel.trans (hb1.mono hbel.size)
  go_wp2_with fail
  refine (K2.out _ _).mono ?_
  rintro e wz ⟨he, rfl⟩
  rcases he with ⟨h0, rfl⟩ | ⟨h0, rfl⟩
  · have h1 : r = 0 := by simpa using h0
    clear h0
    subst h1
    go_wp2_with fail
    go_end0
    exact ⟨Or.inl ⟨by first | rfl | trivial, rfl⟩, hB1⟩
  · have h1 : r ≠ 0 := by simpa using h0
    unfold gaveW
    go_wp2_with fail
    exact ⟨rfl, Or.inr ⟨by first | exact h1 | simp, r, h1, rfl⟩, hB1⟩
theorem held11 {w w0 w1 : World} {a0 a1 a2 a3 a4 a5 a6 a7 a8 a9 a10 : Addr} {v0 v1 v2 v3 v4 v5 v6 v7 v8 v9 v10 : Value}
    (h : w0.cell? a0 = some v0 ∧ w0.cell? a1 = some v1 ∧ w0.cell? a2 = some v2 ∧ w0.cell? a3 = some v3 ∧ w0.cell? a4 = some v4 ∧ w0.cell? a5 = some v5 ∧ w0.cell? a6 = some v6 ∧ w0.cell? a7 = some v7 ∧ w0.cell? a8 = some v8 ∧ w0.cell? a9 = some v9 ∧ w0.cell? a10 = some v10 ∧ Below w.heap.size w w0) (hb : Below w0.heap.size w0 w1) :
    w1.cell? a0 = some v0 ∧ w1.cell? a1 = some v1 ∧ w1.cell? a2 = some v2 ∧ w1.cell? a3 = some v3 ∧ w1.cell? a4 = some v4 ∧ w1.cell? a5 = some v5 ∧ w1.cell? a6 = some v6 ∧ w1.cell? a7 = some v7 ∧ w1.cell? a8 = some v8 ∧ w1.cell? a9 = some v9 ∧ w1.cell? a10 = some v10 ∧ Below w.heap.size w w1 := by
  obtain ⟨h0, h1, h2, h3, h4, h5, h6, h7, h8, h9, h10, hB⟩ := h
  exact ⟨cell_over hb _ _ h0, cell_over hb _ _ h1, cell_over hb _ _ h2, cell_over hb _ _ h3, cell_over hb _ _ h4, cell_over hb _ _ h5, cell_over hb _ _ h6, cell_over hb _ _ h7, cell_over hb _ _ h8, cell_over hb _ _ h9, cell_over hb _ _ h10, hB.trans (hb.mono hB.size)⟩

theorem cellN {w : World} {n : Nat} {a : Addr} {v : Value} (h : w.cell? a = some v) : (w.drewN n).cell? a = some v := h

set_option maxHeartbeats 8000000 in
set_option maxRecDepth 100000 in
theorem stmtG3 (K k : Nat) (fs : List FnD) (de : D) (das : List D) (funcs : Int) (m : Int) (ga : Option Addr) (gn gc : Nat) (sa : Option Addr) (sn sc : Nat) (ya : Option Addr) (yn yc : Nat) (oa : Option Addr) (on oc : Nat) (va : Option Addr) (vn vc : Nat) (fa : Option Addr) (fn fc : Nat) (ba : Option Addr) (bn bc : Nat) (vr ot ek en : Int) (xa : Option Addr) (xl xc : Nat) (aa : Option Addr) (al ac : Nat) (ta : Option Addr) (tl tc : Nat) (ea : Option Addr) (el ec : Nat) (w : World) (hv : vn ≤ 9223372036854775807) (i1 : In64 vr) (i2 : In64 ot) (h0f : 0 ≤ funcs) (h1f : funcs ≤ 9223372036854775807) (hyl : yn ≤ 9223372036854775807) (hol : on ≤ 9223372036854775807)
    (hde : RX w K [.int .i64 ek, .int .i64 en, .slice xa xl xc] de) (hda : XS 3 (RX w K) w (.slice aa al ac) das) (hfs : FnsAt w K k (.slice fa fn fc) fs) (hff : funcs ≤ fs.length) :
    Calls Try.prog 141 #[.agg #[.int .i64 m, .slice ga gn gc, .slice sa sn sc, .slice ya yn yc, .slice oa on oc, .slice va vn vc, .slice fa fn fc, .slice ba bn bc], .agg #[.int .i64 3, .int .i64 vr, .int .i64 ot, .int .i64 ek, .int .i64 en, .slice xa xl xc, .slice aa al ac, .slice ta tl tc, .slice ea el ec], .int .i64 funcs] w (Goes ((0 ≤ vr ∧ vr < vn) ∧ (0 ≤ ot ∧ ot < (yn : Int)) ∧ (ek = 0 ∧ en = 0 ∧ xl = 0) ∧ (al = 0) ∧ (tl = 0) ∧ (el = 0)) w) := by
  obtain ⟨Q, hQ⟩ : ∃ Q : Prop, Q = ((0 ≤ vr ∧ vr < vn) ∧ (0 ≤ ot ∧ ot < (yn : Int)) ∧ (ek = 0 ∧ en = 0 ∧ xl = 0) ∧ (al = 0) ∧ (tl = 0) ∧ (el = 0)) := ⟨_, rfl⟩
  rw [← hQ]
  have HQ : Hid (((0 ≤ vr ∧ vr < vn) ∧ (0 ≤ ot ∧ ot < (yn : Int)) ∧ (ek = 0 ∧ en = 0 ∧ xl = 0) ∧ (al = 0) ∧ (tl = 0) ∧ (el = 0)) → Q) := hide (fun p => by rw [hQ]; exact p)
  have N1 : Hid (¬ (0 ≤ vr ∧ vr < vn) → ¬ Q) := hide (fun h p => by rw [hQ] at p; exact h p.1)
  have N2 : Hid (¬ (0 ≤ ot ∧ ot < (yn : Int)) → ¬ Q) := hide (fun h p => by rw [hQ] at p; exact h p.2.1)
  have N3 : Hid (¬ (ek = 0 ∧ en = 0 ∧ xl = 0) → ¬ Q) := hide (fun h p => by rw [hQ] at p; exact h p.2.2.1)
  have N4 : Hid (¬ (al = 0) → ¬ Q) := hide (fun h p => by rw [hQ] at p; exact h p.2.2.2.1)
  have N5 : Hid (¬ (tl = 0) → ¬ Q) := hide (fun h p => by rw [hQ] at p; exact h p.2.2.2.2.1)
  have N6 : Hid (¬ (el = 0) → ¬ Q) := hide (fun h p => by rw [hQ] at p; exact h p.2.2.2.2.2)
  clear hQ
  have K1 := hide shapeOf3
  have K2 := hide must_any
  have K3 := hide isOneOf_any
  have K4 := hide fun W => others_any 3 funcs m ga gn gc sa sn sc ya yn yc oa on oc va vn vc fa fn fc ba bn bc W
  simp only [Int.reduceEq, if_true, if_false] at K4
  have K5 := hide fun W (hB : Below w.heap.size w W) => exprG_any K m ga gn gc sa sn sc ya yn yc oa on oc va vn vc fa fn fc ba bn bc _ _ W (hde.over hB) hv
  have hal : al ≤ 9223372036854775807 ∧ al = das.length := ⟨by obtain ⟨hm, ao, cap, he, -⟩ := hda; injection he with e1 e2 e3; rw [e2]; exact hm, by obtain ⟨hm, ao, cap, he, -⟩ := hda; injection he⟩
  obtain ⟨hal, hale⟩ := hal
  have HAL := hide hale
  obtain ⟨i1, i1'⟩ := i1
  obtain ⟨i2, i2'⟩ := i2
  clear hde hda hfs hale
  have c0 : ((w.alloc (.cells #[.int .i64 m, .slice ga gn gc, .slice sa sn sc, .slice ya yn yc, .slice oa on oc, .slice va vn vc, .slice fa fn fc, .slice ba bn bc] 125)).alloc (.cells #[.int .i64 3, .int .i64 vr, .int .i64 ot, .int .i64 ek, .int .i64 en, .slice xa xl xc, .slice aa al ac, .slice ta tl tc, .slice ea el ec] 78)).cell? ⟨w.heap.size, 0, none⟩ = some (.int .i64 m) := by simp [go_sem]
  have c1 : ((w.alloc (.cells #[.int .i64 m, .slice ga gn gc, .slice sa sn sc, .slice ya yn yc, .slice oa on oc, .slice va vn vc, .slice fa fn fc, .slice ba bn bc] 125)).alloc (.cells #[.int .i64 3, .int .i64 vr, .int .i64 ot, .int .i64 ek, .int .i64 en, .slice xa xl xc, .slice aa al ac, .slice ta tl tc, .slice ea el ec] 78)).cell? ⟨w.heap.size, 1, none⟩ = some (.slice ga gn gc) := by simp [go_sem]
  have c2 : ((w.alloc (.cells #[.int .i64 m, .slice ga gn gc, .slice sa sn sc, .slice ya yn yc, .slice oa on oc, .slice va vn vc, .slice fa fn fc, .slice ba bn bc] 125)).alloc (.cells #[.int .i64 3, .int .i64 vr, .int .i64 ot, .int .i64 ek, .int .i64 en, .slice xa xl xc, .slice aa al ac, .slice ta tl tc, .slice ea el ec] 78)).cell? ⟨w.heap.size, 2, none⟩ = some (.slice sa sn sc) := by simp [go_sem]
  have c3 : ((w.alloc (.cells #[.int .i64 m, .slice ga gn gc, .slice sa sn sc, .slice ya yn yc, .slice oa on oc, .slice va vn vc, .slice fa fn fc, .slice ba bn bc] 125)).alloc (.cells #[.int .i64 3, .int .i64 vr, .int .i64 ot, .int .i64 ek, .int .i64 en, .slice xa xl xc, .slice aa al ac, .slice ta tl tc, .slice ea el ec] 78)).cell? ⟨w.heap.size, 3, none⟩ = some (.slice ya yn yc) := by simp [go_sem]
  have c4 : ((w.alloc (.cells #[.int .i64 m, .slice ga gn gc, .slice sa sn sc, .slice ya yn yc, .slice oa on oc, .slice va vn vc, .slice fa fn fc, .slice ba bn bc] 125)).alloc (.cells #[.int .i64 3, .int .i64 vr, .int .i64 ot, .int .i64 ek, .int .i64 en, .slice xa xl xc, .slice aa al ac, .slice ta tl tc, .slice ea el ec] 78)).cell? ⟨w.heap.size, 4, none⟩ = some (.slice oa on oc) := by simp [go_sem]
  have c5 : ((w.alloc (.cells #[.int .i64 m, .slice ga gn gc, .slice sa sn sc, .slice ya yn yc, .slice oa on oc, .slice va vn vc, .slice fa fn fc, .slice ba bn bc] 125)).alloc (.cells #[.int .i64 3, .int .i64 vr, .int .i64 ot, .int .i64 ek, .int .i64 en, .slice xa xl xc, .slice aa al ac, .slice ta tl tc, .slice ea el ec] 78)).cell? ⟨w.heap.size, 5, none⟩ = some (.slice va vn vc) := by simp [go_sem]
  have c6 : ((w.alloc (.cells #[.int .i64 m, .slice ga gn gc, .slice sa sn sc, .slice ya yn yc, .slice oa on oc, .slice va vn vc, .slice fa fn fc, .slice ba bn bc] 125)).alloc (.cells #[.int .i64 3, .int .i64 vr, .int .i64 ot, .int .i64 ek, .int .i64 en, .slice xa xl xc, .slice aa al ac, .slice ta tl tc, .slice ea el ec] 78)).cell? ⟨w.heap.size, 6, none⟩ = some (.slice fa fn fc) := by simp [go_sem]
  have c7 : ((w.alloc (.cells #[.int .i64 m, .slice ga gn gc, .slice sa sn sc, .slice ya yn yc, .slice oa on oc, .slice va vn vc, .slice fa fn fc, .slice ba bn bc] 125)).alloc (.cells #[.int .i64 3, .int .i64 vr, .int .i64 ot, .int .i64 ek, .int .i64 en, .slice xa xl xc, .slice aa al ac, .slice ta tl tc, .slice ea el ec] 78)).cell? ⟨w.heap.size, 7, none⟩ = some (.slice ba bn bc) := by simp [go_sem]
  have s0 : ((w.alloc (.cells #[.int .i64 m, .slice ga gn gc, .slice sa sn sc, .slice ya yn yc, .slice oa on oc, .slice va vn vc, .slice fa fn fc, .slice ba bn bc] 125)).alloc (.cells #[.int .i64 3, .int .i64 vr, .int .i64 ot, .int .i64 ek, .int .i64 en, .slice xa xl xc, .slice aa al ac, .slice ta tl tc, .slice ea el ec] 78)).cell? ⟨w.heap.size + 1, 0, none⟩ = some (.int .i64 3) := by simp [go_sem]
  have s1 : ((w.alloc (.cells #[.int .i64 m, .slice ga gn gc, .slice sa sn sc, .slice ya yn yc, .slice oa on oc, .slice va vn vc, .slice fa fn fc, .slice ba bn bc] 125)).alloc (.cells #[.int .i64 3, .int .i64 vr, .int .i64 ot, .int .i64 ek, .int .i64 en, .slice xa xl xc, .slice aa al ac, .slice ta tl tc, .slice ea el ec] 78)).cell? ⟨w.heap.size + 1, 1, none⟩ = some (.int .i64 vr) := by simp [go_sem]
  have s2 : ((w.alloc (.cells #[.int .i64 m, .slice ga gn gc, .slice sa sn sc, .slice ya yn yc, .slice oa on oc, .slice va vn vc, .slice fa fn fc, .slice ba bn bc] 125)).alloc (.cells #[.int .i64 3, .int .i64 vr, .int .i64 ot, .int .i64 ek, .int .i64 en, .slice xa xl xc, .slice aa al ac, .slice ta tl tc, .slice ea el ec] 78)).cell? ⟨w.heap.size + 1, 2, none⟩ = some (.int .i64 ot) := by simp [go_sem]
  have s3 : ((w.alloc (.cells #[.int .i64 m, .slice ga gn gc, .slice sa sn sc, .slice ya yn yc, .slice oa on oc, .slice va vn vc, .slice fa fn fc, .slice ba bn bc] 125)).alloc (.cells #[.int .i64 3, .int .i64 vr, .int .i64 ot, .int .i64 ek, .int .i64 en, .slice xa xl xc, .slice aa al ac, .slice ta tl tc, .slice ea el ec] 78)).cell? ⟨w.heap.size + 1, 3, none⟩ = some (.int .i64 ek) := by simp [go_sem]
  have s4 : ((w.alloc (.cells #[.int .i64 m, .slice ga gn gc, .slice sa sn sc, .slice ya yn yc, .slice oa on oc, .slice va vn vc, .slice fa fn fc, .slice ba bn bc] 125)).alloc (.cells #[.int .i64 3, .int .i64 vr, .int .i64 ot, .int .i64 ek, .int .i64 en, .slice xa xl xc, .slice aa al ac, .slice ta tl tc, .slice ea el ec] 78)).cell? ⟨w.heap.size + 1, 4, none⟩ = some (.int .i64 en) := by simp [go_sem]
  have s5 : ((w.alloc (.cells #[.int .i64 m, .slice ga gn gc, .slice sa sn sc, .slice ya yn yc, .slice oa on oc, .slice va vn vc, .slice fa fn fc, .slice ba bn bc] 125)).alloc (.cells #[.int .i64 3, .int .i64 vr, .int .i64 ot, .int .i64 ek, .int .i64 en, .slice xa xl xc, .slice aa al ac, .slice ta tl tc, .slice ea el ec] 78)).cell? ⟨w.heap.size + 1, 5, none⟩ = some (.slice xa xl xc) := by simp [go_sem]
  have s6 : ((w.alloc (.cells #[.int .i64 m, .slice ga gn gc, .slice sa sn sc, .slice ya yn yc, .slice oa on oc, .slice va vn vc, .slice fa fn fc, .slice ba bn bc] 125)).alloc (.cells #[.int .i64 3, .int .i64 vr, .int .i64 ot, .int .i64 ek, .int .i64 en, .slice xa xl xc, .slice aa al ac, .slice ta tl tc, .slice ea el ec] 78)).cell? ⟨w.heap.size + 1, 6, none⟩ = some (.slice aa al ac) := by simp [go_sem]
  have s7 : ((w.alloc (.cells #[.int .i64 m, .slice ga gn gc, .slice sa sn sc, .slice ya yn yc, .slice oa on oc, .slice va vn vc, .slice fa fn fc, .slice ba bn bc] 125)).alloc (.cells #[.int .i64 3, .int .i64 vr, .int .i64 ot, .int .i64 ek, .int .i64 en, .slice xa xl xc, .slice aa al ac, .slice ta tl tc, .slice ea el ec] 78)).cell? ⟨w.heap.size + 1, 7, none⟩ = some (.slice ta tl tc) := by simp [go_sem]
  have s8 : ((w.alloc (.cells #[.int .i64 m, .slice ga gn gc, .slice sa sn sc, .slice ya yn yc, .slice oa on oc, .slice va vn vc, .slice fa fn fc, .slice ba bn bc] 125)).alloc (.cells #[.int .i64 3, .int .i64 vr, .int .i64 ot, .int .i64 ek, .int .i64 en, .slice xa xl xc, .slice aa al ac, .slice ta tl tc, .slice ea el ec] 78)).cell? ⟨w.heap.size + 1, 8, none⟩ = some (.slice ea el ec) := by simp [go_sem]
  have hbel : Below w.heap.size w ((w.alloc (.cells #[.int .i64 m, .slice ga gn gc, .slice sa sn sc, .slice ya yn yc, .slice oa on oc, .slice va vn vc, .slice fa fn fc, .slice ba bn bc] 125)).alloc (.cells #[.int .i64 3, .int .i64 vr, .int .i64 ot, .int .i64 ek, .int .i64 en, .slice xa xl xc, .slice aa al ac, .slice ta tl tc, .slice ea el ec] 78)) := ((Below.refl _ w).alloc (Nat.le_refl _) _).alloc (by simp) _
  go_enter Try.func141, Try.ntmps141
  go_wp2_with fail
  refine (K1.out _).mono ?_
  rintro e w1 ⟨rfl, hb1⟩
  have hB1 := hbel.trans (hb1.mono hbel.size)
  have hb2 := over_trans hb1 ((Below.refl _ w1).alloc (Nat.le_refl _) (.cells #[.bool true, .bool true, .bool false, .bool false, .bool false, .bool false] 201))
  have hB2 := hbel.trans (hb2.mono hbel.size)
  have c0a := cell_over hb2 _ _ c0
  have c1a := cell_over hb2 _ _ c1
  have c2a := cell_over hb2 _ _ c2
  have c3a := cell_over hb2 _ _ c3
  have c4a := cell_over hb2 _ _ c4
  have c5a := cell_over hb2 _ _ c5
  have c6a := cell_over hb2 _ _ c6
  have c7a := cell_over hb2 _ _ c7
  have s0a := cell_over hb2 _ _ s0
  have s1a := cell_over hb2 _ _ s1
  have s2a := cell_over hb2 _ _ s2
  have s3a := cell_over hb2 _ _ s3
  have s4a := cell_over hb2 _ _ s4
  have s5a := cell_over hb2 _ _ s5
  have s6a := cell_over hb2 _ _ s6
  have s7a := cell_over hb2 _ _ s7
  have s8a := cell_over hb2 _ _ s8
  have h0a : (w1.alloc (.cells #[.bool true, .bool true, .bool false, .bool false, .bool false, .bool false] 201)).cell? ⟨w1.heap.size, 0, none⟩ = some (.bool true) := by simp [go_sem]
  have h1a : (w1.alloc (.cells #[.bool true, .bool true, .bool false, .bool false, .bool false, .bool false] 201)).cell? ⟨w1.heap.size, 1, none⟩ = some (.bool true) := by simp [go_sem]
  have h2a : (w1.alloc (.cells #[.bool true, .bool true, .bool false, .bool false, .bool false, .bool false] 201)).cell? ⟨w1.heap.size, 2, none⟩ = some (.bool false) := by simp [go_sem]
  have h3a : (w1.alloc (.cells #[.bool true, .bool true, .bool false, .bool false, .bool false, .bool false] 201)).cell? ⟨w1.heap.size, 3, none⟩ = some (.bool false) := by simp [go_sem]
  have h4a : (w1.alloc (.cells #[.bool true, .bool true, .bool false, .bool false, .bool false, .bool false] 201)).cell? ⟨w1.heap.size, 4, none⟩ = some (.bool false) := by simp [go_sem]
  have h5a : (w1.alloc (.cells #[.bool true, .bool true, .bool false, .bool false, .bool false, .bool false] 201)).cell? ⟨w1.heap.size, 5, none⟩ = some (.bool false) := by simp [go_sem]
  clear hb1 hb2 hbel hB1 c0 c1 c2 c3 c4 c5 c6 c7 s0 s1 s2 s3 s4 s5 s6 s7 s8
  go_wp2_with fail
  refine (K2.out _ _ _).mono ?_
  rintro e wz ⟨he, rfl⟩
  have he2 : e = .returned (.tuple #[]) := by
    rcases he with ⟨_, he⟩ | ⟨he, _⟩
    · exact he
    · cases he
  subst he2
  clear he
  go_wp2_with fail
  refine (K3.out _ _ _).mono ?_
  rintro e wz ⟨rfl, rfl⟩
  go_wp2_with fail
  refine (K2.out _ _ _).mono ?_
  rintro e wz ⟨he, rfl⟩
  rcases he with ⟨hvar, rfl⟩ | ⟨hz, rfl⟩
  rotate_left
  · skip
    first
      | have HN := hide (N1.out (by (try simp at hz); (try simp); omega))
      | have HN := hide (N2.out (by (try simp at hz); (try simp); omega))
      | have HN := hide (N3.out (by (try simp at hz); (try simp); omega))
      | have HN := hide (N4.out (by (try simp at hz); (try simp); omega))
      | have HN := hide (N5.out (by (try simp at hz); (try simp); omega))
      | have HN := hide (N6.out (by (try simp at hz); (try simp); omega))
    clear hz
    unfold gaveW
    go_wp2_with fail
    exact ⟨rfl, Or.inr ⟨HN.out, 5, by decide, rfl⟩, hB2⟩
  have hvar2 : 0 ≤ vr ∧ vr < vn := by simpa using hvar
  have HVAR := hide hvar2
  clear hvar hvar2
  go_wp2_with fail
  have hr0 := Below.refl (w1.alloc (.cells #[.bool true, .bool true, .bool false, .bool false, .bool false, .bool false] 201)).heap.size (w1.alloc (.cells #[.bool true, .bool true, .bool false, .bool false, .bool false, .bool false] 201))
  obtain ⟨ob, hob⟩ : ∃ q, q = decide (0 ≤ ot ∧ ot < (yn : Int)) := ⟨_, rfl⟩
  have K3o := hide fun W => isOneOf_any ot (yn : Int) W
  rw [← hob] at K3o
  have HOB := hide hob
  clear hob
  cases ob with
  | false =>
    have HNO := hide (N2.out (by have hq := HOB.out; simp at hq; omega))
    go_region_held2 (fun W => W.cell? ⟨w.heap.size, 0, none⟩ = some (.int .i64 m) ∧ W.cell? ⟨w.heap.size, 1, none⟩ = some (.slice ga gn gc) ∧ W.cell? ⟨w.heap.size, 2, none⟩ = some (.slice sa sn sc) ∧ W.cell? ⟨w.heap.size, 3, none⟩ = some (.slice ya yn yc) ∧ W.cell? ⟨w.heap.size, 4, none⟩ = some (.slice oa on oc) ∧ W.cell? ⟨w.heap.size, 5, none⟩ = some (.slice va vn vc) ∧ W.cell? ⟨w.heap.size, 6, none⟩ = some (.slice fa fn fc) ∧ W.cell? ⟨w.heap.size, 7, none⟩ = some (.slice ba bn bc) ∧ W.cell? ⟨w.heap.size + 1, 0, none⟩ = some (.int .i64 3) ∧ W.cell? ⟨w.heap.size + 1, 2, none⟩ = some (.int .i64 ot) ∧ W.cell? ⟨w1.heap.size, 1, none⟩ = some (.bool true) ∧ Below (w1.alloc (.cells #[.bool true, .bool true, .bool false, .bool false, .bool false, .bool false] 201)).heap.size (w1.alloc (.cells #[.bool true, .bool true, .bool false, .bool false, .bool false, .bool false] 201)) W) (first | assumption | exact ⟨c0a, c1a, c2a, c3a, c4a, c5a, c6a, c7a, s0a, s2a, h1a, below_drewN hr0 1⟩ | exact held11 (by assumption) hbp | fail) (first | (go_at_call 153; refine (K4.out _).mono ?_; rintro e wp ⟨rfl, hbp⟩) | (go_at_call 109; refine (K3o.out _).mono ?_; rintro e wq ⟨rfl, rfl⟩) | (go_at_call 108; refine (K2.out false 5 _).mono ?_; rintro e wq ⟨he, rfl⟩; rcases he with ⟨hb, rfl⟩ | ⟨hb, rfl⟩; rotate_left; exact ⟨rfl, Or.inr ⟨HNO.out, 5, by decide, rfl⟩, hB2.trans ((by assumption : _ ∧ _ ∧ _ ∧ _ ∧ _ ∧ _ ∧ _ ∧ _ ∧ _ ∧ _ ∧ _ ∧ Below _ _ _).2.2.2.2.2.2.2.2.2.2.2.mono hB2.size)⟩; have hbad := hide hb; clear hb))
    exact absurd hbad.out (by simp)
  | true =>
    have hot : 0 ≤ ot ∧ ot < (yn : Int) := by simpa using HOB.out.symm
    have HOT := hide hot
    clear hot
    go_region_held3 (fun W => W.cell? ⟨w.heap.size, 0, none⟩ = some (.int .i64 m) ∧ W.cell? ⟨w.heap.size, 1, none⟩ = some (.slice ga gn gc) ∧ W.cell? ⟨w.heap.size, 2, none⟩ = some (.slice sa sn sc) ∧ W.cell? ⟨w.heap.size, 3, none⟩ = some (.slice ya yn yc) ∧ W.cell? ⟨w.heap.size, 4, none⟩ = some (.slice oa on oc) ∧ W.cell? ⟨w.heap.size, 5, none⟩ = some (.slice va vn vc) ∧ W.cell? ⟨w.heap.size, 6, none⟩ = some (.slice fa fn fc) ∧ W.cell? ⟨w.heap.size, 7, none⟩ = some (.slice ba bn bc) ∧ W.cell? ⟨w.heap.size + 1, 0, none⟩ = some (.int .i64 3) ∧ W.cell? ⟨w.heap.size + 1, 2, none⟩ = some (.int .i64 ot) ∧ W.cell? ⟨w1.heap.size, 1, none⟩ = some (.bool true) ∧ Below (w1.alloc (.cells #[.bool true, .bool true, .bool false, .bool false, .bool false, .bool false] 201)).heap.size (w1.alloc (.cells #[.bool true, .bool true, .bool false, .bool false, .bool false, .bool false] 201)) W) (first | assumption | exact ⟨c0a, c1a, c2a, c3a, c4a, c5a, c6a, c7a, s0a, s2a, h1a, below_drewN hr0 1⟩ | exact held11 (by assumption) hbp | fail) (first | (go_at_call 153; refine (K4.out _).mono ?_; rintro e wp ⟨rfl, hbp⟩) | (go_at_call 109; refine (K3o.out _).mono ?_; rintro e wq ⟨rfl, rfl⟩) | (go_at_call 108; refine (must_ok 5 _).mono ?_; rintro e wq ⟨rfl, rfl⟩))
    have hb2 := (by assumption : _ ∧ _ ∧ _ ∧ _ ∧ _ ∧ _ ∧ _ ∧ _ ∧ _ ∧ _ ∧ _ ∧ Below _ _ _).2.2.2.2.2.2.2.2.2.2.2
    have hB3 := hB2.trans (hb2.mono hB2.size)
    have c0b := cell_over hb2 _ _ c0a
    have c1b := cell_over hb2 _ _ c1a
    have c2b := cell_over hb2 _ _ c2a
    have c3b := cell_over hb2 _ _ c3a
    have c4b := cell_over hb2 _ _ c4a
    have c5b := cell_over hb2 _ _ c5a
    have c6b := cell_over hb2 _ _ c6a
    have c7b := cell_over hb2 _ _ c7a
    have s0b := cell_over hb2 _ _ s0a
    have s1b := cell_over hb2 _ _ s1a
    have s2b := cell_over hb2 _ _ s2a
    have s3b := cell_over hb2 _ _ s3a
    have s4b := cell_over hb2 _ _ s4a
    have s5b := cell_over hb2 _ _ s5a
    have s6b := cell_over hb2 _ _ s6a
    have s7b := cell_over hb2 _ _ s7a
    have s8b := cell_over hb2 _ _ s8a
    have h0b := cell_over hb2 _ _ h0a
    have h1b := cell_over hb2 _ _ h1a
    have h2b := cell_over hb2 _ _ h2a
    have h3b := cell_over hb2 _ _ h3a
    have h4b := cell_over hb2 _ _ h4a
    have h5b := cell_over hb2 _ _ h5a
    clear hb2 hB2 hr0 c0a c1a c2a c3a c4a c5a c6a c7a s0a s1a s2a s3a s4a s5a s6a s7a s8a h0a h1a h2a h3a h4a h5a
    go_wp2_with fail
    refine (K2.out _ _ _).mono ?_
    rintro e wz ⟨he, rfl⟩
    have he2 : e = .returned (.tuple #[]) := by
      rcases he with ⟨_, he⟩ | ⟨he, _⟩
      · exact he
      · cases he
    subst he2
    clear he
    go_wp2_with fail
    refine (K2.out _ _ _).mono ?_
    rintro e wz ⟨he, rfl⟩
    have he2 : e = .returned (.tuple #[]) := by
      rcases he with ⟨_, he⟩ | ⟨he, _⟩
      · exact he
      · cases he
    subst he2
    clear he
    by_cases z1 : ek = 0
    rotate_left
    · have zb : (ek == 0) = false := by simpa using z1
      have HN := hide (N3.out (by omega))
      go_wp2_with fail
      refine (K2.out _ _ _).mono ?_
      rintro e wz ⟨he, rfl⟩
      have he2 : e = gaveW 1 := by
        rcases he with ⟨he, _⟩ | ⟨_, he⟩
        · cases he
        · exact he
      subst he2
      clear he
      unfold gaveW
      go_wp2_with fail
      exact ⟨rfl, Or.inr ⟨HN.out, 1, by decide, rfl⟩, hB3⟩
    have zb1 : (ek == 0) = true := by simpa using z1
    have HZ1 := hide z1
    clear z1
    by_cases z2 : en = 0
    rotate_left
    · have zb : (en == 0) = false := by simpa using z2
      have HN := hide (N3.out (by omega))
      go_wp2_with fail
      refine (K2.out _ _ _).mono ?_
      rintro e wz ⟨he, rfl⟩
      have he2 : e = gaveW 1 := by
        rcases he with ⟨he, _⟩ | ⟨_, he⟩
        · cases he
        · exact he
      subst he2
      clear he
      unfold gaveW
      go_wp2_with fail
      exact ⟨rfl, Or.inr ⟨HN.out, 1, by decide, rfl⟩, hB3⟩
    have zb2 : (en == 0) = true := by simpa using z2
    have HZ2 := hide z2
    clear z2
    go_wp2_with fail
    refine (K2.out _ _ _).mono ?_
    rintro e wz ⟨he, rfl⟩
    rcases he with ⟨hz, rfl⟩ | ⟨hz, rfl⟩
    rotate_left
    · skip
      first
        | have HN := hide (N1.out (by (try simp at hz); (try simp); omega))
        | have HN := hide (N2.out (by (try simp at hz); (try simp); omega))
        | have HN := hide (N3.out (by (try simp at hz); (try simp); omega))
        | have HN := hide (N4.out (by (try simp at hz); (try simp); omega))
        | have HN := hide (N5.out (by (try simp at hz); (try simp); omega))
        | have HN := hide (N6.out (by (try simp at hz); (try simp); omega))
      clear hz
      unfold gaveW
      go_wp2_with fail
      exact ⟨rfl, Or.inr ⟨HN.out, 1, by decide, rfl⟩, hB3⟩
    have hxl0 : xl = 0 := by simp at hz; omega
    have HXL := hide hxl0
    clear hz hxl0
    go_wp2_with fail
    refine (K2.out _ _ _).mono ?_
    rintro e wz ⟨he, rfl⟩
    rcases he with ⟨hargs, rfl⟩ | ⟨hz, rfl⟩
    rotate_left
    · skip
      first
        | have HN := hide (N1.out (by (try simp at hz); (try simp); omega))
        | have HN := hide (N2.out (by (try simp at hz); (try simp); omega))
        | have HN := hide (N3.out (by (try simp at hz); (try simp); omega))
        | have HN := hide (N4.out (by (try simp at hz); (try simp); omega))
        | have HN := hide (N5.out (by (try simp at hz); (try simp); omega))
        | have HN := hide (N6.out (by (try simp at hz); (try simp); omega))
      clear hz
      unfold gaveW
      go_wp2_with fail
      exact ⟨rfl, Or.inr ⟨HN.out, 1, by decide, rfl⟩, hB3⟩
    have hal0 : al = 0 := by simp at hargs; omega
    subst hal0
    clear hargs
    go_wp2_with fail
    refine (K2.out _ _ _).mono ?_
    rintro e wz ⟨he, rfl⟩
    rcases he with ⟨hz, rfl⟩ | ⟨hz, rfl⟩
    rotate_left
    · skip
      first
        | have HN := hide (N1.out (by (try simp at hz); (try simp); omega))
        | have HN := hide (N2.out (by (try simp at hz); (try simp); omega))
        | have HN := hide (N3.out (by (try simp at hz); (try simp); omega))
        | have HN := hide (N4.out (by (try simp at hz); (try simp); omega))
        | have HN := hide (N5.out (by (try simp at hz); (try simp); omega))
        | have HN := hide (N6.out (by (try simp at hz); (try simp); omega))
      clear hz
      unfold gaveW
      go_wp2_with fail
      exact ⟨rfl, Or.inr ⟨HN.out, 1, by decide, rfl⟩, hB3⟩
    have HZ_1 := hide hz
    clear hz
    go_wp2_with fail
    refine (K2.out _ _ _).mono ?_
    rintro e wz ⟨he, rfl⟩
    rcases he with ⟨hz, rfl⟩ | ⟨hz, rfl⟩
    rotate_left
    · skip
      first
        | have HN := hide (N1.out (by (try simp at hz); (try simp); omega))
        | have HN := hide (N2.out (by (try simp at hz); (try simp); omega))
        | have HN := hide (N3.out (by (try simp at hz); (try simp); omega))
        | have HN := hide (N4.out (by (try simp at hz); (try simp); omega))
        | have HN := hide (N5.out (by (try simp at hz); (try simp); omega))
        | have HN := hide (N6.out (by (try simp at hz); (try simp); omega))
      clear hz
      unfold gaveW
      go_wp2_with fail
      exact ⟨rfl, Or.inr ⟨HN.out, 1, by decide, rfl⟩, hB3⟩
    have HZ_2 := hide hz
    clear hz
    go_wp2_with fail
    go_quiet ((go_at_call 108; exact Calls.quiet_of_same (must_ok _ _)))
    have c0q := cellN (n := nq) c0b
    have c1q := cellN (n := nq) c1b
    have c2q := cellN (n := nq) c2b
    have c3q := cellN (n := nq) c3b
    have c4q := cellN (n := nq) c4b
    have c5q := cellN (n := nq) c5b
    have c6q := cellN (n := nq) c6b
    have c7q := cellN (n := nq) c7b
    have s0q := cellN (n := nq) s0b
    have s1q := cellN (n := nq) s1b
    have s2q := cellN (n := nq) s2b
    have s3q := cellN (n := nq) s3b
    have s4q := cellN (n := nq) s4b
    have s5q := cellN (n := nq) s5b
    have s6q := cellN (n := nq) s6b
    have s7q := cellN (n := nq) s7b
    have s8q := cellN (n := nq) s8b
    have h0q := cellN (n := nq) h0b
    have h1q := cellN (n := nq) h1b
    have h2q := cellN (n := nq) h2b
    have h3q := cellN (n := nq) h3b
    have h4q := cellN (n := nq) h4b
    have h5q := cellN (n := nq) h5b
    have hBq := below_drewN hB3 nq
    clear c0b c1b c2b c3b c4b c5b c6b c7b s0b s1b s2b s3b s4b s5b s6b s7b s8b h0b h1b h2b h3b h4b h5b
    go_wp2_with fail
    go_loopw [138] (fun i wr => i = .int .i64 0 ∧ Below w.heap.size w wr) (fun _ _ => 0)
    case atStart => exact ⟨rfl, hBq⟩
    case round =>
      obtain ⟨rfl, hB⟩ := hrel
      go_wp2_with fail
      go_end0
      refine ⟨Or.inl ⟨HQ.out ⟨?_, ?_, ?_, ?_, ?_, ?_⟩, rfl⟩, hB⟩
      all_goals first | trivial | exact HVAR.out | exact HOT.out | exact HEX.out | exact ⟨HZ1.out, HZ2.out, HXL.out⟩ | (have hq := HZ_1.out; simp at hq; omega) | (have hq := HZ_2.out; simp at hq; omega) | omega
end Go.Proofs.Ytcbbjjenkommeaa.Ex.Ey
