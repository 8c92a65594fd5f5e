/- scope.Check of any program: just when all is right. -/
import Derived.Test.YtcbbjjenkommeaaM10
import Derived.Deep.CutRange
import Derived.Deep.SlicePairs
import Derived.Maps.AppendAt
namespace Go.Proofs.Ytcbbjjenkommeaa.Ex.Ey
open Go.RowKit
set_option linter.unusedVariables false
/-- what a check says: that all is right, just if it is. -/
def Said (ok : Prop) (w : World) (f : Int → Value) (e : Ending) (w' : World) : Prop := ∃ why : Int, e = .returned (f why) ∧ (why = 0 ↔ ok) ∧ Below w.heap.size w w'

set_option maxHeartbeats 1000000 in
set_option maxRecDepth 100000 in
theorem caught_any (K kf : Nat) (m : Int) (ga : Option Addr) (gn gc : Nat) (sa : Option Addr) (sn sc : Nat) (ya : Option Addr) (yn yc : Nat) (oa : Option Addr) (on oc : Nat) (va : Option Addr) (vn vc : Nat) (fa : Option Addr) (fn fc : Nat) (ba : Option Addr) (bn bc : Nat) (gs : List (Int × Int)) (sp : List Int) (ls ms : List Lab) (vs : List (Bool × Lab)) (fs : List FnD) (l : List D) (w : World) (h : ProgAt K kf m ga gn gc sa sn sc ya yn yc oa on oc va vn vc fa fn fc ba bn bc gs sp ls ms vs fs l w) :
    Calls Try.prog 71 #[.func (.func 72) #[.agg #[.int .i64 m, .slice ga gn gc, .slice sa sn sc, .slice ya yn yc, .slice oa on oc, .slice va vn vc, .slice fa fn fc, .slice ba bn bc]] #[]] w (Said (xP K kf m vn yn on sn gs sp ls ms vs fs l) w fun why => .tuple #[.int .i64 0, .int .i64 why]) := by
  have hmf : ∀ (fn : Fn) (first cap : Array Value) (w : World), (Instr.makeFunc fn first cap).run Try.prog w = .ok (.func fn first cap) w := fun _ _ _ _ => rfl
  have HC : ∀ (args : Array Value) (w : World), (callFunc 72 args).run Try.prog w = .ok (.enter 72 args) w := fun args w => by simp [go_sem]
  have hbel : Below w.heap.size w ((w.alloc (.cells #[.int .i64 0] 3)).alloc (.cells #[.int .i64 0] 26)) := ((Below.refl _ w).alloc (Nat.le_refl _) _).alloc (by simp) _
  have K := hide (checkG_any K kf m ga gn gc sa sn sc ya yn yc oa on oc va vn vc fa fn fc ba bn bc gs sp ls ms vs fs l _ (h.over hbel))
  have q0 : ((w.alloc (.cells #[.int .i64 0] 3)).alloc (.cells #[.int .i64 0] 26)).cell? ⟨w.heap.size, 0, none⟩ = some (.int .i64 0) := by simp [go_sem]
  have q1 : ((w.alloc (.cells #[.int .i64 0] 3)).alloc (.cells #[.int .i64 0] 26)).cell? ⟨w.heap.size + 1, 0, none⟩ = some (.int .i64 0) := by simp [go_sem]
  have z0 : ((w.alloc (.cells #[.int .i64 0] 3)).alloc (.cells #[.int .i64 0] 26)).frozen? ⟨w.heap.size, 0, none⟩ = false := by simp [go_sem]
  have z1 : ((w.alloc (.cells #[.int .i64 0] 3)).alloc (.cells #[.int .i64 0] 26)).frozen? ⟨w.heap.size + 1, 0, none⟩ = false := by simp [go_sem]
  clear h
  go_enter_defers Try.func71, Try.ntmps71
  go_wp2_with fail
  refine (K.out).mono ?_
  rintro e w1 ⟨he, hb1⟩
  obtain ⟨hc, hf⟩ := bcell hb1
  have hB1 := hbel.trans (hb1.mono hbel.size)
  have p0 := cell_over hb1 _ _ q0
  have p1 := cell_over hb1 _ _ q1
  have y0 := (hf w.heap.size 0 (by simp; omega)).trans z0
  have y1 := (hf (w.heap.size + 1) 0 (by simp)).trans z1
  have g1 : w.heap.size + 1 < w1.heap.size := World.block_lt_of_cell? w1 _ p1
  have g0 : w.heap.size < w1.heap.size := by omega
  clear hc hf q0 q1 z0 z1 hb1 K hbel
  rcases he with ⟨hok, rfl⟩ | ⟨hng, why, hne, rfl⟩
  · have HOK := hide hok
    clear hok
    go_wp2_with fail
    refine leaves_cons (f := 106) (args := #[.pointer (some ⟨w.heap.size, 0, none⟩), .pointer (some ⟨w.heap.size + 1, 0, none⟩)]) (by simp) (by simp [go_sem]) ?_
    refine (catch_idle _ _ _).mono ?_
    rintro e u' w2 ⟨rfl, rfl, rfl⟩
    have d0 : ((w1.setCell ⟨w.heap.size, 0, none⟩ (.int .i64 0)).setCell ⟨w.heap.size + 1, 0, none⟩ (.int .i64 0)).cell? ⟨w.heap.size, 0, none⟩ = some (.int .i64 0) := by simp [go_sem, p0]
    have d1 : ((w1.setCell ⟨w.heap.size, 0, none⟩ (.int .i64 0)).setCell ⟨w.heap.size + 1, 0, none⟩ (.int .i64 0)).cell? ⟨w.heap.size + 1, 0, none⟩ = some (.int .i64 0) := by simp [go_sem, p1]
    have hbb : Below w.heap.size w ((w1.setCell ⟨w.heap.size, 0, none⟩ (.int .i64 0)).setCell ⟨w.heap.size + 1, 0, none⟩ (.int .i64 0)) := (hB1.setCell (by simp) _).setCell (by simp) _
    generalize ((w1.setCell ⟨w.heap.size, 0, none⟩ (.int .i64 0)).setCell ⟨w.heap.size + 1, 0, none⟩ (.int .i64 0)) = wF at d0 d1 hbb ⊢
    simp [Leaves, settle, results, Try.results71, go_sem, d0, d1]
    exact ⟨0, rfl, ⟨fun _ => HOK.out, fun _ => rfl⟩, hbb⟩
  · have HNG := hide hng
    clear hng
    unfold gaveW
    go_wp2_with fail
    refine leaves_cons (f := 106) (args := #[.pointer (some ⟨w.heap.size, 0, none⟩), .pointer (some ⟨w.heap.size + 1, 0, none⟩)]) (by simp) (by simp [go_sem]) ?_
    refine (catch_gave w.heap.size 0 0 _ _ [] _ (by omega) p0 p1 y0 y1).mono ?_
    rintro e u' w2 ⟨rfl, rfl, d0, d1, hb2⟩
    have hbb : Below w.heap.size w w2 := hB1.trans hb2
    simp [Leaves, settle, results, Try.results71, go_sem, d0, d1]
    exact ⟨why, rfl, ⟨fun h => absurd h hne, fun h => absurd h HNG.out⟩, hbb⟩

set_option maxHeartbeats 1000000 in
set_option maxRecDepth 100000 in
theorem scopeCheck_any (K kf : Nat) (m : Int) (ga : Option Addr) (gn gc : Nat) (sa : Option Addr) (sn sc : Nat) (ya : Option Addr) (yn yc : Nat) (oa : Option Addr) (on oc : Nat) (va : Option Addr) (vn vc : Nat) (fa : Option Addr) (fn fc : Nat) (ba : Option Addr) (bn bc : Nat) (gs : List (Int × Int)) (sp : List Int) (ls ms : List Lab) (vs : List (Bool × Lab)) (fs : List FnD) (l : List D) (w : World) (h : ProgAt K kf m ga gn gc sa sn sc ya yn yc oa on oc va vn vc fa fn fc ba bn bc gs sp ls ms vs fs l w) :
    Calls Try.prog 36 #[.agg #[.int .i64 m, .slice ga gn gc, .slice sa sn sc, .slice ya yn yc, .slice oa on oc, .slice va vn vc, .slice fa fn fc, .slice ba bn bc]] w (Said (xP K kf m vn yn on sn gs sp ls ms vs fs l) w fun why => .int .i64 why) := by
  have hbel : Below w.heap.size w ((w.alloc (.cells #[.int .i64 m, .slice ga gn gc, .slice sa sn sc, .slice ya yn yc, .slice oa on oc, .slice va vn vc, .slice fa fn fc, .slice ba bn bc] 41)).alloc (.cells #[.int .i64 m, .slice ga gn gc, .slice sa sn sc, .slice ya yn yc, .slice oa on oc, .slice va vn vc, .slice fa fn fc, .slice ba bn bc] 125)) := ((Below.refl _ w).alloc (Nat.le_refl _) _).alloc (by simp) _
  have K := hide (caught_any K kf m ga gn gc sa sn sc ya yn yc oa on oc va vn vc fa fn fc ba bn bc gs sp ls ms vs fs l _ (h.over hbel))
  clear h
  go_enter Try.func36, Try.ntmps36
  go_wp2_with fail
  refine (K.out).mono ?_
  rintro e w1 ⟨why, rfl, hok, hb1⟩
  have hB1 := hbel.trans (hb1.mono hbel.size)
  have HOK := hide hok
  clear hbel hb1 K hok
  go_wp2_with fail
  go_ret
  exact ⟨why, rfl, HOK.out, hB1⟩
end Go.Proofs.Ytcbbjjenkommeaa.Ex.Ey
namespace Go.Proofs.Ytcbbjjenkommeaa.Ex
open Go.RowKit
set_option linter.unusedVariables false
/-- the one block that turns while levels are tried. -/
def XF (bm : Nat) : World → Nat → Prop := fun _ k => k = bm
theorem xfOk (bm : Nat) : XOk (XF bm) := ⟨fun _ _ _ _ h => h⟩
structure FitI (c : WC) (w0 : World) (L : ISt) (nv nf bw bm : Nat) (b : Bool) (W : World) : Prop where
  below : Below w0.heap.size w0 W
  vs : IsLevsO c.n (XF bm) W (.slice c.la c.ln c.lc) L.vs
  fs : IsLevsO c.n (XF bm) W (.slice c.ka c.kn c.kc) L.fs
  lv : L.vs.length = nv
  lf : L.fs.length = nf
  more : W.cell? ⟨bm, 0, none⟩ = some (.bool b)
  mz : W.frozen? ⟨bm, 0, none⟩ = false
  row : RowAt c.cs W bw
theorem FitI.over {c : WC} {w0 : World} {L : ISt} {nv nf bw bm : Nat} {b : Bool} {W W' : World} (h : FitI c w0 L nv nf bw bm b W) (hb : Below W.heap.size W W') : FitI c w0 L nv nf bw bm b W' :=
  ⟨over_trans h.below hb, h.vs.over (xfOk bm) hb, h.fs.over (xfOk bm) hb, h.lv, h.lf, cell_over hb _ _ h.more, ((bcell hb).2 _ _ (World.block_lt_of_cell? W _ h.more)).trans h.mz, h.row.over hb⟩
theorem FitI.lev {c : WC} {w0 : World} {L : ISt} {nv nf bw bm b off : Nat} {f : Bool} {W : World} {i : Bool × Nat} (h : FitI c w0 L nv nf bw bm f W) (hib : (if i.1 = true then c.la else c.ka) = some ⟨b, off, none⟩) (h1 : i.1 = true → i.2 < nv) (h2 : i.1 = false → i.2 < nf) :
    ∃ rv wv, W.cell? ⟨b, off + i.2 * 2, none⟩ = some rv ∧ W.cell? ⟨b, off + i.2 * 2 + 1, none⟩ = some wv ∧ LevO c.n (XF bm) W (.agg #[rv, wv]) (L.at i) := by
  unfold ISt.at
  by_cases hi : i.1 = true
  · rw [if_pos hi] at hib ⊢
    have hlt := h1 hi
    obtain ⟨ao, cap, hv, hel⟩ := h.vs
    injection hv with v1 v2 v3
    obtain ⟨b', o', hb', hel⟩ := hel (by intro e; have := h.lv; rw [e] at this; simp at this; omega)
    rw [← v1, hib] at hb'
    injection hb' with hb'
    injection hb' with hb1 hb2
    subst hb1 hb2
    have hlt2 : i.2 < L.vs.length := by have := h.lv; omega
    obtain ⟨rv, wv, c0, c1, hl⟩ := hel i.2 hlt2
    refine ⟨rv, wv, c0, c1, ?_⟩
    have e : L.vs.getD i.2 noLev = L.vs[i.2] := by simp [List.getD_eq_getElem?_getD, hlt2]
    rw [e]
    exact hl
  · rw [if_neg hi] at hib ⊢
    have hlt := h2 (by simpa using hi)
    obtain ⟨ao, cap, hv, hel⟩ := h.fs
    injection hv with v1 v2 v3
    obtain ⟨b', o', hb', hel⟩ := hel (by intro e; have := h.lf; rw [e] at this; simp at this; omega)
    rw [← v1, hib] at hb'
    injection hb' with hb'
    injection hb' with hb1 hb2
    subst hb1 hb2
    have hlt2 : i.2 < L.fs.length := by have := h.lf; omega
    obtain ⟨rv, wv, c0, c1, hl⟩ := hel i.2 hlt2
    refine ⟨rv, wv, c0, c1, ?_⟩
    have e : L.fs.getD i.2 noLev = L.fs[i.2] := by simp [List.getD_eq_getElem?_getD, hlt2]
    rw [e]
    exact hl
def sm1 : D := sD 3 0 0 (xD 0 0 []) [] [] []
def sm2 : D := sD 4 0 0 (xD 2 0 []) [] [] []
theorem i64_small (n : Int) (h : 0 ≤ n) (h2 : n ≤ 100) : In64 n := ⟨by omega, by omega⟩
theorem xs_nil {s : Nat} {R : List Value → D → Prop} {w : World} : XS s R w (.slice none 0 0) [] := ⟨Nat.zero_le _, none, 0, rfl, fun h => absurd rfl h⟩
theorem pols_nil {w : World} : IsPols w (.slice none 0 0) [] := ⟨none, 0, rfl, fun h => absurd rfl h⟩
theorem smallProg {bi bo bv bm : Nat} {w : World} (h : Small bi bo bv bm w) : ProgAt 1 1 1 none 0 0 none 0 0 (some ⟨bi, 0, none⟩) 1 1 (some ⟨bo, 0, none⟩) 1 1 (some ⟨bv, 0, none⟩) 1 1 none 0 0 (some ⟨bm, 0, none⟩) 2 2 [] [] [⟨[], []⟩] [⟨[], []⟩] [(false, ⟨[], []⟩)] [] [sm1, sm2] w := by
  have hlab : ∀ b, RowAt [.slice none 0 0, .slice none 0 0] w b → LabsAt w (.slice (some ⟨b, 0, none⟩) 1 1) [⟨[], []⟩] := fun b hr => by
    refine ⟨by simp [maxLen], some ⟨b, 0, none⟩, 1, rfl, fun _ => ⟨b, 0, rfl, fun i hi => ?_⟩⟩
    have : i = 0 := by simp at hi; omega
    subst this
    exact ⟨_, _, hr 0 _ rfl, hr 1 _ rfl, pols_nil, pols_nil⟩
  refine ⟨i64_small 1 (by omega) (by omega), ⟨none, 0, rfl, fun h => absurd rfl h⟩, ⟨none, 0, rfl, fun h => absurd rfl h⟩, by simp, hlab _ h.ins, hlab _ h.outs, ?_, ?_, ?_, fun h => absurd h (by simp), fun h => absurd h (by simp)⟩
  · refine ⟨by simp [maxLen], some ⟨bv, 0, none⟩, 1, rfl, fun _ => ⟨bv, 0, rfl, fun i hi => ?_⟩⟩
    have : i = 0 := by simp at hi; omega
    subst this
    exact ⟨_, _, h.vars 0 _ rfl, h.vars 1 _ rfl, h.vars 2 _ rfl, pols_nil, pols_nil⟩
  · exact ⟨by simp, none, 0, rfl, fun h => absurd rfl h⟩
  · refine ⟨by simp [maxLen], some ⟨bm, 0, none⟩, 2, rfl, fun _ => ⟨bm, 0, rfl, fun i d hd => ?_⟩⟩
    match i, hd with
    | 0, hd =>
      simp at hd
      subst hd
      refine ⟨mainCells.take 9, rfl, fun j u hu => ?_, 3, 0, 0, _, _, _, xD 0 0 [], _, [], _, [], _, [], rfl, rfl, i64_small _ (by omega) (by omega), i64_small _ (by omega) (by omega), i64_small _ (by omega) (by omega), ⟨0, 0, _, [], rfl, rfl, i64_small _ (by omega) (by omega), i64_small _ (by omega) (by omega), xs_nil⟩, xs_nil, xs_nil, xs_nil⟩
      rw [List.getElem?_take] at hu
      split at hu
      · have := h.main j u hu
        simpa using this
      · cases hu
    | 1, hd =>
      simp at hd
      subst hd
      refine ⟨mainCells.drop 9, rfl, fun j u hu => ?_, 4, 0, 0, _, _, _, xD 2 0 [], _, [], _, [], _, [], rfl, rfl, i64_small _ (by omega) (by omega), i64_small _ (by omega) (by omega), i64_small _ (by omega) (by omega), ⟨2, 0, _, [], rfl, rfl, i64_small _ (by omega) (by omega), i64_small _ (by omega) (by omega), xs_nil⟩, xs_nil, xs_nil, xs_nil⟩
      rw [List.getElem?_drop] at hu
      have := h.main (9 + j) u hu
      simpa [Nat.add_assoc] using this
    | i + 2, hd => simp at hd
theorem sm_chk : checkX ((1 : Nat) : Int) 1 (sExpr sm2) = 0 := by
  simp [checkX, sm2, errX, listX, partsX, addParts, firstX, xD, kindOf, numOf, argsOf]
theorem sm1_ok : okS1 1 1 1 1 (([] : List FnD).length : Int) [] sm1 := by
  unfold okS1
  simp [sm1, xD, kindOf, argsOf]
theorem sm2_ok : okS1 1 1 1 1 (([] : List FnD).length : Int) [] sm2 := by
  have h := sm_chk
  unfold okS1
  have e : sKind sm2 = 4 := rfl
  have e2 : sOther sm2 = 0 := rfl
  rw [e, e2]
  exact ⟨by decide, fun h => absurd h (by decide), fun h => absurd h (by decide), fun h => absurd h (by decide), fun _ => h, fun h => absurd h (by decide), fun _ => by decide⟩
theorem smallOk : okP 1 1 1 1 1 1 [] [] [⟨[], []⟩] [⟨[], []⟩] [(false, ⟨[], []⟩)] [] [sm1, sm2] := by
  refine ⟨rfl, by simp, ⟨?_, ?_, ?_⟩, by omega, by omega, by omega, by simp, by decide, fun i h => absurd h (by simp), ?_⟩
  · intro b hb
    simp at hb
    subst hb
    rfl
  · intro v hv
    simp at hv
    subst hv
    rfl
  · intro v hv _
    simp at hv
    subst hv
    exact ⟨rfl, rfl⟩
  · intro s hs
    simp at hs
    rcases hs with rfl | rfl
    · exact ⟨sm1_ok, fun s hs => absurd hs (by simp [sm1]), fun s hs => absurd hs (by simp [sm1])⟩
    · exact ⟨sm2_ok, fun s hs => absurd hs (by simp [sm2]), fun s hs => absurd hs (by simp [sm2])⟩
theorem smallX : Ey.xP 1 1 1 1 1 1 0 [] [] [⟨[], []⟩] [⟨[], []⟩] [(false, ⟨[], []⟩)] [] [sm1, sm2] := by
  refine ⟨smallOk.chk, by simp, smallOk.speak, smallOk.labs, ⟨by have := smallOk.many; omega, fun f hf => absurd hf (by simp), ?_⟩, fun i h => absurd h (by simp), ?_⟩
  · intro s hs
    simp at hs
    rcases hs with rfl | rfl
    · exact ⟨by omega, fun s hs => absurd hs (by simp [sm1]), fun s hs => absurd hs (by simp [sm1])⟩
    · exact ⟨by omega, fun s hs => absurd hs (by simp [sm2]), fun s hs => absurd hs (by simp [sm2])⟩
  · intro s hs
    simp at hs
    rcases hs with rfl | rfl
    · exact ⟨⟨sm1_ok, fun _ => rfl, fun _ => rfl, fun _ => rfl, fun _ => rfl, fun _ => rfl, fun _ => rfl⟩, fun s hs => absurd hs (by simp [sm1]), fun s hs => absurd hs (by simp [sm1])⟩
    · exact ⟨⟨sm2_ok, fun _ => rfl, fun _ => rfl, fun h => absurd h (by decide), fun _ => rfl, fun _ => rfl, fun _ => rfl⟩, fun s hs => absurd hs (by simp [sm2]), fun s hs => absurd hs (by simp [sm2])⟩
theorem RightI.more {n nv nf : Nat} {known : List Bool} {L : List Lev} {st : ISt} (h : RightI n nv nf known L st) (b : Bool) : RightI n nv nf known L ⟨st.vs, st.fs, b⟩ := ⟨h.lv, h.lf, h.rv, h.rf, h.kn⟩
end Go.Proofs.Ytcbbjjenkommeaa.Ex
namespace Go.Proofs.Ytcbbjjenkommeaa
open Go.RowKit
set_option linter.unusedVariables false
attribute [local go_sem ↓] Go.wp_at_zero Go.wp_at_succ

def lv : Lev := ⟨[false, true], [true, true]⟩
def mv : Lev := ⟨[true, true], [true, true]⟩
end Go.Proofs.Ytcbbjjenkommeaa
namespace Go.Proofs.Ytcbbjjenkommeaa.Ex
open Go.RowKit
set_option linter.unusedVariables false
/-- a row of one's own, made since, whose levels lay there already. -/
def ApL (W0 W : World) (v : Value) (Ls : List Lev) : Prop :=
  ∃ us : List Value, W.ownsRow W0.heap.size 62 2 v Ls.length us ∧ ∀ i (h : i < Ls.length), ∃ x y, us[i * 2]? = some x ∧ us[i * 2 + 1]? = some y ∧ LevAt W0 (.agg #[x, y]) Ls[i]
theorem ApL.keep {W0 W W' : World} {v : Value} {Ls : List Lev} {row : Option Nat} (h : ApL W0 W v Ls) (hg : W.grownBy W' row) (ha : v.ownBlock = none ∨ v.ownBlock ≠ row) : ApL W0 W' v Ls := by
  obtain ⟨us, ho, hel⟩ := h
  exact ⟨us, ho.kept hg ha, hel⟩
theorem ApL.over {W0 W W' : World} {v : Value} {Ls : List Lev} (h : ApL W0 W v Ls) (hb : Below W.heap.size W W') : ApL W0 W' v Ls :=
  h.keep (row := none) ⟨hb.os, hb.tape, hb.output, hb.size, fun k hk _ => hb.block k hk⟩ (by cases v.ownBlock <;> simp)
end Go.Proofs.Ytcbbjjenkommeaa.Ex
namespace Go.Proofs.Ytcbbjjenkommeaa.Ex
open Go.RowKit Go.ChangeShapes Go.WideShapes
set_option linter.unusedVariables false
theorem Try.cells25 : Try.prog.cellsOf 25 = 1 := by kernel_rfl
theorem Try.cells26 : Try.prog.cellsOf 36 = 1 := by kernel_rfl
theorem Try.cells27 : Try.prog.cellsOf 37 = 1 := by kernel_rfl
theorem Try.cells28 : Try.prog.cellsOf 38 = 1 := by kernel_rfl
theorem Try.cells29 : Try.prog.cellsOf 39 = 1 := by kernel_rfl
theorem Try.cells22 : Try.prog.cellsOf 33 = 1 := by kernel_rfl
theorem Try.cells52 : Try.prog.cellsOf 22 = 1 := by kernel_rfl
theorem Try.cells65 : Try.prog.cellsOf 100 = 1 := by kernel_rfl
theorem Try.cells4 : Try.prog.cellsOf 4 = 1 := by kernel_rfl
theorem Try.cells3' : Try.prog.cellsOf 3 = 1 := by kernel_rfl
theorem Try.cells24 : Try.prog.cellsOf 35 = 2 := by kernel_rfl
theorem Try.cells54 : Try.prog.cellsOf 24 = 3 := by kernel_rfl
theorem Try.cells67 : Try.prog.cellsOf 102 = 2 := by kernel_rfl
theorem Try.cells122 : Try.prog.cellsOf 143 = 2 := by kernel_rfl
theorem Try.cells71 : Try.prog.cellsOf 78 = 9 := by kernel_rfl
theorem Try.cells80 : Try.prog.cellsOf 133 = 5 := by kernel_rfl
theorem Try.cells69 : Try.prog.cellsOf 120 = 3 := by kernel_rfl
theorem Try.cells101 : Try.prog.cellsOf 141 = 2 := by kernel_rfl
theorem Try.cells31 : Try.prog.cellsOf 41 = 8 := by kernel_rfl

/-- a list lies in memory, each element by itself. -/
def LAt {α : Type} (s : Nat) (R : List Value → α → Prop) (W : World) (v : Value) (ds : List α) : Prop :=
  ds.length ≤ maxLen ∧ ∃ ao cap, v = .slice ao ds.length cap ∧ ds.length ≤ cap ∧ cap ≤ maxLen ∧ (ao = none → cap = 0) ∧ (ds ≠ [] → ∃ b off, ao = some ⟨b, off, none⟩ ∧
    ∀ (i : Nat) (d : α), ds[i]? = some d → ∃ cs : List Value, cs.length = s ∧ (∀ (j : Nat) (u : Value), cs[j]? = some u → W.cell? ⟨b, off + i * s + j, none⟩ = some u) ∧ R cs d)

section
variable {H : Type} {enc : TypeId × Value → H} {W : World}

theorem open_list {α : Type} {TS E s : Nat} (hU : Try.prog.underlying TS = some (.slice E)) (hc : Try.prog.cellsOf E = s) (hs : 0 < s) {fuel : Nat} {v : Value} {x : DataW H × List MemPlace} (h : DataW.trod enc Try.prog W 0 (fun _ => true) true fuel TS [v] = some x)
    (d0 : α) (R : List Value → α → Prop) (hel : ∀ (m : Nat) (cs : List Value) (y : DataW H × List MemPlace), m < fuel → DataW.trod enc Try.prog W 0 (fun _ => true) true m E cs = some y → ∃ d, R cs d) : ∃ ds : List α, LAt s R W v ds := by
  haveI : Inhabited α := ⟨d0⟩
  rcases DataW.trod_slice hU h with ⟨hcs, -⟩ | ⟨ad, len, cap, elems, rest, m, rfl, hcs, -, -, hlc, hcm, hen, hat, -, -⟩
  · simp at hcs
    subst hcs
    exact ⟨[], by simp, none, 0, rfl, by simp, by unfold maxLen; omega, fun _ => rfl, fun h => absurd rfl h⟩
  · simp at hcs
    subst hcs
    rw [hc] at hat
    have hget : ∀ i, i < len → ∃ d : α, ∃ cs : List Value, cs.length = s ∧ (∀ (j : Nat) (u : Value), cs[j]? = some u → W.cell? (ad.add (i * s + j)) = some u) ∧ R cs d := fun i hi => by
      have hi2 := hat i hi
      rw [List.getElem?_eq_getElem (by omega), Option.bind_eq_some_iff] at hi2
      obtain ⟨cs, hcc, ht⟩ := hi2
      obtain ⟨-, hlen, hcell⟩ := World.cells?_some hcc
      obtain ⟨d, hd⟩ := hel m cs _ (Nat.lt_succ_self _) ht
      refine ⟨d, cs, hlen, fun j u hu => ?_, hd⟩
      have hj : j < s := by have := (List.getElem?_eq_some_iff.1 hu).1; omega
      have hk := hcell j hj
      rw [hu] at hk
      rw [Addr.add_add] at hk
      exact hk
    obtain ⟨f, hf⟩ := Deep.choose_lt hget
    refine ⟨(List.range len).map f, by simp; omega, some ad, cap, by simp, by simpa using hlc, hcm, fun h => absurd h (by simp), fun hne => ?_⟩
    have h0 : 0 < len := by
      rcases Nat.eq_zero_or_pos len with h | h
      · subst h; simp at hne
      · exact h
    have hp : ∃ b off, ad = ⟨b, off, none⟩ := by
      obtain ⟨cs, hl, hcl, -⟩ := hf 0 h0
      obtain ⟨u, hu⟩ : ∃ u, cs[0]? = some u := ⟨cs[0]'(by omega), List.getElem?_eq_getElem (by omega)⟩
      have hk := hcl 0 u hu
      have hsp : ad.spot = none := by simpa [Addr.add] using World.cell?_spot hk
      obtain ⟨b, off, sp⟩ := ad
      simp only at hsp
      subst hsp
      exact ⟨b, off, rfl⟩
    obtain ⟨bb, off, rfl⟩ := hp
    refine ⟨bb, off, rfl, fun i d hd => ?_⟩
    have hi : i < len := by
      have := (List.getElem?_eq_some_iff.1 hd).1
      simpa using this
    have hd' : d = f i := by
      rw [List.getElem?_map, List.getElem?_range hi] at hd
      simpa using hd.symm
    subst hd'
    obtain ⟨cs, hl, hcl, hr⟩ := hf i hi
    exact ⟨cs, hl, fun j u hu => by have := hcl j u hu; rw [Addr.add_lit] at this; simpa [Nat.add_assoc] using this, hr⟩

theorem intsOf {v : Value} {l : List Int} (h : LAt 1 (fun cs x => cs = [.int .i64 x]) W v l) : IsInts W v l := by
  obtain ⟨-, ao, cap, hv, -, -, -, hc⟩ := h
  refine ⟨ao, cap, hv, fun hne => ?_⟩
  obtain ⟨b, off, hb, hel⟩ := hc hne
  refine ⟨b, off, hb, fun i hi => ?_⟩
  obtain ⟨cs, -, hcs, rfl⟩ := hel i l[i] (List.getElem?_eq_getElem hi)
  have := hcs 0 _ rfl
  simpa using this
theorem open_int1 {m : Nat} {cs : List Value} {y : DataW H × List MemPlace} (h : DataW.trod enc Try.prog W 0 (fun _ => true) true m 3 cs = some y) : ∃ n : Int, cs = [.int .i64 n] ∧ In64 n := by
  obtain ⟨n, e, -, hw⟩ := DataW.trod_int Try.underlying3 h
  exact ⟨n, e, wf64 hw⟩
theorem open_intsL {fuel : Nat} {v : Value} {x : DataW H × List MemPlace} (h : DataW.trod enc Try.prog W 0 (fun _ => true) true fuel 25 [v] = some x) : ∃ l : List Int, LAt 1 (fun cs x => cs = [.int .i64 x]) W v l :=
  open_list Try.underlying25 Try.cells3' (by omega) h 0 _ fun m cs y _ hy => by obtain ⟨n, e, -⟩ := open_int1 hy; exact ⟨n, e⟩

set_option maxRecDepth 100000 in
theorem open_grantsL {fuel : Nat} {v : Value} {x : DataW H × List MemPlace} (h : DataW.trod enc Try.prog W 0 (fun _ => true) true fuel 33 [v] = some x) : ∃ l : List (Int × Int), IsGrants W v l := by
  obtain ⟨l, hl⟩ := open_list Try.underlying33 Try.cells101 (by omega) h (0, 0) (fun cs (x : Int × Int) => cs = [.int .i64 x.1, .int .i64 x.2]) fun m cs y _ hy => by
    obtain ⟨xs, n, rfl, -, hl, hxl, hf⟩ := DataW.trod_struct Try.underlying141 hy
    rw [Try.cells101] at hl
    match cs, hl, xs, hxl with
    | [c0, c1], _, [y0, y1], _ =>
      have h0 := hf 0 _ rfl
      have h1 := hf 1 _ rfl
      simp [Try.cells3'] at h0 h1
      obtain ⟨a, e0, -⟩ := open_int1 h0
      obtain ⟨b, e1, -⟩ := open_int1 h1
      simp at e0 e1
      subst e0
      subst e1
      exact ⟨(a, b), rfl⟩
  obtain ⟨-, ao, cap, hv, -, -, -, hc⟩ := hl
  refine ⟨l, ao, cap, hv, fun hne => ?_⟩
  obtain ⟨b, off, hb, hel⟩ := hc hne
  refine ⟨b, off, hb, fun i hi => ?_⟩
  obtain ⟨cs, -, hcs, rfl⟩ := hel i l[i] (List.getElem?_eq_getElem hi)
  exact ⟨hcs 0 _ rfl, hcs 1 _ rfl⟩

set_option maxRecDepth 100000 in
theorem open_polsL {fuel : Nat} {v : Value} {x : DataW H × List MemPlace} (h : DataW.trod enc Try.prog W 0 (fun _ => true) true fuel 100 [v] = some x) : ∃ l : List Pol, IsPols W v l := by
  obtain ⟨l, hl⟩ := open_list Try.underlying100 Try.cells122 (by omega) h ⟨0, []⟩ (fun cs (x : Pol) => ∃ u, cs = [.int .i64 x.owner, u] ∧ IsInts W u x.names) fun m cs y _ hy => by
    obtain ⟨xs, n, rfl, -, hl, hxl, hf⟩ := DataW.trod_struct Try.underlying143 hy
    rw [Try.cells122] at hl
    match cs, hl, xs, hxl with
    | [c0, c1], _, [y0, y1], _ =>
      have h0 := hf 0 _ rfl
      have h1 := hf 1 _ rfl
      simp [Try.cells3', Try.cells25] at h0 h1
      obtain ⟨a, e0, -⟩ := open_int1 h0
      simp at e0
      subst e0
      obtain ⟨ns, hns⟩ := open_intsL h1
      exact ⟨⟨a, ns⟩, c1, rfl, intsOf hns⟩
  obtain ⟨-, ao, cap, hv, -, -, -, hc⟩ := hl
  refine ⟨l, ao, cap, hv, fun hne => ?_⟩
  obtain ⟨b, off, hb, hel⟩ := hc hne
  refine ⟨b, off, hb, fun i hi => ?_⟩
  obtain ⟨cs, -, hcs, u, rfl, hu⟩ := hel i l[i] (List.getElem?_eq_getElem hi)
  exact ⟨hcs 0 _ rfl, u, hcs 1 _ rfl, hu⟩

set_option maxRecDepth 100000 in
theorem open_lab {m : Nat} {cs : List Value} {y : DataW H × List MemPlace} (h : DataW.trod enc Try.prog W 0 (fun _ => true) true m 102 cs = some y) : ∃ (l : Lab) (pr pw : Value), cs = [pr, pw] ∧ IsPols W pr l.r ∧ IsPols W pw l.w := by
  obtain ⟨xs, n, rfl, -, hl, hxl, hf⟩ := DataW.trod_struct Try.underlying102 h
  rw [Try.cells67] at hl
  match cs, hl, xs, hxl with
  | [c0, c1], _, [y0, y1], _ =>
    have h0 := hf 0 _ rfl
    have h1 := hf 1 _ rfl
    simp [Try.cells65] at h0 h1
    obtain ⟨a, ha⟩ := open_polsL h0
    obtain ⟨b, hb⟩ := open_polsL h1
    exact ⟨⟨a, b⟩, c0, c1, rfl, ha, hb⟩

theorem open_labsL {fuel : Nat} {ao : Option Addr} {n cap : Nat} {x : DataW H × List MemPlace} (h : DataW.trod enc Try.prog W 0 (fun _ => true) true fuel 36 [.slice ao n cap] = some x) : ∃ l : List Lab, LabsAt W (.slice ao n cap) l ∧ (ao = none → cap = 0) := by
  obtain ⟨l, hl⟩ := open_list Try.underlying36 Try.cells67 (by omega) h ⟨[], []⟩ (fun cs (l : Lab) => ∃ pr pw, cs = [pr, pw] ∧ IsPols W pr l.r ∧ IsPols W pw l.w) fun m cs y _ hy => open_lab hy
  obtain ⟨hm, ao', cap', hv, -, -, hz, hc⟩ := hl
  injection hv with e1 e2 e3
  subst e1 e2 e3
  refine ⟨l, ⟨hm, ao, cap, rfl, fun hne => ?_⟩, hz⟩
  obtain ⟨b, off, hb, hel⟩ := hc hne
  refine ⟨b, off, hb, fun i hi => ?_⟩
  obtain ⟨cs, -, hcs, pr, pw, rfl, h1, h2⟩ := hel i l[i] (List.getElem?_eq_getElem hi)
  exact ⟨pr, pw, hcs 0 _ rfl, hcs 1 _ rfl, h1, h2⟩

set_option maxRecDepth 100000 in
theorem open_varsL {fuel : Nat} {v : Value} {x : DataW H × List MemPlace} (h : DataW.trod enc Try.prog W 0 (fun _ => true) true fuel 37 [v] = some x) : ∃ l : List (Bool × Lab), VarsAt W v l := by
  obtain ⟨l, hl⟩ := open_list Try.underlying37 Try.cells69 (by omega) h (false, ⟨[], []⟩) (fun cs (l : Bool × Lab) => ∃ pr pw, cs = [.bool l.1, pr, pw] ∧ IsPols W pr l.2.r ∧ IsPols W pw l.2.w) fun m cs y _ hy => by
    obtain ⟨xs, n, rfl, -, hl, hxl, hf⟩ := DataW.trod_struct Try.underlying120 hy
    rw [Try.cells69] at hl
    match cs, hl, xs, hxl with
    | [c0, c1, c2], _, [y0, y1], _ =>
      have h0 := hf 0 _ rfl
      have h1 := hf 1 _ rfl
      simp [Try.cells4, Try.cells67] at h0 h1
      obtain ⟨b, e0, -⟩ := DataW.trod_bool Try.underlying4 h0
      simp at e0
      subst e0
      obtain ⟨lb, pr, pw, e1, h2, h3⟩ := open_lab h1
      simp at e1
      obtain ⟨rfl, rfl⟩ := e1
      exact ⟨(b, lb), c1, c2, rfl, h2, h3⟩
  obtain ⟨hm, ao, cap, hv, -, -, -, hc⟩ := hl
  refine ⟨l, hm, ao, cap, hv, fun hne => ?_⟩
  obtain ⟨b, off, hb, hel⟩ := hc hne
  refine ⟨b, off, hb, fun i hi => ?_⟩
  obtain ⟨cs, -, hcs, pr, pw, rfl, h1, h2⟩ := hel i l[i] (List.getElem?_eq_getElem hi)
  exact ⟨pr, pw, hcs 0 _ rfl, hcs 1 _ rfl, hcs 2 _ rfl, h1, h2⟩

theorem xsOf {s : Nat} {R : List Value → D → Prop} {v : Value} {l : List D} (h : LAt s R W v l) : XS s R W v l := by
  obtain ⟨hm, ao, cap, hv, -, -, -, hc⟩ := h
  exact ⟨hm, ao, cap, hv, hc⟩

set_option maxRecDepth 100000 in
theorem open_stmt (K : Nat) : ∀ (fuel : Nat) (cs : List Value) (x : DataW H × List MemPlace), fuel ≤ K → DataW.trod enc Try.prog W 0 (fun _ => true) true fuel 78 cs = some x → ∃ d, RS W K fuel cs d := by
  intro fuel
  induction fuel using Nat.strongRecOn with
  | ind fuel ih =>
    intro cs x hK h
    obtain ⟨xs, n, rfl, -, hl, hxl, hf⟩ := DataW.trod_struct Try.underlying78 h
    rw [Try.cells71] at hl
    match cs, hl, xs, hxl with
    | [c0, c1, c2, c3, c4, c5, c6, c7, c8], _, [y0, y1, y2, y3, y4, y5, y6], _ =>
      have h0 := hf 0 _ rfl
      have h1 := hf 1 _ rfl
      have h2 := hf 2 _ rfl
      have h3 := hf 3 _ rfl
      have h4 := hf 4 _ rfl
      have h5 := hf 5 _ rfl
      have h6 := hf 6 _ rfl
      simp [Try.cells3', Try.cells54, Try.cells52, Try.cells29] at h0 h1 h2 h3 h4 h5 h6
      obtain ⟨kd, e0, w0⟩ := open_int1 h0
      obtain ⟨va, e1, w1⟩ := open_int1 h1
      obtain ⟨ot, e2, w2⟩ := open_int1 h2
      simp at e0 e1 e2
      subst e0
      subst e1
      subst e2
      obtain ⟨e, he⟩ := open_expr n _ _ h3
      obtain ⟨ags, hA⟩ := open_list Try.underlying22 Try.cells54 (by omega) h4 (.agg []) (RX W K) fun m cs y hm hy => by
        obtain ⟨d, hd⟩ := open_expr m _ _ hy
        exact ⟨d, RX.mono (fun _ _ h => h) m K _ _ (by omega) hd⟩
      obtain ⟨ts, hT⟩ := open_list Try.underlying39 Try.cells71 (by omega) h5 (.agg []) (RS W K n) fun m cs y hm hy => by
        obtain ⟨d, hd⟩ := ih m (by omega) cs y (by omega) hy
        exact ⟨d, RS.mono (fun _ _ h => h) m n _ _ (by omega) hd⟩
      obtain ⟨es, hE⟩ := open_list Try.underlying39 Try.cells71 (by omega) h6 (.agg []) (RS W K n) fun m cs y hm hy => by
        obtain ⟨d, hd⟩ := ih m (by omega) cs y (by omega) hy
        exact ⟨d, RS.mono (fun _ _ h => h) m n _ _ (by omega) hd⟩
      exact ⟨sD kd va ot e ags ts es, kd, va, ot, c3, c4, c5, e, c6, ags, c7, ts, c8, es, rfl, rfl, w0, w1, w2, RX.mono (fun _ _ h => h) n K _ _ (by omega) he, xsOf hA, xsOf hT, xsOf hE⟩

theorem open_stmtsL (K : Nat) {fuel : Nat} {v : Value} {x : DataW H × List MemPlace} (hK : fuel ≤ K) (h : DataW.trod enc Try.prog W 0 (fun _ => true) true fuel 39 [v] = some x) : ∃ l, StmtsAt W K K v l := by
  obtain ⟨l, hl⟩ := open_list Try.underlying39 Try.cells71 (by omega) h (.agg []) (RS W K K) fun m cs y hm hy => by
    obtain ⟨d, hd⟩ := open_stmt K m cs y (by omega) hy
    exact ⟨d, RS.mono (fun _ _ h => h) m K _ _ (by omega) hd⟩
  exact ⟨l, xsOf hl⟩

set_option maxRecDepth 100000 in
theorem open_funcsL (K : Nat) {fuel : Nat} {v : Value} {x : DataW H × List MemPlace} (hK : fuel ≤ K) (h : DataW.trod enc Try.prog W 0 (fun _ => true) true fuel 38 [v] = some x) : ∃ l, FnsAt W K K v l := by
  obtain ⟨l, hl⟩ := open_list Try.underlying38 Try.cells80 (by omega) h ⟨[], [], .agg []⟩ (fun cs (f : FnD) => ∃ vP vB x0 x1 x2, cs = [vP, vB, x0, x1, x2] ∧ IsInts W vP f.ps ∧ PsOk vP f.ps ∧ StmtsAt W K K vB f.body ∧ RX W K [x0, x1, x2] f.res) fun m cs y hm hy => by
    obtain ⟨xs, n, rfl, -, hl, hxl, hf⟩ := DataW.trod_struct Try.underlying133 hy
    rw [Try.cells80] at hl
    match cs, hl, xs, hxl with
    | [c0, c1, c2, c3, c4], _, [y0, y1, y2], _ =>
      have h0 := hf 0 _ rfl
      have h1 := hf 1 _ rfl
      have h2 := hf 2 _ rfl
      simp [Try.cells25, Try.cells29, Try.cells54] at h0 h1 h2
      obtain ⟨ps, hps⟩ := open_intsL h0
      obtain ⟨bd, hbd⟩ := open_stmtsL K (by omega) h1
      obtain ⟨e, he⟩ := open_expr n _ _ h2
      refine ⟨⟨ps, bd, e⟩, c0, c1, c2, c3, c4, rfl, intsOf hps, ?_, hbd, RX.mono (fun _ _ h => h) n K _ _ (by omega) he⟩
      obtain ⟨hm2, ao, cap, hv, h5, h6, -⟩ := hps
      exact ⟨hm2, ao, cap, hv, h5, h6⟩
  obtain ⟨hm, ao, cap, hv, -, -, -, hc⟩ := hl
  refine ⟨l, hm, ao, cap, hv, fun hne => ?_⟩
  obtain ⟨b, off, hb, hel⟩ := hc hne
  refine ⟨b, off, hb, fun i hi => ?_⟩
  obtain ⟨cs, -, hcs, vP, vB, x0, x1, x2, rfl, h1, h2, h3, h4⟩ := hel i l[i] (List.getElem?_eq_getElem hi)
  exact ⟨vP, vB, x0, x1, x2, hcs 0 _ rfl, hcs 1 _ rfl, hcs 2 _ rfl, hcs 3 _ rfl, hcs 4 _ rfl, h1, h2, h3, h4⟩
end
section
variable {H : Type} {enc : TypeId × Value → H} {W : World}
theorem slice_shape {TS E : Nat} (hU : Try.prog.underlying TS = some (.slice E)) {fuel : Nat} {v : Value} {x : DataW H × List MemPlace} (h : DataW.trod enc Try.prog W 0 (fun _ => true) true fuel TS [v] = some x) : ∃ a n c, v = .slice a n c := by
  rcases DataW.trod_slice hU h with ⟨hcs, -⟩ | ⟨ad, len, cap, elems, rest, m, rfl, hcs, -⟩
  · simp at hcs
    exact ⟨_, _, _, hcs⟩
  · simp at hcs
    exact ⟨_, _, _, hcs⟩

set_option maxRecDepth 100000 in
theorem open_prog {fuel : Nat} {cs : List Value} {x : DataW H × List MemPlace} (h : DataW.trod enc Try.prog W 0 (fun _ => true) true fuel 41 cs = some x) :
    ∃ (m : Int) (ga : Option Addr) (gn gc : Nat) (sa : Option Addr) (sn sc : Nat) (ya : Option Addr) (yn yc : Nat) (oa : Option Addr) (on oc : Nat) (va : Option Addr) (vn vc : Nat) (fa : Option Addr) (fn fc : Nat) (ba : Option Addr) (bn bc : Nat) (gs : List (Int × Int)) (sp : List Int) (ls ms : List Lab) (vs : List (Bool × Lab)) (fs : List FnD) (l : List D), cs = [.int .i64 m, .slice ga gn gc, .slice sa sn sc, .slice ya yn yc, .slice oa on oc, .slice va vn vc, .slice fa fn fc, .slice ba bn bc] ∧ ProgAt fuel fuel m ga gn gc sa sn sc ya yn yc oa on oc va vn vc fa fn fc ba bn bc gs sp ls ms vs fs l W := by
  obtain ⟨xs, n, rfl, -, hl, hxl, hf⟩ := DataW.trod_struct Try.underlying41 h
  rw [Try.cells31] at hl
  match cs, hl, xs, hxl with
  | [c0, c1, c2, c3, c4, c5, c6, c7], _, [y0, y1, y2, y3, y4, y5, y6], _ =>
    have h0 := hf 0 _ rfl
    have h1 := hf 1 _ rfl
    have h2 := hf 2 _ rfl
    have h3 := hf 3 _ rfl
    have h4 := hf 4 _ rfl
    have h5 := hf 5 _ rfl
    have h6 := hf 6 _ rfl
    simp [Try.cells24, Try.cells25, Try.cells26, Try.cells27, Try.cells28, Try.cells29] at h0 h1 h2 h3 h4 h5 h6
    obtain ⟨zs, n2, rfl, -, hl2, hzl, hf2⟩ := DataW.trod_struct Try.underlying35 h0
    match zs, hzl with
    | [z0, z1], _ =>
      have g0 := hf2 0 _ rfl
      have g1 := hf2 1 _ rfl
      simp [Try.cells3', Try.cells22] at g0 g1
      obtain ⟨m, e0, hm⟩ := open_int1 g0
      simp at e0
      subst e0
      obtain ⟨ga, gn, gc, rfl⟩ := slice_shape Try.underlying33 g1
      obtain ⟨sa, sn, sc, rfl⟩ := slice_shape Try.underlying25 h1
      obtain ⟨ya, yn, yc, rfl⟩ := slice_shape Try.underlying36 h2
      obtain ⟨oa, on, oc, rfl⟩ := slice_shape Try.underlying36 h3
      obtain ⟨va, vn, vc, rfl⟩ := slice_shape Try.underlying37 h4
      obtain ⟨fa, fn, fc, rfl⟩ := slice_shape Try.underlying38 h5
      obtain ⟨ba, bn, bc, rfl⟩ := slice_shape Try.underlying39 h6
      obtain ⟨gs, hgs⟩ := open_grantsL g1
      obtain ⟨sp, hsp⟩ := open_intsL h1
      obtain ⟨ls, hls, hln⟩ := open_labsL h2
      obtain ⟨ms, hms, hmn⟩ := open_labsL h3
      obtain ⟨vs, hvs⟩ := open_varsL h4
      obtain ⟨fs, hfs⟩ := open_funcsL (n2 + 1 + 1) (by omega) h5
      obtain ⟨l, hl⟩ := open_stmtsL (n2 + 1 + 1) (by omega) h6
      exact ⟨m, ga, gn, gc, sa, sn, sc, ya, yn, yc, oa, on, oc, va, vn, vc, fa, fn, fc, ba, bn, bc, gs, sp, ls, ms, vs, fs, l, rfl, hm, hgs, intsOf hsp, by have := hsp.1; unfold maxLen at this; omega, hls, hms, hvs, hfs, hl, hln, hmn⟩

set_option maxRecDepth 100000 in
theorem open_program {r : Go.Reach} {b0 : Nat} {v : Value} {d : DataW H} {p : List MemPlace} (hv : Value.okWide Try.prog W r b0 41 v) (h : DataW.Trod enc Try.prog W 0 (fun _ => true) true 41 v d p) :
    ∃ (K : Nat) (m : Int) (ga : Option Addr) (gn gc : Nat) (sa : Option Addr) (sn sc : Nat) (ya : Option Addr) (yn yc : Nat) (oa : Option Addr) (on oc : Nat) (va : Option Addr) (vn vc : Nat) (fa : Option Addr) (fn fc : Nat) (ba : Option Addr) (bn bc : Nat) (gs : List (Int × Int)) (sp : List Int) (ls ms : List Lab) (vs : List (Bool × Lab)) (fs : List FnD) (l : List D), v = .agg #[.int .i64 m, .slice ga gn gc, .slice sa sn sc, .slice ya yn yc, .slice oa on oc, .slice va vn vc, .slice fa fn fc, .slice ba bn bc] ∧ ProgAt K K m ga gn gc sa sn sc ya yn yc oa on oc va vn vc fa fn fc ba bn bc gs sp ls ms vs fs l W := by
  obtain ⟨cs, rfl, hsz⟩ := okWide_struct Try.underlying41 hv
  obtain ⟨fuel, hf⟩ := h
  have hf2 : DataW.trod enc Try.prog W 0 (fun _ => true) true fuel 41 cs.toList = some (d, p) := by simpa [Value.cells] using hf
  obtain ⟨m, ga, gn, gc, sa, sn, sc, ya, yn, yc, oa, on, oc, va, vn, vc, fa, fn, fc, ba, bn, bc, gs, sp, ls, ms, vs, fs, l, hcs, hp⟩ := open_prog hf2
  refine ⟨fuel, m, ga, gn, gc, sa, sn, sc, ya, yn, yc, oa, on, oc, va, vn, vc, fa, fn, fc, ba, bn, bc, gs, sp, ls, ms, vs, fs, l, ?_, hp⟩
  have : cs = #[.int .i64 m, .slice ga gn gc, .slice sa sn sc, .slice ya yn yc, .slice oa on oc, .slice va vn vc, .slice fa fn fc, .slice ba bn bc] := by
    cases cs
    simp_all
  rw [this]

end
end Go.Proofs.Ytcbbjjenkommeaa.Ex
namespace Go.Proofs.Ytcbbjjenkommeaa.Ex
open Go.RowKit
set_option linter.unusedVariables false
theorem call31 (args : Array Value) (w : World) : (callFunc 98 args).run Try.prog w = .ok (.enter 98 args) w := by simp [go_sem]
theorem call32 (args : Array Value) (w : World) : (callFunc 99 args).run Try.prog w = .ok (.enter 99 args) w := by simp [go_sem]
theorem RowAt.set {cs : List Value} {w : World} {b j : Nat} {v : Value} (h : RowAt cs w b) (hj : j < cs.length) : RowAt (cs.set j v) (w.setCell ⟨b, j, none⟩ v) b := by
  have hc := h j _ (List.getElem?_eq_getElem hj)
  have hb := World.block_lt_of_cell? w _ hc
  intro k u hu
  by_cases hk : k = j
  · subst hk
    rw [List.getElem?_set_self hj] at hu
    simp at hu
    subst hu
    simp [go_sem, hc]
  · rw [List.getElem?_set_ne (by omega)] at hu
    have := h k u hu
    simp [go_sem, this]
theorem RowAt.other {cs : List Value} {w : World} {b b' j : Nat} {v : Value} (h : RowAt cs w b) (hb : b ≠ b') : RowAt cs (w.setCell ⟨b', j, none⟩ v) b := fun k u hu => by
  have := h k u hu
  simp [go_sem, this]
theorem RowAt.drew {cs : List Value} {w : World} {b : Nat} (h : RowAt cs w b) : RowAt cs w.drew b := fun k u hu => h k u hu
theorem held8b {w w0 w1 : World} {a0 a1 a2 a3 a4 a5 a6 a7 : Addr} {v0 v1 v2 v3 v4 v5 v6 v7 : Value}
    (h : w0.cell? a0 = some v0 ∧ w0.cell? a1 = some v1 ∧ w0.cell? a2 = some v2 ∧ w0.cell? a3 = some v3 ∧ w0.cell? a4 = some v4 ∧ w0.cell? a5 = some v5 ∧ w0.cell? a6 = some v6 ∧ w0.cell? a7 = some v7 ∧ Below w.heap.size w w0) (hb : Below w0.heap.size w0 w1) :
    w1.cell? a0 = some v0 ∧ w1.cell? a1 = some v1 ∧ w1.cell? a2 = some v2 ∧ w1.cell? a3 = some v3 ∧ w1.cell? a4 = some v4 ∧ w1.cell? a5 = some v5 ∧ w1.cell? a6 = some v6 ∧ w1.cell? a7 = some v7 ∧ Below w.heap.size w w1 := by
  obtain ⟨h0, h1, h2, h3, h4, h5, h6, h7, hB⟩ := h
  exact ⟨cell_over hb _ _ h0, cell_over hb _ _ h1, cell_over hb _ _ h2, cell_over hb _ _ h3, cell_over hb _ _ h4, cell_over hb _ _ h5, cell_over hb _ _ h6, cell_over hb _ _ h7, hB.trans (hb.mono hB.size)⟩
theorem grow_cellR {w w' : World} {r b j : Nat} {u : Value} (hg : w.grownBy w' (some r)) (h : w.cell? ⟨b, j, none⟩ = some u) (hne : b ≠ r) : w'.cell? ⟨b, j, none⟩ = some u := by
  have hb := World.block_lt_of_cell? w _ h
  rw [World.cell?_of_block (w := w) (hg.block b hb (fun e => hne (Option.some.inj e)))]
  exact h
theorem grow_set {w : World} {r n j : Nat} {u : Value} : w.grownBy ((w.drewN n).setCell ⟨r, j, none⟩ u) (some r) := by
  have h := Below.heap_setCell (w.drewN n) ⟨r, j, none⟩ u
  refine ⟨rfl, rfl, rfl, by simp [World.setCell], fun k hk hne => ?_⟩
  rw [h k (fun e => hne (by rw [e]))]
  rfl
theorem held4 {w w0 w1 : World} {a0 a1 a2 a3 : Addr} {v0 v1 v2 v3 : Value}
    (h : w0.cell? a0 = some v0 ∧ w0.cell? a1 = some v1 ∧ w0.cell? a2 = some v2 ∧ w0.cell? a3 = some v3 ∧ Below w.heap.size w w0) (hb : Below w0.heap.size w0 w1) :
    w1.cell? a0 = some v0 ∧ w1.cell? a1 = some v1 ∧ w1.cell? a2 = some v2 ∧ w1.cell? a3 = some v3 ∧ Below w.heap.size w w1 := by
  obtain ⟨h0, h1, h2, h3, hB⟩ := h
  exact ⟨cell_over hb _ _ h0, cell_over hb _ _ h1, cell_over hb _ _ h2, cell_over hb _ _ h3, hB.trans (hb.mono hB.size)⟩
theorem Try.infoE : (Try.prog.info? 71).map (fun i => (i.zero, i.size, i.bytes)) = some (some (.agg #[.int .i64 0, .int .i64 0, .int .i64 0, .int .i64 0]), 4, 32) := by kernel_rfl
theorem RowAt.newA (cs : Array Value) (t : Nat) (w : World) : RowAt cs.toList (w.alloc (.cells cs t)) w.heap.size := fun j u hu => by
  rw [Lib.cell_of_heap (heap_alloc_new w _)]
  simpa using hu
theorem RowAt.more {cs rest : List Value} {w : World} {b : Nat} (h : RowAt (cs ++ rest) w b) : RowAt cs w b := fun j u hu => h j u (by rw [List.getElem?_append_left (List.getElem?_eq_some_iff.1 hu).1]; exact hu)
theorem keep3g {w w' : World} {r a b j k l : Nat} {x y z : Value} (h : w.cell? ⟨a, j, none⟩ = some x ∧ w.cell? ⟨b, k, none⟩ = some y ∧ w.cell? ⟨b, l, none⟩ = some z) (hg : w.grownBy w' (some r)) (ha : a ≠ r) (hb : b ≠ r) :
    w'.cell? ⟨a, j, none⟩ = some x ∧ w'.cell? ⟨b, k, none⟩ = some y ∧ w'.cell? ⟨b, l, none⟩ = some z := ⟨grow_cellR hg h.1 ha, grow_cellR hg h.2.1 hb, grow_cellR hg h.2.2 hb⟩
theorem keep4b {w w' : World} {b j k l m : Nat} {x y z u : Value} (h : w.cell? ⟨b, j, none⟩ = some x ∧ w.cell? ⟨b, k, none⟩ = some y ∧ w.cell? ⟨b, l, none⟩ = some z ∧ w.cell? ⟨b, m, none⟩ = some u) (hg : Below w.heap.size w w') :
    w'.cell? ⟨b, j, none⟩ = some x ∧ w'.cell? ⟨b, k, none⟩ = some y ∧ w'.cell? ⟨b, l, none⟩ = some z ∧ w'.cell? ⟨b, m, none⟩ = some u := ⟨cell_over hg _ _ h.1, cell_over hg _ _ h.2.1, cell_over hg _ _ h.2.2.1, cell_over hg _ _ h.2.2.2⟩
/-- lists of numbers. -/
def ListsAt (w : World) (v : Value) (ls : List (List Int)) : Prop :=
  ls.length ≤ maxLen ∧ ∃ ao cap, v = .slice ao ls.length cap ∧ (ls ≠ [] → ∃ b off, ao = some ⟨b, off, none⟩ ∧ ∀ i (h : i < ls.length), ∃ u, w.cell? ⟨b, off + i, none⟩ = some u ∧ IsInts w u ls[i] ∧ ls[i].length ≤ 9223372036854775807)
theorem ListsAt.over {w w' : World} {v : Value} {ls : List (List Int)} (h : ListsAt w v ls) (hb : Below w.heap.size w w') : ListsAt w' v ls := by
  obtain ⟨hm, ao, cap, hv, hc⟩ := h
  refine ⟨hm, ao, cap, hv, fun hne => ?_⟩
  obtain ⟨b, off, hao, hel⟩ := hc hne
  refine ⟨b, off, hao, fun i hi => ?_⟩
  obtain ⟨u, h0, h1, h2⟩ := hel i hi
  exact ⟨u, cell_over hb _ _ h0, h1.over hb, h2⟩

set_option maxHeartbeats 1000000 in
theorem isLong_any (a : Option Addr) (n c : Nat) (w : World) : Calls Try.prog 98 #[.slice a n c] w fun e w' => e = .returned (.bool (decide (100 < n))) ∧ w' = w := by
  by_cases h : 100 < n
  · go_enter Try.func98, Try.ntmps98
    go_wp2_with fail
    go_ret
    exact ⟨by simp; omega, rfl⟩
  · go_enter Try.func98, Try.ntmps98
    go_wp2_with fail
    go_ret
    exact ⟨by simp; omega, rfl⟩

set_option maxHeartbeats 1000000 in
theorem hasBeyond_any (l : List Int) (v : Value) (w : World) (h : IsInts w v l) (hl : l.length ≤ 9223372036854775807) : Calls Try.prog 99 #[v] w fun e w' => e = .returned (.bool (!l.all in32)) ∧ w' = w := by
  have K := hide (containsInts_any l _ w h hl)
  obtain ⟨a, c, rfl, -⟩ := h
  go_enter Try.func99, Try.ntmps99
  go_wp2_with fail
  refine (K.out).mono ?_
  rintro e w1 ⟨rfl, rfl⟩
  go_wp2_with fail
  go_ret
  exact ⟨rfl, rfl⟩

set_option maxHeartbeats 1000000 in
theorem indexLists_any (F : FuncId) (p : List Int → Bool) (ls : List (List Int)) (v : Value) (w : World) (h : ListsAt w v ls)
    (hF : Hid (∀ (l : List Int) (u : Value), IsInts w u l → l.length ≤ 9223372036854775807 → Calls Try.prog F #[u] w fun e w' => e = .returned (.bool (p l)) ∧ w' = w)) (hC : ∀ (args : Array Value) (w : World), (callFunc F args).run Try.prog w = .ok (.enter F args) w) :
    Calls Try.prog 129 #[v, .func (.func F) #[] #[]] w fun e w' => ∃ r : Int, e = .returned (.int .i64 r) ∧ decide (0 ≤ r) = ls.any p ∧ w' = w := by
  obtain ⟨hm, ao, cap, rfl, hcc⟩ := h
  have hm2 : ls.length ≤ 9223372036854775807 := hm
  have HCC := hide hcc
  clear hcc hm
  go_enter Try.func129, Try.ntmps129
  go_wp2_with fail
  go_loopw [8] (fun i wr => ∃ k : Nat, k ≤ ls.length ∧ i = .int .i64 k ∧ (ls.take k).any p = false ∧ wr = w) (fun i _ => ls.length - (intOf i).toNat)
  case atStart => exact ⟨0, Nat.zero_le _, rfl, rfl, rfl⟩
  case round =>
    obtain ⟨k, hk, rfl, hall, rfl⟩ := hrel
    have HA := hide hall
    clear hall
    by_cases hkl : k < ls.length
    · obtain ⟨b, off, rfl, hcl⟩ := HCC.out (by rintro rfl; simp at hkl)
      obtain ⟨u, q0, hu, hul⟩ := hcl k hkl
      have hst : p ls[k] = true → ls.any p = true := fun h => by rw [List.any_eq_true]; exact ⟨ls[k], List.getElem_mem hkl, h⟩
      have hnx : p ls[k] = false → (ls.take (k + 1)).any p = false := fun h => by rw [List.take_succ_eq_append_getElem hkl, List.any_append, HA.out]; simp [h]
      have hcall := hF.out ls[k] u hu hul
      obtain ⟨r, hr⟩ : ∃ r, r = p ls[k] := ⟨_, rfl⟩
      rw [← hr] at hcall hst hnx
      have HCALL := hide hcall
      have HST := hide hst
      have HNX := hide hnx
      obtain ⟨a2, c2, rfl, -⟩ := hu
      clear hcall hst hnx hr hcl HA hF
      cases r with
      | false =>
        go_wp2_with fail
        refine (HCALL.out).mono ?_
        rintro e w2 ⟨rfl, rfl⟩
        go_wp2_with fail
        exact ⟨⟨k + 1, by omega, by go_num, HNX.out (by first | rfl | trivial), by first | rfl | trivial⟩, by simp [intOf]; omega⟩
      | true =>
        go_wp2_with fail
        refine (HCALL.out).mono ?_
        rintro e w2 ⟨rfl, rfl⟩
        go_wp2_with fail
        go_ret
        refine ⟨(k : Int), by first | rfl | trivial, ?_, by first | rfl | trivial⟩
        rw [HST.out (by first | rfl | trivial)]
        simp
    · have ha := HA.out
      rw [List.take_of_length_le (by omega)] at ha
      have HD := hide ha
      clear ha HA hF
      go_wp2_with fail
      go_ret
      refine ⟨-1, by first | rfl | trivial, ?_, by first | rfl | trivial⟩
      rw [HD.out]
      rfl

set_option maxHeartbeats 1000000 in
theorem containsLists_any (F : FuncId) (p : List Int → Bool) (ls : List (List Int)) (v : Value) (w : World) (h : ListsAt w v ls)
    (hF : Hid (∀ (l : List Int) (u : Value), IsInts w u l → l.length ≤ 9223372036854775807 → Calls Try.prog F #[u] w fun e w' => e = .returned (.bool (p l)) ∧ w' = w)) (hC : ∀ (args : Array Value) (w : World), (callFunc F args).run Try.prog w = .ok (.enter F args) w) :
    Calls Try.prog 100 #[v, .func (.func F) #[] #[]] w fun e w' => e = .returned (.bool (ls.any p)) ∧ w' = w := by
  have K := hide (indexLists_any F p ls v w h hF hC)
  obtain ⟨hm, ao, cap, rfl, hcc⟩ := h
  obtain ⟨q, hq⟩ : ∃ q, q = ls.any p := ⟨_, rfl⟩
  rw [← hq] at K ⊢
  clear hcc hq hF
  go_enter Try.func100, Try.ntmps100
  go_wp2_with fail
  refine (K.out).mono ?_
  rintro e w1 ⟨r, rfl, hr, rfl⟩
  have HR := hide hr
  clear hr
  go_wp2_with fail
  go_ret
  exact ⟨by rw [← HR.out]; simp, rfl⟩

/-- what a run may be asked for. -/
structure okR (K kf : Nat) (m : Int) (vn yn on sn : Nat) (gs : List (Int × Int)) (sp : List Int) (ls ms : List Lab) (vs : List (Bool × Lab)) (fs : List FnD) (l : List D) (ins : List (List Int)) (fuel : Int) : Prop where
  prog : Ey.xP K kf m vn yn on sn gs sp ls ms vs fs l
  many : ins.length = yn
  long : ∀ x ∈ ins, x.length ≤ 100
  num : ∀ x ∈ ins, ∀ y ∈ x, I32 y
  f0 : 0 ≤ fuel
  f1 : fuel ≤ 2000

set_option maxHeartbeats 2000000 in
set_option maxRecDepth 100000 in
theorem runCheck_any (K kf : Nat) (m : Int) (ga : Option Addr) (gn gc : Nat) (sa : Option Addr) (sn sc : Nat) (ya : Option Addr) (yn yc : Nat) (oa : Option Addr) (on oc : Nat) (va : Option Addr) (vn vc : Nat) (fa : Option Addr) (fn fc : Nat) (ba : Option Addr) (bn bc : Nat) (xa : Option Addr) (xn xc : Nat) (ins : List (List Int)) (fuel : Int) (gs : List (Int × Int)) (sp : List Int) (ls ms : List Lab) (vs : List (Bool × Lab)) (fs : List FnD) (l : List D) (w : World) (h : ProgAt K kf m ga gn gc sa sn sc ya yn yc oa on oc va vn vc fa fn fc ba bn bc gs sp ls ms vs fs l w) (hx : ListsAt w (.slice xa xn xc) ins) :
    Calls Try.prog 68 #[.agg #[.int .i64 m, .slice ga gn gc, .slice sa sn sc, .slice ya yn yc, .slice oa on oc, .slice va vn vc, .slice fa fn fc, .slice ba bn bc], .slice xa xn xc, .int .i64 fuel] w (Ey.Said (okR K kf m vn yn on sn gs sp ls ms vs fs l ins fuel) w fun why => .int .i64 why) := by
  have hmf : ∀ (fn : Fn) (first cap : Array Value) (w : World), (Instr.makeFunc fn first cap).run Try.prog w = .ok (.func fn first cap) w := fun _ _ _ _ => rfl
  have hbel : Below w.heap.size w (w.alloc (.cells #[.int .i64 m, .slice ga gn gc, .slice sa sn sc, .slice ya yn yc, .slice oa on oc, .slice va vn vc, .slice fa fn fc, .slice ba bn bc] 41)) := (Below.refl _ w).alloc (Nat.le_refl _) _
  have K1 := hide (Ey.scopeCheck_any K kf m ga gn gc sa sn sc ya yn yc oa on oc va vn vc fa fn fc ba bn bc gs sp ls ms vs fs l _ (h.over hbel))
  have HX := hide (hx.over hbel)
  have hxn : xn = ins.length := by obtain ⟨-, a, c, he, -⟩ := hx; injection he
  have hxl : xn ≤ 9223372036854775807 := by rw [hxn]; exact hx.1
  have hyl : yn ≤ 9223372036854775807 := by obtain ⟨hm, a, c, he, -⟩ := h.ins; injection he with e1 e2 e3; rw [e2]; exact hm
  have HXN := hide hxn
  have K2 := hide fun W (hw : ListsAt W (.slice xa xn xc) ins) => containsLists_any 98 (fun l => decide (100 < l.length)) ins (.slice xa xn xc) W hw (hide fun l u hu _ => by
    obtain ⟨a, c, rfl, -⟩ := hu
    exact isLong_any a l.length c W) call31
  have K3 := hide fun W (hw : ListsAt W (.slice xa xn xc) ins) => containsLists_any 99 (fun l => !l.all in32) ins (.slice xa xn xc) W hw (hide fun l u hu hl => hasBeyond_any l u W hu hl) call32
  obtain ⟨q2, hq2⟩ : ∃ q, q = ins.any (fun l => decide (100 < l.length)) := ⟨_, rfl⟩
  obtain ⟨q3, hq3⟩ : ∃ q, q = ins.any (fun l => !l.all in32) := ⟨_, rfl⟩
  rw [← hq2] at K2
  rw [← hq3] at K3
  have HQ2 := hide hq2
  have HQ3 := hide hq3
  have c3 : (w.alloc (.cells #[.int .i64 m, .slice ga gn gc, .slice sa sn sc, .slice ya yn yc, .slice oa on oc, .slice va vn vc, .slice fa fn fc, .slice ba bn bc] 41)).cell? ⟨w.heap.size, 3, none⟩ = some (.slice ya yn yc) := by simp [go_sem]
  clear h hx hxn hq2 hq3
  go_enter Try.func68, Try.ntmps68
  go_wp2_with fail
  refine (K1.out).mono ?_
  rintro e w1 ⟨why, rfl, hok, hb1⟩
  have d3 := cell_over hb1 _ _ c3
  have HX1 := hide (HX.out.over hb1)
  have hB1 := hbel.trans (hb1.mono hbel.size)
  have HOK := hide hok
  clear hbel hb1 K1 HX c3 hok
  by_cases hw : why = 0
  rotate_left
  · have hwb : (why == 0) = false := by simpa using hw
    go_wp2_with fail
    go_ret
    exact ⟨why, rfl, ⟨fun h => absurd h hw, fun h => absurd (HOK.out.2 h.prog) hw⟩, hB1⟩
  subst hw
  by_cases hxy : xn = yn
  rotate_left
  · have hb : ((xn : Int) == (yn : Int)) = false := by simp; omega
    go_wp2_with fail
    go_ret
    exact ⟨1, rfl, ⟨fun h => absurd h (by decide), fun h => absurd (HXN.out.trans h.many) hxy⟩, hB1⟩
  have hb : ((xn : Int) == (yn : Int)) = true := by simp; omega
  have HXY := hide hxy
  clear hxy
  go_wp2_with fail
  refine (K2.out _ HX1.out).mono ?_
  rintro e w2 ⟨rfl, rfl⟩
  cases q2 with
  | true =>
    go_wp2_with fail
    go_ret
    refine ⟨2, rfl, ⟨fun h => absurd h (by decide), fun h => ?_⟩, hB1⟩
    obtain ⟨x, hx, hl⟩ := List.any_eq_true.1 HQ2.out.symm
    exact absurd (h.long x hx) (by simpa using hl)
  | false =>
  go_wp2_with fail
  refine (K3.out _ HX1.out).mono ?_
  rintro e w3 ⟨rfl, rfl⟩
  cases q3 with
  | true =>
    go_wp2_with fail
    go_ret
    refine ⟨3, rfl, ⟨fun h => absurd h (by decide), fun h => ?_⟩, hB1⟩
    obtain ⟨x, hx, hl⟩ := List.any_eq_true.1 HQ3.out.symm
    have ha : x.all in32 = true := List.all_eq_true.2 fun y hy => by simpa [in32, I32] using h.num x hx y hy
    simp [ha] at hl
  | false =>
  by_cases hf0 : fuel < 0
  · go_wp2_with fail
    go_ret
    exact ⟨3, rfl, ⟨fun h => absurd h (by decide), fun h => by have := h.f0; omega⟩, hB1⟩
  by_cases hf1 : 2000 < fuel
  · go_wp2_with fail
    go_ret
    exact ⟨3, rfl, ⟨fun h => absurd h (by decide), fun h => by have := h.f1; omega⟩, hB1⟩
  go_wp2_with fail
  go_ret
  refine ⟨0, rfl, ⟨fun _ => ⟨HOK.out.1 (by first | rfl | trivial), by rw [← HXN.out]; exact HXY.out, fun x hx => ?_, fun x hx y hy => ?_, by omega, by omega⟩, fun _ => rfl⟩, hB1⟩
  · have := List.any_eq_false.1 HQ2.out.symm x hx
    simpa using this
  · have := List.any_eq_false.1 HQ3.out.symm x hx
    simp only [Bool.not_eq_true, Bool.not_eq_false'] at this
    have := List.all_eq_true.1 this y hy
    simpa [in32, I32] using this
end Go.Proofs.Ytcbbjjenkommeaa.Ex
namespace Go.Proofs.Ytcbbjjenkommeaa.Ex
open Go.RowKit
set_option linter.unusedVariables false
open Go.ChangeShapes Go.WideShapes Go.ChangeAt
section
variable {H : Type} {enc : TypeId × Value → H} {W : World}
theorem open_listsL {fuel : Nat} {v : Value} {x : DataW H × List MemPlace} (h : DataW.trod enc Try.prog W 0 (fun _ => true) true fuel 42 [v] = some x) : ∃ l : List (List Int), ListsAt W v l ∧ LAt 1 (fun cs x => ∃ u, cs = [u] ∧ LAt 1 (fun cs x => cs = [.int .i64 x]) W u x) W v l := by
  obtain ⟨l, hl⟩ := open_list Try.underlying42 Try.cells25 (by omega) h [] (fun cs (x : List Int) => ∃ u, cs = [u] ∧ LAt 1 (fun cs x => cs = [.int .i64 x]) W u x) fun m cs y _ hy => by
    have hlen : cs.length = 1 := by
      rcases DataW.trod_slice Try.underlying25 hy with ⟨hcs, -⟩ | ⟨ad, len, cap, elems, rest, m, rfl, hcs, -⟩
      · rw [hcs]; rfl
      · rw [hcs]; rfl
    match cs, hlen with
    | [u], _ =>
      obtain ⟨l, hl⟩ := open_intsL hy
      exact ⟨l, u, rfl, hl⟩
  refine ⟨l, ?_, hl⟩
  obtain ⟨hm, ao, cap, hv, -, -, -, hc⟩ := hl
  refine ⟨hm, ao, cap, hv, fun hne => ?_⟩
  obtain ⟨b, off, hb, hel⟩ := hc hne
  refine ⟨b, off, hb, fun i hi => ?_⟩
  obtain ⟨cs, -, hcs, u, rfl, hu⟩ := hel i l[i] (List.getElem?_eq_getElem hi)
  refine ⟨u, by have := hcs 0 _ rfl; simpa using this, intsOf hu, ?_⟩
  have := hu.1
  unfold maxLen at this
  omega
set_option maxRecDepth 100000 in
theorem open_lists {r : Go.Reach} {b0 : Nat} {v : Value} {d : DataW H} {p : List MemPlace} (hv : Value.okWide Try.prog W r b0 42 v) (h : DataW.Trod enc Try.prog W 0 (fun _ => true) true 42 v d p) :
    ∃ (a : Option Addr) (n c : Nat) (l : List (List Int)), v = .slice a n c ∧ ListsAt W (.slice a n c) l ∧ LAt 1 (fun cs x => ∃ u, cs = [u] ∧ LAt 1 (fun cs x => cs = [.int .i64 x]) W u x) W (.slice a n c) l := by
  obtain ⟨a, n, c, rfl⟩ := okWide_slice Try.underlying42 hv
  obtain ⟨fuel, hf⟩ := h
  have hf2 : DataW.trod enc Try.prog W 0 (fun _ => true) true fuel 42 [.slice a n c] = some (d, p) := by simpa [Value.cells] using hf
  obtain ⟨l, h1, h2⟩ := open_listsL hf2
  exact ⟨a, n, c, l, rfl, h1, h2⟩
end
end Go.Proofs.Ytcbbjjenkommeaa.Ex
