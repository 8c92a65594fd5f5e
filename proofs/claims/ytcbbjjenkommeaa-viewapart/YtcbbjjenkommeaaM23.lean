/- scope.Check of any program: just when all is right. -/
import Derived.Test.YtcbbjjenkommeaaM22
import Derived.Maps.AppendAt
namespace Go.Proofs.Ytcbbjjenkommeaa.Ex.Ey
open Go.RowKit
set_option linter.unusedVariables false
/-- what a check says: that all is right, just if it is. -/
def Said (ok : Prop) (w : World) (f : Int → Value) (e : Ending) (w' : World) : Prop := ∃ why : Int, e = .returned (f why) ∧ (why = 0 ↔ ok) ∧ Below w.heap.size w w'

set_option maxHeartbeats 1000000 in
set_option maxRecDepth 100000 in
theorem caught_any (K kf : Nat) (m : Int) (ga : Option Addr) (gn gc : Nat) (sa : Option Addr) (sn sc : Nat) (ya : Option Addr) (yn yc : Nat) (oa : Option Addr) (on oc : Nat) (va : Option Addr) (vn vc : Nat) (fa : Option Addr) (fn fc : Nat) (ba : Option Addr) (bn bc : Nat) (gs : List (Int × Int)) (sp : List Int) (ls ms : List Lab) (vs : List (Bool × Lab)) (fs : List FnD) (l : List D) (w : World) (h : ProgAt K kf m ga gn gc sa sn sc ya yn yc oa on oc va vn vc fa fn fc ba bn bc gs sp ls ms vs fs l w) :
    Calls Try.prog 71 #[.func (.func 72) #[.agg #[.int .i64 m, .slice ga gn gc, .slice sa sn sc, .slice ya yn yc, .slice oa on oc, .slice va vn vc, .slice fa fn fc, .slice ba bn bc]] #[]] w (Said (xP K kf m vn yn on sn gs sp ls ms vs fs l) w fun why => .tuple #[.int .i64 0, .int .i64 why]) := by
  have hmf : ∀ (fn : Fn) (first cap : Array Value) (w : World), (Instr.makeFunc fn first cap).run Try.prog w = .ok (.func fn first cap) w := fun _ _ _ _ => rfl
  have HC : ∀ (args : Array Value) (w : World), (callFunc 72 args).run Try.prog w = .ok (.enter 72 args) w := fun args w => by simp [go_sem]
  have hbel : Below w.heap.size w ((w.alloc (.cells #[.int .i64 0] 3)).alloc (.cells #[.int .i64 0] 26)) := ((Below.refl _ w).alloc (Nat.le_refl _) _).alloc (by simp) _
  have K := hide (checkG_any K kf m ga gn gc sa sn sc ya yn yc oa on oc va vn vc fa fn fc ba bn bc gs sp ls ms vs fs l _ (h.over hbel))
  have q0 : ((w.alloc (.cells #[.int .i64 0] 3)).alloc (.cells #[.int .i64 0] 26)).cell? ⟨w.heap.size, 0, none⟩ = some (.int .i64 0) := by simp [go_sem]
  have q1 : ((w.alloc (.cells #[.int .i64 0] 3)).alloc (.cells #[.int .i64 0] 26)).cell? ⟨w.heap.size + 1, 0, none⟩ = some (.int .i64 0) := by simp [go_sem]
  have z0 : ((w.alloc (.cells #[.int .i64 0] 3)).alloc (.cells #[.int .i64 0] 26)).frozen? ⟨w.heap.size, 0, none⟩ = false := by simp [go_sem]
  have z1 : ((w.alloc (.cells #[.int .i64 0] 3)).alloc (.cells #[.int .i64 0] 26)).frozen? ⟨w.heap.size + 1, 0, none⟩ = false := by simp [go_sem]
  clear h
  go_enter_defers Try.func71, Try.ntmps71
  go_wp2_with fail
  refine (K.out).mono ?_
  rintro e w1 ⟨he, hb1⟩
  obtain ⟨hc, hf⟩ := bcell hb1
  have hB1 := hbel.trans (hb1.mono hbel.size)
  have p0 := cell_over hb1 _ _ q0
  have p1 := cell_over hb1 _ _ q1
  have y0 := (hf w.heap.size 0 (by simp; omega)).trans z0
  have y1 := (hf (w.heap.size + 1) 0 (by simp)).trans z1
  have g1 : w.heap.size + 1 < w1.heap.size := World.block_lt_of_cell? w1 _ p1
  have g0 : w.heap.size < w1.heap.size := by omega
  clear hc hf q0 q1 z0 z1 hb1 K hbel
  rcases he with ⟨hok, rfl⟩ | ⟨hng, why, hne, rfl⟩
  · have HOK := hide hok
    clear hok
    go_wp2_with fail
    refine leaves_cons (f := 106) (args := #[.pointer (some ⟨w.heap.size, 0, none⟩), .pointer (some ⟨w.heap.size + 1, 0, none⟩)]) (by simp) (by simp [go_sem]) ?_
    refine (catch_idle _ _ _).mono ?_
    rintro e u' w2 ⟨rfl, rfl, rfl⟩
    have d0 : ((w1.setCell ⟨w.heap.size, 0, none⟩ (.int .i64 0)).setCell ⟨w.heap.size + 1, 0, none⟩ (.int .i64 0)).cell? ⟨w.heap.size, 0, none⟩ = some (.int .i64 0) := by simp [go_sem, p0]
    have d1 : ((w1.setCell ⟨w.heap.size, 0, none⟩ (.int .i64 0)).setCell ⟨w.heap.size + 1, 0, none⟩ (.int .i64 0)).cell? ⟨w.heap.size + 1, 0, none⟩ = some (.int .i64 0) := by simp [go_sem, p1]
    have hbb : Below w.heap.size w ((w1.setCell ⟨w.heap.size, 0, none⟩ (.int .i64 0)).setCell ⟨w.heap.size + 1, 0, none⟩ (.int .i64 0)) := (hB1.setCell (by simp) _).setCell (by simp) _
    generalize ((w1.setCell ⟨w.heap.size, 0, none⟩ (.int .i64 0)).setCell ⟨w.heap.size + 1, 0, none⟩ (.int .i64 0)) = wF at d0 d1 hbb ⊢
    simp [Leaves, settle, results, Try.results71, go_sem, d0, d1]
    exact ⟨0, rfl, ⟨fun _ => HOK.out, fun _ => rfl⟩, hbb⟩
  · have HNG := hide hng
    clear hng
    unfold gaveW
    go_wp2_with fail
    refine leaves_cons (f := 106) (args := #[.pointer (some ⟨w.heap.size, 0, none⟩), .pointer (some ⟨w.heap.size + 1, 0, none⟩)]) (by simp) (by simp [go_sem]) ?_
    refine (catch_gave w.heap.size 0 0 _ _ [] _ (by omega) p0 p1 y0 y1).mono ?_
    rintro e u' w2 ⟨rfl, rfl, d0, d1, hb2⟩
    have hbb : Below w.heap.size w w2 := hB1.trans hb2
    simp [Leaves, settle, results, Try.results71, go_sem, d0, d1]
    exact ⟨why, rfl, ⟨fun h => absurd h hne, fun h => absurd h HNG.out⟩, hbb⟩

set_option maxHeartbeats 1000000 in
set_option maxRecDepth 100000 in
theorem scopeCheck_any (K kf : Nat) (m : Int) (ga : Option Addr) (gn gc : Nat) (sa : Option Addr) (sn sc : Nat) (ya : Option Addr) (yn yc : Nat) (oa : Option Addr) (on oc : Nat) (va : Option Addr) (vn vc : Nat) (fa : Option Addr) (fn fc : Nat) (ba : Option Addr) (bn bc : Nat) (gs : List (Int × Int)) (sp : List Int) (ls ms : List Lab) (vs : List (Bool × Lab)) (fs : List FnD) (l : List D) (w : World) (h : ProgAt K kf m ga gn gc sa sn sc ya yn yc oa on oc va vn vc fa fn fc ba bn bc gs sp ls ms vs fs l w) :
    Calls Try.prog 36 #[.agg #[.int .i64 m, .slice ga gn gc, .slice sa sn sc, .slice ya yn yc, .slice oa on oc, .slice va vn vc, .slice fa fn fc, .slice ba bn bc]] w (Said (xP K kf m vn yn on sn gs sp ls ms vs fs l) w fun why => .int .i64 why) := by
  have hbel : Below w.heap.size w ((w.alloc (.cells #[.int .i64 m, .slice ga gn gc, .slice sa sn sc, .slice ya yn yc, .slice oa on oc, .slice va vn vc, .slice fa fn fc, .slice ba bn bc] 41)).alloc (.cells #[.int .i64 m, .slice ga gn gc, .slice sa sn sc, .slice ya yn yc, .slice oa on oc, .slice va vn vc, .slice fa fn fc, .slice ba bn bc] 125)) := ((Below.refl _ w).alloc (Nat.le_refl _) _).alloc (by simp) _
  have K := hide (caught_any K kf m ga gn gc sa sn sc ya yn yc oa on oc va vn vc fa fn fc ba bn bc gs sp ls ms vs fs l _ (h.over hbel))
  clear h
  go_enter Try.func36, Try.ntmps36
  go_wp2_with fail
  refine (K.out).mono ?_
  rintro e w1 ⟨why, rfl, hok, hb1⟩
  have hB1 := hbel.trans (hb1.mono hbel.size)
  have HOK := hide hok
  clear hbel hb1 K hok
  go_wp2_with fail
  go_ret
  exact ⟨why, rfl, HOK.out, hB1⟩
end Go.Proofs.Ytcbbjjenkommeaa.Ex.Ey
namespace Go.Proofs.Ytcbbjjenkommeaa.Ex
open Go.RowKit
set_option linter.unusedVariables false
theorem RowAt.set {cs : List Value} {w : World} {b j : Nat} {v : Value} (h : RowAt cs w b) (hj : j < cs.length) : RowAt (cs.set j v) (w.setCell ⟨b, j, none⟩ v) b := by
  have hc := h j _ (List.getElem?_eq_getElem hj)
  have hb := World.block_lt_of_cell? w _ hc
  intro k u hu
  by_cases hk : k = j
  · subst hk
    rw [List.getElem?_set_self hj] at hu
    simp at hu
    subst hu
    simp [go_sem, hc]
  · rw [List.getElem?_set_ne (by omega)] at hu
    have := h k u hu
    simp [go_sem, this]
theorem RowAt.other {cs : List Value} {w : World} {b b' j : Nat} {v : Value} (h : RowAt cs w b) (hb : b ≠ b') : RowAt cs (w.setCell ⟨b', j, none⟩ v) b := fun k u hu => by
  have := h k u hu
  simp [go_sem, this]
theorem RowAt.drew {cs : List Value} {w : World} {b : Nat} (h : RowAt cs w b) : RowAt cs w.drew b := fun k u hu => h k u hu
theorem grow_set {w : World} {r n j : Nat} {u : Value} : w.grownBy ((w.drewN n).setCell ⟨r, j, none⟩ u) (some r) := by
  have h := Below.heap_setCell (w.drewN n) ⟨r, j, none⟩ u
  refine ⟨rfl, rfl, rfl, by simp [World.setCell], fun k hk hne => ?_⟩
  rw [h k (fun e => hne (by rw [e]))]
  rfl
theorem Try.infoE : (Try.prog.info? 71).map (fun i => (i.zero, i.size, i.bytes)) = some (some (.agg #[.int .i64 0, .int .i64 0, .int .i64 0, .int .i64 0]), 4, 32) := by kernel_rfl
theorem RowAt.newA (cs : Array Value) (t : Nat) (w : World) : RowAt cs.toList (w.alloc (.cells cs t)) w.heap.size := fun j u hu => by
  rw [Lib.cell_of_heap (heap_alloc_new w _)]
  simpa using hu
theorem RowAt.more {cs rest : List Value} {w : World} {b : Nat} (h : RowAt (cs ++ rest) w b) : RowAt cs w b := fun j u hu => h j u (by rw [List.getElem?_append_left (List.getElem?_eq_some_iff.1 hu).1]; exact hu)
/-- is what has this level asked for? -/
def hasB (touch : Bool) (who : Nat) (L : Lev) : Bool := if touch = true then !(L.w.getD who false) else L.r.getD who false

set_option maxHeartbeats 1000000 in
set_option maxRecDepth 100000 in
theorem has_any (m : Int) (ga : Option Addr) (gn gc : Nat) (sa : Option Addr) (sn sc : Nat) (ya : Option Addr) (yn yc : Nat) (oa : Option Addr) (on oc : Nat) (va : Option Addr) (vn vc : Nat) (fa : Option Addr) (fn fc : Nat) (ba : Option Addr) (bn bc : Nat) (who : Nat) (touch : Bool) (ra : Option Addr) (rn rc : Nat) (wa : Option Addr) (wn wc : Nat) (L : Lev) (w : World) (hL : LevAt w (.agg #[.slice ra rn rc, .slice wa wn wc]) L) (hr : who < L.r.length) (hw : who < L.w.length) (hwm : who ≤ 100) :
    Calls Try.prog 124 #[.agg #[.int .i64 m, .slice ga gn gc, .slice sa sn sc, .slice ya yn yc, .slice oa on oc, .slice va vn vc, .slice fa fn fc, .slice ba bn bc, .int .i64 (who : Int), .bool touch], .agg #[.slice ra rn rc, .slice wa wn wc]] w fun e w' => e = .returned (.bool (hasB touch who L)) ∧ Below w.heap.size w w' := by
  have hbel : Below w.heap.size w ((w.alloc (.cells #[.int .i64 m, .slice ga gn gc, .slice sa sn sc, .slice ya yn yc, .slice oa on oc, .slice va vn vc, .slice fa fn fc, .slice ba bn bc, .int .i64 (who : Int), .bool touch] 149)).alloc (.cells #[.slice ra rn rc, .slice wa wn wc] 62)) := ((Below.refl _ w).alloc (Nat.le_refl _) _).alloc (by simp) _
  obtain ⟨vr, vw, hv, ⟨ar, cr, er, hcr⟩, ⟨aw, cw, ew, hcw⟩⟩ := hL
  simp only [Value.agg.injEq, Array.mk.injEq, List.cons.injEq, and_true] at hv
  obtain ⟨h1, h2⟩ := hv
  subst h1 h2
  injection er with r1 r2 r3
  injection ew with w1 w2 w3
  obtain ⟨b1, o1, q1, hc1⟩ := hcr (by intro hz; rw [hz] at hr; simp at hr)
  obtain ⟨b2, o2, q2, hc2⟩ := hcw (by intro hz; rw [hz] at hw; simp at hw)
  have x1 := cell_over hbel _ _ (hc1 who hr)
  have x2 := cell_over hbel _ _ (hc2 who hw)
  subst q1 q2
  subst r1 w1
  have i1 : (who : Int) < (rn : Int) := by omega
  have i2 : (who : Int) < (wn : Int) := by omega
  have g1 : L.r.getD who false = L.r[who] := by simp [hr]
  have g2 : L.w.getD who false = L.w[who] := by simp [hw]
  unfold hasB
  rw [g1, g2]
  obtain ⟨y1, hy1⟩ : ∃ y, y = L.r[who] := ⟨_, rfl⟩
  obtain ⟨y2, hy2⟩ : ∃ y, y = L.w[who] := ⟨_, rfl⟩
  rw [← hy1] at x1 ⊢
  rw [← hy2] at x2 ⊢
  clear hcr hcw hc1 hc2 g1 g2 hy1 hy2 r2 r3 w2 w3 hr hw
  cases touch with
  | true =>
    go_enter Try.func124, Try.ntmps124
    go_wp2_with fail
    go_ret
    exact ⟨by simp, hbel⟩
  | false =>
    go_enter Try.func124, Try.ntmps124
    go_wp2_with fail
    go_ret
    exact ⟨by simp, hbel⟩

def falsesA (n : Nat) : Array Value := (List.replicate n (Value.bool false)).toArray
abbrev boolsV (l : List Bool) : List Value := l.map Value.bool
theorem Try.infoBo : (Try.prog.info? 4).map (fun i => (i.zero, i.size, i.bytes)) = some (some (.bool false), 1, 1) := by kernel_rfl
theorem makeB (n : Nat) (hn : n ≤ 100) (w : World) : (Instr.makeSlice 60 (.int .i64 n) (.int .i64 n)).run Try.prog w = .ok (.slice (some ⟨w.heap.size, 0, none⟩) n n) (w.alloc (.cells (falsesA n) 4)) := by
  obtain ⟨i, hi, hz, h1, h2⟩ := info_parts Try.infoBo
  have := run_make (P := Try.prog) w 60 4 i (.bool false) Try.underlying60 hi hz .i64 .i64 (n : Int) (n : Int) (by omega) (by omega) (by rw [h2]; omega) (by omega)
  rw [this, h1]
  simp only [Int.toNat_natCast, Nat.mul_one]
  have e : madeCells (Value.bool false).cells n = falsesA n := by
    unfold falsesA
    apply Array.ext
    · simp [madeCells]
    · intro j h1 h2
      simp [madeCells, Value.cells, Nat.mod_one]
  rw [e]
/-- a row of answers that is filled from the left. -/
structure RowB (l : List Bool) (b : Nat) (w : World) : Prop where
  row : RowAt (boolsV l) w b
  z : ∀ j, w.frozen? ⟨b, j, none⟩ = false
theorem RowB.over {l : List Bool} {b : Nat} {w w' : World} (h : RowB l b w) (hb : Below w.heap.size w w') (hlt : b < w.heap.size) : RowB l b w' := ⟨h.row.over hb, fun j => ((bcell hb).2 _ _ hlt).trans (h.z j)⟩
theorem RowB.set {l : List Bool} {b : Nat} {w : World} (h : RowB l b w) {j : Nat} (hj : j < l.length) (x : Bool) : RowB (l.set j x) b (w.setCell ⟨b, j, none⟩ (.bool x)) := by
  refine ⟨?_, fun k => (by simp [go_sem] : (w.setCell ⟨b, j, none⟩ (.bool x)).frozen? ⟨b, k, none⟩ = w.frozen? ⟨b, k, none⟩).trans (h.z k)⟩
  have := h.row.set (j := j) (v := .bool x) (by simpa using hj)
  simpa [boolsV, List.map_set] using this
theorem take_set {l : List Bool} {m : List Bool} {j : Nat} {x : Bool} (hj : j < l.length) (hl : l.length = m.length) (h : l.take j = m.take j) (hx : m[j]? = some x) : (l.set j x).take (j + 1) = m.take (j + 1) := by
  have hm : j < m.length := by omega
  rw [List.take_succ_eq_append_getElem (by simpa using hj), List.take_succ_eq_append_getElem hm, List.take_set_of_le (Nat.le_refl _), h]
  simp only [List.getElem_set_self]
  rw [List.getElem?_eq_getElem hm] at hx
  injection hx with hx
  rw [hx]
theorem levAt_lev {w : World} {v : Value} {L : Lev} (h : LevAt w v L) : ∃ ra rc wa wc, v = .agg #[.slice ra L.r.length rc, .slice wa L.w.length wc] := by
  obtain ⟨vr, vw, rfl, ⟨ar, cr, rfl, -⟩, ⟨aw, cw, rfl, -⟩⟩ := h
  exact ⟨_, _, _, _, rfl⟩

set_option maxHeartbeats 4000000 in
set_option maxRecDepth 100000 in
theorem channels_any (n : Nat) (ga : Option Addr) (gn gc : Nat) (sa : Option Addr) (sn sc : Nat) (ya : Option Addr) (yn yc : Nat) (oa : Option Addr) (on oc : Nat) (va : Option Addr) (vn vc : Nat) (fa : Option Addr) (fn fc : Nat) (ba : Option Addr) (bn bc : Nat) (who : Nat) (touch : Bool) (la : Option Addr) (ln lc : Nat) (gs : List (Int × Int)) (ls : List Lab) (w : World) (hg : IsGrants w (.slice ga gn gc) gs) (hl : LabsAt w (.slice la ln lc) ls) (hc : ∀ b ∈ ls, lChk (n : Int) gs b = 0) (hwho : who < n) (hn : n ≤ 6) (hl5 : ls.length ≤ 100) :
    Calls Try.prog 92 #[.agg #[.int .i64 (n : Int), .slice ga gn gc, .slice sa sn sc, .slice ya yn yc, .slice oa on oc, .slice va vn vc, .slice fa fn fc, .slice ba bn bc, .int .i64 (who : Int), .bool touch], .slice la ln lc] w fun e w' => ∃ b, e = .returned (.slice (some ⟨b, 0, none⟩) ls.length ls.length) ∧ w.heap.size ≤ b ∧ b < w'.heap.size ∧ RowB (ls.map (fun x => hasB touch who (levOf (gnOf gs) n x))) b w' ∧ Below w.heap.size w w' := by
  obtain ⟨M, hM⟩ : ∃ M, M = ls.map (fun x => hasB touch who (levOf (gnOf gs) n x)) := ⟨_, rfl⟩
  rw [← hM]
  have hML : M.length = ls.length := by rw [hM]; simp
  have hbel : Below w.heap.size w (w.alloc (.cells #[.int .i64 (n : Int), .slice ga gn gc, .slice sa sn sc, .slice ya yn yc, .slice oa on oc, .slice va vn vc, .slice fa fn fc, .slice ba bn bc, .int .i64 (who : Int), .bool touch] 149)) := (Below.refl _ w).alloc (Nat.le_refl _) _
  have hrow0 := RowAt.newA #[.int .i64 (n : Int), .slice ga gn gc, .slice sa sn sc, .slice ya yn yc, .slice oa on oc, .slice va vn vc, .slice fa fn fc, .slice ba bn bc, .int .i64 (who : Int), .bool touch] 149 w
  have hln : ln = ls.length := by obtain ⟨-, a, c, he, -⟩ := hl; injection he
  have mk := makeB ls.length hl5
  have HG := hide hg
  have HL := hide hl
  have HC := hide hc
  have HM := hide hM
  have HML := hide hML
  have hst : ∃ (j : Nat) (l : List Bool), j = 0 ∧ j ≤ ls.length ∧ l.length = ls.length ∧ l.take j = M.take j ∧ RowB l (w.heap.size + 1) ((w.alloc (.cells #[.int .i64 (n : Int), .slice ga gn gc, .slice sa sn sc, .slice ya yn yc, .slice oa on oc, .slice va vn vc, .slice fa fn fc, .slice ba bn bc, .int .i64 (who : Int), .bool touch] 149)).alloc (.cells (falsesA ls.length) 4)) ∧ RowAt [.int .i64 (n : Int), .slice ga gn gc, .slice sa sn sc, .slice ya yn yc, .slice oa on oc, .slice va vn vc, .slice fa fn fc, .slice ba bn bc, .int .i64 (who : Int), .bool touch] ((w.alloc (.cells #[.int .i64 (n : Int), .slice ga gn gc, .slice sa sn sc, .slice ya yn yc, .slice oa on oc, .slice va vn vc, .slice fa fn fc, .slice ba bn bc, .int .i64 (who : Int), .bool touch] 149)).alloc (.cells (falsesA ls.length) 4)) w.heap.size ∧ Below w.heap.size w ((w.alloc (.cells #[.int .i64 (n : Int), .slice ga gn gc, .slice sa sn sc, .slice ya yn yc, .slice oa on oc, .slice va vn vc, .slice fa fn fc, .slice ba bn bc, .int .i64 (who : Int), .bool touch] 149)).alloc (.cells (falsesA ls.length) 4)) := by
    refine ⟨0, List.replicate ls.length false, rfl, Nat.zero_le _, by simp, by simp, ⟨?_, fun j => by simp [go_sem]⟩, hrow0.over ((Below.refl _ _).alloc (Nat.le_refl _) _), hbel.alloc (by simp) _⟩
    have := RowAt.newA (falsesA ls.length) 4 (w.alloc (.cells #[.int .i64 (n : Int), .slice ga gn gc, .slice sa sn sc, .slice ya yn yc, .slice oa on oc, .slice va vn vc, .slice fa fn fc, .slice ba bn bc, .int .i64 (who : Int), .bool touch] 149))
    simpa [falsesA, boolsV] using this
  have HST := hide hst
  subst hln
  clear hst hrow0 hg hl hc hM hML hbel
  go_enter Try.func92, Try.ntmps92
  go_wp2_with fail
  go_loopw [15] (fun i wr => ∃ (j : Nat) (l : List Bool), i = .int .i64 (j : Int) ∧ j ≤ ls.length ∧ l.length = ls.length ∧ l.take j = M.take j ∧ RowB l (w.heap.size + 1) wr ∧ RowAt [.int .i64 (n : Int), .slice ga gn gc, .slice sa sn sc, .slice ya yn yc, .slice oa on oc, .slice va vn vc, .slice fa fn fc, .slice ba bn bc, .int .i64 (who : Int), .bool touch] wr w.heap.size ∧ Below w.heap.size w wr ∧ w.heap.size + 1 < wr.heap.size) (fun i _ => ls.length - (intOf i).toNat)
  case atStart =>
    obtain ⟨j, l, rfl, i1, i2, i3, i4, i5, i6⟩ := HST.out
    exact ⟨0, l, rfl, i1, i2, i3, i4, i5, i6, by simp⟩
  case round =>
    clear HST
    obtain ⟨j, l, rfl, hj, hll, htk, hrb, hvr, hB, hsz⟩ := hrel
    by_cases hjl : j < ls.length
    · obtain ⟨hmx, lo, lcap, hle, hel⟩ := HL.out
      injection hle with e1 e2 e3
      obtain ⟨lb, loff, hlb, hel2⟩ := hel (by intro hz; rw [hz] at hjl; simp at hjl)
      obtain ⟨pr, pw, p0, p1, hpr, hpw⟩ := hel2 j hjl
      have e1' := e1.trans hlb
      subst e1'
      obtain ⟨a1, n1, c1, rfl⟩ := pols_form hpr
      obtain ⟨a2, n2, c2, rfl⟩ := pols_form hpw
      have q0 := cell_over hB _ _ p0
      have q1 := cell_over hB _ _ p1
      have hlb2 : lb < w.heap.size := World.block_lt_of_cell? w _ p0
      have hba : Below wr.heap.size wr (wr.alloc (.cells #[.slice a1 n1 c1, .slice a2 n2 c2] 102)) := (Below.refl _ wr).alloc (Nat.le_refl _) _
      have hBa := hB.trans (hba.mono hB.size)
      have KL := hide (levelOk (n : Int) (.slice ga gn gc) gs (.slice a1 n1 c1) (.slice a2 n2 c2) ls[j] _ (isGrants_over HG.out hBa) (isPols_over hpr hBa) (isPols_over hpw hBa))
      rw [HC.out ls[j] (List.getElem_mem hjl), if_pos rfl] at KL
      obtain ⟨LV, hLV⟩ : ∃ q, q = levOf (gnOf gs) ((n : Int).toNat) ls[j] := ⟨_, rfl⟩
      rw [← hLV] at KL
      have hlr : LV.r.length = n := by rw [hLV]; simp [levOf, rowOf]
      have hlw : LV.w.length = n := by rw [hLV]; simp [levOf, rowOf]
      have hMj : M[j]? = some (hasB touch who LV) := by rw [HM.out, hLV, List.getElem?_map, List.getElem?_eq_getElem hjl]; simp
      have hvr2 := hvr.over hba
      have HRB := hide hrb
      have HVR := hide hvr
      have HB := hide hB
      have HBA := hide hba
      have HMJ := hide hMj
      have HLR := hide hlr
      have HLW := hide hlw
      have HTK := hide htk
      have HLL := hide hll
      have v0 := hvr2 0 _ rfl
      have v1 := hvr2 1 _ rfl
      have u0 := hvr 0 _ rfl
      have u1 := hvr 1 _ rfl
      clear hel hel2 p0 p1 hpr hpw e1 e2 e3 hlb hLV hMj hrb hvr2 htk hll hlr hlw hB hmx hBa
      go_wp2_with fail
      refine (KL.out).mono ?_
      rintro e w1 ⟨vl, rfl, hfr, hb1⟩
      obtain ⟨ra, rc, wa, wc, hvl⟩ := levAt_lev (levFresh_at hfr)
      subst hvl
      have hLat := levFresh_at hfr
      rw [HLR.out, HLW.out] at hLat ⊢
      have hbb : Below w1.heap.size w1 (w1.alloc (.cells #[.slice ra n rc, .slice wa n wc] 62)) := (Below.refl _ w1).alloc (Nat.le_refl _) _
      have hb3 := over_trans (over_trans HBA.out hb1) hbb
      have hvr3 := HVR.out.over hb3
      have HRB3 := hide (HRB.out.over hb3 hsz)
      have KH := hide (has_any (n : Int) ga gn gc sa sn sc ya yn yc oa on oc va vn vc fa fn fc ba bn bc who touch ra n rc wa n wc LV (w1.alloc (.cells #[.slice ra n rc, .slice wa n wc] 62)) (levAt_over hLat hbb) (by rw [HLR.out]; exact hwho) (by rw [HLW.out]; exact hwho) (by omega))
      have t0 := hvr3 0 _ rfl
      have t1 := hvr3 1 _ rfl
      have t2 := hvr3 2 _ rfl
      have t3 := hvr3 3 _ rfl
      have t4 := hvr3 4 _ rfl
      have t5 := hvr3 5 _ rfl
      have t6 := hvr3 6 _ rfl
      have t7 := hvr3 7 _ rfl
      have t8 := hvr3 8 _ rfl
      have t9 := hvr3 9 _ rfl
      have HVR3 := hide hvr3
      have HB3 := hide hb3
      obtain ⟨x, hx⟩ : ∃ x, x = hasB touch who LV := ⟨_, rfl⟩
      rw [← hx] at KH HMJ
      clear KL hfr hLat hb1 hbb hb3 hvr3 hx v0 v1 u0 u1 hvr q0 q1
      go_wp2_with fail
      refine (KH.out).mono ?_
      rintro e w2 ⟨rfl, hb2⟩
      have hs3 : w.heap.size + 1 < (w1.alloc (.cells #[.slice ra n rc, .slice wa n wc] 62)).heap.size := Nat.lt_of_lt_of_le hsz HB3.out.size
      have hrb2 := HRB3.out.over hb2 hs3
      have hjl2 : j < l.length := by rw [HLL.out]; exact hjl
      have y0 : w2.cell? ⟨w.heap.size + 1, j, none⟩ = some (.bool l[j]) := hrb2.row j _ (by simp [hjl2])
      have y1 := hrb2.z j
      have hs2 : w.heap.size + 1 < w2.heap.size := Nat.lt_of_lt_of_le hs3 hb2.size
      have HRB2 := hide (hrb2.set hjl2 x)
      have HB2 := hide (over_trans HB3.out hb2)
      have HVR2 := hide ((HVR3.out.over hb2).other (b' := w.heap.size + 1) (j := j) (v := .bool x) (by omega))
      obtain ⟨lj, hlj⟩ : ∃ q, q = l[j] := ⟨_, rfl⟩
      rw [← hlj] at y0
      have hji : (j : Int) < (ls.length : Int) := by omega
      clear KH hb2 hrb2 hlj t0 t1 t2 t3 t4 t5 t6 t7 t8 t9
      go_wp2_with fail
      refine ⟨⟨j + 1, l.set j x, by go_num, by omega, by simpa using HLL.out, take_set hjl2 (HLL.out.trans HML.out.symm) HTK.out HMJ.out, HRB2.out, HVR2.out, (HB.out.trans (HB2.out.mono HB.out.size)).setCell (by simp) _, by simpa [World.setCell] using hs2⟩, by simp [intOf]; omega⟩
    · have hje : j = ls.length := by omega
      have hlM : l = M := by
        have h1 : l.take j = l := List.take_of_length_le (by omega)
        have h2 : M.take j = M := List.take_of_length_le (by rw [HML.out]; omega)
        rw [← h1, htk, h2]
      have HF := hide (And.intro hrb hB)
      rw [hlM] at HF
      clear htk hrb hB hvr
      go_wp2_with fail
      go_ret
      exact ⟨w.heap.size + 1, rfl, Nat.le_succ _, hsz, HF.out.1, HF.out.2⟩
/-- which variables are asked for. -/
def VarsSaid (K kf n : Nat) (vn : Nat) (touch : Bool) (who : Nat) (gs : List (Int × Int)) (ls : List Lab) (vs : List (Bool × Lab)) (fs : List FnD) (l : List D) (w : World) (e : Ending) (w' : World) : Prop :=
  ∃ b st, e = .returned (.slice (some ⟨b, 0, none⟩) vn vn) ∧ w.heap.size ≤ b ∧ b < w'.heap.size ∧ Inferred n K kf gs vs ls fs l st ∧ st.vs.length = vn ∧ RowB (st.vs.map (hasB touch who)) b w' ∧ Below w.heap.size w w'

set_option maxHeartbeats 4000000 in
set_option maxRecDepth 100000 in
theorem vars_any (K kf n : Nat) (ga : Option Addr) (gn gc : Nat) (sa : Option Addr) (sn sc : Nat) (ya : Option Addr) (yn yc : Nat) (oa : Option Addr) (on oc : Nat) (va : Option Addr) (vn vc : Nat) (fa : Option Addr) (fn fc : Nat) (ba : Option Addr) (bn bc : Nat) (who : Nat) (touch : Bool) (gs : List (Int × Int)) (sp : List Int) (ls ms : List Lab) (vs : List (Bool × Lab)) (fs : List FnD) (l : List D) (w : World) (h : ProgAt K kf (n : Int) ga gn gc sa sn sc ya yn yc oa on oc va vn vc fa fn fc ba bn bc gs sp ls ms vs fs l w) (hX : Ey.xP K kf (n : Int) vn yn on sn gs sp ls ms vs fs l) (hwho : who < n) :
    Calls Try.prog 95 #[.agg #[.int .i64 (n : Int), .slice ga gn gc, .slice sa sn sc, .slice ya yn yc, .slice oa on oc, .slice va vn vc, .slice fa fn fc, .slice ba bn bc, .int .i64 (who : Int), .bool touch]] w (VarsSaid K kf n vn touch who gs ls vs fs l w) := by
  have hbel : Below w.heap.size w (w.alloc (.cells #[.int .i64 (n : Int), .slice ga gn gc, .slice sa sn sc, .slice ya yn yc, .slice oa on oc, .slice va vn vc, .slice fa fn fc, .slice ba bn bc, .int .i64 (who : Int), .bool touch] 149)) := (Below.refl _ w).alloc (Nat.le_refl _) _
  have hrow0 := RowAt.newA #[.int .i64 (n : Int), .slice ga gn gc, .slice sa sn sc, .slice ya yn yc, .slice oa on oc, .slice va vn vc, .slice fa fn fc, .slice ba bn bc, .int .i64 (who : Int), .bool touch] 149 w
  have K1 := hide (inferW K kf (n : Int) ga gn gc sa sn sc ya yn yc oa on oc va vn vc fa fn fc ba bn bc gs sp ls ms vs fs l _ (h.over hbel) (fun why => (why = 0 ↔ Ey.xP K kf (n : Int) vn yn on sn gs sp ls ms vs fs l)) (fun W hW => Ey.scopeCheck_any K kf (n : Int) ga gn gc sa sn sc ya yn yc oa on oc va vn vc fa fn fc ba bn bc gs sp ls ms vs fs l W ((h.over hbel).over hW)) (fun hp => (hp.1 rfl).ok))
  have HX := hide hX
  have hv16 : vn ≤ 16 := hX.ok.vars
  have hn6 : n ≤ 6 := by obtain ⟨n', h1, -, h2, -⟩ := chk_ok hX.chk; omega
  have HB0 := hide hbel
  have HR0 := hide hrow0
  have a0 := hrow0 0 _ rfl
  have a1 := hrow0 1 _ rfl
  have a2 := hrow0 2 _ rfl
  have a3 := hrow0 3 _ rfl
  have a4 := hrow0 4 _ rfl
  have a5 := hrow0 5 _ rfl
  have a6 := hrow0 6 _ rfl
  have a7 := hrow0 7 _ rfl
  clear h hX hbel hrow0
  unfold VarsSaid
  go_enter Try.func95, Try.ntmps95
  go_wp2_with fail
  refine (K1.out).mono ?_
  rintro e w1 ⟨why, hP, hB1, ⟨hne, -⟩ | ⟨-, -, n', st, la, ln, lc, ka, kn, kc, hn', rfl, hV, -, hlen, -, hvl, -, hinf, -, -⟩⟩
  · exact absurd (hP.2 HX.out) hne
  have hnn : n = n' := by omega
  subst hnn
  obtain ⟨M, hM⟩ : ∃ M, M = st.vs.map (hasB touch who) := ⟨_, rfl⟩
  have hML : M.length = vn := by rw [hM]; simp [hvl]
  have hln : vn = ln := by obtain ⟨a, c, he, -⟩ := hV; injection he with e1 e2 e3; omega
  have hb2 : Below w1.heap.size w1 (w1.alloc (.cells #[.slice la ln lc, .slice ka kn kc] 54)) := (Below.refl _ w1).alloc (Nat.le_refl _) _
  have hb3 : Below w1.heap.size w1 ((w1.alloc (.cells #[.slice la ln lc, .slice ka kn kc] 54)).alloc (.cells (falsesA vn) 4)) := hb2.alloc (by simp) _
  have hBw1 := HB0.out.trans (hB1.mono HB0.out.size)
  have hrow1 := HR0.out.over hB1
  have hst : ∃ (j : Nat) (l : List Bool), j = 0 ∧ j ≤ vn ∧ l.length = vn ∧ l.take j = M.take j ∧ RowB l (w1.heap.size + 1) ((w1.alloc (.cells #[.slice la ln lc, .slice ka kn kc] 54)).alloc (.cells (falsesA vn) 4)) ∧ RowAt [.int .i64 (n : Int), .slice ga gn gc, .slice sa sn sc, .slice ya yn yc, .slice oa on oc, .slice va vn vc, .slice fa fn fc, .slice ba bn bc, .int .i64 (who : Int), .bool touch] ((w1.alloc (.cells #[.slice la ln lc, .slice ka kn kc] 54)).alloc (.cells (falsesA vn) 4)) w.heap.size ∧ Below w1.heap.size w1 ((w1.alloc (.cells #[.slice la ln lc, .slice ka kn kc] 54)).alloc (.cells (falsesA vn) 4)) := by
    refine ⟨0, List.replicate vn false, rfl, Nat.zero_le _, by simp, by simp, ⟨?_, fun j => by simp [go_sem]⟩, hrow1.over hb3, hb3⟩
    have := RowAt.newA (falsesA vn) 4 (w1.alloc (.cells #[.slice la ln lc, .slice ka kn kc] 54))
    simpa [falsesA, boolsV] using this
  have HST := hide hst
  have mk := makeB vn (by omega)
  have hws1 : w.heap.size < w1.heap.size := by have := hB1.size; simp at this; omega
  have HV := hide hV
  have HM := hide hM
  have HML := hide hML
  have HVL := hide hvl
  have HLEN := hide hlen
  have HINF := hide hinf
  have HBW1 := hide hBw1
  have HLN := hide hln
  subst hln
  clear hst K1 hB1 hV hM hML hvl hlen hinf hBw1 hb2 hb3 hrow1 a0 a1 a2 a3 a4 a5 a6 a7 hP hn'
  go_wp2_with fail
  go_loopw [21] (fun i wr => ∃ (j : Nat) (l : List Bool), i = .int .i64 (j : Int) ∧ j ≤ vn ∧ l.length = vn ∧ l.take j = M.take j ∧ RowB l (w1.heap.size + 1) wr ∧ RowAt [.int .i64 (n : Int), .slice ga gn gc, .slice sa sn sc, .slice ya yn yc, .slice oa on oc, .slice va vn vc, .slice fa fn fc, .slice ba bn bc, .int .i64 (who : Int), .bool touch] wr w.heap.size ∧ Below w1.heap.size w1 wr ∧ w1.heap.size + 1 < wr.heap.size) (fun i _ => vn - (intOf i).toNat)
  case atStart =>
    obtain ⟨j, l, rfl, i1, i2, i3, i4, i5, i6⟩ := HST.out
    exact ⟨0, l, rfl, i1, i2, i3, i4, i5, i6, by simp⟩
  case round =>
    clear HST
    obtain ⟨j, l, rfl, hj, hll, htk, hrb, hvr, hB, hsz⟩ := hrel
    by_cases hjl : j < vn
    · obtain ⟨lo, lcap, hle, hel⟩ := HV.out
      injection hle with e1 e2 e3
      have hjs : j < st.vs.length := by omega
      obtain ⟨lb, loff, hlb, hel2⟩ := hel (by intro hz; rw [hz] at hjs; simp at hjs)
      obtain ⟨rv, wv, p0, p1, hLat⟩ := hel2 j hjs
      have e1' := e1.trans hlb
      subst e1'
      obtain ⟨LV, hLV⟩ : ∃ q, q = st.vs[j] := ⟨_, rfl⟩
      have hlr : LV.r.length = n ∧ LV.w.length = n := by rw [hLV]; exact HLEN.out _ (List.getElem_mem hjs)
      rw [← hLV] at hLat
      obtain ⟨ra, rc, wa, wc, hvv⟩ := levAt_lev hLat
      simp only [Value.agg.injEq, Array.mk.injEq, List.cons.injEq, and_true] at hvv
      obtain ⟨h1, h2⟩ := hvv
      subst h1 h2
      rw [hlr.1, hlr.2] at hLat
      rw [hlr.1] at p0
      rw [hlr.2] at p1
      have q0 := cell_over hB _ _ p0
      have q1 := cell_over hB _ _ p1
      have hba : Below wr.heap.size wr (wr.alloc (.cells #[.slice ra n rc, .slice wa n wc] 62)) := (Below.refl _ wr).alloc (Nat.le_refl _) _
      have hBa := hB.trans (hba.mono hB.size)
      have hvr3 := hvr.over hba
      have KH := hide (has_any (n : Int) ga gn gc sa sn sc ya yn yc oa on oc va vn vc fa fn fc ba bn bc who touch ra n rc wa n wc LV (wr.alloc (.cells #[.slice ra n rc, .slice wa n wc] 62)) (levAt_over hLat hBa) (by rw [hlr.1]; exact hwho) (by rw [hlr.2]; exact hwho) (by omega))
      have hMj : M[j]? = some (hasB touch who LV) := by rw [HM.out, hLV, List.getElem?_map, List.getElem?_eq_getElem hjs]; simp
      obtain ⟨x, hx⟩ : ∃ x, x = hasB touch who LV := ⟨_, rfl⟩
      rw [← hx] at KH hMj
      have t0 := hvr3 0 _ rfl
      have t1 := hvr3 1 _ rfl
      have t2 := hvr3 2 _ rfl
      have t3 := hvr3 3 _ rfl
      have t4 := hvr3 4 _ rfl
      have t5 := hvr3 5 _ rfl
      have t6 := hvr3 6 _ rfl
      have t7 := hvr3 7 _ rfl
      have t8 := hvr3 8 _ rfl
      have t9 := hvr3 9 _ rfl
      have HRB3 := hide (hrb.over hba hsz)
      have HVR3 := hide hvr3
      have HB := hide hB
      have HBA := hide hba
      have HMJ := hide hMj
      have HTK := hide htk
      have HLL := hide hll
      clear hel hel2 p0 p1 e1 e2 e3 hlb hLV hMj hrb hvr hvr3 htk hll hlr hB hBa hLat hx
      go_wp2_with fail
      refine (KH.out).mono ?_
      rintro e w2 ⟨rfl, hb2⟩
      have hs3 : w1.heap.size + 1 < (wr.alloc (.cells #[.slice ra n rc, .slice wa n wc] 62)).heap.size := Nat.lt_of_lt_of_le hsz HBA.out.size
      have hrb2 := HRB3.out.over hb2 hs3
      have hjl2 : j < l.length := by rw [HLL.out]; exact hjl
      have y0 : w2.cell? ⟨w1.heap.size + 1, j, none⟩ = some (.bool l[j]) := hrb2.row j _ (by simp [hjl2])
      have y1 := hrb2.z j
      have hs2 : w1.heap.size + 1 < w2.heap.size := Nat.lt_of_lt_of_le hs3 hb2.size
      have HRB2 := hide (hrb2.set hjl2 x)
      have HB2 := hide (over_trans HBA.out hb2)
      have HVR2 := hide ((HVR3.out.over hb2).other (b' := w1.heap.size + 1) (j := j) (v := .bool x) (by omega))
      obtain ⟨lj, hlj⟩ : ∃ q, q = l[j] := ⟨_, rfl⟩
      rw [← hlj] at y0
      have hji : (j : Int) < (vn : Int) := by omega
      clear KH hb2 hrb2 hlj t0 t1 t2 t3 t4 t5 t6 t7 t8 t9
      go_wp2_with fail
      refine ⟨⟨j + 1, l.set j x, by go_num, by omega, by simpa using HLL.out, take_set hjl2 (HLL.out.trans HML.out.symm) HTK.out HMJ.out, HRB2.out, HVR2.out, (HB.out.trans (HB2.out.mono HB.out.size)).setCell (by simp) _, by simpa [World.setCell] using hs2⟩, by simp [intOf]; omega⟩
    · have hje : j = vn := by omega
      have hlM : l = M := by
        have h1 : l.take j = l := List.take_of_length_le (by omega)
        have h2 : M.take j = M := List.take_of_length_le (by rw [HML.out]; omega)
        rw [← h1, htk, h2]
      have HF := hide (And.intro hrb hB)
      rw [hlM] at HF
      clear htk hrb hB hvr
      go_wp2_with fail
      go_ret
      exact ⟨w1.heap.size + 1, st, rfl, by omega, hsz, HINF.out, HVL.out, by rw [← HM.out]; exact HF.out.1, HBW1.out.trans (HF.out.2.mono HBW1.out.size)⟩
abbrev Ev4 := Int × Int × Int × Int
/-- what one who watches holds: levels of variables, of places. -/
structure WSt where
  vs : List Lev
  ps : List Lev
/-- what one who watches says of a moment (its kind, the command's number, how deep, the command), and what it holds then. -/
abbrev Ob := Nat → Int → Nat → D → WSt → Bool × WSt
structure RSt where
  ev : List Ev4
  vars : List Int
  taken : List Int
  steps : Nat
  en : Int
  sp : Int
  o : WSt

def RSt.step (st : RSt) : RSt := { st with steps := st.steps + 1 }
def RSt.out (st : RSt) : RSt := { st with en := 2 }
def RSt.setv (st : RSt) (v x : Int) : RSt := { st with vars := st.vars.set v.toNat x }
def RSt.tell (st : RSt) (e : Ev4) : RSt := { st with ev := st.ev ++ [e] }
def RSt.took (st : RSt) (c : Int) : RSt := { st with taken := st.taken.set c.toNat (st.taken.getD c.toNat 0 + 1) }
def RSt.held (st : RSt) (o : WSt) : RSt := { st with o := o }
def RSt.stop (st : RSt) (a : Int) (o : WSt) : RSt := { st with o := o, en := 3, sp := a }
def nextX (ins : List (List Int)) (st : RSt) (c : Int) : Int := (ins.getD c.toNat []).getD (st.taken.getD c.toNat 0).toNat 0
def setAll (vs : List Int) (l : List (Int × Int)) : List Int := l.foldl (fun vs q => vs.set q.1.toNat q.2) vs

/-- go on, if there was fuel, and none stopped it. -/
def contR (r : Bool × RSt) (f : RSt → Bool × RSt) : Bool × RSt := if r.1 = true then f r.2 else r
/-- may it go on? -/
def passR (ob : Ob) (kind : Nat) (a : Int) (dp : Nat) (d : D) (st : RSt) : Bool × RSt :=
  if (ob kind a dp d st.o).1 = true then (true, st.held (ob kind a dp d st.o).2) else (false, st.stop a (ob kind a dp d st.o).2)

/-- a command of one step alone. -/
def oneX (K : Nat) (ins : List (List Int)) (d : D) (a : Int) (st : RSt) : RSt :=
  if sKind d = 1 then st.setv (sVar d) (valX st.vars K (sExpr d))
  else if sKind d = 3 then (st.took (sOther d)).setv (sVar d) (nextX ins st (sOther d))
  else if sKind d = 4 then st.tell (1, a, sOther d, valX st.vars K (sExpr d))
  else if sKind d = 5 then (st.setv (sVar d) (valX st.vars K (sExpr d))).tell (2, a, sVar d, valX st.vars K (sExpr d))
  else if sKind d = 6 then (st.setv (sVar d) (valX st.vars K (sExpr d))).tell (3, a, sVar d, valX st.vars K (sExpr d))
  else st

def RSt.args (K : Nat) (fs : List FnD) (d : D) (st : RSt) : RSt := { st with vars := setAll st.vars ((fnAt fs (sOther d)).ps.zip ((sArgs d).map (valX st.vars K))) }

/-- commands (0), a command (1), a loop (2). -/
def rn (K kf : Nat) (fs : List FnD) (F : Nat) (ins : List (List Int)) (ob : Ob) : Nat → Nat → Nat → List D → Int → Nat → RSt → Bool × RSt
  | 0, _, _, _, _, _, st => (false, st)
  | g + 1, 0, k, l, a, dp, st =>
    match l with
    | [] => (true, st)
    | d :: r => if st.steps = F then (false, st.out) else contR (passR ob 1 a dp d st.step) (fun st1 => contR (rn K kf fs F ins ob g 1 k [d] a dp st1) (fun st' => rn K kf fs F ins ob g 0 k r (a + cntS k d) dp st'))
  | g + 1, 1, k, l, a, dp, st =>
    match l with
    | [] => (true, st)
    | d :: _ =>
      if sKind d = 2 then contR (rn K kf fs F ins ob g 0 kf (fnAt fs (sOther d)).body (cntF kf (fs.take (sOther d).toNat)) dp (st.args K fs d)) (fun st1 => contR (passR ob 3 a dp d st1) (fun st' => (true, st'.setv (sVar d) (valX st'.vars K (fnAt fs (sOther d)).res))))
      else if sKind d = 7 then (if valX st.vars K (sExpr d) = 0 then rn K kf fs F ins ob g 0 (k - 1) (sElse d) (a + 1 + cnts (k - 1) (sThen d)) (dp + 1) st else rn K kf fs F ins ob g 0 (k - 1) (sThen d) (a + 1) (dp + 1) st)
      else if sKind d = 8 then rn K kf fs F ins ob g 2 k [d] a dp st
      else (true, oneX K ins d a st)
  | g + 1, _ + 2, k, l, a, dp, st =>
    match l with
    | [] => (true, st)
    | d :: _ => if valX st.vars K (sExpr d) = 0 then (true, st) else contR (rn K kf fs F ins ob g 0 (k - 1) (sThen d) (a + 1) (dp + 1) st) (fun st' => if st'.steps = F then (false, st'.out) else contR (passR ob 2 a dp d st'.step) (fun st1 => rn K kf fs F ins ob g 2 k [d] a dp st1))

/-- what grows. -/
structure Gr (st st' : RSt) : Prop where
  ev : st.ev <+: st'.ev
  steps : st.steps ≤ st'.steps
  len : st'.taken.length = st.taken.length
  taken : ∀ c, st.taken.getD c 0 ≤ st'.taken.getD c 0
theorem Gr.refl (st : RSt) : Gr st st := ⟨List.prefix_rfl, Nat.le_refl _, rfl, fun _ => Int.le_refl _⟩
theorem Gr.trans {a b c : RSt} (h : Gr a b) (k : Gr b c) : Gr a c := ⟨h.ev.trans k.ev, Nat.le_trans h.steps k.steps, k.len.trans h.len, fun x => Int.le_trans (h.taken x) (k.taken x)⟩
theorem Gr.step (st : RSt) : Gr st st.step := ⟨List.prefix_rfl, Nat.le_succ _, rfl, fun _ => Int.le_refl _⟩
theorem Gr.setv (st : RSt) (v x : Int) : Gr st (st.setv v x) := ⟨List.prefix_rfl, Nat.le_refl _, rfl, fun _ => Int.le_refl _⟩
theorem Gr.tell (st : RSt) (e : Ev4) : Gr st (st.tell e) := ⟨List.prefix_append _ _, Nat.le_refl _, rfl, fun _ => Int.le_refl _⟩
theorem Gr.args (K : Nat) (fs : List FnD) (d : D) (st : RSt) : Gr st (st.args K fs d) := ⟨List.prefix_rfl, Nat.le_refl _, rfl, fun _ => Int.le_refl _⟩
theorem getD_set {l : List Int} {i j : Nat} {x : Int} : (l.set i x).getD j 0 = if i = j ∧ i < l.length then x else l.getD j 0 := by
  rw [List.getD_eq_getElem?_getD, List.getD_eq_getElem?_getD, List.getElem?_set]
  by_cases h : i = j
  · subst h
    by_cases h2 : i < l.length
    · simp [h2]
    · simp [h2]
  · simp [h]
theorem Gr.took (st : RSt) (c : Int) : Gr st (st.took c) := ⟨List.prefix_rfl, Nat.le_refl _, by simp [RSt.took], fun x => by
  simp only [RSt.took, getD_set]
  split
  · rename_i h
    rw [← h.1]
    omega
  · exact Int.le_refl _⟩
theorem Gr.one (K : Nat) (ins : List (List Int)) (d : D) (a : Int) (st : RSt) : Gr st (oneX K ins d a st) := by
  unfold oneX
  split
  · exact Gr.setv _ _ _
  · split
    · exact (Gr.took _ _).trans (Gr.setv _ _ _)
    · split
      · exact Gr.tell _ _
      · split
        · exact (Gr.setv _ _ _).trans (Gr.tell _ _)
        · split
          · exact (Gr.setv _ _ _).trans (Gr.tell _ _)
          · exact Gr.refl _
theorem Gr.out (st : RSt) : Gr st st.out := ⟨List.prefix_rfl, Nat.le_refl _, rfl, fun _ => Int.le_refl _⟩
/-- one run with less fuel beside another one. -/
def More (F : Nat) (a b : Bool × RSt) : Prop := a.2.steps ≤ F ∧ ((a.1 = true ∧ b = a) ∨ (a.1 = false ∧ a.2.steps = F ∧ a.2.en = 2 ∧ a.2.ev <+: b.2.ev))
theorem More.same {F : Nat} {st : RSt} (h : st.steps ≤ F) : More F (true, st) (true, st) := ⟨h, Or.inl ⟨rfl, rfl⟩⟩
structure InvT (ni : Nat) (st : RSt) : Prop where
  len : st.taken.length = ni
  pos : ∀ c, 0 ≤ st.taken.getD c 0
theorem InvT.gr {ni : Nat} {st st' : RSt} (h : InvT ni st) (hg : Gr st st') : InvT ni st' := ⟨hg.len.trans h.len, fun c => Int.le_trans (h.pos c) (hg.taken c)⟩
/-- lists of numbers. -/
def ListsAt (w : World) (v : Value) (ls : List (List Int)) : Prop :=
  ls.length ≤ maxLen ∧ ∃ ao cap, v = .slice ao ls.length cap ∧ (ls ≠ [] → ∃ b off, ao = some ⟨b, off, none⟩ ∧ ∀ i (h : i < ls.length), ∃ u, w.cell? ⟨b, off + i, none⟩ = some u ∧ IsInts w u ls[i] ∧ ls[i].length ≤ 9223372036854775807)
theorem ListsAt.over {w w' : World} {v : Value} {ls : List (List Int)} (h : ListsAt w v ls) (hb : Below w.heap.size w w') : ListsAt w' v ls := by
  obtain ⟨hm, ao, cap, hv, hc⟩ := h
  refine ⟨hm, ao, cap, hv, fun hne => ?_⟩
  obtain ⟨b, off, hao, hel⟩ := hc hne
  refine ⟨b, off, hao, fun i hi => ?_⟩
  obtain ⟨u, h0, h1, h2⟩ := hel i hi
  exact ⟨u, cell_over hb _ _ h0, h1.over hb, h2⟩
abbrev intsV (l : List Int) : List Value := l.map fun x => Value.int .i64 x
def evCells : List Ev4 → List Value
  | [] => []
  | e :: r => .int .i64 e.1 :: .int .i64 e.2.1 :: .int .i64 e.2.2.1 :: .int .i64 e.2.2.2 :: evCells r
theorem evCells_append : ∀ (l m : List Ev4), evCells (l ++ m) = evCells l ++ evCells m
  | [], m => rfl
  | e :: r, m => by simp [evCells, evCells_append r m]
/-- what a runner holds of its own in memory: the row of events, and the blocks of one who watches. -/
structure Ow where
  ev : Value
  X : Nat → Prop
def Ow.at (E : Ow) (k : Nat) : Prop := E.ev.ownBlock = some k ∨ E.X k
/-- the runner's own blocks. -/
def Yb (br b1 b2 : Nat) (ev : Value) (k : Nat) : Prop := k = br ∨ k = b1 ∨ k = b2 ∨ ev.ownBlock = some k
/-- one who watches: what it holds in memory (with blocks X of its own, apart from Y's), and what holds of it at a depth. -/
structure ObsI where
  fn : FuncId
  cap : List Value
  ent : ∀ (args : Array Value) (w : World), (callFunc fn args).run Try.prog w = .ok (.enter fn args) w
  ob : Ob
  In : (Nat → Prop) → WSt → (Nat → Prop) → World → Prop
  ok : Nat → WSt → Prop
  lt : ∀ {Y s X w}, In Y s X w → ∀ k, X k → k < w.heap.size ∧ ¬ Y k
  kept : ∀ {Y Y' s X w w'}, In Y s X w → w'.os = w.os → w'.tape = w.tape → w'.output = w.output → w.heap.size ≤ w'.heap.size → (∀ k, k < w.heap.size → ¬ Y k → w'.heap[k]? = w.heap[k]?) → (∀ k, Y' k → Y k ∨ w.heap.size ≤ k) → In Y' s X w'
  less : ∀ {dp s}, ok (dp + 1) s → ok dp s

structure RnG (I : ObsI) (B : Nat) (R : List Value) (br b1 b2 b3 : Nat) (fl : List Int) (dp : Nat) (st : RSt) (ev : Ow) (w : World) : Prop where
  row : RowAt (ev.ev :: .slice (some ⟨b1, 0, none⟩) st.vars.length st.vars.length :: .slice (some ⟨b2, 0, none⟩) st.taken.length st.taken.length :: .int .i64 (st.steps : Int) :: .int .i64 st.en :: .int .i64 st.sp :: (R ++ [.int .i64 (dp : Int), .func (.func I.fn) #[] I.cap.toArray])) w br
  vars : RowAt (intsV st.vars) w b1
  taken : RowAt (intsV st.taken) w b2
  first : RowAt (intsV fl) w b3
  own : w.ownsRow B 71 4 ev.ev st.ev.length (evCells st.ev)
  z0 : ∀ j, w.frozen? ⟨br, j, none⟩ = false
  z1 : ∀ j, w.frozen? ⟨b1, j, none⟩ = false
  z2 : ∀ j, w.frozen? ⟨b2, j, none⟩ = false
  apart : br ≠ b1 ∧ br ≠ b2 ∧ b1 ≠ b2 ∧ b3 ≠ br ∧ b3 ≠ b1 ∧ b3 ≠ b2
  evA : ¬ ev.at br ∧ ¬ ev.at b1 ∧ ¬ ev.at b2 ∧ ¬ ev.at b3
  lo : B ≤ br ∧ B ≤ b1 ∧ B ≤ b2
  hi : br < w.heap.size ∧ b1 < w.heap.size ∧ b2 < w.heap.size ∧ b3 < w.heap.size ∧ B ≤ w.heap.size
  ob : I.In (Yb br b1 b2 ev.ev) st.o ev.X w
  xlo : ∀ k, ev.X k → B ≤ k
  okd : I.ok dp st.o

theorem RnG.ev' {I : ObsI} {B : Nat} {R : List Value} {br b1 b2 b3 : Nat} {fl : List Int} {dp : Nat} {st : RSt} {ev : Ow} {w : World} (h : RnG I B R br b1 b2 b3 fl dp st ev w) : ∀ k, ev.at k → B ≤ k ∧ k < w.heap.size := fun k hk => by
  rcases hk with hk | hk
  · exact h.own.lt k hk
  · exact ⟨h.xlo k hk, (I.lt h.ob k hk).1⟩

theorem RnG.over {I : ObsI} {B : Nat} {R : List Value} {br b1 b2 b3 : Nat} {fl : List Int} {dp : Nat} {st : RSt} {ev : Ow} {w w' : World} (h : RnG I B R br b1 b2 b3 fl dp st ev w) (hb : Below w.heap.size w w') : RnG I B R br b1 b2 b3 fl dp st ev w' := by
  obtain ⟨hc, hf⟩ := bcell hb
  have hs := hb.size
  refine ⟨h.row.over hb, h.vars.over hb, h.taken.over hb, h.first.over hb, ?_, fun j => (hf _ _ h.hi.1).trans (h.z0 j), fun j => (hf _ _ h.hi.2.1).trans (h.z1 j), fun j => (hf _ _ h.hi.2.2.1).trans (h.z2 j), h.apart, h.evA, h.lo, ⟨by have := h.hi; omega, by have := h.hi; omega, by have := h.hi; omega, by have := h.hi; omega, by have := h.hi; omega⟩, I.kept h.ob hb.os hb.tape hb.output hb.size (fun k hk _ => hb.block k hk) (fun k hk => Or.inl hk), h.xlo, h.okd⟩
  have hg : w.grownBy w' none := ⟨hb.os, hb.tape, hb.output, hb.size, fun k hk _ => hb.block k hk⟩
  exact h.own.kept hg (by cases hv : ev.ev.ownBlock <;> simp)

/-- what is kept while it runs. -/
structure Fr (br b1 b2 : Nat) (ev ev' : Ow) (w w' : World) : Prop where
  os : w'.os = w.os
  tape : w'.tape = w.tape
  output : w'.output = w.output
  size : w.heap.size ≤ w'.heap.size
  block : ∀ k, k < w.heap.size → k ≠ br → k ≠ b1 → k ≠ b2 → ¬ ev.at k → w'.heap[k]? = w.heap[k]?
  evB : ∀ k, ev'.at k → ev.at k ∨ w.heap.size ≤ k
theorem Fr.of_below {br b1 b2 : Nat} {ev : Ow} {w w' : World} (h : Below w.heap.size w w') : Fr br b1 b2 ev ev w w' := ⟨h.os, h.tape, h.output, h.size, fun k hk _ _ _ _ => h.block k hk, fun k hk => Or.inl hk⟩
theorem Fr.refl (br b1 b2 : Nat) (ev : Ow) (w : World) : Fr br b1 b2 ev ev w w := Fr.of_below (Below.refl _ _)
theorem Fr.trans {br b1 b2 : Nat} {ev ev1 ev2 : Ow} {w w1 w2 : World} (h : Fr br b1 b2 ev ev1 w w1) (k : Fr br b1 b2 ev1 ev2 w1 w2) : Fr br b1 b2 ev ev2 w w2 := by
  refine ⟨k.os.trans h.os, k.tape.trans h.tape, k.output.trans h.output, Nat.le_trans h.size k.size, fun i hi h0 h1 h2 h3 => ?_, fun i hi => ?_⟩
  · refine (k.block i (Nat.lt_of_lt_of_le hi h.size) h0 h1 h2 (fun hx => ?_)).trans (h.block i hi h0 h1 h2 h3)
    rcases h.evB i hx with he | he
    · exact h3 he
    · omega
  · rcases k.evB i hi with he | he
    · exact h.evB i he
    · exact Or.inr (Nat.le_trans h.size he)
theorem Fr.over {br b1 b2 : Nat} {ev ev1 : Ow} {w w1 w2 : World} (h : Fr br b1 b2 ev ev1 w w1) (k : Below w1.heap.size w1 w2) : Fr br b1 b2 ev ev1 w w2 := h.trans (Fr.of_below k)
theorem Fr.cell {br b1 b2 : Nat} {ev ev' : Ow} {w w' : World} (h : Fr br b1 b2 ev ev' w w') {b j : Nat} {u : Value} (hc : w.cell? ⟨b, j, none⟩ = some u) (h0 : b ≠ br) (h1 : b ≠ b1) (h2 : b ≠ b2) (h3 : ¬ ev.at b) : w'.cell? ⟨b, j, none⟩ = some u :=
  (World.cell?_of_block (h.block b (World.block_lt_of_cell? w _ hc) h0 h1 h2 h3)).trans hc
theorem Fr.frozen {br b1 b2 : Nat} {ev ev' : Ow} {w w' : World} (h : Fr br b1 b2 ev ev' w w') {b j : Nat} (hb : b < w.heap.size) (h0 : b ≠ br) (h1 : b ≠ b1) (h2 : b ≠ b2) (h3 : ¬ ev.at b) : w'.frozen? ⟨b, j, none⟩ = w.frozen? ⟨b, j, none⟩ :=
  World.frozen?_of_block (h.block b hb h0 h1 h2 h3)

section
variable {I : ObsI} {B : Nat} {R : List Value} {br b1 b2 b3 : Nat} {fl : List Int} {dp : Nat} {st : RSt} {ev : Ow} {w : World}

/-- what lay there ahead of all is as it was. -/
theorem RnG.below {ev' : Ow} {w' : World} (h : RnG I B R br b1 b2 b3 fl dp st ev w) (f : Fr br b1 b2 ev ev' w w') : Below B w w' :=
  ⟨f.os, f.tape, f.output, f.size, fun k hk => f.block k (by have := h.hi; omega) (by have := h.lo; omega) (by have := h.lo; omega) (by have := h.lo; omega) (fun hx => by have := (h.ev' k hx).1; omega)⟩

/-- a box made later is kept. -/
theorem RnG.box {ev' : Ow} {w1 w2 : World} {b j : Nat} {u : Value} (h : RnG I B R br b1 b2 b3 fl dp st ev w) (f : Fr br b1 b2 ev ev' w1 w2) (hb : w.heap.size ≤ b) (hc : w1.cell? ⟨b, j, none⟩ = some u) : w2.cell? ⟨b, j, none⟩ = some u := by
  have := h.hi
  exact f.cell hc (by omega) (by omega) (by omega) (fun hx => by have := (h.ev' b hx).2; omega)

theorem grow_set1 {r j : Nat} {u : Value} : w.grownBy (w.setCell ⟨r, j, none⟩ u) (some r) := grow_set (n := 0)
end

/-- numbers that are right. -/
structure NumOk (nv ni F : Nat) (st : RSt) : Prop where
  vl : st.vars.length = nv
  tl : st.taken.length = ni
  i32 : ∀ x ∈ st.vars, I32 x
  tk : ∀ x ∈ st.taken, 0 ≤ x ∧ x ≤ (st.steps : Int)
  el : st.ev.length ≤ st.steps
  sb : st.steps ≤ F
theorem NumOk.step {nv ni F : Nat} {st : RSt} (h : NumOk nv ni F st) (hs : st.steps < F) : NumOk nv ni F st.step :=
  ⟨h.vl, h.tl, h.i32, fun x hx => ⟨(h.tk x hx).1, by have := (h.tk x hx).2; simp [RSt.step]; omega⟩, Nat.le_succ_of_le h.el, hs⟩
theorem NumOk.out {nv ni F : Nat} {st : RSt} (h : NumOk nv ni F st) : NumOk nv ni F st.out := ⟨h.vl, h.tl, h.i32, h.tk, h.el, h.sb⟩
theorem mem_set {l : List Int} {i : Nat} {x y : Int} (h : y ∈ l.set i x) : y = x ∨ y ∈ l := by
  rcases List.mem_or_eq_of_mem_set h with h | h
  · exact Or.inr h
  · exact Or.inl h
theorem NumOk.setv {nv ni F : Nat} {st : RSt} (h : NumOk nv ni F st) {v x : Int} (hx : I32 x) : NumOk nv ni F (st.setv v x) :=
  ⟨by simp [RSt.setv, h.vl], h.tl, fun y hy => by rcases mem_set hy with rfl | hy; exact hx; exact h.i32 y hy, h.tk, h.el, h.sb⟩
theorem NumOk.tell {nv ni F : Nat} {st : RSt} (h : NumOk nv ni F st) (e : Ev4) (hl : st.ev.length < st.steps) : NumOk nv ni F (st.tell e) :=
  ⟨h.vl, h.tl, h.i32, h.tk, by simp [RSt.tell]; omega, h.sb⟩
theorem NumOk.took {nv ni F : Nat} {st : RSt} (h : NumOk nv ni F st) (hs : st.steps < F) (c : Int) : NumOk nv ni F (st.step.took c) := by
  refine ⟨h.vl, by simp [RSt.took, RSt.step, h.tl], h.i32, fun y hy => ?_, Nat.le_succ_of_le h.el, hs⟩
  have hst : (st.step.took c).steps = st.steps + 1 := rfl
  rw [hst]
  rcases mem_set hy with rfl | hy
  · have : st.step.taken.getD c.toNat 0 = 0 ∨ st.step.taken.getD c.toNat 0 ∈ st.taken := by
      rw [List.getD_eq_getElem?_getD]
      cases hc : st.step.taken[c.toNat]? with
      | none => exact Or.inl rfl
      | some x => exact Or.inr (List.mem_of_getElem? hc)
    rcases this with hz | hz
    · rw [hz]; omega
    · have := h.tk _ hz; omega
  · have := h.tk y hy; omega
/-- numbers that are right behind a step. -/
structure NumS (nv ni F : Nat) (st : RSt) : Prop where
  ok : NumOk nv ni F st
  el : st.ev.length < st.steps
  tk : ∀ x ∈ st.taken, x + 1 ≤ (st.steps : Int)
theorem NumS.took {nv ni F : Nat} {st : RSt} (h : NumS nv ni F st) (c : Int) : NumOk nv ni F (st.took c) := by
  refine ⟨h.ok.vl, by simp [RSt.took, h.ok.tl], h.ok.i32, fun y hy => ?_, h.ok.el, h.ok.sb⟩
  have hst : (st.took c).steps = st.steps := rfl
  rw [hst]
  rcases mem_set hy with rfl | hy
  · have : st.taken.getD c.toNat 0 = 0 ∨ st.taken.getD c.toNat 0 ∈ st.taken := by
      rw [List.getD_eq_getElem?_getD]
      cases hc : st.taken[c.toNat]? with
      | none => exact Or.inl rfl
      | some x => exact Or.inr (List.mem_of_getElem? hc)
    rcases this with hz | hz
    · have := h.el; rw [hz]; omega
    · have := h.ok.tk _ hz; have := h.tk _ hz; omega
  · exact h.ok.tk y hy
theorem NumS.tell {nv ni F : Nat} {st : RSt} (h : NumS nv ni F st) (e : Ev4) : NumOk nv ni F (st.tell e) := h.ok.tell e h.el
theorem NumS.setv {nv ni F : Nat} {st : RSt} (h : NumS nv ni F st) {v x : Int} (hx : I32 x) : NumS nv ni F (st.setv v x) := ⟨h.ok.setv hx, h.el, h.tk⟩
theorem RnG.drewN {B : Nat} {R : List Value} {br b1 b2 b3 : Nat} {fl : List Int} {I : ObsI} {dp : Nat} {st : RSt} {ev : Ow} {w : World} (h : RnG I B R br b1 b2 b3 fl dp st ev w) (n : Nat) : RnG I B R br b1 b2 b3 fl dp st ev (w.drewN n) := h.over (below_drewN (Below.refl _ _) n)
theorem Fr.drewN {br b1 b2 : Nat} {ev ev1 : Ow} {w w1 : World} (n : Nat) (h : Fr br b1 b2 ev ev1 (w.drewN n) w1) : Fr br b1 b2 ev ev1 w w1 := (Fr.of_below (below_drewN (Below.refl _ w) n)).trans h
/-- all but some blocks are kept. -/
structure FrX (X : Nat → Prop) (w w' : World) : Prop where
  os : w'.os = w.os
  tape : w'.tape = w.tape
  output : w'.output = w.output
  size : w.heap.size ≤ w'.heap.size
  block : ∀ k, k < w.heap.size → ¬ X k → w'.heap[k]? = w.heap[k]?
theorem FrX.row {X : Nat → Prop} {w w' : World} (h : FrX X w w') {cs : List Value} {b : Nat} (hr : RowAt cs w b) (hx : ¬ X b) : RowAt cs w' b := fun j u hu =>
  (World.cell?_of_block (h.block b (World.block_lt_of_cell? w _ (hr j u hu)) hx)).trans (hr j u hu)
theorem own_overG {w w' : World} {B e s : Nat} {v : Value} {n : Nat} {xs : List Value} (h : w.ownsRow B e s v n xs) (hb : Below w.heap.size w w') : w'.ownsRow B e s v n xs :=
  h.kept (row := none) ⟨hb.os, hb.tape, hb.output, hb.size, fun k hk _ => hb.block k hk⟩ (by cases hv : v.ownBlock <;> simp)
theorem StmtsAt.at {w : World} {K k : Nat} {ao : Option Addr} {cap n : Nat} {l : List D} (h : StmtsAt w K k (.slice ao n cap) l) {j : Nat} (hj : j < l.length) :
    ∃ b off cs, ao = some ⟨b, off, none⟩ ∧ (∀ (i : Nat) (u : Value), cs[i]? = some u → w.cell? ⟨b, off + j * 9 + i, none⟩ = some u) ∧ RS w K k cs l[j] := by
  obtain ⟨-, ao', cap', he, hc⟩ := h
  injection he with e1 e2 e3
  obtain ⟨b, off, hb, hel⟩ := hc (by intro hz; rw [hz] at hj; simp at hj)
  obtain ⟨cs, -, hcs, hr⟩ := hel j l[j] (List.getElem?_eq_getElem hj)
  exact ⟨b, off, cs, e1.trans hb, hcs, hr⟩
section
variable {ops : Array Oper} {o : Oper} {a : Act} {W : World} {K : Act → World → Prop} {Q : Exit → Act → World → Prop} {E : Prop}


end
def zerosA (n : Nat) : Array Value := (List.replicate n (Value.int .i64 0)).toArray
def st0 (vn yn : Nat) (o : WSt) : RSt := ⟨[], List.replicate vn 0, List.replicate yn 0, 0, 0, 0, o⟩
/-- a runner that has not begun. -/
structure NewR (B : Nat) (R : List Value) (br b1 b2 b3 : Nat) (fl : List Int) (vn yn : Nat) (w : World) : Prop where
  row : RowAt (.slice none 0 0 :: .slice (some ⟨b1, 0, none⟩) vn vn :: .slice (some ⟨b2, 0, none⟩) yn yn :: .int .i64 0 :: .int .i64 0 :: .int .i64 0 :: (R ++ [.int .i64 0, .nilFunc])) w br
  vars : RowAt (intsV (List.replicate vn 0)) w b1
  taken : RowAt (intsV (List.replicate yn 0)) w b2
  first : RowAt (intsV fl) w b3
  z0 : ∀ j, w.frozen? ⟨br, j, none⟩ = false
  z1 : ∀ j, w.frozen? ⟨b1, j, none⟩ = false
  z2 : ∀ j, w.frozen? ⟨b2, j, none⟩ = false
  apart : br ≠ b1 ∧ br ≠ b2 ∧ b1 ≠ b2 ∧ b3 ≠ br ∧ b3 ≠ b1 ∧ b3 ≠ b2
  lo : B ≤ br ∧ B ≤ b1 ∧ B ≤ b2 ∧ B ≤ b3
  hi : br < w.heap.size ∧ b1 < w.heap.size ∧ b2 < w.heap.size ∧ b3 < w.heap.size ∧ B ≤ w.heap.size
theorem NewR.over {B : Nat} {R : List Value} {br b1 b2 b3 : Nat} {fl : List Int} {vn yn : Nat} {w w' : World} (h : NewR B R br b1 b2 b3 fl vn yn w) (hb : Below w.heap.size w w') : NewR B R br b1 b2 b3 fl vn yn w' := by
  obtain ⟨hc, hf⟩ := bcell hb
  have hs := hb.size
  have hi := h.hi
  exact ⟨h.row.over hb, h.vars.over hb, h.taken.over hb, h.first.over hb, fun j => (hf _ _ hi.1).trans (h.z0 j), fun j => (hf _ _ hi.2.1).trans (h.z1 j), fun j => (hf _ _ hi.2.2.1).trans (h.z2 j), h.apart, h.lo, ⟨by omega, by omega, by omega, by omega, by omega⟩⟩
theorem NewR.new (B : Nat) (R : List Value) (w : World) (g : Nat) (fl : List Int) (vn yn : Nat) (hB : B ≤ w.heap.size) (hg : g < w.heap.size) (hgB : B ≤ g) (hr : RowAt (intsV fl) w g) :
    NewR B R w.heap.size (w.heap.size + 1) (w.heap.size + 1 + 1) g fl vn yn (((w.alloc (.cells (.slice none 0 0 :: .slice (some ⟨w.heap.size + 1, 0, none⟩) vn vn :: .slice (some ⟨w.heap.size + 1 + 1, 0, none⟩) yn yn :: .int .i64 0 :: .int .i64 0 :: .int .i64 0 :: (R ++ [.int .i64 0, .nilFunc])).toArray 83)).alloc (.cells (zerosA vn) 3)).alloc (.cells (zerosA yn) 3)) := by
  have b1 := (Below.refl _ w).alloc (Nat.le_refl _) (.cells (.slice none 0 0 :: .slice (some ⟨w.heap.size + 1, 0, none⟩) vn vn :: .slice (some ⟨w.heap.size + 1 + 1, 0, none⟩) yn yn :: .int .i64 0 :: .int .i64 0 :: .int .i64 0 :: (R ++ [.int .i64 0, .nilFunc])).toArray 83)
  have b2 := fun (W : World) (ob : Obj) => (Below.refl _ W).alloc (Nat.le_refl _) ob
  refine ⟨?_, ?_, ?_, ((hr.over b1).over (b2 _ _)).over (b2 _ _), fun j => by simp [go_sem], fun j => by simp [go_sem], fun j => by simp [go_sem], ⟨by omega, by omega, by omega, by omega, by omega, by omega⟩, ⟨hB, by omega, by omega, hgB⟩, ⟨by simp; omega, by simp, by simp, by simp; omega, by simp; omega⟩⟩
  · exact ((RowAt.newA (.slice none 0 0 :: .slice (some ⟨w.heap.size + 1, 0, none⟩) vn vn :: .slice (some ⟨w.heap.size + 1 + 1, 0, none⟩) yn yn :: .int .i64 0 :: .int .i64 0 :: .int .i64 0 :: (R ++ [.int .i64 0, .nilFunc])).toArray 83 w).over (b2 _ (.cells (zerosA vn) 3))).over (b2 _ (.cells (zerosA yn) 3))
  · have := (RowAt.newA (zerosA vn) 3 (w.alloc (.cells (.slice none 0 0 :: .slice (some ⟨w.heap.size + 1, 0, none⟩) vn vn :: .slice (some ⟨w.heap.size + 1 + 1, 0, none⟩) yn yn :: .int .i64 0 :: .int .i64 0 :: .int .i64 0 :: (R ++ [.int .i64 0, .nilFunc])).toArray 83))).over (b2 _ (.cells (zerosA yn) 3))
    simpa [zerosA, intsV] using this
  · have := RowAt.newA (zerosA yn) 3 ((w.alloc (.cells (.slice none 0 0 :: .slice (some ⟨w.heap.size + 1, 0, none⟩) vn vn :: .slice (some ⟨w.heap.size + 1 + 1, 0, none⟩) yn yn :: .int .i64 0 :: .int .i64 0 :: .int .i64 0 :: (R ++ [.int .i64 0, .nilFunc])).toArray 83)).alloc (.cells (zerosA vn) 3))
    simpa [zerosA, intsV] using this
end Go.Proofs.Ytcbbjjenkommeaa.Ex
