/- A program in memory, as plain data; what gives up. -/
import Derived.Test.YtcbbjjenkommeaaM02
import Derived.Deep.QuietTactic
import Derived.BigQuiet
import Derived.Deep.RegionHeld2
import Derived.Deep.RegionHeld3
import Derived.Deep.DrawnRows
import Derived.RangeFuncNested
import Derived.RangeFuncBound
import Derived.RangeFuncCalls
import Derived.RangeFuncLeaves
import Derived.Shelf.Abstract
import Derived.Shelf.RegionOpen
import Derived.WalkKit
import Derived.OwnWalkIn
import Derived.TacticsInMore
import Derived.LoopNIn
import Derived.LoopIn
import Derived.Defers
import Derived.Recover
import Derived.OrdersHeld
import Derived.Laws.AppendOwnNone
namespace Go.Proofs.Ytcbbjjenkommeaa.Ex
open Go.RowKit
set_option linter.unusedVariables false
/-- a command. -/
def sD (kd va ot : Int) (e : D) (ags ts es : List D) : D := .agg [.lit (.int .i64 kd), .lit (.int .i64 va), .lit (.int .i64 ot), e, .slice ags [], .slice ts [], .slice es []]
def sKind : D → Int
  | .agg (.lit (.int _ n) :: _) => n
  | _ => 0
def sVar : D → Int
  | .agg (_ :: .lit (.int _ n) :: _) => n
  | _ => 0
def sOther : D → Int
  | .agg (_ :: _ :: .lit (.int _ n) :: _) => n
  | _ => 0
def sExpr : D → D
  | .agg (_ :: _ :: _ :: e :: _) => e
  | d => d
def sArgs : D → List D
  | .agg (_ :: _ :: _ :: _ :: .slice l _ :: _) => l
  | _ => []
def sThen : D → List D
  | .agg (_ :: _ :: _ :: _ :: _ :: .slice l _ :: _) => l
  | _ => []
def sElse : D → List D
  | .agg (_ :: _ :: _ :: _ :: _ :: _ :: .slice l _ :: _) => l
  | _ => []

/-- a command in nine cells, so deep at most; its expressions so deep at most. -/
def RS (w : World) (K : Nat) : Nat → List Value → D → Prop
  | 0, _, _ => False
  | k + 1, cs, d => ∃ (kd va ot : Int) (x0 x1 x2 : Value) (e : D) (vA : Value) (ags : List D) (vT : Value) (ts : List D) (vE : Value) (es : List D),
      cs = [.int .i64 kd, .int .i64 va, .int .i64 ot, x0, x1, x2, vA, vT, vE] ∧ d = sD kd va ot e ags ts es ∧ In64 kd ∧ In64 va ∧ In64 ot ∧ RX w K [x0, x1, x2] e ∧ XS 3 (RX w K) w vA ags ∧ XS 9 (RS w K k) w vT ts ∧ XS 9 (RS w K k) w vE es

theorem RS.mono {w w' : World} {K : Nat} (hw : ∀ a u, w.cell? a = some u → w'.cell? a = some u) :
    ∀ (k m : Nat) (cs : List Value) (d : D), k ≤ m → RS w K k cs d → RS w' K m cs d := by
  intro k
  induction k with
  | zero => intro m cs d _ h; exact h.elim
  | succ k ih =>
    intro m cs d hkm h
    obtain ⟨m', rfl⟩ : ∃ m', m = m' + 1 := ⟨m - 1, by omega⟩
    obtain ⟨kd, va, ot, x0, x1, x2, e, vA, ags, vT, ts, vE, es, hcs, hd, h1, h2, h3, he, hA, hT, hE⟩ := h
    exact ⟨kd, va, ot, x0, x1, x2, e, vA, ags, vT, ts, vE, es, hcs, hd, h1, h2, h3, RX.mono hw K K _ e (Nat.le_refl _) he,
      hA.mono hw (fun cs d _ hh => RX.mono hw K K cs d (Nat.le_refl _) hh), hT.mono hw (fun cs d _ hh => ih m' cs d (by omega) hh), hE.mono hw (fun cs d _ hh => ih m' cs d (by omega) hh)⟩

/-- commands one behind the other. -/
def StmtsAt (w : World) (K k : Nat) (v : Value) (l : List D) : Prop := XS 9 (RS w K k) w v l
theorem StmtsAt.over {w w' : World} {K k : Nat} {v : Value} {l : List D} (h : StmtsAt w K k v l) (hb : Below w.heap.size w w') : StmtsAt w' K k v l :=
  XS.mono h (cell_over hb) (fun cs d _ hh => RS.mono (cell_over hb) k k cs d (Nat.le_refl _) hh)
theorem ArgsAt.over {w w' : World} {K : Nat} {v : Value} {l : List D} (h : XS 3 (RX w K) w v l) (hb : Below w.heap.size w w') : XS 3 (RX w' K) w' v l :=
  XS.mono h (cell_over hb) (fun cs d _ hh => RX.mono (cell_over hb) K K cs d (Nat.le_refl _) hh)

structure FnD where
  ps : List Int
  body : List D
  res : D
def fnAt (fs : List FnD) (c : Int) : FnD := fs.getD c.toNat ⟨[], [], .agg []⟩

/-- numbers of a function's parameters: how long the list may be. -/
def PsOk (v : Value) (ps : List Int) : Prop := ps.length ≤ maxLen ∧ ∃ pa pc, v = .slice pa ps.length pc ∧ ps.length ≤ pc ∧ pc ≤ maxLen

/-- functions, five cells each. -/
def FnsAt (w : World) (K k : Nat) (v : Value) (fs : List FnD) : Prop :=
  fs.length ≤ maxLen ∧ ∃ ao cap, v = .slice ao fs.length cap ∧ (fs ≠ [] → ∃ b off, ao = some ⟨b, off, none⟩ ∧ ∀ i (h : i < fs.length), ∃ (vP vB x0 x1 x2 : Value),
    w.cell? ⟨b, off + i * 5, none⟩ = some vP ∧ w.cell? ⟨b, off + i * 5 + 1, none⟩ = some vB ∧ w.cell? ⟨b, off + i * 5 + 2, none⟩ = some x0 ∧ w.cell? ⟨b, off + i * 5 + 3, none⟩ = some x1 ∧ w.cell? ⟨b, off + i * 5 + 4, none⟩ = some x2 ∧
    IsInts w vP fs[i].ps ∧ PsOk vP fs[i].ps ∧ StmtsAt w K k vB fs[i].body ∧ RX w K [x0, x1, x2] fs[i].res)
theorem FnsAt.over {w w' : World} {K k : Nat} {v : Value} {l : List FnD} (h : FnsAt w K k v l) (hb : Below w.heap.size w w') : FnsAt w' K k v l := by
  obtain ⟨hm, ao, cap, hv, hc⟩ := h
  refine ⟨hm, ao, cap, hv, fun hne => ?_⟩
  obtain ⟨b, off, hao, hel⟩ := hc hne
  refine ⟨b, off, hao, fun i hi => ?_⟩
  obtain ⟨vP, vB, x0, x1, x2, h0, h1, h2, h3, h4, hp, hpl, hs, hx⟩ := hel i hi
  exact ⟨vP, vB, x0, x1, x2, cell_over hb _ _ h0, cell_over hb _ _ h1, cell_over hb _ _ h2, cell_over hb _ _ h3, cell_over hb _ _ h4, hp.over hb, hpl, hs.over hb, hx.over hb⟩

/-- labels, two cells each. -/
def LabsAt (w : World) (v : Value) (ls : List Lab) : Prop :=
  ls.length ≤ maxLen ∧ ∃ ao cap, v = .slice ao ls.length cap ∧ (ls ≠ [] → ∃ b off, ao = some ⟨b, off, none⟩ ∧ ∀ i (h : i < ls.length), ∃ (pr pw : Value),
    w.cell? ⟨b, off + i * 2, none⟩ = some pr ∧ w.cell? ⟨b, off + i * 2 + 1, none⟩ = some pw ∧ IsPols w pr ls[i].r ∧ IsPols w pw ls[i].w)
theorem LabsAt.over {w w' : World} {v : Value} {l : List Lab} (h : LabsAt w v l) (hb : Below w.heap.size w w') : LabsAt w' v l := by
  obtain ⟨hm, ao, cap, hv, hc⟩ := h
  refine ⟨hm, ao, cap, hv, fun hne => ?_⟩
  obtain ⟨b, off, hao, hel⟩ := hc hne
  refine ⟨b, off, hao, fun i hi => ?_⟩
  obtain ⟨pr, pw, h0, h1, hr, hw⟩ := hel i hi
  exact ⟨pr, pw, cell_over hb _ _ h0, cell_over hb _ _ h1, isPols_over hr hb, isPols_over hw hb⟩

/-- variables, three cells each. -/
def VarsAt (w : World) (v : Value) (ls : List (Bool × Lab)) : Prop :=
  ls.length ≤ maxLen ∧ ∃ ao cap, v = .slice ao ls.length cap ∧ (ls ≠ [] → ∃ b off, ao = some ⟨b, off, none⟩ ∧ ∀ i (h : i < ls.length), ∃ (pr pw : Value),
    w.cell? ⟨b, off + i * 3, none⟩ = some (.bool ls[i].1) ∧ w.cell? ⟨b, off + i * 3 + 1, none⟩ = some pr ∧ w.cell? ⟨b, off + i * 3 + 2, none⟩ = some pw ∧ IsPols w pr ls[i].2.r ∧ IsPols w pw ls[i].2.w)
theorem VarsAt.over {w w' : World} {v : Value} {l : List (Bool × Lab)} (h : VarsAt w v l) (hb : Below w.heap.size w w') : VarsAt w' v l := by
  obtain ⟨hm, ao, cap, hv, hc⟩ := h
  refine ⟨hm, ao, cap, hv, fun hne => ?_⟩
  obtain ⟨b, off, hao, hel⟩ := hc hne
  refine ⟨b, off, hao, fun i hi => ?_⟩
  obtain ⟨pr, pw, h0, h1, h2, hr, hw⟩ := hel i hi
  exact ⟨pr, pw, cell_over hb _ _ h0, cell_over hb _ _ h1, cell_over hb _ _ h2, isPols_over hr hb, isPols_over hw hb⟩

def gaveW (why : Int) : Ending := .panicked [{ v := .iface 162 (.agg #[.int .i64 0, .int .i64 why]), recovered := false }]

set_option maxHeartbeats 1000000 in
theorem mustAt_no (why : Int) (w : World) : Calls Try.prog 136 #[.int .i64 0, .bool false, .int .i64 why] w fun e w' => e = gaveW why ∧ w' = w := by
  unfold gaveW
  go_enter Try.func136, Try.ntmps136
  go_wp2_with fail
  exact ⟨rfl, rfl, rfl⟩

set_option maxHeartbeats 1000000 in
theorem must_no (why : Int) (w : World) : Calls Try.prog 108 #[.bool false, .int .i64 why] w fun e w' => e = gaveW why ∧ w' = w := by
  have K := hide fun W => mustAt_no why W
  unfold gaveW at K ⊢
  go_enter Try.func108, Try.ntmps108
  go_wp2_with fail
  refine (K.out _).mono ?_
  rintro e w1 ⟨rfl, rfl⟩
  go_wp2_with fail
  exact ⟨rfl, rfl, rfl⟩

/-- it goes on, and something holds then; or it gives up. -/
def Must (ok : Bool) (why : Int) (w : World) (e : Ending) (w' : World) : Prop := (ok = true ∧ e = .returned (.tuple #[]) ∨ ok = false ∧ e = gaveW why) ∧ w' = w

theorem must_any (ok : Bool) (why : Int) (w : World) : Calls Try.prog 108 #[.bool ok, .int .i64 why] w (Must ok why w) := by
  cases ok with
  | true => exact (must_ok why w).mono fun e w' h => ⟨Or.inl ⟨rfl, h.1⟩, h.2⟩
  | false => exact (must_no why w).mono fun e w' h => ⟨Or.inr ⟨rfl, h.1⟩, h.2⟩

set_option maxHeartbeats 1000000 in
theorem pass_any (why : Int) (w : World) : Calls Try.prog 107 #[.int .i64 why] w (Must (why == 0) why w) := by
  by_cases h : why = 0
  · subst h
    exact (pass_ok w).mono fun e w' h => ⟨Or.inl ⟨rfl, h.1⟩, h.2⟩
  · have hb : (why == 0) = false := by simpa using h
    have K := hide fun W => must_no why W
    have H : Calls Try.prog 107 #[.int .i64 why] w fun e w' => e = gaveW why ∧ w' = w := by
      unfold gaveW at K ⊢
      go_enter Try.func107, Try.ntmps107
      go_wp2_with fail
      refine (K.out _).mono ?_
      rintro e w1 ⟨rfl, rfl⟩
      go_wp2_with fail
      exact ⟨rfl, rfl, rfl⟩
    exact H.mono fun e w' h => ⟨Or.inr ⟨hb, h.1⟩, h.2⟩
@[simp] theorem sKind_s (kd va ot : Int) (e : D) (ags ts es : List D) : sKind (sD kd va ot e ags ts es) = kd := rfl
@[simp] theorem sVar_s (kd va ot : Int) (e : D) (ags ts es : List D) : sVar (sD kd va ot e ags ts es) = va := rfl
@[simp] theorem sOther_s (kd va ot : Int) (e : D) (ags ts es : List D) : sOther (sD kd va ot e ags ts es) = ot := rfl
@[simp] theorem sExpr_s (kd va ot : Int) (e : D) (ags ts es : List D) : sExpr (sD kd va ot e ags ts es) = e := rfl
@[simp] theorem sArgs_s (kd va ot : Int) (e : D) (ags ts es : List D) : sArgs (sD kd va ot e ags ts es) = ags := rfl
@[simp] theorem sThen_s (kd va ot : Int) (e : D) (ags ts es : List D) : sThen (sD kd va ot e ags ts es) = ts := rfl
@[simp] theorem sElse_s (kd va ot : Int) (e : D) (ags ts es : List D) : sElse (sD kd va ot e ags ts es) = es := rfl

/-- the nine cells of a command. -/
abbrev sC (kd va ot ek en : Int) (xa : Option Addr) (xl xc : Nat) (aa : Option Addr) (al ac : Nat) (ta : Option Addr) (tl tc : Nat) (ea : Option Addr) (el ec : Nat) : List Value :=
  [.int .i64 kd, .int .i64 va, .int .i64 ot, .int .i64 ek, .int .i64 en, .slice xa xl xc, .slice aa al ac, .slice ta tl tc, .slice ea el ec]

theorem RS.form {w : World} {K k : Nat} {cs : List Value} {d : D} (h : RS w K (k + 1) cs d) :
    ∃ (ek en : Int) (xa : Option Addr) (xl xc : Nat) (aa : Option Addr) (ac : Nat) (ta : Option Addr) (tc : Nat) (ea : Option Addr) (ec : Nat),
      cs = sC (sKind d) (sVar d) (sOther d) ek en xa xl xc aa (sArgs d).length ac ta (sThen d).length tc ea (sElse d).length ec ∧ In64 (sKind d) ∧ In64 (sVar d) ∧ In64 (sOther d) ∧
      RX w K [.int .i64 ek, .int .i64 en, .slice xa xl xc] (sExpr d) ∧ XS 3 (RX w K) w (.slice aa (sArgs d).length ac) (sArgs d) ∧ StmtsAt w K k (.slice ta (sThen d).length tc) (sThen d) ∧ StmtsAt w K k (.slice ea (sElse d).length ec) (sElse d) ∧
      ek = kindOf (sExpr d) ∧ en = numOf (sExpr d) ∧ xl = (argsOf (sExpr d)).length := by
  obtain ⟨kd, va, ot, x0, x1, x2, e, vA, ags, vT, ts, vE, es, rfl, rfl, h1, h2, h3, he, hA, hT, hE⟩ := h
  obtain ⟨xa, xc, hx⟩ := he.form
  simp only [List.cons.injEq, and_true] at hx
  obtain ⟨rfl, rfl, rfl⟩ := hx
  obtain ⟨aa, ac, rfl, -⟩ := hA.2
  obtain ⟨ta, tc, rfl, -⟩ := hT.2
  obtain ⟨ea, ec, rfl, -⟩ := hE.2
  exact ⟨_, _, xa, _, xc, aa, ac, ta, tc, ea, ec, rfl, h1, h2, h3, he, hA, hT, hE, rfl, rfl, rfl⟩

def cntS : Nat → D → Nat
  | 0, _ => 0
  | k + 1, d => 1 + ((sThen d).map (cntS k)).sum + ((sElse d).map (cntS k)).sum
def cnts (k : Nat) (l : List D) : Nat := (l.map (cntS k)).sum
theorem cnts_take {k : Nat} {l : List D} {j : Nat} (hj : j < l.length) : cnts k (l.take (j + 1)) = cnts k (l.take j) + cntS k l[j] := by
  unfold cnts
  rw [List.take_succ_eq_append_getElem hj, List.map_append, List.sum_append]
  simp
theorem StmtsAt.zero {w : World} {K : Nat} {v : Value} {l : List D} (h : StmtsAt w K 0 v l) : l = [] := by
  cases l with
  | nil => rfl
  | cons d l =>
    obtain ⟨-, ao, cap, -, hc⟩ := h
    obtain ⟨b, off, -, hel⟩ := hc (by simp)
    obtain ⟨cs, -, -, hr⟩ := hel 0 d rfl
    exact hr.elim
def cntF (k : Nat) (fs : List FnD) : Nat := (fs.map fun f => cnts k f.body).sum
theorem cntF_take {k : Nat} {l : List FnD} {j : Nat} (hj : j < l.length) : cntF k (l.take (j + 1)) = cntF k (l.take j) + cnts k l[j].body := by
  unfold cntF
  rw [List.take_succ_eq_append_getElem hj, List.map_append, List.sum_append]
  simp
set_option maxHeartbeats 1000000 in
theorem shapeOf1 (w : World) : Calls Try.prog 152 #[.int .i64 1] w fun e w' => e = .returned (.tuple #[.agg #[.bool true, .bool false, .bool true, .bool false, .bool false, .bool false], .bool true]) ∧ Below w.heap.size w w' := by
  go_enter Try.func152, Try.ntmps152
  go_wp2_with fail
  exact bodyPost_ret (v := .tuple #[.agg #[.bool true, .bool false, .bool true, .bool false, .bool false, .bool false], .bool true]) (by simp [results, Try.results152, go_sem]) rfl ⟨rfl, (Below.refl _ w).alloc (Nat.le_refl _) _⟩

set_option maxHeartbeats 1000000 in
theorem shapeOf2 (w : World) : Calls Try.prog 152 #[.int .i64 2] w fun e w' => e = .returned (.tuple #[.agg #[.bool true, .bool true, .bool false, .bool true, .bool false, .bool false], .bool true]) ∧ Below w.heap.size w w' := by
  go_enter Try.func152, Try.ntmps152
  go_wp2_with fail
  exact bodyPost_ret (v := .tuple #[.agg #[.bool true, .bool true, .bool false, .bool true, .bool false, .bool false], .bool true]) (by simp [results, Try.results152, go_sem]) rfl ⟨rfl, (Below.refl _ w).alloc (Nat.le_refl _) _⟩

set_option maxHeartbeats 1000000 in
theorem shapeOf3 (w : World) : Calls Try.prog 152 #[.int .i64 3] w fun e w' => e = .returned (.tuple #[.agg #[.bool true, .bool true, .bool false, .bool false, .bool false, .bool false], .bool true]) ∧ Below w.heap.size w w' := by
  go_enter Try.func152, Try.ntmps152
  go_wp2_with fail
  exact bodyPost_ret (v := .tuple #[.agg #[.bool true, .bool true, .bool false, .bool false, .bool false, .bool false], .bool true]) (by simp [results, Try.results152, go_sem]) rfl ⟨rfl, (Below.refl _ w).alloc (Nat.le_refl _) _⟩

set_option maxHeartbeats 1000000 in
theorem shapeOf4 (w : World) : Calls Try.prog 152 #[.int .i64 4] w fun e w' => e = .returned (.tuple #[.agg #[.bool false, .bool true, .bool true, .bool false, .bool false, .bool false], .bool true]) ∧ Below w.heap.size w w' := by
  go_enter Try.func152, Try.ntmps152
  go_wp2_with fail
  exact bodyPost_ret (v := .tuple #[.agg #[.bool false, .bool true, .bool true, .bool false, .bool false, .bool false], .bool true]) (by simp [results, Try.results152, go_sem]) rfl ⟨rfl, (Below.refl _ w).alloc (Nat.le_refl _) _⟩

set_option maxHeartbeats 1000000 in
theorem shapeOf5 (w : World) : Calls Try.prog 152 #[.int .i64 5] w fun e w' => e = .returned (.tuple #[.agg #[.bool true, .bool false, .bool true, .bool false, .bool false, .bool false], .bool true]) ∧ Below w.heap.size w w' := by
  go_enter Try.func152, Try.ntmps152
  go_wp2_with fail
  exact bodyPost_ret (v := .tuple #[.agg #[.bool true, .bool false, .bool true, .bool false, .bool false, .bool false], .bool true]) (by simp [results, Try.results152, go_sem]) rfl ⟨rfl, (Below.refl _ w).alloc (Nat.le_refl _) _⟩

set_option maxHeartbeats 1000000 in
theorem shapeOf6 (w : World) : Calls Try.prog 152 #[.int .i64 6] w fun e w' => e = .returned (.tuple #[.agg #[.bool true, .bool false, .bool true, .bool false, .bool false, .bool false], .bool true]) ∧ Below w.heap.size w w' := by
  go_enter Try.func152, Try.ntmps152
  go_wp2_with fail
  exact bodyPost_ret (v := .tuple #[.agg #[.bool true, .bool false, .bool true, .bool false, .bool false, .bool false], .bool true]) (by simp [results, Try.results152, go_sem]) rfl ⟨rfl, (Below.refl _ w).alloc (Nat.le_refl _) _⟩

set_option maxHeartbeats 1000000 in
theorem shapeOf7 (w : World) : Calls Try.prog 152 #[.int .i64 7] w fun e w' => e = .returned (.tuple #[.agg #[.bool false, .bool false, .bool true, .bool false, .bool true, .bool true], .bool true]) ∧ Below w.heap.size w w' := by
  go_enter Try.func152, Try.ntmps152
  go_wp2_with fail
  exact bodyPost_ret (v := .tuple #[.agg #[.bool false, .bool false, .bool true, .bool false, .bool true, .bool true], .bool true]) (by simp [results, Try.results152, go_sem]) rfl ⟨rfl, (Below.refl _ w).alloc (Nat.le_refl _) _⟩

set_option maxHeartbeats 1000000 in
theorem shapeOf8 (w : World) : Calls Try.prog 152 #[.int .i64 8] w fun e w' => e = .returned (.tuple #[.agg #[.bool false, .bool false, .bool true, .bool false, .bool true, .bool false], .bool true]) ∧ Below w.heap.size w w' := by
  go_enter Try.func152, Try.ntmps152
  go_wp2_with fail
  exact bodyPost_ret (v := .tuple #[.agg #[.bool false, .bool false, .bool true, .bool false, .bool true, .bool false], .bool true]) (by simp [results, Try.results152, go_sem]) rfl ⟨rfl, (Below.refl _ w).alloc (Nat.le_refl _) _⟩

set_option maxHeartbeats 1000000 in
theorem shapeOfNone (k : Int) (hk : ¬ (1 ≤ k ∧ k ≤ 8)) (w : World) : Calls Try.prog 152 #[.int .i64 k] w fun e w' => e = .returned (.tuple #[.agg #[.bool false, .bool false, .bool false, .bool false, .bool false, .bool false], .bool false]) ∧ Below w.heap.size w w' := by
  have b1 : (k == 1) = false := by simp; omega
  have b2 : (k == 2) = false := by simp; omega
  have b3 : (k == 3) = false := by simp; omega
  have b4 : (k == 4) = false := by simp; omega
  have b5 : (k == 5) = false := by simp; omega
  have b6 : (k == 6) = false := by simp; omega
  have b7 : (k == 7) = false := by simp; omega
  have b8 : (k == 8) = false := by simp; omega
  clear hk
  go_enter Try.func152, Try.ntmps152
  go_wp2_with fail
  exact bodyPost_ret (v := .tuple #[.agg #[.bool false, .bool false, .bool false, .bool false, .bool false, .bool false], .bool false]) (by simp [results, Try.results152, go_sem]) rfl ⟨rfl, (Below.refl _ w).alloc (Nat.le_refl _) _⟩

set_option maxHeartbeats 1000000 in
set_option maxRecDepth 100000 in
theorem others_any (k : Int) (funcs : Int) (m : Int) (ga : Option Addr) (gn gc : Nat) (sa : Option Addr) (sn sc : Nat) (ya : Option Addr) (yn yc : Nat) (oa : Option Addr) (on oc : Nat) (va : Option Addr) (vn vc : Nat) (fa : Option Addr) (fn fc : Nat) (ba : Option Addr) (bn bc : Nat) (w : World) : Calls Try.prog 153 #[.agg #[.int .i64 m, .slice ga gn gc, .slice sa sn sc, .slice ya yn yc, .slice oa on oc, .slice va vn vc, .slice fa fn fc, .slice ba bn bc], .int .i64 k, .int .i64 funcs] w fun e w' => e = .returned (.int .i64 (if k = 2 then funcs else if k = 3 then yn else on)) ∧ Below w.heap.size w w' := by
  have hbel : Below w.heap.size w (w.alloc (.cells #[.int .i64 m, .slice ga gn gc, .slice sa sn sc, .slice ya yn yc, .slice oa on oc, .slice va vn vc, .slice fa fn fc, .slice ba bn bc] 125)) := (Below.refl _ w).alloc (Nat.le_refl _) _
  by_cases h2 : k = 2
  · subst h2
    go_enter Try.func153, Try.ntmps153
    go_wp2_with fail
    go_ret
    exact ⟨rfl, hbel⟩
  · by_cases h3 : k = 3
    · subst h3
      go_enter Try.func153, Try.ntmps153
      go_wp2_with fail
      go_ret
      exact ⟨rfl, hbel⟩
    · rw [if_neg h2, if_neg h3]
      go_enter Try.func153, Try.ntmps153
      go_wp2_with fail
      go_ret
      exact ⟨rfl, hbel⟩
/-- a command that may be done: by itself. -/
def okS1 (K : Nat) (nv ni no : Nat) (funcs : Int) (fs : List FnD) (d : D) : Prop :=
  (1 ≤ sKind d ∧ sKind d ≤ 8) ∧ ((sKind d = 1 ∨ sKind d = 2 ∨ sKind d = 3 ∨ sKind d = 5 ∨ sKind d = 6) → 0 ≤ sVar d ∧ sVar d < nv) ∧
  (sKind d = 2 → (0 ≤ sOther d ∧ sOther d < funcs) ∧ (∀ f, fs[(sOther d).toNat]? = some f → f.ps.length = (sArgs d).length) ∧ ∀ a ∈ sArgs d, checkX nv K a = 0) ∧
  (sKind d = 3 → 0 ≤ sOther d ∧ sOther d < ni) ∧ ((sKind d = 1 ∨ 4 ≤ sKind d) → checkX nv K (sExpr d) = 0) ∧ ((sKind d = 2 ∨ sKind d = 3) → kindOf (sExpr d) = 0 ∧ argsOf (sExpr d) = []) ∧ (sKind d = 4 → 0 ≤ sOther d ∧ sOther d < no)
/-- commands that may be done, with those in them. -/
def okS (K : Nat) (nv ni no : Nat) (funcs : Int) (fs : List FnD) : Nat → D → Prop
  | 0, _ => False
  | k + 1, d => okS1 K nv ni no funcs fs d ∧ (∀ s ∈ sThen d, okS K nv ni no funcs fs k s) ∧ ∀ s ∈ sElse d, okS K nv ni no funcs fs k s
theorem FnsAt.mono {w : World} {K k m : Nat} {v : Value} {l : List FnD} (h : FnsAt w K k v l) (hkm : k ≤ m) : FnsAt w K m v l := by
  obtain ⟨hm, ao, cap, hv, hc⟩ := h
  refine ⟨hm, ao, cap, hv, fun hne => ?_⟩
  obtain ⟨b, off, hao, hel⟩ := hc hne
  refine ⟨b, off, hao, fun i hi => ?_⟩
  obtain ⟨vP, vB, x0, x1, x2, h0, h1, h2, h3, h4, hp, hpl, hs, hx⟩ := hel i hi
  exact ⟨vP, vB, x0, x1, x2, h0, h1, h2, h3, h4, hp, hpl, XS.mono hs (fun _ _ hh => hh) (fun cs d _ hh => RS.mono (fun _ _ q => q) k m cs d hkm hh), hx⟩
theorem IsInts.prefix {w : World} {ao : Option Addr} {cap : Nat} {vs : List Int} (h : IsInts w (.slice ao vs.length cap) vs) {i : Nat} (hi : i ≤ vs.length) (c : Nat) : IsInts w (.slice ao i c) (vs.take i) := by
  obtain ⟨a2, c2, he, hc⟩ := h
  injection he with e1 e2 e3
  subst e1
  refine ⟨ao, c, by simp [Nat.min_eq_left hi], fun hne => ?_⟩
  obtain ⟨b, off, hao, hel⟩ := hc (by rintro rfl; simp at hne)
  refine ⟨b, off, hao, fun j hj => ?_⟩
  have hj2 : j < vs.length := by simp at hj; omega
  rw [List.getElem_take]
  exact hel j hj2

/-- a function that may be called, with so many ahead of it. -/
def okF (K : Nat) (nv ni no : Nat) (ahead : Int) (fs : List FnD) (k : Nat) (f : FnD) : Prop :=
  f.ps.length ≤ 4 ∧ (∀ p ∈ f.ps, 0 ≤ p ∧ p < nv) ∧ (∀ s ∈ f.body, okS K nv ni no ahead fs k s) ∧ checkX nv K f.res = 0
end Go.Proofs.Ytcbbjjenkommeaa.Ex
namespace Go.Proofs.Ytcbbjjenkommeaa
open Go.RowKit
set_option linter.unusedVariables false
attribute [local go_sem ↓] Go.wp_at_zero Go.wp_at_succ
attribute [local go_sem ↓] Go.wp_at_zero Go.wp_at_succ
end Go.Proofs.Ytcbbjjenkommeaa
namespace Go.Proofs.Ytcbbjjenkommeaa.Ex
set_option linter.unusedVariables false
section walk
variable {σ : Type} (n K : Nat) (lev : σ → List Lev) (step : Int → D → Lev → σ → σ)

end walk

theorem fl_refl (l : Lev) (n : Nat) : flowsB l l n = true := flowsB_iff.2 fun _ _ => ⟨id, id⟩
theorem fl_trans {l k q : Lev} {n : Nat} (h : flowsB l k n = true) (h2 : flowsB k q n = true) : flowsB l q n = true :=
  flowsB_iff.2 fun i hi => ⟨fun h3 => (flowsB_iff.1 h i hi).1 ((flowsB_iff.1 h2 i hi).1 h3), fun h3 => (flowsB_iff.1 h2 i hi).2 ((flowsB_iff.1 h i hi).2 h3)⟩
section ask
variable {σ : Type} (n K : Nat) (lev : σ → List Lev) (known : List Bool) (ins : List Lev) (fs : List FnD) (flow : Lev → Bool × Nat → σ → σ)
def toVar (l : Lev) (v : Int) (st : σ) : σ := if known.getD v.toNat false = true then st else flow l (true, v.toNat) st
end ask

/-- levels of variables and of functions; has one become more? -/
structure ISt where
  vs : List Lev
  fs : List Lev
  more : Bool
def ISt.at (st : ISt) (i : Bool × Nat) : Lev := if i.1 = true then st.vs.getD i.2 noLev else st.fs.getD i.2 noLev
/-- each flows to each. -/
def LeI (n : Nat) (a b : ISt) : Prop := (∀ i, flowsB (a.vs.getD i noLev) (b.vs.getD i noLev) n = true) ∧ ∀ i, flowsB (a.fs.getD i noLev) (b.fs.getD i noLev) n = true
theorem LeI.at {n : Nat} {a b : ISt} (h : LeI n a b) (i : Bool × Nat) : flowsB (a.at i) (b.at i) n = true := by
  unfold ISt.at
  split
  · exact h.1 _
  · exact h.2 _

/-- how much may still become more. -/
def bitsL (n : Nat) (l : Lev) : Nat := ((List.range n).map fun i => (if l.r[i]?.getD false = true then 1 else 0) + (if l.w[i]?.getD false = true then 0 else 1)).sum
def bitsI (n : Nat) (st : ISt) : Nat := (st.vs.map (bitsL n)).sum + (st.fs.map (bitsL n)).sum
/-- levels of the right form, so many; those that are known stay. -/
structure RightI (n nv nf : Nat) (known : List Bool) (L : List Lev) (st : ISt) : Prop where
  lv : st.vs.length = nv
  lf : st.fs.length = nf
  rv : ∀ l ∈ st.vs, l.len n
  rf : ∀ l ∈ st.fs, l.len n
  kn : ∀ i, known.getD i false = true → st.vs.getD i noLev = L.getD i noLev
/-- what one step keeps. -/
def StepI (n nv nf : Nat) (known : List Bool) (L : List Lev) (a b : ISt) : Prop :=
  (RightI n nv nf known L a → RightI n nv nf known L b) ∧ LeI n a b
theorem StepI.refl (n nv nf : Nat) (known : List Bool) (L : List Lev) (a : ISt) : StepI n nv nf known L a a := ⟨id, fun _ => fl_refl _ _, fun _ => fl_refl _ _⟩
theorem StepI.trans {n nv nf : Nat} {known : List Bool} {L : List Lev} {a b c : ISt} (h : StepI n nv nf known L a b) (k : StepI n nv nf known L b c) : StepI n nv nf known L a c :=
  ⟨fun x => k.1 (h.1 x), fun i => fl_trans (h.2.1 i) (k.2.1 i), fun i => fl_trans (h.2.2 i) (k.2.2 i)⟩
def BitsI (n nv nf : Nat) (a b : ISt) : Prop := (a.vs.length = nv ∧ a.fs.length = nf) → (b.vs.length = nv ∧ b.fs.length = nf) ∧ bitsI n b ≤ bitsI n a ∧ (b.more = true → a.more = true ∨ bitsI n b < bitsI n a)
theorem BitsI.refl (n nv nf : Nat) (a : ISt) : BitsI n nv nf a a := fun h => ⟨h, Nat.le_refl _, Or.inl⟩
theorem BitsI.trans {n nv nf : Nat} {a b c : ISt} (h : BitsI n nv nf a b) (k : BitsI n nv nf b c) : BitsI n nv nf a c := fun ha => by
  obtain ⟨h1, h2, h3⟩ := h ha
  obtain ⟨k1, k2, k3⟩ := k h1
  refine ⟨k1, Nat.le_trans k2 h2, fun hc => ?_⟩
  rcases k3 hc with hb | hb
  · rcases h3 hb with h | h
    · exact Or.inl h
    · exact Or.inr (by omega)
  · exact Or.inr (by omega)
end Go.Proofs.Ytcbbjjenkommeaa.Ex
namespace Go.Proofs.Ytcbbjjenkommeaa.Ex
open Go.RowKit Go.Shelf
set_option linter.unusedVariables false
attribute [local go_sem] Oper.semAt_some
end Go.Proofs.Ytcbbjjenkommeaa.Ex
namespace Go.Proofs.Ytcbbjjenkommeaa.Ex
open Go.RowKit
set_option linter.unusedVariables false
/-- the two commands of the small program. -/
def mainCells : List Value := [.int .i64 3, .int .i64 0, .int .i64 0, .int .i64 0, .int .i64 0, .slice none 0 0, .slice none 0 0, .slice none 0 0, .slice none 0 0, .int .i64 4, .int .i64 0, .int .i64 0, .int .i64 2, .int .i64 0, .slice none 0 0, .slice none 0 0, .slice none 0 0, .slice none 0 0]
def RowAt (cs : List Value) (w : World) (b : Nat) : Prop := ∀ j u, cs[j]? = some u → w.cell? ⟨b, j, none⟩ = some u
theorem RowAt.over {cs : List Value} {w w' : World} {b : Nat} (h : RowAt cs w b) (hB : Below w.heap.size w w') : RowAt cs w' b := fun j u hu => cell_over hB _ _ (h j u hu)

/-- the small program, where its parts lie. -/
abbrev smallV (bi bo bv bm : Nat) : Value := .agg #[.int .i64 1, .slice none 0 0, .slice none 0 0, .slice (some ⟨bi, 0, none⟩) 1 1, .slice (some ⟨bo, 0, none⟩) 1 1, .slice (some ⟨bv, 0, none⟩) 1 1, .slice none 0 0, .slice (some ⟨bm, 0, none⟩) 2 2]
theorem Try.infoL : (Try.prog.info? 102).map (fun i => (i.zero, i.size, i.bytes)) = some (some (.agg #[.slice none 0 0, .slice none 0 0]), 2, 48) := by kernel_rfl
theorem RowAt.new (cs : List Value) (t : Nat) (w : World) : RowAt cs (w.alloc (.cells cs.toArray t)) w.heap.size := fun j u hu => by
  rw [Lib.cell_of_heap (heap_alloc_new w _)]
  simpa using hu
/-- the small program lies there. -/
structure Small (bi bo bv bm : Nat) (w : World) : Prop where
  ins : RowAt [.slice none 0 0, .slice none 0 0] w bi
  outs : RowAt [.slice none 0 0, .slice none 0 0] w bo
  vars : RowAt [.bool false, .slice none 0 0, .slice none 0 0] w bv
  main : RowAt mainCells w bm
theorem Small.over {bi bo bv bm : Nat} {w w' : World} (h : Small bi bo bv bm w) (hB : Below w.heap.size w w') : Small bi bo bv bm w' :=
  ⟨h.ins.over hB, h.outs.over hB, h.vars.over hB, h.main.over hB⟩
end Go.Proofs.Ytcbbjjenkommeaa.Ex
namespace Go.Proofs.Ytcbbjjenkommeaa.Ex
open Go.RowKit Go.Shelf
set_option linter.unusedVariables false
attribute [local go_sem] Oper.semAt_some
end Go.Proofs.Ytcbbjjenkommeaa.Ex
namespace Go.Proofs.Ytcbbjjenkommeaa.Ex
open Go.RowKit
set_option linter.unusedVariables false
theorem aput : (∀ (a : Act) (d : Tmp) (v : Value), a.put (some d) v = { a with tmps := a.tmps.setIfInBounds d v }) ∧ (∀ (a : Act) (v : Value), a.put none v = a) ∧ (∀ (l : List Value) (i : Nat) (x : Value), l.toArray.setIfInBounds i x = (l.set i x).toArray) ∧ (∀ (l : List Value) (a x : Value), (a :: l).set 0 x = x :: l) ∧ (∀ (l : List Value) (a x : Value) (i : Nat), (a :: l).set (i + 1) x = a :: l.set i x) :=
  ⟨fun _ _ _ => rfl, fun _ _ => rfl, fun _ _ _ => by simp, fun _ _ _ => rfl, fun _ _ _ _ => rfl⟩
theorem tk {P : Program} {ops : Array Oper} {Q : Exit → Act → World → Prop} {md : Region.Mode} {S : World → Prop} {i : Nat} {oi : Oper} {v : Value} {fuel : Nat} {listed : Array Bool} {a : Act} {w : World} (hy : YieldsIf P ops S oi v a) (hS : S w)
    (h : wpAnyH P md ops Q S fuel (listed.setIfInBounds i true) (a.put oi.dst v) w) (hi : ops[i]? = some oi := by rfl)
    (hs : Region.noSelect ops = true := by kernel_rfl) (hf : Region.free md ops listed i = true := by kernel_rfl) (hr : (Region.ready md ops listed).contains i = true := by kernel_rfl)
    (hQ : ∀ c a w, Q (.panic c) (a.put oi.dst v) w → Q (.panic c) a w := by exact fun _ _ _ h => h) : wpAnyH P md ops Q S (fuel + 1) listed a w :=
  wpAnyH_take hi hs hf hr hQ hy hS h
end Go.Proofs.Ytcbbjjenkommeaa.Ex
namespace Go.Proofs.Ytcbbjjenkommeaa.Ex
open Go.RowKit Go.Shelf
set_option linter.unusedVariables false
attribute [local go_sem] Oper.semAt_some

theorem lev_slices {w : World} {x y : Value} {l : Lev} (h : LevAt w (.agg #[x, y]) l) : ∃ p1 q1 r1 p2 q2 r2, x = .slice p1 q1 r1 ∧ y = .slice p2 q2 r2 := by
  obtain ⟨u, v, e, ⟨a, c, e2, -⟩, ⟨a', c', e3, -⟩⟩ := h
  simp at e
  obtain ⟨rfl, rfl⟩ := e
  exact ⟨_, _, _, _, _, _, e2, e3⟩
end Go.Proofs.Ytcbbjjenkommeaa.Ex
namespace Go.Proofs.Ytcbbjjenkommeaa.Ex
open Go.RowKit
set_option linter.unusedVariables false
set_option maxHeartbeats 1000000 in
theorem catch_idle (p q : Addr) (w : World) :
    CallsD Try.prog 106 #[.pointer (some p), .pointer (some q)] .returning w fun e u' w' => e = .returned (.tuple #[]) ∧ u' = .returning ∧ w' = w := by
  refine callsD_of_wpS Try.func106 rfl fun c₀ cs hu => ?_
  apply wpS_seq
  apply wpS_region
  simp [wpOpsS, go_sem, recoverD, hu, Try.ntmps106, Exit.thenS]
  refine wpS_of_wp ?_
  change Code.wp Try.prog _ _ { tmps := #[.pointer (some p), .pointer (some q), .nilIface, undef, .nilIface, undef, undef, undef, undef, undef, undef, undef, undef], defers := [] } w
  go_wp2
  cases c₀
  simp_all [bodyPostS, results, Try.results106]
/-- the cells of labels that lie one behind the other. -/
def LabCells (w : World) : List Lab → List Value → Prop
  | [], xs => xs = []
  | l :: r, xs => ∃ (pr pw : Value) (ys : List Value), xs = pr :: pw :: ys ∧ IsPols w pr l.r ∧ IsPols w pw l.w ∧ LabCells w r ys
theorem LabCells.over {w w' : World} (hb : Below w.heap.size w w') : ∀ {l : List Lab} {xs : List Value}, LabCells w l xs → LabCells w' l xs
  | [], _, h => h
  | a :: l, _, h => by
    obtain ⟨pr, pw, ys, rfl, h1, h2, h3⟩ := h
    exact ⟨pr, pw, ys, rfl, isPols_over h1 hb, isPols_over h2 hb, h3.over hb⟩
theorem LabCells.append {w : World} : ∀ {l m : List Lab} {xs ys : List Value}, LabCells w l xs → LabCells w m ys → LabCells w (l ++ m) (xs ++ ys)
  | [], _, _, _, h, h' => by have e : _ = _ := h; subst e; exact h'
  | a :: l, _, _, _, h, h' => by
    obtain ⟨pr, pw, zs, rfl, h1, h2, h3⟩ := h
    exact ⟨pr, pw, zs ++ _, rfl, h1, h2, h3.append h'⟩
theorem LabCells.length {w : World} : ∀ {l : List Lab} {xs : List Value}, LabCells w l xs → xs.length = l.length * 2
  | [], _, h => by have e : _ = _ := h; subst e; rfl
  | a :: l, _, h => by
    obtain ⟨pr, pw, zs, rfl, h1, h2, h3⟩ := h
    have := h3.length
    simp
    omega
theorem LabCells.one {w : World} : ∀ {l : List Lab} {xs : List Value}, LabCells w l xs → ∀ u ∈ xs, u.oneCell' = true
  | [], _, h, u, hu => by have e : _ = _ := h; subst e; cases hu
  | a :: l, _, h, u, hu => by
    obtain ⟨pr, pw, zs, rfl, h1, h2, h3⟩ := h
    obtain ⟨x, n, c, rfl⟩ := pols_form h1
    obtain ⟨y, n', c', rfl⟩ := pols_form h2
    simp only [List.mem_cons] at hu
    rcases hu with rfl | rfl | hu
    · rfl
    · rfl
    · exact h3.one u hu
theorem LabCells.at {w : World} : ∀ {l : List Lab} {xs : List Value}, LabCells w l xs → ∀ (j : Nat) (hj : j < l.length), ∃ pr pw, xs[j * 2]? = some pr ∧ xs[j * 2 + 1]? = some pw ∧ IsPols w pr l[j].r ∧ IsPols w pw l[j].w
  | a :: l, _, h, 0, hj => by
    obtain ⟨pr, pw, zs, rfl, h1, h2, h3⟩ := h
    exact ⟨pr, pw, rfl, rfl, h1, h2⟩
  | a :: l, _, h, j + 1, hj => by
    obtain ⟨pr, pw, zs, rfl, h1, h2, h3⟩ := h
    obtain ⟨pr', pw', e1, e2, e3, e4⟩ := h3.at j (by simpa using hj)
    exact ⟨pr', pw', by rw [Nat.succ_mul]; exact e1, by rw [Nat.succ_mul]; exact e2, e3, e4⟩
theorem labs_cells {w : World} {b off : Nat} : ∀ (ls : List Lab) (o : Nat), (∀ i (h : i < ls.length), ∃ (pr pw : Value), w.cell? ⟨b, o + i * 2, none⟩ = some pr ∧ w.cell? ⟨b, o + i * 2 + 1, none⟩ = some pw ∧ IsPols w pr ls[i].r ∧ IsPols w pw ls[i].w) →
    ∃ xs, LabCells w ls xs ∧ ∀ j u, xs[j]? = some u → w.cell? ⟨b, o + j, none⟩ = some u
  | [], o, _ => ⟨[], rfl, fun j u hu => by simp at hu⟩
  | l :: ls, o, h => by
    obtain ⟨pr, pw, h0, h1, h2, h3⟩ := h 0 (by simp)
    obtain ⟨xs, hx, hc⟩ := labs_cells (w := w) (b := b) (off := off) ls (o + 2) (fun i hi => by
      obtain ⟨pr', pw', e0, e1, e2, e3⟩ := h (i + 1) (by simpa using hi)
      refine ⟨pr', pw', ?_, ?_, e2, e3⟩
      · rw [← e0]; congr 2; omega
      · rw [← e1]; congr 2; omega)
    refine ⟨pr :: pw :: xs, ⟨pr, pw, xs, rfl, h2, h3, hx⟩, fun j u hu => ?_⟩
    match j, hu with
    | 0, hu => simp at hu; subst hu; simpa using h0
    | 1, hu => simp at hu; subst hu; simpa using h1
    | j + 2, hu =>
      have := hc j u (by simpa using hu)
      rw [← this]
      congr 2
      omega
set_option maxHeartbeats 1000000 in
theorem growOf0 (w : World) : Calls Try.prog 150 #[.slice none 0 0, .int .i64 0] w fun e w' => ∃ v, e = .returned v ∧ w'.ownsRow w.heap.size 102 2 v 0 [] ∧ Below w.heap.size w w' := by
  go_enter Try.func150, Try.ntmps150
  go_wp2_with fail
  go_ret
  exact ⟨_, rfl, World.ownsRow_nil _ _ _ _, Below.refl _ _⟩

set_option maxHeartbeats 1000000 in
theorem growOf1 (w : World) : Calls Try.prog 150 #[.slice none 0 0, .int .i64 1] w fun e w' => ∃ v, e = .returned v ∧ w'.ownsRow w.heap.size 102 2 v 0 [] ∧ Below w.heap.size w w' := by
  go_enter Try.func150, Try.ntmps150
  go_wp2_with fail
  go_ret
  refine ⟨_, rfl, ⟨rfl, Or.inr ⟨w.heap.size, grownCap w 1 0 102, _, rfl, Nat.le_refl _, heap_alloc_new w _, Nat.zero_le _, grownCap_le_maxLen _ _ _ _ (by decide), ?_, rfl⟩⟩, ((Below.refl _ w).alloc (Nat.le_refl _) _).drew⟩
  have := grownCap_ge w 1 0 102
  simp [Builtin.zeroCells]
  unfold grownCap at this ⊢
  omega

set_option maxHeartbeats 1000000 in
theorem growOf2 (w : World) : Calls Try.prog 150 #[.slice none 0 0, .int .i64 2] w fun e w' => ∃ v, e = .returned v ∧ w'.ownsRow w.heap.size 102 2 v 0 [] ∧ Below w.heap.size w w' := by
  go_enter Try.func150, Try.ntmps150
  go_wp2_with fail
  go_ret
  refine ⟨_, rfl, ⟨rfl, Or.inr ⟨w.heap.size, grownCap w 2 0 102, _, rfl, Nat.le_refl _, heap_alloc_new w _, Nat.zero_le _, grownCap_le_maxLen _ _ _ _ (by decide), ?_, rfl⟩⟩, ((Below.refl _ w).alloc (Nat.le_refl _) _).drew⟩
  have := grownCap_ge w 2 0 102
  simp [Builtin.zeroCells]
  unfold grownCap at this ⊢
  omega

set_option maxHeartbeats 1000000 in
theorem growOf3 (w : World) : Calls Try.prog 150 #[.slice none 0 0, .int .i64 3] w fun e w' => ∃ v, e = .returned v ∧ w'.ownsRow w.heap.size 102 2 v 0 [] ∧ Below w.heap.size w w' := by
  go_enter Try.func150, Try.ntmps150
  go_wp2_with fail
  go_ret
  refine ⟨_, rfl, ⟨rfl, Or.inr ⟨w.heap.size, grownCap w 3 0 102, _, rfl, Nat.le_refl _, heap_alloc_new w _, Nat.zero_le _, grownCap_le_maxLen _ _ _ _ (by decide), ?_, rfl⟩⟩, ((Below.refl _ w).alloc (Nat.le_refl _) _).drew⟩
  have := grownCap_ge w 3 0 102
  simp [Builtin.zeroCells]
  unfold grownCap at this ⊢
  omega

set_option maxHeartbeats 1000000 in
theorem growOf4 (w : World) : Calls Try.prog 150 #[.slice none 0 0, .int .i64 4] w fun e w' => ∃ v, e = .returned v ∧ w'.ownsRow w.heap.size 102 2 v 0 [] ∧ Below w.heap.size w w' := by
  go_enter Try.func150, Try.ntmps150
  go_wp2_with fail
  go_ret
  refine ⟨_, rfl, ⟨rfl, Or.inr ⟨w.heap.size, grownCap w 4 0 102, _, rfl, Nat.le_refl _, heap_alloc_new w _, Nat.zero_le _, grownCap_le_maxLen _ _ _ _ (by decide), ?_, rfl⟩⟩, ((Below.refl _ w).alloc (Nat.le_refl _) _).drew⟩
  have := grownCap_ge w 4 0 102
  simp [Builtin.zeroCells]
  unfold grownCap at this ⊢
  omega

set_option maxHeartbeats 1000000 in
theorem growOf5 (w : World) : Calls Try.prog 150 #[.slice none 0 0, .int .i64 5] w fun e w' => ∃ v, e = .returned v ∧ w'.ownsRow w.heap.size 102 2 v 0 [] ∧ Below w.heap.size w w' := by
  go_enter Try.func150, Try.ntmps150
  go_wp2_with fail
  go_ret
  refine ⟨_, rfl, ⟨rfl, Or.inr ⟨w.heap.size, grownCap w 5 0 102, _, rfl, Nat.le_refl _, heap_alloc_new w _, Nat.zero_le _, grownCap_le_maxLen _ _ _ _ (by decide), ?_, rfl⟩⟩, ((Below.refl _ w).alloc (Nat.le_refl _) _).drew⟩
  have := grownCap_ge w 5 0 102
  simp [Builtin.zeroCells]
  unfold grownCap at this ⊢
  omega

set_option maxHeartbeats 1000000 in
theorem growOf6 (w : World) : Calls Try.prog 150 #[.slice none 0 0, .int .i64 6] w fun e w' => ∃ v, e = .returned v ∧ w'.ownsRow w.heap.size 102 2 v 0 [] ∧ Below w.heap.size w w' := by
  go_enter Try.func150, Try.ntmps150
  go_wp2_with fail
  go_ret
  refine ⟨_, rfl, ⟨rfl, Or.inr ⟨w.heap.size, grownCap w 6 0 102, _, rfl, Nat.le_refl _, heap_alloc_new w _, Nat.zero_le _, grownCap_le_maxLen _ _ _ _ (by decide), ?_, rfl⟩⟩, ((Below.refl _ w).alloc (Nat.le_refl _) _).drew⟩
  have := grownCap_ge w 6 0 102
  simp [Builtin.zeroCells]
  unfold grownCap at this ⊢
  omega

set_option maxHeartbeats 1000000 in
theorem growOf7 (w : World) : Calls Try.prog 150 #[.slice none 0 0, .int .i64 7] w fun e w' => ∃ v, e = .returned v ∧ w'.ownsRow w.heap.size 102 2 v 0 [] ∧ Below w.heap.size w w' := by
  go_enter Try.func150, Try.ntmps150
  go_wp2_with fail
  go_ret
  refine ⟨_, rfl, ⟨rfl, Or.inr ⟨w.heap.size, grownCap w 7 0 102, _, rfl, Nat.le_refl _, heap_alloc_new w _, Nat.zero_le _, grownCap_le_maxLen _ _ _ _ (by decide), ?_, rfl⟩⟩, ((Below.refl _ w).alloc (Nat.le_refl _) _).drew⟩
  have := grownCap_ge w 7 0 102
  simp [Builtin.zeroCells]
  unfold grownCap at this ⊢
  omega

set_option maxHeartbeats 1000000 in
theorem growOf8 (w : World) : Calls Try.prog 150 #[.slice none 0 0, .int .i64 8] w fun e w' => ∃ v, e = .returned v ∧ w'.ownsRow w.heap.size 102 2 v 0 [] ∧ Below w.heap.size w w' := by
  go_enter Try.func150, Try.ntmps150
  go_wp2_with fail
  go_ret
  refine ⟨_, rfl, ⟨rfl, Or.inr ⟨w.heap.size, grownCap w 8 0 102, _, rfl, Nat.le_refl _, heap_alloc_new w _, Nat.zero_le _, grownCap_le_maxLen _ _ _ _ (by decide), ?_, rfl⟩⟩, ((Below.refl _ w).alloc (Nat.le_refl _) _).drew⟩
  have := grownCap_ge w 8 0 102
  simp [Builtin.zeroCells]
  unfold grownCap at this ⊢
  omega

set_option maxHeartbeats 1000000 in
theorem growOf9 (w : World) : Calls Try.prog 150 #[.slice none 0 0, .int .i64 9] w fun e w' => ∃ v, e = .returned v ∧ w'.ownsRow w.heap.size 102 2 v 0 [] ∧ Below w.heap.size w w' := by
  go_enter Try.func150, Try.ntmps150
  go_wp2_with fail
  go_ret
  refine ⟨_, rfl, ⟨rfl, Or.inr ⟨w.heap.size, grownCap w 9 0 102, _, rfl, Nat.le_refl _, heap_alloc_new w _, Nat.zero_le _, grownCap_le_maxLen _ _ _ _ (by decide), ?_, rfl⟩⟩, ((Below.refl _ w).alloc (Nat.le_refl _) _).drew⟩
  have := grownCap_ge w 9 0 102
  simp [Builtin.zeroCells]
  unfold grownCap at this ⊢
  omega

set_option maxHeartbeats 1000000 in
theorem growOf10 (w : World) : Calls Try.prog 150 #[.slice none 0 0, .int .i64 10] w fun e w' => ∃ v, e = .returned v ∧ w'.ownsRow w.heap.size 102 2 v 0 [] ∧ Below w.heap.size w w' := by
  go_enter Try.func150, Try.ntmps150
  go_wp2_with fail
  go_ret
  refine ⟨_, rfl, ⟨rfl, Or.inr ⟨w.heap.size, grownCap w 10 0 102, _, rfl, Nat.le_refl _, heap_alloc_new w _, Nat.zero_le _, grownCap_le_maxLen _ _ _ _ (by decide), ?_, rfl⟩⟩, ((Below.refl _ w).alloc (Nat.le_refl _) _).drew⟩
  have := grownCap_ge w 10 0 102
  simp [Builtin.zeroCells]
  unfold grownCap at this ⊢
  omega

theorem growOf (n : Nat) (hn : n ≤ 10) (w : World) : Calls Try.prog 150 #[.slice none 0 0, .int .i64 n] w fun e w' => ∃ v, e = .returned v ∧ w'.ownsRow w.heap.size 102 2 v 0 [] ∧ Below w.heap.size w w' := by
  match n, hn with
  | 0, _ => exact growOf0 w
  | 1, _ => exact growOf1 w
  | 2, _ => exact growOf2 w
  | 3, _ => exact growOf3 w
  | 4, _ => exact growOf4 w
  | 5, _ => exact growOf5 w
  | 6, _ => exact growOf6 w
  | 7, _ => exact growOf7 w
  | 8, _ => exact growOf8 w
  | 9, _ => exact growOf9 w
  | 10, _ => exact growOf10 w

theorem LabsAt.src2 {w : World} {ad : Addr} {n cap : Nat} {ls : List Lab} (h : LabsAt w (.slice (some ad) n cap) ls) : ∃ xs, LabCells w ls xs ∧ ∀ j u, xs[j]? = some u → w.cell? (ad.add j) = some u := by
  obtain ⟨-, ao, cap', he, hc⟩ := h
  injection he with e1 e2 e3
  rcases hl : ls with _ | ⟨a, l⟩
  · exact ⟨[], rfl, fun j u hu => by simp at hu⟩
  · obtain ⟨b, off, hbo, hel⟩ := hc (by rw [hl]; simp)
    rw [← e1] at hbo
    have hbo2 := Option.some.inj hbo
    subst hbo2
    obtain ⟨xs, hx, hxc⟩ := labs_cells (w := w) (b := b) (off := off) ls off (fun i hi => hel i hi)
    refine ⟨xs, hl ▸ hx, fun j u hu => ?_⟩
    rw [Addr.add_lit]
    exact hxc j u hu

set_option maxHeartbeats 8000000 in
set_option maxRecDepth 100000 in
theorem concat_any (g : Nat) (ya : Option Addr) (yn yc : Nat) (oa : Option Addr) (on oc : Nat) (ls ms : List Lab) (w : World) (hg : RowAt [.slice ya yn yc, .slice oa on oc] w g) (h1 : LabsAt w (.slice ya yn yc) ls) (h2 : LabsAt w (.slice oa on oc) ms) (hy : yn ≤ 5) (ho : on ≤ 5) (hyc : ya = none → yc = 0) (hoc : oa = none → oc = 0) :
    Calls Try.prog 137 #[.slice (some ⟨g, 0, none⟩) 2 2] w fun e w' => ∃ v xs, e = .returned v ∧ w'.ownsRow w.heap.size 102 2 v (ls ++ ms).length xs ∧ LabCells w' (ls ++ ms) xs ∧ Below w.heap.size w w' := by
  obtain ⟨i0, hi, hz0, hz1, hz2⟩ := info_parts Try.infoL
  have K1 := hide (growOf (yn + on) (by omega) w)
  have HG := hide hg
  have H1 := hide h1
  have H2 := hide h2
  have hyn : yn = ls.length := by obtain ⟨-, a, c, he, -⟩ := h1; injection he
  have hon : on = ms.length := by obtain ⟨-, a, c, he, -⟩ := h2; injection he
  have HYN := hide hyn
  have HON := hide hon
  clear hg h1 h2 hyn hon
  go_enter Try.func137, Try.ntmps137
  go_wp2_with fail
  go_loopw [3, 11] (fun s i wr => ∃ j : Int, 0 ≤ j ∧ j ≤ 2 ∧ i = .int .i64 j ∧ s = .int .i64 (if j = 0 then 0 else if j = 1 then (yn : Int) else (yn : Int) + on) ∧ wr = w) (fun _ i _ => 2 - (intOf i).toNat)
  case atStart => exact ⟨0, by omega, by omega, rfl, rfl, rfl⟩
  case round =>
    obtain ⟨j, hj0, hj, rfl, rfl, hw⟩ := hrel
    have hw' := hw.symm
    subst hw'
    clear hw
    rcases (by omega : j = 0 ∨ j = 1 ∨ j = 2) with rfl | rfl | rfl
    · have q := HG.out 0 _ rfl
      rw [if_pos rfl]
      go_wp2_with fail
      exact ⟨⟨1, by omega, by omega, by first | rfl | go_num, by first | rfl | simp, by first | rfl | trivial⟩, by simp [intOf]⟩
    · have q := HG.out 1 _ rfl
      rw [if_neg (by omega), if_pos rfl]
      go_wp2_with fail
      exact ⟨⟨2, by omega, by omega, by first | rfl | go_num, by first | rfl | simp, by first | rfl | trivial⟩, by simp [intOf]⟩
    · rw [if_neg (by omega), if_neg (by omega)]
      have K1' : Hid (Calls Try.prog 150 #[.slice none 0 0, .int .i64 ((yn : Int) + on)] w fun e w' => ∃ v, e = .returned v ∧ w'.ownsRow w.heap.size 102 2 v 0 [] ∧ Below w.heap.size w w') := by
        have := K1.out
        rw [Int.natCast_add] at this
        exact this
      obtain ⟨T, hT⟩ : ∃ T, T = (yn : Int) + on := ⟨_, rfl⟩
      rw [← hT] at K1' ⊢
      have hT0 : 0 ≤ T := by omega
      have hT1 : T ≤ 10 := by omega
      clear hT
      go_wp2_with fail
      refine (K1'.out).mono ?_
      rintro e w1 ⟨v, rfl, hown, hb1⟩
      clear K1 K1'
      obtain ⟨va, vn, vc, hvf⟩ : ∃ a n c, v = .slice a n c := by
        rcases hown.2 with ⟨h, _⟩ | ⟨g, cap, cur, h, _⟩
        · exact ⟨_, _, _, h⟩
        · exact ⟨_, _, _, h⟩
      subst hvf
      go_wp2_with fail
      go_loopw [6, 27] (fun nv i wq => ∃ (j : Int) (xs : List Value), 0 ≤ j ∧ j ≤ 2 ∧ i = .int .i64 j ∧ wq.ownsRow w.heap.size 102 2 nv (if j = 0 then [] else if j = 1 then ls else ls ++ ms).length xs ∧ LabCells w (if j = 0 then [] else if j = 1 then ls else ls ++ ms) xs ∧ Below w.heap.size w wq) (fun _ i _ => 2 - (intOf i).toNat)
      case atStart => exact ⟨0, [], by omega, by omega, rfl, hown, rfl, hb1⟩
      case round =>
        clear hown hb1
        obtain ⟨j, xs, hj0, hj, rfl, hown, hcl, hB⟩ := hrel
        rcases (by omega : j = 0 ∨ j = 1 ∨ j = 2) with rfl | rfl | rfl
        · rw [if_pos rfl] at hown hcl
          have q := HG.out.over hB 0 _ rfl
          have hs1 : w.heap.size ≤ wr.heap.size := hB.size
          cases ya with
          | none =>
            have hc0 := hyc rfl
            have hl0 : ls = [] := by
              obtain ⟨-, a0, c0, he, hcc⟩ := H1.out
              injection he with e1 e2 e3
              rcases h : ls with _ | ⟨x, r⟩
              · rfl
              · obtain ⟨b, off, hbo, -⟩ := hcc (by rw [h]; simp)
                rw [← e1] at hbo
                cases hbo
            have hn0 : yn = 0 := by rw [HYN.out, hl0]; rfl
            subst hc0 hn0
            go_wp2_with (at_builtin; refine wpList_append_own_none rfl _ _ 36 rfl w.heap.size 102 i0 2 Try.underlying36 hi _ _ _ rfl hown rfl ?_)
            go_wp2_with fail
            refine ⟨⟨1, xs, by omega, by omega, by first | rfl | go_num, ?_, ?_, hB⟩, by simp [intOf]⟩
            · rw [if_neg (by omega), if_pos rfl]
              rw [hl0]
              simpa using hown
            · rw [if_neg (by omega), if_pos rfl]
              rw [hl0]
              simpa using hcl
          | some ad =>
            obtain ⟨ys, hys, hyc0⟩ := H1.out.src2
            have hyc2 := fun j u hu => cell_over hB _ _ (hyc0 j u hu)
            have hb0 : ([] : List Lab).length + yn ≤ 10 := by simp; omega
            go_wp2_with (at_builtin; refine wpList_append_own _ rfl _ _ 36 rfl w.heap.size 102 i0 (.agg #[.slice none 0 0, .slice none 0 0]) 2 48 Try.underlying36 hi hz0 hz1 hz2 rfl (by decide) _ _ _ rfl hown ad yn yc ys rfl (by rw [hys.length, HYN.out]) hyc2 hys.one (by unfold maxLen; omega) (by omega) hs1 ?_)
            intro v2 w3 hown2 hgr2 _
            have hbl2 := below_grown hown hgr2 hs1
            have HO2 := hide hown2
            have hcl2 := (hcl.append hys)
            go_wp2_with fail
            refine ⟨⟨1, xs ++ ys, by omega, by omega, by first | rfl | go_num, ?_, ?_, hB.trans hbl2⟩, by simp [intOf]⟩
            · rw [if_neg (by omega), if_pos rfl]
              have h3 := HO2.out
              rw [HYN.out] at h3
              simpa using h3
            · rw [if_neg (by omega), if_pos rfl]
              simpa using hcl2
        · rw [if_neg (by omega), if_pos rfl] at hown hcl
          have q := HG.out.over hB 1 _ rfl
          have hs1 : w.heap.size ≤ wr.heap.size := hB.size
          cases oa with
          | none =>
            have hc0 := hoc rfl
            have hl0 : ms = [] := by
              obtain ⟨-, a0, c0, he, hcc⟩ := H2.out
              injection he with e1 e2 e3
              rcases h : ms with _ | ⟨x, r⟩
              · rfl
              · obtain ⟨b, off, hbo, -⟩ := hcc (by rw [h]; simp)
                rw [← e1] at hbo
                cases hbo
            have hn0 : on = 0 := by rw [HON.out, hl0]; rfl
            subst hc0 hn0
            go_wp2_with (at_builtin; refine wpList_append_own_none rfl _ _ 36 rfl w.heap.size 102 i0 2 Try.underlying36 hi _ _ _ rfl hown rfl ?_)
            go_wp2_with fail
            refine ⟨⟨2, xs, by omega, by omega, by first | rfl | go_num, ?_, ?_, hB⟩, by simp [intOf]⟩
            · rw [if_neg (by omega), if_neg (by omega)]
              rw [hl0]
              simpa using hown
            · rw [if_neg (by omega), if_neg (by omega)]
              rw [hl0]
              simpa using hcl
          | some ad =>
            obtain ⟨ys, hys, hyc0⟩ := H2.out.src2
            have hyc2 := fun j u hu => cell_over hB _ _ (hyc0 j u hu)
            have hb0 : ls.length + on ≤ 10 := by have := HYN.out; omega
            go_wp2_with (at_builtin; refine wpList_append_own _ rfl _ _ 36 rfl w.heap.size 102 i0 (.agg #[.slice none 0 0, .slice none 0 0]) 2 48 Try.underlying36 hi hz0 hz1 hz2 rfl (by decide) _ _ _ rfl hown ad on oc ys rfl (by rw [hys.length, HON.out]) hyc2 hys.one (by unfold maxLen; omega) (by omega) hs1 ?_)
            intro v2 w3 hown2 hgr2 _
            have hbl2 := below_grown hown hgr2 hs1
            have HO2 := hide hown2
            have hcl2 := (hcl.append hys)
            go_wp2_with fail
            refine ⟨⟨2, xs ++ ys, by omega, by omega, by first | rfl | go_num, ?_, ?_, hB.trans hbl2⟩, by simp [intOf]⟩
            · rw [if_neg (by omega), if_neg (by omega)]
              have h3 := HO2.out
              rw [HON.out] at h3
              simpa using h3
            · rw [if_neg (by omega), if_neg (by omega)]
              simpa using hcl2
        · rw [if_neg (by omega), if_neg (by omega)] at hown hcl
          go_wp2_with fail
          go_ret
          exact ⟨_, xs, rfl, hown, hcl.over hB, hB⟩
theorem own_cellsL {W : World} {B e : Nat} {v : Value} {n : Nat} {xs : List Value} (h : W.ownsRow B e 2 v n xs) (hn : 0 < n) : ∃ g cap, v = .slice (some ⟨g, 0, none⟩) n cap ∧ B ≤ g ∧ g < W.heap.size ∧ ∀ j u, xs[j]? = some u → W.cell? ((⟨g, 0, none⟩ : Addr).add j) = some u := by
  rcases h.2 with ⟨_, h0⟩ | ⟨g, cap, cur, hv, hb, hg, h1, h2, h3, h4⟩
  · omega
  · refine ⟨g, cap, hv, hb, (Array.getElem?_eq_some_iff.1 hg).1, fun j u hu => ?_⟩
    rw [Addr.add_lit, Lib.cell_of_heap hg]
    rw [← h4, List.getElem?_take] at hu
    split at hu
    · simpa using hu
    · cases hu

/-- labels that passed. -/
def labsOk (m : Int) (gs : List (Int × Int)) (ls : List Lab) (vs : List (Bool × Lab)) : Prop :=
  (∀ b ∈ ls, lChk m gs b = 0) ∧ (∀ v ∈ vs, lChk m gs v.2 = 0) ∧ ∀ v ∈ vs, v.1 = false → v.2.r = [] ∧ v.2.w = []
theorem take_next {α : Type} {P : α → Prop} {l : List α} {n : Nat} (h : n < l.length) (h1 : ∀ b ∈ l.take n, P b) (h2 : P l[n]) : ∀ b ∈ l.take (n + 1), P b := fun b hb => by
  rw [List.take_succ_eq_append_getElem h, List.mem_append, List.mem_singleton] at hb
  rcases hb with hb | rfl
  · exact h1 b hb
  · exact h2
theorem take_full {α : Type} {P : α → Prop} {l : List α} {n : Nat} (h : l.length ≤ n) (h1 : ∀ b ∈ l.take n, P b) : ∀ b ∈ l, P b := by
  rw [List.take_of_length_le h] at h1
  exact h1
theorem pols_len {w : World} {a : Option Addr} {n c : Nat} {ps : List Pol} (h : IsPols w (.slice a n c) ps) : n = ps.length := by
  obtain ⟨ao, cap, he, -⟩ := h
  injection he
/-- a program in memory. -/
structure ProgAt (K kf : Nat) (m : Int) (ga : Option Addr) (gn gc : Nat) (sa : Option Addr) (sn sc : Nat) (ya : Option Addr) (yn yc : Nat) (oa : Option Addr) (on oc : Nat) (va : Option Addr) (vn vc : Nat) (fa : Option Addr) (fn fc : Nat) (ba : Option Addr) (bn bc : Nat) (gs : List (Int × Int)) (sp : List Int) (ls ms : List Lab) (vs : List (Bool × Lab)) (fs : List FnD) (l : List D) (w : World) : Prop where
  m64 : In64 m
  grants : IsGrants w (.slice ga gn gc) gs
  speak : IsInts w (.slice sa sn sc) sp
  speakL : sp.length ≤ 9223372036854775807
  ins : LabsAt w (.slice ya yn yc) ls
  outs : LabsAt w (.slice oa on oc) ms
  vars : VarsAt w (.slice va vn vc) vs
  funcs : FnsAt w K kf (.slice fa fn fc) fs
  main : StmtsAt w K kf (.slice ba bn bc) l
  insN : ya = none → yc = 0
  outsN : oa = none → oc = 0
theorem ProgAt.over {K kf : Nat} {m : Int} {ga : Option Addr} {gn gc : Nat} {sa : Option Addr} {sn sc : Nat} {ya : Option Addr} {yn yc : Nat} {oa : Option Addr} {on oc : Nat} {va : Option Addr} {vn vc : Nat} {fa : Option Addr} {fn fc : Nat} {ba : Option Addr} {bn bc : Nat} {gs : List (Int × Int)} {sp : List Int} {ls ms : List Lab} {vs : List (Bool × Lab)} {fs : List FnD} {l : List D} {w w' : World} (h : ProgAt K kf m ga gn gc sa sn sc ya yn yc oa on oc va vn vc fa fn fc ba bn bc gs sp ls ms vs fs l w) (hb : Below w.heap.size w w') : ProgAt K kf m ga gn gc sa sn sc ya yn yc oa on oc va vn vc fa fn fc ba bn bc gs sp ls ms vs fs l w' :=
  ⟨h.m64, isGrants_over h.grants hb, h.speak.over hb, h.speakL, h.ins.over hb, h.outs.over hb, h.vars.over hb, h.funcs.over hb, h.main.over hb, h.insN, h.outsN⟩

/-- a program that may be run. -/
structure okP (K kf : Nat) (m : Int) (vn yn on : Nat) (gs : List (Int × Int)) (sp : List Int) (ls ms : List Lab) (vs : List (Bool × Lab)) (fs : List FnD) (l : List D) : Prop where
  chk : chkErr m gs = 0
  speak : ∀ x ∈ sp, 0 ≤ x ∧ x < m
  labs : labsOk m gs (ls ++ ms) vs
  outs : on ≤ 5
  vars : vn ≤ 16
  ins : yn ≤ 5
  funcs : fs.length ≤ 5
  many : cntF kf fs + cnts kf l ≤ 50
  body : ∀ i (h : i < fs.length), okF K vn yn on (i : Int) fs kf fs[i]
  main : ∀ s ∈ l, okS K vn yn on (fs.length : Int) fs kf s
end Go.Proofs.Ytcbbjjenkommeaa.Ex
