/- Expressions of a program in memory, as plain data; what was handed in lies so. -/
import Derived.Test.YtdbepdabkciiiaaRows
import Derived.RowKit
import Derived.ProofKit
import Derived.OpenShut
import Derived.Deep.Strs
import Derived.Lib.SmallJoins
namespace Go.Proofs.Ytdbepdabkciiiaa.Ex
open Go.RowKit Go.ChangeShapes Go.WideShapes
set_option linter.unusedVariables false

theorem Try.cellsX : Try.prog.cellsOf 24 = 3 := by kernel_rfl
theorem Try.cellsXs : Try.prog.cellsOf 22 = 1 := by kernel_rfl
theorem Try.cellsI : Try.prog.cellsOf 3 = 1 := by kernel_rfl

abbrev D := DataW Empty
def xD (k n : Int) (args : List D) : D := .agg [.lit (.int .i64 k), .lit (.int .i64 n), .slice args []]

/-- a list lies in memory, each element by itself. -/
def XS (size : Nat) (R : List Value → D → Prop) (w : World) (v : Value) (ds : List D) : Prop :=
  ds.length ≤ maxLen ∧ ∃ ao cap, v = .slice ao ds.length cap ∧ (ds ≠ [] → ∃ b off, ao = some ⟨b, off, none⟩ ∧
    ∀ (i : Nat) (d : D), ds[i]? = some d → ∃ cs : List Value, cs.length = size ∧ (∀ (j : Nat) (u : Value), cs[j]? = some u → w.cell? ⟨b, off + i * size + j, none⟩ = some u) ∧ R cs d)

def In64 (n : Int) : Prop := -9223372036854775808 ≤ n ∧ n ≤ 9223372036854775807

theorem wf64 {n : Int} (h : (Lit.int .i64 n).wf = true) : In64 n := by
  have h2 : (decide (IntKind.i64.min ≤ n) && decide (n ≤ IntKind.i64.max)) = true := h
  rw [Bool.and_eq_true, decide_eq_true_iff, decide_eq_true_iff] at h2
  exact h2

/-- an expression, so deep at most. -/
def RX (w : World) : Nat → List Value → D → Prop
  | 0, _, _ => False
  | k + 1, cs, d => ∃ (kd n : Int) (v : Value) (ds : List D), cs = [.int .i64 kd, .int .i64 n, v] ∧ d = xD kd n ds ∧ In64 kd ∧ In64 n ∧ XS 3 (RX w k) w v ds

theorem XS.mono {size : Nat} {R R' : List Value → D → Prop} {w w' : World} {v : Value} {ds : List D} (h : XS size R w v ds)
    (hw : ∀ a u, w.cell? a = some u → w'.cell? a = some u) (hR : ∀ cs d, d ∈ ds → R cs d → R' cs d) : XS size R' w' v ds := by
  obtain ⟨hm, ao, cap, hv, hc⟩ := h
  refine ⟨hm, ao, cap, hv, fun hne => ?_⟩
  obtain ⟨b, off, hao, hel⟩ := hc hne
  refine ⟨b, off, hao, fun i d hd => ?_⟩
  obtain ⟨cs, hl, hcs, hr⟩ := hel i d hd
  exact ⟨cs, hl, fun j u hu => hw _ _ (hcs j u hu), hR cs d (List.mem_of_getElem? hd) hr⟩

theorem RX.mono {w w' : World} (hw : ∀ a u, w.cell? a = some u → w'.cell? a = some u) :
    ∀ (k m : Nat) (cs : List Value) (d : D), k ≤ m → RX w k cs d → RX w' m cs d := by
  intro k
  induction k with
  | zero => intro m cs d _ h; exact h.elim
  | succ k ih =>
    intro m cs d hkm h
    obtain ⟨m', rfl⟩ : ∃ m', m = m' + 1 := ⟨m - 1, by omega⟩
    obtain ⟨kd, n, v, ds, hcs, hd, h1, h2, hr⟩ := h
    exact ⟨kd, n, v, ds, hcs, hd, h1, h2, hr.mono hw (fun cs d _ hh => ih m' cs d (by omega) hh)⟩

set_option maxRecDepth 100000 in
theorem open_expr {H : Type} {enc : TypeId × Value → H} {W : World} : ∀ (fuel : Nat) (cs : List Value) (x : DataW H × List MemPlace), DataW.trod enc Try.prog W 0 (fun _ => true) true fuel 24 cs = some x → ∃ d, RX W fuel cs d := by
  intro fuel
  induction fuel using Nat.strongRecOn with
  | ind fuel ih =>
    intro cs x h
    obtain ⟨xs, n, rfl, hx, hl, hxl, hf⟩ := DataW.trod_struct Try.underlying24 h
    rw [Try.cellsX] at hl
    match cs, hl, xs, hxl with
    | [c0, c1, c2], _, [y0, y1, y2], _ =>
      have h0 := hf 0 _ rfl
      have h1 := hf 1 _ rfl
      have h2 := hf 2 _ rfl
      simp [Try.cellsI, Try.cellsXs] at h0 h1 h2
      obtain ⟨a, e0, r0⟩ := DataW.trod_int Try.underlying3 h0
      obtain ⟨b, e1, r1⟩ := DataW.trod_int Try.underlying3 h1
      simp at e0 e1
      subst e0
      subst e1
      have wa : In64 a := wf64 r0.2
      have wb : In64 b := wf64 r1.2
      rcases DataW.trod_slice Try.underlying22 h2 with ⟨hcs, -⟩ | ⟨ad, len, cap, elems, rest, m, rfl, hcs, -, -, hlc, hcm, hel, hat, -, -⟩
      · simp at hcs
        subst hcs
        exact ⟨xD a b [], a, b, _, [], rfl, rfl, wa, wb, by simp, none, 0, rfl, fun h => absurd rfl h⟩
      · simp at hcs
        subst hcs
        rw [Try.cellsX] at hat
        have hget : ∀ i, i < len → ∃ d : D, ∃ cs : List Value, cs.length = 3 ∧ (∀ (j : Nat) (u : Value), cs[j]? = some u → W.cell? (ad.add (i * 3 + j)) = some u) ∧ RX W (m + 1) cs d := fun i hi => by
          have hi2 := hat i hi
          rw [List.getElem?_eq_getElem (by omega), Option.bind_eq_some_iff] at hi2
          obtain ⟨cs, hc, ht⟩ := hi2
          obtain ⟨-, hlen, hcell⟩ := World.cells?_some hc
          obtain ⟨d, hd⟩ := ih m (by omega) cs _ ht
          refine ⟨d, cs, hlen, fun j u hu => ?_, RX.mono (fun _ _ h => h) m (m + 1) cs d (by omega) hd⟩
          have hj : j < 3 := by have := (List.getElem?_eq_some_iff.1 hu).1; omega
          have hk := hcell j hj
          rw [hu] at hk
          rw [Addr.add_add] at hk
          exact hk
        obtain ⟨f, hf⟩ := Deep.choose_lt hget
        refine ⟨xD a b ((List.range len).map f), a, b, _, (List.range len).map f, rfl, rfl, wa, wb, by simp; omega, some ad, cap, by simp, fun hne => ?_⟩
        have h0 : 0 < len := by
          rcases Nat.eq_zero_or_pos len with h | h
          · subst h; simp at hne
          · exact h
        have hp : ∃ b off, ad = ⟨b, off, none⟩ := by
          obtain ⟨cs, hl, hc, -⟩ := hf 0 h0
          obtain ⟨u, hu⟩ : ∃ u, cs[0]? = some u := ⟨cs[0]'(by omega), List.getElem?_eq_getElem (by omega)⟩
          have hk := hc 0 u hu
          have hsp : ad.spot = none := by simpa [Addr.add] using World.cell?_spot hk
          obtain ⟨b, off, sp⟩ := ad
          simp only at hsp
          subst hsp
          exact ⟨b, off, rfl⟩
        obtain ⟨bb, off, rfl⟩ := hp
        refine ⟨bb, off, rfl, fun i d hd => ?_⟩
        have hi : i < len := by
          have := (List.getElem?_eq_some_iff.1 hd).1
          simpa using this
        have hd' : d = f i := by
          rw [List.getElem?_map, List.getElem?_range hi] at hd
          simpa using hd.symm
        subst hd'
        obtain ⟨cs, hl, hc, hr⟩ := hf i hi
        exact ⟨cs, hl, fun j u hu => by have := hc j u hu; rw [Addr.add_lit] at this; simpa [Nat.add_assoc] using this, hr⟩
end Go.Proofs.Ytdbepdabkciiiaa.Ex
