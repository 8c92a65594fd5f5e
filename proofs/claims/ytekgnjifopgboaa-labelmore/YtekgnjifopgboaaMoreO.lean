/- A policy that was handed in lies in memory as a policy; and all ways through LabelMore. -/
import Derived.Test.YtekgnjifopgboaaMoreA
import Derived.Test.YtekgnjifopgboaaLevOpen
namespace Go.Proofs.Ytekgnjifopgboaa
open Go.RowKit Go.ChangeShapes Go.WideShapes
set_option linter.unusedVariables false

theorem more_any (m : Int) (v : Value) (gs : List (Int × Int)) (pr pw : Value) (bl : Lab) (ow : Int) (nv : Value) (ns : List Int) (w : World) (hv : IsGrants w v gs) (hp : IsPols w pr bl.r) (hq : IsPols w pw bl.w) (hn : IsInts w nv ns) (hshR : PShape pr) (hshW : PShape pw) :
    Calls Try.prog 6 #[.agg #[.int .i64 m, v], .agg #[pr, pw], .agg #[.int .i64 ow, nv]] w fun e w' => e = .returned (.bool true) ∧ Below w.heap.size w w' := by
  by_cases hE : lChk m gs bl = 0
  · exact more_ok m v gs pr pw bl ow nv ns w hv hp hq hn hshR hshW hE
  · exact more_bad m v gs pr pw bl ow nv ns w hv hp hq hn hshR hshW hE

theorem pshape_of {H : Type} {enc : TypeId × Value → H} {W : World} {fuel : Nat} {v : Value} {x : DataW H × List MemPlace} (h : DataW.trod enc Try.prog W 0 (fun _ => true) true fuel 25 [v] = some x) : PShape v := by
  rcases Deep.open_slice Try.underlying25 h with ⟨hcs, hx⟩ | ⟨a, len, cap, m, n, D, Pl, hcs, _⟩
  · simp at hcs
    exact Or.inl hcs
  · simp at hcs
    exact Or.inr ⟨_, _, _, hcs⟩

theorem open_label2 {H : Type} {enc : TypeId × Value → H} {W : World} {r : Go.Reach} {b0 : Nat} {v : Value} {d : DataW H} {p : List MemPlace} (hv : Value.okWide Try.prog W r b0 27 v) (h : DataW.Trod enc Try.prog W 0 (fun _ => true) true 27 v d p) :
    ∃ (pr pw : Value) (bl : Lab), v = .agg #[pr, pw] ∧ IsPols W pr bl.r ∧ IsPols W pw bl.w ∧ PShape pr ∧ PShape pw := by
  obtain ⟨v0, v1, y0, y1, n, rfl, -, -, h0, h1⟩ := Joins.open_agg2 Try.underlying27 (by kernel_rfl) Try.cells27 hv h
  obtain ⟨a, ha⟩ := open_pols h0
  obtain ⟨b, hb⟩ := open_pols h1
  exact ⟨v0, v1, ⟨a, b⟩, rfl, ha, hb, pshape_of h0, pshape_of h1⟩

theorem open_policy {H : Type} {enc : TypeId × Value → H} {W : World} {r : Go.Reach} {b0 : Nat} {v : Value} {d : DataW H} {p : List MemPlace} (hv : Value.okWide Try.prog W r b0 50 v) (h : DataW.Trod enc Try.prog W 0 (fun _ => true) true 50 v d p) :
    ∃ (ow : Int) (nv : Value) (ns : List Int), v = .agg #[.int .i64 ow, nv] ∧ IsInts W nv ns := by
  obtain ⟨v0, v1, y0, y1, n, rfl, -, -, h0, h1⟩ := Joins.open_agg2 Try.underlying50 (by kernel_rfl) Try.cells50 hv h
  obtain ⟨a, e0, _, _⟩ := DataW.trod_int Try.underlying3 h0
  obtain ⟨ns, hns⟩ := open_ints h1
  simp at e0
  subst e0
  exact ⟨a, v1, ns, rfl, hns⟩
end Go.Proofs.Ytekgnjifopgboaa
