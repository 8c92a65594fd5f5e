/- The document's own list of an expression's parts. -/
import Derived.Test.YtdbepdabkciiiaaEval
import Derived.Deep.AppendLies
namespace Go.Proofs.Ytdbepdabkciiiaa.Ex
open Go.RowKit
set_option linter.unusedVariables false

theorem own_over {W W' : World} {B e s : Nat} {v : Value} {k : Nat} {xs : List Value} (h : W.ownsRow B e s v k xs) (hb : Below W.heap.size W W') : W'.ownsRow B e s v k xs := by
  obtain ⟨h1, h2⟩ := h
  refine ⟨h1, ?_⟩
  rcases h2 with h2 | ⟨g, cap, cur, hv, hg, hh, r⟩
  · exact Or.inl h2
  · refine Or.inr ⟨g, cap, cur, hv, hg, ?_, r⟩
    rw [hb.block g (Array.getElem?_eq_some_iff.1 hh).1]
    exact hh

theorem own_base {W : World} {B B' e s : Nat} {v : Value} {k : Nat} {xs : List Value} (h : W.ownsRow B e s v k xs) (hb : B' ≤ B) : W.ownsRow B' e s v k xs := by
  obtain ⟨h1, h2⟩ := h
  refine ⟨h1, ?_⟩
  rcases h2 with h2 | ⟨g, cap, cur, hv, hg, r⟩
  · exact Or.inl h2
  · exact Or.inr ⟨g, cap, cur, hv, Nat.le_trans hb hg, r⟩

theorem own_lt {W : World} {B e s : Nat} {v : Value} {k : Nat} {xs : List Value} (h : W.ownsRow B e s v k xs) {g : Nat} (hg : v.ownBlock = some g) : B ≤ g ∧ g < W.heap.size := by
  rcases h.2 with ⟨rfl, _⟩ | ⟨g', cap, cur, rfl, hg', hh, _⟩
  · cases hg
  · simp [Value.ownBlock] at hg
    subst hg
    exact ⟨hg', (Array.getElem?_eq_some_iff.1 hh).1⟩

theorem below_grown {B e s : Nat} {W W' : World} {v : Value} {k : Nat} {xs : List Value} (h : W.ownsRow B e s v k xs) (hg : W.grownBy W' v.ownBlock) (hB : B ≤ W.heap.size) : Below B W W' :=
  ⟨hg.os, hg.tape, hg.output, hg.size, fun j hj => hg.block j (Nat.lt_of_lt_of_le hj hB) (fun e => by have := (own_lt h e.symm).1; omega)⟩

/-- the cells of parts that lie one behind the other. -/
def CellsOf : List D → List Value → Prop
  | [], xs => xs = []
  | d :: l, xs => ∃ (ao : Option Addr) (cap : Nat) (r : List Value), xs = .int .i64 (kindOf d) :: .int .i64 (numOf d) :: .slice ao (argsOf d).length cap :: r ∧ CellsOf l r

theorem CellsOf.append : ∀ {l l' : List D} {xs xs' : List Value}, CellsOf l xs → CellsOf l' xs' → CellsOf (l ++ l') (xs ++ xs')
  | [], _, _, _, h, h' => by have e : _ = _ := h; subst e; exact h'
  | d :: l, _, _, _, h, h' => by
    obtain ⟨ao, cap, r, rfl, hr⟩ := h
    exact ⟨ao, cap, r ++ _, rfl, hr.append h'⟩
theorem CellsOf.one : ∀ {l : List D} {xs : List Value}, CellsOf l xs → ∀ u ∈ xs, u.oneCell' = true
  | [], _, h, u, hu => by have e : _ = _ := h; subst e; cases hu
  | d :: l, _, h, u, hu => by
    obtain ⟨ao, cap, r, rfl, hr⟩ := h
    simp only [List.mem_cons] at hu
    rcases hu with rfl | rfl | rfl | hu
    · rfl
    · rfl
    · rfl
    · exact hr.one u hu
theorem CellsOf.length : ∀ {l : List D} {xs : List Value}, CellsOf l xs → xs.length = l.length * 3
  | [], _, h => by have e : _ = _ := h; subst e; rfl
  | d :: l, _, h => by
    obtain ⟨ao, cap, r, rfl, hr⟩ := h
    have := hr.length
    simp
    omega

def listX : Nat → D → List D
  | 0, _ => []
  | k + 1, d => d :: (argsOf d).flatMap (listX k)
theorem listX_pos {w : World} {k : Nat} {cs : List Value} {d : D} (h : RX w k cs d) : 0 < (listX k d).length := by
  cases k with
  | zero => exact h.elim
  | succ k => simp [listX]

theorem own_cells {W : World} {B e : Nat} {v : Value} {n : Nat} {xs : List Value} (h : W.ownsRow B e 3 v n xs) (hn : 0 < n) : ∃ g cap, v = .slice (some ⟨g, 0, none⟩) n cap ∧ B ≤ g ∧ g < W.heap.size ∧ ∀ j u, xs[j]? = some u → W.cell? ((⟨g, 0, none⟩ : Addr).add j) = some u := by
  rcases h.2 with ⟨_, h0⟩ | ⟨g, cap, cur, hv, hb, hg, h1, h2, h3, h4⟩
  · omega
  · refine ⟨g, cap, hv, hb, (Array.getElem?_eq_some_iff.1 hg).1, fun j u hu => ?_⟩
    rw [Addr.add_lit, Lib.cell_of_heap hg]
    rw [← h4, List.getElem?_take] at hu
    split at hu
    · simpa using hu
    · cases hu
end Go.Proofs.Ytdbepdabkciiiaa.Ex
