/- The document's own value of an expression that is right. -/
import Derived.Test.YtdbepdabkciiiaaEn
namespace Go.Proofs.Ytdbepdabkciiiaa.Ex
open Go.RowKit
set_option linter.unusedVariables false

theorem val_any (vs : List Int) (hv : ∀ x ∈ vs, I32 x) : ∀ (k : Nat) (cs : List Value) (d : D) (w : World) (vv : Value), RX w k cs d → okX vs.length k d → IsInts w vv vs →
    Calls Try.prog 6 #[.agg cs.toArray, vv] w fun e w' => e = .returned (.int .i64 (valX vs k d)) ∧ Below w.heap.size w w' := by
  intro k
  induction k with
  | zero => intro cs d w vv h; exact h.elim
  | succ k ih =>
    intro cs d w vv h ho hi
    rcases ho with ⟨h1, -, -⟩ | ⟨h1, h2, h3⟩ | ⟨h1, h2, x, y, hxy, hx, hy⟩
    · exact val_leaf cs d k w vv vs h hi (Or.inl h1)
    · exact val_leaf cs d k w vv vs h hi (Or.inr ⟨h1, h2, h3⟩)
    · obtain ⟨kd, n, v, ds, rfl, rfl, hkd, hn, hlen, ao, cap, rfl, hc⟩ := h
      simp only [kindOf_x, argsOf_x] at h1 h2 hxy
      subst hxy
      obtain ⟨b, off, rfl, hel⟩ := hc (by simp)
      obtain ⟨xs, -, hxc, hxr⟩ := hel 0 x rfl
      obtain ⟨ys, -, hyc, hyr⟩ := hel 1 y rfl
      obtain ⟨xa, xcap, hxs⟩ := hxr.form
      obtain ⟨ya, ycap, hys⟩ := hyr.form
      subst hxs
      subst hys
      have hs : valX vs (k + 1) (xD kd n [x, y]) = opX kd (valX vs k x) (valX vs k y) := by
        show (if kd = 1 then n else if kd = 2 then vs.getD n.toNat 0 else opX kd (valX vs k x) (valX vs k y)) = _
        rw [if_neg (by omega), if_neg (by omega)]
      rw [hs]
      have q0 := hxc 0 _ rfl
      have q1 := hxc 1 _ rfl
      have q2 := hxc 2 _ rfl
      have r0 := hyc 0 _ rfl
      have r1 := hyc 1 _ rfl
      have r2 := hyc 2 _ rfl
      simp only [Nat.zero_mul, Nat.one_mul, Nat.add_zero] at q0 q1 q2 r0 r1 r2
      exact val_node kd n b off cap _ _ _ _ _ _ _ _ _ _ vv w _ _ (valX_in hv k x hx) (valX_in hv k y hy) ⟨h1, h2⟩ q0 q1 q2 r0 r1 r2
        (hide fun W hB => ih _ x W vv (hxr.over hB) hx (hi.over hB)) (hide fun W hB => ih _ y W vv (hyr.over hB) hy (hi.over hB))
end Go.Proofs.Ytdbepdabkciiiaa.Ex
