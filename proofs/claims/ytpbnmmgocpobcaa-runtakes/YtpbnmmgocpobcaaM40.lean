/- Lists of numbers joined; what grows keeps the others. -/
import Derived.Test.YtpbnmmgocpobcaaM38
import Derived.Laws.AppendOwnNone
import Derived.Test.YtpbnmmgocpobcaaM39
namespace Go.Proofs.Ytpbnmmgocpobcaa.Ex
open Go.RowKit
set_option linter.unusedVariables false

theorem Try.infoS : (Try.prog.info? 25).map (fun i => (i.zero, i.size, i.bytes)) = some (some (.slice none 0 0), 1, 24) := by kernel_rfl

theorem grown_refl (w : World) (row : Option Nat) : w.grownBy w row := ⟨rfl, rfl, rfl, Nat.le_refl _, fun _ _ _ => rfl⟩

theorem IsInts.grown {w w' : World} {row : Option Nat} {u : Value} {l : List Int} (h : IsInts w u l) (hg : w.grownBy w' row) (hne : l ≠ [] → ∀ k, u.ownBlock = some k → row ≠ some k) : IsInts w' u l := by
  obtain ⟨ao, cap, rfl, hc⟩ := h
  refine ⟨ao, cap, rfl, fun hl => ?_⟩
  obtain ⟨b, off, rfl, hel⟩ := hc hl
  exact ⟨b, off, rfl, fun i hi => hg.cell (hel i hi) (fun hx => hne hl b rfl hx.symm)⟩

theorem own_ints {w : World} {B : Nat} {v : Value} {n : Nat} {l : List Int} (h : w.ownsRow B 3 1 v n (intsV l)) (hn : n = l.length) : IsInts w v l := by
  subst hn
  rcases h.2 with ⟨h1, h2⟩ | ⟨g, cap, cur, hv, hb, hg, h1, h2, h3, h4⟩
  · exact ⟨none, 0, by rw [h1, h2], fun hne => absurd (List.length_eq_zero_iff.1 h2) hne⟩
  · refine ⟨_, cap, hv, fun _ => ⟨g, 0, rfl, fun i hi => ?_⟩⟩
    have := h.cells (g := g) (by rw [hv]; rfl) i (.int .i64 l[i]) (by simp [hi])
    rwa [Addr.add_lit] at this

section
variable {ops : Array Oper} {o : Oper} {a : Act} {W : World} {K : Act → World → Prop} {Q : Exit → Act → World → Prop} {E : Prop}

set_option maxRecDepth 100000 in
theorem step_appS (hg : o.guard = none) (s x : Operand) (hop : o.op = Op.call { callee := Callee.builtin Builtin.append, args := #[s, x], argTypes := #[25, 25] })
    (B : Nat) (v xv : Value) (n : Nat) (xs : List Value) (l : List Int) (hs : a.eval s = v) (hx : a.eval x = xv) (hown : W.ownsRow B 3 1 v n xs) (hv : IsInts W xv l) (hsh : ∀ k c, xv = .slice none k c → c = 0)
    (hb : (n + l.length) * 8 ≤ 140737488355328) (hB : B ≤ W.heap.size)
    (h : ∀ v' W', W'.ownsRow B 3 1 v' (n + l.length) (xs ++ intsV l) → W.grownBy W' v.ownBlock → K (a.put o.dst v') W') :
    if Region.wanted o (yielded ops a.tmps) = true then Oper.wp Try.prog o a W K Q else E := by
  have hw : Region.wanted o (yielded ops a.tmps) = true := by simp [Region.wanted, hg]
  rw [if_pos hw]
  obtain ⟨i, hi, hz, h2, h16⟩ := info_parts Try.infoI
  obtain ⟨ao, cap, rfl, hcc⟩ := hv
  cases ao with
  | none =>
    have hl : l = [] := by
      apply Classical.byContradiction
      intro hne
      obtain ⟨b, off, h, _⟩ := hcc hne
      cases h
    subst hl
    have hcap : cap = 0 := hsh _ _ rfl
    subst hcap
    have hr := run_append_owned_none (P := Try.prog) W B 25 o.type 3 i 1 Try.underlying25 hi _ n xs hown
    have hK := h v W (by simpa using hown) (grown_refl W _)
    unfold Oper.wp execOp
    simp only [hop, resolve, invoke, builtin, Sem.run_bind, Sem.run_pure, Result.andThen_ok, List.map_toArray, List.map_cons, List.map_nil, hs, hx, List.length_nil, hr]
    exact hK
  | some ad =>
    obtain ⟨v', w', hr, h3, h4, h5, h6⟩ := run_append_own_at (P := Try.prog) W B 25 o.type 3 i _ 1 8 Try.underlying25 hi hz h2 h16 (by rfl) (by decide) v n xs hown ad l.length cap (intsV l) (by simp) (by
      intro j u hu
      have hj : j < l.length := by have := (List.getElem?_eq_some_iff.1 hu).1; simpa using this
      obtain ⟨b', off, hb', hcl⟩ := hcc (by rintro rfl; simp at hj)
      injection hb' with hb'
      subst hb'
      rw [Addr.add_lit]
      have : u = .int .i64 l[j] := by simp [hj] at hu; exact hu.symm
      rw [this]
      exact hcl j hj) (by intro u hu; simp at hu; obtain ⟨y, -, rfl⟩ := hu; rfl) (by simp only [maxLen]; omega) hb hB
    have hK := h v' w' h3 h4
    unfold Oper.wp execOp
    simp only [hop, resolve, invoke, builtin, Sem.run_bind, Sem.run_pure, Result.andThen_ok, List.map_toArray, List.map_cons, List.map_nil, hs, hx, hr]
    exact hK
end

/-- the same, as far as it is taken. -/
def Mix (l l' : List Int) (t : Int) : Prop := ∀ i : Nat, (i : Int) < t → l.getD i 0 = l'.getD i 0
theorem Mix.refl (l : List Int) (t : Int) : Mix l l t := fun _ _ => rfl
theorem Mix.take (l m : List Int) (n : Nat) (h : n ≤ l.length) : Mix l (l.take n ++ m) n := fun i hi => by
  have hi2 : i < n := by omega
  rw [List.getD_eq_getElem?_getD, List.getD_eq_getElem?_getD, List.getElem?_append_left (by simp; omega), List.getElem?_take, if_pos hi2]

/-- lists of numbers, one of them behind the other, in a row of one's own. -/
structure MixAt (B : Nat) (ins : List (List Int)) (T : List Int) (mv : Value) (j : Nat) (us : List Value) (ml : List (List Int)) (w : World) : Prop where
  own : w.ownsRow B 25 1 mv j us
  len : ml.length = j
  one : ∀ i (h : i < ml.length), ∃ u, us[i]? = some u ∧ IsInts w u ml[i] ∧ (ml[i] ≠ [] → ∀ k, u.ownBlock = some k → mv.ownBlock ≠ some k ∧ k < w.heap.size) ∧ ml[i].length ≤ 9223372036854775807 ∧ Mix (ins.getD i []) ml[i] (T.getD i 0)

theorem MixAt.over {B : Nat} {ins : List (List Int)} {T : List Int} {mv : Value} {j : Nat} {us : List Value} {ml : List (List Int)} {w w' : World} (h : MixAt B ins T mv j us ml w) (hb : Below w.heap.size w w') : MixAt B ins T mv j us ml w' :=
  ⟨own_overG h.own hb, h.len, fun i hi => by
    obtain ⟨u, h1, h2, h3, h5, h6⟩ := h.one i hi
    exact ⟨u, h1, h2.over hb, fun hne k hk => ⟨(h3 hne k hk).1, Nat.lt_of_lt_of_le (h3 hne k hk).2 hb.size⟩, h5, h6⟩⟩

theorem MixAt.lists {B : Nat} {ins : List (List Int)} {T : List Int} {mv : Value} {j : Nat} {us : List Value} {ml : List (List Int)} {w : World} (h : MixAt B ins T mv j us ml w) (hj : j ≤ maxLen) : ListsAt w mv ml := by
  have hl := h.len
  rcases h.own.2 with ⟨h1, h2⟩ | ⟨g, cap, cur, hv, hb, hg, h1, h2, h3, h4⟩
  · refine ⟨by omega, none, 0, by rw [h1, hl, h2], fun hne => absurd (List.length_eq_zero_iff.1 (by omega)) hne⟩
  · refine ⟨by omega, _, cap, by rw [hv, hl], fun _ => ⟨g, 0, rfl, fun i hi => ?_⟩⟩
    obtain ⟨u, h5, h6, -, h7, -⟩ := h.one i hi
    have := h.own.cells (g := g) (by rw [hv]; rfl) i u h5
    rw [Addr.add_lit] at this
    exact ⟨u, this, h6, h7⟩

/-- one list more. -/
theorem MixAt.snoc {B : Nat} {ins : List (List Int)} {T : List Int} {mv mv' : Value} {j : Nat} {us : List Value} {ml : List (List Int)} {w w' : World} (h : MixAt B ins T mv j us ml w) (hg : w.grownBy w' mv.ownBlock) (hat : mv'.ownBlock = mv.ownBlock ∨ mv'.ownBlock = some w.heap.size)
    {u : Value} {l : List Int} (ho : w'.ownsRow B 25 1 mv' (j + 1) (us ++ [u])) (hu : IsInts w u l) (hne : l ≠ [] → ∀ k, u.ownBlock = some k → mv.ownBlock ≠ some k ∧ k < w.heap.size) (hl : l.length ≤ 9223372036854775807) (hm : Mix (ins.getD j []) l (T.getD j 0)) : MixAt B ins T mv' (j + 1) (us ++ [u]) (ml ++ [l]) w' := by
  have hjl := h.len
  have hul : us.length = j := by have := h.own.1; omega
  refine ⟨ho, by simp [hjl], fun i hi => ?_⟩
  by_cases hij : i < ml.length
  · obtain ⟨x, h1, h2, h3, h5, h6⟩ := h.one i hij
    rw [List.getElem_append_left hij]
    refine ⟨x, by rw [List.getElem?_append_left (by omega)]; exact h1, h2.grown hg (fun hz k hk => (h3 hz k hk).1), fun hz k hk => ⟨?_, Nat.lt_of_lt_of_le (h3 hz k hk).2 hg.size⟩, h5, h6⟩
    rcases hat with e | e
    · rw [e]; exact (h3 hz k hk).1
    · rw [e]; intro hy; injection hy with hy; have := (h3 hz k hk).2; omega
  · have hie : i = ml.length := by simp at hi; omega
    subst hie
    have e : (ml ++ [l])[ml.length]'hi = l := by simp
    rw [e]
    refine ⟨u, by rw [List.getElem?_append_right (by omega)]; simp [hjl, hul], hu.grown hg (fun hz k hk => (hne hz k hk).1), fun hz k hk => ⟨?_, Nat.lt_of_lt_of_le (hne hz k hk).2 hg.size⟩, hl, ?_⟩
    · rcases hat with e | e
      · rw [e]; exact (hne hz k hk).1
      · rw [e]; intro hy; injection hy with hy; have := (hne hz k hk).2; omega
    · rw [hjl]; exact hm
theorem keepA {wr W : World} {a : Addr} {u : Value} {o : Obj} (h : W.cell? a = some u ∧ Below wr.heap.size wr W) : (W.alloc o).cell? a = some u ∧ Below wr.heap.size wr (W.alloc o) :=
  ⟨cell_over ((Below.refl _ W).alloc (Nat.le_refl _) o) _ _ h.1, h.2.alloc h.2.size _⟩
theorem keepG {wr W W2 : World} {b j : Nat} {u v : Value} (h : W.cell? ⟨b, j, none⟩ = some u ∧ Below wr.heap.size wr W) (hg : W.grownBy W2 v.ownBlock) (hv : ∀ k, v.ownBlock = some k → wr.heap.size ≤ k) (hb : b < wr.heap.size) : W2.cell? ⟨b, j, none⟩ = some u ∧ Below wr.heap.size wr W2 :=
  ⟨hg.cell h.1 (fun hx => by have := hv b hx.symm; omega), ⟨hg.os.trans h.2.os, hg.tape.trans h.2.tape, hg.output.trans h.2.output, Nat.le_trans h.2.size hg.size, fun k hk => (hg.block k (Nat.lt_of_lt_of_le hk h.2.size) (fun hx => by have := hv k hx.symm; omega)).trans (h.2.block k hk)⟩⟩
end Go.Proofs.Ytpbnmmgocpobcaa.Ex
