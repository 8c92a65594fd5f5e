/- The one who runs, in memory. -/
import Derived.Test.YtpbnmmgocpobcaaM17
import Derived.Test.YtpbnmmgocpobcaaM23
import Derived.Test.YtpbnmmgocpobcaaM24
import Derived.Maps.AppendAt
namespace Go.Proofs.Ytpbnmmgocpobcaa.Ex
open Go.RowKit
set_option linter.unusedVariables false

abbrev intsV (l : List Int) : List Value := l.map fun x => Value.int .i64 x
def evCells : List Ev4 → List Value
  | [] => []
  | e :: r => .int .i64 e.1 :: .int .i64 e.2.1 :: .int .i64 e.2.2.1 :: .int .i64 e.2.2.2 :: evCells r
theorem evCells_append : ∀ (l m : List Ev4), evCells (l ++ m) = evCells l ++ evCells m
  | [], m => rfl
  | e :: r, m => by simp [evCells, evCells_append r m]
theorem evCells_length : ∀ (l : List Ev4), (evCells l).length = l.length * 4
  | [] => rfl
  | e :: r => by simp [evCells, evCells_length r]; omega

structure RnG (B : Nat) (R : List Value) (br b1 b2 b3 : Nat) (fl : List Int) (en : Int) (st : RSt) (ev : Value) (w : World) : Prop where
  row : RowAt (ev :: .slice (some ⟨b1, 0, none⟩) st.vars.length st.vars.length :: .slice (some ⟨b2, 0, none⟩) st.taken.length st.taken.length :: .int .i64 (st.steps : Int) :: .int .i64 en :: .int .i64 0 :: R) w br
  vars : RowAt (intsV st.vars) w b1
  taken : RowAt (intsV st.taken) w b2
  first : RowAt (intsV fl) w b3
  own : w.ownsRow B 56 4 ev st.ev.length (evCells st.ev)
  z0 : ∀ j, w.frozen? ⟨br, j, none⟩ = false
  z1 : ∀ j, w.frozen? ⟨b1, j, none⟩ = false
  z2 : ∀ j, w.frozen? ⟨b2, j, none⟩ = false
  apart : br ≠ b1 ∧ br ≠ b2 ∧ b1 ≠ b2 ∧ b3 ≠ br ∧ b3 ≠ b1 ∧ b3 ≠ b2
  evA : ev.ownBlock ≠ some br ∧ ev.ownBlock ≠ some b1 ∧ ev.ownBlock ≠ some b2 ∧ ev.ownBlock ≠ some b3
  lo : B ≤ br ∧ B ≤ b1 ∧ B ≤ b2
  hi : br < w.heap.size ∧ b1 < w.heap.size ∧ b2 < w.heap.size ∧ b3 < w.heap.size ∧ B ≤ w.heap.size

theorem RnG.ev' {B : Nat} {R : List Value} {br b1 b2 b3 : Nat} {fl : List Int} {en : Int} {st : RSt} {ev : Value} {w : World} (h : RnG B R br b1 b2 b3 fl en st ev w) : ∀ k, ev.ownBlock = some k → B ≤ k ∧ k < w.heap.size := h.own.lt

theorem RnG.over {B : Nat} {R : List Value} {br b1 b2 b3 : Nat} {fl : List Int} {en : Int} {st : RSt} {ev : Value} {w w' : World} (h : RnG B R br b1 b2 b3 fl en st ev w) (hb : Below w.heap.size w w') : RnG B R br b1 b2 b3 fl en st ev w' := by
  obtain ⟨hc, hf⟩ := bcell hb
  have hs := hb.size
  refine ⟨h.row.over hb, h.vars.over hb, h.taken.over hb, h.first.over hb, ?_, fun j => (hf _ _ h.hi.1).trans (h.z0 j), fun j => (hf _ _ h.hi.2.1).trans (h.z1 j), fun j => (hf _ _ h.hi.2.2.1).trans (h.z2 j), h.apart, h.evA, h.lo, ⟨by have := h.hi; omega, by have := h.hi; omega, by have := h.hi; omega, by have := h.hi; omega, by have := h.hi; omega⟩⟩
  have hg : w.grownBy w' none := ⟨hb.os, hb.tape, hb.output, hb.size, fun k hk _ => hb.block k hk⟩
  exact h.own.kept hg (by cases hv : ev.ownBlock <;> simp)

/-- what is kept while it runs. -/
structure Fr (br b1 b2 : Nat) (ev ev' : Value) (w w' : World) : Prop where
  os : w'.os = w.os
  tape : w'.tape = w.tape
  output : w'.output = w.output
  size : w.heap.size ≤ w'.heap.size
  block : ∀ k, k < w.heap.size → k ≠ br → k ≠ b1 → k ≠ b2 → ev.ownBlock ≠ some k → w'.heap[k]? = w.heap[k]?
  evB : ev'.ownBlock = ev.ownBlock ∨ ∀ k, ev'.ownBlock = some k → w.heap.size ≤ k
theorem Fr.of_below {br b1 b2 : Nat} {ev : Value} {w w' : World} (h : Below w.heap.size w w') : Fr br b1 b2 ev ev w w' := ⟨h.os, h.tape, h.output, h.size, fun k hk _ _ _ _ => h.block k hk, Or.inl rfl⟩
theorem Fr.refl (br b1 b2 : Nat) (ev : Value) (w : World) : Fr br b1 b2 ev ev w w := Fr.of_below (Below.refl _ _)
theorem Fr.trans {br b1 b2 : Nat} {ev ev1 ev2 : Value} {w w1 w2 : World} (h : Fr br b1 b2 ev ev1 w w1) (k : Fr br b1 b2 ev1 ev2 w1 w2) : Fr br b1 b2 ev ev2 w w2 := by
  refine ⟨k.os.trans h.os, k.tape.trans h.tape, k.output.trans h.output, Nat.le_trans h.size k.size, fun i hi h0 h1 h2 h3 => ?_, ?_⟩
  · refine (k.block i (Nat.lt_of_lt_of_le hi h.size) h0 h1 h2 ?_).trans (h.block i hi h0 h1 h2 h3)
    rcases h.evB with he | he
    · rw [he]; exact h3
    · intro hx
      have := he i hx
      omega
  · rcases k.evB with he | he
    · rcases h.evB with he1 | he1
      · exact Or.inl (he.trans he1)
      · exact Or.inr fun i hi => he1 i (he ▸ hi)
    · exact Or.inr fun i hi => Nat.le_trans h.size (he i hi)
theorem Fr.over {br b1 b2 : Nat} {ev ev1 : Value} {w w1 w2 : World} (h : Fr br b1 b2 ev ev1 w w1) (k : Below w1.heap.size w1 w2) : Fr br b1 b2 ev ev1 w w2 := h.trans (Fr.of_below k)
theorem Fr.cell {br b1 b2 : Nat} {ev ev' : Value} {w w' : World} (h : Fr br b1 b2 ev ev' w w') {b j : Nat} {u : Value} (hc : w.cell? ⟨b, j, none⟩ = some u) (h0 : b ≠ br) (h1 : b ≠ b1) (h2 : b ≠ b2) (h3 : ev.ownBlock ≠ some b) : w'.cell? ⟨b, j, none⟩ = some u :=
  (World.cell?_of_block (h.block b (World.block_lt_of_cell? w _ hc) h0 h1 h2 h3)).trans hc
theorem Fr.frozen {br b1 b2 : Nat} {ev ev' : Value} {w w' : World} (h : Fr br b1 b2 ev ev' w w') {b j : Nat} (hb : b < w.heap.size) (h0 : b ≠ br) (h1 : b ≠ b1) (h2 : b ≠ b2) (h3 : ev.ownBlock ≠ some b) : w'.frozen? ⟨b, j, none⟩ = w.frozen? ⟨b, j, none⟩ :=
  World.frozen?_of_block (h.block b hb h0 h1 h2 h3)

section
variable {B : Nat} {R : List Value} {br b1 b2 b3 : Nat} {fl : List Int} {en : Int} {st : RSt} {ev : Value} {w : World}

/-- what lay there ahead of all is as it was. -/
theorem RnG.below {ev' : Value} {w' : World} (h : RnG B R br b1 b2 b3 fl en st ev w) (f : Fr br b1 b2 ev ev' w w') : Below B w w' :=
  ⟨f.os, f.tape, f.output, f.size, fun k hk => f.block k (by have := h.hi; omega) (by have := h.lo; omega) (by have := h.lo; omega) (by have := h.lo; omega) (fun hx => by have := (h.ev' k hx).1; omega)⟩

/-- a box made later is kept. -/
theorem RnG.box {ev' : Value} {w1 w2 : World} {b j : Nat} {u : Value} (h : RnG B R br b1 b2 b3 fl en st ev w) (f : Fr br b1 b2 ev ev' w1 w2) (hb : w.heap.size ≤ b) (hc : w1.cell? ⟨b, j, none⟩ = some u) : w2.cell? ⟨b, j, none⟩ = some u := by
  have := h.hi
  exact f.cell hc (by omega) (by omega) (by omega) (fun hx => by have := (h.ev' b hx).2; omega)

theorem RnG.ints (h : RnG B R br b1 b2 b3 fl en st ev w) : IsInts w (.slice (some ⟨b1, 0, none⟩) st.vars.length st.vars.length) st.vars := by
  refine ⟨_, _, rfl, fun _ => ⟨b1, 0, rfl, fun i hi => ?_⟩⟩
  rw [Nat.zero_add]
  exact h.vars i _ (by simp [hi])

theorem grow_set1 {r j : Nat} {u : Value} : w.grownBy (w.setCell ⟨r, j, none⟩ u) (some r) := grow_set (n := 0)
theorem frozen_set {a b j k : Nat} {u : Value} : (w.setCell ⟨a, j, none⟩ u).frozen? ⟨b, k, none⟩ = w.frozen? ⟨b, k, none⟩ := by simp [go_sem]

/-- a store into the row itself. -/
theorem RnG.set0 (h : RnG B R br b1 b2 b3 fl en st ev w) (j : Nat) (u : Value) {en' : Int} {st' : RSt} (hv : st'.vars = st.vars) (ht : st'.taken = st.taken) (he : st'.ev = st.ev) (hj : j < 6 + R.length)
    (hr : (ev :: .slice (some ⟨b1, 0, none⟩) st.vars.length st.vars.length :: .slice (some ⟨b2, 0, none⟩) st.taken.length st.taken.length :: .int .i64 (st.steps : Int) :: .int .i64 en :: .int .i64 0 :: R).set j u = ev :: .slice (some ⟨b1, 0, none⟩) st.vars.length st.vars.length :: .slice (some ⟨b2, 0, none⟩) st.taken.length st.taken.length :: .int .i64 (st'.steps : Int) :: .int .i64 en' :: .int .i64 0 :: R) :
    RnG B R br b1 b2 b3 fl en' st' ev (w.setCell ⟨br, j, none⟩ u) := by
  obtain ⟨a1, a2, a3, a4, a5, a6⟩ := h.apart
  refine ⟨?_, ?_, ?_, h.first.other a4, ?_, fun k => frozen_set.trans (h.z0 k), fun k => frozen_set.trans (h.z1 k), fun k => frozen_set.trans (h.z2 k), h.apart, h.evA, h.lo, by simpa [World.setCell] using h.hi⟩
  · rw [hv, ht, ← hr]
    exact h.row.set (by simp; omega)
  · rw [hv]; exact h.vars.other (Ne.symm a1)
  · rw [ht]; exact h.taken.other (Ne.symm a2)
  · rw [he]; exact h.own.kept grow_set1 (Or.inr h.evA.1)

theorem RnG.setStep (h : RnG B R br b1 b2 b3 fl en st ev w) : RnG B R br b1 b2 b3 fl en st.step ev (w.setCell ⟨br, 3, none⟩ (.int .i64 ((st.steps : Int) + 1))) :=
  h.set0 3 _ rfl rfl rfl (by omega) (by simp [RSt.step])
theorem RnG.setEnd (h : RnG B R br b1 b2 b3 fl en st ev w) (en' : Int) : RnG B R br b1 b2 b3 fl en' st ev (w.setCell ⟨br, 4, none⟩ (.int .i64 en')) :=
  h.set0 4 _ rfl rfl rfl (by omega) (by simp)

theorem fr_set0 (h : RnG B R br b1 b2 b3 fl en st ev w) (j : Nat) (u : Value) : Fr br b1 b2 ev ev w (w.setCell ⟨br, j, none⟩ u) :=
  have g := grow_set1 (w := w) (r := br) (j := j) (u := u)
  ⟨g.os, g.tape, g.output, g.size, fun k hk h0 _ _ _ => g.block k hk (by simpa using h0), Or.inl rfl⟩
theorem fr_set1 (h : RnG B R br b1 b2 b3 fl en st ev w) (j : Nat) (u : Value) : Fr br b1 b2 ev ev w (w.setCell ⟨b1, j, none⟩ u) :=
  have g := grow_set1 (w := w) (r := b1) (j := j) (u := u)
  ⟨g.os, g.tape, g.output, g.size, fun k hk _ h0 _ _ => g.block k hk (by simpa using h0), Or.inl rfl⟩
theorem fr_set2 (h : RnG B R br b1 b2 b3 fl en st ev w) (j : Nat) (u : Value) : Fr br b1 b2 ev ev w (w.setCell ⟨b2, j, none⟩ u) :=
  have g := grow_set1 (w := w) (r := b2) (j := j) (u := u)
  ⟨g.os, g.tape, g.output, g.size, fun k hk _ _ h0 _ => g.block k hk (by simpa using h0), Or.inl rfl⟩

theorem RnG.setVar (h : RnG B R br b1 b2 b3 fl en st ev w) (v x : Int) (hv : v.toNat < st.vars.length) : RnG B R br b1 b2 b3 fl en (st.setv v x) ev (w.setCell ⟨b1, v.toNat, none⟩ (.int .i64 x)) := by
  obtain ⟨a1, a2, a3, a4, a5, a6⟩ := h.apart
  refine ⟨?_, ?_, h.taken.other (Ne.symm a3), h.first.other a5, h.own.kept grow_set1 (Or.inr h.evA.2.1), fun k => frozen_set.trans (h.z0 k), fun k => frozen_set.trans (h.z1 k), fun k => frozen_set.trans (h.z2 k), h.apart, h.evA, h.lo, by simpa [World.setCell] using h.hi⟩
  · have := h.row.other (j := v.toNat) (v := .int .i64 x) a1
    simpa [RSt.setv] using this
  · have := h.vars.set (j := v.toNat) (v := .int .i64 x) (by simpa using hv)
    simpa [RSt.setv, intsV] using this

theorem RnG.setTaken (h : RnG B R br b1 b2 b3 fl en st ev w) (c : Nat) (x : Int) (hv : c < st.taken.length) : RnG B R br b1 b2 b3 fl en { st with taken := st.taken.set c x } ev (w.setCell ⟨b2, c, none⟩ (.int .i64 x)) := by
  obtain ⟨a1, a2, a3, a4, a5, a6⟩ := h.apart
  refine ⟨?_, h.vars.other a3, ?_, h.first.other a6, h.own.kept grow_set1 (Or.inr h.evA.2.2.1), fun k => frozen_set.trans (h.z0 k), fun k => frozen_set.trans (h.z1 k), fun k => frozen_set.trans (h.z2 k), h.apart, h.evA, h.lo, by simpa [World.setCell] using h.hi⟩
  · have := h.row.other (j := c) (v := .int .i64 x) a2
    simpa using this
  · have := h.taken.set (j := c) (v := .int .i64 x) (by simpa using hv)
    simpa [intsV] using this

/-- an event more: behind the append, ahead of the store. -/
theorem RnG.grown {ev' : Value} {w' : World} (h : RnG B R br b1 b2 b3 fl en st ev w) (e : Ev4) (hg : w.grownBy w' ev.ownBlock) (ho : w'.ownsRow B 56 4 ev' (st.ev.length + 1) (evCells st.ev ++ evCells [e])) (hat : ev'.ownBlock = ev.ownBlock ∨ ev'.ownBlock = some w.heap.size) :
    RnG B R br b1 b2 b3 fl en (st.tell e) ev' (w'.setCell ⟨br, 0, none⟩ ev') ∧ Fr br b1 b2 ev ev' w (w'.setCell ⟨br, 0, none⟩ ev') := by
  obtain ⟨a1, a2, a3, a4, a5, a6⟩ := h.apart
  obtain ⟨e1, e2, e3, e4⟩ := h.evA
  have hi := h.hi
  have hk : ∀ b, b < w.heap.size → ev.ownBlock ≠ some b → w'.heap[b]? = w.heap[b]? := fun b hb hne => hg.block b hb (fun hx => hne hx.symm)
  have hrow : ∀ (cs : List Value) (b : Nat), RowAt cs w b → b < w.heap.size → ev.ownBlock ≠ some b → RowAt cs w' b := fun cs b hr hb hne j u hu => (World.cell?_of_block (hk b hb hne)).trans (hr j u hu)
  have hne : ∀ b, b < w.heap.size → ev.ownBlock ≠ some b → ev'.ownBlock ≠ some b := fun b hb hx => by
    rcases hat with h1 | h1
    · rw [h1]; exact hx
    · rw [h1]; intro hy; injection hy; omega
  have hz : ∀ b k, b < w.heap.size → ev.ownBlock ≠ some b → w'.frozen? ⟨b, k, none⟩ = w.frozen? ⟨b, k, none⟩ := fun b k hb hx => World.frozen?_of_block (hk b hb hx)
  have hs := hg.size
  constructor
  · refine ⟨?_, (hrow _ _ h.vars hi.2.1 e2).other (Ne.symm a1), (hrow _ _ h.taken hi.2.2.1 e3).other (Ne.symm a2), (hrow _ _ h.first hi.2.2.2.1 e4).other a4, ?_, fun k => frozen_set.trans ((hz _ _ hi.1 e1).trans (h.z0 k)), fun k => frozen_set.trans ((hz _ _ hi.2.1 e2).trans (h.z1 k)), fun k => frozen_set.trans ((hz _ _ hi.2.2.1 e3).trans (h.z2 k)), h.apart, ⟨hne _ hi.1 e1, hne _ hi.2.1 e2, hne _ hi.2.2.1 e3, hne _ hi.2.2.2.1 e4⟩, h.lo, by simp [World.setCell]; omega⟩
    · have := (hrow _ _ h.row hi.1 e1).set (j := 0) (v := ev') (by simp)
      simpa [RSt.tell] using this
    · have hl : (st.tell e).ev.length = st.ev.length + 1 := by simp [RSt.tell]
      have hc : evCells (st.tell e).ev = evCells st.ev ++ evCells [e] := evCells_append _ _
      rw [hl, hc]
      exact ho.kept grow_set1 (Or.inr (hne _ hi.1 e1))
  · have g := grow_set1 (w := w') (r := br) (j := 0) (u := ev')
    refine ⟨g.os.trans hg.os, g.tape.trans hg.tape, g.output.trans hg.output, Nat.le_trans hg.size g.size, fun k hk2 h0 _ _ h3 => (g.block k (by omega) (by simpa using h0)).trans (hk k hk2 h3), ?_⟩
    rcases hat with h1 | h1
    · exact Or.inl h1
    · exact Or.inr fun k hx => by rw [h1] at hx; injection hx; omega
end

/-- numbers that are right. -/
structure NumOk (nv ni F : Nat) (st : RSt) : Prop where
  vl : st.vars.length = nv
  tl : st.taken.length = ni
  i32 : ∀ x ∈ st.vars, I32 x
  tk : ∀ x ∈ st.taken, 0 ≤ x ∧ x ≤ (st.steps : Int)
  el : st.ev.length ≤ st.steps
  sb : st.steps ≤ F
theorem NumOk.step {nv ni F : Nat} {st : RSt} (h : NumOk nv ni F st) (hs : st.steps < F) : NumOk nv ni F st.step :=
  ⟨h.vl, h.tl, h.i32, fun x hx => ⟨(h.tk x hx).1, by have := (h.tk x hx).2; simp [RSt.step]; omega⟩, Nat.le_succ_of_le h.el, hs⟩
theorem mem_set {l : List Int} {i : Nat} {x y : Int} (h : y ∈ l.set i x) : y = x ∨ y ∈ l := by
  rcases List.mem_or_eq_of_mem_set h with h | h
  · exact Or.inr h
  · exact Or.inl h
theorem NumOk.setv {nv ni F : Nat} {st : RSt} (h : NumOk nv ni F st) {v x : Int} (hx : I32 x) : NumOk nv ni F (st.setv v x) :=
  ⟨by simp [RSt.setv, h.vl], h.tl, fun y hy => by rcases mem_set hy with rfl | hy; exact hx; exact h.i32 y hy, h.tk, h.el, h.sb⟩
theorem NumOk.tell {nv ni F : Nat} {st : RSt} (h : NumOk nv ni F st) (e : Ev4) (hl : st.ev.length < st.steps) : NumOk nv ni F (st.tell e) :=
  ⟨h.vl, h.tl, h.i32, h.tk, by simp [RSt.tell]; omega, h.sb⟩
theorem NumOk.took {nv ni F : Nat} {st : RSt} (h : NumOk nv ni F st) (hs : st.steps < F) (c : Int) : NumOk nv ni F (st.step.took c) := by
  refine ⟨h.vl, by simp [RSt.took, RSt.step, h.tl], h.i32, fun y hy => ?_, Nat.le_succ_of_le h.el, hs⟩
  have hst : (st.step.took c).steps = st.steps + 1 := rfl
  rw [hst]
  rcases mem_set hy with rfl | hy
  · have : st.step.taken.getD c.toNat 0 = 0 ∨ st.step.taken.getD c.toNat 0 ∈ st.taken := by
      rw [List.getD_eq_getElem?_getD]
      cases hc : st.step.taken[c.toNat]? with
      | none => exact Or.inl rfl
      | some x => exact Or.inr (List.mem_of_getElem? hc)
    rcases this with hz | hz
    · rw [hz]; omega
    · have := h.tk _ hz; omega
  · have := h.tk y hy; omega
end Go.Proofs.Ytpbnmmgocpobcaa.Ex
/- How many commands there are. -/
namespace Go.Proofs.Ytpbnmmgocpobcaa.Ex
open Go.RowKit
set_option linter.unusedVariables false

theorem held2 {w w0 w1 : World} {a0 a1 : Addr} {v0 v1 : Value} (h : w0.cell? a0 = some v0 ∧ w0.cell? a1 = some v1 ∧ Below w.heap.size w w0) (hb : Below w0.heap.size w0 w1) :
    w1.cell? a0 = some v0 ∧ w1.cell? a1 = some v1 ∧ Below w.heap.size w w1 := ⟨cell_over hb _ _ h.1, cell_over hb _ _ h.2.1, over_trans h.2.2 hb⟩

set_option maxHeartbeats 2000000 in
set_option maxRecDepth 100000 in
theorem size_node (kd va ot ek en : Int) (xa : Option Addr) (xl xc : Nat) (aa : Option Addr) (al ac : Nat) (ta : Option Addr) (tl tc : Nat) (ea : Option Addr) (el ec : Nat) (n1 n2 : Int) (w : World) (h1 : 0 ≤ n1 ∧ n1 ≤ 100) (h2 : 0 ≤ n2 ∧ n2 ≤ 100)
    (KT : Hid (∀ W, Below w.heap.size w W → Calls Try.prog 30 #[.slice ta tl tc] W fun e w' => e = .returned (.int .i64 n1) ∧ Below W.heap.size W w'))
    (KE : Hid (∀ W, Below w.heap.size w W → Calls Try.prog 30 #[.slice ea el ec] W fun e w' => e = .returned (.int .i64 n2) ∧ Below W.heap.size W w')) :
    Calls Try.prog 33 #[.agg #[.int .i64 kd, .int .i64 va, .int .i64 ot, .int .i64 ek, .int .i64 en, .slice xa xl xc, .slice aa al ac, .slice ta tl tc, .slice ea el ec]] w fun e w' => e = .returned (.int .i64 (1 + n1 + n2)) ∧ Below w.heap.size w w' := by
  have hbel : Below w.heap.size w (w.alloc (.cells #[.int .i64 kd, .int .i64 va, .int .i64 ot, .int .i64 ek, .int .i64 en, .slice xa xl xc, .slice aa al ac, .slice ta tl tc, .slice ea el ec] 71)) := (Below.refl _ w).alloc (Nat.le_refl _) _
  have q7 : (w.alloc (.cells #[.int .i64 kd, .int .i64 va, .int .i64 ot, .int .i64 ek, .int .i64 en, .slice xa xl xc, .slice aa al ac, .slice ta tl tc, .slice ea el ec] 71)).cell? ⟨w.heap.size, 7, none⟩ = some (.slice ta tl tc) := by simp [go_sem]
  have q8 : (w.alloc (.cells #[.int .i64 kd, .int .i64 va, .int .i64 ot, .int .i64 ek, .int .i64 en, .slice xa xl xc, .slice aa al ac, .slice ta tl tc, .slice ea el ec] 71)).cell? ⟨w.heap.size, 8, none⟩ = some (.slice ea el ec) := by simp [go_sem]
  obtain ⟨a1, a2⟩ := h1
  obtain ⟨a3, a4⟩ := h2
  go_enter Try.func33, Try.ntmps33
  go_wp2_with fail
  go_region_held3 (fun W => W.cell? ⟨w.heap.size, 7, none⟩ = some (.slice ta tl tc) ∧ W.cell? ⟨w.heap.size, 8, none⟩ = some (.slice ea el ec) ∧ Below w.heap.size w W) (first | assumption | exact ⟨q7, q8, below_drewN hbel 1⟩ | exact held2 (by assumption) hbp | exact held2 (by assumption) hbq | fail) (first | (go_at_call_of 30 (Value.slice ta tl tc); refine (KT.out _ (by assumption : _ ∧ _ ∧ Below _ _ _).2.2).mono ?_; rintro e wp ⟨rfl, hbp⟩) | (go_at_call_of 30 (Value.slice ea el ec); refine (KE.out _ (by assumption : _ ∧ _ ∧ Below _ _ _).2.2).mono ?_; rintro e wq ⟨rfl, hbq⟩))
  obtain ⟨-, -, hB⟩ := (by assumption : _ ∧ _ ∧ Below _ _ _)
  have HW : Hid (IntKind.i64.wrap (IntKind.i64.wrap (1 + n1) + n2) = 1 + n1 + n2) := by
    show _ = _
    rw [IntWalk.i64_in (1 + n1) (by omega), IntWalk.i64_in _ (by omega)]
  clear q7 q8 hbel KT KE
  go_wp2_with fail
  go_ret
  refine ⟨?_, hB⟩
  first | rfl | (rw [← HW.out]; rfl)

theorem sC_arr (kd va ot ek en : Int) (xa : Option Addr) (xl xc : Nat) (aa : Option Addr) (al ac : Nat) (ta : Option Addr) (tl tc : Nat) (ea : Option Addr) (el ec : Nat) : (sC kd va ot ek en xa xl xc aa al ac ta tl tc ea el ec).toArray = #[.int .i64 kd, .int .i64 va, .int .i64 ot, .int .i64 ek, .int .i64 en, .slice xa xl xc, .slice aa al ac, .slice ta tl tc, .slice ea el ec] := rfl

/-- how many there are, if one knows of each of them. -/
def ManyOk (K k : Nat) : Prop := ∀ (v : Value) (l : List D) (w : World), StmtsAt w K k v l → cnts k l ≤ 100 → Calls Try.prog 30 #[v] w fun e w' => e = .returned (.int .i64 (cnts k l : Nat)) ∧ Below w.heap.size w w'
def SizeOk (K k : Nat) : Prop := ∀ (cs : List Value) (d : D) (w : World), RS w K k cs d → cntS k d ≤ 100 → Calls Try.prog 33 #[.agg cs.toArray] w fun e w' => e = .returned (.int .i64 (cntS k d : Nat)) ∧ Below w.heap.size w w'

theorem size_succ (K k : Nat) (h : ManyOk K k) : SizeOk K (k + 1) := by
  intro cs d w hr hc
  have hcn : cntS (k + 1) d = 1 + cnts k (sThen d) + cnts k (sElse d) := rfl
  obtain ⟨ek, en, xa, xl, xc, aa, ac, ta, tc, ea, ec, rfl, -, -, -, -, -, hT, hE, -, -, -⟩ := hr.form
  rw [hcn] at hc ⊢
  have := size_node (sKind d) (sVar d) (sOther d) ek en xa xl xc aa (sArgs d).length ac ta (sThen d).length tc ea (sElse d).length ec (cnts k (sThen d) : Nat) (cnts k (sElse d) : Nat) w (by omega) (by omega)
    (hide fun W hW => h _ _ W (hT.over hW) (by omega)) (hide fun W hW => h _ _ W (hE.over hW) (by omega))
  push_cast
  exact this

set_option maxHeartbeats 2000000 in
set_option maxRecDepth 100000 in
theorem many_of (K k : Nat) (h : SizeOk K k) : ManyOk K k := by
  intro v l w hl hc
  have hlen : l.length ≤ 9223372036854775807 := hl.1
  obtain ⟨ao, cap, rfl, hcc⟩ := hl.2
  have HC := hide hcc
  have HS := hide h
  have HCN := hide hc
  clear hcc hl h hc
  go_enter Try.func30, Try.ntmps30
  go_wp2_with fail
  go_loopw [3, 8] (fun c i wr => ∃ j : Nat, j ≤ l.length ∧ i = .int .i64 j ∧ c = .int .i64 (cnts k (l.take j) : Nat) ∧ Below w.heap.size w wr) (fun _ i _ => l.length - (intOf i).toNat)
  case atStart => exact ⟨0, Nat.zero_le _, rfl, by simp [cnts], Below.refl _ w⟩
  case round =>
    obtain ⟨j, hj, rfl, rfl, hB⟩ := hrel
    by_cases hjl : j < l.length
    · obtain ⟨b, off, rfl, hcl⟩ := HC.out (by rintro rfl; simp at hjl)
      obtain ⟨cs, hl9, hcs, hr⟩ := hcl j l[j] (List.getElem?_eq_getElem hjl)
      have htk := cnts_take (k := k) hjl
      have hle : cnts k (l.take (j + 1)) ≤ 100 := by
        have e1 : cnts k l = cnts k (l.take (j + 1)) + cnts k (l.drop (j + 1)) := by
          unfold cnts
          rw [← List.sum_append, ← List.map_append, List.take_append_drop]
        have := HCN.out
        omega
      obtain ⟨k', rfl⟩ : ∃ k', k = k' + 1 := by
        cases k with
        | zero => exact hr.elim
        | succ k => exact ⟨k, rfl⟩
      have KZ := hide fun W (hW : Below w.heap.size w W) => HS.out cs l[j] W (RS.mono (cell_over hW) _ _ _ _ (Nat.le_refl _) hr) (by omega)
      obtain ⟨ek, en, xa, xl, xc, aa, ac, ta, tc, ea, ec, hcse, -, -, -, -, -, -, -, -, -, -⟩ := hr.form
      subst hcse
      obtain ⟨kd, hkd⟩ : ∃ q, q = sKind l[j] := ⟨_, rfl⟩
      obtain ⟨va, hva⟩ : ∃ q, q = sVar l[j] := ⟨_, rfl⟩
      obtain ⟨ot, hot⟩ : ∃ q, q = sOther l[j] := ⟨_, rfl⟩
      obtain ⟨al, hal⟩ : ∃ q, q = (sArgs l[j]).length := ⟨_, rfl⟩
      obtain ⟨tl, htl⟩ : ∃ q, q = (sThen l[j]).length := ⟨_, rfl⟩
      obtain ⟨el, hel⟩ : ∃ q, q = (sElse l[j]).length := ⟨_, rfl⟩
      rw [← hkd, ← hva, ← hot, ← hal, ← htl, ← hel] at hcs KZ
      obtain ⟨M, hM⟩ : ∃ M : Nat, M = cnts (k' + 1) (l.take j) := ⟨_, rfl⟩
      obtain ⟨N, hN⟩ : ∃ N : Nat, N = cntS (k' + 1) l[j] := ⟨_, rfl⟩
      rw [← hM, ← hN] at htk
      rw [← hN] at KZ
      rw [← hM]
      have HTK := hide htk
      have hMN : M + N ≤ 100 := by omega
      have q0 : wr.cell? ⟨b, off + j * 9, none⟩ = _ := cell_over hB _ _ (hcs 0 _ rfl)
      have q1 := cell_over hB _ _ (hcs 1 _ rfl)
      have q2 := cell_over hB _ _ (hcs 2 _ rfl)
      have q3 := cell_over hB _ _ (hcs 3 _ rfl)
      have q4 := cell_over hB _ _ (hcs 4 _ rfl)
      have q5 := cell_over hB _ _ (hcs 5 _ rfl)
      have q6 := cell_over hB _ _ (hcs 6 _ rfl)
      have q7 := cell_over hB _ _ (hcs 7 _ rfl)
      have q8 := cell_over hB _ _ (hcs 8 _ rfl)
      have hba : Below wr.heap.size wr (wr.alloc (.cells #[.int .i64 kd, .int .i64 va, .int .i64 ot, .int .i64 ek, .int .i64 en, .slice xa xl xc, .slice aa al ac, .slice ta tl tc, .slice ea el ec] 71)) := (Below.refl _ wr).alloc (Nat.le_refl _) _
      have hBa := hB.trans (hba.mono hB.size)
      have KZ' := hide (KZ.out _ hBa)
      clear hcs hcl hr hl9 hkd hva hot hal htl hel hM hN htk hle KZ HS
      go_wp2_with fail
      refine (KZ'.out).mono ?_
      rintro e w1 ⟨rfl, hb1⟩
      have hB1 := hBa.trans (hb1.mono hBa.size)
      clear KZ' hb1 hBa hba q0 q1 q2 q3 q4 q5 q6 q7 q8 hB
      go_wp2_with fail
      refine ⟨⟨j + 1, by omega, by go_num, ?_, hB1⟩, by simp [intOf]; omega⟩
      rw [HTK.out]
      simp
    · have hd : l.take j = l := List.take_of_length_le (by omega)
      rw [hd]
      go_wp2_with fail
      go_ret
      exact ⟨rfl, hB⟩

theorem many_any (K : Nat) : ∀ k, ManyOk K k
  | 0 => many_of K 0 (fun cs d w hr _ => hr.elim)
  | k + 1 => many_of K (k + 1) (size_succ K k (many_any K k))
theorem size_any (K : Nat) : ∀ k, SizeOk K k
  | 0 => fun cs d w hr _ => hr.elim
  | k + 1 => size_succ K k (many_any K k)
end Go.Proofs.Ytpbnmmgocpobcaa.Ex
