/- What is given up is caught; scope.Check of any program. -/
import Derived.Test.YtcbbjjenkommeaaM03
import Derived.Recover
import Derived.Defers
import Derived.Laws.CopyOwn
import Derived.Deep.RegionHeld3
import Derived.Laws.EntriesVeiled
import Derived.Maps.AppendAt
namespace Go.Proofs.Ytcbbjjenkommeaa.Ex
open Go.RowKit
set_option linter.unusedVariables false
theorem assertW (v : Value) (w : World) : (Instr.typeAssert (.iface 162 v) 20 162 false).run Try.prog w = .ok v w := by
  simp [Instr.typeAssert, run_underlying Try.underlying162, go_sem, Result.andThen]

set_option maxHeartbeats 1000000 in
theorem catch_gave (B : Nat) (x y a e : Int) (older : List PanicEntry) (w : World) (hB : B + 2 ≤ w.heap.size)
    (c0 : w.cell? ⟨B, 0, none⟩ = some (.int .i64 x)) (c1 : w.cell? ⟨B + 1, 0, none⟩ = some (.int .i64 y))
    (f0 : w.frozen? ⟨B, 0, none⟩ = false) (f1 : w.frozen? ⟨B + 1, 0, none⟩ = false) :
    CallsD Try.prog 106 #[.pointer (some ⟨B, 0, none⟩), .pointer (some ⟨B + 1, 0, none⟩)] (.panicking ({ v := .iface 162 (.agg #[.int .i64 a, .int .i64 e]), recovered := false } :: older)) w fun en u' w' =>
      en = .returned (.tuple #[]) ∧ u' = .panicking ({ v := .iface 162 (.agg #[.int .i64 a, .int .i64 e]), recovered := true } :: older) ∧
      w'.cell? ⟨B, 0, none⟩ = some (.int .i64 a) ∧ w'.cell? ⟨B + 1, 0, none⟩ = some (.int .i64 e) ∧ Below B w w' := by
  have hta := assertW
  refine callsD_of_wpS Try.func106 rfl fun c₀ cs hu => ?_
  apply wpS_seq
  apply wpS_region
  simp [wpOpsS, go_sem, recoverD, hu, Try.ntmps106, Exit.thenS]
  refine wpS_of_wp ?_
  change Code.wp Try.prog _ _ { tmps := #[.pointer (some ⟨B, 0, none⟩), .pointer (some ⟨B + 1, 0, none⟩), .iface 162 (.agg #[.int .i64 a, .int .i64 e]), undef, .iface 162 (.agg #[.int .i64 a, .int .i64 e]), undef, undef, undef, undef, undef, undef, undef, undef], defers := [] } w
  go_wp2
  have k1 : B < w.heap.size := by omega
  have k2 : B + 1 < w.heap.size := by omega
  go_region
  go_wp2
  refine ⟨rfl, _, by cases c₀; simp_all, .tuple #[], by simp [results, Try.results106], rfl, rfl, ?_⟩
  refine ⟨by simp [go_sem, k1, c0], by simp [go_sem, k2, c1], ?_⟩
  exact (((((Below.refl B w).setCell (by simp) _).setCell (by simp) _)).alloc (by simp [World.setCell]; omega) _).drew
/-- the value of one who goes through commands: a program, and levels. -/
structure WC where
  n : Nat
  ga : Option Addr
  gn : Nat
  gc : Nat
  sa : Option Addr
  sn : Nat
  sc : Nat
  ya : Option Addr
  yn : Nat
  yc : Nat
  oa : Option Addr
  on : Nat
  oc : Nat
  va : Option Addr
  vn : Nat
  vc : Nat
  fa : Option Addr
  fn : Nat
  fc : Nat
  ba : Option Addr
  bn : Nat
  bc : Nat
  la : Option Addr
  ln : Nat
  lc : Nat
  ka : Option Addr
  kn : Nat
  kc : Nat
abbrev WC.v (c : WC) : Value := .agg #[.int .i64 (c.n : Int), .slice c.ga c.gn c.gc, .slice c.sa c.sn c.sc, .slice c.ya c.yn c.yc, .slice c.oa c.on c.oc, .slice c.va c.vn c.vc, .slice c.fa c.fn c.fc, .slice c.ba c.bn c.bc, .slice c.la c.ln c.lc, .slice c.ka c.kn c.kc]
abbrev WC.cs (c : WC) : List Value := [.int .i64 (c.n : Int), .slice c.ga c.gn c.gc, .slice c.sa c.sn c.sc, .slice c.ya c.yn c.yc, .slice c.oa c.on c.oc, .slice c.va c.vn c.vc, .slice c.fa c.fn c.fc, .slice c.ba c.bn c.bc, .slice c.la c.ln c.lc, .slice c.ka c.kn c.kc]

/-- all is kept, but some blocks. -/
structure FrW (X : World → Nat → Prop) (W W' : World) : Prop where
  os : W'.os = W.os
  tape : W'.tape = W.tape
  output : W'.output = W.output
  size : W.heap.size ≤ W'.heap.size
  block : ∀ k, k < W.heap.size → ¬ X W k → W'.heap[k]? = W.heap[k]?
  mov : ∀ k, k < W.heap.size → X W' k → X W k
theorem FrW.trans {X : World → Nat → Prop} {A B C : World} (h : FrW X A B) (k : FrW X B C) : FrW X A C :=
  ⟨k.os.trans h.os, k.tape.trans h.tape, k.output.trans h.output, Nat.le_trans h.size k.size, fun i hi hx => (k.block i (Nat.lt_of_lt_of_le hi h.size) (fun hh => hx (h.mov i hi hh))).trans (h.block i hi hx), fun i hi hx => h.mov i hi (k.mov i (Nat.lt_of_lt_of_le hi h.size) hx)⟩
/-- blocks that may turn: they lie there already, and what is made makes none. -/
structure XOk (X : World → Nat → Prop) : Prop where
  below : ∀ W W', Below W.heap.size W W' → ∀ k, X W' k → X W k
theorem FrW.of_below {X : World → Nat → Prop} (hX : XOk X) {A B : World} (h : Below A.heap.size A B) : FrW X A B := ⟨h.os, h.tape, h.output, h.size, fun k hk _ => h.block k hk, fun k _ hx => hX.below A B h k hx⟩
theorem FrW.refl {X : World → Nat → Prop} (A : World) : FrW X A A := ⟨rfl, rfl, rfl, Nat.le_refl _, fun _ _ _ => rfl, fun _ _ h => h⟩
theorem FrW.cell {X : World → Nat → Prop} {A B : World} (h : FrW X A B) {b j : Nat} {u : Value} (hc : A.cell? ⟨b, j, none⟩ = some u) (hx : ¬ X A b) : B.cell? ⟨b, j, none⟩ = some u :=
  (World.cell?_of_block (h.block b (World.block_lt_of_cell? A _ hc) hx)).trans hc
theorem FrW.frozen {X : World → Nat → Prop} {A B : World} (h : FrW X A B) {b j : Nat} (hb : b < A.heap.size) (hx : ¬ X A b) : B.frozen? ⟨b, j, none⟩ = A.frozen? ⟨b, j, none⟩ := World.frozen?_of_block (h.block b hb hx)
theorem FrW.row {X : World → Nat → Prop} {A B : World} (h : FrW X A B) {b : Nat} {cs : List Value} (hc : RowAt cs A b) (hx : ¬ X A b) : RowAt cs B b := fun j u hu => h.cell (hc j u hu) hx

/-- rows that lie elsewhere. -/
def OffV (P : Nat → Prop) (v : Value) : Prop := ∃ x y, v = .agg #[x, y] ∧ (∀ a n c, x = .slice (some a) n c → ¬ P a.block) ∧ ∀ a n c, y = .slice (some a) n c → ¬ P a.block
/-- a level that is kept. -/
structure LevO (n : Nat) (X : World → Nat → Prop) (W : World) (v : Value) (l : Lev) : Prop where
  at_ : LevAt W v l
  len : l.len n
  off : OffV (X W) v
theorem isBools_fr {X : World → Nat → Prop} {A B : World} {v : Value} {l : List Bool} (h : IsBools A v l) (hf : FrW X A B) (hx : ∀ a n c, v = .slice (some a) n c → ¬ X A a.block) : IsBools B v l := by
  obtain ⟨ao, cap, hv, hel⟩ := h
  refine ⟨ao, cap, hv, fun hne => ?_⟩
  obtain ⟨b, off, hao, hel⟩ := hel hne
  refine ⟨b, off, hao, fun i hi => hf.cell (hel i hi) ?_⟩
  exact hx ⟨b, off, none⟩ l.length cap (by rw [hv, hao])
theorem LevO.keep {n : Nat} {X : World → Nat → Prop} {A B : World} {v : Value} {l : Lev} (h1 : 1 ≤ n) (h : LevO n X A v l) (hf : FrW X A B) : LevO n X B v l := by
  obtain ⟨x, y, hv, hx, hy⟩ := h.off
  obtain ⟨x', y', hv', bx, by'⟩ := h.at_
  rw [hv] at hv'
  simp at hv'
  obtain ⟨rfl, rfl⟩ := hv'
  have lt : ∀ (v : Value) (l : List Bool), IsBools A v l → l.length = n → ∀ a m c, v = .slice (some a) m c → a.block < A.heap.size := by
    intro v l hb hl a m c e
    obtain ⟨ao, cap, hv, hel⟩ := hb
    obtain ⟨b, off, hao, hel⟩ := hel (by rintro rfl; simp at hl; omega)
    rw [hv, hao] at e
    injection e with e1
    injection e1 with e1
    rw [← e1]
    exact World.block_lt_of_cell? A _ (hel 0 (by omega))
  refine ⟨⟨x, y, hv, isBools_fr bx hf hx, isBools_fr by' hf hy⟩, h.len, x, y, hv, fun a m c e hh => hx a m c e (hf.mov _ (lt _ _ bx h.len.1 a m c e) hh), fun a m c e hh => hy a m c e (hf.mov _ (lt _ _ by' h.len.2 a m c e) hh)⟩
theorem LevO.over {n : Nat} {X : World → Nat → Prop} (hX : XOk X) {A B : World} {v : Value} {l : Lev} (h : LevO n X A v l) (hb : Below A.heap.size A B) : LevO n X B v l := by
  obtain ⟨x, y, hv, hx, hy⟩ := h.off
  exact ⟨levAt_over h.at_ hb, h.len, x, y, hv, fun a m c e hh => hx a m c e (hX.below A B hb _ hh), fun a m c e hh => hy a m c e (hX.below A B hb _ hh)⟩
/-- levels in memory that are kept. -/
def IsLevsO (n : Nat) (X : World → Nat → Prop) (w : World) (v : Value) (ls : List Lev) : Prop :=
  ∃ ao cap, v = .slice ao ls.length cap ∧ (ls ≠ [] → ∃ b off, ao = some ⟨b, off, none⟩ ∧ ∀ i (h : i < ls.length), ∃ rv wv, w.cell? ⟨b, off + i * 2, none⟩ = some rv ∧ w.cell? ⟨b, off + i * 2 + 1, none⟩ = some wv ∧ LevO n X w (.agg #[rv, wv]) ls[i])
theorem IsLevsO.len {n : Nat} {X : World → Nat → Prop} {w : World} {v : Value} {ls : List Lev} (h : IsLevsO n X w v ls) : ∀ x ∈ ls, x.len n := by
  intro x hx
  obtain ⟨i, hi, rfl⟩ := List.getElem_of_mem hx
  obtain ⟨ao, cap, hv, hel⟩ := h
  obtain ⟨b, off, hao, hel⟩ := hel (by rintro rfl; simp at hi)
  obtain ⟨rv, wv, -, -, h3⟩ := hel i hi
  exact h3.len
theorem IsLevsO.over {n : Nat} {X : World → Nat → Prop} (hX : XOk X) {w w' : World} {v : Value} {ls : List Lev} (h : IsLevsO n X w v ls) (hb : Below w.heap.size w w') : IsLevsO n X w' v ls := by
  obtain ⟨ao, cap, hv, hel⟩ := h
  refine ⟨ao, cap, hv, fun hne => ?_⟩
  obtain ⟨b, off, hao, hel⟩ := hel hne
  refine ⟨b, off, hao, fun i hi => ?_⟩
  obtain ⟨rv, wv, h1, h2, h3⟩ := hel i hi
  exact ⟨rv, wv, cell_over hb _ _ h1, cell_over hb _ _ h2, h3.over hX hb⟩
section
variable {σ : Type} (c : WC) (w0 : World) (K nv ni no : Nat) (fs : List FnD) (gs : List (Int × Int)) (lev flev : σ → List Lev) (Inv : σ → World → Prop) (X : World → Nat → Prop)
end

section
variable {σ : Type} {c : WC} {w0 : World} {K nv ni no : Nat} {fs : List FnD} {gs : List (Int × Int)} {lev flev : σ → List Lev} {Inv : σ → World → Prop} {X : World → Nat → Prop}
theorem LevO.form {n : Nat} {W : World} {v : Value} {l : Lev} (h : LevO n X W v l) : ∃ p1 q1 r1 p2 q2 r2, v = .agg #[.slice p1 q1 r1, .slice p2 q2 r2] := by
  obtain ⟨x, y, hv, -⟩ := h.at_
  have h2 := h.at_
  rw [hv] at h2
  obtain ⟨p1, q1, r1, p2, q2, r2, rfl, rfl⟩ := lev_slices h2
  exact ⟨_, _, _, _, _, _, hv⟩

end
theorem heap_set_other {W : World} {b g o : Nat} (h : b ≠ g) (u : Value) : (W.setCell ⟨b, o, none⟩ u).heap[g]? = W.heap[g]? := by
  simp [World.setCell, Array.getElem?_modify, h]
section
variable {σ : Type} {c : WC} {w0 : World} {K kf nv ni no : Nat} {fs : List FnD} {gs : List (Int × Int)} {lev flev : σ → List Lev} {Inv : σ → World → Prop} {X : World → Nat → Prop}

end
section
variable {σ : Type} (c : WC) (w0 : World) (nv : Nat) (fs : List FnD) (Inv : σ → World → Prop) (X : World → Nat → Prop)
/-- boxes that are made for all commands. -/
structure AskBox (s : Nat) (G : FuncId) (d1 d2 : Value) (W : World) : Prop where
  row : RowAt c.cs W s
  flow : W.cell? ⟨s + 1, 0, none⟩ = some (.func (.func G) #[] #[d1, d2])
  toVar : W.cell? ⟨s + 1 + 1, 0, none⟩ = some (.func (.func 75) #[] #[.pointer (some ⟨s, 0, none⟩), .pointer (some ⟨s + 1, 0, none⟩)])
  x0 : ¬ X W s
  x1 : ¬ X W (s + 1)
  x2 : ¬ X W (s + 1 + 1)
end
section
variable {σ : Type} {c : WC} {w0 : World} {K nv ni no : Nat} {fs : List FnD} {gs : List (Int × Int)} {lev flev : σ → List Lev} {Inv : σ → World → Prop} {X : World → Nat → Prop} {s : Nat} {G : FuncId} {d1 d2 : Value}
theorem AskBox.over (hX : XOk X) {W W' : World} (h : AskBox c X s G d1 d2 W) (hb : Below W.heap.size W W') : AskBox c X s G d1 d2 W' :=
  ⟨h.row.over hb, cell_over hb _ _ h.flow, cell_over hb _ _ h.toVar, fun x => h.x0 (hX.below _ _ hb _ x), fun x => h.x1 (hX.below _ _ hb _ x), fun x => h.x2 (hX.below _ _ hb _ x)⟩
theorem AskBox.keep {W W' : World} (h : AskBox c X s G d1 d2 W) (hf : FrW X W W') : AskBox c X s G d1 d2 W' :=
  ⟨hf.row h.row h.x0, hf.cell h.flow h.x1, hf.cell h.toVar h.x2, fun x => h.x0 (hf.mov _ (World.block_lt_of_cell? W _ (h.row 0 _ rfl)) x), fun x => h.x1 (hf.mov _ (World.block_lt_of_cell? W _ h.flow) x), fun x => h.x2 (hf.mov _ (World.block_lt_of_cell? W _ h.toVar) x)⟩

end
section
variable {σ : Type} {c : WC} {w0 : World} {K nv ni no : Nat} {fs : List FnD} {gs : List (Int × Int)} {lev flev : σ → List Lev} {Inv : σ → World → Prop} {X : World → Nat → Prop} {s : Nat} {G : FuncId} {d1 d2 : Value}

end
section
variable {σ : Type} {c : WC} {w0 : World} {K nv ni no : Nat} {fs : List FnD} {gs : List (Int × Int)} {lev flev : σ → List Lev} {Inv : σ → World → Prop} {X : World → Nat → Prop} {s : Nat} {G : FuncId} {d1 d2 : Value}

end
section
variable {σ : Type} {c : WC} {w0 : World} {K nv ni no : Nat} {fs : List FnD} {gs : List (Int × Int)} {lev flev : σ → List Lev} {Inv : σ → World → Prop} {X : World → Nat → Prop} {s : Nat} {G : FuncId} {d1 d2 : Value}

end
section
variable {σ : Type} {c : WC} {w0 : World} {K nv ni no : Nat} {fs : List FnD} {gs : List (Int × Int)} {lev flev : σ → List Lev} {Inv : σ → World → Prop} {X : World → Nat → Prop} {s : Nat} {G : FuncId} {d1 d2 : Value}

end
/-- a row of bools. -/
def T4 (W : World) (v : Value) : Prop := ∀ a n c, v = .slice (some a) n c → ∃ cur fr, W.heap[a.block]? = some (.cells cur 4 fr)
/-- a level whose rows are rows of bools. -/
structure LevT (n : Nat) (W : World) (v : Value) (l : Lev) : Prop where
  at_ : LevAt W v l
  len : l.len n
  ty : ∃ x y, v = .agg #[x, y] ∧ T4 W x ∧ T4 W y
theorem t4_block {W W' : World} {v : Value} (h : T4 W v) (hb : ∀ (k : Nat) (cur : Array Value) (fr : Nat × Nat), W.heap[k]? = some (Obj.cells cur 4 fr) → W'.heap[k]? = W.heap[k]?) : T4 W' v := by
  intro a n c hv
  obtain ⟨cur, fr, he⟩ := h a n c hv
  exact ⟨cur, fr, (hb _ _ _ he).trans he⟩
/-- kept, if rows of bools are. -/
theorem LevT.keep {n : Nat} {W W' : World} {v : Value} {l : Lev} (h1 : 1 ≤ n) (h : LevT n W v l) (hb : ∀ (k : Nat) (cur : Array Value) (fr : Nat × Nat), W.heap[k]? = some (Obj.cells cur 4 fr) → W'.heap[k]? = W.heap[k]?) : LevT n W' v l := by
  obtain ⟨x, y, hv, tx, ty⟩ := h.ty
  obtain ⟨x', y', hv', bx, by'⟩ := h.at_
  rw [hv] at hv'
  simp at hv'
  obtain ⟨rfl, rfl⟩ := hv'
  have key : ∀ (v : Value) (l : List Bool), IsBools W v l → l.length = n → T4 W v → IsBools W' v l := by
    intro v l hbo hl ht
    obtain ⟨ao, cap, hv, hel⟩ := hbo
    refine ⟨ao, cap, hv, fun hne => ?_⟩
    obtain ⟨b, off, hao, hel⟩ := hel hne
    obtain ⟨cur, fr, he⟩ := ht ⟨b, off, none⟩ l.length cap (by rw [hv, hao])
    have e : W'.heap[b]? = W.heap[b]? := hb b cur fr he
    exact ⟨b, off, hao, fun i hi => (World.cell?_of_block (a := ⟨b, off + i, none⟩) e).trans (hel i hi)⟩
  exact ⟨⟨x, y, hv, key _ _ bx h.len.1 tx, key _ _ by' h.len.2 ty⟩, h.len, x, y, hv, t4_block tx hb, t4_block ty hb⟩
theorem LevT.over {n : Nat} {W W' : World} {v : Value} {l : Lev} (h1 : 1 ≤ n) (h : LevT n W v l) (hb : Below W.heap.size W W') : LevT n W' v l :=
  h.keep h1 fun k cur fr hk => hb.block k (Array.getElem?_eq_some_iff.1 hk).1

/-- a row of one's own that holds levels. -/
def OwnLevs (n B : Nat) (W : World) (v : Value) (Ls : List Lev) : Prop :=
  ∃ us : List Value, W.ownsRow B 62 2 v Ls.length us ∧ ∀ i (h : i < Ls.length), ∃ x y, us[i * 2]? = some x ∧ us[i * 2 + 1]? = some y ∧ LevT n W (.agg #[x, y]) Ls[i]
theorem ownLevs_ne {n B : Nat} {W : World} {v : Value} {Ls : List Lev} (h : OwnLevs n B W v Ls) : ∀ g, v.ownBlock = some g → B ≤ g ∧ ∃ cur fr, W.heap[g]? = some (.cells cur 62 fr) := by
  obtain ⟨us, ho, -⟩ := h
  intro g hg
  rcases ho.2 with ⟨h, -⟩ | ⟨g', cap, cur, h, hb, hh, -⟩
  · rw [h] at hg; cases hg
  · rw [h] at hg
    simp [Value.ownBlock] at hg
    subst hg
    exact ⟨hb, _, _, hh⟩
/-- kept, if its block is, and rows of bools are. -/
theorem OwnLevs.keep {n B : Nat} {W W' : World} {v : Value} {Ls : List Lev} (h1 : 1 ≤ n) (h : OwnLevs n B W v Ls) {row : Option Nat} (hg : W.grownBy W' row) (ha : v.ownBlock = none ∨ v.ownBlock ≠ row) (hr : ∀ g, row = some g → ∀ (cur : Array Value) (fr : Nat × Nat), W.heap[g]? ≠ some (Obj.cells cur 4 fr)) : OwnLevs n B W' v Ls := by
  obtain ⟨us, ho, hel⟩ := h
  refine ⟨us, ho.kept hg ha, fun i hi => ?_⟩
  obtain ⟨x, y, e0, e1, hl⟩ := hel i hi
  exact ⟨x, y, e0, e1, hl.keep h1 fun k cur fr hk => hg.block k (Array.getElem?_eq_some_iff.1 hk).1 (fun e => hr k e.symm cur fr hk)⟩
theorem OwnLevs.over {n B : Nat} {W W' : World} {v : Value} {Ls : List Lev} (h1 : 1 ≤ n) (h : OwnLevs n B W v Ls) (hb : Below W.heap.size W W') : OwnLevs n B W' v Ls :=
  h.keep h1 (row := none) ⟨hb.os, hb.tape, hb.output, hb.size, fun k hk _ => hb.block k hk⟩ (by cases v.ownBlock <;> simp) (fun g e => by cases e)
/-- one level more. -/
theorem OwnLevs.snoc {n B : Nat} {W W' : World} {v v' : Value} {Ls : List Lev} {x y : Value} {l : Lev} (h1 : 1 ≤ n) (h : OwnLevs n B W v Ls) (us : List Value) (ho : W.ownsRow B 62 2 v Ls.length us) (hel : ∀ i (h : i < Ls.length), ∃ x y, us[i * 2]? = some x ∧ us[i * 2 + 1]? = some y ∧ LevT n W (.agg #[x, y]) Ls[i]) (hl : LevT n W (.agg #[x, y]) l)
    (ho' : W'.ownsRow B 62 2 v' (Ls.length + 1) (us ++ [x, y])) (hg : W.grownBy W' v.ownBlock) : OwnLevs n B W' v' (Ls ++ [l]) := by
  have hk : ∀ (k : Nat) (cur : Array Value) (fr : Nat × Nat), W.heap[k]? = some (Obj.cells cur 4 fr) → W'.heap[k]? = W.heap[k]? := fun k cur fr hk => hg.block k (Array.getElem?_eq_some_iff.1 hk).1 (fun e => by
    obtain ⟨-, cur', fr', he⟩ := ownLevs_ne h k e.symm
    rw [hk] at he
    injection he with he
    injection he with e1 e2 e3
    exact absurd e2 (by decide))
  have hus : us.length = Ls.length * 2 := ho.1
  refine ⟨us ++ [x, y], by simpa using ho', fun i hi => ?_⟩
  by_cases hlt : i < Ls.length
  · obtain ⟨x', y', e0, e1, ht⟩ := hel i hlt
    refine ⟨x', y', ?_, ?_, ?_⟩
    · rw [List.getElem?_append_left (by omega)]; exact e0
    · rw [List.getElem?_append_left (by omega)]; exact e1
    · rw [List.getElem_append_left hlt]; exact ht.keep h1 hk
  · have hi2 : i = Ls.length := by simp at hi; omega
    subst hi2
    refine ⟨x, y, ?_, ?_, ?_⟩
    · rw [List.getElem?_append_right (by omega)]; simp [hus]
    · rw [List.getElem?_append_right (by omega)]
      have : Ls.length * 2 + 1 - us.length = 1 := by omega
      rw [this]; rfl
    · simp; exact hl.keep h1 hk
/-- a walker's box and its levels. -/
structure LeastI (n B bw : Nat) (P : List Value) (Ls Fs : List Lev) (v k : Value) (W : World) : Prop where
  row : RowAt (P ++ [v, k]) W bw
  fz : ∀ j, W.frozen? ⟨bw, j, none⟩ = false
  vs : OwnLevs n B W v Ls
  fs : OwnLevs n B W k Fs
  ap : v.ownBlock = none ∨ v.ownBlock ≠ k.ownBlock
  ap2 : v.ownBlock ≠ some bw ∧ k.ownBlock ≠ some bw
  ty : ∃ cur fr, W.heap[bw]? = some (Obj.cells cur 88 fr)
  lo : B ≤ bw ∧ bw < W.heap.size
theorem LeastI.over {n B bw : Nat} {P : List Value} {Ls Fs : List Lev} {v k : Value} {W W' : World} (h1 : 1 ≤ n) (h : LeastI n B bw P Ls Fs v k W) (hb : Below W.heap.size W W') : LeastI n B bw P Ls Fs v k W' := by
  refine ⟨h.row.over hb, fun j => ((bcell hb).2 _ _ h.lo.2).trans (h.fz j), h.vs.over h1 hb, h.fs.over h1 hb, h.ap, h.ap2, ?_, h.lo.1, Nat.lt_of_lt_of_le h.lo.2 hb.size⟩
  obtain ⟨cur, fr, he⟩ := h.ty
  exact ⟨cur, fr, (hb.block _ h.lo.2).trans he⟩
theorem grow_cell {w : World} {b j : Nat} {u : Value} : w.grownBy (w.setCell ⟨b, j, none⟩ u) (some b) :=
  ⟨rfl, rfl, rfl, by simp [World.setCell], fun k hk hne => heap_set_other (fun e => hne (by rw [e])) u⟩
/-- no row of bools. -/
def NotB (W : World) (b : Nat) : Prop := ∀ (cur : Array Value) (fr : Nat × Nat), W.heap[b]? ≠ some (Obj.cells cur 4 fr)
theorem NotB.set {W : World} {b b' j : Nat} {u : Value} (h : NotB W b) : NotB (W.setCell ⟨b', j, none⟩ u) b := by
  intro cur fr he
  by_cases hb : b' = b
  · subst hb
    simp only [World.setCell, Array.getElem?_modify, if_true] at he
    cases ho : W.heap[b']? with
    | none => rw [ho] at he; simp at he
    | some o =>
      rw [ho] at he
      cases o with
      | cells c e f =>
        simp at he
        obtain ⟨-, rfl, -⟩ := he
        exact h _ _ ho
      | _ => simp at he
  · rw [heap_set_other hb] at he
    exact h cur fr he
theorem LeastI.box {n B bw : Nat} {P : List Value} {Ls Fs : List Lev} {v k : Value} {W : World} {b j : Nat} {u : Value} (h1 : 1 ≤ n) (h : LeastI n B bw P Ls Fs v k W) (hb : b ≠ bw) (hv : v.ownBlock ≠ some b) (hk : k.ownBlock ≠ some b) (hn : NotB W b) : LeastI n B bw P Ls Fs v k (W.setCell ⟨b, j, none⟩ u) := by
  have hbw : (W.setCell ⟨b, j, none⟩ u).heap[bw]? = W.heap[bw]? := heap_set_other hb u
  refine ⟨fun i x hx => (World.cell?_of_block (a := ⟨bw, i, none⟩) hbw).trans (h.row i x hx), fun i => (World.frozen?_of_block (a := ⟨bw, i, none⟩) hbw).trans (h.fz i), h.vs.keep h1 grow_cell (Or.inr hv) (fun g e => by injection e with e; subst e; exact hn), h.fs.keep h1 grow_cell (Or.inr hk) (fun g e => by injection e with e; subst e; exact hn), h.ap, h.ap2, ?_, h.lo.1, by simpa [World.setCell] using h.lo.2⟩
  obtain ⟨c, f, e⟩ := h.ty
  exact ⟨c, f, hbw.trans e⟩
theorem NotB.over {W W' : World} {b : Nat} (h : NotB W b) (hb : Below W.heap.size W W') (hlt : b < W.heap.size) : NotB W' b := fun cur fr he => h cur fr ((hb.block b hlt) ▸ he)
/-- blocks that turn while levels are inferred. -/
def XI (c : WC) (bm : Nat) : World → Nat → Prop := fun _ k => (∃ a, c.la = some a ∧ k = a.block) ∨ (∃ a, c.ka = some a ∧ k = a.block) ∨ k = bm
theorem xiOk (c : WC) (bm : Nat) : XOk (XI c bm) := ⟨fun _ _ _ _ h => h⟩
/-- where all lies. -/
structure InfC (c : WC) (w0 : World) (bw bm : Nat) : Prop where
  la : ∀ a, c.la = some a → a.off = 0 ∧ a.spot = none ∧ w0.heap.size ≤ a.block ∧ a.block ≠ bw ∧ a.block ≠ bm
  ka : ∀ a, c.ka = some a → a.off = 0 ∧ a.spot = none ∧ w0.heap.size ≤ a.block ∧ a.block ≠ bw ∧ a.block ≠ bm
  lk : ∀ a b, c.la = some a → c.ka = some b → a.block ≠ b.block
  m : w0.heap.size ≤ bm ∧ bw ≠ bm
structure InfI (c : WC) (w0 : World) (nv nf bw bm : Nat) (st : ISt) (W : World) : Prop where
  below : Below w0.heap.size w0 W
  vs : IsLevsO c.n (XI c bm) W (.slice c.la c.ln c.lc) st.vs
  fs : IsLevsO c.n (XI c bm) W (.slice c.ka c.kn c.kc) st.fs
  lv : st.vs.length = nv
  lf : st.fs.length = nf
  more : W.cell? ⟨bm, 0, none⟩ = some (.bool st.more)
  mz : W.frozen? ⟨bm, 0, none⟩ = false
  row : RowAt c.cs W bw
  hl : ∀ a, c.la = some a → a.block < W.heap.size ∧ ∀ j, W.frozen? ⟨a.block, j, none⟩ = false
  hk : ∀ a, c.ka = some a → a.block < W.heap.size ∧ ∀ j, W.frozen? ⟨a.block, j, none⟩ = false
theorem InfI.over {c : WC} {w0 : World} {nv nf bw bm : Nat} {st : ISt} {W W' : World} (h : InfI c w0 nv nf bw bm st W) (hb : Below W.heap.size W W') : InfI c w0 nv nf bw bm st W' :=
  ⟨h.below.trans (hb.mono h.below.size), h.vs.over (xiOk c bm) hb, h.fs.over (xiOk c bm) hb, h.lv, h.lf, cell_over hb _ _ h.more, ((bcell hb).2 _ _ (World.block_lt_of_cell? W _ h.more)).trans h.mz, h.row.over hb,
    fun a e => ⟨Nat.lt_of_lt_of_le (h.hl a e).1 hb.size, fun j => ((bcell hb).2 _ _ (h.hl a e).1).trans ((h.hl a e).2 j)⟩, fun a e => ⟨Nat.lt_of_lt_of_le (h.hk a e).1 hb.size, fun j => ((bcell hb).2 _ _ (h.hk a e).1).trans ((h.hk a e).2 j)⟩⟩
/-- a row of levels, one of which is set. -/
theorem IsLevsO.set {n : Nat} {X : World → Nat → Prop} {W W3 : World} {b i cap : Nat} {Ls : List Lev} {x y : Value} {l : Lev} (n1 : 1 ≤ n) (h : IsLevsO n X W (.slice (some ⟨b, 0, none⟩) Ls.length cap) Ls) (hi : i < Ls.length) (hl : LevO n X W3 (.agg #[x, y]) l)
    (hF : FrW X W W3) (e0 : W3.cell? ⟨b, i * 2, none⟩ = some x) (e1 : W3.cell? ⟨b, i * 2 + 1, none⟩ = some y) (hc : ∀ j u, j ≠ i * 2 → j ≠ i * 2 + 1 → W.cell? ⟨b, j, none⟩ = some u → W3.cell? ⟨b, j, none⟩ = some u) : IsLevsO n X W3 (.slice (some ⟨b, 0, none⟩) Ls.length cap) (Ls.set i l) := by
  obtain ⟨ao, cap', hv, hel⟩ := h
  injection hv with v1 v2 v3
  subst v1
  refine ⟨some ⟨b, 0, none⟩, cap, by simp, fun _ => ⟨b, 0, rfl, fun j hj => ?_⟩⟩
  obtain ⟨b', o', hb', hel⟩ := hel (by intro h; rw [h] at hi; simp at hi)
  injection hb' with hb'
  injection hb' with hb1 hb2
  subst hb1 hb2
  simp only [Nat.zero_add] at hel ⊢
  by_cases hij : i = j
  · subst hij
    refine ⟨x, y, e0, e1, ?_⟩
    rw [List.getElem_set_self]
    exact hl
  · obtain ⟨rv, wv, c0, c1, ho⟩ := hel j (by simpa using hj)
    refine ⟨rv, wv, hc _ _ (by omega) (by omega) c0, hc _ _ (by omega) (by omega) c1, ?_⟩
    rw [List.getElem_set_ne hij]
    exact ho.keep n1 hF
theorem IsLevsO.keep {n : Nat} {X : World → Nat → Prop} {W W3 : World} {v : Value} {Ls : List Lev} (n1 : 1 ≤ n) (h : IsLevsO n X W v Ls) (hF : FrW X W W3) (hc : ∀ b o ln cp, v = .slice (some ⟨b, o, none⟩) ln cp → ∀ j u, W.cell? ⟨b, j, none⟩ = some u → W3.cell? ⟨b, j, none⟩ = some u) : IsLevsO n X W3 v Ls := by
  obtain ⟨ao, cap, hv, hel⟩ := h
  refine ⟨ao, cap, hv, fun hne => ?_⟩
  obtain ⟨b, off, hao, hel⟩ := hel hne
  refine ⟨b, off, hao, fun i hi => ?_⟩
  obtain ⟨rv, wv, h1, h2, h3⟩ := hel i hi
  have hk := hc b off _ _ (by rw [hv, hao])
  exact ⟨rv, wv, hk _ _ h1, hk _ _ h2, h3.keep n1 hF⟩
theorem InfI.lev {c : WC} {w0 : World} {nv nf bw bm b off : Nat} {st : ISt} {W : World} {i : Bool × Nat} (hC : InfC c w0 bw bm) (h : InfI c w0 nv nf bw bm st W) (hib : (if i.1 = true then c.la else c.ka) = some ⟨b, off, none⟩) (h1 : i.1 = true → i.2 < nv) (h2 : i.1 = false → i.2 < nf) :
    off = 0 ∧ (b < W.heap.size ∧ ∀ j, W.frozen? ⟨b, j, none⟩ = false) ∧ b ≠ bw ∧ b ≠ bm ∧ ∃ rv wv, W.cell? ⟨b, i.2 * 2, none⟩ = some rv ∧ W.cell? ⟨b, i.2 * 2 + 1, none⟩ = some wv ∧ LevO c.n (XI c bm) W (.agg #[rv, wv]) (st.at i) := by
  unfold ISt.at
  by_cases hi : i.1 = true
  · rw [if_pos hi] at hib ⊢
    have hlt := h1 hi
    have hca := hC.la _ hib
    have ho : off = 0 := hca.1
    subst ho
    obtain ⟨ao, cap, hv, hel⟩ := h.vs
    injection hv with v1 v2 v3
    obtain ⟨b', o', hb', hel⟩ := hel (by intro e; have := h.lv; rw [e] at this; simp at this; omega)
    rw [← v1, hib] at hb'
    injection hb' with hb'
    injection hb' with hb1 hb2
    subst hb1 hb2
    have hlt2 : i.2 < st.vs.length := by have := h.lv; omega
    obtain ⟨rv, wv, c0, c1, hl⟩ := hel i.2 hlt2
    simp only [Nat.zero_add] at c0 c1
    refine ⟨rfl, h.hl _ hib, hca.2.2.2.1, hca.2.2.2.2, rv, wv, c0, c1, ?_⟩
    have e : st.vs.getD i.2 noLev = st.vs[i.2] := by simp [List.getD_eq_getElem?_getD, hlt2]
    rw [e]
    exact hl
  · rw [if_neg hi] at hib ⊢
    have hlt := h2 (by simpa using hi)
    have hca := hC.ka _ hib
    have ho : off = 0 := hca.1
    subst ho
    obtain ⟨ao, cap, hv, hel⟩ := h.fs
    injection hv with v1 v2 v3
    obtain ⟨b', o', hb', hel⟩ := hel (by intro e; have := h.lf; rw [e] at this; simp at this; omega)
    rw [← v1, hib] at hb'
    injection hb' with hb'
    injection hb' with hb1 hb2
    subst hb1 hb2
    have hlt2 : i.2 < st.fs.length := by have := h.lf; omega
    obtain ⟨rv, wv, c0, c1, hl⟩ := hel i.2 hlt2
    simp only [Nat.zero_add] at c0 c1
    refine ⟨rfl, h.hk _ hib, hca.2.2.2.1, hca.2.2.2.2, rv, wv, c0, c1, ?_⟩
    have e : st.fs.getD i.2 noLev = st.fs[i.2] := by simp [List.getD_eq_getElem?_getD, hlt2]
    rw [e]
    exact hl
theorem LevO.mono {n : Nat} {X Y : World → Nat → Prop} {W : World} {v : Value} {l : Lev} (n1 : 1 ≤ n) (h : LevO n X W v l) (hx : ∀ k, k < W.heap.size → Y W k → X W k) : LevO n Y W v l := by
  obtain ⟨x, y, hv, h1, h2⟩ := h.off
  obtain ⟨x', y', hv', bx, by'⟩ := h.at_
  rw [hv] at hv'
  simp at hv'
  obtain ⟨rfl, rfl⟩ := hv'
  have lt : ∀ (v : Value) (l : List Bool), IsBools W v l → l.length = n → ∀ a m c, v = .slice (some a) m c → a.block < W.heap.size := by
    intro v l hb hl a m c e
    obtain ⟨ao, cap, hv, hel⟩ := hb
    obtain ⟨b, off, hao, hel⟩ := hel (by rintro rfl; simp at hl; omega)
    rw [hv, hao] at e
    injection e with e1
    injection e1 with e1
    rw [← e1]
    exact World.block_lt_of_cell? W _ (hel 0 (by omega))
  exact ⟨h.at_, h.len, x, y, hv, fun a m c e hh => h1 a m c e (hx _ (lt _ _ bx h.len.1 a m c e) hh), fun a m c e hh => h2 a m c e (hx _ (lt _ _ by' h.len.2 a m c e) hh)⟩
theorem IsLevsO.mono {n : Nat} {X Y : World → Nat → Prop} {W : World} {v : Value} {ls : List Lev} (n1 : 1 ≤ n) (h : IsLevsO n X W v ls) (hx : ∀ k, k < W.heap.size → Y W k → X W k) : IsLevsO n Y W v ls := by
  obtain ⟨ao, cap, hv, hel⟩ := h
  refine ⟨ao, cap, hv, fun hne => ?_⟩
  obtain ⟨b, off, hao, hel⟩ := hel hne
  refine ⟨b, off, hao, fun i hi => ?_⟩
  obtain ⟨rv, wv, h1, h2, h3⟩ := hel i hi
  exact ⟨rv, wv, h1, h2, h3.mono n1 hx⟩
end Go.Proofs.Ytcbbjjenkommeaa.Ex
namespace Go.Proofs.Ytcbbjjenkommeaa.Ex.Ey
open Go.RowKit
set_option linter.unusedVariables false
/-- it goes on, and something holds then; or it gives up, and that does not hold. -/
def Goes (ok : Prop) (w : World) (e : Ending) (w' : World) : Prop := ((ok ∧ e = .returned (.tuple #[])) ∨ (¬ ok ∧ ∃ why : Int, why ≠ 0 ∧ e = gaveW why)) ∧ Below w.heap.size w w'
theorem Goes.imp {p q : Prop} {w : World} {e : Ending} {w' : World} (h : Goes p w e w') (hpq : p ↔ q) : Goes q w e w' := by
  have : p = q := propext hpq
  subst this
  exact h

set_option maxHeartbeats 1000000 in
set_option maxRecDepth 100000 in
theorem exprG_any (K : Nat) (m : Int) (ga : Option Addr) (gn gc : Nat) (sa : Option Addr) (sn sc : Nat) (ya : Option Addr) (yn yc : Nat) (oa : Option Addr) (on oc : Nat) (va : Option Addr) (vn vc : Nat) (fa : Option Addr) (fn fc : Nat) (ba : Option Addr) (bn bc : Nat) (cs : List Value) (d : D) (w : World) (h : RX w K cs d) (hv : vn ≤ 9223372036854775807) : Calls Try.prog 140 #[.agg #[.int .i64 m, .slice ga gn gc, .slice sa sn sc, .slice ya yn yc, .slice oa on oc, .slice va vn vc, .slice fa fn fc, .slice ba bn bc], .agg cs.toArray] w (Goes (checkX vn K d = 0) w) := by
  have K1 := hide fun W hB => check_any K cs d W (vn : Int) (by omega) (by omega) (h.over hB)
  have K2 := hide pass_any
  obtain ⟨xa, xc, rfl⟩ := h.form
  obtain ⟨ek, hek⟩ : ∃ q, q = kindOf d := ⟨_, rfl⟩
  obtain ⟨en, hen⟩ : ∃ q, q = numOf d := ⟨_, rfl⟩
  obtain ⟨xl, hxl⟩ : ∃ q, q = (argsOf d).length := ⟨_, rfl⟩
  rw [← hek, ← hen, ← hxl] at K1 ⊢
  clear hek hen hxl h
  obtain ⟨r, hr⟩ : ∃ q, q = checkX vn K d := ⟨_, rfl⟩
  rw [← hr] at K1 ⊢
  clear hr
  have hbel : Below w.heap.size w ((w.alloc (.cells #[.int .i64 m, .slice ga gn gc, .slice sa sn sc, .slice ya yn yc, .slice oa on oc, .slice va vn vc, .slice fa fn fc, .slice ba bn bc] 125)).alloc (.cells #[.int .i64 ek, .int .i64 en, .slice xa xl xc] 24)) := ((Below.refl _ w).alloc (Nat.le_refl _) _).alloc (by simp) _
  show Calls Try.prog 140 #[.agg #[.int .i64 m, .slice ga gn gc, .slice sa sn sc, .slice ya yn yc, .slice oa on oc, .slice va vn vc, .slice fa fn fc, .slice ba bn bc], .agg #[.int .i64 ek, .int .i64 en, .slice xa xl xc]] w _
  go_enter Try.func140, Try.ntmps140
  go_wp2_with fail
  refine (K1.out _ hbel).mono ?_
  rintro e w1 ⟨rfl, hb1⟩
  have hB1 := hbel.trans (hb1.mono hbel.size)
  go_wp2_with fail
  refine (K2.out _ _).mono ?_
  rintro e wz ⟨he, rfl⟩
  rcases he with ⟨h0, rfl⟩ | ⟨h0, rfl⟩
  · have h1 : r = 0 := by simpa using h0
    clear h0
    subst h1
    go_wp2_with fail
    go_end0
    exact ⟨Or.inl ⟨by first | rfl | trivial, rfl⟩, hB1⟩
  · have h1 : r ≠ 0 := by simpa using h0
    unfold gaveW
    go_wp2_with fail
    exact ⟨rfl, Or.inr ⟨by first | exact h1 | simp, r, h1, rfl⟩, hB1⟩
end Go.Proofs.Ytcbbjjenkommeaa.Ex.Ey
