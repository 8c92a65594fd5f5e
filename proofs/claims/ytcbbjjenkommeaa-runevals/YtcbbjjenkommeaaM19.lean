/- What all commands ask of levels. -/
import Derived.Test.YtcbbjjenkommeaaM18
import Derived.Laws.EntriesVeiled
import Derived.Maps.AppendAt
namespace Go.Proofs.Ytcbbjjenkommeaa.Ex
open Go.RowKit
set_option linter.unusedVariables false
section
variable {σ : Type} {c : WC} {w0 : World} {K nv ni no : Nat} {fs : List FnD} {gs : List (Int × Int)} {lev flev : σ → List Lev} {Inv : σ → World → Prop} {X : World → Nat → Prop} {s : Nat} {G : FuncId} {d1 d2 : Value}

end
/-- a row of bools. -/
def T4 (W : World) (v : Value) : Prop := ∀ a n c, v = .slice (some a) n c → ∃ cur fr, W.heap[a.block]? = some (.cells cur 4 fr)
/-- a level whose rows are rows of bools. -/
structure LevT (n : Nat) (W : World) (v : Value) (l : Lev) : Prop where
  at_ : LevAt W v l
  len : l.len n
  ty : ∃ x y, v = .agg #[x, y] ∧ T4 W x ∧ T4 W y
theorem t4_block {W W' : World} {v : Value} (h : T4 W v) (hb : ∀ (k : Nat) (cur : Array Value) (fr : Nat × Nat), W.heap[k]? = some (Obj.cells cur 4 fr) → W'.heap[k]? = W.heap[k]?) : T4 W' v := by
  intro a n c hv
  obtain ⟨cur, fr, he⟩ := h a n c hv
  exact ⟨cur, fr, (hb _ _ _ he).trans he⟩
/-- kept, if rows of bools are. -/
theorem LevT.keep {n : Nat} {W W' : World} {v : Value} {l : Lev} (h1 : 1 ≤ n) (h : LevT n W v l) (hb : ∀ (k : Nat) (cur : Array Value) (fr : Nat × Nat), W.heap[k]? = some (Obj.cells cur 4 fr) → W'.heap[k]? = W.heap[k]?) : LevT n W' v l := by
  obtain ⟨x, y, hv, tx, ty⟩ := h.ty
  obtain ⟨x', y', hv', bx, by'⟩ := h.at_
  rw [hv] at hv'
  simp at hv'
  obtain ⟨rfl, rfl⟩ := hv'
  have key : ∀ (v : Value) (l : List Bool), IsBools W v l → l.length = n → T4 W v → IsBools W' v l := by
    intro v l hbo hl ht
    obtain ⟨ao, cap, hv, hel⟩ := hbo
    refine ⟨ao, cap, hv, fun hne => ?_⟩
    obtain ⟨b, off, hao, hel⟩ := hel hne
    obtain ⟨cur, fr, he⟩ := ht ⟨b, off, none⟩ l.length cap (by rw [hv, hao])
    have e : W'.heap[b]? = W.heap[b]? := hb b cur fr he
    exact ⟨b, off, hao, fun i hi => (World.cell?_of_block (a := ⟨b, off + i, none⟩) e).trans (hel i hi)⟩
  exact ⟨⟨x, y, hv, key _ _ bx h.len.1 tx, key _ _ by' h.len.2 ty⟩, h.len, x, y, hv, t4_block tx hb, t4_block ty hb⟩
theorem LevT.over {n : Nat} {W W' : World} {v : Value} {l : Lev} (h1 : 1 ≤ n) (h : LevT n W v l) (hb : Below W.heap.size W W') : LevT n W' v l :=
  h.keep h1 fun k cur fr hk => hb.block k (Array.getElem?_eq_some_iff.1 hk).1

/-- a row of one's own that holds levels. -/
def OwnLevs (n B : Nat) (W : World) (v : Value) (Ls : List Lev) : Prop :=
  ∃ us : List Value, W.ownsRow B 62 2 v Ls.length us ∧ ∀ i (h : i < Ls.length), ∃ x y, us[i * 2]? = some x ∧ us[i * 2 + 1]? = some y ∧ LevT n W (.agg #[x, y]) Ls[i]
/-- kept, if its block is, and rows of bools are. -/
theorem OwnLevs.keep {n B : Nat} {W W' : World} {v : Value} {Ls : List Lev} (h1 : 1 ≤ n) (h : OwnLevs n B W v Ls) {row : Option Nat} (hg : W.grownBy W' row) (ha : v.ownBlock = none ∨ v.ownBlock ≠ row) (hr : ∀ g, row = some g → ∀ (cur : Array Value) (fr : Nat × Nat), W.heap[g]? ≠ some (Obj.cells cur 4 fr)) : OwnLevs n B W' v Ls := by
  obtain ⟨us, ho, hel⟩ := h
  refine ⟨us, ho.kept hg ha, fun i hi => ?_⟩
  obtain ⟨x, y, e0, e1, hl⟩ := hel i hi
  exact ⟨x, y, e0, e1, hl.keep h1 fun k cur fr hk => hg.block k (Array.getElem?_eq_some_iff.1 hk).1 (fun e => hr k e.symm cur fr hk)⟩
theorem OwnLevs.over {n B : Nat} {W W' : World} {v : Value} {Ls : List Lev} (h1 : 1 ≤ n) (h : OwnLevs n B W v Ls) (hb : Below W.heap.size W W') : OwnLevs n B W' v Ls :=
  h.keep h1 (row := none) ⟨hb.os, hb.tape, hb.output, hb.size, fun k hk _ => hb.block k hk⟩ (by cases v.ownBlock <;> simp) (fun g e => by cases e)
/-- a walker's box and its levels. -/
structure LeastI (n B bw : Nat) (P : List Value) (Ls Fs : List Lev) (v k : Value) (W : World) : Prop where
  row : RowAt (P ++ [v, k]) W bw
  fz : ∀ j, W.frozen? ⟨bw, j, none⟩ = false
  vs : OwnLevs n B W v Ls
  fs : OwnLevs n B W k Fs
  ap : v.ownBlock = none ∨ v.ownBlock ≠ k.ownBlock
  ap2 : v.ownBlock ≠ some bw ∧ k.ownBlock ≠ some bw
  ty : ∃ cur fr, W.heap[bw]? = some (Obj.cells cur 88 fr)
  lo : B ≤ bw ∧ bw < W.heap.size
theorem LeastI.over {n B bw : Nat} {P : List Value} {Ls Fs : List Lev} {v k : Value} {W W' : World} (h1 : 1 ≤ n) (h : LeastI n B bw P Ls Fs v k W) (hb : Below W.heap.size W W') : LeastI n B bw P Ls Fs v k W' := by
  refine ⟨h.row.over hb, fun j => ((bcell hb).2 _ _ h.lo.2).trans (h.fz j), h.vs.over h1 hb, h.fs.over h1 hb, h.ap, h.ap2, ?_, h.lo.1, Nat.lt_of_lt_of_le h.lo.2 hb.size⟩
  obtain ⟨cur, fr, he⟩ := h.ty
  exact ⟨cur, fr, (hb.block _ h.lo.2).trans he⟩
theorem grow_cell {w : World} {b j : Nat} {u : Value} : w.grownBy (w.setCell ⟨b, j, none⟩ u) (some b) :=
  ⟨rfl, rfl, rfl, by simp [World.setCell], fun k hk hne => heap_set_other (fun e => hne (by rw [e])) u⟩
/-- no row of bools. -/
def NotB (W : World) (b : Nat) : Prop := ∀ (cur : Array Value) (fr : Nat × Nat), W.heap[b]? ≠ some (Obj.cells cur 4 fr)
theorem NotB.set {W : World} {b b' j : Nat} {u : Value} (h : NotB W b) : NotB (W.setCell ⟨b', j, none⟩ u) b := by
  intro cur fr he
  by_cases hb : b' = b
  · subst hb
    simp only [World.setCell, Array.getElem?_modify, if_true] at he
    cases ho : W.heap[b']? with
    | none => rw [ho] at he; simp at he
    | some o =>
      rw [ho] at he
      cases o with
      | cells c e f =>
        simp at he
        obtain ⟨-, rfl, -⟩ := he
        exact h _ _ ho
      | _ => simp at he
  · rw [heap_set_other hb] at he
    exact h cur fr he
theorem LeastI.box {n B bw : Nat} {P : List Value} {Ls Fs : List Lev} {v k : Value} {W : World} {b j : Nat} {u : Value} (h1 : 1 ≤ n) (h : LeastI n B bw P Ls Fs v k W) (hb : b ≠ bw) (hv : v.ownBlock ≠ some b) (hk : k.ownBlock ≠ some b) (hn : NotB W b) : LeastI n B bw P Ls Fs v k (W.setCell ⟨b, j, none⟩ u) := by
  have hbw : (W.setCell ⟨b, j, none⟩ u).heap[bw]? = W.heap[bw]? := heap_set_other hb u
  refine ⟨fun i x hx => (World.cell?_of_block (a := ⟨bw, i, none⟩) hbw).trans (h.row i x hx), fun i => (World.frozen?_of_block (a := ⟨bw, i, none⟩) hbw).trans (h.fz i), h.vs.keep h1 grow_cell (Or.inr hv) (fun g e => by injection e with e; subst e; exact hn), h.fs.keep h1 grow_cell (Or.inr hk) (fun g e => by injection e with e; subst e; exact hn), h.ap, h.ap2, ?_, h.lo.1, by simpa [World.setCell] using h.lo.2⟩
  obtain ⟨c, f, e⟩ := h.ty
  exact ⟨c, f, hbw.trans e⟩
theorem NotB.over {W W' : World} {b : Nat} (h : NotB W b) (hb : Below W.heap.size W W') (hlt : b < W.heap.size) : NotB W' b := fun cur fr he => h cur fr ((hb.block b hlt) ▸ he)
/-- blocks that turn while levels are inferred. -/
def XI (c : WC) (bm : Nat) : World → Nat → Prop := fun _ k => (∃ a, c.la = some a ∧ k = a.block) ∨ (∃ a, c.ka = some a ∧ k = a.block) ∨ k = bm
theorem xiOk (c : WC) (bm : Nat) : XOk (XI c bm) := ⟨fun _ _ _ _ h => h⟩
/-- where all lies. -/
structure InfC (c : WC) (w0 : World) (bw bm : Nat) : Prop where
  la : ∀ a, c.la = some a → a.off = 0 ∧ a.spot = none ∧ w0.heap.size ≤ a.block ∧ a.block ≠ bw ∧ a.block ≠ bm
  ka : ∀ a, c.ka = some a → a.off = 0 ∧ a.spot = none ∧ w0.heap.size ≤ a.block ∧ a.block ≠ bw ∧ a.block ≠ bm
  lk : ∀ a b, c.la = some a → c.ka = some b → a.block ≠ b.block
  m : w0.heap.size ≤ bm ∧ bw ≠ bm
structure InfI (c : WC) (w0 : World) (nv nf bw bm : Nat) (st : ISt) (W : World) : Prop where
  below : Below w0.heap.size w0 W
  vs : IsLevsO c.n (XI c bm) W (.slice c.la c.ln c.lc) st.vs
  fs : IsLevsO c.n (XI c bm) W (.slice c.ka c.kn c.kc) st.fs
  lv : st.vs.length = nv
  lf : st.fs.length = nf
  more : W.cell? ⟨bm, 0, none⟩ = some (.bool st.more)
  mz : W.frozen? ⟨bm, 0, none⟩ = false
  row : RowAt c.cs W bw
  hl : ∀ a, c.la = some a → a.block < W.heap.size ∧ ∀ j, W.frozen? ⟨a.block, j, none⟩ = false
  hk : ∀ a, c.ka = some a → a.block < W.heap.size ∧ ∀ j, W.frozen? ⟨a.block, j, none⟩ = false
theorem InfI.over {c : WC} {w0 : World} {nv nf bw bm : Nat} {st : ISt} {W W' : World} (h : InfI c w0 nv nf bw bm st W) (hb : Below W.heap.size W W') : InfI c w0 nv nf bw bm st W' :=
  ⟨h.below.trans (hb.mono h.below.size), h.vs.over (xiOk c bm) hb, h.fs.over (xiOk c bm) hb, h.lv, h.lf, cell_over hb _ _ h.more, ((bcell hb).2 _ _ (World.block_lt_of_cell? W _ h.more)).trans h.mz, h.row.over hb,
    fun a e => ⟨Nat.lt_of_lt_of_le (h.hl a e).1 hb.size, fun j => ((bcell hb).2 _ _ (h.hl a e).1).trans ((h.hl a e).2 j)⟩, fun a e => ⟨Nat.lt_of_lt_of_le (h.hk a e).1 hb.size, fun j => ((bcell hb).2 _ _ (h.hk a e).1).trans ((h.hk a e).2 j)⟩⟩
/-- a row of levels, one of which is set. -/
theorem IsLevsO.set {n : Nat} {X : World → Nat → Prop} {W W3 : World} {b i cap : Nat} {Ls : List Lev} {x y : Value} {l : Lev} (n1 : 1 ≤ n) (h : IsLevsO n X W (.slice (some ⟨b, 0, none⟩) Ls.length cap) Ls) (hi : i < Ls.length) (hl : LevO n X W3 (.agg #[x, y]) l)
    (hF : FrW X W W3) (e0 : W3.cell? ⟨b, i * 2, none⟩ = some x) (e1 : W3.cell? ⟨b, i * 2 + 1, none⟩ = some y) (hc : ∀ j u, j ≠ i * 2 → j ≠ i * 2 + 1 → W.cell? ⟨b, j, none⟩ = some u → W3.cell? ⟨b, j, none⟩ = some u) : IsLevsO n X W3 (.slice (some ⟨b, 0, none⟩) Ls.length cap) (Ls.set i l) := by
  obtain ⟨ao, cap', hv, hel⟩ := h
  injection hv with v1 v2 v3
  subst v1
  refine ⟨some ⟨b, 0, none⟩, cap, by simp, fun _ => ⟨b, 0, rfl, fun j hj => ?_⟩⟩
  obtain ⟨b', o', hb', hel⟩ := hel (by intro h; rw [h] at hi; simp at hi)
  injection hb' with hb'
  injection hb' with hb1 hb2
  subst hb1 hb2
  simp only [Nat.zero_add] at hel ⊢
  by_cases hij : i = j
  · subst hij
    refine ⟨x, y, e0, e1, ?_⟩
    rw [List.getElem_set_self]
    exact hl
  · obtain ⟨rv, wv, c0, c1, ho⟩ := hel j (by simpa using hj)
    refine ⟨rv, wv, hc _ _ (by omega) (by omega) c0, hc _ _ (by omega) (by omega) c1, ?_⟩
    rw [List.getElem_set_ne hij]
    exact ho.keep n1 hF
theorem IsLevsO.keep {n : Nat} {X : World → Nat → Prop} {W W3 : World} {v : Value} {Ls : List Lev} (n1 : 1 ≤ n) (h : IsLevsO n X W v Ls) (hF : FrW X W W3) (hc : ∀ b o ln cp, v = .slice (some ⟨b, o, none⟩) ln cp → ∀ j u, W.cell? ⟨b, j, none⟩ = some u → W3.cell? ⟨b, j, none⟩ = some u) : IsLevsO n X W3 v Ls := by
  obtain ⟨ao, cap, hv, hel⟩ := h
  refine ⟨ao, cap, hv, fun hne => ?_⟩
  obtain ⟨b, off, hao, hel⟩ := hel hne
  refine ⟨b, off, hao, fun i hi => ?_⟩
  obtain ⟨rv, wv, h1, h2, h3⟩ := hel i hi
  have hk := hc b off _ _ (by rw [hv, hao])
  exact ⟨rv, wv, hk _ _ h1, hk _ _ h2, h3.keep n1 hF⟩
theorem InfI.lev {c : WC} {w0 : World} {nv nf bw bm b off : Nat} {st : ISt} {W : World} {i : Bool × Nat} (hC : InfC c w0 bw bm) (h : InfI c w0 nv nf bw bm st W) (hib : (if i.1 = true then c.la else c.ka) = some ⟨b, off, none⟩) (h1 : i.1 = true → i.2 < nv) (h2 : i.1 = false → i.2 < nf) :
    off = 0 ∧ (b < W.heap.size ∧ ∀ j, W.frozen? ⟨b, j, none⟩ = false) ∧ b ≠ bw ∧ b ≠ bm ∧ ∃ rv wv, W.cell? ⟨b, i.2 * 2, none⟩ = some rv ∧ W.cell? ⟨b, i.2 * 2 + 1, none⟩ = some wv ∧ LevO c.n (XI c bm) W (.agg #[rv, wv]) (st.at i) := by
  unfold ISt.at
  by_cases hi : i.1 = true
  · rw [if_pos hi] at hib ⊢
    have hlt := h1 hi
    have hca := hC.la _ hib
    have ho : off = 0 := hca.1
    subst ho
    obtain ⟨ao, cap, hv, hel⟩ := h.vs
    injection hv with v1 v2 v3
    obtain ⟨b', o', hb', hel⟩ := hel (by intro e; have := h.lv; rw [e] at this; simp at this; omega)
    rw [← v1, hib] at hb'
    injection hb' with hb'
    injection hb' with hb1 hb2
    subst hb1 hb2
    have hlt2 : i.2 < st.vs.length := by have := h.lv; omega
    obtain ⟨rv, wv, c0, c1, hl⟩ := hel i.2 hlt2
    simp only [Nat.zero_add] at c0 c1
    refine ⟨rfl, h.hl _ hib, hca.2.2.2.1, hca.2.2.2.2, rv, wv, c0, c1, ?_⟩
    have e : st.vs.getD i.2 noLev = st.vs[i.2] := by simp [List.getD_eq_getElem?_getD, hlt2]
    rw [e]
    exact hl
  · rw [if_neg hi] at hib ⊢
    have hlt := h2 (by simpa using hi)
    have hca := hC.ka _ hib
    have ho : off = 0 := hca.1
    subst ho
    obtain ⟨ao, cap, hv, hel⟩ := h.fs
    injection hv with v1 v2 v3
    obtain ⟨b', o', hb', hel⟩ := hel (by intro e; have := h.lf; rw [e] at this; simp at this; omega)
    rw [← v1, hib] at hb'
    injection hb' with hb'
    injection hb' with hb1 hb2
    subst hb1 hb2
    have hlt2 : i.2 < st.fs.length := by have := h.lf; omega
    obtain ⟨rv, wv, c0, c1, hl⟩ := hel i.2 hlt2
    simp only [Nat.zero_add] at c0 c1
    refine ⟨rfl, h.hk _ hib, hca.2.2.2.1, hca.2.2.2.2, rv, wv, c0, c1, ?_⟩
    have e : st.fs.getD i.2 noLev = st.fs[i.2] := by simp [List.getD_eq_getElem?_getD, hlt2]
    rw [e]
    exact hl
theorem LevO.mono {n : Nat} {X Y : World → Nat → Prop} {W : World} {v : Value} {l : Lev} (n1 : 1 ≤ n) (h : LevO n X W v l) (hx : ∀ k, k < W.heap.size → Y W k → X W k) : LevO n Y W v l := by
  obtain ⟨x, y, hv, h1, h2⟩ := h.off
  obtain ⟨x', y', hv', bx, by'⟩ := h.at_
  rw [hv] at hv'
  simp at hv'
  obtain ⟨rfl, rfl⟩ := hv'
  have lt : ∀ (v : Value) (l : List Bool), IsBools W v l → l.length = n → ∀ a m c, v = .slice (some a) m c → a.block < W.heap.size := by
    intro v l hb hl a m c e
    obtain ⟨ao, cap, hv, hel⟩ := hb
    obtain ⟨b, off, hao, hel⟩ := hel (by rintro rfl; simp at hl; omega)
    rw [hv, hao] at e
    injection e with e1
    injection e1 with e1
    rw [← e1]
    exact World.block_lt_of_cell? W _ (hel 0 (by omega))
  exact ⟨h.at_, h.len, x, y, hv, fun a m c e hh => h1 a m c e (hx _ (lt _ _ bx h.len.1 a m c e) hh), fun a m c e hh => h2 a m c e (hx _ (lt _ _ by' h.len.2 a m c e) hh)⟩
theorem IsLevsO.mono {n : Nat} {X Y : World → Nat → Prop} {W : World} {v : Value} {ls : List Lev} (n1 : 1 ≤ n) (h : IsLevsO n X W v ls) (hx : ∀ k, k < W.heap.size → Y W k → X W k) : IsLevsO n Y W v ls := by
  obtain ⟨ao, cap, hv, hel⟩ := h
  refine ⟨ao, cap, hv, fun hne => ?_⟩
  obtain ⟨b, off, hao, hel⟩ := hel hne
  refine ⟨b, off, hao, fun i hi => ?_⟩
  obtain ⟨rv, wv, h1, h2, h3⟩ := hel i hi
  exact ⟨rv, wv, h1, h2, h3.mono n1 hx⟩
/-- the one block that turns while levels are tried. -/
def XF (bm : Nat) : World → Nat → Prop := fun _ k => k = bm
theorem xfOk (bm : Nat) : XOk (XF bm) := ⟨fun _ _ _ _ h => h⟩
structure FitI (c : WC) (w0 : World) (L : ISt) (nv nf bw bm : Nat) (b : Bool) (W : World) : Prop where
  below : Below w0.heap.size w0 W
  vs : IsLevsO c.n (XF bm) W (.slice c.la c.ln c.lc) L.vs
  fs : IsLevsO c.n (XF bm) W (.slice c.ka c.kn c.kc) L.fs
  lv : L.vs.length = nv
  lf : L.fs.length = nf
  more : W.cell? ⟨bm, 0, none⟩ = some (.bool b)
  mz : W.frozen? ⟨bm, 0, none⟩ = false
  row : RowAt c.cs W bw
theorem FitI.over {c : WC} {w0 : World} {L : ISt} {nv nf bw bm : Nat} {b : Bool} {W W' : World} (h : FitI c w0 L nv nf bw bm b W) (hb : Below W.heap.size W W') : FitI c w0 L nv nf bw bm b W' :=
  ⟨over_trans h.below hb, h.vs.over (xfOk bm) hb, h.fs.over (xfOk bm) hb, h.lv, h.lf, cell_over hb _ _ h.more, ((bcell hb).2 _ _ (World.block_lt_of_cell? W _ h.more)).trans h.mz, h.row.over hb⟩
theorem FitI.lev {c : WC} {w0 : World} {L : ISt} {nv nf bw bm b off : Nat} {f : Bool} {W : World} {i : Bool × Nat} (h : FitI c w0 L nv nf bw bm f W) (hib : (if i.1 = true then c.la else c.ka) = some ⟨b, off, none⟩) (h1 : i.1 = true → i.2 < nv) (h2 : i.1 = false → i.2 < nf) :
    ∃ rv wv, W.cell? ⟨b, off + i.2 * 2, none⟩ = some rv ∧ W.cell? ⟨b, off + i.2 * 2 + 1, none⟩ = some wv ∧ LevO c.n (XF bm) W (.agg #[rv, wv]) (L.at i) := by
  unfold ISt.at
  by_cases hi : i.1 = true
  · rw [if_pos hi] at hib ⊢
    have hlt := h1 hi
    obtain ⟨ao, cap, hv, hel⟩ := h.vs
    injection hv with v1 v2 v3
    obtain ⟨b', o', hb', hel⟩ := hel (by intro e; have := h.lv; rw [e] at this; simp at this; omega)
    rw [← v1, hib] at hb'
    injection hb' with hb'
    injection hb' with hb1 hb2
    subst hb1 hb2
    have hlt2 : i.2 < L.vs.length := by have := h.lv; omega
    obtain ⟨rv, wv, c0, c1, hl⟩ := hel i.2 hlt2
    refine ⟨rv, wv, c0, c1, ?_⟩
    have e : L.vs.getD i.2 noLev = L.vs[i.2] := by simp [List.getD_eq_getElem?_getD, hlt2]
    rw [e]
    exact hl
  · rw [if_neg hi] at hib ⊢
    have hlt := h2 (by simpa using hi)
    obtain ⟨ao, cap, hv, hel⟩ := h.fs
    injection hv with v1 v2 v3
    obtain ⟨b', o', hb', hel⟩ := hel (by intro e; have := h.lf; rw [e] at this; simp at this; omega)
    rw [← v1, hib] at hb'
    injection hb' with hb'
    injection hb' with hb1 hb2
    subst hb1 hb2
    have hlt2 : i.2 < L.fs.length := by have := h.lf; omega
    obtain ⟨rv, wv, c0, c1, hl⟩ := hel i.2 hlt2
    refine ⟨rv, wv, c0, c1, ?_⟩
    have e : L.fs.getD i.2 noLev = L.fs[i.2] := by simp [List.getD_eq_getElem?_getD, hlt2]
    rw [e]
    exact hl
def sm1 : D := sD 3 0 0 (xD 0 0 []) [] [] []
def sm2 : D := sD 4 0 0 (xD 2 0 []) [] [] []
theorem i64_small (n : Int) (h : 0 ≤ n) (h2 : n ≤ 100) : In64 n := ⟨by omega, by omega⟩
theorem xs_nil {s : Nat} {R : List Value → D → Prop} {w : World} : XS s R w (.slice none 0 0) [] := ⟨Nat.zero_le _, none, 0, rfl, fun h => absurd rfl h⟩
theorem pols_nil {w : World} : IsPols w (.slice none 0 0) [] := ⟨none, 0, rfl, fun h => absurd rfl h⟩
theorem smallProg {bi bo bv bm : Nat} {w : World} (h : Small bi bo bv bm w) : ProgAt 1 1 1 none 0 0 none 0 0 (some ⟨bi, 0, none⟩) 1 1 (some ⟨bo, 0, none⟩) 1 1 (some ⟨bv, 0, none⟩) 1 1 none 0 0 (some ⟨bm, 0, none⟩) 2 2 [] [] [⟨[], []⟩] [⟨[], []⟩] [(false, ⟨[], []⟩)] [] [sm1, sm2] w := by
  have hlab : ∀ b, RowAt [.slice none 0 0, .slice none 0 0] w b → LabsAt w (.slice (some ⟨b, 0, none⟩) 1 1) [⟨[], []⟩] := fun b hr => by
    refine ⟨by simp [maxLen], some ⟨b, 0, none⟩, 1, rfl, fun _ => ⟨b, 0, rfl, fun i hi => ?_⟩⟩
    have : i = 0 := by simp at hi; omega
    subst this
    exact ⟨_, _, hr 0 _ rfl, hr 1 _ rfl, pols_nil, pols_nil⟩
  refine ⟨i64_small 1 (by omega) (by omega), ⟨none, 0, rfl, fun h => absurd rfl h⟩, ⟨none, 0, rfl, fun h => absurd rfl h⟩, by simp, hlab _ h.ins, hlab _ h.outs, ?_, ?_, ?_, fun h => absurd h (by simp), fun h => absurd h (by simp)⟩
  · refine ⟨by simp [maxLen], some ⟨bv, 0, none⟩, 1, rfl, fun _ => ⟨bv, 0, rfl, fun i hi => ?_⟩⟩
    have : i = 0 := by simp at hi; omega
    subst this
    exact ⟨_, _, h.vars 0 _ rfl, h.vars 1 _ rfl, h.vars 2 _ rfl, pols_nil, pols_nil⟩
  · exact ⟨by simp, none, 0, rfl, fun h => absurd rfl h⟩
  · refine ⟨by simp [maxLen], some ⟨bm, 0, none⟩, 2, rfl, fun _ => ⟨bm, 0, rfl, fun i d hd => ?_⟩⟩
    match i, hd with
    | 0, hd =>
      simp at hd
      subst hd
      refine ⟨mainCells.take 9, rfl, fun j u hu => ?_, 3, 0, 0, _, _, _, xD 0 0 [], _, [], _, [], _, [], rfl, rfl, i64_small _ (by omega) (by omega), i64_small _ (by omega) (by omega), i64_small _ (by omega) (by omega), ⟨0, 0, _, [], rfl, rfl, i64_small _ (by omega) (by omega), i64_small _ (by omega) (by omega), xs_nil⟩, xs_nil, xs_nil, xs_nil⟩
      rw [List.getElem?_take] at hu
      split at hu
      · have := h.main j u hu
        simpa using this
      · cases hu
    | 1, hd =>
      simp at hd
      subst hd
      refine ⟨mainCells.drop 9, rfl, fun j u hu => ?_, 4, 0, 0, _, _, _, xD 2 0 [], _, [], _, [], _, [], rfl, rfl, i64_small _ (by omega) (by omega), i64_small _ (by omega) (by omega), i64_small _ (by omega) (by omega), ⟨2, 0, _, [], rfl, rfl, i64_small _ (by omega) (by omega), i64_small _ (by omega) (by omega), xs_nil⟩, xs_nil, xs_nil, xs_nil⟩
      rw [List.getElem?_drop] at hu
      have := h.main (9 + j) u hu
      simpa [Nat.add_assoc] using this
    | i + 2, hd => simp at hd
theorem sm_chk : checkX ((1 : Nat) : Int) 1 (sExpr sm2) = 0 := by
  simp [checkX, sm2, errX, listX, partsX, addParts, firstX, xD, kindOf, numOf, argsOf]
theorem sm1_ok : okS1 1 1 1 1 (([] : List FnD).length : Int) [] sm1 := by
  unfold okS1
  simp [sm1, xD, kindOf, argsOf]
theorem sm2_ok : okS1 1 1 1 1 (([] : List FnD).length : Int) [] sm2 := by
  have h := sm_chk
  unfold okS1
  have e : sKind sm2 = 4 := rfl
  have e2 : sOther sm2 = 0 := rfl
  rw [e, e2]
  exact ⟨by decide, fun h => absurd h (by decide), fun h => absurd h (by decide), fun h => absurd h (by decide), fun _ => h, fun h => absurd h (by decide), fun _ => by decide⟩
theorem smallOk : okP 1 1 1 1 1 1 [] [] [⟨[], []⟩] [⟨[], []⟩] [(false, ⟨[], []⟩)] [] [sm1, sm2] := by
  refine ⟨rfl, by simp, ⟨?_, ?_, ?_⟩, by omega, by omega, by omega, by simp, by decide, fun i h => absurd h (by simp), ?_⟩
  · intro b hb
    simp at hb
    subst hb
    rfl
  · intro v hv
    simp at hv
    subst hv
    rfl
  · intro v hv _
    simp at hv
    subst hv
    exact ⟨rfl, rfl⟩
  · intro s hs
    simp at hs
    rcases hs with rfl | rfl
    · exact ⟨sm1_ok, fun s hs => absurd hs (by simp [sm1]), fun s hs => absurd hs (by simp [sm1])⟩
    · exact ⟨sm2_ok, fun s hs => absurd hs (by simp [sm2]), fun s hs => absurd hs (by simp [sm2])⟩
theorem smallX : Ey.xP 1 1 1 1 1 1 0 [] [] [⟨[], []⟩] [⟨[], []⟩] [(false, ⟨[], []⟩)] [] [sm1, sm2] := by
  refine ⟨smallOk.chk, by simp, smallOk.speak, smallOk.labs, ⟨by have := smallOk.many; omega, fun f hf => absurd hf (by simp), ?_⟩, fun i h => absurd h (by simp), ?_⟩
  · intro s hs
    simp at hs
    rcases hs with rfl | rfl
    · exact ⟨by omega, fun s hs => absurd hs (by simp [sm1]), fun s hs => absurd hs (by simp [sm1])⟩
    · exact ⟨by omega, fun s hs => absurd hs (by simp [sm2]), fun s hs => absurd hs (by simp [sm2])⟩
  · intro s hs
    simp at hs
    rcases hs with rfl | rfl
    · exact ⟨⟨sm1_ok, fun _ => rfl, fun _ => rfl, fun _ => rfl, fun _ => rfl, fun _ => rfl, fun _ => rfl⟩, fun s hs => absurd hs (by simp [sm1]), fun s hs => absurd hs (by simp [sm1])⟩
    · exact ⟨⟨sm2_ok, fun _ => rfl, fun _ => rfl, fun h => absurd h (by decide), fun _ => rfl, fun _ => rfl, fun _ => rfl⟩, fun s hs => absurd hs (by simp [sm2]), fun s hs => absurd hs (by simp [sm2])⟩
theorem small_run : runX 1 1 [] (9 : Int).toNat [[7]] obAll [sm1, sm2] 1 1 o0 = ⟨[(1, 1, 0, 7)], [7], [1], 2, 1, 0, o0⟩ := by kernel_rfl
/-- the small program, and one number that comes in. -/
structure SmallIn (bi bo bv bm bx by' : Nat) (w : World) : Prop where
  small : Small bi bo bv bm w
  xs : w.cell? ⟨bx, 0, none⟩ = some (.slice (some ⟨by', 0, none⟩) 1 1)
  ys : w.cell? ⟨by', 0, none⟩ = some (.int .i64 7)
def Ran (w : World) (e : Ending) (w' : World) : Prop :=
  ∃ g c b1 b2, e = .returned (.tuple #[.agg #[.slice (some ⟨g, 0, none⟩) 1 c, .slice (some ⟨b1, 0, none⟩) 1 1, .slice (some ⟨b2, 0, none⟩) 1 1, .int .i64 2, .int .i64 1, .int .i64 0], .int .i64 0]) ∧ RowAt [.int .i64 1, .int .i64 1, .int .i64 0, .int .i64 7] w' g ∧ w'.cell? ⟨b2, 0, none⟩ = some (.int .i64 1) ∧ Below w.heap.size w w'
theorem small_okR : okR 1 1 1 1 1 1 0 [] [] [⟨[], []⟩] [⟨[], []⟩] [(false, ⟨[], []⟩)] [] [sm1, sm2] [[7]] 9 :=
  ⟨smallX, rfl, fun x hx => by simp at hx; subst hx; simp, fun x hx y hy => by simp at hx; subst hx; simp at hy; subst hy; exact ⟨by omega, by omega⟩, by omega, by omega⟩
theorem Run_small (bi bo bv bm bx by' : Nat) (w : World) (hS : SmallIn bi bo bv bm bx by' w) :
    Calls Try.prog 12 #[smallV bi bo bv bm, .slice (some ⟨bx, 0, none⟩) 1 1, .int .i64 9] w (Ran w) := by
  have hx : ListsAt w (.slice (some ⟨bx, 0, none⟩) 1 1) [[7]] := by
    refine ⟨by simp [maxLen], some ⟨bx, 0, none⟩, 1, rfl, fun _ => ⟨bx, 0, rfl, fun i hi => ?_⟩⟩
    have : i = 0 := by simp at hi; omega
    subst this
    refine ⟨_, hS.xs, ⟨some ⟨by', 0, none⟩, 1, rfl, fun _ => ⟨by', 0, rfl, fun j hj => ?_⟩⟩, by simp⟩
    have : j = 0 := by simp at hj; omega
    subst this
    exact hS.ys
  refine (Run_any 1 1 1 none 0 0 none 0 0 (some ⟨bi, 0, none⟩) 1 1 (some ⟨bo, 0, none⟩) 1 1 (some ⟨bv, 0, none⟩) 1 1 none 0 0 (some ⟨bm, 0, none⟩) 2 2 (some ⟨bx, 0, none⟩) 1 1 [[7]] 9 [] [] [⟨[], []⟩] [⟨[], []⟩] [(false, ⟨[], []⟩)] [] [sm1, sm2] w (smallProg hS.small) hx).mono ?_
  rintro e w' ⟨why, hw, hB, ⟨hne, -⟩ | ⟨-, ev, b1, b2, rfl, hr⟩⟩
  · exact absurd (hw.2 small_okR) hne
  · rw [small_run] at hr ⊢
    have ho := hr.own
    rcases ho.2 with ⟨-, h⟩ | ⟨g, cap, cur, rfl, -⟩
    · exact absurd h (by simp)
    · refine ⟨g, cap, b1, b2, rfl, fun j u hu => ?_, hr.taken 0 _ rfl, hB⟩
      have := ho.cells (g := g) rfl j u hu
      rwa [Addr.add_lit, Nat.zero_add] at this
def Smalls (w : World) (e : Ending) (w' : World) : Prop := ∃ bi bo bv bm, e = .returned (smallV bi bo bv bm) ∧ Small bi bo bv bm w' ∧ Below w.heap.size w w'
theorem RowAt.at {cs : List Value} {w w' : World} {b : Nat} {a : Array Value} {t : Nat} (ha : a.toList = cs) (hb : b = w.heap.size) (hw : Below (w.alloc (.cells a t)).heap.size (w.alloc (.cells a t)) w') : RowAt cs w' b := by
  subst hb
  rw [← ha]
  exact (RowAt.newA a t w).over hw
set_option maxHeartbeats 4000000 in
set_option maxRecDepth 100000 in
theorem small_any (w : World) : Calls Try.prog 30 #[] w (Smalls w) := by
  go_enter Try.func30, Try.ntmps30
  go_wp2_with fail
  have hbr := fun (W : World) (o : Obj) => (Below.refl _ W).alloc (Nat.le_refl _) o
  refine bodyPost_ret (v := smallV (w.heap.size + 1) (w.heap.size + 1 + 1) (w.heap.size + 1 + 1 + 1) (w.heap.size + 1 + 1 + 1 + 1)) (by simp [results, Try.results30, go_sem]) rfl ⟨_, _, _, _, rfl, ⟨?_, ?_, ?_, ?_⟩, ?_⟩
  · exact RowAt.at rfl (by simp) (over_trans (over_trans (hbr _ _) (hbr _ _)) (hbr _ _))
  · exact RowAt.at rfl (by simp) (over_trans (hbr _ _) (hbr _ _))
  · exact RowAt.at rfl (by simp) (hbr _ _)
  · exact RowAt.at rfl (by simp) (Below.refl _ _)
  · exact over_trans (over_trans (over_trans (over_trans (hbr _ _) (hbr _ _)) (hbr _ _)) (hbr _ _)) (hbr _ _)
set_option maxHeartbeats 1000000 in
theorem sameInts_one (a b : Nat) (w : World) (ha : w.cell? ⟨a, 0, none⟩ = some (.int .i64 1)) (hb : w.cell? ⟨b, 0, none⟩ = some (.int .i64 1)) :
    Calls Try.prog 31 #[.slice (some ⟨a, 0, none⟩) 1 1, .slice (some ⟨b, 0, none⟩) 1 1] w fun e w' => e = .returned (.bool true) ∧ ∃ n, w' = w.drewN n := by
  go_enter Try.func31, Try.ntmps31
  go_wp2_with fail
  go_loopw [5] (fun i wr => ∃ j : Int, 0 ≤ j ∧ j ≤ 1 ∧ i = .int .i64 j ∧ ∃ n, wr = w.drewN n) (fun i _ => 1 - (intOf i).toNat)
  case atStart => exact ⟨0, by omega, by omega, rfl, 0, rfl⟩
  case round =>
    obtain ⟨j, hj0, hj, rfl, n, rfl⟩ := hrel
    rcases (by omega : j = 0 ∨ j = 1) with rfl | rfl
    · go_wp2_with fail
      go_quiet ((fail))
      go_wp2_with fail
      exact ⟨⟨1, by omega, by omega, by first | rfl | go_num, _, by first | rfl | exact World.drewN_drewN _ _ _⟩, by simp [intOf]⟩
    · go_wp2_with fail
      go_ret
      exact ⟨rfl, n, by first | rfl | trivial⟩
theorem num4 (w : World) : RX w 1 [.int .i64 1, .int .i64 4, .slice none 0 0] (xD 1 4 []) := ⟨1, 4, _, [], rfl, rfl, ⟨by omega, by omega⟩, ⟨by omega, by omega⟩, by simp, none, 0, rfl, fun h => absurd rfl h⟩
theorem noInts (w : World) : IsInts w (.slice none 0 0) [] := ⟨none, 0, rfl, fun h => absurd rfl h⟩
set_option maxHeartbeats 4000000 in
set_option maxRecDepth 100000 in
theorem begun_any (w : World) : Calls Try.prog 11 #[] w fun e w' => e = .returned (.bool true) ∧ Below w.heap.size w w' := by
  have K1 := hide small_any
  have K2 := hide fun bi bo bv bm bx by' W (hS : SmallIn bi bo bv bm bx by' W) => Run_small bi bo bv bm bx by' W hS
  have K3 := hide fun W => eval_any 1 _ _ W _ [] (num4 W) (noInts W) (by simp)
  have he : evalErr [] 1 (xD 1 4 []) = 0 := by decide
  have hv : evalVal [] 1 (xD 1 4 []) = 4 := by decide
  rw [he, hv] at K3
  clear he hv
  go_enter Try.func11, Try.ntmps11
  go_wp2_with fail
  refine (K1.out _).mono ?_
  rintro e w1 ⟨bi, bo, bv, bm, rfl, hSm, hb1⟩
  have hS : SmallIn bi bo bv bm (w1.heap.size + 1) w1.heap.size ((w1.alloc (.cells #[.int .i64 7] 3)).alloc (.cells #[.slice (some ⟨w1.heap.size, 0, none⟩) 1 1] 25)) :=
    ⟨hSm.over (((Below.refl _ w1).alloc (Nat.le_refl _) _).alloc (by simp) _), by simp [go_sem], by simp [go_sem]⟩
  have hB1 : Below w.heap.size w ((w1.alloc (.cells #[.int .i64 7] 3)).alloc (.cells #[.slice (some ⟨w1.heap.size, 0, none⟩) 1 1] 25)) := (hb1.alloc hb1.size _).alloc (by have := hb1.size; simp; omega) _
  have K2' := hide (K2.out _ _ _ _ _ _ _ hS)
  clear K1 K2 hSm hb1 hS
  unfold smallV at K2' ⊢
  go_wp2_with fail
  refine (K2'.out).mono ?_
  rintro e w2 ⟨g, c, b1, b2, rfl, hrow, ht, hb2⟩
  have hB2 := hB1.trans (hb2.mono hB1.size)
  clear K2' hb2 hB1
  go_wp2_with fail
  refine (K3.out _).mono ?_
  rintro e w3 ⟨rfl, hb3⟩
  have hba := (Below.refl _ w2).alloc (Nat.le_refl _) (.cells #[.slice (some ⟨g, 0, none⟩) 1 c, .slice (some ⟨b1, 0, none⟩) 1 1, .slice (some ⟨b2, 0, none⟩) 1 1, .int .i64 2, .int .i64 1, .int .i64 0] 45)
  have hb3' := over_trans hba hb3
  have hB3 := hB2.trans (hb3'.mono hB2.size)
  have hr := (RowAt.newA #[.slice (some ⟨g, 0, none⟩) 1 c, .slice (some ⟨b1, 0, none⟩) 1 1, .slice (some ⟨b2, 0, none⟩) 1 1, .int .i64 2, .int .i64 1, .int .i64 0] 45 w2).over hb3
  have r0 := hr 0 _ rfl
  have r2 := hr 2 _ rfl
  have r3 := hr 3 _ rfl
  have r4 := hr 4 _ rfl
  have hrow3 := hrow.over hb3'
  have g0 := hrow3 0 _ rfl
  have g1 := hrow3 1 _ rfl
  have g2 := hrow3 2 _ rfl
  have g3 := hrow3 3 _ rfl
  have t3 := cell_over hb3' _ _ ht
  clear hrow hrow3 ht hr hba hb3 hb3' hB2 K3
  have q3 : (w3.alloc (.cells #[.int .i64 1] 3)).cell? ⟨w3.heap.size, 0, none⟩ = some (.int .i64 1) := by simp [go_sem]
  have K4 := hide (sameInts_one b2 w3.heap.size _ (cell_over ((Below.refl _ w3).alloc (Nat.le_refl _) _) _ _ t3) q3)
  have hB4 : Below w.heap.size w (w3.alloc (.cells #[.int .i64 1] 3)) := hB3.alloc hB3.size _
  go_wp2_with fail
  refine (K4.out).mono ?_
  rintro e w4 ⟨rfl, n, rfl⟩
  have hB5 := below_drewN hB4 n
  go_wp2_with fail
  go_ret
  exact ⟨rfl, hB5⟩
set_option maxHeartbeats 4000000 in
set_option maxRecDepth 100000 in
theorem evals_any (k : Nat) (cs : List Value) (d : D) (vv : Value) (vs : List Int) (w : World) (h : RX w k cs d) (hv : IsInts w vv vs) (hl : vs.length ≤ 9223372036854775807) :
    Calls Try.prog 3 #[.agg cs.toArray, vv] w fun e w' => e = .returned (.bool true) ∧ Below w.heap.size w w' := by
  have K1 := hide fun W hB => eval_any k cs d W vv vs (h.over hB) (hv.over hB) hl
  have K2 := hide fun W hB => checkEval_any k cs d W vv vs (h.over hB) (hv.over hB) hl
  have K3 := hide fun (h0 : evalErr vs k d = 0) W hB => val_any vs (evalErr_zero h h0).2 k cs d W vv (h.over hB) (evalErr_zero h h0).1 (hv.over hB)
  have K4 := hide begun_any
  obtain ⟨ao, cap, rfl⟩ := h.form
  obtain ⟨kd, hkd⟩ : ∃ q, q = kindOf d := ⟨_, rfl⟩
  obtain ⟨n, hn⟩ : ∃ q, q = numOf d := ⟨_, rfl⟩
  obtain ⟨dl, hdl⟩ : ∃ q, q = (argsOf d).length := ⟨_, rfl⟩
  rw [← hkd, ← hn, ← hdl] at K1 K2 K3 ⊢
  clear hkd hn hdl
  obtain ⟨va, vc, rfl, hvc⟩ := hv
  clear hvc h
  have hvl : evalVal vs k d = if evalErr vs k d = 0 then valX vs k d else 0 := rfl
  rw [hvl] at K1
  clear hvl
  obtain ⟨c, hc⟩ : ∃ q, q = evalErr vs k d := ⟨_, rfl⟩
  obtain ⟨r, hr⟩ : ∃ q, q = valX vs k d := ⟨_, rfl⟩
  rw [← hc, ← hr] at K1
  rw [← hc] at K2
  rw [← hc, ← hr] at K3
  clear hc hr
  obtain ⟨W0, hW0⟩ : ∃ q, q = (w.alloc (.cells #[.int .i64 kd, .int .i64 n, .slice ao dl cap] 24)) := ⟨_, rfl⟩
  have e0 : (w.alloc (.cells #[.int .i64 kd, .int .i64 n, .slice ao dl cap] 24)).cell? ⟨w.heap.size, 0, none⟩ = some (.int .i64 kd) := by simp [go_sem]
  have e1 : (w.alloc (.cells #[.int .i64 kd, .int .i64 n, .slice ao dl cap] 24)).cell? ⟨w.heap.size, 1, none⟩ = some (.int .i64 n) := by simp [go_sem]
  have e2 : (w.alloc (.cells #[.int .i64 kd, .int .i64 n, .slice ao dl cap] 24)).cell? ⟨w.heap.size, 2, none⟩ = some (.slice ao dl cap) := by simp [go_sem]
  have hbel : Below w.heap.size w (w.alloc (.cells #[.int .i64 kd, .int .i64 n, .slice ao dl cap] 24)) := (Below.refl _ w).alloc (Nat.le_refl _) _
  show Calls Try.prog 3 #[.agg #[.int .i64 kd, .int .i64 n, .slice ao dl cap], .slice va vs.length vc] w _
  by_cases h0 : c = 0
  · subst h0
    rw [if_pos rfl] at K1
    have K3' := hide (K3.out rfl)
    clear K3 hW0
    go_enter Try.func3, Try.ntmps3
    go_wp2_with fail
    refine (K1.out _ hbel).mono ?_
    rintro e w1 ⟨rfl, hb1⟩
    have hB1 := hbel.trans (hb1.mono hbel.size)
    have e01 := cell_over hb1 _ _ e0
    have e11 := cell_over hb1 _ _ e1
    have e21 := cell_over hb1 _ _ e2
    clear hb1 K1 e0 e1 e2 hbel
    go_wp2_with fail
    refine (K2.out _ hB1).mono ?_
    rintro e w2 ⟨rfl, hb2⟩
    have hB2 := hB1.trans (hb2.mono hB1.size)
    have e02 := cell_over hb2 _ _ e01
    have e12 := cell_over hb2 _ _ e11
    have e22 := cell_over hb2 _ _ e21
    clear hb2 K2 e01 e11 e21 hB1
    go_wp2_with fail
    refine (K3'.out _ hB2).mono ?_
    rintro e w3 ⟨rfl, hb3⟩
    have hB3 := hB2.trans (hb3.mono hB2.size)
    clear hb3 hB2 e02 e12 e22
    go_wp2_with fail
    refine (K4.out _).mono ?_
    rintro e w4 ⟨rfl, hb4⟩
    have hB4 := hB3.trans (hb4.mono hB3.size)
    clear hb4 hB3
    go_wp2_with fail
    go_ret
    exact ⟨by simp, hB4⟩
  · rw [if_neg h0] at K1
    clear K3 hW0
    go_enter Try.func3, Try.ntmps3
    go_wp2_with fail
    refine (K1.out _ hbel).mono ?_
    rintro e w1 ⟨rfl, hb1⟩
    have hB1 := hbel.trans (hb1.mono hbel.size)
    have e01 := cell_over hb1 _ _ e0
    have e11 := cell_over hb1 _ _ e1
    have e21 := cell_over hb1 _ _ e2
    clear hb1 K1 e0 e1 e2 hbel
    go_wp2_with fail
    refine (K2.out _ hB1).mono ?_
    rintro e w2 ⟨rfl, hb2⟩
    have hB2 := hB1.trans (hb2.mono hB1.size)
    have e02 := cell_over hb2 _ _ e01
    have e12 := cell_over hb2 _ _ e11
    have e22 := cell_over hb2 _ _ e21
    clear hb2 K2 e01 e11 e21 hB1
    go_wp2_with fail
    refine (K4.out _).mono ?_
    rintro e w4 ⟨rfl, hb4⟩
    have hB4 := hB2.trans (hb4.mono hB2.size)
    clear hb4 hB2
    go_wp2_with fail
    go_ret
    exact ⟨by simp, hB4⟩
end Go.Proofs.Ytcbbjjenkommeaa.Ex
