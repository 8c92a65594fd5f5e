/- Levels that are inferred, while commands ask. -/
import Derived.Test.YtcbbjjenkommeaaM14
namespace Go.Proofs.Ytcbbjjenkommeaa.Ex
open Go.RowKit
set_option linter.unusedVariables false
/-- blocks that turn while levels are inferred. -/
def XI (c : WC) (bm : Nat) : World → Nat → Prop := fun _ k => (∃ a, c.la = some a ∧ k = a.block) ∨ (∃ a, c.ka = some a ∧ k = a.block) ∨ k = bm
theorem xiOk (c : WC) (bm : Nat) : XOk (XI c bm) := ⟨fun _ _ _ _ h => h⟩
/-- where all lies. -/
structure InfC (c : WC) (w0 : World) (bw bm : Nat) : Prop where
  la : ∀ a, c.la = some a → a.off = 0 ∧ a.spot = none ∧ w0.heap.size ≤ a.block ∧ a.block ≠ bw ∧ a.block ≠ bm
  ka : ∀ a, c.ka = some a → a.off = 0 ∧ a.spot = none ∧ w0.heap.size ≤ a.block ∧ a.block ≠ bw ∧ a.block ≠ bm
  lk : ∀ a b, c.la = some a → c.ka = some b → a.block ≠ b.block
  m : w0.heap.size ≤ bm ∧ bw ≠ bm
structure InfI (c : WC) (w0 : World) (nv nf bw bm : Nat) (st : ISt) (W : World) : Prop where
  below : Below w0.heap.size w0 W
  vs : IsLevsO c.n (XI c bm) W (.slice c.la c.ln c.lc) st.vs
  fs : IsLevsO c.n (XI c bm) W (.slice c.ka c.kn c.kc) st.fs
  lv : st.vs.length = nv
  lf : st.fs.length = nf
  more : W.cell? ⟨bm, 0, none⟩ = some (.bool st.more)
  mz : W.frozen? ⟨bm, 0, none⟩ = false
  row : RowAt c.cs W bw
  hl : ∀ a, c.la = some a → a.block < W.heap.size ∧ ∀ j, W.frozen? ⟨a.block, j, none⟩ = false
  hk : ∀ a, c.ka = some a → a.block < W.heap.size ∧ ∀ j, W.frozen? ⟨a.block, j, none⟩ = false
theorem xi_lt {c : WC} {w0 : World} {nv nf bw bm : Nat} {st : ISt} {W : World} (hC : InfC c w0 bw bm) (h : InfI c w0 nv nf bw bm st W) {W' : World} (k : Nat) (hx : XI c bm W' k) : k < W.heap.size := by
  rcases hx with ⟨a, e, rfl⟩ | ⟨a, e, rfl⟩ | rfl
  · exact (h.hl a e).1
  · exact (h.hk a e).1
  · exact World.block_lt_of_cell? W _ h.more
theorem InfI.over {c : WC} {w0 : World} {nv nf bw bm : Nat} {st : ISt} {W W' : World} (h : InfI c w0 nv nf bw bm st W) (hb : Below W.heap.size W W') : InfI c w0 nv nf bw bm st W' :=
  ⟨h.below.trans (hb.mono h.below.size), h.vs.over (xiOk c bm) hb, h.fs.over (xiOk c bm) hb, h.lv, h.lf, cell_over hb _ _ h.more, ((bcell hb).2 _ _ (World.block_lt_of_cell? W _ h.more)).trans h.mz, h.row.over hb,
    fun a e => ⟨Nat.lt_of_lt_of_le (h.hl a e).1 hb.size, fun j => ((bcell hb).2 _ _ (h.hl a e).1).trans ((h.hl a e).2 j)⟩, fun a e => ⟨Nat.lt_of_lt_of_le (h.hk a e).1 hb.size, fun j => ((bcell hb).2 _ _ (h.hk a e).1).trans ((h.hk a e).2 j)⟩⟩
theorem winvI {c : WC} {w0 : World} {nv bw bm : Nat} {fs : List FnD} {gs : List (Int × Int)} (n1 : 1 ≤ c.n) (n6 : c.n ≤ 6) (gr : IsGrants w0 (.slice c.ga c.gn c.gc) gs) (chk : chkErr c.n gs = 0) (nv16 : nv ≤ 16) (hC : InfC c w0 bw bm) : WInv c w0 nv fs gs ISt.vs ISt.fs (InfI c w0 nv fs.length bw bm) (XI c bm) :=
  ⟨n1, n6, gr, chk, nv16, fun st W h => h.below, fun st W h => ⟨h.vs, h.lv⟩, fun st W h => ⟨h.fs, h.lf⟩, fun st W W' h hb => h.over hb, xiOk c bm, fun st W h k hx => xi_lt hC h k hx⟩

theorem set_far {W : World} {b o b' o' : Nat} {u : Value} (h : b ≠ b' ∨ o ≠ o') : (W.setCell ⟨b, o, none⟩ u).cell? ⟨b', o', none⟩ = W.cell? ⟨b', o', none⟩ :=
  World.cell?_setCell_other _ _ _ _ (by intro e; injection e with e1 e2; rcases h with h | h; exact h e1; exact h e2)
/-- a row of levels, one of which is set. -/
theorem IsLevsO.set {n : Nat} {X : World → Nat → Prop} {W W3 : World} {b i cap : Nat} {Ls : List Lev} {x y : Value} {l : Lev} (n1 : 1 ≤ n) (h : IsLevsO n X W (.slice (some ⟨b, 0, none⟩) Ls.length cap) Ls) (hi : i < Ls.length) (hl : LevO n X W3 (.agg #[x, y]) l)
    (hF : FrW X W W3) (e0 : W3.cell? ⟨b, i * 2, none⟩ = some x) (e1 : W3.cell? ⟨b, i * 2 + 1, none⟩ = some y) (hc : ∀ j u, j ≠ i * 2 → j ≠ i * 2 + 1 → W.cell? ⟨b, j, none⟩ = some u → W3.cell? ⟨b, j, none⟩ = some u) : IsLevsO n X W3 (.slice (some ⟨b, 0, none⟩) Ls.length cap) (Ls.set i l) := by
  obtain ⟨ao, cap', hv, hel⟩ := h
  injection hv with v1 v2 v3
  subst v1
  refine ⟨some ⟨b, 0, none⟩, cap, by simp, fun _ => ⟨b, 0, rfl, fun j hj => ?_⟩⟩
  obtain ⟨b', o', hb', hel⟩ := hel (by intro h; rw [h] at hi; simp at hi)
  injection hb' with hb'
  injection hb' with hb1 hb2
  subst hb1 hb2
  simp only [Nat.zero_add] at hel ⊢
  by_cases hij : i = j
  · subst hij
    refine ⟨x, y, e0, e1, ?_⟩
    rw [List.getElem_set_self]
    exact hl
  · obtain ⟨rv, wv, c0, c1, ho⟩ := hel j (by simpa using hj)
    refine ⟨rv, wv, hc _ _ (by omega) (by omega) c0, hc _ _ (by omega) (by omega) c1, ?_⟩
    rw [List.getElem_set_ne hij]
    exact ho.keep n1 hF
theorem IsLevsO.keep {n : Nat} {X : World → Nat → Prop} {W W3 : World} {v : Value} {Ls : List Lev} (n1 : 1 ≤ n) (h : IsLevsO n X W v Ls) (hF : FrW X W W3) (hc : ∀ b o ln cp, v = .slice (some ⟨b, o, none⟩) ln cp → ∀ j u, W.cell? ⟨b, j, none⟩ = some u → W3.cell? ⟨b, j, none⟩ = some u) : IsLevsO n X W3 v Ls := by
  obtain ⟨ao, cap, hv, hel⟩ := h
  refine ⟨ao, cap, hv, fun hne => ?_⟩
  obtain ⟨b, off, hao, hel⟩ := hel hne
  refine ⟨b, off, hao, fun i hi => ?_⟩
  obtain ⟨rv, wv, h1, h2, h3⟩ := hel i hi
  have hk := hc b off _ _ (by rw [hv, hao])
  exact ⟨rv, wv, hk _ _ h1, hk _ _ h2, h3.keep n1 hF⟩

/-- one level becomes more. -/
theorem InfC.upd {c : WC} {w0 : World} {nv nf bw bm b : Nat} {st : ISt} {W W3 : World} {i : Bool × Nat} {l : Lev} {x y : Value} (hC : InfC c w0 bw bm) (h : InfI c w0 nv nf bw bm st W) (hn : 1 ≤ c.n ∧ (if i.1 = true then c.la else c.ka) = some ⟨b, 0, none⟩) (hb3 : Below W.heap.size W W3) (hl : LevO c.n (XI c bm) W3 (.agg #[x, y]) l)
    (h1 : i.1 = true → i.2 < nv) (h2 : i.1 = false → i.2 < nf) :
    InfI c w0 nv nf bw bm (st.up i l) (((W3.setCell ⟨b, i.2 * 2, none⟩ x).setCell ⟨b, i.2 * 2 + 1, none⟩ y).setCell ⟨bm, 0, none⟩ (.bool true)) ∧ FrW (XI c bm) W (((W3.setCell ⟨b, i.2 * 2, none⟩ x).setCell ⟨b, i.2 * 2 + 1, none⟩ y).setCell ⟨bm, 0, none⟩ (.bool true)) := by
  obtain ⟨n1, hib⟩ := hn
  have h3 := h.over hb3
  obtain ⟨W', hW'⟩ : ∃ W', W' = (((W3.setCell ⟨b, i.2 * 2, none⟩ x).setCell ⟨b, i.2 * 2 + 1, none⟩ y).setCell ⟨bm, 0, none⟩ (.bool true)) := ⟨_, rfl⟩
  rw [← hW']
  have hxb : XI c bm W3 b := by
    by_cases hi : i.1 = true
    · rw [if_pos hi] at hib; exact Or.inl ⟨_, hib, rfl⟩
    · rw [if_neg hi] at hib; exact Or.inr (Or.inl ⟨_, hib, rfl⟩)
  have hbm : b ≠ bm ∧ b ≠ bw ∧ w0.heap.size ≤ b := by
    by_cases hi : i.1 = true
    · rw [if_pos hi] at hib; have := hC.la _ hib; exact ⟨this.2.2.2.2, this.2.2.2.1, this.2.2.1⟩
    · rw [if_neg hi] at hib; have := hC.ka _ hib; exact ⟨this.2.2.2.2, this.2.2.2.1, this.2.2.1⟩
  have hsz : W'.heap.size = W3.heap.size := by rw [hW']; simp [World.setCell]
  have hblk : ∀ k, k ≠ b → k ≠ bm → W'.heap[k]? = W3.heap[k]? := fun k hk hm => by
    rw [hW', heap_set_other (Ne.symm hm), heap_set_other (Ne.symm hk), heap_set_other (Ne.symm hk)]
  have hF3 : FrW (XI c bm) W3 W' := by
    refine ⟨by rw [hW']; rfl, by rw [hW']; rfl, by rw [hW']; rfl, by omega, fun k _ hx => hblk k (fun e => hx (e ▸ hxb)) (fun e => hx (Or.inr (Or.inr e))), fun k _ hx => hx⟩
  have hF := (FrW.of_below (xiOk c bm) hb3).trans hF3
  have cne : ∀ b' o' u, b' ≠ b → b' ≠ bm → W3.cell? ⟨b', o', none⟩ = some u → W'.cell? ⟨b', o', none⟩ = some u := fun b' o' u hb hm hc => (World.cell?_of_block (a := ⟨b', o', none⟩) (hblk b' hb hm)).trans hc
  have cin : ∀ j u, j ≠ i.2 * 2 → j ≠ i.2 * 2 + 1 → W3.cell? ⟨b, j, none⟩ = some u → W'.cell? ⟨b, j, none⟩ = some u := fun j u hj hj' hc => by
    rw [hW', set_far (Or.inl hbm.1.symm), set_far (Or.inr (Ne.symm hj')), set_far (Or.inr (Ne.symm hj))]
    exact hc
  have fzz : ∀ b' j, W'.frozen? ⟨b', j, none⟩ = W3.frozen? ⟨b', j, none⟩ := fun b' j => by rw [hW']; simp [go_sem]
  have hl' := hl.keep n1 hF3
  have exs : (∃ u, W3.cell? ⟨b, i.2 * 2, none⟩ = some u) ∧ ∃ u, W3.cell? ⟨b, i.2 * 2 + 1, none⟩ = some u := by
    by_cases hi : i.1 = true
    · rw [if_pos hi] at hib
      have hlt := h1 hi
      obtain ⟨ao, cap, hv, hel⟩ := h3.vs
      injection hv with v1 v2 v3
      obtain ⟨b', o', hb', hel⟩ := hel (by intro e; have := h3.lv; rw [e] at this; simp at this; omega)
      rw [← v1, hib] at hb'
      injection hb' with hb'
      injection hb' with hb1 hb2
      subst hb1 hb2
      obtain ⟨rv, wv, c0, c1, -⟩ := hel i.2 (by have := h3.lv; omega)
      simp only [Nat.zero_add] at c0 c1
      exact ⟨⟨_, c0⟩, _, c1⟩
    · rw [if_neg hi] at hib
      have hlt := h2 (by simpa using hi)
      obtain ⟨ao, cap, hv, hel⟩ := h3.fs
      injection hv with v1 v2 v3
      obtain ⟨b', o', hb', hel⟩ := hel (by intro e; have := h3.lf; rw [e] at this; simp at this; omega)
      rw [← v1, hib] at hb'
      injection hb' with hb'
      injection hb' with hb1 hb2
      subst hb1 hb2
      obtain ⟨rv, wv, c0, c1, -⟩ := hel i.2 (by have := h3.lf; omega)
      simp only [Nat.zero_add] at c0 c1
      exact ⟨⟨_, c0⟩, _, c1⟩
  obtain ⟨⟨u0, hu0⟩, u1, hu1⟩ := exs
  have e0 : W'.cell? ⟨b, i.2 * 2, none⟩ = some x := by
    rw [hW', set_far (Or.inl hbm.1.symm), set_far (Or.inr (by omega))]
    exact World.cell?_setCell_same _ _ _ hu0
  have e1 : W'.cell? ⟨b, i.2 * 2 + 1, none⟩ = some y := by
    rw [hW', set_far (Or.inl hbm.1.symm)]
    exact World.cell?_setCell_same _ _ _ (u := u1) (by rw [set_far (Or.inr (by omega))]; exact hu1)
  have hBel : Below w0.heap.size w0 W' := by
    rw [hW']
    exact ((h3.below.setCell (p := ⟨b, i.2 * 2, none⟩) hbm.2.2 _).setCell (p := ⟨b, i.2 * 2 + 1, none⟩) hbm.2.2 _).setCell (p := ⟨bm, 0, none⟩) hC.m.1 _
  have hm : W'.cell? ⟨bm, 0, none⟩ = some (.bool true) := by
    rw [hW']
    exact World.cell?_setCell_same _ _ _ (u := .bool st.more) (by rw [set_far (Or.inl hbm.1), set_far (Or.inl hbm.1)]; exact h3.more)
  have hrw : RowAt c.cs W' bw := fun j u hu => cne _ _ _ (Ne.symm hbm.2.1) hC.m.2 (h3.row j u hu)
  refine ⟨?_, hF⟩
  by_cases hi : i.1 = true
  · rw [if_pos hi] at hib
    have hst : st.up i l = ⟨st.vs.set i.2 l, st.fs, true⟩ := by unfold ISt.up; rw [if_pos hi]
    rw [hst]
    obtain ⟨ao, cap, hv, -⟩ := h3.vs
    injection hv with v1 v2 v3
    refine ⟨hBel, ?_, h3.fs.keep n1 hF3 (fun b' o' ln cp hv j u hc => ?_), by simpa using h3.lv, h3.lf, hm, (fzz _ _).trans h3.mz, hrw, fun a e => ⟨by rw [hsz]; exact (h3.hl a e).1, fun j => (fzz _ _).trans ((h3.hl a e).2 j)⟩, fun a e => ⟨by rw [hsz]; exact (h3.hk a e).1, fun j => (fzz _ _).trans ((h3.hk a e).2 j)⟩⟩
    · have := h3.vs
      rw [hib, v2] at this ⊢
      exact IsLevsO.set n1 this (by have := h1 hi; have := h3.lv; omega) hl' hF3 e0 e1 cin
    · injection hv with v1' v2' v3'
      exact cne _ _ _ (fun e => hC.lk _ _ hib v1' e.symm) (hC.ka _ v1').2.2.2.2 hc
  · rw [if_neg hi] at hib
    have hst : st.up i l = ⟨st.vs, st.fs.set i.2 l, true⟩ := by unfold ISt.up; rw [if_neg hi]
    rw [hst]
    obtain ⟨ao, cap, hv, -⟩ := h3.fs
    injection hv with v1 v2 v3
    refine ⟨hBel, h3.vs.keep n1 hF3 (fun b' o' ln cp hv j u hc => ?_), ?_, h3.lv, by simpa using h3.lf, hm, (fzz _ _).trans h3.mz, hrw, fun a e => ⟨by rw [hsz]; exact (h3.hl a e).1, fun j => (fzz _ _).trans ((h3.hl a e).2 j)⟩, fun a e => ⟨by rw [hsz]; exact (h3.hk a e).1, fun j => (fzz _ _).trans ((h3.hk a e).2 j)⟩⟩
    · injection hv with v1' v2' v3'
      exact cne _ _ _ (fun e => hC.lk _ _ v1' hib e) (hC.la _ v1').2.2.2.2 hc
    · have := h3.fs
      rw [hib, v2] at this ⊢
      exact IsLevsO.set n1 this (by have := h2 (by simpa using hi); have := h3.lf; omega) hl' hF3 e0 e1 cin
theorem callInf (args : Array Value) (w : World) : (callFunc 39 args).run Try.prog w = .ok (.enter 39 args) w := by simp [go_sem]
theorem InfI.lev {c : WC} {w0 : World} {nv nf bw bm b off : Nat} {st : ISt} {W : World} {i : Bool × Nat} (hC : InfC c w0 bw bm) (h : InfI c w0 nv nf bw bm st W) (hib : (if i.1 = true then c.la else c.ka) = some ⟨b, off, none⟩) (h1 : i.1 = true → i.2 < nv) (h2 : i.1 = false → i.2 < nf) :
    off = 0 ∧ (b < W.heap.size ∧ ∀ j, W.frozen? ⟨b, j, none⟩ = false) ∧ b ≠ bw ∧ b ≠ bm ∧ ∃ rv wv, W.cell? ⟨b, i.2 * 2, none⟩ = some rv ∧ W.cell? ⟨b, i.2 * 2 + 1, none⟩ = some wv ∧ LevO c.n (XI c bm) W (.agg #[rv, wv]) (st.at i) := by
  unfold ISt.at
  by_cases hi : i.1 = true
  · rw [if_pos hi] at hib ⊢
    have hlt := h1 hi
    have hca := hC.la _ hib
    have ho : off = 0 := hca.1
    subst ho
    obtain ⟨ao, cap, hv, hel⟩ := h.vs
    injection hv with v1 v2 v3
    obtain ⟨b', o', hb', hel⟩ := hel (by intro e; have := h.lv; rw [e] at this; simp at this; omega)
    rw [← v1, hib] at hb'
    injection hb' with hb'
    injection hb' with hb1 hb2
    subst hb1 hb2
    have hlt2 : i.2 < st.vs.length := by have := h.lv; omega
    obtain ⟨rv, wv, c0, c1, hl⟩ := hel i.2 hlt2
    simp only [Nat.zero_add] at c0 c1
    refine ⟨rfl, h.hl _ hib, hca.2.2.2.1, hca.2.2.2.2, rv, wv, c0, c1, ?_⟩
    have e : st.vs.getD i.2 noLev = st.vs[i.2] := by simp [List.getD_eq_getElem?_getD, hlt2]
    rw [e]
    exact hl
  · rw [if_neg hi] at hib ⊢
    have hlt := h2 (by simpa using hi)
    have hca := hC.ka _ hib
    have ho : off = 0 := hca.1
    subst ho
    obtain ⟨ao, cap, hv, hel⟩ := h.fs
    injection hv with v1 v2 v3
    obtain ⟨b', o', hb', hel⟩ := hel (by intro e; have := h.lf; rw [e] at this; simp at this; omega)
    rw [← v1, hib] at hb'
    injection hb' with hb'
    injection hb' with hb1 hb2
    subst hb1 hb2
    have hlt2 : i.2 < st.fs.length := by have := h.lf; omega
    obtain ⟨rv, wv, c0, c1, hl⟩ := hel i.2 hlt2
    simp only [Nat.zero_add] at c0 c1
    refine ⟨rfl, h.hk _ hib, hca.2.2.2.1, hca.2.2.2.2, rv, wv, c0, c1, ?_⟩
    have e : st.fs.getD i.2 noLev = st.fs[i.2] := by simp [List.getD_eq_getElem?_getD, hlt2]
    rw [e]
    exact hl

set_option maxHeartbeats 4000000 in
set_option maxRecDepth 100000 in
theorem flowInf (c : WC) (w0 : World) (nv bw bm : Nat) (fs : List FnD) (gs : List (Int × Int)) (n1 : 1 ≤ c.n) (gr : IsGrants w0 (.slice c.ga c.gn c.gc) gs) (chk : chkErr c.n gs = 0) (hC : InfC c w0 bw bm) :
    FlowOk c nv fs (InfI c w0 nv fs.length bw bm) (XI c bm) (flowI c.n) 39 (.pointer (some ⟨bw, 0, none⟩)) (.pointer (some ⟨bm, 0, none⟩)) := by
  intro st W v l i b off hI hl hi1 hi2 hib
  obtain ⟨rfl, ⟨hbl, hfz⟩, hbw, hbm, rv, wv, c0, c1, hlv⟩ := InfI.lev hC hI hib hi1 hi2
  obtain ⟨p1, q1, r1, p2, q2, r2, rfl⟩ := hl.form
  obtain ⟨m1, m2, m3, m4, m5, m6, hform⟩ := hlv.form
  simp at hform
  obtain ⟨rfl, rfl⟩ := hform
  have hba : Below W.heap.size W (W.alloc (.cells #[.slice p1 q1 r1, .slice p2 q2 r2] 62)) := (Below.refl _ W).alloc (Nat.le_refl _) _
  have hI1 := hI.over hba
  have hl1 := hl.over (xiOk c bm) hba
  have hlv1 := hlv.over (xiOk c bm) hba
  have l0 := cell_over hba _ _ c0
  have l1 := cell_over hba _ _ c1
  have L0 := hide l0
  have L1 := hide l1
  have rowB := RowAt.new [.slice p1 q1 r1, .slice p2 q2 r2] 62 W
  have hgr := isGrants_over gr hI1.below
  have KF := hide fun (W2 : World) (hb2 : Below (W.alloc (.cells #[.slice p1 q1 r1, .slice p2 q2 r2] 62)).heap.size (W.alloc (.cells #[.slice p1 q1 r1, .slice p2 q2 r2] 62)) W2) => flowsW (c.n : Int) c.ga c.gn c.gc c.sa c.sn c.sc c.ya c.yn c.yc c.oa c.on c.oc c.va c.vn c.vc c.fa c.fn c.fc c.ba c.bn c.bc c.la c.ln c.lc c.ka c.kn c.kc gs (.slice p1 q1 r1) (.slice p2 q2 r2) (.slice m1 m2 m3) (.slice m4 m5 m6) l (st.at i) W2 (isGrants_over hgr hb2) (levAt_over hl1.at_ hb2) (levAt_over hlv1.at_ hb2) (lTwo_of chk hl1.len hlv1.len)
  have KJ := hide fun (W2 : World) (hb2 : Below (W.alloc (.cells #[.slice p1 q1 r1, .slice p2 q2 r2] 62)).heap.size (W.alloc (.cells #[.slice p1 q1 r1, .slice p2 q2 r2] 62)) W2) => joinW (c.n : Int) c.ga c.gn c.gc c.sa c.sn c.sc c.ya c.yn c.yc c.oa c.on c.oc c.va c.vn c.vc c.fa c.fn c.fc c.ba c.bn c.bc c.la c.ln c.lc c.ka c.kn c.kc gs (.slice m1 m2 m3) (.slice m4 m5 m6) (.slice p1 q1 r1) (.slice p2 q2 r2) (st.at i) l W2 (isGrants_over hgr hb2) (levAt_over hlv1.at_ hb2) (levAt_over hl1.at_ hb2) (lTwo_of chk hlv1.len hl1.len)
  simp only [Int.toNat_natCast] at KF
  obtain ⟨fb, hfb⟩ : ∃ q, q = flowsB l (st.at i) c.n := ⟨_, rfl⟩
  rw [← hfb] at KF
  have HFB := hide hfb.symm
  have HC := hide hC
  have HI := hide hI1
  have HR := hide hI1.row
  have HRB := hide rowB
  have HIB := hide (And.intro n1 hib)
  have HF0 := hide (FrW.of_below (xiOk c bm) hba)
  have HBL := hide (show b < (W.alloc (.cells #[.slice p1 q1 r1, .slice p2 q2 r2] 62)).heap.size by simp; omega)
  have HFZ := hide (show ∀ j, (W.alloc (.cells #[.slice p1 q1 r1, .slice p2 q2 r2] 62)).frozen? ⟨b, j, none⟩ = false from fun j => ((bcell hba).2 _ _ hbl).trans (hfz j))
  have HML := hide (World.block_lt_of_cell? _ _ hI1.more)
  have HMZ := hide hI1.mz
  have HMC := hide hI1.more
  have HNE := hide (Ne.symm hbm)
  have HBN := hide hbw
  have HBN2 := hide (show b ≠ W.heap.size by omega)
  have HR1 := hide hi1
  have HR2 := hide hi2
  have t0 := hI1.row 0 _ rfl
  have t1 := hI1.row 1 _ rfl
  have t2 := hI1.row 2 _ rfl
  have t3 := hI1.row 3 _ rfl
  have t4 := hI1.row 4 _ rfl
  have t5 := hI1.row 5 _ rfl
  have t6 := hI1.row 6 _ rfl
  have t7 := hI1.row 7 _ rfl
  have t8 := hI1.row 8 _ rfl
  have t9 := hI1.row 9 _ rfl
  have b0 := rowB 0 _ rfl
  have b1 := rowB 1 _ rfl
  have hS0 : (W.alloc (.cells #[.slice p1 q1 r1, .slice p2 q2 r2] 62)).cell? ⟨bw, 0, none⟩ = some (.int .i64 (c.n : Int)) ∧ (W.alloc (.cells #[.slice p1 q1 r1, .slice p2 q2 r2] 62)).cell? ⟨bw, 1, none⟩ = some (.slice c.ga c.gn c.gc) ∧ (W.alloc (.cells #[.slice p1 q1 r1, .slice p2 q2 r2] 62)).cell? ⟨bw, 2, none⟩ = some (.slice c.sa c.sn c.sc) ∧ (W.alloc (.cells #[.slice p1 q1 r1, .slice p2 q2 r2] 62)).cell? ⟨bw, 3, none⟩ = some (.slice c.ya c.yn c.yc) ∧ (W.alloc (.cells #[.slice p1 q1 r1, .slice p2 q2 r2] 62)).cell? ⟨bw, 4, none⟩ = some (.slice c.oa c.on c.oc) ∧ (W.alloc (.cells #[.slice p1 q1 r1, .slice p2 q2 r2] 62)).cell? ⟨bw, 5, none⟩ = some (.slice c.va c.vn c.vc) ∧ (W.alloc (.cells #[.slice p1 q1 r1, .slice p2 q2 r2] 62)).cell? ⟨bw, 6, none⟩ = some (.slice c.fa c.fn c.fc) ∧ (W.alloc (.cells #[.slice p1 q1 r1, .slice p2 q2 r2] 62)).cell? ⟨bw, 7, none⟩ = some (.slice c.ba c.bn c.bc) ∧ (W.alloc (.cells #[.slice p1 q1 r1, .slice p2 q2 r2] 62)).cell? ⟨bw, 8, none⟩ = some (.slice c.la c.ln c.lc) ∧ (W.alloc (.cells #[.slice p1 q1 r1, .slice p2 q2 r2] 62)).cell? ⟨bw, 9, none⟩ = some (.slice c.ka c.kn c.kc) ∧ (W.alloc (.cells #[.slice p1 q1 r1, .slice p2 q2 r2] 62)).cell? ⟨W.heap.size, 0, none⟩ = some (.slice p1 q1 r1) ∧ (W.alloc (.cells #[.slice p1 q1 r1, .slice p2 q2 r2] 62)).cell? ⟨W.heap.size, 1, none⟩ = some (.slice p2 q2 r2) ∧ (W.alloc (.cells #[.slice p1 q1 r1, .slice p2 q2 r2] 62)).cell? ⟨b, i.2 * 2, none⟩ = some (.slice m1 m2 m3) ∧ (W.alloc (.cells #[.slice p1 q1 r1, .slice p2 q2 r2] 62)).cell? ⟨b, i.2 * 2 + 1, none⟩ = some (.slice m4 m5 m6) := ⟨t0, t1, t2, t3, t4, t5, t6, t7, t8, t9, b0, b1, l0, l1⟩
  clear hI hl hlv hI1 hl1 hlv1 rowB hgr hfb hba c0 c1 hfz hi1 hi2 hC gr chk hbw hbm hbl hib n1
  go_enter Try.func39, Try.ntmps39
  rw [Nat.zero_add]
  cases fb with
  | true =>
    go_wp2_with fail
    refine wp_region_held_drew (S := fun Wz => Wz.cell? ⟨bw, 0, none⟩ = some (.int .i64 (c.n : Int)) ∧ Wz.cell? ⟨bw, 1, none⟩ = some (.slice c.ga c.gn c.gc) ∧ Wz.cell? ⟨bw, 2, none⟩ = some (.slice c.sa c.sn c.sc) ∧ Wz.cell? ⟨bw, 3, none⟩ = some (.slice c.ya c.yn c.yc) ∧ Wz.cell? ⟨bw, 4, none⟩ = some (.slice c.oa c.on c.oc) ∧ Wz.cell? ⟨bw, 5, none⟩ = some (.slice c.va c.vn c.vc) ∧ Wz.cell? ⟨bw, 6, none⟩ = some (.slice c.fa c.fn c.fc) ∧ Wz.cell? ⟨bw, 7, none⟩ = some (.slice c.ba c.bn c.bc) ∧ Wz.cell? ⟨bw, 8, none⟩ = some (.slice c.la c.ln c.lc) ∧ Wz.cell? ⟨bw, 9, none⟩ = some (.slice c.ka c.kn c.kc) ∧ Wz.cell? ⟨W.heap.size, 0, none⟩ = some (.slice p1 q1 r1) ∧ Wz.cell? ⟨W.heap.size, 1, none⟩ = some (.slice p2 q2 r2) ∧ Wz.cell? ⟨b, i.2 * 2, none⟩ = some (.slice m1 m2 m3) ∧ Wz.cell? ⟨b, i.2 * 2 + 1, none⟩ = some (.slice m4 m5 m6)) (by kernel_rfl) (hS0) (fun hHeld => ?_)
    refine tk (i := 0) (oi := ⟨some 6, .fieldAddr 88 (.tmp 2) 0, 0, "infer.go:32", #[], none⟩) (v := ?_) (Or.inl ⟨by rfl, ?_⟩) (by assumption) ?_
    rotate_left
    · intro w' hSw
      (try dsimp only at hSw)
      go_simp
      try with_reducible rfl
    try simp only [aput]
    refine tk (i := 1) (oi := ⟨some 7, .load 86 (.tmp 6), 86, "infer.go:32", #[⟨0, .data⟩], none⟩) (v := ?_) (Or.inl ⟨by rfl, ?_⟩) (by assumption) ?_
    rotate_left
    · intro w' hSw
      (try dsimp only at hSw)
      go_simp
      try with_reducible rfl
    try simp only [aput]
    refine tk (i := 2) (oi := ⟨some 8, .load 62 (.tmp 4), 62, "infer.go:32", #[], none⟩) (v := ?_) (Or.inl ⟨by rfl, ?_⟩) (by assumption) ?_
    rotate_left
    · intro w' hSw
      (try dsimp only at hSw)
      go_simp
      try with_reducible rfl
    try simp only [aput]
    refine tk (i := 3) (oi := ⟨some 9, .move (.tmp 1), 91, "infer.go:32", #[], none⟩) (v := ?_) (Or.inl ⟨by rfl, ?_⟩) (by assumption) ?_
    rotate_left
    · intro w' hSw
      (try dsimp only at hSw)
      go_simp
      try with_reducible rfl
    try simp only [aput]
    refine tk (i := 4) (oi := ⟨some 10, .nilCheck (.tmp 9), 0, "infer.go:32", #[⟨3, .data⟩], none⟩) (v := ?_) (Or.inl ⟨by rfl, ?_⟩) (by assumption) ?_
    rotate_left
    · intro w' hSw
      (try dsimp only at hSw)
      go_simp
      try with_reducible rfl
    try simp only [aput]
    refine tk (i := 5) (oi := ⟨some 11, .load 62 (.tmp 10), 62, "infer.go:32", #[⟨4, .data⟩], none⟩) (v := ?_) (Or.inl ⟨by rfl, ?_⟩) (by assumption) ?_
    rotate_left
    · intro w' hSw
      (try dsimp only at hSw)
      go_simp
      try with_reducible rfl
    try simp only [aput]
    refine wpAnyH_ready (rs := [6]) (by kernel_rfl) (by simp) ?_
    refine (AllReadyH.cons (o := { dst := some 12, op := Go.Op.call { callee := Go.Callee.value (Go.Operand.func 40), args := #[Go.Operand.tmp 7, Go.Operand.tmp 8, Go.Operand.tmp 11], argTypes := #[86, 62, 62] }, type := 4, pos := "infer.go:32", after := #[⟨1, .data⟩, ⟨2, .data⟩, ⟨5, .data⟩], guard := none }) rfl (fun K hK => ?_) AllReadyH.nil)
    go_simp
    refine (KF.out _ ((Below.refl _ _).drew)).mono ?_
    rintro e W2 ⟨rfl, hb2⟩
    have hbz := over_trans ((Below.refl _ (W.alloc (.cells #[.slice p1 q1 r1, .slice p2 q2 r2] 62))).drew) hb2
    have hr0 := HR.out.over hbz
    have hr1 := HRB.out.over hbz
    have hS2 : W2.cell? ⟨bw, 0, none⟩ = some (.int .i64 (c.n : Int)) ∧ W2.cell? ⟨bw, 1, none⟩ = some (.slice c.ga c.gn c.gc) ∧ W2.cell? ⟨bw, 2, none⟩ = some (.slice c.sa c.sn c.sc) ∧ W2.cell? ⟨bw, 3, none⟩ = some (.slice c.ya c.yn c.yc) ∧ W2.cell? ⟨bw, 4, none⟩ = some (.slice c.oa c.on c.oc) ∧ W2.cell? ⟨bw, 5, none⟩ = some (.slice c.va c.vn c.vc) ∧ W2.cell? ⟨bw, 6, none⟩ = some (.slice c.fa c.fn c.fc) ∧ W2.cell? ⟨bw, 7, none⟩ = some (.slice c.ba c.bn c.bc) ∧ W2.cell? ⟨bw, 8, none⟩ = some (.slice c.la c.ln c.lc) ∧ W2.cell? ⟨bw, 9, none⟩ = some (.slice c.ka c.kn c.kc) ∧ W2.cell? ⟨W.heap.size, 0, none⟩ = some (.slice p1 q1 r1) ∧ W2.cell? ⟨W.heap.size, 1, none⟩ = some (.slice p2 q2 r2) ∧ W2.cell? ⟨b, i.2 * 2, none⟩ = some (.slice m1 m2 m3) ∧ W2.cell? ⟨b, i.2 * 2 + 1, none⟩ = some (.slice m4 m5 m6) := ⟨hr0 0 _ rfl, hr0 1 _ rfl, hr0 2 _ rfl, hr0 3 _ rfl, hr0 4 _ rfl, hr0 5 _ rfl, hr0 6 _ rfl, hr0 7 _ rfl, hr0 8 _ rfl, hr0 9 _ rfl, hr1 0 _ rfl, hr1 1 _ rfl, cell_over hbz _ _ l0, cell_over hbz _ _ l1⟩
    have HBZ := hide hbz
    clear hr0 hr1 hb2 hbz
    go_simp
    refine hK.out _ _ (hS2) (fun hHeld => ?_)
    clear hK K
    try simp only [aput]
    refine wpAnyH_ready (rs := [7]) (by kernel_rfl) (by simp) ?_
    refine (AllReadyH.cons (o := ⟨some 13, .unOp .not 4 (.tmp 12), 4, "infer.go:32", #[⟨6, .data⟩], none⟩) rfl (fun K hK => ?_) AllReadyH.nil)
    go_simp
    refine hK.out _ _ (hS2) (fun hHeld => ?_)
    clear hK K
    try simp only [aput]
    refine wpAnyH_done (by kernel_rfl) ?_ _
    go_wp2_with fail
    go_end0
    refine ⟨rfl, ?_, HF0.out.trans (FrW.of_below (xiOk c bm) HBZ.out)⟩
    unfold flowI
    rw [if_pos HFB.out]
    exact HI.out.over HBZ.out
  | false =>
    go_wp2_with fail
    refine wp_region_held_drew (S := fun Wz => Wz.cell? ⟨bw, 0, none⟩ = some (.int .i64 (c.n : Int)) ∧ Wz.cell? ⟨bw, 1, none⟩ = some (.slice c.ga c.gn c.gc) ∧ Wz.cell? ⟨bw, 2, none⟩ = some (.slice c.sa c.sn c.sc) ∧ Wz.cell? ⟨bw, 3, none⟩ = some (.slice c.ya c.yn c.yc) ∧ Wz.cell? ⟨bw, 4, none⟩ = some (.slice c.oa c.on c.oc) ∧ Wz.cell? ⟨bw, 5, none⟩ = some (.slice c.va c.vn c.vc) ∧ Wz.cell? ⟨bw, 6, none⟩ = some (.slice c.fa c.fn c.fc) ∧ Wz.cell? ⟨bw, 7, none⟩ = some (.slice c.ba c.bn c.bc) ∧ Wz.cell? ⟨bw, 8, none⟩ = some (.slice c.la c.ln c.lc) ∧ Wz.cell? ⟨bw, 9, none⟩ = some (.slice c.ka c.kn c.kc) ∧ Wz.cell? ⟨W.heap.size, 0, none⟩ = some (.slice p1 q1 r1) ∧ Wz.cell? ⟨W.heap.size, 1, none⟩ = some (.slice p2 q2 r2) ∧ Wz.cell? ⟨b, i.2 * 2, none⟩ = some (.slice m1 m2 m3) ∧ Wz.cell? ⟨b, i.2 * 2 + 1, none⟩ = some (.slice m4 m5 m6)) (by kernel_rfl) (hS0) (fun hHeld => ?_)
    refine tk (i := 0) (oi := ⟨some 6, .fieldAddr 88 (.tmp 2) 0, 0, "infer.go:32", #[], none⟩) (v := ?_) (Or.inl ⟨by rfl, ?_⟩) (by assumption) ?_
    rotate_left
    · intro w' hSw
      (try dsimp only at hSw)
      go_simp
      try with_reducible rfl
    try simp only [aput]
    refine tk (i := 1) (oi := ⟨some 7, .load 86 (.tmp 6), 86, "infer.go:32", #[⟨0, .data⟩], none⟩) (v := ?_) (Or.inl ⟨by rfl, ?_⟩) (by assumption) ?_
    rotate_left
    · intro w' hSw
      (try dsimp only at hSw)
      go_simp
      try with_reducible rfl
    try simp only [aput]
    refine tk (i := 2) (oi := ⟨some 8, .load 62 (.tmp 4), 62, "infer.go:32", #[], none⟩) (v := ?_) (Or.inl ⟨by rfl, ?_⟩) (by assumption) ?_
    rotate_left
    · intro w' hSw
      (try dsimp only at hSw)
      go_simp
      try with_reducible rfl
    try simp only [aput]
    refine tk (i := 3) (oi := ⟨some 9, .move (.tmp 1), 91, "infer.go:32", #[], none⟩) (v := ?_) (Or.inl ⟨by rfl, ?_⟩) (by assumption) ?_
    rotate_left
    · intro w' hSw
      (try dsimp only at hSw)
      go_simp
      try with_reducible rfl
    try simp only [aput]
    refine tk (i := 4) (oi := ⟨some 10, .nilCheck (.tmp 9), 0, "infer.go:32", #[⟨3, .data⟩], none⟩) (v := ?_) (Or.inl ⟨by rfl, ?_⟩) (by assumption) ?_
    rotate_left
    · intro w' hSw
      (try dsimp only at hSw)
      go_simp
      try with_reducible rfl
    try simp only [aput]
    refine tk (i := 5) (oi := ⟨some 11, .load 62 (.tmp 10), 62, "infer.go:32", #[⟨4, .data⟩], none⟩) (v := ?_) (Or.inl ⟨by rfl, ?_⟩) (by assumption) ?_
    rotate_left
    · intro w' hSw
      (try dsimp only at hSw)
      go_simp
      try with_reducible rfl
    try simp only [aput]
    refine wpAnyH_ready (rs := [6]) (by kernel_rfl) (by simp) ?_
    refine (AllReadyH.cons (o := { dst := some 12, op := Go.Op.call { callee := Go.Callee.value (Go.Operand.func 40), args := #[Go.Operand.tmp 7, Go.Operand.tmp 8, Go.Operand.tmp 11], argTypes := #[86, 62, 62] }, type := 4, pos := "infer.go:32", after := #[⟨1, .data⟩, ⟨2, .data⟩, ⟨5, .data⟩], guard := none }) rfl (fun K hK => ?_) AllReadyH.nil)
    go_simp
    refine (KF.out _ ((Below.refl _ _).drew)).mono ?_
    rintro e W2 ⟨rfl, hb2⟩
    have hbz := over_trans ((Below.refl _ (W.alloc (.cells #[.slice p1 q1 r1, .slice p2 q2 r2] 62))).drew) hb2
    have hr0 := HR.out.over hbz
    have hr1 := HRB.out.over hbz
    have hS2 : W2.cell? ⟨bw, 0, none⟩ = some (.int .i64 (c.n : Int)) ∧ W2.cell? ⟨bw, 1, none⟩ = some (.slice c.ga c.gn c.gc) ∧ W2.cell? ⟨bw, 2, none⟩ = some (.slice c.sa c.sn c.sc) ∧ W2.cell? ⟨bw, 3, none⟩ = some (.slice c.ya c.yn c.yc) ∧ W2.cell? ⟨bw, 4, none⟩ = some (.slice c.oa c.on c.oc) ∧ W2.cell? ⟨bw, 5, none⟩ = some (.slice c.va c.vn c.vc) ∧ W2.cell? ⟨bw, 6, none⟩ = some (.slice c.fa c.fn c.fc) ∧ W2.cell? ⟨bw, 7, none⟩ = some (.slice c.ba c.bn c.bc) ∧ W2.cell? ⟨bw, 8, none⟩ = some (.slice c.la c.ln c.lc) ∧ W2.cell? ⟨bw, 9, none⟩ = some (.slice c.ka c.kn c.kc) ∧ W2.cell? ⟨W.heap.size, 0, none⟩ = some (.slice p1 q1 r1) ∧ W2.cell? ⟨W.heap.size, 1, none⟩ = some (.slice p2 q2 r2) ∧ W2.cell? ⟨b, i.2 * 2, none⟩ = some (.slice m1 m2 m3) ∧ W2.cell? ⟨b, i.2 * 2 + 1, none⟩ = some (.slice m4 m5 m6) := ⟨hr0 0 _ rfl, hr0 1 _ rfl, hr0 2 _ rfl, hr0 3 _ rfl, hr0 4 _ rfl, hr0 5 _ rfl, hr0 6 _ rfl, hr0 7 _ rfl, hr0 8 _ rfl, hr0 9 _ rfl, hr1 0 _ rfl, hr1 1 _ rfl, cell_over hbz _ _ l0, cell_over hbz _ _ l1⟩
    have HBZ := hide hbz
    clear hr0 hr1 hb2 hbz
    go_simp
    refine hK.out _ _ (hS2) (fun hHeld => ?_)
    clear hK K
    try simp only [aput]
    refine wpAnyH_ready (rs := [7]) (by kernel_rfl) (by simp) ?_
    refine (AllReadyH.cons (o := ⟨some 13, .unOp .not 4 (.tmp 12), 4, "infer.go:32", #[⟨6, .data⟩], none⟩) rfl (fun K hK => ?_) AllReadyH.nil)
    go_simp
    refine hK.out _ _ (hS2) (fun hHeld => ?_)
    clear hK K
    try simp only [aput]
    refine wpAnyH_done (by kernel_rfl) ?_ _
    clear hS0 t0 t1 t2 t3 t4 t5 t6 t7 t8 t9 b0 b1
    have l0 := cell_over HBZ.out _ _ l0
    have l1 := cell_over HBZ.out _ _ l1
    have t0 := HR.out.over HBZ.out 0 _ rfl
    have t1 := HR.out.over HBZ.out 1 _ rfl
    have t2 := HR.out.over HBZ.out 2 _ rfl
    have t3 := HR.out.over HBZ.out 3 _ rfl
    have t4 := HR.out.over HBZ.out 4 _ rfl
    have t5 := HR.out.over HBZ.out 5 _ rfl
    have t6 := HR.out.over HBZ.out 6 _ rfl
    have t7 := HR.out.over HBZ.out 7 _ rfl
    have t8 := HR.out.over HBZ.out 8 _ rfl
    have t9 := HR.out.over HBZ.out 9 _ rfl
    have b0 := HRB.out.over HBZ.out 0 _ rfl
    have b1 := HRB.out.over HBZ.out 1 _ rfl
    have hS0 : W2.cell? ⟨bw, 0, none⟩ = some (.int .i64 (c.n : Int)) ∧ W2.cell? ⟨bw, 1, none⟩ = some (.slice c.ga c.gn c.gc) ∧ W2.cell? ⟨bw, 2, none⟩ = some (.slice c.sa c.sn c.sc) ∧ W2.cell? ⟨bw, 3, none⟩ = some (.slice c.ya c.yn c.yc) ∧ W2.cell? ⟨bw, 4, none⟩ = some (.slice c.oa c.on c.oc) ∧ W2.cell? ⟨bw, 5, none⟩ = some (.slice c.va c.vn c.vc) ∧ W2.cell? ⟨bw, 6, none⟩ = some (.slice c.fa c.fn c.fc) ∧ W2.cell? ⟨bw, 7, none⟩ = some (.slice c.ba c.bn c.bc) ∧ W2.cell? ⟨bw, 8, none⟩ = some (.slice c.la c.ln c.lc) ∧ W2.cell? ⟨bw, 9, none⟩ = some (.slice c.ka c.kn c.kc) ∧ W2.cell? ⟨W.heap.size, 0, none⟩ = some (.slice p1 q1 r1) ∧ W2.cell? ⟨W.heap.size, 1, none⟩ = some (.slice p2 q2 r2) := ⟨t0, t1, t2, t3, t4, t5, t6, t7, t8, t9, b0, b1⟩
    clear hS2
    go_wp2_with fail
    refine wp_region_held_drew (S := fun Wz => Wz.cell? ⟨bw, 0, none⟩ = some (.int .i64 (c.n : Int)) ∧ Wz.cell? ⟨bw, 1, none⟩ = some (.slice c.ga c.gn c.gc) ∧ Wz.cell? ⟨bw, 2, none⟩ = some (.slice c.sa c.sn c.sc) ∧ Wz.cell? ⟨bw, 3, none⟩ = some (.slice c.ya c.yn c.yc) ∧ Wz.cell? ⟨bw, 4, none⟩ = some (.slice c.oa c.on c.oc) ∧ Wz.cell? ⟨bw, 5, none⟩ = some (.slice c.va c.vn c.vc) ∧ Wz.cell? ⟨bw, 6, none⟩ = some (.slice c.fa c.fn c.fc) ∧ Wz.cell? ⟨bw, 7, none⟩ = some (.slice c.ba c.bn c.bc) ∧ Wz.cell? ⟨bw, 8, none⟩ = some (.slice c.la c.ln c.lc) ∧ Wz.cell? ⟨bw, 9, none⟩ = some (.slice c.ka c.kn c.kc) ∧ Wz.cell? ⟨W.heap.size, 0, none⟩ = some (.slice p1 q1 r1) ∧ Wz.cell? ⟨W.heap.size, 1, none⟩ = some (.slice p2 q2 r2)) (by kernel_rfl) (hS0) (fun hHeld => ?_)
    refine tk (i := 0) (oi := ⟨some 14, .move (.tmp 1), 91, "infer.go:33", #[], none⟩) (v := ?_) (Or.inl ⟨by rfl, ?_⟩) (by assumption) ?_
    rotate_left
    · intro w' hSw
      (try dsimp only at hSw)
      go_simp
      try with_reducible rfl
    try simp only [aput]
    refine tk (i := 1) (oi := ⟨some 15, .fieldAddr 88 (.tmp 2) 0, 0, "infer.go:33", #[], none⟩) (v := ?_) (Or.inl ⟨by rfl, ?_⟩) (by assumption) ?_
    rotate_left
    · intro w' hSw
      (try dsimp only at hSw)
      go_simp
      try with_reducible rfl
    try simp only [aput]
    refine tk (i := 2) (oi := ⟨some 16, .load 86 (.tmp 15), 86, "infer.go:33", #[⟨1, .data⟩], none⟩) (v := ?_) (Or.inl ⟨by rfl, ?_⟩) (by assumption) ?_
    rotate_left
    · intro w' hSw
      (try dsimp only at hSw)
      go_simp
      try with_reducible rfl
    try simp only [aput]
    refine tk (i := 3) (oi := ⟨some 17, .move (.tmp 1), 91, "infer.go:33", #[], none⟩) (v := ?_) (Or.inl ⟨by rfl, ?_⟩) (by assumption) ?_
    rotate_left
    · intro w' hSw
      (try dsimp only at hSw)
      go_simp
      try with_reducible rfl
    try simp only [aput]
    refine tk (i := 4) (oi := ⟨some 18, .nilCheck (.tmp 17), 0, "infer.go:33", #[⟨3, .data⟩], none⟩) (v := ?_) (Or.inl ⟨by rfl, ?_⟩) (by assumption) ?_
    rotate_left
    · intro w' hSw
      (try dsimp only at hSw)
      go_simp
      try with_reducible rfl
    try simp only [aput]
    refine tk (i := 6) (oi := ⟨some 20, .load 62 (.tmp 4), 62, "infer.go:33", #[], none⟩) (v := ?_) (Or.inl ⟨by rfl, ?_⟩) (by assumption) ?_
    rotate_left
    · intro w' hSw
      (try dsimp only at hSw)
      go_simp
      try with_reducible rfl
    try simp only [aput]
    refine wpAnyH_ready (rs := [5]) (by kernel_rfl) (by simp) ?_
    refine (AllReadyH.cons (o := ⟨some 19, .load 62 (.tmp 18), 62, "infer.go:33", #[⟨4, .data⟩], none⟩) rfl (fun K hK => ?_) AllReadyH.nil)
    go_simp
    refine hK.out _ _ (hHeld) (fun hHeld => ?_)
    clear hK K
    try simp only [aput]
    refine wpAnyH_ready (rs := [7]) (by kernel_rfl) (by simp) ?_
    refine (AllReadyH.cons (o := { dst := some 21, op := Go.Op.call { callee := Go.Callee.value (Go.Operand.func 41), args := #[Go.Operand.tmp 16, Go.Operand.tmp 19, Go.Operand.tmp 20], argTypes := #[86, 62, 62] }, type := 62, pos := "infer.go:33", after := #[⟨2, .data⟩, ⟨5, .data⟩, ⟨6, .data⟩], guard := none }) rfl (fun K hK => ?_) AllReadyH.nil)
    go_simp
    refine (KJ.out W2.drew (over_trans HBZ.out ((Below.refl _ _).drew))).mono ?_
    rintro e W3 ⟨vj, rfl, hfr, hb3⟩
    have hfr2 : LevFresh W2.drew W3 vj (joinL (st.at i) l c.n) := by simpa using hfr
    obtain ⟨k1, k2, k3, k4, k5, k6, hvj⟩ : ∃ a1 a2 a3 a4 a5 a6, vj = .agg #[.slice a1 a2 a3, .slice a4 a5 a6] := by
      obtain ⟨x, y, e, -⟩ := levAt_fresh hfr2
      subst e
      obtain ⟨z1, z2, z3, z4, z5, z6, rfl, rfl⟩ := lev_slices (levAt_fresh hfr2)
      exact ⟨_, _, _, _, _, _, rfl⟩
    subst hvj
    have hbz := over_trans (over_trans HBZ.out ((Below.refl _ W2).drew)) hb3
    have hr0 := HR.out.over hbz
    have hr1 := HRB.out.over hbz
    have hS3 : W3.cell? ⟨bw, 0, none⟩ = some (.int .i64 (c.n : Int)) ∧ W3.cell? ⟨bw, 1, none⟩ = some (.slice c.ga c.gn c.gc) ∧ W3.cell? ⟨bw, 2, none⟩ = some (.slice c.sa c.sn c.sc) ∧ W3.cell? ⟨bw, 3, none⟩ = some (.slice c.ya c.yn c.yc) ∧ W3.cell? ⟨bw, 4, none⟩ = some (.slice c.oa c.on c.oc) ∧ W3.cell? ⟨bw, 5, none⟩ = some (.slice c.va c.vn c.vc) ∧ W3.cell? ⟨bw, 6, none⟩ = some (.slice c.fa c.fn c.fc) ∧ W3.cell? ⟨bw, 7, none⟩ = some (.slice c.ba c.bn c.bc) ∧ W3.cell? ⟨bw, 8, none⟩ = some (.slice c.la c.ln c.lc) ∧ W3.cell? ⟨bw, 9, none⟩ = some (.slice c.ka c.kn c.kc) ∧ W3.cell? ⟨W.heap.size, 0, none⟩ = some (.slice p1 q1 r1) ∧ W3.cell? ⟨W.heap.size, 1, none⟩ = some (.slice p2 q2 r2) := ⟨hr0 0 _ rfl, hr0 1 _ rfl, hr0 2 _ rfl, hr0 3 _ rfl, hr0 4 _ rfl, hr0 5 _ rfl, hr0 6 _ rfl, hr0 7 _ rfl, hr0 8 _ rfl, hr0 9 _ rfl, hr1 0 _ rfl, hr1 1 _ rfl⟩
    have HBZ3 := hide hbz
    have HFR3 := hide (show LevO c.n (XI c bm) W3 (.agg #[.slice k1 k2 k3, .slice k4 k5 k6]) (joinL (st.at i) l c.n) from ⟨levAt_fresh hfr2, joinL_len' _ _ _, offV_new (xiOk c bm) hb3 (fun k hk => by have := (xi_lt HC.out HI.out k hk); have := hb3.size; have := HBZ.out.size; simp at *; omega) (newL_fresh hfr2)⟩)
    have x0 := cell_over hbz _ _ L0.out
    have x1 := cell_over hbz _ _ L1.out
    have xf0 : W3.frozen? ⟨b, i.2 * 2, none⟩ = false := ((bcell hbz).2 _ _ HBL.out).trans (HFZ.out _)
    have xf1 : W3.frozen? ⟨b, i.2 * 2 + 1, none⟩ = false := ((bcell hbz).2 _ _ HBL.out).trans (HFZ.out _)
    have mz3 : W3.frozen? ⟨bm, 0, none⟩ = false := ((bcell hbz).2 _ _ HML.out).trans HMZ.out
    have mc3 := cell_over hbz _ _ HMC.out
    clear hr0 hr1 hb3 hbz hfr hfr2
    go_simp
    refine hK.out _ _ (hS3) (fun hHeld => ?_)
    clear hK K
    try simp only [aput]
    refine wpAnyH_ready (rs := [8]) (by kernel_rfl) (by simp) ?_
    refine (AllReadyH.cons (o := ⟨some 22, .nilCheck (.tmp 14), 0, "infer.go:33", #[⟨0, .data⟩, ⟨0, .phase⟩, ⟨1, .phase⟩, ⟨2, .phase⟩, ⟨3, .phase⟩, ⟨4, .phase⟩, ⟨5, .phase⟩, ⟨6, .phase⟩, ⟨7, .phase⟩], none⟩) rfl (fun K hK => ?_) AllReadyH.nil)
    go_simp
    refine hK.out _ _ (hS3) (fun hHeld => ?_)
    clear hK K
    try simp only [aput]
    refine wpAnyH_ready (rs := [9]) (by kernel_rfl) (by simp) ?_
    refine (AllReadyH.cons (o := ⟨none, .store 62 (.tmp 22) (.tmp 21), 0, "infer.go:33", #[⟨8, .data⟩, ⟨7, .data⟩, ⟨7, .chain⟩, ⟨0, .phase⟩, ⟨1, .phase⟩, ⟨2, .phase⟩, ⟨3, .phase⟩, ⟨4, .phase⟩, ⟨5, .phase⟩, ⟨6, .phase⟩, ⟨7, .phase⟩], none⟩) rfl (fun K hK => ?_) AllReadyH.nil)
    go_simp
    refine hK.out _ _ (by have hne := HBN.out; have hne2 := HBN2.out; obtain ⟨t0, t1, t2, t3, t4, t5, t6, t7, t8, t9, t10, t11⟩ := hS3; exact ⟨by simp [go_sem, t0], by simp [go_sem, t1], by simp [go_sem, t2], by simp [go_sem, t3], by simp [go_sem, t4], by simp [go_sem, t5], by simp [go_sem, t6], by simp [go_sem, t7], by simp [go_sem, t8], by simp [go_sem, t9], by simp [go_sem, t10], by simp [go_sem, t11]⟩) (fun hHeld => ?_)
    clear hK K
    try simp only [aput]
    refine wpAnyH_done (by kernel_rfl) ?_ _
    have hfin := HC.out.upd HI.out HIB.out HBZ3.out HFR3.out HR1.out HR2.out
    have mc4 : ((W3.setCell ⟨b, i.2 * 2, none⟩ (.slice k1 k2 k3)).setCell ⟨b, i.2 * 2 + 1, none⟩ (.slice k4 k5 k6)).cell? ⟨bm, 0, none⟩ = some (.bool st.more) := by
      have hne := HNE.out
      simp [go_sem, mc3]
    have mz4 : ((W3.setCell ⟨b, i.2 * 2, none⟩ (.slice k1 k2 k3)).setCell ⟨b, i.2 * 2 + 1, none⟩ (.slice k4 k5 k6)).frozen? ⟨bm, 0, none⟩ = false := by simp [go_sem, mz3]
    have HFIN := hide hfin
    clear hfin hS3 x0 x1 xf0 xf1 mc3 mz3
    go_wp2_with fail
    go_end0
    refine ⟨rfl, ?_, HF0.out.trans HFIN.out.2⟩
    unfold flowI
    rw [if_neg (by rw [HFB.out]; simp)]
    exact HFIN.out.1
theorem least_ex {P : Nat → Prop} : ∀ n, P n → ∃ m, P m ∧ ∀ k, P k → m ≤ k := by
  intro n
  induction n using Nat.strongRecOn with
  | ind n ih =>
    intro h
    by_cases hx : ∃ k, k < n ∧ P k
    · obtain ⟨k, hk, hp⟩ := hx
      exact ih k hk hp
    · exact ⟨n, h, fun k hk => Nat.le_of_not_lt fun hlt => hx ⟨k, hlt, hk⟩⟩
theorem least_fun {α : Type} (P : α → Nat → Prop) : ∃ μ : α → Nat, ∀ a n, P a n → P a (μ a) ∧ ∀ k, P a k → μ a ≤ k := by
  have h : ∀ a, ∃ m, ∀ n, P a n → P a m ∧ ∀ k, P a k → m ≤ k := fun a => by
    by_cases hx : ∃ n, P a n
    · obtain ⟨n, hn⟩ := hx
      obtain ⟨m, h1, h2⟩ := least_ex n hn
      exact ⟨m, fun _ _ => ⟨h1, h2⟩⟩
    · exact ⟨0, fun n hn => absurd ⟨n, hn⟩ hx⟩
  exact ⟨fun a => Classical.choose (h a), fun a => Classical.choose_spec (h a)⟩

/-- so many times through all commands. -/
def iterI (n K kf : Nat) (known : List Bool) (ins : List Lev) (fs : List FnD) (main : List D) (st0 : ISt) : Nat → ISt
  | 0 => st0
  | k + 1 => passI n K kf known ins fs main ⟨(iterI n K kf known ins fs main st0 k).vs, (iterI n K kf known ins fs main st0 k).fs, false⟩
/-- levels at first. -/
def init0 (gs : List (Int × Int)) (n : Nat) (vs : List (Bool × Lab)) (nf : Nat) : ISt := ⟨initL gs n vs, List.replicate nf (botL n), true⟩
/-- levels that are inferred. -/
def Inferred (n K kf : Nat) (gs : List (Int × Int)) (vs : List (Bool × Lab)) (ls : List Lab) (fs : List FnD) (main : List D) (st : ISt) : Prop :=
  ∃ k, st = iterI n K kf (vs.map Prod.fst) (ls.map (levOf (gnOf gs) n)) fs main (init0 gs n vs fs.length) (k + 1) ∧ st.more = false ∧ ∀ j, j < k → (iterI n K kf (vs.map Prod.fst) (ls.map (levOf (gnOf gs) n)) fs main (init0 gs n vs fs.length) (j + 1)).more = true

theorem own_at {W : World} {B e s n : Nat} {a : Addr} {ln lc : Nat} {us : List Value} (h : W.ownsRow B e s (.slice (some a) ln lc) n us) : a.off = 0 ∧ a.spot = none ∧ B ≤ a.block ∧ a.block < W.heap.size ∧ ∀ j, W.frozen? ⟨a.block, j, none⟩ = false := by
  rcases h.2 with ⟨h, -⟩ | ⟨g, cap, cur, h, hb, hg, -⟩
  · cases h
  · injection h with h1 h2 h3
    injection h1 with h1
    subst h1
    exact ⟨rfl, rfl, hb, (Array.getElem?_eq_some_iff.1 hg).1, fun j => by simp [World.frozen?, hg]⟩
theorem ownLevs_at {n B : Nat} {W : World} {a : Addr} {ln lc : Nat} {Ls : List Lev} (h : OwnLevs n B W (.slice (some a) ln lc) Ls) : a.off = 0 ∧ a.spot = none ∧ B ≤ a.block ∧ a.block < W.heap.size ∧ ∀ j, W.frozen? ⟨a.block, j, none⟩ = false := by
  obtain ⟨us, ho, -⟩ := h
  exact own_at ho
/-- own rows of levels are rows of levels that are kept. -/
theorem ownLevs_levsO {n B : Nat} {X : World → Nat → Prop} {W : World} {v : Value} {Ls : List Lev} (n1 : 1 ≤ n) (h : OwnLevs n B W v Ls) (hx : ∀ k, X W k → NotB W k ∨ W.heap.size ≤ k) : IsLevsO n X W v Ls := by
  obtain ⟨us, ho, hel⟩ := h
  have hlen := ho.1
  have key : ∀ (u : Value) (l : List Bool), IsBools W u l → l.length = n → T4 W u → ∀ a m c, u = .slice (some a) m c → ¬ X W a.block := by
    intro u l hb hl ht a m c hu hxx
    obtain ⟨cur, fr, he⟩ := ht a m c hu
    rcases hx _ hxx with h | h
    · exact h cur fr he
    · have := (Array.getElem?_eq_some_iff.1 he).1
      omega
  have mk : ∀ (x y : Value) (l : Lev), LevT n W (.agg #[x, y]) l → LevO n X W (.agg #[x, y]) l := by
    intro x y l ht
    obtain ⟨x', y', e, tx, ty⟩ := ht.ty
    simp at e
    obtain ⟨rfl, rfl⟩ := e
    obtain ⟨x', y', e, bx, by'⟩ := ht.at_
    simp at e
    obtain ⟨rfl, rfl⟩ := e
    exact ⟨ht.at_, ht.len, x, y, rfl, key _ _ bx ht.len.1 tx, key _ _ by' ht.len.2 ty⟩
  rcases ho.2 with ⟨h, h0⟩ | ⟨g, cap, cur, h, hb, hg, hc1, hc2, hc3, hc4⟩
  · have : Ls = [] := List.eq_nil_of_length_eq_zero h0
    subst this
    exact ⟨none, 0, h, fun h => absurd rfl h⟩
  · refine ⟨some ⟨g, 0, none⟩, cap, h, fun hne => ⟨g, 0, rfl, fun i hi => ?_⟩⟩
    obtain ⟨x, y, e0, e1, hl⟩ := hel i hi
    have hcell : ∀ j u, us[j]? = some u → W.cell? ⟨g, 0 + j, none⟩ = some u := fun j u hu => by
      rw [Nat.zero_add, Lib.cell_of_heap hg]
      rw [← hc4, List.getElem?_take] at hu
      split at hu
      · simpa using hu
      · cases hu
    exact ⟨x, y, hcell _ _ e0, by have := hcell _ _ e1; simpa [Nat.add_assoc] using this, mk x y _ hl⟩
theorem fnAt_mem {fs : List FnD} {i : Int} (h0 : 0 ≤ i) (h1 : i < fs.length) : fnAt fs i ∈ fs := by
  unfold fnAt
  rw [List.getD_eq_getElem?_getD, List.getElem?_eq_getElem (by omega : i.toNat < fs.length)]
  exact List.getElem_mem _
theorem inr_of {K nv ni no : Nat} {funcs : Int} {fs : List FnD} {d : D} (h : okS1 K nv ni no funcs fs d) (hf : funcs ≤ fs.length) (hp : ∀ f ∈ fs, ∀ p ∈ f.ps, 0 ≤ p ∧ p < (nv : Int)) : inR nv fs.length fs d := by
  obtain ⟨-, hv, h2, -⟩ := h
  refine ⟨fun hk => by have := hv hk; omega, fun hk => ?_⟩
  obtain ⟨⟨a, b⟩, -, -⟩ := h2 hk
  refine ⟨by omega, fun v hv => ?_⟩
  have := hp _ (fnAt_mem a (by omega)) v hv
  omega
/-- a round makes no more bits, and fewer, if something became more. -/
theorem pass_bits (n K kf nv ni no : Nat) (known : List Bool) (ins : List Lev) (fs : List FnD) (main : List D) (st : ISt) (hof : ∀ i (h : i < fs.length), okF K nv ni no (i : Int) fs kf fs[i]) (hom : ∀ s ∈ main, okS K nv ni no (fs.length : Int) fs kf s) :
    BitsI n nv fs.length st (passI n K kf known ins fs main st) := by
  have hp : ∀ f ∈ fs, ∀ p ∈ f.ps, 0 ≤ p ∧ p < (nv : Int) := fun f hf => by
    obtain ⟨i, hi, rfl⟩ := List.getElem_of_mem hf
    exact (hof i hi).2.1
  exact goAll_presP n K ISt.vs _ (P := fun _ _ => True) (Pm := okS K nv ni no (fs.length : Int) fs) (P1 := inR nv fs.length fs) (fun k d h => ⟨inr_of h.1 (by omega) hp, h.2⟩) (Q := fun i k d => i ≤ fs.length ∧ okS K nv ni no (i : Int) fs k d)
    (fun i k d h => ⟨inr_of h.2.1 (by omega) hp, fun s hs => ⟨h.1, h.2.2.1 s hs⟩, fun s hs => ⟨h.1, h.2.2.2 s hs⟩⟩) (R := BitsI n nv fs.length) (BitsI.refl n nv fs.length) BitsI.trans (fun a d p st hd => bits_ask n nv fs.length K known ins fs a d p st hd) ISt.fs kf fs main st
    (fun i hi s hs => ⟨by omega, (hof i hi).2.2.1 s hs⟩) hom

theorem LevO.mono {n : Nat} {X Y : World → Nat → Prop} {W : World} {v : Value} {l : Lev} (n1 : 1 ≤ n) (h : LevO n X W v l) (hx : ∀ k, k < W.heap.size → Y W k → X W k) : LevO n Y W v l := by
  obtain ⟨x, y, hv, h1, h2⟩ := h.off
  obtain ⟨x', y', hv', bx, by'⟩ := h.at_
  rw [hv] at hv'
  simp at hv'
  obtain ⟨rfl, rfl⟩ := hv'
  have lt : ∀ (v : Value) (l : List Bool), IsBools W v l → l.length = n → ∀ a m c, v = .slice (some a) m c → a.block < W.heap.size := by
    intro v l hb hl a m c e
    obtain ⟨ao, cap, hv, hel⟩ := hb
    obtain ⟨b, off, hao, hel⟩ := hel (by rintro rfl; simp at hl; omega)
    rw [hv, hao] at e
    injection e with e1
    injection e1 with e1
    rw [← e1]
    exact World.block_lt_of_cell? W _ (hel 0 (by omega))
  exact ⟨h.at_, h.len, x, y, hv, fun a m c e hh => h1 a m c e (hx _ (lt _ _ bx h.len.1 a m c e) hh), fun a m c e hh => h2 a m c e (hx _ (lt _ _ by' h.len.2 a m c e) hh)⟩
theorem IsLevsO.mono {n : Nat} {X Y : World → Nat → Prop} {W : World} {v : Value} {ls : List Lev} (n1 : 1 ≤ n) (h : IsLevsO n X W v ls) (hx : ∀ k, k < W.heap.size → Y W k → X W k) : IsLevsO n Y W v ls := by
  obtain ⟨ao, cap, hv, hel⟩ := h
  refine ⟨ao, cap, hv, fun hne => ?_⟩
  obtain ⟨b, off, hao, hel⟩ := hel hne
  refine ⟨b, off, hao, fun i hi => ?_⟩
  obtain ⟨rv, wv, h1, h2, h3⟩ := hel i hi
  exact ⟨rv, wv, h1, h2, h3.mono n1 hx⟩

/-- nothing became more yet. -/
theorem InfI.setM {c : WC} {w0 : World} {nv nf bw bm : Nat} {st : ISt} {W : World} {b : Bool} (n1 : 1 ≤ c.n) (hC : InfC c w0 bw bm) (h : InfI c w0 nv nf bw bm st W) : InfI c w0 nv nf bw bm ⟨st.vs, st.fs, b⟩ (W.setCell ⟨bm, 0, none⟩ (.bool b)) := by
  have hsz : (W.setCell ⟨bm, 0, none⟩ (.bool b)).heap.size = W.heap.size := by simp [World.setCell]
  have hblk : ∀ k, k ≠ bm → (W.setCell ⟨bm, 0, none⟩ (.bool b)).heap[k]? = W.heap[k]? := fun k hk => heap_set_other (Ne.symm hk) _
  have hF : FrW (XI c bm) W (W.setCell ⟨bm, 0, none⟩ (.bool b)) := ⟨rfl, rfl, rfl, by omega, fun k _ hx => hblk k (fun e => hx (Or.inr (Or.inr e))), fun k _ hx => hx⟩
  have cne : ∀ b' o' u, b' ≠ bm → W.cell? ⟨b', o', none⟩ = some u → (W.setCell ⟨bm, 0, none⟩ (.bool b)).cell? ⟨b', o', none⟩ = some u := fun b' o' u hm hc => (World.cell?_of_block (a := ⟨b', o', none⟩) (hblk b' hm)).trans hc
  have fzz : ∀ b' j, (W.setCell ⟨bm, 0, none⟩ (.bool b)).frozen? ⟨b', j, none⟩ = W.frozen? ⟨b', j, none⟩ := fun b' j => by simp [go_sem]
  refine ⟨h.below.setCell (p := ⟨bm, 0, none⟩) hC.m.1 _, h.vs.keep n1 hF (fun b' o' ln cp hv j u hc => ?_), h.fs.keep n1 hF (fun b' o' ln cp hv j u hc => ?_), h.lv, h.lf, World.cell?_setCell_same _ _ _ h.more, (fzz _ _).trans h.mz, fun j u hu => cne _ _ _ hC.m.2 (h.row j u hu), fun a e => ⟨by rw [hsz]; exact (h.hl a e).1, fun j => (fzz _ _).trans ((h.hl a e).2 j)⟩, fun a e => ⟨by rw [hsz]; exact (h.hk a e).1, fun j => (fzz _ _).trans ((h.hk a e).2 j)⟩⟩
  · injection hv with v1
    exact cne _ _ _ (hC.la _ v1).2.2.2.2 hc
  · injection hv with v1
    exact cne _ _ _ (hC.ka _ v1).2.2.2.2 hc
/-- a new box for what became more. -/
theorem InfI.newM {c : WC} {w0 : World} {nv nf bw bm : Nat} {st : ISt} {W : World} (n1 : 1 ≤ c.n) (hC : InfC c w0 bw bm) (h : InfI c w0 nv nf bw bm st W) : InfI c w0 nv nf bw W.heap.size st (W.alloc (.cells #[.bool st.more] 4)) := by
  have hb : Below W.heap.size W (W.alloc (.cells #[.bool st.more] 4)) := (Below.refl _ W).alloc (Nat.le_refl _) _
  have hx : ∀ k, k < W.heap.size → XI c W.heap.size W k → XI c bm W k := fun k hk hx => by
    rcases hx with h | h | h
    · exact Or.inl h
    · exact Or.inr (Or.inl h)
    · omega
  exact ⟨h.below.trans (hb.mono h.below.size), (h.vs.mono n1 hx).over (xiOk c _) hb, (h.fs.mono n1 hx).over (xiOk c _) hb, h.lv, h.lf, by simp [go_sem], by simp [go_sem], h.row.over hb,
    fun a e => ⟨Nat.lt_of_lt_of_le (h.hl a e).1 hb.size, fun j => ((bcell hb).2 _ _ (h.hl a e).1).trans ((h.hl a e).2 j)⟩, fun a e => ⟨Nat.lt_of_lt_of_le (h.hk a e).1 hb.size, fun j => ((bcell hb).2 _ _ (h.hk a e).1).trans ((h.hk a e).2 j)⟩⟩
theorem InfC.newM {c : WC} {w0 : World} {nv nf bw bm : Nat} {st : ISt} {W : World} (hC : InfC c w0 bw bm) (h : InfI c w0 nv nf bw bm st W) (hw : bw < W.heap.size) : InfC c w0 bw W.heap.size :=
  ⟨fun a e => by have := hC.la a e; have h2 := (h.hl a e).1; exact ⟨this.1, this.2.1, this.2.2.1, this.2.2.2.1, by omega⟩, fun a e => by have := hC.ka a e; have h2 := (h.hk a e).1; exact ⟨this.1, this.2.1, this.2.2.1, this.2.2.2.1, by omega⟩, hC.lk, h.below.size, by omega⟩
/-- levels are kept, when others that are answered are put into their box. -/
theorem levs_end {n : Nat} {X : World → Nat → Prop} {W : World} {rb : Nat} {x y v : Value} {Ls : List Lev} (h : IsLevsO n X W v Ls) (hr : ∀ j u, W.cell? ⟨rb, j, none⟩ = some u → ∃ a m c, u = .slice a m c) (hv : ∀ a m c, v = .slice (some a) m c → a.block ≠ rb) : IsLevs ((W.setCell ⟨rb, 0, none⟩ x).setCell ⟨rb, 1, none⟩ y) v Ls := by
  have cne : ∀ b' o' u, b' ≠ rb → W.cell? ⟨b', o', none⟩ = some u → ((W.setCell ⟨rb, 0, none⟩ x).setCell ⟨rb, 1, none⟩ y).cell? ⟨b', o', none⟩ = some u := fun b' o' u hm hc => by
    rw [set_far (Or.inl (Ne.symm hm)), set_far (Or.inl (Ne.symm hm))]; exact hc
  have hbo : ∀ u l, IsBools W u l → IsBools ((W.setCell ⟨rb, 0, none⟩ x).setCell ⟨rb, 1, none⟩ y) u l := by
    intro u l ⟨ao, cap, e, hel⟩
    refine ⟨ao, cap, e, fun hne => ?_⟩
    obtain ⟨b, off, hao, hel⟩ := hel hne
    refine ⟨b, off, hao, fun i hi => cne _ _ _ (fun eb => ?_) (hel i hi)⟩
    subst eb
    obtain ⟨a, m, c, e⟩ := hr _ _ (hel i hi)
    cases e
  obtain ⟨ao, cap, hv', hel⟩ := h
  refine ⟨ao, cap, hv', fun hne => ?_⟩
  obtain ⟨b, off, hao, hel⟩ := hel hne
  have hb : b ≠ rb := hv _ _ _ (by rw [hv', hao])
  refine ⟨b, off, hao, fun i hi => ?_⟩
  obtain ⟨rv, wv, h1, h2, h3⟩ := hel i hi
  obtain ⟨x', y', e, bx, by'⟩ := h3.at_
  exact ⟨rv, wv, cne _ _ _ hb h1, cne _ _ _ hb h2, x', y', e, hbo _ _ bx, hbo _ _ by'⟩
end Go.Proofs.Ytcbbjjenkommeaa.Ex
