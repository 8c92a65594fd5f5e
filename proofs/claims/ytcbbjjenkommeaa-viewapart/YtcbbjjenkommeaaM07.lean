/- Whoever goes through commands: what is kept while something is done with each. -/
import Derived.Test.YtcbbjjenkommeaaM06
namespace Go.Proofs.Ytcbbjjenkommeaa.Ex
open Go.RowKit
set_option linter.unusedVariables false
/-- the value of one who goes through commands: a program, and levels. -/
structure WC where
  n : Nat
  ga : Option Addr
  gn : Nat
  gc : Nat
  sa : Option Addr
  sn : Nat
  sc : Nat
  ya : Option Addr
  yn : Nat
  yc : Nat
  oa : Option Addr
  on : Nat
  oc : Nat
  va : Option Addr
  vn : Nat
  vc : Nat
  fa : Option Addr
  fn : Nat
  fc : Nat
  ba : Option Addr
  bn : Nat
  bc : Nat
  la : Option Addr
  ln : Nat
  lc : Nat
  ka : Option Addr
  kn : Nat
  kc : Nat
abbrev WC.v (c : WC) : Value := .agg #[.int .i64 (c.n : Int), .slice c.ga c.gn c.gc, .slice c.sa c.sn c.sc, .slice c.ya c.yn c.yc, .slice c.oa c.on c.oc, .slice c.va c.vn c.vc, .slice c.fa c.fn c.fc, .slice c.ba c.bn c.bc, .slice c.la c.ln c.lc, .slice c.ka c.kn c.kc]
abbrev WC.cs (c : WC) : List Value := [.int .i64 (c.n : Int), .slice c.ga c.gn c.gc, .slice c.sa c.sn c.sc, .slice c.ya c.yn c.yc, .slice c.oa c.on c.oc, .slice c.va c.vn c.vc, .slice c.fa c.fn c.fc, .slice c.ba c.bn c.bc, .slice c.la c.ln c.lc, .slice c.ka c.kn c.kc]

/-- all is kept, but some blocks. -/
structure FrW (X : World → Nat → Prop) (W W' : World) : Prop where
  os : W'.os = W.os
  tape : W'.tape = W.tape
  output : W'.output = W.output
  size : W.heap.size ≤ W'.heap.size
  block : ∀ k, k < W.heap.size → ¬ X W k → W'.heap[k]? = W.heap[k]?
  mov : ∀ k, k < W.heap.size → X W' k → X W k
theorem FrW.trans {X : World → Nat → Prop} {A B C : World} (h : FrW X A B) (k : FrW X B C) : FrW X A C :=
  ⟨k.os.trans h.os, k.tape.trans h.tape, k.output.trans h.output, Nat.le_trans h.size k.size, fun i hi hx => (k.block i (Nat.lt_of_lt_of_le hi h.size) (fun hh => hx (h.mov i hi hh))).trans (h.block i hi hx), fun i hi hx => h.mov i hi (k.mov i (Nat.lt_of_lt_of_le hi h.size) hx)⟩
/-- blocks that may turn: they lie there already, and what is made makes none. -/
structure XOk (X : World → Nat → Prop) : Prop where
  below : ∀ W W', Below W.heap.size W W' → ∀ k, X W' k → X W k
theorem FrW.of_below {X : World → Nat → Prop} (hX : XOk X) {A B : World} (h : Below A.heap.size A B) : FrW X A B := ⟨h.os, h.tape, h.output, h.size, fun k hk _ => h.block k hk, fun k _ hx => hX.below A B h k hx⟩
theorem FrW.refl {X : World → Nat → Prop} (A : World) : FrW X A A := ⟨rfl, rfl, rfl, Nat.le_refl _, fun _ _ _ => rfl, fun _ _ h => h⟩
theorem FrW.cell {X : World → Nat → Prop} {A B : World} (h : FrW X A B) {b j : Nat} {u : Value} (hc : A.cell? ⟨b, j, none⟩ = some u) (hx : ¬ X A b) : B.cell? ⟨b, j, none⟩ = some u :=
  (World.cell?_of_block (h.block b (World.block_lt_of_cell? A _ hc) hx)).trans hc
theorem FrW.frozen {X : World → Nat → Prop} {A B : World} (h : FrW X A B) {b j : Nat} (hb : b < A.heap.size) (hx : ¬ X A b) : B.frozen? ⟨b, j, none⟩ = A.frozen? ⟨b, j, none⟩ := World.frozen?_of_block (h.block b hb hx)
theorem FrW.row {X : World → Nat → Prop} {A B : World} (h : FrW X A B) {b : Nat} {cs : List Value} (hc : RowAt cs A b) (hx : ¬ X A b) : RowAt cs B b := fun j u hu => h.cell (hc j u hu) hx

/-- rows that lie elsewhere. -/
def OffV (P : Nat → Prop) (v : Value) : Prop := ∃ x y, v = .agg #[x, y] ∧ (∀ a n c, x = .slice (some a) n c → ¬ P a.block) ∧ ∀ a n c, y = .slice (some a) n c → ¬ P a.block
/-- a level that is kept. -/
structure LevO (n : Nat) (X : World → Nat → Prop) (W : World) (v : Value) (l : Lev) : Prop where
  at_ : LevAt W v l
  len : l.len n
  off : OffV (X W) v
theorem isBools_fr {X : World → Nat → Prop} {A B : World} {v : Value} {l : List Bool} (h : IsBools A v l) (hf : FrW X A B) (hx : ∀ a n c, v = .slice (some a) n c → ¬ X A a.block) : IsBools B v l := by
  obtain ⟨ao, cap, hv, hel⟩ := h
  refine ⟨ao, cap, hv, fun hne => ?_⟩
  obtain ⟨b, off, hao, hel⟩ := hel hne
  refine ⟨b, off, hao, fun i hi => hf.cell (hel i hi) ?_⟩
  exact hx ⟨b, off, none⟩ l.length cap (by rw [hv, hao])
theorem LevO.keep {n : Nat} {X : World → Nat → Prop} {A B : World} {v : Value} {l : Lev} (h1 : 1 ≤ n) (h : LevO n X A v l) (hf : FrW X A B) : LevO n X B v l := by
  obtain ⟨x, y, hv, hx, hy⟩ := h.off
  obtain ⟨x', y', hv', bx, by'⟩ := h.at_
  rw [hv] at hv'
  simp at hv'
  obtain ⟨rfl, rfl⟩ := hv'
  have lt : ∀ (v : Value) (l : List Bool), IsBools A v l → l.length = n → ∀ a m c, v = .slice (some a) m c → a.block < A.heap.size := by
    intro v l hb hl a m c e
    obtain ⟨ao, cap, hv, hel⟩ := hb
    obtain ⟨b, off, hao, hel⟩ := hel (by rintro rfl; simp at hl; omega)
    rw [hv, hao] at e
    injection e with e1
    injection e1 with e1
    rw [← e1]
    exact World.block_lt_of_cell? A _ (hel 0 (by omega))
  refine ⟨⟨x, y, hv, isBools_fr bx hf hx, isBools_fr by' hf hy⟩, h.len, x, y, hv, fun a m c e hh => hx a m c e (hf.mov _ (lt _ _ bx h.len.1 a m c e) hh), fun a m c e hh => hy a m c e (hf.mov _ (lt _ _ by' h.len.2 a m c e) hh)⟩
theorem LevO.over {n : Nat} {X : World → Nat → Prop} (hX : XOk X) {A B : World} {v : Value} {l : Lev} (h : LevO n X A v l) (hb : Below A.heap.size A B) : LevO n X B v l := by
  obtain ⟨x, y, hv, hx, hy⟩ := h.off
  exact ⟨levAt_over h.at_ hb, h.len, x, y, hv, fun a m c e hh => hx a m c e (hX.below A B hb _ hh), fun a m c e hh => hy a m c e (hX.below A B hb _ hh)⟩
/-- what is made now lies elsewhere. -/
theorem offV_new {X : World → Nat → Prop} (hX : XOk X) {A B : World} (hb : Below A.heap.size A B) (hlt : ∀ k, X A k → k < A.heap.size) {v : Value} (h : NewL A.heap.size v) : OffV (X B) v := by
  obtain ⟨x, y, hv, hx, hy⟩ := h
  refine ⟨x, y, hv, fun a m c e hh => ?_, fun a m c e hh => ?_⟩
  · have := hx a m c e
    have := hlt _ (hX.below A B hb _ hh)
    omega
  · have := hy a m c e
    have := hlt _ (hX.below A B hb _ hh)
    omega

/-- levels in memory that are kept. -/
def IsLevsO (n : Nat) (X : World → Nat → Prop) (w : World) (v : Value) (ls : List Lev) : Prop :=
  ∃ ao cap, v = .slice ao ls.length cap ∧ (ls ≠ [] → ∃ b off, ao = some ⟨b, off, none⟩ ∧ ∀ i (h : i < ls.length), ∃ rv wv, w.cell? ⟨b, off + i * 2, none⟩ = some rv ∧ w.cell? ⟨b, off + i * 2 + 1, none⟩ = some wv ∧ LevO n X w (.agg #[rv, wv]) ls[i])
theorem IsLevsO.levs {n : Nat} {X : World → Nat → Prop} {w : World} {v : Value} {ls : List Lev} (h : IsLevsO n X w v ls) : IsLevs w v ls := by
  obtain ⟨ao, cap, hv, hel⟩ := h
  refine ⟨ao, cap, hv, fun hne => ?_⟩
  obtain ⟨b, off, hao, hel⟩ := hel hne
  refine ⟨b, off, hao, fun i hi => ?_⟩
  obtain ⟨rv, wv, h1, h2, h3⟩ := hel i hi
  exact ⟨rv, wv, h1, h2, h3.at_⟩
theorem IsLevsO.len {n : Nat} {X : World → Nat → Prop} {w : World} {v : Value} {ls : List Lev} (h : IsLevsO n X w v ls) : ∀ x ∈ ls, x.len n := by
  intro x hx
  obtain ⟨i, hi, rfl⟩ := List.getElem_of_mem hx
  obtain ⟨ao, cap, hv, hel⟩ := h
  obtain ⟨b, off, hao, hel⟩ := hel (by rintro rfl; simp at hi)
  obtain ⟨rv, wv, -, -, h3⟩ := hel i hi
  exact h3.len
theorem IsLevsO.over {n : Nat} {X : World → Nat → Prop} (hX : XOk X) {w w' : World} {v : Value} {ls : List Lev} (h : IsLevsO n X w v ls) (hb : Below w.heap.size w w') : IsLevsO n X w' v ls := by
  obtain ⟨ao, cap, hv, hel⟩ := h
  refine ⟨ao, cap, hv, fun hne => ?_⟩
  obtain ⟨b, off, hao, hel⟩ := hel hne
  refine ⟨b, off, hao, fun i hi => ?_⟩
  obtain ⟨rv, wv, h1, h2, h3⟩ := hel i hi
  exact ⟨rv, wv, cell_over hb _ _ h1, cell_over hb _ _ h2, h3.over hX hb⟩

/-- With, of one value. -/
theorem withC (c : WC) (h1 : 1 ≤ c.n) (h6 : c.n ≤ 6) (gs : List (Int × Int)) (Ls : List Lev) (X : World → Nat → Prop) (hX : XOk X) (v : Value) (l : Lev) (K : Nat) (cs : List Value) (d : D) (w : World)
    (hg : IsGrants w (.slice c.ga c.gn c.gc) gs) (hE : chkErr c.n gs = 0) (hL : IsLevsO c.n X w (.slice c.la c.ln c.lc) Ls) (hl : LevO c.n X w v l) (hlm : Ls.length ≤ 16) (hlt : ∀ k, X w k → k < w.heap.size)
    (hx : RX w K cs d) (hv : ∀ x ∈ varsX K d, 0 ≤ x ∧ x < (Ls.length : Int)) :
    Calls Try.prog 78 #[c.v, v, .agg cs.toArray] w fun e w' =>
      (∃ p1 q1 r1 p2 q2 r2, e = .returned (.agg #[.slice p1 q1 r1, .slice p2 q2 r2]) ∧ LevO c.n X w' (.agg #[.slice p1 q1 r1, .slice p2 q2 r2]) (withL c.n Ls l (varsX K d))) ∧ Below w.heap.size w w' := by
  obtain ⟨ys, hys⟩ := valOf Ls.length _ hv
  obtain ⟨xa, xc, rfl⟩ := hx.form
  obtain ⟨x, y, rfl, -⟩ := hl.at_
  obtain ⟨p1, q1, r1, p2, q2, r2, rfl, rfl⟩ := lev_slices hl.at_
  refine (withW' c.n h1 h6 c.ga c.gn c.gc c.sa c.sn c.sc c.ya c.yn c.yc c.oa c.on c.oc c.va c.vn c.vc c.fa c.fn c.fc c.ba c.bn c.bc c.la c.ln c.lc c.ka c.kn c.kc gs Ls p1 q1 r1 p2 q2 r2 l K _ _ xa _ xc d ys w hg hE hL.levs hL.len hl.at_ hl.len (by omega) hx hys).mono ?_
  rintro e w' ⟨⟨v, rfl, hv2, hd⟩, hb⟩
  refine ⟨?_, hb⟩
  have hv3 := hv2
  have ho : OffV (X w') v := by
    rcases hd with rfl | hd
    · exact (hl.over hX hb).off
    · exact offV_new hX hb hlt hd
  have hlen := with_len (L := Ls) (varsX K d) l hl.len
  obtain ⟨x, y, rfl, -⟩ := hv2
  obtain ⟨a1, a2, a3, a4, a5, a6, rfl, rfl⟩ := lev_slices hv3
  exact ⟨_, _, _, _, _, _, rfl, hv3, hlen, ho⟩
theorem varsX_err {m : Int} : ∀ (k : Nat) (d : D), (∀ x ∈ listX k d, errX m (kindOf x) (numOf x) (argsOf x).length = 0) → ∀ v ∈ varsX k d, 0 ≤ v ∧ v < m
  | 0, _, _, v, hv => by simp [varsX] at hv
  | k + 1, d, h, v, hv => by
    unfold varsX at hv
    have h0 := errX_zero (h d (by simp [listX]))
    by_cases h2 : kindOf d = 2
    · rw [if_pos h2] at hv
      simp at hv
      subst hv
      omega
    · rw [if_neg h2] at hv
      obtain ⟨a, ha, hv⟩ := List.mem_flatMap.1 hv
      exact varsX_err k a (fun x hx => h x (by simp only [listX, List.mem_cons, List.mem_flatMap]; exact Or.inr ⟨a, ha, hx⟩)) v hv
theorem varsX_check {m : Int} {k : Nat} {d : D} (h : checkX m k d = 0) : ∀ v ∈ varsX k d, 0 ≤ v ∧ v < m := by
  unfold checkX at h
  split at h
  · omega
  · exact varsX_err k d (firstX_zero h)
theorem varsX_nil {k : Nat} {d : D} (h0 : kindOf d = 0) (ha : argsOf d = []) : varsX k d = [] := by
  cases k with
  | zero => rfl
  | succ k => unfold varsX; rw [if_neg (by omega), ha]; rfl
theorem varsX_stmt {K nv ni no : Nat} {funcs : Int} {fs : List FnD} {d : D} (h : okS1 K nv ni no funcs fs d) : ∀ v ∈ varsX K (sExpr d), 0 ≤ v ∧ v < (nv : Int) := by
  obtain ⟨h1, -, -, -, h5, h6, -⟩ := h
  by_cases hk : sKind d = 2 ∨ sKind d = 3
  · rw [varsX_nil (h6 hk).1 (h6 hk).2]
    intro v hv
    cases hv
  · exact varsX_check (h5 (by omega))

section
variable {σ : Type} (c : WC) (w0 : World) (K nv ni no : Nat) (fs : List FnD) (gs : List (Int × Int)) (lev flev : σ → List Lev) (Inv : σ → World → Prop) (X : World → Nat → Prop)
/-- what holds while commands are gone through. -/
structure WInv : Prop where
  n1 : 1 ≤ c.n
  n6 : c.n ≤ 6
  gr : IsGrants w0 (.slice c.ga c.gn c.gc) gs
  chk : chkErr c.n gs = 0
  nv16 : nv ≤ 16
  below : ∀ st W, Inv st W → Below w0.heap.size w0 W
  levs : ∀ st W, Inv st W → IsLevsO c.n X W (.slice c.la c.ln c.lc) (lev st) ∧ (lev st).length = nv
  flevs : ∀ st W, Inv st W → IsLevsO c.n X W (.slice c.ka c.kn c.kc) (flev st) ∧ (flev st).length = fs.length
  over : ∀ st W W', Inv st W → Below W.heap.size W W' → Inv st W'
  xok : XOk X
  xlt : ∀ st W, Inv st W → ∀ k, X W k → k < W.heap.size
/-- something that is done with a command. -/
def DoOk (step : Int → D → Lev → σ → σ) (F : FuncId) (e1 e2 e3 : Value) : Prop :=
  ∀ (st : σ) (W : World) (a : Int) (k : Nat) (cs : List Value) (d : D) (v : Value) (p : Lev) (funcs : Int), Inv st W → RS w0 K (k + 1) cs d → funcs ≤ fs.length → okS1 K nv ni no funcs fs d → LevO c.n X W v p → 0 ≤ a → a ≤ 100 →
    Calls Try.prog F #[.int .i64 a, .agg cs.toArray, v, e1, e2, e3] W fun e W' => e = .returned (.tuple #[]) ∧ Inv (step a d p st) W' ∧ FrW X W W'
end

section
variable {σ : Type} {c : WC} {w0 : World} {K nv ni no : Nat} {fs : List FnD} {gs : List (Int × Int)} {lev flev : σ → List Lev} {Inv : σ → World → Prop} {X : World → Nat → Prop}
theorem goOne_fst {n K : Nat} {lev : σ → List Lev} {step : Int → D → Lev → σ → σ} {cnt1 : List D → Nat} {rec : List D → Int → Lev → σ → σ} {p : Lev} {k : Nat} : ∀ (l : List D) (q : Int × σ), (l.foldl (goOne n K lev step (cntS k) cnt1 rec p) q).1 = q.1 + (cnts k l : Nat)
  | [], q => by simp [cnts]
  | d :: l, q => by
    rw [List.foldl_cons, goOne_fst l]
    simp [goOne, cnts]
    omega
theorem cnts_le {k : Nat} {l : List D} {j : Nat} (hj : j < l.length) : cnts k (l.take j) + cntS k l[j] ≤ cnts k l := by
  rw [← cnts_take hj]
  unfold cnts
  conv => rhs; rw [← List.take_append_drop (j + 1) l]
  rw [List.map_append, List.sum_append]
  omega
theorem LevO.form {n : Nat} {W : World} {v : Value} {l : Lev} (h : LevO n X W v l) : ∃ p1 q1 r1 p2 q2 r2, v = .agg #[.slice p1 q1 r1, .slice p2 q2 r2] := by
  obtain ⟨x, y, hv, -⟩ := h.at_
  have h2 := h.at_
  rw [hv] at h2
  obtain ⟨p1, q1, r1, p2, q2, r2, rfl, rfl⟩ := lev_slices h2
  exact ⟨_, _, _, _, _, _, hv⟩

set_option maxHeartbeats 4000000 in
set_option maxRecDepth 100000 in
theorem stmtsW (I : WInv c w0 nv fs gs lev flev Inv X) (step : Int → D → Lev → σ → σ) (F : FuncId) (e1 e2 e3 : Value) (hC : ∀ (args : Array Value) (w : World), (callFunc F args).run Try.prog w = .ok (.enter F args) w) (hdo : Hid (DoOk c w0 K nv ni no fs Inv X step F e1 e2 e3)) (funcs : Int) (hfn : funcs ≤ fs.length) :
    ∀ (k : Nat) (vl : Value) (l : List D) (a : Int) (v : Value) (p : Lev) (st : σ) (W : World), StmtsAt w0 K k vl l → (∀ s ∈ l, okS K nv ni no funcs fs k s) → Inv st W → LevO c.n X W v p → 0 ≤ a → a + (cnts k l : Nat) ≤ 50 →
      Calls Try.prog 115 #[c.v, vl, .int .i64 a, v, .func (.func F) #[] #[e1, e2, e3]] W fun e W' => e = .returned (.int .i64 (a + (cnts k l : Nat))) ∧ Inv (goS c.n K lev step k l a p st) W' ∧ FrW X W W' := by
  intro k
  induction k with
  | zero =>
    intro vl l a v p st W hs _ hI hp h0 h50
    obtain rfl := hs.zero
    obtain ⟨-, ao, cap, rfl, -⟩ := hs
    obtain ⟨p1, q1, r1, p2, q2, r2, rfl⟩ := hp.form
    have hb : Below W.heap.size W ((W.alloc (.cells #[.int .i64 (c.n : Int), .slice c.ga c.gn c.gc, .slice c.sa c.sn c.sc, .slice c.ya c.yn c.yc, .slice c.oa c.on c.oc, .slice c.va c.vn c.vc, .slice c.fa c.fn c.fc, .slice c.ba c.bn c.bc, .slice c.la c.ln c.lc, .slice c.ka c.kn c.kc] 86)).alloc (.cells #[.slice p1 q1 r1, .slice p2 q2 r2] 62)) := ((Below.refl _ W).alloc (Nat.le_refl _) _).alloc (by simp) _
    have HI := hide (I.over _ _ _ hI hb)
    have HF := hide (FrW.of_below I.xok hb)
    clear hdo hb
    go_enter Try.func115, Try.ntmps115
    go_wp2_with fail
    go_loopw [16, 2] (fun i x wr => i = .int .i64 0 ∧ x = .int .i64 a ∧ wr = ((W.alloc (.cells #[.int .i64 (c.n : Int), .slice c.ga c.gn c.gc, .slice c.sa c.sn c.sc, .slice c.ya c.yn c.yc, .slice c.oa c.on c.oc, .slice c.va c.vn c.vc, .slice c.fa c.fn c.fc, .slice c.ba c.bn c.bc, .slice c.la c.ln c.lc, .slice c.ka c.kn c.kc] 86)).alloc (.cells #[.slice p1 q1 r1, .slice p2 q2 r2] 62))) (fun _ _ _ => 0)
    case atStart => exact ⟨rfl, rfl, rfl⟩
    case round =>
      obtain ⟨rfl, rfl, rfl⟩ := hrel
      go_wp2_with fail
      go_ret
      exact ⟨by simp [cnts], HI.out, HF.out⟩
  | succ k ih =>
    intro vl l a v p st W hs hok hI hp h0 h50
    obtain ⟨p1, q1, r1, p2, q2, r2, rfl⟩ := hp.form
    have hb : Below W.heap.size W ((W.alloc (.cells #[.int .i64 (c.n : Int), .slice c.ga c.gn c.gc, .slice c.sa c.sn c.sc, .slice c.ya c.yn c.yc, .slice c.oa c.on c.oc, .slice c.va c.vn c.vc, .slice c.fa c.fn c.fc, .slice c.ba c.bn c.bc, .slice c.la c.ln c.lc, .slice c.ka c.kn c.kc] 86)).alloc (.cells #[.slice p1 q1 r1, .slice p2 q2 r2] 62)) := ((Below.refl _ W).alloc (Nat.le_refl _) _).alloc (by simp) _
    obtain ⟨hlm, ao, cap, rfl, hel⟩ := hs
    have hlm2 : l.length ≤ 9223372036854775807 := hlm
    have xs0 : ¬ X ((W.alloc (.cells #[.int .i64 (c.n : Int), .slice c.ga c.gn c.gc, .slice c.sa c.sn c.sc, .slice c.ya c.yn c.yc, .slice c.oa c.on c.oc, .slice c.va c.vn c.vc, .slice c.fa c.fn c.fc, .slice c.ba c.bn c.bc, .slice c.la c.ln c.lc, .slice c.ka c.kn c.kc] 86)).alloc (.cells #[.slice p1 q1 r1, .slice p2 q2 r2] 62)) W.heap.size := fun h => by have := I.xlt _ _ hI _ (I.xok.below _ _ hb _ h); omega
    have xs1 : ¬ X ((W.alloc (.cells #[.int .i64 (c.n : Int), .slice c.ga c.gn c.gc, .slice c.sa c.sn c.sc, .slice c.ya c.yn c.yc, .slice c.oa c.on c.oc, .slice c.va c.vn c.vc, .slice c.fa c.fn c.fc, .slice c.ba c.bn c.bc, .slice c.la c.ln c.lc, .slice c.ka c.kn c.kc] 86)).alloc (.cells #[.slice p1 q1 r1, .slice p2 q2 r2] 62)) (W.heap.size + 1) := fun h => by have := I.xlt _ _ hI _ (I.xok.below _ _ hb _ h); omega
    have row0 : RowAt c.cs ((W.alloc (.cells #[.int .i64 (c.n : Int), .slice c.ga c.gn c.gc, .slice c.sa c.sn c.sc, .slice c.ya c.yn c.yc, .slice c.oa c.on c.oc, .slice c.va c.vn c.vc, .slice c.fa c.fn c.fc, .slice c.ba c.bn c.bc, .slice c.la c.ln c.lc, .slice c.ka c.kn c.kc] 86)).alloc (.cells #[.slice p1 q1 r1, .slice p2 q2 r2] 62)) W.heap.size := (RowAt.new c.cs 86 W).over ((Below.refl _ _).alloc (Nat.le_refl _) _)
    have row1 : RowAt [.slice p1 q1 r1, .slice p2 q2 r2] ((W.alloc (.cells #[.int .i64 (c.n : Int), .slice c.ga c.gn c.gc, .slice c.sa c.sn c.sc, .slice c.ya c.yn c.yc, .slice c.oa c.on c.oc, .slice c.va c.vn c.vc, .slice c.fa c.fn c.fc, .slice c.ba c.bn c.bc, .slice c.la c.ln c.lc, .slice c.ka c.kn c.kc] 86)).alloc (.cells #[.slice p1 q1 r1, .slice p2 q2 r2] 62)) (W.heap.size + 1) := by
      have r := RowAt.new [.slice p1 q1 r1, .slice p2 q2 r2] 62 (W.alloc (.cells #[.int .i64 (c.n : Int), .slice c.ga c.gn c.gc, .slice c.sa c.sn c.sc, .slice c.ya c.yn c.yc, .slice c.oa c.on c.oc, .slice c.va c.vn c.vc, .slice c.fa c.fn c.fc, .slice c.ba c.bn c.bc, .slice c.la c.ln c.lc, .slice c.ka c.kn c.kc] 86))
      simpa using r
    have HP0 := hide (hp.over I.xok hb)
    have HX0 := hide xs0
    have HX1 := hide xs1
    have HR0 := hide row0
    have HR1 := hide row1
    have HI0 := hide (I.over _ _ _ hI hb)
    have HF0 := hide (FrW.of_below I.xok hb)
    have HEL := hide hel
    have HOK := hide hok
    have IH := hide ih
    have HI := hide I
    obtain ⟨Q, hQ⟩ : ∃ Q : Nat → Int × σ, Q = fun j => (l.take j).foldl (goOne c.n K lev step (cntS (k + 1)) (cnts k) (goS c.n K lev step k) p) (a, st) := ⟨_, rfl⟩
    have HQ := hide hQ
    have hQ1 : ∀ j, (Q j).1 = a + (cnts (k + 1) (l.take j) : Nat) := fun j => by rw [hQ]; exact goOne_fst _ _
    have HQ1 := hide hQ1
    obtain ⟨W0, hW0⟩ : ∃ W0, W0 = ((W.alloc (.cells #[.int .i64 (c.n : Int), .slice c.ga c.gn c.gc, .slice c.sa c.sn c.sc, .slice c.ya c.yn c.yc, .slice c.oa c.on c.oc, .slice c.va c.vn c.vc, .slice c.fa c.fn c.fc, .slice c.ba c.bn c.bc, .slice c.la c.ln c.lc, .slice c.ka c.kn c.kc] 86)).alloc (.cells #[.slice p1 q1 r1, .slice p2 q2 r2] 62)) := ⟨_, rfl⟩
    have hq0 : Q 0 = (a, st) := by rw [hQ]; rfl
    have HQ0 := hide hq0
    have H50 := hide h50
    rw [← hW0] at HP0 HX0 HX1 HR0 HR1 HI0 HF0
    clear hb xs0 xs1 row0 row1 hel hok ih I hI hp hQ1 hq0 hQ h50
    go_enter Try.func115, Try.ntmps115
    go_wp2_with fail
    go_loopw [16, 2] (fun i x wr => ∃ j : Nat, j ≤ l.length ∧ i = .int .i64 j ∧ x = .int .i64 (Q j).1 ∧ Inv (Q j).2 wr ∧ FrW X W0 wr) (fun i _ _ => l.length - (intOf i).toNat)
    case atStart => exact ⟨0, Nat.zero_le _, rfl, by rw [HQ0.out], by rw [HQ0.out, ← hW0]; exact HI0.out, by rw [← hW0]; exact FrW.refl _⟩
    case round =>
      obtain ⟨j, hj, rfl, rfl, hI, hF⟩ := hrel
      clear hW0
      obtain ⟨at_, hat⟩ : ∃ x, x = (Q j).1 := ⟨_, rfl⟩
      have hatv : at_ = a + (cnts (k + 1) (l.take j) : Nat) := hat.trans (HQ1.out j)
      rw [← hat]
      have HAT := hide hat
      by_cases hlt : j < l.length
      · have hcl := cnts_le (k := k + 1) hlt
        have h50' := H50.out
        have hc1 : cntS (k + 1) l[j] = 1 + cnts k (sThen l[j]) + cnts k (sElse l[j]) := rfl
        have ha0 : 0 ≤ at_ := by omega
        have ha1 : at_ + (1 + cnts k (sThen l[j]) + cnts k (sElse l[j]) : Nat) ≤ 50 := by omega
        have hcell := cell_over (HI.out.below _ _ hI)
        obtain ⟨b, off, rfl, hcs⟩ := HEL.out (by rintro rfl; simp at hlt)
        obtain ⟨cs, hl9, hcc, hrs⟩ := hcs j l[j] (List.getElem?_eq_getElem hlt)
        obtain ⟨hok1, hokT, hokE⟩ := HOK.out l[j] (List.getElem_mem hlt)
        obtain ⟨d, hd⟩ : ∃ d, d = l[j] := ⟨_, rfl⟩
        rw [← hd] at hrs hok1 hokT hokE ha1
        have HD := hide hd
        have HRS := hide hrs
        obtain ⟨ek, en, xa, xl, xc, aa, ac, ta, tc, ea, ec, rfl, i0, i1, i2, hX, -, hT, hE, -, -, -⟩ := hrs.form
        obtain ⟨kd, hkd⟩ : ∃ q, q = sKind d := ⟨_, rfl⟩
        obtain ⟨vr, hvr⟩ : ∃ q, q = sVar d := ⟨_, rfl⟩
        obtain ⟨ot, hot⟩ : ∃ q, q = sOther d := ⟨_, rfl⟩
        obtain ⟨al, hal⟩ : ∃ q, q = (sArgs d).length := ⟨_, rfl⟩
        obtain ⟨tl, htl⟩ : ∃ q, q = (sThen d).length := ⟨_, rfl⟩
        obtain ⟨el, hel⟩ : ∃ q, q = (sElse d).length := ⟨_, rfl⟩
        rw [← hkd, ← hvr, ← hot, ← hal, ← htl, ← hel] at hcc HRS
        rw [← htl] at hT
        rw [← hel] at hE
        have g0 : wr.cell? ⟨b, off + j * 9, none⟩ = _ := hcell _ _ (hcc 0 _ rfl)
        have g1 := hcell _ _ (hcc 1 _ rfl)
        have g2 := hcell _ _ (hcc 2 _ rfl)
        have g3 := hcell _ _ (hcc 3 _ rfl)
        have g4 := hcell _ _ (hcc 4 _ rfl)
        have g5 := hcell _ _ (hcc 5 _ rfl)
        have g6 := hcell _ _ (hcc 6 _ rfl)
        have g7 := hcell _ _ (hcc 7 _ rfl)
        have g8 := hcell _ _ (hcc 8 _ rfl)
        have hba := (Below.refl _ wr).alloc (Nat.le_refl _) (.cells #[.int .i64 kd, .int .i64 vr, .int .i64 ot, .int .i64 ek, .int .i64 en, .slice xa xl xc, .slice aa al ac, .slice ta tl tc, .slice ea el ec] 78)
        have rowS := RowAt.new [.int .i64 kd, .int .i64 vr, .int .i64 ot, .int .i64 ek, .int .i64 en, .slice xa xl xc, .slice aa al ac, .slice ta tl tc, .slice ea el ec] 78 wr
        have hF1 := hF.trans (FrW.of_below HI.out.xok hba)
        have hI1 := HI.out.over _ _ _ hI hba
        have xsS : ¬ X (wr.alloc (.cells #[.int .i64 kd, .int .i64 vr, .int .i64 ot, .int .i64 ek, .int .i64 en, .slice xa xl xc, .slice aa al ac, .slice ta tl tc, .slice ea el ec] 78)) wr.heap.size := fun h => by have := HI.out.xlt _ _ hI _ (HI.out.xok.below _ _ hba _ h); omega
        have hP1 := HP0.out.keep HI.out.n1 hF1
        have K1 := hide (hdo.out (Q j).2 _ at_ k _ d _ p funcs hI1 HRS.out hfn hok1 hP1 ha0 (by omega))
        have row0 := hF1.row HR0.out HX0.out
        have row1 := hF1.row HR1.out HX1.out
        have x0 : ¬ X (wr.alloc (.cells #[.int .i64 kd, .int .i64 vr, .int .i64 ot, .int .i64 ek, .int .i64 en, .slice xa xl xc, .slice aa al ac, .slice ta tl tc, .slice ea el ec] 78)) W.heap.size := fun h => HX0.out (hF1.mov _ (World.block_lt_of_cell? W0 _ (HR0.out 0 _ rfl)) h)
        have x1 : ¬ X (wr.alloc (.cells #[.int .i64 kd, .int .i64 vr, .int .i64 ot, .int .i64 ek, .int .i64 en, .slice xa xl xc, .slice aa al ac, .slice ta tl tc, .slice ea el ec] 78)) (W.heap.size + 1) := fun h => HX1.out (hF1.mov _ (World.block_lt_of_cell? W0 _ (HR1.out 0 _ rfl)) h)
        have HQS : Hid (Q (j + 1) = (at_ + (1 + cnts k (sThen d) + cnts k (sElse d) : Nat), goS c.n K lev step k (sElse d) (at_ + 1 + (cnts k (sThen d) : Nat)) (withL c.n (lev (step at_ d p (Q j).2)) p (varsX K (sExpr d))) (goS c.n K lev step k (sThen d) (at_ + 1) (withL c.n (lev (step at_ d p (Q j).2)) p (varsX K (sExpr d))) (step at_ d p (Q j).2)))) := by
          have e1 : Q (j + 1) = goOne c.n K lev step (cntS (k + 1)) (cnts k) (goS c.n K lev step k) p (Q j) l[j] := by
            rw [HQ.out]
            dsimp only
            rw [List.take_succ_eq_append_getElem hlt, List.foldl_append]
            rfl
          rw [e1, ← HD.out]
          unfold goOne
          rw [← HAT.out]
          rfl
        obtain ⟨st1, hst1⟩ : ∃ x, x = step at_ d p (Q j).2 := ⟨_, rfl⟩
        rw [← hst1] at K1 HQS
        have HOK1 := hide hok1
        have HOKT := hide hokT
        have HOKE := hide hokE
        have HXX := hide hX
        have HT := hide hT
        have HE := hide hE
        have HP1 := hide hP1
        have HF1 := hide hF1
        have HX0' := hide x0
        have HX1' := hide x1
        have HXS := hide xsS
        have HRW0 := hide row0
        have HRW1 := hide row1
        have HRWS := hide rowS
        have hlt2 : (j : Int) < (l.length : Int) := by omega
        clear hst1 hok1 hokT hokE hX hT hE hP1 hF1 x0 x1 xsS row0 row1 rowS hI1 hI hF hba hcell hcs hcc hl9 hkd hvr hot hal htl hel hd hat hatv hc1 h50' hcl HAT HOK HRS hrs
        have t0 := HRW0.out 0 _ rfl
        have t1 := HRW0.out 1 _ rfl
        have t2 := HRW0.out 2 _ rfl
        have t3 := HRW0.out 3 _ rfl
        have t4 := HRW0.out 4 _ rfl
        have t5 := HRW0.out 5 _ rfl
        have t6 := HRW0.out 6 _ rfl
        have t7 := HRW0.out 7 _ rfl
        have t8 := HRW0.out 8 _ rfl
        have t9 := HRW0.out 9 _ rfl
        have u0 := HRW1.out 0 _ rfl
        have u1 := HRW1.out 1 _ rfl
        have s0 := HRWS.out 0 _ rfl
        have s1 := HRWS.out 1 _ rfl
        have s2 := HRWS.out 2 _ rfl
        have s3 := HRWS.out 3 _ rfl
        have s4 := HRWS.out 4 _ rfl
        have s5 := HRWS.out 5 _ rfl
        have s6 := HRWS.out 6 _ rfl
        have s7 := HRWS.out 7 _ rfl
        have s8 := HRWS.out 8 _ rfl
        go_wp2_with fail
        refine (K1.out).mono ?_
        rintro e W2 ⟨rfl, hI2, hF2⟩
        have HI2 := hide hI2
        have hB2 := HI.out.below _ _ hI2
        have hF12 := HF1.out.trans hF2
        have lt0 := World.block_lt_of_cell? _ _ (HRW0.out 0 _ rfl)
        have lt1 := World.block_lt_of_cell? _ _ (HRW1.out 0 _ rfl)
        have ltS := World.block_lt_of_cell? _ _ (HRWS.out 0 _ rfl)
        have row0 := hF2.row HRW0.out HX0'.out
        have row1 := hF2.row HRW1.out HX1'.out
        have rowS := hF2.row HRWS.out HXS.out
        have x0 : ¬ X W2 W.heap.size := fun h => HX0'.out (hF2.mov _ lt0 h)
        have x1 : ¬ X W2 (W.heap.size + 1) := fun h => HX1'.out (hF2.mov _ lt1 h)
        have xS : ¬ X W2 wr.heap.size := fun h => HXS.out (hF2.mov _ ltS h)
        have hP2 := HP1.out.keep HI.out.n1 hF2
        have hlv := HI.out.levs _ _ hI2
        have KW := hide (withC c HI.out.n1 HI.out.n6 gs (lev st1) X HI.out.xok _ p K [.int .i64 ek, .int .i64 en, .slice xa xl xc] (sExpr d) W2 (isGrants_over HI.out.gr hB2) HI.out.chk hlv.1 hP2 (by rw [hlv.2]; exact HI.out.nv16) (HI.out.xlt _ _ hI2) (HXX.out.over hB2) (by rw [hlv.2]; exact varsX_stmt HOK1.out))
        have HX02 := hide x0
        have HX12 := hide x1
        have HXS2 := hide xS
        have HRW02 := hide row0
        have HRW12 := hide row1
        have HRWS2 := hide rowS
        have HF12 := hide hF12
        clear K1 hI2 hF2 hF12 lt0 lt1 ltS row0 row1 rowS x0 x1 xS hP2 hlv hB2 t0 t1 t2 t3 t4 t5 t6 t7 t8 t9 u0 u1 s0 s1 s2 s3 s4 s5 s6 s7 s8 g0 g1 g2 g3 g4 g5 g6 g7 g8 HRW0 HRW1 HRWS HX0' HX1' HXS HP1 HF1
        have t0 := HRW02.out 0 _ rfl
        have t1 := HRW02.out 1 _ rfl
        have t2 := HRW02.out 2 _ rfl
        have t3 := HRW02.out 3 _ rfl
        have t4 := HRW02.out 4 _ rfl
        have t5 := HRW02.out 5 _ rfl
        have t6 := HRW02.out 6 _ rfl
        have t7 := HRW02.out 7 _ rfl
        have t8 := HRW02.out 8 _ rfl
        have t9 := HRW02.out 9 _ rfl
        have u0 := HRW12.out 0 _ rfl
        have u1 := HRW12.out 1 _ rfl
        have s0 := HRWS2.out 0 _ rfl
        have s1 := HRWS2.out 1 _ rfl
        have s2 := HRWS2.out 2 _ rfl
        have s3 := HRWS2.out 3 _ rfl
        have s4 := HRWS2.out 4 _ rfl
        have s5 := HRWS2.out 5 _ rfl
        have s6 := HRWS2.out 6 _ rfl
        have s7 := HRWS2.out 7 _ rfl
        have s8 := HRWS2.out 8 _ rfl
        go_wp2_with fail
        refine (KW.out).mono ?_
        rintro e W3 ⟨⟨o1, o2, o3, o4, o5, o6, rfl, hL3⟩, hb3⟩
        have hb34 := (Below.refl _ W3).alloc (Nat.le_refl _) (.cells #[.slice o1 o2 o3, .slice o4 o5 o6] 62)
        have hb24 := over_trans hb3 hb34
        have hI4 := HI.out.over _ _ _ HI2.out hb24
        have hI3 := HI.out.over _ _ _ HI2.out hb3
        have hL4 := hL3.over HI.out.xok hb34
        have rowI := RowAt.new [.slice o1 o2 o3, .slice o4 o5 o6] 62 W3
        have xI : ¬ X (W3.alloc (.cells #[.slice o1 o2 o3, .slice o4 o5 o6] 62)) W3.heap.size := fun h => by have := HI.out.xlt _ _ hI3 _ (HI.out.xok.below _ _ hb34 _ h); omega
        have row0 := HRW02.out.over hb24
        have rowS := HRWS2.out.over hb24
        have x0 : ¬ X (W3.alloc (.cells #[.slice o1 o2 o3, .slice o4 o5 o6] 62)) W.heap.size := fun h => HX02.out (HI.out.xok.below _ _ hb24 _ h)
        have xS : ¬ X (W3.alloc (.cells #[.slice o1 o2 o3, .slice o4 o5 o6] 62)) wr.heap.size := fun h => HXS2.out (HI.out.xok.below _ _ hb24 _ h)
        have hF14 := HF12.out.trans (FrW.of_below HI.out.xok hb24)
        have KT := hide (IH.out (.slice ta tl tc) (sThen d) (at_ + 1) _ _ st1 _ HT.out HOKT.out hI4 hL4 (by omega) (by omega))
        have HRW04 := hide row0
        have HRWS4 := hide rowS
        have HRWI4 := hide rowI
        have HX04 := hide x0
        have HXS4 := hide xS
        have HXI4 := hide xI
        have HL4 := hide hL4
        have HF14 := hide hF14
        clear KW hL3 hb3 hb34 hb24 hI4 hI3 hL4 rowI xI row0 rowS x0 xS hF14 t0 t1 t2 t3 t4 t5 t6 t7 t8 t9 u0 u1 s0 s1 s2 s3 s4 s5 s6 s7 s8 HRW02 HRW12 HRWS2 HX02 HX12 HXS2 HI2 HF12
        have t0 := HRW04.out 0 _ rfl
        have t1 := HRW04.out 1 _ rfl
        have t2 := HRW04.out 2 _ rfl
        have t3 := HRW04.out 3 _ rfl
        have t4 := HRW04.out 4 _ rfl
        have t5 := HRW04.out 5 _ rfl
        have t6 := HRW04.out 6 _ rfl
        have t7 := HRW04.out 7 _ rfl
        have t8 := HRW04.out 8 _ rfl
        have t9 := HRW04.out 9 _ rfl
        have u0 := HRWI4.out 0 _ rfl
        have u1 := HRWI4.out 1 _ rfl
        have s0 := HRWS4.out 0 _ rfl
        have s1 := HRWS4.out 1 _ rfl
        have s2 := HRWS4.out 2 _ rfl
        have s3 := HRWS4.out 3 _ rfl
        have s4 := HRWS4.out 4 _ rfl
        have s5 := HRWS4.out 5 _ rfl
        have s6 := HRWS4.out 6 _ rfl
        have s7 := HRWS4.out 7 _ rfl
        have s8 := HRWS4.out 8 _ rfl
        go_wp2_with fail
        refine (KT.out).mono ?_
        rintro e W5 ⟨rfl, hI5, hF5⟩
        have row0 := hF5.row HRW04.out HX04.out
        have rowS := hF5.row HRWS4.out HXS4.out
        have rowI := hF5.row HRWI4.out HXI4.out
        have hL5 := HL4.out.keep HI.out.n1 hF5
        have KE := hide (IH.out (.slice ea el ec) (sElse d) (at_ + 1 + (cnts k (sThen d) : Nat)) _ _ _ _ HE.out HOKE.out hI5 hL5 (by omega) (by omega))
        have HF15 := hide (HF14.out.trans hF5)
        have hw1 : 0 ≤ at_ + 1 + (cnts k (sThen d) : Nat) := by omega
        have hw2 : at_ + 1 + (cnts k (sThen d) : Nat) ≤ 50 := by omega
        clear KT hI5 hF5 hL5 t0 t1 t2 t3 t4 t5 t6 t7 t8 t9 u0 u1 s0 s1 s2 s3 s4 s5 s6 s7 s8 HRW04 HRWS4 HRWI4 HX04 HXS4 HXI4 HL4 HF14
        have t0 := row0 0 _ rfl
        have t1 := row0 1 _ rfl
        have t2 := row0 2 _ rfl
        have t3 := row0 3 _ rfl
        have t4 := row0 4 _ rfl
        have t5 := row0 5 _ rfl
        have t6 := row0 6 _ rfl
        have t7 := row0 7 _ rfl
        have t8 := row0 8 _ rfl
        have t9 := row0 9 _ rfl
        have u0 := rowI 0 _ rfl
        have u1 := rowI 1 _ rfl
        have s0 := rowS 0 _ rfl
        have s1 := rowS 1 _ rfl
        have s2 := rowS 2 _ rfl
        have s3 := rowS 3 _ rfl
        have s4 := rowS 4 _ rfl
        have s5 := rowS 5 _ rfl
        have s6 := rowS 6 _ rfl
        have s7 := rowS 7 _ rfl
        have s8 := rowS 8 _ rfl
        clear row0 rowS rowI
        go_wp2_with fail
        refine (KE.out).mono ?_
        rintro e W6 ⟨rfl, hI6, hF6⟩
        have HI6 := hide hI6
        have HF6 := hide (HF15.out.trans hF6)
        clear KE hI6 hF6 t0 t1 t2 t3 t4 t5 t6 t7 t8 t9 u0 u1 s0 s1 s2 s3 s4 s5 s6 s7 s8 HF15
        go_wp2_with fail
        refine ⟨⟨j + 1, by omega, by go_num, ?_, by rw [HQS.out]; exact HI6.out, HF6.out⟩, by simp [intOf]; omega⟩
        rw [HQS.out]
        congr 1
        push_cast
        omega
      · have hat2 : (Q j).1 = a + (cnts (k + 1) l : Nat) := by rw [HQ1.out j, List.take_of_length_le (by omega)]
        have hst : (Q j).2 = goS c.n K lev step (k + 1) l a p st := by rw [HQ.out]; dsimp only; rw [List.take_of_length_le (by omega)]; rfl
        have HE2 := hide (show Inv (goS c.n K lev step (k + 1) l a p st) wr by rw [← hst]; exact hI)
        have HF2 := hide (HF0.out.trans hF)
        have hav : at_ = a + (cnts (k + 1) l : Nat) := hat.trans hat2
        have HAV := hide hav
        clear hat2 hst hI hF hav hat hatv
        go_wp2_with fail
        go_ret
        exact ⟨by rw [HAV.out]; rfl, HE2.out, HF2.out⟩
end
end Go.Proofs.Ytcbbjjenkommeaa.Ex
