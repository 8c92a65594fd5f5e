/- Plain: going through commands with levels; what is asked; what is inferred fits, and flows to whatever fits. -/
import Derived.Test.YtcbbjjenkommeaaM04
import Derived.RangeFuncNested
import Derived.RangeFuncBound
import Derived.RangeFuncCalls
import Derived.RangeFuncLeaves
import Derived.Shelf.Abstract
import Derived.Shelf.RegionOpen
import Derived.WalkKit
import Derived.OwnWalkIn
import Derived.TacticsInMore
import Derived.LoopNIn
import Derived.LoopIn
import Derived.Deep.QuietTactic
import Derived.BigQuiet
import Derived.Defers
import Derived.Recover
import Derived.OrdersHeld
namespace Go.Proofs.Ytcbbjjenkommeaa.Ex
set_option linter.unusedVariables false
/-- all may read, nobody wrote. -/
def botL (n : Nat) : Lev := ⟨List.replicate n true, List.replicate n false⟩

/-- numbers of the variables in an expression, from the left. -/
def varsX : Nat → D → List Int
  | 0, _ => []
  | k + 1, d => if kindOf d = 2 then [numOf d] else (argsOf d).flatMap (varsX k)

/-- a level joined with those of variables. -/
def withL (n : Nat) (L : List Lev) (l : Lev) (vs : List Int) : Lev := vs.foldl (fun l v => joinL l (L.getD v.toNat noLev) n) l

section walk
variable {σ : Type} (n K : Nat) (lev : σ → List Lev) (step : Int → D → Lev → σ → σ)

/-- one command, and those in it. -/
def goOne (cnt : D → Nat) (cnt1 : List D → Nat) (rec : List D → Int → Lev → σ → σ) (p : Lev) (q : Int × σ) (d : D) : Int × σ :=
  (q.1 + (cnt d : Int), rec (sElse d) (q.1 + 1 + (cnt1 (sThen d) : Int)) (withL n (lev (step q.1 d p q.2)) p (varsX K (sExpr d)))
    (rec (sThen d) (q.1 + 1) (withL n (lev (step q.1 d p q.2)) p (varsX K (sExpr d))) (step q.1 d p q.2)))
/-- commands one behind the other, the first of a number, at a place. -/
def goS : Nat → List D → Int → Lev → σ → σ
  | 0, _, _, _, st => st
  | k + 1, l, a, p, st => (l.foldl (goOne n K lev step (cntS (k + 1)) (cnts k) (goS k) p) (a, st)).2
/-- all commands. -/
def goF (flev : σ → List Lev) (kf : Nat) (q : Int × σ) (x : Nat × FnD) : Int × σ :=
  (q.1 + (cnts kf x.2.body : Int), goS n K lev step kf x.2.body q.1 ((flev q.2).getD x.1 noLev) q.2)
def goAll (flev : σ → List Lev) (kf : Nat) (fs : List FnD) (main : List D) (st : σ) : σ :=
  let q := ((List.range fs.length).zip fs).foldl (goF n K lev step flev kf) (0, st)
  goS n K lev step kf main q.1 (botL n) q.2

theorem goS_presP {P : Nat → D → Prop} {P1 : D → Prop} (hP : ∀ k d, P (k + 1) d → P1 d ∧ (∀ s ∈ sThen d, P k s) ∧ ∀ s ∈ sElse d, P k s) {R : σ → σ → Prop} (hr : ∀ st, R st st) (ht : ∀ {a b c}, R a b → R b c → R a c) (hs : ∀ a d p st, P1 d → R st (step a d p st)) :
    ∀ (k : Nat) (l : List D) (a : Int) (p : Lev) (st : σ), (∀ s ∈ l, P k s) → R st (goS n K lev step k l a p st) := by
  intro k
  induction k with
  | zero => intro l a p st _; exact hr st
  | succ k ih =>
    intro l
    unfold goS
    induction l with
    | nil => intro a p st _; exact hr st
    | cons d l ihl =>
      intro a p st hl
      obtain ⟨h1, h2, h3⟩ := hP k d (hl d (by simp))
      rw [List.foldl_cons]
      refine ht ?_ (ihl _ p _ fun s hs => hl s (by simp [hs]))
      exact ht (hs _ _ _ _ h1) (ht (ih _ _ _ _ h2) (ih _ _ _ _ h3))
theorem goAll_presP {P Pm : Nat → D → Prop} {P1 : D → Prop} (hPm : ∀ k d, Pm (k + 1) d → P1 d ∧ (∀ s ∈ sThen d, Pm k s) ∧ ∀ s ∈ sElse d, Pm k s) {Q : Nat → Nat → D → Prop} (hQ : ∀ i k d, Q i (k + 1) d → P1 d ∧ (∀ s ∈ sThen d, Q i k s) ∧ ∀ s ∈ sElse d, Q i k s)
    {R : σ → σ → Prop} (hr : ∀ st, R st st) (ht : ∀ {a b c}, R a b → R b c → R a c) (hs : ∀ a d p st, P1 d → R st (step a d p st)) (flev : σ → List Lev) (kf : Nat) (fs : List FnD) (main : List D) (st : σ) (hf : ∀ i (h : i < fs.length), ∀ s ∈ fs[i].body, Q i kf s) (hm : ∀ s ∈ main, Pm kf s) :
    R st (goAll n K lev step flev kf fs main st) := by
  unfold goAll
  have h : ∀ (xs : List (Nat × FnD)) (q : Int × σ), (∀ x ∈ xs, ∀ s ∈ x.2.body, Q x.1 kf s) → R q.2 (xs.foldl (goF n K lev step flev kf) q).2 := by
    intro xs
    induction xs with
    | nil => intro q _; exact hr _
    | cons x xs ih =>
      intro q hx
      rw [List.foldl_cons]
      exact ht (goS_presP n K lev step (hQ x.1) hr ht hs _ _ _ _ _ (hx x (by simp))) (ih (goF n K lev step flev kf q x) fun y hy => hx y (by simp [hy]))
  refine ht (h _ (0, st) fun x hx => ?_) (goS_presP n K lev step hPm hr ht hs _ _ _ _ _ hm)
  obtain ⟨i, hi, rfl⟩ := List.getElem_of_mem hx
  simp at hi
  simp only [List.getElem_zip, List.getElem_range]
  exact hf i hi
end walk

theorem rowOf_get' (f : Nat → Bool) {n i : Nat} (h : i < n) : (rowOf f n)[i]?.getD false = f i := by simp [rowOf, h]
theorem fl_refl (l : Lev) (n : Nat) : flowsB l l n = true := flowsB_iff.2 fun _ _ => ⟨id, id⟩
theorem fl_trans {l k q : Lev} {n : Nat} (h : flowsB l k n = true) (h2 : flowsB k q n = true) : flowsB l q n = true :=
  flowsB_iff.2 fun i hi => ⟨fun h3 => (flowsB_iff.1 h i hi).1 ((flowsB_iff.1 h2 i hi).1 h3), fun h3 => (flowsB_iff.1 h2 i hi).2 ((flowsB_iff.1 h i hi).2 h3)⟩
theorem with_len {n : Nat} {L : List Lev} : ∀ (vs : List Int) (l : Lev), l.len n → (withL n L l vs).len n
  | [], _, h => h
  | v :: vs, l, _ => with_len vs _ ⟨rowOf_length _ _, rowOf_length _ _⟩

section ask
variable {σ : Type} (n K : Nat) (lev : σ → List Lev) (known : List Bool) (ins : List Lev) (fs : List FnD) (flow : Lev → Bool × Nat → σ → σ)
def toVar (l : Lev) (v : Int) (st : σ) : σ := if known.getD v.toNat false = true then st else flow l (true, v.toNat) st
def askArg (p : Lev) (st : σ) (q : Int × D) : σ := toVar known flow (withL n (lev st) p (varsX K q.2)) q.1 st
def askCall (d : D) (p : Lev) (st : σ) : σ :=
  let st1 := ((fnAt fs (sOther d)).ps.zip (sArgs d)).foldl (askArg n K lev known flow p) st
  flow p (false, (sOther d).toNat) (toVar known flow (withL n (lev st1) p (varsX K (fnAt fs (sOther d)).res)) (sVar d) st1)
/-- what a command asks. -/
def askS (a : Int) (d : D) (p : Lev) (st : σ) : σ :=
  if sKind d = 1 then toVar known flow (withL n (lev st) p (varsX K (sExpr d))) (sVar d) st
  else if sKind d = 2 then askCall n K lev known fs flow d p st
  else if sKind d = 3 then toVar known flow (joinL p (ins.getD (sOther d).toNat noLev) n) (sVar d) st
  else if sKind d = 5 then toVar known flow ⟨p.r, (withL n (lev st) p (varsX K (sExpr d))).w⟩ (sVar d) st
  else if sKind d = 6 then toVar known flow ⟨(withL n (lev st) p (varsX K (sExpr d))).r, p.w⟩ (sVar d) st
  else st
end ask

/-- levels of variables and of functions; has one become more? -/
structure ISt where
  vs : List Lev
  fs : List Lev
  more : Bool
def ISt.at (st : ISt) (i : Bool × Nat) : Lev := if i.1 = true then st.vs.getD i.2 noLev else st.fs.getD i.2 noLev
def ISt.up (st : ISt) (i : Bool × Nat) (l : Lev) : ISt := if i.1 = true then ⟨st.vs.set i.2 l, st.fs, true⟩ else ⟨st.vs, st.fs.set i.2 l, true⟩
def flowI (n : Nat) (l : Lev) (i : Bool × Nat) (st : ISt) : ISt := if flowsB l (st.at i) n = true then st else st.up i (joinL (st.at i) l n)
/-- once through all commands: what is asked is joined. -/
def passI (n K kf : Nat) (known : List Bool) (ins : List Lev) (fs : List FnD) (main : List D) (st : ISt) : ISt :=
  goAll n K ISt.vs (askS n K ISt.vs known ins fs (flowI n)) ISt.fs kf fs main st
/-- each flows to each. -/
def LeI (n : Nat) (a b : ISt) : Prop := (∀ i, flowsB (a.vs.getD i noLev) (b.vs.getD i noLev) n = true) ∧ ∀ i, flowsB (a.fs.getD i noLev) (b.fs.getD i noLev) n = true
theorem LeI.at {n : Nat} {a b : ISt} (h : LeI n a b) (i : Bool × Nat) : flowsB (a.at i) (b.at i) n = true := by
  unfold ISt.at
  split
  · exact h.1 _
  · exact h.2 _

/-- how much may still become more. -/
def bitsL (n : Nat) (l : Lev) : Nat := ((List.range n).map fun i => (if l.r[i]?.getD false = true then 1 else 0) + (if l.w[i]?.getD false = true then 0 else 1)).sum
def bitsI (n : Nat) (st : ISt) : Nat := (st.vs.map (bitsL n)).sum + (st.fs.map (bitsL n)).sum
theorem sum_le {f g : Nat → Nat} : ∀ {n : Nat}, (∀ i, i < n → f i ≤ g i) → ((List.range n).map f).sum ≤ ((List.range n).map g).sum
  | 0, _ => by simp
  | n + 1, h => by
    rw [List.range_succ, List.map_append, List.map_append, List.sum_append, List.sum_append]
    have := sum_le (n := n) fun i hi => h i (by omega)
    have := h n (by omega)
    simp
    omega
theorem sum_lt {f g : Nat → Nat} : ∀ {n : Nat}, (∀ i, i < n → f i ≤ g i) → (∃ i, i < n ∧ f i < g i) → ((List.range n).map f).sum < ((List.range n).map g).sum
  | 0, _, ⟨i, h, _⟩ => by omega
  | n + 1, h, ⟨i, hi, hlt⟩ => by
    rw [List.range_succ, List.map_append, List.map_append, List.sum_append, List.sum_append]
    by_cases hn : i = n
    · subst hn
      have := sum_le (n := i) fun j hj => h j (by omega)
      simp
      omega
    · have := sum_lt (n := n) (fun j hj => h j (by omega)) ⟨i, by omega, hlt⟩
      have := h n (by omega)
      simp
      omega
theorem bits_join {n : Nat} {x l : Lev} (h : ¬ flowsB l x n = true) : bitsL n (joinL x l n) < bitsL n x := by
  have hx : ∃ i, i < n ∧ ¬ ((x.r[i]?.getD false = true → l.r[i]?.getD false = true) ∧ (l.w[i]?.getD false = true → x.w[i]?.getD false = true)) := by
    refine Classical.byContradiction fun hne => h (flowsB_iff.2 fun i hi => Classical.byContradiction fun hc => hne ⟨i, hi, hc⟩)
  obtain ⟨i, hi, hc⟩ := hx
  unfold bitsL
  refine sum_lt (fun j hj => ?_) ⟨i, hi, ?_⟩
  · simp only [joinL, rowOf_get' _ hj, andAt, orAt]
    cases l.r[j]?.getD false <;> cases x.r[j]?.getD false <;> cases l.w[j]?.getD false <;> cases x.w[j]?.getD false <;> simp
  · simp only [joinL, rowOf_get' _ hi, andAt, orAt]
    revert hc
    cases l.r[i]?.getD false <;> cases x.r[i]?.getD false <;> cases l.w[i]?.getD false <;> cases x.w[i]?.getD false <;> simp
theorem sum_set {f : Lev → Nat} {y : Lev} : ∀ {l : List Lev} {i : Nat}, i < l.length → f y < f (l.getD i noLev) → ((l.set i y).map f).sum < (l.map f).sum
  | [], i, h, _ => by simp at h
  | x :: l, 0, _, h => by simp at h ⊢; omega
  | x :: l, i + 1, hi, h => by
    have := sum_set (l := l) (i := i) (by simpa using hi) (by simpa using h)
    simp only [List.set_cons_succ, List.map_cons, List.sum_cons]
    omega

/-- levels of the right form, so many; those that are known stay. -/
structure RightI (n nv nf : Nat) (known : List Bool) (L : List Lev) (st : ISt) : Prop where
  lv : st.vs.length = nv
  lf : st.fs.length = nf
  rv : ∀ l ∈ st.vs, l.len n
  rf : ∀ l ∈ st.fs, l.len n
  kn : ∀ i, known.getD i false = true → st.vs.getD i noLev = L.getD i noLev
theorem joinL_len' (l k : Lev) (n : Nat) : (joinL l k n).len n := ⟨rowOf_length _ _, rowOf_length _ _⟩
/-- what one step keeps. -/
def StepI (n nv nf : Nat) (known : List Bool) (L : List Lev) (a b : ISt) : Prop :=
  (RightI n nv nf known L a → RightI n nv nf known L b) ∧ LeI n a b
theorem StepI.refl (n nv nf : Nat) (known : List Bool) (L : List Lev) (a : ISt) : StepI n nv nf known L a a := ⟨id, fun _ => fl_refl _ _, fun _ => fl_refl _ _⟩
theorem StepI.trans {n nv nf : Nat} {known : List Bool} {L : List Lev} {a b c : ISt} (h : StepI n nv nf known L a b) (k : StepI n nv nf known L b c) : StepI n nv nf known L a c :=
  ⟨fun x => k.1 (h.1 x), fun i => fl_trans (h.2.1 i) (k.2.1 i), fun i => fl_trans (h.2.2 i) (k.2.2 i)⟩
/-- bits: no more than before; fewer, if something became more. -/
theorem bits_flow (n : Nat) (l : Lev) (i : Bool × Nat) (st : ISt) (hi : i.1 = true → i.2 < st.vs.length) (hi2 : i.1 = false → i.2 < st.fs.length) : flowI n l i st = st ∨ (bitsI n (flowI n l i st) < bitsI n st ∧ (flowI n l i st).vs.length = st.vs.length ∧ (flowI n l i st).fs.length = st.fs.length) := by
  unfold flowI
  split
  · exact Or.inl rfl
  · rename_i h
    obtain ⟨b, j⟩ := i
    cases b with
    | true =>
      simp only [ISt.up, ISt.at, if_true] at h ⊢
      refine Or.inr ⟨?_, by simp, by simp⟩
      have := sum_set (f := bitsL n) (l := st.vs) (i := j) (hi rfl) (bits_join h)
      unfold bitsI
      dsimp only
      omega
    | false =>
      simp only [ISt.up, ISt.at, Bool.false_eq_true, if_false] at h ⊢
      refine Or.inr ⟨?_, by simp, by simp⟩
      have := sum_set (f := bitsL n) (l := st.fs) (i := j) (hi2 rfl) (bits_join h)
      unfold bitsI
      dsimp only
      omega

/-- a command whose variables and functions are there. -/
def inR (nv nf : Nat) (fs : List FnD) (d : D) : Prop :=
  ((sKind d = 1 ∨ sKind d = 2 ∨ sKind d = 3 ∨ sKind d = 5 ∨ sKind d = 6) → (sVar d).toNat < nv) ∧ (sKind d = 2 → (sOther d).toNat < nf ∧ ∀ v ∈ (fnAt fs (sOther d)).ps, v.toNat < nv)
def BitsI (n nv nf : Nat) (a b : ISt) : Prop := (a.vs.length = nv ∧ a.fs.length = nf) → (b.vs.length = nv ∧ b.fs.length = nf) ∧ bitsI n b ≤ bitsI n a ∧ (b.more = true → a.more = true ∨ bitsI n b < bitsI n a)
theorem BitsI.refl (n nv nf : Nat) (a : ISt) : BitsI n nv nf a a := fun h => ⟨h, Nat.le_refl _, Or.inl⟩
theorem BitsI.trans {n nv nf : Nat} {a b c : ISt} (h : BitsI n nv nf a b) (k : BitsI n nv nf b c) : BitsI n nv nf a c := fun ha => by
  obtain ⟨h1, h2, h3⟩ := h ha
  obtain ⟨k1, k2, k3⟩ := k h1
  refine ⟨k1, Nat.le_trans k2 h2, fun hc => ?_⟩
  rcases k3 hc with hb | hb
  · rcases h3 hb with h | h
    · exact Or.inl h
    · exact Or.inr (by omega)
  · exact Or.inr (by omega)
theorem bits_flow2 (n nv nf : Nat) (l : Lev) (i : Bool × Nat) (st : ISt) (hi : i.1 = true → i.2 < nv) (hi2 : i.1 = false → i.2 < nf) : BitsI n nv nf st (flowI n l i st) := fun h => by
  rcases bits_flow n l i st (by rw [h.1]; exact hi) (by rw [h.2]; exact hi2) with e | ⟨h1, h2, h3⟩
  · rw [e]; exact ⟨h, Nat.le_refl _, Or.inl⟩
  · exact ⟨⟨h2.trans h.1, h3.trans h.2⟩, by omega, fun _ => Or.inr h1⟩
theorem bits_ask (n nv nf K : Nat) (known : List Bool) (ins : List Lev) (fs : List FnD) (a : Int) (d : D) (p : Lev) (st : ISt) (hd : inR nv nf fs d) : BitsI n nv nf st (askS n K ISt.vs known ins fs (flowI n) a d p st) := by
  have h1 : ∀ l (v : Int) st, v.toNat < nv → BitsI n nv nf st (toVar known (flowI n) l v st) := by
    intro l v st hv
    unfold toVar
    split
    · exact BitsI.refl n nv nf _
    · exact bits_flow2 n nv nf _ _ _ (fun _ => hv) (fun h => by cases h)
  have h2 : ∀ (xs : List (Int × D)) st, (∀ x ∈ xs, x.1.toNat < nv) → BitsI n nv nf st (xs.foldl (askArg n K ISt.vs known (flowI n) p) st) := by
    intro xs
    induction xs with
    | nil => intro st _; exact BitsI.refl n nv nf _
    | cons x xs ih => intro st hx; rw [List.foldl_cons]; exact (h1 _ _ _ (hx x (by simp))).trans (ih _ fun y hy => hx y (by simp [hy]))
  unfold askS
  split
  · rename_i hk; exact h1 _ _ _ (hd.1 (by omega))
  split
  · rename_i hk
    unfold askCall
    refine (h2 _ _ fun x hx => ?_).trans ((h1 _ _ _ (hd.1 (by omega))).trans (bits_flow2 n nv nf _ _ _ (fun h => by cases h) (fun _ => (hd.2 hk).1)))
    exact (hd.2 hk).2 _ (List.of_mem_zip (a := x.1) (b := x.2) hx).1
  split
  · rename_i hk; exact h1 _ _ _ (hd.1 (by omega))
  split
  · rename_i hk; exact h1 _ _ _ (hd.1 (by omega))
  split
  · rename_i hk; exact h1 _ _ _ (hd.1 (by omega))
  · exact BitsI.refl n nv nf _

end Go.Proofs.Ytcbbjjenkommeaa.Ex
namespace Go.Proofs.Ytcbbjjenkommeaa.Ex
open Go.RowKit Go.Shelf
set_option linter.unusedVariables false
attribute [local go_sem] Oper.semAt_some

theorem roomOf {F : Fence} (hd : F.depth = none) (k : Nat) : F.room k := fun d h => by rw [hd] at h; cases h
theorem anyRound {F : Fence} (hd : F.depth = none) {m m' : Nat} {P : Program} {l : Nat} {f : FuncId} {tmps : Array Value} {assign body : Code} {w : World} {R : Ending → World → Prop}
    (h : RoundIn F m P l f tmps assign body w R) : RoundIn F m' P l f tmps assign body w R := ⟨h.1, fun c cs _ => h.2 c cs (roomOf hd _)⟩
theorem anyYield {F : Fence} (hd : F.depth = none) {m : Nat} (m' : Nat) {P : Program} {l : Nat} {args : Array Value} {W : World} {R : Ending → World → Prop} (h : YieldAt F m P l args W R) : YieldAt F m' P l args W R := by
  obtain ⟨fn, tmps, assign, body, hy, hR⟩ := h
  exact ⟨fn, tmps, assign, body, hy, anyRound hd hR⟩

/-- a number of a variable. -/
abbrev VarN (nv : Nat) := { x : Int // 0 ≤ x ∧ x < nv }

theorem varsX_take {k : Nat} {ds : List D} {j : Nat} (h : j < ds.length) : (ds.take (j + 1)).flatMap (varsX k) = (ds.take j).flatMap (varsX k) ++ varsX k ds[j] := by
  rw [List.take_succ_eq_append_getElem h, List.flatMap_append]
  simp

theorem valOf (nv : Nat) : ∀ (l : List Int), (∀ v ∈ l, 0 ≤ v ∧ v < (nv : Int)) → ∃ ys : List (VarN nv), ys.map Subtype.val = l
  | [], _ => ⟨[], rfl⟩
  | v :: l, h => by
    obtain ⟨ys, hy⟩ := valOf nv l fun x hx => h x (by simp [hx])
    exact ⟨⟨v, h v (by simp)⟩ :: ys, by simp [hy]⟩

set_option maxRecDepth 100000 in
set_option maxHeartbeats 4000000 in
theorem eachVar_in (F : Fence) (hd : F.depth = none) (hf : F.fn 144) (hro : F.round = none) (l nv N : Nat) (w0 : World) (J Jx : List (VarN nv) → World → Prop)
    (hJ : ∀ s A B, J s A → Below A.heap.size A B → J s B)
    (hY : ∀ m pre x W, J pre W → pre.length < N → YieldAt F m Try.prog l #[.int .i64 x.1] W fun e W' =>
      (e = .returned (.bool true) ∧ J (pre ++ [x]) W' ∧ Below w0.heap.size W W') ∨ (e = .returned (.bool false) ∧ Jx (pre ++ [x]) W')) :
    ∀ (k n : Nat) (cs : List Value) (d : D) (pre ys : List (VarN nv)) (W : World), RX w0 k cs d → Below w0.heap.size w0 W → J pre W → ys.map Subtype.val = varsX k d → pre.length + ys.length ≤ N →
      CallsIn F n Try.prog 144 #[.agg cs.toArray, .func (.yield l) #[] #[]] W fun e W' =>
        (e = .returned (.bool true) ∧ J (pre ++ ys) W' ∧ Below w0.heap.size W W') ∨ (e = .returned (.bool false) ∧ ∃ q, q <+: ys ∧ Jx (pre ++ q) W') := by
  intro k
  induction k with
  | zero => intro n cs d pre ys W h; exact h.elim
  | succ k ih =>
    intro n cs d pre ys W h hW hj hys hN
    obtain ⟨kd, nn, v, ds, rfl, rfl, i1, i2, hm, ao, cap, rfl, hds⟩ := h
    have hdd : ∀ k : Nat, (F.depth.isSome = true → 1 ≤ k) := fun k h => by rw [hd] at h; cases h
    have hm2 : ds.length ≤ 9223372036854775807 := hm
    by_cases hk : kd = 2
    · subst hk
      have hys2 : ys.map Subtype.val = [nn] := by rw [hys]; simp [varsX, kindOf, numOf, xD]
      obtain ⟨y, rfl⟩ : ∃ y, ys = [y] := by
        match ys, hys2 with
        | [y], _ => exact ⟨y, rfl⟩
      have hyv : y.1 = nn := by simpa using hys2
      subst hyv
      have hba := (Below.refl _ W).alloc (Nat.le_refl _) (.cells #[.int .i64 2, .int .i64 y.1, .slice ao ds.length cap] 24)
      obtain ⟨fn, tmps, assign, body, hy, hR⟩ := hY (n - 1) pre y _ (hJ _ _ _ hj hba) (by simp at hN; omega)
      have hB : Below w0.heap.size W (W.alloc (.cells #[.int .i64 2, .int .i64 y.1, .slice ao ds.length cap] 24)) := hba.mono hW.size
      have HB := hide hB
      clear hB hba hj hys hys2 hds
      refine callsIn_of_wp Try.func144 rfl hf ?_ hro
      simp only [Try.ntmps144, List.size_toArray, List.length_cons, List.length_nil, Nat.reduceAdd, Nat.reduceSub, Array.replicate_succ, Array.replicate_zero, List.push_toArray, List.append_toArray, List.nil_append, List.cons_append]
      gi_wp2_with ((try refine ⟨hdd _, ?_⟩); refine hR.mono ?_; clear hR; rintro e W2 (⟨rfl, hJ2, hb2⟩ | ⟨rfl, hx2⟩))
      · go_ret
        exact .inl ⟨rfl, hJ2, HB.out.trans hb2⟩
      · go_ret
        exact .inr ⟨rfl, [y], List.prefix_refl _, hx2⟩
    · have hv : varsX (k + 1) (xD kd nn ds) = ds.flatMap (varsX k) := by simp [varsX, kindOf, argsOf, xD, hk]
      rw [hv] at hys
      have hkb : (kd == 2) = false := by simpa using hk
      have hba := (Below.refl _ W).alloc (Nat.le_refl _) (.cells #[.int .i64 kd, .int .i64 nn, .slice ao ds.length cap] 24)
      have HB : Hid (Below w0.heap.size W (W.alloc (.cells #[.int .i64 kd, .int .i64 nn, .slice ao ds.length cap] 24))) := hba.mono hW.size
      have HJ0 := hide (hJ _ _ _ hj hba)
      have HDS := hide hds
      have HYS := hide hys
      have HW := hide hW
      have HN := hide hN
      clear hds hys hv hba hj hW hN hY
      refine callsIn_of_wp Try.func144 rfl hf ?_ hro
      simp only [Try.ntmps144, List.size_toArray, List.length_cons, List.length_nil, Nat.reduceAdd, Nat.reduceSub, Array.replicate_succ, Array.replicate_zero, List.push_toArray, List.append_toArray, List.nil_append, List.cons_append]
      gi_wp2
      gi_loopw [17] (fun i wr => ∃ (j : Nat) (q1 q2 : List (VarN nv)), j ≤ ds.length ∧ i = .int .i64 j ∧ ys = q1 ++ q2 ∧ q1.map Subtype.val = (ds.take j).flatMap (varsX k) ∧ J (pre ++ q1) wr ∧ Below w0.heap.size W wr) (fun i _ => ds.length - (intOf i).toNat)
      case atStart => exact ⟨0, [], ys, Nat.zero_le _, rfl, rfl, by simp, by simpa using HJ0.out, HB.out⟩
      case round =>
        obtain ⟨j, q1, q2, hj1, rfl, hq, hq1, hJ1, hB1⟩ := hrel
        have HQ := hide hq
        have HQ1 := hide hq1
        have HJ1 := hide hJ1
        clear hq hq1 hJ1
        by_cases hlt : j < ds.length
        · obtain ⟨b, off, rfl, hcl⟩ := HDS.out (by rintro rfl; simp at hlt)
          obtain ⟨cs2, hl3, hcs, hr⟩ := hcl j ds[j] (List.getElem?_eq_getElem hlt)
          obtain ⟨xa, xc, rfl⟩ := hr.form
          have hBw := HW.out.trans hB1
          have g0 : wr.cell? ⟨b, off + j * 3, none⟩ = _ := cell_over hBw _ _ (hcs 0 _ rfl)
          have g1 := cell_over hBw _ _ (hcs 1 _ rfl)
          have g2 := cell_over hBw _ _ (hcs 2 _ rfl)
          have hsp : ∃ z q3, q2 = z ++ q3 ∧ z.map Subtype.val = varsX k ds[j] := by
            have h1 := HYS.out
            rw [HQ.out, List.map_append, HQ1.out] at h1
            have h2 : ds.flatMap (varsX k) = (ds.take j).flatMap (varsX k) ++ (varsX k ds[j] ++ (ds.drop (j + 1)).flatMap (varsX k)) := by
              rw [← List.append_assoc, ← varsX_take hlt, ← List.flatMap_append, List.take_append_drop]
            rw [h2] at h1
            have h3 := List.append_cancel_left h1
            obtain ⟨z, q3, e1, e2, -⟩ := List.map_eq_append_iff.1 h3
            exact ⟨z, q3, e1, e2⟩
          obtain ⟨z, q3, hq2, hz⟩ := hsp
          have hlen : (pre ++ q1).length + z.length ≤ N := by
            have := HN.out
            rw [HQ.out, hq2] at this
            simp at this ⊢
            omega
          obtain ⟨ek, hek⟩ : ∃ q, q = kindOf ds[j] := ⟨_, rfl⟩
          obtain ⟨en, hen⟩ : ∃ q, q = numOf ds[j] := ⟨_, rfl⟩
          obtain ⟨xl, hxl⟩ : ∃ q, q = (argsOf ds[j]).length := ⟨_, rfl⟩
          have hba := (Below.refl _ wr).alloc (Nat.le_refl _) (.cells #[.int .i64 ek, .int .i64 en, .slice xa xl xc] 24)
          rw [← hek, ← hen, ← hxl] at hr
          rw [← hek] at g0
          rw [← hen] at g1
          rw [← hxl] at g2
          have KI := hide (ih (n - 1) _ ds[j] (pre ++ q1) z _ hr (hBw.trans (hba.mono hBw.size)) (hJ _ _ _ HJ1.out hba) hz hlen)
          have HB2 := hide (hB1.trans (hba.mono hBw.size))
          have HX : Hid (ys = (q1 ++ z) ++ q3 ∧ (q1 ++ z).map Subtype.val = (ds.take (j + 1)).flatMap (varsX k)) := by
            refine ⟨by rw [HQ.out, hq2, List.append_assoc], ?_⟩
            rw [List.map_append, HQ1.out, hz, varsX_take hlt]
          clear hcl hcs hr hl3 hek hen hxl hq2 hz hlen hba hBw HJ1 HQ HQ1
          gi_wp2_with ((try refine ⟨hdd _, ?_⟩); gi_at_call 144; refine (KI.out).mono ?_; clear KI; rintro e W2 (⟨rfl, hJ2, hb2⟩ | ⟨rfl, q, hq, hx2⟩))
          · have HJ2 := hide hJ2
            have HB3 := hide (HB2.out.trans hb2)
            clear hJ2 hb2
            gi_wp2
            go_roundw
            case rel => exact ⟨j + 1, q1 ++ z, q3, by omega, by go_num, HX.out.1, HX.out.2, by rw [← List.append_assoc]; exact HJ2.out, HB3.out⟩
            case measure => simp [intOf]; omega
          · gi_wp2
            go_ret
            refine .inr ⟨rfl, q1 ++ q, ?_, by rw [← List.append_assoc]; exact hx2⟩
            rw [HX.out.1, List.append_assoc]
            exact (List.prefix_append_right_inj _).2 (hq.trans (List.prefix_append _ _))
        · gi_wp2
          go_ret
          refine .inl ⟨rfl, ?_, hB1⟩
          have h1 := HYS.out
          have h2 := HQ1.out
          rw [List.take_of_length_le (by omega), ← h1, HQ.out] at h2
          have h3 : q2 = [] := by
            have := congrArg List.length h2
            simp at this
            exact this
          rw [HQ.out, h3, List.append_nil]
          exact HJ1.out
end Go.Proofs.Ytcbbjjenkommeaa.Ex
namespace Go.Proofs.Ytcbbjjenkommeaa.Ex
open Go.RowKit
set_option linter.unusedVariables false
/-- the two commands of the small program. -/
def mainCells : List Value := [.int .i64 3, .int .i64 0, .int .i64 0, .int .i64 0, .int .i64 0, .slice none 0 0, .slice none 0 0, .slice none 0 0, .slice none 0 0, .int .i64 4, .int .i64 0, .int .i64 0, .int .i64 2, .int .i64 0, .slice none 0 0, .slice none 0 0, .slice none 0 0, .slice none 0 0]
def RowAt (cs : List Value) (w : World) (b : Nat) : Prop := ∀ j u, cs[j]? = some u → w.cell? ⟨b, j, none⟩ = some u
theorem RowAt.over {cs : List Value} {w w' : World} {b : Nat} (h : RowAt cs w b) (hB : Below w.heap.size w w') : RowAt cs w' b := fun j u hu => cell_over hB _ _ (h j u hu)

/-- the small program, where its parts lie. -/
abbrev smallV (bi bo bv bm : Nat) : Value := .agg #[.int .i64 1, .slice none 0 0, .slice none 0 0, .slice (some ⟨bi, 0, none⟩) 1 1, .slice (some ⟨bo, 0, none⟩) 1 1, .slice (some ⟨bv, 0, none⟩) 1 1, .slice none 0 0, .slice (some ⟨bm, 0, none⟩) 2 2]
theorem Try.infoL : (Try.prog.info? 102).map (fun i => (i.zero, i.size, i.bytes)) = some (some (.agg #[.slice none 0 0, .slice none 0 0]), 2, 48) := by kernel_rfl
theorem RowAt.new (cs : List Value) (t : Nat) (w : World) : RowAt cs (w.alloc (.cells cs.toArray t)) w.heap.size := fun j u hu => by
  rw [Lib.cell_of_heap (heap_alloc_new w _)]
  simpa using hu
/-- the small program lies there. -/
structure Small (bi bo bv bm : Nat) (w : World) : Prop where
  ins : RowAt [.slice none 0 0, .slice none 0 0] w bi
  outs : RowAt [.slice none 0 0, .slice none 0 0] w bo
  vars : RowAt [.bool false, .slice none 0 0, .slice none 0 0] w bv
  main : RowAt mainCells w bm
theorem Small.over {bi bo bv bm : Nat} {w w' : World} (h : Small bi bo bv bm w) (hB : Below w.heap.size w w') : Small bi bo bv bm w' :=
  ⟨h.ins.over hB, h.outs.over hB, h.vars.over hB, h.main.over hB⟩
end Go.Proofs.Ytcbbjjenkommeaa.Ex
namespace Go.Proofs.Ytcbbjjenkommeaa.Ex
open Go.RowKit Go.Shelf
set_option linter.unusedVariables false
attribute [local go_sem] Oper.semAt_some

/-- rows that lie in blocks from a number on. -/
def NewS (B : Nat) (v : Value) : Prop := ∀ a n c, v = .slice (some a) n c → B ≤ a.block
def NewL (B : Nat) (v : Value) : Prop := ∃ x y, v = .agg #[x, y] ∧ NewS B x ∧ NewS B y
theorem newS_own {W : World} {B e s n : Nat} {v : Value} {xs : List Value} (h : W.ownsRow B e s v n xs) : NewS B v := by
  intro a m c hv
  rcases h.2 with ⟨h, -⟩ | ⟨g, cap, cur, h, hb, -⟩
  · rw [hv] at h; cases h
  · rw [hv] at h; injection h with h1 h2 h3; injection h1 with h1; rw [h1]; exact hb
theorem newL_fresh {w w' : World} {v : Value} {l : Lev} (h : LevFresh w w' v l) : NewL w.heap.size v := by
  obtain ⟨x, y, hv, hx, hy, -⟩ := h
  exact ⟨x, y, hv, newS_own hx, newS_own hy⟩
theorem levAt_fresh {w w' : World} {v : Value} {l : Lev} (h : LevFresh w w' v l) : LevAt w' v l := by
  obtain ⟨x, y, hv, hx, hy, -⟩ := h
  exact ⟨x, y, hv, isBools_own hx, isBools_own hy⟩
theorem isBools_cells {W W' : World} {v : Value} {l : List Bool} (h : IsBools W v l) (hc : ∀ a u, W.cell? a = some u → W'.cell? a = some u) : IsBools W' v l := by
  obtain ⟨ao, cap, hv, hel⟩ := h
  refine ⟨ao, cap, hv, fun hne => ?_⟩
  obtain ⟨b, off, hao, hel⟩ := hel hne
  exact ⟨b, off, hao, fun i hi => hc _ _ (hel i hi)⟩
theorem levAt_cells {W W' : World} {v : Value} {l : Lev} (h : LevAt W v l) (hc : ∀ a u, W.cell? a = some u → W'.cell? a = some u) : LevAt W' v l := by
  obtain ⟨x, y, hv, hx, hy⟩ := h
  exact ⟨x, y, hv, isBools_cells hx hc, isBools_cells hy hc⟩

set_option maxHeartbeats 1000000 in
theorem vars_in (F : Fence) (n : Nat) (hf : F.fn 116) (hro : F.round = none) (ek en : Int) (xa : Option Addr) (xl xc : Nat) (w : World) :
    CallsIn F n Try.prog 116 #[.agg #[.int .i64 ek, .int .i64 en, .slice xa xl xc]] w fun e w' => e = .returned (.func (.func 143) #[] #[.pointer (some ⟨w.heap.size, 0, none⟩)]) ∧ w' = w.alloc (.cells #[.int .i64 ek, .int .i64 en, .slice xa xl xc] 24) := by
  refine callsIn_of_wp Try.func116 rfl hf ?_ hro
  simp only [Try.ntmps116, List.size_toArray, List.length_cons, List.length_nil, Nat.reduceAdd, Nat.reduceSub, Array.replicate_succ, Array.replicate_zero, List.push_toArray, List.append_toArray, List.nil_append, List.cons_append]
  gi_wp2
  go_ret
  exact ⟨rfl, rfl⟩

set_option maxHeartbeats 1000000 in
theorem vars1_in (F : Fence) (hd : F.depth = none) (n : Nat) (hf : F.fn 143) (hf2 : F.fn 144) (hro : F.round = none) (l nv Bt K : Nat) (w0 : World) (ek en : Int) (xa : Option Addr) (xl xc : Nat) (d : D) (ys : List (VarN nv)) (J Jx : List (VarN nv) → World → Prop)
    (hJ : ∀ s A B, J s A → Below A.heap.size A B → J s B)
    (hY : ∀ pre x W, J pre W → pre.length < ys.length → YieldAt F (n - 1) Try.prog l #[.int .i64 x.1] W fun e W' =>
      (e = .returned (.bool true) ∧ J (pre ++ [x]) W' ∧ Below w0.heap.size W W') ∨ (e = .returned (.bool false) ∧ Jx (pre ++ [x]) W'))
    (W : World) (c0 : W.cell? ⟨Bt, 0, none⟩ = some (.int .i64 ek)) (c1 : W.cell? ⟨Bt, 1, none⟩ = some (.int .i64 en)) (c2 : W.cell? ⟨Bt, 2, none⟩ = some (.slice xa xl xc)) (hx : RX w0 K [.int .i64 ek, .int .i64 en, .slice xa xl xc] d) (hW : Below w0.heap.size w0 W) (hys : ys.map Subtype.val = varsX K d) (h0 : J [] W) :
    CallsIn F n Try.prog 143 #[.func (.yield l) #[] #[], .pointer (some ⟨Bt, 0, none⟩)] W fun e W' => (∃ v, e = .returned v) ∧
      ((∃ zs, zs = ys ∧ J zs W') ∨ (∃ pre, pre <+: ys ∧ Jx pre W')) := by
  have hdd : ∀ k : Nat, (F.depth.isSome = true → 1 ≤ k) := fun k h => by rw [hd] at h; cases h
  have hp := hide (eachVar_in F hd hf2 hro l nv ys.length w0 J Jx hJ (fun m pre x W hj hl => anyYield hd m (hY pre x W hj hl)) K (n - 1) _ d [] ys W hx hW h0 hys (by simp))
  clear hx hys hY h0 hW
  refine callsIn_of_wp Try.func143 rfl hf ?_ hro
  simp only [Try.ntmps143, List.size_toArray, List.length_cons, List.length_nil, Nat.reduceAdd, Nat.reduceSub, Array.replicate_succ, Array.replicate_zero, List.push_toArray, List.append_toArray, List.nil_append, List.cons_append]
  gi_wp2_with ((try refine ⟨hdd _, ?_⟩); gi_at_call 144; refine hp.out.mono ?_; clear hp; rintro e W1 (⟨rfl, hJ1, _⟩ | ⟨rfl, q, hq, hx⟩))
  · go_end0
    exact ⟨⟨_, rfl⟩, .inl ⟨_, rfl, by simpa using hJ1⟩⟩
  · go_end0
    exact ⟨⟨_, rfl⟩, .inr ⟨q, hq, by simpa using hx⟩⟩

theorem vars_stops (F : Fence) (hd : F.depth = none) (n : Nat) (hf : F.fn 143) (hf2 : F.fn 144) (hro : F.round = none) (nv Bt K : Nat) (w0 : World) (ek en : Int) (xa : Option Addr) (xl xc : Nat) (d : D) (ys : List (VarN nv)) (w : World) (hBt : Bt < w.heap.size) (hw : Below w0.heap.size w0 w)
    (c0 : w.cell? ⟨Bt, 0, none⟩ = some (.int .i64 ek)) (c1 : w.cell? ⟨Bt, 1, none⟩ = some (.int .i64 en)) (c2 : w.cell? ⟨Bt, 2, none⟩ = some (.slice xa xl xc)) (hx : RX w0 K [.int .i64 ek, .int .i64 en, .slice xa xl xc] d) (hys : ys.map Subtype.val = varsX K d) :
    SeqStopsK F n Try.prog 143 #[.pointer (some ⟨Bt, 0, none⟩)] (fun x : VarN nv => #[Value.int .i64 x.1]) (Below w0.heap.size) (fun zs => zs = ys) (fun pre => pre <+: ys) ys.length w := fun l J Jx W hW hJ _ hY h0 =>
  vars1_in F hd n hf hf2 hro l nv Bt K w0 ek en xa xl xc d ys J Jx (fun s A B hj hb => hJ s A B none hj ⟨hb.os, hb.tape, hb.output, hb.size, fun k hk _ => hb.block k hk⟩ (fun r e => by cases e)) hY W
    ((hW.cell (p := ⟨Bt, 0, none⟩) hBt).trans c0) ((hW.cell (p := ⟨Bt, 1, none⟩) hBt).trans c1) ((hW.cell (p := ⟨Bt, 2, none⟩) hBt).trans c2) hx (hw.trans (hW.mono hw.size)) hys h0
end Go.Proofs.Ytcbbjjenkommeaa.Ex
namespace Go.Proofs.Ytcbbjjenkommeaa.Ex
open Go.RowKit
set_option linter.unusedVariables false
theorem aput : (∀ (a : Act) (d : Tmp) (v : Value), a.put (some d) v = { a with tmps := a.tmps.setIfInBounds d v }) ∧ (∀ (a : Act) (v : Value), a.put none v = a) ∧ (∀ (l : List Value) (i : Nat) (x : Value), l.toArray.setIfInBounds i x = (l.set i x).toArray) ∧ (∀ (l : List Value) (a x : Value), (a :: l).set 0 x = x :: l) ∧ (∀ (l : List Value) (a x : Value) (i : Nat), (a :: l).set (i + 1) x = a :: l.set i x) :=
  ⟨fun _ _ _ => rfl, fun _ _ => rfl, fun _ _ _ => by simp, fun _ _ _ => rfl, fun _ _ _ _ => rfl⟩
theorem tk {P : Program} {ops : Array Oper} {Q : Exit → Act → World → Prop} {md : Region.Mode} {S : World → Prop} {i : Nat} {oi : Oper} {v : Value} {fuel : Nat} {listed : Array Bool} {a : Act} {w : World} (hy : YieldsIf P ops S oi v a) (hS : S w)
    (h : wpAnyH P md ops Q S fuel (listed.setIfInBounds i true) (a.put oi.dst v) w) (hi : ops[i]? = some oi := by rfl)
    (hs : Region.noSelect ops = true := by kernel_rfl) (hf : Region.free md ops listed i = true := by kernel_rfl) (hr : (Region.ready md ops listed).contains i = true := by kernel_rfl)
    (hQ : ∀ c a w, Q (.panic c) (a.put oi.dst v) w → Q (.panic c) a w := by exact fun _ _ _ h => h) : wpAnyH P md ops Q S (fuel + 1) listed a w :=
  wpAnyH_take hi hs hf hr hQ hy hS h
/-- at the normal end alone. -/
def onlyN (Qn : Act → World → Prop) : Exit → Act → World → Prop
  | .normal, a, w => Qn a w
  | _, _, _ => False
theorem not_lets {Qn : Act → World → Prop} : ¬ LetsOut (onlyN Qn) := fun ⟨_, _, h⟩ => h

theorem upon_in {lo n : Nat} {P : Program} {o : Oper} {a : Act} {K K' : Act → World → Prop} {Qn : Act → World → Prop} (hK : ∀ a w, K a w → K' a w) :
    ∀ x : Result Next, o.upon P a K (onlyN Qn) x → o.uponIn (Fence.wide.inRound lo) n P a K' (onlyN Qn) x := by
  intro x h
  unfold Oper.upon at h
  split at h
  · exact hK _ _ h
  · exact hK _ _ h
  · exact hK _ _ h
  · refine ⟨fun h => (by cases h), CallsIn.inRound lo (callsIn_wide.2 (h.mono ?_))⟩
    intro e w' h
    cases e with
    | returned v => exact hK _ _ h
    | panicked c => exact h
    | outgrown => exact h
  · exact ⟨fun h => (by cases h), fun c cs _ => by obtain ⟨v, w2, r, s⟩ := h c cs; exact ⟨v, w2, hK _ _ r, stepsIn_wide.2 s⟩⟩
  · exact h
  · exact h.elim

theorem op_in {lo n : Nat} {P : Program} {ops : Array Oper} (hdf : ∀ (i : Nat) o, ops[i]? = some o → ∀ c, o.op ≠ .defer c) {Qn : Act → World → Prop} {i : Nat} {K K' : Act → World → Prop} (hK : ∀ a w, K a w → K' a w) (a : Act) (w : World)
    (h : wpOp P ops (onlyN Qn) i K a w) : wpOpIn (Fence.wide.inRound lo) n P ops (onlyN Qn) i K' a w := by
  unfold wpOp at h
  unfold wpOpIn
  split at h
  · rename_i he; simp only [he]; exact hK _ _ h
  · rename_i o he
    simp only [he]
    split at h
    · rename_i hw
      rw [if_pos hw]
      rcases h with h | ⟨-, h⟩
      · refine ⟨fun _ _ => trivial, ?_⟩
        rw [Oper.semAt_plain _ _ _ (hdf i o he)]
        exact upon_in hK _ h
      · exact (not_lets h).elim
    · rename_i hw
      rw [if_neg hw]
      exact ⟨fun _ _ => trivial, hK _ _ h⟩

theorem any_in {lo n : Nat} {P : Program} {md : Region.Mode} {ops : Array Oper} (hdf : ∀ (i : Nat) o, ops[i]? = some o → ∀ c, o.op ≠ .defer c) {Qn : Act → World → Prop} :
    ∀ (fuel : Nat) (listed : Array Bool) (a : Act) (w : World), wpAny P md ops (onlyN Qn) fuel listed a w → wpAnyIn (Fence.wide.inRound lo) n P md ops (onlyN Qn) fuel listed a w
  | 0, _, _, _, h => h
  | fuel + 1, listed, a, w, h => ⟨h.1, fun i hi => op_in hdf (fun a w h => any_in hdf fuel _ a w h) a w (h.2 i hi)⟩

/-- a region in a round, that makes nothing wait: what is held is held there, too. -/
theorem region_round {lo n : Nat} {P : Program} {id : Nat} {ops : Array Oper} {Q : Exit → Act → World → Prop} {S : World → Prop} {a : Act} {w : World} (hm : P.follows .mixedOrders = true) (hdf : ∀ (i : Nat) o, ops[i]? = some o → ∀ c, o.op ≠ .defer c)
    (h : wpAnyH P .any ops (onlyN (Q .normal)) S ops.size (Array.replicate ops.size false) a w.drew) : (Code.region id ops true).wpIn (Fence.wide.inRound lo) n P Q a w :=
  wpIn_mono (wpIn_region_any hm (any_in hdf _ _ _ _ (wpAny_of_held _ _ _ _ h))) fun e a w h => by
    cases e <;> first | exact h | exact h.elim
end Go.Proofs.Ytcbbjjenkommeaa.Ex
