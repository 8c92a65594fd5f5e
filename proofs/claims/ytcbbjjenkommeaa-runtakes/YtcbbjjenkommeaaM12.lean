/- What a run does, as plain data: by gas. -/
import Derived.Test.YtcbbjjenkommeaaM11
import Derived.Maps.AppendAt
namespace Go.Proofs.Ytcbbjjenkommeaa.Ex
open Go.RowKit
set_option linter.unusedVariables false
abbrev Ev4 := Int × Int × Int × Int
/-- what one who watches holds: levels of variables, of places. -/
structure WSt where
  vs : List Lev
  ps : List Lev
/-- what one who watches says of a moment (its kind, the command's number, how deep, the command), and what it holds then. -/
abbrev Ob := Nat → Int → Nat → D → WSt → Bool × WSt
def obAll : Ob := fun _ _ _ _ s => (true, s)
structure RSt where
  ev : List Ev4
  vars : List Int
  taken : List Int
  steps : Nat
  en : Int
  sp : Int
  o : WSt

def RSt.step (st : RSt) : RSt := { st with steps := st.steps + 1 }
def RSt.out (st : RSt) : RSt := { st with en := 2 }
def RSt.setv (st : RSt) (v x : Int) : RSt := { st with vars := st.vars.set v.toNat x }
def RSt.tell (st : RSt) (e : Ev4) : RSt := { st with ev := st.ev ++ [e] }
def RSt.took (st : RSt) (c : Int) : RSt := { st with taken := st.taken.set c.toNat (st.taken.getD c.toNat 0 + 1) }
def RSt.held (st : RSt) (o : WSt) : RSt := { st with o := o }
def RSt.stop (st : RSt) (a : Int) (o : WSt) : RSt := { st with o := o, en := 3, sp := a }
def nextX (ins : List (List Int)) (st : RSt) (c : Int) : Int := (ins.getD c.toNat []).getD (st.taken.getD c.toNat 0).toNat 0
def setAll (vs : List Int) (l : List (Int × Int)) : List Int := l.foldl (fun vs q => vs.set q.1.toNat q.2) vs

/-- go on, if there was fuel, and none stopped it. -/
def contR (r : Bool × RSt) (f : RSt → Bool × RSt) : Bool × RSt := if r.1 = true then f r.2 else r
/-- may it go on? -/
def passR (ob : Ob) (kind : Nat) (a : Int) (dp : Nat) (d : D) (st : RSt) : Bool × RSt :=
  if (ob kind a dp d st.o).1 = true then (true, st.held (ob kind a dp d st.o).2) else (false, st.stop a (ob kind a dp d st.o).2)

/-- a command of one step alone. -/
def oneX (K : Nat) (ins : List (List Int)) (d : D) (a : Int) (st : RSt) : RSt :=
  if sKind d = 1 then st.setv (sVar d) (valX st.vars K (sExpr d))
  else if sKind d = 3 then (st.took (sOther d)).setv (sVar d) (nextX ins st (sOther d))
  else if sKind d = 4 then st.tell (1, a, sOther d, valX st.vars K (sExpr d))
  else if sKind d = 5 then (st.setv (sVar d) (valX st.vars K (sExpr d))).tell (2, a, sVar d, valX st.vars K (sExpr d))
  else if sKind d = 6 then (st.setv (sVar d) (valX st.vars K (sExpr d))).tell (3, a, sVar d, valX st.vars K (sExpr d))
  else st

def RSt.args (K : Nat) (fs : List FnD) (d : D) (st : RSt) : RSt := { st with vars := setAll st.vars ((fnAt fs (sOther d)).ps.zip ((sArgs d).map (valX st.vars K))) }

/-- commands (0), a command (1), a loop (2). -/
def rn (K kf : Nat) (fs : List FnD) (F : Nat) (ins : List (List Int)) (ob : Ob) : Nat → Nat → Nat → List D → Int → Nat → RSt → Bool × RSt
  | 0, _, _, _, _, _, st => (false, st)
  | g + 1, 0, k, l, a, dp, st =>
    match l with
    | [] => (true, st)
    | d :: r => if st.steps = F then (false, st.out) else contR (passR ob 1 a dp d st.step) (fun st1 => contR (rn K kf fs F ins ob g 1 k [d] a dp st1) (fun st' => rn K kf fs F ins ob g 0 k r (a + cntS k d) dp st'))
  | g + 1, 1, k, l, a, dp, st =>
    match l with
    | [] => (true, st)
    | d :: _ =>
      if sKind d = 2 then contR (rn K kf fs F ins ob g 0 kf (fnAt fs (sOther d)).body (cntF kf (fs.take (sOther d).toNat)) dp (st.args K fs d)) (fun st1 => contR (passR ob 3 a dp d st1) (fun st' => (true, st'.setv (sVar d) (valX st'.vars K (fnAt fs (sOther d)).res))))
      else if sKind d = 7 then (if valX st.vars K (sExpr d) = 0 then rn K kf fs F ins ob g 0 (k - 1) (sElse d) (a + 1 + cnts (k - 1) (sThen d)) (dp + 1) st else rn K kf fs F ins ob g 0 (k - 1) (sThen d) (a + 1) (dp + 1) st)
      else if sKind d = 8 then rn K kf fs F ins ob g 2 k [d] a dp st
      else (true, oneX K ins d a st)
  | g + 1, _ + 2, k, l, a, dp, st =>
    match l with
    | [] => (true, st)
    | d :: _ => if valX st.vars K (sExpr d) = 0 then (true, st) else contR (rn K kf fs F ins ob g 0 (k - 1) (sThen d) (a + 1) (dp + 1) st) (fun st' => if st'.steps = F then (false, st'.out) else contR (passR ob 2 a dp d st'.step) (fun st1 => rn K kf fs F ins ob g 2 k [d] a dp st1))

/-- what grows. -/
structure Gr (st st' : RSt) : Prop where
  ev : st.ev <+: st'.ev
  steps : st.steps ≤ st'.steps
  len : st'.taken.length = st.taken.length
  taken : ∀ c, st.taken.getD c 0 ≤ st'.taken.getD c 0
theorem Gr.refl (st : RSt) : Gr st st := ⟨List.prefix_rfl, Nat.le_refl _, rfl, fun _ => Int.le_refl _⟩
theorem Gr.trans {a b c : RSt} (h : Gr a b) (k : Gr b c) : Gr a c := ⟨h.ev.trans k.ev, Nat.le_trans h.steps k.steps, k.len.trans h.len, fun x => Int.le_trans (h.taken x) (k.taken x)⟩
theorem Gr.step (st : RSt) : Gr st st.step := ⟨List.prefix_rfl, Nat.le_succ _, rfl, fun _ => Int.le_refl _⟩
theorem Gr.setv (st : RSt) (v x : Int) : Gr st (st.setv v x) := ⟨List.prefix_rfl, Nat.le_refl _, rfl, fun _ => Int.le_refl _⟩
theorem Gr.tell (st : RSt) (e : Ev4) : Gr st (st.tell e) := ⟨List.prefix_append _ _, Nat.le_refl _, rfl, fun _ => Int.le_refl _⟩
theorem Gr.args (K : Nat) (fs : List FnD) (d : D) (st : RSt) : Gr st (st.args K fs d) := ⟨List.prefix_rfl, Nat.le_refl _, rfl, fun _ => Int.le_refl _⟩
theorem getD_set {l : List Int} {i j : Nat} {x : Int} : (l.set i x).getD j 0 = if i = j ∧ i < l.length then x else l.getD j 0 := by
  rw [List.getD_eq_getElem?_getD, List.getD_eq_getElem?_getD, List.getElem?_set]
  by_cases h : i = j
  · subst h
    by_cases h2 : i < l.length
    · simp [h2]
    · simp [h2]
  · simp [h]
theorem Gr.took (st : RSt) (c : Int) : Gr st (st.took c) := ⟨List.prefix_rfl, Nat.le_refl _, by simp [RSt.took], fun x => by
  simp only [RSt.took, getD_set]
  split
  · rename_i h
    rw [← h.1]
    omega
  · exact Int.le_refl _⟩
theorem Gr.one (K : Nat) (ins : List (List Int)) (d : D) (a : Int) (st : RSt) : Gr st (oneX K ins d a st) := by
  unfold oneX
  split
  · exact Gr.setv _ _ _
  · split
    · exact (Gr.took _ _).trans (Gr.setv _ _ _)
    · split
      · exact Gr.tell _ _
      · split
        · exact (Gr.setv _ _ _).trans (Gr.tell _ _)
        · split
          · exact (Gr.setv _ _ _).trans (Gr.tell _ _)
          · exact Gr.refl _
theorem Gr.out (st : RSt) : Gr st st.out := ⟨List.prefix_rfl, Nat.le_refl _, rfl, fun _ => Int.le_refl _⟩
theorem Gr.pass (ob : Ob) (kind : Nat) (a : Int) (dp : Nat) (d : D) (st : RSt) : Gr st (passR ob kind a dp d st).2 := by
  unfold passR
  split
  · exact ⟨List.prefix_rfl, Nat.le_refl _, rfl, fun _ => Int.le_refl _⟩
  · exact ⟨List.prefix_rfl, Nat.le_refl _, rfl, fun _ => Int.le_refl _⟩
theorem pass_steps (ob : Ob) (kind : Nat) (a : Int) (dp : Nat) (d : D) (st : RSt) : (passR ob kind a dp d st).2.steps = st.steps := by
  unfold passR
  split <;> rfl
theorem contR_gr {st : RSt} {r : Bool × RSt} {f : RSt → Bool × RSt} (h : Gr st r.2) (hf : ∀ st', Gr st' (f st').2) : Gr st (contR r f).2 := by
  unfold contR
  split
  · exact h.trans (hf _)
  · exact h

theorem rn_gr (K kf : Nat) (fs : List FnD) (F : Nat) (ins : List (List Int)) (ob : Ob) : ∀ (g m k : Nat) (l : List D) (a : Int) (dp : Nat) (st : RSt), Gr st (rn K kf fs F ins ob g m k l a dp st).2 := by
  intro g
  induction g with
  | zero => intro m k l a dp st; exact Gr.refl _
  | succ g ih =>
    intro m k l a dp st
    match m, l with
    | 0, [] => exact Gr.refl _
    | 0, d :: r =>
      simp only [rn]
      split
      · exact Gr.out _
      · exact contR_gr ((Gr.step st).trans (Gr.pass _ _ _ _ _ _)) (fun st1 => contR_gr (ih _ _ _ _ _ _) (fun st' => ih _ _ _ _ _ _))
    | 1, [] => exact Gr.refl _
    | 1, d :: r =>
      simp only [rn]
      split
      · exact contR_gr ((Gr.args K fs d st).trans (ih _ _ _ _ _ _)) (fun st1 => contR_gr (Gr.pass _ _ _ _ _ _) (fun st' => Gr.setv _ _ _))
      · split
        · split
          · exact ih _ _ _ _ _ _
          · exact ih _ _ _ _ _ _
        · split
          · exact ih _ _ _ _ _ _
          · exact Gr.one _ _ _ _ _
    | m + 2, [] => exact Gr.refl _
    | m + 2, d :: r =>
      simp only [rn]
      split
      · exact Gr.refl _
      · refine contR_gr (ih _ _ _ _ _ _) (fun st' => ?_)
        split
        · exact Gr.out _
        · exact contR_gr ((Gr.step st').trans (Gr.pass _ _ _ _ _ _)) (fun st1 => ih _ _ _ _ _ _)

/-- one run with less fuel beside another one. -/
def More (F : Nat) (a b : Bool × RSt) : Prop := a.2.steps ≤ F ∧ ((a.1 = true ∧ b = a) ∨ (a.1 = false ∧ a.2.steps = F ∧ a.2.en = 2 ∧ a.2.ev <+: b.2.ev))
theorem More.same {F : Nat} {st : RSt} (h : st.steps ≤ F) : More F (true, st) (true, st) := ⟨h, Or.inl ⟨rfl, rfl⟩⟩
theorem contR_more {F : Nat} {a b : Bool × RSt} {f f' : RSt → Bool × RSt} (h : More F a b) (hf : a.1 = true → a.2.steps ≤ F → More F (f a.2) (f' a.2)) (hg : ∀ st', Gr st' (f' st').2) : More F (contR a f) (contR b f') := by
  obtain ⟨hs, ⟨h1, rfl⟩ | ⟨h1, h2, h4, h3⟩⟩ := h
  · unfold contR
    rw [if_pos h1, if_pos h1]
    exact hf h1 hs
  · have ha : contR a f = a := by unfold contR; rw [if_neg (by simp [h1])]
    rw [ha]
    refine ⟨hs, Or.inr ⟨h1, h2, h4, ?_⟩⟩
    unfold contR
    split
    · exact h3.trans (hg _).ev
    · exact h3
theorem pass_more {F : Nat} {ob : Ob} (ho : ∀ k a dp d s, (ob k a dp d s).1 = true) (kind : Nat) (a : Int) (dp : Nat) (d : D) {st : RSt} (h : st.steps ≤ F) : More F (passR ob kind a dp d st) (passR ob kind a dp d st) := by
  unfold passR
  rw [if_pos (ho _ _ _ _ _)]
  exact More.same h

def gasOf : Nat → Nat
  | 0 => 1
  | 1 => 3
  | _ => 2

theorem rn_more (K kf : Nat) (fs : List FnD) (F F' : Nat) (ins : List (List Int)) (ob : Ob) (ho : ∀ k a dp d s, (ob k a dp d s).1 = true) (hF : F ≤ F') : ∀ (g m k : Nat) (l : List D) (a : Int) (dp : Nat) (st : RSt), st.steps ≤ F → 3 * (F' - st.steps) + gasOf m ≤ g →
    More F (rn K kf fs F ins ob g m k l a dp st) (rn K kf fs F' ins ob g m k l a dp st) := by
  intro g
  induction g with
  | zero => intro m k l a dp st _ h; exfalso; match m, h with
    | 0, h => simp [gasOf] at h
    | 1, h => simp [gasOf] at h
    | m + 2, h => simp [gasOf] at h
  | succ g ih =>
    intro m k l a dp st hs h
    match m, l with
    | 0, [] => exact More.same hs
    | 0, d :: r =>
      simp only [gasOf] at h
      by_cases h0 : st.steps = F
      · have e : rn K kf fs F ins ob (g + 1) 0 k (d :: r) a dp st = (false, st.out) := by simp only [rn]; rw [if_pos h0]
        rw [e]
        refine ⟨hs, Or.inr ⟨rfl, h0, rfl, ?_⟩⟩
        show st.ev <+: _
        exact (rn_gr K kf fs F' ins ob _ _ _ _ _ _ _).ev
      · have h1 : ¬ st.steps = F' := by omega
        simp only [rn]
        rw [if_neg h0, if_neg h1]
        have hst : st.step.steps = st.steps + 1 := rfl
        refine contR_more (pass_more ho _ _ _ _ (by rw [hst]; omega)) (fun _ hs1 => ?_) (fun st1 => contR_gr (rn_gr K kf fs F' ins ob _ _ _ _ _ _ _) (fun st' => rn_gr K kf fs F' ins ob _ _ _ _ _ _ _))
        have hp := pass_steps ob 1 a dp d st.step
        rw [hst] at hp
        generalize (passR ob 1 a dp d st.step).2 = st1 at hs1 hp ⊢
        refine contR_more (ih _ _ _ _ _ _ hs1 (by rw [hp]; simp only [gasOf]; omega)) (fun _ hs2 => ?_) (fun st' => rn_gr K kf fs F' ins ob _ _ _ _ _ _ _)
        have hg := (rn_gr K kf fs F ins ob g 1 k [d] a dp st1).steps
        rw [hp] at hg
        exact ih _ _ _ _ _ _ hs2 (by simp only [gasOf]; omega)
    | 1, [] => exact More.same hs
    | 1, d :: r =>
      simp only [gasOf] at h
      simp only [rn]
      split
      · refine contR_more (ih _ _ _ _ _ _ hs (by show 3 * (F' - st.steps) + gasOf 0 ≤ g; simp only [gasOf]; omega)) (fun _ hs2 => ?_) (fun st1 => contR_gr (Gr.pass _ _ _ _ _ _) (fun st' => Gr.setv _ _ _))
        exact contR_more (pass_more ho _ _ _ _ hs2) (fun _ hs3 => More.same hs3) (fun st' => Gr.setv _ _ _)
      · split
        · split
          · exact ih _ _ _ _ _ _ hs (by simp only [gasOf]; omega)
          · exact ih _ _ _ _ _ _ hs (by simp only [gasOf]; omega)
        · split
          · exact ih _ _ _ _ _ _ hs (by simp only [gasOf]; omega)
          · refine More.same ?_
            have : (oneX K ins d a st).steps = st.steps := by
              unfold oneX
              split
              · rfl
              · split
                · rfl
                · split
                  · rfl
                  · split
                    · rfl
                    · split <;> rfl
            rw [this]; exact hs
    | m + 2, [] => exact More.same hs
    | m + 2, d :: r =>
      simp only [gasOf] at h
      simp only [rn]
      split
      · exact More.same hs
      · refine contR_more (ih _ _ _ _ _ _ hs (by simp only [gasOf]; omega)) (fun _ hs2 => ?_) (fun st' => ?_)
        · have hg := (rn_gr K kf fs F ins ob g 0 (k - 1) (sThen d) (a + 1) (dp + 1) st).steps
          generalize (rn K kf fs F ins ob g 0 (k - 1) (sThen d) (a + 1) (dp + 1) st).2 = st2 at hs2 hg ⊢
          by_cases h0 : st2.steps = F
          · rw [if_pos h0]
            refine ⟨hs2, Or.inr ⟨rfl, h0, rfl, ?_⟩⟩
            split
            · exact List.prefix_rfl
            · exact (contR_gr ((Gr.step st2).trans (Gr.pass ob 2 a dp d _)) (fun st1 => rn_gr K kf fs F' ins ob _ _ _ _ _ _ _)).ev
          · rw [if_neg h0, if_neg (by omega)]
            have hst : st2.step.steps = st2.steps + 1 := rfl
            refine contR_more (pass_more ho _ _ _ _ (by rw [hst]; omega)) (fun _ hs1 => ?_) (fun st1 => rn_gr K kf fs F' ins ob _ _ _ _ _ _ _)
            have hp := pass_steps ob 2 a dp d st2.step
            rw [hst] at hp
            exact ih _ _ _ _ _ _ hs1 (by rw [hp]; simp only [gasOf]; omega)
        · split
          · exact Gr.out _
          · exact contR_gr ((Gr.step st').trans (Gr.pass _ _ _ _ _ _)) (fun st1 => rn_gr K kf fs F' ins ob _ _ _ _ _ _ _)

/-- the same numbers, as far as they are taken. -/
def Agree (ins ins' : List (List Int)) (T : List Int) : Prop := ∀ (c i : Nat), (i : Int) < T.getD c 0 → (ins.getD c []).getD i 0 = (ins'.getD c []).getD i 0
theorem Agree.le {ins ins' : List (List Int)} {st st' : RSt} (h : Agree ins ins' st'.taken) (hg : Gr st st') : Agree ins ins' st.taken := fun c i hi => h c i (Int.lt_of_lt_of_le hi (hg.taken c))

structure InvT (ni : Nat) (st : RSt) : Prop where
  len : st.taken.length = ni
  pos : ∀ c, 0 ≤ st.taken.getD c 0
theorem InvT.gr {ni : Nat} {st st' : RSt} (h : InvT ni st) (hg : Gr st st') : InvT ni st' := ⟨hg.len.trans h.len, fun c => Int.le_trans (h.pos c) (hg.taken c)⟩

theorem next_same {ni : Nat} {ins ins' : List (List Int)} {st : RSt} {c : Int} (hi : InvT ni st) (h1 : ins.length = ni) (h2 : ins'.length = ni) (h : Agree ins ins' (st.took c).taken) : nextX ins st c = nextX ins' st c := by
  unfold nextX
  by_cases hc : c.toNat < ni
  · refine h c.toNat _ ?_
    have := hi.pos c.toNat
    simp only [RSt.took, getD_set, hi.len]
    simp only [hc, and_self, if_true]
    omega
  · rw [List.getD_eq_getElem?_getD (l := ins), List.getD_eq_getElem?_getD (l := ins'), List.getElem?_eq_none (by omega), List.getElem?_eq_none (by omega)]

theorem contR_same {a b : Bool × RSt} {f f' : RSt → Bool × RSt} (h : b = a) (hf : a.1 = true → f' a.2 = f a.2) : contR b f' = contR a f := by
  subst h
  unfold contR
  split
  · rename_i h; exact hf h
  · rfl

theorem contR_of {a : Bool × RSt} {f : RSt → Bool × RSt} {ins ins' : List (List Int)} (h : Agree ins ins' (contR a f).2.taken) (hf : ∀ st', Gr st' (f st').2) : Agree ins ins' a.2.taken := by
  refine h.le ?_
  exact contR_gr (Gr.refl _) hf

theorem rn_takes (K kf : Nat) (fs : List FnD) (F : Nat) (ins ins' : List (List Int)) (ob : Ob) (ni : Nat) (h1 : ins.length = ni) (h2 : ins'.length = ni) : ∀ (g m k : Nat) (l : List D) (a : Int) (dp : Nat) (st : RSt), InvT ni st →
    Agree ins ins' (rn K kf fs F ins ob g m k l a dp st).2.taken → rn K kf fs F ins' ob g m k l a dp st = rn K kf fs F ins ob g m k l a dp st := by
  intro g
  induction g with
  | zero => intro m k l a dp st _ _; rfl
  | succ g ih =>
    intro m k l a dp st hi h
    match m, l with
    | 0, [] => rfl
    | 0, d :: r =>
      simp only [rn] at h ⊢
      by_cases h0 : st.steps = F
      · rw [if_pos h0, if_pos h0]
      · rw [if_neg h0] at h ⊢
        rw [if_neg h0]
        have hst := (hi.gr (Gr.step st)).gr (Gr.pass ob 1 a dp d st.step)
        refine contR_same rfl (fun hp => ?_)
        unfold contR at h
        rw [if_pos hp] at h
        generalize (passR ob 1 a dp d st.step).2 = st1 at h hst ⊢
        change Agree ins ins' (contR (rn K kf fs F ins ob g 1 k [d] a dp st1) (fun st' => rn K kf fs F ins ob g 0 k r (a + cntS k d) dp st')).2.taken at h
        refine contR_same (ih _ _ _ _ _ _ hst (contR_of h (fun st' => rn_gr K kf fs F ins ob _ _ _ _ _ _ _))) (fun ht => ?_)
        refine ih _ _ _ _ _ _ (hst.gr (rn_gr K kf fs F ins ob _ _ _ _ _ _ _)) ?_
        unfold contR at h
        rw [if_pos ht] at h
        exact h
    | 1, [] => rfl
    | 1, d :: r =>
      simp only [rn] at h ⊢
      by_cases k2 : sKind d = 2
      · rw [if_pos k2] at h ⊢
        rw [if_pos k2]
        exact contR_same (ih _ _ _ _ _ _ (hi.gr (Gr.args K fs d st)) (contR_of h (fun st1 => contR_gr (Gr.pass _ _ _ _ _ _) (fun st' => Gr.setv _ _ _)))) (fun _ => rfl)
      · rw [if_neg k2] at h ⊢
        rw [if_neg k2]
        by_cases k7 : sKind d = 7
        · rw [if_pos k7] at h ⊢
          rw [if_pos k7]
          by_cases hv : valX st.vars K (sExpr d) = 0
          · rw [if_pos hv] at h ⊢
            rw [if_pos hv]
            exact ih _ _ _ _ _ _ hi h
          · rw [if_neg hv] at h ⊢
            rw [if_neg hv]
            exact ih _ _ _ _ _ _ hi h
        · rw [if_neg k7] at h ⊢
          rw [if_neg k7]
          by_cases k8 : sKind d = 8
          · rw [if_pos k8] at h ⊢
            rw [if_pos k8]
            exact ih _ _ _ _ _ _ hi h
          · rw [if_neg k8] at h ⊢
            rw [if_neg k8]
            by_cases k3 : sKind d = 3
            · have hA : Agree ins ins' (st.took (sOther d)).taken := by
                have e : (oneX K ins d a st).taken = (st.took (sOther d)).taken := by
                  unfold oneX
                  rw [if_neg (by omega), if_pos k3]
                  rfl
                rw [← e]
                exact h
              unfold oneX
              simp only [next_same hi h1 h2 hA]
            · unfold oneX
              simp only [if_neg k3]
    | m + 2, [] => rfl
    | m + 2, d :: r =>
      simp only [rn] at h ⊢
      by_cases hv : valX st.vars K (sExpr d) = 0
      · rw [if_pos hv, if_pos hv]
      · rw [if_neg hv] at h ⊢
        rw [if_neg hv]
        have hgr : ∀ st' : RSt, Gr st' (if st'.steps = F then (false, st'.out) else contR (passR ob 2 a dp d st'.step) (fun st1 => rn K kf fs F ins ob g 2 k [d] a dp st1)).2 := fun st' => by
          split
          · exact Gr.out _
          · exact contR_gr ((Gr.step st').trans (Gr.pass _ _ _ _ _ _)) (fun st1 => rn_gr K kf fs F ins ob _ _ _ _ _ _ _)
        refine contR_same (ih _ _ _ _ _ _ hi (contR_of h hgr)) (fun ht => ?_)
        unfold contR at h
        rw [if_pos ht] at h
        have hi2 := hi.gr (rn_gr K kf fs F ins ob g 0 (k - 1) (sThen d) (a + 1) (dp + 1) st)
        generalize (rn K kf fs F ins ob g 0 (k - 1) (sThen d) (a + 1) (dp + 1) st).2 = st2 at h hi2 ⊢
        by_cases h0 : st2.steps = F
        · simp only [if_pos h0]
        · simp only [if_neg h0] at h ⊢
          have hst := (hi2.gr (Gr.step st2)).gr (Gr.pass ob 2 a dp d st2.step)
          refine contR_same rfl (fun hp => ?_)
          rw [if_pos hp] at h
          exact ih _ _ _ _ _ _ hst h
abbrev intsV (l : List Int) : List Value := l.map fun x => Value.int .i64 x
def evCells : List Ev4 → List Value
  | [] => []
  | e :: r => .int .i64 e.1 :: .int .i64 e.2.1 :: .int .i64 e.2.2.1 :: .int .i64 e.2.2.2 :: evCells r
theorem evCells_append : ∀ (l m : List Ev4), evCells (l ++ m) = evCells l ++ evCells m
  | [], m => rfl
  | e :: r, m => by simp [evCells, evCells_append r m]
/-- what a runner holds of its own in memory: the row of events, and the blocks of one who watches. -/
structure Ow where
  ev : Value
  X : Nat → Prop
def Ow.at (E : Ow) (k : Nat) : Prop := E.ev.ownBlock = some k ∨ E.X k
/-- the runner's own blocks. -/
def Yb (br b1 b2 : Nat) (ev : Value) (k : Nat) : Prop := k = br ∨ k = b1 ∨ k = b2 ∨ ev.ownBlock = some k
/-- one who watches: what it holds in memory (with blocks X of its own, apart from Y's), and what holds of it at a depth. -/
structure ObsI where
  fn : FuncId
  cap : List Value
  ent : ∀ (args : Array Value) (w : World), (callFunc fn args).run Try.prog w = .ok (.enter fn args) w
  ob : Ob
  In : (Nat → Prop) → WSt → (Nat → Prop) → World → Prop
  ok : Nat → WSt → Prop
  lt : ∀ {Y s X w}, In Y s X w → ∀ k, X k → k < w.heap.size ∧ ¬ Y k
  kept : ∀ {Y Y' s X w w'}, In Y s X w → w'.os = w.os → w'.tape = w.tape → w'.output = w.output → w.heap.size ≤ w'.heap.size → (∀ k, k < w.heap.size → ¬ Y k → w'.heap[k]? = w.heap[k]?) → (∀ k, Y' k → Y k ∨ w.heap.size ≤ k) → In Y' s X w'
  less : ∀ {dp s}, ok (dp + 1) s → ok dp s

structure RnG (I : ObsI) (B : Nat) (R : List Value) (br b1 b2 b3 : Nat) (fl : List Int) (dp : Nat) (st : RSt) (ev : Ow) (w : World) : Prop where
  row : RowAt (ev.ev :: .slice (some ⟨b1, 0, none⟩) st.vars.length st.vars.length :: .slice (some ⟨b2, 0, none⟩) st.taken.length st.taken.length :: .int .i64 (st.steps : Int) :: .int .i64 st.en :: .int .i64 st.sp :: (R ++ [.int .i64 (dp : Int), .func (.func I.fn) #[] I.cap.toArray])) w br
  vars : RowAt (intsV st.vars) w b1
  taken : RowAt (intsV st.taken) w b2
  first : RowAt (intsV fl) w b3
  own : w.ownsRow B 71 4 ev.ev st.ev.length (evCells st.ev)
  z0 : ∀ j, w.frozen? ⟨br, j, none⟩ = false
  z1 : ∀ j, w.frozen? ⟨b1, j, none⟩ = false
  z2 : ∀ j, w.frozen? ⟨b2, j, none⟩ = false
  apart : br ≠ b1 ∧ br ≠ b2 ∧ b1 ≠ b2 ∧ b3 ≠ br ∧ b3 ≠ b1 ∧ b3 ≠ b2
  evA : ¬ ev.at br ∧ ¬ ev.at b1 ∧ ¬ ev.at b2 ∧ ¬ ev.at b3
  lo : B ≤ br ∧ B ≤ b1 ∧ B ≤ b2
  hi : br < w.heap.size ∧ b1 < w.heap.size ∧ b2 < w.heap.size ∧ b3 < w.heap.size ∧ B ≤ w.heap.size
  ob : I.In (Yb br b1 b2 ev.ev) st.o ev.X w
  xlo : ∀ k, ev.X k → B ≤ k
  okd : I.ok dp st.o

theorem RnG.ev' {I : ObsI} {B : Nat} {R : List Value} {br b1 b2 b3 : Nat} {fl : List Int} {dp : Nat} {st : RSt} {ev : Ow} {w : World} (h : RnG I B R br b1 b2 b3 fl dp st ev w) : ∀ k, ev.at k → B ≤ k ∧ k < w.heap.size := fun k hk => by
  rcases hk with hk | hk
  · exact h.own.lt k hk
  · exact ⟨h.xlo k hk, (I.lt h.ob k hk).1⟩

theorem RnG.over {I : ObsI} {B : Nat} {R : List Value} {br b1 b2 b3 : Nat} {fl : List Int} {dp : Nat} {st : RSt} {ev : Ow} {w w' : World} (h : RnG I B R br b1 b2 b3 fl dp st ev w) (hb : Below w.heap.size w w') : RnG I B R br b1 b2 b3 fl dp st ev w' := by
  obtain ⟨hc, hf⟩ := bcell hb
  have hs := hb.size
  refine ⟨h.row.over hb, h.vars.over hb, h.taken.over hb, h.first.over hb, ?_, fun j => (hf _ _ h.hi.1).trans (h.z0 j), fun j => (hf _ _ h.hi.2.1).trans (h.z1 j), fun j => (hf _ _ h.hi.2.2.1).trans (h.z2 j), h.apart, h.evA, h.lo, ⟨by have := h.hi; omega, by have := h.hi; omega, by have := h.hi; omega, by have := h.hi; omega, by have := h.hi; omega⟩, I.kept h.ob hb.os hb.tape hb.output hb.size (fun k hk _ => hb.block k hk) (fun k hk => Or.inl hk), h.xlo, h.okd⟩
  have hg : w.grownBy w' none := ⟨hb.os, hb.tape, hb.output, hb.size, fun k hk _ => hb.block k hk⟩
  exact h.own.kept hg (by cases hv : ev.ev.ownBlock <;> simp)

/-- what is kept while it runs. -/
structure Fr (br b1 b2 : Nat) (ev ev' : Ow) (w w' : World) : Prop where
  os : w'.os = w.os
  tape : w'.tape = w.tape
  output : w'.output = w.output
  size : w.heap.size ≤ w'.heap.size
  block : ∀ k, k < w.heap.size → k ≠ br → k ≠ b1 → k ≠ b2 → ¬ ev.at k → w'.heap[k]? = w.heap[k]?
  evB : ∀ k, ev'.at k → ev.at k ∨ w.heap.size ≤ k
theorem Fr.of_below {br b1 b2 : Nat} {ev : Ow} {w w' : World} (h : Below w.heap.size w w') : Fr br b1 b2 ev ev w w' := ⟨h.os, h.tape, h.output, h.size, fun k hk _ _ _ _ => h.block k hk, fun k hk => Or.inl hk⟩
theorem Fr.refl (br b1 b2 : Nat) (ev : Ow) (w : World) : Fr br b1 b2 ev ev w w := Fr.of_below (Below.refl _ _)
theorem Fr.trans {br b1 b2 : Nat} {ev ev1 ev2 : Ow} {w w1 w2 : World} (h : Fr br b1 b2 ev ev1 w w1) (k : Fr br b1 b2 ev1 ev2 w1 w2) : Fr br b1 b2 ev ev2 w w2 := by
  refine ⟨k.os.trans h.os, k.tape.trans h.tape, k.output.trans h.output, Nat.le_trans h.size k.size, fun i hi h0 h1 h2 h3 => ?_, fun i hi => ?_⟩
  · refine (k.block i (Nat.lt_of_lt_of_le hi h.size) h0 h1 h2 (fun hx => ?_)).trans (h.block i hi h0 h1 h2 h3)
    rcases h.evB i hx with he | he
    · exact h3 he
    · omega
  · rcases k.evB i hi with he | he
    · exact h.evB i he
    · exact Or.inr (Nat.le_trans h.size he)
theorem Fr.over {br b1 b2 : Nat} {ev ev1 : Ow} {w w1 w2 : World} (h : Fr br b1 b2 ev ev1 w w1) (k : Below w1.heap.size w1 w2) : Fr br b1 b2 ev ev1 w w2 := h.trans (Fr.of_below k)
theorem Fr.cell {br b1 b2 : Nat} {ev ev' : Ow} {w w' : World} (h : Fr br b1 b2 ev ev' w w') {b j : Nat} {u : Value} (hc : w.cell? ⟨b, j, none⟩ = some u) (h0 : b ≠ br) (h1 : b ≠ b1) (h2 : b ≠ b2) (h3 : ¬ ev.at b) : w'.cell? ⟨b, j, none⟩ = some u :=
  (World.cell?_of_block (h.block b (World.block_lt_of_cell? w _ hc) h0 h1 h2 h3)).trans hc
theorem Fr.frozen {br b1 b2 : Nat} {ev ev' : Ow} {w w' : World} (h : Fr br b1 b2 ev ev' w w') {b j : Nat} (hb : b < w.heap.size) (h0 : b ≠ br) (h1 : b ≠ b1) (h2 : b ≠ b2) (h3 : ¬ ev.at b) : w'.frozen? ⟨b, j, none⟩ = w.frozen? ⟨b, j, none⟩ :=
  World.frozen?_of_block (h.block b hb h0 h1 h2 h3)

section
variable {I : ObsI} {B : Nat} {R : List Value} {br b1 b2 b3 : Nat} {fl : List Int} {dp : Nat} {st : RSt} {ev : Ow} {w : World}

/-- what lay there ahead of all is as it was. -/
theorem RnG.below {ev' : Ow} {w' : World} (h : RnG I B R br b1 b2 b3 fl dp st ev w) (f : Fr br b1 b2 ev ev' w w') : Below B w w' :=
  ⟨f.os, f.tape, f.output, f.size, fun k hk => f.block k (by have := h.hi; omega) (by have := h.lo; omega) (by have := h.lo; omega) (by have := h.lo; omega) (fun hx => by have := (h.ev' k hx).1; omega)⟩

/-- a box made later is kept. -/
theorem RnG.box {ev' : Ow} {w1 w2 : World} {b j : Nat} {u : Value} (h : RnG I B R br b1 b2 b3 fl dp st ev w) (f : Fr br b1 b2 ev ev' w1 w2) (hb : w.heap.size ≤ b) (hc : w1.cell? ⟨b, j, none⟩ = some u) : w2.cell? ⟨b, j, none⟩ = some u := by
  have := h.hi
  exact f.cell hc (by omega) (by omega) (by omega) (fun hx => by have := (h.ev' b hx).2; omega)

theorem RnG.ints (h : RnG I B R br b1 b2 b3 fl dp st ev w) : IsInts w (.slice (some ⟨b1, 0, none⟩) st.vars.length st.vars.length) st.vars := by
  refine ⟨_, _, rfl, fun _ => ⟨b1, 0, rfl, fun i hi => ?_⟩⟩
  rw [Nat.zero_add]
  exact h.vars i _ (by simp [hi])

theorem grow_set1 {r j : Nat} {u : Value} : w.grownBy (w.setCell ⟨r, j, none⟩ u) (some r) := grow_set (n := 0)
theorem frozen_set {a b j k : Nat} {u : Value} : (w.setCell ⟨a, j, none⟩ u).frozen? ⟨b, k, none⟩ = w.frozen? ⟨b, k, none⟩ := by simp [go_sem]
/-- who watches, behind a store of the runner's. -/
theorem RnG.obSet (h : RnG I B R br b1 b2 b3 fl dp st ev w) (r j : Nat) (u : Value) (hr : r = br ∨ r = b1 ∨ r = b2) : I.In (Yb br b1 b2 ev.ev) st.o ev.X (w.setCell ⟨r, j, none⟩ u) :=
  have g := grow_set1 (w := w) (r := r) (j := j) (u := u)
  I.kept h.ob g.os g.tape g.output g.size (fun k hk hy => g.block k hk (fun e => hy (by
    have e := Option.some.inj e
    rcases hr with hr | hr | hr
    · exact Or.inl (by omega)
    · exact Or.inr (Or.inl (by omega))
    · exact Or.inr (Or.inr (Or.inl (by omega)))))) (fun k hk => Or.inl hk)

/-- a store into the row itself. -/
theorem RnG.set0 (h : RnG I B R br b1 b2 b3 fl dp st ev w) (j : Nat) (u : Value) {dp' : Nat} {st' : RSt} (hv : st'.vars = st.vars) (ht : st'.taken = st.taken) (he : st'.ev = st.ev) (ho : st'.o = st.o) (hd : I.ok dp' st.o) (hj : j < 8 + R.length)
    (hr : (ev.ev :: .slice (some ⟨b1, 0, none⟩) st.vars.length st.vars.length :: .slice (some ⟨b2, 0, none⟩) st.taken.length st.taken.length :: .int .i64 (st.steps : Int) :: .int .i64 st.en :: .int .i64 st.sp :: (R ++ [.int .i64 (dp : Int), .func (.func I.fn) #[] I.cap.toArray])).set j u = ev.ev :: .slice (some ⟨b1, 0, none⟩) st.vars.length st.vars.length :: .slice (some ⟨b2, 0, none⟩) st.taken.length st.taken.length :: .int .i64 (st'.steps : Int) :: .int .i64 st'.en :: .int .i64 st'.sp :: (R ++ [.int .i64 (dp' : Int), .func (.func I.fn) #[] I.cap.toArray])) :
    RnG I B R br b1 b2 b3 fl dp' st' ev (w.setCell ⟨br, j, none⟩ u) := by
  obtain ⟨a1, a2, a3, a4, a5, a6⟩ := h.apart
  refine ⟨?_, ?_, ?_, h.first.other a4, ?_, fun k => frozen_set.trans (h.z0 k), fun k => frozen_set.trans (h.z1 k), fun k => frozen_set.trans (h.z2 k), h.apart, h.evA, h.lo, by simpa [World.setCell] using h.hi, ?_, h.xlo, ?_⟩
  · rw [hv, ht, ← hr]
    exact h.row.set (by simp; omega)
  · rw [hv]; exact h.vars.other (Ne.symm a1)
  · rw [ht]; exact h.taken.other (Ne.symm a2)
  · rw [he]; exact h.own.kept grow_set1 (Or.inr (fun hx => h.evA.1 (Or.inl hx)))
  · rw [ho]; exact h.obSet br j u (Or.inl rfl)
  · rw [ho]; exact hd

theorem RnG.setStep (h : RnG I B R br b1 b2 b3 fl dp st ev w) : RnG I B R br b1 b2 b3 fl dp st.step ev (w.setCell ⟨br, 3, none⟩ (.int .i64 ((st.steps : Int) + 1))) :=
  h.set0 3 _ rfl rfl rfl rfl h.okd (by omega) (by simp [RSt.step])
theorem RnG.setEnd (h : RnG I B R br b1 b2 b3 fl dp st ev w) (en' : Int) : RnG I B R br b1 b2 b3 fl dp { st with en := en' } ev (w.setCell ⟨br, 4, none⟩ (.int .i64 en')) :=
  h.set0 4 _ rfl rfl rfl rfl h.okd (by omega) (by simp)
theorem RnG.setStop (h : RnG I B R br b1 b2 b3 fl dp st ev w) (a : Int) : RnG I B R br b1 b2 b3 fl dp { st with sp := a } ev (w.setCell ⟨br, 5, none⟩ (.int .i64 a)) :=
  h.set0 5 _ rfl rfl rfl rfl h.okd (by omega) (by simp)

theorem fr_set0 (h : RnG I B R br b1 b2 b3 fl dp st ev w) (j : Nat) (u : Value) : Fr br b1 b2 ev ev w (w.setCell ⟨br, j, none⟩ u) :=
  have g := grow_set1 (w := w) (r := br) (j := j) (u := u)
  ⟨g.os, g.tape, g.output, g.size, fun k hk h0 _ _ _ => g.block k hk (by simpa using h0), fun k hk => Or.inl hk⟩
theorem fr_set1 (h : RnG I B R br b1 b2 b3 fl dp st ev w) (j : Nat) (u : Value) : Fr br b1 b2 ev ev w (w.setCell ⟨b1, j, none⟩ u) :=
  have g := grow_set1 (w := w) (r := b1) (j := j) (u := u)
  ⟨g.os, g.tape, g.output, g.size, fun k hk _ h0 _ _ => g.block k hk (by simpa using h0), fun k hk => Or.inl hk⟩
theorem fr_set2 (h : RnG I B R br b1 b2 b3 fl dp st ev w) (j : Nat) (u : Value) : Fr br b1 b2 ev ev w (w.setCell ⟨b2, j, none⟩ u) :=
  have g := grow_set1 (w := w) (r := b2) (j := j) (u := u)
  ⟨g.os, g.tape, g.output, g.size, fun k hk _ _ h0 _ => g.block k hk (by simpa using h0), fun k hk => Or.inl hk⟩

theorem RnG.setVar (h : RnG I B R br b1 b2 b3 fl dp st ev w) (v x : Int) (hv : v.toNat < st.vars.length) : RnG I B R br b1 b2 b3 fl dp (st.setv v x) ev (w.setCell ⟨b1, v.toNat, none⟩ (.int .i64 x)) := by
  obtain ⟨a1, a2, a3, a4, a5, a6⟩ := h.apart
  refine ⟨?_, ?_, h.taken.other (Ne.symm a3), h.first.other a5, h.own.kept grow_set1 (Or.inr (fun hx => h.evA.2.1 (Or.inl hx))), fun k => frozen_set.trans (h.z0 k), fun k => frozen_set.trans (h.z1 k), fun k => frozen_set.trans (h.z2 k), h.apart, h.evA, h.lo, by simpa [World.setCell] using h.hi, h.obSet b1 _ _ (Or.inr (Or.inl rfl)), h.xlo, h.okd⟩
  · have := h.row.other (j := v.toNat) (v := .int .i64 x) a1
    simpa [RSt.setv] using this
  · have := h.vars.set (j := v.toNat) (v := .int .i64 x) (by simpa using hv)
    simpa [RSt.setv, intsV] using this

theorem RnG.setTaken (h : RnG I B R br b1 b2 b3 fl dp st ev w) (c : Nat) (x : Int) (hv : c < st.taken.length) : RnG I B R br b1 b2 b3 fl dp { st with taken := st.taken.set c x } ev (w.setCell ⟨b2, c, none⟩ (.int .i64 x)) := by
  obtain ⟨a1, a2, a3, a4, a5, a6⟩ := h.apart
  refine ⟨?_, h.vars.other a3, ?_, h.first.other a6, h.own.kept grow_set1 (Or.inr (fun hx => h.evA.2.2.1 (Or.inl hx))), fun k => frozen_set.trans (h.z0 k), fun k => frozen_set.trans (h.z1 k), fun k => frozen_set.trans (h.z2 k), h.apart, h.evA, h.lo, by simpa [World.setCell] using h.hi, h.obSet b2 _ _ (Or.inr (Or.inr rfl)), h.xlo, h.okd⟩
  · have := h.row.other (j := c) (v := .int .i64 x) a2
    simpa using this
  · have := h.taken.set (j := c) (v := .int .i64 x) (by simpa using hv)
    simpa [intsV] using this

/-- an event more: behind the append, ahead of the store. -/
theorem RnG.grown {v' : Value} {w' : World} (h : RnG I B R br b1 b2 b3 fl dp st ev w) (e : Ev4) (hg : w.grownBy w' ev.ev.ownBlock) (ho : w'.ownsRow B 71 4 v' (st.ev.length + 1) (evCells st.ev ++ evCells [e])) (hat : v'.ownBlock = ev.ev.ownBlock ∨ v'.ownBlock = some w.heap.size) :
    RnG I B R br b1 b2 b3 fl dp (st.tell e) ⟨v', ev.X⟩ (w'.setCell ⟨br, 0, none⟩ v') ∧ Fr br b1 b2 ev ⟨v', ev.X⟩ w (w'.setCell ⟨br, 0, none⟩ v') := by
  obtain ⟨a1, a2, a3, a4, a5, a6⟩ := h.apart
  have e1 : ev.ev.ownBlock ≠ some br := fun hx => h.evA.1 (Or.inl hx)
  have e2 : ev.ev.ownBlock ≠ some b1 := fun hx => h.evA.2.1 (Or.inl hx)
  have e3 : ev.ev.ownBlock ≠ some b2 := fun hx => h.evA.2.2.1 (Or.inl hx)
  have e4 : ev.ev.ownBlock ≠ some b3 := fun hx => h.evA.2.2.2 (Or.inl hx)
  have hi := h.hi
  have hk : ∀ b, b < w.heap.size → ev.ev.ownBlock ≠ some b → w'.heap[b]? = w.heap[b]? := fun b hb hne => hg.block b hb (fun hx => hne hx.symm)
  have hrow : ∀ (cs : List Value) (b : Nat), RowAt cs w b → b < w.heap.size → ev.ev.ownBlock ≠ some b → RowAt cs w' b := fun cs b hr hb hne j u hu => (World.cell?_of_block (hk b hb hne)).trans (hr j u hu)
  have hne : ∀ b, b < w.heap.size → ev.ev.ownBlock ≠ some b → v'.ownBlock ≠ some b := fun b hb hx => by
    rcases hat with h1 | h1
    · rw [h1]; exact hx
    · rw [h1]; intro hy; injection hy; omega
  have hnx : ∀ b, b < w.heap.size → ¬ ev.at b → ¬ (Ow.mk v' ev.X).at b := fun b hb hx hy => by
    rcases hy with hy | hy
    · exact hne b hb (fun q => hx (Or.inl q)) hy
    · exact hx (Or.inr hy)
  have hz : ∀ b k, b < w.heap.size → ev.ev.ownBlock ≠ some b → w'.frozen? ⟨b, k, none⟩ = w.frozen? ⟨b, k, none⟩ := fun b k hb hx => World.frozen?_of_block (hk b hb hx)
  have hs := hg.size
  have g := grow_set1 (w := w') (r := br) (j := 0) (u := v')
  constructor
  · refine ⟨?_, (hrow _ _ h.vars hi.2.1 e2).other (Ne.symm a1), (hrow _ _ h.taken hi.2.2.1 e3).other (Ne.symm a2), (hrow _ _ h.first hi.2.2.2.1 e4).other a4, ?_, fun k => frozen_set.trans ((hz _ _ hi.1 e1).trans (h.z0 k)), fun k => frozen_set.trans ((hz _ _ hi.2.1 e2).trans (h.z1 k)), fun k => frozen_set.trans ((hz _ _ hi.2.2.1 e3).trans (h.z2 k)), h.apart, ⟨hnx _ hi.1 h.evA.1, hnx _ hi.2.1 h.evA.2.1, hnx _ hi.2.2.1 h.evA.2.2.1, hnx _ hi.2.2.2.1 h.evA.2.2.2⟩, h.lo, by simp [World.setCell]; omega, ?_, h.xlo, h.okd⟩
    · have := (hrow _ _ h.row hi.1 e1).set (j := 0) (v := v') (by simp)
      simpa [RSt.tell] using this
    · have hl : (st.tell e).ev.length = st.ev.length + 1 := by simp [RSt.tell]
      have hc : evCells (st.tell e).ev = evCells st.ev ++ evCells [e] := evCells_append _ _
      rw [hl, hc]
      exact ho.kept grow_set1 (Or.inr (hne _ hi.1 e1))
    · refine I.kept h.ob (g.os.trans hg.os) (g.tape.trans hg.tape) (g.output.trans hg.output) (Nat.le_trans hg.size g.size) (fun k hk2 hy => (g.block k (by omega) (fun q => hy (Or.inl (Option.some.inj q)))).trans (hk k hk2 (fun q => hy (Or.inr (Or.inr (Or.inr q)))))) (fun k hy => ?_)
      rcases hy with hy | hy | hy | hy
      · exact Or.inl (Or.inl hy)
      · exact Or.inl (Or.inr (Or.inl hy))
      · exact Or.inl (Or.inr (Or.inr (Or.inl hy)))
      · rcases hat with h1 | h1
        · rw [h1] at hy; exact Or.inl (Or.inr (Or.inr (Or.inr hy)))
        · rw [h1] at hy; injection hy with hy; exact Or.inr (by omega)
  · refine ⟨g.os.trans hg.os, g.tape.trans hg.tape, g.output.trans hg.output, Nat.le_trans hg.size g.size, fun k hk2 h0 _ _ h3 => (g.block k (by omega) (by simpa using h0)).trans (hk k hk2 (fun q => h3 (Or.inl q))), fun k hy => ?_⟩
    rcases hy with hy | hy
    · rcases hat with h1 | h1
      · exact Or.inl (Or.inl (h1 ▸ hy))
      · have hy : v'.ownBlock = some k := hy
        rw [h1] at hy; injection hy with hy; exact Or.inr (by omega)
    · exact Or.inl (Or.inr hy)
end

/-- numbers that are right. -/
structure NumOk (nv ni F : Nat) (st : RSt) : Prop where
  vl : st.vars.length = nv
  tl : st.taken.length = ni
  i32 : ∀ x ∈ st.vars, I32 x
  tk : ∀ x ∈ st.taken, 0 ≤ x ∧ x ≤ (st.steps : Int)
  el : st.ev.length ≤ st.steps
  sb : st.steps ≤ F
theorem NumOk.step {nv ni F : Nat} {st : RSt} (h : NumOk nv ni F st) (hs : st.steps < F) : NumOk nv ni F st.step :=
  ⟨h.vl, h.tl, h.i32, fun x hx => ⟨(h.tk x hx).1, by have := (h.tk x hx).2; simp [RSt.step]; omega⟩, Nat.le_succ_of_le h.el, hs⟩
theorem NumOk.out {nv ni F : Nat} {st : RSt} (h : NumOk nv ni F st) : NumOk nv ni F st.out := ⟨h.vl, h.tl, h.i32, h.tk, h.el, h.sb⟩
theorem NumOk.pass {nv ni F : Nat} {st : RSt} (h : NumOk nv ni F st) (ob : Ob) (kind : Nat) (a : Int) (dp : Nat) (d : D) : NumOk nv ni F (passR ob kind a dp d st).2 := by
  unfold passR
  split
  · exact ⟨h.vl, h.tl, h.i32, h.tk, h.el, h.sb⟩
  · exact ⟨h.vl, h.tl, h.i32, h.tk, h.el, h.sb⟩
theorem mem_set {l : List Int} {i : Nat} {x y : Int} (h : y ∈ l.set i x) : y = x ∨ y ∈ l := by
  rcases List.mem_or_eq_of_mem_set h with h | h
  · exact Or.inr h
  · exact Or.inl h
theorem NumOk.setv {nv ni F : Nat} {st : RSt} (h : NumOk nv ni F st) {v x : Int} (hx : I32 x) : NumOk nv ni F (st.setv v x) :=
  ⟨by simp [RSt.setv, h.vl], h.tl, fun y hy => by rcases mem_set hy with rfl | hy; exact hx; exact h.i32 y hy, h.tk, h.el, h.sb⟩
theorem NumOk.tell {nv ni F : Nat} {st : RSt} (h : NumOk nv ni F st) (e : Ev4) (hl : st.ev.length < st.steps) : NumOk nv ni F (st.tell e) :=
  ⟨h.vl, h.tl, h.i32, h.tk, by simp [RSt.tell]; omega, h.sb⟩
theorem NumOk.took {nv ni F : Nat} {st : RSt} (h : NumOk nv ni F st) (hs : st.steps < F) (c : Int) : NumOk nv ni F (st.step.took c) := by
  refine ⟨h.vl, by simp [RSt.took, RSt.step, h.tl], h.i32, fun y hy => ?_, Nat.le_succ_of_le h.el, hs⟩
  have hst : (st.step.took c).steps = st.steps + 1 := rfl
  rw [hst]
  rcases mem_set hy with rfl | hy
  · have : st.step.taken.getD c.toNat 0 = 0 ∨ st.step.taken.getD c.toNat 0 ∈ st.taken := by
      rw [List.getD_eq_getElem?_getD]
      cases hc : st.step.taken[c.toNat]? with
      | none => exact Or.inl rfl
      | some x => exact Or.inr (List.mem_of_getElem? hc)
    rcases this with hz | hz
    · rw [hz]; omega
    · have := h.tk _ hz; omega
  · have := h.tk y hy; omega
/-- numbers that are right behind a step. -/
structure NumS (nv ni F : Nat) (st : RSt) : Prop where
  ok : NumOk nv ni F st
  el : st.ev.length < st.steps
  tk : ∀ x ∈ st.taken, x + 1 ≤ (st.steps : Int)
theorem NumOk.stepS {nv ni F : Nat} {st : RSt} (h : NumOk nv ni F st) (hs : st.steps < F) : NumS nv ni F st.step :=
  ⟨h.step hs, Nat.lt_succ_of_le h.el, fun x hx => by have := (h.tk x hx).2; show x + 1 ≤ ((st.steps + 1 : Nat) : Int); omega⟩
theorem NumS.pass {nv ni F : Nat} {st : RSt} (h : NumS nv ni F st) (ob : Ob) (kind : Nat) (a : Int) (dp : Nat) (d : D) : NumS nv ni F (passR ob kind a dp d st).2 := by
  refine ⟨h.ok.pass ob kind a dp d, ?_, ?_⟩
  · unfold passR
    split
    · exact h.el
    · exact h.el
  · unfold passR
    split
    · exact h.tk
    · exact h.tk
theorem NumS.took {nv ni F : Nat} {st : RSt} (h : NumS nv ni F st) (c : Int) : NumOk nv ni F (st.took c) := by
  refine ⟨h.ok.vl, by simp [RSt.took, h.ok.tl], h.ok.i32, fun y hy => ?_, h.ok.el, h.ok.sb⟩
  have hst : (st.took c).steps = st.steps := rfl
  rw [hst]
  rcases mem_set hy with rfl | hy
  · have : st.taken.getD c.toNat 0 = 0 ∨ st.taken.getD c.toNat 0 ∈ st.taken := by
      rw [List.getD_eq_getElem?_getD]
      cases hc : st.taken[c.toNat]? with
      | none => exact Or.inl rfl
      | some x => exact Or.inr (List.mem_of_getElem? hc)
    rcases this with hz | hz
    · have := h.el; rw [hz]; omega
    · have := h.ok.tk _ hz; have := h.tk _ hz; omega
  · exact h.ok.tk y hy
theorem NumS.tell {nv ni F : Nat} {st : RSt} (h : NumS nv ni F st) (e : Ev4) : NumOk nv ni F (st.tell e) := h.ok.tell e h.el
theorem NumS.setv {nv ni F : Nat} {st : RSt} (h : NumS nv ni F st) {v x : Int} (hx : I32 x) : NumS nv ni F (st.setv v x) := ⟨h.ok.setv hx, h.el, h.tk⟩
theorem held2 {w w0 w1 : World} {a0 a1 : Addr} {v0 v1 : Value} (h : w0.cell? a0 = some v0 ∧ w0.cell? a1 = some v1 ∧ Below w.heap.size w w0) (hb : Below w0.heap.size w0 w1) :
    w1.cell? a0 = some v0 ∧ w1.cell? a1 = some v1 ∧ Below w.heap.size w w1 := ⟨cell_over hb _ _ h.1, cell_over hb _ _ h.2.1, over_trans h.2.2 hb⟩

set_option maxHeartbeats 2000000 in
set_option maxRecDepth 100000 in
theorem size_node (kd va ot ek en : Int) (xa : Option Addr) (xl xc : Nat) (aa : Option Addr) (al ac : Nat) (ta : Option Addr) (tl tc : Nat) (ea : Option Addr) (el ec : Nat) (n1 n2 : Int) (w : World) (h1 : 0 ≤ n1 ∧ n1 ≤ 100) (h2 : 0 ≤ n2 ∧ n2 ≤ 100)
    (KT : Hid (∀ W, Below w.heap.size w W → Calls Try.prog 101 #[.slice ta tl tc] W fun e w' => e = .returned (.int .i64 n1) ∧ Below W.heap.size W w'))
    (KE : Hid (∀ W, Below w.heap.size w W → Calls Try.prog 101 #[.slice ea el ec] W fun e w' => e = .returned (.int .i64 n2) ∧ Below W.heap.size W w')) :
    Calls Try.prog 105 #[.agg #[.int .i64 kd, .int .i64 va, .int .i64 ot, .int .i64 ek, .int .i64 en, .slice xa xl xc, .slice aa al ac, .slice ta tl tc, .slice ea el ec]] w fun e w' => e = .returned (.int .i64 (1 + n1 + n2)) ∧ Below w.heap.size w w' := by
  have hbel : Below w.heap.size w (w.alloc (.cells #[.int .i64 kd, .int .i64 va, .int .i64 ot, .int .i64 ek, .int .i64 en, .slice xa xl xc, .slice aa al ac, .slice ta tl tc, .slice ea el ec] 78)) := (Below.refl _ w).alloc (Nat.le_refl _) _
  have q7 : (w.alloc (.cells #[.int .i64 kd, .int .i64 va, .int .i64 ot, .int .i64 ek, .int .i64 en, .slice xa xl xc, .slice aa al ac, .slice ta tl tc, .slice ea el ec] 78)).cell? ⟨w.heap.size, 7, none⟩ = some (.slice ta tl tc) := by simp [go_sem]
  have q8 : (w.alloc (.cells #[.int .i64 kd, .int .i64 va, .int .i64 ot, .int .i64 ek, .int .i64 en, .slice xa xl xc, .slice aa al ac, .slice ta tl tc, .slice ea el ec] 78)).cell? ⟨w.heap.size, 8, none⟩ = some (.slice ea el ec) := by simp [go_sem]
  obtain ⟨a1, a2⟩ := h1
  obtain ⟨a3, a4⟩ := h2
  go_enter Try.func105, Try.ntmps105
  go_wp2_with fail
  go_region_held3 (fun W => W.cell? ⟨w.heap.size, 7, none⟩ = some (.slice ta tl tc) ∧ W.cell? ⟨w.heap.size, 8, none⟩ = some (.slice ea el ec) ∧ Below w.heap.size w W) (first | assumption | exact ⟨q7, q8, below_drewN hbel 1⟩ | exact held2 (by assumption) hbp | exact held2 (by assumption) hbq | fail) (first | (go_at_call_of 101 (Value.slice ta tl tc); refine (KT.out _ (by assumption : _ ∧ _ ∧ Below _ _ _).2.2).mono ?_; rintro e wp ⟨rfl, hbp⟩) | (go_at_call_of 101 (Value.slice ea el ec); refine (KE.out _ (by assumption : _ ∧ _ ∧ Below _ _ _).2.2).mono ?_; rintro e wq ⟨rfl, hbq⟩))
  obtain ⟨-, -, hB⟩ := (by assumption : _ ∧ _ ∧ Below _ _ _)
  have HW : Hid (IntKind.i64.wrap (IntKind.i64.wrap (1 + n1) + n2) = 1 + n1 + n2) := by
    show _ = _
    rw [IntWalk.i64_in (1 + n1) (by omega), IntWalk.i64_in _ (by omega)]
  clear q7 q8 hbel KT KE
  go_wp2_with fail
  go_ret
  refine ⟨?_, hB⟩
  first | rfl | (rw [← HW.out]; rfl)

/-- how many there are, if one knows of each of them. -/
def ManyOk (K k : Nat) : Prop := ∀ (v : Value) (l : List D) (w : World), StmtsAt w K k v l → cnts k l ≤ 100 → Calls Try.prog 101 #[v] w fun e w' => e = .returned (.int .i64 (cnts k l : Nat)) ∧ Below w.heap.size w w'
def SizeOk (K k : Nat) : Prop := ∀ (cs : List Value) (d : D) (w : World), RS w K k cs d → cntS k d ≤ 100 → Calls Try.prog 105 #[.agg cs.toArray] w fun e w' => e = .returned (.int .i64 (cntS k d : Nat)) ∧ Below w.heap.size w w'

theorem size_succ (K k : Nat) (h : ManyOk K k) : SizeOk K (k + 1) := by
  intro cs d w hr hc
  have hcn : cntS (k + 1) d = 1 + cnts k (sThen d) + cnts k (sElse d) := rfl
  obtain ⟨ek, en, xa, xl, xc, aa, ac, ta, tc, ea, ec, rfl, -, -, -, -, -, hT, hE, -, -, -⟩ := hr.form
  rw [hcn] at hc ⊢
  have := size_node (sKind d) (sVar d) (sOther d) ek en xa xl xc aa (sArgs d).length ac ta (sThen d).length tc ea (sElse d).length ec (cnts k (sThen d) : Nat) (cnts k (sElse d) : Nat) w (by omega) (by omega)
    (hide fun W hW => h _ _ W (hT.over hW) (by omega)) (hide fun W hW => h _ _ W (hE.over hW) (by omega))
  push_cast
  exact this

set_option maxHeartbeats 2000000 in
set_option maxRecDepth 100000 in
theorem many_of (K k : Nat) (h : SizeOk K k) : ManyOk K k := by
  intro v l w hl hc
  have hlen : l.length ≤ 9223372036854775807 := hl.1
  obtain ⟨ao, cap, rfl, hcc⟩ := hl.2
  have HC := hide hcc
  have HS := hide h
  have HCN := hide hc
  clear hcc hl h hc
  go_enter Try.func101, Try.ntmps101
  go_wp2_with fail
  go_loopw [3, 8] (fun c i wr => ∃ j : Nat, j ≤ l.length ∧ i = .int .i64 j ∧ c = .int .i64 (cnts k (l.take j) : Nat) ∧ Below w.heap.size w wr) (fun _ i _ => l.length - (intOf i).toNat)
  case atStart => exact ⟨0, Nat.zero_le _, rfl, by simp [cnts], Below.refl _ w⟩
  case round =>
    obtain ⟨j, hj, rfl, rfl, hB⟩ := hrel
    by_cases hjl : j < l.length
    · obtain ⟨b, off, rfl, hcl⟩ := HC.out (by rintro rfl; simp at hjl)
      obtain ⟨cs, hl9, hcs, hr⟩ := hcl j l[j] (List.getElem?_eq_getElem hjl)
      have htk := cnts_take (k := k) hjl
      have hle : cnts k (l.take (j + 1)) ≤ 100 := by
        have e1 : cnts k l = cnts k (l.take (j + 1)) + cnts k (l.drop (j + 1)) := by
          unfold cnts
          rw [← List.sum_append, ← List.map_append, List.take_append_drop]
        have := HCN.out
        omega
      obtain ⟨k', rfl⟩ : ∃ k', k = k' + 1 := by
        cases k with
        | zero => exact hr.elim
        | succ k => exact ⟨k, rfl⟩
      have KZ := hide fun W (hW : Below w.heap.size w W) => HS.out cs l[j] W (RS.mono (cell_over hW) _ _ _ _ (Nat.le_refl _) hr) (by omega)
      obtain ⟨ek, en, xa, xl, xc, aa, ac, ta, tc, ea, ec, hcse, -, -, -, -, -, -, -, -, -, -⟩ := hr.form
      subst hcse
      obtain ⟨kd, hkd⟩ : ∃ q, q = sKind l[j] := ⟨_, rfl⟩
      obtain ⟨va, hva⟩ : ∃ q, q = sVar l[j] := ⟨_, rfl⟩
      obtain ⟨ot, hot⟩ : ∃ q, q = sOther l[j] := ⟨_, rfl⟩
      obtain ⟨al, hal⟩ : ∃ q, q = (sArgs l[j]).length := ⟨_, rfl⟩
      obtain ⟨tl, htl⟩ : ∃ q, q = (sThen l[j]).length := ⟨_, rfl⟩
      obtain ⟨el, hel⟩ : ∃ q, q = (sElse l[j]).length := ⟨_, rfl⟩
      rw [← hkd, ← hva, ← hot, ← hal, ← htl, ← hel] at hcs KZ
      obtain ⟨M, hM⟩ : ∃ M : Nat, M = cnts (k' + 1) (l.take j) := ⟨_, rfl⟩
      obtain ⟨N, hN⟩ : ∃ N : Nat, N = cntS (k' + 1) l[j] := ⟨_, rfl⟩
      rw [← hM, ← hN] at htk
      rw [← hN] at KZ
      rw [← hM]
      have HTK := hide htk
      have hMN : M + N ≤ 100 := by omega
      have q0 : wr.cell? ⟨b, off + j * 9, none⟩ = _ := cell_over hB _ _ (hcs 0 _ rfl)
      have q1 := cell_over hB _ _ (hcs 1 _ rfl)
      have q2 := cell_over hB _ _ (hcs 2 _ rfl)
      have q3 := cell_over hB _ _ (hcs 3 _ rfl)
      have q4 := cell_over hB _ _ (hcs 4 _ rfl)
      have q5 := cell_over hB _ _ (hcs 5 _ rfl)
      have q6 := cell_over hB _ _ (hcs 6 _ rfl)
      have q7 := cell_over hB _ _ (hcs 7 _ rfl)
      have q8 := cell_over hB _ _ (hcs 8 _ rfl)
      have hba : Below wr.heap.size wr (wr.alloc (.cells #[.int .i64 kd, .int .i64 va, .int .i64 ot, .int .i64 ek, .int .i64 en, .slice xa xl xc, .slice aa al ac, .slice ta tl tc, .slice ea el ec] 78)) := (Below.refl _ wr).alloc (Nat.le_refl _) _
      have hBa := hB.trans (hba.mono hB.size)
      have KZ' := hide (KZ.out _ hBa)
      clear hcs hcl hr hl9 hkd hva hot hal htl hel hM hN htk hle KZ HS
      go_wp2_with fail
      refine (KZ'.out).mono ?_
      rintro e w1 ⟨rfl, hb1⟩
      have hB1 := hBa.trans (hb1.mono hBa.size)
      clear KZ' hb1 hBa hba q0 q1 q2 q3 q4 q5 q6 q7 q8 hB
      go_wp2_with fail
      refine ⟨⟨j + 1, by omega, by go_num, ?_, hB1⟩, by simp [intOf]; omega⟩
      rw [HTK.out]
      simp
    · have hd : l.take j = l := List.take_of_length_le (by omega)
      rw [hd]
      go_wp2_with fail
      go_ret
      exact ⟨rfl, hB⟩

theorem many_any (K : Nat) : ∀ k, ManyOk K k
  | 0 => many_of K 0 (fun cs d w hr _ => hr.elim)
  | k + 1 => many_of K (k + 1) (size_succ K k (many_any K k))
theorem size_any (K : Nat) : ∀ k, SizeOk K k
  | 0 => fun cs d w hr _ => hr.elim
  | k + 1 => size_succ K k (many_any K k)
end Go.Proofs.Ytcbbjjenkommeaa.Ex
