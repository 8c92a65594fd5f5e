/- What a run does, as plain data: by gas. -/
import Derived.Test.YtpbnmmgocpobcaaM16
import Derived.Test.YtpbnmmgocpobcaaM04
namespace Go.Proofs.Ytpbnmmgocpobcaa.Ex
open Go.RowKit
set_option linter.unusedVariables false

abbrev Ev4 := Int × Int × Int × Int
structure RSt where
  ev : List Ev4
  vars : List Int
  taken : List Int
  steps : Nat

def RSt.step (st : RSt) : RSt := { st with steps := st.steps + 1 }
def RSt.setv (st : RSt) (v x : Int) : RSt := { st with vars := st.vars.set v.toNat x }
def RSt.tell (st : RSt) (e : Ev4) : RSt := { st with ev := st.ev ++ [e] }
def RSt.took (st : RSt) (c : Int) : RSt := { st with taken := st.taken.set c.toNat (st.taken.getD c.toNat 0 + 1) }
def nextX (ins : List (List Int)) (st : RSt) (c : Int) : Int := (ins.getD c.toNat []).getD (st.taken.getD c.toNat 0).toNat 0
def setAll (vs : List Int) (l : List (Int × Int)) : List Int := l.foldl (fun vs q => vs.set q.1.toNat q.2) vs
def fnAt (fs : List FnD) (c : Int) : FnD := fs.getD c.toNat ⟨[], [], .agg []⟩

/-- go on, if there was fuel. -/
def contR (r : Bool × RSt) (f : RSt → Bool × RSt) : Bool × RSt := if r.1 = true then f r.2 else r

/-- a command of one step alone. -/
def oneX (K : Nat) (ins : List (List Int)) (d : D) (a : Int) (st : RSt) : RSt :=
  if sKind d = 1 then st.setv (sVar d) (valX st.vars K (sExpr d))
  else if sKind d = 3 then (st.took (sOther d)).setv (sVar d) (nextX ins st (sOther d))
  else if sKind d = 4 then st.tell (1, a, sOther d, valX st.vars K (sExpr d))
  else if sKind d = 5 then (st.setv (sVar d) (valX st.vars K (sExpr d))).tell (2, a, sVar d, valX st.vars K (sExpr d))
  else if sKind d = 6 then (st.setv (sVar d) (valX st.vars K (sExpr d))).tell (3, a, sVar d, valX st.vars K (sExpr d))
  else st

def RSt.args (K : Nat) (fs : List FnD) (d : D) (st : RSt) : RSt := { st with vars := setAll st.vars ((fnAt fs (sOther d)).ps.zip ((sArgs d).map (valX st.vars K))) }

/-- commands (0), a command (1), a loop (2). -/
def rn (K kf : Nat) (fs : List FnD) (F : Nat) (ins : List (List Int)) : Nat → Nat → Nat → List D → Int → RSt → Bool × RSt
  | 0, _, _, _, _, st => (false, st)
  | g + 1, 0, k, l, a, st =>
    match l with
    | [] => (true, st)
    | d :: r => if st.steps = F then (false, st) else contR (rn K kf fs F ins g 1 k [d] a st.step) (fun st' => rn K kf fs F ins g 0 k r (a + cntS k d) st')
  | g + 1, 1, k, l, a, st =>
    match l with
    | [] => (true, st)
    | d :: _ =>
      if sKind d = 2 then contR (rn K kf fs F ins g 0 kf (fnAt fs (sOther d)).body (cntF kf (fs.take (sOther d).toNat)) (st.args K fs d)) (fun st' => (true, st'.setv (sVar d) (valX st'.vars K (fnAt fs (sOther d)).res)))
      else if sKind d = 7 then (if valX st.vars K (sExpr d) = 0 then rn K kf fs F ins g 0 (k - 1) (sElse d) (a + 1 + cnts (k - 1) (sThen d)) st else rn K kf fs F ins g 0 (k - 1) (sThen d) (a + 1) st)
      else if sKind d = 8 then rn K kf fs F ins g 2 k [d] a st
      else (true, oneX K ins d a st)
  | g + 1, _ + 2, k, l, a, st =>
    match l with
    | [] => (true, st)
    | d :: _ => if valX st.vars K (sExpr d) = 0 then (true, st) else contR (rn K kf fs F ins g 0 (k - 1) (sThen d) (a + 1) st) (fun st' => if st'.steps = F then (false, st') else rn K kf fs F ins g 2 k [d] a st'.step)

/-- what grows. -/
structure Gr (st st' : RSt) : Prop where
  ev : st.ev <+: st'.ev
  steps : st.steps ≤ st'.steps
  len : st'.taken.length = st.taken.length
  taken : ∀ c, st.taken.getD c 0 ≤ st'.taken.getD c 0
theorem Gr.refl (st : RSt) : Gr st st := ⟨List.prefix_rfl, Nat.le_refl _, rfl, fun _ => Int.le_refl _⟩
theorem Gr.trans {a b c : RSt} (h : Gr a b) (k : Gr b c) : Gr a c := ⟨h.ev.trans k.ev, Nat.le_trans h.steps k.steps, k.len.trans h.len, fun x => Int.le_trans (h.taken x) (k.taken x)⟩
theorem Gr.step (st : RSt) : Gr st st.step := ⟨List.prefix_rfl, Nat.le_succ _, rfl, fun _ => Int.le_refl _⟩
theorem Gr.setv (st : RSt) (v x : Int) : Gr st (st.setv v x) := ⟨List.prefix_rfl, Nat.le_refl _, rfl, fun _ => Int.le_refl _⟩
theorem Gr.tell (st : RSt) (e : Ev4) : Gr st (st.tell e) := ⟨List.prefix_append _ _, Nat.le_refl _, rfl, fun _ => Int.le_refl _⟩
theorem Gr.args (K : Nat) (fs : List FnD) (d : D) (st : RSt) : Gr st (st.args K fs d) := ⟨List.prefix_rfl, Nat.le_refl _, rfl, fun _ => Int.le_refl _⟩
theorem getD_set {l : List Int} {i j : Nat} {x : Int} : (l.set i x).getD j 0 = if i = j ∧ i < l.length then x else l.getD j 0 := by
  rw [List.getD_eq_getElem?_getD, List.getD_eq_getElem?_getD, List.getElem?_set]
  by_cases h : i = j
  · subst h
    by_cases h2 : i < l.length
    · simp [h2]
    · simp [h2]
  · simp [h]
theorem Gr.took (st : RSt) (c : Int) : Gr st (st.took c) := ⟨List.prefix_rfl, Nat.le_refl _, by simp [RSt.took], fun x => by
  simp only [RSt.took, getD_set]
  split
  · rename_i h
    rw [← h.1]
    omega
  · exact Int.le_refl _⟩
theorem Gr.one (K : Nat) (ins : List (List Int)) (d : D) (a : Int) (st : RSt) : Gr st (oneX K ins d a st) := by
  unfold oneX
  split
  · exact Gr.setv _ _ _
  · split
    · exact (Gr.took _ _).trans (Gr.setv _ _ _)
    · split
      · exact Gr.tell _ _
      · split
        · exact (Gr.setv _ _ _).trans (Gr.tell _ _)
        · split
          · exact (Gr.setv _ _ _).trans (Gr.tell _ _)
          · exact Gr.refl _
theorem contR_gr {st : RSt} {r : Bool × RSt} {f : RSt → Bool × RSt} (h : Gr st r.2) (hf : ∀ st', Gr st' (f st').2) : Gr st (contR r f).2 := by
  unfold contR
  split
  · exact h.trans (hf _)
  · exact h

theorem rn_gr (K kf : Nat) (fs : List FnD) (F : Nat) (ins : List (List Int)) : ∀ (g m k : Nat) (l : List D) (a : Int) (st : RSt), Gr st (rn K kf fs F ins g m k l a st).2 := by
  intro g
  induction g with
  | zero => intro m k l a st; exact Gr.refl _
  | succ g ih =>
    intro m k l a st
    match m, l with
    | 0, [] => exact Gr.refl _
    | 0, d :: r =>
      simp only [rn]
      split
      · exact Gr.refl _
      · exact contR_gr ((Gr.step st).trans (ih _ _ _ _ _)) (fun st' => ih _ _ _ _ _)
    | 1, [] => exact Gr.refl _
    | 1, d :: r =>
      simp only [rn]
      split
      · exact contR_gr ((Gr.args K fs d st).trans (ih _ _ _ _ _)) (fun st' => Gr.setv _ _ _)
      · split
        · split
          · exact ih _ _ _ _ _
          · exact ih _ _ _ _ _
        · split
          · exact ih _ _ _ _ _
          · exact Gr.one _ _ _ _ _
    | m + 2, [] => exact Gr.refl _
    | m + 2, d :: r =>
      simp only [rn]
      split
      · exact Gr.refl _
      · refine contR_gr (ih _ _ _ _ _) (fun st' => ?_)
        split
        · exact Gr.refl _
        · exact (Gr.step st').trans (ih _ _ _ _ _)

/-- one run with less fuel beside another one. -/
def More (F : Nat) (a b : Bool × RSt) : Prop := a.2.steps ≤ F ∧ ((a.1 = true ∧ b = a) ∨ (a.1 = false ∧ a.2.steps = F ∧ a.2.ev <+: b.2.ev))
theorem More.same {F : Nat} {st : RSt} (h : st.steps ≤ F) : More F (true, st) (true, st) := ⟨h, Or.inl ⟨rfl, rfl⟩⟩
theorem contR_more {F : Nat} {a b : Bool × RSt} {f f' : RSt → Bool × RSt} (h : More F a b) (hf : a.1 = true → a.2.steps ≤ F → More F (f a.2) (f' a.2)) (hg : ∀ st', Gr st' (f' st').2) : More F (contR a f) (contR b f') := by
  obtain ⟨hs, ⟨h1, rfl⟩ | ⟨h1, h2, h3⟩⟩ := h
  · unfold contR
    rw [if_pos h1, if_pos h1]
    exact hf h1 hs
  · have ha : contR a f = a := by unfold contR; rw [if_neg (by simp [h1])]
    rw [ha]
    refine ⟨hs, Or.inr ⟨h1, h2, ?_⟩⟩
    unfold contR
    split
    · exact h3.trans (hg _).ev
    · exact h3

def gasOf : Nat → Nat
  | 0 => 1
  | 1 => 3
  | _ => 2

theorem rn_more (K kf : Nat) (fs : List FnD) (F F' : Nat) (ins : List (List Int)) (hF : F ≤ F') : ∀ (g m k : Nat) (l : List D) (a : Int) (st : RSt), st.steps ≤ F → 3 * (F' - st.steps) + gasOf m ≤ g →
    More F (rn K kf fs F ins g m k l a st) (rn K kf fs F' ins g m k l a st) := by
  intro g
  induction g with
  | zero => intro m k l a st _ h; exfalso; match m, h with
    | 0, h => simp [gasOf] at h
    | 1, h => simp [gasOf] at h
    | m + 2, h => simp [gasOf] at h
  | succ g ih =>
    intro m k l a st hs h
    match m, l with
    | 0, [] => exact More.same hs
    | 0, d :: r =>
      simp only [gasOf] at h
      by_cases h0 : st.steps = F
      · have e : rn K kf fs F ins (g + 1) 0 k (d :: r) a st = (false, st) := by simp only [rn]; rw [if_pos h0]
        rw [e]
        exact ⟨hs, Or.inr ⟨rfl, h0, (rn_gr K kf fs F' ins _ _ _ _ _ _).ev⟩⟩
      · have h1 : ¬ st.steps = F' := by omega
        simp only [rn]
        rw [if_neg h0, if_neg h1]
        have hst : st.step.steps = st.steps + 1 := rfl
        refine contR_more (ih _ _ _ _ _ (by rw [hst]; omega) (by rw [hst]; simp only [gasOf]; omega)) (fun _ hs2 => ?_) (fun st' => rn_gr K kf fs F' ins _ _ _ _ _ _)
        have hg := (rn_gr K kf fs F ins g 1 k [d] a st.step).steps
        rw [hst] at hg
        exact ih _ _ _ _ _ hs2 (by simp only [gasOf]; omega)
    | 1, [] => exact More.same hs
    | 1, d :: r =>
      simp only [gasOf] at h
      simp only [rn]
      split
      · refine contR_more (ih _ _ _ _ _ hs (by show 3 * (F' - st.steps) + gasOf 0 ≤ g; simp only [gasOf]; omega)) (fun _ hs2 => More.same hs2) (fun st' => Gr.setv _ _ _)
      · split
        · split
          · exact ih _ _ _ _ _ hs (by simp only [gasOf]; omega)
          · exact ih _ _ _ _ _ hs (by simp only [gasOf]; omega)
        · split
          · exact ih _ _ _ _ _ hs (by simp only [gasOf]; omega)
          · refine More.same ?_
            have : (oneX K ins d a st).steps = st.steps := by
              unfold oneX
              split
              · rfl
              · split
                · rfl
                · split
                  · rfl
                  · split
                    · rfl
                    · split <;> rfl
            rw [this]; exact hs
    | m + 2, [] => exact More.same hs
    | m + 2, d :: r =>
      simp only [gasOf] at h
      simp only [rn]
      split
      · exact More.same hs
      · refine contR_more (ih _ _ _ _ _ hs (by simp only [gasOf]; omega)) (fun _ hs2 => ?_) (fun st' => ?_)
        · have hg := (rn_gr K kf fs F ins g 0 (k - 1) (sThen d) (a + 1) st).steps
          generalize (rn K kf fs F ins g 0 (k - 1) (sThen d) (a + 1) st).2 = st2 at hs2 hg ⊢
          by_cases h0 : st2.steps = F
          · rw [if_pos h0]
            refine ⟨hs2, Or.inr ⟨rfl, h0, ?_⟩⟩
            split
            · exact List.prefix_rfl
            · exact ((Gr.step st2).trans (rn_gr K kf fs F' ins _ _ _ _ _ _)).ev
          · rw [if_neg h0, if_neg (by omega)]
            have hst : st2.step.steps = st2.steps + 1 := rfl
            exact ih _ _ _ _ _ (by rw [hst]; omega) (by rw [hst]; simp only [gasOf]; omega)
        · split
          · exact Gr.refl _
          · exact (Gr.step st').trans (rn_gr K kf fs F' ins _ _ _ _ _ _)

/-- the same numbers, as far as they are taken. -/
def Agree (ins ins' : List (List Int)) (T : List Int) : Prop := ∀ (c i : Nat), (i : Int) < T.getD c 0 → (ins.getD c []).getD i 0 = (ins'.getD c []).getD i 0
theorem Agree.le {ins ins' : List (List Int)} {st st' : RSt} (h : Agree ins ins' st'.taken) (hg : Gr st st') : Agree ins ins' st.taken := fun c i hi => h c i (Int.lt_of_lt_of_le hi (hg.taken c))

structure InvT (ni : Nat) (st : RSt) : Prop where
  len : st.taken.length = ni
  pos : ∀ c, 0 ≤ st.taken.getD c 0
theorem InvT.gr {ni : Nat} {st st' : RSt} (h : InvT ni st) (hg : Gr st st') : InvT ni st' := ⟨hg.len.trans h.len, fun c => Int.le_trans (h.pos c) (hg.taken c)⟩

theorem next_same {ni : Nat} {ins ins' : List (List Int)} {st : RSt} {c : Int} (hi : InvT ni st) (h1 : ins.length = ni) (h2 : ins'.length = ni) (h : Agree ins ins' (st.took c).taken) : nextX ins st c = nextX ins' st c := by
  unfold nextX
  by_cases hc : c.toNat < ni
  · refine h c.toNat _ ?_
    have := hi.pos c.toNat
    simp only [RSt.took, getD_set, hi.len]
    simp only [hc, and_self, if_true]
    omega
  · rw [List.getD_eq_getElem?_getD (l := ins), List.getD_eq_getElem?_getD (l := ins'), List.getElem?_eq_none (by omega), List.getElem?_eq_none (by omega)]

theorem contR_same {a b : Bool × RSt} {f f' : RSt → Bool × RSt} (h : b = a) (hf : a.1 = true → f' a.2 = f a.2) : contR b f' = contR a f := by
  subst h
  unfold contR
  split
  · rename_i h; exact hf h
  · rfl

theorem contR_of {a : Bool × RSt} {f : RSt → Bool × RSt} {ins ins' : List (List Int)} (h : Agree ins ins' (contR a f).2.taken) (hf : ∀ st', Gr st' (f st').2) : Agree ins ins' a.2.taken := by
  refine h.le ?_
  exact contR_gr (Gr.refl _) hf

theorem rn_takes (K kf : Nat) (fs : List FnD) (F : Nat) (ins ins' : List (List Int)) (ni : Nat) (h1 : ins.length = ni) (h2 : ins'.length = ni) : ∀ (g m k : Nat) (l : List D) (a : Int) (st : RSt), InvT ni st →
    Agree ins ins' (rn K kf fs F ins g m k l a st).2.taken → rn K kf fs F ins' g m k l a st = rn K kf fs F ins g m k l a st := by
  intro g
  induction g with
  | zero => intro m k l a st _ _; rfl
  | succ g ih =>
    intro m k l a st hi h
    match m, l with
    | 0, [] => rfl
    | 0, d :: r =>
      simp only [rn] at h ⊢
      by_cases h0 : st.steps = F
      · rw [if_pos h0, if_pos h0]
      · rw [if_neg h0] at h ⊢
        rw [if_neg h0]
        have hst := hi.gr (Gr.step st)
        refine contR_same (ih _ _ _ _ _ hst (contR_of h (fun st' => rn_gr K kf fs F ins _ _ _ _ _ _))) (fun ht => ?_)
        refine ih _ _ _ _ _ (hst.gr (rn_gr K kf fs F ins _ _ _ _ _ _)) ?_
        unfold contR at h
        rw [if_pos ht] at h
        exact h
    | 1, [] => rfl
    | 1, d :: r =>
      simp only [rn] at h ⊢
      by_cases k2 : sKind d = 2
      · rw [if_pos k2] at h ⊢
        rw [if_pos k2]
        exact contR_same (ih _ _ _ _ _ (hi.gr (Gr.args K fs d st)) (contR_of h (fun st' => Gr.setv _ _ _))) (fun _ => rfl)
      · rw [if_neg k2] at h ⊢
        rw [if_neg k2]
        by_cases k7 : sKind d = 7
        · rw [if_pos k7] at h ⊢
          rw [if_pos k7]
          by_cases hv : valX st.vars K (sExpr d) = 0
          · rw [if_pos hv] at h ⊢
            rw [if_pos hv]
            exact ih _ _ _ _ _ hi h
          · rw [if_neg hv] at h ⊢
            rw [if_neg hv]
            exact ih _ _ _ _ _ hi h
        · rw [if_neg k7] at h ⊢
          rw [if_neg k7]
          by_cases k8 : sKind d = 8
          · rw [if_pos k8] at h ⊢
            rw [if_pos k8]
            exact ih _ _ _ _ _ hi h
          · rw [if_neg k8] at h ⊢
            rw [if_neg k8]
            by_cases k3 : sKind d = 3
            · have hA : Agree ins ins' (st.took (sOther d)).taken := by
                have e : (oneX K ins d a st).taken = (st.took (sOther d)).taken := by
                  unfold oneX
                  rw [if_neg (by omega), if_pos k3]
                  rfl
                rw [← e]
                exact h
              unfold oneX
              simp only [next_same hi h1 h2 hA]
            · unfold oneX
              simp only [if_neg k3]
    | m + 2, [] => rfl
    | m + 2, d :: r =>
      simp only [rn] at h ⊢
      by_cases hv : valX st.vars K (sExpr d) = 0
      · rw [if_pos hv, if_pos hv]
      · rw [if_neg hv] at h ⊢
        rw [if_neg hv]
        have hgr : ∀ st' : RSt, Gr st' (if st'.steps = F then (false, st') else rn K kf fs F ins g 2 k [d] a st'.step).2 := fun st' => by
          split
          · exact Gr.refl _
          · exact (Gr.step st').trans (rn_gr K kf fs F ins _ _ _ _ _ _)
        refine contR_same (ih _ _ _ _ _ hi (contR_of h hgr)) (fun ht => ?_)
        unfold contR at h
        rw [if_pos ht] at h
        have hi2 := hi.gr (rn_gr K kf fs F ins g 0 (k - 1) (sThen d) (a + 1) st)
        generalize (rn K kf fs F ins g 0 (k - 1) (sThen d) (a + 1) st).2 = st2 at h hi2 ⊢
        by_cases h0 : st2.steps = F
        · simp only [if_pos h0]
        · simp only [if_neg h0] at h ⊢
          exact ih _ _ _ _ _ (hi2.gr (Gr.step st2)) h
end Go.Proofs.Ytpbnmmgocpobcaa.Ex
/- The commands of the small program: how many there are. -/
namespace Go.Proofs.Ytpbnmmgocpobcaa.Ex
open Go.RowKit
set_option linter.unusedVariables false

/-- the two commands of the small program. -/
def mainCells : List Value := [.int .i64 3, .int .i64 0, .int .i64 0, .int .i64 0, .int .i64 0, .slice none 0 0, .slice none 0 0, .slice none 0 0, .slice none 0 0, .int .i64 4, .int .i64 0, .int .i64 0, .int .i64 2, .int .i64 0, .slice none 0 0, .slice none 0 0, .slice none 0 0, .slice none 0 0]
def RowAt (cs : List Value) (w : World) (b : Nat) : Prop := ∀ j u, cs[j]? = some u → w.cell? ⟨b, j, none⟩ = some u
theorem RowAt.over {cs : List Value} {w w' : World} {b : Nat} (h : RowAt cs w b) (hB : Below w.heap.size w w') : RowAt cs w' b := fun j u hu => cell_over hB _ _ (h j u hu)

set_option maxHeartbeats 1000000 in
theorem count_nil (deep many : Int) (w : World) : Calls Try.prog 59 #[.slice none 0 0, .int .i64 deep, .int .i64 many] w fun e w' => e = .returned (.int .i64 many) ∧ w' = w := by
  go_enter Try.func59, Try.ntmps59
  go_wp2_with fail
  go_loopw [2, 11] (fun c i wr => c = .int .i64 many ∧ i = .int .i64 0 ∧ wr = w) (fun _ _ _ => 0)
  case atStart => exact ⟨rfl, rfl, rfl⟩
  case round =>
    obtain ⟨rfl, rfl, rfl⟩ := hrel
    go_wp2_with fail
    go_ret
    exact ⟨rfl, by first | rfl | trivial⟩

set_option maxHeartbeats 4000000 in
set_option maxRecDepth 100000 in
theorem count_main (bm : Nat) (w : World) (hm : RowAt mainCells w bm) : Calls Try.prog 59 #[.slice (some ⟨bm, 0, none⟩) 2 2, .int .i64 1, .int .i64 0] w fun e w' => e = .returned (.int .i64 2) ∧ Below w.heap.size w w' := by
  have K1 := hide must_ok
  have K2 := hide count_nil
  have HM := hide hm
  clear hm
  go_enter Try.func59, Try.ntmps59
  go_wp2_with fail
  go_loopw [2, 11] (fun c i wr => ∃ j : Nat, j ≤ 2 ∧ c = .int .i64 j ∧ i = .int .i64 j ∧ Below w.heap.size w wr) (fun _ i _ => 2 - (intOf i).toNat)
  case atStart => exact ⟨0, by omega, rfl, rfl, Below.refl _ w⟩
  case round =>
    obtain ⟨j, hj, rfl, rfl, hB⟩ := hrel
    rcases (by omega : j = 0 ∨ j = 1 ∨ j = 2) with rfl | rfl | rfl
    · have h := HM.out.over hB
      have m0 := h 0 _ rfl
      have m1 := h 1 _ rfl
      have m2 := h 2 _ rfl
      have m3 := h 3 _ rfl
      have m4 := h 4 _ rfl
      have m5 := h 5 _ rfl
      have m6 := h 6 _ rfl
      have m7 := h 7 _ rfl
      have m8 := h 8 _ rfl
      have hBa : Below w.heap.size w (wr.alloc (.cells #[.int .i64 3, .int .i64 0, .int .i64 0, .int .i64 0, .int .i64 0, .slice none 0 0, .slice none 0 0, .slice none 0 0, .slice none 0 0] 71)) := hB.trans (((Below.refl _ wr).alloc (Nat.le_refl _) _).mono hB.size)
      clear h
      go_wp2_with fail
      refine (K1.out _ _).mono ?_
      rintro e w1 ⟨rfl, rfl⟩
      go_wp2_with fail
      refine (K2.out _ _ _).mono ?_
      rintro e w1 ⟨rfl, rfl⟩
      go_wp2_with fail
      refine (K2.out _ _ _).mono ?_
      rintro e w1 ⟨rfl, rfl⟩
      go_wp2_with fail
      exact ⟨⟨1, by omega, by first | rfl | go_num, by first | rfl | go_num, hBa⟩, by simp [intOf]⟩
    · have h := HM.out.over hB
      have m0 := h 9 _ rfl
      have m1 := h 10 _ rfl
      have m2 := h 11 _ rfl
      have m3 := h 12 _ rfl
      have m4 := h 13 _ rfl
      have m5 := h 14 _ rfl
      have m6 := h 15 _ rfl
      have m7 := h 16 _ rfl
      have m8 := h 17 _ rfl
      have hBa : Below w.heap.size w (wr.alloc (.cells #[.int .i64 4, .int .i64 0, .int .i64 0, .int .i64 2, .int .i64 0, .slice none 0 0, .slice none 0 0, .slice none 0 0, .slice none 0 0] 71)) := hB.trans (((Below.refl _ wr).alloc (Nat.le_refl _) _).mono hB.size)
      clear h
      go_wp2_with fail
      refine (K1.out _ _).mono ?_
      rintro e w1 ⟨rfl, rfl⟩
      go_wp2_with fail
      refine (K2.out _ _ _).mono ?_
      rintro e w1 ⟨rfl, rfl⟩
      go_wp2_with fail
      refine (K2.out _ _ _).mono ?_
      rintro e w1 ⟨rfl, rfl⟩
      go_wp2_with fail
      exact ⟨⟨2, by omega, by first | rfl | go_num, by first | rfl | go_num, hBa⟩, by simp [intOf]⟩
    · go_wp2_with fail
      go_ret
      exact ⟨by first | rfl | trivial, hB⟩

/-- the small program, where its parts lie. -/
abbrev smallV (bi bo bv bm : Nat) : Value := .agg #[.int .i64 1, .slice none 0 0, .slice none 0 0, .slice (some ⟨bi, 0, none⟩) 1 1, .slice (some ⟨bo, 0, none⟩) 1 1, .slice (some ⟨bv, 0, none⟩) 1 1, .slice none 0 0, .slice (some ⟨bm, 0, none⟩) 2 2]
abbrev smallO (bi bo bv bm : Nat) (t : Nat) : Obj := .cells #[.int .i64 1, .slice none 0 0, .slice none 0 0, .slice (some ⟨bi, 0, none⟩) 1 1, .slice (some ⟨bo, 0, none⟩) 1 1, .slice (some ⟨bv, 0, none⟩) 1 1, .slice none 0 0, .slice (some ⟨bm, 0, none⟩) 2 2] t

set_option maxHeartbeats 4000000 in
set_option maxRecDepth 100000 in
theorem limits_small (bi bo bv bm : Nat) (w : World) (hm : RowAt mainCells w bm) : Calls Try.prog 43 #[smallV bi bo bv bm] w fun e w' => e = .returned (.tuple #[]) ∧ Below w.heap.size w w' := by
  have hbel : Below w.heap.size w (w.alloc (smallO bi bo bv bm 75)) := (Below.refl _ w).alloc (Nat.le_refl _) _
  have K1 := hide (count_main bm _ (hm.over hbel))
  unfold smallV
  go_enter Try.func43, Try.ntmps43
  go_wp2_with fail
  go_loopw [2, 9] (fun c i wr => c = .int .i64 0 ∧ i = .int .i64 0 ∧ wr = w.alloc (smallO bi bo bv bm 75)) (fun _ _ _ => 0)
  case atStart => exact ⟨rfl, rfl, rfl⟩
  case round =>
    obtain ⟨rfl, rfl, rfl⟩ := hrel
    unfold smallO
    go_wp2_with fail
    refine (K1.out).mono ?_
    rintro e w1 ⟨rfl, hb1⟩
    have hB1 := hbel.trans (hb1.mono hbel.size)
    clear hb1
    go_wp2_with fail
    go_end0
    exact ⟨rfl, hB1⟩
end Go.Proofs.Ytpbnmmgocpobcaa.Ex
