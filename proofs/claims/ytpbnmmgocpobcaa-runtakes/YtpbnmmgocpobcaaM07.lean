/- The document's own least level above two, and greatest below: JoinLevels and MeetLevels. -/
import Derived.Test.YtpbnmmgocpobcaaM06
import Derived.Maps.AppendAt
import Derived.Deep.CutRange
import Derived.Test.YtpbnmmgocpobcaaM04
namespace Go.Proofs.Ytpbnmmgocpobcaa
open Go.RowKit
set_option linter.unusedVariables false

def boolCells (l : List Bool) : List Value := l.map Value.bool

theorem heap_of_alloc (W : World) (o : Obj) : (W.alloc o).heap[W.heap.size]? = some o := heap_alloc_new W o

theorem ownB_over {W W' : World} {B : Nat} {v : Value} {k : Nat} {xs : List Value} (h : W.ownsRow B 4 1 v k xs) (hb : Below W.heap.size W W') : W'.ownsRow B 4 1 v k xs := by
  obtain ⟨h1, h2⟩ := h
  refine ⟨h1, ?_⟩
  rcases h2 with h2 | ⟨g, cap, cur, hv, hg, hh, r⟩
  · exact Or.inl h2
  · refine Or.inr ⟨g, cap, cur, hv, hg, ?_, r⟩
    rw [hb.block g (Array.getElem?_eq_some_iff.1 hh).1]
    exact hh

theorem ownB_alloc {W : World} {B : Nat} {v : Value} {k : Nat} {xs : List Value} (h : W.ownsRow B 4 1 v k xs) (o : Obj) : (W.alloc o).ownsRow B 4 1 v k xs :=
  ownB_over h ((Below.refl _ W).alloc (Nat.le_refl _) o)

theorem ownB_set {W : World} {B : Nat} {v : Value} {k : Nat} {xs : List Value} (h : W.ownsRow B 4 1 v k xs) {p : Addr} (hp : p.block < B) (u : Value) : (W.setCell p u).ownsRow B 4 1 v k xs :=
  ownsRow_setCell_below h hp u

theorem ownB_lt {W : World} {B : Nat} {v : Value} {k : Nat} {xs : List Value} (h : W.ownsRow B 4 1 v k xs) {g : Nat} (hg : v.ownBlock = some g) : B ≤ g ∧ g < W.heap.size := by
  rcases h.2 with ⟨rfl, _⟩ | ⟨g', cap, cur, rfl, hg', hh, _⟩
  · cases hg
  · simp [Value.ownBlock] at hg
    subst hg
    exact ⟨hg', (Array.getElem?_eq_some_iff.1 hh).1⟩

theorem below_grownB {B : Nat} {W W' : World} {v : Value} {k : Nat} {xs : List Value} (h : W.ownsRow B 4 1 v k xs) (hg : W.grownBy W' v.ownBlock) (hB : B ≤ W.heap.size) : Below B W W' :=
  ⟨hg.os, hg.tape, hg.output, hg.size, fun j hj => hg.block j (Nat.lt_of_lt_of_le hj hB) (fun e => by have := (ownB_lt h e.symm).1; omega)⟩

/-- two rows of one's own that lie apart. -/
def Apart (u v : Value) : Prop := u.ownBlock = none ∨ u.ownBlock ≠ v.ownBlock

theorem ownB_kept {W W' : World} {B : Nat} {u v : Value} {k : Nat} {xs : List Value} (h : W.ownsRow B 4 1 u k xs) (hg : W.grownBy W' v.ownBlock) (ha : Apart u v) : W'.ownsRow B 4 1 u k xs := h.kept hg ha

theorem apart_new {W : World} {B : Nat} {u v v' : Value} {k : Nat} {xs : List Value} (h : W.ownsRow B 4 1 u k xs) (ha : Apart u v) (hv : v'.ownBlock = v.ownBlock ∨ v'.ownBlock = some W.heap.size) : Apart u v' := by
  rcases ha with ha | ha
  · exact Or.inl ha
  · rcases hv with hv | hv
    · exact Or.inr (by rw [hv]; exact ha)
    · cases hu : u.ownBlock with
      | none => exact Or.inl hu
      | some g =>
        right
        rw [hv, hu]
        intro e
        injection e with e
        have := (ownB_lt h hu).2
        omega

theorem apart_symm {u v : Value} (h : Apart u v) : Apart v u := by
  rcases h with h | h
  · cases hv : v.ownBlock with
    | none => exact Or.inl hv
    | some g => exact Or.inr (by rw [h, hv]; simp)
  · exact Or.inr (fun e => h e.symm)

theorem info4 : ∃ i, Try.prog.info? 4 = some i ∧ i.zero = some (.bool false) ∧ i.size = 1 ∧ i.bytes = 1 := by
  cases hi : Try.prog.info? 4 with
  | none => have := Try.info4; rw [hi] at this; cases this
  | some i =>
    have h4 := Try.info4
    rw [hi] at h4
    simp only [Option.map_some, Option.some.injEq, Prod.mk.injEq] at h4
    exact ⟨i, rfl, h4.1, h4.2.1, h4.2.2⟩

section
variable {ops : Array Oper} {o : Oper} {a : Act} {W : World} {K : Act → World → Prop} {Q : Exit → Act → World → Prop} {E : Prop}

end

theorem isBools_own {W : World} {B : Nat} {v : Value} {l : List Bool} (h : W.ownsRow B 4 1 v l.length (boolCells l)) : IsBools W v l := by
  have hc := fun g => h.cells (g := g)
  rcases h.2 with ⟨rfl, h0⟩ | ⟨g, cap, cur, rfl, _⟩
  · exact ⟨none, 0, by rw [h0], fun hne => absurd (List.eq_nil_of_length_eq_zero h0) hne⟩
  · refine ⟨_, cap, rfl, fun _ => ⟨g, 0, rfl, fun i hi => ?_⟩⟩
    have k0 : (boolCells l)[i]? = some (.bool l[i]) := by simp [boolCells, hi]
    have h1 := hc g rfl _ _ k0
    have hadd : (⟨g, 0, none⟩ : Addr).add i = ⟨g, i, none⟩ := by unfold Addr.add; split <;> simp_all
    rw [hadd] at h1
    simpa using h1

theorem cells_of_pair {W : World} {b T : Nat} {x y : Value} (h : W.heap[b]? = some (.cells #[x, y] T (0, 0))) : W.cell? ⟨b, 0, none⟩ = some x ∧ W.cell? ⟨b, 1, none⟩ = some y ∧ W.frozen? ⟨b, 0, none⟩ = false ∧ W.frozen? ⟨b, 1, none⟩ = false := by
  refine ⟨?_, ?_, ?_, ?_⟩ <;> simp [World.cell?, World.frozen?, h]

theorem jst_keep {w W1 W2 : World} {lr lw mr mw : Value} (h : W1.cell? ⟨w.heap.size, 0, none⟩ = some lr ∧ W1.cell? ⟨w.heap.size, 1, none⟩ = some lw ∧ W1.cell? ⟨w.heap.size + 1, 0, none⟩ = some mr ∧ W1.cell? ⟨w.heap.size + 1, 1, none⟩ = some mw)
    (hb : Below (w.heap.size + 3) W1 W2) : W2.cell? ⟨w.heap.size, 0, none⟩ = some lr ∧ W2.cell? ⟨w.heap.size, 1, none⟩ = some lw ∧ W2.cell? ⟨w.heap.size + 1, 0, none⟩ = some mr ∧ W2.cell? ⟨w.heap.size + 1, 1, none⟩ = some mw := by
  have hc : ∀ b o, b < w.heap.size + 3 → W2.cell? ⟨b, o, none⟩ = W1.cell? ⟨b, o, none⟩ := fun b o h => hb.cell (p := ⟨b, o, none⟩) h
  exact ⟨by rw [hc _ _ (by omega)]; exact h.1, by rw [hc _ _ (by omega)]; exact h.2.1, by rw [hc _ _ (by omega)]; exact h.2.2.1, by rw [hc _ _ (by omega)]; exact h.2.2.2⟩

/-- four cells that lie low, and are kept. -/
def Low4 (B : Nat) (p1 p2 p3 p4 : Nat × Nat) (v1 v2 v3 v4 : Value) (W : World) : Prop :=
  W.cell? ⟨p1.1, p1.2, none⟩ = some v1 ∧ W.cell? ⟨p2.1, p2.2, none⟩ = some v2 ∧ W.cell? ⟨p3.1, p3.2, none⟩ = some v3 ∧ W.cell? ⟨p4.1, p4.2, none⟩ = some v4 ∧ B + 1 ≤ W.heap.size ∧ p1.1 < B ∧ p2.1 < B ∧ p3.1 < B ∧ p4.1 < B

theorem Low4.keep {B : Nat} {W W' : World} {p1 p2 p3 p4 : Nat × Nat} {v1 v2 v3 v4 : Value} (h : Low4 B p1 p2 p3 p4 v1 v2 v3 v4 W) (hb : Below B W W') : Low4 B p1 p2 p3 p4 v1 v2 v3 v4 W' := by
  have hc : ∀ b o, b < B → W'.cell? ⟨b, o, none⟩ = W.cell? ⟨b, o, none⟩ := fun b o h => hb.cell (p := ⟨b, o, none⟩) h
  obtain ⟨k1, k2, k3, k4, k6, h1, h2, h3, h4⟩ := h
  exact ⟨by rw [hc _ _ h1]; exact k1, by rw [hc _ _ h2]; exact k2, by rw [hc _ _ h3]; exact k3, by rw [hc _ _ h4]; exact k4, Nat.le_trans k6 hb.size, h1, h2, h3, h4⟩

end Go.Proofs.Ytpbnmmgocpobcaa
/- The document's own least level above two, and greatest below: the walks. -/
namespace Go.Proofs.Ytpbnmmgocpobcaa
open Go.RowKit
set_option linter.unusedVariables false

theorem ownB_base {W : World} {B B' : Nat} {v : Value} {k : Nat} {xs : List Value} (h : W.ownsRow B 4 1 v k xs) (hb : B' ≤ B) : W.ownsRow B' 4 1 v k xs := by
  obtain ⟨h1, h2⟩ := h
  refine ⟨h1, ?_⟩
  rcases h2 with h2 | ⟨g, cap, cur, hv, hg, hh, r⟩
  · exact Or.inl h2
  · exact Or.inr ⟨g, cap, cur, hv, Nat.le_trans hb hg, hh, r⟩

theorem ownB_some {W : World} {B : Nat} {v : Value} {k : Nat} {xs : List Value} (h : W.ownsRow B 4 1 v k xs) (hk : 1 ≤ k) : ∃ g cap, v = .slice (some ⟨g, 0, none⟩) k cap := by
  rcases h.2 with ⟨_, h⟩ | ⟨g', cap', cur, hv, _⟩
  · omega
  · exact ⟨g', cap', hv⟩

def andAt (a b : List Bool) (i : Nat) : Bool := a[i]?.getD false && b[i]?.getD false
def orAt (a b : List Bool) (i : Nat) : Bool := a[i]?.getD false || b[i]?.getD false
def rowOf (f : Nat → Bool) (n : Nat) : List Bool := (List.range n).map f
theorem rowOf_succ (f : Nat → Bool) (n : Nat) : rowOf f (n + 1) = rowOf f n ++ [f n] := by simp [rowOf, List.range_succ]
theorem rowOf_length (f : Nat → Bool) (n : Nat) : (rowOf f n).length = n := by simp [rowOf]
def joinL (l m : Lev) (n : Nat) : Lev := ⟨rowOf (andAt l.r m.r) n, rowOf (orAt l.w m.w) n⟩
def meetL (l m : Lev) (n : Nat) : Lev := ⟨rowOf (orAt l.r m.r) n, rowOf (andAt l.w m.w) n⟩

end Go.Proofs.Ytpbnmmgocpobcaa
/- The document's own least level above two, and greatest below: the walks. -/
namespace Go.Proofs.Ytpbnmmgocpobcaa
open Go.RowKit
set_option linter.unusedVariables false

end Go.Proofs.Ytpbnmmgocpobcaa
/- The document's own level of a label: LevelOf. -/
namespace Go.Proofs.Ytpbnmmgocpobcaa
open Go.RowKit
set_option linter.unusedVariables false

structure Lab where
  r : List Pol
  w : List Pol

def labIn (n : Nat) (b : Lab) : Prop := (b.r.length ≤ 4 ∧ ∀ p ∈ b.r, polIn n p) ∧ (b.w.length ≤ 4 ∧ ∀ p ∈ b.w, polIn n p)
def levOf (gn : List (Nat × Nat)) (n : Nat) (b : Lab) : Lev := ⟨rowOf (fun i => mayB gn n i b.r) n, rowOf (fun i => mayB gn n i b.w) n⟩

end Go.Proofs.Ytpbnmmgocpobcaa
/- The document's own check of a label; is a level what it must be beside an errno. -/
namespace Go.Proofs.Ytpbnmmgocpobcaa
open Go.RowKit
set_option linter.unusedVariables false

def labErr (m : Int) (b : Lab) : Int := if polsErr m b.r = 0 then polsErr m b.w else polsErr m b.r

theorem firstErr_ok {m : Int} {ps : List Pol} (h : firstErr m ps = 0) : ∀ p ∈ ps, polErr m p = 0 := by
  induction ps with
  | nil => simp
  | cons p ps ih =>
    rw [firstErr] at h
    split at h
    · rename_i h0
      intro q hq
      rcases List.mem_cons.1 hq with rfl | hq
      · exact h0
      · exact ih h q hq
    · rename_i h0
      exact absurd h h0

theorem polErr_ok {n : Nat} {p : Pol} (h : polErr n p = 0) : polIn n p := by
  unfold polErr at h
  split at h
  · split at h
    · split at h
      · rename_i h1 h2 h3
        simp [isOne] at h1
        refine ⟨h1, h2, fun x hx => ?_⟩
        have := List.all_eq_true.1 h3 x hx
        simp [isOne] at this
        exact this
      · cases h
    · cases h
  · cases h

theorem polsErr_ok {n : Nat} {ps : List Pol} (h : polsErr n ps = 0) : ps.length ≤ 4 ∧ ∀ p ∈ ps, polIn n p := by
  unfold polsErr at h
  split at h
  · rename_i h1
    exact ⟨h1, fun p hp => polErr_ok (firstErr_ok h p hp)⟩
  · cases h

theorem labErr_ok {n : Nat} {b : Lab} (h : labErr n b = 0) : labIn n b := by
  unfold labErr at h
  split at h
  · rename_i h1
    exact ⟨polsErr_ok h1, polsErr_ok h⟩
  · rename_i h1
    exact absurd h h1

def noLev : Lev := ⟨[], []⟩

theorem noLev_at (W : World) : LevAt W (.agg #[.slice none 0 0, .slice none 0 0]) noLev :=
  ⟨_, _, rfl, ⟨none, 0, rfl, fun h => absurd rfl h⟩, ⟨none, 0, rfl, fun h => absurd rfl h⟩⟩

def levelIsB (l : Lev) (e w : Int) (want : Lev) : Bool := decide (e = w) && sameLev l (if w = 0 then want else noLev)

end Go.Proofs.Ytpbnmmgocpobcaa
/- What is asked of the calls of package label, as contracts; and what must be in any case. -/
namespace Go.Proofs.Ytpbnmmgocpobcaa
open Go.RowKit
set_option linter.unusedVariables false

/-- a level in new memory. -/
def LevFresh (w w' : World) (v : Value) (L : Lev) : Prop := ∃ vr vw, v = .agg #[vr, vw] ∧ w'.ownsRow w.heap.size 4 1 vr L.r.length (boolCells L.r) ∧ w'.ownsRow w.heap.size 4 1 vw L.w.length (boolCells L.w) ∧ Apart vr vw

theorem levFresh_at {w w' : World} {v : Value} {L : Lev} (h : LevFresh w w' v L) : LevAt w' v L := by
  obtain ⟨vr, vw, rfl, h1, h2, _⟩ := h
  exact ⟨vr, vw, rfl, isBools_own h1, isBools_own h2⟩

def lChk (m : Int) (gs : List (Int × Int)) (b : Lab) : Int := if chkErr m gs = 0 then labErr m b else chkErr m gs
def lRight (m : Int) (gs : List (Int × Int)) (l : Lev) : Int := if chkErr m gs = 0 then levErr m l else chkErr m gs
def lTwo (m : Int) (gs : List (Int × Int)) (l k : Lev) : Int := if lRight m gs l = 0 then lRight m gs k else lRight m gs l

def CheckOk : Prop := ∀ (m : Int) (v : Value) (gs : List (Int × Int)) (pr pw : Value) (bl : Lab) (w : World), IsGrants w v gs → IsPols w pr bl.r → IsPols w pw bl.w →
  Calls Try.prog 58 #[.agg #[.int .i64 m, v], .agg #[pr, pw]] w fun e w' => e = .returned (.int .i64 (lChk m gs bl)) ∧ Below w.heap.size w w'
def twoG : List (Int × Int) := [(1, 0)]

def secretB : Lab := ⟨[⟨1, []⟩], []⟩

end Go.Proofs.Ytpbnmmgocpobcaa
/- Package label: Check and Level keep their contracts. -/
namespace Go.Proofs.Ytpbnmmgocpobcaa
open Go.RowKit
set_option linter.unusedVariables false

theorem pols_form {w : World} {v : Value} {ps : List Pol} (h : IsPols w v ps) : ∃ a n c, v = .slice a n c := by
  obtain ⟨a, c, e, _⟩ := h
  exact ⟨a, _, c, e⟩
theorem grants_form {w : World} {v : Value} {gs : List (Int × Int)} (h : IsGrants w v gs) : ∃ a n c, v = .slice a n c := by
  obtain ⟨a, c, e, _⟩ := h
  exact ⟨a, _, c, e⟩

set_option maxHeartbeats 2000000 in
theorem checkOk : CheckOk := by
  intro m v gs pr pw bl w hv hp hq
  have hbel : Below w.heap.size w ((w.alloc (.cells #[.int .i64 m, v] 24)).alloc (.cells #[pr, pw] 67)) := ((Below.refl _ w).alloc (Nat.le_refl _) _).alloc (by simp) _
  have hC := fun (W : World) (hB : Below w.heap.size w W) => check_any m v gs W (isGrants_over hv hB)
  have hP := fun (W : World) (hB : Below w.heap.size w W) => labPolicies_any m v pr bl.r W (isPols_over hp hB)
  have hQ := fun (W : World) (hB : Below w.heap.size w W) => labPolicies_any m v pw bl.w W (isPols_over hq hB)
  have hE : lChk m gs bl = if chkErr m gs = 0 then (if polsErr m bl.r = 0 then polsErr m bl.w else polsErr m bl.r) else chkErr m gs := rfl
  obtain ⟨r, hr⟩ : ∃ r, r = chkErr m gs := ⟨_, rfl⟩
  obtain ⟨p1, hp1⟩ : ∃ r, r = polsErr m bl.r := ⟨_, rfl⟩
  obtain ⟨p2, hp2⟩ : ∃ r, r = polsErr m bl.w := ⟨_, rfl⟩
  rw [← hr, ← hp1, ← hp2] at hE
  rw [← hr] at hC
  rw [← hp1] at hP
  rw [← hp2] at hQ
  obtain ⟨va, vn, vc, rfl⟩ := grants_form hv
  obtain ⟨pa, pn, pc, rfl⟩ := pols_form hp
  obtain ⟨qa, qn, qc, rfl⟩ := pols_form hq
  have KC := hide hC
  have KP := hide hP
  have KQ := hide hQ
  have HE := hide hE
  clear hC hP hQ hE hr hp1 hp2 hv hp hq
  go_enter Try.func58, Try.ntmps58
  go_wp2_with fail
  refine (KC.out _ hbel).mono ?_
  rintro e w1 ⟨rfl, hb1⟩
  obtain ⟨hc, hf⟩ := bcell hb1
  have c0 : w1.cell? ⟨w.heap.size, 0, none⟩ = some (.int .i64 m) := by rw [hc _ _ (by simp; omega)]; simp [go_sem]
  have c1 : w1.cell? ⟨w.heap.size, 1, none⟩ = some (.slice va vn vc) := by rw [hc _ _ (by simp; omega)]; simp [go_sem]
  have c2 : w1.cell? ⟨w.heap.size + 1, 0, none⟩ = some (.slice pa pn pc) := by rw [hc _ _ (by simp)]; simp [go_sem]
  have c3 : w1.cell? ⟨w.heap.size + 1, 1, none⟩ = some (.slice qa qn qc) := by rw [hc _ _ (by simp)]; simp [go_sem]
  have hB1 : Below w.heap.size w w1 := hbel.trans (hb1.mono (by simp; omega))
  clear hc hf hb1 hbel KC
  by_cases hr0 : r = 0
  · subst hr0
    go_wp2_with fail
    refine (KP.out _ hB1).mono ?_
    rintro e w2 ⟨rfl, hb2⟩
    have ltw := World.block_lt_of_cell? w1 _ c0
    have ltp := World.block_lt_of_cell? w1 _ c2
    obtain ⟨hc, hf⟩ := bcell hb2
    have d0 : w2.cell? ⟨w.heap.size, 0, none⟩ = some (.int .i64 m) := by rw [hc _ _ ltw]; exact c0
    have d1 : w2.cell? ⟨w.heap.size, 1, none⟩ = some (.slice va vn vc) := by rw [hc _ _ ltw]; exact c1
    have d3 : w2.cell? ⟨w.heap.size + 1, 1, none⟩ = some (.slice qa qn qc) := by rw [hc _ _ ltp]; exact c3
    have hB2 : Below w.heap.size w w2 := hB1.trans (hb2.mono hB1.size)
    clear hc hf hb2 hB1 c0 c1 c2 c3 KP
    by_cases hp0 : p1 = 0
    · subst hp0
      go_wp2_with fail
      refine (KQ.out _ hB2).mono ?_
      rintro e w3 ⟨rfl, hb3⟩
      have hB3 : Below w.heap.size w w3 := hB2.trans (hb3.mono hB2.size)
      clear d0 d1 d3 hb3 KQ
      go_wp2_with fail
      go_ret
      exact ⟨by rw [HE.out]; simp, hB3⟩
    · have hne : (p1 != 0) = true := by simpa using hp0
      go_wp2_with fail
      go_ret
      exact ⟨by rw [HE.out]; simp [hp0], hB2⟩
  · have hne : (r != 0) = true := by simpa using hr0
    go_wp2_with fail
    go_ret
    exact ⟨by rw [HE.out]; simp [hr0], hB1⟩

/-- one row of bools, somewhere. -/
def RowAt (W : World) (b n : Nat) (l : List Bool) : Prop := l.length = n ∧ ∀ i (h : i < l.length), W.cell? ⟨b, i, none⟩ = some (.bool l[i])

theorem rowAt_over {W W' : World} {b n : Nat} {l : List Bool} (h : RowAt W b n l) (hb : Below W.heap.size W W') : RowAt W' b n l :=
  ⟨h.1, fun i hi => by rw [(bcell hb).1 _ _ (World.block_lt_of_cell? W _ (h.2 i hi))]; exact h.2 i hi⟩

/-- may one, who acts for those of a row, by a policy; by all of them? -/
def polR (l : List Bool) (p : Pol) : Bool := (l[p.owner.toNat]?.getD false) || p.names.any (fun x => l[x.toNat]?.getD false)

end Go.Proofs.Ytpbnmmgocpobcaa
/- A program in memory, as plain data; what gives up. -/
namespace Go.Proofs.Ytpbnmmgocpobcaa.Ex
open Go.RowKit
set_option linter.unusedVariables false

/-- a command. -/
def sD (kd va ot : Int) (e : D) (ags ts es : List D) : D := .agg [.lit (.int .i64 kd), .lit (.int .i64 va), .lit (.int .i64 ot), e, .slice ags [], .slice ts [], .slice es []]
def sKind : D → Int
  | .agg (.lit (.int _ n) :: _) => n
  | _ => 0
def sVar : D → Int
  | .agg (_ :: .lit (.int _ n) :: _) => n
  | _ => 0
def sOther : D → Int
  | .agg (_ :: _ :: .lit (.int _ n) :: _) => n
  | _ => 0
def sExpr : D → D
  | .agg (_ :: _ :: _ :: e :: _) => e
  | d => d
def sArgs : D → List D
  | .agg (_ :: _ :: _ :: _ :: .slice l _ :: _) => l
  | _ => []
def sThen : D → List D
  | .agg (_ :: _ :: _ :: _ :: _ :: .slice l _ :: _) => l
  | _ => []
def sElse : D → List D
  | .agg (_ :: _ :: _ :: _ :: _ :: _ :: .slice l _ :: _) => l
  | _ => []

/-- a command in nine cells, so deep at most; its expressions so deep at most. -/
def RS (w : World) (K : Nat) : Nat → List Value → D → Prop
  | 0, _, _ => False
  | k + 1, cs, d => ∃ (kd va ot : Int) (x0 x1 x2 : Value) (e : D) (vA : Value) (ags : List D) (vT : Value) (ts : List D) (vE : Value) (es : List D),
      cs = [.int .i64 kd, .int .i64 va, .int .i64 ot, x0, x1, x2, vA, vT, vE] ∧ d = sD kd va ot e ags ts es ∧ In64 kd ∧ In64 va ∧ In64 ot ∧ RX w K [x0, x1, x2] e ∧ XS 3 (RX w K) w vA ags ∧ XS 9 (RS w K k) w vT ts ∧ XS 9 (RS w K k) w vE es

theorem RS.mono {w w' : World} {K : Nat} (hw : ∀ a u, w.cell? a = some u → w'.cell? a = some u) :
    ∀ (k m : Nat) (cs : List Value) (d : D), k ≤ m → RS w K k cs d → RS w' K m cs d := by
  intro k
  induction k with
  | zero => intro m cs d _ h; exact h.elim
  | succ k ih =>
    intro m cs d hkm h
    obtain ⟨m', rfl⟩ : ∃ m', m = m' + 1 := ⟨m - 1, by omega⟩
    obtain ⟨kd, va, ot, x0, x1, x2, e, vA, ags, vT, ts, vE, es, hcs, hd, h1, h2, h3, he, hA, hT, hE⟩ := h
    exact ⟨kd, va, ot, x0, x1, x2, e, vA, ags, vT, ts, vE, es, hcs, hd, h1, h2, h3, RX.mono hw K K _ e (Nat.le_refl _) he,
      hA.mono hw (fun cs d _ hh => RX.mono hw K K cs d (Nat.le_refl _) hh), hT.mono hw (fun cs d _ hh => ih m' cs d (by omega) hh), hE.mono hw (fun cs d _ hh => ih m' cs d (by omega) hh)⟩

/-- commands one behind the other. -/
def StmtsAt (w : World) (K k : Nat) (v : Value) (l : List D) : Prop := XS 9 (RS w K k) w v l
theorem StmtsAt.over {w w' : World} {K k : Nat} {v : Value} {l : List D} (h : StmtsAt w K k v l) (hb : Below w.heap.size w w') : StmtsAt w' K k v l :=
  XS.mono h (cell_over hb) (fun cs d _ hh => RS.mono (cell_over hb) k k cs d (Nat.le_refl _) hh)
theorem ArgsAt.over {w w' : World} {K : Nat} {v : Value} {l : List D} (h : XS 3 (RX w K) w v l) (hb : Below w.heap.size w w') : XS 3 (RX w' K) w' v l :=
  XS.mono h (cell_over hb) (fun cs d _ hh => RX.mono (cell_over hb) K K cs d (Nat.le_refl _) hh)

structure FnD where
  ps : List Int
  body : List D
  res : D

/-- numbers of a function's parameters: how long the list may be. -/
def PsOk (v : Value) (ps : List Int) : Prop := ps.length ≤ maxLen ∧ ∃ pa pc, v = .slice pa ps.length pc ∧ ps.length ≤ pc ∧ pc ≤ maxLen

/-- functions, five cells each. -/
def FnsAt (w : World) (K k : Nat) (v : Value) (fs : List FnD) : Prop :=
  fs.length ≤ maxLen ∧ ∃ ao cap, v = .slice ao fs.length cap ∧ (fs ≠ [] → ∃ b off, ao = some ⟨b, off, none⟩ ∧ ∀ i (h : i < fs.length), ∃ (vP vB x0 x1 x2 : Value),
    w.cell? ⟨b, off + i * 5, none⟩ = some vP ∧ w.cell? ⟨b, off + i * 5 + 1, none⟩ = some vB ∧ w.cell? ⟨b, off + i * 5 + 2, none⟩ = some x0 ∧ w.cell? ⟨b, off + i * 5 + 3, none⟩ = some x1 ∧ w.cell? ⟨b, off + i * 5 + 4, none⟩ = some x2 ∧
    IsInts w vP fs[i].ps ∧ PsOk vP fs[i].ps ∧ StmtsAt w K k vB fs[i].body ∧ RX w K [x0, x1, x2] fs[i].res)
theorem FnsAt.over {w w' : World} {K k : Nat} {v : Value} {l : List FnD} (h : FnsAt w K k v l) (hb : Below w.heap.size w w') : FnsAt w' K k v l := by
  obtain ⟨hm, ao, cap, hv, hc⟩ := h
  refine ⟨hm, ao, cap, hv, fun hne => ?_⟩
  obtain ⟨b, off, hao, hel⟩ := hc hne
  refine ⟨b, off, hao, fun i hi => ?_⟩
  obtain ⟨vP, vB, x0, x1, x2, h0, h1, h2, h3, h4, hp, hpl, hs, hx⟩ := hel i hi
  exact ⟨vP, vB, x0, x1, x2, cell_over hb _ _ h0, cell_over hb _ _ h1, cell_over hb _ _ h2, cell_over hb _ _ h3, cell_over hb _ _ h4, hp.over hb, hpl, hs.over hb, hx.over hb⟩

/-- labels, two cells each. -/
def LabsAt (w : World) (v : Value) (ls : List Lab) : Prop :=
  ls.length ≤ maxLen ∧ ∃ ao cap, v = .slice ao ls.length cap ∧ (ls ≠ [] → ∃ b off, ao = some ⟨b, off, none⟩ ∧ ∀ i (h : i < ls.length), ∃ (pr pw : Value),
    w.cell? ⟨b, off + i * 2, none⟩ = some pr ∧ w.cell? ⟨b, off + i * 2 + 1, none⟩ = some pw ∧ IsPols w pr ls[i].r ∧ IsPols w pw ls[i].w)
theorem LabsAt.over {w w' : World} {v : Value} {l : List Lab} (h : LabsAt w v l) (hb : Below w.heap.size w w') : LabsAt w' v l := by
  obtain ⟨hm, ao, cap, hv, hc⟩ := h
  refine ⟨hm, ao, cap, hv, fun hne => ?_⟩
  obtain ⟨b, off, hao, hel⟩ := hc hne
  refine ⟨b, off, hao, fun i hi => ?_⟩
  obtain ⟨pr, pw, h0, h1, hr, hw⟩ := hel i hi
  exact ⟨pr, pw, cell_over hb _ _ h0, cell_over hb _ _ h1, isPols_over hr hb, isPols_over hw hb⟩

/-- variables, three cells each. -/
def VarsAt (w : World) (v : Value) (ls : List (Bool × Lab)) : Prop :=
  ls.length ≤ maxLen ∧ ∃ ao cap, v = .slice ao ls.length cap ∧ (ls ≠ [] → ∃ b off, ao = some ⟨b, off, none⟩ ∧ ∀ i (h : i < ls.length), ∃ (pr pw : Value),
    w.cell? ⟨b, off + i * 3, none⟩ = some (.bool ls[i].1) ∧ w.cell? ⟨b, off + i * 3 + 1, none⟩ = some pr ∧ w.cell? ⟨b, off + i * 3 + 2, none⟩ = some pw ∧ IsPols w pr ls[i].2.r ∧ IsPols w pw ls[i].2.w)
theorem VarsAt.over {w w' : World} {v : Value} {l : List (Bool × Lab)} (h : VarsAt w v l) (hb : Below w.heap.size w w') : VarsAt w' v l := by
  obtain ⟨hm, ao, cap, hv, hc⟩ := h
  refine ⟨hm, ao, cap, hv, fun hne => ?_⟩
  obtain ⟨b, off, hao, hel⟩ := hc hne
  refine ⟨b, off, hao, fun i hi => ?_⟩
  obtain ⟨pr, pw, h0, h1, h2, hr, hw⟩ := hel i hi
  exact ⟨pr, pw, cell_over hb _ _ h0, cell_over hb _ _ h1, cell_over hb _ _ h2, isPols_over hr hb, isPols_over hw hb⟩

def gaveW (why : Int) : Ending := .panicked [{ v := .iface 87 (.agg #[.int .i64 0, .int .i64 why]), recovered := false }]

set_option maxHeartbeats 1000000 in
theorem mustAt_no (why : Int) (w : World) : Calls Try.prog 56 #[.int .i64 0, .bool false, .int .i64 why] w fun e w' => e = gaveW why ∧ w' = w := by
  unfold gaveW
  go_enter Try.func56, Try.ntmps56
  go_wp2_with fail
  exact ⟨rfl, rfl, rfl⟩

set_option maxHeartbeats 1000000 in
theorem must_no (why : Int) (w : World) : Calls Try.prog 40 #[.bool false, .int .i64 why] w fun e w' => e = gaveW why ∧ w' = w := by
  have K := hide fun W => mustAt_no why W
  unfold gaveW at K ⊢
  go_enter Try.func40, Try.ntmps40
  go_wp2_with fail
  refine (K.out _).mono ?_
  rintro e w1 ⟨rfl, rfl⟩
  go_wp2_with fail
  exact ⟨rfl, rfl, rfl⟩

/-- it goes on, and something holds then; or it gives up. -/
def Must (ok : Bool) (why : Int) (w : World) (e : Ending) (w' : World) : Prop := (ok = true ∧ e = .returned (.tuple #[]) ∨ ok = false ∧ e = gaveW why) ∧ w' = w

theorem must_any (ok : Bool) (why : Int) (w : World) : Calls Try.prog 40 #[.bool ok, .int .i64 why] w (Must ok why w) := by
  cases ok with
  | true => exact (must_ok why w).mono fun e w' h => ⟨Or.inl ⟨rfl, h.1⟩, h.2⟩
  | false => exact (must_no why w).mono fun e w' h => ⟨Or.inr ⟨rfl, h.1⟩, h.2⟩

set_option maxHeartbeats 1000000 in
theorem pass_any (why : Int) (w : World) : Calls Try.prog 38 #[.int .i64 why] w (Must (why == 0) why w) := by
  by_cases h : why = 0
  · subst h
    exact (pass_ok w).mono fun e w' h => ⟨Or.inl ⟨rfl, h.1⟩, h.2⟩
  · have hb : (why == 0) = false := by simpa using h
    have K := hide fun W => must_no why W
    have H : Calls Try.prog 38 #[.int .i64 why] w fun e w' => e = gaveW why ∧ w' = w := by
      unfold gaveW at K ⊢
      go_enter Try.func38, Try.ntmps38
      go_wp2_with fail
      refine (K.out _).mono ?_
      rintro e w1 ⟨rfl, rfl⟩
      go_wp2_with fail
      exact ⟨rfl, rfl, rfl⟩
    exact H.mono fun e w' h => ⟨Or.inr ⟨hb, h.1⟩, h.2⟩
end Go.Proofs.Ytpbnmmgocpobcaa.Ex
