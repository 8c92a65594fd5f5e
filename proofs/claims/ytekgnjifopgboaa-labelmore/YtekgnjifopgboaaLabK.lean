/- What is asked of the calls of package label, as contracts; and what must be in any case. -/
import Derived.Test.YtekgnjifopgboaaRefD
namespace Go.Proofs.Ytekgnjifopgboaa
open Go.RowKit
set_option linter.unusedVariables false

/-- a level in new memory. -/
def LevFresh (w w' : World) (v : Value) (L : Lev) : Prop := ∃ vr vw, v = .agg #[vr, vw] ∧ w'.ownsRow w.heap.size 4 1 vr L.r.length (boolCells L.r) ∧ w'.ownsRow w.heap.size 4 1 vw L.w.length (boolCells L.w) ∧ Apart vr vw

theorem levFresh_at {w w' : World} {v : Value} {L : Lev} (h : LevFresh w w' v L) : LevAt w' v L := by
  obtain ⟨vr, vw, rfl, h1, h2, _⟩ := h
  exact ⟨vr, vw, rfl, isBools_own h1, isBools_own h2⟩

def lChk (m : Int) (gs : List (Int × Int)) (b : Lab) : Int := if chkErr m gs = 0 then labErr m b else chkErr m gs
def lRight (m : Int) (gs : List (Int × Int)) (l : Lev) : Int := if chkErr m gs = 0 then levErr m l else chkErr m gs
def lTwo (m : Int) (gs : List (Int × Int)) (l k : Lev) : Int := if lRight m gs l = 0 then lRight m gs k else lRight m gs l

def CheckOk : Prop := ∀ (m : Int) (v : Value) (gs : List (Int × Int)) (pr pw : Value) (bl : Lab) (w : World), IsGrants w v gs → IsPols w pr bl.r → IsPols w pw bl.w →
  Calls Try.prog 13 #[.agg #[.int .i64 m, v], .agg #[pr, pw]] w fun e w' => e = .returned (.int .i64 (lChk m gs bl)) ∧ Below w.heap.size w w'
def LevelOk : Prop := ∀ (m : Int) (v : Value) (gs : List (Int × Int)) (pr pw : Value) (bl : Lab) (w : World), IsGrants w v gs → IsPols w pr bl.r → IsPols w pw bl.w →
  Calls Try.prog 8 #[.agg #[.int .i64 m, v], .agg #[pr, pw]] w fun e w' => ∃ vl, e = .returned (.tuple #[vl, .int .i64 (lChk m gs bl)]) ∧ LevFresh w w' vl (if lChk m gs bl = 0 then levOf (gnOf gs) m.toNat bl else noLev) ∧ Below w.heap.size w w'
def RightOk : Prop := ∀ (m : Int) (v : Value) (gs : List (Int × Int)) (vl : Value) (l : Lev) (w : World), IsGrants w v gs → LevAt w vl l →
  Calls Try.prog 22 #[.agg #[.int .i64 m, v], vl] w fun e w' => e = .returned (.int .i64 (lRight m gs l)) ∧ Below w.heap.size w w'
def FlowsOk : Prop := ∀ (m : Int) (v : Value) (gs : List (Int × Int)) (vl vk : Value) (l k : Lev) (w : World), IsGrants w v gs → LevAt w vl l → LevAt w vk k →
  Calls Try.prog 15 #[.agg #[.int .i64 m, v], vl, vk] w fun e w' => e = .returned (.tuple #[.bool (decide (lTwo m gs l k = 0) && flowsB l k m.toNat), .int .i64 (lTwo m gs l k)]) ∧ Below w.heap.size w w'
def JoinOk : Prop := ∀ (m : Int) (v : Value) (gs : List (Int × Int)) (vl vk : Value) (l k : Lev) (w : World), IsGrants w v gs → LevAt w vl l → LevAt w vk k →
  Calls Try.prog 16 #[.agg #[.int .i64 m, v], vl, vk] w fun e w' => ∃ vj, e = .returned (.tuple #[vj, .int .i64 (lTwo m gs l k)]) ∧ LevFresh w w' vj (if lTwo m gs l k = 0 then joinL l k m.toNat else noLev) ∧ Below w.heap.size w w'
def MeetOk : Prop := ∀ (m : Int) (v : Value) (gs : List (Int × Int)) (vl vk : Value) (l k : Lev) (w : World), IsGrants w v gs → LevAt w vl l → LevAt w vk k →
  Calls Try.prog 17 #[.agg #[.int .i64 m, v], vl, vk] w fun e w' => ∃ vj, e = .returned (.tuple #[vj, .int .i64 (lTwo m gs l k)]) ∧ LevFresh w w' vj (if lTwo m gs l k = 0 then meetL l k m.toNat else noLev) ∧ Below w.heap.size w w'

def twoG : List (Int × Int) := [(1, 0)]

set_option maxHeartbeats 400000 in
theorem two_any (w : World) : Calls Try.prog 37 #[] w fun e w' => ∃ v, e = .returned (.agg #[.int .i64 2, v]) ∧ IsGrants w' v twoG ∧ Below w.heap.size w w' := by
  go_enter Try.func37, Try.ntmps37
  go_wp2_with fail
  refine bodyPost_ret (v := .agg #[.int .i64 2, .slice (some ⟨w.heap.size + 1, 0, none⟩) 1 1]) (by simp [results, Try.results37, go_sem]) rfl ⟨_, rfl, ⟨_, _, rfl, fun _ => ⟨_, 0, rfl, fun i hi => ?_⟩⟩, ?_⟩
  · have : i = 0 := by simp [twoG] at hi; omega
    subst this
    simp [go_sem, twoG]
  · first
    | exact ((((Below.refl _ w).alloc (Nat.le_refl _) _).alloc (by simp) _).setCell (by simp) _).setCell (by simp) _
    | exact (((Below.refl _ w).alloc (Nat.le_refl _) _).alloc (by simp) _)

def secretB : Lab := ⟨[⟨1, []⟩], []⟩

set_option maxHeartbeats 400000 in
theorem secret_any (w : World) : Calls Try.prog 38 #[] w fun e w' => ∃ pr pw, e = .returned (.agg #[pr, pw]) ∧ IsPols w' pr secretB.r ∧ IsPols w' pw secretB.w ∧ Below w.heap.size w w' := by
  go_enter Try.func38, Try.ntmps38
  go_wp2_with fail
  refine bodyPost_ret (v := .agg #[.slice (some ⟨w.heap.size + 1, 0, none⟩) 1 1, .slice none 0 0]) (by simp [results, Try.results38, go_sem]) rfl ⟨_, _, rfl, ⟨_, _, rfl, fun _ => ⟨_, 0, rfl, fun i hi => ?_⟩⟩, ⟨none, 0, rfl, fun h => absurd rfl h⟩, ?_⟩
  · have : i = 0 := by simp [secretB] at hi; omega
    subst this
    refine ⟨by simp [go_sem, secretB], .slice none 0 0, by simp [go_sem], ⟨none, 0, rfl, fun h => absurd rfl h⟩⟩
  · first
    | exact ((((Below.refl _ w).alloc (Nat.le_refl _) _).alloc (by simp) _).setCell (by simp) _).setCell (by simp) _
    | exact (((Below.refl _ w).alloc (Nat.le_refl _) _).alloc (by simp) _)
end Go.Proofs.Ytekgnjifopgboaa
