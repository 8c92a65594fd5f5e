/- The document's own least level above two, and greatest below: the walks. -/
import Derived.Test.YtcbbjjenkommeaaM02
import Derived.Deep.CutRange
import Derived.Deep.QuietTactic
import Derived.BigQuiet
import Derived.Deep.RegionHeld2
namespace Go.Proofs.Ytcbbjjenkommeaa
open Go.RowKit
set_option linter.unusedVariables false
theorem ownB_base {W : World} {B B' : Nat} {v : Value} {k : Nat} {xs : List Value} (h : W.ownsRow B 4 1 v k xs) (hb : B' ≤ B) : W.ownsRow B' 4 1 v k xs := by
  obtain ⟨h1, h2⟩ := h
  refine ⟨h1, ?_⟩
  rcases h2 with h2 | ⟨g, cap, cur, hv, hg, hh, r⟩
  · exact Or.inl h2
  · exact Or.inr ⟨g, cap, cur, hv, Nat.le_trans hb hg, hh, r⟩

def andAt (a b : List Bool) (i : Nat) : Bool := a[i]?.getD false && b[i]?.getD false
def orAt (a b : List Bool) (i : Nat) : Bool := a[i]?.getD false || b[i]?.getD false
def rowOf (f : Nat → Bool) (n : Nat) : List Bool := (List.range n).map f
theorem rowOf_succ (f : Nat → Bool) (n : Nat) : rowOf f (n + 1) = rowOf f n ++ [f n] := by simp [rowOf, List.range_succ]
theorem rowOf_length (f : Nat → Bool) (n : Nat) : (rowOf f n).length = n := by simp [rowOf]
def joinL (l m : Lev) (n : Nat) : Lev := ⟨rowOf (andAt l.r m.r) n, rowOf (orAt l.w m.w) n⟩
structure Lab where
  r : List Pol
  w : List Pol

def labIn (n : Nat) (b : Lab) : Prop := (b.r.length ≤ 4 ∧ ∀ p ∈ b.r, polIn n p) ∧ (b.w.length ≤ 4 ∧ ∀ p ∈ b.w, polIn n p)
def levOf (gn : List (Nat × Nat)) (n : Nat) (b : Lab) : Lev := ⟨rowOf (fun i => mayB gn n i b.r) n, rowOf (fun i => mayB gn n i b.w) n⟩
def labErr (m : Int) (b : Lab) : Int := if polsErr m b.r = 0 then polsErr m b.w else polsErr m b.r

theorem firstErr_ok {m : Int} {ps : List Pol} (h : firstErr m ps = 0) : ∀ p ∈ ps, polErr m p = 0 := by
  induction ps with
  | nil => simp
  | cons p ps ih =>
    rw [firstErr] at h
    split at h
    · rename_i h0
      intro q hq
      rcases List.mem_cons.1 hq with rfl | hq
      · exact h0
      · exact ih h q hq
    · rename_i h0
      exact absurd h h0

theorem polErr_ok {n : Nat} {p : Pol} (h : polErr n p = 0) : polIn n p := by
  unfold polErr at h
  split at h
  · split at h
    · split at h
      · rename_i h1 h2 h3
        simp [isOne] at h1
        refine ⟨h1, h2, fun x hx => ?_⟩
        have := List.all_eq_true.1 h3 x hx
        simp [isOne] at this
        exact this
      · cases h
    · cases h
  · cases h

theorem polsErr_ok {n : Nat} {ps : List Pol} (h : polsErr n ps = 0) : ps.length ≤ 4 ∧ ∀ p ∈ ps, polIn n p := by
  unfold polsErr at h
  split at h
  · rename_i h1
    exact ⟨h1, fun p hp => polErr_ok (firstErr_ok h p hp)⟩
  · cases h

theorem labErr_ok {n : Nat} {b : Lab} (h : labErr n b = 0) : labIn n b := by
  unfold labErr at h
  split at h
  · rename_i h1
    exact ⟨polsErr_ok h1, polsErr_ok h⟩
  · rename_i h1
    exact absurd h h1

def noLev : Lev := ⟨[], []⟩
/-- a level in new memory. -/
def LevFresh (w w' : World) (v : Value) (L : Lev) : Prop := ∃ vr vw, v = .agg #[vr, vw] ∧ w'.ownsRow w.heap.size 4 1 vr L.r.length (boolCells L.r) ∧ w'.ownsRow w.heap.size 4 1 vw L.w.length (boolCells L.w) ∧ Apart vr vw

theorem levFresh_at {w w' : World} {v : Value} {L : Lev} (h : LevFresh w w' v L) : LevAt w' v L := by
  obtain ⟨vr, vw, rfl, h1, h2, _⟩ := h
  exact ⟨vr, vw, rfl, isBools_own h1, isBools_own h2⟩

def lChk (m : Int) (gs : List (Int × Int)) (b : Lab) : Int := if chkErr m gs = 0 then labErr m b else chkErr m gs
def lRight (m : Int) (gs : List (Int × Int)) (l : Lev) : Int := if chkErr m gs = 0 then levErr m l else chkErr m gs
def lTwo (m : Int) (gs : List (Int × Int)) (l k : Lev) : Int := if lRight m gs l = 0 then lRight m gs k else lRight m gs l

def CheckOk : Prop := ∀ (m : Int) (v : Value) (gs : List (Int × Int)) (pr pw : Value) (bl : Lab) (w : World), IsGrants w v gs → IsPols w pr bl.r → IsPols w pw bl.w →
  Calls Try.prog 50 #[.agg #[.int .i64 m, v], .agg #[pr, pw]] w fun e w' => e = .returned (.int .i64 (lChk m gs bl)) ∧ Below w.heap.size w w'
def LevelOk : Prop := ∀ (m : Int) (v : Value) (gs : List (Int × Int)) (pr pw : Value) (bl : Lab) (w : World), IsGrants w v gs → IsPols w pr bl.r → IsPols w pw bl.w →
  Calls Try.prog 45 #[.agg #[.int .i64 m, v], .agg #[pr, pw]] w fun e w' => ∃ vl, e = .returned (.tuple #[vl, .int .i64 (lChk m gs bl)]) ∧ LevFresh w w' vl (if lChk m gs bl = 0 then levOf (gnOf gs) m.toNat bl else noLev) ∧ Below w.heap.size w w'
def FlowsOk : Prop := ∀ (m : Int) (v : Value) (gs : List (Int × Int)) (vl vk : Value) (l k : Lev) (w : World), IsGrants w v gs → LevAt w vl l → LevAt w vk k →
  Calls Try.prog 19 #[.agg #[.int .i64 m, v], vl, vk] w fun e w' => e = .returned (.tuple #[.bool (decide (lTwo m gs l k = 0) && flowsB l k m.toNat), .int .i64 (lTwo m gs l k)]) ∧ Below w.heap.size w w'
def JoinOk : Prop := ∀ (m : Int) (v : Value) (gs : List (Int × Int)) (vl vk : Value) (l k : Lev) (w : World), IsGrants w v gs → LevAt w vl l → LevAt w vk k →
  Calls Try.prog 48 #[.agg #[.int .i64 m, v], vl, vk] w fun e w' => ∃ vj, e = .returned (.tuple #[vj, .int .i64 (lTwo m gs l k)]) ∧ LevFresh w w' vj (if lTwo m gs l k = 0 then joinL l k m.toNat else noLev) ∧ Below w.heap.size w w'
theorem pols_form {w : World} {v : Value} {ps : List Pol} (h : IsPols w v ps) : ∃ a n c, v = .slice a n c := by
  obtain ⟨a, c, e, _⟩ := h
  exact ⟨a, _, c, e⟩
theorem grants_form {w : World} {v : Value} {gs : List (Int × Int)} (h : IsGrants w v gs) : ∃ a n c, v = .slice a n c := by
  obtain ⟨a, c, e, _⟩ := h
  exact ⟨a, _, c, e⟩

set_option maxHeartbeats 2000000 in
theorem checkOk : CheckOk := by
  intro m v gs pr pw bl w hv hp hq
  have hbel : Below w.heap.size w ((w.alloc (.cells #[.int .i64 m, v] 35)).alloc (.cells #[pr, pw] 102)) := ((Below.refl _ w).alloc (Nat.le_refl _) _).alloc (by simp) _
  have hC := fun (W : World) (hB : Below w.heap.size w W) => check_any m v gs W (isGrants_over hv hB)
  have hP := fun (W : World) (hB : Below w.heap.size w W) => labPolicies_any m v pr bl.r W (isPols_over hp hB)
  have hQ := fun (W : World) (hB : Below w.heap.size w W) => labPolicies_any m v pw bl.w W (isPols_over hq hB)
  have hE : lChk m gs bl = if chkErr m gs = 0 then (if polsErr m bl.r = 0 then polsErr m bl.w else polsErr m bl.r) else chkErr m gs := rfl
  obtain ⟨r, hr⟩ : ∃ r, r = chkErr m gs := ⟨_, rfl⟩
  obtain ⟨p1, hp1⟩ : ∃ r, r = polsErr m bl.r := ⟨_, rfl⟩
  obtain ⟨p2, hp2⟩ : ∃ r, r = polsErr m bl.w := ⟨_, rfl⟩
  rw [← hr, ← hp1, ← hp2] at hE
  rw [← hr] at hC
  rw [← hp1] at hP
  rw [← hp2] at hQ
  obtain ⟨va, vn, vc, rfl⟩ := grants_form hv
  obtain ⟨pa, pn, pc, rfl⟩ := pols_form hp
  obtain ⟨qa, qn, qc, rfl⟩ := pols_form hq
  have KC := hide hC
  have KP := hide hP
  have KQ := hide hQ
  have HE := hide hE
  clear hC hP hQ hE hr hp1 hp2 hv hp hq
  go_enter Try.func50, Try.ntmps50
  go_wp2_with fail
  refine (KC.out _ hbel).mono ?_
  rintro e w1 ⟨rfl, hb1⟩
  obtain ⟨hc, hf⟩ := bcell hb1
  have c0 : w1.cell? ⟨w.heap.size, 0, none⟩ = some (.int .i64 m) := by rw [hc _ _ (by simp; omega)]; simp [go_sem]
  have c1 : w1.cell? ⟨w.heap.size, 1, none⟩ = some (.slice va vn vc) := by rw [hc _ _ (by simp; omega)]; simp [go_sem]
  have c2 : w1.cell? ⟨w.heap.size + 1, 0, none⟩ = some (.slice pa pn pc) := by rw [hc _ _ (by simp)]; simp [go_sem]
  have c3 : w1.cell? ⟨w.heap.size + 1, 1, none⟩ = some (.slice qa qn qc) := by rw [hc _ _ (by simp)]; simp [go_sem]
  have hB1 : Below w.heap.size w w1 := hbel.trans (hb1.mono (by simp; omega))
  clear hc hf hb1 hbel KC
  by_cases hr0 : r = 0
  · subst hr0
    go_wp2_with fail
    refine (KP.out _ hB1).mono ?_
    rintro e w2 ⟨rfl, hb2⟩
    have ltw := World.block_lt_of_cell? w1 _ c0
    have ltp := World.block_lt_of_cell? w1 _ c2
    obtain ⟨hc, hf⟩ := bcell hb2
    have d0 : w2.cell? ⟨w.heap.size, 0, none⟩ = some (.int .i64 m) := by rw [hc _ _ ltw]; exact c0
    have d1 : w2.cell? ⟨w.heap.size, 1, none⟩ = some (.slice va vn vc) := by rw [hc _ _ ltw]; exact c1
    have d3 : w2.cell? ⟨w.heap.size + 1, 1, none⟩ = some (.slice qa qn qc) := by rw [hc _ _ ltp]; exact c3
    have hB2 : Below w.heap.size w w2 := hB1.trans (hb2.mono hB1.size)
    clear hc hf hb2 hB1 c0 c1 c2 c3 KP
    by_cases hp0 : p1 = 0
    · subst hp0
      go_wp2_with fail
      refine (KQ.out _ hB2).mono ?_
      rintro e w3 ⟨rfl, hb3⟩
      have hB3 : Below w.heap.size w w3 := hB2.trans (hb3.mono hB2.size)
      clear d0 d1 d3 hb3 KQ
      go_wp2_with fail
      go_ret
      exact ⟨by rw [HE.out]; simp, hB3⟩
    · have hne : (p1 != 0) = true := by simpa using hp0
      go_wp2_with fail
      go_ret
      exact ⟨by rw [HE.out]; simp [hp0], hB2⟩
  · have hne : (r != 0) = true := by simpa using hr0
    go_wp2_with fail
    go_ret
    exact ⟨by rw [HE.out]; simp [hr0], hB1⟩

/-- one row of bools, somewhere. -/
def RowAt (W : World) (b n : Nat) (l : List Bool) : Prop := l.length = n ∧ ∀ i (h : i < l.length), W.cell? ⟨b, i, none⟩ = some (.bool l[i])

theorem rowAt_over {W W' : World} {b n : Nat} {l : List Bool} (h : RowAt W b n l) (hb : Below W.heap.size W W') : RowAt W' b n l :=
  ⟨h.1, fun i hi => by rw [(bcell hb).1 _ _ (World.block_lt_of_cell? W _ (h.2 i hi))]; exact h.2 i hi⟩

set_option maxHeartbeats 400000 in
theorem actsForC_any (b kb n : Nat) (l : List Bool) (x : Int) (W : World) (hn : n ≤ 6) (hx : 0 ≤ x ∧ x < n) (h0 : W.cell? ⟨b, 0, none⟩ = some (.slice (some ⟨kb, 0, none⟩) n n)) (hr : RowAt W kb n l) :
    Calls Try.prog 118 #[.int .i64 x, .pointer (some ⟨b, 0, none⟩)] W fun e w' => e = .returned (.bool (l[x.toNat]?.getD false)) ∧ Below W.heap.size W w' := by
  obtain ⟨k, rfl⟩ : ∃ k : Nat, x = k := ⟨x.toNat, by omega⟩
  have hk : k < l.length := by rw [hr.1]; omega
  have q := hr.2 k hk
  have hx2 : l[(k : Int).toNat]?.getD false = l[k] := by simp [hk]
  rw [hx2]
  obtain ⟨y, hy⟩ : ∃ y, y = l[k] := ⟨_, rfl⟩
  rw [← hy] at q ⊢
  clear hy hx2 hr
  go_enter Try.func118, Try.ntmps118
  go_wp2_with fail
  go_ret
  exact ⟨by simp, Below.refl _ W⟩

/-- may one, who acts for those of a row, by a policy; by all of them? -/
def polR (l : List Bool) (p : Pol) : Bool := (l[p.owner.toNat]?.getD false) || p.names.any (fun x => l[x.toNat]?.getD false)

set_option maxHeartbeats 2000000 in
theorem mayByAll_any (kb n : Nat) (l : List Bool) (vp : Value) (ps : List Pol) (w : World) (hn : n ≤ 6) (hr : RowAt w kb n l) (hp : IsPols w vp ps) (hps : ps.length ≤ 4 ∧ ∀ p ∈ ps, polIn n p) :
    Calls Try.prog 82 #[.slice (some ⟨kb, 0, none⟩) n n, vp] w fun e w' => e = .returned (.bool (ps.all (polR l))) ∧ Below w.heap.size w w' := by
  have HP := hide hp
  obtain ⟨ao, cap, rfl, -⟩ := hp
  have hbel : Below w.heap.size w (w.alloc (.cells #[.slice (some ⟨kb, 0, none⟩) n n] 60)) := (Below.refl _ w).alloc (Nat.le_refl _) _
  have KA := hide fun (x : Int) (W : World) (hx : 0 ≤ x ∧ x < n) (hB : Below w.heap.size w W) (h0 : W.cell? ⟨w.heap.size, 0, none⟩ = some (.slice (some ⟨kb, 0, none⟩) n n)) => actsForC_any w.heap.size kb n l x W hn hx h0 (rowAt_over hr hB)
  have hl4 := hps.1
  have HPS := hide hps.2
  clear hps hr
  go_enter Try.func82, Try.ntmps82
  go_wp2_with fail
  go_loopw [11] (fun i wr => ∃ k : Nat, k ≤ ps.length ∧ i = .int .i64 k ∧ (ps.take k).all (polR l) = true ∧ Below w.heap.size w wr ∧ wr.cell? ⟨w.heap.size, 0, none⟩ = some (.slice (some ⟨kb, 0, none⟩) n n)) (fun i _ => ps.length - (intOf i).toNat)
  case atStart => exact ⟨0, Nat.zero_le _, rfl, rfl, hbel, by simp [go_sem]⟩
  case round =>
    obtain ⟨k, hk, rfl, hall, hbw, c0⟩ := hrel
    by_cases hkl : k < ps.length
    · obtain ⟨b, off, cap', nv, hve, q0, q1, q2⟩ := isPols_at (isPols_over HP.out hbw) hkl
      injection hve with e1 e2 e3
      subst e1 e3
      clear e2
      obtain ⟨hown, hnm6, hnms⟩ := HPS.out ps[k] (List.getElem_mem hkl)
      have hpr : polR l ps[k] = ((l[ps[k].owner.toNat]?.getD false) || ps[k].names.any (fun x => l[x.toNat]?.getD false)) := rfl
      have hnext : polR l ps[k] = true → (ps.take (k + 1)).all (polR l) = true := fun h => by
        rw [List.take_succ_eq_append_getElem hkl, List.all_append, hall]
        simp [h]
      have hstop : polR l ps[k] = false → ps.all (polR l) = false := fun h => by
        rw [List.all_eq_false]
        exact ⟨ps[k], List.getElem_mem hkl, by simp [h]⟩
      have hal : Below wr.heap.size wr (wr.alloc (.cells #[.int .i64 ps[k].owner, nv] 143)) := (Below.refl _ wr).alloc (Nat.le_refl _) _
      have hO := fun (W : World) (hB : Below w.heap.size w W) (h0 : W.cell? ⟨w.heap.size, 0, none⟩ = some (.slice (some ⟨kb, 0, none⟩) n n)) => KA.out ps[k].owner W hown hB h0
      have hN := fun (W : World) (hB : Below w.heap.size w W) (hB2 : Below wr.heap.size wr W) (h0 : W.cell? ⟨w.heap.size, 0, none⟩ = some (.slice (some ⟨kb, 0, none⟩) n n)) => containsInt_any 118 (.pointer (some ⟨w.heap.size, 0, none⟩)) (fun x => l[x.toNat]?.getD false) nv ps[k].names W (isInts_over q2 hB2) hnm6 (hide fun i hi w1 hb => KA.out ps[k].names[i] w1 (hnms _ (List.getElem_mem hi)) (hB.trans (hb.mono hB.size)) (by rw [(bcell hb).1 _ _ (World.block_lt_of_cell? W _ h0)]; exact h0)) call49
      obtain ⟨x1, hx1⟩ : ∃ r, r = l[ps[k].owner.toNat]?.getD false := ⟨_, rfl⟩
      obtain ⟨x2, hx2⟩ : ∃ r, r = ps[k].names.any (fun x => l[x.toNat]?.getD false) := ⟨_, rfl⟩
      obtain ⟨ow, how⟩ : ∃ r, r = ps[k].owner := ⟨_, rfl⟩
      rw [← hx1, ← hx2] at hpr
      rw [hpr] at hnext hstop
      rw [← hx1] at hO
      rw [← hx2] at hN
      rw [← how] at q0 hal hO
      obtain ⟨na, nn, nc, hnv⟩ : ∃ a n c, nv = .slice a n c := by obtain ⟨a, c, e, _⟩ := q2; exact ⟨a, _, c, e⟩
      subst hnv
      have HN := hide hnext
      have HS := hide hstop
      have KO := hide hO
      have KN := hide hN
      have hbw2 := hbw.trans (hal.mono hbw.size)
      have ltw := World.block_lt_of_cell? wr _ c0
      have ltb := World.block_lt_of_cell? wr _ q0
      have c0' : (wr.alloc (.cells #[.int .i64 ow, .slice na nn nc] 143)).cell? ⟨w.heap.size, 0, none⟩ = some (.slice (some ⟨kb, 0, none⟩) n n) := by rw [(bcell hal).1 _ _ ltw]; exact c0
      have HC0 := hide c0'
      clear hx1 hx2 how hpr hnext hstop hO hN hall q2 c0' hown hnm6 hnms
      cases x1 with
      | true =>
        go_wp2_with fail
        refine (KO.out _ hbw2 HC0.out).mono ?_
        rintro e w2 ⟨rfl, hb2⟩
        have hb3 := hbw2.trans (hb2.mono hbw2.size)
        have d0 : w2.cell? ⟨w.heap.size, 0, none⟩ = some (.slice (some ⟨kb, 0, none⟩) n n) := by rw [(bcell hb2).1 _ _ (World.block_lt_of_cell? _ _ HC0.out)]; exact HC0.out
        clear hb2 hbw2 c0 q0 q1 HC0
        go_wp2_with fail
        exact ⟨⟨k + 1, by omega, by go_num, HN.out (by simp), hb3, d0⟩, by simp [intOf]; omega⟩
      | false =>
        go_wp2_with fail
        refine (KO.out _ hbw2 HC0.out).mono ?_
        rintro e w2 ⟨rfl, hb2⟩
        have hb3 := hbw2.trans (hb2.mono hbw2.size)
        have d0 : w2.cell? ⟨w.heap.size, 0, none⟩ = some (.slice (some ⟨kb, 0, none⟩) n n) := by rw [(bcell hb2).1 _ _ (World.block_lt_of_cell? _ _ HC0.out)]; exact HC0.out
        have d1 : w2.cell? ⟨wr.heap.size, 1, none⟩ = some (.slice na nn nc) := by rw [(bcell hb2).1 _ _ (by simp)]; simp [go_sem]
        have hb4 : Below wr.heap.size wr w2 := hal.trans (hb2.mono (by simp))
        clear hb2 hbw2 c0 q0 q1 HC0
        go_wp2_with fail
        refine (KN.out _ hb3 hb4 d0).mono ?_
        rintro e w3 ⟨rfl, hb5⟩
        have hb6 := hb3.trans (hb5.mono hb3.size)
        have f0 : w3.cell? ⟨w.heap.size, 0, none⟩ = some (.slice (some ⟨kb, 0, none⟩) n n) := by rw [(bcell hb5).1 _ _ (World.block_lt_of_cell? _ _ d0)]; exact d0
        clear hb5 hb3 d0 d1 hb4 KN KO
        cases x2 with
        | true =>
          go_wp2_with fail
          exact ⟨⟨k + 1, by omega, by go_num, HN.out (by simp), hb6, f0⟩, by simp [intOf]; omega⟩
        | false =>
          go_wp2_with fail
          go_ret
          exact ⟨by rw [HS.out (by simp)]; rfl, hb6⟩
    · have hke : k = ps.length := by omega
      have hz : ps.all (polR l) = true := by rw [hke, List.take_length] at hall; exact hall
      have HZ := hide hz
      clear hz hall c0
      go_wp2_with fail
      go_ret
      exact ⟨by rw [HZ.out]; rfl, hbw⟩
end Go.Proofs.Ytcbbjjenkommeaa
namespace Go.Proofs.Ytcbbjjenkommeaa.Ex
open Go.RowKit
set_option linter.unusedVariables false
/-- a command. -/
def sD (kd va ot : Int) (e : D) (ags ts es : List D) : D := .agg [.lit (.int .i64 kd), .lit (.int .i64 va), .lit (.int .i64 ot), e, .slice ags [], .slice ts [], .slice es []]
def sKind : D → Int
  | .agg (.lit (.int _ n) :: _) => n
  | _ => 0
def sVar : D → Int
  | .agg (_ :: .lit (.int _ n) :: _) => n
  | _ => 0
def sOther : D → Int
  | .agg (_ :: _ :: .lit (.int _ n) :: _) => n
  | _ => 0
def sExpr : D → D
  | .agg (_ :: _ :: _ :: e :: _) => e
  | d => d
def sArgs : D → List D
  | .agg (_ :: _ :: _ :: _ :: .slice l _ :: _) => l
  | _ => []
def sThen : D → List D
  | .agg (_ :: _ :: _ :: _ :: _ :: .slice l _ :: _) => l
  | _ => []
def sElse : D → List D
  | .agg (_ :: _ :: _ :: _ :: _ :: _ :: .slice l _ :: _) => l
  | _ => []

/-- a command in nine cells, so deep at most; its expressions so deep at most. -/
def RS (w : World) (K : Nat) : Nat → List Value → D → Prop
  | 0, _, _ => False
  | k + 1, cs, d => ∃ (kd va ot : Int) (x0 x1 x2 : Value) (e : D) (vA : Value) (ags : List D) (vT : Value) (ts : List D) (vE : Value) (es : List D),
      cs = [.int .i64 kd, .int .i64 va, .int .i64 ot, x0, x1, x2, vA, vT, vE] ∧ d = sD kd va ot e ags ts es ∧ In64 kd ∧ In64 va ∧ In64 ot ∧ RX w K [x0, x1, x2] e ∧ XS 3 (RX w K) w vA ags ∧ XS 9 (RS w K k) w vT ts ∧ XS 9 (RS w K k) w vE es

theorem RS.mono {w w' : World} {K : Nat} (hw : ∀ a u, w.cell? a = some u → w'.cell? a = some u) :
    ∀ (k m : Nat) (cs : List Value) (d : D), k ≤ m → RS w K k cs d → RS w' K m cs d := by
  intro k
  induction k with
  | zero => intro m cs d _ h; exact h.elim
  | succ k ih =>
    intro m cs d hkm h
    obtain ⟨m', rfl⟩ : ∃ m', m = m' + 1 := ⟨m - 1, by omega⟩
    obtain ⟨kd, va, ot, x0, x1, x2, e, vA, ags, vT, ts, vE, es, hcs, hd, h1, h2, h3, he, hA, hT, hE⟩ := h
    exact ⟨kd, va, ot, x0, x1, x2, e, vA, ags, vT, ts, vE, es, hcs, hd, h1, h2, h3, RX.mono hw K K _ e (Nat.le_refl _) he,
      hA.mono hw (fun cs d _ hh => RX.mono hw K K cs d (Nat.le_refl _) hh), hT.mono hw (fun cs d _ hh => ih m' cs d (by omega) hh), hE.mono hw (fun cs d _ hh => ih m' cs d (by omega) hh)⟩

/-- commands one behind the other. -/
def StmtsAt (w : World) (K k : Nat) (v : Value) (l : List D) : Prop := XS 9 (RS w K k) w v l
theorem StmtsAt.over {w w' : World} {K k : Nat} {v : Value} {l : List D} (h : StmtsAt w K k v l) (hb : Below w.heap.size w w') : StmtsAt w' K k v l :=
  XS.mono h (cell_over hb) (fun cs d _ hh => RS.mono (cell_over hb) k k cs d (Nat.le_refl _) hh)
theorem ArgsAt.over {w w' : World} {K : Nat} {v : Value} {l : List D} (h : XS 3 (RX w K) w v l) (hb : Below w.heap.size w w') : XS 3 (RX w' K) w' v l :=
  XS.mono h (cell_over hb) (fun cs d _ hh => RX.mono (cell_over hb) K K cs d (Nat.le_refl _) hh)

structure FnD where
  ps : List Int
  body : List D
  res : D
def fnAt (fs : List FnD) (c : Int) : FnD := fs.getD c.toNat ⟨[], [], .agg []⟩

/-- numbers of a function's parameters: how long the list may be. -/
def PsOk (v : Value) (ps : List Int) : Prop := ps.length ≤ maxLen ∧ ∃ pa pc, v = .slice pa ps.length pc ∧ ps.length ≤ pc ∧ pc ≤ maxLen

/-- functions, five cells each. -/
def FnsAt (w : World) (K k : Nat) (v : Value) (fs : List FnD) : Prop :=
  fs.length ≤ maxLen ∧ ∃ ao cap, v = .slice ao fs.length cap ∧ (fs ≠ [] → ∃ b off, ao = some ⟨b, off, none⟩ ∧ ∀ i (h : i < fs.length), ∃ (vP vB x0 x1 x2 : Value),
    w.cell? ⟨b, off + i * 5, none⟩ = some vP ∧ w.cell? ⟨b, off + i * 5 + 1, none⟩ = some vB ∧ w.cell? ⟨b, off + i * 5 + 2, none⟩ = some x0 ∧ w.cell? ⟨b, off + i * 5 + 3, none⟩ = some x1 ∧ w.cell? ⟨b, off + i * 5 + 4, none⟩ = some x2 ∧
    IsInts w vP fs[i].ps ∧ PsOk vP fs[i].ps ∧ StmtsAt w K k vB fs[i].body ∧ RX w K [x0, x1, x2] fs[i].res)
theorem FnsAt.over {w w' : World} {K k : Nat} {v : Value} {l : List FnD} (h : FnsAt w K k v l) (hb : Below w.heap.size w w') : FnsAt w' K k v l := by
  obtain ⟨hm, ao, cap, hv, hc⟩ := h
  refine ⟨hm, ao, cap, hv, fun hne => ?_⟩
  obtain ⟨b, off, hao, hel⟩ := hc hne
  refine ⟨b, off, hao, fun i hi => ?_⟩
  obtain ⟨vP, vB, x0, x1, x2, h0, h1, h2, h3, h4, hp, hpl, hs, hx⟩ := hel i hi
  exact ⟨vP, vB, x0, x1, x2, cell_over hb _ _ h0, cell_over hb _ _ h1, cell_over hb _ _ h2, cell_over hb _ _ h3, cell_over hb _ _ h4, hp.over hb, hpl, hs.over hb, hx.over hb⟩

/-- labels, two cells each. -/
def LabsAt (w : World) (v : Value) (ls : List Lab) : Prop :=
  ls.length ≤ maxLen ∧ ∃ ao cap, v = .slice ao ls.length cap ∧ (ls ≠ [] → ∃ b off, ao = some ⟨b, off, none⟩ ∧ ∀ i (h : i < ls.length), ∃ (pr pw : Value),
    w.cell? ⟨b, off + i * 2, none⟩ = some pr ∧ w.cell? ⟨b, off + i * 2 + 1, none⟩ = some pw ∧ IsPols w pr ls[i].r ∧ IsPols w pw ls[i].w)
theorem LabsAt.over {w w' : World} {v : Value} {l : List Lab} (h : LabsAt w v l) (hb : Below w.heap.size w w') : LabsAt w' v l := by
  obtain ⟨hm, ao, cap, hv, hc⟩ := h
  refine ⟨hm, ao, cap, hv, fun hne => ?_⟩
  obtain ⟨b, off, hao, hel⟩ := hc hne
  refine ⟨b, off, hao, fun i hi => ?_⟩
  obtain ⟨pr, pw, h0, h1, hr, hw⟩ := hel i hi
  exact ⟨pr, pw, cell_over hb _ _ h0, cell_over hb _ _ h1, isPols_over hr hb, isPols_over hw hb⟩

/-- variables, three cells each. -/
def VarsAt (w : World) (v : Value) (ls : List (Bool × Lab)) : Prop :=
  ls.length ≤ maxLen ∧ ∃ ao cap, v = .slice ao ls.length cap ∧ (ls ≠ [] → ∃ b off, ao = some ⟨b, off, none⟩ ∧ ∀ i (h : i < ls.length), ∃ (pr pw : Value),
    w.cell? ⟨b, off + i * 3, none⟩ = some (.bool ls[i].1) ∧ w.cell? ⟨b, off + i * 3 + 1, none⟩ = some pr ∧ w.cell? ⟨b, off + i * 3 + 2, none⟩ = some pw ∧ IsPols w pr ls[i].2.r ∧ IsPols w pw ls[i].2.w)
theorem VarsAt.over {w w' : World} {v : Value} {l : List (Bool × Lab)} (h : VarsAt w v l) (hb : Below w.heap.size w w') : VarsAt w' v l := by
  obtain ⟨hm, ao, cap, hv, hc⟩ := h
  refine ⟨hm, ao, cap, hv, fun hne => ?_⟩
  obtain ⟨b, off, hao, hel⟩ := hc hne
  refine ⟨b, off, hao, fun i hi => ?_⟩
  obtain ⟨pr, pw, h0, h1, h2, hr, hw⟩ := hel i hi
  exact ⟨pr, pw, cell_over hb _ _ h0, cell_over hb _ _ h1, cell_over hb _ _ h2, isPols_over hr hb, isPols_over hw hb⟩

def gaveW (why : Int) : Ending := .panicked [{ v := .iface 162 (.agg #[.int .i64 0, .int .i64 why]), recovered := false }]

set_option maxHeartbeats 1000000 in
theorem mustAt_no (why : Int) (w : World) : Calls Try.prog 136 #[.int .i64 0, .bool false, .int .i64 why] w fun e w' => e = gaveW why ∧ w' = w := by
  unfold gaveW
  go_enter Try.func136, Try.ntmps136
  go_wp2_with fail
  exact ⟨rfl, rfl, rfl⟩

set_option maxHeartbeats 1000000 in
theorem must_no (why : Int) (w : World) : Calls Try.prog 108 #[.bool false, .int .i64 why] w fun e w' => e = gaveW why ∧ w' = w := by
  have K := hide fun W => mustAt_no why W
  unfold gaveW at K ⊢
  go_enter Try.func108, Try.ntmps108
  go_wp2_with fail
  refine (K.out _).mono ?_
  rintro e w1 ⟨rfl, rfl⟩
  go_wp2_with fail
  exact ⟨rfl, rfl, rfl⟩

/-- it goes on, and something holds then; or it gives up. -/
def Must (ok : Bool) (why : Int) (w : World) (e : Ending) (w' : World) : Prop := (ok = true ∧ e = .returned (.tuple #[]) ∨ ok = false ∧ e = gaveW why) ∧ w' = w

theorem must_any (ok : Bool) (why : Int) (w : World) : Calls Try.prog 108 #[.bool ok, .int .i64 why] w (Must ok why w) := by
  cases ok with
  | true => exact (must_ok why w).mono fun e w' h => ⟨Or.inl ⟨rfl, h.1⟩, h.2⟩
  | false => exact (must_no why w).mono fun e w' h => ⟨Or.inr ⟨rfl, h.1⟩, h.2⟩

set_option maxHeartbeats 1000000 in
theorem pass_any (why : Int) (w : World) : Calls Try.prog 107 #[.int .i64 why] w (Must (why == 0) why w) := by
  by_cases h : why = 0
  · subst h
    exact (pass_ok w).mono fun e w' h => ⟨Or.inl ⟨rfl, h.1⟩, h.2⟩
  · have hb : (why == 0) = false := by simpa using h
    have K := hide fun W => must_no why W
    have H : Calls Try.prog 107 #[.int .i64 why] w fun e w' => e = gaveW why ∧ w' = w := by
      unfold gaveW at K ⊢
      go_enter Try.func107, Try.ntmps107
      go_wp2_with fail
      refine (K.out _).mono ?_
      rintro e w1 ⟨rfl, rfl⟩
      go_wp2_with fail
      exact ⟨rfl, rfl, rfl⟩
    exact H.mono fun e w' h => ⟨Or.inr ⟨hb, h.1⟩, h.2⟩
@[simp] theorem sKind_s (kd va ot : Int) (e : D) (ags ts es : List D) : sKind (sD kd va ot e ags ts es) = kd := rfl
@[simp] theorem sVar_s (kd va ot : Int) (e : D) (ags ts es : List D) : sVar (sD kd va ot e ags ts es) = va := rfl
@[simp] theorem sOther_s (kd va ot : Int) (e : D) (ags ts es : List D) : sOther (sD kd va ot e ags ts es) = ot := rfl
@[simp] theorem sExpr_s (kd va ot : Int) (e : D) (ags ts es : List D) : sExpr (sD kd va ot e ags ts es) = e := rfl
@[simp] theorem sArgs_s (kd va ot : Int) (e : D) (ags ts es : List D) : sArgs (sD kd va ot e ags ts es) = ags := rfl
@[simp] theorem sThen_s (kd va ot : Int) (e : D) (ags ts es : List D) : sThen (sD kd va ot e ags ts es) = ts := rfl
@[simp] theorem sElse_s (kd va ot : Int) (e : D) (ags ts es : List D) : sElse (sD kd va ot e ags ts es) = es := rfl

/-- the nine cells of a command. -/
abbrev sC (kd va ot ek en : Int) (xa : Option Addr) (xl xc : Nat) (aa : Option Addr) (al ac : Nat) (ta : Option Addr) (tl tc : Nat) (ea : Option Addr) (el ec : Nat) : List Value :=
  [.int .i64 kd, .int .i64 va, .int .i64 ot, .int .i64 ek, .int .i64 en, .slice xa xl xc, .slice aa al ac, .slice ta tl tc, .slice ea el ec]

theorem RS.form {w : World} {K k : Nat} {cs : List Value} {d : D} (h : RS w K (k + 1) cs d) :
    ∃ (ek en : Int) (xa : Option Addr) (xl xc : Nat) (aa : Option Addr) (ac : Nat) (ta : Option Addr) (tc : Nat) (ea : Option Addr) (ec : Nat),
      cs = sC (sKind d) (sVar d) (sOther d) ek en xa xl xc aa (sArgs d).length ac ta (sThen d).length tc ea (sElse d).length ec ∧ In64 (sKind d) ∧ In64 (sVar d) ∧ In64 (sOther d) ∧
      RX w K [.int .i64 ek, .int .i64 en, .slice xa xl xc] (sExpr d) ∧ XS 3 (RX w K) w (.slice aa (sArgs d).length ac) (sArgs d) ∧ StmtsAt w K k (.slice ta (sThen d).length tc) (sThen d) ∧ StmtsAt w K k (.slice ea (sElse d).length ec) (sElse d) ∧
      ek = kindOf (sExpr d) ∧ en = numOf (sExpr d) ∧ xl = (argsOf (sExpr d)).length := by
  obtain ⟨kd, va, ot, x0, x1, x2, e, vA, ags, vT, ts, vE, es, rfl, rfl, h1, h2, h3, he, hA, hT, hE⟩ := h
  obtain ⟨xa, xc, hx⟩ := he.form
  simp only [List.cons.injEq, and_true] at hx
  obtain ⟨rfl, rfl, rfl⟩ := hx
  obtain ⟨aa, ac, rfl, -⟩ := hA.2
  obtain ⟨ta, tc, rfl, -⟩ := hT.2
  obtain ⟨ea, ec, rfl, -⟩ := hE.2
  exact ⟨_, _, xa, _, xc, aa, ac, ta, tc, ea, ec, rfl, h1, h2, h3, he, hA, hT, hE, rfl, rfl, rfl⟩

def cntS : Nat → D → Nat
  | 0, _ => 0
  | k + 1, d => 1 + ((sThen d).map (cntS k)).sum + ((sElse d).map (cntS k)).sum
def cnts (k : Nat) (l : List D) : Nat := (l.map (cntS k)).sum
theorem cnts_take {k : Nat} {l : List D} {j : Nat} (hj : j < l.length) : cnts k (l.take (j + 1)) = cnts k (l.take j) + cntS k l[j] := by
  unfold cnts
  rw [List.take_succ_eq_append_getElem hj, List.map_append, List.sum_append]
  simp
theorem StmtsAt.zero {w : World} {K : Nat} {v : Value} {l : List D} (h : StmtsAt w K 0 v l) : l = [] := by
  cases l with
  | nil => rfl
  | cons d l =>
    obtain ⟨-, ao, cap, -, hc⟩ := h
    obtain ⟨b, off, -, hel⟩ := hc (by simp)
    obtain ⟨cs, -, -, hr⟩ := hel 0 d rfl
    exact hr.elim
def cntF (k : Nat) (fs : List FnD) : Nat := (fs.map fun f => cnts k f.body).sum
theorem cntF_take {k : Nat} {l : List FnD} {j : Nat} (hj : j < l.length) : cntF k (l.take (j + 1)) = cntF k (l.take j) + cnts k l[j].body := by
  unfold cntF
  rw [List.take_succ_eq_append_getElem hj, List.map_append, List.sum_append]
  simp
set_option maxHeartbeats 1000000 in
theorem shapeOf1 (w : World) : Calls Try.prog 152 #[.int .i64 1] w fun e w' => e = .returned (.tuple #[.agg #[.bool true, .bool false, .bool true, .bool false, .bool false, .bool false], .bool true]) ∧ Below w.heap.size w w' := by
  go_enter Try.func152, Try.ntmps152
  go_wp2_with fail
  exact bodyPost_ret (v := .tuple #[.agg #[.bool true, .bool false, .bool true, .bool false, .bool false, .bool false], .bool true]) (by simp [results, Try.results152, go_sem]) rfl ⟨rfl, (Below.refl _ w).alloc (Nat.le_refl _) _⟩

set_option maxHeartbeats 1000000 in
theorem shapeOf2 (w : World) : Calls Try.prog 152 #[.int .i64 2] w fun e w' => e = .returned (.tuple #[.agg #[.bool true, .bool true, .bool false, .bool true, .bool false, .bool false], .bool true]) ∧ Below w.heap.size w w' := by
  go_enter Try.func152, Try.ntmps152
  go_wp2_with fail
  exact bodyPost_ret (v := .tuple #[.agg #[.bool true, .bool true, .bool false, .bool true, .bool false, .bool false], .bool true]) (by simp [results, Try.results152, go_sem]) rfl ⟨rfl, (Below.refl _ w).alloc (Nat.le_refl _) _⟩

set_option maxHeartbeats 1000000 in
theorem shapeOf3 (w : World) : Calls Try.prog 152 #[.int .i64 3] w fun e w' => e = .returned (.tuple #[.agg #[.bool true, .bool true, .bool false, .bool false, .bool false, .bool false], .bool true]) ∧ Below w.heap.size w w' := by
  go_enter Try.func152, Try.ntmps152
  go_wp2_with fail
  exact bodyPost_ret (v := .tuple #[.agg #[.bool true, .bool true, .bool false, .bool false, .bool false, .bool false], .bool true]) (by simp [results, Try.results152, go_sem]) rfl ⟨rfl, (Below.refl _ w).alloc (Nat.le_refl _) _⟩

set_option maxHeartbeats 1000000 in
theorem shapeOf4 (w : World) : Calls Try.prog 152 #[.int .i64 4] w fun e w' => e = .returned (.tuple #[.agg #[.bool false, .bool true, .bool true, .bool false, .bool false, .bool false], .bool true]) ∧ Below w.heap.size w w' := by
  go_enter Try.func152, Try.ntmps152
  go_wp2_with fail
  exact bodyPost_ret (v := .tuple #[.agg #[.bool false, .bool true, .bool true, .bool false, .bool false, .bool false], .bool true]) (by simp [results, Try.results152, go_sem]) rfl ⟨rfl, (Below.refl _ w).alloc (Nat.le_refl _) _⟩

set_option maxHeartbeats 1000000 in
theorem shapeOf5 (w : World) : Calls Try.prog 152 #[.int .i64 5] w fun e w' => e = .returned (.tuple #[.agg #[.bool true, .bool false, .bool true, .bool false, .bool false, .bool false], .bool true]) ∧ Below w.heap.size w w' := by
  go_enter Try.func152, Try.ntmps152
  go_wp2_with fail
  exact bodyPost_ret (v := .tuple #[.agg #[.bool true, .bool false, .bool true, .bool false, .bool false, .bool false], .bool true]) (by simp [results, Try.results152, go_sem]) rfl ⟨rfl, (Below.refl _ w).alloc (Nat.le_refl _) _⟩

set_option maxHeartbeats 1000000 in
theorem shapeOf6 (w : World) : Calls Try.prog 152 #[.int .i64 6] w fun e w' => e = .returned (.tuple #[.agg #[.bool true, .bool false, .bool true, .bool false, .bool false, .bool false], .bool true]) ∧ Below w.heap.size w w' := by
  go_enter Try.func152, Try.ntmps152
  go_wp2_with fail
  exact bodyPost_ret (v := .tuple #[.agg #[.bool true, .bool false, .bool true, .bool false, .bool false, .bool false], .bool true]) (by simp [results, Try.results152, go_sem]) rfl ⟨rfl, (Below.refl _ w).alloc (Nat.le_refl _) _⟩

set_option maxHeartbeats 1000000 in
theorem shapeOf7 (w : World) : Calls Try.prog 152 #[.int .i64 7] w fun e w' => e = .returned (.tuple #[.agg #[.bool false, .bool false, .bool true, .bool false, .bool true, .bool true], .bool true]) ∧ Below w.heap.size w w' := by
  go_enter Try.func152, Try.ntmps152
  go_wp2_with fail
  exact bodyPost_ret (v := .tuple #[.agg #[.bool false, .bool false, .bool true, .bool false, .bool true, .bool true], .bool true]) (by simp [results, Try.results152, go_sem]) rfl ⟨rfl, (Below.refl _ w).alloc (Nat.le_refl _) _⟩

set_option maxHeartbeats 1000000 in
theorem shapeOf8 (w : World) : Calls Try.prog 152 #[.int .i64 8] w fun e w' => e = .returned (.tuple #[.agg #[.bool false, .bool false, .bool true, .bool false, .bool true, .bool false], .bool true]) ∧ Below w.heap.size w w' := by
  go_enter Try.func152, Try.ntmps152
  go_wp2_with fail
  exact bodyPost_ret (v := .tuple #[.agg #[.bool false, .bool false, .bool true, .bool false, .bool true, .bool false], .bool true]) (by simp [results, Try.results152, go_sem]) rfl ⟨rfl, (Below.refl _ w).alloc (Nat.le_refl _) _⟩

set_option maxHeartbeats 1000000 in
theorem shapeOfNone (k : Int) (hk : ¬ (1 ≤ k ∧ k ≤ 8)) (w : World) : Calls Try.prog 152 #[.int .i64 k] w fun e w' => e = .returned (.tuple #[.agg #[.bool false, .bool false, .bool false, .bool false, .bool false, .bool false], .bool false]) ∧ Below w.heap.size w w' := by
  have b1 : (k == 1) = false := by simp; omega
  have b2 : (k == 2) = false := by simp; omega
  have b3 : (k == 3) = false := by simp; omega
  have b4 : (k == 4) = false := by simp; omega
  have b5 : (k == 5) = false := by simp; omega
  have b6 : (k == 6) = false := by simp; omega
  have b7 : (k == 7) = false := by simp; omega
  have b8 : (k == 8) = false := by simp; omega
  clear hk
  go_enter Try.func152, Try.ntmps152
  go_wp2_with fail
  exact bodyPost_ret (v := .tuple #[.agg #[.bool false, .bool false, .bool false, .bool false, .bool false, .bool false], .bool false]) (by simp [results, Try.results152, go_sem]) rfl ⟨rfl, (Below.refl _ w).alloc (Nat.le_refl _) _⟩

set_option maxHeartbeats 1000000 in
set_option maxRecDepth 100000 in
theorem others_any (k : Int) (funcs : Int) (m : Int) (ga : Option Addr) (gn gc : Nat) (sa : Option Addr) (sn sc : Nat) (ya : Option Addr) (yn yc : Nat) (oa : Option Addr) (on oc : Nat) (va : Option Addr) (vn vc : Nat) (fa : Option Addr) (fn fc : Nat) (ba : Option Addr) (bn bc : Nat) (w : World) : Calls Try.prog 153 #[.agg #[.int .i64 m, .slice ga gn gc, .slice sa sn sc, .slice ya yn yc, .slice oa on oc, .slice va vn vc, .slice fa fn fc, .slice ba bn bc], .int .i64 k, .int .i64 funcs] w fun e w' => e = .returned (.int .i64 (if k = 2 then funcs else if k = 3 then yn else on)) ∧ Below w.heap.size w w' := by
  have hbel : Below w.heap.size w (w.alloc (.cells #[.int .i64 m, .slice ga gn gc, .slice sa sn sc, .slice ya yn yc, .slice oa on oc, .slice va vn vc, .slice fa fn fc, .slice ba bn bc] 125)) := (Below.refl _ w).alloc (Nat.le_refl _) _
  by_cases h2 : k = 2
  · subst h2
    go_enter Try.func153, Try.ntmps153
    go_wp2_with fail
    go_ret
    exact ⟨rfl, hbel⟩
  · by_cases h3 : k = 3
    · subst h3
      go_enter Try.func153, Try.ntmps153
      go_wp2_with fail
      go_ret
      exact ⟨rfl, hbel⟩
    · rw [if_neg h2, if_neg h3]
      go_enter Try.func153, Try.ntmps153
      go_wp2_with fail
      go_ret
      exact ⟨rfl, hbel⟩
/-- a command that may be done: by itself. -/
def okS1 (K : Nat) (nv ni no : Nat) (funcs : Int) (fs : List FnD) (d : D) : Prop :=
  (1 ≤ sKind d ∧ sKind d ≤ 8) ∧ ((sKind d = 1 ∨ sKind d = 2 ∨ sKind d = 3 ∨ sKind d = 5 ∨ sKind d = 6) → 0 ≤ sVar d ∧ sVar d < nv) ∧
  (sKind d = 2 → (0 ≤ sOther d ∧ sOther d < funcs) ∧ (∀ f, fs[(sOther d).toNat]? = some f → f.ps.length = (sArgs d).length) ∧ ∀ a ∈ sArgs d, checkX nv K a = 0) ∧
  (sKind d = 3 → 0 ≤ sOther d ∧ sOther d < ni) ∧ ((sKind d = 1 ∨ 4 ≤ sKind d) → checkX nv K (sExpr d) = 0) ∧ ((sKind d = 2 ∨ sKind d = 3) → kindOf (sExpr d) = 0 ∧ argsOf (sExpr d) = []) ∧ (sKind d = 4 → 0 ≤ sOther d ∧ sOther d < no)
/-- commands that may be done, with those in them. -/
def okS (K : Nat) (nv ni no : Nat) (funcs : Int) (fs : List FnD) : Nat → D → Prop
  | 0, _ => False
  | k + 1, d => okS1 K nv ni no funcs fs d ∧ (∀ s ∈ sThen d, okS K nv ni no funcs fs k s) ∧ ∀ s ∈ sElse d, okS K nv ni no funcs fs k s
theorem FnsAt.mono {w : World} {K k m : Nat} {v : Value} {l : List FnD} (h : FnsAt w K k v l) (hkm : k ≤ m) : FnsAt w K m v l := by
  obtain ⟨hm, ao, cap, hv, hc⟩ := h
  refine ⟨hm, ao, cap, hv, fun hne => ?_⟩
  obtain ⟨b, off, hao, hel⟩ := hc hne
  refine ⟨b, off, hao, fun i hi => ?_⟩
  obtain ⟨vP, vB, x0, x1, x2, h0, h1, h2, h3, h4, hp, hpl, hs, hx⟩ := hel i hi
  exact ⟨vP, vB, x0, x1, x2, h0, h1, h2, h3, h4, hp, hpl, XS.mono hs (fun _ _ hh => hh) (fun cs d _ hh => RS.mono (fun _ _ q => q) k m cs d hkm hh), hx⟩
theorem IsInts.prefix {w : World} {ao : Option Addr} {cap : Nat} {vs : List Int} (h : IsInts w (.slice ao vs.length cap) vs) {i : Nat} (hi : i ≤ vs.length) (c : Nat) : IsInts w (.slice ao i c) (vs.take i) := by
  obtain ⟨a2, c2, he, hc⟩ := h
  injection he with e1 e2 e3
  subst e1
  refine ⟨ao, c, by simp [Nat.min_eq_left hi], fun hne => ?_⟩
  obtain ⟨b, off, hao, hel⟩ := hc (by rintro rfl; simp at hne)
  refine ⟨b, off, hao, fun j hj => ?_⟩
  have hj2 : j < vs.length := by simp at hj; omega
  rw [List.getElem_take]
  exact hel j hj2

/-- a function that may be called, with so many ahead of it. -/
def okF (K : Nat) (nv ni no : Nat) (ahead : Int) (fs : List FnD) (k : Nat) (f : FnD) : Prop :=
  f.ps.length ≤ 4 ∧ (∀ p ∈ f.ps, 0 ≤ p ∧ p < nv) ∧ (∀ s ∈ f.body, okS K nv ni no ahead fs k s) ∧ checkX nv K f.res = 0
end Go.Proofs.Ytcbbjjenkommeaa.Ex
namespace Go.Proofs.Ytcbbjjenkommeaa
open Go.RowKit
set_option linter.unusedVariables false
theorem take_set_succ {α : Type} (l : List α) (k : Nat) (x : α) (h : k < l.length) : (l.set k x).take (k + 1) = l.take k ++ [x] := by
  rw [List.take_succ_eq_append_getElem (by simpa using h)]
  simp only [List.take_set, List.getElem_set_self]
  rw [List.set_eq_of_length_le (by simp; omega)]

/-- a list of its own that is filled up to a place. -/
def Filled (f : Nat → Bool) (g n k : Nat) (W : World) : Prop := ∃ cur : List Value, cur.length = n ∧ cur.take k = boolCells (rowOf f k) ∧ W.heap[g]? = some (.cells cur.toArray 4 (0, 0))

theorem filled_over {f : Nat → Bool} {g n k : Nat} {W W' : World} (h : Filled f g n k W) (hb : Below W.heap.size W W') : Filled f g n k W' := by
  obtain ⟨cur, h1, h2, h3⟩ := h
  exact ⟨cur, h1, h2, by rw [hb.block g (Array.getElem?_eq_some_iff.1 h3).1]; exact h3⟩

theorem filled_set {f : Nat → Bool} {g n k : Nat} {W : World} (h : Filled f g n k W) (hk : k < n) : Filled f g n (k + 1) (W.setCell ⟨g, k, none⟩ (.bool (f k))) := by
  obtain ⟨cur, h1, h2, h3⟩ := h
  refine ⟨cur.set k (.bool (f k)), by simpa using h1, ?_, ?_⟩
  · rw [take_set_succ _ _ _ (by omega), h2, rowOf_succ]
    simp [boolCells]
  · have := heap_setCell_same W g k _ 4 (.bool (f k)) h3
    simpa using this

theorem filled_cell {f : Nat → Bool} {g n k j : Nat} {W : World} (h : Filled f g n k W) (hj : j < n) : (∃ u, W.cell? ⟨g, j, none⟩ = some u) ∧ W.frozen? ⟨g, j, none⟩ = false := by
  obtain ⟨cur, h1, h2, h3⟩ := h
  refine ⟨⟨cur[j]'(by omega), ?_⟩, ?_⟩
  · simp [World.cell?, h3, h1, hj]
  · simp [World.frozen?, h3]

theorem filled_own {f : Nat → Bool} {g n B : Nat} {W : World} (h : Filled f g n n W) (hn : n ≤ 6) (hg : B ≤ g) : W.ownsRow B 4 1 (.slice (some ⟨g, 0, none⟩) n n) n (boolCells (rowOf f n)) := by
  obtain ⟨cur, h1, h2, h3⟩ := h
  refine ⟨by simp [boolCells, rowOf_length], Or.inr ⟨g, n, cur.toArray, rfl, hg, h3, Nat.le_refl _, by unfold maxLen; omega, by simp [h1], ?_⟩⟩
  rw [Nat.mul_one]
  exact h2

set_option maxHeartbeats 1000000 in
theorem those_any (F : FuncId) (c1 c2 : Value) (f : Nat → Bool) (n : Nat) (h1 : 1 ≤ n) (hn : n ≤ 6) (s : Value) (w : World)
    (hF : Hid (∀ (k : Nat), k < n → ∀ W : World, Below w.heap.size w W → Calls Try.prog F #[.int .i64 k, c1, c2] W fun e w2 => e = .returned (.bool (f k)) ∧ Below W.heap.size W w2))
    (hC : ∀ (args : Array Value) (w : World), (callFunc F args).run Try.prog w = .ok (.enter F args) w) :
    Calls Try.prog 80 #[.agg #[.int .i64 n, s], .func (.func F) #[] #[c1, c2]] w fun e w' => ∃ g, e = .returned (.slice (some ⟨g, 0, none⟩) n n) ∧ w.heap.size ≤ g ∧ g < w'.heap.size ∧ w'.ownsRow w.heap.size 4 1 (.slice (some ⟨g, 0, none⟩) n n) n (boolCells (rowOf f n)) ∧ Below w.heap.size w w' := by
  have hmk := fun w => make35 n hn w
  have hst : Filled f (w.heap.size + 1) n 0 ((w.alloc (.cells #[.int .i64 n, s] 35)).alloc (.cells (List.replicate n (Value.bool false)).toArray 4)) := by
    refine ⟨List.replicate n (.bool false), by simp, by simp [rowOf, boolCells], ?_⟩
    have := heap_alloc_new (w.alloc (.cells #[.int .i64 n, s] 35)) (.cells (List.replicate n (Value.bool false)).toArray 4)
    simpa using this
  have hbel : Below w.heap.size w ((w.alloc (.cells #[.int .i64 n, s] 35)).alloc (.cells (List.replicate n (Value.bool false)).toArray 4)) := ((Below.refl _ w).alloc (Nat.le_refl _) _).alloc (by simp) _
  have HST := hide hst
  have HB := hide hbel
  clear hst hbel
  go_enter Try.func80, Try.ntmps80
  go_wp2_with fail
  go_loopw [12] (fun i wr => ∃ k : Nat, k ≤ n ∧ i = .int .i64 k ∧ Filled f (w.heap.size + 1) n k wr ∧ Below w.heap.size w wr) (fun i _ => n - (intOf i).toNat)
  case atStart => exact ⟨0, Nat.zero_le _, rfl, by simpa using HST.out, by simpa using HB.out⟩
  case round =>
    clear HST HB hmk
    obtain ⟨k, hk, rfl, hfil, hbw⟩ := hrel
    by_cases hkn : k < n
    · have HC := hide (hF.out k hkn _ hbw)
      go_wp2_with fail
      refine (HC.out).mono ?_
      rintro e w2 ⟨rfl, hb2⟩
      have hf2 := filled_over hfil hb2
      have hb3 := hbw.trans (hb2.mono hbw.size)
      obtain ⟨⟨u, d1⟩, d2⟩ := filled_cell hf2 hkn
      have hf3 := filled_set hf2 hkn
      have hb4 := hb3.setCell (p := ⟨w.heap.size + 1, k, none⟩) (by simp) (.bool (f k))
      have HF3 := hide hf3
      have HB4 := hide hb4
      clear hfil hf2 hb2 hb3 hf3 hb4 HC hbw
      go_wp2_with fail
      exact ⟨⟨k + 1, by omega, by go_num, HF3.out, HB4.out⟩, by simp [intOf]; omega⟩
    · have hke : k = n := by omega
      subst hke
      have hlt : w.heap.size + 1 < wr.heap.size := by obtain ⟨cur, _, _, h3⟩ := hfil; exact (Array.getElem?_eq_some_iff.1 h3).1
      have HO := hide (filled_own hfil hn (B := w.heap.size) (by omega))
      clear hfil hF
      go_wp2_with fail
      go_ret
      exact ⟨w.heap.size + 1, rfl, by omega, hlt, HO.out, hbw⟩

/-- a slice that holds levels. -/
def IsLevs (w : World) (v : Value) (ls : List Lev) : Prop :=
  ∃ ao cap, v = .slice ao ls.length cap ∧ (ls ≠ [] → ∃ b off, ao = some ⟨b, off, none⟩ ∧ ∀ i (h : i < ls.length), ∃ rv wv, w.cell? ⟨b, off + i * 2, none⟩ = some rv ∧ w.cell? ⟨b, off + i * 2 + 1, none⟩ = some wv ∧ LevAt w (.agg #[rv, wv]) ls[i])

theorem isLevs_over {w w' : World} {v : Value} {ls : List Lev} (h : IsLevs w v ls) (hb : Below w.heap.size w w') : IsLevs w' v ls := by
  obtain ⟨ao, cap, rfl, hc⟩ := h
  refine ⟨ao, cap, rfl, fun hne => ?_⟩
  obtain ⟨b, off, rfl, hcl⟩ := hc hne
  refine ⟨b, off, rfl, fun i hi => ?_⟩
  obtain ⟨rv, wv, h1, h2, h3⟩ := hcl i hi
  exact ⟨rv, wv, by rw [(bcell hb).1 _ _ (World.block_lt_of_cell? w _ h1)]; exact h1, by rw [(bcell hb).1 _ _ (World.block_lt_of_cell? w _ h2)]; exact h2, levAt_over h3 hb⟩

theorem isLevs_at {w : World} {v : Value} {ls : List Lev} (h : IsLevs w v ls) {i : Nat} (hi : i < ls.length) : ∃ b off cap rv wv, v = .slice (some ⟨b, off, none⟩) ls.length cap ∧ w.cell? ⟨b, off + i * 2, none⟩ = some rv ∧ w.cell? ⟨b, off + i * 2 + 1, none⟩ = some wv ∧ LevAt w (.agg #[rv, wv]) ls[i] := by
  obtain ⟨ao, cap, rfl, hc⟩ := h
  obtain ⟨b, off, rfl, hcl⟩ := hc (by rintro rfl; simp at hi)
  obtain ⟨rv, wv, h1, h2, h3⟩ := hcl i hi
  exact ⟨b, off, cap, rv, wv, rfl, h1, h2, h3⟩

/-- the first level that is none. -/
def firstLev (m : Int) : List Lev → Int
  | [] => 0
  | l :: ls => if levErr m l = 0 then firstLev m ls else levErr m l
theorem firstLev_drop {m : Int} {ls : List Lev} {k : Nat} (hk : k < ls.length) : firstLev m (ls.drop k) = if levErr m ls[k] = 0 then firstLev m (ls.drop (k + 1)) else levErr m ls[k] := by
  rw [List.drop_eq_getElem_cons hk]
  rfl
def allErr (m : Int) (gs : List (Int × Int)) (ls : List Lev) : Int := if chkErr m gs = 0 then firstLev m ls else chkErr m gs

theorem levErr_cases (m : Int) (l : Lev) : (levErr m l = 0 ∧ ((l.r.length : Int) = m ∧ (l.w.length : Int) = m)) ∨ (levErr m l = 1 ∧ ((l.r.length : Int) ≠ m ∨ ((l.r.length : Int) = m ∧ (l.w.length : Int) ≠ m))) := by
  unfold levErr
  by_cases h : (l.r.length : Int) = m ∧ (l.w.length : Int) = m
  · exact Or.inl ⟨if_pos h, h⟩
  · refine Or.inr ⟨if_neg h, ?_⟩
    by_cases h1 : (l.r.length : Int) = m
    · exact Or.inr ⟨h1, fun h2 => h ⟨h1, h2⟩⟩
    · exact Or.inl h1

set_option maxHeartbeats 2000000 in
theorem allRight_any (m : Int) (v vs : Value) (gs : List (Int × Int)) (ls : List Lev) (w : World) (hv : IsGrants w v gs) (hl : IsLevs w vs ls) (hn : ls.length ≤ 2) :
    Calls Try.prog 56 #[.agg #[.int .i64 m, v], vs] w fun e w' => e = .returned (.int .i64 (allErr m gs ls)) ∧ Below w.heap.size w w' := by
  have hbel : Below w.heap.size w (w.alloc (.cells #[.int .i64 m, v] 35)) := (Below.refl _ w).alloc (Nat.le_refl _) _
  have hC := check_any m v gs (w.alloc (.cells #[.int .i64 m, v] 35)) (isGrants_over hv hbel)
  have hE : allErr m gs ls = if chkErr m gs = 0 then firstLev m ls else chkErr m gs := rfl
  have HL := hide hl
  obtain ⟨ao, cap, rfl, -⟩ := hl
  obtain ⟨r, hr⟩ : ∃ r, r = chkErr m gs := ⟨_, rfl⟩
  rw [← hr] at hC hE
  obtain ⟨va, vn, vc, rfl⟩ := grants_form hv
  have HC := hide hC
  have HE := hide hE
  clear hC hE hr hv
  go_enter Try.func56, Try.ntmps56
  go_wp2_with fail
  refine (HC.out).mono ?_
  rintro e w1 ⟨rfl, hb1⟩
  have c0 : w1.cell? ⟨w.heap.size, 0, none⟩ = some (.int .i64 m) := by rw [(bcell hb1).1 _ _ (by simp)]; simp [go_sem]
  have hB1 : Below w.heap.size w w1 := hbel.trans (hb1.mono (by simp))
  clear HC hb1 hbel
  by_cases hr0 : r = 0
  · subst hr0
    go_wp2_with fail
    go_loopw [15] (fun i wr => ∃ k : Nat, k ≤ ls.length ∧ i = .int .i64 k ∧ firstLev m ls = firstLev m (ls.drop k) ∧ Below w.heap.size w wr ∧ wr.cell? ⟨w.heap.size, 0, none⟩ = some (.int .i64 m)) (fun i _ => ls.length - (intOf i).toNat)
    case atStart => exact ⟨0, Nat.zero_le _, rfl, rfl, hB1, c0⟩
    case round =>
      clear hB1 c0
      obtain ⟨k, hk, rfl, hfe, hbw, c0⟩ := hrel
      by_cases hkl : k < ls.length
      · obtain ⟨b, off, cap', rv, wv, hve, q0, q1, q2⟩ := isLevs_at (isLevs_over HL.out hbw) hkl
        injection hve with e1 e2 e3
        subst e1 e3
        clear e2
        have hfd := firstLev_drop (m := m) hkl
        rw [← hfe] at hfd
        have hlc := levErr_cases m ls[k]
        obtain ⟨x, y, hxy, ⟨a1, k1, e1, -⟩, ⟨a2, k2, e2, -⟩⟩ := q2
        obtain ⟨rfl, rfl⟩ : rv = x ∧ wv = y := by simpa using hxy
        subst e1 e2
        obtain ⟨n1, hn1⟩ : ∃ r, r = ls[k].r.length := ⟨_, rfl⟩
        obtain ⟨n2, hn2⟩ : ∃ r, r = ls[k].w.length := ⟨_, rfl⟩
        rw [← hn1, ← hn2] at hlc
        rw [← hn1] at q0
        rw [← hn2] at q1
        have ltw := World.block_lt_of_cell? wr _ c0
        have hal : Below wr.heap.size wr (wr.alloc (.cells #[.slice a1 n1 k1, .slice a2 n2 k2] 62)) := (Below.refl _ wr).alloc (Nat.le_refl _) _
        have hbw2 := hbw.trans (hal.mono hbw.size)
        have d0 : (wr.alloc (.cells #[.slice a1 n1 k1, .slice a2 n2 k2] 62)).cell? ⟨w.heap.size, 0, none⟩ = some (.int .i64 m) := by rw [(bcell hal).1 _ _ ltw]; exact c0
        have D0 := hide d0
        clear hxy hn1 hn2 hfe d0 hal hbw
        rcases hlc with ⟨hz, h1, h2⟩ | ⟨hz, h1 | ⟨h1, h2⟩⟩
        · rw [hz] at hfd
          have HF := hide hfd
          have b1 : ((n1 : Int) != m) = false := by simp [h1]
          have b2 : ((n2 : Int) != m) = false := by simp [h2]
          clear hz hfd h1 h2
          go_wp2_with fail
          exact ⟨⟨k + 1, by omega, by go_num, by rw [HF.out]; simp, hbw2, D0.out⟩, by simp [intOf]; omega⟩
        · rw [hz] at hfd
          have HF := hide hfd
          have b1 : ((n1 : Int) != m) = true := by simpa using h1
          clear hz hfd h1
          go_wp2_with fail
          go_ret
          exact ⟨by rw [HE.out, HF.out]; simp, hbw2⟩
        · rw [hz] at hfd
          have HF := hide hfd
          have b1 : ((n1 : Int) != m) = false := by simp [h1]
          have b2 : ((n2 : Int) != m) = true := by simpa using h2
          clear hz hfd h1 h2
          go_wp2_with fail
          go_ret
          exact ⟨by rw [HE.out, HF.out]; simp, hbw2⟩
      · have hke : k = ls.length := by omega
        have hz : firstLev m ls = 0 := by rw [hfe, hke, List.drop_length]; rfl
        have HZ := hide hz
        clear hz hfe c0
        go_wp2_with fail
        go_ret
        exact ⟨by rw [HE.out, HZ.out]; simp, hbw⟩
  · have hne : (r != 0) = true := by simpa using hr0
    go_wp2_with fail
    go_ret
    exact ⟨by rw [HE.out]; simp [hr0], hB1⟩

/-- is each one of a list one of another list? -/
def withinB (a b : List Bool) (n : Nat) : Bool := (List.range n).all fun i => !((a[i]?.getD false) && !(b[i]?.getD false))

theorem within_flows (l m : Lev) (n : Nat) : (withinB m.r l.r n && withinB l.w m.w n) = flowsB l m n := by
  rw [Bool.eq_iff_iff, flowsB_iff]
  simp only [withinB, Bool.and_eq_true, List.all_eq_true, List.mem_range]
  constructor
  · rintro ⟨h1, h2⟩ i hi
    have a := h1 i hi
    have b := h2 i hi
    revert a b
    cases m.r[i]?.getD false <;> cases l.r[i]?.getD false <;> cases l.w[i]?.getD false <;> cases m.w[i]?.getD false <;> simp
  · intro h
    refine ⟨fun i hi => ?_, fun i hi => ?_⟩ <;> have a := h i hi <;> revert a <;> cases m.r[i]?.getD false <;> cases l.r[i]?.getD false <;> cases l.w[i]?.getD false <;> cases m.w[i]?.getD false <;> simp

set_option maxHeartbeats 1000000 in
theorem within_any (va vb : Value) (a b : List Bool) (n : Nat) (w : World) (h0 : 1 ≤ n) (hn : n ≤ 6) (ha : IsBools w va a) (hb : IsBools w vb b) (hla : a.length = n) (hlb : b.length = n) :
    Calls Try.prog 57 #[va, vb] w fun e w' => e = .returned (.bool (withinB a b n)) ∧ Below w.heap.size w w' := by
  obtain ⟨b1, o1, c1, rfl, q1⟩ := isBools_pos ha hla h0
  obtain ⟨b2, o2, c2, rfl, q2⟩ := isBools_pos hb hlb h0
  have Q1 := hide q1
  have Q2 := hide q2
  clear q1 q2 ha hb hla hlb
  go_enter Try.func57, Try.ntmps57
  go_wp2_with fail
  go_loop [9] (fun i => ∃ k : Nat, k ≤ n ∧ i = .int .i64 k ∧ (List.range k).all (fun i => !((a[i]?.getD false) && !(b[i]?.getD false))) = true) (fun i => n - (intOf i).toNat)
  case atStart => exact ⟨0, Nat.zero_le _, rfl, rfl⟩
  case round =>
    obtain ⟨k, hk, rfl, hall⟩ := hrel
    by_cases hkn : k < n
    · have q1 := Q1.out k hkn
      have q2 := Q2.out k hkn
      have hnext : (!((a[k]?.getD false) && !(b[k]?.getD false))) = true → (List.range (k + 1)).all (fun i => !((a[i]?.getD false) && !(b[i]?.getD false))) = true := fun h => by
        rw [List.range_succ, List.all_append, hall]
        simpa using h
      have hstop : (!((a[k]?.getD false) && !(b[k]?.getD false))) = false → withinB a b n = false := fun h => by
        unfold withinB
        rw [List.all_eq_false]
        exact ⟨k, List.mem_range.2 hkn, by simpa using h⟩
      generalize a[k]?.getD false = x at q1 hnext hstop
      generalize b[k]?.getD false = y at q2 hnext hstop
      have HN := hide hnext
      have HS := hide hstop
      clear hnext hstop hall
      cases x <;> cases y
      all_goals go_wp2_with fail
      all_goals first
        | exact ⟨⟨k + 1, by omega, by go_num, HN.out (by first | rfl | trivial)⟩, by simp [intOf]; omega⟩
        | (go_ret; exact ⟨by rw [HS.out (by first | rfl | trivial)]; rfl, Below.refl _ w⟩)
    · have hke : k = n := by omega
      have hf : withinB a b n = true := by unfold withinB; rw [← hke]; exact hall
      have HF := hide hf
      clear hf hall
      go_wp2_with fail
      go_ret
      exact ⟨by rw [HF.out]; rfl, Below.refl _ w⟩
end Go.Proofs.Ytcbbjjenkommeaa
