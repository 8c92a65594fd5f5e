/- actors.actsFor finds whom one acts for. -/
import Derived.Test.YtekgnjifopgboaaActorsChk
import Derived.Laws.MakeOwn
import Derived.WalkSmall
namespace Go.Proofs.Ytekgnjifopgboaa
open Go.RowKit
set_option linter.unusedVariables false

def toI (g : Nat × Nat) : Int × Int := ((g.1 : Int), (g.2 : Int))

/-- bools that lie in a block of their own. -/
def KnownAt (w : World) (kb : Nat) (l : List Bool) : Prop := ∀ i (h : i < l.length), w.cell? ⟨kb, i, none⟩ = some (.bool l[i]) ∧ w.frozen? ⟨kb, i, none⟩ = false

theorem known_over {w w' : World} {kb : Nat} {l : List Bool} (h : KnownAt w kb l) (hb : Below w.heap.size w w') : KnownAt w' kb l := fun i hi => by
  obtain ⟨h1, h2⟩ := h i hi
  have hlt := World.block_lt_of_cell? w _ h1
  exact ⟨by rw [(bcell hb).1 _ _ hlt]; exact h1, by rw [(bcell hb).2 _ _ hlt]; exact h2⟩

theorem known_set {w : World} {kb : Nat} {l : List Bool} (h : KnownAt w kb l) {j : Nat} (hj : j < l.length) (c : Bool) : KnownAt (w.setCell ⟨kb, j, none⟩ (.bool c)) kb (l.set j c) := fun i hi => by
  have hi' : i < l.length := by simpa using hi
  obtain ⟨h1, h2⟩ := h i hi'
  refine ⟨?_, ?_⟩
  · by_cases e : j = i
    · subst e
      rw [World.cell?_setCell_same _ _ _ h1]
      simp
    · rw [World.cell?_setCell_other _ _ _ _ (by intro h; exact e (by injection h)), List.getElem_set_ne e]
      exact h1
  · rw [World.frozen?_setCell]
    exact h2

/-- the heads of what must be known of a closure over them. -/
def leads (l : List Bool) (g : Int × Int) : Bool := (l[g.1.toNat]?.getD false) && !(l[g.2.toNat]?.getD false)

set_option maxHeartbeats 400000 in
theorem leads_any (kp kb : Nat) (l : List Bool) (g : Nat × Nat) (w : World) (hl : l.length ≤ 6) (hkp : w.cell? ⟨kp, 0, none⟩ = some (.slice (some ⟨kb, 0, none⟩) l.length l.length)) (hk : KnownAt w kb l)
    (h0 : g.1 < l.length) (h1 : g.2 < l.length) :
    Calls Try.prog 55 #[.agg #[.int .i64 (toI g).1, .int .i64 (toI g).2], .pointer (some ⟨kp, 0, none⟩)] w fun e w' => e = .returned (.bool (leads l (toI g))) ∧ Below w.heap.size w w' := by
  obtain ⟨g0, g1⟩ := g
  simp only [toI] at h0 h1 ⊢
  have hle : leads l ((g0 : Int), (g1 : Int)) = (l[g0] && !l[g1]) := by simp [leads, h0, h1]
  rw [hle]
  obtain ⟨c0, -⟩ := hk g0 h0
  obtain ⟨c1, -⟩ := hk g1 h1
  obtain ⟨b0, e0⟩ : ∃ r, r = l[g0] := ⟨_, rfl⟩
  obtain ⟨b1, e1⟩ : ∃ r, r = l[g1] := ⟨_, rfl⟩
  rw [← e0] at c0
  rw [← e1] at c1
  rw [← e0, ← e1]
  have lt1 := World.block_lt_of_cell? w _ hkp
  have lt2 := World.block_lt_of_cell? w _ c0
  have hbel : Below w.heap.size w (w.alloc (.cells #[.int .i64 g0, .int .i64 g1] 65)) := (Below.refl _ w).alloc (Nat.le_refl _) _
  clear e0 e1 hle hk
  cases b0 with
  | true =>
    go_enter Try.func55, Try.ntmps55
    go_wp2_with fail
    go_ret
    exact ⟨by simp, hbel⟩
  | false =>
    go_enter Try.func55, Try.ntmps55
    go_wp2_with fail
    go_ret
    exact ⟨by simp, hbel⟩

theorem Try.info4 : (Try.prog.info? 4).map (fun i => (i.zero, i.size, i.bytes)) = some (some (.bool false), 1, 1) := by kernel_rfl

theorem make35 (n : Nat) (hn : n ≤ 6) (w : World) : (Instr.makeSlice 28 (.int .i64 n) (.int .i64 n)).run Try.prog w = .ok (.slice (some ⟨w.heap.size, 0, none⟩) n n) (w.alloc (.cells (List.replicate n (Value.bool false)).toArray 4)) := by
  cases hi : Try.prog.info? 4 with
  | none => have := Try.info4; rw [hi] at this; cases this
  | some i =>
    have h4 := Try.info4
    rw [hi] at h4
    simp only [Option.map_some, Option.some.injEq, Prod.mk.injEq] at h4
    obtain ⟨hz, h1, h2⟩ := h4
    have := run_make (P := Try.prog) w 28 4 i (.bool false) Try.underlying28 hi hz .i64 .i64 (n : Int) (n : Int) (by omega) (by omega) (by rw [h2]; omega) (by omega)
    rw [this, h1]
    simp only [Int.toNat_natCast, Nat.mul_one]
    congr 3
    apply Array.ext
    · simp [madeCells]
    · intro j h1 h2
      simp [madeCells, Value.cells, Nat.mod_one]

/-- where actsFor stands. -/
def ActsSt (w : World) (n : Nat) (v : Value) (l : List Bool) (W : World) : Prop :=
  W.cell? ⟨w.heap.size, 0, none⟩ = some (.int .i64 n) ∧ W.cell? ⟨w.heap.size, 1, none⟩ = some v ∧ W.cell? ⟨w.heap.size + 1 + 1, 0, none⟩ = some (.slice (some ⟨w.heap.size + 1, 0, none⟩) n n) ∧ KnownAt W (w.heap.size + 1) l ∧ Below w.heap.size w W

theorem ActsSt.over {w W W' : World} {n : Nat} {v : Value} {l : List Bool} (h : ActsSt w n v l W) (hb : Below W.heap.size W W') : ActsSt w n v l W' := by
  obtain ⟨h0, h1, h2, h3, h4⟩ := h
  obtain ⟨hc, hf⟩ := bcell hb
  refine ⟨?_, ?_, ?_, known_over h3 hb, h4.trans (hb.mono h4.size)⟩
  · rw [hc _ _ (World.block_lt_of_cell? W _ h0)]; exact h0
  · rw [hc _ _ (World.block_lt_of_cell? W _ h1)]; exact h1
  · rw [hc _ _ (World.block_lt_of_cell? W _ h2)]; exact h2

theorem actsSt_idx {w W : World} {n : Nat} {v : Value} {l : List Bool} {gn : List (Nat × Nat)} (hn : n ≤ 6) (h : ActsSt w n v l W) (hl : l.length = n) (hv : IsGrants w v (gn.map toI)) (hlen : gn.length ≤ 20) (hb : ∀ g ∈ gn, g.1 < n ∧ g.2 < n) :
    Calls Try.prog 56 #[v, .func (.func 55) #[] #[.pointer (some ⟨w.heap.size + 1 + 1, 0, none⟩)]] W fun e w' => e = .returned (.int .i64 (idxOf (leads l) (gn.map toI))) ∧ ActsSt w n v l w' := by
  refine (indexFunc_any 55 (.pointer (some ⟨w.heap.size + 1 + 1, 0, none⟩)) (leads l) v (gn.map toI) W (isGrants_over hv h.2.2.2.2) (by simpa using hlen) (hide fun i hi w1 hb1 => ?_) call18).mono ?_
  · have hi' : i < gn.length := by simpa using hi
    have hs := h.over hb1
    have hg := hb gn[i] (List.getElem_mem hi')
    have := leads_any (w.heap.size + 1 + 1) (w.heap.size + 1) l gn[i] w1 (by omega) (by rw [hl]; exact hs.2.2.1) hs.2.2.2.1 (by omega) (by omega)
    simpa using this
  · rintro e w' ⟨rfl, hb1⟩
    exact ⟨rfl, h.over hb1⟩

def isF : Option Value → Bool
  | some (.bool false) => true
  | _ => false
def falses (kb n : Nat) (W : World) : Nat := (List.range n).countP fun i => isF (W.cell? ⟨kb, i, none⟩)

theorem falses_eq {W : World} {kb : Nat} {l : List Bool} (h : KnownAt W kb l) : falses kb l.length W = l.count false := by
  have : l = (List.range l.length).map fun i => l[i]?.getD false := by
    apply List.ext_getElem
    · simp
    · intro i h1 h2
      simp [h1]
  unfold falses
  conv => rhs; rw [this]
  rw [List.count_eq_countP, List.countP_map]
  apply List.countP_congr
  intro i hi
  have hi' : i < l.length := by simpa using hi
  rw [(h i hi').1]
  simp only [Function.comp, hi', List.getElem?_eq_getElem, Option.getD_some]
  cases l[i] <;> simp [isF]

theorem count_set_false {l : List Bool} {j : Nat} (hj : j < l.length) (h : l[j] = false) : (l.set j true).count false < l.count false := by
  rw [List.count_set hj]
  have hm : 0 < l.count false := List.count_pos_iff.2 (List.mem_iff_getElem.2 ⟨j, hj, h⟩)
  simp [h]
  omega

theorem idx_split (l : List Bool) (gn : List (Nat × Nat)) (n : Nat) (hl : l.length = n) (hb : ∀ g ∈ gn, g.1 < n ∧ g.2 < n) :
    (idxOf (leads l) (gn.map toI) = -1 ∧ Closed gn l) ∨ ∃ (k : Nat) (h : k < gn.length), idxOf (leads l) (gn.map toI) = k ∧ l[gn[k].1]? = some true ∧ l[gn[k].2]? = some false := by
  have hd : ∀ g ∈ gn, leads l (toI g) = true ↔ l[g.1]? = some true ∧ l[g.2]? = some false := fun g hg => by
    obtain ⟨h0, h1⟩ := hb g hg
    have e0 : l[g.1]? = some l[g.1] := List.getElem?_eq_getElem (by omega)
    have e1 : l[g.2]? = some l[g.2] := List.getElem?_eq_getElem (by omega)
    simp only [leads, toI, Int.toNat_natCast, e0, e1, Option.getD_some, Option.some.injEq]
    cases l[g.1] <;> cases l[g.2] <;> simp
  unfold idxOf
  cases hf : (gn.map toI).findIdx? (leads l) with
  | none =>
    left
    refine ⟨rfl, fun g hg hk => ?_⟩
    have h1 := (List.findIdx?_eq_none_iff.1 hf) (toI g) (List.mem_map_of_mem hg)
    have h2 : ¬ (l[g.1]? = some true ∧ l[g.2]? = some false) := fun h => by rw [(hd g hg).2 h] at h1; cases h1
    have hg2 : g.2 < l.length := by have := hb g hg; omega
    have e1 : l[g.2]? = some l[g.2] := List.getElem?_eq_getElem hg2
    rw [e1] at h2 ⊢
    cases hx : l[g.2] with
    | true => rfl
    | false => exact absurd ⟨hk, by rw [hx]⟩ h2
  | some k =>
    right
    obtain ⟨hi, hp, _⟩ := List.findIdx?_eq_some_iff_getElem.1 hf
    have hi' : k < gn.length := by simpa using hi
    have hp' : leads l (toI gn[k]) = true := by simpa using hp
    exact ⟨k, hi', rfl, (hd _ (List.getElem_mem hi')).1 hp'⟩

set_option maxHeartbeats 1000000 in
theorem actsFor_any (n who : Nat) (hn : n ≤ 6) (hw : who < n) (v : Value) (gn : List (Nat × Nat)) (w : World) (hv : IsGrants w v (gn.map toI)) (hlen : gn.length ≤ 20) (hb : ∀ g ∈ gn, g.1 < n ∧ g.2 < n) :
    Calls Try.prog 48 #[.agg #[.int .i64 n, v], .int .i64 who] w fun e w' => ∃ kb, w.heap.size ≤ kb ∧ kb < w'.heap.size ∧ e = .returned (.slice (some ⟨kb, 0, none⟩) n n) ∧ KnownAt w' kb (acts gn n who) ∧ Below w.heap.size w w' := by
  have hmk := fun w => make35 n hn w
  have hst : ActsSt w n v (start n who) (((w.alloc (Obj.cells #[Value.int IntKind.i64 n, v] 24)).alloc (Obj.cells ((Array.replicate n (Value.bool false)).setIfInBounds who (Value.bool true)) 4)).alloc (Obj.cells #[Value.slice (some { block := w.heap.size + 1, off := 0 }) n n] 28)) := by
    refine ⟨by simp [go_sem], by simp [go_sem], by simp [go_sem], fun i hi => ?_, ?_⟩
    · have hi' : i < n := by simpa [start] using hi
      refine ⟨?_, by simp [go_sem]⟩
      simp [go_sem, start, List.getElem_set, hi']
      by_cases e : who = i
      · simp [e]
      · simp [e, hi']
    · exact (((Below.refl _ w).alloc (Nat.le_refl _) _).alloc (by simp) _).alloc (by simp; omega) _
  have HI := hide (actsSt_idx hn hst (start_length n who) hv hlen hb)
  clear hst
  go_enter Try.func48, Try.ntmps48
  go_wp2_with fail
  refine (HI.out).mono ?_
  rintro e w1 ⟨rfl, hst⟩
  clear HI hmk
  go_wp2_with fail
  go_loopw [7] (fun i wr => ∃ l : List Bool, l.length = n ∧ Sound gn who l ∧ i = .int .i64 (idxOf (leads l) (gn.map toI)) ∧ ActsSt w n v l wr) (fun _ wr => falses (w.heap.size + 1) n wr)
  case atStart => exact ⟨_, start_length n who, start_sound gn hw, rfl, hst⟩
  case round =>
    obtain ⟨l, hl, hsd, rfl, hst2⟩ := hrel
    clear hst
    rcases idx_split l gn n hl hb with ⟨hi, hcl⟩ | ⟨k, hk, hi, hkt, hkf⟩
    · have he : l = acts gn n who := acts_one hw (fun g hg => (hb g hg).2) hl hsd hcl
      rw [hi]
      obtain ⟨s0, s1, s2, s3, s4⟩ := hst2
      have hz := World.block_lt_of_cell? wr _ s2
      have hz' : w.heap.size + 1 < wr.heap.size := by have : w.heap.size + 1 + 1 < wr.heap.size := hz; omega
      rw [he] at s3
      clear hcl hsd he hi
      go_wp2_with fail
      go_ret
      exact ⟨w.heap.size + 1, by omega, hz', rfl, s3, s4⟩
    · obtain ⟨hg1, hg2⟩ := hb _ (List.getElem_mem hk)
      have hs1 := hst2
      obtain ⟨s0, s1, s2, s3, s4⟩ := hst2
      obtain ⟨ao, cap, hve, hcc⟩ := hv
      rw [List.length_map] at hve
      subst hve
      obtain ⟨b, off, rfl, hcl⟩ := hcc (by intro h; rw [List.map_eq_nil_iff] at h; rw [h] at hk; simp at hk)
      obtain ⟨q0, q1⟩ := hcl k (by simpa using hk)
      have hlt := World.block_lt_of_cell? w _ q0
      rw [← (bcell s4).1 _ _ hlt] at q0 q1
      simp only [List.getElem_map, toI] at q0 q1
      obtain ⟨d1, d2⟩ := s3 gn[k].2 (by omega)
      have hfal : l[gn[k].2] = false := by have := hkf; rw [List.getElem?_eq_getElem (by omega)] at this; exact Option.some.inj this
      rw [hfal] at d1
      obtain ⟨gw, hgw⟩ : ∃ r, r = gn[k].1 := ⟨_, rfl⟩
      obtain ⟨gf, hgf⟩ : ∃ r, r = gn[k].2 := ⟨_, rfl⟩
      simp only [← hgw, ← hgf] at q0 q1 d1 d2 hg1 hg2 hkt hkf hfal
      rw [hi]
      have hset := known_set (w := wr.drew) s3 (j := gf) (by omega) true
      have hsn : Sound gn who (l.set gf true) := by rw [hgf]; exact sound_set hsd (List.getElem_mem hk) (by rw [← hgw]; exact hkt)
      have hln : (l.set gf true).length = n := by simpa using hl
      have hlm : falses (w.heap.size + 1) n wr = l.count false := by rw [← hl]; exact falses_eq s3
      have hct := count_set_false (l := l) (j := gf) (by omega) hfal
      have hst3 : ActsSt w n (.slice (some ⟨b, off, none⟩) gn.length cap) (l.set gf true) (wr.drew.setCell ⟨w.heap.size + 1, gf, none⟩ (.bool true)) := by
        refine ⟨?_, ?_, ?_, hset, (below_drewN s4 1).setCell (by simp) _⟩
        · rw [World.cell?_setCell_other _ _ _ _ (by simp)]; exact s0
        · rw [World.cell?_setCell_other _ _ _ _ (by simp)]; exact s1
        · rw [World.cell?_setCell_other _ _ _ _ (by simp)]; exact s2
      have hv' : IsGrants w (.slice (some ⟨b, off, none⟩) gn.length cap) (gn.map toI) := ⟨_, _, by rw [List.length_map], hcc⟩
      have HI := hide (actsSt_idx hn hst3 hln hv' hlen hb)
      obtain ⟨t0, t1, t2, -, -⟩ := hst3
      have HS := hide hsn
      clear hcl hcc hset hsn hsd hs1 hv' s3 hkt hkf hfal hgw hgf hb q0
      go_wp2_with fail
      go_region
      go_wp2_with fail
      refine (HI.out).mono ?_
      rintro e w2 ⟨rfl, hst4⟩
      clear HI
      go_wp2_with fail
      refine ⟨⟨l.set gf true, hln, HS.out, rfl, hst4⟩, ?_⟩
      have h1 := falses_eq hst4.2.2.2.1
      rw [hln] at h1
      omega
end Go.Proofs.Ytekgnjifopgboaa
