/- What must be in any case: veilworklaw.labelBegun answers true, if the calls of package label keep their contracts. -/
import Derived.Deep.CutRange
import Derived.Test.YtcbbjjenkommeaaM26
namespace Go.Proofs.Ytcbbjjenkommeaa
open Go.RowKit
set_option linter.unusedVariables false
attribute [local go_sem ↓] Go.wp_at_zero Go.wp_at_succ

def lv : Lev := ⟨[false, true], [true, true]⟩
def mv : Lev := ⟨[true, true], [true, true]⟩

theorem beg1 : lChk 2 twoG secretB = 0 := by decide
theorem beg2 : lChk 2 twoG ⟨[], []⟩ = 0 := by decide
theorem beg3 : levOf (gnOf twoG) 2 secretB = lv := by kernel_rfl
theorem beg4 : levOf (gnOf twoG) 2 ⟨[], []⟩ = mv := by kernel_rfl
theorem beg5 : lTwo 2 twoG lv mv = 0 ∧ lTwo 2 twoG mv lv = 0 ∧ lRight 2 twoG lv = 0 := by decide
theorem small_lv : lv.small ∧ mv.small := by unfold Lev.small lv mv; decide

theorem box_over {W W' : World} {p : Nat} {o : Obj} (h : W.heap[p]? = some o) (hb : Below W.heap.size W W') : W'.heap[p]? = some o := by
  rw [hb.block p (Array.getElem?_eq_some_iff.1 h).1]
  exact h

theorem held_set {wB W : World} {b0 o0 o1 b2 o2 o3 : Nat} {v0 v1 v2 v3 : Value} {p : Addr} {u : Value} (h : W.cell? ⟨b0, o0, none⟩ = some v0 ∧ W.cell? ⟨b0, o1, none⟩ = some v1 ∧ W.cell? ⟨b2, o2, none⟩ = some v2 ∧ W.cell? ⟨b2, o3, none⟩ = some v3 ∧ Below wB.heap.size wB W)
    (h0 : b0 < wB.heap.size) (h2 : b2 < wB.heap.size) (hp : wB.heap.size ≤ p.block) : (W.setCell p u).cell? ⟨b0, o0, none⟩ = some v0 ∧ (W.setCell p u).cell? ⟨b0, o1, none⟩ = some v1 ∧ (W.setCell p u).cell? ⟨b2, o2, none⟩ = some v2 ∧ (W.setCell p u).cell? ⟨b2, o3, none⟩ = some v3 ∧ Below wB.heap.size wB (W.setCell p u) := by
  obtain ⟨k0, k1, k2, k3, hB⟩ := h
  have hne : ∀ b o, b < wB.heap.size → (W.setCell p u).cell? ⟨b, o, none⟩ = W.cell? ⟨b, o, none⟩ := fun b o hb => World.cell?_setCell_other _ _ _ _ (by rintro rfl; simp at hp; omega)
  exact ⟨by rw [hne _ _ h0]; exact k0, by rw [hne _ _ h0]; exact k1, by rw [hne _ _ h2]; exact k2, by rw [hne _ _ h2]; exact k3, hB.setCell hp u⟩

/-- a level laid in a new box, the others as they were. -/
def Beg5 (w3 w5 wB : World) (a1 : Option Addr) (k1 : Nat) (a2 : Option Addr) (k2 : Nat) (a3 : Option Addr) (k3 : Nat) (a4 : Option Addr) (k4 : Nat) (l : Lev) (s9 s10 : Value) (wc : World) : Prop :=
  ∃ p va vb, s9 = .pointer (some ⟨p, 0, none⟩) ∧ s10 = .int .i64 0 ∧ wc.heap[p]? = some (.cells #[va, vb] 62 (0, 0)) ∧ LevAt wc (.agg #[va, vb]) l ∧
    wc.cell? ⟨w3.heap.size, 0, none⟩ = some (.slice a1 lv.r.length k1) ∧ wc.cell? ⟨w3.heap.size, 1, none⟩ = some (.slice a2 lv.w.length k2) ∧ wc.cell? ⟨w5.heap.size, 0, none⟩ = some (.slice a3 mv.r.length k3) ∧ wc.cell? ⟨w5.heap.size, 1, none⟩ = some (.slice a4 mv.w.length k4) ∧ Below wB.heap.size wB wc

theorem box_set {W : World} {p : Nat} {x y a b : Value} (h : W.heap[p]? = some (.cells #[x, y] 62 (0, 0))) : ((W.setCell ⟨p, 0, none⟩ a).setCell ⟨p, 1, none⟩ b).heap[p]? = some (.cells #[a, b] 62 (0, 0)) := by
  have h1 := heap_setCell_same W _ 0 _ _ a h
  have h2 := heap_setCell_same _ _ 1 _ _ b h1
  simpa using h2

theorem bools_set {W : World} {p : Nat} {x y a b v : Value} {B : Nat} {l : List Bool} (h : W.ownsRow B 4 1 v l.length (boolCells l)) (hp : W.heap[p]? = some (.cells #[x, y] 62 (0, 0))) : IsBools ((W.setCell ⟨p, 0, none⟩ a).setCell ⟨p, 1, none⟩ b) v l := by
  have hne : ∀ g cap, v = .slice (some ⟨g, 0, none⟩) l.length cap → g ≠ p := fun g cap e hh => by
    subst e hh
    rcases h.2 with ⟨h, _⟩ | ⟨g', cap', cur, hv, _, hh, _⟩
    · cases h
    · injection hv with e1
      injection e1 with e1
      injection e1 with e1
      subst e1
      rw [hh] at hp
      simp at hp
  have key : ∀ (X : World) (o : Nat) (u : Value), X.ownsRow B 4 1 v l.length (boolCells l) → (X.setCell ⟨p, o, none⟩ u).ownsRow B 4 1 v l.length (boolCells l) := fun X o u hX => by
    obtain ⟨h1, h2⟩ := hX
    refine ⟨h1, ?_⟩
    rcases h2 with h2 | ⟨g, cap, cur, hv, hg, hh, r⟩
    · exact Or.inl h2
    · refine Or.inr ⟨g, cap, cur, hv, hg, ?_, r⟩
      rw [heap_setCell_other]
      · exact hh
      · exact fun e => hne g cap hv (by first | exact e | exact e.symm)
  exact isBools_own (key _ _ _ (key _ _ _ h))

theorem lev_set {w W : World} {p : Nat} {x y a b v : Value} {L : Lev} (h : LevFresh w W v L) (hp : W.heap[p]? = some (.cells #[x, y] 62 (0, 0))) : LevAt ((W.setCell ⟨p, 0, none⟩ a).setCell ⟨p, 1, none⟩ b) v L := by
  obtain ⟨vr, vw, rfl, h1, h2, _⟩ := h
  exact ⟨vr, vw, rfl, bools_set h1 hp, bools_set h2 hp⟩

theorem pols_nil (W : World) : IsPols W (.slice none 0 0) [] := ⟨none, 0, rfl, fun h => absurd rfl h⟩

theorem held8 {wB W W' : World} {b0 o0 b1 o1 b2 o2 b3 o3 b4 o4 b5 o5 b6 o6 b7 o7 : Nat} {v0 v1 v2 v3 v4 v5 v6 v7 : Value} (h : W.cell? ⟨b0, o0, none⟩ = some v0 ∧ W.cell? ⟨b1, o1, none⟩ = some v1 ∧ W.cell? ⟨b2, o2, none⟩ = some v2 ∧ W.cell? ⟨b3, o3, none⟩ = some v3 ∧ W.cell? ⟨b4, o4, none⟩ = some v4 ∧ W.cell? ⟨b5, o5, none⟩ = some v5 ∧ W.cell? ⟨b6, o6, none⟩ = some v6 ∧ W.cell? ⟨b7, o7, none⟩ = some v7 ∧ Below wB.heap.size wB W) (hb : Below W.heap.size W W') : W'.cell? ⟨b0, o0, none⟩ = some v0 ∧ W'.cell? ⟨b1, o1, none⟩ = some v1 ∧ W'.cell? ⟨b2, o2, none⟩ = some v2 ∧ W'.cell? ⟨b3, o3, none⟩ = some v3 ∧ W'.cell? ⟨b4, o4, none⟩ = some v4 ∧ W'.cell? ⟨b5, o5, none⟩ = some v5 ∧ W'.cell? ⟨b6, o6, none⟩ = some v6 ∧ W'.cell? ⟨b7, o7, none⟩ = some v7 ∧ Below wB.heap.size wB W' := by
  obtain ⟨h0, h1, h2, h3, h4, h5, h6, h7, hB⟩ := h
  have up : ∀ b o v, W.cell? ⟨b, o, none⟩ = some v → W'.cell? ⟨b, o, none⟩ = some v := fun b o v h => by rw [(bcell hb).1 _ _ (World.block_lt_of_cell? W _ h)]; exact h
  exact ⟨up _ _ _ h0, up _ _ _ h1, up _ _ _ h2, up _ _ _ h3, up _ _ _ h4, up _ _ _ h5, up _ _ _ h6, up _ _ _ h7, hB.trans (hb.mono hB.size)⟩

theorem drewn8 {wB W : World} {b0 o0 b1 o1 b2 o2 b3 o3 b4 o4 b5 o5 b6 o6 b7 o7 : Nat} {v0 v1 v2 v3 v4 v5 v6 v7 : Value} (h : W.cell? ⟨b0, o0, none⟩ = some v0 ∧ W.cell? ⟨b1, o1, none⟩ = some v1 ∧ W.cell? ⟨b2, o2, none⟩ = some v2 ∧ W.cell? ⟨b3, o3, none⟩ = some v3 ∧ W.cell? ⟨b4, o4, none⟩ = some v4 ∧ W.cell? ⟨b5, o5, none⟩ = some v5 ∧ W.cell? ⟨b6, o6, none⟩ = some v6 ∧ W.cell? ⟨b7, o7, none⟩ = some v7 ∧ Below wB.heap.size wB W) (n : Nat) : (W.drewN n).cell? ⟨b0, o0, none⟩ = some v0 ∧ (W.drewN n).cell? ⟨b1, o1, none⟩ = some v1 ∧ (W.drewN n).cell? ⟨b2, o2, none⟩ = some v2 ∧ (W.drewN n).cell? ⟨b3, o3, none⟩ = some v3 ∧ (W.drewN n).cell? ⟨b4, o4, none⟩ = some v4 ∧ (W.drewN n).cell? ⟨b5, o5, none⟩ = some v5 ∧ (W.drewN n).cell? ⟨b6, o6, none⟩ = some v6 ∧ (W.drewN n).cell? ⟨b7, o7, none⟩ = some v7 ∧ Below wB.heap.size wB (W.drewN n) := by
  obtain ⟨h0, h1, h2, h3, h4, h5, h6, h7, hB⟩ := h
  exact ⟨h0, h1, h2, h3, h4, h5, h6, h7, below_drewN hB n⟩

theorem lev_r {W : World} {x y : Value} {l : Lev} (h : LevAt W (.agg #[x, y]) l) : IsBools W x l.r := by
  obtain ⟨a, b, e, h1, h2⟩ := h
  obtain ⟨rfl, rfl⟩ : x = a ∧ y = b := by simpa using e
  exact h1
theorem lev_w {W : World} {x y : Value} {l : Lev} (h : LevAt W (.agg #[x, y]) l) : IsBools W y l.w := by
  obtain ⟨a, b, e, h1, h2⟩ := h
  obtain ⟨rfl, rfl⟩ : x = a ∧ y = b := by simpa using e
  exact h2
theorem bools_two {W : World} {g : Nat} {x y : Bool} (h0 : W.cell? ⟨g, 0, none⟩ = some (.bool x)) (h1 : W.cell? ⟨g, 1, none⟩ = some (.bool y)) : IsBools W (.slice (some ⟨g, 0, none⟩) 2 2) [x, y] := by
  refine ⟨_, 2, rfl, fun _ => ⟨g, 0, rfl, fun i hi => ?_⟩⟩
  have : i = 0 ∨ i = 1 := by simp at hi; omega
  rcases this with rfl | rfl
  · simpa using h0
  · simpa using h1

set_option maxRecDepth 100000 in
set_option maxHeartbeats 8000000 in
theorem labelBegun_any (hC : CheckOk) (hL : LevelOk) (hR : RightOk) (hF : FlowsOk) (hJ : JoinOk) (hM : MeetOk) (w : World) :
    Calls Try.prog 17 #[] w fun e w' => e = .returned (.bool true) ∧ Below w.heap.size w w' := by
  have KC := hide hC
  have KL := hide hL
  have KR := hide hR
  have KF := hide hF
  have KJ := hide hJ
  have KM := hide hM
  clear hC hL hR hF hJ hM
  go_enter Try.func17, Try.ntmps17
  go_wp2_with fail
  refine (two_any _).mono ?_
  rintro e w1 ⟨v1, rfl, hv1, hb1⟩
  have H1 := hide hv1
  clear hv1
  go_wp2_with fail
  refine (secret_any _).mono ?_
  rintro e w2 ⟨pr, pw, rfl, hp, hq, hb2⟩
  have hB2 := hb1.trans (hb2.mono hb1.size)
  have hl2 := KL.out 2 v1 twoG pr pw secretB w2 (isGrants_over H1.out hb2) hp hq
  rw [beg1, if_pos rfl] at hl2
  have HL2 := hide hl2
  clear hp hq hl2 hb1 hb2 H1
  go_wp2_with fail
  refine (HL2.out).mono ?_
  rintro e w3 ⟨vl, rfl, hlf, hb3⟩
  have hB3 := hB2.trans (hb3.mono hB2.size)
  have hla := levFresh_at hlf
  have e3 : levOf (gnOf twoG) (2 : Int).toNat secretB = lv := beg3
  rw [e3] at hla
  clear hlf HL2 hB2 hb3 e3
  have HLA := hide hla
  obtain ⟨la, lb, rfl, ⟨a1, k1, rfl, -⟩, ⟨a2, k2, rfl, -⟩⟩ := hla
  go_wp2_with fail
  have hal := heap_of_alloc w3 (.cells #[.slice a1 lv.r.length k1, .slice a2 lv.w.length k2] 62)
  have hBa : Below w.heap.size w (w3.alloc (.cells #[.slice a1 lv.r.length k1, .slice a2 lv.w.length k2] 62)) := hB3.trans ((Below.refl _ w3).alloc hB3.size _)
  have HLA2 := hide (levAt_over HLA.out ((Below.refl _ w3).alloc (Nat.le_refl _) (.cells #[.slice a1 lv.r.length k1, .slice a2 lv.w.length k2] 62)))
  clear HLA hB3
  refine (two_any _).mono ?_
  rintro e w4 ⟨v4, rfl, hv4, hb4⟩
  have hx4 := box_over hal hb4
  have hB4 := hBa.trans (hb4.mono hBa.size)
  have HLA4 := hide (levAt_over HLA2.out hb4)
  have hl4 := KL.out 2 v4 twoG (.slice none 0 0) (.slice none 0 0) ⟨[], []⟩ w4 hv4 (pols_nil _) (pols_nil _)
  rw [beg2, if_pos rfl] at hl4
  have HL4 := hide hl4
  clear hl4 hv4 hb4 hal hBa HLA2
  go_wp2_with fail
  refine (HL4.out).mono ?_
  rintro e w5 ⟨vm, rfl, hmf, hb5⟩
  have hx5 := box_over hx4 hb5
  have hB5 := hB4.trans (hb5.mono hB4.size)
  have HLA5 := hide (levAt_over HLA4.out hb5)
  have hma := levFresh_at hmf
  have e4 : levOf (gnOf twoG) (2 : Int).toNat ⟨[], []⟩ = mv := beg4
  rw [e4] at hma
  clear hmf HL4 hB4 hb5 e4 HLA4 hx4
  have HMA := hide hma
  obtain ⟨ma, mb, rfl, ⟨a3, k3, rfl, -⟩, ⟨a4, k4, rfl, -⟩⟩ := hma
  go_wp2_with fail
  obtain ⟨wB, hwB⟩ : ∃ wB, wB = w5.alloc (.cells #[.slice a3 mv.r.length k3, .slice a4 mv.w.length k4] 62) := ⟨_, rfl⟩
  have hba : Below w5.heap.size w5 wB := by rw [hwB]; exact (Below.refl _ w5).alloc (Nat.le_refl _) _
  have x1 := box_over hx5 hba
  have x3 : wB.heap[w5.heap.size]? = some (.cells #[.slice a3 mv.r.length k3, .slice a4 mv.w.length k4] 62 (0, 0)) := by rw [hwB]; exact heap_of_alloc _ _
  have hBB := hB5.trans (hba.mono hB5.size)
  have HLB := hide (levAt_over HLA5.out hba)
  have HMB := hide (levAt_over HMA.out hba)
  have hlen : lv.r.length = 2 ∧ lv.w.length = 2 ∧ mv.r.length = 2 ∧ mv.w.length = 2 := ⟨rfl, rfl, rfl, rfl⟩
  rw [← hwB]
  clear hwB hba hx5 hB5 HLA5 HMA hlen
  obtain ⟨s0, s1, -, -⟩ := cells_of_pair x1
  obtain ⟨s2, s3, -, -⟩ := cells_of_pair x3
  have hf1 := fun (v : Value) (W : World) (hv : IsGrants W v twoG) (hW : Below wB.heap.size wB W) => KF.out 2 v twoG _ _ mv lv W hv (levAt_over HMB.out hW) (levAt_over HLB.out hW)
  have hf2 := fun (v : Value) (W : World) (hv : IsGrants W v twoG) (hW : Below wB.heap.size wB W) => KF.out 2 v twoG _ _ lv mv W hv (levAt_over HLB.out hW) (levAt_over HMB.out hW)
  rw [beg5.2.1] at hf1
  rw [beg5.1] at hf2
  have e5 : (decide ((0 : Int) = 0) && flowsB mv lv (2 : Int).toNat) = true := by decide
  have e6 : (decide ((0 : Int) = 0) && flowsB lv mv (2 : Int).toNat) = false := by decide
  rw [e5] at hf1
  rw [e6] at hf2
  have HF1 := hide hf1
  have HF2 := hide hf2
  clear hf1 hf2 e5 e6
  have L1 := hide (World.block_lt_of_cell? wB _ s0)
  have L2 := hide (World.block_lt_of_cell? wB _ s2)
  first | go_region_held3 (fun W => W.cell? ⟨w3.heap.size, 0, none⟩ = some (.slice a1 lv.r.length k1) ∧ W.cell? ⟨w3.heap.size, 1, none⟩ = some (.slice a2 lv.w.length k2) ∧ W.cell? ⟨w5.heap.size, 0, none⟩ = some (.slice a3 mv.r.length k3) ∧ W.cell? ⟨w5.heap.size, 1, none⟩ = some (.slice a4 mv.w.length k4) ∧ Below wB.heap.size wB W) (first | assumption | exact ⟨s0, s1, s2, s3, below_drewN (Below.refl _ _) 1⟩ | exact held4 (by assumption) hbq | exact held4 (by assumption) hbp) (first | (go_at_call 46; refine (two_any _).mono ?_; rintro e wq ⟨vq, rfl, hvq, hbq⟩) | (go_at_call 19; refine (HF1.out vq _ hvq (by assumption : _ ∧ _ ∧ _ ∧ _ ∧ _).2.2.2.2).mono ?_; rintro e wp ⟨rfl, hbp⟩)) | fail
  obtain ⟨s0, s1, s2, s3, hBw⟩ := (by assumption : wp.cell? _ = _ ∧ _ ∧ _ ∧ _ ∧ _)
  clear hvq hbq hbp HF1
  go_wp2_with fail
  first | go_region_held3 (fun W => W.cell? ⟨w3.heap.size, 0, none⟩ = some (.slice a1 lv.r.length k1) ∧ W.cell? ⟨w3.heap.size, 1, none⟩ = some (.slice a2 lv.w.length k2) ∧ W.cell? ⟨w5.heap.size, 0, none⟩ = some (.slice a3 mv.r.length k3) ∧ W.cell? ⟨w5.heap.size, 1, none⟩ = some (.slice a4 mv.w.length k4) ∧ Below wB.heap.size wB W) (first | assumption | exact ⟨s0, s1, s2, s3, below_drewN hBw 1⟩ | exact held4 (by assumption) hbr | exact held4 (by assumption) hbt) (first | (go_at_call 46; refine (two_any _).mono ?_; rintro e wr ⟨vr, rfl, hvr, hbr⟩) | (go_at_call 19; refine (HF2.out vr _ hvr (by assumption : _ ∧ _ ∧ _ ∧ _ ∧ _).2.2.2.2).mono ?_; rintro e wt ⟨rfl, hbt⟩)) | fail
  clear s0 s1 s2 s3 hBw
  obtain ⟨s0, s1, s2, s3, hBw⟩ := (by assumption : wt.cell? _ = _ ∧ _ ∧ _ ∧ _ ∧ _)
  have hj1 := fun (v : Value) (W : World) (hv : IsGrants W v twoG) (hW : Below wB.heap.size wB W) => KJ.out 2 v twoG _ _ lv mv W hv (levAt_over HLB.out hW) (levAt_over HMB.out hW)
  have hm1 := fun (v : Value) (W : World) (hv : IsGrants W v twoG) (hW : Below wB.heap.size wB W) => KM.out 2 v twoG _ _ lv mv W hv (levAt_over HLB.out hW) (levAt_over HMB.out hW)
  rw [beg5.1, if_pos rfl] at hj1 hm1
  have HJ1 := hide hj1
  have HM1 := hide hm1
  clear hj1 hm1 hvr hbr hbt HF2
  go_wp2_with fail
  have hzt := hBw.size
  go_cut [9, 10] from 39 to 45 (fun s9 s10 wc => Beg5 w3 w5 wB a1 k1 a2 k2 a3 k3 a4 k4 lv s9 s10 wc)
  case first =>
    first | go_region_held3 (fun W => W.cell? ⟨w3.heap.size, 0, none⟩ = some (.slice a1 lv.r.length k1) ∧ W.cell? ⟨w3.heap.size, 1, none⟩ = some (.slice a2 lv.w.length k2) ∧ W.cell? ⟨w5.heap.size, 0, none⟩ = some (.slice a3 mv.r.length k3) ∧ W.cell? ⟨w5.heap.size, 1, none⟩ = some (.slice a4 mv.w.length k4) ∧ Below wB.heap.size wB W) (first | assumption | exact ⟨s0, s1, s2, s3, below_drewN hBw 1⟩ | exact held4 (by assumption) hbq | exact held4 (by assumption) hbp | exact held4 (by assumption) ((Below.refl _ _).alloc (Nat.le_refl _) _) | exact held4 HSP.out ((Below.refl _ _).alloc (Nat.le_refl _) _) | exact held_set (held_set (by assumption) L1.out L2.out hzq) L1.out L2.out hzq | exact held_set (held_set (by assumption) L1.out L2.out hzt) L1.out L2.out hzt | fail) (first | (go_at_call 46; refine (two_any _).mono ?_; rintro e wq ⟨vq, rfl, hvq, hbq⟩; have hzq : wB.heap.size ≤ wq.heap.size := Nat.le_trans (by assumption : _ ∧ _ ∧ _ ∧ _ ∧ Below wB.heap.size wB _).2.2.2.2.size hbq.size; have hzz := hbq.size; (try simp at hzz); (try have hzy := Nat.lt_of_succ_le hzz); obtain ⟨hcq, hfq⟩ := bcell hbq) | (go_at_call 48; refine (HJ1.out vq _ (by first | exact hvq | exact isGrants_over hvq ((Below.refl _ _).alloc (Nat.le_refl _) _)) (by assumption : _ ∧ _ ∧ _ ∧ _ ∧ _).2.2.2.2).mono ?_; rintro e wp ⟨vj, rfl, hjf, hbp⟩; have HJF := hide hjf; obtain ⟨ja, jb, rfl, ⟨a5, k5, rfl, -⟩, ⟨a6, k6, rfl, -⟩⟩ := levFresh_at hjf; have HSP := hide (held4 (by assumption : _ ∧ _ ∧ _ ∧ _ ∧ _) hbp); obtain ⟨hcp, hfp⟩ := bcell hbp)) | fail
    all_goals obtain ⟨f0, f1, f2, f3, fB⟩ := (by assumption : _ ∧ _ ∧ _ ∧ _ ∧ _)
    all_goals go_wp2_with fail
    all_goals go_meet
    all_goals first
      | exact ⟨_, _, _, rfl, rfl, heap_of_alloc _ _, levAt_over (levFresh_at HJF.out) ((Below.refl _ _).alloc (Nat.le_refl _) _), f0, f1, f2, f3, fB⟩
      | exact ⟨_, _, _, rfl, rfl, box_set (box_over (heap_of_alloc _ _) hbp), lev_set HJF.out (box_over (heap_of_alloc _ _) hbp), f0, f1, f2, f3, fB⟩
      | exact ⟨_, _, _, rfl, rfl, box_set (box_over (box_over (W := (wt.alloc (.cells #[.slice none 0 0, .slice none 0 0] 62)).drew) (heap_of_alloc wt _) hbq) hbp), lev_set HJF.out (box_over (box_over (W := (wt.alloc (.cells #[.slice none 0 0, .slice none 0 0] 62)).drew) (heap_of_alloc wt _) hbq) hbp), f0, f1, f2, f3, fB⟩
  case rest =>
    clear s0 s1 s2 s3 hBw hzt HJ1
    obtain ⟨p9, ja, jb, rfl, rfl, x9, hj9, s0, s1, s2, s3, hBw⟩ := hcut
    have N1 := hide (World.block_lt_of_cell? wc _ s0)
    have N2 := hide (World.block_lt_of_cell? wc _ s2)
    have hm2 := fun (v : Value) (W : World) (hv : IsGrants W v twoG) (hW : Below wc.heap.size wc W) => HM1.out v W hv (hBw.trans (hW.mono hBw.size))
    have HM2 := hide hm2
    have HX9 := hide x9
    have HJ9 := hide hj9
    clear hm2 HM1 x9 hj9
    go_wp2_with fail
    go_cut [11, 12] from 46 to 52 (fun s11 s12 wd => Beg5 w3 w5 wc a1 k1 a2 k2 a3 k3 a4 k4 mv s11 s12 wd)
    case first =>
      first | go_region_held3 (fun W => W.cell? ⟨w3.heap.size, 0, none⟩ = some (.slice a1 lv.r.length k1) ∧ W.cell? ⟨w3.heap.size, 1, none⟩ = some (.slice a2 lv.w.length k2) ∧ W.cell? ⟨w5.heap.size, 0, none⟩ = some (.slice a3 mv.r.length k3) ∧ W.cell? ⟨w5.heap.size, 1, none⟩ = some (.slice a4 mv.w.length k4) ∧ Below wc.heap.size wc W) (first | assumption | exact ⟨s0, s1, s2, s3, below_drewN (Below.refl _ _) 1⟩ | exact held4 (by assumption) hbq | exact held4 (by assumption) hbp | exact held4 (by assumption) ((Below.refl _ _).alloc (Nat.le_refl _) _) | exact held4 HSP.out ((Below.refl _ _).alloc (Nat.le_refl _) _) | exact held_set (held_set (by assumption) N1.out N2.out hzq) N1.out N2.out hzq | exact held_set (held_set (by assumption) N1.out N2.out (Nat.le_refl _)) N1.out N2.out (Nat.le_refl _) | fail) (first | (go_at_call 46; refine (two_any _).mono ?_; rintro e wq ⟨vq, rfl, hvq, hbq⟩; have hzq : wc.heap.size ≤ wq.heap.size := Nat.le_trans (by assumption : _ ∧ _ ∧ _ ∧ _ ∧ Below wc.heap.size wc _).2.2.2.2.size hbq.size; have hzz := hbq.size; (try simp at hzz); (try have hzy := Nat.lt_of_succ_le hzz); obtain ⟨hcq, hfq⟩ := bcell hbq) | (go_at_call 49; refine (HM2.out vq _ (by first | exact hvq | exact isGrants_over hvq ((Below.refl _ _).alloc (Nat.le_refl _) _)) (by assumption : _ ∧ _ ∧ _ ∧ _ ∧ _).2.2.2.2).mono ?_; rintro e wp ⟨vj, rfl, hjf, hbp⟩; have HJF := hide hjf; obtain ⟨ja, jb, rfl, ⟨a5, k5, rfl, -⟩, ⟨a6, k6, rfl, -⟩⟩ := levFresh_at hjf; have HSP := hide (held4 (by assumption : _ ∧ _ ∧ _ ∧ _ ∧ _) hbp); obtain ⟨hcp, hfp⟩ := bcell hbp)) | fail
      all_goals obtain ⟨f0, f1, f2, f3, fB⟩ := (by assumption : _ ∧ _ ∧ _ ∧ _ ∧ _)
      all_goals go_wp2_with fail
      all_goals go_meet
      all_goals first
        | exact ⟨_, _, _, rfl, rfl, heap_of_alloc _ _, levAt_over (levFresh_at HJF.out) ((Below.refl _ _).alloc (Nat.le_refl _) _), f0, f1, f2, f3, fB⟩
        | exact ⟨_, _, _, rfl, rfl, box_set (box_over (heap_of_alloc _ _) hbp), lev_set HJF.out (box_over (heap_of_alloc _ _) hbp), f0, f1, f2, f3, fB⟩
        | exact ⟨_, _, _, rfl, rfl, box_set (box_over (box_over (W := (wc.alloc (.cells #[.slice none 0 0, .slice none 0 0] 62)).drew) (heap_of_alloc wc _) hbq) hbp), lev_set HJF.out (box_over (box_over (W := (wc.alloc (.cells #[.slice none 0 0, .slice none 0 0] 62)).drew) (heap_of_alloc wc _) hbq) hbp), f0, f1, f2, f3, fB⟩
    case rest =>
      obtain ⟨p11, ka, kb, rfl, rfl, x11, hk11, t0, t1, t2, t3, hBd⟩ := hcut
      have hBe := hBw.trans (hBd.mono hBw.size)
      have hBf := hBB.trans (hBe.mono hBB.size)
      obtain ⟨j0, j1, -, -⟩ := cells_of_pair (box_over HX9.out hBd)
      obtain ⟨m0, m1, -, -⟩ := cells_of_pair x11
      obtain ⟨a5, k5, a6, k6, hje⟩ := lev_form HJ9.out
      obtain ⟨rfl, rfl⟩ : ja = .slice a5 lv.r.length k5 ∧ jb = .slice a6 lv.w.length k6 := by simpa using hje
      obtain ⟨a7, k7, a8, k8, hke⟩ := lev_form hk11
      obtain ⟨rfl, rfl⟩ : ka = .slice a7 mv.r.length k7 ∧ kb = .slice a8 mv.w.length k8 := by simpa using hke
      have hC1 := fun (v pr pw : Value) (W : World) (hv : IsGrants W v twoG) (hp : IsPols W pr secretB.r) (hq : IsPols W pw secretB.w) => KC.out 2 v twoG pr pw secretB W hv hp hq
      rw [beg1] at hC1
      have hR1 := fun (v : Value) (W : World) (hv : IsGrants W v twoG) (hW : Below wc.heap.size wc W) => KR.out 2 v twoG _ lv W hv (levAt_over (levAt_over HLB.out hBe) hW)
      rw [beg5.2.2] at hR1
      have hS1 := fun (W : World) (hW : Below wc.heap.size wc W) => sameLevel_any _ _ lv lv W (levAt_over (levAt_over HJ9.out hBd) hW) (levAt_over (levAt_over HLB.out hBe) hW) small_lv.1
      rw [show sameLev lv lv = true from by decide] at hS1
      have hS2 := fun (W : World) (hW : Below wc.heap.size wc W) => sameLevel_any _ _ mv mv W (levAt_over hk11 hW) (levAt_over (levAt_over HMB.out hBe) hW) small_lv.2
      rw [show sameLev mv mv = true from by decide] at hS2
      have hB1 := fun (W : World) (g : Nat) (h0 : W.cell? ⟨g, 0, none⟩ = some (.bool false)) (h1 : W.cell? ⟨g, 1, none⟩ = some (.bool true)) (hW : Below wc.heap.size wc W) => sameBools_any (.slice a1 lv.r.length k1) (.slice (some ⟨g, 0, none⟩) 2 2) lv.r [false, true] W (lev_r (levAt_over (levAt_over HLB.out hBe) hW)) (bools_two h0 h1) (by decide)
      rw [show decide (lv.r = [false, true]) = true from by decide] at hB1
      have hB2 := fun (W : World) (g : Nat) (h0 : W.cell? ⟨g, 0, none⟩ = some (.bool true)) (h1 : W.cell? ⟨g, 1, none⟩ = some (.bool true)) (hW : Below wc.heap.size wc W) => sameBools_any (.slice a2 lv.w.length k2) (.slice (some ⟨g, 0, none⟩) 2 2) lv.w [true, true] W (lev_w (levAt_over (levAt_over HLB.out hBe) hW)) (bools_two h0 h1) (by decide)
      rw [show decide (lv.w = [true, true]) = true from by decide] at hB2
      have C1 := hide hC1
      have R1 := hide hR1
      have S1 := hide hS1
      have S2 := hide hS2
      have B1 := hide hB1
      have B2 := hide hB2
      have HX := hide (show wc.cell? ⟨w3.heap.size, 0, none⟩ = some (.slice a1 lv.r.length k1) ∧ wc.cell? ⟨w3.heap.size, 1, none⟩ = some (.slice a2 lv.w.length k2) ∧ wc.cell? ⟨w5.heap.size, 0, none⟩ = some (.slice a3 mv.r.length k3) ∧ wc.cell? ⟨w5.heap.size, 1, none⟩ = some (.slice a4 mv.w.length k4) ∧ wc.cell? ⟨p9, 0, none⟩ = some (.slice a5 lv.r.length k5) ∧ wc.cell? ⟨p9, 1, none⟩ = some (.slice a6 lv.w.length k6) ∧ wc.cell? ⟨p11, 0, none⟩ = some (.slice a7 mv.r.length k7) ∧ wc.cell? ⟨p11, 1, none⟩ = some (.slice a8 mv.w.length k8) ∧ Below wc.heap.size wc wc from ⟨t0, t1, t2, t3, j0, j1, m0, m1, Below.refl _ _⟩)
      clear hC1 hR1 hS1 hS2 hB1 hB2 hje hke hk11 x11 HX9 HJ9 HLB HMB KC KL KR KF KJ KM HM2 hBB hBw hBd hBe x1 x3 t0 t1 t2 t3 j0 j1 m0 m1 s0 s1 s2 s3 N1 N2 L1 L2
      go_wp2_with fail
      first | go_region_held3 (fun W => W.cell? ⟨w3.heap.size, 0, none⟩ = some (.slice a1 lv.r.length k1) ∧ W.cell? ⟨w3.heap.size, 1, none⟩ = some (.slice a2 lv.w.length k2) ∧ W.cell? ⟨w5.heap.size, 0, none⟩ = some (.slice a3 mv.r.length k3) ∧ W.cell? ⟨w5.heap.size, 1, none⟩ = some (.slice a4 mv.w.length k4) ∧ W.cell? ⟨p9, 0, none⟩ = some (.slice a5 lv.r.length k5) ∧ W.cell? ⟨p9, 1, none⟩ = some (.slice a6 lv.w.length k6) ∧ W.cell? ⟨p11, 0, none⟩ = some (.slice a7 mv.r.length k7) ∧ W.cell? ⟨p11, 1, none⟩ = some (.slice a8 mv.w.length k8) ∧ Below wc.heap.size wc W) (first | assumption | exact drewn8 HX.out 1 | exact held8 (by assumption) hbq | exact held8 (by assumption) hbs | exact held8 (by assumption) hbk | exact held8 (by assumption) hbr | exact held8 (by assumption) hbs1 | exact held8 (by assumption) hbs2 | exact held8 (by assumption) ((Below.refl _ _).alloc (Nat.le_refl _) _) | exact drewn8 (by assumption) n1 | exact drewn8 (by assumption) n2 | fail) (first | (go_at_call 46; refine (two_any _).mono ?_; rintro e wq ⟨vq, rfl, hvq, hbq⟩) | (go_at_call 47; refine (secret_any _).mono ?_; rintro e ws ⟨prs, pws, rfl, hps, hqs, hbs⟩) | (go_at_call 50; refine (C1.out vq _ _ _ (isGrants_over hvq hbs) hps hqs).mono ?_; rintro e wk ⟨rfl, hbk⟩) | (go_at_call 51; refine (R1.out vq _ hvq (by assumption : _ ∧ _ ∧ _ ∧ _ ∧ _ ∧ _ ∧ _ ∧ _ ∧ _).2.2.2.2.2.2.2.2).mono ?_; rintro e wr ⟨rfl, hbr⟩) | (go_at_call 43; have hsec := hbs1; refine (S2.out _ (by assumption : _ ∧ _ ∧ _ ∧ _ ∧ _ ∧ _ ∧ _ ∧ _ ∧ _).2.2.2.2.2.2.2.2).mono ?_; rintro e wt ⟨rfl, hbs2⟩) | (go_at_call 43; refine (S1.out _ (by assumption : _ ∧ _ ∧ _ ∧ _ ∧ _ ∧ _ ∧ _ ∧ _ ∧ _).2.2.2.2.2.2.2.2).mono ?_; rintro e wt ⟨rfl, hbs1⟩) | (go_at_call 44; have hsec := hbb1; refine (B2.out _ _ (by simp [go_sem]) (by simp [go_sem]) (by assumption : _ ∧ _ ∧ _ ∧ _ ∧ _ ∧ _ ∧ _ ∧ _ ∧ _).2.2.2.2.2.2.2.2).mono ?_; rintro e wv ⟨rfl, n2, rfl⟩) | (go_at_call 44; refine (B1.out _ _ (by simp [go_sem]) (by simp [go_sem]) (by assumption : _ ∧ _ ∧ _ ∧ _ ∧ _ ∧ _ ∧ _ ∧ _ ∧ _).2.2.2.2.2.2.2.2).mono ?_; rintro e wv ⟨rfl, n1, rfl⟩; have hbb1 : n1 = n1 := rfl)) | fail
      all_goals go_wp2_with fail
      all_goals go_ret
      all_goals have hfin := (by assumption : _ ∧ _ ∧ _ ∧ _ ∧ _ ∧ _ ∧ _ ∧ _ ∧ Below wc.heap.size wc _).2.2.2.2.2.2.2.2
      all_goals exact ⟨rfl, hBf.trans (hfin.mono hBf.size)⟩

theorem begun_any (w : World) : Calls Try.prog 17 #[] w fun e w' => e = .returned (.bool true) ∧ Below w.heap.size w w' := labelBegun_any checkOk levelOk rightOk flowsOk joinOk meetOk w
end Go.Proofs.Ytcbbjjenkommeaa
