/- The labels of the small program; the whole of its check. -/
import Derived.Test.YtdbepdabkciiiaaRd
namespace Go.Proofs.Ytdbepdabkciiiaa.Ex
open Go.RowKit
set_option linter.unusedVariables false

abbrev nils (n : Nat) : List Value := List.replicate n (.slice none 0 0)
abbrev smallC (bi bo bv bm : Nat) : List Value := [.int .i64 1, .slice none 0 0, .slice none 0 0, .slice (some ⟨bi, 0, none⟩) 1 1, .slice (some ⟨bo, 0, none⟩) 1 1, .slice (some ⟨bv, 0, none⟩) 1 1, .slice none 0 0, .slice (some ⟨bm, 0, none⟩) 2 2]
theorem RowAt.new (cs : List Value) (t : Nat) (w : World) : RowAt cs (w.alloc (.cells cs.toArray t)) w.heap.size := fun j u hu => by
  rw [Lib.cell_of_heap (heap_alloc_new w _)]
  simpa using hu

theorem own_cells2 {W : World} {B e : Nat} {v : Value} {n : Nat} {xs : List Value} (h : W.ownsRow B e 2 v n xs) (hn : 0 < n) : ∃ g cap, v = .slice (some ⟨g, 0, none⟩) n cap ∧ B ≤ g ∧ g < W.heap.size ∧ ∀ j u, xs[j]? = some u → W.cell? ((⟨g, 0, none⟩ : Addr).add j) = some u := by
  rcases h.2 with ⟨_, h0⟩ | ⟨g, cap, cur, hv, hb, hg, h1, h2, h3, h4⟩
  · omega
  · refine ⟨g, cap, hv, hb, (Array.getElem?_eq_some_iff.1 hg).1, fun j u hu => ?_⟩
    rw [Addr.add_lit, Lib.cell_of_heap hg]
    rw [← h4, List.getElem?_take] at hu
    split at hu
    · simpa using hu
    · cases hu

set_option maxHeartbeats 8000000 in
set_option maxRecDepth 100000 in
theorem labels_small (bi bo bv bm : Nat) (w : World) (h1 : RowAt [.slice none 0 0, .slice none 0 0] w bi) (h2 : RowAt [.slice none 0 0, .slice none 0 0] w bo) (h3 : RowAt [.bool false, .slice none 0 0, .slice none 0 0] w bv) :
    Calls Try.prog 48 #[smallV bi bo bv bm] w fun e w' => e = .returned (.tuple #[]) ∧ Below w.heap.size w w' := by
  obtain ⟨W0, hW0⟩ : ∃ q, q = (w.alloc (.cells (smallC bi bo bv bm).toArray 80)).alloc (.cells [.slice (some ⟨bi, 0, none⟩) 1 1, .slice (some ⟨bo, 0, none⟩) 1 1].toArray 45) := ⟨_, rfl⟩
  have hbel : Below w.heap.size w W0 := by rw [hW0]; exact ((Below.refl _ w).alloc (Nat.le_refl _) _).alloc (by simp) _
  have HC : Hid (RowAt (smallC bi bo bv bm) W0 w.heap.size) := by
    rw [hW0]
    exact (RowAt.new _ 80 w).over ((Below.refl _ _).alloc (Nat.le_refl _) _)
  have hgg : RowAt [.slice (some ⟨bi, 0, none⟩) 1 1, .slice (some ⟨bo, 0, none⟩) 1 1] W0 (w.heap.size + 1) := by
    rw [hW0]
    have := RowAt.new [.slice (some ⟨bi, 0, none⟩) 1 1, .slice (some ⟨bo, 0, none⟩) 1 1] 45 (w.alloc (.cells (smallC bi bo bv bm).toArray 80))
    simpa using this
  have K1 := hide (concat_two (w.heap.size + 1) bi bo W0 hgg (h1.over hbel) (h2.over hbel))
  have K2 := hide labelNone
  have K3 := hide pass_ok
  have K4 := hide must_ok
  have HV := hide (h3.over hbel)
  clear h1 h2 h3 hgg
  have HW := hide hW0
  clear hW0
  unfold smallV
  go_enter Try.func48, Try.ntmps48
  go_wp2_with fail
  have hw0 := HW.out
  change W0 = (w.alloc (.cells #[.int .i64 1, .slice none 0 0, .slice none 0 0, .slice (some ⟨bi, 0, none⟩) 1 1, .slice (some ⟨bo, 0, none⟩) 1 1, .slice (some ⟨bv, 0, none⟩) 1 1, .slice none 0 0, .slice (some ⟨bm, 0, none⟩) 2 2] 80)).alloc (.cells #[.slice (some ⟨bi, 0, none⟩) 1 1, .slice (some ⟨bo, 0, none⟩) 1 1] 45) at hw0
  rw [← hw0]
  refine (K1.out).mono ?_
  rintro e w1 ⟨v, rfl, hown, hb1⟩
  clear hw0 HW K1
  obtain ⟨g, gc, rfl, hgb, hgl, hgc⟩ := own_cells2 hown (by omega)
  have hgr : RowAt [.slice none 0 0, .slice none 0 0, .slice none 0 0, .slice none 0 0] w1 g := fun j u hu => by
    have := hgc j u hu
    rw [Addr.add_lit, Nat.zero_add] at this
    exact this
  have HGR := hide hgr
  have HC1 := hide (HC.out.over hb1)
  have HV1 := hide (HV.out.over hb1)
  have hB1 := hbel.trans (hb1.mono hbel.size)
  clear hgr hgc hown HC HV hb1 hbel hgb hgl
  go_wp2_with fail
  go_loopw [17] (fun i wr => ∃ j : Int, 0 ≤ j ∧ j ≤ 2 ∧ i = .int .i64 j ∧ Below w1.heap.size w1 wr) (fun i _ => 2 - (intOf i).toNat)
  case atStart => exact ⟨0, by omega, by omega, rfl, Below.refl _ _⟩
  case round =>
    obtain ⟨j, hj0, hj, rfl, hB⟩ := hrel
    rcases (by omega : j = 0 ∨ j = 1 ∨ j = 2) with rfl | rfl | rfl
    · have q0 := HGR.out.over hB 0 _ rfl
      have q1 := HGR.out.over hB 1 _ rfl
      have hBa := over_trans hB ((Below.refl _ wr).alloc (Nat.le_refl _) (.cells #[.slice none 0 0, .slice none 0 0] 68))
      have c0 := HC1.out.over hBa 0 _ rfl
      have c1 := HC1.out.over hBa 1 _ rfl
      go_wp2_with fail
      refine (K2.out _).mono ?_
      rintro e w2 ⟨rfl, hb2⟩
      have hB2 := over_trans hBa hb2
      clear hb2 hBa q0 q1 c0 c1 hB
      go_wp2_with fail
      refine (K3.out _).mono ?_
      rintro e w3 ⟨rfl, rfl⟩
      go_wp2_with fail
      exact ⟨⟨1, by omega, by omega, by first | rfl | go_num, hB2⟩, by simp [intOf]⟩
    · have q0 := HGR.out.over hB 2 _ rfl
      have q1 := HGR.out.over hB 3 _ rfl
      have hBa := over_trans hB ((Below.refl _ wr).alloc (Nat.le_refl _) (.cells #[.slice none 0 0, .slice none 0 0] 68))
      have c0 := HC1.out.over hBa 0 _ rfl
      have c1 := HC1.out.over hBa 1 _ rfl
      go_wp2_with fail
      refine (K2.out _).mono ?_
      rintro e w2 ⟨rfl, hb2⟩
      have hB2 := over_trans hBa hb2
      clear hb2 hBa q0 q1 c0 c1 hB
      go_wp2_with fail
      refine (K3.out _).mono ?_
      rintro e w3 ⟨rfl, rfl⟩
      go_wp2_with fail
      exact ⟨⟨2, by omega, by omega, by first | rfl | go_num, hB2⟩, by simp [intOf]⟩
    · have HC2 := hide (HC1.out.over hB)
      have HV2 := hide (HV1.out.over hB)
      have hB2 := hB1.trans (hB.mono hB1.size)
      obtain ⟨w2, hw2⟩ : ∃ q, q = wr := ⟨_, rfl⟩
      rw [← hw2] at HC2 HV2 hB2 ⊢
      clear hw2 hB HC1 HV1 HGR hB1
      have c5 := HC2.out 5 _ rfl
      go_wp2_with fail
      go_loopw [32] (fun i wr => ∃ j : Int, 0 ≤ j ∧ j ≤ 1 ∧ i = .int .i64 j ∧ Below w2.heap.size w2 wr) (fun i _ => 1 - (intOf i).toNat)
      case atStart => exact ⟨0, by omega, by omega, rfl, Below.refl _ _⟩
      case round =>
        obtain ⟨j, hj0, hj, rfl, hB⟩ := hrel
        rcases (by omega : j = 0 ∨ j = 1) with rfl | rfl
        · have q0 := HV2.out.over hB 0 _ rfl
          have q1 := HV2.out.over hB 1 _ rfl
          have q2 := HV2.out.over hB 2 _ rfl
          have hBa := over_trans hB ((Below.refl _ wr).alloc (Nat.le_refl _) (.cells #[.bool false, .slice none 0 0, .slice none 0 0] 70))
          have c0 := HC2.out.over hBa 0 _ rfl
          have c1 := HC2.out.over hBa 1 _ rfl
          clear c5
          go_wp2_with fail
          refine (K2.out _).mono ?_
          rintro e w4 ⟨rfl, hb2⟩
          have hB4 := over_trans hBa hb2
          clear hb2 hBa q0 q1 q2 c0 c1 hB
          go_wp2_with fail
          refine (K3.out _).mono ?_
          rintro e w3 ⟨rfl, rfl⟩
          go_wp2_with fail
          exact ⟨⟨1, by omega, by omega, by first | rfl | go_num, hB4⟩, by simp [intOf]⟩
        · have HV3 := hide (HV2.out.over hB)
          have c5' := HC2.out.over hB 5 _ rfl
          have hB3 := hB2.trans (hB.mono hB2.size)
          obtain ⟨w3, hw3⟩ : ∃ q, q = wr := ⟨_, rfl⟩
          rw [← hw3] at HV3 hB3 c5' ⊢
          clear hw3 hB HC2 HV2 hB2 c5
          go_wp2_with fail
          go_loopw [48] (fun i wr => ∃ j : Int, 0 ≤ j ∧ j ≤ 1 ∧ i = .int .i64 j ∧ Below w3.heap.size w3 wr) (fun i _ => 1 - (intOf i).toNat)
          case atStart => exact ⟨0, by omega, by omega, rfl, Below.refl _ _⟩
          case round =>
            obtain ⟨j, hj0, hj, rfl, hB⟩ := hrel
            rcases (by omega : j = 0 ∨ j = 1) with rfl | rfl
            · have q0 := HV3.out.over hB 0 _ rfl
              have q1 := HV3.out.over hB 1 _ rfl
              have q2 := HV3.out.over hB 2 _ rfl
              have hBa := over_trans hB ((Below.refl _ wr).alloc (Nat.le_refl _) (.cells #[.bool false, .slice none 0 0, .slice none 0 0] 70))
              clear c5'
              go_wp2_with fail
              refine (K4.out _ _).mono ?_
              rintro e w4 ⟨rfl, rfl⟩
              go_wp2_with fail
              exact ⟨⟨1, by omega, by omega, by first | rfl | go_num, hBa⟩, by simp [intOf]⟩
            · go_wp2_with fail
              go_end0
              exact ⟨rfl, hB3.trans (hB.mono hB3.size)⟩
end Go.Proofs.Ytdbepdabkciiiaa.Ex
