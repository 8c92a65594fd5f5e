/- The document's own list of an expression's parts: the walk. -/
import Derived.Test.YtdbepdabkciiiaaEl
import Derived.OwnWalk
namespace Go.Proofs.Ytdbepdabkciiiaa.Ex
open Go.RowKit
set_option linter.unusedVariables false

theorem Try.infoX : (Try.prog.info? 24).map (fun i => (i.zero, i.size, i.bytes)) = some (some (.agg #[.int .i64 0, .int .i64 0, .slice none 0 0]), 3, 40) := by kernel_rfl

theorem own_first (w : World) (x y z : Value) (B : Nat) (hB : B ≤ w.heap.size) : (w.alloc (.cells #[x, y, z] 24)).ownsRow B 24 3 (.slice (some ⟨w.heap.size, 0, none⟩) 1 1) 1 [x, y, z] :=
  ⟨rfl, Or.inr ⟨w.heap.size, 1, #[x, y, z], rfl, hB, heap_alloc_new w _, Nat.le_refl _, by decide, rfl, rfl⟩⟩

set_option maxHeartbeats 4000000 in
set_option maxRecDepth 100000 in
theorem all_any : ∀ (k : Nat) (cs : List Value) (d : D) (w : World), RX w k cs d → (listX k d).length ≤ 15 →
    Calls Try.prog 23 #[.agg cs.toArray] w fun e w' => ∃ v xs, e = .returned v ∧ w'.ownsRow w.heap.size 24 3 v (listX k d).length xs ∧ CellsOf (listX k d) xs ∧ Below w.heap.size w w' := by
  intro k
  induction k with
  | zero => intro cs d w h; exact h.elim
  | succ k ih =>
    intro cs d w h hm
    obtain ⟨kd, n, v, ds, rfl, rfl, hkd, hn, hlen, ao, cap, rfl, hc⟩ := h
    obtain ⟨i0, hi, hz0, hz1, hz2⟩ := info_parts Try.infoX
    have HC := hide hc
    have IH := hide ih
    have HL : ds.length ≤ 9223372036854775807 := hlen
    have hspec : listX (k + 1) (xD kd n ds) = xD kd n ds :: ds.flatMap (listX k) := rfl
    rw [hspec] at hm ⊢
    have hmm : ∀ j, j ≤ ds.length → (xD kd n ds :: (ds.take j).flatMap (listX k)).length ≤ 15 := fun j hj => by
      have h2 : ds.flatMap (listX k) = (ds.take j).flatMap (listX k) ++ (ds.drop j).flatMap (listX k) := by rw [← List.flatMap_append, List.take_append_drop]
      rw [h2] at hm
      simp only [List.length_cons, List.length_append] at hm ⊢
      omega
    have HM := hide hmm
    clear hc ih hspec hkd hn hlen hmm
    obtain ⟨w0, hw0⟩ : ∃ w0, w0 = w.alloc (.cells #[.int .i64 kd, .int .i64 n, .slice ao ds.length cap] 24) := ⟨_, rfl⟩
    have hbel : Below w.heap.size w w0 := by rw [hw0]; exact (Below.refl _ w).alloc (Nat.le_refl _) _
    have hsz0 : w0.heap.size = w.heap.size + 1 := by rw [hw0]; simp
    have hbx : w0.cell? ⟨w.heap.size, 2, none⟩ = some (.slice ao ds.length cap) := by rw [hw0]; simp [go_sem]
    have hal : Below w0.heap.size w0 (w0.alloc (.cells #[.int .i64 kd, .int .i64 n, .slice ao ds.length cap] 24)) := (Below.refl _ w0).alloc (Nat.le_refl _) _
    have hbx' := cell_over hal _ _ hbx
    have hown0 := own_first w0 (.int .i64 kd) (.int .i64 n) (.slice ao ds.length cap) (w.heap.size + 1) (by omega)
    have hB0 : Below w.heap.size w (w0.alloc (.cells #[.int .i64 kd, .int .i64 n, .slice ao ds.length cap] 24)) := hbel.trans (hal.mono hbel.size)
    have HS := hide (And.intro hown0 (And.intro hbx' hB0))
    rw [hw0] at HS
    clear hal hbx hbx' hown0 hB0 hbel hsz0 hw0
    show Calls Try.prog 23 #[.agg #[.int .i64 kd, .int .i64 n, .slice ao ds.length cap]] w _
    go_enter Try.func23, Try.ntmps23
    go_wp2_with fail
    go_loopw [3, 4] (fun out i wr => ∃ (j : Nat) (xs : List Value), j ≤ ds.length ∧ i = .int .i64 j ∧ wr.ownsRow (w.heap.size + 1) 24 3 out (xD kd n ds :: (ds.take j).flatMap (listX k)).length xs ∧ CellsOf (xD kd n ds :: (ds.take j).flatMap (listX k)) xs ∧ wr.cell? ⟨w.heap.size, 2, none⟩ = some (.slice ao ds.length cap) ∧ Below w.heap.size w wr) (fun _ i _ => ds.length - (intOf i).toNat)
    case atStart =>
      obtain ⟨h1, h2, h3⟩ := HS.out
      refine ⟨0, [.int .i64 kd, .int .i64 n, .slice ao ds.length cap], Nat.zero_le _, rfl, ?_, ⟨ao, cap, [], rfl, rfl⟩, h2, h3⟩
      simpa using h1
    case round =>
      clear HS
      obtain ⟨j, xs, hj, rfl, hown, hcl, c2, hB⟩ := hrel
      by_cases hjl : j < ds.length
      · obtain ⟨b, off, rfl, hel⟩ := HC.out (by rintro rfl; simp at hjl)
        obtain ⟨cs, hl3, hcs, hr⟩ := hel j ds[j] (List.getElem?_eq_getElem hjl)
        have hm1 := HM.out (j + 1) hjl
        have htk : (ds.take (j + 1)).flatMap (listX k) = (ds.take j).flatMap (listX k) ++ listX k ds[j] := by
          rw [List.take_succ_eq_append_getElem hjl, List.flatMap_append]; simp
        rw [htk] at hm1
        have HTK := hide htk
        have hpos := listX_pos hr
        obtain ⟨ao', cap', hcse⟩ := hr.form
        obtain ⟨dj, hdj⟩ : ∃ dj, dj = ds[j] := ⟨_, rfl⟩
        rw [← hdj] at hr hcse hpos hm1 HTK
        obtain ⟨pre, hpre⟩ : ∃ p, p = xD kd n ds :: (ds.take j).flatMap (listX k) := ⟨_, rfl⟩
        rw [← List.cons_append, ← hpre, List.length_append] at hm1
        rw [← hpre] at hown hcl
        obtain ⟨kj, hkj⟩ : ∃ q, q = kindOf dj := ⟨_, rfl⟩
        obtain ⟨nj, hnj⟩ : ∃ q, q = numOf dj := ⟨_, rfl⟩
        obtain ⟨lj, hlj⟩ : ∃ q, q = (argsOf dj).length := ⟨_, rfl⟩
        rw [← hkj, ← hnj, ← hlj] at hcse
        subst hcse
        have q0 : wr.cell? ⟨b, off + j * 3, none⟩ = _ := cell_over hB _ _ (hcs 0 _ rfl)
        have q1 := cell_over hB _ _ (hcs 1 _ rfl)
        have q2 := cell_over hB _ _ (hcs 2 _ rfl)
        have hcall := IH.out _ dj wr (hr.over hB) (by omega)
        have HCALL := hide hcall
        have HPRE := hide hpre
        have HOWN := hide hown
        have hppos : 0 < pre.length := by rw [hpre]; simp
        obtain ⟨g, gc, hgv, hgb, hgl, hgc⟩ := own_cells hown hppos
        clear hcall hkj hnj hlj hr hcs hel hl3 hdj htk hpre hown hgc
        subst hgv
        go_wp2_with fail
        refine (HCALL.out).mono ?_
        rintro e w1 ⟨v1, ys, rfl, hown1, hcl1, hb1⟩
        obtain ⟨g1, gc1, rfl, hgb1, hgl1, hgc1⟩ := own_cells hown1 hpos
        have c2' := cell_over hb1 _ _ c2
        have hB' : Below w.heap.size w w1 := hB.trans (hb1.mono hB.size)
        have hownA := own_over HOWN.out hb1
        have hs1 : w.heap.size + 1 ≤ w1.heap.size := World.block_lt_of_cell? w1 _ c2'
        clear c2 q0 q1 q2 hB hb1 HCALL HOWN
        go_wp2_with (at_builtin; refine wpList_append_own _ rfl _ _ 22 rfl (w.heap.size + 1) 24 i0 (.agg #[.int .i64 0, .int .i64 0, .slice none 0 0]) 3 40 Try.underlying22 hi hz0 hz1 hz2 rfl (by decide) _ _ _ rfl hownA ⟨g1, 0, none⟩ (listX k dj).length gc1 ys rfl hcl1.length hgc1 hcl1.one (by unfold maxLen; omega) (by omega) hs1 ?_)
        intro v2 w2 hown2 hgr2 _
        have hbl2 := below_grown hownA hgr2 hs1
        have c3 : w2.cell? ⟨w.heap.size, 2, none⟩ = some (.slice (some ⟨b, off, none⟩) ds.length cap) := by
          rw [hbl2.cell (p := ⟨w.heap.size, 2, none⟩) (Nat.lt_succ_self _)]
          exact c2'
        have hB2 : Below w.heap.size w w2 := hB'.trans (hbl2.mono (Nat.le_succ _))
        have HF := hide (And.intro hown2 (hcl.append hcl1))
        clear c2' hownA hown2 hgr2 hbl2 hB' hown1 hcl1 hgc1 hcl
        go_wp2_with fail
        refine ⟨⟨j + 1, xs ++ ys, by omega, by go_num, ?_, ?_, c3, hB2⟩, by simp [intOf]; omega⟩
        · rw [HTK.out, ← List.cons_append, ← HPRE.out, List.length_append]
          exact HF.out.1
        · rw [HTK.out, ← List.cons_append, ← HPRE.out]
          exact HF.out.2
      · have hd : (ds.take j).flatMap (listX k) = ds.flatMap (listX k) := by rw [List.take_of_length_le (by omega)]
        rw [hd] at hown hcl
        have HO := hide hown
        have HCL := hide hcl
        have hppos : 0 < (xD kd n ds :: ds.flatMap (listX k)).length := by simp
        obtain ⟨g, gc, hgv, hgb, hgl, hgc⟩ := own_cells hown hppos
        subst hgv
        clear hd hown hcl hgc
        go_wp2_with fail
        go_ret
        exact ⟨_, xs, rfl, own_base HO.out (by omega), HCL.out, hB⟩
end Go.Proofs.Ytdbepdabkciiiaa.Ex
