/- veilworklaw.LabelJoins answers true, whatever it is handed: levels that are right. -/
import Derived.Test.YtekgnjifopgboaaJoinsA
namespace Go.Proofs.Ytekgnjifopgboaa
open Go.RowKit
set_option linter.unusedVariables false
attribute [local go_sem ↓] Go.wp_at_zero Go.wp_at_succ

theorem fresh_over {w W W' : World} {v : Value} {L : Lev} (h : LevFresh w W v L) (hb : Below W.heap.size W W') : LevFresh w W' v L := by
  obtain ⟨vr, vw, e, h1, h2, h3⟩ := h
  exact ⟨vr, vw, e, ownB_over h1 hb, ownB_over h2 hb, h3⟩

theorem useB {w w8 W : World} {p1 p2 p3 p4 : Prop} (hB : Below w.heap.size w w8) (h : p1 ∧ p2 ∧ p3 ∧ p4 ∧ Below w8.heap.size w8 W) : Below w.heap.size w W := hB.trans (h.2.2.2.2.mono hB.size)

theorem two_stored {wa wb wm : World} {p q : Nat} {x y z u a b c d : Value} {L M : Lev} (hne : q ≠ p) (h1 : LevFresh wa wm (.agg #[a, b]) L) (h2 : LevFresh wb wm (.agg #[c, d]) M) (hp : wm.heap[p]? = some (.cells #[x, y] 30 (0, 0))) (hq : wm.heap[q]? = some (.cells #[z, u] 30 (0, 0))) :
    Box ((((wm.setCell ⟨p, 0, none⟩ a).setCell ⟨p, 1, none⟩ b).setCell ⟨q, 0, none⟩ c).setCell ⟨q, 1, none⟩ d) p a b L ∧ Box ((((wm.setCell ⟨p, 0, none⟩ a).setCell ⟨p, 1, none⟩ b).setCell ⟨q, 0, none⟩ c).setCell ⟨q, 1, none⟩ d) q c d M := by
  have hq' := heap_set2 (a := a) (b := b) hq hne
  have hp' := heap_set2 (a := c) (b := d) (box_set (a := a) (b := b) hp) (Ne.symm hne)
  obtain ⟨e0, e1, -, -⟩ := cells_of_pair hp'
  exact ⟨⟨e0, e1, levFresh_at (fresh_set (fresh_set h1 hp) hq')⟩, box_stored (fresh_set h2 hp) hq'⟩

set_option maxRecDepth 100000 in
set_option maxHeartbeats 8000000 in
theorem joins_ok (m : Int) (v : Value) (gs : List (Int × Int)) (vl vk : Value) (l k : Lev) (w : World) (hv : IsGrants w v gs) (hl : LevAt w vl l) (hk : LevAt w vk k) (hE : chkErr m gs = 0) (hL : levErr m l = 0) (hK : levErr m k = 0) :
    Calls Try.prog 4 #[.agg #[.int .i64 m, v], vl, vk] w fun e w' => e = .returned (.bool true) ∧ Below w.heap.size w w' := by
  have hKF := fun (W : World) (hW : Below w.heap.size w W) => flowsOk m v gs vl vk l k W (isGrants_over hv hW) (levAt_over hl hW) (levAt_over hk hW)
  have hKJ := fun (W : World) (hW : Below w.heap.size w W) => joinOk m v gs vl vk l k W (isGrants_over hv hW) (levAt_over hl hW) (levAt_over hk hW)
  have hKM := fun (W : World) (hW : Below w.heap.size w W) => meetOk m v gs vl vk l k W (isGrants_over hv hW) (levAt_over hl hW) (levAt_over hk hW)
  have hKA := fun (W : World) (hW : Below w.heap.size w W) => refCheck_any m v gs W (isGrants_over hv hW)
  have hKl := fun (W : World) (hW : Below w.heap.size w W) => checkLevel_any m v vl l W (levAt_over hl hW)
  have hKk := fun (W : World) (hW : Below w.heap.size w W) => checkLevel_any m v vk k W (levAt_over hk hW)
  have hKR := fun (W : World) (hW : Below w.heap.size w W) => rightOk m v gs vl l W (isGrants_over hv hW) (levAt_over hl hW)
  obtain ⟨hX, hY⟩ := lTwo_k (l := l) (k := k) hE hL
  rw [hK] at hX
  rw [hX, if_pos rfl] at hKJ hKM
  rw [hX, decide_eq_true rfl, Bool.true_and] at hKF
  rw [hY] at hKR
  rw [hE] at hKA
  rw [hL] at hKl
  rw [hK] at hKk
  obtain ⟨n, rfl, h1, h6, hln, hkn, _⟩ := lTwo_ok hX
  simp only [Int.toNat_natCast] at hKJ hKM hKF
  have hKG := fun (W : World) (hW : Below w.heap.size w W) => flowsTo_any vl vk l k n W (levAt_over hl hW) (levAt_over hk hW) h1 h6 hln hkn
  have KJn := hide fun (W : World) (hW : Below w.heap.size w W) => join_any vl vk l k n W (levAt_over hl hW) (levAt_over hk hW) h1 h6 hln hkn
  have KMt := hide fun (W : World) (hW : Below w.heap.size w W) => meet_any vl vk l k n W (levAt_over hl hW) (levAt_over hk hW) h1 h6 hln hkn
  obtain ⟨fl, hfl⟩ : ∃ fl, fl = flowsB l k n := ⟨_, rfl⟩
  rw [← hfl] at hKF hKG
  have KG := hide hKG
  have HFJ := hide (levelIs_self (joinL l k n) (joinL l k n) 0 (by simp))
  have HFM := hide (levelIs_self (meetL l k n) (meetL l k n) 0 (by simp))
  have HSJ := hide (joinL_small l k n h6).1
  have HSM := hide (joinL_small l k n h6).2
  have HLN := hide (joinL_len l k n)
  clear hX hY hE hL hK hfl hKG hln hkn
  have KI := hide fun (vl vm : Value) (W : World) (hl : LevAt W vl (joinL l k n)) (hm : LevAt W vm (joinL l k n)) => levelIs_any vl vm (joinL l k n) (joinL l k n) 0 0 W hl hm HSJ.out
  have KI2 := hide fun (vl vm : Value) (W : World) (hl : LevAt W vl (meetL l k n)) (hm : LevAt W vm (meetL l k n)) => levelIs_any vl vm (meetL l k n) (meetL l k n) 0 0 W hl hm HSM.out
  have KF := hide hKF
  have KJ := hide hKJ
  have KM := hide hKM
  have KA := hide hKA
  have Kl := hide hKl
  have Kk := hide hKk
  have KR := hide hKR
  obtain ⟨a1, k1, a2, k2, rfl⟩ := lev_form hl
  obtain ⟨a3, k3, a4, k4, rfl⟩ := lev_form hk
  obtain ⟨va, vn, vc, rfl⟩ := grants_form hv
  have hs0 : Hid ((((w.alloc (.cells #[.int .i64 n, .slice va vn vc] 24)).alloc (.cells #[.slice a1 l.r.length k1, .slice a2 l.w.length k2] 30)).alloc (.cells #[.slice a3 k.r.length k3, .slice a4 k.w.length k4] 30)).cell? ⟨w.heap.size, 0, none⟩ = some (.int .i64 n) ∧ (((w.alloc (.cells #[.int .i64 n, .slice va vn vc] 24)).alloc (.cells #[.slice a1 l.r.length k1, .slice a2 l.w.length k2] 30)).alloc (.cells #[.slice a3 k.r.length k3, .slice a4 k.w.length k4] 30)).cell? ⟨w.heap.size, 1, none⟩ = some (.slice va vn vc) ∧ (((w.alloc (.cells #[.int .i64 n, .slice va vn vc] 24)).alloc (.cells #[.slice a1 l.r.length k1, .slice a2 l.w.length k2] 30)).alloc (.cells #[.slice a3 k.r.length k3, .slice a4 k.w.length k4] 30)).cell? ⟨w.heap.size + 1, 0, none⟩ = some (.slice a1 l.r.length k1) ∧ (((w.alloc (.cells #[.int .i64 n, .slice va vn vc] 24)).alloc (.cells #[.slice a1 l.r.length k1, .slice a2 l.w.length k2] 30)).alloc (.cells #[.slice a3 k.r.length k3, .slice a4 k.w.length k4] 30)).cell? ⟨w.heap.size + 1, 1, none⟩ = some (.slice a2 l.w.length k2) ∧ (((w.alloc (.cells #[.int .i64 n, .slice va vn vc] 24)).alloc (.cells #[.slice a1 l.r.length k1, .slice a2 l.w.length k2] 30)).alloc (.cells #[.slice a3 k.r.length k3, .slice a4 k.w.length k4] 30)).cell? ⟨w.heap.size + 1 + 1, 0, none⟩ = some (.slice a3 k.r.length k3) ∧ (((w.alloc (.cells #[.int .i64 n, .slice va vn vc] 24)).alloc (.cells #[.slice a1 l.r.length k1, .slice a2 l.w.length k2] 30)).alloc (.cells #[.slice a3 k.r.length k3, .slice a4 k.w.length k4] 30)).cell? ⟨w.heap.size + 1 + 1, 1, none⟩ = some (.slice a4 k.w.length k4) ∧ Below w.heap.size w (((w.alloc (.cells #[.int .i64 n, .slice va vn vc] 24)).alloc (.cells #[.slice a1 l.r.length k1, .slice a2 l.w.length k2] 30)).alloc (.cells #[.slice a3 k.r.length k3, .slice a4 k.w.length k4] 30))) := ⟨by simp [go_sem], by simp [go_sem], by simp [go_sem], by simp [go_sem], by simp [go_sem], by simp [go_sem], (((Below.refl _ w).alloc (Nat.le_refl _) _).alloc (by simp) _).alloc (by simp; omega) _⟩
  clear hKF hKJ hKM hKA hKl hKk hKR hv hl hk
  have hB := hs0.out.2.2.2.2.2.2
  go_enter Try.func4, Try.ntmps4
  go_wp2_with fail
  refine (KF.out _ hB).mono ?_
  rintro e w1 ⟨rfl, hb1⟩
  clear hB
  have hs1 := hide (held6 hs0.out hb1)
  clear hs0 
  clear hb1 KF
  obtain ⟨c0, c1, c2, c3, c4, c5, hB⟩ := hs1.out
  go_wp2_with fail
  refine (KJ.out _ hB).mono ?_
  rintro e w2 ⟨vj, rfl, hjf, hb2⟩
  have hs2 := hide (held6 hs1.out hb2)
  clear hs1 
  clear c0 c1 c2 c3 c4 c5 hB
  have hja := levFresh_at hjf
  obtain ⟨a5, k5, a6, k6, rfl⟩ := lev_form hja
  have hal2 := (Below.refl _ w2).alloc (Nat.le_refl _) (.cells #[.slice a5 (joinL l k n).r.length k5, .slice a6 (joinL l k n).w.length k6] 30)
  have hj3 := hide (box_new hja)
  have hs3 := hide (held6 hs2.out hal2)
  clear hs2 
  clear hjf hja hb2 hal2 KJ
  obtain ⟨c0, c1, c2, c3, c4, c5, hB⟩ := hs3.out
  go_wp2_with fail
  refine (KM.out _ hB).mono ?_
  rintro e w4 ⟨vm, rfl, hmf, hb4⟩
  have hs4 := hide (held6 hs3.out hb4)
  have hj4 := hide (hj3.out.over hb4)
  clear hs3 hj3
  clear c0 c1 c2 c3 c4 c5 hB
  have hma := levFresh_at hmf
  obtain ⟨a7, k7, a8, k8, rfl⟩ := lev_form hma
  have hal4 := (Below.refl _ w4).alloc (Nat.le_refl _) (.cells #[.slice a7 (meetL l k n).r.length k7, .slice a8 (meetL l k n).w.length k8] 30)
  have hm5 := hide (box_new hma)
  have hs5 := hide (held6 hs4.out hal4)
  have hj5 := hide (hj4.out.over hal4)
  clear hs4 hj4
  clear hmf hma hb4 hal4 KM
  obtain ⟨c0, c1, c2, c3, c4, c5, hB⟩ := hs5.out
  go_wp2_with fail
  refine (KA.out _ hB).mono ?_
  rintro e w6 ⟨rfl, hb6⟩
  clear c0 c1 c2 c3 c4 c5 hB
  have hs6 := hide (held6 hs5.out hb6)
  have hj6 := hide (hj5.out.over hb6)
  have hm6 := hide (hm5.out.over hb6)
  clear hs5 hj5 hm5
  clear hb6 KA
  obtain ⟨c0, c1, c2, c3, c4, c5, hB⟩ := hs6.out
  go_wp2_with fail
  refine (Kl.out _ hB).mono ?_
  rintro e w7 ⟨rfl, hb7⟩
  clear c0 c1 c2 c3 c4 c5 hB
  have hs7 := hide (held6 hs6.out hb7)
  have hj7 := hide (hj6.out.over hb7)
  have hm7 := hide (hm6.out.over hb7)
  clear hs6 hj6 hm6
  clear hb7 Kl
  obtain ⟨c0, c1, c2, c3, c4, c5, hB⟩ := hs7.out
  go_wp2_with fail
  refine (Kk.out _ hB).mono ?_
  rintro e w8 ⟨rfl, hb8⟩
  clear c0 c1 c2 c3 c4 c5 hB
  have hs8 := hide (held6 hs7.out hb8)
  have hj8 := hide (hj7.out.over hb8)
  have hm8 := hide (hm7.out.over hb8)
  clear hs7 hj7 hm7
  clear hb8 Kk
  have al1 := (Below.refl _ w8).alloc (Nat.le_refl _) (.cells #[.slice none 0 0, .slice none 0 0] 30)
  have al2 := (Below.refl _ (w8.alloc (.cells #[.slice none 0 0, .slice none 0 0] 30))).alloc (Nat.le_refl _) (.cells #[.slice none 0 0, .slice none 0 0] 30)
  have al := al1.trans (al2.mono al1.size)
  have hp9 : ((w8.alloc (.cells #[.slice none 0 0, .slice none 0 0] 30)).alloc (.cells #[.slice none 0 0, .slice none 0 0] 30)).heap[w8.heap.size]? = some (.cells #[.slice none 0 0, .slice none 0 0] 30 (0, 0)) := box_over (heap_of_alloc w8 _) al2
  have hq9 : ((w8.alloc (.cells #[.slice none 0 0, .slice none 0 0] 30)).alloc (.cells #[.slice none 0 0, .slice none 0 0] 30)).heap[w8.heap.size + 1]? = some (.cells #[.slice none 0 0, .slice none 0 0] 30 (0, 0)) := by have := heap_of_alloc (w8.alloc (.cells #[.slice none 0 0, .slice none 0 0] 30)) (.cells #[.slice none 0 0, .slice none 0 0] 30); simpa using this
  have hB8 := hs8.out.2.2.2.2.2.2
  obtain ⟨-, -, d2, d3, d4, d5, -⟩ := held6 hs8.out al
  have L1 := hide (World.block_lt_of_cell? w8 _ hs8.out.2.2.1)
  have L2 := hide (World.block_lt_of_cell? w8 _ hs8.out.2.2.2.2.1)
  have AL := hide al
  have HP9 := hide hp9
  have HQ9 := hide hq9
  clear al1 al2 al hp9 hq9
  go_wp2_with fail
  first | go_region_held3 (fun W => W.cell? ⟨w.heap.size + 1, 0, none⟩ = some (.slice a1 l.r.length k1) ∧ W.cell? ⟨w.heap.size + 1, 1, none⟩ = some (.slice a2 l.w.length k2) ∧ W.cell? ⟨w.heap.size + 1 + 1, 0, none⟩ = some (.slice a3 k.r.length k3) ∧ W.cell? ⟨w.heap.size + 1 + 1, 1, none⟩ = some (.slice a4 k.w.length k4) ∧ Below w8.heap.size w8 W) (first | assumption | exact ⟨d2, d3, d4, d5, below_drewN AL.out 1⟩ | exact held4 (by assumption) hbm | exact held4 (by assumption) hbj | exact held4 (by assumption) hbf | exact held_set (held_set (by assumption) L1.out L2.out (Nat.le_refl _)) L1.out L2.out (Nat.le_refl _) | exact held_set (held_set (by assumption) L1.out L2.out (Nat.le_succ _)) L1.out L2.out (Nat.le_succ _) | fail) (first | (go_at_call 19; refine (KG.out _ (useB hB8 (by assumption))).mono ?_; rintro e wf ⟨rfl, hbf⟩) | (go_at_call 20; refine (KJn.out _ (useB hB8 (by assumption))).mono ?_; rintro e wj ⟨jr, jw, rfl, hj1, hj2, hj3, hbj⟩; have hfj : LevFresh wf wj (.agg #[jr, jw]) (joinL l k n) := ⟨jr, jw, rfl, (by rw [HLN.out.1.1]; exact hj1), (by rw [HLN.out.1.2]; exact hj2), hj3⟩; obtain ⟨g1, q1, rfl⟩ := ownB_some hj1 h1; obtain ⟨g2, q2, rfl⟩ := ownB_some hj2 h1; have HFJN := hide hfj; clear hj1 hj2 hj3 hfj) | (go_at_call 21; refine (KMt.out _ (useB hB8 (by assumption))).mono ?_; rintro e wm ⟨mr, mw, rfl, hm1, hm2, hm3, hbm⟩; have hfm : LevFresh wj wm (.agg #[mr, mw]) (meetL l k n) := ⟨mr, mw, rfl, (by rw [HLN.out.2.1]; exact hm1), (by rw [HLN.out.2.2]; exact hm2), hm3⟩; obtain ⟨g3, q3, rfl⟩ := ownB_some hm1 h1; obtain ⟨g4, q4, rfl⟩ := ownB_some hm2 h1; have HFMN := hide hfm; clear hm1 hm2 hm3 hfm; have HPM := hide (box_over (box_over (box_over (W := ((w8.alloc (.cells #[.slice none 0 0, .slice none 0 0] 30)).alloc (.cells #[.slice none 0 0, .slice none 0 0] 30)).drew) HP9.out hbf) hbj) hbm); have HQM := hide (box_over (box_over (box_over (W := ((w8.alloc (.cells #[.slice none 0 0, .slice none 0 0] 30)).alloc (.cells #[.slice none 0 0, .slice none 0 0] 30)).drew) HQ9.out hbf) hbj) hbm); obtain ⟨z0, z1, z2, z3⟩ := cells_of_pair HPM.out; obtain ⟨y0, y1, y2, y3⟩ := cells_of_pair HQM.out)) | fail
  have hst := two_stored (wa := wf) (wb := wj) (p := w8.heap.size) (q := w8.heap.size + 1) (by omega) (fresh_over HFJN.out hbm) HFMN.out HPM.out HQM.out
  have hu10 := hide hst.1
  have hv10 := hide hst.2
  have hd1 := below_drewN AL.out 1
  have hd2 := hd1.trans (hbf.mono hd1.size)
  have hd3 := hd2.trans (hbj.mono hd2.size)
  have hd4 := hd3.trans (hbm.mono hd3.size)
  have hfin := (((hd4.setCell (p := ⟨w8.heap.size, 0, none⟩) (Nat.le_refl _) (.slice (some ⟨g1, 0, none⟩) n q1)).setCell (p := ⟨w8.heap.size, 1, none⟩) (Nat.le_refl _) (.slice (some ⟨g2, 0, none⟩) n q2)).setCell (p := ⟨w8.heap.size + 1, 0, none⟩) (Nat.le_succ _) (.slice (some ⟨g3, 0, none⟩) n q3)).setCell (p := ⟨w8.heap.size + 1, 1, none⟩) (Nat.le_succ _) (.slice (some ⟨g4, 0, none⟩) n q4)
  have hs10 := hide (held6 hs8.out hfin)
  have hj10 := hide (hj8.out.over hfin)
  have hm10 := hide (hm8.out.over hfin)
  clear hs8 hj8 hm8
  clear hst hd1 hd2 hd3 hd4 hfin HFJN HFMN HPM HQM AL HP9 HQ9 z0 z1 z2 z3 y0 y1 y2 y3 d2 d3 d4 d5 hbf hbj hbm KG KJn KMt HLN hB8 L1 L2
  have bb : (fl == fl) = true := by simp
  go_wp2_with fail
  refine (begun_any _).mono ?_
  rintro e w11 ⟨rfl, hb11⟩
  have hs11 := hide (held6 hs10.out hb11)
  have hj11 := hide (hj10.out.over hb11)
  have hm11 := hide (hm10.out.over hb11)
  have hu11 := hide (hu10.out.over hb11)
  have hv11 := hide (hv10.out.over hb11)
  clear hs10 hj10 hm10 hu10 hv10
  clear hb11
  obtain ⟨c0, c1, c2, c3, c4, c5, hB⟩ := hs11.out
  go_wp2_with fail
  refine (KR.out _ hB).mono ?_
  rintro e w12 ⟨rfl, hb12⟩
  clear c0 c1 c2 c3 c4 c5 hB
  have hs12 := hide (held6 hs11.out hb12)
  have hj12 := hide (hj11.out.over hb12)
  have hm12 := hide (hm11.out.over hb12)
  have hu12 := hide (hu11.out.over hb12)
  have hv12 := hide (hv11.out.over hb12)
  clear hs11 hj11 hm11 hu11 hv11
  have hB := hs12.out.2.2.2.2.2.2
  obtain ⟨x0, x1, -⟩ := hj12.out
  obtain ⟨y0, y1, -⟩ := hu12.out
  clear hb12 KR
  go_wp2_with fail
  refine (KI.out _ _ _ hj12.out.2.2 hu12.out.2.2).mono ?_
  rintro e w13 ⟨rfl, hb13⟩
  have hB13 := hB.trans (hb13.mono hB.size)
  have hm13 := hide (hm12.out.over hb13)
  have hv13 := hide (hv12.out.over hb13)
  have e1 := HFJ.out
  clear x0 x1 y0 y1 hj12 hu12 hm12 hv12 hb13 KI hB hs12
  obtain ⟨x0, x1, -⟩ := hm13.out
  obtain ⟨y0, y1, -⟩ := hv13.out
  go_wp2_with fail
  refine (KI2.out _ _ _ hm13.out.2.2 hv13.out.2.2).mono ?_
  rintro e w14 ⟨rfl, hb14⟩
  have hB14 := hB13.trans (hb14.mono hB13.size)
  have e2 := HFM.out
  clear x0 x1 y0 y1 hm13 hv13 hb14 KI2 hB13
  go_wp2_with fail
  go_ret
  exact ⟨by first | rfl | (simp; done) | (simp only [e2]; rfl), hB14⟩

theorem joins_any (m : Int) (v : Value) (gs : List (Int × Int)) (vl : Value) (l : Lev) (vk : Value) (k : Lev) (w : World) (hv : IsGrants w v gs) (hl : LevAt w vl l) (_ : l.small) (hk : LevAt w vk k) (_ : k.small) :
    Calls Try.prog 4 #[.agg #[.int .i64 m, v], vl, vk] w fun e w' => e = .returned (.bool true) ∧ Below w.heap.size w w' := by
  by_cases hE : chkErr m gs = 0
  · rcases levErr_cases m l with ⟨hL, _⟩ | ⟨hL, _⟩
    · rcases levErr_cases m k with ⟨hK, _⟩ | ⟨hK, _⟩
      · exact joins_ok m v gs vl vk l k w hv hl hk hE hL hK
      · exact joins_k m v gs vl vk l k w hv hl hk hE hL hK
    · exact joins_l m v gs vl vk l k w hv hl hk hE hL
  · exact joins_chk m v gs vl vk l k w hv hl hk hE
end Go.Proofs.Ytekgnjifopgboaa
