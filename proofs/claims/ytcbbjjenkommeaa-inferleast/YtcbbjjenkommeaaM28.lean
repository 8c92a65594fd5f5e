/- What must be in any case, of levels that are inferred. -/
import Derived.Test.YtcbbjjenkommeaaM27
namespace Go.Proofs.Ytcbbjjenkommeaa.Ex
open Go.RowKit
set_option linter.unusedVariables false
set_option linter.unusedSimpArgs false
theorem one_bool {W : World} {b : Nat} (h : W.cell? ⟨b, 0, none⟩ = some (.bool true)) : IsBools W (.slice (some ⟨b, 0, none⟩) 1 1) [true] := ⟨some ⟨b, 0, none⟩, 1, rfl, fun _ => ⟨b, 0, rfl, fun i hi => by
  have : i = 0 := by simp at hi; omega
  subst this
  exact h⟩⟩
theorem newA' (cs : Array Value) (t : Nat) (w : World) : RowAt cs.toList (w.alloc (.cells cs t)) w.heap.size := by
  have := RowAt.new cs.toList t w
  simpa using this
theorem rowAt' {cs : List Value} {w w' : World} {b : Nat} {a : Array Value} {t : Nat} (ha : a.toList = cs) (hb : b = w.heap.size) (hw : Below (w.alloc (.cells a t)).heap.size (w.alloc (.cells a t)) w') : RowAt cs w' b := by
  subst hb
  rw [← ha]
  exact (newA' a t w).over hw
set_option maxHeartbeats 4000000 in
set_option maxRecDepth 100000 in
theorem small' (w : World) : Calls Try.prog 30 #[] w fun e w' => ∃ bi bo bv bm, e = .returned (.agg #[.int .i64 1, .slice none 0 0, .slice none 0 0, .slice (some ⟨bi, 0, none⟩) 1 1, .slice (some ⟨bo, 0, none⟩) 1 1, .slice (some ⟨bv, 0, none⟩) 1 1, .slice none 0 0, .slice (some ⟨bm, 0, none⟩) 2 2]) ∧ Small bi bo bv bm w' ∧ Below w.heap.size w w' := by
  go_enter Try.func30, Try.ntmps30
  go_wp2_with fail
  have hbr := fun (W : World) (o : Obj) => (Below.refl _ W).alloc (Nat.le_refl _) o
  refine bodyPost_ret (v := smallV (w.heap.size + 1) (w.heap.size + 1 + 1) (w.heap.size + 1 + 1 + 1) (w.heap.size + 1 + 1 + 1 + 1)) (by simp [results, Try.results30, go_sem]) rfl ⟨_, _, _, _, rfl, ⟨?_, ?_, ?_, ?_⟩, ?_⟩
  · exact rowAt' rfl (by simp) (over_trans (over_trans (hbr _ _) (hbr _ _)) (hbr _ _))
  · exact rowAt' rfl (by simp) (over_trans (hbr _ _) (hbr _ _))
  · exact rowAt' rfl (by simp) (hbr _ _)
  · exact rowAt' rfl (by simp) (Below.refl _ _)
  · exact over_trans (over_trans (over_trans (over_trans (hbr _ _) (hbr _ _)) (hbr _ _)) (hbr _ _)) (hbr _ _)

set_option maxHeartbeats 8000000 in
set_option maxRecDepth 100000 in
theorem inferBegun_any (w : World) : Calls Try.prog 16 #[] w fun e w' => e = .returned (.bool true) ∧ Below w.heap.size w w' := by
  have K1 := hide small'
  go_enter Try.func16, Try.ntmps16
  go_wp2_with fail
  refine (K1.out _).mono ?_
  rintro e w1 ⟨bi, bo, bv, bm, rfl, hs, hb1⟩
  have K2 := hide (inferSmall bi bo bv bm w1 hs)
  go_wp2_with fail
  refine (K2.out).mono ?_
  rintro e w2 ⟨la, lc, ka, kc, rfl, h1, h2, hb2⟩
  have hba := (Below.refl _ w2).alloc (Nat.le_refl _) (.cells #[.slice la 1 lc, .slice ka 0 kc] 54)
  have HI1 := hide (isLevs_over h1 hba)
  have HI2 := hide (isLevs_over h2 hba)
  have HRL := hide (RowAt.new [.slice la 1 lc, .slice ka 0 kc] 54 w2)
  have HB2 := hide (over_trans (over_trans hb1 hb2) hba)
  have hS0 : (w2.alloc (.cells #[.slice la 1 lc, .slice ka 0 kc] 54)).cell? ⟨w2.heap.size, 0, none⟩ = some (.slice la 1 lc) ∧ (w2.alloc (.cells #[.slice la 1 lc, .slice ka 0 kc] 54)).cell? ⟨w2.heap.size, 1, none⟩ = some (.slice ka 0 kc) := ⟨HRL.out 0 _ rfl, HRL.out 1 _ rfl⟩
  clear hs hb1 K2 h1 h2 hb2 hba
  go_wp2_with fail
  refine wp_region_held_drew (S := fun Wz => Wz.cell? ⟨w2.heap.size, 0, none⟩ = some (.slice la 1 lc) ∧ Wz.cell? ⟨w2.heap.size, 1, none⟩ = some (.slice ka 0 kc)) (by kernel_rfl) (hS0) (fun hHeld => ?_)
  refine tk (i := 1) (oi := ⟨some 14, .load 54 (.tmp 1), 54, "flows.go:99", #[], none⟩) (v := ?_) (Or.inl ⟨by rfl, ?_⟩) (by assumption) ?_
  rotate_left
  · intro w' hSw
    (try dsimp only at hSw)
    go_simp
    try with_reducible rfl
  try simp only [aput]
  refine wpAnyH_ready (rs := [0]) (by kernel_rfl) (by simp) ?_
  refine AllReadyH.cons (o := { dst := some 13, op := Go.Op.call { callee := Go.Callee.value (Go.Operand.func 30), args := #[], argTypes := #[] }, type := 41, pos := "flows.go:99", after := #[], guard := none }) rfl (fun K hK => ?_) AllReadyH.nil
  go_simp
  refine (K1.out _).mono ?_
  rintro e W3 ⟨ci, co, cv, cm, rfl, hs3, hb3⟩
  have hbz := over_trans ((Below.refl _ (w2.alloc (.cells #[.slice la 1 lc, .slice ka 0 kc] 54))).drew) hb3
  have hr := HRL.out.over hbz
  have hS3 : W3.cell? ⟨w2.heap.size, 0, none⟩ = some (.slice la 1 lc) ∧ W3.cell? ⟨w2.heap.size, 1, none⟩ = some (.slice ka 0 kc) := ⟨hr 0 _ rfl, hr 1 _ rfl⟩
  have K5 := hide (fitsSmall ci co cv cm la lc ka kc W3 hs3 (isLevs_over HI1.out hbz) (isLevs_over HI2.out hbz))
  have HBZ3 := hide hbz
  clear hr hs3 hb3 hbz
  go_simp
  refine hK.out _ _ (hS3) (fun hHeld => ?_)
  clear hK K
  try simp only [aput]
  refine wpAnyH_ready (rs := [2]) (by kernel_rfl) (by simp) ?_
  refine AllReadyH.cons (o := { dst := some 15, op := Go.Op.call { callee := Go.Callee.value (Go.Operand.func 18), args := #[Go.Operand.tmp 13, Go.Operand.tmp 14], argTypes := #[41, 54] }, type := 57, pos := "flows.go:99", after := #[⟨0, .data⟩, ⟨1, .data⟩, ⟨0, .chain⟩], guard := none }) rfl (fun K hK => ?_) AllReadyH.nil
  go_simp
  refine (K5.out).mono ?_
  rintro e W4 ⟨rfl, hb4⟩
  have hbz := over_trans HBZ3.out hb4
  have hr := HRL.out.over hbz
  have hS4 : W4.cell? ⟨w2.heap.size, 0, none⟩ = some (.slice la 1 lc) ∧ W4.cell? ⟨w2.heap.size, 1, none⟩ = some (.slice ka 0 kc) := ⟨hr 0 _ rfl, hr 1 _ rfl⟩
  have HBZ4 := hide hbz
  clear hr hb4 hbz
  go_simp
  refine hK.out _ _ (hS4) (fun hHeld => ?_)
  clear hK K
  try simp only [aput]
  refine tk (i := 3) (oi := { dst := some 12, op := Go.Op.move (Go.Operand.tmp 15), type := 57, pos := "flows.go:99", after := #[⟨2, .data⟩], guard := none }) (v := ?_) (Or.inl ⟨by rfl, ?_⟩) (by assumption) ?_
  rotate_left
  · intro w' hSw
    (try dsimp only at hSw)
    go_simp
    try with_reducible rfl
  try simp only [aput]
  refine tk (i := 4) (oi := ⟨some 16, .extract (.tmp 12) 0, 4, "flows.go:99", #[⟨3, .data⟩], none⟩) (v := ?_) (Or.inl ⟨by rfl, ?_⟩) (by assumption) ?_
  rotate_left
  · intro w' hSw
    (try dsimp only at hSw)
    go_simp
    try with_reducible rfl
  try simp only [aput]
  refine tk (i := 5) (oi := ⟨some 17, .extract (.tmp 12) 1, 26, "flows.go:99", #[⟨3, .data⟩, ⟨6, .gcOnly Go.Departure.lateStores⟩], none⟩) (v := ?_) (Or.inl ⟨by rfl, ?_⟩) (by assumption) ?_
  rotate_left
  · intro w' hSw
    (try dsimp only at hSw)
    go_simp
    try with_reducible rfl
  try simp only [aput]
  refine tk (i := 6) (oi := ⟨some 3, .assign (.tmp 16), 4, "flows.go:99", #[⟨4, .data⟩, ⟨2, .chain⟩, ⟨0, .phase⟩, ⟨1, .phase⟩, ⟨2, .phase⟩, ⟨3, .phase⟩, ⟨4, .phase⟩, ⟨5, .textOnly Go.Departure.lateStores⟩], none⟩) (v := ?_) (Or.inl ⟨by rfl, ?_⟩) (by assumption) ?_
  rotate_left
  · intro w' hSw
    (try dsimp only at hSw)
    go_simp
    try with_reducible rfl
  try simp only [aput]
  refine tk (i := 7) (oi := ⟨some 4, .assign (.tmp 17), 26, "flows.go:99", #[⟨5, .data⟩, ⟨6, .chain⟩, ⟨0, .phase⟩, ⟨1, .phase⟩, ⟨2, .phase⟩, ⟨3, .phase⟩, ⟨4, .phase⟩, ⟨5, .phase⟩, ⟨6, .phase⟩], none⟩) (v := ?_) (Or.inl ⟨by rfl, ?_⟩) (by assumption) ?_
  rotate_left
  · intro w' hSw
    (try dsimp only at hSw)
    go_simp
    try with_reducible rfl
  try simp only [aput]
  refine wpAnyH_done (by kernel_rfl) ?_ _
  clear hS0 hS3 hHeld K5
  have hS0 := hS4
  clear hS4
  go_wp2_with fail
  refine wp_region_held_drew (S := fun Wz => Wz.cell? ⟨w2.heap.size, 0, none⟩ = some (.slice la 1 lc) ∧ Wz.cell? ⟨w2.heap.size, 1, none⟩ = some (.slice ka 0 kc)) (by kernel_rfl) (hS0) (fun hHeld => ?_)
  refine tk (i := 1) (oi := ⟨some 20, .load 54 (.tmp 1), 54, "flows.go:100", #[], none⟩) (v := ?_) (Or.inl ⟨by rfl, ?_⟩) (by assumption) ?_
  rotate_left
  · intro w' hSw
    (try dsimp only at hSw)
    go_simp
    try with_reducible rfl
  try simp only [aput]
  refine tk (i := 2) (oi := ⟨some 21, .build 24 #[(0, .const (Go.Value.int Go.IntKind.i64 2))], 24, "flows.go:100", #[], none⟩) (v := ?_) (Or.inl ⟨by rfl, ?_⟩) (by assumption) ?_
  rotate_left
  · intro w' hSw
    (try dsimp only at hSw)
    go_simp
    try with_reducible rfl
  try simp only [aput]
  refine wpAnyH_ready (rs := [0, 7]) (by kernel_rfl) (by simp) ?_
  refine (AllReadyH.cons (o := { dst := some 19, op := Go.Op.call { callee := Go.Callee.value (Go.Operand.func 30), args := #[], argTypes := #[] }, type := 41, pos := "flows.go:100", after := #[], guard := none }) rfl (fun K hK => ?_) (AllReadyH.cons (o := ⟨some 5, .alloc 62, 0, "flows.go:100", #[], none⟩) rfl (fun K hK => ?_) AllReadyH.nil))
  · go_simp
    refine (K1.out _).mono ?_
    rintro e W5 ⟨di, dj, dv, dm, rfl, hs5, hb5⟩
    have hbz5 : Below W4.heap.size W4 W5 := over_trans ((Below.refl _ W4).drew) hb5
    have hr := HRL.out.over (over_trans HBZ4.out hbz5)
    have hS5 : W5.cell? ⟨w2.heap.size, 0, none⟩ = some (.slice la 1 lc) ∧ W5.cell? ⟨w2.heap.size, 1, none⟩ = some (.slice ka 0 kc) := ⟨hr 0 _ rfl, hr 1 _ rfl⟩
    have HBZ5 := hide hbz5
    have HS5 := hide hs5
    clear hr hs5 hb5 hbz5
    go_simp
    refine hK.out _ _ (hS5) (fun hHeld => ?_)
    clear hK K
    try simp only [aput]
    refine wpAnyH_ready (rs := [3, 7]) (by kernel_rfl) (by simp) ?_
    refine (AllReadyH.cons (o := { dst := some 22, op := Go.Op.call { callee := Go.Callee.value (Go.Operand.func 42), args := #[Go.Operand.tmp 19, Go.Operand.tmp 20, Go.Operand.tmp 21], argTypes := #[41, 54, 24] }, type := 95, pos := "flows.go:100", after := #[⟨0, .data⟩, ⟨1, .data⟩, ⟨2, .data⟩, ⟨0, .chain⟩], guard := none }) rfl (fun K hK => ?_) (AllReadyH.cons (o := ⟨some 5, .alloc 62, 0, "flows.go:100", #[], none⟩) rfl (fun K hK => ?_) AllReadyH.nil))
    · go_simp
      refine (ofSmall di dj dv dm la lc ka kc _ (HS5.out) (isLevs_over HI1.out (over_trans HBZ4.out (HBZ5.out))) (isLevs_over HI2.out (over_trans HBZ4.out (HBZ5.out)))).mono ?_
      rintro e W6 ⟨k1, k2, k3, k4, k5, k6, rfl, hlev, hb6⟩
      have hbz6 : Below W4.heap.size W4 W6 := over_trans (HBZ5.out) hb6
      have hr := HRL.out.over (over_trans HBZ4.out hbz6)
      have hS6 : W6.cell? ⟨w2.heap.size, 0, none⟩ = some (.slice la 1 lc) ∧ W6.cell? ⟨w2.heap.size, 1, none⟩ = some (.slice ka 0 kc) := ⟨hr 0 _ rfl, hr 1 _ rfl⟩
      have HBZ6 := hide hbz6
      have HLV := hide hlev
      clear hr hlev hb6 hbz6
      go_simp
      refine hK.out _ _ (hS6) (fun hHeld => ?_)
      clear hK K
      try simp only [aput]
      refine tk (i := 4) (oi := { dst := some 18, op := Go.Op.move (Go.Operand.tmp 22), type := 95, pos := "flows.go:100", after := #[⟨3, .data⟩], guard := none }) (v := ?_) (Or.inl ⟨by rfl, ?_⟩) (by assumption) ?_
      rotate_left
      · intro w' hSw
        (try dsimp only at hSw)
        go_simp
        try with_reducible rfl
      try simp only [aput]
      refine tk (i := 5) (oi := ⟨some 23, .extract (.tmp 18) 0, 62, "flows.go:100", #[⟨4, .data⟩], none⟩) (v := ?_) (Or.inl ⟨by rfl, ?_⟩) (by assumption) ?_
      rotate_left
      · intro w' hSw
        (try dsimp only at hSw)
        go_simp
        try with_reducible rfl
      try simp only [aput]
      refine tk (i := 6) (oi := ⟨some 24, .extract (.tmp 18) 1, 26, "flows.go:100", #[⟨4, .data⟩, ⟨8, .gcOnly Go.Departure.lateStores⟩], none⟩) (v := ?_) (Or.inl ⟨by rfl, ?_⟩) (by assumption) ?_
      rotate_left
      · intro w' hSw
        (try dsimp only at hSw)
        go_simp
        try with_reducible rfl
      try simp only [aput]
      refine wpAnyH_ready (rs := [7]) (by kernel_rfl) (by simp) ?_
      refine (AllReadyH.cons (o := ⟨some 5, .alloc 62, 0, "flows.go:100", #[], none⟩) rfl (fun K hK => ?_) AllReadyH.nil)
      go_simp
      refine hK.out _ _ (by have hr := HRL.out.over (over_trans HBZ4.out ((HBZ6.out).alloc ((HBZ6.out).size) (.cells #[.slice none 0 0, .slice none 0 0] 62))); exact ⟨hr 0 _ rfl, hr 1 _ rfl⟩) (fun hHeld => ?_)
      clear hK K
      try simp only [aput]
      have hal := (Below.refl _ W6).alloc (Nat.le_refl _) (.cells #[.slice k1 k2 k3, .slice k4 k5 k6] 62)
      have hF2 := HRL.out.over (over_trans HBZ4.out (over_trans HBZ6.out hal))
      have hF1 := RowAt.new [.slice k1 k2 k3, .slice k4 k5 k6] 62 W6
      have HF1 := hide (And.intro (hF1 0 _ rfl) (hF1 1 _ rfl))
      have HF2 := hide hF2
      have HF3 := hide (levAt_over HLV.out hal)
      have HF4 := hide (isLevs_over HI1.out (over_trans HBZ4.out (over_trans HBZ6.out hal)))
      have HF5 := hide (over_trans HB2.out (over_trans HBZ4.out (over_trans HBZ6.out hal)))
      have hSF : (W6.alloc (.cells #[.slice k1 k2 k3, .slice k4 k5 k6] 62)).cell? ⟨w2.heap.size, 0, none⟩ = some (.slice la 1 lc) ∧ (W6.alloc (.cells #[.slice k1 k2 k3, .slice k4 k5 k6] 62)).cell? ⟨w2.heap.size, 1, none⟩ = some (.slice ka 0 kc) := ⟨hF2 0 _ rfl, hF2 1 _ rfl⟩
      clear hal hF2 hF1
      refine wpAnyH_ready (rs := [8]) (by kernel_rfl) (by simp) ?_
      refine AllReadyH.cons (o := ⟨none, .store 62 (.tmp 5) (.tmp 23), 0, "flows.go:100", #[⟨7, .data⟩, ⟨5, .data⟩, ⟨3, .chain⟩, ⟨0, .phase⟩, ⟨1, .phase⟩, ⟨2, .phase⟩, ⟨3, .phase⟩, ⟨4, .phase⟩, ⟨5, .phase⟩, ⟨6, .textOnly Go.Departure.lateStores⟩, ⟨7, .phase⟩], none⟩) rfl (fun K hK => ?_) AllReadyH.nil
      go_simp
      refine hK.out _ _ (hSF) (fun hHeld => ?_)
      clear hK K
      try simp only [aput]
      refine tk (i := 9) (oi := ⟨some 6, .assign (.tmp 24), 26, "flows.go:100", #[⟨6, .data⟩, ⟨8, .chain⟩, ⟨0, .phase⟩, ⟨1, .phase⟩, ⟨2, .phase⟩, ⟨3, .phase⟩, ⟨4, .phase⟩, ⟨5, .phase⟩, ⟨6, .phase⟩, ⟨7, .phase⟩, ⟨8, .phase⟩], none⟩) (v := ?_) (Or.inl ⟨by rfl, ?_⟩) (by assumption) ?_
      rotate_left
      · intro w' hSw
        (try dsimp only at hSw)
        go_simp
        try with_reducible rfl
      try simp only [aput]
      refine wpAnyH_done (by kernel_rfl) ?_ _
      clear hS0 hSF hHeld
      generalize (W6.alloc (.cells #[.slice k1 k2 k3, .slice k4 k5 k6] 62)) = WX at HF1 HF2 HF3 HF4 HF5 ⊢
      generalize W6.heap.size = xb at HF1 ⊢
      obtain ⟨x0, x1⟩ := HF1.out
      obtain ⟨ao, cap, hle, hel⟩ := HF4.out
      injection hle with e1 e2 e3
      obtain ⟨bl, ol, hbo, hel⟩ := hel (by simp)
      obtain ⟨rv, wv, g0, g1, hlv⟩ := hel 0 (by simp)
      have e4 := e1.trans hbo
      subst e4
      obtain ⟨m1, m2, m3, m4, m5, m6, hf3, hf4⟩ := lev_slices hlv
      subst hf3 hf4
      simp only [Nat.zero_mul, Nat.add_zero] at g0 g1
      have y0 := HF2.out 0 _ rfl
      have y1 := HF2.out 1 _ rfl
      have hlv1 : LevAt WX (.agg #[.slice m1 m2 m3, .slice m4 m5 m6]) ⟨[true], [true]⟩ := hlv
      have KSL := hide fun W (hW : Below WX.heap.size WX W) => sameLevel_any (.agg #[.slice k1 k2 k3, .slice k4 k5 k6]) (.agg #[.slice m1 m2 m3, .slice m4 m5 m6]) ⟨[true], [true]⟩ ⟨[true], [true]⟩ W (levAt_over HF3.out hW) (levAt_over hlv1 hW) ⟨by simp, by simp⟩
      have hsl : sameLev ⟨[true], [true]⟩ ⟨[true], [true]⟩ = true := rfl
      rw [hsl] at KSL
      obtain ⟨u1, u2, hu, bu1, bu2⟩ := HF3.out
      simp at hu
      obtain ⟨hu1, hu2⟩ := hu
      subst hu1 hu2
      have hdt : decide ([true] = [true]) = true := rfl
      have KSR := hide fun b W (hW : Below WX.heap.size WX W) (hc : W.cell? ⟨b, 0, none⟩ = some (.bool true)) => sameBools_any (.slice k1 k2 k3) (.slice (some ⟨b, 0, none⟩) 1 1) [true] [true] W (isBools_over bu1 hW) (one_bool hc) (by simp)
      have KSW := hide fun b W (hW : Below WX.heap.size WX W) (hc : W.cell? ⟨b, 0, none⟩ = some (.bool true)) => sameBools_any (.slice k4 k5 k6) (.slice (some ⟨b, 0, none⟩) 1 1) [true] [true] W (isBools_over bu2 hW) (one_bool hc) (by simp)
      rw [hdt] at KSR KSW
      have hS9 : WX.cell? ⟨xb, 0, none⟩ = some (.slice k1 k2 k3) ∧ WX.cell? ⟨xb, 1, none⟩ = some (.slice k4 k5 k6) ∧ WX.cell? ⟨w2.heap.size, 0, none⟩ = some (.slice (some ⟨bl, ol, none⟩) 1 lc) ∧ WX.cell? ⟨w2.heap.size, 1, none⟩ = some (.slice ka 0 kc) ∧ WX.cell? ⟨bl, ol, none⟩ = some (.slice m1 m2 m3) ∧ WX.cell? ⟨bl, ol + 1, none⟩ = some (.slice m4 m5 m6) := ⟨x0, x1, y0, y1, g0, g1⟩
      clear hel hlv hlv1 hsl hdt bu1 bu2 e1 e2 e3 hbo HF1 HF2 HF3 HF4
      go_wp2_with fail
      refine wp_region_held_drew (S := fun Wz => Wz.cell? ⟨xb, 0, none⟩ = some (.slice k1 k2 k3) ∧ Wz.cell? ⟨xb, 1, none⟩ = some (.slice k4 k5 k6) ∧ Wz.cell? ⟨w2.heap.size, 0, none⟩ = some (.slice (some ⟨bl, ol, none⟩) 1 lc) ∧ Wz.cell? ⟨w2.heap.size, 1, none⟩ = some (.slice ka 0 kc) ∧ Wz.cell? ⟨bl, ol, none⟩ = some (.slice m1 m2 m3) ∧ Wz.cell? ⟨bl, ol + 1, none⟩ = some (.slice m4 m5 m6)) (by kernel_rfl) (hS9) (fun hHeld => ?_)
      refine tk (i := 0) (oi := ⟨some 25, .move (.tmp 2), 26, "flows.go:101", #[], none⟩) (v := ?_) (Or.inl ⟨by rfl, ?_⟩) (by assumption) ?_
      rotate_left
      · intro w' hSw
        (try dsimp only at hSw)
        go_simp
        try with_reducible rfl
      try simp only [aput]
      refine tk (i := 1) (oi := ⟨some 26, .binOp .eql 26 (.tmp 25) (.const (Go.Value.int Go.IntKind.i64 0)) 26, 4, "flows.go:101", #[⟨0, .data⟩], none⟩) (v := ?_) (Or.inl ⟨by rfl, ?_⟩) (by assumption) ?_
      rotate_left
      · intro w' hSw
        (try dsimp only at hSw)
        go_simp
        try with_reducible rfl
      try simp only [aput]
      refine tk (i := 2) (oi := ⟨some 27, .move (.tmp 26), 4, "flows.go:101", #[⟨1, .data⟩], none⟩) (v := ?_) (Or.inl ⟨by rfl, ?_⟩) (by assumption) ?_
      rotate_left
      · intro w' hSw
        (try dsimp only at hSw)
        go_simp
        try with_reducible rfl
      try simp only [aput]
      refine tk (i := 3) (oi := ⟨some 28, .move (.tmp 4), 26, "flows.go:101", #[⟨2, .guard⟩], some (2, true)⟩) (v := ?_) (Or.inl ⟨by rfl, ?_⟩) (by assumption) ?_
      rotate_left
      · intro w' hSw
        (try dsimp only at hSw)
        go_simp
        try with_reducible rfl
      try simp only [aput]
      refine tk (i := 4) (oi := ⟨some 29, .binOp .eql 26 (.tmp 28) (.const (Go.Value.int Go.IntKind.i64 0)) 26, 4, "flows.go:101", #[⟨3, .data⟩, ⟨2, .guard⟩], some (2, true)⟩) (v := ?_) (Or.inl ⟨by rfl, ?_⟩) (by assumption) ?_
      rotate_left
      · intro w' hSw
        (try dsimp only at hSw)
        go_simp
        try with_reducible rfl
      try simp only [aput]
      refine tk (i := 5) (oi := ⟨some 30, .pick (.tmp 27) (.tmp 29) (.const (Go.Value.bool false)), 4, "flows.go:101", #[⟨2, .data⟩, ⟨4, .data⟩], none⟩) (v := ?_) (Or.inl ⟨by rfl, ?_⟩) (by assumption) ?_
      rotate_left
      · intro w' hSw
        (try dsimp only at hSw)
        go_simp
        try with_reducible rfl
      try simp only [aput]
      refine tk (i := 6) (oi := ⟨some 31, .move (.tmp 30), 4, "flows.go:101", #[⟨5, .data⟩, ⟨2, .chain⟩], none⟩) (v := ?_) (Or.inl ⟨by rfl, ?_⟩) (by assumption) ?_
      rotate_left
      · intro w' hSw
        (try dsimp only at hSw)
        go_simp
        try with_reducible rfl
      try simp only [aput]
      refine tk (i := 7) (oi := ⟨some 32, .move (.tmp 6), 26, "flows.go:101", #[⟨6, .guard⟩], some (6, true)⟩) (v := ?_) (Or.inl ⟨by rfl, ?_⟩) (by assumption) ?_
      rotate_left
      · intro w' hSw
        (try dsimp only at hSw)
        go_simp
        try with_reducible rfl
      try simp only [aput]
      refine tk (i := 8) (oi := ⟨some 33, .binOp .eql 26 (.tmp 32) (.const (Go.Value.int Go.IntKind.i64 0)) 26, 4, "flows.go:101", #[⟨7, .data⟩, ⟨6, .guard⟩], some (6, true)⟩) (v := ?_) (Or.inl ⟨by rfl, ?_⟩) (by assumption) ?_
      rotate_left
      · intro w' hSw
        (try dsimp only at hSw)
        go_simp
        try with_reducible rfl
      try simp only [aput]
      refine tk (i := 9) (oi := ⟨some 34, .pick (.tmp 31) (.tmp 33) (.const (Go.Value.bool false)), 4, "flows.go:101", #[⟨6, .data⟩, ⟨8, .data⟩], none⟩) (v := ?_) (Or.inl ⟨by rfl, ?_⟩) (by assumption) ?_
      rotate_left
      · intro w' hSw
        (try dsimp only at hSw)
        go_simp
        try with_reducible rfl
      try simp only [aput]
      refine tk (i := 10) (oi := ⟨some 35, .move (.tmp 34), 4, "flows.go:101", #[⟨9, .data⟩, ⟨6, .chain⟩], none⟩) (v := ?_) (Or.inl ⟨by rfl, ?_⟩) (by assumption) ?_
      rotate_left
      · intro w' hSw
        (try dsimp only at hSw)
        go_simp
        try with_reducible rfl
      try simp only [aput]
      refine tk (i := 11) (oi := ⟨some 36, .move (.tmp 3), 4, "flows.go:101", #[⟨10, .guard⟩], some (10, true)⟩) (v := ?_) (Or.inl ⟨by rfl, ?_⟩) (by assumption) ?_
      rotate_left
      · intro w' hSw
        (try dsimp only at hSw)
        go_simp
        try with_reducible rfl
      try simp only [aput]
      refine tk (i := 12) (oi := ⟨some 37, .pick (.tmp 35) (.tmp 36) (.const (Go.Value.bool false)), 4, "flows.go:101", #[⟨10, .data⟩, ⟨11, .data⟩], none⟩) (v := ?_) (Or.inl ⟨by rfl, ?_⟩) (by assumption) ?_
      rotate_left
      · intro w' hSw
        (try dsimp only at hSw)
        go_simp
        try with_reducible rfl
      try simp only [aput]
      refine tk (i := 13) (oi := ⟨some 38, .move (.tmp 37), 4, "flows.go:101", #[⟨12, .data⟩, ⟨10, .chain⟩], none⟩) (v := ?_) (Or.inl ⟨by rfl, ?_⟩) (by assumption) ?_
      rotate_left
      · intro w' hSw
        (try dsimp only at hSw)
        go_simp
        try with_reducible rfl
      try simp only [aput]
      refine tk (i := 14) (oi := ⟨some 39, .fieldAddr 54 (.tmp 1) 0, 0, "flows.go:101", #[⟨13, .guard⟩], some (13, true)⟩) (v := ?_) (Or.inl ⟨by rfl, ?_⟩) (by assumption) ?_
      rotate_left
      · intro w' hSw
        (try dsimp only at hSw)
        go_simp
        try with_reducible rfl
      try simp only [aput]
      refine tk (i := 15) (oi := ⟨some 40, .load 52 (.tmp 39), 52, "flows.go:101", #[⟨14, .data⟩, ⟨13, .guard⟩], some (13, true)⟩) (v := ?_) (Or.inl ⟨by rfl, ?_⟩) (by assumption) ?_
      rotate_left
      · intro w' hSw
        (try dsimp only at hSw)
        go_simp
        try with_reducible rfl
      try simp only [aput]
      refine tk (i := 16) (oi := { dst := some 41, op := Go.Op.call { callee := Go.Callee.builtin Go.Builtin.len, args := #[Go.Operand.tmp 40], argTypes := #[52] }, type := 3, pos := "flows.go:101", after := #[⟨15, .data⟩, ⟨13, .guard⟩], guard := some (13, true) }) (v := ?_) (Or.inl ⟨by rfl, ?_⟩) (by assumption) ?_
      rotate_left
      · intro w' hSw
        (try dsimp only at hSw)
        go_simp
        try with_reducible rfl
      try simp only [aput]
      refine tk (i := 17) (oi := ⟨some 42, .binOp .eql 3 (.tmp 41) (.const (Go.Value.int Go.IntKind.i64 1)) 3, 4, "flows.go:101", #[⟨16, .data⟩, ⟨13, .guard⟩], some (13, true)⟩) (v := ?_) (Or.inl ⟨by rfl, ?_⟩) (by assumption) ?_
      rotate_left
      · intro w' hSw
        (try dsimp only at hSw)
        go_simp
        try with_reducible rfl
      try simp only [aput]
      refine tk (i := 18) (oi := ⟨some 43, .pick (.tmp 38) (.tmp 42) (.const (Go.Value.bool false)), 4, "flows.go:101", #[⟨13, .data⟩, ⟨17, .data⟩], none⟩) (v := ?_) (Or.inl ⟨by rfl, ?_⟩) (by assumption) ?_
      rotate_left
      · intro w' hSw
        (try dsimp only at hSw)
        go_simp
        try with_reducible rfl
      try simp only [aput]
      refine tk (i := 19) (oi := ⟨some 44, .move (.tmp 43), 4, "flows.go:101", #[⟨18, .data⟩, ⟨13, .chain⟩], none⟩) (v := ?_) (Or.inl ⟨by rfl, ?_⟩) (by assumption) ?_
      rotate_left
      · intro w' hSw
        (try dsimp only at hSw)
        go_simp
        try with_reducible rfl
      try simp only [aput]
      refine tk (i := 20) (oi := ⟨some 45, .load 62 (.tmp 5), 62, "flows.go:101", #[⟨19, .guard⟩], some (19, true)⟩) (v := ?_) (Or.inl ⟨by rfl, ?_⟩) (by assumption) ?_
      rotate_left
      · intro w' hSw
        (try dsimp only at hSw)
        go_simp
        try with_reducible rfl
      try simp only [aput]
      refine tk (i := 21) (oi := ⟨some 46, .fieldAddr 54 (.tmp 1) 0, 0, "flows.go:101", #[⟨19, .guard⟩], some (19, true)⟩) (v := ?_) (Or.inl ⟨by rfl, ?_⟩) (by assumption) ?_
      rotate_left
      · intro w' hSw
        (try dsimp only at hSw)
        go_simp
        try with_reducible rfl
      try simp only [aput]
      refine tk (i := 22) (oi := ⟨some 47, .load 52 (.tmp 46), 52, "flows.go:101", #[⟨21, .data⟩, ⟨19, .guard⟩], some (19, true)⟩) (v := ?_) (Or.inl ⟨by rfl, ?_⟩) (by assumption) ?_
      rotate_left
      · intro w' hSw
        (try dsimp only at hSw)
        go_simp
        try with_reducible rfl
      try simp only [aput]
      refine tk (i := 23) (oi := ⟨some 48, .indexAddr 52 (.tmp 47) (.const (Go.Value.int Go.IntKind.i64 0)), 0, "flows.go:101", #[⟨22, .data⟩, ⟨19, .guard⟩], some (19, true)⟩) (v := ?_) (Or.inl ⟨by rfl, ?_⟩) (by assumption) ?_
      rotate_left
      · intro w' hSw
        (try dsimp only at hSw)
        go_simp
        try with_reducible rfl
      try simp only [aput]
      refine tk (i := 24) (oi := ⟨some 49, .load 62 (.tmp 48), 62, "flows.go:101", #[⟨23, .data⟩, ⟨19, .guard⟩], some (19, true)⟩) (v := ?_) (Or.inl ⟨by rfl, ?_⟩) (by assumption) ?_
      rotate_left
      · intro w' hSw
        (try dsimp only at hSw)
        go_simp
        try with_reducible rfl
      try simp only [aput]
      refine wpAnyH_ready (rs := [25]) (by kernel_rfl) (by simp) ?_
      refine AllReadyH.cons (o := { dst := some 50, op := Go.Op.call { callee := Go.Callee.value (Go.Operand.func 43), args := #[Go.Operand.tmp 45, Go.Operand.tmp 49], argTypes := #[62, 62] }, type := 4, pos := "flows.go:101", after := #[⟨20, .data⟩, ⟨24, .data⟩, ⟨19, .chain⟩, ⟨19, .guard⟩], guard := some (19, true) }) rfl (fun K hK => ?_) AllReadyH.nil
      go_simp
      refine (KSL.out _ ((Below.refl _ WX).drew)).mono ?_
      rintro e W7 ⟨rfl, hb7⟩
      have hbz7 : Below WX.heap.size WX W7 := over_trans ((Below.refl _ WX).drew) hb7
      have hSW7 : W7.cell? ⟨xb, 0, none⟩ = some (.slice k1 k2 k3) ∧ W7.cell? ⟨xb, 1, none⟩ = some (.slice k4 k5 k6) ∧ W7.cell? ⟨w2.heap.size, 0, none⟩ = some (.slice (some ⟨bl, ol, none⟩) 1 lc) ∧ W7.cell? ⟨w2.heap.size, 1, none⟩ = some (.slice ka 0 kc) ∧ W7.cell? ⟨bl, ol, none⟩ = some (.slice m1 m2 m3) ∧ W7.cell? ⟨bl, ol + 1, none⟩ = some (.slice m4 m5 m6) := ⟨cell_over hbz7 _ _ x0, cell_over hbz7 _ _ x1, cell_over hbz7 _ _ y0, cell_over hbz7 _ _ y1, cell_over hbz7 _ _ g0, cell_over hbz7 _ _ g1⟩
      have HBW7 := hide hbz7
      clear hb7 hbz7
      go_simp
      refine hK.out _ _ (hSW7) (fun hHeld => ?_)
      clear hK K
      try simp only [aput]
      refine tk (i := 26) (oi := ⟨some 51, .pick (.tmp 44) (.tmp 50) (.const (Go.Value.bool false)), 4, "flows.go:101", #[⟨19, .data⟩, ⟨25, .data⟩], none⟩) (v := ?_) (Or.inl ⟨by rfl, ?_⟩) (by assumption) ?_
      rotate_left
      · intro w' hSw
        (try dsimp only at hSw)
        go_simp
        try with_reducible rfl
      try simp only [aput]
      refine tk (i := 27) (oi := ⟨some 52, .move (.tmp 51), 4, "flows.go:101", #[⟨26, .data⟩, ⟨25, .chain⟩], none⟩) (v := ?_) (Or.inl ⟨by rfl, ?_⟩) (by assumption) ?_
      rotate_left
      · intro w' hSw
        (try dsimp only at hSw)
        go_simp
        try with_reducible rfl
      try simp only [aput]
      refine tk (i := 28) (oi := ⟨some 53, .fieldAddr 62 (.tmp 5) 0, 0, "flows.go:101", #[⟨27, .guard⟩], some (27, true)⟩) (v := ?_) (Or.inl ⟨by rfl, ?_⟩) (by assumption) ?_
      rotate_left
      · intro w' hSw
        (try dsimp only at hSw)
        go_simp
        try with_reducible rfl
      try simp only [aput]
      refine tk (i := 29) (oi := ⟨some 54, .load 60 (.tmp 53), 60, "flows.go:101", #[⟨28, .data⟩, ⟨27, .guard⟩], some (27, true)⟩) (v := ?_) (Or.inl ⟨by rfl, ?_⟩) (by assumption) ?_
      rotate_left
      · intro w' hSw
        (try dsimp only at hSw)
        go_simp
        try with_reducible rfl
      try simp only [aput]
      refine wpAnyH_ready (rs := [30]) (by kernel_rfl) (by simp) ?_
      refine AllReadyH.cons (o := ⟨some 55, .buildSlice 60 1 #[(0, .const (Go.Value.bool true))], 60, "flows.go:101", #[⟨27, .guard⟩], some (27, true)⟩) rfl (fun K hK => ?_) AllReadyH.nil
      go_simp
      refine hK.out _ _ (⟨cell_over ((HBW7.out).alloc ((HBW7.out).size) (.cells #[.bool true] 4)) _ _ x0, cell_over ((HBW7.out).alloc ((HBW7.out).size) (.cells #[.bool true] 4)) _ _ x1, cell_over ((HBW7.out).alloc ((HBW7.out).size) (.cells #[.bool true] 4)) _ _ y0, cell_over ((HBW7.out).alloc ((HBW7.out).size) (.cells #[.bool true] 4)) _ _ y1, cell_over ((HBW7.out).alloc ((HBW7.out).size) (.cells #[.bool true] 4)) _ _ g0, cell_over ((HBW7.out).alloc ((HBW7.out).size) (.cells #[.bool true] 4)) _ _ g1⟩) (fun hHeld => ?_)
      clear hK K
      try simp only [aput]
      refine wpAnyH_ready (rs := [31]) (by kernel_rfl) (by simp) ?_
      refine AllReadyH.cons (o := { dst := some 56, op := Go.Op.call { callee := Go.Callee.value (Go.Operand.func 44), args := #[Go.Operand.tmp 54, Go.Operand.tmp 55], argTypes := #[60, 60] }, type := 4, pos := "flows.go:101", after := #[⟨29, .data⟩, ⟨30, .data⟩, ⟨27, .chain⟩, ⟨27, .guard⟩], guard := some (27, true) }) rfl (fun K hK => ?_) AllReadyH.nil
      go_simp
      refine (KSR.out W7.heap.size _ ((HBW7.out).alloc ((HBW7.out).size) (.cells #[.bool true] 4)) (by simp [go_sem])).mono ?_
      rintro e W8 ⟨rfl, nn, hW⟩
      have hb8 : Below WX.heap.size WX W8 := by rw [hW]; exact below_drewN (((HBW7.out).alloc ((HBW7.out).size) (.cells #[.bool true] 4))) nn
      have hSW8 : W8.cell? ⟨xb, 0, none⟩ = some (.slice k1 k2 k3) ∧ W8.cell? ⟨xb, 1, none⟩ = some (.slice k4 k5 k6) ∧ W8.cell? ⟨w2.heap.size, 0, none⟩ = some (.slice (some ⟨bl, ol, none⟩) 1 lc) ∧ W8.cell? ⟨w2.heap.size, 1, none⟩ = some (.slice ka 0 kc) ∧ W8.cell? ⟨bl, ol, none⟩ = some (.slice m1 m2 m3) ∧ W8.cell? ⟨bl, ol + 1, none⟩ = some (.slice m4 m5 m6) := ⟨cell_over hb8 _ _ x0, cell_over hb8 _ _ x1, cell_over hb8 _ _ y0, cell_over hb8 _ _ y1, cell_over hb8 _ _ g0, cell_over hb8 _ _ g1⟩
      have HBW8 := hide hb8
      clear hb8 hW
      go_simp
      refine hK.out _ _ (hSW8) (fun hHeld => ?_)
      clear hK K
      try simp only [aput]
      refine tk (i := 32) (oi := ⟨some 57, .pick (.tmp 52) (.tmp 56) (.const (Go.Value.bool false)), 4, "flows.go:101", #[⟨27, .data⟩, ⟨31, .data⟩], none⟩) (v := ?_) (Or.inl ⟨by rfl, ?_⟩) (by assumption) ?_
      rotate_left
      · intro w' hSw
        (try dsimp only at hSw)
        go_simp
        try with_reducible rfl
      try simp only [aput]
      refine tk (i := 33) (oi := ⟨some 58, .move (.tmp 57), 4, "flows.go:101", #[⟨32, .data⟩, ⟨31, .chain⟩], none⟩) (v := ?_) (Or.inl ⟨by rfl, ?_⟩) (by assumption) ?_
      rotate_left
      · intro w' hSw
        (try dsimp only at hSw)
        go_simp
        try with_reducible rfl
      try simp only [aput]
      refine tk (i := 34) (oi := ⟨some 59, .fieldAddr 62 (.tmp 5) 1, 0, "flows.go:101", #[⟨33, .guard⟩], some (33, true)⟩) (v := ?_) (Or.inl ⟨by rfl, ?_⟩) (by assumption) ?_
      rotate_left
      · intro w' hSw
        (try dsimp only at hSw)
        go_simp
        try with_reducible rfl
      try simp only [aput]
      refine tk (i := 35) (oi := ⟨some 60, .load 60 (.tmp 59), 60, "flows.go:101", #[⟨34, .data⟩, ⟨33, .guard⟩], some (33, true)⟩) (v := ?_) (Or.inl ⟨by rfl, ?_⟩) (by assumption) ?_
      rotate_left
      · intro w' hSw
        (try dsimp only at hSw)
        go_simp
        try with_reducible rfl
      try simp only [aput]
      refine wpAnyH_ready (rs := [36]) (by kernel_rfl) (by simp) ?_
      refine AllReadyH.cons (o := ⟨some 61, .buildSlice 60 1 #[(0, .const (Go.Value.bool true))], 60, "flows.go:101", #[⟨33, .guard⟩], some (33, true)⟩) rfl (fun K hK => ?_) AllReadyH.nil
      go_simp
      refine hK.out _ _ (⟨cell_over ((HBW8.out).alloc ((HBW8.out).size) (.cells #[.bool true] 4)) _ _ x0, cell_over ((HBW8.out).alloc ((HBW8.out).size) (.cells #[.bool true] 4)) _ _ x1, cell_over ((HBW8.out).alloc ((HBW8.out).size) (.cells #[.bool true] 4)) _ _ y0, cell_over ((HBW8.out).alloc ((HBW8.out).size) (.cells #[.bool true] 4)) _ _ y1, cell_over ((HBW8.out).alloc ((HBW8.out).size) (.cells #[.bool true] 4)) _ _ g0, cell_over ((HBW8.out).alloc ((HBW8.out).size) (.cells #[.bool true] 4)) _ _ g1⟩) (fun hHeld => ?_)
      clear hK K
      try simp only [aput]
      refine wpAnyH_ready (rs := [37]) (by kernel_rfl) (by simp) ?_
      refine AllReadyH.cons (o := { dst := some 62, op := Go.Op.call { callee := Go.Callee.value (Go.Operand.func 44), args := #[Go.Operand.tmp 60, Go.Operand.tmp 61], argTypes := #[60, 60] }, type := 4, pos := "flows.go:101", after := #[⟨35, .data⟩, ⟨36, .data⟩, ⟨33, .chain⟩, ⟨33, .guard⟩], guard := some (33, true) }) rfl (fun K hK => ?_) AllReadyH.nil
      go_simp
      refine (KSW.out W8.heap.size _ ((HBW8.out).alloc ((HBW8.out).size) (.cells #[.bool true] 4)) (by simp [go_sem])).mono ?_
      rintro e W9 ⟨rfl, nn, hW⟩
      have hb8 : Below WX.heap.size WX W9 := by rw [hW]; exact below_drewN (((HBW8.out).alloc ((HBW8.out).size) (.cells #[.bool true] 4))) nn
      have hSW9 : W9.cell? ⟨xb, 0, none⟩ = some (.slice k1 k2 k3) ∧ W9.cell? ⟨xb, 1, none⟩ = some (.slice k4 k5 k6) ∧ W9.cell? ⟨w2.heap.size, 0, none⟩ = some (.slice (some ⟨bl, ol, none⟩) 1 lc) ∧ W9.cell? ⟨w2.heap.size, 1, none⟩ = some (.slice ka 0 kc) ∧ W9.cell? ⟨bl, ol, none⟩ = some (.slice m1 m2 m3) ∧ W9.cell? ⟨bl, ol + 1, none⟩ = some (.slice m4 m5 m6) := ⟨cell_over hb8 _ _ x0, cell_over hb8 _ _ x1, cell_over hb8 _ _ y0, cell_over hb8 _ _ y1, cell_over hb8 _ _ g0, cell_over hb8 _ _ g1⟩
      have HBW9 := hide hb8
      clear hb8 hW
      go_simp
      refine hK.out _ _ (hSW9) (fun hHeld => ?_)
      clear hK K
      try simp only [aput]
      refine tk (i := 38) (oi := ⟨some 63, .pick (.tmp 58) (.tmp 62) (.const (Go.Value.bool false)), 4, "flows.go:101", #[⟨33, .data⟩, ⟨37, .data⟩], none⟩) (v := ?_) (Or.inl ⟨by rfl, ?_⟩) (by assumption) ?_
      rotate_left
      · intro w' hSw
        (try dsimp only at hSw)
        go_simp
        try with_reducible rfl
      try simp only [aput]
      refine tk (i := 39) (oi := ⟨some 0, .assign (.tmp 63), 4, "flows.go:101", #[⟨38, .data⟩, ⟨37, .chain⟩, ⟨0, .phase⟩, ⟨1, .phase⟩, ⟨2, .phase⟩, ⟨3, .phase⟩, ⟨4, .phase⟩, ⟨5, .phase⟩, ⟨6, .phase⟩, ⟨7, .phase⟩, ⟨8, .phase⟩, ⟨9, .phase⟩, ⟨10, .phase⟩, ⟨11, .phase⟩, ⟨12, .phase⟩, ⟨13, .phase⟩, ⟨14, .phase⟩, ⟨15, .phase⟩, ⟨16, .phase⟩, ⟨17, .phase⟩, ⟨18, .phase⟩, ⟨19, .phase⟩, ⟨20, .phase⟩, ⟨21, .phase⟩, ⟨22, .phase⟩, ⟨23, .phase⟩, ⟨24, .phase⟩, ⟨25, .phase⟩, ⟨26, .phase⟩, ⟨27, .phase⟩, ⟨28, .phase⟩, ⟨29, .phase⟩, ⟨30, .phase⟩, ⟨31, .phase⟩, ⟨32, .phase⟩, ⟨33, .phase⟩, ⟨34, .phase⟩, ⟨35, .phase⟩, ⟨36, .phase⟩, ⟨37, .phase⟩, ⟨38, .phase⟩], none⟩) (v := ?_) (Or.inl ⟨by rfl, ?_⟩) (by assumption) ?_
      rotate_left
      · intro w' hSw
        (try dsimp only at hSw)
        go_simp
        try with_reducible rfl
      try simp only [aput]
      refine wpAnyH_done (by kernel_rfl) ?_ _
      have HEND := hide (over_trans HF5.out HBW9.out)
      go_wp2_with fail
      go_ret
      exact ⟨rfl, HEND.out⟩
    · go_simp
      refine hK.out _ _ (by have hr := HRL.out.over (over_trans HBZ4.out ((HBZ5.out).alloc ((HBZ5.out).size) (.cells #[.slice none 0 0, .slice none 0 0] 62))); exact ⟨hr 0 _ rfl, hr 1 _ rfl⟩) (fun hHeld => ?_)
      clear hK K
      try simp only [aput]
      refine wpAnyH_ready (rs := [3]) (by kernel_rfl) (by simp) ?_
      refine (AllReadyH.cons (o := { dst := some 22, op := Go.Op.call { callee := Go.Callee.value (Go.Operand.func 42), args := #[Go.Operand.tmp 19, Go.Operand.tmp 20, Go.Operand.tmp 21], argTypes := #[41, 54, 24] }, type := 95, pos := "flows.go:100", after := #[⟨0, .data⟩, ⟨1, .data⟩, ⟨2, .data⟩, ⟨0, .chain⟩], guard := none }) rfl (fun K hK => ?_) AllReadyH.nil)
      go_simp
      refine (ofSmall di dj dv dm la lc ka kc _ (HS5.out.over ((Below.refl _ W5).alloc (Nat.le_refl _) _)) (isLevs_over HI1.out (over_trans HBZ4.out (((HBZ5.out).alloc ((HBZ5.out).size) (.cells #[.slice none 0 0, .slice none 0 0] 62))))) (isLevs_over HI2.out (over_trans HBZ4.out (((HBZ5.out).alloc ((HBZ5.out).size) (.cells #[.slice none 0 0, .slice none 0 0] 62)))))).mono ?_
      rintro e W6 ⟨k1, k2, k3, k4, k5, k6, rfl, hlev, hb6⟩
      have hbz6 : Below W4.heap.size W4 W6 := over_trans (((HBZ5.out).alloc ((HBZ5.out).size) (.cells #[.slice none 0 0, .slice none 0 0] 62))) hb6
      have hr := HRL.out.over (over_trans HBZ4.out hbz6)
      have hS6 : W6.cell? ⟨w2.heap.size, 0, none⟩ = some (.slice la 1 lc) ∧ W6.cell? ⟨w2.heap.size, 1, none⟩ = some (.slice ka 0 kc) := ⟨hr 0 _ rfl, hr 1 _ rfl⟩
      have HBZ6 := hide hbz6
      have HLV := hide hlev
      have bx6 : W6.heap[W5.heap.size]? = some (.cells #[.slice none 0 0, .slice none 0 0] 62) := (hb6.block _ (Array.getElem?_eq_some_iff.1 (heap_of_alloc W5 (.cells #[.slice none 0 0, .slice none 0 0] 62))).1).trans (heap_of_alloc W5 (.cells #[.slice none 0 0, .slice none 0 0] 62))
      have BX6 := hide bx6
      clear bx6
      clear hr hlev hb6 hbz6
      go_simp
      refine hK.out _ _ (hS6) (fun hHeld => ?_)
      clear hK K
      try simp only [aput]
      refine tk (i := 4) (oi := { dst := some 18, op := Go.Op.move (Go.Operand.tmp 22), type := 95, pos := "flows.go:100", after := #[⟨3, .data⟩], guard := none }) (v := ?_) (Or.inl ⟨by rfl, ?_⟩) (by assumption) ?_
      rotate_left
      · intro w' hSw
        (try dsimp only at hSw)
        go_simp
        try with_reducible rfl
      try simp only [aput]
      refine tk (i := 5) (oi := ⟨some 23, .extract (.tmp 18) 0, 62, "flows.go:100", #[⟨4, .data⟩], none⟩) (v := ?_) (Or.inl ⟨by rfl, ?_⟩) (by assumption) ?_
      rotate_left
      · intro w' hSw
        (try dsimp only at hSw)
        go_simp
        try with_reducible rfl
      try simp only [aput]
      refine tk (i := 6) (oi := ⟨some 24, .extract (.tmp 18) 1, 26, "flows.go:100", #[⟨4, .data⟩, ⟨8, .gcOnly Go.Departure.lateStores⟩], none⟩) (v := ?_) (Or.inl ⟨by rfl, ?_⟩) (by assumption) ?_
      rotate_left
      · intro w' hSw
        (try dsimp only at hSw)
        go_simp
        try with_reducible rfl
      try simp only [aput]
      have bX : W6.heap[W5.heap.size]? = some (.cells #[.slice none 0 0, .slice none 0 0] 62) := BX6.out
      have x0 : W6.cell? ⟨W5.heap.size, 0, none⟩ = some (.slice none 0 0) := by rw [Lib.cell_of_heap bX]; rfl
      have x1 : W6.cell? ⟨W5.heap.size, 1, none⟩ = some (.slice none 0 0) := by rw [Lib.cell_of_heap bX]; rfl
      have xz : ∀ j, W6.frozen? ⟨W5.heap.size, j, none⟩ = false := fun j => by first | (simp [World.frozen?, bX]; done) | (simp [go_sem]; done)
      have hlt4 : W4.heap.size ≤ W5.heap.size := by first | exact Nat.le_refl _ | exact HBZ5.out.size | exact HBZ6.out.size
      have hbB : Below W4.heap.size W4 W6 := HBZ6.out
      have hr := HRL.out.over (over_trans HBZ4.out hbB)
      have hne : W5.heap.size ≠ w2.heap.size := by have h1 := World.block_lt_of_cell? W4 _ (HRL.out.over HBZ4.out 0 _ rfl); simp at h1; omega
      have hcr : ∀ j u, W6.cell? ⟨W5.heap.size, j, none⟩ = some u → ∃ a m c, u = .slice a m c := fun j u hu => by
        rw [Lib.cell_of_heap bX] at hu
        match j, hu with
        | 0, hu => simp at hu; exact ⟨_, _, _, hu.symm⟩
        | 1, hu => simp at hu; exact ⟨_, _, _, hu.symm⟩
        | j + 2, hu => simp at hu
      have hF3 : LevAt ((W6.setCell ⟨W5.heap.size, 0, none⟩ (.slice k1 k2 k3)).setCell ⟨W5.heap.size, 1, none⟩ (.slice k4 k5 k6)) (.agg #[.slice k1 k2 k3, .slice k4 k5 k6]) ⟨[true], [true]⟩ := lev_end (HLV.out) hcr
      have hF4 : IsLevs ((W6.setCell ⟨W5.heap.size, 0, none⟩ (.slice k1 k2 k3)).setCell ⟨W5.heap.size, 1, none⟩ (.slice k4 k5 k6)) (.slice la 1 lc) [⟨[true], [true]⟩] := levs_end (n := 1) (X := fun _ _ => False) (levsO_of (Nat.le_refl _) (isLevs_over HI1.out (over_trans HBZ4.out hbB)) (by intro x hx; simp at hx; subst hx; exact ⟨rfl, rfl⟩) (fun _ h => h.elim)) hcr (fun a m c e => by injection e with e1; exact levs_ne HI1.out (by simp) e1 (Nat.le_trans HBZ4.out.size hlt4))
      have hF2 : RowAt [.slice la 1 lc, .slice ka 0 kc] ((W6.setCell ⟨W5.heap.size, 0, none⟩ (.slice k1 k2 k3)).setCell ⟨W5.heap.size, 1, none⟩ (.slice k4 k5 k6)) w2.heap.size := fun j u hu => by rw [set_far (Or.inl hne), set_far (Or.inl hne)]; exact hr j u hu
      have hF1a : ((W6.setCell ⟨W5.heap.size, 0, none⟩ (.slice k1 k2 k3)).setCell ⟨W5.heap.size, 1, none⟩ (.slice k4 k5 k6)).cell? ⟨W5.heap.size, 0, none⟩ = some (.slice k1 k2 k3) := by rw [set_far (Or.inr (by omega))]; exact World.cell?_setCell_same _ _ _ x0
      have hF1b : ((W6.setCell ⟨W5.heap.size, 0, none⟩ (.slice k1 k2 k3)).setCell ⟨W5.heap.size, 1, none⟩ (.slice k4 k5 k6)).cell? ⟨W5.heap.size, 1, none⟩ = some (.slice k4 k5 k6) := World.cell?_setCell_same _ _ _ (u := .slice none 0 0) (by rw [set_far (Or.inr (by omega))]; exact x1)
      have hF5 : Below w.heap.size w ((W6.setCell ⟨W5.heap.size, 0, none⟩ (.slice k1 k2 k3)).setCell ⟨W5.heap.size, 1, none⟩ (.slice k4 k5 k6)) := ((over_trans HB2.out (over_trans HBZ4.out hbB)).setCell (p := ⟨W5.heap.size, 0, none⟩) (by have h1 := (over_trans HB2.out HBZ4.out).size; simp; omega) _).setCell (p := ⟨W5.heap.size, 1, none⟩) (by have h1 := (over_trans HB2.out HBZ4.out).size; simp; omega) _
      have HF1 := hide (And.intro hF1a hF1b)
      have HF2 := hide hF2
      have HF3 := hide hF3
      have HF4 := hide hF4
      have HF5 := hide hF5
      have hSF : ((W6.setCell ⟨W5.heap.size, 0, none⟩ (.slice k1 k2 k3)).setCell ⟨W5.heap.size, 1, none⟩ (.slice k4 k5 k6)).cell? ⟨w2.heap.size, 0, none⟩ = some (.slice la 1 lc) ∧ ((W6.setCell ⟨W5.heap.size, 0, none⟩ (.slice k1 k2 k3)).setCell ⟨W5.heap.size, 1, none⟩ (.slice k4 k5 k6)).cell? ⟨w2.heap.size, 1, none⟩ = some (.slice ka 0 kc) := ⟨hF2 0 _ rfl, hF2 1 _ rfl⟩
      clear bX hbB hr hcr hF3 hF4 hF2 hF1a hF1b hF5 hlt4 hne
      refine wpAnyH_ready (rs := [8]) (by kernel_rfl) (by simp) ?_
      refine AllReadyH.cons (o := ⟨none, .store 62 (.tmp 5) (.tmp 23), 0, "flows.go:100", #[⟨7, .data⟩, ⟨5, .data⟩, ⟨3, .chain⟩, ⟨0, .phase⟩, ⟨1, .phase⟩, ⟨2, .phase⟩, ⟨3, .phase⟩, ⟨4, .phase⟩, ⟨5, .phase⟩, ⟨6, .textOnly Go.Departure.lateStores⟩, ⟨7, .phase⟩], none⟩) rfl (fun K hK => ?_) AllReadyH.nil
      go_simp
      refine hK.out _ _ (hSF) (fun hHeld => ?_)
      clear hK K
      try simp only [aput]
      refine tk (i := 9) (oi := ⟨some 6, .assign (.tmp 24), 26, "flows.go:100", #[⟨6, .data⟩, ⟨8, .chain⟩, ⟨0, .phase⟩, ⟨1, .phase⟩, ⟨2, .phase⟩, ⟨3, .phase⟩, ⟨4, .phase⟩, ⟨5, .phase⟩, ⟨6, .phase⟩, ⟨7, .phase⟩, ⟨8, .phase⟩], none⟩) (v := ?_) (Or.inl ⟨by rfl, ?_⟩) (by assumption) ?_
      rotate_left
      · intro w' hSw
        (try dsimp only at hSw)
        go_simp
        try with_reducible rfl
      try simp only [aput]
      refine wpAnyH_done (by kernel_rfl) ?_ _
      clear x0 x1 xz
      clear hS0 hSF hHeld
      generalize ((W6.setCell ⟨W5.heap.size, 0, none⟩ (.slice k1 k2 k3)).setCell ⟨W5.heap.size, 1, none⟩ (.slice k4 k5 k6)) = WX at HF1 HF2 HF3 HF4 HF5 ⊢
      generalize W5.heap.size = xb at HF1 ⊢
      obtain ⟨x0, x1⟩ := HF1.out
      obtain ⟨ao, cap, hle, hel⟩ := HF4.out
      injection hle with e1 e2 e3
      obtain ⟨bl, ol, hbo, hel⟩ := hel (by simp)
      obtain ⟨rv, wv, g0, g1, hlv⟩ := hel 0 (by simp)
      have e4 := e1.trans hbo
      subst e4
      obtain ⟨m1, m2, m3, m4, m5, m6, hf3, hf4⟩ := lev_slices hlv
      subst hf3 hf4
      simp only [Nat.zero_mul, Nat.add_zero] at g0 g1
      have y0 := HF2.out 0 _ rfl
      have y1 := HF2.out 1 _ rfl
      have hlv1 : LevAt WX (.agg #[.slice m1 m2 m3, .slice m4 m5 m6]) ⟨[true], [true]⟩ := hlv
      have KSL := hide fun W (hW : Below WX.heap.size WX W) => sameLevel_any (.agg #[.slice k1 k2 k3, .slice k4 k5 k6]) (.agg #[.slice m1 m2 m3, .slice m4 m5 m6]) ⟨[true], [true]⟩ ⟨[true], [true]⟩ W (levAt_over HF3.out hW) (levAt_over hlv1 hW) ⟨by simp, by simp⟩
      have hsl : sameLev ⟨[true], [true]⟩ ⟨[true], [true]⟩ = true := rfl
      rw [hsl] at KSL
      obtain ⟨u1, u2, hu, bu1, bu2⟩ := HF3.out
      simp at hu
      obtain ⟨hu1, hu2⟩ := hu
      subst hu1 hu2
      have hdt : decide ([true] = [true]) = true := rfl
      have KSR := hide fun b W (hW : Below WX.heap.size WX W) (hc : W.cell? ⟨b, 0, none⟩ = some (.bool true)) => sameBools_any (.slice k1 k2 k3) (.slice (some ⟨b, 0, none⟩) 1 1) [true] [true] W (isBools_over bu1 hW) (one_bool hc) (by simp)
      have KSW := hide fun b W (hW : Below WX.heap.size WX W) (hc : W.cell? ⟨b, 0, none⟩ = some (.bool true)) => sameBools_any (.slice k4 k5 k6) (.slice (some ⟨b, 0, none⟩) 1 1) [true] [true] W (isBools_over bu2 hW) (one_bool hc) (by simp)
      rw [hdt] at KSR KSW
      have hS9 : WX.cell? ⟨xb, 0, none⟩ = some (.slice k1 k2 k3) ∧ WX.cell? ⟨xb, 1, none⟩ = some (.slice k4 k5 k6) ∧ WX.cell? ⟨w2.heap.size, 0, none⟩ = some (.slice (some ⟨bl, ol, none⟩) 1 lc) ∧ WX.cell? ⟨w2.heap.size, 1, none⟩ = some (.slice ka 0 kc) ∧ WX.cell? ⟨bl, ol, none⟩ = some (.slice m1 m2 m3) ∧ WX.cell? ⟨bl, ol + 1, none⟩ = some (.slice m4 m5 m6) := ⟨x0, x1, y0, y1, g0, g1⟩
      clear hel hlv hlv1 hsl hdt bu1 bu2 e1 e2 e3 hbo HF1 HF2 HF3 HF4
      go_wp2_with fail
      refine wp_region_held_drew (S := fun Wz => Wz.cell? ⟨xb, 0, none⟩ = some (.slice k1 k2 k3) ∧ Wz.cell? ⟨xb, 1, none⟩ = some (.slice k4 k5 k6) ∧ Wz.cell? ⟨w2.heap.size, 0, none⟩ = some (.slice (some ⟨bl, ol, none⟩) 1 lc) ∧ Wz.cell? ⟨w2.heap.size, 1, none⟩ = some (.slice ka 0 kc) ∧ Wz.cell? ⟨bl, ol, none⟩ = some (.slice m1 m2 m3) ∧ Wz.cell? ⟨bl, ol + 1, none⟩ = some (.slice m4 m5 m6)) (by kernel_rfl) (hS9) (fun hHeld => ?_)
      refine tk (i := 0) (oi := ⟨some 25, .move (.tmp 2), 26, "flows.go:101", #[], none⟩) (v := ?_) (Or.inl ⟨by rfl, ?_⟩) (by assumption) ?_
      rotate_left
      · intro w' hSw
        (try dsimp only at hSw)
        go_simp
        try with_reducible rfl
      try simp only [aput]
      refine tk (i := 1) (oi := ⟨some 26, .binOp .eql 26 (.tmp 25) (.const (Go.Value.int Go.IntKind.i64 0)) 26, 4, "flows.go:101", #[⟨0, .data⟩], none⟩) (v := ?_) (Or.inl ⟨by rfl, ?_⟩) (by assumption) ?_
      rotate_left
      · intro w' hSw
        (try dsimp only at hSw)
        go_simp
        try with_reducible rfl
      try simp only [aput]
      refine tk (i := 2) (oi := ⟨some 27, .move (.tmp 26), 4, "flows.go:101", #[⟨1, .data⟩], none⟩) (v := ?_) (Or.inl ⟨by rfl, ?_⟩) (by assumption) ?_
      rotate_left
      · intro w' hSw
        (try dsimp only at hSw)
        go_simp
        try with_reducible rfl
      try simp only [aput]
      refine tk (i := 3) (oi := ⟨some 28, .move (.tmp 4), 26, "flows.go:101", #[⟨2, .guard⟩], some (2, true)⟩) (v := ?_) (Or.inl ⟨by rfl, ?_⟩) (by assumption) ?_
      rotate_left
      · intro w' hSw
        (try dsimp only at hSw)
        go_simp
        try with_reducible rfl
      try simp only [aput]
      refine tk (i := 4) (oi := ⟨some 29, .binOp .eql 26 (.tmp 28) (.const (Go.Value.int Go.IntKind.i64 0)) 26, 4, "flows.go:101", #[⟨3, .data⟩, ⟨2, .guard⟩], some (2, true)⟩) (v := ?_) (Or.inl ⟨by rfl, ?_⟩) (by assumption) ?_
      rotate_left
      · intro w' hSw
        (try dsimp only at hSw)
        go_simp
        try with_reducible rfl
      try simp only [aput]
      refine tk (i := 5) (oi := ⟨some 30, .pick (.tmp 27) (.tmp 29) (.const (Go.Value.bool false)), 4, "flows.go:101", #[⟨2, .data⟩, ⟨4, .data⟩], none⟩) (v := ?_) (Or.inl ⟨by rfl, ?_⟩) (by assumption) ?_
      rotate_left
      · intro w' hSw
        (try dsimp only at hSw)
        go_simp
        try with_reducible rfl
      try simp only [aput]
      refine tk (i := 6) (oi := ⟨some 31, .move (.tmp 30), 4, "flows.go:101", #[⟨5, .data⟩, ⟨2, .chain⟩], none⟩) (v := ?_) (Or.inl ⟨by rfl, ?_⟩) (by assumption) ?_
      rotate_left
      · intro w' hSw
        (try dsimp only at hSw)
        go_simp
        try with_reducible rfl
      try simp only [aput]
      refine tk (i := 7) (oi := ⟨some 32, .move (.tmp 6), 26, "flows.go:101", #[⟨6, .guard⟩], some (6, true)⟩) (v := ?_) (Or.inl ⟨by rfl, ?_⟩) (by assumption) ?_
      rotate_left
      · intro w' hSw
        (try dsimp only at hSw)
        go_simp
        try with_reducible rfl
      try simp only [aput]
      refine tk (i := 8) (oi := ⟨some 33, .binOp .eql 26 (.tmp 32) (.const (Go.Value.int Go.IntKind.i64 0)) 26, 4, "flows.go:101", #[⟨7, .data⟩, ⟨6, .guard⟩], some (6, true)⟩) (v := ?_) (Or.inl ⟨by rfl, ?_⟩) (by assumption) ?_
      rotate_left
      · intro w' hSw
        (try dsimp only at hSw)
        go_simp
        try with_reducible rfl
      try simp only [aput]
      refine tk (i := 9) (oi := ⟨some 34, .pick (.tmp 31) (.tmp 33) (.const (Go.Value.bool false)), 4, "flows.go:101", #[⟨6, .data⟩, ⟨8, .data⟩], none⟩) (v := ?_) (Or.inl ⟨by rfl, ?_⟩) (by assumption) ?_
      rotate_left
      · intro w' hSw
        (try dsimp only at hSw)
        go_simp
        try with_reducible rfl
      try simp only [aput]
      refine tk (i := 10) (oi := ⟨some 35, .move (.tmp 34), 4, "flows.go:101", #[⟨9, .data⟩, ⟨6, .chain⟩], none⟩) (v := ?_) (Or.inl ⟨by rfl, ?_⟩) (by assumption) ?_
      rotate_left
      · intro w' hSw
        (try dsimp only at hSw)
        go_simp
        try with_reducible rfl
      try simp only [aput]
      refine tk (i := 11) (oi := ⟨some 36, .move (.tmp 3), 4, "flows.go:101", #[⟨10, .guard⟩], some (10, true)⟩) (v := ?_) (Or.inl ⟨by rfl, ?_⟩) (by assumption) ?_
      rotate_left
      · intro w' hSw
        (try dsimp only at hSw)
        go_simp
        try with_reducible rfl
      try simp only [aput]
      refine tk (i := 12) (oi := ⟨some 37, .pick (.tmp 35) (.tmp 36) (.const (Go.Value.bool false)), 4, "flows.go:101", #[⟨10, .data⟩, ⟨11, .data⟩], none⟩) (v := ?_) (Or.inl ⟨by rfl, ?_⟩) (by assumption) ?_
      rotate_left
      · intro w' hSw
        (try dsimp only at hSw)
        go_simp
        try with_reducible rfl
      try simp only [aput]
      refine tk (i := 13) (oi := ⟨some 38, .move (.tmp 37), 4, "flows.go:101", #[⟨12, .data⟩, ⟨10, .chain⟩], none⟩) (v := ?_) (Or.inl ⟨by rfl, ?_⟩) (by assumption) ?_
      rotate_left
      · intro w' hSw
        (try dsimp only at hSw)
        go_simp
        try with_reducible rfl
      try simp only [aput]
      refine tk (i := 14) (oi := ⟨some 39, .fieldAddr 54 (.tmp 1) 0, 0, "flows.go:101", #[⟨13, .guard⟩], some (13, true)⟩) (v := ?_) (Or.inl ⟨by rfl, ?_⟩) (by assumption) ?_
      rotate_left
      · intro w' hSw
        (try dsimp only at hSw)
        go_simp
        try with_reducible rfl
      try simp only [aput]
      refine tk (i := 15) (oi := ⟨some 40, .load 52 (.tmp 39), 52, "flows.go:101", #[⟨14, .data⟩, ⟨13, .guard⟩], some (13, true)⟩) (v := ?_) (Or.inl ⟨by rfl, ?_⟩) (by assumption) ?_
      rotate_left
      · intro w' hSw
        (try dsimp only at hSw)
        go_simp
        try with_reducible rfl
      try simp only [aput]
      refine tk (i := 16) (oi := { dst := some 41, op := Go.Op.call { callee := Go.Callee.builtin Go.Builtin.len, args := #[Go.Operand.tmp 40], argTypes := #[52] }, type := 3, pos := "flows.go:101", after := #[⟨15, .data⟩, ⟨13, .guard⟩], guard := some (13, true) }) (v := ?_) (Or.inl ⟨by rfl, ?_⟩) (by assumption) ?_
      rotate_left
      · intro w' hSw
        (try dsimp only at hSw)
        go_simp
        try with_reducible rfl
      try simp only [aput]
      refine tk (i := 17) (oi := ⟨some 42, .binOp .eql 3 (.tmp 41) (.const (Go.Value.int Go.IntKind.i64 1)) 3, 4, "flows.go:101", #[⟨16, .data⟩, ⟨13, .guard⟩], some (13, true)⟩) (v := ?_) (Or.inl ⟨by rfl, ?_⟩) (by assumption) ?_
      rotate_left
      · intro w' hSw
        (try dsimp only at hSw)
        go_simp
        try with_reducible rfl
      try simp only [aput]
      refine tk (i := 18) (oi := ⟨some 43, .pick (.tmp 38) (.tmp 42) (.const (Go.Value.bool false)), 4, "flows.go:101", #[⟨13, .data⟩, ⟨17, .data⟩], none⟩) (v := ?_) (Or.inl ⟨by rfl, ?_⟩) (by assumption) ?_
      rotate_left
      · intro w' hSw
        (try dsimp only at hSw)
        go_simp
        try with_reducible rfl
      try simp only [aput]
      refine tk (i := 19) (oi := ⟨some 44, .move (.tmp 43), 4, "flows.go:101", #[⟨18, .data⟩, ⟨13, .chain⟩], none⟩) (v := ?_) (Or.inl ⟨by rfl, ?_⟩) (by assumption) ?_
      rotate_left
      · intro w' hSw
        (try dsimp only at hSw)
        go_simp
        try with_reducible rfl
      try simp only [aput]
      refine tk (i := 20) (oi := ⟨some 45, .load 62 (.tmp 5), 62, "flows.go:101", #[⟨19, .guard⟩], some (19, true)⟩) (v := ?_) (Or.inl ⟨by rfl, ?_⟩) (by assumption) ?_
      rotate_left
      · intro w' hSw
        (try dsimp only at hSw)
        go_simp
        try with_reducible rfl
      try simp only [aput]
      refine tk (i := 21) (oi := ⟨some 46, .fieldAddr 54 (.tmp 1) 0, 0, "flows.go:101", #[⟨19, .guard⟩], some (19, true)⟩) (v := ?_) (Or.inl ⟨by rfl, ?_⟩) (by assumption) ?_
      rotate_left
      · intro w' hSw
        (try dsimp only at hSw)
        go_simp
        try with_reducible rfl
      try simp only [aput]
      refine tk (i := 22) (oi := ⟨some 47, .load 52 (.tmp 46), 52, "flows.go:101", #[⟨21, .data⟩, ⟨19, .guard⟩], some (19, true)⟩) (v := ?_) (Or.inl ⟨by rfl, ?_⟩) (by assumption) ?_
      rotate_left
      · intro w' hSw
        (try dsimp only at hSw)
        go_simp
        try with_reducible rfl
      try simp only [aput]
      refine tk (i := 23) (oi := ⟨some 48, .indexAddr 52 (.tmp 47) (.const (Go.Value.int Go.IntKind.i64 0)), 0, "flows.go:101", #[⟨22, .data⟩, ⟨19, .guard⟩], some (19, true)⟩) (v := ?_) (Or.inl ⟨by rfl, ?_⟩) (by assumption) ?_
      rotate_left
      · intro w' hSw
        (try dsimp only at hSw)
        go_simp
        try with_reducible rfl
      try simp only [aput]
      refine tk (i := 24) (oi := ⟨some 49, .load 62 (.tmp 48), 62, "flows.go:101", #[⟨23, .data⟩, ⟨19, .guard⟩], some (19, true)⟩) (v := ?_) (Or.inl ⟨by rfl, ?_⟩) (by assumption) ?_
      rotate_left
      · intro w' hSw
        (try dsimp only at hSw)
        go_simp
        try with_reducible rfl
      try simp only [aput]
      refine wpAnyH_ready (rs := [25]) (by kernel_rfl) (by simp) ?_
      refine AllReadyH.cons (o := { dst := some 50, op := Go.Op.call { callee := Go.Callee.value (Go.Operand.func 43), args := #[Go.Operand.tmp 45, Go.Operand.tmp 49], argTypes := #[62, 62] }, type := 4, pos := "flows.go:101", after := #[⟨20, .data⟩, ⟨24, .data⟩, ⟨19, .chain⟩, ⟨19, .guard⟩], guard := some (19, true) }) rfl (fun K hK => ?_) AllReadyH.nil
      go_simp
      refine (KSL.out _ ((Below.refl _ WX).drew)).mono ?_
      rintro e W7 ⟨rfl, hb7⟩
      have hbz7 : Below WX.heap.size WX W7 := over_trans ((Below.refl _ WX).drew) hb7
      have hSW7 : W7.cell? ⟨xb, 0, none⟩ = some (.slice k1 k2 k3) ∧ W7.cell? ⟨xb, 1, none⟩ = some (.slice k4 k5 k6) ∧ W7.cell? ⟨w2.heap.size, 0, none⟩ = some (.slice (some ⟨bl, ol, none⟩) 1 lc) ∧ W7.cell? ⟨w2.heap.size, 1, none⟩ = some (.slice ka 0 kc) ∧ W7.cell? ⟨bl, ol, none⟩ = some (.slice m1 m2 m3) ∧ W7.cell? ⟨bl, ol + 1, none⟩ = some (.slice m4 m5 m6) := ⟨cell_over hbz7 _ _ x0, cell_over hbz7 _ _ x1, cell_over hbz7 _ _ y0, cell_over hbz7 _ _ y1, cell_over hbz7 _ _ g0, cell_over hbz7 _ _ g1⟩
      have HBW7 := hide hbz7
      clear hb7 hbz7
      go_simp
      refine hK.out _ _ (hSW7) (fun hHeld => ?_)
      clear hK K
      try simp only [aput]
      refine tk (i := 26) (oi := ⟨some 51, .pick (.tmp 44) (.tmp 50) (.const (Go.Value.bool false)), 4, "flows.go:101", #[⟨19, .data⟩, ⟨25, .data⟩], none⟩) (v := ?_) (Or.inl ⟨by rfl, ?_⟩) (by assumption) ?_
      rotate_left
      · intro w' hSw
        (try dsimp only at hSw)
        go_simp
        try with_reducible rfl
      try simp only [aput]
      refine tk (i := 27) (oi := ⟨some 52, .move (.tmp 51), 4, "flows.go:101", #[⟨26, .data⟩, ⟨25, .chain⟩], none⟩) (v := ?_) (Or.inl ⟨by rfl, ?_⟩) (by assumption) ?_
      rotate_left
      · intro w' hSw
        (try dsimp only at hSw)
        go_simp
        try with_reducible rfl
      try simp only [aput]
      refine tk (i := 28) (oi := ⟨some 53, .fieldAddr 62 (.tmp 5) 0, 0, "flows.go:101", #[⟨27, .guard⟩], some (27, true)⟩) (v := ?_) (Or.inl ⟨by rfl, ?_⟩) (by assumption) ?_
      rotate_left
      · intro w' hSw
        (try dsimp only at hSw)
        go_simp
        try with_reducible rfl
      try simp only [aput]
      refine tk (i := 29) (oi := ⟨some 54, .load 60 (.tmp 53), 60, "flows.go:101", #[⟨28, .data⟩, ⟨27, .guard⟩], some (27, true)⟩) (v := ?_) (Or.inl ⟨by rfl, ?_⟩) (by assumption) ?_
      rotate_left
      · intro w' hSw
        (try dsimp only at hSw)
        go_simp
        try with_reducible rfl
      try simp only [aput]
      refine wpAnyH_ready (rs := [30]) (by kernel_rfl) (by simp) ?_
      refine AllReadyH.cons (o := ⟨some 55, .buildSlice 60 1 #[(0, .const (Go.Value.bool true))], 60, "flows.go:101", #[⟨27, .guard⟩], some (27, true)⟩) rfl (fun K hK => ?_) AllReadyH.nil
      go_simp
      refine hK.out _ _ (⟨cell_over ((HBW7.out).alloc ((HBW7.out).size) (.cells #[.bool true] 4)) _ _ x0, cell_over ((HBW7.out).alloc ((HBW7.out).size) (.cells #[.bool true] 4)) _ _ x1, cell_over ((HBW7.out).alloc ((HBW7.out).size) (.cells #[.bool true] 4)) _ _ y0, cell_over ((HBW7.out).alloc ((HBW7.out).size) (.cells #[.bool true] 4)) _ _ y1, cell_over ((HBW7.out).alloc ((HBW7.out).size) (.cells #[.bool true] 4)) _ _ g0, cell_over ((HBW7.out).alloc ((HBW7.out).size) (.cells #[.bool true] 4)) _ _ g1⟩) (fun hHeld => ?_)
      clear hK K
      try simp only [aput]
      refine wpAnyH_ready (rs := [31]) (by kernel_rfl) (by simp) ?_
      refine AllReadyH.cons (o := { dst := some 56, op := Go.Op.call { callee := Go.Callee.value (Go.Operand.func 44), args := #[Go.Operand.tmp 54, Go.Operand.tmp 55], argTypes := #[60, 60] }, type := 4, pos := "flows.go:101", after := #[⟨29, .data⟩, ⟨30, .data⟩, ⟨27, .chain⟩, ⟨27, .guard⟩], guard := some (27, true) }) rfl (fun K hK => ?_) AllReadyH.nil
      go_simp
      refine (KSR.out W7.heap.size _ ((HBW7.out).alloc ((HBW7.out).size) (.cells #[.bool true] 4)) (by simp [go_sem])).mono ?_
      rintro e W8 ⟨rfl, nn, hW⟩
      have hb8 : Below WX.heap.size WX W8 := by rw [hW]; exact below_drewN (((HBW7.out).alloc ((HBW7.out).size) (.cells #[.bool true] 4))) nn
      have hSW8 : W8.cell? ⟨xb, 0, none⟩ = some (.slice k1 k2 k3) ∧ W8.cell? ⟨xb, 1, none⟩ = some (.slice k4 k5 k6) ∧ W8.cell? ⟨w2.heap.size, 0, none⟩ = some (.slice (some ⟨bl, ol, none⟩) 1 lc) ∧ W8.cell? ⟨w2.heap.size, 1, none⟩ = some (.slice ka 0 kc) ∧ W8.cell? ⟨bl, ol, none⟩ = some (.slice m1 m2 m3) ∧ W8.cell? ⟨bl, ol + 1, none⟩ = some (.slice m4 m5 m6) := ⟨cell_over hb8 _ _ x0, cell_over hb8 _ _ x1, cell_over hb8 _ _ y0, cell_over hb8 _ _ y1, cell_over hb8 _ _ g0, cell_over hb8 _ _ g1⟩
      have HBW8 := hide hb8
      clear hb8 hW
      go_simp
      refine hK.out _ _ (hSW8) (fun hHeld => ?_)
      clear hK K
      try simp only [aput]
      refine tk (i := 32) (oi := ⟨some 57, .pick (.tmp 52) (.tmp 56) (.const (Go.Value.bool false)), 4, "flows.go:101", #[⟨27, .data⟩, ⟨31, .data⟩], none⟩) (v := ?_) (Or.inl ⟨by rfl, ?_⟩) (by assumption) ?_
      rotate_left
      · intro w' hSw
        (try dsimp only at hSw)
        go_simp
        try with_reducible rfl
      try simp only [aput]
      refine tk (i := 33) (oi := ⟨some 58, .move (.tmp 57), 4, "flows.go:101", #[⟨32, .data⟩, ⟨31, .chain⟩], none⟩) (v := ?_) (Or.inl ⟨by rfl, ?_⟩) (by assumption) ?_
      rotate_left
      · intro w' hSw
        (try dsimp only at hSw)
        go_simp
        try with_reducible rfl
      try simp only [aput]
      refine tk (i := 34) (oi := ⟨some 59, .fieldAddr 62 (.tmp 5) 1, 0, "flows.go:101", #[⟨33, .guard⟩], some (33, true)⟩) (v := ?_) (Or.inl ⟨by rfl, ?_⟩) (by assumption) ?_
      rotate_left
      · intro w' hSw
        (try dsimp only at hSw)
        go_simp
        try with_reducible rfl
      try simp only [aput]
      refine tk (i := 35) (oi := ⟨some 60, .load 60 (.tmp 59), 60, "flows.go:101", #[⟨34, .data⟩, ⟨33, .guard⟩], some (33, true)⟩) (v := ?_) (Or.inl ⟨by rfl, ?_⟩) (by assumption) ?_
      rotate_left
      · intro w' hSw
        (try dsimp only at hSw)
        go_simp
        try with_reducible rfl
      try simp only [aput]
      refine wpAnyH_ready (rs := [36]) (by kernel_rfl) (by simp) ?_
      refine AllReadyH.cons (o := ⟨some 61, .buildSlice 60 1 #[(0, .const (Go.Value.bool true))], 60, "flows.go:101", #[⟨33, .guard⟩], some (33, true)⟩) rfl (fun K hK => ?_) AllReadyH.nil
      go_simp
      refine hK.out _ _ (⟨cell_over ((HBW8.out).alloc ((HBW8.out).size) (.cells #[.bool true] 4)) _ _ x0, cell_over ((HBW8.out).alloc ((HBW8.out).size) (.cells #[.bool true] 4)) _ _ x1, cell_over ((HBW8.out).alloc ((HBW8.out).size) (.cells #[.bool true] 4)) _ _ y0, cell_over ((HBW8.out).alloc ((HBW8.out).size) (.cells #[.bool true] 4)) _ _ y1, cell_over ((HBW8.out).alloc ((HBW8.out).size) (.cells #[.bool true] 4)) _ _ g0, cell_over ((HBW8.out).alloc ((HBW8.out).size) (.cells #[.bool true] 4)) _ _ g1⟩) (fun hHeld => ?_)
      clear hK K
      try simp only [aput]
      refine wpAnyH_ready (rs := [37]) (by kernel_rfl) (by simp) ?_
      refine AllReadyH.cons (o := { dst := some 62, op := Go.Op.call { callee := Go.Callee.value (Go.Operand.func 44), args := #[Go.Operand.tmp 60, Go.Operand.tmp 61], argTypes := #[60, 60] }, type := 4, pos := "flows.go:101", after := #[⟨35, .data⟩, ⟨36, .data⟩, ⟨33, .chain⟩, ⟨33, .guard⟩], guard := some (33, true) }) rfl (fun K hK => ?_) AllReadyH.nil
      go_simp
      refine (KSW.out W8.heap.size _ ((HBW8.out).alloc ((HBW8.out).size) (.cells #[.bool true] 4)) (by simp [go_sem])).mono ?_
      rintro e W9 ⟨rfl, nn, hW⟩
      have hb8 : Below WX.heap.size WX W9 := by rw [hW]; exact below_drewN (((HBW8.out).alloc ((HBW8.out).size) (.cells #[.bool true] 4))) nn
      have hSW9 : W9.cell? ⟨xb, 0, none⟩ = some (.slice k1 k2 k3) ∧ W9.cell? ⟨xb, 1, none⟩ = some (.slice k4 k5 k6) ∧ W9.cell? ⟨w2.heap.size, 0, none⟩ = some (.slice (some ⟨bl, ol, none⟩) 1 lc) ∧ W9.cell? ⟨w2.heap.size, 1, none⟩ = some (.slice ka 0 kc) ∧ W9.cell? ⟨bl, ol, none⟩ = some (.slice m1 m2 m3) ∧ W9.cell? ⟨bl, ol + 1, none⟩ = some (.slice m4 m5 m6) := ⟨cell_over hb8 _ _ x0, cell_over hb8 _ _ x1, cell_over hb8 _ _ y0, cell_over hb8 _ _ y1, cell_over hb8 _ _ g0, cell_over hb8 _ _ g1⟩
      have HBW9 := hide hb8
      clear hb8 hW
      go_simp
      refine hK.out _ _ (hSW9) (fun hHeld => ?_)
      clear hK K
      try simp only [aput]
      refine tk (i := 38) (oi := ⟨some 63, .pick (.tmp 58) (.tmp 62) (.const (Go.Value.bool false)), 4, "flows.go:101", #[⟨33, .data⟩, ⟨37, .data⟩], none⟩) (v := ?_) (Or.inl ⟨by rfl, ?_⟩) (by assumption) ?_
      rotate_left
      · intro w' hSw
        (try dsimp only at hSw)
        go_simp
        try with_reducible rfl
      try simp only [aput]
      refine tk (i := 39) (oi := ⟨some 0, .assign (.tmp 63), 4, "flows.go:101", #[⟨38, .data⟩, ⟨37, .chain⟩, ⟨0, .phase⟩, ⟨1, .phase⟩, ⟨2, .phase⟩, ⟨3, .phase⟩, ⟨4, .phase⟩, ⟨5, .phase⟩, ⟨6, .phase⟩, ⟨7, .phase⟩, ⟨8, .phase⟩, ⟨9, .phase⟩, ⟨10, .phase⟩, ⟨11, .phase⟩, ⟨12, .phase⟩, ⟨13, .phase⟩, ⟨14, .phase⟩, ⟨15, .phase⟩, ⟨16, .phase⟩, ⟨17, .phase⟩, ⟨18, .phase⟩, ⟨19, .phase⟩, ⟨20, .phase⟩, ⟨21, .phase⟩, ⟨22, .phase⟩, ⟨23, .phase⟩, ⟨24, .phase⟩, ⟨25, .phase⟩, ⟨26, .phase⟩, ⟨27, .phase⟩, ⟨28, .phase⟩, ⟨29, .phase⟩, ⟨30, .phase⟩, ⟨31, .phase⟩, ⟨32, .phase⟩, ⟨33, .phase⟩, ⟨34, .phase⟩, ⟨35, .phase⟩, ⟨36, .phase⟩, ⟨37, .phase⟩, ⟨38, .phase⟩], none⟩) (v := ?_) (Or.inl ⟨by rfl, ?_⟩) (by assumption) ?_
      rotate_left
      · intro w' hSw
        (try dsimp only at hSw)
        go_simp
        try with_reducible rfl
      try simp only [aput]
      refine wpAnyH_done (by kernel_rfl) ?_ _
      have HEND := hide (over_trans HF5.out HBW9.out)
      go_wp2_with fail
      go_ret
      exact ⟨rfl, HEND.out⟩
  · go_simp
    refine hK.out _ _ (by have hr := HRL.out.over (over_trans HBZ4.out (((Below.refl _ W4).alloc (Nat.le_refl _) (.cells #[.slice none 0 0, .slice none 0 0] 62)).drew)); exact ⟨hr 0 _ rfl, hr 1 _ rfl⟩) (fun hHeld => ?_)
    clear hK K
    try simp only [aput]
    refine wpAnyH_ready (rs := [0]) (by kernel_rfl) (by simp) ?_
    refine (AllReadyH.cons (o := { dst := some 19, op := Go.Op.call { callee := Go.Callee.value (Go.Operand.func 30), args := #[], argTypes := #[] }, type := 41, pos := "flows.go:100", after := #[], guard := none }) rfl (fun K hK => ?_) AllReadyH.nil)
    go_simp
    refine (K1.out _).mono ?_
    rintro e W5 ⟨di, dj, dv, dm, rfl, hs5, hb5⟩
    have hbz5 : Below W4.heap.size W4 W5 := over_trans (((Below.refl _ W4).alloc (Nat.le_refl _) (.cells #[.slice none 0 0, .slice none 0 0] 62)).drew) hb5
    have hr := HRL.out.over (over_trans HBZ4.out hbz5)
    have hS5 : W5.cell? ⟨w2.heap.size, 0, none⟩ = some (.slice la 1 lc) ∧ W5.cell? ⟨w2.heap.size, 1, none⟩ = some (.slice ka 0 kc) := ⟨hr 0 _ rfl, hr 1 _ rfl⟩
    have HBZ5 := hide hbz5
    have HS5 := hide hs5
    have bx5 : W5.heap[W4.heap.size]? = some (.cells #[.slice none 0 0, .slice none 0 0] 62) := (hb5.block _ (by simp)).trans (heap_of_alloc W4 (.cells #[.slice none 0 0, .slice none 0 0] 62))
    have BX5 := hide bx5
    clear bx5
    clear hr hs5 hb5 hbz5
    go_simp
    refine hK.out _ _ (hS5) (fun hHeld => ?_)
    clear hK K
    try simp only [aput]
    refine wpAnyH_ready (rs := [3]) (by kernel_rfl) (by simp) ?_
    refine (AllReadyH.cons (o := { dst := some 22, op := Go.Op.call { callee := Go.Callee.value (Go.Operand.func 42), args := #[Go.Operand.tmp 19, Go.Operand.tmp 20, Go.Operand.tmp 21], argTypes := #[41, 54, 24] }, type := 95, pos := "flows.go:100", after := #[⟨0, .data⟩, ⟨1, .data⟩, ⟨2, .data⟩, ⟨0, .chain⟩], guard := none }) rfl (fun K hK => ?_) AllReadyH.nil)
    go_simp
    refine (ofSmall di dj dv dm la lc ka kc _ (HS5.out) (isLevs_over HI1.out (over_trans HBZ4.out (HBZ5.out))) (isLevs_over HI2.out (over_trans HBZ4.out (HBZ5.out)))).mono ?_
    rintro e W6 ⟨k1, k2, k3, k4, k5, k6, rfl, hlev, hb6⟩
    have hbz6 : Below W4.heap.size W4 W6 := over_trans (HBZ5.out) hb6
    have hr := HRL.out.over (over_trans HBZ4.out hbz6)
    have hS6 : W6.cell? ⟨w2.heap.size, 0, none⟩ = some (.slice la 1 lc) ∧ W6.cell? ⟨w2.heap.size, 1, none⟩ = some (.slice ka 0 kc) := ⟨hr 0 _ rfl, hr 1 _ rfl⟩
    have HBZ6 := hide hbz6
    have HLV := hide hlev
    have bx6 : W6.heap[W4.heap.size]? = some (.cells #[.slice none 0 0, .slice none 0 0] 62) := (hb6.block _ (Array.getElem?_eq_some_iff.1 (BX5.out)).1).trans (BX5.out)
    have BX6 := hide bx6
    clear bx6
    clear hr hlev hb6 hbz6
    go_simp
    refine hK.out _ _ (hS6) (fun hHeld => ?_)
    clear hK K
    try simp only [aput]
    refine tk (i := 4) (oi := { dst := some 18, op := Go.Op.move (Go.Operand.tmp 22), type := 95, pos := "flows.go:100", after := #[⟨3, .data⟩], guard := none }) (v := ?_) (Or.inl ⟨by rfl, ?_⟩) (by assumption) ?_
    rotate_left
    · intro w' hSw
      (try dsimp only at hSw)
      go_simp
      try with_reducible rfl
    try simp only [aput]
    refine tk (i := 5) (oi := ⟨some 23, .extract (.tmp 18) 0, 62, "flows.go:100", #[⟨4, .data⟩], none⟩) (v := ?_) (Or.inl ⟨by rfl, ?_⟩) (by assumption) ?_
    rotate_left
    · intro w' hSw
      (try dsimp only at hSw)
      go_simp
      try with_reducible rfl
    try simp only [aput]
    refine tk (i := 6) (oi := ⟨some 24, .extract (.tmp 18) 1, 26, "flows.go:100", #[⟨4, .data⟩, ⟨8, .gcOnly Go.Departure.lateStores⟩], none⟩) (v := ?_) (Or.inl ⟨by rfl, ?_⟩) (by assumption) ?_
    rotate_left
    · intro w' hSw
      (try dsimp only at hSw)
      go_simp
      try with_reducible rfl
    try simp only [aput]
    have bX : W6.heap[W4.heap.size]? = some (.cells #[.slice none 0 0, .slice none 0 0] 62) := BX6.out
    have x0 : W6.cell? ⟨W4.heap.size, 0, none⟩ = some (.slice none 0 0) := by rw [Lib.cell_of_heap bX]; rfl
    have x1 : W6.cell? ⟨W4.heap.size, 1, none⟩ = some (.slice none 0 0) := by rw [Lib.cell_of_heap bX]; rfl
    have xz : ∀ j, W6.frozen? ⟨W4.heap.size, j, none⟩ = false := fun j => by first | (simp [World.frozen?, bX]; done) | (simp [go_sem]; done)
    have hlt4 : W4.heap.size ≤ W4.heap.size := by first | exact Nat.le_refl _ | exact HBZ5.out.size | exact HBZ6.out.size
    have hbB : Below W4.heap.size W4 W6 := HBZ6.out
    have hr := HRL.out.over (over_trans HBZ4.out hbB)
    have hne : W4.heap.size ≠ w2.heap.size := by have h1 := World.block_lt_of_cell? W4 _ (HRL.out.over HBZ4.out 0 _ rfl); simp at h1; omega
    have hcr : ∀ j u, W6.cell? ⟨W4.heap.size, j, none⟩ = some u → ∃ a m c, u = .slice a m c := fun j u hu => by
      rw [Lib.cell_of_heap bX] at hu
      match j, hu with
      | 0, hu => simp at hu; exact ⟨_, _, _, hu.symm⟩
      | 1, hu => simp at hu; exact ⟨_, _, _, hu.symm⟩
      | j + 2, hu => simp at hu
    have hF3 : LevAt ((W6.setCell ⟨W4.heap.size, 0, none⟩ (.slice k1 k2 k3)).setCell ⟨W4.heap.size, 1, none⟩ (.slice k4 k5 k6)) (.agg #[.slice k1 k2 k3, .slice k4 k5 k6]) ⟨[true], [true]⟩ := lev_end (HLV.out) hcr
    have hF4 : IsLevs ((W6.setCell ⟨W4.heap.size, 0, none⟩ (.slice k1 k2 k3)).setCell ⟨W4.heap.size, 1, none⟩ (.slice k4 k5 k6)) (.slice la 1 lc) [⟨[true], [true]⟩] := levs_end (n := 1) (X := fun _ _ => False) (levsO_of (Nat.le_refl _) (isLevs_over HI1.out (over_trans HBZ4.out hbB)) (by intro x hx; simp at hx; subst hx; exact ⟨rfl, rfl⟩) (fun _ h => h.elim)) hcr (fun a m c e => by injection e with e1; exact levs_ne HI1.out (by simp) e1 (Nat.le_trans HBZ4.out.size hlt4))
    have hF2 : RowAt [.slice la 1 lc, .slice ka 0 kc] ((W6.setCell ⟨W4.heap.size, 0, none⟩ (.slice k1 k2 k3)).setCell ⟨W4.heap.size, 1, none⟩ (.slice k4 k5 k6)) w2.heap.size := fun j u hu => by rw [set_far (Or.inl hne), set_far (Or.inl hne)]; exact hr j u hu
    have hF1a : ((W6.setCell ⟨W4.heap.size, 0, none⟩ (.slice k1 k2 k3)).setCell ⟨W4.heap.size, 1, none⟩ (.slice k4 k5 k6)).cell? ⟨W4.heap.size, 0, none⟩ = some (.slice k1 k2 k3) := by rw [set_far (Or.inr (by omega))]; exact World.cell?_setCell_same _ _ _ x0
    have hF1b : ((W6.setCell ⟨W4.heap.size, 0, none⟩ (.slice k1 k2 k3)).setCell ⟨W4.heap.size, 1, none⟩ (.slice k4 k5 k6)).cell? ⟨W4.heap.size, 1, none⟩ = some (.slice k4 k5 k6) := World.cell?_setCell_same _ _ _ (u := .slice none 0 0) (by rw [set_far (Or.inr (by omega))]; exact x1)
    have hF5 : Below w.heap.size w ((W6.setCell ⟨W4.heap.size, 0, none⟩ (.slice k1 k2 k3)).setCell ⟨W4.heap.size, 1, none⟩ (.slice k4 k5 k6)) := ((over_trans HB2.out (over_trans HBZ4.out hbB)).setCell (p := ⟨W4.heap.size, 0, none⟩) (by have h1 := (over_trans HB2.out HBZ4.out).size; simp; omega) _).setCell (p := ⟨W4.heap.size, 1, none⟩) (by have h1 := (over_trans HB2.out HBZ4.out).size; simp; omega) _
    have HF1 := hide (And.intro hF1a hF1b)
    have HF2 := hide hF2
    have HF3 := hide hF3
    have HF4 := hide hF4
    have HF5 := hide hF5
    have hSF : ((W6.setCell ⟨W4.heap.size, 0, none⟩ (.slice k1 k2 k3)).setCell ⟨W4.heap.size, 1, none⟩ (.slice k4 k5 k6)).cell? ⟨w2.heap.size, 0, none⟩ = some (.slice la 1 lc) ∧ ((W6.setCell ⟨W4.heap.size, 0, none⟩ (.slice k1 k2 k3)).setCell ⟨W4.heap.size, 1, none⟩ (.slice k4 k5 k6)).cell? ⟨w2.heap.size, 1, none⟩ = some (.slice ka 0 kc) := ⟨hF2 0 _ rfl, hF2 1 _ rfl⟩
    clear bX hbB hr hcr hF3 hF4 hF2 hF1a hF1b hF5 hlt4 hne
    refine wpAnyH_ready (rs := [8]) (by kernel_rfl) (by simp) ?_
    refine AllReadyH.cons (o := ⟨none, .store 62 (.tmp 5) (.tmp 23), 0, "flows.go:100", #[⟨7, .data⟩, ⟨5, .data⟩, ⟨3, .chain⟩, ⟨0, .phase⟩, ⟨1, .phase⟩, ⟨2, .phase⟩, ⟨3, .phase⟩, ⟨4, .phase⟩, ⟨5, .phase⟩, ⟨6, .textOnly Go.Departure.lateStores⟩, ⟨7, .phase⟩], none⟩) rfl (fun K hK => ?_) AllReadyH.nil
    go_simp
    refine hK.out _ _ (hSF) (fun hHeld => ?_)
    clear hK K
    try simp only [aput]
    refine tk (i := 9) (oi := ⟨some 6, .assign (.tmp 24), 26, "flows.go:100", #[⟨6, .data⟩, ⟨8, .chain⟩, ⟨0, .phase⟩, ⟨1, .phase⟩, ⟨2, .phase⟩, ⟨3, .phase⟩, ⟨4, .phase⟩, ⟨5, .phase⟩, ⟨6, .phase⟩, ⟨7, .phase⟩, ⟨8, .phase⟩], none⟩) (v := ?_) (Or.inl ⟨by rfl, ?_⟩) (by assumption) ?_
    rotate_left
    · intro w' hSw
      (try dsimp only at hSw)
      go_simp
      try with_reducible rfl
    try simp only [aput]
    refine wpAnyH_done (by kernel_rfl) ?_ _
    clear x0 x1 xz
    clear hS0 hSF hHeld
    generalize ((W6.setCell ⟨W4.heap.size, 0, none⟩ (.slice k1 k2 k3)).setCell ⟨W4.heap.size, 1, none⟩ (.slice k4 k5 k6)) = WX at HF1 HF2 HF3 HF4 HF5 ⊢
    generalize W4.heap.size = xb at HF1 ⊢
    obtain ⟨x0, x1⟩ := HF1.out
    obtain ⟨ao, cap, hle, hel⟩ := HF4.out
    injection hle with e1 e2 e3
    obtain ⟨bl, ol, hbo, hel⟩ := hel (by simp)
    obtain ⟨rv, wv, g0, g1, hlv⟩ := hel 0 (by simp)
    have e4 := e1.trans hbo
    subst e4
    obtain ⟨m1, m2, m3, m4, m5, m6, hf3, hf4⟩ := lev_slices hlv
    subst hf3 hf4
    simp only [Nat.zero_mul, Nat.add_zero] at g0 g1
    have y0 := HF2.out 0 _ rfl
    have y1 := HF2.out 1 _ rfl
    have hlv1 : LevAt WX (.agg #[.slice m1 m2 m3, .slice m4 m5 m6]) ⟨[true], [true]⟩ := hlv
    have KSL := hide fun W (hW : Below WX.heap.size WX W) => sameLevel_any (.agg #[.slice k1 k2 k3, .slice k4 k5 k6]) (.agg #[.slice m1 m2 m3, .slice m4 m5 m6]) ⟨[true], [true]⟩ ⟨[true], [true]⟩ W (levAt_over HF3.out hW) (levAt_over hlv1 hW) ⟨by simp, by simp⟩
    have hsl : sameLev ⟨[true], [true]⟩ ⟨[true], [true]⟩ = true := rfl
    rw [hsl] at KSL
    obtain ⟨u1, u2, hu, bu1, bu2⟩ := HF3.out
    simp at hu
    obtain ⟨hu1, hu2⟩ := hu
    subst hu1 hu2
    have hdt : decide ([true] = [true]) = true := rfl
    have KSR := hide fun b W (hW : Below WX.heap.size WX W) (hc : W.cell? ⟨b, 0, none⟩ = some (.bool true)) => sameBools_any (.slice k1 k2 k3) (.slice (some ⟨b, 0, none⟩) 1 1) [true] [true] W (isBools_over bu1 hW) (one_bool hc) (by simp)
    have KSW := hide fun b W (hW : Below WX.heap.size WX W) (hc : W.cell? ⟨b, 0, none⟩ = some (.bool true)) => sameBools_any (.slice k4 k5 k6) (.slice (some ⟨b, 0, none⟩) 1 1) [true] [true] W (isBools_over bu2 hW) (one_bool hc) (by simp)
    rw [hdt] at KSR KSW
    have hS9 : WX.cell? ⟨xb, 0, none⟩ = some (.slice k1 k2 k3) ∧ WX.cell? ⟨xb, 1, none⟩ = some (.slice k4 k5 k6) ∧ WX.cell? ⟨w2.heap.size, 0, none⟩ = some (.slice (some ⟨bl, ol, none⟩) 1 lc) ∧ WX.cell? ⟨w2.heap.size, 1, none⟩ = some (.slice ka 0 kc) ∧ WX.cell? ⟨bl, ol, none⟩ = some (.slice m1 m2 m3) ∧ WX.cell? ⟨bl, ol + 1, none⟩ = some (.slice m4 m5 m6) := ⟨x0, x1, y0, y1, g0, g1⟩
    clear hel hlv hlv1 hsl hdt bu1 bu2 e1 e2 e3 hbo HF1 HF2 HF3 HF4
    go_wp2_with fail
    refine wp_region_held_drew (S := fun Wz => Wz.cell? ⟨xb, 0, none⟩ = some (.slice k1 k2 k3) ∧ Wz.cell? ⟨xb, 1, none⟩ = some (.slice k4 k5 k6) ∧ Wz.cell? ⟨w2.heap.size, 0, none⟩ = some (.slice (some ⟨bl, ol, none⟩) 1 lc) ∧ Wz.cell? ⟨w2.heap.size, 1, none⟩ = some (.slice ka 0 kc) ∧ Wz.cell? ⟨bl, ol, none⟩ = some (.slice m1 m2 m3) ∧ Wz.cell? ⟨bl, ol + 1, none⟩ = some (.slice m4 m5 m6)) (by kernel_rfl) (hS9) (fun hHeld => ?_)
    refine tk (i := 0) (oi := ⟨some 25, .move (.tmp 2), 26, "flows.go:101", #[], none⟩) (v := ?_) (Or.inl ⟨by rfl, ?_⟩) (by assumption) ?_
    rotate_left
    · intro w' hSw
      (try dsimp only at hSw)
      go_simp
      try with_reducible rfl
    try simp only [aput]
    refine tk (i := 1) (oi := ⟨some 26, .binOp .eql 26 (.tmp 25) (.const (Go.Value.int Go.IntKind.i64 0)) 26, 4, "flows.go:101", #[⟨0, .data⟩], none⟩) (v := ?_) (Or.inl ⟨by rfl, ?_⟩) (by assumption) ?_
    rotate_left
    · intro w' hSw
      (try dsimp only at hSw)
      go_simp
      try with_reducible rfl
    try simp only [aput]
    refine tk (i := 2) (oi := ⟨some 27, .move (.tmp 26), 4, "flows.go:101", #[⟨1, .data⟩], none⟩) (v := ?_) (Or.inl ⟨by rfl, ?_⟩) (by assumption) ?_
    rotate_left
    · intro w' hSw
      (try dsimp only at hSw)
      go_simp
      try with_reducible rfl
    try simp only [aput]
    refine tk (i := 3) (oi := ⟨some 28, .move (.tmp 4), 26, "flows.go:101", #[⟨2, .guard⟩], some (2, true)⟩) (v := ?_) (Or.inl ⟨by rfl, ?_⟩) (by assumption) ?_
    rotate_left
    · intro w' hSw
      (try dsimp only at hSw)
      go_simp
      try with_reducible rfl
    try simp only [aput]
    refine tk (i := 4) (oi := ⟨some 29, .binOp .eql 26 (.tmp 28) (.const (Go.Value.int Go.IntKind.i64 0)) 26, 4, "flows.go:101", #[⟨3, .data⟩, ⟨2, .guard⟩], some (2, true)⟩) (v := ?_) (Or.inl ⟨by rfl, ?_⟩) (by assumption) ?_
    rotate_left
    · intro w' hSw
      (try dsimp only at hSw)
      go_simp
      try with_reducible rfl
    try simp only [aput]
    refine tk (i := 5) (oi := ⟨some 30, .pick (.tmp 27) (.tmp 29) (.const (Go.Value.bool false)), 4, "flows.go:101", #[⟨2, .data⟩, ⟨4, .data⟩], none⟩) (v := ?_) (Or.inl ⟨by rfl, ?_⟩) (by assumption) ?_
    rotate_left
    · intro w' hSw
      (try dsimp only at hSw)
      go_simp
      try with_reducible rfl
    try simp only [aput]
    refine tk (i := 6) (oi := ⟨some 31, .move (.tmp 30), 4, "flows.go:101", #[⟨5, .data⟩, ⟨2, .chain⟩], none⟩) (v := ?_) (Or.inl ⟨by rfl, ?_⟩) (by assumption) ?_
    rotate_left
    · intro w' hSw
      (try dsimp only at hSw)
      go_simp
      try with_reducible rfl
    try simp only [aput]
    refine tk (i := 7) (oi := ⟨some 32, .move (.tmp 6), 26, "flows.go:101", #[⟨6, .guard⟩], some (6, true)⟩) (v := ?_) (Or.inl ⟨by rfl, ?_⟩) (by assumption) ?_
    rotate_left
    · intro w' hSw
      (try dsimp only at hSw)
      go_simp
      try with_reducible rfl
    try simp only [aput]
    refine tk (i := 8) (oi := ⟨some 33, .binOp .eql 26 (.tmp 32) (.const (Go.Value.int Go.IntKind.i64 0)) 26, 4, "flows.go:101", #[⟨7, .data⟩, ⟨6, .guard⟩], some (6, true)⟩) (v := ?_) (Or.inl ⟨by rfl, ?_⟩) (by assumption) ?_
    rotate_left
    · intro w' hSw
      (try dsimp only at hSw)
      go_simp
      try with_reducible rfl
    try simp only [aput]
    refine tk (i := 9) (oi := ⟨some 34, .pick (.tmp 31) (.tmp 33) (.const (Go.Value.bool false)), 4, "flows.go:101", #[⟨6, .data⟩, ⟨8, .data⟩], none⟩) (v := ?_) (Or.inl ⟨by rfl, ?_⟩) (by assumption) ?_
    rotate_left
    · intro w' hSw
      (try dsimp only at hSw)
      go_simp
      try with_reducible rfl
    try simp only [aput]
    refine tk (i := 10) (oi := ⟨some 35, .move (.tmp 34), 4, "flows.go:101", #[⟨9, .data⟩, ⟨6, .chain⟩], none⟩) (v := ?_) (Or.inl ⟨by rfl, ?_⟩) (by assumption) ?_
    rotate_left
    · intro w' hSw
      (try dsimp only at hSw)
      go_simp
      try with_reducible rfl
    try simp only [aput]
    refine tk (i := 11) (oi := ⟨some 36, .move (.tmp 3), 4, "flows.go:101", #[⟨10, .guard⟩], some (10, true)⟩) (v := ?_) (Or.inl ⟨by rfl, ?_⟩) (by assumption) ?_
    rotate_left
    · intro w' hSw
      (try dsimp only at hSw)
      go_simp
      try with_reducible rfl
    try simp only [aput]
    refine tk (i := 12) (oi := ⟨some 37, .pick (.tmp 35) (.tmp 36) (.const (Go.Value.bool false)), 4, "flows.go:101", #[⟨10, .data⟩, ⟨11, .data⟩], none⟩) (v := ?_) (Or.inl ⟨by rfl, ?_⟩) (by assumption) ?_
    rotate_left
    · intro w' hSw
      (try dsimp only at hSw)
      go_simp
      try with_reducible rfl
    try simp only [aput]
    refine tk (i := 13) (oi := ⟨some 38, .move (.tmp 37), 4, "flows.go:101", #[⟨12, .data⟩, ⟨10, .chain⟩], none⟩) (v := ?_) (Or.inl ⟨by rfl, ?_⟩) (by assumption) ?_
    rotate_left
    · intro w' hSw
      (try dsimp only at hSw)
      go_simp
      try with_reducible rfl
    try simp only [aput]
    refine tk (i := 14) (oi := ⟨some 39, .fieldAddr 54 (.tmp 1) 0, 0, "flows.go:101", #[⟨13, .guard⟩], some (13, true)⟩) (v := ?_) (Or.inl ⟨by rfl, ?_⟩) (by assumption) ?_
    rotate_left
    · intro w' hSw
      (try dsimp only at hSw)
      go_simp
      try with_reducible rfl
    try simp only [aput]
    refine tk (i := 15) (oi := ⟨some 40, .load 52 (.tmp 39), 52, "flows.go:101", #[⟨14, .data⟩, ⟨13, .guard⟩], some (13, true)⟩) (v := ?_) (Or.inl ⟨by rfl, ?_⟩) (by assumption) ?_
    rotate_left
    · intro w' hSw
      (try dsimp only at hSw)
      go_simp
      try with_reducible rfl
    try simp only [aput]
    refine tk (i := 16) (oi := { dst := some 41, op := Go.Op.call { callee := Go.Callee.builtin Go.Builtin.len, args := #[Go.Operand.tmp 40], argTypes := #[52] }, type := 3, pos := "flows.go:101", after := #[⟨15, .data⟩, ⟨13, .guard⟩], guard := some (13, true) }) (v := ?_) (Or.inl ⟨by rfl, ?_⟩) (by assumption) ?_
    rotate_left
    · intro w' hSw
      (try dsimp only at hSw)
      go_simp
      try with_reducible rfl
    try simp only [aput]
    refine tk (i := 17) (oi := ⟨some 42, .binOp .eql 3 (.tmp 41) (.const (Go.Value.int Go.IntKind.i64 1)) 3, 4, "flows.go:101", #[⟨16, .data⟩, ⟨13, .guard⟩], some (13, true)⟩) (v := ?_) (Or.inl ⟨by rfl, ?_⟩) (by assumption) ?_
    rotate_left
    · intro w' hSw
      (try dsimp only at hSw)
      go_simp
      try with_reducible rfl
    try simp only [aput]
    refine tk (i := 18) (oi := ⟨some 43, .pick (.tmp 38) (.tmp 42) (.const (Go.Value.bool false)), 4, "flows.go:101", #[⟨13, .data⟩, ⟨17, .data⟩], none⟩) (v := ?_) (Or.inl ⟨by rfl, ?_⟩) (by assumption) ?_
    rotate_left
    · intro w' hSw
      (try dsimp only at hSw)
      go_simp
      try with_reducible rfl
    try simp only [aput]
    refine tk (i := 19) (oi := ⟨some 44, .move (.tmp 43), 4, "flows.go:101", #[⟨18, .data⟩, ⟨13, .chain⟩], none⟩) (v := ?_) (Or.inl ⟨by rfl, ?_⟩) (by assumption) ?_
    rotate_left
    · intro w' hSw
      (try dsimp only at hSw)
      go_simp
      try with_reducible rfl
    try simp only [aput]
    refine tk (i := 20) (oi := ⟨some 45, .load 62 (.tmp 5), 62, "flows.go:101", #[⟨19, .guard⟩], some (19, true)⟩) (v := ?_) (Or.inl ⟨by rfl, ?_⟩) (by assumption) ?_
    rotate_left
    · intro w' hSw
      (try dsimp only at hSw)
      go_simp
      try with_reducible rfl
    try simp only [aput]
    refine tk (i := 21) (oi := ⟨some 46, .fieldAddr 54 (.tmp 1) 0, 0, "flows.go:101", #[⟨19, .guard⟩], some (19, true)⟩) (v := ?_) (Or.inl ⟨by rfl, ?_⟩) (by assumption) ?_
    rotate_left
    · intro w' hSw
      (try dsimp only at hSw)
      go_simp
      try with_reducible rfl
    try simp only [aput]
    refine tk (i := 22) (oi := ⟨some 47, .load 52 (.tmp 46), 52, "flows.go:101", #[⟨21, .data⟩, ⟨19, .guard⟩], some (19, true)⟩) (v := ?_) (Or.inl ⟨by rfl, ?_⟩) (by assumption) ?_
    rotate_left
    · intro w' hSw
      (try dsimp only at hSw)
      go_simp
      try with_reducible rfl
    try simp only [aput]
    refine tk (i := 23) (oi := ⟨some 48, .indexAddr 52 (.tmp 47) (.const (Go.Value.int Go.IntKind.i64 0)), 0, "flows.go:101", #[⟨22, .data⟩, ⟨19, .guard⟩], some (19, true)⟩) (v := ?_) (Or.inl ⟨by rfl, ?_⟩) (by assumption) ?_
    rotate_left
    · intro w' hSw
      (try dsimp only at hSw)
      go_simp
      try with_reducible rfl
    try simp only [aput]
    refine tk (i := 24) (oi := ⟨some 49, .load 62 (.tmp 48), 62, "flows.go:101", #[⟨23, .data⟩, ⟨19, .guard⟩], some (19, true)⟩) (v := ?_) (Or.inl ⟨by rfl, ?_⟩) (by assumption) ?_
    rotate_left
    · intro w' hSw
      (try dsimp only at hSw)
      go_simp
      try with_reducible rfl
    try simp only [aput]
    refine wpAnyH_ready (rs := [25]) (by kernel_rfl) (by simp) ?_
    refine AllReadyH.cons (o := { dst := some 50, op := Go.Op.call { callee := Go.Callee.value (Go.Operand.func 43), args := #[Go.Operand.tmp 45, Go.Operand.tmp 49], argTypes := #[62, 62] }, type := 4, pos := "flows.go:101", after := #[⟨20, .data⟩, ⟨24, .data⟩, ⟨19, .chain⟩, ⟨19, .guard⟩], guard := some (19, true) }) rfl (fun K hK => ?_) AllReadyH.nil
    go_simp
    refine (KSL.out _ ((Below.refl _ WX).drew)).mono ?_
    rintro e W7 ⟨rfl, hb7⟩
    have hbz7 : Below WX.heap.size WX W7 := over_trans ((Below.refl _ WX).drew) hb7
    have hSW7 : W7.cell? ⟨xb, 0, none⟩ = some (.slice k1 k2 k3) ∧ W7.cell? ⟨xb, 1, none⟩ = some (.slice k4 k5 k6) ∧ W7.cell? ⟨w2.heap.size, 0, none⟩ = some (.slice (some ⟨bl, ol, none⟩) 1 lc) ∧ W7.cell? ⟨w2.heap.size, 1, none⟩ = some (.slice ka 0 kc) ∧ W7.cell? ⟨bl, ol, none⟩ = some (.slice m1 m2 m3) ∧ W7.cell? ⟨bl, ol + 1, none⟩ = some (.slice m4 m5 m6) := ⟨cell_over hbz7 _ _ x0, cell_over hbz7 _ _ x1, cell_over hbz7 _ _ y0, cell_over hbz7 _ _ y1, cell_over hbz7 _ _ g0, cell_over hbz7 _ _ g1⟩
    have HBW7 := hide hbz7
    clear hb7 hbz7
    go_simp
    refine hK.out _ _ (hSW7) (fun hHeld => ?_)
    clear hK K
    try simp only [aput]
    refine tk (i := 26) (oi := ⟨some 51, .pick (.tmp 44) (.tmp 50) (.const (Go.Value.bool false)), 4, "flows.go:101", #[⟨19, .data⟩, ⟨25, .data⟩], none⟩) (v := ?_) (Or.inl ⟨by rfl, ?_⟩) (by assumption) ?_
    rotate_left
    · intro w' hSw
      (try dsimp only at hSw)
      go_simp
      try with_reducible rfl
    try simp only [aput]
    refine tk (i := 27) (oi := ⟨some 52, .move (.tmp 51), 4, "flows.go:101", #[⟨26, .data⟩, ⟨25, .chain⟩], none⟩) (v := ?_) (Or.inl ⟨by rfl, ?_⟩) (by assumption) ?_
    rotate_left
    · intro w' hSw
      (try dsimp only at hSw)
      go_simp
      try with_reducible rfl
    try simp only [aput]
    refine tk (i := 28) (oi := ⟨some 53, .fieldAddr 62 (.tmp 5) 0, 0, "flows.go:101", #[⟨27, .guard⟩], some (27, true)⟩) (v := ?_) (Or.inl ⟨by rfl, ?_⟩) (by assumption) ?_
    rotate_left
    · intro w' hSw
      (try dsimp only at hSw)
      go_simp
      try with_reducible rfl
    try simp only [aput]
    refine tk (i := 29) (oi := ⟨some 54, .load 60 (.tmp 53), 60, "flows.go:101", #[⟨28, .data⟩, ⟨27, .guard⟩], some (27, true)⟩) (v := ?_) (Or.inl ⟨by rfl, ?_⟩) (by assumption) ?_
    rotate_left
    · intro w' hSw
      (try dsimp only at hSw)
      go_simp
      try with_reducible rfl
    try simp only [aput]
    refine wpAnyH_ready (rs := [30]) (by kernel_rfl) (by simp) ?_
    refine AllReadyH.cons (o := ⟨some 55, .buildSlice 60 1 #[(0, .const (Go.Value.bool true))], 60, "flows.go:101", #[⟨27, .guard⟩], some (27, true)⟩) rfl (fun K hK => ?_) AllReadyH.nil
    go_simp
    refine hK.out _ _ (⟨cell_over ((HBW7.out).alloc ((HBW7.out).size) (.cells #[.bool true] 4)) _ _ x0, cell_over ((HBW7.out).alloc ((HBW7.out).size) (.cells #[.bool true] 4)) _ _ x1, cell_over ((HBW7.out).alloc ((HBW7.out).size) (.cells #[.bool true] 4)) _ _ y0, cell_over ((HBW7.out).alloc ((HBW7.out).size) (.cells #[.bool true] 4)) _ _ y1, cell_over ((HBW7.out).alloc ((HBW7.out).size) (.cells #[.bool true] 4)) _ _ g0, cell_over ((HBW7.out).alloc ((HBW7.out).size) (.cells #[.bool true] 4)) _ _ g1⟩) (fun hHeld => ?_)
    clear hK K
    try simp only [aput]
    refine wpAnyH_ready (rs := [31]) (by kernel_rfl) (by simp) ?_
    refine AllReadyH.cons (o := { dst := some 56, op := Go.Op.call { callee := Go.Callee.value (Go.Operand.func 44), args := #[Go.Operand.tmp 54, Go.Operand.tmp 55], argTypes := #[60, 60] }, type := 4, pos := "flows.go:101", after := #[⟨29, .data⟩, ⟨30, .data⟩, ⟨27, .chain⟩, ⟨27, .guard⟩], guard := some (27, true) }) rfl (fun K hK => ?_) AllReadyH.nil
    go_simp
    refine (KSR.out W7.heap.size _ ((HBW7.out).alloc ((HBW7.out).size) (.cells #[.bool true] 4)) (by simp [go_sem])).mono ?_
    rintro e W8 ⟨rfl, nn, hW⟩
    have hb8 : Below WX.heap.size WX W8 := by rw [hW]; exact below_drewN (((HBW7.out).alloc ((HBW7.out).size) (.cells #[.bool true] 4))) nn
    have hSW8 : W8.cell? ⟨xb, 0, none⟩ = some (.slice k1 k2 k3) ∧ W8.cell? ⟨xb, 1, none⟩ = some (.slice k4 k5 k6) ∧ W8.cell? ⟨w2.heap.size, 0, none⟩ = some (.slice (some ⟨bl, ol, none⟩) 1 lc) ∧ W8.cell? ⟨w2.heap.size, 1, none⟩ = some (.slice ka 0 kc) ∧ W8.cell? ⟨bl, ol, none⟩ = some (.slice m1 m2 m3) ∧ W8.cell? ⟨bl, ol + 1, none⟩ = some (.slice m4 m5 m6) := ⟨cell_over hb8 _ _ x0, cell_over hb8 _ _ x1, cell_over hb8 _ _ y0, cell_over hb8 _ _ y1, cell_over hb8 _ _ g0, cell_over hb8 _ _ g1⟩
    have HBW8 := hide hb8
    clear hb8 hW
    go_simp
    refine hK.out _ _ (hSW8) (fun hHeld => ?_)
    clear hK K
    try simp only [aput]
    refine tk (i := 32) (oi := ⟨some 57, .pick (.tmp 52) (.tmp 56) (.const (Go.Value.bool false)), 4, "flows.go:101", #[⟨27, .data⟩, ⟨31, .data⟩], none⟩) (v := ?_) (Or.inl ⟨by rfl, ?_⟩) (by assumption) ?_
    rotate_left
    · intro w' hSw
      (try dsimp only at hSw)
      go_simp
      try with_reducible rfl
    try simp only [aput]
    refine tk (i := 33) (oi := ⟨some 58, .move (.tmp 57), 4, "flows.go:101", #[⟨32, .data⟩, ⟨31, .chain⟩], none⟩) (v := ?_) (Or.inl ⟨by rfl, ?_⟩) (by assumption) ?_
    rotate_left
    · intro w' hSw
      (try dsimp only at hSw)
      go_simp
      try with_reducible rfl
    try simp only [aput]
    refine tk (i := 34) (oi := ⟨some 59, .fieldAddr 62 (.tmp 5) 1, 0, "flows.go:101", #[⟨33, .guard⟩], some (33, true)⟩) (v := ?_) (Or.inl ⟨by rfl, ?_⟩) (by assumption) ?_
    rotate_left
    · intro w' hSw
      (try dsimp only at hSw)
      go_simp
      try with_reducible rfl
    try simp only [aput]
    refine tk (i := 35) (oi := ⟨some 60, .load 60 (.tmp 59), 60, "flows.go:101", #[⟨34, .data⟩, ⟨33, .guard⟩], some (33, true)⟩) (v := ?_) (Or.inl ⟨by rfl, ?_⟩) (by assumption) ?_
    rotate_left
    · intro w' hSw
      (try dsimp only at hSw)
      go_simp
      try with_reducible rfl
    try simp only [aput]
    refine wpAnyH_ready (rs := [36]) (by kernel_rfl) (by simp) ?_
    refine AllReadyH.cons (o := ⟨some 61, .buildSlice 60 1 #[(0, .const (Go.Value.bool true))], 60, "flows.go:101", #[⟨33, .guard⟩], some (33, true)⟩) rfl (fun K hK => ?_) AllReadyH.nil
    go_simp
    refine hK.out _ _ (⟨cell_over ((HBW8.out).alloc ((HBW8.out).size) (.cells #[.bool true] 4)) _ _ x0, cell_over ((HBW8.out).alloc ((HBW8.out).size) (.cells #[.bool true] 4)) _ _ x1, cell_over ((HBW8.out).alloc ((HBW8.out).size) (.cells #[.bool true] 4)) _ _ y0, cell_over ((HBW8.out).alloc ((HBW8.out).size) (.cells #[.bool true] 4)) _ _ y1, cell_over ((HBW8.out).alloc ((HBW8.out).size) (.cells #[.bool true] 4)) _ _ g0, cell_over ((HBW8.out).alloc ((HBW8.out).size) (.cells #[.bool true] 4)) _ _ g1⟩) (fun hHeld => ?_)
    clear hK K
    try simp only [aput]
    refine wpAnyH_ready (rs := [37]) (by kernel_rfl) (by simp) ?_
    refine AllReadyH.cons (o := { dst := some 62, op := Go.Op.call { callee := Go.Callee.value (Go.Operand.func 44), args := #[Go.Operand.tmp 60, Go.Operand.tmp 61], argTypes := #[60, 60] }, type := 4, pos := "flows.go:101", after := #[⟨35, .data⟩, ⟨36, .data⟩, ⟨33, .chain⟩, ⟨33, .guard⟩], guard := some (33, true) }) rfl (fun K hK => ?_) AllReadyH.nil
    go_simp
    refine (KSW.out W8.heap.size _ ((HBW8.out).alloc ((HBW8.out).size) (.cells #[.bool true] 4)) (by simp [go_sem])).mono ?_
    rintro e W9 ⟨rfl, nn, hW⟩
    have hb8 : Below WX.heap.size WX W9 := by rw [hW]; exact below_drewN (((HBW8.out).alloc ((HBW8.out).size) (.cells #[.bool true] 4))) nn
    have hSW9 : W9.cell? ⟨xb, 0, none⟩ = some (.slice k1 k2 k3) ∧ W9.cell? ⟨xb, 1, none⟩ = some (.slice k4 k5 k6) ∧ W9.cell? ⟨w2.heap.size, 0, none⟩ = some (.slice (some ⟨bl, ol, none⟩) 1 lc) ∧ W9.cell? ⟨w2.heap.size, 1, none⟩ = some (.slice ka 0 kc) ∧ W9.cell? ⟨bl, ol, none⟩ = some (.slice m1 m2 m3) ∧ W9.cell? ⟨bl, ol + 1, none⟩ = some (.slice m4 m5 m6) := ⟨cell_over hb8 _ _ x0, cell_over hb8 _ _ x1, cell_over hb8 _ _ y0, cell_over hb8 _ _ y1, cell_over hb8 _ _ g0, cell_over hb8 _ _ g1⟩
    have HBW9 := hide hb8
    clear hb8 hW
    go_simp
    refine hK.out _ _ (hSW9) (fun hHeld => ?_)
    clear hK K
    try simp only [aput]
    refine tk (i := 38) (oi := ⟨some 63, .pick (.tmp 58) (.tmp 62) (.const (Go.Value.bool false)), 4, "flows.go:101", #[⟨33, .data⟩, ⟨37, .data⟩], none⟩) (v := ?_) (Or.inl ⟨by rfl, ?_⟩) (by assumption) ?_
    rotate_left
    · intro w' hSw
      (try dsimp only at hSw)
      go_simp
      try with_reducible rfl
    try simp only [aput]
    refine tk (i := 39) (oi := ⟨some 0, .assign (.tmp 63), 4, "flows.go:101", #[⟨38, .data⟩, ⟨37, .chain⟩, ⟨0, .phase⟩, ⟨1, .phase⟩, ⟨2, .phase⟩, ⟨3, .phase⟩, ⟨4, .phase⟩, ⟨5, .phase⟩, ⟨6, .phase⟩, ⟨7, .phase⟩, ⟨8, .phase⟩, ⟨9, .phase⟩, ⟨10, .phase⟩, ⟨11, .phase⟩, ⟨12, .phase⟩, ⟨13, .phase⟩, ⟨14, .phase⟩, ⟨15, .phase⟩, ⟨16, .phase⟩, ⟨17, .phase⟩, ⟨18, .phase⟩, ⟨19, .phase⟩, ⟨20, .phase⟩, ⟨21, .phase⟩, ⟨22, .phase⟩, ⟨23, .phase⟩, ⟨24, .phase⟩, ⟨25, .phase⟩, ⟨26, .phase⟩, ⟨27, .phase⟩, ⟨28, .phase⟩, ⟨29, .phase⟩, ⟨30, .phase⟩, ⟨31, .phase⟩, ⟨32, .phase⟩, ⟨33, .phase⟩, ⟨34, .phase⟩, ⟨35, .phase⟩, ⟨36, .phase⟩, ⟨37, .phase⟩, ⟨38, .phase⟩], none⟩) (v := ?_) (Or.inl ⟨by rfl, ?_⟩) (by assumption) ?_
    rotate_left
    · intro w' hSw
      (try dsimp only at hSw)
      go_simp
      try with_reducible rfl
    try simp only [aput]
    refine wpAnyH_done (by kernel_rfl) ?_ _
    have HEND := hide (over_trans HF5.out HBW9.out)
    go_wp2_with fail
    go_ret
    exact ⟨rfl, HEND.out⟩
end Go.Proofs.Ytcbbjjenkommeaa.Ex
