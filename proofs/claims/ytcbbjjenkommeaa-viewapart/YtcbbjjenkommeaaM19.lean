/- Checks of one command, whatever it is. -/
import Derived.Deep.RegionHeld2
import Derived.Test.YtcbbjjenkommeaaM18
namespace Go.Proofs.Ytcbbjjenkommeaa.Ex.Ey
open Go.RowKit
set_option linter.unusedVariables false
set_option maxHeartbeats 8000000 in
set_option maxRecDepth 100000 in
theorem stmtG6 (K k : Nat) (fs : List FnD) (de : D) (das : List D) (funcs : Int) (m : Int) (ga : Option Addr) (gn gc : Nat) (sa : Option Addr) (sn sc : Nat) (ya : Option Addr) (yn yc : Nat) (oa : Option Addr) (on oc : Nat) (va : Option Addr) (vn vc : Nat) (fa : Option Addr) (fn fc : Nat) (ba : Option Addr) (bn bc : Nat) (vr ot ek en : Int) (xa : Option Addr) (xl xc : Nat) (aa : Option Addr) (al ac : Nat) (ta : Option Addr) (tl tc : Nat) (ea : Option Addr) (el ec : Nat) (w : World) (hv : vn ≤ 9223372036854775807) (i1 : In64 vr) (i2 : In64 ot) (h0f : 0 ≤ funcs) (h1f : funcs ≤ 9223372036854775807) (hyl : yn ≤ 9223372036854775807) (hol : on ≤ 9223372036854775807)
    (hde : RX w K [.int .i64 ek, .int .i64 en, .slice xa xl xc] de) (hda : XS 3 (RX w K) w (.slice aa al ac) das) (hfs : FnsAt w K k (.slice fa fn fc) fs) (hff : funcs ≤ fs.length) :
    Calls Try.prog 141 #[.agg #[.int .i64 m, .slice ga gn gc, .slice sa sn sc, .slice ya yn yc, .slice oa on oc, .slice va vn vc, .slice fa fn fc, .slice ba bn bc], .agg #[.int .i64 6, .int .i64 vr, .int .i64 ot, .int .i64 ek, .int .i64 en, .slice xa xl xc, .slice aa al ac, .slice ta tl tc, .slice ea el ec], .int .i64 funcs] w (Goes ((0 ≤ vr ∧ vr < vn) ∧ (ot = 0) ∧ (checkX vn K de = 0) ∧ (al = 0) ∧ (tl = 0) ∧ (el = 0)) w) := by
  obtain ⟨Q, hQ⟩ : ∃ Q : Prop, Q = ((0 ≤ vr ∧ vr < vn) ∧ (ot = 0) ∧ (checkX vn K de = 0) ∧ (al = 0) ∧ (tl = 0) ∧ (el = 0)) := ⟨_, rfl⟩
  rw [← hQ]
  have HQ : Hid (((0 ≤ vr ∧ vr < vn) ∧ (ot = 0) ∧ (checkX vn K de = 0) ∧ (al = 0) ∧ (tl = 0) ∧ (el = 0)) → Q) := hide (fun p => by rw [hQ]; exact p)
  have N1 : Hid (¬ (0 ≤ vr ∧ vr < vn) → ¬ Q) := hide (fun h p => by rw [hQ] at p; exact h p.1)
  have N2 : Hid (¬ (ot = 0) → ¬ Q) := hide (fun h p => by rw [hQ] at p; exact h p.2.1)
  have N3 : Hid (¬ (checkX vn K de = 0) → ¬ Q) := hide (fun h p => by rw [hQ] at p; exact h p.2.2.1)
  have N4 : Hid (¬ (al = 0) → ¬ Q) := hide (fun h p => by rw [hQ] at p; exact h p.2.2.2.1)
  have N5 : Hid (¬ (tl = 0) → ¬ Q) := hide (fun h p => by rw [hQ] at p; exact h p.2.2.2.2.1)
  have N6 : Hid (¬ (el = 0) → ¬ Q) := hide (fun h p => by rw [hQ] at p; exact h p.2.2.2.2.2)
  clear hQ
  have K1 := hide shapeOf6
  have K2 := hide must_any
  have K3 := hide isOneOf_any
  have K4 := hide fun W => others_any 6 funcs m ga gn gc sa sn sc ya yn yc oa on oc va vn vc fa fn fc ba bn bc W
  have K5 := hide fun W (hB : Below w.heap.size w W) => exprG_any K m ga gn gc sa sn sc ya yn yc oa on oc va vn vc fa fn fc ba bn bc _ _ W (hde.over hB) hv
  have hal : al ≤ 9223372036854775807 ∧ al = das.length := ⟨by obtain ⟨hm, ao, cap, he, -⟩ := hda; injection he with e1 e2 e3; rw [e2]; exact hm, by obtain ⟨hm, ao, cap, he, -⟩ := hda; injection he⟩
  obtain ⟨hal, hale⟩ := hal
  have HAL := hide hale
  obtain ⟨i1, i1'⟩ := i1
  obtain ⟨i2, i2'⟩ := i2
  clear hde hda hfs hale
  have c0 : ((w.alloc (.cells #[.int .i64 m, .slice ga gn gc, .slice sa sn sc, .slice ya yn yc, .slice oa on oc, .slice va vn vc, .slice fa fn fc, .slice ba bn bc] 125)).alloc (.cells #[.int .i64 6, .int .i64 vr, .int .i64 ot, .int .i64 ek, .int .i64 en, .slice xa xl xc, .slice aa al ac, .slice ta tl tc, .slice ea el ec] 78)).cell? ⟨w.heap.size, 0, none⟩ = some (.int .i64 m) := by simp [go_sem]
  have c1 : ((w.alloc (.cells #[.int .i64 m, .slice ga gn gc, .slice sa sn sc, .slice ya yn yc, .slice oa on oc, .slice va vn vc, .slice fa fn fc, .slice ba bn bc] 125)).alloc (.cells #[.int .i64 6, .int .i64 vr, .int .i64 ot, .int .i64 ek, .int .i64 en, .slice xa xl xc, .slice aa al ac, .slice ta tl tc, .slice ea el ec] 78)).cell? ⟨w.heap.size, 1, none⟩ = some (.slice ga gn gc) := by simp [go_sem]
  have c2 : ((w.alloc (.cells #[.int .i64 m, .slice ga gn gc, .slice sa sn sc, .slice ya yn yc, .slice oa on oc, .slice va vn vc, .slice fa fn fc, .slice ba bn bc] 125)).alloc (.cells #[.int .i64 6, .int .i64 vr, .int .i64 ot, .int .i64 ek, .int .i64 en, .slice xa xl xc, .slice aa al ac, .slice ta tl tc, .slice ea el ec] 78)).cell? ⟨w.heap.size, 2, none⟩ = some (.slice sa sn sc) := by simp [go_sem]
  have c3 : ((w.alloc (.cells #[.int .i64 m, .slice ga gn gc, .slice sa sn sc, .slice ya yn yc, .slice oa on oc, .slice va vn vc, .slice fa fn fc, .slice ba bn bc] 125)).alloc (.cells #[.int .i64 6, .int .i64 vr, .int .i64 ot, .int .i64 ek, .int .i64 en, .slice xa xl xc, .slice aa al ac, .slice ta tl tc, .slice ea el ec] 78)).cell? ⟨w.heap.size, 3, none⟩ = some (.slice ya yn yc) := by simp [go_sem]
  have c4 : ((w.alloc (.cells #[.int .i64 m, .slice ga gn gc, .slice sa sn sc, .slice ya yn yc, .slice oa on oc, .slice va vn vc, .slice fa fn fc, .slice ba bn bc] 125)).alloc (.cells #[.int .i64 6, .int .i64 vr, .int .i64 ot, .int .i64 ek, .int .i64 en, .slice xa xl xc, .slice aa al ac, .slice ta tl tc, .slice ea el ec] 78)).cell? ⟨w.heap.size, 4, none⟩ = some (.slice oa on oc) := by simp [go_sem]
  have c5 : ((w.alloc (.cells #[.int .i64 m, .slice ga gn gc, .slice sa sn sc, .slice ya yn yc, .slice oa on oc, .slice va vn vc, .slice fa fn fc, .slice ba bn bc] 125)).alloc (.cells #[.int .i64 6, .int .i64 vr, .int .i64 ot, .int .i64 ek, .int .i64 en, .slice xa xl xc, .slice aa al ac, .slice ta tl tc, .slice ea el ec] 78)).cell? ⟨w.heap.size, 5, none⟩ = some (.slice va vn vc) := by simp [go_sem]
  have c6 : ((w.alloc (.cells #[.int .i64 m, .slice ga gn gc, .slice sa sn sc, .slice ya yn yc, .slice oa on oc, .slice va vn vc, .slice fa fn fc, .slice ba bn bc] 125)).alloc (.cells #[.int .i64 6, .int .i64 vr, .int .i64 ot, .int .i64 ek, .int .i64 en, .slice xa xl xc, .slice aa al ac, .slice ta tl tc, .slice ea el ec] 78)).cell? ⟨w.heap.size, 6, none⟩ = some (.slice fa fn fc) := by simp [go_sem]
  have c7 : ((w.alloc (.cells #[.int .i64 m, .slice ga gn gc, .slice sa sn sc, .slice ya yn yc, .slice oa on oc, .slice va vn vc, .slice fa fn fc, .slice ba bn bc] 125)).alloc (.cells #[.int .i64 6, .int .i64 vr, .int .i64 ot, .int .i64 ek, .int .i64 en, .slice xa xl xc, .slice aa al ac, .slice ta tl tc, .slice ea el ec] 78)).cell? ⟨w.heap.size, 7, none⟩ = some (.slice ba bn bc) := by simp [go_sem]
  have s0 : ((w.alloc (.cells #[.int .i64 m, .slice ga gn gc, .slice sa sn sc, .slice ya yn yc, .slice oa on oc, .slice va vn vc, .slice fa fn fc, .slice ba bn bc] 125)).alloc (.cells #[.int .i64 6, .int .i64 vr, .int .i64 ot, .int .i64 ek, .int .i64 en, .slice xa xl xc, .slice aa al ac, .slice ta tl tc, .slice ea el ec] 78)).cell? ⟨w.heap.size + 1, 0, none⟩ = some (.int .i64 6) := by simp [go_sem]
  have s1 : ((w.alloc (.cells #[.int .i64 m, .slice ga gn gc, .slice sa sn sc, .slice ya yn yc, .slice oa on oc, .slice va vn vc, .slice fa fn fc, .slice ba bn bc] 125)).alloc (.cells #[.int .i64 6, .int .i64 vr, .int .i64 ot, .int .i64 ek, .int .i64 en, .slice xa xl xc, .slice aa al ac, .slice ta tl tc, .slice ea el ec] 78)).cell? ⟨w.heap.size + 1, 1, none⟩ = some (.int .i64 vr) := by simp [go_sem]
  have s2 : ((w.alloc (.cells #[.int .i64 m, .slice ga gn gc, .slice sa sn sc, .slice ya yn yc, .slice oa on oc, .slice va vn vc, .slice fa fn fc, .slice ba bn bc] 125)).alloc (.cells #[.int .i64 6, .int .i64 vr, .int .i64 ot, .int .i64 ek, .int .i64 en, .slice xa xl xc, .slice aa al ac, .slice ta tl tc, .slice ea el ec] 78)).cell? ⟨w.heap.size + 1, 2, none⟩ = some (.int .i64 ot) := by simp [go_sem]
  have s3 : ((w.alloc (.cells #[.int .i64 m, .slice ga gn gc, .slice sa sn sc, .slice ya yn yc, .slice oa on oc, .slice va vn vc, .slice fa fn fc, .slice ba bn bc] 125)).alloc (.cells #[.int .i64 6, .int .i64 vr, .int .i64 ot, .int .i64 ek, .int .i64 en, .slice xa xl xc, .slice aa al ac, .slice ta tl tc, .slice ea el ec] 78)).cell? ⟨w.heap.size + 1, 3, none⟩ = some (.int .i64 ek) := by simp [go_sem]
  have s4 : ((w.alloc (.cells #[.int .i64 m, .slice ga gn gc, .slice sa sn sc, .slice ya yn yc, .slice oa on oc, .slice va vn vc, .slice fa fn fc, .slice ba bn bc] 125)).alloc (.cells #[.int .i64 6, .int .i64 vr, .int .i64 ot, .int .i64 ek, .int .i64 en, .slice xa xl xc, .slice aa al ac, .slice ta tl tc, .slice ea el ec] 78)).cell? ⟨w.heap.size + 1, 4, none⟩ = some (.int .i64 en) := by simp [go_sem]
  have s5 : ((w.alloc (.cells #[.int .i64 m, .slice ga gn gc, .slice sa sn sc, .slice ya yn yc, .slice oa on oc, .slice va vn vc, .slice fa fn fc, .slice ba bn bc] 125)).alloc (.cells #[.int .i64 6, .int .i64 vr, .int .i64 ot, .int .i64 ek, .int .i64 en, .slice xa xl xc, .slice aa al ac, .slice ta tl tc, .slice ea el ec] 78)).cell? ⟨w.heap.size + 1, 5, none⟩ = some (.slice xa xl xc) := by simp [go_sem]
  have s6 : ((w.alloc (.cells #[.int .i64 m, .slice ga gn gc, .slice sa sn sc, .slice ya yn yc, .slice oa on oc, .slice va vn vc, .slice fa fn fc, .slice ba bn bc] 125)).alloc (.cells #[.int .i64 6, .int .i64 vr, .int .i64 ot, .int .i64 ek, .int .i64 en, .slice xa xl xc, .slice aa al ac, .slice ta tl tc, .slice ea el ec] 78)).cell? ⟨w.heap.size + 1, 6, none⟩ = some (.slice aa al ac) := by simp [go_sem]
  have s7 : ((w.alloc (.cells #[.int .i64 m, .slice ga gn gc, .slice sa sn sc, .slice ya yn yc, .slice oa on oc, .slice va vn vc, .slice fa fn fc, .slice ba bn bc] 125)).alloc (.cells #[.int .i64 6, .int .i64 vr, .int .i64 ot, .int .i64 ek, .int .i64 en, .slice xa xl xc, .slice aa al ac, .slice ta tl tc, .slice ea el ec] 78)).cell? ⟨w.heap.size + 1, 7, none⟩ = some (.slice ta tl tc) := by simp [go_sem]
  have s8 : ((w.alloc (.cells #[.int .i64 m, .slice ga gn gc, .slice sa sn sc, .slice ya yn yc, .slice oa on oc, .slice va vn vc, .slice fa fn fc, .slice ba bn bc] 125)).alloc (.cells #[.int .i64 6, .int .i64 vr, .int .i64 ot, .int .i64 ek, .int .i64 en, .slice xa xl xc, .slice aa al ac, .slice ta tl tc, .slice ea el ec] 78)).cell? ⟨w.heap.size + 1, 8, none⟩ = some (.slice ea el ec) := by simp [go_sem]
  have hbel : Below w.heap.size w ((w.alloc (.cells #[.int .i64 m, .slice ga gn gc, .slice sa sn sc, .slice ya yn yc, .slice oa on oc, .slice va vn vc, .slice fa fn fc, .slice ba bn bc] 125)).alloc (.cells #[.int .i64 6, .int .i64 vr, .int .i64 ot, .int .i64 ek, .int .i64 en, .slice xa xl xc, .slice aa al ac, .slice ta tl tc, .slice ea el ec] 78)) := ((Below.refl _ w).alloc (Nat.le_refl _) _).alloc (by simp) _
  go_enter Try.func141, Try.ntmps141
  go_wp2_with fail
  refine (K1.out _).mono ?_
  rintro e w1 ⟨rfl, hb1⟩
  have hB1 := hbel.trans (hb1.mono hbel.size)
  have hb2 := over_trans hb1 ((Below.refl _ w1).alloc (Nat.le_refl _) (.cells #[.bool true, .bool false, .bool true, .bool false, .bool false, .bool false] 201))
  have hB2 := hbel.trans (hb2.mono hbel.size)
  have c0a := cell_over hb2 _ _ c0
  have c1a := cell_over hb2 _ _ c1
  have c2a := cell_over hb2 _ _ c2
  have c3a := cell_over hb2 _ _ c3
  have c4a := cell_over hb2 _ _ c4
  have c5a := cell_over hb2 _ _ c5
  have c6a := cell_over hb2 _ _ c6
  have c7a := cell_over hb2 _ _ c7
  have s0a := cell_over hb2 _ _ s0
  have s1a := cell_over hb2 _ _ s1
  have s2a := cell_over hb2 _ _ s2
  have s3a := cell_over hb2 _ _ s3
  have s4a := cell_over hb2 _ _ s4
  have s5a := cell_over hb2 _ _ s5
  have s6a := cell_over hb2 _ _ s6
  have s7a := cell_over hb2 _ _ s7
  have s8a := cell_over hb2 _ _ s8
  have h0a : (w1.alloc (.cells #[.bool true, .bool false, .bool true, .bool false, .bool false, .bool false] 201)).cell? ⟨w1.heap.size, 0, none⟩ = some (.bool true) := by simp [go_sem]
  have h1a : (w1.alloc (.cells #[.bool true, .bool false, .bool true, .bool false, .bool false, .bool false] 201)).cell? ⟨w1.heap.size, 1, none⟩ = some (.bool false) := by simp [go_sem]
  have h2a : (w1.alloc (.cells #[.bool true, .bool false, .bool true, .bool false, .bool false, .bool false] 201)).cell? ⟨w1.heap.size, 2, none⟩ = some (.bool true) := by simp [go_sem]
  have h3a : (w1.alloc (.cells #[.bool true, .bool false, .bool true, .bool false, .bool false, .bool false] 201)).cell? ⟨w1.heap.size, 3, none⟩ = some (.bool false) := by simp [go_sem]
  have h4a : (w1.alloc (.cells #[.bool true, .bool false, .bool true, .bool false, .bool false, .bool false] 201)).cell? ⟨w1.heap.size, 4, none⟩ = some (.bool false) := by simp [go_sem]
  have h5a : (w1.alloc (.cells #[.bool true, .bool false, .bool true, .bool false, .bool false, .bool false] 201)).cell? ⟨w1.heap.size, 5, none⟩ = some (.bool false) := by simp [go_sem]
  clear hb1 hb2 hbel hB1 c0 c1 c2 c3 c4 c5 c6 c7 s0 s1 s2 s3 s4 s5 s6 s7 s8
  go_wp2_with fail
  refine (K2.out _ _ _).mono ?_
  rintro e wz ⟨he, rfl⟩
  have he2 : e = .returned (.tuple #[]) := by
    rcases he with ⟨_, he⟩ | ⟨he, _⟩
    · exact he
    · cases he
  subst he2
  clear he
  go_wp2_with fail
  refine (K3.out _ _ _).mono ?_
  rintro e wz ⟨rfl, rfl⟩
  go_wp2_with fail
  refine (K2.out _ _ _).mono ?_
  rintro e wz ⟨he, rfl⟩
  rcases he with ⟨hvar, rfl⟩ | ⟨hz, rfl⟩
  rotate_left
  · skip
    first
      | have HN := hide (N1.out (by (try simp at hz); (try simp); omega))
      | have HN := hide (N2.out (by (try simp at hz); (try simp); omega))
      | have HN := hide (N3.out (by (try simp at hz); (try simp); omega))
      | have HN := hide (N4.out (by (try simp at hz); (try simp); omega))
      | have HN := hide (N5.out (by (try simp at hz); (try simp); omega))
      | have HN := hide (N6.out (by (try simp at hz); (try simp); omega))
    clear hz
    unfold gaveW
    go_wp2_with fail
    exact ⟨rfl, Or.inr ⟨HN.out, 5, by decide, rfl⟩, hB2⟩
  have hvar2 : 0 ≤ vr ∧ vr < vn := by simpa using hvar
  have HVAR := hide hvar2
  clear hvar hvar2
  go_wp2_with fail
  go_quiet ((go_at_call 108; exact Calls.quiet_of_same (must_ok _ _)))
  have c0r := cellN (n := nq) c0a
  have c1r := cellN (n := nq) c1a
  have c2r := cellN (n := nq) c2a
  have c3r := cellN (n := nq) c3a
  have c4r := cellN (n := nq) c4a
  have c5r := cellN (n := nq) c5a
  have c6r := cellN (n := nq) c6a
  have c7r := cellN (n := nq) c7a
  have s0r := cellN (n := nq) s0a
  have s1r := cellN (n := nq) s1a
  have s2r := cellN (n := nq) s2a
  have s3r := cellN (n := nq) s3a
  have s4r := cellN (n := nq) s4a
  have s5r := cellN (n := nq) s5a
  have s6r := cellN (n := nq) s6a
  have s7r := cellN (n := nq) s7a
  have s8r := cellN (n := nq) s8a
  have h0r := cellN (n := nq) h0a
  have h1r := cellN (n := nq) h1a
  have h2r := cellN (n := nq) h2a
  have h3r := cellN (n := nq) h3a
  have h4r := cellN (n := nq) h4a
  have h5r := cellN (n := nq) h5a
  have hBr := below_drewN hB2 nq
  clear hB2 c0a c1a c2a c3a c4a c5a c6a c7a s0a s1a s2a s3a s4a s5a s6a s7a s8a h0a h1a h2a h3a h4a h5a
  generalize (w1.alloc (.cells #[.bool true, .bool false, .bool true, .bool false, .bool false, .bool false] 201)).drewN nq = wr at hBr c0r c1r c2r c3r c4r c5r c6r c7r s0r s1r s2r s3r s4r s5r s6r s7r s8r h0r h1r h2r h3r h4r h5r ⊢
  go_wp2_with fail
  refine (K2.out _ _ _).mono ?_
  rintro e wz ⟨he, rfl⟩
  have he2 : e = .returned (.tuple #[]) := by
    rcases he with ⟨_, he⟩ | ⟨he, _⟩
    · exact he
    · cases he
  subst he2
  clear he
  go_wp2_with fail
  refine (K2.out _ _ _).mono ?_
  rintro e wz ⟨he, rfl⟩
  rcases he with ⟨hz, rfl⟩ | ⟨hz, rfl⟩
  rotate_left
  · skip
    first
      | have HN := hide (N1.out (by (try simp at hz); (try simp); omega))
      | have HN := hide (N2.out (by (try simp at hz); (try simp); omega))
      | have HN := hide (N3.out (by (try simp at hz); (try simp); omega))
      | have HN := hide (N4.out (by (try simp at hz); (try simp); omega))
      | have HN := hide (N5.out (by (try simp at hz); (try simp); omega))
      | have HN := hide (N6.out (by (try simp at hz); (try simp); omega))
    clear hz
    unfold gaveW
    go_wp2_with fail
    exact ⟨rfl, Or.inr ⟨HN.out, 1, by decide, rfl⟩, hBr⟩
  have HZ_1 := hide hz
  clear hz
  go_wp2_with fail
  refine (K2.out _ _ _).mono ?_
  rintro e wz ⟨he, rfl⟩
  have he2 : e = .returned (.tuple #[]) := by
    rcases he with ⟨_, he⟩ | ⟨he, _⟩
    · exact he
    · cases he
  subst he2
  clear he
  go_wp2_with fail
  refine (K2.out _ _ _).mono ?_
  rintro e wz ⟨he, rfl⟩
  rcases he with ⟨hargs, rfl⟩ | ⟨hz, rfl⟩
  rotate_left
  · skip
    first
      | have HN := hide (N1.out (by (try simp at hz); (try simp); omega))
      | have HN := hide (N2.out (by (try simp at hz); (try simp); omega))
      | have HN := hide (N3.out (by (try simp at hz); (try simp); omega))
      | have HN := hide (N4.out (by (try simp at hz); (try simp); omega))
      | have HN := hide (N5.out (by (try simp at hz); (try simp); omega))
      | have HN := hide (N6.out (by (try simp at hz); (try simp); omega))
    clear hz
    unfold gaveW
    go_wp2_with fail
    exact ⟨rfl, Or.inr ⟨HN.out, 1, by decide, rfl⟩, hBr⟩
  have hal0 : al = 0 := by simp at hargs; omega
  subst hal0
  clear hargs
  go_wp2_with fail
  refine (K2.out _ _ _).mono ?_
  rintro e wz ⟨he, rfl⟩
  rcases he with ⟨hz, rfl⟩ | ⟨hz, rfl⟩
  rotate_left
  · skip
    first
      | have HN := hide (N1.out (by (try simp at hz); (try simp); omega))
      | have HN := hide (N2.out (by (try simp at hz); (try simp); omega))
      | have HN := hide (N3.out (by (try simp at hz); (try simp); omega))
      | have HN := hide (N4.out (by (try simp at hz); (try simp); omega))
      | have HN := hide (N5.out (by (try simp at hz); (try simp); omega))
      | have HN := hide (N6.out (by (try simp at hz); (try simp); omega))
    clear hz
    unfold gaveW
    go_wp2_with fail
    exact ⟨rfl, Or.inr ⟨HN.out, 1, by decide, rfl⟩, hBr⟩
  have HZ_2 := hide hz
  clear hz
  go_wp2_with fail
  refine (K2.out _ _ _).mono ?_
  rintro e wz ⟨he, rfl⟩
  rcases he with ⟨hz, rfl⟩ | ⟨hz, rfl⟩
  rotate_left
  · skip
    first
      | have HN := hide (N1.out (by (try simp at hz); (try simp); omega))
      | have HN := hide (N2.out (by (try simp at hz); (try simp); omega))
      | have HN := hide (N3.out (by (try simp at hz); (try simp); omega))
      | have HN := hide (N4.out (by (try simp at hz); (try simp); omega))
      | have HN := hide (N5.out (by (try simp at hz); (try simp); omega))
      | have HN := hide (N6.out (by (try simp at hz); (try simp); omega))
    clear hz
    unfold gaveW
    go_wp2_with fail
    exact ⟨rfl, Or.inr ⟨HN.out, 1, by decide, rfl⟩, hBr⟩
  have HZ_3 := hide hz
  clear hz
  go_wp2_with fail
  go_quiet ((go_at_call 108; exact Calls.quiet_of_same (must_ok _ _)))
  have c0q := cellN (n := nq) c0r
  have c1q := cellN (n := nq) c1r
  have c2q := cellN (n := nq) c2r
  have c3q := cellN (n := nq) c3r
  have c4q := cellN (n := nq) c4r
  have c5q := cellN (n := nq) c5r
  have c6q := cellN (n := nq) c6r
  have c7q := cellN (n := nq) c7r
  have s0q := cellN (n := nq) s0r
  have s1q := cellN (n := nq) s1r
  have s2q := cellN (n := nq) s2r
  have s3q := cellN (n := nq) s3r
  have s4q := cellN (n := nq) s4r
  have s5q := cellN (n := nq) s5r
  have s6q := cellN (n := nq) s6r
  have s7q := cellN (n := nq) s7r
  have s8q := cellN (n := nq) s8r
  have h0q := cellN (n := nq) h0r
  have h1q := cellN (n := nq) h1r
  have h2q := cellN (n := nq) h2r
  have h3q := cellN (n := nq) h3r
  have h4q := cellN (n := nq) h4r
  have h5q := cellN (n := nq) h5r
  have hBq := below_drewN hBr nq
  clear c0r c1r c2r c3r c4r c5r c6r c7r s0r s1r s2r s3r s4r s5r s6r s7r s8r h0r h1r h2r h3r h4r h5r
  go_wp2_with fail
  refine (K5.out _ hBq).mono ?_
  rintro e w5 ⟨he, hb5⟩
  have hB5 := hBq.trans (hb5.mono hBq.size)
  rcases he with ⟨hex, rfl⟩ | ⟨hnex, why, hwhy, rfl⟩
  rotate_left
  · have HN := hide (N3.out hnex)
    clear hnex
    unfold gaveW
    go_wp2_with fail
    exact ⟨rfl, Or.inr ⟨HN.out, why, hwhy, rfl⟩, hB5⟩
  have c05 := cell_over hb5 _ _ c0q
  have c15 := cell_over hb5 _ _ c1q
  have c25 := cell_over hb5 _ _ c2q
  have c35 := cell_over hb5 _ _ c3q
  have c45 := cell_over hb5 _ _ c4q
  have c55 := cell_over hb5 _ _ c5q
  have c65 := cell_over hb5 _ _ c6q
  have c75 := cell_over hb5 _ _ c7q
  have s05 := cell_over hb5 _ _ s0q
  have s15 := cell_over hb5 _ _ s1q
  have s25 := cell_over hb5 _ _ s2q
  have s35 := cell_over hb5 _ _ s3q
  have s45 := cell_over hb5 _ _ s4q
  have s55 := cell_over hb5 _ _ s5q
  have s65 := cell_over hb5 _ _ s6q
  have s75 := cell_over hb5 _ _ s7q
  have s85 := cell_over hb5 _ _ s8q
  have h05 := cell_over hb5 _ _ h0q
  have h15 := cell_over hb5 _ _ h1q
  have h25 := cell_over hb5 _ _ h2q
  have h35 := cell_over hb5 _ _ h3q
  have h45 := cell_over hb5 _ _ h4q
  have h55 := cell_over hb5 _ _ h5q
  have HEX := hide hex
  clear hex hb5 c0q c1q c2q c3q c4q c5q c6q c7q s0q s1q s2q s3q s4q s5q s6q s7q s8q h0q h1q h2q h3q h4q h5q
  go_wp2_with fail
  go_loopw [138] (fun i wr => i = .int .i64 0 ∧ Below w.heap.size w wr) (fun _ _ => 0)
  case atStart => exact ⟨rfl, hB5⟩
  case round =>
    obtain ⟨rfl, hB⟩ := hrel
    go_wp2_with fail
    go_end0
    refine ⟨Or.inl ⟨HQ.out ⟨?_, ?_, ?_, ?_, ?_, ?_⟩, rfl⟩, hB⟩
    all_goals first | trivial | exact HVAR.out | exact HOT.out | exact HEX.out | exact ⟨HZ1.out, HZ2.out, HXL.out⟩ | (have hq := HZ_1.out; simp at hq; omega) | (have hq := HZ_2.out; simp at hq; omega) | (have hq := HZ_3.out; simp at hq; omega) | omega

set_option maxHeartbeats 8000000 in
set_option maxRecDepth 100000 in
theorem stmtG8 (K k : Nat) (fs : List FnD) (de : D) (das : List D) (funcs : Int) (m : Int) (ga : Option Addr) (gn gc : Nat) (sa : Option Addr) (sn sc : Nat) (ya : Option Addr) (yn yc : Nat) (oa : Option Addr) (on oc : Nat) (va : Option Addr) (vn vc : Nat) (fa : Option Addr) (fn fc : Nat) (ba : Option Addr) (bn bc : Nat) (vr ot ek en : Int) (xa : Option Addr) (xl xc : Nat) (aa : Option Addr) (al ac : Nat) (ta : Option Addr) (tl tc : Nat) (ea : Option Addr) (el ec : Nat) (w : World) (hv : vn ≤ 9223372036854775807) (i1 : In64 vr) (i2 : In64 ot) (h0f : 0 ≤ funcs) (h1f : funcs ≤ 9223372036854775807) (hyl : yn ≤ 9223372036854775807) (hol : on ≤ 9223372036854775807)
    (hde : RX w K [.int .i64 ek, .int .i64 en, .slice xa xl xc] de) (hda : XS 3 (RX w K) w (.slice aa al ac) das) (hfs : FnsAt w K k (.slice fa fn fc) fs) (hff : funcs ≤ fs.length) :
    Calls Try.prog 141 #[.agg #[.int .i64 m, .slice ga gn gc, .slice sa sn sc, .slice ya yn yc, .slice oa on oc, .slice va vn vc, .slice fa fn fc, .slice ba bn bc], .agg #[.int .i64 8, .int .i64 vr, .int .i64 ot, .int .i64 ek, .int .i64 en, .slice xa xl xc, .slice aa al ac, .slice ta tl tc, .slice ea el ec], .int .i64 funcs] w (Goes ((vr = 0) ∧ (ot = 0) ∧ (checkX vn K de = 0) ∧ (al = 0) ∧ (True) ∧ (el = 0)) w) := by
  obtain ⟨Q, hQ⟩ : ∃ Q : Prop, Q = ((vr = 0) ∧ (ot = 0) ∧ (checkX vn K de = 0) ∧ (al = 0) ∧ (True) ∧ (el = 0)) := ⟨_, rfl⟩
  rw [← hQ]
  have HQ : Hid (((vr = 0) ∧ (ot = 0) ∧ (checkX vn K de = 0) ∧ (al = 0) ∧ (True) ∧ (el = 0)) → Q) := hide (fun p => by rw [hQ]; exact p)
  have N1 : Hid (¬ (vr = 0) → ¬ Q) := hide (fun h p => by rw [hQ] at p; exact h p.1)
  have N2 : Hid (¬ (ot = 0) → ¬ Q) := hide (fun h p => by rw [hQ] at p; exact h p.2.1)
  have N3 : Hid (¬ (checkX vn K de = 0) → ¬ Q) := hide (fun h p => by rw [hQ] at p; exact h p.2.2.1)
  have N4 : Hid (¬ (al = 0) → ¬ Q) := hide (fun h p => by rw [hQ] at p; exact h p.2.2.2.1)
  have N5 : Hid (¬ (True) → ¬ Q) := hide (fun h p => by rw [hQ] at p; exact h p.2.2.2.2.1)
  have N6 : Hid (¬ (el = 0) → ¬ Q) := hide (fun h p => by rw [hQ] at p; exact h p.2.2.2.2.2)
  clear hQ
  have K1 := hide shapeOf8
  have K2 := hide must_any
  have K3 := hide isOneOf_any
  have K4 := hide fun W => others_any 8 funcs m ga gn gc sa sn sc ya yn yc oa on oc va vn vc fa fn fc ba bn bc W
  have K5 := hide fun W (hB : Below w.heap.size w W) => exprG_any K m ga gn gc sa sn sc ya yn yc oa on oc va vn vc fa fn fc ba bn bc _ _ W (hde.over hB) hv
  have hal : al ≤ 9223372036854775807 ∧ al = das.length := ⟨by obtain ⟨hm, ao, cap, he, -⟩ := hda; injection he with e1 e2 e3; rw [e2]; exact hm, by obtain ⟨hm, ao, cap, he, -⟩ := hda; injection he⟩
  obtain ⟨hal, hale⟩ := hal
  have HAL := hide hale
  obtain ⟨i1, i1'⟩ := i1
  obtain ⟨i2, i2'⟩ := i2
  clear hde hda hfs hale
  have c0 : ((w.alloc (.cells #[.int .i64 m, .slice ga gn gc, .slice sa sn sc, .slice ya yn yc, .slice oa on oc, .slice va vn vc, .slice fa fn fc, .slice ba bn bc] 125)).alloc (.cells #[.int .i64 8, .int .i64 vr, .int .i64 ot, .int .i64 ek, .int .i64 en, .slice xa xl xc, .slice aa al ac, .slice ta tl tc, .slice ea el ec] 78)).cell? ⟨w.heap.size, 0, none⟩ = some (.int .i64 m) := by simp [go_sem]
  have c1 : ((w.alloc (.cells #[.int .i64 m, .slice ga gn gc, .slice sa sn sc, .slice ya yn yc, .slice oa on oc, .slice va vn vc, .slice fa fn fc, .slice ba bn bc] 125)).alloc (.cells #[.int .i64 8, .int .i64 vr, .int .i64 ot, .int .i64 ek, .int .i64 en, .slice xa xl xc, .slice aa al ac, .slice ta tl tc, .slice ea el ec] 78)).cell? ⟨w.heap.size, 1, none⟩ = some (.slice ga gn gc) := by simp [go_sem]
  have c2 : ((w.alloc (.cells #[.int .i64 m, .slice ga gn gc, .slice sa sn sc, .slice ya yn yc, .slice oa on oc, .slice va vn vc, .slice fa fn fc, .slice ba bn bc] 125)).alloc (.cells #[.int .i64 8, .int .i64 vr, .int .i64 ot, .int .i64 ek, .int .i64 en, .slice xa xl xc, .slice aa al ac, .slice ta tl tc, .slice ea el ec] 78)).cell? ⟨w.heap.size, 2, none⟩ = some (.slice sa sn sc) := by simp [go_sem]
  have c3 : ((w.alloc (.cells #[.int .i64 m, .slice ga gn gc, .slice sa sn sc, .slice ya yn yc, .slice oa on oc, .slice va vn vc, .slice fa fn fc, .slice ba bn bc] 125)).alloc (.cells #[.int .i64 8, .int .i64 vr, .int .i64 ot, .int .i64 ek, .int .i64 en, .slice xa xl xc, .slice aa al ac, .slice ta tl tc, .slice ea el ec] 78)).cell? ⟨w.heap.size, 3, none⟩ = some (.slice ya yn yc) := by simp [go_sem]
  have c4 : ((w.alloc (.cells #[.int .i64 m, .slice ga gn gc, .slice sa sn sc, .slice ya yn yc, .slice oa on oc, .slice va vn vc, .slice fa fn fc, .slice ba bn bc] 125)).alloc (.cells #[.int .i64 8, .int .i64 vr, .int .i64 ot, .int .i64 ek, .int .i64 en, .slice xa xl xc, .slice aa al ac, .slice ta tl tc, .slice ea el ec] 78)).cell? ⟨w.heap.size, 4, none⟩ = some (.slice oa on oc) := by simp [go_sem]
  have c5 : ((w.alloc (.cells #[.int .i64 m, .slice ga gn gc, .slice sa sn sc, .slice ya yn yc, .slice oa on oc, .slice va vn vc, .slice fa fn fc, .slice ba bn bc] 125)).alloc (.cells #[.int .i64 8, .int .i64 vr, .int .i64 ot, .int .i64 ek, .int .i64 en, .slice xa xl xc, .slice aa al ac, .slice ta tl tc, .slice ea el ec] 78)).cell? ⟨w.heap.size, 5, none⟩ = some (.slice va vn vc) := by simp [go_sem]
  have c6 : ((w.alloc (.cells #[.int .i64 m, .slice ga gn gc, .slice sa sn sc, .slice ya yn yc, .slice oa on oc, .slice va vn vc, .slice fa fn fc, .slice ba bn bc] 125)).alloc (.cells #[.int .i64 8, .int .i64 vr, .int .i64 ot, .int .i64 ek, .int .i64 en, .slice xa xl xc, .slice aa al ac, .slice ta tl tc, .slice ea el ec] 78)).cell? ⟨w.heap.size, 6, none⟩ = some (.slice fa fn fc) := by simp [go_sem]
  have c7 : ((w.alloc (.cells #[.int .i64 m, .slice ga gn gc, .slice sa sn sc, .slice ya yn yc, .slice oa on oc, .slice va vn vc, .slice fa fn fc, .slice ba bn bc] 125)).alloc (.cells #[.int .i64 8, .int .i64 vr, .int .i64 ot, .int .i64 ek, .int .i64 en, .slice xa xl xc, .slice aa al ac, .slice ta tl tc, .slice ea el ec] 78)).cell? ⟨w.heap.size, 7, none⟩ = some (.slice ba bn bc) := by simp [go_sem]
  have s0 : ((w.alloc (.cells #[.int .i64 m, .slice ga gn gc, .slice sa sn sc, .slice ya yn yc, .slice oa on oc, .slice va vn vc, .slice fa fn fc, .slice ba bn bc] 125)).alloc (.cells #[.int .i64 8, .int .i64 vr, .int .i64 ot, .int .i64 ek, .int .i64 en, .slice xa xl xc, .slice aa al ac, .slice ta tl tc, .slice ea el ec] 78)).cell? ⟨w.heap.size + 1, 0, none⟩ = some (.int .i64 8) := by simp [go_sem]
  have s1 : ((w.alloc (.cells #[.int .i64 m, .slice ga gn gc, .slice sa sn sc, .slice ya yn yc, .slice oa on oc, .slice va vn vc, .slice fa fn fc, .slice ba bn bc] 125)).alloc (.cells #[.int .i64 8, .int .i64 vr, .int .i64 ot, .int .i64 ek, .int .i64 en, .slice xa xl xc, .slice aa al ac, .slice ta tl tc, .slice ea el ec] 78)).cell? ⟨w.heap.size + 1, 1, none⟩ = some (.int .i64 vr) := by simp [go_sem]
  have s2 : ((w.alloc (.cells #[.int .i64 m, .slice ga gn gc, .slice sa sn sc, .slice ya yn yc, .slice oa on oc, .slice va vn vc, .slice fa fn fc, .slice ba bn bc] 125)).alloc (.cells #[.int .i64 8, .int .i64 vr, .int .i64 ot, .int .i64 ek, .int .i64 en, .slice xa xl xc, .slice aa al ac, .slice ta tl tc, .slice ea el ec] 78)).cell? ⟨w.heap.size + 1, 2, none⟩ = some (.int .i64 ot) := by simp [go_sem]
  have s3 : ((w.alloc (.cells #[.int .i64 m, .slice ga gn gc, .slice sa sn sc, .slice ya yn yc, .slice oa on oc, .slice va vn vc, .slice fa fn fc, .slice ba bn bc] 125)).alloc (.cells #[.int .i64 8, .int .i64 vr, .int .i64 ot, .int .i64 ek, .int .i64 en, .slice xa xl xc, .slice aa al ac, .slice ta tl tc, .slice ea el ec] 78)).cell? ⟨w.heap.size + 1, 3, none⟩ = some (.int .i64 ek) := by simp [go_sem]
  have s4 : ((w.alloc (.cells #[.int .i64 m, .slice ga gn gc, .slice sa sn sc, .slice ya yn yc, .slice oa on oc, .slice va vn vc, .slice fa fn fc, .slice ba bn bc] 125)).alloc (.cells #[.int .i64 8, .int .i64 vr, .int .i64 ot, .int .i64 ek, .int .i64 en, .slice xa xl xc, .slice aa al ac, .slice ta tl tc, .slice ea el ec] 78)).cell? ⟨w.heap.size + 1, 4, none⟩ = some (.int .i64 en) := by simp [go_sem]
  have s5 : ((w.alloc (.cells #[.int .i64 m, .slice ga gn gc, .slice sa sn sc, .slice ya yn yc, .slice oa on oc, .slice va vn vc, .slice fa fn fc, .slice ba bn bc] 125)).alloc (.cells #[.int .i64 8, .int .i64 vr, .int .i64 ot, .int .i64 ek, .int .i64 en, .slice xa xl xc, .slice aa al ac, .slice ta tl tc, .slice ea el ec] 78)).cell? ⟨w.heap.size + 1, 5, none⟩ = some (.slice xa xl xc) := by simp [go_sem]
  have s6 : ((w.alloc (.cells #[.int .i64 m, .slice ga gn gc, .slice sa sn sc, .slice ya yn yc, .slice oa on oc, .slice va vn vc, .slice fa fn fc, .slice ba bn bc] 125)).alloc (.cells #[.int .i64 8, .int .i64 vr, .int .i64 ot, .int .i64 ek, .int .i64 en, .slice xa xl xc, .slice aa al ac, .slice ta tl tc, .slice ea el ec] 78)).cell? ⟨w.heap.size + 1, 6, none⟩ = some (.slice aa al ac) := by simp [go_sem]
  have s7 : ((w.alloc (.cells #[.int .i64 m, .slice ga gn gc, .slice sa sn sc, .slice ya yn yc, .slice oa on oc, .slice va vn vc, .slice fa fn fc, .slice ba bn bc] 125)).alloc (.cells #[.int .i64 8, .int .i64 vr, .int .i64 ot, .int .i64 ek, .int .i64 en, .slice xa xl xc, .slice aa al ac, .slice ta tl tc, .slice ea el ec] 78)).cell? ⟨w.heap.size + 1, 7, none⟩ = some (.slice ta tl tc) := by simp [go_sem]
  have s8 : ((w.alloc (.cells #[.int .i64 m, .slice ga gn gc, .slice sa sn sc, .slice ya yn yc, .slice oa on oc, .slice va vn vc, .slice fa fn fc, .slice ba bn bc] 125)).alloc (.cells #[.int .i64 8, .int .i64 vr, .int .i64 ot, .int .i64 ek, .int .i64 en, .slice xa xl xc, .slice aa al ac, .slice ta tl tc, .slice ea el ec] 78)).cell? ⟨w.heap.size + 1, 8, none⟩ = some (.slice ea el ec) := by simp [go_sem]
  have hbel : Below w.heap.size w ((w.alloc (.cells #[.int .i64 m, .slice ga gn gc, .slice sa sn sc, .slice ya yn yc, .slice oa on oc, .slice va vn vc, .slice fa fn fc, .slice ba bn bc] 125)).alloc (.cells #[.int .i64 8, .int .i64 vr, .int .i64 ot, .int .i64 ek, .int .i64 en, .slice xa xl xc, .slice aa al ac, .slice ta tl tc, .slice ea el ec] 78)) := ((Below.refl _ w).alloc (Nat.le_refl _) _).alloc (by simp) _
  go_enter Try.func141, Try.ntmps141
  go_wp2_with fail
  refine (K1.out _).mono ?_
  rintro e w1 ⟨rfl, hb1⟩
  have hB1 := hbel.trans (hb1.mono hbel.size)
  have hb2 := over_trans hb1 ((Below.refl _ w1).alloc (Nat.le_refl _) (.cells #[.bool false, .bool false, .bool true, .bool false, .bool true, .bool false] 201))
  have hB2 := hbel.trans (hb2.mono hbel.size)
  have c0a := cell_over hb2 _ _ c0
  have c1a := cell_over hb2 _ _ c1
  have c2a := cell_over hb2 _ _ c2
  have c3a := cell_over hb2 _ _ c3
  have c4a := cell_over hb2 _ _ c4
  have c5a := cell_over hb2 _ _ c5
  have c6a := cell_over hb2 _ _ c6
  have c7a := cell_over hb2 _ _ c7
  have s0a := cell_over hb2 _ _ s0
  have s1a := cell_over hb2 _ _ s1
  have s2a := cell_over hb2 _ _ s2
  have s3a := cell_over hb2 _ _ s3
  have s4a := cell_over hb2 _ _ s4
  have s5a := cell_over hb2 _ _ s5
  have s6a := cell_over hb2 _ _ s6
  have s7a := cell_over hb2 _ _ s7
  have s8a := cell_over hb2 _ _ s8
  have h0a : (w1.alloc (.cells #[.bool false, .bool false, .bool true, .bool false, .bool true, .bool false] 201)).cell? ⟨w1.heap.size, 0, none⟩ = some (.bool false) := by simp [go_sem]
  have h1a : (w1.alloc (.cells #[.bool false, .bool false, .bool true, .bool false, .bool true, .bool false] 201)).cell? ⟨w1.heap.size, 1, none⟩ = some (.bool false) := by simp [go_sem]
  have h2a : (w1.alloc (.cells #[.bool false, .bool false, .bool true, .bool false, .bool true, .bool false] 201)).cell? ⟨w1.heap.size, 2, none⟩ = some (.bool true) := by simp [go_sem]
  have h3a : (w1.alloc (.cells #[.bool false, .bool false, .bool true, .bool false, .bool true, .bool false] 201)).cell? ⟨w1.heap.size, 3, none⟩ = some (.bool false) := by simp [go_sem]
  have h4a : (w1.alloc (.cells #[.bool false, .bool false, .bool true, .bool false, .bool true, .bool false] 201)).cell? ⟨w1.heap.size, 4, none⟩ = some (.bool true) := by simp [go_sem]
  have h5a : (w1.alloc (.cells #[.bool false, .bool false, .bool true, .bool false, .bool true, .bool false] 201)).cell? ⟨w1.heap.size, 5, none⟩ = some (.bool false) := by simp [go_sem]
  clear hb1 hb2 hbel hB1 c0 c1 c2 c3 c4 c5 c6 c7 s0 s1 s2 s3 s4 s5 s6 s7 s8
  go_wp2_with fail
  refine (K2.out _ _ _).mono ?_
  rintro e wz ⟨he, rfl⟩
  have he2 : e = .returned (.tuple #[]) := by
    rcases he with ⟨_, he⟩ | ⟨he, _⟩
    · exact he
    · cases he
  subst he2
  clear he
  go_wp2_with fail
  refine (K2.out _ _ _).mono ?_
  rintro e wz ⟨he, rfl⟩
  have he2 : e = .returned (.tuple #[]) := by
    rcases he with ⟨_, he⟩ | ⟨he, _⟩
    · exact he
    · cases he
  subst he2
  clear he
  go_wp2_with fail
  go_quiet ((go_at_call 108; exact Calls.quiet_of_same (must_ok _ _)))
  have c0r := cellN (n := nq) c0a
  have c1r := cellN (n := nq) c1a
  have c2r := cellN (n := nq) c2a
  have c3r := cellN (n := nq) c3a
  have c4r := cellN (n := nq) c4a
  have c5r := cellN (n := nq) c5a
  have c6r := cellN (n := nq) c6a
  have c7r := cellN (n := nq) c7a
  have s0r := cellN (n := nq) s0a
  have s1r := cellN (n := nq) s1a
  have s2r := cellN (n := nq) s2a
  have s3r := cellN (n := nq) s3a
  have s4r := cellN (n := nq) s4a
  have s5r := cellN (n := nq) s5a
  have s6r := cellN (n := nq) s6a
  have s7r := cellN (n := nq) s7a
  have s8r := cellN (n := nq) s8a
  have h0r := cellN (n := nq) h0a
  have h1r := cellN (n := nq) h1a
  have h2r := cellN (n := nq) h2a
  have h3r := cellN (n := nq) h3a
  have h4r := cellN (n := nq) h4a
  have h5r := cellN (n := nq) h5a
  have hBr := below_drewN hB2 nq
  clear hB2 c0a c1a c2a c3a c4a c5a c6a c7a s0a s1a s2a s3a s4a s5a s6a s7a s8a h0a h1a h2a h3a h4a h5a
  generalize (w1.alloc (.cells #[.bool false, .bool false, .bool true, .bool false, .bool true, .bool false] 201)).drewN nq = wr at hBr c0r c1r c2r c3r c4r c5r c6r c7r s0r s1r s2r s3r s4r s5r s6r s7r s8r h0r h1r h2r h3r h4r h5r ⊢
  go_wp2_with fail
  refine (K2.out _ _ _).mono ?_
  rintro e wz ⟨he, rfl⟩
  rcases he with ⟨hz, rfl⟩ | ⟨hz, rfl⟩
  rotate_left
  · skip
    first
      | have HN := hide (N1.out (by (try simp at hz); (try simp); omega))
      | have HN := hide (N2.out (by (try simp at hz); (try simp); omega))
      | have HN := hide (N3.out (by (try simp at hz); (try simp); omega))
      | have HN := hide (N4.out (by (try simp at hz); (try simp); omega))
      | have HN := hide (N5.out (by (try simp at hz); (try simp); omega))
      | have HN := hide (N6.out (by (try simp at hz); (try simp); omega))
    clear hz
    unfold gaveW
    go_wp2_with fail
    exact ⟨rfl, Or.inr ⟨HN.out, 1, by decide, rfl⟩, hBr⟩
  have HZ_1 := hide hz
  clear hz
  go_wp2_with fail
  refine (K2.out _ _ _).mono ?_
  rintro e wz ⟨he, rfl⟩
  rcases he with ⟨hz, rfl⟩ | ⟨hz, rfl⟩
  rotate_left
  · skip
    first
      | have HN := hide (N1.out (by (try simp at hz); (try simp); omega))
      | have HN := hide (N2.out (by (try simp at hz); (try simp); omega))
      | have HN := hide (N3.out (by (try simp at hz); (try simp); omega))
      | have HN := hide (N4.out (by (try simp at hz); (try simp); omega))
      | have HN := hide (N5.out (by (try simp at hz); (try simp); omega))
      | have HN := hide (N6.out (by (try simp at hz); (try simp); omega))
    clear hz
    unfold gaveW
    go_wp2_with fail
    exact ⟨rfl, Or.inr ⟨HN.out, 1, by decide, rfl⟩, hBr⟩
  have HZ_2 := hide hz
  clear hz
  go_wp2_with fail
  refine (K2.out _ _ _).mono ?_
  rintro e wz ⟨he, rfl⟩
  have he2 : e = .returned (.tuple #[]) := by
    rcases he with ⟨_, he⟩ | ⟨he, _⟩
    · exact he
    · cases he
  subst he2
  clear he
  go_wp2_with fail
  refine (K2.out _ _ _).mono ?_
  rintro e wz ⟨he, rfl⟩
  rcases he with ⟨hargs, rfl⟩ | ⟨hz, rfl⟩
  rotate_left
  · skip
    first
      | have HN := hide (N1.out (by (try simp at hz); (try simp); omega))
      | have HN := hide (N2.out (by (try simp at hz); (try simp); omega))
      | have HN := hide (N3.out (by (try simp at hz); (try simp); omega))
      | have HN := hide (N4.out (by (try simp at hz); (try simp); omega))
      | have HN := hide (N5.out (by (try simp at hz); (try simp); omega))
      | have HN := hide (N6.out (by (try simp at hz); (try simp); omega))
    clear hz
    unfold gaveW
    go_wp2_with fail
    exact ⟨rfl, Or.inr ⟨HN.out, 1, by decide, rfl⟩, hBr⟩
  have hal0 : al = 0 := by simp at hargs; omega
  subst hal0
  clear hargs
  go_wp2_with fail
  refine (K2.out _ _ _).mono ?_
  rintro e wz ⟨he, rfl⟩
  have he2 : e = .returned (.tuple #[]) := by
    rcases he with ⟨_, he⟩ | ⟨he, _⟩
    · exact he
    · cases he
  subst he2
  clear he
  go_wp2_with fail
  refine (K2.out _ _ _).mono ?_
  rintro e wz ⟨he, rfl⟩
  rcases he with ⟨hz, rfl⟩ | ⟨hz, rfl⟩
  rotate_left
  · skip
    first
      | have HN := hide (N1.out (by (try simp at hz); (try simp); omega))
      | have HN := hide (N2.out (by (try simp at hz); (try simp); omega))
      | have HN := hide (N3.out (by (try simp at hz); (try simp); omega))
      | have HN := hide (N4.out (by (try simp at hz); (try simp); omega))
      | have HN := hide (N5.out (by (try simp at hz); (try simp); omega))
      | have HN := hide (N6.out (by (try simp at hz); (try simp); omega))
    clear hz
    unfold gaveW
    go_wp2_with fail
    exact ⟨rfl, Or.inr ⟨HN.out, 1, by decide, rfl⟩, hBr⟩
  have HZ_3 := hide hz
  clear hz
  go_wp2_with fail
  go_quiet ((go_at_call 108; exact Calls.quiet_of_same (must_ok _ _)))
  have c0q := cellN (n := nq) c0r
  have c1q := cellN (n := nq) c1r
  have c2q := cellN (n := nq) c2r
  have c3q := cellN (n := nq) c3r
  have c4q := cellN (n := nq) c4r
  have c5q := cellN (n := nq) c5r
  have c6q := cellN (n := nq) c6r
  have c7q := cellN (n := nq) c7r
  have s0q := cellN (n := nq) s0r
  have s1q := cellN (n := nq) s1r
  have s2q := cellN (n := nq) s2r
  have s3q := cellN (n := nq) s3r
  have s4q := cellN (n := nq) s4r
  have s5q := cellN (n := nq) s5r
  have s6q := cellN (n := nq) s6r
  have s7q := cellN (n := nq) s7r
  have s8q := cellN (n := nq) s8r
  have h0q := cellN (n := nq) h0r
  have h1q := cellN (n := nq) h1r
  have h2q := cellN (n := nq) h2r
  have h3q := cellN (n := nq) h3r
  have h4q := cellN (n := nq) h4r
  have h5q := cellN (n := nq) h5r
  have hBq := below_drewN hBr nq
  clear c0r c1r c2r c3r c4r c5r c6r c7r s0r s1r s2r s3r s4r s5r s6r s7r s8r h0r h1r h2r h3r h4r h5r
  go_wp2_with fail
  refine (K5.out _ hBq).mono ?_
  rintro e w5 ⟨he, hb5⟩
  have hB5 := hBq.trans (hb5.mono hBq.size)
  rcases he with ⟨hex, rfl⟩ | ⟨hnex, why, hwhy, rfl⟩
  rotate_left
  · have HN := hide (N3.out hnex)
    clear hnex
    unfold gaveW
    go_wp2_with fail
    exact ⟨rfl, Or.inr ⟨HN.out, why, hwhy, rfl⟩, hB5⟩
  have c05 := cell_over hb5 _ _ c0q
  have c15 := cell_over hb5 _ _ c1q
  have c25 := cell_over hb5 _ _ c2q
  have c35 := cell_over hb5 _ _ c3q
  have c45 := cell_over hb5 _ _ c4q
  have c55 := cell_over hb5 _ _ c5q
  have c65 := cell_over hb5 _ _ c6q
  have c75 := cell_over hb5 _ _ c7q
  have s05 := cell_over hb5 _ _ s0q
  have s15 := cell_over hb5 _ _ s1q
  have s25 := cell_over hb5 _ _ s2q
  have s35 := cell_over hb5 _ _ s3q
  have s45 := cell_over hb5 _ _ s4q
  have s55 := cell_over hb5 _ _ s5q
  have s65 := cell_over hb5 _ _ s6q
  have s75 := cell_over hb5 _ _ s7q
  have s85 := cell_over hb5 _ _ s8q
  have h05 := cell_over hb5 _ _ h0q
  have h15 := cell_over hb5 _ _ h1q
  have h25 := cell_over hb5 _ _ h2q
  have h35 := cell_over hb5 _ _ h3q
  have h45 := cell_over hb5 _ _ h4q
  have h55 := cell_over hb5 _ _ h5q
  have HEX := hide hex
  clear hex hb5 c0q c1q c2q c3q c4q c5q c6q c7q s0q s1q s2q s3q s4q s5q s6q s7q s8q h0q h1q h2q h3q h4q h5q
  go_wp2_with fail
  go_loopw [138] (fun i wr => i = .int .i64 0 ∧ Below w.heap.size w wr) (fun _ _ => 0)
  case atStart => exact ⟨rfl, hB5⟩
  case round =>
    obtain ⟨rfl, hB⟩ := hrel
    go_wp2_with fail
    go_end0
    refine ⟨Or.inl ⟨HQ.out ⟨?_, ?_, ?_, ?_, ?_, ?_⟩, rfl⟩, hB⟩
    all_goals first | trivial | exact HVAR.out | exact HOT.out | exact HEX.out | exact ⟨HZ1.out, HZ2.out, HXL.out⟩ | (have hq := HZ_1.out; simp at hq; omega) | (have hq := HZ_2.out; simp at hq; omega) | (have hq := HZ_3.out; simp at hq; omega) | omega
end Go.Proofs.Ytcbbjjenkommeaa.Ex.Ey
