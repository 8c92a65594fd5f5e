/- Commands of one step, done. -/
import Derived.Test.YtcbbjjenkommeaaM13
namespace Go.Proofs.Ytcbbjjenkommeaa.Ex
open Go.RowKit
set_option linter.unusedVariables false
theorem keep5b {w w' : World} {a0 a1 a2 a3 a4 : Addr} {v0 v1 v2 v3 v4 : Value} (h : w.cell? a0 = some v0 ∧ w.cell? a1 = some v1 ∧ w.cell? a2 = some v2 ∧ w.cell? a3 = some v3 ∧ w.cell? a4 = some v4) (hb : Below w.heap.size w w') :
    w'.cell? a0 = some v0 ∧ w'.cell? a1 = some v1 ∧ w'.cell? a2 = some v2 ∧ w'.cell? a3 = some v3 ∧ w'.cell? a4 = some v4 := ⟨cell_over hb _ _ h.1, cell_over hb _ _ h.2.1, cell_over hb _ _ h.2.2.1, cell_over hb _ _ h.2.2.2.1, cell_over hb _ _ h.2.2.2.2⟩
theorem keep5g {w w' : World} {r b c j0 j1 j2 j3 j4 : Nat} {v0 v1 v2 v3 v4 : Value} (h : w.cell? ⟨b, j0, none⟩ = some v0 ∧ w.cell? ⟨c, j1, none⟩ = some v1 ∧ w.cell? ⟨c, j2, none⟩ = some v2 ∧ w.cell? ⟨c, j3, none⟩ = some v3 ∧ w.cell? ⟨c, j4, none⟩ = some v4) (hg : w.grownBy w' (some r)) (hb : b ≠ r) (hc : c ≠ r) :
    w'.cell? ⟨b, j0, none⟩ = some v0 ∧ w'.cell? ⟨c, j1, none⟩ = some v1 ∧ w'.cell? ⟨c, j2, none⟩ = some v2 ∧ w'.cell? ⟨c, j3, none⟩ = some v3 ∧ w'.cell? ⟨c, j4, none⟩ = some v4 := ⟨grow_cellR hg h.1 hb, grow_cellR hg h.2.1 hc, grow_cellR hg h.2.2.1 hc, grow_cellR hg h.2.2.2.1 hc, grow_cellR hg h.2.2.2.2 hc⟩

set_option maxHeartbeats 2000000 in
set_option maxRecDepth 100000 in
theorem stmtR1 (m : Int) (ga : Option Addr) (gn gc : Nat) (sa : Option Addr) (sn sc : Nat) (ya : Option Addr) (yn yc : Nat) (oa : Option Addr) (on oc : Nat) (va : Option Addr) (vn vc : Nat) (fa : Option Addr) (fn fc : Nat) (ba : Option Addr) (bn bc : Nat) (xa : Option Addr) (xn xc : Nat) (F fln c3 : Nat) (B br b1 b2 b3 : Nat) (fl : List Int) {I : ObsI} (dp : Nat) (st : RSt) (ev : Ow) (K : Nat) (d : D) (n : Nat) (so ek ex : Int) (pa : Option Addr) (pl pc : Nat) (aa : Option Addr) (al ac : Nat) (ta : Option Addr) (tl tc : Nat) (ea : Option Addr) (el ec : Nat) (a : Int) (w : World) (h : RnG I B [.int .i64 m, .slice ga gn gc, .slice sa sn sc, .slice ya yn yc, .slice oa on oc, .slice va vn vc, .slice fa fn fc, .slice ba bn bc, .slice xa xn xc, .int .i64 (F : Int), .slice (some ⟨b3, 0, none⟩) fln c3] br b1 b2 b3 fl dp st ev w) (hx : RX w K [.int .i64 ek, .int .i64 ex, .slice pa pl pc] d) (ho : okX st.vars.length K d) (hi : ∀ x ∈ st.vars, I32 x) (hn : n < st.vars.length) (hm : st.vars.length ≤ 16) :
    Calls Try.prog 104 #[.pointer (some ⟨br, 0, none⟩), .agg #[.int .i64 1, .int .i64 (n : Int), .int .i64 so, .int .i64 ek, .int .i64 ex, .slice pa pl pc, .slice aa al ac, .slice ta tl tc, .slice ea el ec], .int .i64 a] w fun e w' => e = .returned (.bool true) ∧ RnG I B [.int .i64 m, .slice ga gn gc, .slice sa sn sc, .slice ya yn yc, .slice oa on oc, .slice va vn vc, .slice fa fn fc, .slice ba bn bc, .slice xa xn xc, .int .i64 (F : Int), .slice (some ⟨b3, 0, none⟩) fln c3] br b1 b2 b3 fl dp (st.setv (n : Int) (valX st.vars K d)) ev w' ∧ Fr br b1 b2 ev ev w w' := by
  have hbel : Below w.heap.size w (w.alloc (.cells #[.int .i64 1, .int .i64 (n : Int), .int .i64 so, .int .i64 ek, .int .i64 ex, .slice pa pl pc, .slice aa al ac, .slice ta tl tc, .slice ea el ec] 78)) := (Below.refl _ w).alloc (Nat.le_refl _) _
  have h' := (h.over hbel).drewN 1
  have KV := hide (valueR_any m ga gn gc sa sn sc ya yn yc oa on oc va vn vc fa fn fc ba bn bc xa xn xc F fln c3 B br b1 b2 b3 fl dp st ev K _ d (w.alloc (.cells #[.int .i64 1, .int .i64 (n : Int), .int .i64 so, .int .i64 ek, .int .i64 ex, .slice pa pl pc, .slice aa al ac, .slice ta tl tc, .slice ea el ec] 78)).drew h' (hx.over hbel.drew) ho hi)
  have HR : Hid (∀ W, Below (w.alloc (.cells #[.int .i64 1, .int .i64 (n : Int), .int .i64 so, .int .i64 ek, .int .i64 ex, .slice pa pl pc, .slice aa al ac, .slice ta tl tc, .slice ea el ec] 78)).drew.heap.size (w.alloc (.cells #[.int .i64 1, .int .i64 (n : Int), .int .i64 so, .int .i64 ek, .int .i64 ex, .slice pa pl pc, .slice aa al ac, .slice ta tl tc, .slice ea el ec] 78)).drew W → RnG I B [.int .i64 m, .slice ga gn gc, .slice sa sn sc, .slice ya yn yc, .slice oa on oc, .slice va vn vc, .slice fa fn fc, .slice ba bn bc, .slice xa xn xc, .int .i64 (F : Int), .slice (some ⟨b3, 0, none⟩) fln c3] br b1 b2 b3 fl dp (st.setv (n : Int) (valX st.vars K d)) ev (W.setCell ⟨b1, n, none⟩ (.int .i64 (valX st.vars K d))) ∧ Fr br b1 b2 ev ev w (W.setCell ⟨b1, n, none⟩ (.int .i64 (valX st.vars K d)))) := fun W hW => by
    have r := (h'.over hW).setVar (n : Int) (valX st.vars K d) (by simpa using hn)
    exact ⟨by simpa using r, (Fr.of_below hbel.drew).trans ((Fr.of_below hW).trans (fr_set1 (h'.over hW) _ _))⟩
  have c1 := h'.row 1 _ rfl
  have HO := hide h'
  have hnv : (n : Int) < (st.vars.length : Int) := by omega
  have nb : w.heap.size ≠ b1 := by have := h.hi; omega
  have nr : br ≠ b1 := h.apart.1
  have s0 : (w.alloc (.cells #[.int .i64 1, .int .i64 (n : Int), .int .i64 so, .int .i64 ek, .int .i64 ex, .slice pa pl pc, .slice aa al ac, .slice ta tl tc, .slice ea el ec] 78)).cell? ⟨w.heap.size, 0, none⟩ = some (.int .i64 1) := by simp [go_sem]
  have s1 : (w.alloc (.cells #[.int .i64 1, .int .i64 (n : Int), .int .i64 so, .int .i64 ek, .int .i64 ex, .slice pa pl pc, .slice aa al ac, .slice ta tl tc, .slice ea el ec] 78)).cell? ⟨w.heap.size, 1, none⟩ = some (.int .i64 (n : Int)) := by simp [go_sem]
  have s2 : (w.alloc (.cells #[.int .i64 1, .int .i64 (n : Int), .int .i64 so, .int .i64 ek, .int .i64 ex, .slice pa pl pc, .slice aa al ac, .slice ta tl tc, .slice ea el ec] 78)).cell? ⟨w.heap.size, 2, none⟩ = some (.int .i64 so) := by simp [go_sem]
  have s3 : (w.alloc (.cells #[.int .i64 1, .int .i64 (n : Int), .int .i64 so, .int .i64 ek, .int .i64 ex, .slice pa pl pc, .slice aa al ac, .slice ta tl tc, .slice ea el ec] 78)).cell? ⟨w.heap.size, 3, none⟩ = some (.int .i64 ek) := by simp [go_sem]
  have s4 : (w.alloc (.cells #[.int .i64 1, .int .i64 (n : Int), .int .i64 so, .int .i64 ek, .int .i64 ex, .slice pa pl pc, .slice aa al ac, .slice ta tl tc, .slice ea el ec] 78)).cell? ⟨w.heap.size, 4, none⟩ = some (.int .i64 ex) := by simp [go_sem]
  have s5 : (w.alloc (.cells #[.int .i64 1, .int .i64 (n : Int), .int .i64 so, .int .i64 ek, .int .i64 ex, .slice pa pl pc, .slice aa al ac, .slice ta tl tc, .slice ea el ec] 78)).cell? ⟨w.heap.size, 5, none⟩ = some (.slice pa pl pc) := by simp [go_sem]
  have s6 : (w.alloc (.cells #[.int .i64 1, .int .i64 (n : Int), .int .i64 so, .int .i64 ek, .int .i64 ex, .slice pa pl pc, .slice aa al ac, .slice ta tl tc, .slice ea el ec] 78)).cell? ⟨w.heap.size, 6, none⟩ = some (.slice aa al ac) := by simp [go_sem]
  have s7 : (w.alloc (.cells #[.int .i64 1, .int .i64 (n : Int), .int .i64 so, .int .i64 ek, .int .i64 ex, .slice pa pl pc, .slice aa al ac, .slice ta tl tc, .slice ea el ec] 78)).cell? ⟨w.heap.size, 7, none⟩ = some (.slice ta tl tc) := by simp [go_sem]
  have s8 : (w.alloc (.cells #[.int .i64 1, .int .i64 (n : Int), .int .i64 so, .int .i64 ek, .int .i64 ex, .slice pa pl pc, .slice aa al ac, .slice ta tl tc, .slice ea el ec] 78)).cell? ⟨w.heap.size, 8, none⟩ = some (.slice ea el ec) := by simp [go_sem]
  obtain ⟨vl, hvl⟩ : ∃ q, q = st.vars.length := ⟨_, rfl⟩
  obtain ⟨vx, hvx⟩ : ∃ q, q = valX st.vars K d := ⟨_, rfl⟩
  have hvw : ∀ W, Below (w.alloc (.cells #[.int .i64 1, .int .i64 (n : Int), .int .i64 so, .int .i64 ek, .int .i64 ex, .slice pa pl pc, .slice aa al ac, .slice ta tl tc, .slice ea el ec] 78)).drew.heap.size (w.alloc (.cells #[.int .i64 1, .int .i64 (n : Int), .int .i64 so, .int .i64 ek, .int .i64 ex, .slice pa pl pc, .slice aa al ac, .slice ta tl tc, .slice ea el ec] 78)).drew W → W.cell? ⟨b1, n, none⟩ = some (.int .i64 st.vars[n]) ∧ W.frozen? ⟨b1, n, none⟩ = false ∧ b1 < W.heap.size := fun W hW => ⟨(h'.over hW).vars n _ (by simp [hn]), (h'.over hW).z1 n, (h'.over hW).hi.2.1⟩
  obtain ⟨y, hy⟩ : ∃ y, y = st.vars[n] := ⟨_, rfl⟩
  rw [← hy] at hvw
  have HVW := hide hvw
  rw [← hvl] at c1 hnv
  rw [← hvx] at KV HR ⊢
  clear h h' hx ho hi hvl hvx hvw hy hn hm
  go_enter Try.func104, Try.ntmps104
  go_wp2_with fail
  go_region_held3 (fun W => W.cell? ⟨br, 1, none⟩ = some (.slice (some ⟨b1, 0, none⟩) vl vl) ∧ W.cell? ⟨w.heap.size, 1, none⟩ = some (.int .i64 (n : Int)) ∧ W.cell? ⟨w.heap.size, 3, none⟩ = some (.int .i64 ek) ∧ W.cell? ⟨w.heap.size, 4, none⟩ = some (.int .i64 ex) ∧ W.cell? ⟨w.heap.size, 5, none⟩ = some (.slice pa pl pc)) (first | assumption | exact ⟨c1, s1, s3, s4, s5⟩ | exact keep5b (by assumption) hbp | exact keep5g (by assumption) (grow_set (n := 0)) nr nb | fail) (first | (go_at_call 130; refine (KV.out).mono ?_; rintro e wp ⟨rfl, hbp⟩; obtain ⟨u0, uz, ul⟩ := HVW.out _ hbp))
  have HE := hide (HR.out _ hbp)
  go_wp2_with fail
  go_ret
  exact ⟨rfl, HE.out⟩

set_option maxHeartbeats 2000000 in
set_option maxRecDepth 100000 in
theorem stmtR3 (m : Int) (ga : Option Addr) (gn gc : Nat) (sa : Option Addr) (sn sc : Nat) (ya : Option Addr) (yn yc : Nat) (oa : Option Addr) (on oc : Nat) (va : Option Addr) (vn vc : Nat) (fa : Option Addr) (fn fc : Nat) (ba : Option Addr) (bn bc : Nat) (xa : Option Addr) (xn xc : Nat) (F fln c3 : Nat) (B br b1 b2 b3 : Nat) (fl : List Int) {I : ObsI} (dp : Nat) (st : RSt) (ev : Ow) (n : Nat) (so ek ex : Int) (pa : Option Addr) (pl pc : Nat) (aa : Option Addr) (al ac : Nat) (ta : Option Addr) (tl tc : Nat) (ea : Option Addr) (el ec : Nat) (a : Int) (ins : List (List Int)) (w0 w : World) (h : RnG I B [.int .i64 m, .slice ga gn gc, .slice sa sn sc, .slice ya yn yc, .slice oa on oc, .slice va vn vc, .slice fa fn fc, .slice ba bn bc, .slice xa xn xc, .int .i64 (F : Int), .slice (some ⟨b3, 0, none⟩) fln c3] br b1 b2 b3 fl dp st ev w) (hB0 : Below w0.heap.size w0 w) (hBB : w0.heap.size ≤ b2) (hl : ListsAt w0 (.slice xa xn xc) ins) (h0 : 0 ≤ so) (h1 : so < ins.length) (h2 : ins.length = st.taken.length) (h3 : ∀ x ∈ st.taken, 0 ≤ x ∧ x ≤ 2000) (h4 : ∀ x ∈ ins, x.length ≤ 100) (hn : n < st.vars.length) (hm : st.vars.length ≤ 16) :
    Calls Try.prog 104 #[.pointer (some ⟨br, 0, none⟩), .agg #[.int .i64 3, .int .i64 (n : Int), .int .i64 so, .int .i64 ek, .int .i64 ex, .slice pa pl pc, .slice aa al ac, .slice ta tl tc, .slice ea el ec], .int .i64 a] w fun e w' => e = .returned (.bool true) ∧ RnG I B [.int .i64 m, .slice ga gn gc, .slice sa sn sc, .slice ya yn yc, .slice oa on oc, .slice va vn vc, .slice fa fn fc, .slice ba bn bc, .slice xa xn xc, .int .i64 (F : Int), .slice (some ⟨b3, 0, none⟩) fln c3] br b1 b2 b3 fl dp ((st.took so).setv (n : Int) (nextX ins st so)) ev w' ∧ Fr br b1 b2 ev ev w w' := by
  have hbel : Below w.heap.size w (w.alloc (.cells #[.int .i64 3, .int .i64 (n : Int), .int .i64 so, .int .i64 ek, .int .i64 ex, .slice pa pl pc, .slice aa al ac, .slice ta tl tc, .slice ea el ec] 78)) := (Below.refl _ w).alloc (Nat.le_refl _) _
  have h' := (h.over hbel).drewN 1
  have KV := hide (nextR_any m ga gn gc sa sn sc ya yn yc oa on oc va vn vc fa fn fc ba bn bc xa xn xc F fln c3 B br b1 b2 b3 fl dp st ev ins so w0 (w.alloc (.cells #[.int .i64 3, .int .i64 (n : Int), .int .i64 so, .int .i64 ek, .int .i64 ex, .slice pa pl pc, .slice aa al ac, .slice ta tl tc, .slice ea el ec] 78)).drew (hB0.trans (hbel.drew.mono hB0.size)) h' hBB hl h0 h1 h2 h3 h4)
  have hvl2 : (st.took so).vars = st.vars := rfl
  have HR : Hid (∀ W, RnG I B [.int .i64 m, .slice ga gn gc, .slice sa sn sc, .slice ya yn yc, .slice oa on oc, .slice va vn vc, .slice fa fn fc, .slice ba bn bc, .slice xa xn xc, .int .i64 (F : Int), .slice (some ⟨b3, 0, none⟩) fln c3] br b1 b2 b3 fl dp (st.took so) ev W → Fr br b1 b2 ev ev (w.alloc (.cells #[.int .i64 3, .int .i64 (n : Int), .int .i64 so, .int .i64 ek, .int .i64 ex, .slice pa pl pc, .slice aa al ac, .slice ta tl tc, .slice ea el ec] 78)).drew W → RnG I B [.int .i64 m, .slice ga gn gc, .slice sa sn sc, .slice ya yn yc, .slice oa on oc, .slice va vn vc, .slice fa fn fc, .slice ba bn bc, .slice xa xn xc, .int .i64 (F : Int), .slice (some ⟨b3, 0, none⟩) fln c3] br b1 b2 b3 fl dp ((st.took so).setv (n : Int) (nextX ins st so)) ev (W.setCell ⟨b1, n, none⟩ (.int .i64 (nextX ins st so))) ∧ Fr br b1 b2 ev ev w (W.setCell ⟨b1, n, none⟩ (.int .i64 (nextX ins st so)))) := fun W hW hF => by
    have r := hW.setVar (n : Int) (nextX ins st so) (by rw [hvl2]; simpa using hn)
    exact ⟨by simpa using r, (Fr.of_below hbel.drew).trans (hF.trans (fr_set1 hW _ _))⟩
  have c1 := h'.row 1 _ rfl
  have hnv : (n : Int) < (st.vars.length : Int) := by omega
  have nb : w.heap.size ≠ b1 := by have := h.hi; omega
  have nb2 : w.heap.size ≠ b2 := by have := h.hi; omega
  have nr : br ≠ b1 := h.apart.1
  have nr2 : br ≠ b2 := h.apart.2.1
  have s0 : (w.alloc (.cells #[.int .i64 3, .int .i64 (n : Int), .int .i64 so, .int .i64 ek, .int .i64 ex, .slice pa pl pc, .slice aa al ac, .slice ta tl tc, .slice ea el ec] 78)).cell? ⟨w.heap.size, 0, none⟩ = some (.int .i64 3) := by simp [go_sem]
  have s1 : (w.alloc (.cells #[.int .i64 3, .int .i64 (n : Int), .int .i64 so, .int .i64 ek, .int .i64 ex, .slice pa pl pc, .slice aa al ac, .slice ta tl tc, .slice ea el ec] 78)).cell? ⟨w.heap.size, 1, none⟩ = some (.int .i64 (n : Int)) := by simp [go_sem]
  have s2 : (w.alloc (.cells #[.int .i64 3, .int .i64 (n : Int), .int .i64 so, .int .i64 ek, .int .i64 ex, .slice pa pl pc, .slice aa al ac, .slice ta tl tc, .slice ea el ec] 78)).cell? ⟨w.heap.size, 2, none⟩ = some (.int .i64 so) := by simp [go_sem]
  have s3 : (w.alloc (.cells #[.int .i64 3, .int .i64 (n : Int), .int .i64 so, .int .i64 ek, .int .i64 ex, .slice pa pl pc, .slice aa al ac, .slice ta tl tc, .slice ea el ec] 78)).cell? ⟨w.heap.size, 3, none⟩ = some (.int .i64 ek) := by simp [go_sem]
  have s4 : (w.alloc (.cells #[.int .i64 3, .int .i64 (n : Int), .int .i64 so, .int .i64 ek, .int .i64 ex, .slice pa pl pc, .slice aa al ac, .slice ta tl tc, .slice ea el ec] 78)).cell? ⟨w.heap.size, 4, none⟩ = some (.int .i64 ex) := by simp [go_sem]
  have s5 : (w.alloc (.cells #[.int .i64 3, .int .i64 (n : Int), .int .i64 so, .int .i64 ek, .int .i64 ex, .slice pa pl pc, .slice aa al ac, .slice ta tl tc, .slice ea el ec] 78)).cell? ⟨w.heap.size, 5, none⟩ = some (.slice pa pl pc) := by simp [go_sem]
  have s6 : (w.alloc (.cells #[.int .i64 3, .int .i64 (n : Int), .int .i64 so, .int .i64 ek, .int .i64 ex, .slice pa pl pc, .slice aa al ac, .slice ta tl tc, .slice ea el ec] 78)).cell? ⟨w.heap.size, 6, none⟩ = some (.slice aa al ac) := by simp [go_sem]
  have s7 : (w.alloc (.cells #[.int .i64 3, .int .i64 (n : Int), .int .i64 so, .int .i64 ek, .int .i64 ex, .slice pa pl pc, .slice aa al ac, .slice ta tl tc, .slice ea el ec] 78)).cell? ⟨w.heap.size, 7, none⟩ = some (.slice ta tl tc) := by simp [go_sem]
  have s8 : (w.alloc (.cells #[.int .i64 3, .int .i64 (n : Int), .int .i64 so, .int .i64 ek, .int .i64 ex, .slice pa pl pc, .slice aa al ac, .slice ta tl tc, .slice ea el ec] 78)).cell? ⟨w.heap.size, 8, none⟩ = some (.slice ea el ec) := by simp [go_sem]
  obtain ⟨vl, hvl⟩ : ∃ q, q = st.vars.length := ⟨_, rfl⟩
  obtain ⟨vx, hvx⟩ : ∃ q, q = nextX ins st so := ⟨_, rfl⟩
  have hvw : ∀ W, RnG I B [.int .i64 m, .slice ga gn gc, .slice sa sn sc, .slice ya yn yc, .slice oa on oc, .slice va vn vc, .slice fa fn fc, .slice ba bn bc, .slice xa xn xc, .int .i64 (F : Int), .slice (some ⟨b3, 0, none⟩) fln c3] br b1 b2 b3 fl dp (st.took so) ev W → W.cell? ⟨b1, n, none⟩ = some (.int .i64 st.vars[n]) ∧ W.frozen? ⟨b1, n, none⟩ = false ∧ b1 < W.heap.size := fun W hW => ⟨hW.vars n _ (by simp [hvl2, hn]), hW.z1 n, hW.hi.2.1⟩
  obtain ⟨y, hy⟩ : ∃ y, y = st.vars[n] := ⟨_, rfl⟩
  rw [← hy] at hvw
  have HVW := hide hvw
  rw [← hvl] at c1 hnv
  rw [← hvx] at KV HR ⊢
  clear h h' hl h0 h1 h2 h3 h4 hvl hvx hvw hy hn hm hB0 hBB hvl2
  go_enter Try.func104, Try.ntmps104
  go_wp2_with fail
  go_region_held3 (fun W => W.cell? ⟨br, 1, none⟩ = some (.slice (some ⟨b1, 0, none⟩) vl vl) ∧ W.cell? ⟨w.heap.size, 1, none⟩ = some (.int .i64 (n : Int)) ∧ W.cell? ⟨w.heap.size, 2, none⟩ = some (.int .i64 so)) (first | assumption | exact ⟨c1, s1, s2⟩ | exact keep3g (by assumption) hgp nr2 nb2 | exact keep3g (by assumption) (grow_set (n := 0)) nr nb | fail) (first | (go_at_call 132; refine (KV.out).mono ?_; rintro e wp ⟨rfl, hrn, hfr, hgp⟩; obtain ⟨u0, uz, ul⟩ := HVW.out _ hrn))
  have HE := hide (HR.out _ hrn hfr)
  go_wp2_with fail
  go_ret
  exact ⟨rfl, HE.out⟩

theorem keep4f {B : Nat} {R : List Value} {br b1 b2 b3 : Nat} {fl : List Int} {I : ObsI} {dp : Nat} {st : RSt} {ev ev' : Ow} {w0 w w' : World} {b j0 j1 j2 j3 : Nat} {v0 v1 v2 v3 : Value} (hR : RnG I B R br b1 b2 b3 fl dp st ev w0) (hb : w0.heap.size ≤ b) (f : Fr br b1 b2 ev ev' w w')
    (h : w.cell? ⟨b, j0, none⟩ = some v0 ∧ w.cell? ⟨b, j1, none⟩ = some v1 ∧ w.cell? ⟨b, j2, none⟩ = some v2 ∧ w.cell? ⟨b, j3, none⟩ = some v3) : w'.cell? ⟨b, j0, none⟩ = some v0 ∧ w'.cell? ⟨b, j1, none⟩ = some v1 ∧ w'.cell? ⟨b, j2, none⟩ = some v2 ∧ w'.cell? ⟨b, j3, none⟩ = some v3 :=
  ⟨hR.box f hb h.1, hR.box f hb h.2.1, hR.box f hb h.2.2.1, hR.box f hb h.2.2.2⟩

set_option maxHeartbeats 2000000 in
set_option maxRecDepth 100000 in
theorem stmtR4 (m : Int) (ga : Option Addr) (gn gc : Nat) (sa : Option Addr) (sn sc : Nat) (ya : Option Addr) (yn yc : Nat) (oa : Option Addr) (on oc : Nat) (va : Option Addr) (vn vc : Nat) (fa : Option Addr) (fn fc : Nat) (ba : Option Addr) (bn bc : Nat) (xa : Option Addr) (xn xc : Nat) (F fln c3 : Nat) (B br b1 b2 b3 : Nat) (fl : List Int) {I : ObsI} (dp : Nat) (st : RSt) (ev : Ow) (K : Nat) (d : D) (sv : Int) (so ek ex : Int) (pa : Option Addr) (pl pc : Nat) (aa : Option Addr) (al ac : Nat) (ta : Option Addr) (tl tc : Nat) (ea : Option Addr) (el ec : Nat) (a : Int) (w : World) (h : RnG I B [.int .i64 m, .slice ga gn gc, .slice sa sn sc, .slice ya yn yc, .slice oa on oc, .slice va vn vc, .slice fa fn fc, .slice ba bn bc, .slice xa xn xc, .int .i64 (F : Int), .slice (some ⟨b3, 0, none⟩) fln c3] br b1 b2 b3 fl dp st ev w) (hx : RX w K [.int .i64 ek, .int .i64 ex, .slice pa pl pc] d) (ho : okX st.vars.length K d) (hi : ∀ x ∈ st.vars, I32 x) (hl : st.ev.length ≤ 2000) :
    Calls Try.prog 104 #[.pointer (some ⟨br, 0, none⟩), .agg #[.int .i64 4, .int .i64 sv, .int .i64 so, .int .i64 ek, .int .i64 ex, .slice pa pl pc, .slice aa al ac, .slice ta tl tc, .slice ea el ec], .int .i64 a] w fun e w' => e = .returned (.bool true) ∧ ∃ ev', RnG I B [.int .i64 m, .slice ga gn gc, .slice sa sn sc, .slice ya yn yc, .slice oa on oc, .slice va vn vc, .slice fa fn fc, .slice ba bn bc, .slice xa xn xc, .int .i64 (F : Int), .slice (some ⟨b3, 0, none⟩) fln c3] br b1 b2 b3 fl dp (st.tell (1, a, so, valX st.vars K d)) ev' w' ∧ Fr br b1 b2 ev ev' w w' := by
  have hbel : Below w.heap.size w (w.alloc (.cells #[.int .i64 4, .int .i64 sv, .int .i64 so, .int .i64 ek, .int .i64 ex, .slice pa pl pc, .slice aa al ac, .slice ta tl tc, .slice ea el ec] 78)) := (Below.refl _ w).alloc (Nat.le_refl _) _
  have h' := (h.over hbel).drewN 1
  have KV := hide (valueR_any m ga gn gc sa sn sc ya yn yc oa on oc va vn vc fa fn fc ba bn bc xa xn xc F fln c3 B br b1 b2 b3 fl dp st ev K _ d (w.alloc (.cells #[.int .i64 4, .int .i64 sv, .int .i64 so, .int .i64 ek, .int .i64 ex, .slice pa pl pc, .slice aa al ac, .slice ta tl tc, .slice ea el ec] 78)).drew h' (hx.over hbel.drew) ho hi)
  have KT := hide fun W (hW : RnG I B [.int .i64 m, .slice ga gn gc, .slice sa sn sc, .slice ya yn yc, .slice oa on oc, .slice va vn vc, .slice fa fn fc, .slice ba bn bc, .slice xa xn xc, .int .i64 (F : Int), .slice (some ⟨b3, 0, none⟩) fln c3] br b1 b2 b3 fl dp st ev W) => tellR_any m ga gn gc sa sn sc ya yn yc oa on oc va vn vc fa fn fc ba bn bc xa xn xc F fln c3 B br b1 b2 b3 fl dp st ev 1 a so (valX st.vars K d) W hW hl
  have H0 := hide h
  have HO := hide h'
  have s0 : (w.alloc (.cells #[.int .i64 4, .int .i64 sv, .int .i64 so, .int .i64 ek, .int .i64 ex, .slice pa pl pc, .slice aa al ac, .slice ta tl tc, .slice ea el ec] 78)).cell? ⟨w.heap.size, 0, none⟩ = some (.int .i64 4) := by simp [go_sem]
  have s1 : (w.alloc (.cells #[.int .i64 4, .int .i64 sv, .int .i64 so, .int .i64 ek, .int .i64 ex, .slice pa pl pc, .slice aa al ac, .slice ta tl tc, .slice ea el ec] 78)).cell? ⟨w.heap.size, 1, none⟩ = some (.int .i64 sv) := by simp [go_sem]
  have s2 : (w.alloc (.cells #[.int .i64 4, .int .i64 sv, .int .i64 so, .int .i64 ek, .int .i64 ex, .slice pa pl pc, .slice aa al ac, .slice ta tl tc, .slice ea el ec] 78)).cell? ⟨w.heap.size, 2, none⟩ = some (.int .i64 so) := by simp [go_sem]
  have s3 : (w.alloc (.cells #[.int .i64 4, .int .i64 sv, .int .i64 so, .int .i64 ek, .int .i64 ex, .slice pa pl pc, .slice aa al ac, .slice ta tl tc, .slice ea el ec] 78)).cell? ⟨w.heap.size, 3, none⟩ = some (.int .i64 ek) := by simp [go_sem]
  have s4 : (w.alloc (.cells #[.int .i64 4, .int .i64 sv, .int .i64 so, .int .i64 ek, .int .i64 ex, .slice pa pl pc, .slice aa al ac, .slice ta tl tc, .slice ea el ec] 78)).cell? ⟨w.heap.size, 4, none⟩ = some (.int .i64 ex) := by simp [go_sem]
  have s5 : (w.alloc (.cells #[.int .i64 4, .int .i64 sv, .int .i64 so, .int .i64 ek, .int .i64 ex, .slice pa pl pc, .slice aa al ac, .slice ta tl tc, .slice ea el ec] 78)).cell? ⟨w.heap.size, 5, none⟩ = some (.slice pa pl pc) := by simp [go_sem]
  have s6 : (w.alloc (.cells #[.int .i64 4, .int .i64 sv, .int .i64 so, .int .i64 ek, .int .i64 ex, .slice pa pl pc, .slice aa al ac, .slice ta tl tc, .slice ea el ec] 78)).cell? ⟨w.heap.size, 6, none⟩ = some (.slice aa al ac) := by simp [go_sem]
  have s7 : (w.alloc (.cells #[.int .i64 4, .int .i64 sv, .int .i64 so, .int .i64 ek, .int .i64 ex, .slice pa pl pc, .slice aa al ac, .slice ta tl tc, .slice ea el ec] 78)).cell? ⟨w.heap.size, 7, none⟩ = some (.slice ta tl tc) := by simp [go_sem]
  have s8 : (w.alloc (.cells #[.int .i64 4, .int .i64 sv, .int .i64 so, .int .i64 ek, .int .i64 ex, .slice pa pl pc, .slice aa al ac, .slice ta tl tc, .slice ea el ec] 78)).cell? ⟨w.heap.size, 8, none⟩ = some (.slice ea el ec) := by simp [go_sem]
  obtain ⟨vx, hvx⟩ : ∃ q, q = valX st.vars K d := ⟨_, rfl⟩
  rw [← hvx] at KV KT ⊢
  clear h h' hx ho hi hvx hl
  go_enter Try.func104, Try.ntmps104
  go_wp2_with fail
  go_region_held3 (fun W => W.cell? ⟨w.heap.size, 2, none⟩ = some (.int .i64 so) ∧ W.cell? ⟨w.heap.size, 3, none⟩ = some (.int .i64 ek) ∧ W.cell? ⟨w.heap.size, 4, none⟩ = some (.int .i64 ex) ∧ W.cell? ⟨w.heap.size, 5, none⟩ = some (.slice pa pl pc)) (first | assumption | exact ⟨s2, s3, s4, s5⟩ | exact keep4b (by assumption) hbp | exact keep4f H0.out (Nat.le_refl _) hft (by assumption) | fail) (first | (go_at_call 130; refine (KV.out).mono ?_; rintro e wp ⟨rfl, hbp⟩) | (go_at_call 133; refine (KT.out _ (HO.out.over hbp)).mono ?_; rintro e wt ⟨rfl, ev', hrt, hft⟩))
  have HE := hide (And.intro hrt ((Fr.of_below (ev := ev) (br := br) (b1 := b1) (b2 := b2) hbel.drew).trans ((Fr.of_below hbp).trans hft)))
  go_wp2_with fail
  go_ret
  exact ⟨rfl, ev', HE.out⟩

set_option maxHeartbeats 2000000 in
set_option maxRecDepth 100000 in
theorem stmtR5 (m : Int) (ga : Option Addr) (gn gc : Nat) (sa : Option Addr) (sn sc : Nat) (ya : Option Addr) (yn yc : Nat) (oa : Option Addr) (on oc : Nat) (va : Option Addr) (vn vc : Nat) (fa : Option Addr) (fn fc : Nat) (ba : Option Addr) (bn bc : Nat) (xa : Option Addr) (xn xc : Nat) (F fln c3 : Nat) (B br b1 b2 b3 : Nat) (fl : List Int) {I : ObsI} (dp : Nat) (st : RSt) (ev : Ow) (K : Nat) (d : D) (n : Nat) (so ek ex : Int) (pa : Option Addr) (pl pc : Nat) (aa : Option Addr) (al ac : Nat) (ta : Option Addr) (tl tc : Nat) (ea : Option Addr) (el ec : Nat) (a : Int) (w : World) (h : RnG I B [.int .i64 m, .slice ga gn gc, .slice sa sn sc, .slice ya yn yc, .slice oa on oc, .slice va vn vc, .slice fa fn fc, .slice ba bn bc, .slice xa xn xc, .int .i64 (F : Int), .slice (some ⟨b3, 0, none⟩) fln c3] br b1 b2 b3 fl dp st ev w) (hx : RX w K [.int .i64 ek, .int .i64 ex, .slice pa pl pc] d) (ho : okX st.vars.length K d) (hi : ∀ x ∈ st.vars, I32 x) (hn : n < st.vars.length) (hm : st.vars.length ≤ 16) (hl : st.ev.length ≤ 2000) :
    Calls Try.prog 104 #[.pointer (some ⟨br, 0, none⟩), .agg #[.int .i64 5, .int .i64 (n : Int), .int .i64 so, .int .i64 ek, .int .i64 ex, .slice pa pl pc, .slice aa al ac, .slice ta tl tc, .slice ea el ec], .int .i64 a] w fun e w' => e = .returned (.bool true) ∧ ∃ ev', RnG I B [.int .i64 m, .slice ga gn gc, .slice sa sn sc, .slice ya yn yc, .slice oa on oc, .slice va vn vc, .slice fa fn fc, .slice ba bn bc, .slice xa xn xc, .int .i64 (F : Int), .slice (some ⟨b3, 0, none⟩) fln c3] br b1 b2 b3 fl dp ((st.setv (n : Int) (valX st.vars K d)).tell (2, a, (n : Int), valX st.vars K d)) ev' w' ∧ Fr br b1 b2 ev ev' w w' := by
  have hbel : Below w.heap.size w (w.alloc (.cells #[.int .i64 5, .int .i64 (n : Int), .int .i64 so, .int .i64 ek, .int .i64 ex, .slice pa pl pc, .slice aa al ac, .slice ta tl tc, .slice ea el ec] 78)) := (Below.refl _ w).alloc (Nat.le_refl _) _
  have h' := (h.over hbel).drewN 1
  have KV := hide (valueR_any m ga gn gc sa sn sc ya yn yc oa on oc va vn vc fa fn fc ba bn bc xa xn xc F fln c3 B br b1 b2 b3 fl dp st ev K _ d (w.alloc (.cells #[.int .i64 5, .int .i64 (n : Int), .int .i64 so, .int .i64 ek, .int .i64 ex, .slice pa pl pc, .slice aa al ac, .slice ta tl tc, .slice ea el ec] 78)).drew h' (hx.over hbel.drew) ho hi)
  have KT := hide fun W (hW : RnG I B [.int .i64 m, .slice ga gn gc, .slice sa sn sc, .slice ya yn yc, .slice oa on oc, .slice va vn vc, .slice fa fn fc, .slice ba bn bc, .slice xa xn xc, .int .i64 (F : Int), .slice (some ⟨b3, 0, none⟩) fln c3] br b1 b2 b3 fl dp (st.setv (n : Int) (valX st.vars K d)) ev W) => tellR_any m ga gn gc sa sn sc ya yn yc oa on oc va vn vc fa fn fc ba bn bc xa xn xc F fln c3 B br b1 b2 b3 fl dp (st.setv (n : Int) (valX st.vars K d)) ev 2 a (n : Int) (valX st.vars K d) W hW hl
  have hvs : (st.setv (n : Int) (valX st.vars K d)).vars.length = st.vars.length := by simp [RSt.setv]
  have HR : Hid (∀ W, Below (w.alloc (.cells #[.int .i64 5, .int .i64 (n : Int), .int .i64 so, .int .i64 ek, .int .i64 ex, .slice pa pl pc, .slice aa al ac, .slice ta tl tc, .slice ea el ec] 78)).drew.heap.size (w.alloc (.cells #[.int .i64 5, .int .i64 (n : Int), .int .i64 so, .int .i64 ek, .int .i64 ex, .slice pa pl pc, .slice aa al ac, .slice ta tl tc, .slice ea el ec] 78)).drew W → RnG I B [.int .i64 m, .slice ga gn gc, .slice sa sn sc, .slice ya yn yc, .slice oa on oc, .slice va vn vc, .slice fa fn fc, .slice ba bn bc, .slice xa xn xc, .int .i64 (F : Int), .slice (some ⟨b3, 0, none⟩) fln c3] br b1 b2 b3 fl dp (st.setv (n : Int) (valX st.vars K d)) ev (W.setCell ⟨b1, n, none⟩ (.int .i64 (valX st.vars K d))) ∧ Fr br b1 b2 ev ev w (W.setCell ⟨b1, n, none⟩ (.int .i64 (valX st.vars K d))) ∧ (W.setCell ⟨b1, n, none⟩ (.int .i64 (valX st.vars K d))).cell? ⟨b1, n, none⟩ = some (.int .i64 (valX st.vars K d)) ∧ (W.setCell ⟨b1, n, none⟩ (.int .i64 (valX st.vars K d))).cell? ⟨br, 1, none⟩ = some (.slice (some ⟨b1, 0, none⟩) st.vars.length st.vars.length)) := fun W hW => by
    have r := (h'.over hW).setVar (n : Int) (valX st.vars K d) (by simpa using hn)
    rw [Int.toNat_natCast] at r
    refine ⟨r, (Fr.of_below hbel.drew).trans ((Fr.of_below hW).trans (fr_set1 (h'.over hW) _ _)), r.vars n _ (by simp [RSt.setv, hn]), ?_⟩
    have r1 := r.row 1 _ rfl
    rw [hvs] at r1
    exact r1
  have H0 := hide h
  have c1 := h'.row 1 _ rfl
  have hnv : (n : Int) < (st.vars.length : Int) := by omega
  have nb : w.heap.size ≠ b1 := by have := h.hi; omega
  have nr : br ≠ b1 := h.apart.1
  have s0 : (w.alloc (.cells #[.int .i64 5, .int .i64 (n : Int), .int .i64 so, .int .i64 ek, .int .i64 ex, .slice pa pl pc, .slice aa al ac, .slice ta tl tc, .slice ea el ec] 78)).cell? ⟨w.heap.size, 0, none⟩ = some (.int .i64 5) := by simp [go_sem]
  have s1 : (w.alloc (.cells #[.int .i64 5, .int .i64 (n : Int), .int .i64 so, .int .i64 ek, .int .i64 ex, .slice pa pl pc, .slice aa al ac, .slice ta tl tc, .slice ea el ec] 78)).cell? ⟨w.heap.size, 1, none⟩ = some (.int .i64 (n : Int)) := by simp [go_sem]
  have s2 : (w.alloc (.cells #[.int .i64 5, .int .i64 (n : Int), .int .i64 so, .int .i64 ek, .int .i64 ex, .slice pa pl pc, .slice aa al ac, .slice ta tl tc, .slice ea el ec] 78)).cell? ⟨w.heap.size, 2, none⟩ = some (.int .i64 so) := by simp [go_sem]
  have s3 : (w.alloc (.cells #[.int .i64 5, .int .i64 (n : Int), .int .i64 so, .int .i64 ek, .int .i64 ex, .slice pa pl pc, .slice aa al ac, .slice ta tl tc, .slice ea el ec] 78)).cell? ⟨w.heap.size, 3, none⟩ = some (.int .i64 ek) := by simp [go_sem]
  have s4 : (w.alloc (.cells #[.int .i64 5, .int .i64 (n : Int), .int .i64 so, .int .i64 ek, .int .i64 ex, .slice pa pl pc, .slice aa al ac, .slice ta tl tc, .slice ea el ec] 78)).cell? ⟨w.heap.size, 4, none⟩ = some (.int .i64 ex) := by simp [go_sem]
  have s5 : (w.alloc (.cells #[.int .i64 5, .int .i64 (n : Int), .int .i64 so, .int .i64 ek, .int .i64 ex, .slice pa pl pc, .slice aa al ac, .slice ta tl tc, .slice ea el ec] 78)).cell? ⟨w.heap.size, 5, none⟩ = some (.slice pa pl pc) := by simp [go_sem]
  have s6 : (w.alloc (.cells #[.int .i64 5, .int .i64 (n : Int), .int .i64 so, .int .i64 ek, .int .i64 ex, .slice pa pl pc, .slice aa al ac, .slice ta tl tc, .slice ea el ec] 78)).cell? ⟨w.heap.size, 6, none⟩ = some (.slice aa al ac) := by simp [go_sem]
  have s7 : (w.alloc (.cells #[.int .i64 5, .int .i64 (n : Int), .int .i64 so, .int .i64 ek, .int .i64 ex, .slice pa pl pc, .slice aa al ac, .slice ta tl tc, .slice ea el ec] 78)).cell? ⟨w.heap.size, 7, none⟩ = some (.slice ta tl tc) := by simp [go_sem]
  have s8 : (w.alloc (.cells #[.int .i64 5, .int .i64 (n : Int), .int .i64 so, .int .i64 ek, .int .i64 ex, .slice pa pl pc, .slice aa al ac, .slice ta tl tc, .slice ea el ec] 78)).cell? ⟨w.heap.size, 8, none⟩ = some (.slice ea el ec) := by simp [go_sem]
  obtain ⟨vl, hvl⟩ : ∃ q, q = st.vars.length := ⟨_, rfl⟩
  obtain ⟨vx, hvx⟩ : ∃ q, q = valX st.vars K d := ⟨_, rfl⟩
  have hvw : ∀ W, Below (w.alloc (.cells #[.int .i64 5, .int .i64 (n : Int), .int .i64 so, .int .i64 ek, .int .i64 ex, .slice pa pl pc, .slice aa al ac, .slice ta tl tc, .slice ea el ec] 78)).drew.heap.size (w.alloc (.cells #[.int .i64 5, .int .i64 (n : Int), .int .i64 so, .int .i64 ek, .int .i64 ex, .slice pa pl pc, .slice aa al ac, .slice ta tl tc, .slice ea el ec] 78)).drew W → W.cell? ⟨b1, n, none⟩ = some (.int .i64 st.vars[n]) ∧ W.frozen? ⟨b1, n, none⟩ = false ∧ b1 < W.heap.size := fun W hW => ⟨(h'.over hW).vars n _ (by simp [hn]), (h'.over hW).z1 n, (h'.over hW).hi.2.1⟩
  obtain ⟨y, hy⟩ : ∃ y, y = st.vars[n] := ⟨_, rfl⟩
  rw [← hy] at hvw
  have HVW := hide hvw
  have HKK : Hid (∀ W ev' w3, RnG I B [.int .i64 m, .slice ga gn gc, .slice sa sn sc, .slice ya yn yc, .slice oa on oc, .slice va vn vc, .slice fa fn fc, .slice ba bn bc, .slice xa xn xc, .int .i64 (F : Int), .slice (some ⟨b3, 0, none⟩) fln c3] br b1 b2 b3 fl dp ((st.setv (n : Int) (valX st.vars K d)).tell (2, a, (n : Int), valX st.vars K d)) ev' W → Fr br b1 b2 ev ev' (World.drew w3) W → w3.cell? ⟨w.heap.size, 1, none⟩ = some (.int .i64 (n : Int)) → (W.cell? ⟨b1, n, none⟩ = some (.int .i64 (valX st.vars K d)) ∧ W.cell? ⟨br, 1, none⟩ = some (.slice (some ⟨b1, 0, none⟩) st.vars.length st.vars.length) ∧ W.cell? ⟨w.heap.size, 1, none⟩ = some (.int .i64 (n : Int)))) := fun W ev' w3 hr hf ht => by
    refine ⟨hr.vars n _ (by simp [RSt.tell, RSt.setv, hn]), ?_, H0.out.box hf (Nat.le_refl _) ht⟩
    have r1 := hr.row 1 _ rfl
    have e2 : ((st.setv (n : Int) (valX st.vars K d)).tell (2, a, (n : Int), valX st.vars K d)).vars.length = st.vars.length := hvs
    rw [e2] at r1
    exact r1
  rw [← hvl] at c1 hnv HR HKK
  rw [← hvx] at KV HR KT HKK ⊢
  clear h h' hx ho hi hvl hvx hvw hy hn hm hl hvs
  go_enter Try.func104, Try.ntmps104
  go_wp2_with fail
  go_region_held3 (fun W => W.cell? ⟨br, 1, none⟩ = some (.slice (some ⟨b1, 0, none⟩) vl vl) ∧ W.cell? ⟨w.heap.size, 1, none⟩ = some (.int .i64 (n : Int)) ∧ W.cell? ⟨w.heap.size, 3, none⟩ = some (.int .i64 ek) ∧ W.cell? ⟨w.heap.size, 4, none⟩ = some (.int .i64 ex) ∧ W.cell? ⟨w.heap.size, 5, none⟩ = some (.slice pa pl pc)) (first | assumption | exact ⟨c1, s1, s3, s4, s5⟩ | exact keep5b (by assumption) hbp | exact keep5g (by assumption) (grow_set (n := 0)) nr nb | fail) (first | (go_at_call 130; refine (KV.out).mono ?_; rintro e wp ⟨rfl, hbp⟩; obtain ⟨u0, uz, ul⟩ := HVW.out _ hbp))
  obtain ⟨h1, h2, h3, h4⟩ := HR.out _ hbp
  have hs5 := (by assumption : _ ∧ _ ∧ _ ∧ _ ∧ _)
  have t1 := hs5.2.1
  have H1 := hide h1
  have H2 := hide h2
  clear h1 h2 hs5 u0 uz
  obtain ⟨w3, hw3⟩ : ∃ q, q = wp.setCell ⟨b1, n, none⟩ (.int .i64 vx) := ⟨_, rfl⟩
  simp only [← hw3] at h3 h4 t1 H1 H2 ⊢
  clear hw3
  have KK : Hid (∀ W ev', RnG I B [.int .i64 m, .slice ga gn gc, .slice sa sn sc, .slice ya yn yc, .slice oa on oc, .slice va vn vc, .slice fa fn fc, .slice ba bn bc, .slice xa xn xc, .int .i64 (F : Int), .slice (some ⟨b3, 0, none⟩) fln c3] br b1 b2 b3 fl dp ((st.setv (n : Int) vx).tell (2, a, (n : Int), vx)) ev' W → Fr br b1 b2 ev ev' w3.drew W → (W.cell? ⟨b1, n, none⟩ = some (.int .i64 vx) ∧ W.cell? ⟨br, 1, none⟩ = some (.slice (some ⟨b1, 0, none⟩) vl vl) ∧ W.cell? ⟨w.heap.size, 1, none⟩ = some (.int .i64 (n : Int)))) := fun W ev' hr hf => HKK.out W ev' w3 hr hf t1
  go_wp2_with fail
  go_region_held3 (fun W => W.cell? ⟨b1, n, none⟩ = some (.int .i64 vx) ∧ W.cell? ⟨br, 1, none⟩ = some (.slice (some ⟨b1, 0, none⟩) vl vl) ∧ W.cell? ⟨w.heap.size, 1, none⟩ = some (.int .i64 (n : Int))) (first | assumption | exact ⟨h3, h4, t1⟩ | exact KK.out _ _ hrt hft | fail) (first | (go_at_call 133; refine (KT.out _ (by first | exact H1.out | exact H1.out.drewN 1)).mono ?_; rintro e wt ⟨rfl, ev', hrt, hft⟩))
  go_wp2_with fail
  go_ret
  exact ⟨rfl, ev', hrt, H2.out.trans (Fr.drewN 1 hft)⟩

set_option maxHeartbeats 2000000 in
set_option maxRecDepth 100000 in
theorem stmtR6 (m : Int) (ga : Option Addr) (gn gc : Nat) (sa : Option Addr) (sn sc : Nat) (ya : Option Addr) (yn yc : Nat) (oa : Option Addr) (on oc : Nat) (va : Option Addr) (vn vc : Nat) (fa : Option Addr) (fn fc : Nat) (ba : Option Addr) (bn bc : Nat) (xa : Option Addr) (xn xc : Nat) (F fln c3 : Nat) (B br b1 b2 b3 : Nat) (fl : List Int) {I : ObsI} (dp : Nat) (st : RSt) (ev : Ow) (K : Nat) (d : D) (n : Nat) (so ek ex : Int) (pa : Option Addr) (pl pc : Nat) (aa : Option Addr) (al ac : Nat) (ta : Option Addr) (tl tc : Nat) (ea : Option Addr) (el ec : Nat) (a : Int) (w : World) (h : RnG I B [.int .i64 m, .slice ga gn gc, .slice sa sn sc, .slice ya yn yc, .slice oa on oc, .slice va vn vc, .slice fa fn fc, .slice ba bn bc, .slice xa xn xc, .int .i64 (F : Int), .slice (some ⟨b3, 0, none⟩) fln c3] br b1 b2 b3 fl dp st ev w) (hx : RX w K [.int .i64 ek, .int .i64 ex, .slice pa pl pc] d) (ho : okX st.vars.length K d) (hi : ∀ x ∈ st.vars, I32 x) (hn : n < st.vars.length) (hm : st.vars.length ≤ 16) (hl : st.ev.length ≤ 2000) :
    Calls Try.prog 104 #[.pointer (some ⟨br, 0, none⟩), .agg #[.int .i64 6, .int .i64 (n : Int), .int .i64 so, .int .i64 ek, .int .i64 ex, .slice pa pl pc, .slice aa al ac, .slice ta tl tc, .slice ea el ec], .int .i64 a] w fun e w' => e = .returned (.bool true) ∧ ∃ ev', RnG I B [.int .i64 m, .slice ga gn gc, .slice sa sn sc, .slice ya yn yc, .slice oa on oc, .slice va vn vc, .slice fa fn fc, .slice ba bn bc, .slice xa xn xc, .int .i64 (F : Int), .slice (some ⟨b3, 0, none⟩) fln c3] br b1 b2 b3 fl dp ((st.setv (n : Int) (valX st.vars K d)).tell (3, a, (n : Int), valX st.vars K d)) ev' w' ∧ Fr br b1 b2 ev ev' w w' := by
  have hbel : Below w.heap.size w (w.alloc (.cells #[.int .i64 6, .int .i64 (n : Int), .int .i64 so, .int .i64 ek, .int .i64 ex, .slice pa pl pc, .slice aa al ac, .slice ta tl tc, .slice ea el ec] 78)) := (Below.refl _ w).alloc (Nat.le_refl _) _
  have h' := (h.over hbel).drewN 1
  have KV := hide (valueR_any m ga gn gc sa sn sc ya yn yc oa on oc va vn vc fa fn fc ba bn bc xa xn xc F fln c3 B br b1 b2 b3 fl dp st ev K _ d (w.alloc (.cells #[.int .i64 6, .int .i64 (n : Int), .int .i64 so, .int .i64 ek, .int .i64 ex, .slice pa pl pc, .slice aa al ac, .slice ta tl tc, .slice ea el ec] 78)).drew h' (hx.over hbel.drew) ho hi)
  have KT := hide fun W (hW : RnG I B [.int .i64 m, .slice ga gn gc, .slice sa sn sc, .slice ya yn yc, .slice oa on oc, .slice va vn vc, .slice fa fn fc, .slice ba bn bc, .slice xa xn xc, .int .i64 (F : Int), .slice (some ⟨b3, 0, none⟩) fln c3] br b1 b2 b3 fl dp (st.setv (n : Int) (valX st.vars K d)) ev W) => tellR_any m ga gn gc sa sn sc ya yn yc oa on oc va vn vc fa fn fc ba bn bc xa xn xc F fln c3 B br b1 b2 b3 fl dp (st.setv (n : Int) (valX st.vars K d)) ev 3 a (n : Int) (valX st.vars K d) W hW hl
  have hvs : (st.setv (n : Int) (valX st.vars K d)).vars.length = st.vars.length := by simp [RSt.setv]
  have HR : Hid (∀ W, Below (w.alloc (.cells #[.int .i64 6, .int .i64 (n : Int), .int .i64 so, .int .i64 ek, .int .i64 ex, .slice pa pl pc, .slice aa al ac, .slice ta tl tc, .slice ea el ec] 78)).drew.heap.size (w.alloc (.cells #[.int .i64 6, .int .i64 (n : Int), .int .i64 so, .int .i64 ek, .int .i64 ex, .slice pa pl pc, .slice aa al ac, .slice ta tl tc, .slice ea el ec] 78)).drew W → RnG I B [.int .i64 m, .slice ga gn gc, .slice sa sn sc, .slice ya yn yc, .slice oa on oc, .slice va vn vc, .slice fa fn fc, .slice ba bn bc, .slice xa xn xc, .int .i64 (F : Int), .slice (some ⟨b3, 0, none⟩) fln c3] br b1 b2 b3 fl dp (st.setv (n : Int) (valX st.vars K d)) ev (W.setCell ⟨b1, n, none⟩ (.int .i64 (valX st.vars K d))) ∧ Fr br b1 b2 ev ev w (W.setCell ⟨b1, n, none⟩ (.int .i64 (valX st.vars K d))) ∧ (W.setCell ⟨b1, n, none⟩ (.int .i64 (valX st.vars K d))).cell? ⟨b1, n, none⟩ = some (.int .i64 (valX st.vars K d)) ∧ (W.setCell ⟨b1, n, none⟩ (.int .i64 (valX st.vars K d))).cell? ⟨br, 1, none⟩ = some (.slice (some ⟨b1, 0, none⟩) st.vars.length st.vars.length)) := fun W hW => by
    have r := (h'.over hW).setVar (n : Int) (valX st.vars K d) (by simpa using hn)
    rw [Int.toNat_natCast] at r
    refine ⟨r, (Fr.of_below hbel.drew).trans ((Fr.of_below hW).trans (fr_set1 (h'.over hW) _ _)), r.vars n _ (by simp [RSt.setv, hn]), ?_⟩
    have r1 := r.row 1 _ rfl
    rw [hvs] at r1
    exact r1
  have H0 := hide h
  have c1 := h'.row 1 _ rfl
  have hnv : (n : Int) < (st.vars.length : Int) := by omega
  have nb : w.heap.size ≠ b1 := by have := h.hi; omega
  have nr : br ≠ b1 := h.apart.1
  have s0 : (w.alloc (.cells #[.int .i64 6, .int .i64 (n : Int), .int .i64 so, .int .i64 ek, .int .i64 ex, .slice pa pl pc, .slice aa al ac, .slice ta tl tc, .slice ea el ec] 78)).cell? ⟨w.heap.size, 0, none⟩ = some (.int .i64 6) := by simp [go_sem]
  have s1 : (w.alloc (.cells #[.int .i64 6, .int .i64 (n : Int), .int .i64 so, .int .i64 ek, .int .i64 ex, .slice pa pl pc, .slice aa al ac, .slice ta tl tc, .slice ea el ec] 78)).cell? ⟨w.heap.size, 1, none⟩ = some (.int .i64 (n : Int)) := by simp [go_sem]
  have s2 : (w.alloc (.cells #[.int .i64 6, .int .i64 (n : Int), .int .i64 so, .int .i64 ek, .int .i64 ex, .slice pa pl pc, .slice aa al ac, .slice ta tl tc, .slice ea el ec] 78)).cell? ⟨w.heap.size, 2, none⟩ = some (.int .i64 so) := by simp [go_sem]
  have s3 : (w.alloc (.cells #[.int .i64 6, .int .i64 (n : Int), .int .i64 so, .int .i64 ek, .int .i64 ex, .slice pa pl pc, .slice aa al ac, .slice ta tl tc, .slice ea el ec] 78)).cell? ⟨w.heap.size, 3, none⟩ = some (.int .i64 ek) := by simp [go_sem]
  have s4 : (w.alloc (.cells #[.int .i64 6, .int .i64 (n : Int), .int .i64 so, .int .i64 ek, .int .i64 ex, .slice pa pl pc, .slice aa al ac, .slice ta tl tc, .slice ea el ec] 78)).cell? ⟨w.heap.size, 4, none⟩ = some (.int .i64 ex) := by simp [go_sem]
  have s5 : (w.alloc (.cells #[.int .i64 6, .int .i64 (n : Int), .int .i64 so, .int .i64 ek, .int .i64 ex, .slice pa pl pc, .slice aa al ac, .slice ta tl tc, .slice ea el ec] 78)).cell? ⟨w.heap.size, 5, none⟩ = some (.slice pa pl pc) := by simp [go_sem]
  have s6 : (w.alloc (.cells #[.int .i64 6, .int .i64 (n : Int), .int .i64 so, .int .i64 ek, .int .i64 ex, .slice pa pl pc, .slice aa al ac, .slice ta tl tc, .slice ea el ec] 78)).cell? ⟨w.heap.size, 6, none⟩ = some (.slice aa al ac) := by simp [go_sem]
  have s7 : (w.alloc (.cells #[.int .i64 6, .int .i64 (n : Int), .int .i64 so, .int .i64 ek, .int .i64 ex, .slice pa pl pc, .slice aa al ac, .slice ta tl tc, .slice ea el ec] 78)).cell? ⟨w.heap.size, 7, none⟩ = some (.slice ta tl tc) := by simp [go_sem]
  have s8 : (w.alloc (.cells #[.int .i64 6, .int .i64 (n : Int), .int .i64 so, .int .i64 ek, .int .i64 ex, .slice pa pl pc, .slice aa al ac, .slice ta tl tc, .slice ea el ec] 78)).cell? ⟨w.heap.size, 8, none⟩ = some (.slice ea el ec) := by simp [go_sem]
  obtain ⟨vl, hvl⟩ : ∃ q, q = st.vars.length := ⟨_, rfl⟩
  obtain ⟨vx, hvx⟩ : ∃ q, q = valX st.vars K d := ⟨_, rfl⟩
  have hvw : ∀ W, Below (w.alloc (.cells #[.int .i64 6, .int .i64 (n : Int), .int .i64 so, .int .i64 ek, .int .i64 ex, .slice pa pl pc, .slice aa al ac, .slice ta tl tc, .slice ea el ec] 78)).drew.heap.size (w.alloc (.cells #[.int .i64 6, .int .i64 (n : Int), .int .i64 so, .int .i64 ek, .int .i64 ex, .slice pa pl pc, .slice aa al ac, .slice ta tl tc, .slice ea el ec] 78)).drew W → W.cell? ⟨b1, n, none⟩ = some (.int .i64 st.vars[n]) ∧ W.frozen? ⟨b1, n, none⟩ = false ∧ b1 < W.heap.size := fun W hW => ⟨(h'.over hW).vars n _ (by simp [hn]), (h'.over hW).z1 n, (h'.over hW).hi.2.1⟩
  obtain ⟨y, hy⟩ : ∃ y, y = st.vars[n] := ⟨_, rfl⟩
  rw [← hy] at hvw
  have HVW := hide hvw
  have HKK : Hid (∀ W ev' w3, RnG I B [.int .i64 m, .slice ga gn gc, .slice sa sn sc, .slice ya yn yc, .slice oa on oc, .slice va vn vc, .slice fa fn fc, .slice ba bn bc, .slice xa xn xc, .int .i64 (F : Int), .slice (some ⟨b3, 0, none⟩) fln c3] br b1 b2 b3 fl dp ((st.setv (n : Int) (valX st.vars K d)).tell (3, a, (n : Int), valX st.vars K d)) ev' W → Fr br b1 b2 ev ev' (World.drew w3) W → w3.cell? ⟨w.heap.size, 1, none⟩ = some (.int .i64 (n : Int)) → (W.cell? ⟨b1, n, none⟩ = some (.int .i64 (valX st.vars K d)) ∧ W.cell? ⟨br, 1, none⟩ = some (.slice (some ⟨b1, 0, none⟩) st.vars.length st.vars.length) ∧ W.cell? ⟨w.heap.size, 1, none⟩ = some (.int .i64 (n : Int)))) := fun W ev' w3 hr hf ht => by
    refine ⟨hr.vars n _ (by simp [RSt.tell, RSt.setv, hn]), ?_, H0.out.box hf (Nat.le_refl _) ht⟩
    have r1 := hr.row 1 _ rfl
    have e2 : ((st.setv (n : Int) (valX st.vars K d)).tell (3, a, (n : Int), valX st.vars K d)).vars.length = st.vars.length := hvs
    rw [e2] at r1
    exact r1
  rw [← hvl] at c1 hnv HR HKK
  rw [← hvx] at KV HR KT HKK ⊢
  clear h h' hx ho hi hvl hvx hvw hy hn hm hl hvs
  go_enter Try.func104, Try.ntmps104
  go_wp2_with fail
  go_region_held3 (fun W => W.cell? ⟨br, 1, none⟩ = some (.slice (some ⟨b1, 0, none⟩) vl vl) ∧ W.cell? ⟨w.heap.size, 1, none⟩ = some (.int .i64 (n : Int)) ∧ W.cell? ⟨w.heap.size, 3, none⟩ = some (.int .i64 ek) ∧ W.cell? ⟨w.heap.size, 4, none⟩ = some (.int .i64 ex) ∧ W.cell? ⟨w.heap.size, 5, none⟩ = some (.slice pa pl pc)) (first | assumption | exact ⟨c1, s1, s3, s4, s5⟩ | exact keep5b (by assumption) hbp | exact keep5g (by assumption) (grow_set (n := 0)) nr nb | fail) (first | (go_at_call 130; refine (KV.out).mono ?_; rintro e wp ⟨rfl, hbp⟩; obtain ⟨u0, uz, ul⟩ := HVW.out _ hbp))
  obtain ⟨h1, h2, h3, h4⟩ := HR.out _ hbp
  have hs5 := (by assumption : _ ∧ _ ∧ _ ∧ _ ∧ _)
  have t1 := hs5.2.1
  have H1 := hide h1
  have H2 := hide h2
  clear h1 h2 hs5 u0 uz
  obtain ⟨w3, hw3⟩ : ∃ q, q = wp.setCell ⟨b1, n, none⟩ (.int .i64 vx) := ⟨_, rfl⟩
  simp only [← hw3] at h3 h4 t1 H1 H2 ⊢
  clear hw3
  have KK : Hid (∀ W ev', RnG I B [.int .i64 m, .slice ga gn gc, .slice sa sn sc, .slice ya yn yc, .slice oa on oc, .slice va vn vc, .slice fa fn fc, .slice ba bn bc, .slice xa xn xc, .int .i64 (F : Int), .slice (some ⟨b3, 0, none⟩) fln c3] br b1 b2 b3 fl dp ((st.setv (n : Int) vx).tell (3, a, (n : Int), vx)) ev' W → Fr br b1 b2 ev ev' w3.drew W → (W.cell? ⟨b1, n, none⟩ = some (.int .i64 vx) ∧ W.cell? ⟨br, 1, none⟩ = some (.slice (some ⟨b1, 0, none⟩) vl vl) ∧ W.cell? ⟨w.heap.size, 1, none⟩ = some (.int .i64 (n : Int)))) := fun W ev' hr hf => HKK.out W ev' w3 hr hf t1
  go_wp2_with fail
  go_region_held3 (fun W => W.cell? ⟨b1, n, none⟩ = some (.int .i64 vx) ∧ W.cell? ⟨br, 1, none⟩ = some (.slice (some ⟨b1, 0, none⟩) vl vl) ∧ W.cell? ⟨w.heap.size, 1, none⟩ = some (.int .i64 (n : Int))) (first | assumption | exact ⟨h3, h4, t1⟩ | exact KK.out _ _ hrt hft | fail) (first | (go_at_call 133; refine (KT.out _ (by first | exact H1.out | exact H1.out.drewN 1)).mono ?_; rintro e wt ⟨rfl, ev', hrt, hft⟩))
  go_wp2_with fail
  go_ret
  exact ⟨rfl, ev', hrt, H2.out.trans (Fr.drewN 1 hft)⟩
theorem okX_check {w : World} {m k : Nat} {cs : List Value} {d : D} (h : RX w k cs d) (hc : checkX m k d = 0) : okX m k d := by
  unfold checkX at hc
  split at hc
  · omega
  · exact okX_of k cs d h (firstX_zero hc)

/-- how a run goes on. -/
def RanR (I : ObsI) (m : Int) (ga : Option Addr) (gn gc : Nat) (sa : Option Addr) (sn sc : Nat) (ya : Option Addr) (yn yc : Nat) (oa : Option Addr) (on oc : Nat) (va : Option Addr) (vn vc : Nat) (fa : Option Addr) (fn fc : Nat) (ba : Option Addr) (bn bc : Nat) (xa : Option Addr) (xn xc : Nat) (F fln c3 : Nat) (B br b1 b2 b3 : Nat) (fl : List Int) (dp : Nat) (r : Bool × RSt) (ev : Ow) (w : World) (e : Ending) (w' : World) : Prop :=
  e = .returned (.bool r.1) ∧ (∃ ev', RnG I B [.int .i64 m, .slice ga gn gc, .slice sa sn sc, .slice ya yn yc, .slice oa on oc, .slice va vn vc, .slice fa fn fc, .slice ba bn bc, .slice xa xn xc, .int .i64 (F : Int), .slice (some ⟨b3, 0, none⟩) fln c3] br b1 b2 b3 fl dp r.2 ev' w' ∧ Fr br b1 b2 ev ev' w w') ∧ NumOk vn yn F r.2

/-- what is deeper: when it comes back, too. -/
def InsR (I : ObsI) (m : Int) (ga : Option Addr) (gn gc : Nat) (sa : Option Addr) (sn sc : Nat) (ya : Option Addr) (yn yc : Nat) (oa : Option Addr) (on oc : Nat) (va : Option Addr) (vn vc : Nat) (fa : Option Addr) (fn fc : Nat) (ba : Option Addr) (bn bc : Nat) (xa : Option Addr) (xn xc : Nat) (F fln c3 : Nat) (B br b1 b2 b3 : Nat) (fl : List Int) (dp : Nat) (r : Bool × RSt) (ev : Ow) (w : World) (e : Ending) (w' : World) : Prop :=
  e = .returned (.bool r.1) ∧ (∃ ev', RnG I B [.int .i64 m, .slice ga gn gc, .slice sa sn sc, .slice ya yn yc, .slice oa on oc, .slice va vn vc, .slice fa fn fc, .slice ba bn bc, .slice xa xn xc, .int .i64 (F : Int), .slice (some ⟨b3, 0, none⟩) fln c3] br b1 b2 b3 fl dp r.2 ev' w' ∧ Fr br b1 b2 ev ev' w w') ∧ NumOk vn yn F r.2 ∧ I.ok (dp + 1) r.2.o

set_option maxHeartbeats 2000000 in
set_option maxRecDepth 100000 in
theorem insideR (m : Int) (ga : Option Addr) (gn gc : Nat) (sa : Option Addr) (sn sc : Nat) (ya : Option Addr) (yn yc : Nat) (oa : Option Addr) (on oc : Nat) (va : Option Addr) (vn vc : Nat) (fa : Option Addr) (fn fc : Nat) (ba : Option Addr) (bn bc : Nat) (xa : Option Addr) (xn xc : Nat) (F fln c3 : Nat) (B br b1 b2 b3 : Nat) (fl : List Int) {I : ObsI} (dp : Nat) (st : RSt) (ev : Ow) (ta : Option Addr) (tl tc : Nat) (a : Int) (r : Bool × RSt) (w : World) (hdp : dp ≤ 9000) (hok : I.ok (dp + 1) st.o) (h : RnG I B [.int .i64 m, .slice ga gn gc, .slice sa sn sc, .slice ya yn yc, .slice oa on oc, .slice va vn vc, .slice fa fn fc, .slice ba bn bc, .slice xa xn xc, .int .i64 (F : Int), .slice (some ⟨b3, 0, none⟩) fln c3] br b1 b2 b3 fl dp st ev w)
    (KT : Hid (∀ W, RnG I B [.int .i64 m, .slice ga gn gc, .slice sa sn sc, .slice ya yn yc, .slice oa on oc, .slice va vn vc, .slice fa fn fc, .slice ba bn bc, .slice xa xn xc, .int .i64 (F : Int), .slice (some ⟨b3, 0, none⟩) fln c3] br b1 b2 b3 fl (dp + 1) st ev W → Below B w W → Calls Try.prog 70 #[.pointer (some ⟨br, 0, none⟩), .slice ta tl tc, .int .i64 a] W (RanR I m ga gn gc sa sn sc ya yn yc oa on oc va vn vc fa fn fc ba bn bc xa xn xc F fln c3 B br b1 b2 b3 fl (dp + 1) r ev W))) :
    Calls Try.prog 134 #[.pointer (some ⟨br, 0, none⟩), .slice ta tl tc, .int .i64 a] w (InsR I m ga gn gc sa sn sc ya yn yc oa on oc va vn vc fa fn fc ba bn bc xa xn xc F fln c3 B br b1 b2 b3 fl dp r ev w) := by
  have hr : ∀ n, RnG I B [.int .i64 m, .slice ga gn gc, .slice sa sn sc, .slice ya yn yc, .slice oa on oc, .slice va vn vc, .slice fa fn fc, .slice ba bn bc, .slice xa xn xc, .int .i64 (F : Int), .slice (some ⟨b3, 0, none⟩) fln c3] br b1 b2 b3 fl (dp + 1) st ev ((w.drewN n).setCell ⟨br, 17, none⟩ (.int .i64 ((dp : Int) + 1))) := fun n => (h.drewN n).set0 17 _ rfl rfl rfl rfl hok (by simp) (by simp)
  have hf : ∀ n, Fr br b1 b2 ev ev w ((w.drewN n).setCell ⟨br, 17, none⟩ (.int .i64 ((dp : Int) + 1))) := fun n => (fr_set0 (h.drewN n) _ _).drewN
  have KS := hide (KT.out _ (hr 0) (h.below (hf 0)))
  have HF := hide (hf 0)
  have c17 := h.row 17 _ rfl
  have z17 := h.z0 17
  have hl := h.hi.1
  clear h KT hr hf hok
  obtain ⟨rb, rs⟩ := r
  go_enter Try.func134, Try.ntmps134
  go_wp2_with fail
  refine (KS.out).mono ?_
  rintro e w1 ⟨he, ⟨ev', h1, hf1⟩, hn⟩
  dsimp only at he hn h1
  subst he
  have d17 := h1.row 17 _ rfl
  have y17 := h1.z0 17
  have hl1 := h1.hi.1
  have HOK := hide h1.okd
  have HR : Hid (∀ n, RnG I B [.int .i64 m, .slice ga gn gc, .slice sa sn sc, .slice ya yn yc, .slice oa on oc, .slice va vn vc, .slice fa fn fc, .slice ba bn bc, .slice xa xn xc, .int .i64 (F : Int), .slice (some ⟨b3, 0, none⟩) fln c3] br b1 b2 b3 fl dp rs ev' ((w1.drewN n).setCell ⟨br, 17, none⟩ (.int .i64 (dp : Int))) ∧ Fr br b1 b2 ev' ev' w1 ((w1.drewN n).setCell ⟨br, 17, none⟩ (.int .i64 (dp : Int)))) := fun n => ⟨(h1.drewN n).set0 17 _ rfl rfl rfl rfl (I.less h1.okd) (by simp) (by simp), (fr_set0 (h1.drewN n) _ _).drewN⟩
  have HF1 := hide hf1
  have HN := hide hn
  have d17' : w1.cell? ⟨br, 17, none⟩ = some (.int .i64 ((dp : Int) + 1)) := by simpa using d17
  clear h1 hf1 hn KS d17 c17
  go_wp2_with fail
  go_ret
  have hz : (dp : Int) + 1 - 1 = dp := by omega
  exact ⟨rfl, ⟨ev', (HR.out 0).1, HF.out.trans (HF1.out.trans (HR.out 0).2)⟩, HN.out, HOK.out⟩

set_option maxHeartbeats 2000000 in
set_option maxRecDepth 100000 in
theorem stmtR7 (m : Int) (ga : Option Addr) (gn gc : Nat) (sa : Option Addr) (sn sc : Nat) (ya : Option Addr) (yn yc : Nat) (oa : Option Addr) (on oc : Nat) (va : Option Addr) (vn vc : Nat) (fa : Option Addr) (fn fc : Nat) (ba : Option Addr) (bn bc : Nat) (xa : Option Addr) (xn xc : Nat) (F fln c3 : Nat) (B br b1 b2 b3 : Nat) (fl : List Int) {I : ObsI} (dp : Nat) (st : RSt) (ev : Ow) (K : Nat) (d : D) (sv : Int) (so ek ex : Int) (pa : Option Addr) (pl pc : Nat) (aa : Option Addr) (al ac : Nat) (ta : Option Addr) (tl tc : Nat) (ea : Option Addr) (el ec : Nat) (a : Int) (n1 : Int) (rT rE : Bool × RSt) (w0 w : World) (h : RnG I B [.int .i64 m, .slice ga gn gc, .slice sa sn sc, .slice ya yn yc, .slice oa on oc, .slice va vn vc, .slice fa fn fc, .slice ba bn bc, .slice xa xn xc, .int .i64 (F : Int), .slice (some ⟨b3, 0, none⟩) fln c3] br b1 b2 b3 fl dp st ev w) (hB0 : Below w0.heap.size w0 w) (hx : RX w K [.int .i64 ek, .int .i64 ex, .slice pa pl pc] d) (ho : okX st.vars.length K d) (hi : ∀ x ∈ st.vars, I32 x) (ha : 0 ≤ a ∧ a ≤ 100) (hn1 : 0 ≤ n1 ∧ n1 ≤ 100)
    (KT : Hid (∀ W, RnG I B [.int .i64 m, .slice ga gn gc, .slice sa sn sc, .slice ya yn yc, .slice oa on oc, .slice va vn vc, .slice fa fn fc, .slice ba bn bc, .slice xa xn xc, .int .i64 (F : Int), .slice (some ⟨b3, 0, none⟩) fln c3] br b1 b2 b3 fl dp st ev W → Below w0.heap.size w0 W → Calls Try.prog 134 #[.pointer (some ⟨br, 0, none⟩), .slice ta tl tc, .int .i64 (a + 1)] W (RanR I m ga gn gc sa sn sc ya yn yc oa on oc va vn vc fa fn fc ba bn bc xa xn xc F fln c3 B br b1 b2 b3 fl dp rT ev W)))
    (KE : Hid (∀ W, RnG I B [.int .i64 m, .slice ga gn gc, .slice sa sn sc, .slice ya yn yc, .slice oa on oc, .slice va vn vc, .slice fa fn fc, .slice ba bn bc, .slice xa xn xc, .int .i64 (F : Int), .slice (some ⟨b3, 0, none⟩) fln c3] br b1 b2 b3 fl dp st ev W → Below w0.heap.size w0 W → Calls Try.prog 134 #[.pointer (some ⟨br, 0, none⟩), .slice ea el ec, .int .i64 (a + 1 + n1)] W (RanR I m ga gn gc sa sn sc ya yn yc oa on oc va vn vc fa fn fc ba bn bc xa xn xc F fln c3 B br b1 b2 b3 fl dp rE ev W)))
    (KM : Hid (∀ W, Below w0.heap.size w0 W → Calls Try.prog 101 #[.slice ta tl tc] W fun e w' => e = .returned (.int .i64 n1) ∧ Below W.heap.size W w')) :
    Calls Try.prog 104 #[.pointer (some ⟨br, 0, none⟩), .agg #[.int .i64 7, .int .i64 sv, .int .i64 so, .int .i64 ek, .int .i64 ex, .slice pa pl pc, .slice aa al ac, .slice ta tl tc, .slice ea el ec], .int .i64 a] w (RanR I m ga gn gc sa sn sc ya yn yc oa on oc va vn vc fa fn fc ba bn bc xa xn xc F fln c3 B br b1 b2 b3 fl dp (if valX st.vars K d = 0 then rE else rT) ev w) := by
  have hbel : Below w.heap.size w (w.alloc (.cells #[.int .i64 7, .int .i64 sv, .int .i64 so, .int .i64 ek, .int .i64 ex, .slice pa pl pc, .slice aa al ac, .slice ta tl tc, .slice ea el ec] 78)) := (Below.refl _ w).alloc (Nat.le_refl _) _
  have h' := h.over hbel
  have KV := hide fun W (hW : Below w.heap.size w W) => valueR_any m ga gn gc sa sn sc ya yn yc oa on oc va vn vc fa fn fc ba bn bc xa xn xc F fln c3 B br b1 b2 b3 fl dp st ev K _ d W (h.over hW) (hx.over hW) ho hi
  have H0 := hide h
  obtain ⟨a1, a2⟩ := ha
  obtain ⟨a3, a4⟩ := hn1
  have s0 : (w.alloc (.cells #[.int .i64 7, .int .i64 sv, .int .i64 so, .int .i64 ek, .int .i64 ex, .slice pa pl pc, .slice aa al ac, .slice ta tl tc, .slice ea el ec] 78)).cell? ⟨w.heap.size, 0, none⟩ = some (.int .i64 7) := by simp [go_sem]
  have s1 : (w.alloc (.cells #[.int .i64 7, .int .i64 sv, .int .i64 so, .int .i64 ek, .int .i64 ex, .slice pa pl pc, .slice aa al ac, .slice ta tl tc, .slice ea el ec] 78)).cell? ⟨w.heap.size, 1, none⟩ = some (.int .i64 sv) := by simp [go_sem]
  have s2 : (w.alloc (.cells #[.int .i64 7, .int .i64 sv, .int .i64 so, .int .i64 ek, .int .i64 ex, .slice pa pl pc, .slice aa al ac, .slice ta tl tc, .slice ea el ec] 78)).cell? ⟨w.heap.size, 2, none⟩ = some (.int .i64 so) := by simp [go_sem]
  have s3 : (w.alloc (.cells #[.int .i64 7, .int .i64 sv, .int .i64 so, .int .i64 ek, .int .i64 ex, .slice pa pl pc, .slice aa al ac, .slice ta tl tc, .slice ea el ec] 78)).cell? ⟨w.heap.size, 3, none⟩ = some (.int .i64 ek) := by simp [go_sem]
  have s4 : (w.alloc (.cells #[.int .i64 7, .int .i64 sv, .int .i64 so, .int .i64 ek, .int .i64 ex, .slice pa pl pc, .slice aa al ac, .slice ta tl tc, .slice ea el ec] 78)).cell? ⟨w.heap.size, 4, none⟩ = some (.int .i64 ex) := by simp [go_sem]
  have s5 : (w.alloc (.cells #[.int .i64 7, .int .i64 sv, .int .i64 so, .int .i64 ek, .int .i64 ex, .slice pa pl pc, .slice aa al ac, .slice ta tl tc, .slice ea el ec] 78)).cell? ⟨w.heap.size, 5, none⟩ = some (.slice pa pl pc) := by simp [go_sem]
  have s6 : (w.alloc (.cells #[.int .i64 7, .int .i64 sv, .int .i64 so, .int .i64 ek, .int .i64 ex, .slice pa pl pc, .slice aa al ac, .slice ta tl tc, .slice ea el ec] 78)).cell? ⟨w.heap.size, 6, none⟩ = some (.slice aa al ac) := by simp [go_sem]
  have s7 : (w.alloc (.cells #[.int .i64 7, .int .i64 sv, .int .i64 so, .int .i64 ek, .int .i64 ex, .slice pa pl pc, .slice aa al ac, .slice ta tl tc, .slice ea el ec] 78)).cell? ⟨w.heap.size, 7, none⟩ = some (.slice ta tl tc) := by simp [go_sem]
  have s8 : (w.alloc (.cells #[.int .i64 7, .int .i64 sv, .int .i64 so, .int .i64 ek, .int .i64 ex, .slice pa pl pc, .slice aa al ac, .slice ta tl tc, .slice ea el ec] 78)).cell? ⟨w.heap.size, 8, none⟩ = some (.slice ea el ec) := by simp [go_sem]
  obtain ⟨vx, hvx⟩ : ∃ q, q = valX st.vars K d := ⟨_, rfl⟩
  rw [← hvx] at KV ⊢
  clear h h' hx ho hi hvx
  by_cases hz : vx = 0
  · subst hz
    rw [if_pos rfl]
    go_enter Try.func104, Try.ntmps104
    go_wp2_with fail
    refine (KV.out _ hbel).mono ?_
    rintro e w1 ⟨rfl, hb1⟩
    have t7 := cell_over hb1 _ _ s7
    have t8 := cell_over hb1 _ _ s8
    have hB1 := over_trans hbel hb1
    have HB1 := hide hB1
    have HM := hide (KM.out w1.drew (hB0.trans (hB1.drew.mono hB0.size)))
    have HE := hide fun W (hW : Below w1.drew.heap.size w1.drew W) => KE.out W ((H0.out.over hB1.drew).over hW) ((hB0.trans (hB1.drew.mono hB0.size)).trans (hW.mono (Nat.le_trans hB0.size hB1.size)))
    have HWR : Hid (IntKind.i64.wrap (IntKind.i64.wrap (a + 1) + n1) = a + 1 + n1) := by
      show _ = _
      rw [IntWalk.i64_in (a + 1) (by omega), IntWalk.i64_in _ (by omega)]
    clear KV s0 s1 s2 s3 s4 s5 s6 s7 s8 hb1 hbel KT KM KE hB1 hB0
    obtain ⟨r1, r2⟩ := rE
    go_wp2_with fail
    go_region_held3 (fun W => W.cell? ⟨w.heap.size, 7, none⟩ = some (.slice ta tl tc) ∧ W.cell? ⟨w.heap.size, 8, none⟩ = some (.slice ea el ec)) (first | assumption | exact ⟨t7, t8⟩ | exact ⟨cell_over hbp _ _ (by assumption : _ ∧ _).1, cell_over hbp _ _ (by assumption : _ ∧ _).2⟩ | exact ⟨H0.out.box hft (Nat.le_refl _) (by assumption : _ ∧ _).1, H0.out.box hft (Nat.le_refl _) (by assumption : _ ∧ _).2⟩ | fail) (first | (go_at_call 101; refine (HM.out).mono ?_; rintro e wp ⟨rfl, hbp⟩) | (go_at_call 134; rw [HWR.out]; refine (HE.out _ hbp).mono ?_; rintro e wt ⟨he, ⟨ev', hrt, hft⟩, hno⟩; subst he))
    have HF := hide (And.intro hrt ((Fr.of_below (ev := ev) (br := br) (b1 := b1) (b2 := b2) HB1.out.drew).trans ((Fr.of_below hbp).trans hft)))
    have HN := hide hno
    clear hrt hft hno
    go_wp2_with fail
    go_ret
    exact ⟨rfl, ⟨ev', HF.out⟩, HN.out⟩
  · rw [if_neg hz]
    have hzb : (vx == 0) = false := by simpa using hz
    go_enter Try.func104, Try.ntmps104
    go_wp2_with fail
    refine (KV.out _ hbel).mono ?_
    rintro e w1 ⟨rfl, hb1⟩
    have t7 := cell_over hb1 _ _ s7
    have hB1 := over_trans hbel hb1
    have HE := hide (KT.out w1 (H0.out.over hB1) (hB0.trans (hB1.mono hB0.size)))
    have HB1 := hide hB1
    clear KV s0 s1 s2 s3 s4 s5 s6 s7 s8 hb1 hbel KE KM KT hB1 hB0
    obtain ⟨r1, r2⟩ := rT
    go_wp2_with fail
    refine (HE.out).mono ?_
    rintro e wt ⟨he, ⟨ev', hrt, hft⟩, hno⟩
    subst he
    have HF := hide (And.intro hrt ((Fr.of_below (ev := ev) (br := br) (b1 := b1) (b2 := b2) HB1.out).trans hft))
    have HN := hide hno
    clear hrt hft hno
    go_wp2_with fail
    go_ret
    exact ⟨rfl, ⟨ev', HF.out⟩, HN.out⟩
end Go.Proofs.Ytcbbjjenkommeaa.Ex
