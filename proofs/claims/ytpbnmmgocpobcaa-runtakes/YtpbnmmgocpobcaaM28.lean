/- Commands of one step, done. -/
import Derived.Test.YtpbnmmgocpobcaaM26
import Derived.Test.YtpbnmmgocpobcaaM27
namespace Go.Proofs.Ytpbnmmgocpobcaa.Ex
open Go.RowKit
set_option linter.unusedVariables false

theorem keep5b {w w' : World} {a0 a1 a2 a3 a4 : Addr} {v0 v1 v2 v3 v4 : Value} (h : w.cell? a0 = some v0 ∧ w.cell? a1 = some v1 ∧ w.cell? a2 = some v2 ∧ w.cell? a3 = some v3 ∧ w.cell? a4 = some v4) (hb : Below w.heap.size w w') :
    w'.cell? a0 = some v0 ∧ w'.cell? a1 = some v1 ∧ w'.cell? a2 = some v2 ∧ w'.cell? a3 = some v3 ∧ w'.cell? a4 = some v4 := ⟨cell_over hb _ _ h.1, cell_over hb _ _ h.2.1, cell_over hb _ _ h.2.2.1, cell_over hb _ _ h.2.2.2.1, cell_over hb _ _ h.2.2.2.2⟩
theorem keep5g {w w' : World} {r b c j0 j1 j2 j3 j4 : Nat} {v0 v1 v2 v3 v4 : Value} (h : w.cell? ⟨b, j0, none⟩ = some v0 ∧ w.cell? ⟨c, j1, none⟩ = some v1 ∧ w.cell? ⟨c, j2, none⟩ = some v2 ∧ w.cell? ⟨c, j3, none⟩ = some v3 ∧ w.cell? ⟨c, j4, none⟩ = some v4) (hg : w.grownBy w' (some r)) (hb : b ≠ r) (hc : c ≠ r) :
    w'.cell? ⟨b, j0, none⟩ = some v0 ∧ w'.cell? ⟨c, j1, none⟩ = some v1 ∧ w'.cell? ⟨c, j2, none⟩ = some v2 ∧ w'.cell? ⟨c, j3, none⟩ = some v3 ∧ w'.cell? ⟨c, j4, none⟩ = some v4 := ⟨grow_cell hg h.1 hb, grow_cell hg h.2.1 hc, grow_cell hg h.2.2.1 hc, grow_cell hg h.2.2.2.1 hc, grow_cell hg h.2.2.2.2 hc⟩

set_option maxHeartbeats 2000000 in
set_option maxRecDepth 100000 in
theorem stmtR1 (m : Int) (ga : Option Addr) (gn gc : Nat) (sa : Option Addr) (sn sc : Nat) (ya : Option Addr) (yn yc : Nat) (oa : Option Addr) (on oc : Nat) (va : Option Addr) (vn vc : Nat) (fa : Option Addr) (fn fc : Nat) (ba : Option Addr) (bn bc : Nat) (xa : Option Addr) (xn xc : Nat) (F fln c3 : Nat) (B br b1 b2 b3 : Nat) (fl : List Int) (en : Int) (st : RSt) (ev : Value) (K : Nat) (d : D) (n : Nat) (so ek ex : Int) (pa : Option Addr) (pl pc : Nat) (aa : Option Addr) (al ac : Nat) (ta : Option Addr) (tl tc : Nat) (ea : Option Addr) (el ec : Nat) (a : Int) (w : World) (h : RnG B [.int .i64 m, .slice ga gn gc, .slice sa sn sc, .slice ya yn yc, .slice oa on oc, .slice va vn vc, .slice fa fn fc, .slice ba bn bc, .slice xa xn xc, .int .i64 (F : Int), .slice (some ⟨b3, 0, none⟩) fln c3] br b1 b2 b3 fl en st ev w) (hx : RX w K [.int .i64 ek, .int .i64 ex, .slice pa pl pc] d) (ho : okX st.vars.length K d) (hi : ∀ x ∈ st.vars, I32 x) (hn : n < st.vars.length) (hm : st.vars.length ≤ 16) :
    Calls Try.prog 32 #[.pointer (some ⟨br, 0, none⟩), .agg #[.int .i64 1, .int .i64 (n : Int), .int .i64 so, .int .i64 ek, .int .i64 ex, .slice pa pl pc, .slice aa al ac, .slice ta tl tc, .slice ea el ec], .int .i64 a] w fun e w' => e = .returned (.bool true) ∧ RnG B [.int .i64 m, .slice ga gn gc, .slice sa sn sc, .slice ya yn yc, .slice oa on oc, .slice va vn vc, .slice fa fn fc, .slice ba bn bc, .slice xa xn xc, .int .i64 (F : Int), .slice (some ⟨b3, 0, none⟩) fln c3] br b1 b2 b3 fl en (st.setv (n : Int) (valX st.vars K d)) ev w' ∧ Fr br b1 b2 ev ev w w' := by
  have hbel : Below w.heap.size w (w.alloc (.cells #[.int .i64 1, .int .i64 (n : Int), .int .i64 so, .int .i64 ek, .int .i64 ex, .slice pa pl pc, .slice aa al ac, .slice ta tl tc, .slice ea el ec] 71)) := (Below.refl _ w).alloc (Nat.le_refl _) _
  have h' := (h.over hbel).drewN 1
  have KV := hide (valueR_any m ga gn gc sa sn sc ya yn yc oa on oc va vn vc fa fn fc ba bn bc xa xn xc F fln c3 B br b1 b2 b3 fl en st ev K _ d (w.alloc (.cells #[.int .i64 1, .int .i64 (n : Int), .int .i64 so, .int .i64 ek, .int .i64 ex, .slice pa pl pc, .slice aa al ac, .slice ta tl tc, .slice ea el ec] 71)).drew h' (hx.over hbel.drew) ho hi)
  have HR : Hid (∀ W, Below (w.alloc (.cells #[.int .i64 1, .int .i64 (n : Int), .int .i64 so, .int .i64 ek, .int .i64 ex, .slice pa pl pc, .slice aa al ac, .slice ta tl tc, .slice ea el ec] 71)).drew.heap.size (w.alloc (.cells #[.int .i64 1, .int .i64 (n : Int), .int .i64 so, .int .i64 ek, .int .i64 ex, .slice pa pl pc, .slice aa al ac, .slice ta tl tc, .slice ea el ec] 71)).drew W → RnG B [.int .i64 m, .slice ga gn gc, .slice sa sn sc, .slice ya yn yc, .slice oa on oc, .slice va vn vc, .slice fa fn fc, .slice ba bn bc, .slice xa xn xc, .int .i64 (F : Int), .slice (some ⟨b3, 0, none⟩) fln c3] br b1 b2 b3 fl en (st.setv (n : Int) (valX st.vars K d)) ev (W.setCell ⟨b1, n, none⟩ (.int .i64 (valX st.vars K d))) ∧ Fr br b1 b2 ev ev w (W.setCell ⟨b1, n, none⟩ (.int .i64 (valX st.vars K d)))) := fun W hW => by
    have r := (h'.over hW).setVar (n : Int) (valX st.vars K d) (by simpa using hn)
    exact ⟨by simpa using r, (Fr.of_below hbel.drew).trans ((Fr.of_below hW).trans (fr_set1 (h'.over hW) _ _))⟩
  have c1 := h'.row 1 _ rfl
  have HO := hide h'
  have hnv : (n : Int) < (st.vars.length : Int) := by omega
  have nb : w.heap.size ≠ b1 := by have := h.hi; omega
  have nr : br ≠ b1 := h.apart.1
  have s0 : (w.alloc (.cells #[.int .i64 1, .int .i64 (n : Int), .int .i64 so, .int .i64 ek, .int .i64 ex, .slice pa pl pc, .slice aa al ac, .slice ta tl tc, .slice ea el ec] 71)).cell? ⟨w.heap.size, 0, none⟩ = some (.int .i64 1) := by simp [go_sem]
  have s1 : (w.alloc (.cells #[.int .i64 1, .int .i64 (n : Int), .int .i64 so, .int .i64 ek, .int .i64 ex, .slice pa pl pc, .slice aa al ac, .slice ta tl tc, .slice ea el ec] 71)).cell? ⟨w.heap.size, 1, none⟩ = some (.int .i64 (n : Int)) := by simp [go_sem]
  have s2 : (w.alloc (.cells #[.int .i64 1, .int .i64 (n : Int), .int .i64 so, .int .i64 ek, .int .i64 ex, .slice pa pl pc, .slice aa al ac, .slice ta tl tc, .slice ea el ec] 71)).cell? ⟨w.heap.size, 2, none⟩ = some (.int .i64 so) := by simp [go_sem]
  have s3 : (w.alloc (.cells #[.int .i64 1, .int .i64 (n : Int), .int .i64 so, .int .i64 ek, .int .i64 ex, .slice pa pl pc, .slice aa al ac, .slice ta tl tc, .slice ea el ec] 71)).cell? ⟨w.heap.size, 3, none⟩ = some (.int .i64 ek) := by simp [go_sem]
  have s4 : (w.alloc (.cells #[.int .i64 1, .int .i64 (n : Int), .int .i64 so, .int .i64 ek, .int .i64 ex, .slice pa pl pc, .slice aa al ac, .slice ta tl tc, .slice ea el ec] 71)).cell? ⟨w.heap.size, 4, none⟩ = some (.int .i64 ex) := by simp [go_sem]
  have s5 : (w.alloc (.cells #[.int .i64 1, .int .i64 (n : Int), .int .i64 so, .int .i64 ek, .int .i64 ex, .slice pa pl pc, .slice aa al ac, .slice ta tl tc, .slice ea el ec] 71)).cell? ⟨w.heap.size, 5, none⟩ = some (.slice pa pl pc) := by simp [go_sem]
  have s6 : (w.alloc (.cells #[.int .i64 1, .int .i64 (n : Int), .int .i64 so, .int .i64 ek, .int .i64 ex, .slice pa pl pc, .slice aa al ac, .slice ta tl tc, .slice ea el ec] 71)).cell? ⟨w.heap.size, 6, none⟩ = some (.slice aa al ac) := by simp [go_sem]
  have s7 : (w.alloc (.cells #[.int .i64 1, .int .i64 (n : Int), .int .i64 so, .int .i64 ek, .int .i64 ex, .slice pa pl pc, .slice aa al ac, .slice ta tl tc, .slice ea el ec] 71)).cell? ⟨w.heap.size, 7, none⟩ = some (.slice ta tl tc) := by simp [go_sem]
  have s8 : (w.alloc (.cells #[.int .i64 1, .int .i64 (n : Int), .int .i64 so, .int .i64 ek, .int .i64 ex, .slice pa pl pc, .slice aa al ac, .slice ta tl tc, .slice ea el ec] 71)).cell? ⟨w.heap.size, 8, none⟩ = some (.slice ea el ec) := by simp [go_sem]
  obtain ⟨vl, hvl⟩ : ∃ q, q = st.vars.length := ⟨_, rfl⟩
  obtain ⟨vx, hvx⟩ : ∃ q, q = valX st.vars K d := ⟨_, rfl⟩
  have hvw : ∀ W, Below (w.alloc (.cells #[.int .i64 1, .int .i64 (n : Int), .int .i64 so, .int .i64 ek, .int .i64 ex, .slice pa pl pc, .slice aa al ac, .slice ta tl tc, .slice ea el ec] 71)).drew.heap.size (w.alloc (.cells #[.int .i64 1, .int .i64 (n : Int), .int .i64 so, .int .i64 ek, .int .i64 ex, .slice pa pl pc, .slice aa al ac, .slice ta tl tc, .slice ea el ec] 71)).drew W → W.cell? ⟨b1, n, none⟩ = some (.int .i64 st.vars[n]) ∧ W.frozen? ⟨b1, n, none⟩ = false ∧ b1 < W.heap.size := fun W hW => ⟨(h'.over hW).vars n _ (by simp [hn]), (h'.over hW).z1 n, (h'.over hW).hi.2.1⟩
  obtain ⟨y, hy⟩ : ∃ y, y = st.vars[n] := ⟨_, rfl⟩
  rw [← hy] at hvw
  have HVW := hide hvw
  rw [← hvl] at c1 hnv
  rw [← hvx] at KV HR ⊢
  clear h h' hx ho hi hvl hvx hvw hy hn hm
  go_enter Try.func32, Try.ntmps32
  go_wp2_with fail
  go_region_held3 (fun W => W.cell? ⟨br, 1, none⟩ = some (.slice (some ⟨b1, 0, none⟩) vl vl) ∧ W.cell? ⟨w.heap.size, 1, none⟩ = some (.int .i64 (n : Int)) ∧ W.cell? ⟨w.heap.size, 3, none⟩ = some (.int .i64 ek) ∧ W.cell? ⟨w.heap.size, 4, none⟩ = some (.int .i64 ex) ∧ W.cell? ⟨w.heap.size, 5, none⟩ = some (.slice pa pl pc)) (first | assumption | exact ⟨c1, s1, s3, s4, s5⟩ | exact keep5b (by assumption) hbp | exact keep5g (by assumption) (grow_set (n := 0)) nr nb | fail) (first | (go_at_call 46; refine (KV.out).mono ?_; rintro e wp ⟨rfl, hbp⟩; obtain ⟨u0, uz, ul⟩ := HVW.out _ hbp))
  have HE := hide (HR.out _ hbp)
  go_wp2_with fail
  go_ret
  exact ⟨rfl, HE.out⟩

set_option maxHeartbeats 2000000 in
set_option maxRecDepth 100000 in
theorem stmtR3 (m : Int) (ga : Option Addr) (gn gc : Nat) (sa : Option Addr) (sn sc : Nat) (ya : Option Addr) (yn yc : Nat) (oa : Option Addr) (on oc : Nat) (va : Option Addr) (vn vc : Nat) (fa : Option Addr) (fn fc : Nat) (ba : Option Addr) (bn bc : Nat) (xa : Option Addr) (xn xc : Nat) (F fln c3 : Nat) (B br b1 b2 b3 : Nat) (fl : List Int) (en : Int) (st : RSt) (ev : Value) (n : Nat) (so ek ex : Int) (pa : Option Addr) (pl pc : Nat) (aa : Option Addr) (al ac : Nat) (ta : Option Addr) (tl tc : Nat) (ea : Option Addr) (el ec : Nat) (a : Int) (ins : List (List Int)) (w0 w : World) (h : RnG B [.int .i64 m, .slice ga gn gc, .slice sa sn sc, .slice ya yn yc, .slice oa on oc, .slice va vn vc, .slice fa fn fc, .slice ba bn bc, .slice xa xn xc, .int .i64 (F : Int), .slice (some ⟨b3, 0, none⟩) fln c3] br b1 b2 b3 fl en st ev w) (hB0 : Below w0.heap.size w0 w) (hBB : w0.heap.size ≤ b2) (hl : ListsAt w0 (.slice xa xn xc) ins) (h0 : 0 ≤ so) (h1 : so < ins.length) (h2 : ins.length = st.taken.length) (h3 : ∀ x ∈ st.taken, 0 ≤ x ∧ x ≤ 2000) (h4 : ∀ x ∈ ins, x.length ≤ 100) (hn : n < st.vars.length) (hm : st.vars.length ≤ 16) :
    Calls Try.prog 32 #[.pointer (some ⟨br, 0, none⟩), .agg #[.int .i64 3, .int .i64 (n : Int), .int .i64 so, .int .i64 ek, .int .i64 ex, .slice pa pl pc, .slice aa al ac, .slice ta tl tc, .slice ea el ec], .int .i64 a] w fun e w' => e = .returned (.bool true) ∧ RnG B [.int .i64 m, .slice ga gn gc, .slice sa sn sc, .slice ya yn yc, .slice oa on oc, .slice va vn vc, .slice fa fn fc, .slice ba bn bc, .slice xa xn xc, .int .i64 (F : Int), .slice (some ⟨b3, 0, none⟩) fln c3] br b1 b2 b3 fl en ((st.took so).setv (n : Int) (nextX ins st so)) ev w' ∧ Fr br b1 b2 ev ev w w' := by
  have hbel : Below w.heap.size w (w.alloc (.cells #[.int .i64 3, .int .i64 (n : Int), .int .i64 so, .int .i64 ek, .int .i64 ex, .slice pa pl pc, .slice aa al ac, .slice ta tl tc, .slice ea el ec] 71)) := (Below.refl _ w).alloc (Nat.le_refl _) _
  have h' := (h.over hbel).drewN 1
  have KV := hide (nextR_any m ga gn gc sa sn sc ya yn yc oa on oc va vn vc fa fn fc ba bn bc xa xn xc F fln c3 B br b1 b2 b3 fl en st ev ins so w0 (w.alloc (.cells #[.int .i64 3, .int .i64 (n : Int), .int .i64 so, .int .i64 ek, .int .i64 ex, .slice pa pl pc, .slice aa al ac, .slice ta tl tc, .slice ea el ec] 71)).drew (hB0.trans (hbel.drew.mono hB0.size)) h' hBB hl h0 h1 h2 h3 h4)
  have hvl2 : (st.took so).vars = st.vars := rfl
  have HR : Hid (∀ W, RnG B [.int .i64 m, .slice ga gn gc, .slice sa sn sc, .slice ya yn yc, .slice oa on oc, .slice va vn vc, .slice fa fn fc, .slice ba bn bc, .slice xa xn xc, .int .i64 (F : Int), .slice (some ⟨b3, 0, none⟩) fln c3] br b1 b2 b3 fl en (st.took so) ev W → Fr br b1 b2 ev ev (w.alloc (.cells #[.int .i64 3, .int .i64 (n : Int), .int .i64 so, .int .i64 ek, .int .i64 ex, .slice pa pl pc, .slice aa al ac, .slice ta tl tc, .slice ea el ec] 71)).drew W → RnG B [.int .i64 m, .slice ga gn gc, .slice sa sn sc, .slice ya yn yc, .slice oa on oc, .slice va vn vc, .slice fa fn fc, .slice ba bn bc, .slice xa xn xc, .int .i64 (F : Int), .slice (some ⟨b3, 0, none⟩) fln c3] br b1 b2 b3 fl en ((st.took so).setv (n : Int) (nextX ins st so)) ev (W.setCell ⟨b1, n, none⟩ (.int .i64 (nextX ins st so))) ∧ Fr br b1 b2 ev ev w (W.setCell ⟨b1, n, none⟩ (.int .i64 (nextX ins st so)))) := fun W hW hF => by
    have r := hW.setVar (n : Int) (nextX ins st so) (by rw [hvl2]; simpa using hn)
    exact ⟨by simpa using r, (Fr.of_below hbel.drew).trans (hF.trans (fr_set1 hW _ _))⟩
  have c1 := h'.row 1 _ rfl
  have hnv : (n : Int) < (st.vars.length : Int) := by omega
  have nb : w.heap.size ≠ b1 := by have := h.hi; omega
  have nb2 : w.heap.size ≠ b2 := by have := h.hi; omega
  have nr : br ≠ b1 := h.apart.1
  have nr2 : br ≠ b2 := h.apart.2.1
  have s0 : (w.alloc (.cells #[.int .i64 3, .int .i64 (n : Int), .int .i64 so, .int .i64 ek, .int .i64 ex, .slice pa pl pc, .slice aa al ac, .slice ta tl tc, .slice ea el ec] 71)).cell? ⟨w.heap.size, 0, none⟩ = some (.int .i64 3) := by simp [go_sem]
  have s1 : (w.alloc (.cells #[.int .i64 3, .int .i64 (n : Int), .int .i64 so, .int .i64 ek, .int .i64 ex, .slice pa pl pc, .slice aa al ac, .slice ta tl tc, .slice ea el ec] 71)).cell? ⟨w.heap.size, 1, none⟩ = some (.int .i64 (n : Int)) := by simp [go_sem]
  have s2 : (w.alloc (.cells #[.int .i64 3, .int .i64 (n : Int), .int .i64 so, .int .i64 ek, .int .i64 ex, .slice pa pl pc, .slice aa al ac, .slice ta tl tc, .slice ea el ec] 71)).cell? ⟨w.heap.size, 2, none⟩ = some (.int .i64 so) := by simp [go_sem]
  have s3 : (w.alloc (.cells #[.int .i64 3, .int .i64 (n : Int), .int .i64 so, .int .i64 ek, .int .i64 ex, .slice pa pl pc, .slice aa al ac, .slice ta tl tc, .slice ea el ec] 71)).cell? ⟨w.heap.size, 3, none⟩ = some (.int .i64 ek) := by simp [go_sem]
  have s4 : (w.alloc (.cells #[.int .i64 3, .int .i64 (n : Int), .int .i64 so, .int .i64 ek, .int .i64 ex, .slice pa pl pc, .slice aa al ac, .slice ta tl tc, .slice ea el ec] 71)).cell? ⟨w.heap.size, 4, none⟩ = some (.int .i64 ex) := by simp [go_sem]
  have s5 : (w.alloc (.cells #[.int .i64 3, .int .i64 (n : Int), .int .i64 so, .int .i64 ek, .int .i64 ex, .slice pa pl pc, .slice aa al ac, .slice ta tl tc, .slice ea el ec] 71)).cell? ⟨w.heap.size, 5, none⟩ = some (.slice pa pl pc) := by simp [go_sem]
  have s6 : (w.alloc (.cells #[.int .i64 3, .int .i64 (n : Int), .int .i64 so, .int .i64 ek, .int .i64 ex, .slice pa pl pc, .slice aa al ac, .slice ta tl tc, .slice ea el ec] 71)).cell? ⟨w.heap.size, 6, none⟩ = some (.slice aa al ac) := by simp [go_sem]
  have s7 : (w.alloc (.cells #[.int .i64 3, .int .i64 (n : Int), .int .i64 so, .int .i64 ek, .int .i64 ex, .slice pa pl pc, .slice aa al ac, .slice ta tl tc, .slice ea el ec] 71)).cell? ⟨w.heap.size, 7, none⟩ = some (.slice ta tl tc) := by simp [go_sem]
  have s8 : (w.alloc (.cells #[.int .i64 3, .int .i64 (n : Int), .int .i64 so, .int .i64 ek, .int .i64 ex, .slice pa pl pc, .slice aa al ac, .slice ta tl tc, .slice ea el ec] 71)).cell? ⟨w.heap.size, 8, none⟩ = some (.slice ea el ec) := by simp [go_sem]
  obtain ⟨vl, hvl⟩ : ∃ q, q = st.vars.length := ⟨_, rfl⟩
  obtain ⟨vx, hvx⟩ : ∃ q, q = nextX ins st so := ⟨_, rfl⟩
  have hvw : ∀ W, RnG B [.int .i64 m, .slice ga gn gc, .slice sa sn sc, .slice ya yn yc, .slice oa on oc, .slice va vn vc, .slice fa fn fc, .slice ba bn bc, .slice xa xn xc, .int .i64 (F : Int), .slice (some ⟨b3, 0, none⟩) fln c3] br b1 b2 b3 fl en (st.took so) ev W → W.cell? ⟨b1, n, none⟩ = some (.int .i64 st.vars[n]) ∧ W.frozen? ⟨b1, n, none⟩ = false ∧ b1 < W.heap.size := fun W hW => ⟨hW.vars n _ (by simp [hvl2, hn]), hW.z1 n, hW.hi.2.1⟩
  obtain ⟨y, hy⟩ : ∃ y, y = st.vars[n] := ⟨_, rfl⟩
  rw [← hy] at hvw
  have HVW := hide hvw
  rw [← hvl] at c1 hnv
  rw [← hvx] at KV HR ⊢
  clear h h' hl h0 h1 h2 h3 h4 hvl hvx hvw hy hn hm hB0 hBB hvl2
  go_enter Try.func32, Try.ntmps32
  go_wp2_with fail
  go_region_held3 (fun W => W.cell? ⟨br, 1, none⟩ = some (.slice (some ⟨b1, 0, none⟩) vl vl) ∧ W.cell? ⟨w.heap.size, 1, none⟩ = some (.int .i64 (n : Int)) ∧ W.cell? ⟨w.heap.size, 2, none⟩ = some (.int .i64 so)) (first | assumption | exact ⟨c1, s1, s2⟩ | exact keep3g (by assumption) hgp nr2 nb2 | exact keep3g (by assumption) (grow_set (n := 0)) nr nb | fail) (first | (go_at_call 48; refine (KV.out).mono ?_; rintro e wp ⟨rfl, hrn, hfr, hgp⟩; obtain ⟨u0, uz, ul⟩ := HVW.out _ hrn))
  have HE := hide (HR.out _ hrn hfr)
  go_wp2_with fail
  go_ret
  exact ⟨rfl, HE.out⟩

theorem keep4f {B : Nat} {R : List Value} {br b1 b2 b3 : Nat} {fl : List Int} {en : Int} {st : RSt} {ev ev' : Value} {w0 w w' : World} {b j0 j1 j2 j3 : Nat} {v0 v1 v2 v3 : Value} (hR : RnG B R br b1 b2 b3 fl en st ev w0) (hb : w0.heap.size ≤ b) (f : Fr br b1 b2 ev ev' w w')
    (h : w.cell? ⟨b, j0, none⟩ = some v0 ∧ w.cell? ⟨b, j1, none⟩ = some v1 ∧ w.cell? ⟨b, j2, none⟩ = some v2 ∧ w.cell? ⟨b, j3, none⟩ = some v3) : w'.cell? ⟨b, j0, none⟩ = some v0 ∧ w'.cell? ⟨b, j1, none⟩ = some v1 ∧ w'.cell? ⟨b, j2, none⟩ = some v2 ∧ w'.cell? ⟨b, j3, none⟩ = some v3 :=
  ⟨hR.box f hb h.1, hR.box f hb h.2.1, hR.box f hb h.2.2.1, hR.box f hb h.2.2.2⟩

set_option maxHeartbeats 2000000 in
set_option maxRecDepth 100000 in
theorem stmtR4 (m : Int) (ga : Option Addr) (gn gc : Nat) (sa : Option Addr) (sn sc : Nat) (ya : Option Addr) (yn yc : Nat) (oa : Option Addr) (on oc : Nat) (va : Option Addr) (vn vc : Nat) (fa : Option Addr) (fn fc : Nat) (ba : Option Addr) (bn bc : Nat) (xa : Option Addr) (xn xc : Nat) (F fln c3 : Nat) (B br b1 b2 b3 : Nat) (fl : List Int) (en : Int) (st : RSt) (ev : Value) (K : Nat) (d : D) (sv : Int) (so ek ex : Int) (pa : Option Addr) (pl pc : Nat) (aa : Option Addr) (al ac : Nat) (ta : Option Addr) (tl tc : Nat) (ea : Option Addr) (el ec : Nat) (a : Int) (w : World) (h : RnG B [.int .i64 m, .slice ga gn gc, .slice sa sn sc, .slice ya yn yc, .slice oa on oc, .slice va vn vc, .slice fa fn fc, .slice ba bn bc, .slice xa xn xc, .int .i64 (F : Int), .slice (some ⟨b3, 0, none⟩) fln c3] br b1 b2 b3 fl en st ev w) (hx : RX w K [.int .i64 ek, .int .i64 ex, .slice pa pl pc] d) (ho : okX st.vars.length K d) (hi : ∀ x ∈ st.vars, I32 x) (hl : st.ev.length ≤ 2000) :
    Calls Try.prog 32 #[.pointer (some ⟨br, 0, none⟩), .agg #[.int .i64 4, .int .i64 sv, .int .i64 so, .int .i64 ek, .int .i64 ex, .slice pa pl pc, .slice aa al ac, .slice ta tl tc, .slice ea el ec], .int .i64 a] w fun e w' => e = .returned (.bool true) ∧ ∃ ev', RnG B [.int .i64 m, .slice ga gn gc, .slice sa sn sc, .slice ya yn yc, .slice oa on oc, .slice va vn vc, .slice fa fn fc, .slice ba bn bc, .slice xa xn xc, .int .i64 (F : Int), .slice (some ⟨b3, 0, none⟩) fln c3] br b1 b2 b3 fl en (st.tell (1, a, so, valX st.vars K d)) ev' w' ∧ Fr br b1 b2 ev ev' w w' := by
  have hbel : Below w.heap.size w (w.alloc (.cells #[.int .i64 4, .int .i64 sv, .int .i64 so, .int .i64 ek, .int .i64 ex, .slice pa pl pc, .slice aa al ac, .slice ta tl tc, .slice ea el ec] 71)) := (Below.refl _ w).alloc (Nat.le_refl _) _
  have h' := (h.over hbel).drewN 1
  have KV := hide (valueR_any m ga gn gc sa sn sc ya yn yc oa on oc va vn vc fa fn fc ba bn bc xa xn xc F fln c3 B br b1 b2 b3 fl en st ev K _ d (w.alloc (.cells #[.int .i64 4, .int .i64 sv, .int .i64 so, .int .i64 ek, .int .i64 ex, .slice pa pl pc, .slice aa al ac, .slice ta tl tc, .slice ea el ec] 71)).drew h' (hx.over hbel.drew) ho hi)
  have KT := hide fun W (hW : RnG B [.int .i64 m, .slice ga gn gc, .slice sa sn sc, .slice ya yn yc, .slice oa on oc, .slice va vn vc, .slice fa fn fc, .slice ba bn bc, .slice xa xn xc, .int .i64 (F : Int), .slice (some ⟨b3, 0, none⟩) fln c3] br b1 b2 b3 fl en st ev W) => tellR_any m ga gn gc sa sn sc ya yn yc oa on oc va vn vc fa fn fc ba bn bc xa xn xc F fln c3 B br b1 b2 b3 fl en st ev 1 a so (valX st.vars K d) W hW hl
  have H0 := hide h
  have HO := hide h'
  have s0 : (w.alloc (.cells #[.int .i64 4, .int .i64 sv, .int .i64 so, .int .i64 ek, .int .i64 ex, .slice pa pl pc, .slice aa al ac, .slice ta tl tc, .slice ea el ec] 71)).cell? ⟨w.heap.size, 0, none⟩ = some (.int .i64 4) := by simp [go_sem]
  have s1 : (w.alloc (.cells #[.int .i64 4, .int .i64 sv, .int .i64 so, .int .i64 ek, .int .i64 ex, .slice pa pl pc, .slice aa al ac, .slice ta tl tc, .slice ea el ec] 71)).cell? ⟨w.heap.size, 1, none⟩ = some (.int .i64 sv) := by simp [go_sem]
  have s2 : (w.alloc (.cells #[.int .i64 4, .int .i64 sv, .int .i64 so, .int .i64 ek, .int .i64 ex, .slice pa pl pc, .slice aa al ac, .slice ta tl tc, .slice ea el ec] 71)).cell? ⟨w.heap.size, 2, none⟩ = some (.int .i64 so) := by simp [go_sem]
  have s3 : (w.alloc (.cells #[.int .i64 4, .int .i64 sv, .int .i64 so, .int .i64 ek, .int .i64 ex, .slice pa pl pc, .slice aa al ac, .slice ta tl tc, .slice ea el ec] 71)).cell? ⟨w.heap.size, 3, none⟩ = some (.int .i64 ek) := by simp [go_sem]
  have s4 : (w.alloc (.cells #[.int .i64 4, .int .i64 sv, .int .i64 so, .int .i64 ek, .int .i64 ex, .slice pa pl pc, .slice aa al ac, .slice ta tl tc, .slice ea el ec] 71)).cell? ⟨w.heap.size, 4, none⟩ = some (.int .i64 ex) := by simp [go_sem]
  have s5 : (w.alloc (.cells #[.int .i64 4, .int .i64 sv, .int .i64 so, .int .i64 ek, .int .i64 ex, .slice pa pl pc, .slice aa al ac, .slice ta tl tc, .slice ea el ec] 71)).cell? ⟨w.heap.size, 5, none⟩ = some (.slice pa pl pc) := by simp [go_sem]
  have s6 : (w.alloc (.cells #[.int .i64 4, .int .i64 sv, .int .i64 so, .int .i64 ek, .int .i64 ex, .slice pa pl pc, .slice aa al ac, .slice ta tl tc, .slice ea el ec] 71)).cell? ⟨w.heap.size, 6, none⟩ = some (.slice aa al ac) := by simp [go_sem]
  have s7 : (w.alloc (.cells #[.int .i64 4, .int .i64 sv, .int .i64 so, .int .i64 ek, .int .i64 ex, .slice pa pl pc, .slice aa al ac, .slice ta tl tc, .slice ea el ec] 71)).cell? ⟨w.heap.size, 7, none⟩ = some (.slice ta tl tc) := by simp [go_sem]
  have s8 : (w.alloc (.cells #[.int .i64 4, .int .i64 sv, .int .i64 so, .int .i64 ek, .int .i64 ex, .slice pa pl pc, .slice aa al ac, .slice ta tl tc, .slice ea el ec] 71)).cell? ⟨w.heap.size, 8, none⟩ = some (.slice ea el ec) := by simp [go_sem]
  obtain ⟨vx, hvx⟩ : ∃ q, q = valX st.vars K d := ⟨_, rfl⟩
  rw [← hvx] at KV KT ⊢
  clear h h' hx ho hi hvx hl
  go_enter Try.func32, Try.ntmps32
  go_wp2_with fail
  go_region_held3 (fun W => W.cell? ⟨w.heap.size, 2, none⟩ = some (.int .i64 so) ∧ W.cell? ⟨w.heap.size, 3, none⟩ = some (.int .i64 ek) ∧ W.cell? ⟨w.heap.size, 4, none⟩ = some (.int .i64 ex) ∧ W.cell? ⟨w.heap.size, 5, none⟩ = some (.slice pa pl pc)) (first | assumption | exact ⟨s2, s3, s4, s5⟩ | exact keep4b (by assumption) hbp | exact keep4f H0.out (Nat.le_refl _) hft (by assumption) | fail) (first | (go_at_call 46; refine (KV.out).mono ?_; rintro e wp ⟨rfl, hbp⟩) | (go_at_call 49; refine (KT.out _ (HO.out.over hbp)).mono ?_; rintro e wt ⟨rfl, ev', hrt, hft⟩))
  have HE := hide (And.intro hrt ((Fr.of_below (ev := ev) (br := br) (b1 := b1) (b2 := b2) hbel.drew).trans ((Fr.of_below hbp).trans hft)))
  go_wp2_with fail
  go_ret
  exact ⟨rfl, ev', HE.out⟩

set_option maxHeartbeats 2000000 in
set_option maxRecDepth 100000 in
theorem stmtR5 (m : Int) (ga : Option Addr) (gn gc : Nat) (sa : Option Addr) (sn sc : Nat) (ya : Option Addr) (yn yc : Nat) (oa : Option Addr) (on oc : Nat) (va : Option Addr) (vn vc : Nat) (fa : Option Addr) (fn fc : Nat) (ba : Option Addr) (bn bc : Nat) (xa : Option Addr) (xn xc : Nat) (F fln c3 : Nat) (B br b1 b2 b3 : Nat) (fl : List Int) (en : Int) (st : RSt) (ev : Value) (K : Nat) (d : D) (n : Nat) (so ek ex : Int) (pa : Option Addr) (pl pc : Nat) (aa : Option Addr) (al ac : Nat) (ta : Option Addr) (tl tc : Nat) (ea : Option Addr) (el ec : Nat) (a : Int) (w : World) (h : RnG B [.int .i64 m, .slice ga gn gc, .slice sa sn sc, .slice ya yn yc, .slice oa on oc, .slice va vn vc, .slice fa fn fc, .slice ba bn bc, .slice xa xn xc, .int .i64 (F : Int), .slice (some ⟨b3, 0, none⟩) fln c3] br b1 b2 b3 fl en st ev w) (hx : RX w K [.int .i64 ek, .int .i64 ex, .slice pa pl pc] d) (ho : okX st.vars.length K d) (hi : ∀ x ∈ st.vars, I32 x) (hn : n < st.vars.length) (hm : st.vars.length ≤ 16) (hl : st.ev.length ≤ 2000) :
    Calls Try.prog 32 #[.pointer (some ⟨br, 0, none⟩), .agg #[.int .i64 5, .int .i64 (n : Int), .int .i64 so, .int .i64 ek, .int .i64 ex, .slice pa pl pc, .slice aa al ac, .slice ta tl tc, .slice ea el ec], .int .i64 a] w fun e w' => e = .returned (.bool true) ∧ ∃ ev', RnG B [.int .i64 m, .slice ga gn gc, .slice sa sn sc, .slice ya yn yc, .slice oa on oc, .slice va vn vc, .slice fa fn fc, .slice ba bn bc, .slice xa xn xc, .int .i64 (F : Int), .slice (some ⟨b3, 0, none⟩) fln c3] br b1 b2 b3 fl en ((st.setv (n : Int) (valX st.vars K d)).tell (2, a, (n : Int), valX st.vars K d)) ev' w' ∧ Fr br b1 b2 ev ev' w w' := by
  have hbel : Below w.heap.size w (w.alloc (.cells #[.int .i64 5, .int .i64 (n : Int), .int .i64 so, .int .i64 ek, .int .i64 ex, .slice pa pl pc, .slice aa al ac, .slice ta tl tc, .slice ea el ec] 71)) := (Below.refl _ w).alloc (Nat.le_refl _) _
  have h' := (h.over hbel).drewN 1
  have KV := hide (valueR_any m ga gn gc sa sn sc ya yn yc oa on oc va vn vc fa fn fc ba bn bc xa xn xc F fln c3 B br b1 b2 b3 fl en st ev K _ d (w.alloc (.cells #[.int .i64 5, .int .i64 (n : Int), .int .i64 so, .int .i64 ek, .int .i64 ex, .slice pa pl pc, .slice aa al ac, .slice ta tl tc, .slice ea el ec] 71)).drew h' (hx.over hbel.drew) ho hi)
  have KT := hide fun W (hW : RnG B [.int .i64 m, .slice ga gn gc, .slice sa sn sc, .slice ya yn yc, .slice oa on oc, .slice va vn vc, .slice fa fn fc, .slice ba bn bc, .slice xa xn xc, .int .i64 (F : Int), .slice (some ⟨b3, 0, none⟩) fln c3] br b1 b2 b3 fl en (st.setv (n : Int) (valX st.vars K d)) ev W) => tellR_any m ga gn gc sa sn sc ya yn yc oa on oc va vn vc fa fn fc ba bn bc xa xn xc F fln c3 B br b1 b2 b3 fl en (st.setv (n : Int) (valX st.vars K d)) ev 2 a (n : Int) (valX st.vars K d) W hW hl
  have hvs : (st.setv (n : Int) (valX st.vars K d)).vars.length = st.vars.length := by simp [RSt.setv]
  have HR : Hid (∀ W, Below (w.alloc (.cells #[.int .i64 5, .int .i64 (n : Int), .int .i64 so, .int .i64 ek, .int .i64 ex, .slice pa pl pc, .slice aa al ac, .slice ta tl tc, .slice ea el ec] 71)).drew.heap.size (w.alloc (.cells #[.int .i64 5, .int .i64 (n : Int), .int .i64 so, .int .i64 ek, .int .i64 ex, .slice pa pl pc, .slice aa al ac, .slice ta tl tc, .slice ea el ec] 71)).drew W → RnG B [.int .i64 m, .slice ga gn gc, .slice sa sn sc, .slice ya yn yc, .slice oa on oc, .slice va vn vc, .slice fa fn fc, .slice ba bn bc, .slice xa xn xc, .int .i64 (F : Int), .slice (some ⟨b3, 0, none⟩) fln c3] br b1 b2 b3 fl en (st.setv (n : Int) (valX st.vars K d)) ev (W.setCell ⟨b1, n, none⟩ (.int .i64 (valX st.vars K d))) ∧ Fr br b1 b2 ev ev w (W.setCell ⟨b1, n, none⟩ (.int .i64 (valX st.vars K d))) ∧ (W.setCell ⟨b1, n, none⟩ (.int .i64 (valX st.vars K d))).cell? ⟨b1, n, none⟩ = some (.int .i64 (valX st.vars K d)) ∧ (W.setCell ⟨b1, n, none⟩ (.int .i64 (valX st.vars K d))).cell? ⟨br, 1, none⟩ = some (.slice (some ⟨b1, 0, none⟩) st.vars.length st.vars.length)) := fun W hW => by
    have r := (h'.over hW).setVar (n : Int) (valX st.vars K d) (by simpa using hn)
    rw [Int.toNat_natCast] at r
    refine ⟨r, (Fr.of_below hbel.drew).trans ((Fr.of_below hW).trans (fr_set1 (h'.over hW) _ _)), r.vars n _ (by simp [RSt.setv, hn]), ?_⟩
    have r1 := r.row 1 _ rfl
    rw [hvs] at r1
    exact r1
  have H0 := hide h
  have c1 := h'.row 1 _ rfl
  have hnv : (n : Int) < (st.vars.length : Int) := by omega
  have nb : w.heap.size ≠ b1 := by have := h.hi; omega
  have nr : br ≠ b1 := h.apart.1
  have s0 : (w.alloc (.cells #[.int .i64 5, .int .i64 (n : Int), .int .i64 so, .int .i64 ek, .int .i64 ex, .slice pa pl pc, .slice aa al ac, .slice ta tl tc, .slice ea el ec] 71)).cell? ⟨w.heap.size, 0, none⟩ = some (.int .i64 5) := by simp [go_sem]
  have s1 : (w.alloc (.cells #[.int .i64 5, .int .i64 (n : Int), .int .i64 so, .int .i64 ek, .int .i64 ex, .slice pa pl pc, .slice aa al ac, .slice ta tl tc, .slice ea el ec] 71)).cell? ⟨w.heap.size, 1, none⟩ = some (.int .i64 (n : Int)) := by simp [go_sem]
  have s2 : (w.alloc (.cells #[.int .i64 5, .int .i64 (n : Int), .int .i64 so, .int .i64 ek, .int .i64 ex, .slice pa pl pc, .slice aa al ac, .slice ta tl tc, .slice ea el ec] 71)).cell? ⟨w.heap.size, 2, none⟩ = some (.int .i64 so) := by simp [go_sem]
  have s3 : (w.alloc (.cells #[.int .i64 5, .int .i64 (n : Int), .int .i64 so, .int .i64 ek, .int .i64 ex, .slice pa pl pc, .slice aa al ac, .slice ta tl tc, .slice ea el ec] 71)).cell? ⟨w.heap.size, 3, none⟩ = some (.int .i64 ek) := by simp [go_sem]
  have s4 : (w.alloc (.cells #[.int .i64 5, .int .i64 (n : Int), .int .i64 so, .int .i64 ek, .int .i64 ex, .slice pa pl pc, .slice aa al ac, .slice ta tl tc, .slice ea el ec] 71)).cell? ⟨w.heap.size, 4, none⟩ = some (.int .i64 ex) := by simp [go_sem]
  have s5 : (w.alloc (.cells #[.int .i64 5, .int .i64 (n : Int), .int .i64 so, .int .i64 ek, .int .i64 ex, .slice pa pl pc, .slice aa al ac, .slice ta tl tc, .slice ea el ec] 71)).cell? ⟨w.heap.size, 5, none⟩ = some (.slice pa pl pc) := by simp [go_sem]
  have s6 : (w.alloc (.cells #[.int .i64 5, .int .i64 (n : Int), .int .i64 so, .int .i64 ek, .int .i64 ex, .slice pa pl pc, .slice aa al ac, .slice ta tl tc, .slice ea el ec] 71)).cell? ⟨w.heap.size, 6, none⟩ = some (.slice aa al ac) := by simp [go_sem]
  have s7 : (w.alloc (.cells #[.int .i64 5, .int .i64 (n : Int), .int .i64 so, .int .i64 ek, .int .i64 ex, .slice pa pl pc, .slice aa al ac, .slice ta tl tc, .slice ea el ec] 71)).cell? ⟨w.heap.size, 7, none⟩ = some (.slice ta tl tc) := by simp [go_sem]
  have s8 : (w.alloc (.cells #[.int .i64 5, .int .i64 (n : Int), .int .i64 so, .int .i64 ek, .int .i64 ex, .slice pa pl pc, .slice aa al ac, .slice ta tl tc, .slice ea el ec] 71)).cell? ⟨w.heap.size, 8, none⟩ = some (.slice ea el ec) := by simp [go_sem]
  obtain ⟨vl, hvl⟩ : ∃ q, q = st.vars.length := ⟨_, rfl⟩
  obtain ⟨vx, hvx⟩ : ∃ q, q = valX st.vars K d := ⟨_, rfl⟩
  have hvw : ∀ W, Below (w.alloc (.cells #[.int .i64 5, .int .i64 (n : Int), .int .i64 so, .int .i64 ek, .int .i64 ex, .slice pa pl pc, .slice aa al ac, .slice ta tl tc, .slice ea el ec] 71)).drew.heap.size (w.alloc (.cells #[.int .i64 5, .int .i64 (n : Int), .int .i64 so, .int .i64 ek, .int .i64 ex, .slice pa pl pc, .slice aa al ac, .slice ta tl tc, .slice ea el ec] 71)).drew W → W.cell? ⟨b1, n, none⟩ = some (.int .i64 st.vars[n]) ∧ W.frozen? ⟨b1, n, none⟩ = false ∧ b1 < W.heap.size := fun W hW => ⟨(h'.over hW).vars n _ (by simp [hn]), (h'.over hW).z1 n, (h'.over hW).hi.2.1⟩
  obtain ⟨y, hy⟩ : ∃ y, y = st.vars[n] := ⟨_, rfl⟩
  rw [← hy] at hvw
  have HVW := hide hvw
  have HKK : Hid (∀ W ev' w3, RnG B [.int .i64 m, .slice ga gn gc, .slice sa sn sc, .slice ya yn yc, .slice oa on oc, .slice va vn vc, .slice fa fn fc, .slice ba bn bc, .slice xa xn xc, .int .i64 (F : Int), .slice (some ⟨b3, 0, none⟩) fln c3] br b1 b2 b3 fl en ((st.setv (n : Int) (valX st.vars K d)).tell (2, a, (n : Int), valX st.vars K d)) ev' W → Fr br b1 b2 ev ev' (World.drew w3) W → w3.cell? ⟨w.heap.size, 1, none⟩ = some (.int .i64 (n : Int)) → (W.cell? ⟨b1, n, none⟩ = some (.int .i64 (valX st.vars K d)) ∧ W.cell? ⟨br, 1, none⟩ = some (.slice (some ⟨b1, 0, none⟩) st.vars.length st.vars.length) ∧ W.cell? ⟨w.heap.size, 1, none⟩ = some (.int .i64 (n : Int)))) := fun W ev' w3 hr hf ht => by
    refine ⟨hr.vars n _ (by simp [RSt.tell, RSt.setv, hn]), ?_, H0.out.box hf (Nat.le_refl _) ht⟩
    have r1 := hr.row 1 _ rfl
    have e2 : ((st.setv (n : Int) (valX st.vars K d)).tell (2, a, (n : Int), valX st.vars K d)).vars.length = st.vars.length := hvs
    rw [e2] at r1
    exact r1
  rw [← hvl] at c1 hnv HR HKK
  rw [← hvx] at KV HR KT HKK ⊢
  clear h h' hx ho hi hvl hvx hvw hy hn hm hl hvs
  go_enter Try.func32, Try.ntmps32
  go_wp2_with fail
  go_region_held3 (fun W => W.cell? ⟨br, 1, none⟩ = some (.slice (some ⟨b1, 0, none⟩) vl vl) ∧ W.cell? ⟨w.heap.size, 1, none⟩ = some (.int .i64 (n : Int)) ∧ W.cell? ⟨w.heap.size, 3, none⟩ = some (.int .i64 ek) ∧ W.cell? ⟨w.heap.size, 4, none⟩ = some (.int .i64 ex) ∧ W.cell? ⟨w.heap.size, 5, none⟩ = some (.slice pa pl pc)) (first | assumption | exact ⟨c1, s1, s3, s4, s5⟩ | exact keep5b (by assumption) hbp | exact keep5g (by assumption) (grow_set (n := 0)) nr nb | fail) (first | (go_at_call 46; refine (KV.out).mono ?_; rintro e wp ⟨rfl, hbp⟩; obtain ⟨u0, uz, ul⟩ := HVW.out _ hbp))
  obtain ⟨h1, h2, h3, h4⟩ := HR.out _ hbp
  have hs5 := (by assumption : _ ∧ _ ∧ _ ∧ _ ∧ _)
  have t1 := hs5.2.1
  have H1 := hide h1
  have H2 := hide h2
  clear h1 h2 hs5 u0 uz
  obtain ⟨w3, hw3⟩ : ∃ q, q = wp.setCell ⟨b1, n, none⟩ (.int .i64 vx) := ⟨_, rfl⟩
  simp only [← hw3] at h3 h4 t1 H1 H2 ⊢
  clear hw3
  have KK : Hid (∀ W ev', RnG B [.int .i64 m, .slice ga gn gc, .slice sa sn sc, .slice ya yn yc, .slice oa on oc, .slice va vn vc, .slice fa fn fc, .slice ba bn bc, .slice xa xn xc, .int .i64 (F : Int), .slice (some ⟨b3, 0, none⟩) fln c3] br b1 b2 b3 fl en ((st.setv (n : Int) vx).tell (2, a, (n : Int), vx)) ev' W → Fr br b1 b2 ev ev' w3.drew W → (W.cell? ⟨b1, n, none⟩ = some (.int .i64 vx) ∧ W.cell? ⟨br, 1, none⟩ = some (.slice (some ⟨b1, 0, none⟩) vl vl) ∧ W.cell? ⟨w.heap.size, 1, none⟩ = some (.int .i64 (n : Int)))) := fun W ev' hr hf => HKK.out W ev' w3 hr hf t1
  go_wp2_with fail
  go_region_held3 (fun W => W.cell? ⟨b1, n, none⟩ = some (.int .i64 vx) ∧ W.cell? ⟨br, 1, none⟩ = some (.slice (some ⟨b1, 0, none⟩) vl vl) ∧ W.cell? ⟨w.heap.size, 1, none⟩ = some (.int .i64 (n : Int))) (first | assumption | exact ⟨h3, h4, t1⟩ | exact KK.out _ _ hrt hft | fail) (first | (go_at_call 49; refine (KT.out _ (by first | exact H1.out | exact H1.out.drewN 1)).mono ?_; rintro e wt ⟨rfl, ev', hrt, hft⟩))
  go_wp2_with fail
  go_ret
  exact ⟨rfl, ev', hrt, H2.out.trans (Fr.drewN 1 hft)⟩

set_option maxHeartbeats 2000000 in
set_option maxRecDepth 100000 in
theorem stmtR6 (m : Int) (ga : Option Addr) (gn gc : Nat) (sa : Option Addr) (sn sc : Nat) (ya : Option Addr) (yn yc : Nat) (oa : Option Addr) (on oc : Nat) (va : Option Addr) (vn vc : Nat) (fa : Option Addr) (fn fc : Nat) (ba : Option Addr) (bn bc : Nat) (xa : Option Addr) (xn xc : Nat) (F fln c3 : Nat) (B br b1 b2 b3 : Nat) (fl : List Int) (en : Int) (st : RSt) (ev : Value) (K : Nat) (d : D) (n : Nat) (so ek ex : Int) (pa : Option Addr) (pl pc : Nat) (aa : Option Addr) (al ac : Nat) (ta : Option Addr) (tl tc : Nat) (ea : Option Addr) (el ec : Nat) (a : Int) (w : World) (h : RnG B [.int .i64 m, .slice ga gn gc, .slice sa sn sc, .slice ya yn yc, .slice oa on oc, .slice va vn vc, .slice fa fn fc, .slice ba bn bc, .slice xa xn xc, .int .i64 (F : Int), .slice (some ⟨b3, 0, none⟩) fln c3] br b1 b2 b3 fl en st ev w) (hx : RX w K [.int .i64 ek, .int .i64 ex, .slice pa pl pc] d) (ho : okX st.vars.length K d) (hi : ∀ x ∈ st.vars, I32 x) (hn : n < st.vars.length) (hm : st.vars.length ≤ 16) (hl : st.ev.length ≤ 2000) :
    Calls Try.prog 32 #[.pointer (some ⟨br, 0, none⟩), .agg #[.int .i64 6, .int .i64 (n : Int), .int .i64 so, .int .i64 ek, .int .i64 ex, .slice pa pl pc, .slice aa al ac, .slice ta tl tc, .slice ea el ec], .int .i64 a] w fun e w' => e = .returned (.bool true) ∧ ∃ ev', RnG B [.int .i64 m, .slice ga gn gc, .slice sa sn sc, .slice ya yn yc, .slice oa on oc, .slice va vn vc, .slice fa fn fc, .slice ba bn bc, .slice xa xn xc, .int .i64 (F : Int), .slice (some ⟨b3, 0, none⟩) fln c3] br b1 b2 b3 fl en ((st.setv (n : Int) (valX st.vars K d)).tell (3, a, (n : Int), valX st.vars K d)) ev' w' ∧ Fr br b1 b2 ev ev' w w' := by
  have hbel : Below w.heap.size w (w.alloc (.cells #[.int .i64 6, .int .i64 (n : Int), .int .i64 so, .int .i64 ek, .int .i64 ex, .slice pa pl pc, .slice aa al ac, .slice ta tl tc, .slice ea el ec] 71)) := (Below.refl _ w).alloc (Nat.le_refl _) _
  have h' := (h.over hbel).drewN 1
  have KV := hide (valueR_any m ga gn gc sa sn sc ya yn yc oa on oc va vn vc fa fn fc ba bn bc xa xn xc F fln c3 B br b1 b2 b3 fl en st ev K _ d (w.alloc (.cells #[.int .i64 6, .int .i64 (n : Int), .int .i64 so, .int .i64 ek, .int .i64 ex, .slice pa pl pc, .slice aa al ac, .slice ta tl tc, .slice ea el ec] 71)).drew h' (hx.over hbel.drew) ho hi)
  have KT := hide fun W (hW : RnG B [.int .i64 m, .slice ga gn gc, .slice sa sn sc, .slice ya yn yc, .slice oa on oc, .slice va vn vc, .slice fa fn fc, .slice ba bn bc, .slice xa xn xc, .int .i64 (F : Int), .slice (some ⟨b3, 0, none⟩) fln c3] br b1 b2 b3 fl en (st.setv (n : Int) (valX st.vars K d)) ev W) => tellR_any m ga gn gc sa sn sc ya yn yc oa on oc va vn vc fa fn fc ba bn bc xa xn xc F fln c3 B br b1 b2 b3 fl en (st.setv (n : Int) (valX st.vars K d)) ev 3 a (n : Int) (valX st.vars K d) W hW hl
  have hvs : (st.setv (n : Int) (valX st.vars K d)).vars.length = st.vars.length := by simp [RSt.setv]
  have HR : Hid (∀ W, Below (w.alloc (.cells #[.int .i64 6, .int .i64 (n : Int), .int .i64 so, .int .i64 ek, .int .i64 ex, .slice pa pl pc, .slice aa al ac, .slice ta tl tc, .slice ea el ec] 71)).drew.heap.size (w.alloc (.cells #[.int .i64 6, .int .i64 (n : Int), .int .i64 so, .int .i64 ek, .int .i64 ex, .slice pa pl pc, .slice aa al ac, .slice ta tl tc, .slice ea el ec] 71)).drew W → RnG B [.int .i64 m, .slice ga gn gc, .slice sa sn sc, .slice ya yn yc, .slice oa on oc, .slice va vn vc, .slice fa fn fc, .slice ba bn bc, .slice xa xn xc, .int .i64 (F : Int), .slice (some ⟨b3, 0, none⟩) fln c3] br b1 b2 b3 fl en (st.setv (n : Int) (valX st.vars K d)) ev (W.setCell ⟨b1, n, none⟩ (.int .i64 (valX st.vars K d))) ∧ Fr br b1 b2 ev ev w (W.setCell ⟨b1, n, none⟩ (.int .i64 (valX st.vars K d))) ∧ (W.setCell ⟨b1, n, none⟩ (.int .i64 (valX st.vars K d))).cell? ⟨b1, n, none⟩ = some (.int .i64 (valX st.vars K d)) ∧ (W.setCell ⟨b1, n, none⟩ (.int .i64 (valX st.vars K d))).cell? ⟨br, 1, none⟩ = some (.slice (some ⟨b1, 0, none⟩) st.vars.length st.vars.length)) := fun W hW => by
    have r := (h'.over hW).setVar (n : Int) (valX st.vars K d) (by simpa using hn)
    rw [Int.toNat_natCast] at r
    refine ⟨r, (Fr.of_below hbel.drew).trans ((Fr.of_below hW).trans (fr_set1 (h'.over hW) _ _)), r.vars n _ (by simp [RSt.setv, hn]), ?_⟩
    have r1 := r.row 1 _ rfl
    rw [hvs] at r1
    exact r1
  have H0 := hide h
  have c1 := h'.row 1 _ rfl
  have hnv : (n : Int) < (st.vars.length : Int) := by omega
  have nb : w.heap.size ≠ b1 := by have := h.hi; omega
  have nr : br ≠ b1 := h.apart.1
  have s0 : (w.alloc (.cells #[.int .i64 6, .int .i64 (n : Int), .int .i64 so, .int .i64 ek, .int .i64 ex, .slice pa pl pc, .slice aa al ac, .slice ta tl tc, .slice ea el ec] 71)).cell? ⟨w.heap.size, 0, none⟩ = some (.int .i64 6) := by simp [go_sem]
  have s1 : (w.alloc (.cells #[.int .i64 6, .int .i64 (n : Int), .int .i64 so, .int .i64 ek, .int .i64 ex, .slice pa pl pc, .slice aa al ac, .slice ta tl tc, .slice ea el ec] 71)).cell? ⟨w.heap.size, 1, none⟩ = some (.int .i64 (n : Int)) := by simp [go_sem]
  have s2 : (w.alloc (.cells #[.int .i64 6, .int .i64 (n : Int), .int .i64 so, .int .i64 ek, .int .i64 ex, .slice pa pl pc, .slice aa al ac, .slice ta tl tc, .slice ea el ec] 71)).cell? ⟨w.heap.size, 2, none⟩ = some (.int .i64 so) := by simp [go_sem]
  have s3 : (w.alloc (.cells #[.int .i64 6, .int .i64 (n : Int), .int .i64 so, .int .i64 ek, .int .i64 ex, .slice pa pl pc, .slice aa al ac, .slice ta tl tc, .slice ea el ec] 71)).cell? ⟨w.heap.size, 3, none⟩ = some (.int .i64 ek) := by simp [go_sem]
  have s4 : (w.alloc (.cells #[.int .i64 6, .int .i64 (n : Int), .int .i64 so, .int .i64 ek, .int .i64 ex, .slice pa pl pc, .slice aa al ac, .slice ta tl tc, .slice ea el ec] 71)).cell? ⟨w.heap.size, 4, none⟩ = some (.int .i64 ex) := by simp [go_sem]
  have s5 : (w.alloc (.cells #[.int .i64 6, .int .i64 (n : Int), .int .i64 so, .int .i64 ek, .int .i64 ex, .slice pa pl pc, .slice aa al ac, .slice ta tl tc, .slice ea el ec] 71)).cell? ⟨w.heap.size, 5, none⟩ = some (.slice pa pl pc) := by simp [go_sem]
  have s6 : (w.alloc (.cells #[.int .i64 6, .int .i64 (n : Int), .int .i64 so, .int .i64 ek, .int .i64 ex, .slice pa pl pc, .slice aa al ac, .slice ta tl tc, .slice ea el ec] 71)).cell? ⟨w.heap.size, 6, none⟩ = some (.slice aa al ac) := by simp [go_sem]
  have s7 : (w.alloc (.cells #[.int .i64 6, .int .i64 (n : Int), .int .i64 so, .int .i64 ek, .int .i64 ex, .slice pa pl pc, .slice aa al ac, .slice ta tl tc, .slice ea el ec] 71)).cell? ⟨w.heap.size, 7, none⟩ = some (.slice ta tl tc) := by simp [go_sem]
  have s8 : (w.alloc (.cells #[.int .i64 6, .int .i64 (n : Int), .int .i64 so, .int .i64 ek, .int .i64 ex, .slice pa pl pc, .slice aa al ac, .slice ta tl tc, .slice ea el ec] 71)).cell? ⟨w.heap.size, 8, none⟩ = some (.slice ea el ec) := by simp [go_sem]
  obtain ⟨vl, hvl⟩ : ∃ q, q = st.vars.length := ⟨_, rfl⟩
  obtain ⟨vx, hvx⟩ : ∃ q, q = valX st.vars K d := ⟨_, rfl⟩
  have hvw : ∀ W, Below (w.alloc (.cells #[.int .i64 6, .int .i64 (n : Int), .int .i64 so, .int .i64 ek, .int .i64 ex, .slice pa pl pc, .slice aa al ac, .slice ta tl tc, .slice ea el ec] 71)).drew.heap.size (w.alloc (.cells #[.int .i64 6, .int .i64 (n : Int), .int .i64 so, .int .i64 ek, .int .i64 ex, .slice pa pl pc, .slice aa al ac, .slice ta tl tc, .slice ea el ec] 71)).drew W → W.cell? ⟨b1, n, none⟩ = some (.int .i64 st.vars[n]) ∧ W.frozen? ⟨b1, n, none⟩ = false ∧ b1 < W.heap.size := fun W hW => ⟨(h'.over hW).vars n _ (by simp [hn]), (h'.over hW).z1 n, (h'.over hW).hi.2.1⟩
  obtain ⟨y, hy⟩ : ∃ y, y = st.vars[n] := ⟨_, rfl⟩
  rw [← hy] at hvw
  have HVW := hide hvw
  have HKK : Hid (∀ W ev' w3, RnG B [.int .i64 m, .slice ga gn gc, .slice sa sn sc, .slice ya yn yc, .slice oa on oc, .slice va vn vc, .slice fa fn fc, .slice ba bn bc, .slice xa xn xc, .int .i64 (F : Int), .slice (some ⟨b3, 0, none⟩) fln c3] br b1 b2 b3 fl en ((st.setv (n : Int) (valX st.vars K d)).tell (3, a, (n : Int), valX st.vars K d)) ev' W → Fr br b1 b2 ev ev' (World.drew w3) W → w3.cell? ⟨w.heap.size, 1, none⟩ = some (.int .i64 (n : Int)) → (W.cell? ⟨b1, n, none⟩ = some (.int .i64 (valX st.vars K d)) ∧ W.cell? ⟨br, 1, none⟩ = some (.slice (some ⟨b1, 0, none⟩) st.vars.length st.vars.length) ∧ W.cell? ⟨w.heap.size, 1, none⟩ = some (.int .i64 (n : Int)))) := fun W ev' w3 hr hf ht => by
    refine ⟨hr.vars n _ (by simp [RSt.tell, RSt.setv, hn]), ?_, H0.out.box hf (Nat.le_refl _) ht⟩
    have r1 := hr.row 1 _ rfl
    have e2 : ((st.setv (n : Int) (valX st.vars K d)).tell (3, a, (n : Int), valX st.vars K d)).vars.length = st.vars.length := hvs
    rw [e2] at r1
    exact r1
  rw [← hvl] at c1 hnv HR HKK
  rw [← hvx] at KV HR KT HKK ⊢
  clear h h' hx ho hi hvl hvx hvw hy hn hm hl hvs
  go_enter Try.func32, Try.ntmps32
  go_wp2_with fail
  go_region_held3 (fun W => W.cell? ⟨br, 1, none⟩ = some (.slice (some ⟨b1, 0, none⟩) vl vl) ∧ W.cell? ⟨w.heap.size, 1, none⟩ = some (.int .i64 (n : Int)) ∧ W.cell? ⟨w.heap.size, 3, none⟩ = some (.int .i64 ek) ∧ W.cell? ⟨w.heap.size, 4, none⟩ = some (.int .i64 ex) ∧ W.cell? ⟨w.heap.size, 5, none⟩ = some (.slice pa pl pc)) (first | assumption | exact ⟨c1, s1, s3, s4, s5⟩ | exact keep5b (by assumption) hbp | exact keep5g (by assumption) (grow_set (n := 0)) nr nb | fail) (first | (go_at_call 46; refine (KV.out).mono ?_; rintro e wp ⟨rfl, hbp⟩; obtain ⟨u0, uz, ul⟩ := HVW.out _ hbp))
  obtain ⟨h1, h2, h3, h4⟩ := HR.out _ hbp
  have hs5 := (by assumption : _ ∧ _ ∧ _ ∧ _ ∧ _)
  have t1 := hs5.2.1
  have H1 := hide h1
  have H2 := hide h2
  clear h1 h2 hs5 u0 uz
  obtain ⟨w3, hw3⟩ : ∃ q, q = wp.setCell ⟨b1, n, none⟩ (.int .i64 vx) := ⟨_, rfl⟩
  simp only [← hw3] at h3 h4 t1 H1 H2 ⊢
  clear hw3
  have KK : Hid (∀ W ev', RnG B [.int .i64 m, .slice ga gn gc, .slice sa sn sc, .slice ya yn yc, .slice oa on oc, .slice va vn vc, .slice fa fn fc, .slice ba bn bc, .slice xa xn xc, .int .i64 (F : Int), .slice (some ⟨b3, 0, none⟩) fln c3] br b1 b2 b3 fl en ((st.setv (n : Int) vx).tell (3, a, (n : Int), vx)) ev' W → Fr br b1 b2 ev ev' w3.drew W → (W.cell? ⟨b1, n, none⟩ = some (.int .i64 vx) ∧ W.cell? ⟨br, 1, none⟩ = some (.slice (some ⟨b1, 0, none⟩) vl vl) ∧ W.cell? ⟨w.heap.size, 1, none⟩ = some (.int .i64 (n : Int)))) := fun W ev' hr hf => HKK.out W ev' w3 hr hf t1
  go_wp2_with fail
  go_region_held3 (fun W => W.cell? ⟨b1, n, none⟩ = some (.int .i64 vx) ∧ W.cell? ⟨br, 1, none⟩ = some (.slice (some ⟨b1, 0, none⟩) vl vl) ∧ W.cell? ⟨w.heap.size, 1, none⟩ = some (.int .i64 (n : Int))) (first | assumption | exact ⟨h3, h4, t1⟩ | exact KK.out _ _ hrt hft | fail) (first | (go_at_call 49; refine (KT.out _ (by first | exact H1.out | exact H1.out.drewN 1)).mono ?_; rintro e wt ⟨rfl, ev', hrt, hft⟩))
  go_wp2_with fail
  go_ret
  exact ⟨rfl, ev', hrt, H2.out.trans (Fr.drewN 1 hft)⟩
end Go.Proofs.Ytpbnmmgocpobcaa.Ex
