/- What is done where a level must flow: does it? -/
import Derived.Test.YtcbbjjenkommeaaM24
namespace Go.Proofs.Ytcbbjjenkommeaa.Ex
open Go.RowKit
set_option linter.unusedVariables false
theorem callFit (args : Array Value) (w : World) : (callFunc 55 args).run Try.prog w = .ok (.enter 55 args) w := by simp [go_sem]
/-- the one block that turns while levels are tried. -/
def XF (bm : Nat) : World → Nat → Prop := fun _ k => k = bm
theorem xfOk (bm : Nat) : XOk (XF bm) := ⟨fun _ _ _ _ h => h⟩
structure FitI (c : WC) (w0 : World) (L : ISt) (nv nf bw bm : Nat) (b : Bool) (W : World) : Prop where
  below : Below w0.heap.size w0 W
  vs : IsLevsO c.n (XF bm) W (.slice c.la c.ln c.lc) L.vs
  fs : IsLevsO c.n (XF bm) W (.slice c.ka c.kn c.kc) L.fs
  lv : L.vs.length = nv
  lf : L.fs.length = nf
  more : W.cell? ⟨bm, 0, none⟩ = some (.bool b)
  mz : W.frozen? ⟨bm, 0, none⟩ = false
  row : RowAt c.cs W bw
theorem FitI.over {c : WC} {w0 : World} {L : ISt} {nv nf bw bm : Nat} {b : Bool} {W W' : World} (h : FitI c w0 L nv nf bw bm b W) (hb : Below W.heap.size W W') : FitI c w0 L nv nf bw bm b W' :=
  ⟨over_trans h.below hb, h.vs.over (xfOk bm) hb, h.fs.over (xfOk bm) hb, h.lv, h.lf, cell_over hb _ _ h.more, ((bcell hb).2 _ _ (World.block_lt_of_cell? W _ h.more)).trans h.mz, h.row.over hb⟩
theorem winvF {c : WC} {w0 : World} {nv bw bm : Nat} {fs : List FnD} {gs : List (Int × Int)} (L : ISt) (n1 : 1 ≤ c.n) (n6 : c.n ≤ 6) (gr : IsGrants w0 (.slice c.ga c.gn c.gc) gs) (chk : chkErr c.n gs = 0) (nv16 : nv ≤ 16) : WInv c w0 nv fs gs (fun _ : Bool => L.vs) (fun _ => L.fs) (FitI c w0 L nv fs.length bw bm) (XF bm) :=
  ⟨n1, n6, gr, chk, nv16, fun st W h => h.below, fun st W h => ⟨h.vs, h.lv⟩, fun st W h => ⟨h.fs, h.lf⟩, fun st W W' h hb => h.over hb, xfOk bm, fun st W h k hx => by unfold XF at hx; subst hx; exact World.block_lt_of_cell? W _ h.more⟩
theorem FitI.lev {c : WC} {w0 : World} {L : ISt} {nv nf bw bm b off : Nat} {f : Bool} {W : World} {i : Bool × Nat} (h : FitI c w0 L nv nf bw bm f W) (hib : (if i.1 = true then c.la else c.ka) = some ⟨b, off, none⟩) (h1 : i.1 = true → i.2 < nv) (h2 : i.1 = false → i.2 < nf) :
    ∃ rv wv, W.cell? ⟨b, off + i.2 * 2, none⟩ = some rv ∧ W.cell? ⟨b, off + i.2 * 2 + 1, none⟩ = some wv ∧ LevO c.n (XF bm) W (.agg #[rv, wv]) (L.at i) := by
  unfold ISt.at
  by_cases hi : i.1 = true
  · rw [if_pos hi] at hib ⊢
    have hlt := h1 hi
    obtain ⟨ao, cap, hv, hel⟩ := h.vs
    injection hv with v1 v2 v3
    obtain ⟨b', o', hb', hel⟩ := hel (by intro e; have := h.lv; rw [e] at this; simp at this; omega)
    rw [← v1, hib] at hb'
    injection hb' with hb'
    injection hb' with hb1 hb2
    subst hb1 hb2
    have hlt2 : i.2 < L.vs.length := by have := h.lv; omega
    obtain ⟨rv, wv, c0, c1, hl⟩ := hel i.2 hlt2
    refine ⟨rv, wv, c0, c1, ?_⟩
    have e : L.vs.getD i.2 noLev = L.vs[i.2] := by simp [List.getD_eq_getElem?_getD, hlt2]
    rw [e]
    exact hl
  · rw [if_neg hi] at hib ⊢
    have hlt := h2 (by simpa using hi)
    obtain ⟨ao, cap, hv, hel⟩ := h.fs
    injection hv with v1 v2 v3
    obtain ⟨b', o', hb', hel⟩ := hel (by intro e; have := h.lf; rw [e] at this; simp at this; omega)
    rw [← v1, hib] at hb'
    injection hb' with hb'
    injection hb' with hb1 hb2
    subst hb1 hb2
    have hlt2 : i.2 < L.fs.length := by have := h.lf; omega
    obtain ⟨rv, wv, c0, c1, hl⟩ := hel i.2 hlt2
    refine ⟨rv, wv, c0, c1, ?_⟩
    have e : L.fs.getD i.2 noLev = L.fs[i.2] := by simp [List.getD_eq_getElem?_getD, hlt2]
    rw [e]
    exact hl
theorem IsLevsO.keep' {n : Nat} {X : World → Nat → Prop} {W W3 : World} {v : Value} {Ls : List Lev} (n1 : 1 ≤ n) (h : IsLevsO n X W v Ls) (hF : FrW X W W3) (hc : Ls ≠ [] → ∀ b o ln cp, v = .slice (some ⟨b, o, none⟩) ln cp → ∀ j u, W.cell? ⟨b, j, none⟩ = some u → W3.cell? ⟨b, j, none⟩ = some u) : IsLevsO n X W3 v Ls := by
  by_cases hne : Ls = []
  · subst hne
    obtain ⟨ao, cap, hv, -⟩ := h
    exact ⟨ao, cap, hv, fun h => absurd rfl h⟩
  · exact h.keep n1 hF (hc hne)
/-- something else is said of whether they fit. -/
theorem FitI.setM {c : WC} {w0 : World} {L : ISt} {nv nf bw bm : Nat} {f f' : Bool} {W : World} (n1 : 1 ≤ c.n) (hm : w0.heap.size ≤ bm) (hw : bw ≠ bm) (hlk : (L.vs ≠ [] → ∀ a, c.la = some a → a.block ≠ bm) ∧ (L.fs ≠ [] → ∀ a, c.ka = some a → a.block ≠ bm)) (h : FitI c w0 L nv nf bw bm f W) : FitI c w0 L nv nf bw bm f' (W.setCell ⟨bm, 0, none⟩ (.bool f')) ∧ FrW (XF bm) W (W.setCell ⟨bm, 0, none⟩ (.bool f')) := by
  have hsz : (W.setCell ⟨bm, 0, none⟩ (.bool f')).heap.size = W.heap.size := by simp [World.setCell]
  have hblk : ∀ k, k ≠ bm → (W.setCell ⟨bm, 0, none⟩ (.bool f')).heap[k]? = W.heap[k]? := fun k hk => heap_set_other (Ne.symm hk) _
  have hF : FrW (XF bm) W (W.setCell ⟨bm, 0, none⟩ (.bool f')) := ⟨rfl, rfl, rfl, by omega, fun k _ hx => hblk k hx, fun k _ hx => hx⟩
  have cne : ∀ b' o' u, b' ≠ bm → W.cell? ⟨b', o', none⟩ = some u → (W.setCell ⟨bm, 0, none⟩ (.bool f')).cell? ⟨b', o', none⟩ = some u := fun b' o' u hm hc => (World.cell?_of_block (a := ⟨b', o', none⟩) (hblk b' hm)).trans hc
  refine ⟨⟨h.below.setCell (p := ⟨bm, 0, none⟩) hm _, h.vs.keep' n1 hF (fun hne b' o' ln cp hv j u hc => ?_), h.fs.keep' n1 hF (fun hne b' o' ln cp hv j u hc => ?_), h.lv, h.lf, World.cell?_setCell_same _ _ _ h.more, ?_, fun j u hu => cne _ _ _ hw (h.row j u hu)⟩, hF⟩
  · injection hv with v1
    exact cne _ _ _ (hlk.1 hne ⟨b', o', none⟩ v1) hc
  · injection hv with v1
    exact cne _ _ _ (hlk.2 hne ⟨b', o', none⟩ v1) hc
  · have := h.mz
    simpa [go_sem] using this

set_option maxHeartbeats 4000000 in
set_option maxRecDepth 100000 in
theorem flowFit (c : WC) (w0 : World) (L : ISt) (nv bw bm : Nat) (fs : List FnD) (gs : List (Int × Int)) (n1 : 1 ≤ c.n) (gr : IsGrants w0 (.slice c.ga c.gn c.gc) gs) (chk : chkErr c.n gs = 0) (hm : w0.heap.size ≤ bm) (hw : bw ≠ bm) (hlk : (L.vs ≠ [] → ∀ a, c.la = some a → a.block ≠ bm) ∧ (L.fs ≠ [] → ∀ a, c.ka = some a → a.block ≠ bm)) :
    FlowOk c nv fs (FitI c w0 L nv fs.length bw bm) (XF bm) (flowB c.n L) 55 (.pointer (some ⟨bm, 0, none⟩)) (.pointer (some ⟨bw, 0, none⟩)) := by
  intro st W v l i b off hI hl hi1 hi2 hib
  obtain ⟨rv, wv, c0, c1, hlv⟩ := FitI.lev hI hib hi1 hi2
  obtain ⟨p1, q1, r1, p2, q2, r2, rfl⟩ := hl.form
  obtain ⟨m1, m2, m3, m4, m5, m6, hform⟩ := hlv.form
  simp at hform
  obtain ⟨rfl, rfl⟩ := hform
  obtain ⟨o, ho⟩ : ∃ o, o = off + i.2 * 2 := ⟨_, rfl⟩
  rw [← ho] at c0 c1 ⊢
  have hbb : b ≠ bm := by
    by_cases hi : i.1 = true
    · rw [if_pos hi] at hib
      exact hlk.1 (by intro e; have h1 := hi1 hi; have h2 := hI.lv; rw [e] at h2; simp at h2; omega) ⟨b, off, none⟩ hib
    · rw [if_neg hi] at hib
      exact hlk.2 (by intro e; have h1 := hi2 (by simpa using hi); have h2 := hI.lf; rw [e] at h2; simp at h2; omega) ⟨b, off, none⟩ hib
  have hba : Below W.heap.size W (W.alloc (.cells #[.slice p1 q1 r1, .slice p2 q2 r2] 62)) := (Below.refl _ W).alloc (Nat.le_refl _) _
  have hI1 := hI.over hba
  have hl1 := hl.over (xfOk bm) hba
  have hlv1 := hlv.over (xfOk bm) hba
  have l0 := cell_over hba _ _ c0
  have l1 := cell_over hba _ _ c1
  have rowB := RowAt.new [.slice p1 q1 r1, .slice p2 q2 r2] 62 W
  have hgr := isGrants_over gr hI1.below
  have KF := hide fun (W2 : World) (hb2 : Below (W.alloc (.cells #[.slice p1 q1 r1, .slice p2 q2 r2] 62)).heap.size (W.alloc (.cells #[.slice p1 q1 r1, .slice p2 q2 r2] 62)) W2) => flowsW (c.n : Int) c.ga c.gn c.gc c.sa c.sn c.sc c.ya c.yn c.yc c.oa c.on c.oc c.va c.vn c.vc c.fa c.fn c.fc c.ba c.bn c.bc c.la c.ln c.lc c.ka c.kn c.kc gs (.slice p1 q1 r1) (.slice p2 q2 r2) (.slice m1 m2 m3) (.slice m4 m5 m6) l (L.at i) W2 (isGrants_over hgr hb2) (levAt_over hl1.at_ hb2) (levAt_over hlv1.at_ hb2) (lTwo_of chk hl1.len hlv1.len)
  simp only [Int.toNat_natCast] at KF
  obtain ⟨fb, hfb⟩ : ∃ q, q = flowsB l (L.at i) c.n := ⟨_, rfl⟩
  rw [← hfb] at KF
  have HFB := hide hfb
  have HI := hide hI1
  have HR := hide hI1.row
  have HRB := hide rowB
  have HF0 := hide (FrW.of_below (xfOk bm) hba)
  have HML := hide (World.block_lt_of_cell? _ _ hI1.more)
  have HMZ := hide hI1.mz
  have HMC := hide hI1.more
  have HBN := hide (Ne.symm hw)
  have HBN2 := hide (show bm ≠ W.heap.size from Nat.ne_of_lt (World.block_lt_of_cell? W _ hI.more))
  have HBN3 := hide (Ne.symm hbb)
  have HSET := hide fun (f' : Bool) (W2 : World) (hb2 : Below (W.alloc (.cells #[.slice p1 q1 r1, .slice p2 q2 r2] 62)).heap.size (W.alloc (.cells #[.slice p1 q1 r1, .slice p2 q2 r2] 62)) W2) => FitI.setM (f' := f') n1 hm hw hlk (hI1.over hb2)
  have m0 := hI1.more
  have mz := hI1.mz
  have t0 := hI1.row 0 _ rfl
  have t1 := hI1.row 1 _ rfl
  have t2 := hI1.row 2 _ rfl
  have t3 := hI1.row 3 _ rfl
  have t4 := hI1.row 4 _ rfl
  have t5 := hI1.row 5 _ rfl
  have t6 := hI1.row 6 _ rfl
  have t7 := hI1.row 7 _ rfl
  have t8 := hI1.row 8 _ rfl
  have t9 := hI1.row 9 _ rfl
  have b0 := rowB 0 _ rfl
  have b1 := rowB 1 _ rfl
  have hS0 : (W.alloc (.cells #[.slice p1 q1 r1, .slice p2 q2 r2] 62)).cell? ⟨bw, 0, none⟩ = some (.int .i64 (c.n : Int)) ∧ (W.alloc (.cells #[.slice p1 q1 r1, .slice p2 q2 r2] 62)).cell? ⟨bw, 1, none⟩ = some (.slice c.ga c.gn c.gc) ∧ (W.alloc (.cells #[.slice p1 q1 r1, .slice p2 q2 r2] 62)).cell? ⟨bw, 2, none⟩ = some (.slice c.sa c.sn c.sc) ∧ (W.alloc (.cells #[.slice p1 q1 r1, .slice p2 q2 r2] 62)).cell? ⟨bw, 3, none⟩ = some (.slice c.ya c.yn c.yc) ∧ (W.alloc (.cells #[.slice p1 q1 r1, .slice p2 q2 r2] 62)).cell? ⟨bw, 4, none⟩ = some (.slice c.oa c.on c.oc) ∧ (W.alloc (.cells #[.slice p1 q1 r1, .slice p2 q2 r2] 62)).cell? ⟨bw, 5, none⟩ = some (.slice c.va c.vn c.vc) ∧ (W.alloc (.cells #[.slice p1 q1 r1, .slice p2 q2 r2] 62)).cell? ⟨bw, 6, none⟩ = some (.slice c.fa c.fn c.fc) ∧ (W.alloc (.cells #[.slice p1 q1 r1, .slice p2 q2 r2] 62)).cell? ⟨bw, 7, none⟩ = some (.slice c.ba c.bn c.bc) ∧ (W.alloc (.cells #[.slice p1 q1 r1, .slice p2 q2 r2] 62)).cell? ⟨bw, 8, none⟩ = some (.slice c.la c.ln c.lc) ∧ (W.alloc (.cells #[.slice p1 q1 r1, .slice p2 q2 r2] 62)).cell? ⟨bw, 9, none⟩ = some (.slice c.ka c.kn c.kc) ∧ (W.alloc (.cells #[.slice p1 q1 r1, .slice p2 q2 r2] 62)).cell? ⟨W.heap.size, 0, none⟩ = some (.slice p1 q1 r1) ∧ (W.alloc (.cells #[.slice p1 q1 r1, .slice p2 q2 r2] 62)).cell? ⟨W.heap.size, 1, none⟩ = some (.slice p2 q2 r2) ∧ (W.alloc (.cells #[.slice p1 q1 r1, .slice p2 q2 r2] 62)).cell? ⟨b, o, none⟩ = some (.slice m1 m2 m3) ∧ (W.alloc (.cells #[.slice p1 q1 r1, .slice p2 q2 r2] 62)).cell? ⟨b, o + 1, none⟩ = some (.slice m4 m5 m6) := ⟨t0, t1, t2, t3, t4, t5, t6, t7, t8, t9, b0, b1, l0, l1⟩
  clear hI hl hlv hI1 hl1 hlv1 rowB hgr hfb hba c0 c1 hi1 hi2 gr chk hbb hib n1 ho hm hw hlk
  go_enter Try.func55, Try.ntmps55
  cases st with
  | false =>
    go_wp2_with fail
    clear hS0
    go_region
    have hfin := HSET.out false _ (Below.refl _ _)
    have HFIN := hide hfin
    go_wp2_with fail
    go_end0
    exact ⟨rfl, by unfold flowB; simpa using HFIN.out.1.over ((Below.refl _ _).drew), HF0.out.trans (HFIN.out.2.trans (FrW.of_below (xfOk bm) ((Below.refl _ _).drew)))⟩
  | true =>
    go_wp2_with fail
    refine wp_region_held_drew (S := fun Wz => Wz.cell? ⟨bw, 0, none⟩ = some (.int .i64 (c.n : Int)) ∧ Wz.cell? ⟨bw, 1, none⟩ = some (.slice c.ga c.gn c.gc) ∧ Wz.cell? ⟨bw, 2, none⟩ = some (.slice c.sa c.sn c.sc) ∧ Wz.cell? ⟨bw, 3, none⟩ = some (.slice c.ya c.yn c.yc) ∧ Wz.cell? ⟨bw, 4, none⟩ = some (.slice c.oa c.on c.oc) ∧ Wz.cell? ⟨bw, 5, none⟩ = some (.slice c.va c.vn c.vc) ∧ Wz.cell? ⟨bw, 6, none⟩ = some (.slice c.fa c.fn c.fc) ∧ Wz.cell? ⟨bw, 7, none⟩ = some (.slice c.ba c.bn c.bc) ∧ Wz.cell? ⟨bw, 8, none⟩ = some (.slice c.la c.ln c.lc) ∧ Wz.cell? ⟨bw, 9, none⟩ = some (.slice c.ka c.kn c.kc) ∧ Wz.cell? ⟨W.heap.size, 0, none⟩ = some (.slice p1 q1 r1) ∧ Wz.cell? ⟨W.heap.size, 1, none⟩ = some (.slice p2 q2 r2) ∧ Wz.cell? ⟨b, o, none⟩ = some (.slice m1 m2 m3) ∧ Wz.cell? ⟨b, o + 1, none⟩ = some (.slice m4 m5 m6)) (by kernel_rfl) (hS0) (fun hHeld => ?_)
    refine wpAnyH_ready (rs := [0]) (by kernel_rfl) (by simp) ?_
    refine AllReadyH.cons (o := ⟨some 6, .load 4 (.tmp 2), 4, "infer.go:49", #[], none⟩) rfl (fun K hK => ?_) AllReadyH.nil
    go_simp
    refine hK.out _ _ (hS0) (fun hHeld => ?_)
    clear hK K
    try simp only [aput]
    refine tk (i := 1) (oi := ⟨some 7, .move (.tmp 6), 4, "infer.go:49", #[⟨0, .data⟩], none⟩) (v := ?_) (Or.inl ⟨by rfl, ?_⟩) (by assumption) ?_
    rotate_left
    · intro w' hSw
      (try dsimp only at hSw)
      go_simp
      try with_reducible rfl
    try simp only [aput]
    refine tk (i := 2) (oi := ⟨some 8, .fieldAddr 88 (.tmp 3) 0, 0, "infer.go:49", #[⟨1, .guard⟩], some (1, true)⟩) (v := ?_) (Or.inl ⟨by rfl, ?_⟩) (by assumption) ?_
    rotate_left
    · intro w' hSw
      (try dsimp only at hSw)
      go_simp
      try with_reducible rfl
    try simp only [aput]
    refine tk (i := 3) (oi := ⟨some 9, .load 86 (.tmp 8), 86, "infer.go:49", #[⟨2, .data⟩, ⟨1, .guard⟩], some (1, true)⟩) (v := ?_) (Or.inl ⟨by rfl, ?_⟩) (by assumption) ?_
    rotate_left
    · intro w' hSw
      (try dsimp only at hSw)
      go_simp
      try with_reducible rfl
    try simp only [aput]
    refine tk (i := 4) (oi := ⟨some 10, .load 62 (.tmp 4), 62, "infer.go:49", #[⟨1, .guard⟩], some (1, true)⟩) (v := ?_) (Or.inl ⟨by rfl, ?_⟩) (by assumption) ?_
    rotate_left
    · intro w' hSw
      (try dsimp only at hSw)
      go_simp
      try with_reducible rfl
    try simp only [aput]
    refine tk (i := 5) (oi := ⟨some 11, .move (.tmp 1), 91, "infer.go:49", #[⟨1, .guard⟩], some (1, true)⟩) (v := ?_) (Or.inl ⟨by rfl, ?_⟩) (by assumption) ?_
    rotate_left
    · intro w' hSw
      (try dsimp only at hSw)
      go_simp
      try with_reducible rfl
    try simp only [aput]
    refine tk (i := 6) (oi := ⟨some 12, .nilCheck (.tmp 11), 0, "infer.go:49", #[⟨5, .data⟩, ⟨1, .guard⟩], some (1, true)⟩) (v := ?_) (Or.inl ⟨by rfl, ?_⟩) (by assumption) ?_
    rotate_left
    · intro w' hSw
      (try dsimp only at hSw)
      go_simp
      try with_reducible rfl
    try simp only [aput]
    refine tk (i := 7) (oi := ⟨some 13, .load 62 (.tmp 12), 62, "infer.go:49", #[⟨6, .data⟩, ⟨1, .guard⟩], some (1, true)⟩) (v := ?_) (Or.inl ⟨by rfl, ?_⟩) (by assumption) ?_
    rotate_left
    · intro w' hSw
      (try dsimp only at hSw)
      go_simp
      try with_reducible rfl
    try simp only [aput]
    refine wpAnyH_ready (rs := [8]) (by kernel_rfl) (by simp) ?_
    refine AllReadyH.cons (o := { dst := some 14, op := Go.Op.call { callee := Go.Callee.value (Go.Operand.func 40), args := #[Go.Operand.tmp 9, Go.Operand.tmp 10, Go.Operand.tmp 13], argTypes := #[86, 62, 62] }, type := 4, pos := "infer.go:49", after := #[⟨3, .data⟩, ⟨4, .data⟩, ⟨7, .data⟩, ⟨1, .chain⟩, ⟨1, .guard⟩], guard := some (1, true) }) rfl (fun K hK => ?_) AllReadyH.nil
    go_simp
    refine (KF.out _ ((((Below.refl _ _).drew)))).mono ?_
    rintro e W2 ⟨rfl, hb2⟩
    have hbz := over_trans ((Below.refl _ (W.alloc (.cells #[.slice p1 q1 r1, .slice p2 q2 r2] 62))).drew) hb2
    have hr0 := HR.out.over hbz
    have hr1 := HRB.out.over hbz
    have hS2 : W2.cell? ⟨bw, 0, none⟩ = some (.int .i64 (c.n : Int)) ∧ W2.cell? ⟨bw, 1, none⟩ = some (.slice c.ga c.gn c.gc) ∧ W2.cell? ⟨bw, 2, none⟩ = some (.slice c.sa c.sn c.sc) ∧ W2.cell? ⟨bw, 3, none⟩ = some (.slice c.ya c.yn c.yc) ∧ W2.cell? ⟨bw, 4, none⟩ = some (.slice c.oa c.on c.oc) ∧ W2.cell? ⟨bw, 5, none⟩ = some (.slice c.va c.vn c.vc) ∧ W2.cell? ⟨bw, 6, none⟩ = some (.slice c.fa c.fn c.fc) ∧ W2.cell? ⟨bw, 7, none⟩ = some (.slice c.ba c.bn c.bc) ∧ W2.cell? ⟨bw, 8, none⟩ = some (.slice c.la c.ln c.lc) ∧ W2.cell? ⟨bw, 9, none⟩ = some (.slice c.ka c.kn c.kc) ∧ W2.cell? ⟨W.heap.size, 0, none⟩ = some (.slice p1 q1 r1) ∧ W2.cell? ⟨W.heap.size, 1, none⟩ = some (.slice p2 q2 r2) ∧ W2.cell? ⟨b, o, none⟩ = some (.slice m1 m2 m3) ∧ W2.cell? ⟨b, o + 1, none⟩ = some (.slice m4 m5 m6) := ⟨hr0 0 _ rfl, hr0 1 _ rfl, hr0 2 _ rfl, hr0 3 _ rfl, hr0 4 _ rfl, hr0 5 _ rfl, hr0 6 _ rfl, hr0 7 _ rfl, hr0 8 _ rfl, hr0 9 _ rfl, hr1 0 _ rfl, hr1 1 _ rfl, cell_over hbz _ _ l0, cell_over hbz _ _ l1⟩
    have HBZ := hide hbz
    have mc2 := cell_over hbz _ _ HMC.out
    have mz2 : W2.frozen? ⟨bm, 0, none⟩ = false := ((bcell hbz).2 _ _ HML.out).trans HMZ.out
    clear hr0 hr1 hb2 hbz m0
    go_simp
    refine hK.out _ _ (hS2) (fun hHeld => ?_)
    clear hK K
    try simp only [aput]
    refine tk (i := 9) (oi := ⟨some 15, .pick (.tmp 7) (.tmp 14) (.const (Go.Value.bool false)), 4, "infer.go:49", #[⟨1, .data⟩, ⟨8, .data⟩], none⟩) (v := ?_) (Or.inl ⟨by rfl, ?_⟩) (by assumption) ?_
    rotate_left
    · intro w' hSw
      (try dsimp only at hSw)
      go_simp
      try with_reducible rfl
    try simp only [aput]
    refine wpAnyH_ready (rs := [10]) (by kernel_rfl) (by simp) ?_
    refine AllReadyH.cons (o := ⟨none, .store 4 (.tmp 2) (.tmp 15), 0, "infer.go:49", #[⟨9, .data⟩, ⟨8, .chain⟩, ⟨0, .phase⟩, ⟨1, .phase⟩, ⟨2, .phase⟩, ⟨3, .phase⟩, ⟨4, .phase⟩, ⟨5, .phase⟩, ⟨6, .phase⟩, ⟨7, .phase⟩, ⟨8, .phase⟩, ⟨9, .phase⟩], none⟩) rfl (fun K hK => ?_) AllReadyH.nil
    go_simp
    refine hK.out _ _ (by have hne := HBN.out; have hne2 := HBN2.out; have hne3 := HBN3.out; obtain ⟨t0, t1, t2, t3, t4, t5, t6, t7, t8, t9, t10, t11, t12, t13⟩ := hS2; exact ⟨by simp [go_sem, t0], by simp [go_sem, t1], by simp [go_sem, t2], by simp [go_sem, t3], by simp [go_sem, t4], by simp [go_sem, t5], by simp [go_sem, t6], by simp [go_sem, t7], by simp [go_sem, t8], by simp [go_sem, t9], by simp [go_sem, t10], by simp [go_sem, t11], by simp [go_sem, t12], by simp [go_sem, t13]⟩) (fun hHeld => ?_)
    clear hK K
    try simp only [aput]
    refine wpAnyH_done (by kernel_rfl) ?_ _
    have hfin := HSET.out fb W2 HBZ.out
    have HFIN := hide hfin
    clear hfin
    go_wp2_with fail
    go_end0
    exact ⟨rfl, by unfold flowB; rw [← HFB.out]; simpa using HFIN.out.1, HF0.out.trans ((FrW.of_below (xfOk bm) HBZ.out).trans HFIN.out.2)⟩
/-- levels may be those of a program. -/
def levsOk (m : Int) (gs : List (Int × Int)) (vn fn : Nat) (L : ISt) : Prop := L.vs.length = vn ∧ L.fs.length = fn ∧ (∀ x ∈ L.vs, lRight m gs x = 0) ∧ ∀ x ∈ L.fs, lRight m gs x = 0
theorem right_len {n : Nat} {gs : List (Int × Int)} {x : Lev} (hc : chkErr n gs = 0) (h : lRight n gs x = 0) : x.len n := by
  unfold lRight levErr at h
  rw [if_pos hc] at h
  by_cases hh : x.len n
  · exact hh
  · exfalso
    unfold Lev.len at hh
    split at h <;> simp_all <;> omega
theorem len_right {n : Nat} {gs : List (Int × Int)} {x : Lev} (hc : chkErr n gs = 0) (h : x.len n) : lRight n gs x = 0 := by
  unfold lRight levErr
  rw [if_pos hc]
  obtain ⟨h1, h2⟩ := h
  simp [h1, h2]
theorem passB_false (n K kf : Nat) (known : List Bool) (ins : List Lev) (fs : List FnD) (main : List D) (L : ISt) : passB n K kf known ins fs main L false = false := by
  have h := goAll_pres n K (fun _ : Bool => L.vs) (askS n K (fun _ => L.vs) known ins fs (flowB n L)) (R := fun a b => b = true → a = true) (fun _ h => h) (fun h1 h2 h => h1 (h2 h)) (fun a d p st => askS_pres n K (fun _ => L.vs) known ins fs (flowB n L) (R := fun a b => b = true → a = true) (fun _ h => h) (fun h1 h2 h => h1 (h2 h)) (fun l i st _ h => by unfold flowB at h; simp at h; exact h.1) (fun l i st h => by unfold flowB at h; simp at h; exact h.1) a d p st) (fun _ => L.fs) kf fs main false
  cases hb : passB n K kf known ins fs main L false with
  | false => rfl
  | true => exact absurd (h hb) (by simp)
/-- levels are rows that are kept, wherever new ones lie. -/
theorem levsO_of {n : Nat} {X : World → Nat → Prop} {W : World} {v : Value} {Ls : List Lev} (n1 : 1 ≤ n) (h : IsLevs W v Ls) (hl : ∀ x ∈ Ls, x.len n) (hx : ∀ k, X W k → W.heap.size ≤ k) : IsLevsO n X W v Ls := by
  obtain ⟨ao, cap, hv, hel⟩ := h
  refine ⟨ao, cap, hv, fun hne => ?_⟩
  obtain ⟨b, off, hao, hel⟩ := hel hne
  refine ⟨b, off, hao, fun i hi => ?_⟩
  obtain ⟨rv, wv, h1, h2, h3⟩ := hel i hi
  have hn := hl _ (List.getElem_mem hi)
  have lt : ∀ (v : Value) (l : List Bool), IsBools W v l → l.length = n → ∀ a m c, v = .slice (some a) m c → a.block < W.heap.size := by
    intro v l hb hl a m c e
    obtain ⟨ao, cap, hv, hel⟩ := hb
    obtain ⟨b, off, hao, hel⟩ := hel (by rintro rfl; simp at hl; omega)
    rw [hv, hao] at e
    injection e with e1
    injection e1 with e1
    rw [← e1]
    exact World.block_lt_of_cell? W _ (hel 0 (by omega))
  obtain ⟨x, y, e, bx, by'⟩ := h3
  simp at e
  obtain ⟨rfl, rfl⟩ := e
  exact ⟨rv, wv, h1, h2, ⟨⟨rv, wv, rfl, bx, by'⟩, hn, rv, wv, rfl, fun a m c e hh => by have h1 := lt _ _ bx hn.1 a m c e; have h2 := hx _ hh; omega, fun a m c e hh => by have h1 := lt _ _ by' hn.2 a m c e; have h2 := hx _ hh; omega⟩⟩

theorem levs_ne {W : World} {ao : Option Addr} {n c N : Nat} {Ls : List Lev} (h : IsLevs W (.slice ao n c) Ls) (hne : Ls ≠ []) {a : Addr} (e : ao = some a) (hN : W.heap.size ≤ N) : a.block ≠ N := by
  obtain ⟨ao', cap, hv, hel⟩ := h
  injection hv with v1
  obtain ⟨b, off, hao, hel⟩ := hel hne
  have h0 : 0 < Ls.length := List.length_pos_iff.2 hne
  obtain ⟨rv, wv, h1, -⟩ := hel 0 h0
  have := World.block_lt_of_cell? W _ h1
  rw [← v1, e] at hao
  injection hao with hao
  rw [hao]
  simp at this ⊢
  omega
/-- what Fits says. -/
def FitSaid (K kf : Nat) (m : Int) (vn yn on : Nat) (gs : List (Int × Int)) (sp : List Int) (ls ms : List Lab) (vs : List (Bool × Lab)) (fs : List FnD) (l : List D) (L : ISt) (X : Prop) (w : World) (e : Ending) (w' : World) : Prop :=
  ∃ why : Int, (why = 0 ↔ X ∧ levsOk m gs vn fs.length L) ∧ Below w.heap.size w w' ∧ ((why ≠ 0 ∧ e = .returned (.tuple #[.bool false, .int .i64 why])) ∨
    (why = 0 ∧ ∃ (n : Nat) (b : Bool), m = n ∧ e = .returned (.tuple #[.bool b, .int .i64 0]) ∧ (b = true ↔ (∀ i (h : i < vs.length), vs[i].1 = true → L.vs.getD i noLev = levOf (gnOf gs) n vs[i].2) ∧ passB n K kf (vs.map Prod.fst) (ls.map (levOf (gnOf gs) n)) fs l L true = true)))

set_option maxHeartbeats 4000000 in
set_option maxRecDepth 100000 in
theorem fitsW1 (K kf n : Nat) (h1 : 1 ≤ n) (h6 : n ≤ 6) (ga : Option Addr) (gn gc : Nat) (sa : Option Addr) (sn sc : Nat) (ya : Option Addr) (yn yc : Nat) (oa : Option Addr) (on oc : Nat) (va : Option Addr) (vn vc : Nat) (fa : Option Addr) (fn fc : Nat) (ba : Option Addr) (bn bc : Nat) (gs : List (Int × Int)) (sp : List Int) (ls ms : List Lab) (vs : List (Bool × Lab)) (fs : List FnD) (l : List D) (la : Option Addr) (ln lc : Nat) (ka : Option Addr) (kn kc : Nat) (L : ISt) (w : World) (h : ProgAt K kf (n : Int) ga gn gc sa sn sc ya yn yc oa on oc va vn vc fa fn fc ba bn bc gs sp ls ms vs fs l w) (hV : IsLevs w (.slice la ln lc) L.vs) (hF : IsLevs w (.slice ka kn kc) L.fs) (hvl : L.vs.length ≤ 9223372036854775807) (hfl : L.fs.length ≤ 9223372036854775807)
    (X : Prop) (KS : ∀ W, Below w.heap.size w W → Calls Try.prog 36 #[.agg #[.int .i64 (n : Int), .slice ga gn gc, .slice sa sn sc, .slice ya yn yc, .slice oa on oc, .slice va vn vc, .slice fa fn fc, .slice ba bn bc]] W fun e w' => ∃ why : Int, e = .returned (.int .i64 why) ∧ (why = 0 ↔ X) ∧ Below W.heap.size W w') (hX : X → okP K kf (n : Int) vn yn on gs sp ls ms vs fs l) :
    Calls Try.prog 18 #[.agg #[.int .i64 (n : Int), .slice ga gn gc, .slice sa sn sc, .slice ya yn yc, .slice oa on oc, .slice va vn vc, .slice fa fn fc, .slice ba bn bc], .agg #[.slice la ln lc, .slice ka kn kc]] w (FitSaid K kf (n : Int) vn yn on gs sp ls ms vs fs l L X w) := by
  obtain rfl : vn = vs.length := by obtain ⟨-, a, c, he, -⟩ := h.vars; injection he
  obtain rfl : yn = ls.length := by obtain ⟨-, a, c, he, -⟩ := h.ins; injection he
  have hfn : fn = fs.length := by obtain ⟨-, a, c, he, -⟩ := h.funcs; injection he
  subst hfn
  have hb0 : Below w.heap.size w ((w.alloc (.cells #[.int .i64 (n : Int), .slice ga gn gc, .slice sa sn sc, .slice ya ls.length yc, .slice oa on oc, .slice va vs.length vc, .slice fa fs.length fc, .slice ba bn bc] 41)).alloc (.cells #[.slice la ln lc, .slice ka kn kc] 54)) := ((Below.refl _ w).alloc (Nat.le_refl _) _).alloc (by simp) _
  have K1 := hide (checkW (n : Int) ga gn gc sa sn sc ya ls.length yc oa on oc va vs.length vc fa fs.length fc ba bn bc gs la ln lc ka kn kc L.vs L.fs ((w.alloc (.cells #[.int .i64 (n : Int), .slice ga gn gc, .slice sa sn sc, .slice ya ls.length yc, .slice oa on oc, .slice va vs.length vc, .slice fa fs.length fc, .slice ba bn bc] 41)).alloc (.cells #[.slice la ln lc, .slice ka kn kc] 54)) (isGrants_over h.grants hb0) (isLevs_over hV hb0) (isLevs_over hF hb0) hvl hfl h.vars.1 h.funcs.1 X (fun W hW => KS W (over_trans hb0 hW)))
  have rowP : RowAt [.int .i64 (n : Int), .slice ga gn gc, .slice sa sn sc, .slice ya ls.length yc, .slice oa on oc, .slice va vs.length vc, .slice fa fs.length fc, .slice ba bn bc] ((w.alloc (.cells #[.int .i64 (n : Int), .slice ga gn gc, .slice sa sn sc, .slice ya ls.length yc, .slice oa on oc, .slice va vs.length vc, .slice fa fs.length fc, .slice ba bn bc] 41)).alloc (.cells #[.slice la ln lc, .slice ka kn kc] 54)) w.heap.size := (RowAt.new [.int .i64 (n : Int), .slice ga gn gc, .slice sa sn sc, .slice ya ls.length yc, .slice oa on oc, .slice va vs.length vc, .slice fa fs.length fc, .slice ba bn bc] 41 w).over ((Below.refl _ _).alloc (Nat.le_refl _) _)
  have rowL : RowAt [.slice la ln lc, .slice ka kn kc] ((w.alloc (.cells #[.int .i64 (n : Int), .slice ga gn gc, .slice sa sn sc, .slice ya ls.length yc, .slice oa on oc, .slice va vs.length vc, .slice fa fs.length fc, .slice ba bn bc] 41)).alloc (.cells #[.slice la ln lc, .slice ka kn kc] 54)) (w.heap.size + 1) := by
    have := RowAt.new [.slice la ln lc, .slice ka kn kc] 54 (w.alloc (.cells #[.int .i64 (n : Int), .slice ga gn gc, .slice sa sn sc, .slice ya ls.length yc, .slice oa on oc, .slice va vs.length vc, .slice fa fs.length fc, .slice ba bn bc] 41))
    simpa using this
  have HB0 := hide hb0
  have HRP := hide rowP
  have HRL := hide rowL
  have H := hide h
  have HX := hide hX
  have HV := hide hV
  have HF := hide hF
  have KWO := hide (walkerOf_any n ga gn gc sa sn sc ya ls.length yc oa on oc va vs.length vc fa fs.length fc ba bn bc la ln lc ka kn kc)
  have KK := hide fun W (hW : Below w.heap.size w W) (hok : okP K kf (n : Int) vs.length ls.length on gs sp ls ms vs fs l) (hlv : L.vs.length = vs.length) (hlen : ∀ x ∈ L.vs, x.len n) => knownW n h1 h6 ga gn gc sa sn sc ya ls.length yc oa on oc va vs.length vc fa fs.length fc ba bn bc la ln lc ka kn kc gs vs L.vs W (isGrants_over h.grants hW) hok.chk (h.vars.over hW) hok.labs.2.1 (isLevs_over hV hW) hlv hlen hok.vars
  have c0 := rowP 0 _ rfl
  have c1 := rowP 1 _ rfl
  have c2 := rowP 2 _ rfl
  have c3 := rowP 3 _ rfl
  have c4 := rowP 4 _ rfl
  have c5 := rowP 5 _ rfl
  have c6 := rowP 6 _ rfl
  have c7 := rowP 7 _ rfl
  have l0 := rowL 0 _ rfl
  have l1 := rowL 1 _ rfl
  clear hb0 rowP rowL h hX hV hF hvl hfl KS
  go_enter Try.func18, Try.ntmps18
  go_wp2_with fail
  refine (K1.out).mono ?_
  rintro e w1 ⟨why, rfl, hPw, hb1⟩
  have HPW : Hid (why = 0 ↔ X ∧ levsOk (n : Int) gs vs.length fs.length L) := hide (by unfold levsOk; exact hPw)
  have HRP1 := hide (HRP.out.over hb1)
  have HRL1 := hide (HRL.out.over hb1)
  have HB1 := hide (over_trans HB0.out hb1)
  clear c0 c1 c2 c3 c4 c5 c6 c7 l0 l1 K1 hPw hb1
  by_cases hz : why = 0
  rotate_left
  · have HZ := hide hz
    go_wp2_with fail
    exact bodyPost_ret (v := .tuple #[.bool false, .int .i64 why]) (by simp [results, Try.results18, go_sem]) rfl ⟨why, HPW.out, HB1.out, Or.inl ⟨HZ.out, rfl⟩⟩
  subst hz
  have hxl := HPW.out.1 rfl
  have HXL := hide hxl
  have hok := HX.out hxl.1
  have HOK := hide hok
  have hlen1 : ∀ x ∈ L.vs, x.len n := fun x hx => right_len hok.chk (hxl.2.2.2.1 x hx)
  have hlen2 : ∀ x ∈ L.fs, x.len n := fun x hx => right_len hok.chk (hxl.2.2.2.2 x hx)
  have HL1 := hide hlen1
  have HL2 := hide hlen2
  have K2 := hide (KWO.out w1)
  have c0 := HRP1.out 0 _ rfl
  have c1 := HRP1.out 1 _ rfl
  have c2 := HRP1.out 2 _ rfl
  have c3 := HRP1.out 3 _ rfl
  have c4 := HRP1.out 4 _ rfl
  have c5 := HRP1.out 5 _ rfl
  have c6 := HRP1.out 6 _ rfl
  have c7 := HRP1.out 7 _ rfl
  have l0 := HRL1.out 0 _ rfl
  have l1 := HRL1.out 1 _ rfl
  clear hxl hok hlen1 hlen2
  go_wp2_with fail
  refine (K2.out).mono ?_
  rintro e w2 ⟨rfl, hb2⟩
  have hB2 := over_trans HB1.out hb2
  have hba := (Below.refl _ w2).alloc (Nat.le_refl _) (.cells #[.int .i64 (n : Int), .slice ga gn gc, .slice sa sn sc, .slice ya ls.length yc, .slice oa on oc, .slice va vs.length vc, .slice fa fs.length fc, .slice ba bn bc, .slice la ln lc, .slice ka kn kc] 88)
  have hBa := over_trans hB2 hba
  have K3 := hide (KK.out _ hBa HOK.out HXL.out.2.1 HL1.out)
  have hrw : RowAt [.int .i64 (n : Int), .slice ga gn gc, .slice sa sn sc, .slice ya ls.length yc, .slice oa on oc, .slice va vs.length vc, .slice fa fs.length fc, .slice ba bn bc, .slice la ln lc, .slice ka kn kc] (w2.alloc (.cells #[.int .i64 (n : Int), .slice ga gn gc, .slice sa sn sc, .slice ya ls.length yc, .slice oa on oc, .slice va vs.length vc, .slice fa fs.length fc, .slice ba bn bc, .slice la ln lc, .slice ka kn kc] 88)) w2.heap.size := RowAt.new [.int .i64 (n : Int), .slice ga gn gc, .slice sa sn sc, .slice ya ls.length yc, .slice oa on oc, .slice va vs.length vc, .slice fa fs.length fc, .slice ba bn bc, .slice la ln lc, .slice ka kn kc] 88 w2
  have HRW := hide hrw
  have HBA := hide hBa
  clear c0 c1 c2 c3 c4 c5 c6 c7 l0 l1 K2 hb2 hB2 hba hBa
  have c0 := hrw 0 _ rfl
  have c1 := hrw 1 _ rfl
  have c2 := hrw 2 _ rfl
  have c3 := hrw 3 _ rfl
  have c4 := hrw 4 _ rfl
  have c5 := hrw 5 _ rfl
  have c6 := hrw 6 _ rfl
  have c7 := hrw 7 _ rfl
  have c8 := hrw 8 _ rfl
  have c9 := hrw 9 _ rfl
  clear hrw
  go_wp2_with fail
  refine (K3.out).mono ?_
  rintro e w3 ⟨⟨b0, rfl, hb0⟩, hb3⟩
  have HK0 := hide hb0
  have hB3 := over_trans HBA.out hb3
  have hbm := (Below.refl _ w3).alloc (Nat.le_refl _) (.cells #[.bool b0] 4)
  have hlo : ∀ (v : Value) (Ls : List Lev), IsLevs w v Ls → (∀ x ∈ Ls, x.len n) → IsLevsO n (XF w3.heap.size) (w3.alloc (.cells #[.bool b0] 4)) v Ls := fun v Ls hI hl => (levsO_of h1 (isLevs_over hI hB3) hl (fun k hk => Nat.le_of_eq hk.symm)).over (xfOk _) hbm
  have hfit : FitI (⟨n, ga, gn, gc, sa, sn, sc, ya, ls.length, yc, oa, on, oc, va, vs.length, vc, fa, fs.length, fc, ba, bn, bc, la, ln, lc, ka, kn, kc⟩ : WC) w3 L vs.length fs.length w2.heap.size w3.heap.size b0 (w3.alloc (.cells #[.bool b0] 4)) := ⟨hbm, hlo _ _ HV.out HL1.out, hlo _ _ HF.out HL2.out, HXL.out.2.1, HXL.out.2.2.1, by simp [go_sem], by simp [go_sem], (HRW.out.over hb3).over hbm⟩
  have hPr := H.out.over hB3
  have hok := HOK.out
  have hlt2 : w2.heap.size < w3.heap.size := World.block_lt_of_cell? w3 _ (HRW.out.over hb3 0 _ rfl)
  have hlk : (L.vs ≠ [] → ∀ a, la = some a → a.block ≠ w3.heap.size) ∧ (L.fs ≠ [] → ∀ a, ka = some a → a.block ≠ w3.heap.size) := ⟨fun hne a e => levs_ne HV.out hne e hB3.size, fun hne a e => levs_ne HF.out hne e hB3.size⟩
  have KA : Hid (Calls Try.prog 38 #[.agg #[.int .i64 (n : Int), .slice ga gn gc, .slice sa sn sc, .slice ya ls.length yc, .slice oa on oc, .slice va vs.length vc, .slice fa fs.length fc, .slice ba bn bc, .slice la ln lc, .slice ka kn kc], .func (.func 55) #[] #[.pointer (some ⟨w3.heap.size, 0, none⟩), .pointer (some ⟨w2.heap.size, 0, none⟩)]] (w3.alloc (.cells #[.bool b0] 4)) fun e W' => e = .returned (.tuple #[]) ∧ FitI (⟨n, ga, gn, gc, sa, sn, sc, ya, ls.length, yc, oa, on, oc, va, vs.length, vc, fa, fs.length, fc, ba, bn, bc, la, ln, lc, ka, kn, kc⟩ : WC) w3 L vs.length fs.length w2.heap.size w3.heap.size (passB n K kf (vs.map Prod.fst) (ls.map (levOf (gnOf gs) n)) fs l L b0) W' ∧ FrW (XF w3.heap.size) (w3.alloc (.cells #[.bool b0] 4)) W') :=
    askedW (winvF (c := (⟨n, ga, gn, gc, sa, sn, sc, ya, ls.length, yc, oa, on, oc, va, vs.length, vc, fa, fs.length, fc, ba, bn, bc, la, ln, lc, ka, kn, kc⟩ : WC)) L h1 h6 hPr.grants hok.chk hok.vars) (flowB n L) callFit (hide (flowFit (⟨n, ga, gn, gc, sa, sn, sc, ya, ls.length, yc, oa, on, oc, va, vs.length, vc, fa, fs.length, fc, ba, bn, bc, la, ln, lc, ka, kn, kc⟩ : WC) w3 L vs.length w2.heap.size w3.heap.size fs gs h1 hPr.grants hok.chk (Nat.le_refl _) (by omega) hlk)) vs hPr.vars rfl ls hPr.ins (fun b hb => hok.labs.1 b (List.mem_append_left _ hb)) rfl hok.ins kf hPr.funcs hok.funcs hok.body l hPr.main hok.main hok.many b0 _ hfit
  have hrw4 := (HRW.out.over hb3).over hbm
  have HB3 := hide hB3
  clear c0 c1 c2 c3 c4 c5 c6 c7 c8 c9 K3 hb0 hb3 hB3 hbm hlo hfit hPr hok hlk hlt2
  have c0 := hrw4 0 _ rfl
  have c1 := hrw4 1 _ rfl
  have c2 := hrw4 2 _ rfl
  have c3 := hrw4 3 _ rfl
  have c4 := hrw4 4 _ rfl
  have c5 := hrw4 5 _ rfl
  have c6 := hrw4 6 _ rfl
  have c7 := hrw4 7 _ rfl
  have c8 := hrw4 8 _ rfl
  have c9 := hrw4 9 _ rfl
  clear hrw4
  go_wp2_with fail
  refine (KA.out).mono ?_
  rintro e w5 ⟨rfl, hI5, hF5⟩
  have m0 := hI5.more
  have HB5 := hide (over_trans HB3.out hI5.below)
  obtain ⟨pb, hpb⟩ : ∃ q, q = passB n K kf (vs.map Prod.fst) (ls.map (levOf (gnOf gs) n)) fs l L b0 := ⟨_, rfl⟩
  rw [← hpb] at m0
  have HPB := hide hpb
  clear c0 c1 c2 c3 c4 c5 c6 c7 c8 c9 hI5 hF5 hpb KA
  go_wp2_with fail
  refine bodyPost_ret (v := .tuple #[.bool pb, .int .i64 0]) (by simp [results, Try.results18, go_sem]) rfl ⟨0, ⟨fun _ => HXL.out, fun _ => rfl⟩, HB5.out, Or.inr ⟨rfl, n, pb, rfl, rfl, ?_⟩⟩
  rw [HPB.out]
  cases b0 with
  | false =>
    rw [passB_false]
    exact ⟨fun h => absurd h (by simp), fun h => absurd (HK0.out.2 h.1) (by simp)⟩
  | true => exact ⟨fun h => ⟨HK0.out.1 rfl, h⟩, fun h => h.2⟩

set_option maxHeartbeats 4000000 in
set_option maxRecDepth 100000 in
theorem fitsW0 (K kf : Nat) (m : Int) (ga : Option Addr) (gn gc : Nat) (sa : Option Addr) (sn sc : Nat) (ya : Option Addr) (yn yc : Nat) (oa : Option Addr) (on oc : Nat) (va : Option Addr) (vn vc : Nat) (fa : Option Addr) (fn fc : Nat) (ba : Option Addr) (bn bc : Nat) (gs : List (Int × Int)) (sp : List Int) (ls ms : List Lab) (vs : List (Bool × Lab)) (fs : List FnD) (l : List D) (la : Option Addr) (ln lc : Nat) (ka : Option Addr) (kn kc : Nat) (L : ISt) (w : World) (h : ProgAt K kf m ga gn gc sa sn sc ya yn yc oa on oc va vn vc fa fn fc ba bn bc gs sp ls ms vs fs l w) (hV : IsLevs w (.slice la ln lc) L.vs) (hF : IsLevs w (.slice ka kn kc) L.fs) (hvl : L.vs.length ≤ 9223372036854775807) (hfl : L.fs.length ≤ 9223372036854775807)
    (X : Prop) (KS : ∀ W, Below w.heap.size w W → Calls Try.prog 36 #[.agg #[.int .i64 m, .slice ga gn gc, .slice sa sn sc, .slice ya yn yc, .slice oa on oc, .slice va vn vc, .slice fa fn fc, .slice ba bn bc]] W fun e w' => ∃ why : Int, e = .returned (.int .i64 why) ∧ (why = 0 ↔ X) ∧ Below W.heap.size W w') (hX : ¬ X) :
    Calls Try.prog 18 #[.agg #[.int .i64 m, .slice ga gn gc, .slice sa sn sc, .slice ya yn yc, .slice oa on oc, .slice va vn vc, .slice fa fn fc, .slice ba bn bc], .agg #[.slice la ln lc, .slice ka kn kc]] w (FitSaid K kf m vn yn on gs sp ls ms vs fs l L X w) := by
  have hfn : fn = fs.length := by obtain ⟨-, a, c, he, -⟩ := h.funcs; injection he
  have hb0 : Below w.heap.size w ((w.alloc (.cells #[.int .i64 m, .slice ga gn gc, .slice sa sn sc, .slice ya yn yc, .slice oa on oc, .slice va vn vc, .slice fa fn fc, .slice ba bn bc] 41)).alloc (.cells #[.slice la ln lc, .slice ka kn kc] 54)) := ((Below.refl _ w).alloc (Nat.le_refl _) _).alloc (by simp) _
  have K1 := hide (checkW m ga gn gc sa sn sc ya yn yc oa on oc va vn vc fa fn fc ba bn bc gs la ln lc ka kn kc L.vs L.fs ((w.alloc (.cells #[.int .i64 m, .slice ga gn gc, .slice sa sn sc, .slice ya yn yc, .slice oa on oc, .slice va vn vc, .slice fa fn fc, .slice ba bn bc] 41)).alloc (.cells #[.slice la ln lc, .slice ka kn kc] 54)) (isGrants_over h.grants hb0) (isLevs_over hV hb0) (isLevs_over hF hb0) hvl hfl (by obtain ⟨hm, a, c, he, -⟩ := h.vars; injection he with e1 e2; rw [e2]; exact hm) (by rw [hfn]; exact h.funcs.1) X (fun W hW => KS W (over_trans hb0 hW)))
  have rowP : RowAt [.int .i64 m, .slice ga gn gc, .slice sa sn sc, .slice ya yn yc, .slice oa on oc, .slice va vn vc, .slice fa fn fc, .slice ba bn bc] ((w.alloc (.cells #[.int .i64 m, .slice ga gn gc, .slice sa sn sc, .slice ya yn yc, .slice oa on oc, .slice va vn vc, .slice fa fn fc, .slice ba bn bc] 41)).alloc (.cells #[.slice la ln lc, .slice ka kn kc] 54)) w.heap.size := (RowAt.new [.int .i64 m, .slice ga gn gc, .slice sa sn sc, .slice ya yn yc, .slice oa on oc, .slice va vn vc, .slice fa fn fc, .slice ba bn bc] 41 w).over ((Below.refl _ _).alloc (Nat.le_refl _) _)
  have rowL : RowAt [.slice la ln lc, .slice ka kn kc] ((w.alloc (.cells #[.int .i64 m, .slice ga gn gc, .slice sa sn sc, .slice ya yn yc, .slice oa on oc, .slice va vn vc, .slice fa fn fc, .slice ba bn bc] 41)).alloc (.cells #[.slice la ln lc, .slice ka kn kc] 54)) (w.heap.size + 1) := by
    have := RowAt.new [.slice la ln lc, .slice ka kn kc] 54 (w.alloc (.cells #[.int .i64 m, .slice ga gn gc, .slice sa sn sc, .slice ya yn yc, .slice oa on oc, .slice va vn vc, .slice fa fn fc, .slice ba bn bc] 41))
    simpa using this
  have HB0 := hide hb0
  have HX := hide hX
  have c0 := rowP 0 _ rfl
  have c1 := rowP 1 _ rfl
  have c2 := rowP 2 _ rfl
  have c3 := rowP 3 _ rfl
  have c4 := rowP 4 _ rfl
  have c5 := rowP 5 _ rfl
  have c6 := rowP 6 _ rfl
  have c7 := rowP 7 _ rfl
  have l0 := rowL 0 _ rfl
  have l1 := rowL 1 _ rfl
  clear hb0 rowP rowL h hX hV hF hvl hfl KS hfn
  go_enter Try.func18, Try.ntmps18
  go_wp2_with fail
  refine (K1.out).mono ?_
  rintro e w1 ⟨why, rfl, hPw, hb1⟩
  have HZ : Hid (why ≠ 0) := hide (fun e => HX.out (hPw.1 e).1)
  have hz := HZ.out
  have HB1 := hide (over_trans HB0.out hb1)
  clear c0 c1 c2 c3 c4 c5 c6 c7 l0 l1 K1 hPw hb1
  go_wp2_with fail
  exact bodyPost_ret (v := .tuple #[.bool false, .int .i64 why]) (by simp [results, Try.results18, go_sem]) rfl ⟨why, ⟨fun h => absurd h HZ.out, fun h => absurd h.1 HX.out⟩, HB1.out, Or.inl ⟨HZ.out, rfl⟩⟩
/-- Fits, of any program and levels. -/
theorem fitsW (K kf : Nat) (m : Int) (ga : Option Addr) (gn gc : Nat) (sa : Option Addr) (sn sc : Nat) (ya : Option Addr) (yn yc : Nat) (oa : Option Addr) (on oc : Nat) (va : Option Addr) (vn vc : Nat) (fa : Option Addr) (fn fc : Nat) (ba : Option Addr) (bn bc : Nat) (gs : List (Int × Int)) (sp : List Int) (ls ms : List Lab) (vs : List (Bool × Lab)) (fs : List FnD) (l : List D) (la : Option Addr) (ln lc : Nat) (ka : Option Addr) (kn kc : Nat) (L : ISt) (w : World) (h : ProgAt K kf m ga gn gc sa sn sc ya yn yc oa on oc va vn vc fa fn fc ba bn bc gs sp ls ms vs fs l w) (hV : IsLevs w (.slice la ln lc) L.vs) (hF : IsLevs w (.slice ka kn kc) L.fs) (hvl : L.vs.length ≤ 9223372036854775807) (hfl : L.fs.length ≤ 9223372036854775807)
    (X : Prop) (KS : ∀ W, Below w.heap.size w W → Calls Try.prog 36 #[.agg #[.int .i64 m, .slice ga gn gc, .slice sa sn sc, .slice ya yn yc, .slice oa on oc, .slice va vn vc, .slice fa fn fc, .slice ba bn bc]] W fun e w' => ∃ why : Int, e = .returned (.int .i64 why) ∧ (why = 0 ↔ X) ∧ Below W.heap.size W w') (hX : X → okP K kf m vn yn on gs sp ls ms vs fs l) :
    Calls Try.prog 18 #[.agg #[.int .i64 m, .slice ga gn gc, .slice sa sn sc, .slice ya yn yc, .slice oa on oc, .slice va vn vc, .slice fa fn fc, .slice ba bn bc], .agg #[.slice la ln lc, .slice ka kn kc]] w (FitSaid K kf m vn yn on gs sp ls ms vs fs l L X w) := by
  by_cases h0 : X
  · obtain ⟨n, rfl, n1, n6, -⟩ := chk_ok (hX h0).chk
    exact fitsW1 K kf n n1 n6 ga gn gc sa sn sc ya yn yc oa on oc va vn vc fa fn fc ba bn bc gs sp ls ms vs fs l la ln lc ka kn kc L w h hV hF hvl hfl X KS hX
  · exact fitsW0 K kf m ga gn gc sa sn sc ya yn yc oa on oc va vn vc fa fn fc ba bn bc gs sp ls ms vs fs l la ln lc ka kn kc L w h hV hF hvl hfl X KS h0
def sm1 : D := sD 3 0 0 (xD 0 0 []) [] [] []
def sm2 : D := sD 4 0 0 (xD 2 0 []) [] [] []
theorem i64_small (n : Int) (h : 0 ≤ n) (h2 : n ≤ 100) : In64 n := ⟨by omega, by omega⟩
theorem xs_nil {s : Nat} {R : List Value → D → Prop} {w : World} : XS s R w (.slice none 0 0) [] := ⟨Nat.zero_le _, none, 0, rfl, fun h => absurd rfl h⟩
theorem pols_nil {w : World} : IsPols w (.slice none 0 0) [] := ⟨none, 0, rfl, fun h => absurd rfl h⟩
theorem smallProg {bi bo bv bm : Nat} {w : World} (h : Small bi bo bv bm w) : ProgAt 1 1 1 none 0 0 none 0 0 (some ⟨bi, 0, none⟩) 1 1 (some ⟨bo, 0, none⟩) 1 1 (some ⟨bv, 0, none⟩) 1 1 none 0 0 (some ⟨bm, 0, none⟩) 2 2 [] [] [⟨[], []⟩] [⟨[], []⟩] [(false, ⟨[], []⟩)] [] [sm1, sm2] w := by
  have hlab : ∀ b, RowAt [.slice none 0 0, .slice none 0 0] w b → LabsAt w (.slice (some ⟨b, 0, none⟩) 1 1) [⟨[], []⟩] := fun b hr => by
    refine ⟨by simp [maxLen], some ⟨b, 0, none⟩, 1, rfl, fun _ => ⟨b, 0, rfl, fun i hi => ?_⟩⟩
    have : i = 0 := by simp at hi; omega
    subst this
    exact ⟨_, _, hr 0 _ rfl, hr 1 _ rfl, pols_nil, pols_nil⟩
  refine ⟨i64_small 1 (by omega) (by omega), ⟨none, 0, rfl, fun h => absurd rfl h⟩, ⟨none, 0, rfl, fun h => absurd rfl h⟩, by simp, hlab _ h.ins, hlab _ h.outs, ?_, ?_, ?_, fun h => absurd h (by simp), fun h => absurd h (by simp)⟩
  · refine ⟨by simp [maxLen], some ⟨bv, 0, none⟩, 1, rfl, fun _ => ⟨bv, 0, rfl, fun i hi => ?_⟩⟩
    have : i = 0 := by simp at hi; omega
    subst this
    exact ⟨_, _, h.vars 0 _ rfl, h.vars 1 _ rfl, h.vars 2 _ rfl, pols_nil, pols_nil⟩
  · exact ⟨by simp, none, 0, rfl, fun h => absurd rfl h⟩
  · refine ⟨by simp [maxLen], some ⟨bm, 0, none⟩, 2, rfl, fun _ => ⟨bm, 0, rfl, fun i d hd => ?_⟩⟩
    match i, hd with
    | 0, hd =>
      simp at hd
      subst hd
      refine ⟨mainCells.take 9, rfl, fun j u hu => ?_, 3, 0, 0, _, _, _, xD 0 0 [], _, [], _, [], _, [], rfl, rfl, i64_small _ (by omega) (by omega), i64_small _ (by omega) (by omega), i64_small _ (by omega) (by omega), ⟨0, 0, _, [], rfl, rfl, i64_small _ (by omega) (by omega), i64_small _ (by omega) (by omega), xs_nil⟩, xs_nil, xs_nil, xs_nil⟩
      rw [List.getElem?_take] at hu
      split at hu
      · have := h.main j u hu
        simpa using this
      · cases hu
    | 1, hd =>
      simp at hd
      subst hd
      refine ⟨mainCells.drop 9, rfl, fun j u hu => ?_, 4, 0, 0, _, _, _, xD 2 0 [], _, [], _, [], _, [], rfl, rfl, i64_small _ (by omega) (by omega), i64_small _ (by omega) (by omega), i64_small _ (by omega) (by omega), ⟨2, 0, _, [], rfl, rfl, i64_small _ (by omega) (by omega), i64_small _ (by omega) (by omega), xs_nil⟩, xs_nil, xs_nil, xs_nil⟩
      rw [List.getElem?_drop] at hu
      have := h.main (9 + j) u hu
      simpa [Nat.add_assoc] using this
    | i + 2, hd => simp at hd
theorem sm_chk : checkX ((1 : Nat) : Int) 1 (sExpr sm2) = 0 := by
  simp [checkX, sm2, errX, listX, partsX, addParts, firstX, xD, kindOf, numOf, argsOf]
theorem sm1_ok : okS1 1 1 1 1 (([] : List FnD).length : Int) [] sm1 := by
  unfold okS1
  simp [sm1, xD, kindOf, argsOf]
theorem sm2_ok : okS1 1 1 1 1 (([] : List FnD).length : Int) [] sm2 := by
  have h := sm_chk
  unfold okS1
  have e : sKind sm2 = 4 := rfl
  have e2 : sOther sm2 = 0 := rfl
  rw [e, e2]
  exact ⟨by decide, fun h => absurd h (by decide), fun h => absurd h (by decide), fun h => absurd h (by decide), fun _ => h, fun h => absurd h (by decide), fun _ => by decide⟩
theorem smallOk : okP 1 1 1 1 1 1 [] [] [⟨[], []⟩] [⟨[], []⟩] [(false, ⟨[], []⟩)] [] [sm1, sm2] := by
  refine ⟨rfl, by simp, ⟨?_, ?_, ?_⟩, by omega, by omega, by omega, by simp, by decide, fun i h => absurd h (by simp), ?_⟩
  · intro b hb
    simp at hb
    subst hb
    rfl
  · intro v hv
    simp at hv
    subst hv
    rfl
  · intro v hv _
    simp at hv
    subst hv
    exact ⟨rfl, rfl⟩
  · intro s hs
    simp at hs
    rcases hs with rfl | rfl
    · exact ⟨sm1_ok, fun s hs => absurd hs (by simp [sm1]), fun s hs => absurd hs (by simp [sm1])⟩
    · exact ⟨sm2_ok, fun s hs => absurd hs (by simp [sm2]), fun s hs => absurd hs (by simp [sm2])⟩
def smI : Nat → ISt := iterI 1 1 1 [false] [levOf [] 1 ⟨[], []⟩] [] [sm1, sm2] (init0 [] 1 [(false, ⟨[], []⟩)] 0)
theorem smI1 : smI 1 = ⟨[⟨[true], [true]⟩], [], true⟩ := by rfl
theorem smI2 : smI 2 = ⟨[⟨[true], [true]⟩], [], false⟩ := by rfl
set_option maxHeartbeats 1000000 in
theorem small_inf {st : ISt} (h : Inferred 1 1 1 [] [(false, ⟨[], []⟩)] [⟨[], []⟩] [] [sm1, sm2] st) : st.vs = [⟨[true], [true]⟩] ∧ st.fs = [] := by
  obtain ⟨k, hk, hm, hj⟩ := h
  have hk' : st = smI (k + 1) := hk
  have hj' : ∀ j, j < k → (smI (j + 1)).more = true := hj
  clear hk hj
  have h1 : k = 1 := by
    rcases Nat.lt_trichotomy k 1 with h | h | h
    · have h0 : k = 0 := by omega
      rw [hk', h0] at hm
      have e := smI1
      rw [Nat.zero_add, e] at hm
      exact absurd hm (by simp)
    · exact h
    · have h2 := hj' 1 h
      have e := smI2
      rw [show 1 + 1 = 2 from rfl, e] at h2
      exact absurd h2 (by simp)
  rw [hk', h1, show 1 + 1 = 2 from rfl, smI2]
  exact ⟨rfl, rfl⟩
end Go.Proofs.Ytcbbjjenkommeaa.Ex
