/- What is done where a level must flow: does it? -/
import Derived.Test.YtcbbjjenkommeaaM25
import Derived.Deep.CutRange
import Derived.Deep.SlicePairs
namespace Go.Proofs.Ytcbbjjenkommeaa.Ex
open Go.RowKit
set_option linter.unusedVariables false
/-- the one block that turns while levels are tried. -/
def XF (bm : Nat) : World → Nat → Prop := fun _ k => k = bm
theorem xfOk (bm : Nat) : XOk (XF bm) := ⟨fun _ _ _ _ h => h⟩
structure FitI (c : WC) (w0 : World) (L : ISt) (nv nf bw bm : Nat) (b : Bool) (W : World) : Prop where
  below : Below w0.heap.size w0 W
  vs : IsLevsO c.n (XF bm) W (.slice c.la c.ln c.lc) L.vs
  fs : IsLevsO c.n (XF bm) W (.slice c.ka c.kn c.kc) L.fs
  lv : L.vs.length = nv
  lf : L.fs.length = nf
  more : W.cell? ⟨bm, 0, none⟩ = some (.bool b)
  mz : W.frozen? ⟨bm, 0, none⟩ = false
  row : RowAt c.cs W bw
theorem FitI.over {c : WC} {w0 : World} {L : ISt} {nv nf bw bm : Nat} {b : Bool} {W W' : World} (h : FitI c w0 L nv nf bw bm b W) (hb : Below W.heap.size W W') : FitI c w0 L nv nf bw bm b W' :=
  ⟨over_trans h.below hb, h.vs.over (xfOk bm) hb, h.fs.over (xfOk bm) hb, h.lv, h.lf, cell_over hb _ _ h.more, ((bcell hb).2 _ _ (World.block_lt_of_cell? W _ h.more)).trans h.mz, h.row.over hb⟩
theorem FitI.lev {c : WC} {w0 : World} {L : ISt} {nv nf bw bm b off : Nat} {f : Bool} {W : World} {i : Bool × Nat} (h : FitI c w0 L nv nf bw bm f W) (hib : (if i.1 = true then c.la else c.ka) = some ⟨b, off, none⟩) (h1 : i.1 = true → i.2 < nv) (h2 : i.1 = false → i.2 < nf) :
    ∃ rv wv, W.cell? ⟨b, off + i.2 * 2, none⟩ = some rv ∧ W.cell? ⟨b, off + i.2 * 2 + 1, none⟩ = some wv ∧ LevO c.n (XF bm) W (.agg #[rv, wv]) (L.at i) := by
  unfold ISt.at
  by_cases hi : i.1 = true
  · rw [if_pos hi] at hib ⊢
    have hlt := h1 hi
    obtain ⟨ao, cap, hv, hel⟩ := h.vs
    injection hv with v1 v2 v3
    obtain ⟨b', o', hb', hel⟩ := hel (by intro e; have := h.lv; rw [e] at this; simp at this; omega)
    rw [← v1, hib] at hb'
    injection hb' with hb'
    injection hb' with hb1 hb2
    subst hb1 hb2
    have hlt2 : i.2 < L.vs.length := by have := h.lv; omega
    obtain ⟨rv, wv, c0, c1, hl⟩ := hel i.2 hlt2
    refine ⟨rv, wv, c0, c1, ?_⟩
    have e : L.vs.getD i.2 noLev = L.vs[i.2] := by simp [List.getD_eq_getElem?_getD, hlt2]
    rw [e]
    exact hl
  · rw [if_neg hi] at hib ⊢
    have hlt := h2 (by simpa using hi)
    obtain ⟨ao, cap, hv, hel⟩ := h.fs
    injection hv with v1 v2 v3
    obtain ⟨b', o', hb', hel⟩ := hel (by intro e; have := h.lf; rw [e] at this; simp at this; omega)
    rw [← v1, hib] at hb'
    injection hb' with hb'
    injection hb' with hb1 hb2
    subst hb1 hb2
    have hlt2 : i.2 < L.fs.length := by have := h.lf; omega
    obtain ⟨rv, wv, c0, c1, hl⟩ := hel i.2 hlt2
    refine ⟨rv, wv, c0, c1, ?_⟩
    have e : L.fs.getD i.2 noLev = L.fs[i.2] := by simp [List.getD_eq_getElem?_getD, hlt2]
    rw [e]
    exact hl
theorem IsLevsO.keep' {n : Nat} {X : World → Nat → Prop} {W W3 : World} {v : Value} {Ls : List Lev} (n1 : 1 ≤ n) (h : IsLevsO n X W v Ls) (hF : FrW X W W3) (hc : Ls ≠ [] → ∀ b o ln cp, v = .slice (some ⟨b, o, none⟩) ln cp → ∀ j u, W.cell? ⟨b, j, none⟩ = some u → W3.cell? ⟨b, j, none⟩ = some u) : IsLevsO n X W3 v Ls := by
  by_cases hne : Ls = []
  · subst hne
    obtain ⟨ao, cap, hv, -⟩ := h
    exact ⟨ao, cap, hv, fun h => absurd rfl h⟩
  · exact h.keep n1 hF (hc hne)
/-- something else is said of whether they fit. -/
theorem FitI.setM {c : WC} {w0 : World} {L : ISt} {nv nf bw bm : Nat} {f f' : Bool} {W : World} (n1 : 1 ≤ c.n) (hm : w0.heap.size ≤ bm) (hw : bw ≠ bm) (hlk : (L.vs ≠ [] → ∀ a, c.la = some a → a.block ≠ bm) ∧ (L.fs ≠ [] → ∀ a, c.ka = some a → a.block ≠ bm)) (h : FitI c w0 L nv nf bw bm f W) : FitI c w0 L nv nf bw bm f' (W.setCell ⟨bm, 0, none⟩ (.bool f')) ∧ FrW (XF bm) W (W.setCell ⟨bm, 0, none⟩ (.bool f')) := by
  have hsz : (W.setCell ⟨bm, 0, none⟩ (.bool f')).heap.size = W.heap.size := by simp [World.setCell]
  have hblk : ∀ k, k ≠ bm → (W.setCell ⟨bm, 0, none⟩ (.bool f')).heap[k]? = W.heap[k]? := fun k hk => heap_set_other (Ne.symm hk) _
  have hF : FrW (XF bm) W (W.setCell ⟨bm, 0, none⟩ (.bool f')) := ⟨rfl, rfl, rfl, by omega, fun k _ hx => hblk k hx, fun k _ hx => hx⟩
  have cne : ∀ b' o' u, b' ≠ bm → W.cell? ⟨b', o', none⟩ = some u → (W.setCell ⟨bm, 0, none⟩ (.bool f')).cell? ⟨b', o', none⟩ = some u := fun b' o' u hm hc => (World.cell?_of_block (a := ⟨b', o', none⟩) (hblk b' hm)).trans hc
  refine ⟨⟨h.below.setCell (p := ⟨bm, 0, none⟩) hm _, h.vs.keep' n1 hF (fun hne b' o' ln cp hv j u hc => ?_), h.fs.keep' n1 hF (fun hne b' o' ln cp hv j u hc => ?_), h.lv, h.lf, World.cell?_setCell_same _ _ _ h.more, ?_, fun j u hu => cne _ _ _ hw (h.row j u hu)⟩, hF⟩
  · injection hv with v1
    exact cne _ _ _ (hlk.1 hne ⟨b', o', none⟩ v1) hc
  · injection hv with v1
    exact cne _ _ _ (hlk.2 hne ⟨b', o', none⟩ v1) hc
  · have := h.mz
    simpa [go_sem] using this
def sm1 : D := sD 3 0 0 (xD 0 0 []) [] [] []
def sm2 : D := sD 4 0 0 (xD 2 0 []) [] [] []
theorem i64_small (n : Int) (h : 0 ≤ n) (h2 : n ≤ 100) : In64 n := ⟨by omega, by omega⟩
theorem xs_nil {s : Nat} {R : List Value → D → Prop} {w : World} : XS s R w (.slice none 0 0) [] := ⟨Nat.zero_le _, none, 0, rfl, fun h => absurd rfl h⟩
theorem pols_nil {w : World} : IsPols w (.slice none 0 0) [] := ⟨none, 0, rfl, fun h => absurd rfl h⟩
theorem smallProg {bi bo bv bm : Nat} {w : World} (h : Small bi bo bv bm w) : ProgAt 1 1 1 none 0 0 none 0 0 (some ⟨bi, 0, none⟩) 1 1 (some ⟨bo, 0, none⟩) 1 1 (some ⟨bv, 0, none⟩) 1 1 none 0 0 (some ⟨bm, 0, none⟩) 2 2 [] [] [⟨[], []⟩] [⟨[], []⟩] [(false, ⟨[], []⟩)] [] [sm1, sm2] w := by
  have hlab : ∀ b, RowAt [.slice none 0 0, .slice none 0 0] w b → LabsAt w (.slice (some ⟨b, 0, none⟩) 1 1) [⟨[], []⟩] := fun b hr => by
    refine ⟨by simp [maxLen], some ⟨b, 0, none⟩, 1, rfl, fun _ => ⟨b, 0, rfl, fun i hi => ?_⟩⟩
    have : i = 0 := by simp at hi; omega
    subst this
    exact ⟨_, _, hr 0 _ rfl, hr 1 _ rfl, pols_nil, pols_nil⟩
  refine ⟨i64_small 1 (by omega) (by omega), ⟨none, 0, rfl, fun h => absurd rfl h⟩, ⟨none, 0, rfl, fun h => absurd rfl h⟩, by simp, hlab _ h.ins, hlab _ h.outs, ?_, ?_, ?_, fun h => absurd h (by simp), fun h => absurd h (by simp)⟩
  · refine ⟨by simp [maxLen], some ⟨bv, 0, none⟩, 1, rfl, fun _ => ⟨bv, 0, rfl, fun i hi => ?_⟩⟩
    have : i = 0 := by simp at hi; omega
    subst this
    exact ⟨_, _, h.vars 0 _ rfl, h.vars 1 _ rfl, h.vars 2 _ rfl, pols_nil, pols_nil⟩
  · exact ⟨by simp, none, 0, rfl, fun h => absurd rfl h⟩
  · refine ⟨by simp [maxLen], some ⟨bm, 0, none⟩, 2, rfl, fun _ => ⟨bm, 0, rfl, fun i d hd => ?_⟩⟩
    match i, hd with
    | 0, hd =>
      simp at hd
      subst hd
      refine ⟨mainCells.take 9, rfl, fun j u hu => ?_, 3, 0, 0, _, _, _, xD 0 0 [], _, [], _, [], _, [], rfl, rfl, i64_small _ (by omega) (by omega), i64_small _ (by omega) (by omega), i64_small _ (by omega) (by omega), ⟨0, 0, _, [], rfl, rfl, i64_small _ (by omega) (by omega), i64_small _ (by omega) (by omega), xs_nil⟩, xs_nil, xs_nil, xs_nil⟩
      rw [List.getElem?_take] at hu
      split at hu
      · have := h.main j u hu
        simpa using this
      · cases hu
    | 1, hd =>
      simp at hd
      subst hd
      refine ⟨mainCells.drop 9, rfl, fun j u hu => ?_, 4, 0, 0, _, _, _, xD 2 0 [], _, [], _, [], _, [], rfl, rfl, i64_small _ (by omega) (by omega), i64_small _ (by omega) (by omega), i64_small _ (by omega) (by omega), ⟨2, 0, _, [], rfl, rfl, i64_small _ (by omega) (by omega), i64_small _ (by omega) (by omega), xs_nil⟩, xs_nil, xs_nil, xs_nil⟩
      rw [List.getElem?_drop] at hu
      have := h.main (9 + j) u hu
      simpa [Nat.add_assoc] using this
    | i + 2, hd => simp at hd
theorem sm_chk : checkX ((1 : Nat) : Int) 1 (sExpr sm2) = 0 := by
  simp [checkX, sm2, errX, listX, partsX, addParts, firstX, xD, kindOf, numOf, argsOf]
theorem sm1_ok : okS1 1 1 1 1 (([] : List FnD).length : Int) [] sm1 := by
  unfold okS1
  simp [sm1, xD, kindOf, argsOf]
theorem sm2_ok : okS1 1 1 1 1 (([] : List FnD).length : Int) [] sm2 := by
  have h := sm_chk
  unfold okS1
  have e : sKind sm2 = 4 := rfl
  have e2 : sOther sm2 = 0 := rfl
  rw [e, e2]
  exact ⟨by decide, fun h => absurd h (by decide), fun h => absurd h (by decide), fun h => absurd h (by decide), fun _ => h, fun h => absurd h (by decide), fun _ => by decide⟩
theorem smallOk : okP 1 1 1 1 1 1 [] [] [⟨[], []⟩] [⟨[], []⟩] [(false, ⟨[], []⟩)] [] [sm1, sm2] := by
  refine ⟨rfl, by simp, ⟨?_, ?_, ?_⟩, by omega, by omega, by omega, by simp, by decide, fun i h => absurd h (by simp), ?_⟩
  · intro b hb
    simp at hb
    subst hb
    rfl
  · intro v hv
    simp at hv
    subst hv
    rfl
  · intro v hv _
    simp at hv
    subst hv
    exact ⟨rfl, rfl⟩
  · intro s hs
    simp at hs
    rcases hs with rfl | rfl
    · exact ⟨sm1_ok, fun s hs => absurd hs (by simp [sm1]), fun s hs => absurd hs (by simp [sm1])⟩
    · exact ⟨sm2_ok, fun s hs => absurd hs (by simp [sm2]), fun s hs => absurd hs (by simp [sm2])⟩
theorem smallX : Ey.xP 1 1 1 1 1 1 0 [] [] [⟨[], []⟩] [⟨[], []⟩] [(false, ⟨[], []⟩)] [] [sm1, sm2] := by
  refine ⟨smallOk.chk, by simp, smallOk.speak, smallOk.labs, ⟨by have := smallOk.many; omega, fun f hf => absurd hf (by simp), ?_⟩, fun i h => absurd h (by simp), ?_⟩
  · intro s hs
    simp at hs
    rcases hs with rfl | rfl
    · exact ⟨by omega, fun s hs => absurd hs (by simp [sm1]), fun s hs => absurd hs (by simp [sm1])⟩
    · exact ⟨by omega, fun s hs => absurd hs (by simp [sm2]), fun s hs => absurd hs (by simp [sm2])⟩
  · intro s hs
    simp at hs
    rcases hs with rfl | rfl
    · exact ⟨⟨sm1_ok, fun _ => rfl, fun _ => rfl, fun _ => rfl, fun _ => rfl, fun _ => rfl, fun _ => rfl⟩, fun s hs => absurd hs (by simp [sm1]), fun s hs => absurd hs (by simp [sm1])⟩
    · exact ⟨⟨sm2_ok, fun _ => rfl, fun _ => rfl, fun h => absurd h (by decide), fun _ => rfl, fun _ => rfl, fun _ => rfl⟩, fun s hs => absurd hs (by simp [sm2]), fun s hs => absurd hs (by simp [sm2])⟩
theorem rowAt_at {cs : List Value} {w w' : World} {b : Nat} {a : Array Value} {t : Nat} (ha : a.toList = cs) (hb : b = w.heap.size) (hw : Below (w.alloc (.cells a t)).heap.size (w.alloc (.cells a t)) w') : RowAt cs w' b := by
  subst hb
  rw [← ha]
  exact (RowAt.newA a t w).over hw

set_option maxHeartbeats 1000000 in
/-- the small program, freshly made. -/
theorem small2 (w : World) : Calls Try.prog 30 #[] w fun e w' => ∃ bi bo bv bm, e = .returned (smallV bi bo bv bm) ∧ Small bi bo bv bm w' ∧ Below w.heap.size w w' ∧ (w.heap.size < bi ∧ bi < bo ∧ bo < bv ∧ bv < bm ∧ bm < w'.heap.size) ∧ ∀ j, w'.frozen? ⟨bi, j, none⟩ = false := by
  go_enter Try.func30, Try.ntmps30
  go_wp2_with fail
  have hbr := fun (W : World) (o : Obj) => (Below.refl _ W).alloc (Nat.le_refl _) o
  refine bodyPost_ret (v := smallV (w.heap.size + 1) (w.heap.size + 1 + 1) (w.heap.size + 1 + 1 + 1) (w.heap.size + 1 + 1 + 1 + 1)) (by simp [results, Try.results30, go_sem]) rfl ⟨_, _, _, _, rfl, ⟨?_, ?_, ?_, ?_⟩, ?_, ?_, ?_⟩
  · exact rowAt_at rfl (by simp) (over_trans (over_trans (hbr _ _) (hbr _ _)) (hbr _ _))
  · exact rowAt_at rfl (by simp) (over_trans (hbr _ _) (hbr _ _))
  · exact rowAt_at rfl (by simp) (hbr _ _)
  · exact rowAt_at rfl (by simp) (Below.refl _ _)
  · exact over_trans (over_trans (over_trans (over_trans (hbr _ _) (hbr _ _)) (hbr _ _)) (hbr _ _)) (hbr _ _)
  · refine ⟨by omega, by omega, by omega, by omega, by simp⟩
  · intro j
    simp [go_sem]
/-- badOne. -/
structure Bad (bi bo bv bm bp : Nat) (w : World) : Prop where
  ins : RowAt [.slice (some ⟨bp, 0, none⟩) 1 1, .slice none 0 0] w bi
  pol : RowAt [.int .i64 0, .slice none 0 0] w bp
  outs : RowAt [.slice none 0 0, .slice none 0 0] w bo
  vars : RowAt [.bool false, .slice none 0 0, .slice none 0 0] w bv
  main : RowAt mainCells w bm
abbrev badV (bi bo bv bm : Nat) : Value := .agg #[.int .i64 2, .slice none 0 0, .slice none 0 0, .slice (some ⟨bi, 0, none⟩) 1 1, .slice (some ⟨bo, 0, none⟩) 1 1, .slice (some ⟨bv, 0, none⟩) 1 1, .slice none 0 0, .slice (some ⟨bm, 0, none⟩) 2 2]
def Bads (w : World) (e : Ending) (w' : World) : Prop := ∃ bi bo bv bm bp, e = .returned (badV bi bo bv bm) ∧ Bad bi bo bv bm bp w' ∧ Below w.heap.size w w'

set_option maxHeartbeats 1000000 in
set_option maxRecDepth 100000 in
theorem badOne_any (w : World) : Calls Try.prog 59 #[] w (Bads w) := by
  have hbel : Below w.heap.size w (w.alloc (.cells #[.int .i64 0, .slice none 0 0, .slice none 0 0, .slice none 0 0, .slice none 0 0, .slice none 0 0, .slice none 0 0, .slice none 0 0] 41)) := (Below.refl _ w).alloc (Nat.le_refl _) _
  have hrow := RowAt.newA #[.int .i64 0, .slice none 0 0, .slice none 0 0, .slice none 0 0, .slice none 0 0, .slice none 0 0, .slice none 0 0, .slice none 0 0] 41 w
  have hz : ∀ j, (w.alloc (.cells #[.int .i64 0, .slice none 0 0, .slice none 0 0, .slice none 0 0, .slice none 0 0, .slice none 0 0, .slice none 0 0, .slice none 0 0] 41)).frozen? ⟨w.heap.size, j, none⟩ = false := fun j => by simp [go_sem]
  have K1 := hide (small2 (w.alloc (.cells #[.int .i64 0, .slice none 0 0, .slice none 0 0, .slice none 0 0, .slice none 0 0, .slice none 0 0, .slice none 0 0, .slice none 0 0] 41)))
  have HB := hide hbel
  have HR := hide hrow
  have HZ := hide hz
  clear hbel hrow hz
  unfold Bads
  go_enter Try.func59, Try.ntmps59
  go_wp2_with fail
  refine (K1.out).mono ?_
  rintro e w2 ⟨bi, bo, bv, bm, rfl, hS, hb2, ⟨l0, l1, l2, l3, l4⟩, hzi⟩
  have hsz : (w.alloc (.cells #[.int .i64 0, .slice none 0 0, .slice none 0 0, .slice none 0 0, .slice none 0 0, .slice none 0 0, .slice none 0 0, .slice none 0 0] 41)).heap.size = w.heap.size + 1 := by simp
  have hB2 := HB.out.trans (hb2.mono HB.out.size)
  have hr2 := HR.out.over hb2
  have hz2 : ∀ j, w2.frozen? ⟨w.heap.size, j, none⟩ = false := fun j => ((bcell hb2).2 _ _ (by rw [hsz]; omega)).trans (HZ.out j)
  have n1 : bi ≠ w2.heap.size := by omega
  have n2 : w.heap.size ≠ w2.heap.size := by omega
  have n3 : w.heap.size ≠ bi := by omega
  have n4 : bi ≠ w2.heap.size + 1 := by omega
  have n5 : w.heap.size ≠ w2.heap.size + 1 := by omega
  have b1 : bi < w2.heap.size := by omega
  have b2 : w.heap.size < w2.heap.size := by omega
  have c0 := hS.ins 0 _ rfl
  have c1 := hS.ins 1 _ rfl
  have z0 := hzi 0
  have z1 := hzi 1
  have r0 := hr2 0 _ rfl
  have y0 := hz2 0
  have r1 := hr2 1 _ rfl
  have y1 := hz2 1
  have r2 := hr2 2 _ rfl
  have y2 := hz2 2
  have r3 := hr2 3 _ rfl
  have y3 := hz2 3
  have r4 := hr2 4 _ rfl
  have y4 := hz2 4
  have r5 := hr2 5 _ rfl
  have y5 := hz2 5
  have r6 := hr2 6 _ rfl
  have y6 := hz2 6
  have r7 := hr2 7 _ rfl
  have y7 := hz2 7
  have HS := hide hS
  have HB2 := hide hB2
  have HR2 := hide hr2
  have L0 := hide l0
  have L1 := hide l1
  have L2 := hide l2
  have L3 := hide l3
  have L4 := hide l4
  clear hS hB2 hr2 hz2 hzi hb2 K1 l0 l1 l2 l3 l4 hsz
  unfold smallV
  go_wp2_with fail
  have hbr := fun (W : World) (o : Obj) => (Below.refl _ W).alloc (Nat.le_refl _) o
  have l0 := L0.out
  have l1 := L1.out
  have l2 := L2.out
  have l3 := L3.out
  have l4 := L4.out
  simp at l0
  have hsz : (((((((((w2.setCell ⟨bi, 0, none⟩ (.slice (some ⟨w2.heap.size + 1, 0, none⟩) 1 1)).setCell ⟨w.heap.size, 0, none⟩ (.int .i64 2)).setCell ⟨w.heap.size, 1, none⟩ (.slice none 0 0)).setCell ⟨w.heap.size, 2, none⟩ (.slice none 0 0)).setCell ⟨w.heap.size, 3, none⟩ (.slice (some ⟨bi, 0, none⟩) 1 1)).setCell ⟨w.heap.size, 4, none⟩ (.slice (some ⟨bo, 0, none⟩) 1 1)).setCell ⟨w.heap.size, 5, none⟩ (.slice (some ⟨bv, 0, none⟩) 1 1)).setCell ⟨w.heap.size, 6, none⟩ (.slice none 0 0)).setCell ⟨w.heap.size, 7, none⟩ (.slice (some ⟨bm, 0, none⟩) 2 2)).heap.size = w2.heap.size := by simp [World.setCell]
  have hF := (((((((((((HR2.out.other (b' := bi) (j := 0) (v := .slice (some ⟨w2.heap.size + 1, 0, none⟩) 1 1) n3).set (j := 0) (v := .int .i64 2) (by simp)).set (j := 1) (v := .slice none 0 0) (by simp)).set (j := 2) (v := .slice none 0 0) (by simp)).set (j := 3) (v := .slice (some ⟨bi, 0, none⟩) 1 1) (by simp)).set (j := 4) (v := .slice (some ⟨bo, 0, none⟩) 1 1) (by simp)).set (j := 5) (v := .slice (some ⟨bv, 0, none⟩) 1 1) (by simp)).set (j := 6) (v := .slice none 0 0) (by simp)).set (j := 7) (v := .slice (some ⟨bm, 0, none⟩) 2 2) (by simp)).over (hbr _ (.cells #[.int .i64 2, .slice none 0 0, .slice none 0 0, .slice (some ⟨bi, 0, none⟩) 1 1, .slice (some ⟨bo, 0, none⟩) 1 1, .slice (some ⟨bv, 0, none⟩) 1 1, .slice none 0 0, .slice (some ⟨bm, 0, none⟩) 2 2] 41))).over (hbr _ (.cells #[.int .i64 0, .slice none 0 0] 143)))
  have hin := (((((((((((HS.out.ins.set (j := 0) (v := .slice (some ⟨w2.heap.size + 1, 0, none⟩) 1 1) (by simp)).other (b' := w.heap.size) (j := 0) (v := .int .i64 2) (by omega)).other (b' := w.heap.size) (j := 1) (v := .slice none 0 0) (by omega)).other (b' := w.heap.size) (j := 2) (v := .slice none 0 0) (by omega)).other (b' := w.heap.size) (j := 3) (v := .slice (some ⟨bi, 0, none⟩) 1 1) (by omega)).other (b' := w.heap.size) (j := 4) (v := .slice (some ⟨bo, 0, none⟩) 1 1) (by omega)).other (b' := w.heap.size) (j := 5) (v := .slice (some ⟨bv, 0, none⟩) 1 1) (by omega)).other (b' := w.heap.size) (j := 6) (v := .slice none 0 0) (by omega)).other (b' := w.heap.size) (j := 7) (v := .slice (some ⟨bm, 0, none⟩) 2 2) (by omega)).over (hbr _ (.cells #[.int .i64 2, .slice none 0 0, .slice none 0 0, .slice (some ⟨bi, 0, none⟩) 1 1, .slice (some ⟨bo, 0, none⟩) 1 1, .slice (some ⟨bv, 0, none⟩) 1 1, .slice none 0 0, .slice (some ⟨bm, 0, none⟩) 2 2] 41))).over (hbr _ (.cells #[.int .i64 0, .slice none 0 0] 143)))
  have hpl : RowAt [.int .i64 0, .slice none 0 0] (((((((((((w2.setCell ⟨bi, 0, none⟩ (.slice (some ⟨w2.heap.size + 1, 0, none⟩) 1 1)).setCell ⟨w.heap.size, 0, none⟩ (.int .i64 2)).setCell ⟨w.heap.size, 1, none⟩ (.slice none 0 0)).setCell ⟨w.heap.size, 2, none⟩ (.slice none 0 0)).setCell ⟨w.heap.size, 3, none⟩ (.slice (some ⟨bi, 0, none⟩) 1 1)).setCell ⟨w.heap.size, 4, none⟩ (.slice (some ⟨bo, 0, none⟩) 1 1)).setCell ⟨w.heap.size, 5, none⟩ (.slice (some ⟨bv, 0, none⟩) 1 1)).setCell ⟨w.heap.size, 6, none⟩ (.slice none 0 0)).setCell ⟨w.heap.size, 7, none⟩ (.slice (some ⟨bm, 0, none⟩) 2 2)).alloc (.cells #[.int .i64 2, .slice none 0 0, .slice none 0 0, .slice (some ⟨bi, 0, none⟩) 1 1, .slice (some ⟨bo, 0, none⟩) 1 1, .slice (some ⟨bv, 0, none⟩) 1 1, .slice none 0 0, .slice (some ⟨bm, 0, none⟩) 2 2] 41)).alloc (.cells #[.int .i64 0, .slice none 0 0] 143)) (w2.heap.size + 1) := by
    have := RowAt.newA #[.int .i64 0, .slice none 0 0] 143 ((((((((((w2.setCell ⟨bi, 0, none⟩ (.slice (some ⟨w2.heap.size + 1, 0, none⟩) 1 1)).setCell ⟨w.heap.size, 0, none⟩ (.int .i64 2)).setCell ⟨w.heap.size, 1, none⟩ (.slice none 0 0)).setCell ⟨w.heap.size, 2, none⟩ (.slice none 0 0)).setCell ⟨w.heap.size, 3, none⟩ (.slice (some ⟨bi, 0, none⟩) 1 1)).setCell ⟨w.heap.size, 4, none⟩ (.slice (some ⟨bo, 0, none⟩) 1 1)).setCell ⟨w.heap.size, 5, none⟩ (.slice (some ⟨bv, 0, none⟩) 1 1)).setCell ⟨w.heap.size, 6, none⟩ (.slice none 0 0)).setCell ⟨w.heap.size, 7, none⟩ (.slice (some ⟨bm, 0, none⟩) 2 2)).alloc (.cells #[.int .i64 2, .slice none 0 0, .slice none 0 0, .slice (some ⟨bi, 0, none⟩) 1 1, .slice (some ⟨bo, 0, none⟩) 1 1, .slice (some ⟨bv, 0, none⟩) 1 1, .slice none 0 0, .slice (some ⟨bm, 0, none⟩) 2 2] 41))
    simpa [World.setCell] using this
  have hou := (((((((((((HS.out.outs.other (b' := bi) (j := 0) (v := .slice (some ⟨w2.heap.size + 1, 0, none⟩) 1 1) (by omega)).other (b' := w.heap.size) (j := 0) (v := .int .i64 2) (by omega)).other (b' := w.heap.size) (j := 1) (v := .slice none 0 0) (by omega)).other (b' := w.heap.size) (j := 2) (v := .slice none 0 0) (by omega)).other (b' := w.heap.size) (j := 3) (v := .slice (some ⟨bi, 0, none⟩) 1 1) (by omega)).other (b' := w.heap.size) (j := 4) (v := .slice (some ⟨bo, 0, none⟩) 1 1) (by omega)).other (b' := w.heap.size) (j := 5) (v := .slice (some ⟨bv, 0, none⟩) 1 1) (by omega)).other (b' := w.heap.size) (j := 6) (v := .slice none 0 0) (by omega)).other (b' := w.heap.size) (j := 7) (v := .slice (some ⟨bm, 0, none⟩) 2 2) (by omega)).over (hbr _ (.cells #[.int .i64 2, .slice none 0 0, .slice none 0 0, .slice (some ⟨bi, 0, none⟩) 1 1, .slice (some ⟨bo, 0, none⟩) 1 1, .slice (some ⟨bv, 0, none⟩) 1 1, .slice none 0 0, .slice (some ⟨bm, 0, none⟩) 2 2] 41))).over (hbr _ (.cells #[.int .i64 0, .slice none 0 0] 143)))
  have hva := (((((((((((HS.out.vars.other (b' := bi) (j := 0) (v := .slice (some ⟨w2.heap.size + 1, 0, none⟩) 1 1) (by omega)).other (b' := w.heap.size) (j := 0) (v := .int .i64 2) (by omega)).other (b' := w.heap.size) (j := 1) (v := .slice none 0 0) (by omega)).other (b' := w.heap.size) (j := 2) (v := .slice none 0 0) (by omega)).other (b' := w.heap.size) (j := 3) (v := .slice (some ⟨bi, 0, none⟩) 1 1) (by omega)).other (b' := w.heap.size) (j := 4) (v := .slice (some ⟨bo, 0, none⟩) 1 1) (by omega)).other (b' := w.heap.size) (j := 5) (v := .slice (some ⟨bv, 0, none⟩) 1 1) (by omega)).other (b' := w.heap.size) (j := 6) (v := .slice none 0 0) (by omega)).other (b' := w.heap.size) (j := 7) (v := .slice (some ⟨bm, 0, none⟩) 2 2) (by omega)).over (hbr _ (.cells #[.int .i64 2, .slice none 0 0, .slice none 0 0, .slice (some ⟨bi, 0, none⟩) 1 1, .slice (some ⟨bo, 0, none⟩) 1 1, .slice (some ⟨bv, 0, none⟩) 1 1, .slice none 0 0, .slice (some ⟨bm, 0, none⟩) 2 2] 41))).over (hbr _ (.cells #[.int .i64 0, .slice none 0 0] 143)))
  have hma := (((((((((((HS.out.main.other (b' := bi) (j := 0) (v := .slice (some ⟨w2.heap.size + 1, 0, none⟩) 1 1) (by omega)).other (b' := w.heap.size) (j := 0) (v := .int .i64 2) (by omega)).other (b' := w.heap.size) (j := 1) (v := .slice none 0 0) (by omega)).other (b' := w.heap.size) (j := 2) (v := .slice none 0 0) (by omega)).other (b' := w.heap.size) (j := 3) (v := .slice (some ⟨bi, 0, none⟩) 1 1) (by omega)).other (b' := w.heap.size) (j := 4) (v := .slice (some ⟨bo, 0, none⟩) 1 1) (by omega)).other (b' := w.heap.size) (j := 5) (v := .slice (some ⟨bv, 0, none⟩) 1 1) (by omega)).other (b' := w.heap.size) (j := 6) (v := .slice none 0 0) (by omega)).other (b' := w.heap.size) (j := 7) (v := .slice (some ⟨bm, 0, none⟩) 2 2) (by omega)).over (hbr _ (.cells #[.int .i64 2, .slice none 0 0, .slice none 0 0, .slice (some ⟨bi, 0, none⟩) 1 1, .slice (some ⟨bo, 0, none⟩) 1 1, .slice (some ⟨bv, 0, none⟩) 1 1, .slice none 0 0, .slice (some ⟨bm, 0, none⟩) 2 2] 41))).over (hbr _ (.cells #[.int .i64 0, .slice none 0 0] 143)))
  have e0 := hF 0 _ rfl
  have e1 := hF 1 _ rfl
  have e2 := hF 2 _ rfl
  have e3 := hF 3 _ rfl
  have e4 := hF 4 _ rfl
  have e5 := hF 5 _ rfl
  have e6 := hF 6 _ rfl
  have e7 := hF 7 _ rfl
  have hBf : Below w.heap.size w (((((((((((w2.setCell ⟨bi, 0, none⟩ (.slice (some ⟨w2.heap.size + 1, 0, none⟩) 1 1)).setCell ⟨w.heap.size, 0, none⟩ (.int .i64 2)).setCell ⟨w.heap.size, 1, none⟩ (.slice none 0 0)).setCell ⟨w.heap.size, 2, none⟩ (.slice none 0 0)).setCell ⟨w.heap.size, 3, none⟩ (.slice (some ⟨bi, 0, none⟩) 1 1)).setCell ⟨w.heap.size, 4, none⟩ (.slice (some ⟨bo, 0, none⟩) 1 1)).setCell ⟨w.heap.size, 5, none⟩ (.slice (some ⟨bv, 0, none⟩) 1 1)).setCell ⟨w.heap.size, 6, none⟩ (.slice none 0 0)).setCell ⟨w.heap.size, 7, none⟩ (.slice (some ⟨bm, 0, none⟩) 2 2)).alloc (.cells #[.int .i64 2, .slice none 0 0, .slice none 0 0, .slice (some ⟨bi, 0, none⟩) 1 1, .slice (some ⟨bo, 0, none⟩) 1 1, .slice (some ⟨bv, 0, none⟩) 1 1, .slice none 0 0, .slice (some ⟨bm, 0, none⟩) 2 2] 41)).alloc (.cells #[.int .i64 0, .slice none 0 0] 143)) := (((((((((((HB2.out.setCell (p := ⟨bi, 0, none⟩) (by simp; omega) (.slice (some ⟨w2.heap.size + 1, 0, none⟩) 1 1)).setCell (p := ⟨w.heap.size, 0, none⟩) (by simp) (.int .i64 2)).setCell (p := ⟨w.heap.size, 1, none⟩) (by simp) (.slice none 0 0)).setCell (p := ⟨w.heap.size, 2, none⟩) (by simp) (.slice none 0 0)).setCell (p := ⟨w.heap.size, 3, none⟩) (by simp) (.slice (some ⟨bi, 0, none⟩) 1 1)).setCell (p := ⟨w.heap.size, 4, none⟩) (by simp) (.slice (some ⟨bo, 0, none⟩) 1 1)).setCell (p := ⟨w.heap.size, 5, none⟩) (by simp) (.slice (some ⟨bv, 0, none⟩) 1 1)).setCell (p := ⟨w.heap.size, 6, none⟩) (by simp) (.slice none 0 0)).setCell (p := ⟨w.heap.size, 7, none⟩) (by simp) (.slice (some ⟨bm, 0, none⟩) 2 2)).alloc (by rw [hsz]; omega) (.cells #[.int .i64 2, .slice none 0 0, .slice none 0 0, .slice (some ⟨bi, 0, none⟩) 1 1, .slice (some ⟨bo, 0, none⟩) 1 1, .slice (some ⟨bv, 0, none⟩) 1 1, .slice none 0 0, .slice (some ⟨bm, 0, none⟩) 2 2] 41)).alloc (by simp [World.setCell]; omega) (.cells #[.int .i64 0, .slice none 0 0] 143))
  refine bodyPost_ret (v := badV bi bo bv bm) ?_ rfl ⟨bi, bo, bv, bm, w2.heap.size + 1, rfl, ⟨hin, hpl, hou, hva, hma⟩, hBf⟩
  generalize (((((((((((w2.setCell ⟨bi, 0, none⟩ (.slice (some ⟨w2.heap.size + 1, 0, none⟩) 1 1)).setCell ⟨w.heap.size, 0, none⟩ (.int .i64 2)).setCell ⟨w.heap.size, 1, none⟩ (.slice none 0 0)).setCell ⟨w.heap.size, 2, none⟩ (.slice none 0 0)).setCell ⟨w.heap.size, 3, none⟩ (.slice (some ⟨bi, 0, none⟩) 1 1)).setCell ⟨w.heap.size, 4, none⟩ (.slice (some ⟨bo, 0, none⟩) 1 1)).setCell ⟨w.heap.size, 5, none⟩ (.slice (some ⟨bv, 0, none⟩) 1 1)).setCell ⟨w.heap.size, 6, none⟩ (.slice none 0 0)).setCell ⟨w.heap.size, 7, none⟩ (.slice (some ⟨bm, 0, none⟩) 2 2)).alloc (.cells #[.int .i64 2, .slice none 0 0, .slice none 0 0, .slice (some ⟨bi, 0, none⟩) 1 1, .slice (some ⟨bo, 0, none⟩) 1 1, .slice (some ⟨bv, 0, none⟩) 1 1, .slice none 0 0, .slice (some ⟨bm, 0, none⟩) 2 2] 41)).alloc (.cells #[.int .i64 0, .slice none 0 0] 143)) = WZ at e0 e1 e2 e3 e4 e5 e6 e7 ⊢
  simp [results, Try.results59, go_sem, e0, e1, e2, e3, e4, e5, e6, e7]
def nilsA (n : Nat) : Array Value := (List.replicate n (Value.slice none 0 0)).toArray
theorem Try.infoLL : (Try.prog.info? 25).map (fun i => (i.zero, i.size, i.bytes)) = some (some (.slice none 0 0), 1, 24) := by kernel_rfl
theorem makeLL (n : Nat) (hn : n ≤ 100) (w : World) : (Instr.makeSlice 42 (.int .i64 n) (.int .i64 n)).run Try.prog w = .ok (.slice (some ⟨w.heap.size, 0, none⟩) n n) (w.alloc (.cells (nilsA n) 25)) := by
  obtain ⟨i, hi, hz, h1, h2⟩ := info_parts Try.infoLL
  have := run_make (P := Try.prog) w 42 25 i (.slice none 0 0) Try.underlying42 hi hz .i64 .i64 (n : Int) (n : Int) (by omega) (by omega) (by rw [h2]; omega) (by omega)
  rw [this, h1]
  simp only [Int.toNat_natCast, Nat.mul_one]
  have e : madeCells (Value.slice none 0 0).cells n = nilsA n := by
    unfold nilsA
    apply Array.ext
    · simp [madeCells]
    · intro j h1 h2
      simp [madeCells, Value.cells, Nat.mod_one]
  rw [e]

set_option maxHeartbeats 4000000 in
set_option maxRecDepth 100000 in
theorem inputsNone (K kf n : Nat) (ga : Option Addr) (gn gc : Nat) (sa : Option Addr) (sn sc : Nat) (ya : Option Addr) (yn yc : Nat) (oa : Option Addr) (on oc : Nat) (va : Option Addr) (vn vc : Nat) (fa : Option Addr) (fn fc : Nat) (ba : Option Addr) (bn bc : Nat) (who : Nat) (touch : Bool) (xa : Option Addr) (xc : Nat) (gs : List (Int × Int)) (sp : List Int) (ls ms : List Lab) (vs : List (Bool × Lab)) (fs : List FnD) (l : List D) (w : World) (h : ProgAt K kf (n : Int) ga gn gc sa sn sc ya yn yc oa on oc va vn vc fa fn fc ba bn bc gs sp ls ms vs fs l w) (hX : Ey.xP K kf (n : Int) vn yn on sn gs sp ls ms vs fs l) (hwho : who < n) (hno : ∀ b ∈ ls, hasB touch who (levOf (gnOf gs) n b) = false) :
    Calls Try.prog 58 #[.agg #[.int .i64 (n : Int), .slice ga gn gc, .slice sa sn sc, .slice ya yn yc, .slice oa on oc, .slice va vn vc, .slice fa fn fc, .slice ba bn bc], .int .i64 (who : Int), .bool touch, .slice xa yn xc] w fun e w' => ∃ b, e = .returned (.tuple #[.slice (some ⟨b, 0, none⟩) yn yn, .int .i64 0]) ∧ RowAt (List.replicate yn (.slice none 0 0)) w' b ∧ Below w.heap.size w w' := by
  have hbel : Below w.heap.size w (w.alloc (.cells #[.int .i64 (n : Int), .slice ga gn gc, .slice sa sn sc, .slice ya yn yc, .slice oa on oc, .slice va vn vc, .slice fa fn fc, .slice ba bn bc] 41)) := (Below.refl _ w).alloc (Nat.le_refl _) _
  have hrow := RowAt.newA #[.int .i64 (n : Int), .slice ga gn gc, .slice sa sn sc, .slice ya yn yc, .slice oa on oc, .slice va vn vc, .slice fa fn fc, .slice ba bn bc] 41 w
  have K1 := hide (viewCheck_any K kf (n : Int) ga gn gc sa sn sc ya yn yc oa on oc va vn vc fa fn fc ba bn bc (who : Int) gs sp ls ms vs fs l _ (h.over hbel))
  have hls : yn = ls.length := by obtain ⟨-, a, c, he, -⟩ := h.ins; injection he
  have hlab : ∀ b ∈ ls, lChk (n : Int) gs b = 0 := fun b hb => hX.labs.1 b (List.mem_append_left _ hb)
  have hn6 : n ≤ 6 := by obtain ⟨n', h1, -, h2, -⟩ := chk_ok hX.chk; omega
  have hy5 : yn ≤ 5 := hX.ok.ins
  have KC := hide fun W (hW : Below w.heap.size w W) => channels_any n ga gn gc sa sn sc ya yn yc oa on oc va vn vc fa fn fc ba bn bc who touch ya yn yc gs ls W (isGrants_over h.grants hW) (h.ins.over hW) hlab hwho hn6 (by omega)
  have mk := makeLL yn (by omega)
  have HX := hide hX
  have HB0 := hide hbel
  have HR0 := hide hrow
  have HLS := hide hls
  have HNO := hide hno
  have a0 := hrow 0 _ rfl
  have a1 := hrow 1 _ rfl
  have a2 := hrow 2 _ rfl
  have a3 := hrow 3 _ rfl
  have a4 := hrow 4 _ rfl
  have a5 := hrow 5 _ rfl
  have a6 := hrow 6 _ rfl
  have a7 := hrow 7 _ rfl
  clear h hX hrow hlab hno hls hbel
  go_enter Try.func58, Try.ntmps58
  go_wp2_with fail
  refine (K1.out).mono ?_
  rintro e w1 ⟨why, rfl, hwhy, hb1⟩
  have h0 : why = 0 := hwhy.2 ⟨HX.out, by omega, by omega⟩
  subst h0
  have hB1 := HB0.out.trans (hb1.mono HB0.out.size)
  have hrow1 := HR0.out.over hb1
  have hba : Below w1.heap.size w1 (w1.alloc (.cells (nilsA yn) 25)) := (Below.refl _ w1).alloc (Nat.le_refl _) _
  have hrow2 := hrow1.over hba
  have HB2 := hide (hB1.trans (hba.mono hB1.size))
  have KC' := hide (KC.out (w1.alloc (.cells (nilsA yn) 25)) HB2.out)
  have hnil : RowAt (List.replicate yn (.slice none 0 0)) (w1.alloc (.cells (nilsA yn) 25)) w1.heap.size := by
    have := RowAt.newA (nilsA yn) 25 w1
    simpa [nilsA] using this
  have HNIL := hide hnil
  have b0 := hrow1 0 _ rfl
  have b1 := hrow1 1 _ rfl
  have b2 := hrow1 2 _ rfl
  have b3 := hrow1 3 _ rfl
  have b4 := hrow1 4 _ rfl
  have b5 := hrow1 5 _ rfl
  have b6 := hrow1 6 _ rfl
  have b7 := hrow1 7 _ rfl
  have c0 := hrow2 0 _ rfl
  have c1 := hrow2 1 _ rfl
  have c2 := hrow2 2 _ rfl
  have c3 := hrow2 3 _ rfl
  have c4 := hrow2 4 _ rfl
  have c5 := hrow2 5 _ rfl
  have c6 := hrow2 6 _ rfl
  have c7 := hrow2 7 _ rfl
  clear K1 KC hwhy hb1 hB1 hrow1 hrow2 hba hnil a0 a1 a2 a3 a4 a5 a6 a7
  go_wp2_with fail
  refine (KC'.out).mono ?_
  rintro e w3 ⟨bb, rfl, hb1, hb2, hrb, hb3⟩
  rw [← HLS.out]
  have HRB := hide hrb
  have HF := hide (And.intro (HNIL.out.over hb3) (HB2.out.trans (hb3.mono HB2.out.size)))
  clear hrb hb3 KC' b0 b1 b2 b3 b4 b5 b6 b7 c0 c1 c2 c3 c4 c5 c6 c7
  go_wp2_with fail
  go_loopw [37] (fun i wr => ∃ j : Nat, i = .int .i64 (j : Int) ∧ j ≤ yn ∧ wr = w3) (fun i _ => yn - (intOf i).toNat)
  case atStart => exact ⟨0, rfl, Nat.zero_le _, rfl⟩
  case round =>
    obtain ⟨j, rfl, hj, rfl⟩ := hrel
    by_cases hjl : j < yn
    · have hjs : j < ls.length := by rw [← HLS.out]; exact hjl
      have hx : wr.cell? ⟨bb, j, none⟩ = some (.bool false) := by
        have := HRB.out.row j (.bool (hasB touch who (levOf (gnOf gs) n ls[j]))) (by simp [hjs])
        rw [HNO.out ls[j] (List.getElem_mem hjs)] at this
        exact this
      have hji : (j : Int) < (yn : Int) := by omega
      clear hjs
      go_wp2_with fail
      exact ⟨⟨j + 1, by go_num, by omega, by first | rfl | trivial⟩, by simp [intOf]; omega⟩
    · go_wp2_with fail
      go_ret2
      exact ⟨w1.heap.size, rfl, HF.out.1, HF.out.2⟩

def badL : Lab := ⟨[⟨0, []⟩], []⟩
theorem badProg {bi bo bv bm bp : Nat} {w : World} (h : Bad bi bo bv bm bp w) : ProgAt 1 1 2 none 0 0 none 0 0 (some ⟨bi, 0, none⟩) 1 1 (some ⟨bo, 0, none⟩) 1 1 (some ⟨bv, 0, none⟩) 1 1 none 0 0 (some ⟨bm, 0, none⟩) 2 2 [] [] [badL] [⟨[], []⟩] [(false, ⟨[], []⟩)] [] [sm1, sm2] w := by
  have h0 := smallProg (bi := bo) (bo := bo) (bv := bv) (bm := bm) (w := w) ⟨h.outs, h.outs, h.vars, h.main⟩
  refine ⟨i64_small 2 (by omega) (by omega), h0.grants, h0.speak, h0.speakL, ?_, h0.outs, h0.vars, h0.funcs, h0.main, fun h => absurd h (by simp), fun h => absurd h (by simp)⟩
  refine ⟨by simp [maxLen], some ⟨bi, 0, none⟩, 1, rfl, fun _ => ⟨bi, 0, rfl, fun i hi => ?_⟩⟩
  have : i = 0 := by simp at hi; omega
  subst this
  refine ⟨_, _, h.ins 0 _ rfl, h.ins 1 _ rfl, ⟨_, _, rfl, fun _ => ⟨bp, 0, rfl, fun k hk => ?_⟩⟩, pols_nil⟩
  have : k = 0 := by simp [badL] at hk; omega
  subst this
  exact ⟨h.pol 0 _ rfl, _, h.pol 1 _ rfl, ⟨none, 0, rfl, fun h => absurd rfl h⟩⟩
theorem badX : Ey.xP 1 1 2 1 1 1 0 [] [] [badL] [⟨[], []⟩] [(false, ⟨[], []⟩)] [] [sm1, sm2] := by
  refine ⟨rfl, by simp, fun x hx => absurd hx (by simp), ⟨?_, ?_, smallX.labs.2.2⟩, smallX.many, smallX.body, smallX.main⟩
  · intro b hb
    simp at hb
    rcases hb with rfl | rfl
    · rfl
    · rfl
  · intro v hv
    simp at hv
    subst hv
    rfl
theorem bad_none : ∀ b ∈ [badL], hasB false 1 (levOf (gnOf []) 2 b) = false := by
  intro b hb
  simp at hb
  subst hb
  rfl
theorem bad_sees : ∀ VB, [((1 : Int), (1 : Int), (0 : Int), (7 : Int))].filter (seesE (outsB 2 false 1 [] [⟨[], []⟩]) VB) = [(1, 1, 0, 7)] := fun VB => rfl
theorem bad_sees' : ∀ VB, [((1 : Int), (1 : Int), (0 : Int), (7 : Int))].filter (seesE (outsB 2 true 1 [] [⟨[], []⟩]) VB) = [] := fun VB => rfl
abbrev ev1 : List Ev4 := [((1 : Int), (1 : Int), (0 : Int), (7 : Int))]
set_option maxHeartbeats 4000000 in
set_option maxRecDepth 100000 in
theorem viewBegun_any (w : World) : Calls Try.prog 20 #[] w fun e w' => e = .returned (.bool true) ∧ Below w.heap.size w w' := by
  have hbel : Below w.heap.size w (w.alloc (.cells #[.int .i64 1, .int .i64 1, .int .i64 0, .int .i64 7] 71)) := (Below.refl _ w).alloc (Nat.le_refl _) _
  have hrow := RowAt.newA #[.int .i64 1, .int .i64 1, .int .i64 0, .int .i64 7] 71 w
  have hE0 : EvAt (w.alloc (.cells #[.int .i64 1, .int .i64 1, .int .i64 0, .int .i64 7] 71)) (.slice (some ⟨w.heap.size, 0, none⟩) 1 1) ev1 := ⟨_, _, rfl, by simp, by simp [maxLen], fun _ => ⟨w.heap.size, rfl, hrow⟩⟩
  have KB := hide badOne_any
  have KI := hide fun (bi bo bv bm bp : Nat) (xa : Option Addr) (xc : Nat) W (hb : Bad bi bo bv bm bp W) => inputsNone 1 1 2 none 0 0 none 0 0 (some ⟨bi, 0, none⟩) 1 1 (some ⟨bo, 0, none⟩) 1 1 (some ⟨bv, 0, none⟩) 1 1 none 0 0 (some ⟨bm, 0, none⟩) 2 2 1 false xa xc [] [] [badL] [⟨[], []⟩] [(false, ⟨[], []⟩)] [] [sm1, sm2] W (badProg hb) badX (by decide) bad_none
  have KE := hide fun (touch : Bool) (bi bo bv bm bp : Nat) W (hb : Bad bi bo bv bm bp W) (hE : EvL W (.slice (some ⟨w.heap.size, 0, none⟩) 1 1) ev1) => eventsLoop 1 1 2 none 0 0 none 0 0 (some ⟨bi, 0, none⟩) 1 1 (some ⟨bo, 0, none⟩) 1 1 (some ⟨bv, 0, none⟩) 1 1 none 0 0 (some ⟨bm, 0, none⟩) 2 2 1 touch (some ⟨w.heap.size, 0, none⟩) 1 1 ev1 [] [] [badL] [⟨[], []⟩] [(false, ⟨[], []⟩)] [] [sm1, sm2] W (badProg hb) hE (by simp) badX (by decide) (by decide)
  have HB0 := hide hbel
  have HE0 := hide hE0
  clear hbel hrow hE0
  go_enter Try.func20, Try.ntmps20
  go_wp2_with fail
  refine (KB.out _).mono ?_
  rintro e w1 ⟨bi, bo, bv, bm, bp, rfl, hbad, hb1⟩
  have hB1 := HB0.out.trans (hb1.mono HB0.out.size)
  have hb2 : Below w1.heap.size w1 ((w1.alloc (.cells #[.int .i64 5] 3)).alloc (.cells #[.slice (some ⟨w1.heap.size, 0, none⟩) 1 1] 25)) := ((Below.refl _ w1).alloc (Nat.le_refl _) _).alloc (by simp) _
  have KI' := hide (KI.out bi bo bv bm bp (some ⟨w1.heap.size + 1, 0, none⟩) 1 _ ⟨hbad.ins.over hb2, hbad.pol.over hb2, hbad.outs.over hb2, hbad.vars.over hb2, hbad.main.over hb2⟩)
  have HE1 := hide (HE0.out.over (hb1.trans (hb2.mono hb1.size)))
  have HB2 := hide (hB1.trans (hb2.mono hB1.size))
  clear hbad hb1 hB1 hb2
  unfold badV
  go_wp2_with fail
  refine (KI'.out).mono ?_
  rintro e w3 ⟨b3, rfl, hr3, hb3⟩
  have HE3 := hide (HE1.out.over hb3)
  have HB3 := hide (HB2.out.trans (hb3.mono HB2.out.size))
  have HR3 := hide hr3
  clear KI KI' hb3 hr3
  go_wp2_with fail
  refine (KB.out _).mono ?_
  rintro e w4 ⟨bi, bo, bv, bm, bp, rfl, hbad, hb4⟩
  have HE4 := hide (HE3.out.over hb4)
  have HB4 := hide (HB3.out.trans (hb4.mono HB3.out.size))
  have HR4 := hide (HR3.out.over hb4)
  have KE1 := hide (KE.out false bi bo bv bm bp w4 hbad HE4.out.evL)
  clear hbad hb4
  unfold badV
  go_wp2_with fail
  refine (KE1.out).mono ?_
  rintro e w5 ⟨st, v5, rfl, -, -, ho5, hb5⟩
  rw [bad_sees] at ho5
  have hEx := EvAt.of_own ho5
  obtain ⟨xa, xc, hv5, -⟩ := id hEx
  subst hv5
  have HX5 := hide hEx
  have HE5 := hide (HE4.out.over hb5)
  have HB5 := hide (HB4.out.trans (hb5.mono HB4.out.size))
  have HR5 := hide (HR4.out.over hb5)
  clear hb5 ho5 hEx KE1
  go_wp2_with fail
  refine (KB.out _).mono ?_
  rintro e w6 ⟨bi, bo, bv, bm, bp, rfl, hbad, hb6⟩
  have HE6 := hide (HE5.out.over hb6)
  have HX6 := hide (HX5.out.over hb6)
  have HB6 := hide (HB5.out.trans (hb6.mono HB5.out.size))
  have HR6 := hide (HR5.out.over hb6)
  have KE2 := hide (KE.out true bi bo bv bm bp w6 hbad HE6.out.evL)
  clear hbad hb6 KB KE
  unfold badV
  go_wp2_with fail
  refine (KE2.out).mono ?_
  rintro e w7 ⟨st2, v7, rfl, -, -, ho7, hb7⟩
  rw [bad_sees'] at ho7
  have hEy := EvAt.of_own (l := []) ho7
  obtain ⟨ya, yc, hv7, -⟩ := id hEy
  subst hv7
  have hE7 := HE6.out.over hb7
  have hX7 := HX6.out.over hb7
  have hB7 := HB6.out.trans (hb7.mono HB6.out.size)
  have r0 := (HR6.out.over hb7) 0 _ rfl
  have KS := hide (sameEvents_eq ev1 _ _ w7 hX7 hE7 (by simp))
  have KA1 := hide fun W (hW : Below w7.heap.size w7 W) => apart_any (some ⟨w.heap.size, 0, none⟩) 1 1 (some ⟨w.heap.size, 0, none⟩) 1 1 ev1 ev1 W (hE7.over hW).evL (hE7.over hW).evL
  have KA2 := hide fun W (hW : Below w7.heap.size w7 W) => apart_any (some ⟨w.heap.size, 0, none⟩) 1 1 none 0 0 ev1 [] W (hE7.over hW).evL ⟨by simp [maxLen], none, 0, rfl, fun h => absurd rfl h⟩
  have ha1 : apartX ev1 ev1 = -1 := by decide
  have ha2 : apartX ev1 [] = 0 := by decide
  rw [ha1] at KA1
  rw [ha2] at KA2
  have HB7 := hide hB7
  clear hb7 ho7 hEy KE2 hE7 hX7 hB7 ha1 ha2
  go_wp2_with fail
  refine (KS.out).mono ?_
  rintro e w8 ⟨rfl, hb8⟩
  have HB8 := hide (HB7.out.trans (hb8.mono HB7.out.size))
  have KA1' := hide (KA1.out w8 hb8)
  have HB78 := hide hb8
  clear KS hb8 KA1
  go_wp2_with fail
  refine (KA1'.out).mono ?_
  rintro e w9 ⟨rfl, hb9⟩
  have HB9 := hide (HB8.out.trans (hb9.mono HB8.out.size))
  have KA2' := hide (KA2.out w9 (HB78.out.trans (hb9.mono HB78.out.size)))
  clear KA1' hb9 KA2
  go_wp2_with fail
  refine (KA2'.out).mono ?_
  rintro e w10 ⟨rfl, hb10⟩
  have HB10 := hide (HB9.out.trans (hb10.mono HB9.out.size))
  clear KA2' hb10
  go_wp2_with fail
  go_ret
  exact ⟨by first | rfl | simp, HB10.out⟩

set_option maxHeartbeats 1000000 in
set_option maxRecDepth 100000 in
theorem viewApart_any (la : Option Addr) (ln lc : Nat) (ma : Option Addr) (mn mc : Nat) (l m : List Ev4) (w : World) (hl : EvL w (.slice la ln lc) l) (hm : EvL w (.slice ma mn mc) m) :
    Calls Try.prog 7 #[.slice la ln lc, .slice ma mn mc] w fun e w' => e = .returned (.bool true) ∧ Below w.heap.size w w' := by
  have K1 := hide (viewBegun_any w)
  have K2 := hide fun W (hW : Below w.heap.size w W) => apart_any la ln lc ma mn mc l m W (hl.over hW) (hm.over hW)
  have K3 := hide fun W (hW : Below w.heap.size w W) => apartOf_any la ln lc ma mn mc l m W (hl.over hW) (hm.over hW)
  obtain ⟨x, hx⟩ : ∃ x, x = apartX l m := ⟨_, rfl⟩
  rw [← hx] at K2 K3
  clear hl hm hx
  go_enter Try.func7, Try.ntmps7
  go_wp2_with fail
  refine (K1.out).mono ?_
  rintro e w1 ⟨rfl, hb1⟩
  have K2' := hide (K2.out w1 hb1)
  have HB1 := hide hb1
  clear K1 K2 hb1
  go_wp2_with fail
  refine (K2'.out).mono ?_
  rintro e w2 ⟨rfl, hb2⟩
  have HB2 := hide (HB1.out.trans (hb2.mono HB1.out.size))
  have K3' := hide (K3.out w2 HB2.out)
  clear K2' K3 hb2
  go_wp2_with fail
  refine (K3'.out).mono ?_
  rintro e w3 ⟨rfl, hb3⟩
  have HB3 := hide (HB2.out.trans (hb3.mono HB2.out.size))
  clear K3' hb3
  go_wp2_with fail
  go_ret
  exact ⟨by first | rfl | simp, HB3.out⟩
theorem RightI.more {n nv nf : Nat} {known : List Bool} {L : List Lev} {st : ISt} (h : RightI n nv nf known L st) (b : Bool) : RightI n nv nf known L ⟨st.vs, st.fs, b⟩ := ⟨h.lv, h.lf, h.rv, h.rf, h.kn⟩
end Go.Proofs.Ytcbbjjenkommeaa.Ex
namespace Go.Proofs.Ytcbbjjenkommeaa
open Go.RowKit
set_option linter.unusedVariables false
attribute [local go_sem ↓] Go.wp_at_zero Go.wp_at_succ

def lv : Lev := ⟨[false, true], [true, true]⟩
end Go.Proofs.Ytcbbjjenkommeaa
namespace Go.Proofs.Ytcbbjjenkommeaa.Ex
open Go.RowKit
set_option linter.unusedVariables false
/-- a row of one's own, made since, whose levels lay there already. -/
def ApL (W0 W : World) (v : Value) (Ls : List Lev) : Prop :=
  ∃ us : List Value, W.ownsRow W0.heap.size 62 2 v Ls.length us ∧ ∀ i (h : i < Ls.length), ∃ x y, us[i * 2]? = some x ∧ us[i * 2 + 1]? = some y ∧ LevAt W0 (.agg #[x, y]) Ls[i]
theorem ApL.keep {W0 W W' : World} {v : Value} {Ls : List Lev} {row : Option Nat} (h : ApL W0 W v Ls) (hg : W.grownBy W' row) (ha : v.ownBlock = none ∨ v.ownBlock ≠ row) : ApL W0 W' v Ls := by
  obtain ⟨us, ho, hel⟩ := h
  exact ⟨us, ho.kept hg ha, hel⟩
theorem ApL.levs {W0 W : World} {v : Value} {Ls : List Lev} (h : ApL W0 W v Ls) (hb : Below W0.heap.size W0 W) : IsLevs W v Ls := by
  obtain ⟨us, ho, hel⟩ := h
  rcases ho.2 with ⟨h, h0⟩ | ⟨g, cap, cur, h, hb', hg, hc1, hc2, hc3, hc4⟩
  · have : Ls = [] := List.eq_nil_of_length_eq_zero h0
    subst this
    exact ⟨none, 0, h, fun h => absurd rfl h⟩
  · refine ⟨some ⟨g, 0, none⟩, cap, h, fun hne => ⟨g, 0, rfl, fun i hi => ?_⟩⟩
    obtain ⟨x, y, e0, e1, hl⟩ := hel i hi
    have hcell : ∀ j u, us[j]? = some u → W.cell? ⟨g, 0 + j, none⟩ = some u := fun j u hu => by
      rw [Nat.zero_add, Lib.cell_of_heap hg]
      rw [← hc4, List.getElem?_take] at hu
      split at hu
      · simpa using hu
      · cases hu
    exact ⟨x, y, hcell _ _ e0, by have := hcell _ _ e1; simpa [Nat.add_assoc] using this, levAt_over hl hb⟩
theorem ApL.over {W0 W W' : World} {v : Value} {Ls : List Lev} (h : ApL W0 W v Ls) (hb : Below W.heap.size W W') : ApL W0 W' v Ls :=
  h.keep (row := none) ⟨hb.os, hb.tape, hb.output, hb.size, fun k hk _ => hb.block k hk⟩ (by cases v.ownBlock <;> simp)
end Go.Proofs.Ytcbbjjenkommeaa.Ex
namespace Go.Proofs.Ytcbbjjenkommeaa.Ex
open Go.RowKit Go.ChangeShapes Go.WideShapes
set_option linter.unusedVariables false
theorem Try.cells3' : Try.prog.cellsOf 3 = 1 := by kernel_rfl
/-- a list lies in memory, each element by itself. -/
def LAt {α : Type} (s : Nat) (R : List Value → α → Prop) (W : World) (v : Value) (ds : List α) : Prop :=
  ds.length ≤ maxLen ∧ ∃ ao cap, v = .slice ao ds.length cap ∧ ds.length ≤ cap ∧ cap ≤ maxLen ∧ (ao = none → cap = 0) ∧ (ds ≠ [] → ∃ b off, ao = some ⟨b, off, none⟩ ∧
    ∀ (i : Nat) (d : α), ds[i]? = some d → ∃ cs : List Value, cs.length = s ∧ (∀ (j : Nat) (u : Value), cs[j]? = some u → W.cell? ⟨b, off + i * s + j, none⟩ = some u) ∧ R cs d)

section
variable {H : Type} {enc : TypeId × Value → H} {W : World}

theorem open_list {α : Type} {TS E s : Nat} (hU : Try.prog.underlying TS = some (.slice E)) (hc : Try.prog.cellsOf E = s) (hs : 0 < s) {fuel : Nat} {v : Value} {x : DataW H × List MemPlace} (h : DataW.trod enc Try.prog W 0 (fun _ => true) true fuel TS [v] = some x)
    (d0 : α) (R : List Value → α → Prop) (hel : ∀ (m : Nat) (cs : List Value) (y : DataW H × List MemPlace), m < fuel → DataW.trod enc Try.prog W 0 (fun _ => true) true m E cs = some y → ∃ d, R cs d) : ∃ ds : List α, LAt s R W v ds := by
  haveI : Inhabited α := ⟨d0⟩
  rcases DataW.trod_slice hU h with ⟨hcs, -⟩ | ⟨ad, len, cap, elems, rest, m, rfl, hcs, -, -, hlc, hcm, hen, hat, -, -⟩
  · simp at hcs
    subst hcs
    exact ⟨[], by simp, none, 0, rfl, by simp, by unfold maxLen; omega, fun _ => rfl, fun h => absurd rfl h⟩
  · simp at hcs
    subst hcs
    rw [hc] at hat
    have hget : ∀ i, i < len → ∃ d : α, ∃ cs : List Value, cs.length = s ∧ (∀ (j : Nat) (u : Value), cs[j]? = some u → W.cell? (ad.add (i * s + j)) = some u) ∧ R cs d := fun i hi => by
      have hi2 := hat i hi
      rw [List.getElem?_eq_getElem (by omega), Option.bind_eq_some_iff] at hi2
      obtain ⟨cs, hcc, ht⟩ := hi2
      obtain ⟨-, hlen, hcell⟩ := World.cells?_some hcc
      obtain ⟨d, hd⟩ := hel m cs _ (Nat.lt_succ_self _) ht
      refine ⟨d, cs, hlen, fun j u hu => ?_, hd⟩
      have hj : j < s := by have := (List.getElem?_eq_some_iff.1 hu).1; omega
      have hk := hcell j hj
      rw [hu] at hk
      rw [Addr.add_add] at hk
      exact hk
    obtain ⟨f, hf⟩ := Deep.choose_lt hget
    refine ⟨(List.range len).map f, by simp; omega, some ad, cap, by simp, by simpa using hlc, hcm, fun h => absurd h (by simp), fun hne => ?_⟩
    have h0 : 0 < len := by
      rcases Nat.eq_zero_or_pos len with h | h
      · subst h; simp at hne
      · exact h
    have hp : ∃ b off, ad = ⟨b, off, none⟩ := by
      obtain ⟨cs, hl, hcl, -⟩ := hf 0 h0
      obtain ⟨u, hu⟩ : ∃ u, cs[0]? = some u := ⟨cs[0]'(by omega), List.getElem?_eq_getElem (by omega)⟩
      have hk := hcl 0 u hu
      have hsp : ad.spot = none := by simpa [Addr.add] using World.cell?_spot hk
      obtain ⟨b, off, sp⟩ := ad
      simp only at hsp
      subst hsp
      exact ⟨b, off, rfl⟩
    obtain ⟨bb, off, rfl⟩ := hp
    refine ⟨bb, off, rfl, fun i d hd => ?_⟩
    have hi : i < len := by
      have := (List.getElem?_eq_some_iff.1 hd).1
      simpa using this
    have hd' : d = f i := by
      rw [List.getElem?_map, List.getElem?_range hi] at hd
      simpa using hd.symm
    subst hd'
    obtain ⟨cs, hl, hcl, hr⟩ := hf i hi
    exact ⟨cs, hl, fun j u hu => by have := hcl j u hu; rw [Addr.add_lit] at this; simpa [Nat.add_assoc] using this, hr⟩

theorem open_int1 {m : Nat} {cs : List Value} {y : DataW H × List MemPlace} (h : DataW.trod enc Try.prog W 0 (fun _ => true) true m 3 cs = some y) : ∃ n : Int, cs = [.int .i64 n] ∧ In64 n := by
  obtain ⟨n, e, -, hw⟩ := DataW.trod_int Try.underlying3 h
  exact ⟨n, e, wf64 hw⟩
end
theorem Try.cellsEv : Try.prog.cellsOf 71 = 4 := by kernel_rfl
section
variable {H : Type} {enc : TypeId × Value → H} {W : World}
set_option maxRecDepth 100000 in
theorem open_evsL {fuel : Nat} {v : Value} {x : DataW H × List MemPlace} (h : DataW.trod enc Try.prog W 0 (fun _ => true) true fuel 43 [v] = some x) : ∃ l : List Ev4, EvL W v l := by
  obtain ⟨l, hl⟩ := open_list Try.underlying43 Try.cellsEv (by omega) h (0, 0, 0, 0) (fun cs (x : Ev4) => cs = [.int .i64 x.1, .int .i64 x.2.1, .int .i64 x.2.2.1, .int .i64 x.2.2.2]) fun m cs y _ hy => by
    obtain ⟨xs, n, rfl, -, hl, hxl, hf⟩ := DataW.trod_struct Try.underlying71 hy
    rw [Try.cellsEv] at hl
    match cs, hl, xs, hxl with
    | [c0, c1, c2, c3], _, [y0, y1, y2, y3], _ =>
      have h0 := hf 0 _ rfl
      have h1 := hf 1 _ rfl
      have h2 := hf 2 _ rfl
      have h3 := hf 3 _ rfl
      simp [Try.cells3'] at h0 h1 h2 h3
      obtain ⟨a, e0, -⟩ := open_int1 h0
      obtain ⟨b, e1, -⟩ := open_int1 h1
      obtain ⟨c, e2, -⟩ := open_int1 h2
      obtain ⟨d, e3, -⟩ := open_int1 h3
      simp at e0 e1 e2 e3
      subst e0
      subst e1
      subst e2
      subst e3
      exact ⟨(a, b, c, d), rfl⟩
  obtain ⟨hm, ao, cap, hv, -, -, -, hc⟩ := hl
  refine ⟨l, hm, ao, cap, hv, fun hne => ?_⟩
  obtain ⟨b, off, hb, hel⟩ := hc hne
  refine ⟨b, off, hb, fun i hi => ?_⟩
  obtain ⟨cs, -, hcs, rfl⟩ := hel i l[i] (List.getElem?_eq_getElem hi)
  exact ⟨hcs 0 _ rfl, hcs 1 _ rfl, hcs 2 _ rfl, hcs 3 _ rfl⟩
set_option maxRecDepth 100000 in
theorem open_evs {r : Go.Reach} {b0 : Nat} {v : Value} {d : DataW H} {p : List MemPlace} (hv : Value.okWide Try.prog W r b0 43 v) (h : DataW.Trod enc Try.prog W 0 (fun _ => true) true 43 v d p) :
    ∃ (a : Option Addr) (n c : Nat) (l : List Ev4), v = .slice a n c ∧ EvL W (.slice a n c) l := by
  obtain ⟨a, n, c, rfl⟩ := okWide_slice Try.underlying43 hv
  obtain ⟨fuel, hf⟩ := h
  have hf2 : DataW.trod enc Try.prog W 0 (fun _ => true) true fuel 43 [.slice a n c] = some (d, p) := by simpa [Value.cells] using hf
  obtain ⟨l, h1⟩ := open_evsL hf2
  exact ⟨a, n, c, l, rfl, h1⟩
end
end Go.Proofs.Ytcbbjjenkommeaa.Ex
