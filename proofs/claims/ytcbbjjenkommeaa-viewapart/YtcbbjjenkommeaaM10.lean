/- What a command asks of levels: commands that call nothing, nor get. -/
import Derived.Test.YtcbbjjenkommeaaM09
namespace Go.Proofs.Ytcbbjjenkommeaa.Ex
open Go.RowKit
set_option linter.unusedVariables false
theorem LevO.mix {n : Nat} {X : World → Nat → Prop} {W : World} {x y x' y' : Value} {l k : Lev} (h : LevO n X W (.agg #[x, y]) l) (h2 : LevO n X W (.agg #[x', y']) k) : LevO n X W (.agg #[x, y']) ⟨l.r, k.w⟩ := by
  obtain ⟨a, b, e, ha, hb⟩ := h.at_
  obtain ⟨a', b', e', ha', hb'⟩ := h2.at_
  obtain ⟨u, v, f, hu, hv⟩ := h.off
  obtain ⟨u', v', f', hu', hv'⟩ := h2.off
  simp at e e' f f'
  obtain ⟨rfl, rfl⟩ := e
  obtain ⟨rfl, rfl⟩ := e'
  obtain ⟨rfl, rfl⟩ := f
  obtain ⟨rfl, rfl⟩ := f'
  exact ⟨⟨_, _, rfl, ha, hb'⟩, ⟨h.len.1, h2.len.2⟩, _, _, rfl, hu, hv'⟩

section
variable {σ : Type} {c : WC} {w0 : World} {K nv ni no : Nat} {fs : List FnD} {gs : List (Int × Int)} {lev flev : σ → List Lev} {Inv : σ → World → Prop} {X : World → Nat → Prop} {s : Nat} {G : FuncId} {d1 d2 : Value}

set_option maxHeartbeats 4000000 in
set_option maxRecDepth 100000 in
theorem askDo1 (I : WInv c w0 nv fs gs lev flev Inv X) (flow : Lev → Bool × Nat → σ → σ) (hC : ∀ (args : Array Value) (w : World), (callFunc G args).run Try.prog w = .ok (.enter G args) w) (hfl : Hid (FlowOk c nv fs Inv X flow G d1 d2)) (vs : List (Bool × Lab)) (hvs : VarsAt w0 (.slice c.va c.vn c.vc) vs) (hnv : vs.length = nv)
    (ls : List Lab) (hls : LabsAt w0 (.slice c.ya c.yn c.yc) ls) (hlc : ∀ b ∈ ls, lChk c.n gs b = 0) (hni : ls.length = ni) (hni5 : ni ≤ 5) (kf : Nat) (hfs : FnsAt w0 K kf (.slice c.fa c.fn c.fc) fs) (hf5 : fs.length ≤ 5) (hof : ∀ i (h : i < fs.length), okF K nv ni no (i : Int) fs kf fs[i])
    (st : σ) (W : World) (a : Int) (k : Nat) (cs : List Value) (d : D) (v : Value) (p : Lev) (funcs : Int) (hI : Inv st W) (hB : AskBox c X s G d1 d2 W) (hrs : RS w0 K (k + 1) cs d) (hfn : funcs ≤ fs.length) (hok : okS1 K nv ni no funcs fs d) (hl : LevO c.n X W v p) (hk : sKind d = 1) :
    Calls Try.prog 77 #[.int .i64 a, .agg cs.toArray, v, .pointer (some ⟨s, 0, none⟩), .pointer (some ⟨s + 1 + 1, 0, none⟩), .pointer (some ⟨s + 1, 0, none⟩)] W fun e W' => e = .returned (.tuple #[]) ∧ (Inv (askS c.n K lev (vs.map Prod.fst) (ls.map (levOf (gnOf gs) c.n)) fs flow a d p st) W' ∧ AskBox c X s G d1 d2 W') ∧ FrW X W W' := by
  obtain ⟨p1, q1, r1, p2, q2, r2, rfl⟩ := hl.form
  obtain ⟨ek, en, xa, xl, xc, aa, ac, ta, tc, ea, ec, rfl, i0, i1, i2, hX, hA, hT, hE, -, -, -⟩ := hrs.form
  obtain ⟨vr, hvr⟩ : ∃ q, q = sVar d := ⟨_, rfl⟩
  obtain ⟨ot, hot⟩ : ∃ q, q = sOther d := ⟨_, rfl⟩
  obtain ⟨al, hal⟩ : ∃ q, q = (sArgs d).length := ⟨_, rfl⟩
  obtain ⟨tl, htl⟩ : ∃ q, q = (sThen d).length := ⟨_, rfl⟩
  obtain ⟨el, hel⟩ : ∃ q, q = (sElse d).length := ⟨_, rfl⟩
  have hkd : sC (sKind d) (sVar d) (sOther d) ek en xa xl xc aa (sArgs d).length ac ta (sThen d).length tc ea (sElse d).length ec = sC 1 (sVar d) (sOther d) ek en xa xl xc aa (sArgs d).length ac ta (sThen d).length tc ea (sElse d).length ec := by rw [hk]
  rw [hkd]
  clear hkd
  rw [← hvr, ← hot, ← hal, ← htl, ← hel]
  have HVR := hide hvr
  have HOT := hide hot
  have HAL := hide hal
  have hb : Below W.heap.size W ((W.alloc (.cells #[.int .i64 1, .int .i64 vr, .int .i64 ot, .int .i64 ek, .int .i64 en, .slice xa xl xc, .slice aa al ac, .slice ta tl tc, .slice ea el ec] 78)).alloc (.cells #[.slice p1 q1 r1, .slice p2 q2 r2] 62)) := ((Below.refl _ W).alloc (Nat.le_refl _) _).alloc (by simp) _
  have hI1 := I.over _ _ _ hI hb
  have hB1 := hB.over I.xok hb
  have hl1 := hl.over I.xok hb
  have hF1 := FrW.of_below I.xok hb
  have rowS : RowAt [.int .i64 1, .int .i64 vr, .int .i64 ot, .int .i64 ek, .int .i64 en, .slice xa xl xc, .slice aa al ac, .slice ta tl tc, .slice ea el ec] ((W.alloc (.cells #[.int .i64 1, .int .i64 vr, .int .i64 ot, .int .i64 ek, .int .i64 en, .slice xa xl xc, .slice aa al ac, .slice ta tl tc, .slice ea el ec] 78)).alloc (.cells #[.slice p1 q1 r1, .slice p2 q2 r2] 62)) W.heap.size := (RowAt.new [.int .i64 1, .int .i64 vr, .int .i64 ot, .int .i64 ek, .int .i64 en, .slice xa xl xc, .slice aa al ac, .slice ta tl tc, .slice ea el ec] 78 W).over ((Below.refl _ _).alloc (Nat.le_refl _) _)
  have rowP : RowAt [.slice p1 q1 r1, .slice p2 q2 r2] ((W.alloc (.cells #[.int .i64 1, .int .i64 vr, .int .i64 ot, .int .i64 ek, .int .i64 en, .slice xa xl xc, .slice aa al ac, .slice ta tl tc, .slice ea el ec] 78)).alloc (.cells #[.slice p1 q1 r1, .slice p2 q2 r2] 62)) (W.heap.size + 1) := by
    have r := RowAt.new [.slice p1 q1 r1, .slice p2 q2 r2] 62 (W.alloc (.cells #[.int .i64 1, .int .i64 vr, .int .i64 ot, .int .i64 ek, .int .i64 en, .slice xa xl xc, .slice aa al ac, .slice ta tl tc, .slice ea el ec] 78))
    simpa using r
  have xS : ¬ X ((W.alloc (.cells #[.int .i64 1, .int .i64 vr, .int .i64 ot, .int .i64 ek, .int .i64 en, .slice xa xl xc, .slice aa al ac, .slice ta tl tc, .slice ea el ec] 78)).alloc (.cells #[.slice p1 q1 r1, .slice p2 q2 r2] 62)) W.heap.size := fun h => by have := I.xlt _ _ hI _ (I.xok.below _ _ hb _ h); omega
  have xP : ¬ X ((W.alloc (.cells #[.int .i64 1, .int .i64 vr, .int .i64 ot, .int .i64 ek, .int .i64 en, .slice xa xl xc, .slice aa al ac, .slice ta tl tc, .slice ea el ec] 78)).alloc (.cells #[.slice p1 q1 r1, .slice p2 q2 r2] 62)) (W.heap.size + 1) := fun h => by have := I.xlt _ _ hI _ (I.xok.below _ _ hb _ h); omega
  have hBe := I.below _ _ hI1
  have hlv := I.levs _ _ hI1
  have KW := hide (withC c I.n1 I.n6 gs (lev st) X I.xok _ p K [.int .i64 ek, .int .i64 en, .slice xa xl xc] (sExpr d) _ (isGrants_over I.gr hBe) I.chk hlv.1 hl1 (by rw [hlv.2]; exact I.nv16) (I.xlt _ _ hI1) (hX.over hBe) (by rw [hlv.2]; exact varsX_stmt hok))
  have KV := hide (fun (st : σ) (W : World) (v : Value) (l : Lev) (i : Int) => toVarW (s := s) I flow hC hfl vs hvs hnv st W v l i)
  have t0 := hB1.row 0 _ rfl
  have t1 := hB1.row 1 _ rfl
  have t2 := hB1.row 2 _ rfl
  have t3 := hB1.row 3 _ rfl
  have t4 := hB1.row 4 _ rfl
  have t5 := hB1.row 5 _ rfl
  have t6 := hB1.row 6 _ rfl
  have t7 := hB1.row 7 _ rfl
  have t8 := hB1.row 8 _ rfl
  have t9 := hB1.row 9 _ rfl
  have g0 := rowS 0 _ rfl
  have g1 := rowS 1 _ rfl
  have g2 := rowS 2 _ rfl
  have g3 := rowS 3 _ rfl
  have g4 := rowS 4 _ rfl
  have g5 := rowS 5 _ rfl
  have g6 := rowS 6 _ rfl
  have g7 := rowS 7 _ rfl
  have g8 := rowS 8 _ rfl
  have u0 := rowP 0 _ rfl
  have u1 := rowP 1 _ rfl
  have HI := hide I
  have HI1 := hide hI1
  have HB1 := hide hB1
  have HL1 := hide hl1
  have HF1 := hide hF1
  have HRS := hide rowS
  have HRP := hide rowP
  have HXS := hide xS
  have HXP := hide xP
  have HOK := hide hok
  have HFL := hide hfl.out
  have HFS := hide hfs
  have HOF := hide hof
  have HLS := hide hls
  have HA := hide hA
  have HLC := hide hlc
  clear hI1 hB1 hl1 hF1 rowS rowP xS xP hBe hlv hvr hot hal htl hel hb hrs hX hA hT hE hI hB hl hfl hvs hok hfs hof hls hlc I
  go_enter Try.func77, Try.ntmps77
  go_wp2_with fail
  refine (KW.out).mono ?_
  rintro e W3 ⟨⟨o1, o2, o3, o4, o5, o6, rfl, hL3⟩, hb3⟩
  have hb34 := (Below.refl _ W3).alloc (Nat.le_refl _) (.cells #[.slice o1 o2 o3, .slice o4 o5 o6] 62)
  have hb14 := over_trans hb3 hb34
  have hI4 := HI.out.over _ _ _ HI1.out hb14
  have hI3 := HI.out.over _ _ _ HI1.out hb3
  have hB4 := HB1.out.over HI.out.xok hb14
  have hL4 := hL3.over HI.out.xok hb34
  have hP4 := HL1.out.over HI.out.xok hb14
  have rowA := RowAt.new [.slice o1 o2 o3, .slice o4 o5 o6] 62 W3
  have rowS := HRS.out.over hb14
  have rowP := HRP.out.over hb14
  have xS : ¬ X (W3.alloc (.cells #[.slice o1 o2 o3, .slice o4 o5 o6] 62)) W.heap.size := fun h => HXS.out (HI.out.xok.below _ _ hb14 _ h)
  have xP : ¬ X (W3.alloc (.cells #[.slice o1 o2 o3, .slice o4 o5 o6] 62)) (W.heap.size + 1) := fun h => HXP.out (HI.out.xok.below _ _ hb14 _ h)
  have xA : ¬ X (W3.alloc (.cells #[.slice o1 o2 o3, .slice o4 o5 o6] 62)) W3.heap.size := fun h => by have := HI.out.xlt _ _ hI3 _ (HI.out.xok.below _ _ hb34 _ h); omega
  have hF4 := HF1.out.trans (FrW.of_below HI.out.xok hb14)
  have HI4 := hide hI4
  have HB4 := hide hB4
  have HL4 := hide hL4
  have HP4 := hide hP4
  have HF4 := hide hF4
  have HRS4 := hide rowS
  have HRP4 := hide rowP
  have HRA4 := hide rowA
  have HXS4 := hide xS
  have HXP4 := hide xP
  have HXA4 := hide xA
  clear t0 t1 t2 t3 t4 t5 t6 t7 t8 t9 g0 g1 g2 g3 g4 g5 g6 g7 g8 u0 u1 hb3 hb34 hb14 hL3 hI4 hI3 hB4 hL4 hP4 hF4 rowA rowS rowP xS xP xA KW HI1 HB1 HL1 HF1 HRS HRP HXS HXP
  have t0 := HB4.out.row 0 _ rfl
  have t1 := HB4.out.row 1 _ rfl
  have t2 := HB4.out.row 2 _ rfl
  have t3 := HB4.out.row 3 _ rfl
  have t4 := HB4.out.row 4 _ rfl
  have t5 := HB4.out.row 5 _ rfl
  have t6 := HB4.out.row 6 _ rfl
  have t7 := HB4.out.row 7 _ rfl
  have t8 := HB4.out.row 8 _ rfl
  have t9 := HB4.out.row 9 _ rfl
  have g0 := HRS4.out 0 _ rfl
  have g1 := HRS4.out 1 _ rfl
  have g2 := HRS4.out 2 _ rfl
  have g3 := HRS4.out 3 _ rfl
  have g4 := HRS4.out 4 _ rfl
  have g5 := HRS4.out 5 _ rfl
  have g6 := HRS4.out 6 _ rfl
  have g7 := HRS4.out 7 _ rfl
  have g8 := HRS4.out 8 _ rfl
  have u0 := HRP4.out 0 _ rfl
  have u1 := HRP4.out 1 _ rfl
  have y0 := HRA4.out 0 _ rfl
  have y1 := HRA4.out 1 _ rfl
  have tv := HB4.out.toVar
  have fl := HB4.out.flow
  go_wp2_with fail
  refine (KV.out st _ _ _ vr HI4.out HB4.out HL4.out (by rw [HVR.out]; exact (HOK.out.2.1 (by omega)).1) (by rw [HVR.out]; exact (HOK.out.2.1 (by omega)).2)).mono ?_
  rintro e W5 ⟨rfl, hI5, hF5⟩
  go_wp2_with fail
  go_end0
  refine ⟨rfl, ⟨?_, HB4.out.keep hF5⟩, HF4.out.trans hF5⟩
  unfold askS
  rw [if_pos hk, ← HVR.out]
  exact hI5

set_option maxHeartbeats 4000000 in
set_option maxRecDepth 100000 in
theorem askDo5 (I : WInv c w0 nv fs gs lev flev Inv X) (flow : Lev → Bool × Nat → σ → σ) (hC : ∀ (args : Array Value) (w : World), (callFunc G args).run Try.prog w = .ok (.enter G args) w) (hfl : Hid (FlowOk c nv fs Inv X flow G d1 d2)) (vs : List (Bool × Lab)) (hvs : VarsAt w0 (.slice c.va c.vn c.vc) vs) (hnv : vs.length = nv)
    (ls : List Lab) (hls : LabsAt w0 (.slice c.ya c.yn c.yc) ls) (hlc : ∀ b ∈ ls, lChk c.n gs b = 0) (hni : ls.length = ni) (hni5 : ni ≤ 5) (kf : Nat) (hfs : FnsAt w0 K kf (.slice c.fa c.fn c.fc) fs) (hf5 : fs.length ≤ 5) (hof : ∀ i (h : i < fs.length), okF K nv ni no (i : Int) fs kf fs[i])
    (st : σ) (W : World) (a : Int) (k : Nat) (cs : List Value) (d : D) (v : Value) (p : Lev) (funcs : Int) (hI : Inv st W) (hB : AskBox c X s G d1 d2 W) (hrs : RS w0 K (k + 1) cs d) (hfn : funcs ≤ fs.length) (hok : okS1 K nv ni no funcs fs d) (hl : LevO c.n X W v p) (hk : sKind d = 5) :
    Calls Try.prog 77 #[.int .i64 a, .agg cs.toArray, v, .pointer (some ⟨s, 0, none⟩), .pointer (some ⟨s + 1 + 1, 0, none⟩), .pointer (some ⟨s + 1, 0, none⟩)] W fun e W' => e = .returned (.tuple #[]) ∧ (Inv (askS c.n K lev (vs.map Prod.fst) (ls.map (levOf (gnOf gs) c.n)) fs flow a d p st) W' ∧ AskBox c X s G d1 d2 W') ∧ FrW X W W' := by
  obtain ⟨p1, q1, r1, p2, q2, r2, rfl⟩ := hl.form
  obtain ⟨ek, en, xa, xl, xc, aa, ac, ta, tc, ea, ec, rfl, i0, i1, i2, hX, hA, hT, hE, -, -, -⟩ := hrs.form
  obtain ⟨vr, hvr⟩ : ∃ q, q = sVar d := ⟨_, rfl⟩
  obtain ⟨ot, hot⟩ : ∃ q, q = sOther d := ⟨_, rfl⟩
  obtain ⟨al, hal⟩ : ∃ q, q = (sArgs d).length := ⟨_, rfl⟩
  obtain ⟨tl, htl⟩ : ∃ q, q = (sThen d).length := ⟨_, rfl⟩
  obtain ⟨el, hel⟩ : ∃ q, q = (sElse d).length := ⟨_, rfl⟩
  have hkd : sC (sKind d) (sVar d) (sOther d) ek en xa xl xc aa (sArgs d).length ac ta (sThen d).length tc ea (sElse d).length ec = sC 5 (sVar d) (sOther d) ek en xa xl xc aa (sArgs d).length ac ta (sThen d).length tc ea (sElse d).length ec := by rw [hk]
  rw [hkd]
  clear hkd
  rw [← hvr, ← hot, ← hal, ← htl, ← hel]
  have HVR := hide hvr
  have HOT := hide hot
  have HAL := hide hal
  have hb : Below W.heap.size W ((W.alloc (.cells #[.int .i64 5, .int .i64 vr, .int .i64 ot, .int .i64 ek, .int .i64 en, .slice xa xl xc, .slice aa al ac, .slice ta tl tc, .slice ea el ec] 78)).alloc (.cells #[.slice p1 q1 r1, .slice p2 q2 r2] 62)) := ((Below.refl _ W).alloc (Nat.le_refl _) _).alloc (by simp) _
  have hI1 := I.over _ _ _ hI hb
  have hB1 := hB.over I.xok hb
  have hl1 := hl.over I.xok hb
  have hF1 := FrW.of_below I.xok hb
  have rowS : RowAt [.int .i64 5, .int .i64 vr, .int .i64 ot, .int .i64 ek, .int .i64 en, .slice xa xl xc, .slice aa al ac, .slice ta tl tc, .slice ea el ec] ((W.alloc (.cells #[.int .i64 5, .int .i64 vr, .int .i64 ot, .int .i64 ek, .int .i64 en, .slice xa xl xc, .slice aa al ac, .slice ta tl tc, .slice ea el ec] 78)).alloc (.cells #[.slice p1 q1 r1, .slice p2 q2 r2] 62)) W.heap.size := (RowAt.new [.int .i64 5, .int .i64 vr, .int .i64 ot, .int .i64 ek, .int .i64 en, .slice xa xl xc, .slice aa al ac, .slice ta tl tc, .slice ea el ec] 78 W).over ((Below.refl _ _).alloc (Nat.le_refl _) _)
  have rowP : RowAt [.slice p1 q1 r1, .slice p2 q2 r2] ((W.alloc (.cells #[.int .i64 5, .int .i64 vr, .int .i64 ot, .int .i64 ek, .int .i64 en, .slice xa xl xc, .slice aa al ac, .slice ta tl tc, .slice ea el ec] 78)).alloc (.cells #[.slice p1 q1 r1, .slice p2 q2 r2] 62)) (W.heap.size + 1) := by
    have r := RowAt.new [.slice p1 q1 r1, .slice p2 q2 r2] 62 (W.alloc (.cells #[.int .i64 5, .int .i64 vr, .int .i64 ot, .int .i64 ek, .int .i64 en, .slice xa xl xc, .slice aa al ac, .slice ta tl tc, .slice ea el ec] 78))
    simpa using r
  have xS : ¬ X ((W.alloc (.cells #[.int .i64 5, .int .i64 vr, .int .i64 ot, .int .i64 ek, .int .i64 en, .slice xa xl xc, .slice aa al ac, .slice ta tl tc, .slice ea el ec] 78)).alloc (.cells #[.slice p1 q1 r1, .slice p2 q2 r2] 62)) W.heap.size := fun h => by have := I.xlt _ _ hI _ (I.xok.below _ _ hb _ h); omega
  have xP : ¬ X ((W.alloc (.cells #[.int .i64 5, .int .i64 vr, .int .i64 ot, .int .i64 ek, .int .i64 en, .slice xa xl xc, .slice aa al ac, .slice ta tl tc, .slice ea el ec] 78)).alloc (.cells #[.slice p1 q1 r1, .slice p2 q2 r2] 62)) (W.heap.size + 1) := fun h => by have := I.xlt _ _ hI _ (I.xok.below _ _ hb _ h); omega
  have hBe := I.below _ _ hI1
  have hlv := I.levs _ _ hI1
  have KW := hide (withC c I.n1 I.n6 gs (lev st) X I.xok _ p K [.int .i64 ek, .int .i64 en, .slice xa xl xc] (sExpr d) _ (isGrants_over I.gr hBe) I.chk hlv.1 hl1 (by rw [hlv.2]; exact I.nv16) (I.xlt _ _ hI1) (hX.over hBe) (by rw [hlv.2]; exact varsX_stmt hok))
  have KV := hide (fun (st : σ) (W : World) (v : Value) (l : Lev) (i : Int) => toVarW (s := s) I flow hC hfl vs hvs hnv st W v l i)
  have t0 := hB1.row 0 _ rfl
  have t1 := hB1.row 1 _ rfl
  have t2 := hB1.row 2 _ rfl
  have t3 := hB1.row 3 _ rfl
  have t4 := hB1.row 4 _ rfl
  have t5 := hB1.row 5 _ rfl
  have t6 := hB1.row 6 _ rfl
  have t7 := hB1.row 7 _ rfl
  have t8 := hB1.row 8 _ rfl
  have t9 := hB1.row 9 _ rfl
  have g0 := rowS 0 _ rfl
  have g1 := rowS 1 _ rfl
  have g2 := rowS 2 _ rfl
  have g3 := rowS 3 _ rfl
  have g4 := rowS 4 _ rfl
  have g5 := rowS 5 _ rfl
  have g6 := rowS 6 _ rfl
  have g7 := rowS 7 _ rfl
  have g8 := rowS 8 _ rfl
  have u0 := rowP 0 _ rfl
  have u1 := rowP 1 _ rfl
  have HI := hide I
  have HI1 := hide hI1
  have HB1 := hide hB1
  have HL1 := hide hl1
  have HF1 := hide hF1
  have HRS := hide rowS
  have HRP := hide rowP
  have HXS := hide xS
  have HXP := hide xP
  have HOK := hide hok
  have HFL := hide hfl.out
  have HFS := hide hfs
  have HOF := hide hof
  have HLS := hide hls
  have HA := hide hA
  have HLC := hide hlc
  clear hI1 hB1 hl1 hF1 rowS rowP xS xP hBe hlv hvr hot hal htl hel hb hrs hX hA hT hE hI hB hl hfl hvs hok hfs hof hls hlc I
  go_enter Try.func77, Try.ntmps77
  go_wp2_with fail
  refine (KW.out).mono ?_
  rintro e W3 ⟨⟨o1, o2, o3, o4, o5, o6, rfl, hL3⟩, hb3⟩
  have hb34 := (Below.refl _ W3).alloc (Nat.le_refl _) (.cells #[.slice o1 o2 o3, .slice o4 o5 o6] 62)
  have hb14 := over_trans hb3 hb34
  have hI4 := HI.out.over _ _ _ HI1.out hb14
  have hI3 := HI.out.over _ _ _ HI1.out hb3
  have hB4 := HB1.out.over HI.out.xok hb14
  have hL4 := hL3.over HI.out.xok hb34
  have hP4 := HL1.out.over HI.out.xok hb14
  have rowA := RowAt.new [.slice o1 o2 o3, .slice o4 o5 o6] 62 W3
  have rowS := HRS.out.over hb14
  have rowP := HRP.out.over hb14
  have xS : ¬ X (W3.alloc (.cells #[.slice o1 o2 o3, .slice o4 o5 o6] 62)) W.heap.size := fun h => HXS.out (HI.out.xok.below _ _ hb14 _ h)
  have xP : ¬ X (W3.alloc (.cells #[.slice o1 o2 o3, .slice o4 o5 o6] 62)) (W.heap.size + 1) := fun h => HXP.out (HI.out.xok.below _ _ hb14 _ h)
  have xA : ¬ X (W3.alloc (.cells #[.slice o1 o2 o3, .slice o4 o5 o6] 62)) W3.heap.size := fun h => by have := HI.out.xlt _ _ hI3 _ (HI.out.xok.below _ _ hb34 _ h); omega
  have hF4 := HF1.out.trans (FrW.of_below HI.out.xok hb14)
  have HI4 := hide hI4
  have HB4 := hide hB4
  have HL4 := hide hL4
  have HP4 := hide hP4
  have HF4 := hide hF4
  have HRS4 := hide rowS
  have HRP4 := hide rowP
  have HRA4 := hide rowA
  have HXS4 := hide xS
  have HXP4 := hide xP
  have HXA4 := hide xA
  clear t0 t1 t2 t3 t4 t5 t6 t7 t8 t9 g0 g1 g2 g3 g4 g5 g6 g7 g8 u0 u1 hb3 hb34 hb14 hL3 hI4 hI3 hB4 hL4 hP4 hF4 rowA rowS rowP xS xP xA KW HI1 HB1 HL1 HF1 HRS HRP HXS HXP
  have t0 := HB4.out.row 0 _ rfl
  have t1 := HB4.out.row 1 _ rfl
  have t2 := HB4.out.row 2 _ rfl
  have t3 := HB4.out.row 3 _ rfl
  have t4 := HB4.out.row 4 _ rfl
  have t5 := HB4.out.row 5 _ rfl
  have t6 := HB4.out.row 6 _ rfl
  have t7 := HB4.out.row 7 _ rfl
  have t8 := HB4.out.row 8 _ rfl
  have t9 := HB4.out.row 9 _ rfl
  have g0 := HRS4.out 0 _ rfl
  have g1 := HRS4.out 1 _ rfl
  have g2 := HRS4.out 2 _ rfl
  have g3 := HRS4.out 3 _ rfl
  have g4 := HRS4.out 4 _ rfl
  have g5 := HRS4.out 5 _ rfl
  have g6 := HRS4.out 6 _ rfl
  have g7 := HRS4.out 7 _ rfl
  have g8 := HRS4.out 8 _ rfl
  have u0 := HRP4.out 0 _ rfl
  have u1 := HRP4.out 1 _ rfl
  have y0 := HRA4.out 0 _ rfl
  have y1 := HRA4.out 1 _ rfl
  have tv := HB4.out.toVar
  have fl := HB4.out.flow
  go_wp2_with fail
  refine (KV.out st _ _ _ vr HI4.out HB4.out (LevO.mix HP4.out HL4.out) (by rw [HVR.out]; exact (HOK.out.2.1 (by omega)).1) (by rw [HVR.out]; exact (HOK.out.2.1 (by omega)).2)).mono ?_
  rintro e W5 ⟨rfl, hI5, hF5⟩
  go_wp2_with fail
  go_end0
  refine ⟨rfl, ⟨?_, HB4.out.keep hF5⟩, HF4.out.trans hF5⟩
  unfold askS
  rw [if_neg (by omega), if_neg (by omega), if_neg (by omega), if_pos hk, ← HVR.out]
  exact hI5

set_option maxHeartbeats 4000000 in
set_option maxRecDepth 100000 in
theorem askDo6 (I : WInv c w0 nv fs gs lev flev Inv X) (flow : Lev → Bool × Nat → σ → σ) (hC : ∀ (args : Array Value) (w : World), (callFunc G args).run Try.prog w = .ok (.enter G args) w) (hfl : Hid (FlowOk c nv fs Inv X flow G d1 d2)) (vs : List (Bool × Lab)) (hvs : VarsAt w0 (.slice c.va c.vn c.vc) vs) (hnv : vs.length = nv)
    (ls : List Lab) (hls : LabsAt w0 (.slice c.ya c.yn c.yc) ls) (hlc : ∀ b ∈ ls, lChk c.n gs b = 0) (hni : ls.length = ni) (hni5 : ni ≤ 5) (kf : Nat) (hfs : FnsAt w0 K kf (.slice c.fa c.fn c.fc) fs) (hf5 : fs.length ≤ 5) (hof : ∀ i (h : i < fs.length), okF K nv ni no (i : Int) fs kf fs[i])
    (st : σ) (W : World) (a : Int) (k : Nat) (cs : List Value) (d : D) (v : Value) (p : Lev) (funcs : Int) (hI : Inv st W) (hB : AskBox c X s G d1 d2 W) (hrs : RS w0 K (k + 1) cs d) (hfn : funcs ≤ fs.length) (hok : okS1 K nv ni no funcs fs d) (hl : LevO c.n X W v p) (hk : sKind d = 6) :
    Calls Try.prog 77 #[.int .i64 a, .agg cs.toArray, v, .pointer (some ⟨s, 0, none⟩), .pointer (some ⟨s + 1 + 1, 0, none⟩), .pointer (some ⟨s + 1, 0, none⟩)] W fun e W' => e = .returned (.tuple #[]) ∧ (Inv (askS c.n K lev (vs.map Prod.fst) (ls.map (levOf (gnOf gs) c.n)) fs flow a d p st) W' ∧ AskBox c X s G d1 d2 W') ∧ FrW X W W' := by
  obtain ⟨p1, q1, r1, p2, q2, r2, rfl⟩ := hl.form
  obtain ⟨ek, en, xa, xl, xc, aa, ac, ta, tc, ea, ec, rfl, i0, i1, i2, hX, hA, hT, hE, -, -, -⟩ := hrs.form
  obtain ⟨vr, hvr⟩ : ∃ q, q = sVar d := ⟨_, rfl⟩
  obtain ⟨ot, hot⟩ : ∃ q, q = sOther d := ⟨_, rfl⟩
  obtain ⟨al, hal⟩ : ∃ q, q = (sArgs d).length := ⟨_, rfl⟩
  obtain ⟨tl, htl⟩ : ∃ q, q = (sThen d).length := ⟨_, rfl⟩
  obtain ⟨el, hel⟩ : ∃ q, q = (sElse d).length := ⟨_, rfl⟩
  have hkd : sC (sKind d) (sVar d) (sOther d) ek en xa xl xc aa (sArgs d).length ac ta (sThen d).length tc ea (sElse d).length ec = sC 6 (sVar d) (sOther d) ek en xa xl xc aa (sArgs d).length ac ta (sThen d).length tc ea (sElse d).length ec := by rw [hk]
  rw [hkd]
  clear hkd
  rw [← hvr, ← hot, ← hal, ← htl, ← hel]
  have HVR := hide hvr
  have HOT := hide hot
  have HAL := hide hal
  have hb : Below W.heap.size W ((W.alloc (.cells #[.int .i64 6, .int .i64 vr, .int .i64 ot, .int .i64 ek, .int .i64 en, .slice xa xl xc, .slice aa al ac, .slice ta tl tc, .slice ea el ec] 78)).alloc (.cells #[.slice p1 q1 r1, .slice p2 q2 r2] 62)) := ((Below.refl _ W).alloc (Nat.le_refl _) _).alloc (by simp) _
  have hI1 := I.over _ _ _ hI hb
  have hB1 := hB.over I.xok hb
  have hl1 := hl.over I.xok hb
  have hF1 := FrW.of_below I.xok hb
  have rowS : RowAt [.int .i64 6, .int .i64 vr, .int .i64 ot, .int .i64 ek, .int .i64 en, .slice xa xl xc, .slice aa al ac, .slice ta tl tc, .slice ea el ec] ((W.alloc (.cells #[.int .i64 6, .int .i64 vr, .int .i64 ot, .int .i64 ek, .int .i64 en, .slice xa xl xc, .slice aa al ac, .slice ta tl tc, .slice ea el ec] 78)).alloc (.cells #[.slice p1 q1 r1, .slice p2 q2 r2] 62)) W.heap.size := (RowAt.new [.int .i64 6, .int .i64 vr, .int .i64 ot, .int .i64 ek, .int .i64 en, .slice xa xl xc, .slice aa al ac, .slice ta tl tc, .slice ea el ec] 78 W).over ((Below.refl _ _).alloc (Nat.le_refl _) _)
  have rowP : RowAt [.slice p1 q1 r1, .slice p2 q2 r2] ((W.alloc (.cells #[.int .i64 6, .int .i64 vr, .int .i64 ot, .int .i64 ek, .int .i64 en, .slice xa xl xc, .slice aa al ac, .slice ta tl tc, .slice ea el ec] 78)).alloc (.cells #[.slice p1 q1 r1, .slice p2 q2 r2] 62)) (W.heap.size + 1) := by
    have r := RowAt.new [.slice p1 q1 r1, .slice p2 q2 r2] 62 (W.alloc (.cells #[.int .i64 6, .int .i64 vr, .int .i64 ot, .int .i64 ek, .int .i64 en, .slice xa xl xc, .slice aa al ac, .slice ta tl tc, .slice ea el ec] 78))
    simpa using r
  have xS : ¬ X ((W.alloc (.cells #[.int .i64 6, .int .i64 vr, .int .i64 ot, .int .i64 ek, .int .i64 en, .slice xa xl xc, .slice aa al ac, .slice ta tl tc, .slice ea el ec] 78)).alloc (.cells #[.slice p1 q1 r1, .slice p2 q2 r2] 62)) W.heap.size := fun h => by have := I.xlt _ _ hI _ (I.xok.below _ _ hb _ h); omega
  have xP : ¬ X ((W.alloc (.cells #[.int .i64 6, .int .i64 vr, .int .i64 ot, .int .i64 ek, .int .i64 en, .slice xa xl xc, .slice aa al ac, .slice ta tl tc, .slice ea el ec] 78)).alloc (.cells #[.slice p1 q1 r1, .slice p2 q2 r2] 62)) (W.heap.size + 1) := fun h => by have := I.xlt _ _ hI _ (I.xok.below _ _ hb _ h); omega
  have hBe := I.below _ _ hI1
  have hlv := I.levs _ _ hI1
  have KW := hide (withC c I.n1 I.n6 gs (lev st) X I.xok _ p K [.int .i64 ek, .int .i64 en, .slice xa xl xc] (sExpr d) _ (isGrants_over I.gr hBe) I.chk hlv.1 hl1 (by rw [hlv.2]; exact I.nv16) (I.xlt _ _ hI1) (hX.over hBe) (by rw [hlv.2]; exact varsX_stmt hok))
  have KV := hide (fun (st : σ) (W : World) (v : Value) (l : Lev) (i : Int) => toVarW (s := s) I flow hC hfl vs hvs hnv st W v l i)
  have t0 := hB1.row 0 _ rfl
  have t1 := hB1.row 1 _ rfl
  have t2 := hB1.row 2 _ rfl
  have t3 := hB1.row 3 _ rfl
  have t4 := hB1.row 4 _ rfl
  have t5 := hB1.row 5 _ rfl
  have t6 := hB1.row 6 _ rfl
  have t7 := hB1.row 7 _ rfl
  have t8 := hB1.row 8 _ rfl
  have t9 := hB1.row 9 _ rfl
  have g0 := rowS 0 _ rfl
  have g1 := rowS 1 _ rfl
  have g2 := rowS 2 _ rfl
  have g3 := rowS 3 _ rfl
  have g4 := rowS 4 _ rfl
  have g5 := rowS 5 _ rfl
  have g6 := rowS 6 _ rfl
  have g7 := rowS 7 _ rfl
  have g8 := rowS 8 _ rfl
  have u0 := rowP 0 _ rfl
  have u1 := rowP 1 _ rfl
  have HI := hide I
  have HI1 := hide hI1
  have HB1 := hide hB1
  have HL1 := hide hl1
  have HF1 := hide hF1
  have HRS := hide rowS
  have HRP := hide rowP
  have HXS := hide xS
  have HXP := hide xP
  have HOK := hide hok
  have HFL := hide hfl.out
  have HFS := hide hfs
  have HOF := hide hof
  have HLS := hide hls
  have HA := hide hA
  have HLC := hide hlc
  clear hI1 hB1 hl1 hF1 rowS rowP xS xP hBe hlv hvr hot hal htl hel hb hrs hX hA hT hE hI hB hl hfl hvs hok hfs hof hls hlc I
  go_enter Try.func77, Try.ntmps77
  go_wp2_with fail
  refine (KW.out).mono ?_
  rintro e W3 ⟨⟨o1, o2, o3, o4, o5, o6, rfl, hL3⟩, hb3⟩
  have hb34 := (Below.refl _ W3).alloc (Nat.le_refl _) (.cells #[.slice o1 o2 o3, .slice o4 o5 o6] 62)
  have hb14 := over_trans hb3 hb34
  have hI4 := HI.out.over _ _ _ HI1.out hb14
  have hI3 := HI.out.over _ _ _ HI1.out hb3
  have hB4 := HB1.out.over HI.out.xok hb14
  have hL4 := hL3.over HI.out.xok hb34
  have hP4 := HL1.out.over HI.out.xok hb14
  have rowA := RowAt.new [.slice o1 o2 o3, .slice o4 o5 o6] 62 W3
  have rowS := HRS.out.over hb14
  have rowP := HRP.out.over hb14
  have xS : ¬ X (W3.alloc (.cells #[.slice o1 o2 o3, .slice o4 o5 o6] 62)) W.heap.size := fun h => HXS.out (HI.out.xok.below _ _ hb14 _ h)
  have xP : ¬ X (W3.alloc (.cells #[.slice o1 o2 o3, .slice o4 o5 o6] 62)) (W.heap.size + 1) := fun h => HXP.out (HI.out.xok.below _ _ hb14 _ h)
  have xA : ¬ X (W3.alloc (.cells #[.slice o1 o2 o3, .slice o4 o5 o6] 62)) W3.heap.size := fun h => by have := HI.out.xlt _ _ hI3 _ (HI.out.xok.below _ _ hb34 _ h); omega
  have hF4 := HF1.out.trans (FrW.of_below HI.out.xok hb14)
  have HI4 := hide hI4
  have HB4 := hide hB4
  have HL4 := hide hL4
  have HP4 := hide hP4
  have HF4 := hide hF4
  have HRS4 := hide rowS
  have HRP4 := hide rowP
  have HRA4 := hide rowA
  have HXS4 := hide xS
  have HXP4 := hide xP
  have HXA4 := hide xA
  clear t0 t1 t2 t3 t4 t5 t6 t7 t8 t9 g0 g1 g2 g3 g4 g5 g6 g7 g8 u0 u1 hb3 hb34 hb14 hL3 hI4 hI3 hB4 hL4 hP4 hF4 rowA rowS rowP xS xP xA KW HI1 HB1 HL1 HF1 HRS HRP HXS HXP
  have t0 := HB4.out.row 0 _ rfl
  have t1 := HB4.out.row 1 _ rfl
  have t2 := HB4.out.row 2 _ rfl
  have t3 := HB4.out.row 3 _ rfl
  have t4 := HB4.out.row 4 _ rfl
  have t5 := HB4.out.row 5 _ rfl
  have t6 := HB4.out.row 6 _ rfl
  have t7 := HB4.out.row 7 _ rfl
  have t8 := HB4.out.row 8 _ rfl
  have t9 := HB4.out.row 9 _ rfl
  have g0 := HRS4.out 0 _ rfl
  have g1 := HRS4.out 1 _ rfl
  have g2 := HRS4.out 2 _ rfl
  have g3 := HRS4.out 3 _ rfl
  have g4 := HRS4.out 4 _ rfl
  have g5 := HRS4.out 5 _ rfl
  have g6 := HRS4.out 6 _ rfl
  have g7 := HRS4.out 7 _ rfl
  have g8 := HRS4.out 8 _ rfl
  have u0 := HRP4.out 0 _ rfl
  have u1 := HRP4.out 1 _ rfl
  have y0 := HRA4.out 0 _ rfl
  have y1 := HRA4.out 1 _ rfl
  have tv := HB4.out.toVar
  have fl := HB4.out.flow
  go_wp2_with fail
  refine (KV.out st _ _ _ vr HI4.out HB4.out (LevO.mix HL4.out HP4.out) (by rw [HVR.out]; exact (HOK.out.2.1 (by omega)).1) (by rw [HVR.out]; exact (HOK.out.2.1 (by omega)).2)).mono ?_
  rintro e W5 ⟨rfl, hI5, hF5⟩
  go_wp2_with fail
  go_end0
  refine ⟨rfl, ⟨?_, HB4.out.keep hF5⟩, HF4.out.trans hF5⟩
  unfold askS
  rw [if_neg (by omega), if_neg (by omega), if_neg (by omega), if_neg (by omega), if_pos hk, ← HVR.out]
  exact hI5

set_option maxHeartbeats 4000000 in
set_option maxRecDepth 100000 in
theorem askDo0 (I : WInv c w0 nv fs gs lev flev Inv X) (flow : Lev → Bool × Nat → σ → σ) (hC : ∀ (args : Array Value) (w : World), (callFunc G args).run Try.prog w = .ok (.enter G args) w) (hfl : Hid (FlowOk c nv fs Inv X flow G d1 d2)) (vs : List (Bool × Lab)) (hvs : VarsAt w0 (.slice c.va c.vn c.vc) vs) (hnv : vs.length = nv)
    (ls : List Lab) (hls : LabsAt w0 (.slice c.ya c.yn c.yc) ls) (hlc : ∀ b ∈ ls, lChk c.n gs b = 0) (hni : ls.length = ni) (hni5 : ni ≤ 5) (kf : Nat) (hfs : FnsAt w0 K kf (.slice c.fa c.fn c.fc) fs) (hf5 : fs.length ≤ 5) (hof : ∀ i (h : i < fs.length), okF K nv ni no (i : Int) fs kf fs[i])
    (st : σ) (W : World) (a : Int) (k : Nat) (cs : List Value) (d : D) (v : Value) (p : Lev) (funcs : Int) (hI : Inv st W) (hB : AskBox c X s G d1 d2 W) (hrs : RS w0 K (k + 1) cs d) (hfn : funcs ≤ fs.length) (hok : okS1 K nv ni no funcs fs d) (hl : LevO c.n X W v p) (hk : sKind d = 4 ∨ sKind d = 7 ∨ sKind d = 8) :
    Calls Try.prog 77 #[.int .i64 a, .agg cs.toArray, v, .pointer (some ⟨s, 0, none⟩), .pointer (some ⟨s + 1 + 1, 0, none⟩), .pointer (some ⟨s + 1, 0, none⟩)] W fun e W' => e = .returned (.tuple #[]) ∧ (Inv (askS c.n K lev (vs.map Prod.fst) (ls.map (levOf (gnOf gs) c.n)) fs flow a d p st) W' ∧ AskBox c X s G d1 d2 W') ∧ FrW X W W' := by
  have hd : askS c.n K lev (vs.map Prod.fst) (ls.map (levOf (gnOf gs) c.n)) fs flow a d p st = st := by
    unfold askS
    rw [if_neg (by omega), if_neg (by omega), if_neg (by omega), if_neg (by omega), if_neg (by omega)]
  rw [hd]
  have HD := hide hd
  clear hd
  obtain ⟨p1, q1, r1, p2, q2, r2, rfl⟩ := hl.form
  obtain ⟨ek, en, xa, xl, xc, aa, ac, ta, tc, ea, ec, rfl, i0, i1, i2, hX, hA, hT, hE, -, -, -⟩ := hrs.form
  obtain ⟨vr, hvr⟩ : ∃ q, q = sVar d := ⟨_, rfl⟩
  obtain ⟨ot, hot⟩ : ∃ q, q = sOther d := ⟨_, rfl⟩
  obtain ⟨al, hal⟩ : ∃ q, q = (sArgs d).length := ⟨_, rfl⟩
  obtain ⟨tl, htl⟩ : ∃ q, q = (sThen d).length := ⟨_, rfl⟩
  obtain ⟨el, hel⟩ : ∃ q, q = (sElse d).length := ⟨_, rfl⟩
  obtain ⟨kd, hkd⟩ : ∃ q, q = sKind d := ⟨_, rfl⟩
  rw [← hkd] at hk ⊢
  have n1 : (kd == 1) = false := by simp; omega
  have n2 : (kd == 2) = false := by simp; omega
  have n3 : (kd == 3) = false := by simp; omega
  have n5 : (kd == 5) = false := by simp; omega
  have n6 : (kd == 6) = false := by simp; omega
  clear hkd hk
  rw [← hvr, ← hot, ← hal, ← htl, ← hel]
  have HVR := hide hvr
  have HOT := hide hot
  have HAL := hide hal
  have hb : Below W.heap.size W ((W.alloc (.cells #[.int .i64 kd, .int .i64 vr, .int .i64 ot, .int .i64 ek, .int .i64 en, .slice xa xl xc, .slice aa al ac, .slice ta tl tc, .slice ea el ec] 78)).alloc (.cells #[.slice p1 q1 r1, .slice p2 q2 r2] 62)) := ((Below.refl _ W).alloc (Nat.le_refl _) _).alloc (by simp) _
  have hI1 := I.over _ _ _ hI hb
  have hB1 := hB.over I.xok hb
  have hl1 := hl.over I.xok hb
  have hF1 := FrW.of_below I.xok hb
  have rowS : RowAt [.int .i64 kd, .int .i64 vr, .int .i64 ot, .int .i64 ek, .int .i64 en, .slice xa xl xc, .slice aa al ac, .slice ta tl tc, .slice ea el ec] ((W.alloc (.cells #[.int .i64 kd, .int .i64 vr, .int .i64 ot, .int .i64 ek, .int .i64 en, .slice xa xl xc, .slice aa al ac, .slice ta tl tc, .slice ea el ec] 78)).alloc (.cells #[.slice p1 q1 r1, .slice p2 q2 r2] 62)) W.heap.size := (RowAt.new [.int .i64 kd, .int .i64 vr, .int .i64 ot, .int .i64 ek, .int .i64 en, .slice xa xl xc, .slice aa al ac, .slice ta tl tc, .slice ea el ec] 78 W).over ((Below.refl _ _).alloc (Nat.le_refl _) _)
  have rowP : RowAt [.slice p1 q1 r1, .slice p2 q2 r2] ((W.alloc (.cells #[.int .i64 kd, .int .i64 vr, .int .i64 ot, .int .i64 ek, .int .i64 en, .slice xa xl xc, .slice aa al ac, .slice ta tl tc, .slice ea el ec] 78)).alloc (.cells #[.slice p1 q1 r1, .slice p2 q2 r2] 62)) (W.heap.size + 1) := by
    have r := RowAt.new [.slice p1 q1 r1, .slice p2 q2 r2] 62 (W.alloc (.cells #[.int .i64 kd, .int .i64 vr, .int .i64 ot, .int .i64 ek, .int .i64 en, .slice xa xl xc, .slice aa al ac, .slice ta tl tc, .slice ea el ec] 78))
    simpa using r
  have xS : ¬ X ((W.alloc (.cells #[.int .i64 kd, .int .i64 vr, .int .i64 ot, .int .i64 ek, .int .i64 en, .slice xa xl xc, .slice aa al ac, .slice ta tl tc, .slice ea el ec] 78)).alloc (.cells #[.slice p1 q1 r1, .slice p2 q2 r2] 62)) W.heap.size := fun h => by have := I.xlt _ _ hI _ (I.xok.below _ _ hb _ h); omega
  have xP : ¬ X ((W.alloc (.cells #[.int .i64 kd, .int .i64 vr, .int .i64 ot, .int .i64 ek, .int .i64 en, .slice xa xl xc, .slice aa al ac, .slice ta tl tc, .slice ea el ec] 78)).alloc (.cells #[.slice p1 q1 r1, .slice p2 q2 r2] 62)) (W.heap.size + 1) := fun h => by have := I.xlt _ _ hI _ (I.xok.below _ _ hb _ h); omega
  have hBe := I.below _ _ hI1
  have hlv := I.levs _ _ hI1
  have KW := hide (withC c I.n1 I.n6 gs (lev st) X I.xok _ p K [.int .i64 ek, .int .i64 en, .slice xa xl xc] (sExpr d) _ (isGrants_over I.gr hBe) I.chk hlv.1 hl1 (by rw [hlv.2]; exact I.nv16) (I.xlt _ _ hI1) (hX.over hBe) (by rw [hlv.2]; exact varsX_stmt hok))
  have KV := hide (fun (st : σ) (W : World) (v : Value) (l : Lev) (i : Int) => toVarW (s := s) I flow hC hfl vs hvs hnv st W v l i)
  have t0 := hB1.row 0 _ rfl
  have t1 := hB1.row 1 _ rfl
  have t2 := hB1.row 2 _ rfl
  have t3 := hB1.row 3 _ rfl
  have t4 := hB1.row 4 _ rfl
  have t5 := hB1.row 5 _ rfl
  have t6 := hB1.row 6 _ rfl
  have t7 := hB1.row 7 _ rfl
  have t8 := hB1.row 8 _ rfl
  have t9 := hB1.row 9 _ rfl
  have g0 := rowS 0 _ rfl
  have g1 := rowS 1 _ rfl
  have g2 := rowS 2 _ rfl
  have g3 := rowS 3 _ rfl
  have g4 := rowS 4 _ rfl
  have g5 := rowS 5 _ rfl
  have g6 := rowS 6 _ rfl
  have g7 := rowS 7 _ rfl
  have g8 := rowS 8 _ rfl
  have u0 := rowP 0 _ rfl
  have u1 := rowP 1 _ rfl
  have HI := hide I
  have HI1 := hide hI1
  have HB1 := hide hB1
  have HL1 := hide hl1
  have HF1 := hide hF1
  have HRS := hide rowS
  have HRP := hide rowP
  have HXS := hide xS
  have HXP := hide xP
  have HOK := hide hok
  have HFL := hide hfl.out
  have HFS := hide hfs
  have HOF := hide hof
  have HLS := hide hls
  have HA := hide hA
  have HLC := hide hlc
  clear hI1 hB1 hl1 hF1 rowS rowP xS xP hBe hlv hvr hot hal htl hel hb hrs hX hA hT hE hI hB hl hfl hvs hok hfs hof hls hlc I
  go_enter Try.func77, Try.ntmps77
  go_wp2_with fail
  refine (KW.out).mono ?_
  rintro e W3 ⟨⟨o1, o2, o3, o4, o5, o6, rfl, hL3⟩, hb3⟩
  have hb34 := (Below.refl _ W3).alloc (Nat.le_refl _) (.cells #[.slice o1 o2 o3, .slice o4 o5 o6] 62)
  have hb14 := over_trans hb3 hb34
  have hI4 := HI.out.over _ _ _ HI1.out hb14
  have hI3 := HI.out.over _ _ _ HI1.out hb3
  have hB4 := HB1.out.over HI.out.xok hb14
  have hL4 := hL3.over HI.out.xok hb34
  have hP4 := HL1.out.over HI.out.xok hb14
  have rowA := RowAt.new [.slice o1 o2 o3, .slice o4 o5 o6] 62 W3
  have rowS := HRS.out.over hb14
  have rowP := HRP.out.over hb14
  have xS : ¬ X (W3.alloc (.cells #[.slice o1 o2 o3, .slice o4 o5 o6] 62)) W.heap.size := fun h => HXS.out (HI.out.xok.below _ _ hb14 _ h)
  have xP : ¬ X (W3.alloc (.cells #[.slice o1 o2 o3, .slice o4 o5 o6] 62)) (W.heap.size + 1) := fun h => HXP.out (HI.out.xok.below _ _ hb14 _ h)
  have xA : ¬ X (W3.alloc (.cells #[.slice o1 o2 o3, .slice o4 o5 o6] 62)) W3.heap.size := fun h => by have := HI.out.xlt _ _ hI3 _ (HI.out.xok.below _ _ hb34 _ h); omega
  have hF4 := HF1.out.trans (FrW.of_below HI.out.xok hb14)
  have HI4 := hide hI4
  have HB4 := hide hB4
  have HL4 := hide hL4
  have HP4 := hide hP4
  have HF4 := hide hF4
  have HRS4 := hide rowS
  have HRP4 := hide rowP
  have HRA4 := hide rowA
  have HXS4 := hide xS
  have HXP4 := hide xP
  have HXA4 := hide xA
  clear t0 t1 t2 t3 t4 t5 t6 t7 t8 t9 g0 g1 g2 g3 g4 g5 g6 g7 g8 u0 u1 hb3 hb34 hb14 hL3 hI4 hI3 hB4 hL4 hP4 hF4 rowA rowS rowP xS xP xA KW HI1 HB1 HL1 HF1 HRS HRP HXS HXP
  have t0 := HB4.out.row 0 _ rfl
  have t1 := HB4.out.row 1 _ rfl
  have t2 := HB4.out.row 2 _ rfl
  have t3 := HB4.out.row 3 _ rfl
  have t4 := HB4.out.row 4 _ rfl
  have t5 := HB4.out.row 5 _ rfl
  have t6 := HB4.out.row 6 _ rfl
  have t7 := HB4.out.row 7 _ rfl
  have t8 := HB4.out.row 8 _ rfl
  have t9 := HB4.out.row 9 _ rfl
  have g0 := HRS4.out 0 _ rfl
  have g1 := HRS4.out 1 _ rfl
  have g2 := HRS4.out 2 _ rfl
  have g3 := HRS4.out 3 _ rfl
  have g4 := HRS4.out 4 _ rfl
  have g5 := HRS4.out 5 _ rfl
  have g6 := HRS4.out 6 _ rfl
  have g7 := HRS4.out 7 _ rfl
  have g8 := HRS4.out 8 _ rfl
  have u0 := HRP4.out 0 _ rfl
  have u1 := HRP4.out 1 _ rfl
  have y0 := HRA4.out 0 _ rfl
  have y1 := HRA4.out 1 _ rfl
  have tv := HB4.out.toVar
  have fl := HB4.out.flow
  go_wp2_with fail
  go_end0
  exact ⟨rfl, ⟨HI4.out, HB4.out⟩, HF4.out⟩

end
end Go.Proofs.Ytcbbjjenkommeaa.Ex
