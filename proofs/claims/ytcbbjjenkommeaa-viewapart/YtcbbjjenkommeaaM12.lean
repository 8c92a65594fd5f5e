/- What a command asks of levels: a call. -/
import Derived.Test.YtcbbjjenkommeaaM11
namespace Go.Proofs.Ytcbbjjenkommeaa.Ex
open Go.RowKit
set_option linter.unusedVariables false
section
variable {σ : Type} {c : WC} {w0 : World} {K nv ni no : Nat} {fs : List FnD} {gs : List (Int × Int)} {lev flev : σ → List Lev} {Inv : σ → World → Prop} {X : World → Nat → Prop} {s : Nat} {G : FuncId} {d1 d2 : Value}

set_option maxHeartbeats 4000000 in
set_option maxRecDepth 100000 in
theorem askDo2 (I : WInv c w0 nv fs gs lev flev Inv X) (flow : Lev → Bool × Nat → σ → σ) (hC : ∀ (args : Array Value) (w : World), (callFunc G args).run Try.prog w = .ok (.enter G args) w) (hfl : Hid (FlowOk c nv fs Inv X flow G d1 d2)) (vs : List (Bool × Lab)) (hvs : VarsAt w0 (.slice c.va c.vn c.vc) vs) (hnv : vs.length = nv)
    (ls : List Lab) (hls : LabsAt w0 (.slice c.ya c.yn c.yc) ls) (hlc : ∀ b ∈ ls, lChk c.n gs b = 0) (hni : ls.length = ni) (hni5 : ni ≤ 5) (kf : Nat) (hfs : FnsAt w0 K kf (.slice c.fa c.fn c.fc) fs) (hf5 : fs.length ≤ 5) (hof : ∀ i (h : i < fs.length), okF K nv ni no (i : Int) fs kf fs[i])
    (st : σ) (W : World) (a : Int) (k : Nat) (cs : List Value) (d : D) (v : Value) (p : Lev) (funcs : Int) (hI : Inv st W) (hB : AskBox c X s G d1 d2 W) (hrs : RS w0 K (k + 1) cs d) (hfn : funcs ≤ fs.length) (hok : okS1 K nv ni no funcs fs d) (hl : LevO c.n X W v p) (hk : sKind d = 2) :
    Calls Try.prog 77 #[.int .i64 a, .agg cs.toArray, v, .pointer (some ⟨s, 0, none⟩), .pointer (some ⟨s + 1 + 1, 0, none⟩), .pointer (some ⟨s + 1, 0, none⟩)] W fun e W' => e = .returned (.tuple #[]) ∧ (Inv (askS c.n K lev (vs.map Prod.fst) (ls.map (levOf (gnOf gs) c.n)) fs flow a d p st) W' ∧ AskBox c X s G d1 d2 W') ∧ FrW X W W' := by
  obtain ⟨p1, q1, r1, p2, q2, r2, rfl⟩ := hl.form
  obtain ⟨ek, en, xa, xl, xc, aa, ac, ta, tc, ea, ec, rfl, i0, i1, i2, hX, hA, hT, hE, -, -, -⟩ := hrs.form
  obtain ⟨vr, hvr⟩ : ∃ q, q = sVar d := ⟨_, rfl⟩
  obtain ⟨ot, hot⟩ : ∃ q, q = sOther d := ⟨_, rfl⟩
  obtain ⟨al, hal⟩ : ∃ q, q = (sArgs d).length := ⟨_, rfl⟩
  obtain ⟨tl, htl⟩ : ∃ q, q = (sThen d).length := ⟨_, rfl⟩
  obtain ⟨el, hel⟩ : ∃ q, q = (sElse d).length := ⟨_, rfl⟩
  have hkd : sC (sKind d) (sVar d) (sOther d) ek en xa xl xc aa (sArgs d).length ac ta (sThen d).length tc ea (sElse d).length ec = sC 2 (sVar d) (sOther d) ek en xa xl xc aa (sArgs d).length ac ta (sThen d).length tc ea (sElse d).length ec := by rw [hk]
  rw [hkd]
  clear hkd
  rw [← hvr, ← hot, ← hal, ← htl, ← hel]
  have HVR := hide hvr
  have HOT := hide hot
  have HAL := hide hal
  have hb : Below W.heap.size W ((W.alloc (.cells #[.int .i64 2, .int .i64 vr, .int .i64 ot, .int .i64 ek, .int .i64 en, .slice xa xl xc, .slice aa al ac, .slice ta tl tc, .slice ea el ec] 78)).alloc (.cells #[.slice p1 q1 r1, .slice p2 q2 r2] 62)) := ((Below.refl _ W).alloc (Nat.le_refl _) _).alloc (by simp) _
  have hI1 := I.over _ _ _ hI hb
  have hB1 := hB.over I.xok hb
  have hl1 := hl.over I.xok hb
  have hF1 := FrW.of_below I.xok hb
  have rowS : RowAt [.int .i64 2, .int .i64 vr, .int .i64 ot, .int .i64 ek, .int .i64 en, .slice xa xl xc, .slice aa al ac, .slice ta tl tc, .slice ea el ec] ((W.alloc (.cells #[.int .i64 2, .int .i64 vr, .int .i64 ot, .int .i64 ek, .int .i64 en, .slice xa xl xc, .slice aa al ac, .slice ta tl tc, .slice ea el ec] 78)).alloc (.cells #[.slice p1 q1 r1, .slice p2 q2 r2] 62)) W.heap.size := (RowAt.new [.int .i64 2, .int .i64 vr, .int .i64 ot, .int .i64 ek, .int .i64 en, .slice xa xl xc, .slice aa al ac, .slice ta tl tc, .slice ea el ec] 78 W).over ((Below.refl _ _).alloc (Nat.le_refl _) _)
  have rowP : RowAt [.slice p1 q1 r1, .slice p2 q2 r2] ((W.alloc (.cells #[.int .i64 2, .int .i64 vr, .int .i64 ot, .int .i64 ek, .int .i64 en, .slice xa xl xc, .slice aa al ac, .slice ta tl tc, .slice ea el ec] 78)).alloc (.cells #[.slice p1 q1 r1, .slice p2 q2 r2] 62)) (W.heap.size + 1) := by
    have r := RowAt.new [.slice p1 q1 r1, .slice p2 q2 r2] 62 (W.alloc (.cells #[.int .i64 2, .int .i64 vr, .int .i64 ot, .int .i64 ek, .int .i64 en, .slice xa xl xc, .slice aa al ac, .slice ta tl tc, .slice ea el ec] 78))
    simpa using r
  have xS : ¬ X ((W.alloc (.cells #[.int .i64 2, .int .i64 vr, .int .i64 ot, .int .i64 ek, .int .i64 en, .slice xa xl xc, .slice aa al ac, .slice ta tl tc, .slice ea el ec] 78)).alloc (.cells #[.slice p1 q1 r1, .slice p2 q2 r2] 62)) W.heap.size := fun h => by have := I.xlt _ _ hI _ (I.xok.below _ _ hb _ h); omega
  have xP : ¬ X ((W.alloc (.cells #[.int .i64 2, .int .i64 vr, .int .i64 ot, .int .i64 ek, .int .i64 en, .slice xa xl xc, .slice aa al ac, .slice ta tl tc, .slice ea el ec] 78)).alloc (.cells #[.slice p1 q1 r1, .slice p2 q2 r2] 62)) (W.heap.size + 1) := fun h => by have := I.xlt _ _ hI _ (I.xok.below _ _ hb _ h); omega
  have hBe := I.below _ _ hI1
  have hlv := I.levs _ _ hI1
  have KW := hide (withC c I.n1 I.n6 gs (lev st) X I.xok _ p K [.int .i64 ek, .int .i64 en, .slice xa xl xc] (sExpr d) _ (isGrants_over I.gr hBe) I.chk hlv.1 hl1 (by rw [hlv.2]; exact I.nv16) (I.xlt _ _ hI1) (hX.over hBe) (by rw [hlv.2]; exact varsX_stmt hok))
  have KV := hide (fun (st : σ) (W : World) (v : Value) (l : Lev) (i : Int) => toVarW (s := s) I flow hC hfl vs hvs hnv st W v l i)
  have t0 := hB1.row 0 _ rfl
  have t1 := hB1.row 1 _ rfl
  have t2 := hB1.row 2 _ rfl
  have t3 := hB1.row 3 _ rfl
  have t4 := hB1.row 4 _ rfl
  have t5 := hB1.row 5 _ rfl
  have t6 := hB1.row 6 _ rfl
  have t7 := hB1.row 7 _ rfl
  have t8 := hB1.row 8 _ rfl
  have t9 := hB1.row 9 _ rfl
  have g0 := rowS 0 _ rfl
  have g1 := rowS 1 _ rfl
  have g2 := rowS 2 _ rfl
  have g3 := rowS 3 _ rfl
  have g4 := rowS 4 _ rfl
  have g5 := rowS 5 _ rfl
  have g6 := rowS 6 _ rfl
  have g7 := rowS 7 _ rfl
  have g8 := rowS 8 _ rfl
  have u0 := rowP 0 _ rfl
  have u1 := rowP 1 _ rfl
  have HI := hide I
  have HI1 := hide hI1
  have HB1 := hide hB1
  have HL1 := hide hl1
  have HF1 := hide hF1
  have HRS := hide rowS
  have HRP := hide rowP
  have HXS := hide xS
  have HXP := hide xP
  have HOK := hide hok
  have HFL := hide hfl.out
  have HOF := hide hof
  have HLS := hide hls
  have HA := hide hA
  have HLC := hide hlc
  obtain ⟨⟨hj0, hj1⟩, hps, hck⟩ := hok.2.2.1 hk
  rw [← hot] at hj0 hj1 hps
  obtain ⟨j, hj⟩ : ∃ j : Nat, ot = (j : Int) := ⟨ot.toNat, by omega⟩
  have hj2 : j < fs.length := by omega
  have hjt : ot.toNat = j := by omega
  have hpsl : fs[j].ps.length = (sArgs d).length := hps fs[j] (by rw [hjt]; exact List.getElem?_eq_getElem hj2)
  have hfat : fnAt fs (sOther d) = fs[j] := by rw [← hot]; unfold fnAt; rw [hjt]; simp [List.getD_eq_getElem?_getD, hj2]
  obtain ⟨hfm, fa', fc', hfe, hfc⟩ := hfs
  injection hfe with y1 y2 y3
  obtain ⟨b8, z8, hfo, hfel⟩ := hfc (by intro h; rw [h] at hj2; simp at hj2)
  obtain ⟨vP, vB, e0, e1, e2, g80, g81, g82, g83, g84, hints, -, hbody, hres⟩ := hfel j hj2
  have hfa : c.fa = some ⟨b8, z8, none⟩ := y1.trans hfo
  obtain ⟨pa, pc, rfl, hpel⟩ := hints
  obtain ⟨-, za, zc, rfl, -⟩ := hbody
  obtain ⟨ra, rc, hxf⟩ := hres.form
  simp only [List.cons.injEq, and_true] at hxf
  obtain ⟨rfl, rfl, rfl⟩ := hxf
  obtain ⟨pn, hpn⟩ : ∃ q, q = fs[j].ps.length := ⟨_, rfl⟩
  obtain ⟨zn, hzn⟩ : ∃ q, q = fs[j].body.length := ⟨_, rfl⟩
  obtain ⟨rk, hrk⟩ : ∃ q, q = kindOf fs[j].res := ⟨_, rfl⟩
  obtain ⟨rn, hrn⟩ : ∃ q, q = numOf fs[j].res := ⟨_, rfl⟩
  obtain ⟨rl, hrl⟩ : ∃ q, q = (argsOf fs[j].res).length := ⟨_, rfl⟩
  rw [← hpn] at g80
  rw [← hzn] at g81
  rw [← hrk] at g82 hres
  rw [← hrn] at g83 hres
  rw [← hrl] at g84 hres
  have G0 := hide g80
  have G1 := hide g81
  have G2 := hide g82
  have G3 := hide g83
  have G4 := hide g84
  have HFA := hide hfa
  have HJ := hide hj
  have HFAT := hide hfat
  have HPSL := hide hpsl
  have HPN := hide hpn
  have HPEL := hide hpel
  have HRES := hide hres
  have HCK := hide hck
  have hfo5 := hof j hj2
  have HPR := hide hfo5.2.1
  have HRC := hide hfo5.2.2.2
  have hfn5 : c.fn ≤ 5 := by omega
  have hjf : (j : Int) < (c.fn : Int) := by omega
  have hpn4 : pn ≤ 4 := by rw [hpn]; exact hfo5.1
  have HJ2 := hide hj2
  clear hj0 hj1 hps hck hj hpsl hfat hfc y1 y2 y3 hfo hfel g80 g81 g82 g83 g84 hfa hpel hres hpn hzn hrk hrn hrl hfo5 hjt hfm
  clear hI1 hB1 hl1 hF1 rowS rowP xS xP hBe hlv hvr hot hal htl hel hb hrs hX hA hT hE hI hB hl hfl hvs hok hof hls hlc I
  go_enter Try.func77, Try.ntmps77
  go_wp2_with fail
  refine (KW.out).mono ?_
  rintro e W3 ⟨⟨o1, o2, o3, o4, o5, o6, rfl, hL3⟩, hb3⟩
  have hb34 := (Below.refl _ W3).alloc (Nat.le_refl _) (.cells #[.slice o1 o2 o3, .slice o4 o5 o6] 62)
  have hb14 := over_trans hb3 hb34
  have hI4 := HI.out.over _ _ _ HI1.out hb14
  have hI3 := HI.out.over _ _ _ HI1.out hb3
  have hB4 := HB1.out.over HI.out.xok hb14
  have hL4 := hL3.over HI.out.xok hb34
  have hP4 := HL1.out.over HI.out.xok hb14
  have rowA := RowAt.new [.slice o1 o2 o3, .slice o4 o5 o6] 62 W3
  have rowS := HRS.out.over hb14
  have rowP := HRP.out.over hb14
  have xS : ¬ X (W3.alloc (.cells #[.slice o1 o2 o3, .slice o4 o5 o6] 62)) W.heap.size := fun h => HXS.out (HI.out.xok.below _ _ hb14 _ h)
  have xP : ¬ X (W3.alloc (.cells #[.slice o1 o2 o3, .slice o4 o5 o6] 62)) (W.heap.size + 1) := fun h => HXP.out (HI.out.xok.below _ _ hb14 _ h)
  have xA : ¬ X (W3.alloc (.cells #[.slice o1 o2 o3, .slice o4 o5 o6] 62)) W3.heap.size := fun h => by have := HI.out.xlt _ _ hI3 _ (HI.out.xok.below _ _ hb34 _ h); omega
  have hF4 := HF1.out.trans (FrW.of_below HI.out.xok hb14)
  have HI4 := hide hI4
  have HB4 := hide hB4
  have HL4 := hide hL4
  have HP4 := hide hP4
  have HF4 := hide hF4
  have HRS4 := hide rowS
  have HRP4 := hide rowP
  have HRA4 := hide rowA
  have HXS4 := hide xS
  have HXP4 := hide xP
  have HXA4 := hide xA
  clear t0 t1 t2 t3 t4 t5 t6 t7 t8 t9 g0 g1 g2 g3 g4 g5 g6 g7 g8 u0 u1 hb3 hb34 hb14 hL3 hI4 hI3 hB4 hL4 hP4 hF4 rowA rowS rowP xS xP xA KW HI1 HB1 HL1 HF1 HRS HRP HXS HXP
  have t0 := HB4.out.row 0 _ rfl
  have t1 := HB4.out.row 1 _ rfl
  have t2 := HB4.out.row 2 _ rfl
  have t3 := HB4.out.row 3 _ rfl
  have t4 := HB4.out.row 4 _ rfl
  have t5 := HB4.out.row 5 _ rfl
  have t6 := HB4.out.row 6 _ rfl
  have t7 := HB4.out.row 7 _ rfl
  have t8 := HB4.out.row 8 _ rfl
  have t9 := HB4.out.row 9 _ rfl
  have g0 := HRS4.out 0 _ rfl
  have g1 := HRS4.out 1 _ rfl
  have g2 := HRS4.out 2 _ rfl
  have g3 := HRS4.out 3 _ rfl
  have g4 := HRS4.out 4 _ rfl
  have g5 := HRS4.out 5 _ rfl
  have g6 := HRS4.out 6 _ rfl
  have g7 := HRS4.out 7 _ rfl
  have g8 := HRS4.out 8 _ rfl
  have u0 := HRP4.out 0 _ rfl
  have u1 := HRP4.out 1 _ rfl
  have y0 := HRA4.out 0 _ rfl
  have y1 := HRA4.out 1 _ rfl
  have tv := HB4.out.toVar
  have fl := HB4.out.flow
  have hB0 := HI.out.below _ _ HI4.out
  have m0 := cell_over hB0 _ _ G0.out
  have m1 := cell_over hB0 _ _ G1.out
  have m2 := cell_over hB0 _ _ G2.out
  have m3 := cell_over hB0 _ _ G3.out
  have m4 := cell_over hB0 _ _ G4.out
  rw [HFA.out] at t6
  obtain rfl := HJ.out
  clear hB0
  have hb5 : Below (W3.alloc (.cells #[.slice o1 o2 o3, .slice o4 o5 o6] 62)).heap.size (W3.alloc (.cells #[.slice o1 o2 o3, .slice o4 o5 o6] 62)) ((W3.alloc (.cells #[.slice o1 o2 o3, .slice o4 o5 o6] 62)).alloc (.cells #[.slice pa pn pc, .slice za zn zc, .int .i64 rk, .int .i64 rn, .slice ra rl rc] 133)) := (Below.refl _ _).alloc (Nat.le_refl _) _
  have rowF : RowAt [.slice pa pn pc, .slice za zn zc, .int .i64 rk, .int .i64 rn, .slice ra rl rc] ((W3.alloc (.cells #[.slice o1 o2 o3, .slice o4 o5 o6] 62)).alloc (.cells #[.slice pa pn pc, .slice za zn zc, .int .i64 rk, .int .i64 rn, .slice ra rl rc] 133)) (W3.heap.size + 1) := by
    have r := RowAt.new [.slice pa pn pc, .slice za zn zc, .int .i64 rk, .int .i64 rn, .slice ra rl rc] 133 (W3.alloc (.cells #[.slice o1 o2 o3, .slice o4 o5 o6] 62))
    simpa using r
  have xF : ¬ X ((W3.alloc (.cells #[.slice o1 o2 o3, .slice o4 o5 o6] 62)).alloc (.cells #[.slice pa pn pc, .slice za zn zc, .int .i64 rk, .int .i64 rn, .slice ra rl rc] 133)) (W3.heap.size + 1) := fun h => by have := HI.out.xlt _ _ HI4.out _ (HI.out.xok.below _ _ hb5 _ h); simp at this
  have HRF := hide rowF
  have HXF := hide xF
  have HI5 := hide (HI.out.over _ _ _ HI4.out hb5)
  have HB5 := hide (HB4.out.over HI.out.xok hb5)
  have HP5 := hide (HP4.out.over HI.out.xok hb5)
  have HF5 := hide (HF4.out.trans (FrW.of_below HI.out.xok hb5))
  have HRS5 := hide (HRS4.out.over hb5)
  have HRP5 := hide (HRP4.out.over hb5)
  have HXS5 : Hid (¬ X ((W3.alloc (.cells #[.slice o1 o2 o3, .slice o4 o5 o6] 62)).alloc (.cells #[.slice pa pn pc, .slice za zn zc, .int .i64 rk, .int .i64 rn, .slice ra rl rc] 133)) W.heap.size) := fun h => HXS4.out (HI.out.xok.below _ _ hb5 _ h)
  have HXP5 : Hid (¬ X ((W3.alloc (.cells #[.slice o1 o2 o3, .slice o4 o5 o6] 62)).alloc (.cells #[.slice pa pn pc, .slice za zn zc, .int .i64 rk, .int .i64 rn, .slice ra rl rc] 133)) (W.heap.size + 1)) := fun h => HXP4.out (HI.out.xok.below _ _ hb5 _ h)
  have f0 := HRF.out 0 _ rfl
  obtain ⟨V5, hV5⟩ : ∃ q, q = ((W3.alloc (.cells #[.slice o1 o2 o3, .slice o4 o5 o6] 62)).alloc (.cells #[.slice pa pn pc, .slice za zn zc, .int .i64 rk, .int .i64 rn, .slice ra rl rc] 133)) := ⟨_, rfl⟩
  rw [← hV5] at HRF HXF HI5 HB5 HP5 HF5 HRS5 HRP5 HXS5 HXP5
  obtain ⟨Q, hQ⟩ : ∃ Q : Nat → σ, Q = fun m => (((fs[j]'HJ2.out).ps.zip (sArgs d)).take m).foldl (askArg c.n K lev (vs.map Prod.fst) flow p) st := ⟨_, rfl⟩
  have HQ := hide hQ
  have HQ0 : Hid (Q 0 = st) := by rw [hQ]; rfl
  have hfnb : (j : Int) < (c.fn : Int) := hjf
  clear hQ hb5 rowF xF HI4 HB4 HP4 HF4 HRS4 HRP4 HXS4 HXP4 HRA4 HXA4 HL4 tv fl
  go_wp2_with fail
  go_loopw [41] (fun x wr => ∃ m : Nat, m ≤ pn ∧ x = .int .i64 m ∧ (Inv (Q m) wr ∧ AskBox c X s G d1 d2 wr) ∧ FrW X V5 wr) (fun x _ => pn - (intOf x).toNat)
  case atStart => exact ⟨0, Nat.zero_le _, rfl, by rw [← hV5, HQ0.out]; exact ⟨HI5.out, HB5.out⟩, by rw [← hV5]; exact FrW.refl _⟩
  case round =>
    clear t0 t1 t2 t3 t4 t5 t6 t7 t8 t9 g0 g1 g2 g3 g4 g5 g6 g7 g8 u0 u1 y0 y1 m0 m1 m2 m3 m4 f0 hV5
    obtain ⟨m, hm, rfl, ⟨hIr, hBr⟩, hFr⟩ := hrel
    have HIr := hide hIr
    have HBr := hide hBr
    have HFr := hide hFr
    have HBe := hide (HI.out.below _ _ hIr)
    have HRSr := hide (hFr.row HRS5.out HXS5.out)
    have HRPr := hide (hFr.row HRP5.out HXP5.out)
    have HRFr := hide (hFr.row HRF.out HXF.out)
    have HXSr : Hid (¬ X wr W.heap.size) := fun h => HXS5.out (hFr.mov _ (World.block_lt_of_cell? _ _ (HRS5.out 0 _ rfl)) h)
    have HXPr : Hid (¬ X wr (W.heap.size + 1)) := fun h => HXP5.out (hFr.mov _ (World.block_lt_of_cell? _ _ (HRP5.out 0 _ rfl)) h)
    have HXFr : Hid (¬ X wr (W3.heap.size + 1)) := fun h => HXF.out (hFr.mov _ (World.block_lt_of_cell? _ _ (HRF.out 0 _ rfl)) h)
    have HPr := hide (HP5.out.keep HI.out.n1 hFr)
    have hlv := HI.out.levs _ _ hIr
    clear hIr hBr hFr
    by_cases hlt : m < pn
    · have hm1 : m < (fs[j]'HJ2.out).ps.length := by rw [← HPN.out]; exact hlt
      have hm2 : m < (sArgs d).length := by rw [← HPSL.out]; exact hm1
      obtain ⟨bp, zp, hpo, hpe⟩ := HPEL.out (by intro h; rw [h] at hm1; simp at hm1)
      subst hpo
      have q0 := cell_over HBe.out _ _ (hpe m hm1)
      obtain ⟨vm, hvm⟩ : ∃ q, q = (fs[j]'HJ2.out).ps[m] := ⟨_, rfl⟩
      rw [← hvm] at q0
      have HVM := hide (HPR.out vm (by rw [hvm]; exact List.getElem_mem hm1))
      obtain ⟨ham, aa', ac', hae, hac⟩ := HA.out
      injection hae with x1 x2 x3
      obtain ⟨b6, z6, hao, hael⟩ := hac (by intro h; rw [h] at hm2; simp at hm2)
      obtain ⟨acs, hal3, hacs, har⟩ := hael m (sArgs d)[m] (List.getElem?_eq_getElem hm2)
      obtain ⟨k3, k5, rfl⟩ := har.form
      obtain ⟨k1, hk1⟩ : ∃ q, q = kindOf (sArgs d)[m] := ⟨_, rfl⟩
      obtain ⟨k2, hk2⟩ : ∃ q, q = numOf (sArgs d)[m] := ⟨_, rfl⟩
      obtain ⟨k4, hk4⟩ : ∃ q, q = (argsOf (sArgs d)[m]).length := ⟨_, rfl⟩
      rw [← hk1, ← hk2, ← hk4] at hacs har
      have HAA := hide (x1.trans hao)
      have L0 := hide (show w0.cell? ⟨b6, z6 + m * 3, none⟩ = some (.int .i64 k1) from hacs 0 _ rfl)
      have L1 := hide (hacs 1 _ rfl)
      have L2 := hide (hacs 2 _ rfl)
      have l0 := cell_over HBe.out _ _ L0.out
      have l1 := cell_over HBe.out _ _ L1.out
      have l2 := cell_over HBe.out _ _ L2.out
      have hal2 : m < al := by rw [HAL.out]; exact hm2
      have hal4 : al ≤ 4 := by rw [HAL.out, ← HPSL.out, ← HPN.out]; exact hpn4
      have hma : (m : Int) < (al : Int) := by omega
      have hmp : (m : Int) < (pn : Int) := by omega
      have hQS : Q (m + 1) = toVar (vs.map Prod.fst) flow (withL c.n (lev (Q m)) p (varsX K (sArgs d)[m])) vm (Q m) := by
        rw [HQ.out]
        dsimp only
        have hz : m < ((fs[j]'HJ2.out).ps.zip (sArgs d)).length := by simp; omega
        rw [List.take_succ_eq_append_getElem hz, List.foldl_append, List.foldl_cons, List.foldl_nil]
        simp only [askArg, List.getElem_zip]
        rw [hvm]
      have HQS := hide hQS
      have KWA := hide (withC c HI.out.n1 HI.out.n6 gs (lev (Q m)) X HI.out.xok _ p K [.int .i64 k1, .int .i64 k2, .slice k3 k4 k5] (sArgs d)[m] wr.drew (isGrants_over HI.out.gr HBe.out.drew) HI.out.chk (hlv.1.over HI.out.xok ((Below.refl _ _).drew)) (HPr.out.over HI.out.xok ((Below.refl _ _).drew)) (by rw [hlv.2]; exact HI.out.nv16) (fun k hk => HI.out.xlt _ _ HIr.out k (HI.out.xok.below _ _ ((Below.refl _ _).drew) _ hk)) (har.over HBe.out.drew) (by rw [hlv.2]; exact varsX_check (HCK.out _ (List.getElem_mem hm2))))
      have t0 := HBr.out.row 0 _ rfl
      have t1 := HBr.out.row 1 _ rfl
      have t2 := HBr.out.row 2 _ rfl
      have t3 := HBr.out.row 3 _ rfl
      have t4 := HBr.out.row 4 _ rfl
      have t5 := HBr.out.row 5 _ rfl
      have t6 := HBr.out.row 6 _ rfl
      have t7 := HBr.out.row 7 _ rfl
      have t8 := HBr.out.row 8 _ rfl
      have t9 := HBr.out.row 9 _ rfl
      have g0 := HRSr.out 0 _ rfl
      have g1 := HRSr.out 1 _ rfl
      have g2 := HRSr.out 2 _ rfl
      have g3 := HRSr.out 3 _ rfl
      have g4 := HRSr.out 4 _ rfl
      have g5 := HRSr.out 5 _ rfl
      have g6 := HRSr.out 6 _ rfl
      have g7 := HRSr.out 7 _ rfl
      have g8 := HRSr.out 8 _ rfl
      have u0 := HRPr.out 0 _ rfl
      have u1 := HRPr.out 1 _ rfl
      have tv := HBr.out.toVar
      rw [HAA.out] at g6
      have hS0 : wr.cell? ⟨s, 0, none⟩ = some (.int .i64 (c.n : Int)) ∧ wr.cell? ⟨s, 1, none⟩ = some (.slice c.ga c.gn c.gc) ∧ wr.cell? ⟨s, 2, none⟩ = some (.slice c.sa c.sn c.sc) ∧ wr.cell? ⟨s, 3, none⟩ = some (.slice c.ya c.yn c.yc) ∧ wr.cell? ⟨s, 4, none⟩ = some (.slice c.oa c.on c.oc) ∧ wr.cell? ⟨s, 5, none⟩ = some (.slice c.va c.vn c.vc) ∧ wr.cell? ⟨s, 6, none⟩ = some (.slice c.fa c.fn c.fc) ∧ wr.cell? ⟨s, 7, none⟩ = some (.slice c.ba c.bn c.bc) ∧ wr.cell? ⟨s, 8, none⟩ = some (.slice c.la c.ln c.lc) ∧ wr.cell? ⟨s, 9, none⟩ = some (.slice c.ka c.kn c.kc) ∧ wr.cell? ⟨s + 1 + 1, 0, none⟩ = some (.func (.func 75) #[] #[.pointer (some ⟨s, 0, none⟩), .pointer (some ⟨s + 1, 0, none⟩)]) ∧ wr.cell? ⟨(W.heap.size + 1), 0, none⟩ = some (.slice p1 q1 r1) ∧ wr.cell? ⟨(W.heap.size + 1), 1, none⟩ = some (.slice p2 q2 r2) ∧ wr.cell? ⟨W.heap.size, 0, none⟩ = some (.int .i64 2) ∧ wr.cell? ⟨W.heap.size, 1, none⟩ = some (.int .i64 vr) ∧ wr.cell? ⟨W.heap.size, 2, none⟩ = some (.int .i64 (j : Int)) ∧ wr.cell? ⟨W.heap.size, 3, none⟩ = some (.int .i64 ek) ∧ wr.cell? ⟨W.heap.size, 4, none⟩ = some (.int .i64 en) ∧ wr.cell? ⟨W.heap.size, 5, none⟩ = some (.slice xa xl xc) ∧ wr.cell? ⟨W.heap.size, 6, none⟩ = some (.slice (some ⟨b6, z6, none⟩) al ac) ∧ wr.cell? ⟨W.heap.size, 7, none⟩ = some (.slice ta tl tc) ∧ wr.cell? ⟨W.heap.size, 8, none⟩ = some (.slice ea el ec) ∧ wr.cell? ⟨b6, z6 + m * 3, none⟩ = some (.int .i64 k1) ∧ wr.cell? ⟨b6, z6 + m * 3 + 1, none⟩ = some (.int .i64 k2) ∧ wr.cell? ⟨b6, z6 + m * 3 + 2, none⟩ = some (.slice k3 k4 k5) := ⟨t0, t1, t2, t3, t4, t5, t6, t7, t8, t9, tv, u0, u1, g0, g1, g2, g3, g4, g5, g6, g7, g8, l0, l1, l2⟩
      clear hpe hvm ham hac x1 x2 x3 hao hael hacs har hal3 hk1 hk2 hk4 hlv hQS hm1
      go_wp2_with fail
      refine wp_region_held_drew (S := fun Wz => Wz.cell? ⟨s, 0, none⟩ = some (.int .i64 (c.n : Int)) ∧ Wz.cell? ⟨s, 1, none⟩ = some (.slice c.ga c.gn c.gc) ∧ Wz.cell? ⟨s, 2, none⟩ = some (.slice c.sa c.sn c.sc) ∧ Wz.cell? ⟨s, 3, none⟩ = some (.slice c.ya c.yn c.yc) ∧ Wz.cell? ⟨s, 4, none⟩ = some (.slice c.oa c.on c.oc) ∧ Wz.cell? ⟨s, 5, none⟩ = some (.slice c.va c.vn c.vc) ∧ Wz.cell? ⟨s, 6, none⟩ = some (.slice c.fa c.fn c.fc) ∧ Wz.cell? ⟨s, 7, none⟩ = some (.slice c.ba c.bn c.bc) ∧ Wz.cell? ⟨s, 8, none⟩ = some (.slice c.la c.ln c.lc) ∧ Wz.cell? ⟨s, 9, none⟩ = some (.slice c.ka c.kn c.kc) ∧ Wz.cell? ⟨s + 1 + 1, 0, none⟩ = some (.func (.func 75) #[] #[.pointer (some ⟨s, 0, none⟩), .pointer (some ⟨s + 1, 0, none⟩)]) ∧ Wz.cell? ⟨(W.heap.size + 1), 0, none⟩ = some (.slice p1 q1 r1) ∧ Wz.cell? ⟨(W.heap.size + 1), 1, none⟩ = some (.slice p2 q2 r2) ∧ Wz.cell? ⟨W.heap.size, 0, none⟩ = some (.int .i64 2) ∧ Wz.cell? ⟨W.heap.size, 1, none⟩ = some (.int .i64 vr) ∧ Wz.cell? ⟨W.heap.size, 2, none⟩ = some (.int .i64 (j : Int)) ∧ Wz.cell? ⟨W.heap.size, 3, none⟩ = some (.int .i64 ek) ∧ Wz.cell? ⟨W.heap.size, 4, none⟩ = some (.int .i64 en) ∧ Wz.cell? ⟨W.heap.size, 5, none⟩ = some (.slice xa xl xc) ∧ Wz.cell? ⟨W.heap.size, 6, none⟩ = some (.slice (some ⟨b6, z6, none⟩) al ac) ∧ Wz.cell? ⟨W.heap.size, 7, none⟩ = some (.slice ta tl tc) ∧ Wz.cell? ⟨W.heap.size, 8, none⟩ = some (.slice ea el ec) ∧ Wz.cell? ⟨b6, z6 + m * 3, none⟩ = some (.int .i64 k1) ∧ Wz.cell? ⟨b6, z6 + m * 3 + 1, none⟩ = some (.int .i64 k2) ∧ Wz.cell? ⟨b6, z6 + m * 3 + 2, none⟩ = some (.slice k3 k4 k5)) (by kernel_rfl) (hS0) (fun hHeld => ?_)
      refine tk (i := 0) (oi := { dst := some 46, op := Go.Op.load 129 (Go.Operand.tmp 4), type := 129, pos := "walker.go:62", after := #[], guard := none }) (v := ?_) (Or.inl ⟨by rfl, ?_⟩) (by assumption) ?_
      rotate_left
      · intro w' hSw
        (try dsimp only at hSw)
        go_simp
        try with_reducible rfl
      try simp only [aput]
      refine tk (i := 1) (oi := ⟨some 47, .fieldAddr 88 (.tmp 3) 0, 0, "walker.go:62", #[], none⟩) (v := ?_) (Or.inl ⟨by rfl, ?_⟩) (by assumption) ?_
      rotate_left
      · intro w' hSw
        (try dsimp only at hSw)
        go_simp
        try with_reducible rfl
      try simp only [aput]
      refine tk (i := 2) (oi := ⟨some 48, .load 86 (.tmp 47), 86, "walker.go:62", #[⟨1, .data⟩], none⟩) (v := ?_) (Or.inl ⟨by rfl, ?_⟩) (by assumption) ?_
      rotate_left
      · intro w' hSw
        (try dsimp only at hSw)
        go_simp
        try with_reducible rfl
      try simp only [aput]
      refine tk (i := 3) (oi := ⟨some 49, .load 62 (.tmp 8), 62, "walker.go:62", #[], none⟩) (v := ?_) (Or.inl ⟨by rfl, ?_⟩) (by assumption) ?_
      rotate_left
      · intro w' hSw
        (try dsimp only at hSw)
        go_simp
        try with_reducible rfl
      try simp only [aput]
      refine tk (i := 4) (oi := ⟨some 50, .fieldAddr 78 (.tmp 7) 4, 0, "walker.go:62", #[], none⟩) (v := ?_) (Or.inl ⟨by rfl, ?_⟩) (by assumption) ?_
      rotate_left
      · intro w' hSw
        (try dsimp only at hSw)
        go_simp
        try with_reducible rfl
      try simp only [aput]
      refine tk (i := 5) (oi := ⟨some 51, .load 22 (.tmp 50), 22, "walker.go:62", #[⟨4, .data⟩], none⟩) (v := ?_) (Or.inl ⟨by rfl, ?_⟩) (by assumption) ?_
      rotate_left
      · intro w' hSw
        (try dsimp only at hSw)
        go_simp
        try with_reducible rfl
      try simp only [aput]
      refine tk (i := 6) (oi := ⟨some 52, .move (.tmp 11), 3, "walker.go:62", #[], none⟩) (v := ?_) (Or.inl ⟨by rfl, ?_⟩) (by assumption) ?_
      rotate_left
      · intro w' hSw
        (try dsimp only at hSw)
        go_simp
        try with_reducible rfl
      try simp only [aput]
      refine tk (i := 7) (oi := ⟨some 53, .indexAddr 22 (.tmp 51) (.tmp 52), 0, "walker.go:62", #[⟨5, .data⟩, ⟨6, .data⟩], none⟩) (v := ?_) (Or.inl ⟨by rfl, ?_⟩) (by assumption) ?_
      rotate_left
      · intro w' hSw
        (try dsimp only at hSw)
        go_simp
        try with_reducible rfl
      try simp only [aput]
      refine tk (i := 8) (oi := ⟨some 54, .load 24 (.tmp 53), 24, "walker.go:62", #[⟨7, .data⟩], none⟩) (v := ?_) (Or.inl ⟨by rfl, ?_⟩) (by assumption) ?_
      rotate_left
      · intro w' hSw
        (try dsimp only at hSw)
        go_simp
        try with_reducible rfl
      try simp only [aput]
      refine tk (i := 10) (oi := ⟨some 56, .move (.tmp 12), 3, "walker.go:62", #[], none⟩) (v := ?_) (Or.inl ⟨by rfl, ?_⟩) (by assumption) ?_
      rotate_left
      · intro w' hSw
        (try dsimp only at hSw)
        go_simp
        try with_reducible rfl
      try simp only [aput]
      refine wpAnyH_ready (rs := [9]) (by kernel_rfl) (by simp) ?_
      refine AllReadyH.cons (o := { dst := some 55, op := Go.Op.call { callee := Go.Callee.value (Go.Operand.func 78), args := #[Go.Operand.tmp 48, Go.Operand.tmp 49, Go.Operand.tmp 54], argTypes := #[86, 62, 24] }, type := 62, pos := "walker.go:62", after := #[⟨2, .data⟩, ⟨3, .data⟩, ⟨8, .data⟩], guard := none }) rfl (fun K hK => ?_) AllReadyH.nil
      go_simp
      refine (KWA.out).mono ?_
      rintro e W6 ⟨⟨n1, n2, n3, n4, n5, n6, rfl, hN6⟩, hb6⟩
      have hbz := over_trans ((Below.refl _ wr).drew) hb6
      have hr0 := HBr.out.row.over hbz
      have hrp := HRPr.out.over hbz
      have hrs := HRSr.out.over hbz
      have hS6 : W6.cell? ⟨s, 0, none⟩ = some (.int .i64 (c.n : Int)) ∧ W6.cell? ⟨s, 1, none⟩ = some (.slice c.ga c.gn c.gc) ∧ W6.cell? ⟨s, 2, none⟩ = some (.slice c.sa c.sn c.sc) ∧ W6.cell? ⟨s, 3, none⟩ = some (.slice c.ya c.yn c.yc) ∧ W6.cell? ⟨s, 4, none⟩ = some (.slice c.oa c.on c.oc) ∧ W6.cell? ⟨s, 5, none⟩ = some (.slice c.va c.vn c.vc) ∧ W6.cell? ⟨s, 6, none⟩ = some (.slice c.fa c.fn c.fc) ∧ W6.cell? ⟨s, 7, none⟩ = some (.slice c.ba c.bn c.bc) ∧ W6.cell? ⟨s, 8, none⟩ = some (.slice c.la c.ln c.lc) ∧ W6.cell? ⟨s, 9, none⟩ = some (.slice c.ka c.kn c.kc) ∧ W6.cell? ⟨s + 1 + 1, 0, none⟩ = some (.func (.func 75) #[] #[.pointer (some ⟨s, 0, none⟩), .pointer (some ⟨s + 1, 0, none⟩)]) ∧ W6.cell? ⟨(W.heap.size + 1), 0, none⟩ = some (.slice p1 q1 r1) ∧ W6.cell? ⟨(W.heap.size + 1), 1, none⟩ = some (.slice p2 q2 r2) ∧ W6.cell? ⟨W.heap.size, 0, none⟩ = some (.int .i64 2) ∧ W6.cell? ⟨W.heap.size, 1, none⟩ = some (.int .i64 vr) ∧ W6.cell? ⟨W.heap.size, 2, none⟩ = some (.int .i64 (j : Int)) ∧ W6.cell? ⟨W.heap.size, 3, none⟩ = some (.int .i64 ek) ∧ W6.cell? ⟨W.heap.size, 4, none⟩ = some (.int .i64 en) ∧ W6.cell? ⟨W.heap.size, 5, none⟩ = some (.slice xa xl xc) ∧ W6.cell? ⟨W.heap.size, 6, none⟩ = some (.slice (some ⟨b6, z6, none⟩) al ac) ∧ W6.cell? ⟨W.heap.size, 7, none⟩ = some (.slice ta tl tc) ∧ W6.cell? ⟨W.heap.size, 8, none⟩ = some (.slice ea el ec) ∧ W6.cell? ⟨b6, z6 + m * 3, none⟩ = some (.int .i64 k1) ∧ W6.cell? ⟨b6, z6 + m * 3 + 1, none⟩ = some (.int .i64 k2) ∧ W6.cell? ⟨b6, z6 + m * 3 + 2, none⟩ = some (.slice k3 k4 k5) := ⟨hr0 0 _ rfl, hr0 1 _ rfl, hr0 2 _ rfl, hr0 3 _ rfl, hr0 4 _ rfl, hr0 5 _ rfl, hr0 6 _ rfl, hr0 7 _ rfl, hr0 8 _ rfl, hr0 9 _ rfl, cell_over hbz _ _ tv, hrp 0 _ rfl, hrp 1 _ rfl, hrs 0 _ rfl, hrs 1 _ rfl, hrs 2 _ rfl, hrs 3 _ rfl, hrs 4 _ rfl, hrs 5 _ rfl, (by rw [← HAA.out]; exact hrs 6 _ rfl), hrs 7 _ rfl, hrs 8 _ rfl, cell_over (over_trans HBe.out hbz) _ _ L0.out, cell_over (over_trans HBe.out hbz) _ _ L1.out, cell_over (over_trans HBe.out hbz) _ _ L2.out⟩
      have HBZ6 := hide hbz
      have HN6 := hide hN6
      clear hr0 hrp hrs hN6 hb6 hbz
      go_simp
      refine hK.out _ _ (hS6) (fun hHeld => ?_)
      clear hK K
      try simp only [aput]
      refine wpAnyH_ready (rs := [11]) (by kernel_rfl) (by simp) ?_
      refine AllReadyH.cons (o := { dst := some 57, op := Go.Op.call { callee := Go.Callee.value (Go.Operand.tmp 46), args := #[Go.Operand.tmp 55, Go.Operand.tmp 56], argTypes := #[62, 3] }, type := 0, pos := "walker.go:62", after := #[⟨0, .data⟩, ⟨9, .data⟩, ⟨10, .data⟩, ⟨9, .chain⟩], guard := none }) rfl (fun K hK => ?_) AllReadyH.nil
      go_simp
      refine (KV.out (Q m) W6 _ _ vm (HI.out.over _ _ _ HIr.out HBZ6.out) (HBr.out.over HI.out.xok HBZ6.out) HN6.out HVM.out.1 HVM.out.2).mono ?_
      rintro e W7 ⟨rfl, hI7, hF7⟩
      have hF47 := (FrW.of_below HI.out.xok HBZ6.out).trans hF7
      have hr0 := hF47.row HBr.out.row HBr.out.x0
      have hrp := hF47.row HRPr.out HXPr.out
      have hrs := hF47.row HRSr.out HXSr.out
      have hS7 : W7.cell? ⟨s, 0, none⟩ = some (.int .i64 (c.n : Int)) ∧ W7.cell? ⟨s, 1, none⟩ = some (.slice c.ga c.gn c.gc) ∧ W7.cell? ⟨s, 2, none⟩ = some (.slice c.sa c.sn c.sc) ∧ W7.cell? ⟨s, 3, none⟩ = some (.slice c.ya c.yn c.yc) ∧ W7.cell? ⟨s, 4, none⟩ = some (.slice c.oa c.on c.oc) ∧ W7.cell? ⟨s, 5, none⟩ = some (.slice c.va c.vn c.vc) ∧ W7.cell? ⟨s, 6, none⟩ = some (.slice c.fa c.fn c.fc) ∧ W7.cell? ⟨s, 7, none⟩ = some (.slice c.ba c.bn c.bc) ∧ W7.cell? ⟨s, 8, none⟩ = some (.slice c.la c.ln c.lc) ∧ W7.cell? ⟨s, 9, none⟩ = some (.slice c.ka c.kn c.kc) ∧ W7.cell? ⟨s + 1 + 1, 0, none⟩ = some (.func (.func 75) #[] #[.pointer (some ⟨s, 0, none⟩), .pointer (some ⟨s + 1, 0, none⟩)]) ∧ W7.cell? ⟨(W.heap.size + 1), 0, none⟩ = some (.slice p1 q1 r1) ∧ W7.cell? ⟨(W.heap.size + 1), 1, none⟩ = some (.slice p2 q2 r2) ∧ W7.cell? ⟨W.heap.size, 0, none⟩ = some (.int .i64 2) ∧ W7.cell? ⟨W.heap.size, 1, none⟩ = some (.int .i64 vr) ∧ W7.cell? ⟨W.heap.size, 2, none⟩ = some (.int .i64 (j : Int)) ∧ W7.cell? ⟨W.heap.size, 3, none⟩ = some (.int .i64 ek) ∧ W7.cell? ⟨W.heap.size, 4, none⟩ = some (.int .i64 en) ∧ W7.cell? ⟨W.heap.size, 5, none⟩ = some (.slice xa xl xc) ∧ W7.cell? ⟨W.heap.size, 6, none⟩ = some (.slice (some ⟨b6, z6, none⟩) al ac) ∧ W7.cell? ⟨W.heap.size, 7, none⟩ = some (.slice ta tl tc) ∧ W7.cell? ⟨W.heap.size, 8, none⟩ = some (.slice ea el ec) ∧ W7.cell? ⟨b6, z6 + m * 3, none⟩ = some (.int .i64 k1) ∧ W7.cell? ⟨b6, z6 + m * 3 + 1, none⟩ = some (.int .i64 k2) ∧ W7.cell? ⟨b6, z6 + m * 3 + 2, none⟩ = some (.slice k3 k4 k5) := ⟨hr0 0 _ rfl, hr0 1 _ rfl, hr0 2 _ rfl, hr0 3 _ rfl, hr0 4 _ rfl, hr0 5 _ rfl, hr0 6 _ rfl, hr0 7 _ rfl, hr0 8 _ rfl, hr0 9 _ rfl, hF47.cell tv HBr.out.x2, hrp 0 _ rfl, hrp 1 _ rfl, hrs 0 _ rfl, hrs 1 _ rfl, hrs 2 _ rfl, hrs 3 _ rfl, hrs 4 _ rfl, hrs 5 _ rfl, (by rw [← HAA.out]; exact hrs 6 _ rfl), hrs 7 _ rfl, hrs 8 _ rfl, cell_over (HI.out.below _ _ hI7) _ _ L0.out, cell_over (HI.out.below _ _ hI7) _ _ L1.out, cell_over (HI.out.below _ _ hI7) _ _ L2.out⟩
      clear hr0 hrp hrs
      go_simp
      refine hK.out _ _ (hS7) (fun hHeld => ?_)
      clear hK K
      try simp only [aput]
      refine wpAnyH_done (by kernel_rfl) ?_ _
      have HI7 := hide hI7
      have HB7 := hide (HBr.out.keep hF47)
      have HF7 := hide (HFr.out.trans hF47)
      clear hS7 hS6 hS0 hI7 hF7 hF47 t0 t1 t2 t3 t4 t5 t6 t7 t8 t9 g0 g1 g2 g3 g4 g5 g6 g7 g8 u0 u1 l0 l1 l2 tv q0
      go_wp2_with fail
      refine ⟨⟨m + 1, by omega, by go_num, ⟨by rw [HQS.out]; exact HI7.out, HB7.out⟩, HF7.out⟩, by simp [intOf]; omega⟩
    · have hmn : m = pn := by omega
      have KWA := hide (withC c HI.out.n1 HI.out.n6 gs (lev (Q m)) X HI.out.xok _ p K [.int .i64 rk, .int .i64 rn, .slice ra rl rc] (fs[j]'HJ2.out).res wr.drew (isGrants_over HI.out.gr HBe.out.drew) HI.out.chk (hlv.1.over HI.out.xok ((Below.refl _ _).drew)) (HPr.out.over HI.out.xok ((Below.refl _ _).drew)) (by rw [hlv.2]; exact HI.out.nv16) (fun k hk => HI.out.xlt _ _ HIr.out k (HI.out.xok.below _ _ ((Below.refl _ _).drew) _ hk)) (HRES.out.over HBe.out.drew) (by rw [hlv.2]; exact varsX_check HRC.out))
      have HQM : Hid (Q m = ((fs[j]'HJ2.out).ps.zip (sArgs d)).foldl (askArg c.n K lev (vs.map Prod.fst) flow p) st) := by
        rw [HQ.out]
        dsimp only
        rw [List.take_of_length_le (by simp; have := HPN.out; omega)]
        rfl
      have t0 := HBr.out.row 0 _ rfl
      have t1 := HBr.out.row 1 _ rfl
      have t2 := HBr.out.row 2 _ rfl
      have t3 := HBr.out.row 3 _ rfl
      have t4 := HBr.out.row 4 _ rfl
      have t5 := HBr.out.row 5 _ rfl
      have t6 := HBr.out.row 6 _ rfl
      have t7 := HBr.out.row 7 _ rfl
      have t8 := HBr.out.row 8 _ rfl
      have t9 := HBr.out.row 9 _ rfl
      have g0 := HRSr.out 0 _ rfl
      have g1 := HRSr.out 1 _ rfl
      have g2 := HRSr.out 2 _ rfl
      have g3 := HRSr.out 3 _ rfl
      have g4 := HRSr.out 4 _ rfl
      have g5 := HRSr.out 5 _ rfl
      have g6 := HRSr.out 6 _ rfl
      have g7 := HRSr.out 7 _ rfl
      have g8 := HRSr.out 8 _ rfl
      have u0 := HRPr.out 0 _ rfl
      have u1 := HRPr.out 1 _ rfl
      have f0 := HRFr.out 0 _ rfl
      have f1 := HRFr.out 1 _ rfl
      have f2 := HRFr.out 2 _ rfl
      have f3 := HRFr.out 3 _ rfl
      have f4 := HRFr.out 4 _ rfl
      have tv := HBr.out.toVar
      have hS0 : wr.cell? ⟨s, 0, none⟩ = some (.int .i64 (c.n : Int)) ∧ wr.cell? ⟨s, 1, none⟩ = some (.slice c.ga c.gn c.gc) ∧ wr.cell? ⟨s, 2, none⟩ = some (.slice c.sa c.sn c.sc) ∧ wr.cell? ⟨s, 3, none⟩ = some (.slice c.ya c.yn c.yc) ∧ wr.cell? ⟨s, 4, none⟩ = some (.slice c.oa c.on c.oc) ∧ wr.cell? ⟨s, 5, none⟩ = some (.slice c.va c.vn c.vc) ∧ wr.cell? ⟨s, 6, none⟩ = some (.slice c.fa c.fn c.fc) ∧ wr.cell? ⟨s, 7, none⟩ = some (.slice c.ba c.bn c.bc) ∧ wr.cell? ⟨s, 8, none⟩ = some (.slice c.la c.ln c.lc) ∧ wr.cell? ⟨s, 9, none⟩ = some (.slice c.ka c.kn c.kc) ∧ wr.cell? ⟨s + 1 + 1, 0, none⟩ = some (.func (.func 75) #[] #[.pointer (some ⟨s, 0, none⟩), .pointer (some ⟨s + 1, 0, none⟩)]) ∧ wr.cell? ⟨(W.heap.size + 1), 0, none⟩ = some (.slice p1 q1 r1) ∧ wr.cell? ⟨(W.heap.size + 1), 1, none⟩ = some (.slice p2 q2 r2) ∧ wr.cell? ⟨W.heap.size, 0, none⟩ = some (.int .i64 2) ∧ wr.cell? ⟨W.heap.size, 1, none⟩ = some (.int .i64 vr) ∧ wr.cell? ⟨W.heap.size, 2, none⟩ = some (.int .i64 (j : Int)) ∧ wr.cell? ⟨W.heap.size, 3, none⟩ = some (.int .i64 ek) ∧ wr.cell? ⟨W.heap.size, 4, none⟩ = some (.int .i64 en) ∧ wr.cell? ⟨W.heap.size, 5, none⟩ = some (.slice xa xl xc) ∧ wr.cell? ⟨W.heap.size, 6, none⟩ = some (.slice aa al ac) ∧ wr.cell? ⟨W.heap.size, 7, none⟩ = some (.slice ta tl tc) ∧ wr.cell? ⟨W.heap.size, 8, none⟩ = some (.slice ea el ec) ∧ wr.cell? ⟨(W3.heap.size + 1), 0, none⟩ = some (.slice pa pn pc) ∧ wr.cell? ⟨(W3.heap.size + 1), 1, none⟩ = some (.slice za zn zc) ∧ wr.cell? ⟨(W3.heap.size + 1), 2, none⟩ = some (.int .i64 rk) ∧ wr.cell? ⟨(W3.heap.size + 1), 3, none⟩ = some (.int .i64 rn) ∧ wr.cell? ⟨(W3.heap.size + 1), 4, none⟩ = some (.slice ra rl rc) := ⟨t0, t1, t2, t3, t4, t5, t6, t7, t8, t9, tv, u0, u1, g0, g1, g2, g3, g4, g5, g6, g7, g8, f0, f1, f2, f3, f4⟩
      clear hlv hmn
      go_wp2_with fail
      refine wp_region_held_drew (S := fun Wz => Wz.cell? ⟨s, 0, none⟩ = some (.int .i64 (c.n : Int)) ∧ Wz.cell? ⟨s, 1, none⟩ = some (.slice c.ga c.gn c.gc) ∧ Wz.cell? ⟨s, 2, none⟩ = some (.slice c.sa c.sn c.sc) ∧ Wz.cell? ⟨s, 3, none⟩ = some (.slice c.ya c.yn c.yc) ∧ Wz.cell? ⟨s, 4, none⟩ = some (.slice c.oa c.on c.oc) ∧ Wz.cell? ⟨s, 5, none⟩ = some (.slice c.va c.vn c.vc) ∧ Wz.cell? ⟨s, 6, none⟩ = some (.slice c.fa c.fn c.fc) ∧ Wz.cell? ⟨s, 7, none⟩ = some (.slice c.ba c.bn c.bc) ∧ Wz.cell? ⟨s, 8, none⟩ = some (.slice c.la c.ln c.lc) ∧ Wz.cell? ⟨s, 9, none⟩ = some (.slice c.ka c.kn c.kc) ∧ Wz.cell? ⟨s + 1 + 1, 0, none⟩ = some (.func (.func 75) #[] #[.pointer (some ⟨s, 0, none⟩), .pointer (some ⟨s + 1, 0, none⟩)]) ∧ Wz.cell? ⟨(W.heap.size + 1), 0, none⟩ = some (.slice p1 q1 r1) ∧ Wz.cell? ⟨(W.heap.size + 1), 1, none⟩ = some (.slice p2 q2 r2) ∧ Wz.cell? ⟨W.heap.size, 0, none⟩ = some (.int .i64 2) ∧ Wz.cell? ⟨W.heap.size, 1, none⟩ = some (.int .i64 vr) ∧ Wz.cell? ⟨W.heap.size, 2, none⟩ = some (.int .i64 (j : Int)) ∧ Wz.cell? ⟨W.heap.size, 3, none⟩ = some (.int .i64 ek) ∧ Wz.cell? ⟨W.heap.size, 4, none⟩ = some (.int .i64 en) ∧ Wz.cell? ⟨W.heap.size, 5, none⟩ = some (.slice xa xl xc) ∧ Wz.cell? ⟨W.heap.size, 6, none⟩ = some (.slice aa al ac) ∧ Wz.cell? ⟨W.heap.size, 7, none⟩ = some (.slice ta tl tc) ∧ Wz.cell? ⟨W.heap.size, 8, none⟩ = some (.slice ea el ec) ∧ Wz.cell? ⟨(W3.heap.size + 1), 0, none⟩ = some (.slice pa pn pc) ∧ Wz.cell? ⟨(W3.heap.size + 1), 1, none⟩ = some (.slice za zn zc) ∧ Wz.cell? ⟨(W3.heap.size + 1), 2, none⟩ = some (.int .i64 rk) ∧ Wz.cell? ⟨(W3.heap.size + 1), 3, none⟩ = some (.int .i64 rn) ∧ Wz.cell? ⟨(W3.heap.size + 1), 4, none⟩ = some (.slice ra rl rc)) (by kernel_rfl) (hS0) (fun hHeld => ?_)
      refine tk (i := 0) (oi := { dst := some 59, op := Go.Op.load 129 (Go.Operand.tmp 4), type := 129, pos := "walker.go:64", after := #[], guard := none }) (v := ?_) (Or.inl ⟨by rfl, ?_⟩) (by assumption) ?_
      rotate_left
      · intro w' hSw
        (try dsimp only at hSw)
        go_simp
        try with_reducible rfl
      try simp only [aput]
      refine tk (i := 1) (oi := ⟨some 60, .fieldAddr 88 (.tmp 3) 0, 0, "walker.go:64", #[], none⟩) (v := ?_) (Or.inl ⟨by rfl, ?_⟩) (by assumption) ?_
      rotate_left
      · intro w' hSw
        (try dsimp only at hSw)
        go_simp
        try with_reducible rfl
      try simp only [aput]
      refine tk (i := 2) (oi := ⟨some 61, .load 86 (.tmp 60), 86, "walker.go:64", #[⟨1, .data⟩], none⟩) (v := ?_) (Or.inl ⟨by rfl, ?_⟩) (by assumption) ?_
      rotate_left
      · intro w' hSw
        (try dsimp only at hSw)
        go_simp
        try with_reducible rfl
      try simp only [aput]
      refine tk (i := 3) (oi := ⟨some 62, .load 62 (.tmp 8), 62, "walker.go:64", #[], none⟩) (v := ?_) (Or.inl ⟨by rfl, ?_⟩) (by assumption) ?_
      rotate_left
      · intro w' hSw
        (try dsimp only at hSw)
        go_simp
        try with_reducible rfl
      try simp only [aput]
      refine tk (i := 4) (oi := ⟨some 63, .fieldAddr 133 (.tmp 10) 2, 0, "walker.go:64", #[], none⟩) (v := ?_) (Or.inl ⟨by rfl, ?_⟩) (by assumption) ?_
      rotate_left
      · intro w' hSw
        (try dsimp only at hSw)
        go_simp
        try with_reducible rfl
      try simp only [aput]
      refine tk (i := 5) (oi := ⟨some 64, .load 24 (.tmp 63), 24, "walker.go:64", #[⟨4, .data⟩], none⟩) (v := ?_) (Or.inl ⟨by rfl, ?_⟩) (by assumption) ?_
      rotate_left
      · intro w' hSw
        (try dsimp only at hSw)
        go_simp
        try with_reducible rfl
      try simp only [aput]
      refine tk (i := 7) (oi := ⟨some 66, .fieldAddr 78 (.tmp 7) 1, 0, "walker.go:64", #[], none⟩) (v := ?_) (Or.inl ⟨by rfl, ?_⟩) (by assumption) ?_
      rotate_left
      · intro w' hSw
        (try dsimp only at hSw)
        go_simp
        try with_reducible rfl
      try simp only [aput]
      refine tk (i := 8) (oi := ⟨some 67, .load 3 (.tmp 66), 3, "walker.go:64", #[⟨7, .data⟩], none⟩) (v := ?_) (Or.inl ⟨by rfl, ?_⟩) (by assumption) ?_
      rotate_left
      · intro w' hSw
        (try dsimp only at hSw)
        go_simp
        try with_reducible rfl
      try simp only [aput]
      refine wpAnyH_ready (rs := [6]) (by kernel_rfl) (by simp) ?_
      refine AllReadyH.cons (o := { dst := some 65, op := Go.Op.call { callee := Go.Callee.value (Go.Operand.func 78), args := #[Go.Operand.tmp 61, Go.Operand.tmp 62, Go.Operand.tmp 64], argTypes := #[86, 62, 24] }, type := 62, pos := "walker.go:64", after := #[⟨2, .data⟩, ⟨3, .data⟩, ⟨5, .data⟩], guard := none }) rfl (fun K hK => ?_) AllReadyH.nil
      go_simp
      refine (KWA.out).mono ?_
      rintro e W6 ⟨⟨n1, n2, n3, n4, n5, n6, rfl, hN6⟩, hb6⟩
      have hbz := over_trans ((Below.refl _ wr).drew) hb6
      have hr0 := HBr.out.row.over hbz
      have hrp := HRPr.out.over hbz
      have hrs := HRSr.out.over hbz
      have hrf := HRFr.out.over hbz
      have hS6 : W6.cell? ⟨s, 0, none⟩ = some (.int .i64 (c.n : Int)) ∧ W6.cell? ⟨s, 1, none⟩ = some (.slice c.ga c.gn c.gc) ∧ W6.cell? ⟨s, 2, none⟩ = some (.slice c.sa c.sn c.sc) ∧ W6.cell? ⟨s, 3, none⟩ = some (.slice c.ya c.yn c.yc) ∧ W6.cell? ⟨s, 4, none⟩ = some (.slice c.oa c.on c.oc) ∧ W6.cell? ⟨s, 5, none⟩ = some (.slice c.va c.vn c.vc) ∧ W6.cell? ⟨s, 6, none⟩ = some (.slice c.fa c.fn c.fc) ∧ W6.cell? ⟨s, 7, none⟩ = some (.slice c.ba c.bn c.bc) ∧ W6.cell? ⟨s, 8, none⟩ = some (.slice c.la c.ln c.lc) ∧ W6.cell? ⟨s, 9, none⟩ = some (.slice c.ka c.kn c.kc) ∧ W6.cell? ⟨s + 1 + 1, 0, none⟩ = some (.func (.func 75) #[] #[.pointer (some ⟨s, 0, none⟩), .pointer (some ⟨s + 1, 0, none⟩)]) ∧ W6.cell? ⟨(W.heap.size + 1), 0, none⟩ = some (.slice p1 q1 r1) ∧ W6.cell? ⟨(W.heap.size + 1), 1, none⟩ = some (.slice p2 q2 r2) ∧ W6.cell? ⟨W.heap.size, 0, none⟩ = some (.int .i64 2) ∧ W6.cell? ⟨W.heap.size, 1, none⟩ = some (.int .i64 vr) ∧ W6.cell? ⟨W.heap.size, 2, none⟩ = some (.int .i64 (j : Int)) ∧ W6.cell? ⟨W.heap.size, 3, none⟩ = some (.int .i64 ek) ∧ W6.cell? ⟨W.heap.size, 4, none⟩ = some (.int .i64 en) ∧ W6.cell? ⟨W.heap.size, 5, none⟩ = some (.slice xa xl xc) ∧ W6.cell? ⟨W.heap.size, 6, none⟩ = some (.slice aa al ac) ∧ W6.cell? ⟨W.heap.size, 7, none⟩ = some (.slice ta tl tc) ∧ W6.cell? ⟨W.heap.size, 8, none⟩ = some (.slice ea el ec) ∧ W6.cell? ⟨(W3.heap.size + 1), 0, none⟩ = some (.slice pa pn pc) ∧ W6.cell? ⟨(W3.heap.size + 1), 1, none⟩ = some (.slice za zn zc) ∧ W6.cell? ⟨(W3.heap.size + 1), 2, none⟩ = some (.int .i64 rk) ∧ W6.cell? ⟨(W3.heap.size + 1), 3, none⟩ = some (.int .i64 rn) ∧ W6.cell? ⟨(W3.heap.size + 1), 4, none⟩ = some (.slice ra rl rc) := ⟨hr0 0 _ rfl, hr0 1 _ rfl, hr0 2 _ rfl, hr0 3 _ rfl, hr0 4 _ rfl, hr0 5 _ rfl, hr0 6 _ rfl, hr0 7 _ rfl, hr0 8 _ rfl, hr0 9 _ rfl, cell_over hbz _ _ tv, hrp 0 _ rfl, hrp 1 _ rfl, hrs 0 _ rfl, hrs 1 _ rfl, hrs 2 _ rfl, hrs 3 _ rfl, hrs 4 _ rfl, hrs 5 _ rfl, hrs 6 _ rfl, hrs 7 _ rfl, hrs 8 _ rfl, hrf 0 _ rfl, hrf 1 _ rfl, hrf 2 _ rfl, hrf 3 _ rfl, hrf 4 _ rfl⟩
      have HBZ6 := hide hbz
      have HN6 := hide hN6
      clear hr0 hrp hrs hrf hN6 hb6 hbz
      go_simp
      refine hK.out _ _ (hS6) (fun hHeld => ?_)
      clear hK K
      try simp only [aput]
      refine wpAnyH_ready (rs := [9]) (by kernel_rfl) (by simp) ?_
      refine AllReadyH.cons (o := { dst := some 68, op := Go.Op.call { callee := Go.Callee.value (Go.Operand.tmp 59), args := #[Go.Operand.tmp 65, Go.Operand.tmp 67], argTypes := #[62, 3] }, type := 0, pos := "walker.go:64", after := #[⟨0, .data⟩, ⟨6, .data⟩, ⟨8, .data⟩, ⟨6, .chain⟩], guard := none }) rfl (fun K hK => ?_) AllReadyH.nil
      go_simp
      refine (KV.out (Q m) W6 _ _ vr (HI.out.over _ _ _ HIr.out HBZ6.out) (HBr.out.over HI.out.xok HBZ6.out) HN6.out (by rw [HVR.out]; exact (HOK.out.2.1 (by omega)).1) (by rw [HVR.out]; exact (HOK.out.2.1 (by omega)).2)).mono ?_
      rintro e W7 ⟨rfl, hI7, hF7⟩
      have hF47 := (FrW.of_below HI.out.xok HBZ6.out).trans hF7
      have hr0 := hF47.row HBr.out.row HBr.out.x0
      have hrp := hF47.row HRPr.out HXPr.out
      have hrs := hF47.row HRSr.out HXSr.out
      have hrf := hF47.row HRFr.out HXFr.out
      have hS7 : W7.cell? ⟨s, 0, none⟩ = some (.int .i64 (c.n : Int)) ∧ W7.cell? ⟨s, 1, none⟩ = some (.slice c.ga c.gn c.gc) ∧ W7.cell? ⟨s, 2, none⟩ = some (.slice c.sa c.sn c.sc) ∧ W7.cell? ⟨s, 3, none⟩ = some (.slice c.ya c.yn c.yc) ∧ W7.cell? ⟨s, 4, none⟩ = some (.slice c.oa c.on c.oc) ∧ W7.cell? ⟨s, 5, none⟩ = some (.slice c.va c.vn c.vc) ∧ W7.cell? ⟨s, 6, none⟩ = some (.slice c.fa c.fn c.fc) ∧ W7.cell? ⟨s, 7, none⟩ = some (.slice c.ba c.bn c.bc) ∧ W7.cell? ⟨s, 8, none⟩ = some (.slice c.la c.ln c.lc) ∧ W7.cell? ⟨s, 9, none⟩ = some (.slice c.ka c.kn c.kc) ∧ W7.cell? ⟨s + 1 + 1, 0, none⟩ = some (.func (.func 75) #[] #[.pointer (some ⟨s, 0, none⟩), .pointer (some ⟨s + 1, 0, none⟩)]) ∧ W7.cell? ⟨(W.heap.size + 1), 0, none⟩ = some (.slice p1 q1 r1) ∧ W7.cell? ⟨(W.heap.size + 1), 1, none⟩ = some (.slice p2 q2 r2) ∧ W7.cell? ⟨W.heap.size, 0, none⟩ = some (.int .i64 2) ∧ W7.cell? ⟨W.heap.size, 1, none⟩ = some (.int .i64 vr) ∧ W7.cell? ⟨W.heap.size, 2, none⟩ = some (.int .i64 (j : Int)) ∧ W7.cell? ⟨W.heap.size, 3, none⟩ = some (.int .i64 ek) ∧ W7.cell? ⟨W.heap.size, 4, none⟩ = some (.int .i64 en) ∧ W7.cell? ⟨W.heap.size, 5, none⟩ = some (.slice xa xl xc) ∧ W7.cell? ⟨W.heap.size, 6, none⟩ = some (.slice aa al ac) ∧ W7.cell? ⟨W.heap.size, 7, none⟩ = some (.slice ta tl tc) ∧ W7.cell? ⟨W.heap.size, 8, none⟩ = some (.slice ea el ec) ∧ W7.cell? ⟨(W3.heap.size + 1), 0, none⟩ = some (.slice pa pn pc) ∧ W7.cell? ⟨(W3.heap.size + 1), 1, none⟩ = some (.slice za zn zc) ∧ W7.cell? ⟨(W3.heap.size + 1), 2, none⟩ = some (.int .i64 rk) ∧ W7.cell? ⟨(W3.heap.size + 1), 3, none⟩ = some (.int .i64 rn) ∧ W7.cell? ⟨(W3.heap.size + 1), 4, none⟩ = some (.slice ra rl rc) := ⟨hr0 0 _ rfl, hr0 1 _ rfl, hr0 2 _ rfl, hr0 3 _ rfl, hr0 4 _ rfl, hr0 5 _ rfl, hr0 6 _ rfl, hr0 7 _ rfl, hr0 8 _ rfl, hr0 9 _ rfl, hF47.cell tv HBr.out.x2, hrp 0 _ rfl, hrp 1 _ rfl, hrs 0 _ rfl, hrs 1 _ rfl, hrs 2 _ rfl, hrs 3 _ rfl, hrs 4 _ rfl, hrs 5 _ rfl, hrs 6 _ rfl, hrs 7 _ rfl, hrs 8 _ rfl, hrf 0 _ rfl, hrf 1 _ rfl, hrf 2 _ rfl, hrf 3 _ rfl, hrf 4 _ rfl⟩
      clear hr0 hrp hrs hrf
      go_simp
      refine hK.out _ _ (hS7) (fun hHeld => ?_)
      clear hK K
      try simp only [aput]
      refine wpAnyH_done (by kernel_rfl) ?_ _
      have HI7 := hide hI7
      have HB7 := hide (HBr.out.keep hF47)
      have HRP7 := hide (hF47.row HRPr.out HXPr.out)
      have HRS7 := hide (hF47.row HRSr.out HXSr.out)
      have HXP7 : Hid (¬ X W7 (W.heap.size + 1)) := fun h => HXPr.out (hF47.mov _ (World.block_lt_of_cell? _ _ (HRPr.out 0 _ rfl)) h)
      have HXS7 : Hid (¬ X W7 W.heap.size) := fun h => HXSr.out (hF47.mov _ (World.block_lt_of_cell? _ _ (HRSr.out 0 _ rfl)) h)
      have HP7 := hide (HPr.out.keep HI.out.n1 hF47)
      have HF7 := hide ((HF5.out.trans HFr.out).trans hF47)
      obtain ⟨hf1, hf2⟩ := HI.out.flevs _ _ hI7
      obtain ⟨ao9, cap9, hk1, hk2⟩ := hf1
      injection hk1 with x1 x2 x3
      have hjk : j < c.kn := by rw [x2, hf2]; exact HJ2.out
      have hjk5 : c.kn ≤ 5 := by rw [x2, hf2]; exact hf5
      obtain ⟨b9, z9, hk3, -⟩ := hk2 (by intro h; rw [h] at hf2; have := HJ2.out; simp at hf2; omega)
      have HKA := hide (x1.trans hk3)
      have KFL := hide fun (W1 : World) (hb1 : Below W7.heap.size W7 W1) => HFL.out _ W1 _ p (false, j) b9 z9 (HI.out.over _ _ _ HI7.out hb1) (HP7.out.over HI.out.xok hb1) (fun h => by cases h) (fun _ => HJ2.out) (by rw [if_neg (by simp)]; exact HKA.out)
      have hjk2 : (j : Int) < (c.kn : Int) := by omega
      clear hS7 hS6 hS0 hI7 hF7 hF47 t0 t1 t2 t3 t4 t5 t6 t7 t8 t9 g0 g1 g2 g3 g4 g5 g6 g7 g8 u0 u1 f0 f1 f2 f3 f4 tv hf2 hk2 hk3 x1 x2 x3
      have t0 := HB7.out.row 0 _ rfl
      have t1 := HB7.out.row 1 _ rfl
      have t2 := HB7.out.row 2 _ rfl
      have t3 := HB7.out.row 3 _ rfl
      have t4 := HB7.out.row 4 _ rfl
      have t5 := HB7.out.row 5 _ rfl
      have t6 := HB7.out.row 6 _ rfl
      have t7 := HB7.out.row 7 _ rfl
      have t8 := HB7.out.row 8 _ rfl
      have t9 := HB7.out.row 9 _ rfl
      have g0 := HRS7.out 0 _ rfl
      have g1 := HRS7.out 1 _ rfl
      have g2 := HRS7.out 2 _ rfl
      have g3 := HRS7.out 3 _ rfl
      have g4 := HRS7.out 4 _ rfl
      have g5 := HRS7.out 5 _ rfl
      have g6 := HRS7.out 6 _ rfl
      have g7 := HRS7.out 7 _ rfl
      have g8 := HRS7.out 8 _ rfl
      have u0 := HRP7.out 0 _ rfl
      have u1 := HRP7.out 1 _ rfl
      have fl7 := HB7.out.flow
      rw [HKA.out] at t9
      have hS0 : W7.cell? ⟨s, 0, none⟩ = some (.int .i64 (c.n : Int)) ∧ W7.cell? ⟨s, 1, none⟩ = some (.slice c.ga c.gn c.gc) ∧ W7.cell? ⟨s, 2, none⟩ = some (.slice c.sa c.sn c.sc) ∧ W7.cell? ⟨s, 3, none⟩ = some (.slice c.ya c.yn c.yc) ∧ W7.cell? ⟨s, 4, none⟩ = some (.slice c.oa c.on c.oc) ∧ W7.cell? ⟨s, 5, none⟩ = some (.slice c.va c.vn c.vc) ∧ W7.cell? ⟨s, 6, none⟩ = some (.slice c.fa c.fn c.fc) ∧ W7.cell? ⟨s, 7, none⟩ = some (.slice c.ba c.bn c.bc) ∧ W7.cell? ⟨s, 8, none⟩ = some (.slice c.la c.ln c.lc) ∧ W7.cell? ⟨s, 9, none⟩ = some (.slice (some ⟨b9, z9, none⟩) c.kn c.kc) ∧ W7.cell? ⟨s + 1, 0, none⟩ = some (.func (.func G) #[] #[d1, d2]) ∧ W7.cell? ⟨(W.heap.size + 1), 0, none⟩ = some (.slice p1 q1 r1) ∧ W7.cell? ⟨(W.heap.size + 1), 1, none⟩ = some (.slice p2 q2 r2) ∧ W7.cell? ⟨W.heap.size, 0, none⟩ = some (.int .i64 2) ∧ W7.cell? ⟨W.heap.size, 1, none⟩ = some (.int .i64 vr) ∧ W7.cell? ⟨W.heap.size, 2, none⟩ = some (.int .i64 (j : Int)) ∧ W7.cell? ⟨W.heap.size, 3, none⟩ = some (.int .i64 ek) ∧ W7.cell? ⟨W.heap.size, 4, none⟩ = some (.int .i64 en) ∧ W7.cell? ⟨W.heap.size, 5, none⟩ = some (.slice xa xl xc) ∧ W7.cell? ⟨W.heap.size, 6, none⟩ = some (.slice aa al ac) ∧ W7.cell? ⟨W.heap.size, 7, none⟩ = some (.slice ta tl tc) ∧ W7.cell? ⟨W.heap.size, 8, none⟩ = some (.slice ea el ec) := ⟨t0, t1, t2, t3, t4, t5, t6, t7, t8, t9, fl7, u0, u1, g0, g1, g2, g3, g4, g5, g6, g7, g8⟩
      go_wp2_with fail
      refine wp_region_held_drew (S := fun Wz => Wz.cell? ⟨s, 0, none⟩ = some (.int .i64 (c.n : Int)) ∧ Wz.cell? ⟨s, 1, none⟩ = some (.slice c.ga c.gn c.gc) ∧ Wz.cell? ⟨s, 2, none⟩ = some (.slice c.sa c.sn c.sc) ∧ Wz.cell? ⟨s, 3, none⟩ = some (.slice c.ya c.yn c.yc) ∧ Wz.cell? ⟨s, 4, none⟩ = some (.slice c.oa c.on c.oc) ∧ Wz.cell? ⟨s, 5, none⟩ = some (.slice c.va c.vn c.vc) ∧ Wz.cell? ⟨s, 6, none⟩ = some (.slice c.fa c.fn c.fc) ∧ Wz.cell? ⟨s, 7, none⟩ = some (.slice c.ba c.bn c.bc) ∧ Wz.cell? ⟨s, 8, none⟩ = some (.slice c.la c.ln c.lc) ∧ Wz.cell? ⟨s, 9, none⟩ = some (.slice (some ⟨b9, z9, none⟩) c.kn c.kc) ∧ Wz.cell? ⟨s + 1, 0, none⟩ = some (.func (.func G) #[] #[d1, d2]) ∧ Wz.cell? ⟨(W.heap.size + 1), 0, none⟩ = some (.slice p1 q1 r1) ∧ Wz.cell? ⟨(W.heap.size + 1), 1, none⟩ = some (.slice p2 q2 r2) ∧ Wz.cell? ⟨W.heap.size, 0, none⟩ = some (.int .i64 2) ∧ Wz.cell? ⟨W.heap.size, 1, none⟩ = some (.int .i64 vr) ∧ Wz.cell? ⟨W.heap.size, 2, none⟩ = some (.int .i64 (j : Int)) ∧ Wz.cell? ⟨W.heap.size, 3, none⟩ = some (.int .i64 ek) ∧ Wz.cell? ⟨W.heap.size, 4, none⟩ = some (.int .i64 en) ∧ Wz.cell? ⟨W.heap.size, 5, none⟩ = some (.slice xa xl xc) ∧ Wz.cell? ⟨W.heap.size, 6, none⟩ = some (.slice aa al ac) ∧ Wz.cell? ⟨W.heap.size, 7, none⟩ = some (.slice ta tl tc) ∧ Wz.cell? ⟨W.heap.size, 8, none⟩ = some (.slice ea el ec)) (by kernel_rfl) (hS0) (fun hHeld => ?_)
      refine tk (i := 0) (oi := { dst := some 69, op := Go.Op.load 94 (Go.Operand.tmp 5), type := 94, pos := "walker.go:65", after := #[], guard := none }) (v := ?_) (Or.inl ⟨by rfl, ?_⟩) (by assumption) ?_
      rotate_left
      · intro w' hSw
        (try dsimp only at hSw)
        go_simp
        try with_reducible rfl
      try simp only [aput]
      refine tk (i := 1) (oi := ⟨some 70, .load 62 (.tmp 8), 62, "walker.go:65", #[], none⟩) (v := ?_) (Or.inl ⟨by rfl, ?_⟩) (by assumption) ?_
      rotate_left
      · intro w' hSw
        (try dsimp only at hSw)
        go_simp
        try with_reducible rfl
      try simp only [aput]
      refine tk (i := 2) (oi := ⟨some 71, .fieldAddr 88 (.tmp 3) 0, 0, "walker.go:65", #[], none⟩) (v := ?_) (Or.inl ⟨by rfl, ?_⟩) (by assumption) ?_
      rotate_left
      · intro w' hSw
        (try dsimp only at hSw)
        go_simp
        try with_reducible rfl
      try simp only [aput]
      refine tk (i := 3) (oi := ⟨some 72, .fieldAddr 86 (.tmp 71) 1, 0, "walker.go:65", #[⟨2, .data⟩], none⟩) (v := ?_) (Or.inl ⟨by rfl, ?_⟩) (by assumption) ?_
      rotate_left
      · intro w' hSw
        (try dsimp only at hSw)
        go_simp
        try with_reducible rfl
      try simp only [aput]
      refine tk (i := 4) (oi := ⟨some 73, .fieldAddr 54 (.tmp 72) 1, 0, "walker.go:65", #[⟨3, .data⟩], none⟩) (v := ?_) (Or.inl ⟨by rfl, ?_⟩) (by assumption) ?_
      rotate_left
      · intro w' hSw
        (try dsimp only at hSw)
        go_simp
        try with_reducible rfl
      try simp only [aput]
      refine tk (i := 5) (oi := ⟨some 74, .load 52 (.tmp 73), 52, "walker.go:65", #[⟨4, .data⟩], none⟩) (v := ?_) (Or.inl ⟨by rfl, ?_⟩) (by assumption) ?_
      rotate_left
      · intro w' hSw
        (try dsimp only at hSw)
        go_simp
        try with_reducible rfl
      try simp only [aput]
      refine tk (i := 6) (oi := ⟨some 75, .fieldAddr 78 (.tmp 7) 2, 0, "walker.go:65", #[], none⟩) (v := ?_) (Or.inl ⟨by rfl, ?_⟩) (by assumption) ?_
      rotate_left
      · intro w' hSw
        (try dsimp only at hSw)
        go_simp
        try with_reducible rfl
      try simp only [aput]
      refine tk (i := 7) (oi := ⟨some 76, .load 3 (.tmp 75), 3, "walker.go:65", #[⟨6, .data⟩], none⟩) (v := ?_) (Or.inl ⟨by rfl, ?_⟩) (by assumption) ?_
      rotate_left
      · intro w' hSw
        (try dsimp only at hSw)
        go_simp
        try with_reducible rfl
      try simp only [aput]
      refine tk (i := 8) (oi := ⟨some 77, .indexAddr 52 (.tmp 74) (.tmp 76), 0, "walker.go:65", #[⟨5, .data⟩, ⟨7, .data⟩], none⟩) (v := ?_) (Or.inl ⟨by rfl, ?_⟩) (by assumption) ?_
      rotate_left
      · intro w' hSw
        (try dsimp only at hSw)
        go_simp
        try with_reducible rfl
      try simp only [aput]
      refine wpAnyH_ready (rs := [9]) (by kernel_rfl) (by simp) ?_
      refine AllReadyH.cons (o := { dst := some 78, op := Go.Op.call { callee := Go.Callee.value (Go.Operand.tmp 69), args := #[Go.Operand.tmp 70, Go.Operand.tmp 77], argTypes := #[62, 91] }, type := 0, pos := "walker.go:65", after := #[⟨0, .data⟩, ⟨1, .data⟩, ⟨8, .data⟩], guard := none }) rfl (fun K hK => ?_) AllReadyH.nil
      go_simp
      refine (KFL.out W7.drew ((Below.refl _ _).drew)).mono ?_
      rintro e W8 ⟨rfl, hI8, hF8⟩
      have hF78 := (FrW.of_below HI.out.xok ((Below.refl _ W7).drew)).trans hF8
      have hr0 := hF78.row HB7.out.row HB7.out.x0
      have hrp := hF78.row HRP7.out HXP7.out
      have hrs := hF78.row HRS7.out HXS7.out
      have hS8 : W8.cell? ⟨s, 0, none⟩ = some (.int .i64 (c.n : Int)) ∧ W8.cell? ⟨s, 1, none⟩ = some (.slice c.ga c.gn c.gc) ∧ W8.cell? ⟨s, 2, none⟩ = some (.slice c.sa c.sn c.sc) ∧ W8.cell? ⟨s, 3, none⟩ = some (.slice c.ya c.yn c.yc) ∧ W8.cell? ⟨s, 4, none⟩ = some (.slice c.oa c.on c.oc) ∧ W8.cell? ⟨s, 5, none⟩ = some (.slice c.va c.vn c.vc) ∧ W8.cell? ⟨s, 6, none⟩ = some (.slice c.fa c.fn c.fc) ∧ W8.cell? ⟨s, 7, none⟩ = some (.slice c.ba c.bn c.bc) ∧ W8.cell? ⟨s, 8, none⟩ = some (.slice c.la c.ln c.lc) ∧ W8.cell? ⟨s, 9, none⟩ = some (.slice (some ⟨b9, z9, none⟩) c.kn c.kc) ∧ W8.cell? ⟨s + 1, 0, none⟩ = some (.func (.func G) #[] #[d1, d2]) ∧ W8.cell? ⟨(W.heap.size + 1), 0, none⟩ = some (.slice p1 q1 r1) ∧ W8.cell? ⟨(W.heap.size + 1), 1, none⟩ = some (.slice p2 q2 r2) ∧ W8.cell? ⟨W.heap.size, 0, none⟩ = some (.int .i64 2) ∧ W8.cell? ⟨W.heap.size, 1, none⟩ = some (.int .i64 vr) ∧ W8.cell? ⟨W.heap.size, 2, none⟩ = some (.int .i64 (j : Int)) ∧ W8.cell? ⟨W.heap.size, 3, none⟩ = some (.int .i64 ek) ∧ W8.cell? ⟨W.heap.size, 4, none⟩ = some (.int .i64 en) ∧ W8.cell? ⟨W.heap.size, 5, none⟩ = some (.slice xa xl xc) ∧ W8.cell? ⟨W.heap.size, 6, none⟩ = some (.slice aa al ac) ∧ W8.cell? ⟨W.heap.size, 7, none⟩ = some (.slice ta tl tc) ∧ W8.cell? ⟨W.heap.size, 8, none⟩ = some (.slice ea el ec) := ⟨hr0 0 _ rfl, hr0 1 _ rfl, hr0 2 _ rfl, hr0 3 _ rfl, hr0 4 _ rfl, hr0 5 _ rfl, hr0 6 _ rfl, hr0 7 _ rfl, hr0 8 _ rfl, (by rw [← HKA.out]; exact hr0 9 _ rfl), hF78.cell fl7 HB7.out.x1, hrp 0 _ rfl, hrp 1 _ rfl, hrs 0 _ rfl, hrs 1 _ rfl, hrs 2 _ rfl, hrs 3 _ rfl, hrs 4 _ rfl, hrs 5 _ rfl, hrs 6 _ rfl, hrs 7 _ rfl, hrs 8 _ rfl⟩
      clear hr0 hrp hrs
      go_simp
      refine hK.out _ _ (hS8) (fun hHeld => ?_)
      clear hK K
      try simp only [aput]
      refine wpAnyH_done (by kernel_rfl) ?_ _
      go_end0
      refine ⟨rfl, ⟨?_, HB7.out.keep hF78⟩, HF7.out.trans hF78⟩
      unfold askS
      rw [if_neg (by omega), if_pos hk]
      unfold askCall
      dsimp only
      rw [HFAT.out, ← HQM.out, ← HVR.out, ← HOT.out]
      exact hI8
end
end Go.Proofs.Ytcbbjjenkommeaa.Ex
