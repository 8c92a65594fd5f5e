/- What a command asks of levels: a get. -/
import Derived.Test.YtcbbjjenkommeaaM10
namespace Go.Proofs.Ytcbbjjenkommeaa.Ex
open Go.RowKit
set_option linter.unusedVariables false
section
variable {σ : Type} {c : WC} {w0 : World} {K nv ni no : Nat} {fs : List FnD} {gs : List (Int × Int)} {lev flev : σ → List Lev} {Inv : σ → World → Prop} {X : World → Nat → Prop} {s : Nat} {G : FuncId} {d1 d2 : Value}

set_option maxHeartbeats 4000000 in
set_option maxRecDepth 100000 in
theorem askDo3 (I : WInv c w0 nv fs gs lev flev Inv X) (flow : Lev → Bool × Nat → σ → σ) (hC : ∀ (args : Array Value) (w : World), (callFunc G args).run Try.prog w = .ok (.enter G args) w) (hfl : Hid (FlowOk c nv fs Inv X flow G d1 d2)) (vs : List (Bool × Lab)) (hvs : VarsAt w0 (.slice c.va c.vn c.vc) vs) (hnv : vs.length = nv)
    (ls : List Lab) (hls : LabsAt w0 (.slice c.ya c.yn c.yc) ls) (hlc : ∀ b ∈ ls, lChk c.n gs b = 0) (hni : ls.length = ni) (hni5 : ni ≤ 5) (kf : Nat) (hfs : FnsAt w0 K kf (.slice c.fa c.fn c.fc) fs) (hf5 : fs.length ≤ 5) (hof : ∀ i (h : i < fs.length), okF K nv ni no (i : Int) fs kf fs[i])
    (st : σ) (W : World) (a : Int) (k : Nat) (cs : List Value) (d : D) (v : Value) (p : Lev) (funcs : Int) (hI : Inv st W) (hB : AskBox c X s G d1 d2 W) (hrs : RS w0 K (k + 1) cs d) (hfn : funcs ≤ fs.length) (hok : okS1 K nv ni no funcs fs d) (hl : LevO c.n X W v p) (hk : sKind d = 3) :
    Calls Try.prog 77 #[.int .i64 a, .agg cs.toArray, v, .pointer (some ⟨s, 0, none⟩), .pointer (some ⟨s + 1 + 1, 0, none⟩), .pointer (some ⟨s + 1, 0, none⟩)] W fun e W' => e = .returned (.tuple #[]) ∧ (Inv (askS c.n K lev (vs.map Prod.fst) (ls.map (levOf (gnOf gs) c.n)) fs flow a d p st) W' ∧ AskBox c X s G d1 d2 W') ∧ FrW X W W' := by
  obtain ⟨p1, q1, r1, p2, q2, r2, rfl⟩ := hl.form
  obtain ⟨ek, en, xa, xl, xc, aa, ac, ta, tc, ea, ec, rfl, i0, i1, i2, hX, hA, hT, hE, -, -, -⟩ := hrs.form
  obtain ⟨vr, hvr⟩ : ∃ q, q = sVar d := ⟨_, rfl⟩
  obtain ⟨ot, hot⟩ : ∃ q, q = sOther d := ⟨_, rfl⟩
  obtain ⟨al, hal⟩ : ∃ q, q = (sArgs d).length := ⟨_, rfl⟩
  obtain ⟨tl, htl⟩ : ∃ q, q = (sThen d).length := ⟨_, rfl⟩
  obtain ⟨el, hel⟩ : ∃ q, q = (sElse d).length := ⟨_, rfl⟩
  have hkd : sC (sKind d) (sVar d) (sOther d) ek en xa xl xc aa (sArgs d).length ac ta (sThen d).length tc ea (sElse d).length ec = sC 3 (sVar d) (sOther d) ek en xa xl xc aa (sArgs d).length ac ta (sThen d).length tc ea (sElse d).length ec := by rw [hk]
  rw [hkd]
  clear hkd
  rw [← hvr, ← hot, ← hal, ← htl, ← hel]
  have HVR := hide hvr
  have HOT := hide hot
  have HAL := hide hal
  have hb : Below W.heap.size W ((W.alloc (.cells #[.int .i64 3, .int .i64 vr, .int .i64 ot, .int .i64 ek, .int .i64 en, .slice xa xl xc, .slice aa al ac, .slice ta tl tc, .slice ea el ec] 78)).alloc (.cells #[.slice p1 q1 r1, .slice p2 q2 r2] 62)) := ((Below.refl _ W).alloc (Nat.le_refl _) _).alloc (by simp) _
  have hI1 := I.over _ _ _ hI hb
  have hB1 := hB.over I.xok hb
  have hl1 := hl.over I.xok hb
  have hF1 := FrW.of_below I.xok hb
  have rowS : RowAt [.int .i64 3, .int .i64 vr, .int .i64 ot, .int .i64 ek, .int .i64 en, .slice xa xl xc, .slice aa al ac, .slice ta tl tc, .slice ea el ec] ((W.alloc (.cells #[.int .i64 3, .int .i64 vr, .int .i64 ot, .int .i64 ek, .int .i64 en, .slice xa xl xc, .slice aa al ac, .slice ta tl tc, .slice ea el ec] 78)).alloc (.cells #[.slice p1 q1 r1, .slice p2 q2 r2] 62)) W.heap.size := (RowAt.new [.int .i64 3, .int .i64 vr, .int .i64 ot, .int .i64 ek, .int .i64 en, .slice xa xl xc, .slice aa al ac, .slice ta tl tc, .slice ea el ec] 78 W).over ((Below.refl _ _).alloc (Nat.le_refl _) _)
  have rowP : RowAt [.slice p1 q1 r1, .slice p2 q2 r2] ((W.alloc (.cells #[.int .i64 3, .int .i64 vr, .int .i64 ot, .int .i64 ek, .int .i64 en, .slice xa xl xc, .slice aa al ac, .slice ta tl tc, .slice ea el ec] 78)).alloc (.cells #[.slice p1 q1 r1, .slice p2 q2 r2] 62)) (W.heap.size + 1) := by
    have r := RowAt.new [.slice p1 q1 r1, .slice p2 q2 r2] 62 (W.alloc (.cells #[.int .i64 3, .int .i64 vr, .int .i64 ot, .int .i64 ek, .int .i64 en, .slice xa xl xc, .slice aa al ac, .slice ta tl tc, .slice ea el ec] 78))
    simpa using r
  have xS : ¬ X ((W.alloc (.cells #[.int .i64 3, .int .i64 vr, .int .i64 ot, .int .i64 ek, .int .i64 en, .slice xa xl xc, .slice aa al ac, .slice ta tl tc, .slice ea el ec] 78)).alloc (.cells #[.slice p1 q1 r1, .slice p2 q2 r2] 62)) W.heap.size := fun h => by have := I.xlt _ _ hI _ (I.xok.below _ _ hb _ h); omega
  have xP : ¬ X ((W.alloc (.cells #[.int .i64 3, .int .i64 vr, .int .i64 ot, .int .i64 ek, .int .i64 en, .slice xa xl xc, .slice aa al ac, .slice ta tl tc, .slice ea el ec] 78)).alloc (.cells #[.slice p1 q1 r1, .slice p2 q2 r2] 62)) (W.heap.size + 1) := fun h => by have := I.xlt _ _ hI _ (I.xok.below _ _ hb _ h); omega
  have hBe := I.below _ _ hI1
  have hlv := I.levs _ _ hI1
  have KW := hide (withC c I.n1 I.n6 gs (lev st) X I.xok _ p K [.int .i64 ek, .int .i64 en, .slice xa xl xc] (sExpr d) _ (isGrants_over I.gr hBe) I.chk hlv.1 hl1 (by rw [hlv.2]; exact I.nv16) (I.xlt _ _ hI1) (hX.over hBe) (by rw [hlv.2]; exact varsX_stmt hok))
  have KV := hide (fun (st : σ) (W : World) (v : Value) (l : Lev) (i : Int) => toVarW (s := s) I flow hC hfl vs hvs hnv st W v l i)
  have t0 := hB1.row 0 _ rfl
  have t1 := hB1.row 1 _ rfl
  have t2 := hB1.row 2 _ rfl
  have t3 := hB1.row 3 _ rfl
  have t4 := hB1.row 4 _ rfl
  have t5 := hB1.row 5 _ rfl
  have t6 := hB1.row 6 _ rfl
  have t7 := hB1.row 7 _ rfl
  have t8 := hB1.row 8 _ rfl
  have t9 := hB1.row 9 _ rfl
  have g0 := rowS 0 _ rfl
  have g1 := rowS 1 _ rfl
  have g2 := rowS 2 _ rfl
  have g3 := rowS 3 _ rfl
  have g4 := rowS 4 _ rfl
  have g5 := rowS 5 _ rfl
  have g6 := rowS 6 _ rfl
  have g7 := rowS 7 _ rfl
  have g8 := rowS 8 _ rfl
  have u0 := rowP 0 _ rfl
  have u1 := rowP 1 _ rfl
  have HI := hide I
  have HI1 := hide hI1
  have HB1 := hide hB1
  have HL1 := hide hl1
  have HF1 := hide hF1
  have HRS := hide rowS
  have HRP := hide rowP
  have HXS := hide xS
  have HXP := hide xP
  have HOK := hide hok
  have HFL := hide hfl.out
  have HFS := hide hfs
  have HOF := hide hof
  have HA := hide hA
  have HLC := hide hlc
  have hj0 : 0 ≤ ot ∧ ot < ni := by rw [hot]; exact hok.2.2.2.1 hk
  obtain ⟨j, hj⟩ : ∃ j : Nat, ot = (j : Int) := ⟨ot.toNat, by omega⟩
  have hj1 : j < ls.length := by omega
  obtain ⟨hym, ya', yc', hye, hyc⟩ := hls
  injection hye with y1 y2 y3
  obtain ⟨b3, z3, hyo, hyel⟩ := hyc (by intro h; rw [h] at hj1; simp at hj1)
  obtain ⟨pr, pw, l0, l1, hpr, hpw⟩ := hyel j hj1
  have hya : c.ya = some ⟨b3, z3, none⟩ := y1.trans hyo
  obtain ⟨a1, a2, a3, rfl⟩ := pols_form hpr
  obtain ⟨a4, a5, a6, rfl⟩ := pols_form hpw
  have L0 := hide l0
  have L1 := hide l1
  have hyn : j < c.yn := by omega
  have hyn5 : c.yn ≤ 5 := by omega
  have hgj : (ls.map (levOf (gnOf gs) c.n)).getD ot.toNat noLev = levOf (gnOf gs) c.n ls[j] := by rw [hj]; simp [List.getD_eq_getElem?_getD, hj1]
  have HGJ := hide hgj
  have HPR := hide hpr
  have HPW := hide hpw
  have HCK := hide (hlc _ (List.getElem_mem hj1))
  have hj2 : (j : Int) < (c.yn : Int) := by omega
  have HJ := hide hj
  have HYA := hide hya
  clear hj hya hj0 hyc hyo hyel y1 y2 y3 hgj hpr hpw hym l0 l1
  clear hI1 hB1 hl1 hF1 rowS rowP xS xP hBe hlv hvr hot hal htl hel hb hrs hX hA hT hE hI hB hl hfl hvs hok hfs hof hlc I
  go_enter Try.func77, Try.ntmps77
  go_wp2_with fail
  refine (KW.out).mono ?_
  rintro e W3 ⟨⟨o1, o2, o3, o4, o5, o6, rfl, hL3⟩, hb3⟩
  have hb34 := (Below.refl _ W3).alloc (Nat.le_refl _) (.cells #[.slice o1 o2 o3, .slice o4 o5 o6] 62)
  have hb14 := over_trans hb3 hb34
  have hI4 := HI.out.over _ _ _ HI1.out hb14
  have hI3 := HI.out.over _ _ _ HI1.out hb3
  have hB4 := HB1.out.over HI.out.xok hb14
  have hL4 := hL3.over HI.out.xok hb34
  have hP4 := HL1.out.over HI.out.xok hb14
  have rowA := RowAt.new [.slice o1 o2 o3, .slice o4 o5 o6] 62 W3
  have rowS := HRS.out.over hb14
  have rowP := HRP.out.over hb14
  have xS : ¬ X (W3.alloc (.cells #[.slice o1 o2 o3, .slice o4 o5 o6] 62)) W.heap.size := fun h => HXS.out (HI.out.xok.below _ _ hb14 _ h)
  have xP : ¬ X (W3.alloc (.cells #[.slice o1 o2 o3, .slice o4 o5 o6] 62)) (W.heap.size + 1) := fun h => HXP.out (HI.out.xok.below _ _ hb14 _ h)
  have xA : ¬ X (W3.alloc (.cells #[.slice o1 o2 o3, .slice o4 o5 o6] 62)) W3.heap.size := fun h => by have := HI.out.xlt _ _ hI3 _ (HI.out.xok.below _ _ hb34 _ h); omega
  have hF4 := HF1.out.trans (FrW.of_below HI.out.xok hb14)
  have HI4 := hide hI4
  have HB4 := hide hB4
  have HL4 := hide hL4
  have HP4 := hide hP4
  have HF4 := hide hF4
  have HRS4 := hide rowS
  have HRP4 := hide rowP
  have HRA4 := hide rowA
  have HXS4 := hide xS
  have HXP4 := hide xP
  have HXA4 := hide xA
  clear t0 t1 t2 t3 t4 t5 t6 t7 t8 t9 g0 g1 g2 g3 g4 g5 g6 g7 g8 u0 u1 hb3 hb34 hb14 hL3 hI4 hI3 hB4 hL4 hP4 hF4 rowA rowS rowP xS xP xA KW HI1 HB1 HL1 HF1 HRS HRP HXS HXP
  have t0 := HB4.out.row 0 _ rfl
  have t1 := HB4.out.row 1 _ rfl
  have t2 := HB4.out.row 2 _ rfl
  have t3 := HB4.out.row 3 _ rfl
  have t4 := HB4.out.row 4 _ rfl
  have t5 := HB4.out.row 5 _ rfl
  have t6 := HB4.out.row 6 _ rfl
  have t7 := HB4.out.row 7 _ rfl
  have t8 := HB4.out.row 8 _ rfl
  have t9 := HB4.out.row 9 _ rfl
  have g0 := HRS4.out 0 _ rfl
  have g1 := HRS4.out 1 _ rfl
  have g2 := HRS4.out 2 _ rfl
  have g3 := HRS4.out 3 _ rfl
  have g4 := HRS4.out 4 _ rfl
  have g5 := HRS4.out 5 _ rfl
  have g6 := HRS4.out 6 _ rfl
  have g7 := HRS4.out 7 _ rfl
  have g8 := HRS4.out 8 _ rfl
  have u0 := HRP4.out 0 _ rfl
  have u1 := HRP4.out 1 _ rfl
  have y0 := HRA4.out 0 _ rfl
  have y1 := HRA4.out 1 _ rfl
  have tv := HB4.out.toVar
  have fl := HB4.out.flow
  have hB0 := HI.out.below _ _ HI4.out
  have l0 := cell_over hB0 _ _ L0.out
  have l1 := cell_over hB0 _ _ L1.out
  have hgr := isGrants_over HI.out.gr hB0
  have KL := hide fun (W5 : World) (hb5 : Below (W3.alloc (.cells #[.slice o1 o2 o3, .slice o4 o5 o6] 62)).heap.size (W3.alloc (.cells #[.slice o1 o2 o3, .slice o4 o5 o6] 62)) W5) => levelW (c.n : Int) c.ga c.gn c.gc c.sa c.sn c.sc (some ⟨b3, z3, none⟩) c.yn c.yc c.oa c.on c.oc c.va c.vn c.vc c.fa c.fn c.fc c.ba c.bn c.bc c.la c.ln c.lc c.ka c.kn c.kc gs _ _ ls[j] W5 (isGrants_over hgr hb5) (isPols_over (isPols_over HPR.out hB0) hb5) (isPols_over (isPols_over HPW.out hB0) hb5) HCK.out
  have KJ := hide fun (W5 : World) (hb5 : Below (W3.alloc (.cells #[.slice o1 o2 o3, .slice o4 o5 o6] 62)).heap.size (W3.alloc (.cells #[.slice o1 o2 o3, .slice o4 o5 o6] 62)) W5) (kr kw : Value) (q : Lev) (hq : LevO c.n X W5 (.agg #[kr, kw]) q) => joinW (c.n : Int) c.ga c.gn c.gc c.sa c.sn c.sc (some ⟨b3, z3, none⟩) c.yn c.yc c.oa c.on c.oc c.va c.vn c.vc c.fa c.fn c.fc c.ba c.bn c.bc c.la c.ln c.lc c.ka c.kn c.kc gs (.slice p1 q1 r1) (.slice p2 q2 r2) kr kw p q W5 (isGrants_over hgr hb5) (levAt_over HP4.out.at_ hb5) hq.at_ (lTwo_of HI.out.chk HP4.out.len hq.len)
  rw [HYA.out] at t3
  obtain rfl := HJ.out
  have hS0 : (W3.alloc (.cells #[.slice o1 o2 o3, .slice o4 o5 o6] 62)).cell? ⟨s, 0, none⟩ = some (.int .i64 (c.n : Int)) ∧ (W3.alloc (.cells #[.slice o1 o2 o3, .slice o4 o5 o6] 62)).cell? ⟨s, 1, none⟩ = some (.slice c.ga c.gn c.gc) ∧ (W3.alloc (.cells #[.slice o1 o2 o3, .slice o4 o5 o6] 62)).cell? ⟨s, 2, none⟩ = some (.slice c.sa c.sn c.sc) ∧ (W3.alloc (.cells #[.slice o1 o2 o3, .slice o4 o5 o6] 62)).cell? ⟨s, 3, none⟩ = some (.slice (some ⟨b3, z3, none⟩) c.yn c.yc) ∧ (W3.alloc (.cells #[.slice o1 o2 o3, .slice o4 o5 o6] 62)).cell? ⟨s, 4, none⟩ = some (.slice c.oa c.on c.oc) ∧ (W3.alloc (.cells #[.slice o1 o2 o3, .slice o4 o5 o6] 62)).cell? ⟨s, 5, none⟩ = some (.slice c.va c.vn c.vc) ∧ (W3.alloc (.cells #[.slice o1 o2 o3, .slice o4 o5 o6] 62)).cell? ⟨s, 6, none⟩ = some (.slice c.fa c.fn c.fc) ∧ (W3.alloc (.cells #[.slice o1 o2 o3, .slice o4 o5 o6] 62)).cell? ⟨s, 7, none⟩ = some (.slice c.ba c.bn c.bc) ∧ (W3.alloc (.cells #[.slice o1 o2 o3, .slice o4 o5 o6] 62)).cell? ⟨s, 8, none⟩ = some (.slice c.la c.ln c.lc) ∧ (W3.alloc (.cells #[.slice o1 o2 o3, .slice o4 o5 o6] 62)).cell? ⟨s, 9, none⟩ = some (.slice c.ka c.kn c.kc) ∧ (W3.alloc (.cells #[.slice o1 o2 o3, .slice o4 o5 o6] 62)).cell? ⟨s + 1 + 1, 0, none⟩ = some (.func (.func 75) #[] #[.pointer (some ⟨s, 0, none⟩), .pointer (some ⟨s + 1, 0, none⟩)]) ∧ (W3.alloc (.cells #[.slice o1 o2 o3, .slice o4 o5 o6] 62)).cell? ⟨(W.heap.size + 1), 0, none⟩ = some (.slice p1 q1 r1) ∧ (W3.alloc (.cells #[.slice o1 o2 o3, .slice o4 o5 o6] 62)).cell? ⟨(W.heap.size + 1), 1, none⟩ = some (.slice p2 q2 r2) ∧ (W3.alloc (.cells #[.slice o1 o2 o3, .slice o4 o5 o6] 62)).cell? ⟨W.heap.size, 0, none⟩ = some (.int .i64 3) ∧ (W3.alloc (.cells #[.slice o1 o2 o3, .slice o4 o5 o6] 62)).cell? ⟨W.heap.size, 1, none⟩ = some (.int .i64 vr) ∧ (W3.alloc (.cells #[.slice o1 o2 o3, .slice o4 o5 o6] 62)).cell? ⟨W.heap.size, 2, none⟩ = some (.int .i64 (j : Int)) ∧ (W3.alloc (.cells #[.slice o1 o2 o3, .slice o4 o5 o6] 62)).cell? ⟨W.heap.size, 3, none⟩ = some (.int .i64 ek) ∧ (W3.alloc (.cells #[.slice o1 o2 o3, .slice o4 o5 o6] 62)).cell? ⟨W.heap.size, 4, none⟩ = some (.int .i64 en) ∧ (W3.alloc (.cells #[.slice o1 o2 o3, .slice o4 o5 o6] 62)).cell? ⟨W.heap.size, 5, none⟩ = some (.slice xa xl xc) ∧ (W3.alloc (.cells #[.slice o1 o2 o3, .slice o4 o5 o6] 62)).cell? ⟨W.heap.size, 6, none⟩ = some (.slice aa al ac) ∧ (W3.alloc (.cells #[.slice o1 o2 o3, .slice o4 o5 o6] 62)).cell? ⟨W.heap.size, 7, none⟩ = some (.slice ta tl tc) ∧ (W3.alloc (.cells #[.slice o1 o2 o3, .slice o4 o5 o6] 62)).cell? ⟨W.heap.size, 8, none⟩ = some (.slice ea el ec) ∧ (W3.alloc (.cells #[.slice o1 o2 o3, .slice o4 o5 o6] 62)).cell? ⟨b3, z3 + j * 2, none⟩ = some (.slice a1 a2 a3) ∧ (W3.alloc (.cells #[.slice o1 o2 o3, .slice o4 o5 o6] 62)).cell? ⟨b3, z3 + j * 2 + 1, none⟩ = some (.slice a4 a5 a6) := ⟨t0, t1, t2, t3, t4, t5, t6, t7, t8, t9, tv, u0, u1, g0, g1, g2, g3, g4, g5, g6, g7, g8, l0, l1⟩
  clear hB0 hgr
  go_wp2_with fail
  refine wp_region_held_drew (S := fun Wz => Wz.cell? ⟨s, 0, none⟩ = some (.int .i64 (c.n : Int)) ∧ Wz.cell? ⟨s, 1, none⟩ = some (.slice c.ga c.gn c.gc) ∧ Wz.cell? ⟨s, 2, none⟩ = some (.slice c.sa c.sn c.sc) ∧ Wz.cell? ⟨s, 3, none⟩ = some (.slice (some ⟨b3, z3, none⟩) c.yn c.yc) ∧ Wz.cell? ⟨s, 4, none⟩ = some (.slice c.oa c.on c.oc) ∧ Wz.cell? ⟨s, 5, none⟩ = some (.slice c.va c.vn c.vc) ∧ Wz.cell? ⟨s, 6, none⟩ = some (.slice c.fa c.fn c.fc) ∧ Wz.cell? ⟨s, 7, none⟩ = some (.slice c.ba c.bn c.bc) ∧ Wz.cell? ⟨s, 8, none⟩ = some (.slice c.la c.ln c.lc) ∧ Wz.cell? ⟨s, 9, none⟩ = some (.slice c.ka c.kn c.kc) ∧ Wz.cell? ⟨s + 1 + 1, 0, none⟩ = some (.func (.func 75) #[] #[.pointer (some ⟨s, 0, none⟩), .pointer (some ⟨s + 1, 0, none⟩)]) ∧ Wz.cell? ⟨(W.heap.size + 1), 0, none⟩ = some (.slice p1 q1 r1) ∧ Wz.cell? ⟨(W.heap.size + 1), 1, none⟩ = some (.slice p2 q2 r2) ∧ Wz.cell? ⟨W.heap.size, 0, none⟩ = some (.int .i64 3) ∧ Wz.cell? ⟨W.heap.size, 1, none⟩ = some (.int .i64 vr) ∧ Wz.cell? ⟨W.heap.size, 2, none⟩ = some (.int .i64 (j : Int)) ∧ Wz.cell? ⟨W.heap.size, 3, none⟩ = some (.int .i64 ek) ∧ Wz.cell? ⟨W.heap.size, 4, none⟩ = some (.int .i64 en) ∧ Wz.cell? ⟨W.heap.size, 5, none⟩ = some (.slice xa xl xc) ∧ Wz.cell? ⟨W.heap.size, 6, none⟩ = some (.slice aa al ac) ∧ Wz.cell? ⟨W.heap.size, 7, none⟩ = some (.slice ta tl tc) ∧ Wz.cell? ⟨W.heap.size, 8, none⟩ = some (.slice ea el ec) ∧ Wz.cell? ⟨b3, z3 + j * 2, none⟩ = some (.slice a1 a2 a3) ∧ Wz.cell? ⟨b3, z3 + j * 2 + 1, none⟩ = some (.slice a4 a5 a6)) (by kernel_rfl) (hS0) (fun hHeld => ?_)
  refine tk (i := 0) (oi := { dst := some 81, op := Go.Op.load 129 (Go.Operand.tmp 4), type := 129, pos := "walker.go:67", after := #[], guard := none }) (v := ?_) (Or.inl ⟨by rfl, ?_⟩) (by assumption) ?_
  rotate_left
  · intro w' hSw
    (try dsimp only at hSw)
    go_simp
    try with_reducible rfl
  try simp only [aput]
  refine tk (i := 1) (oi := ⟨some 82, .fieldAddr 88 (.tmp 3) 0, 0, "walker.go:67", #[], none⟩) (v := ?_) (Or.inl ⟨by rfl, ?_⟩) (by assumption) ?_
  rotate_left
  · intro w' hSw
    (try dsimp only at hSw)
    go_simp
    try with_reducible rfl
  try simp only [aput]
  refine tk (i := 2) (oi := ⟨some 83, .load 86 (.tmp 82), 86, "walker.go:67", #[⟨1, .data⟩], none⟩) (v := ?_) (Or.inl ⟨by rfl, ?_⟩) (by assumption) ?_
  rotate_left
  · intro w' hSw
    (try dsimp only at hSw)
    go_simp
    try with_reducible rfl
  try simp only [aput]
  refine tk (i := 3) (oi := ⟨some 84, .load 62 (.tmp 8), 62, "walker.go:67", #[], none⟩) (v := ?_) (Or.inl ⟨by rfl, ?_⟩) (by assumption) ?_
  rotate_left
  · intro w' hSw
    (try dsimp only at hSw)
    go_simp
    try with_reducible rfl
  try simp only [aput]
  refine tk (i := 4) (oi := ⟨some 85, .fieldAddr 88 (.tmp 3) 0, 0, "walker.go:67", #[], none⟩) (v := ?_) (Or.inl ⟨by rfl, ?_⟩) (by assumption) ?_
  rotate_left
  · intro w' hSw
    (try dsimp only at hSw)
    go_simp
    try with_reducible rfl
  try simp only [aput]
  refine tk (i := 5) (oi := ⟨some 86, .load 86 (.tmp 85), 86, "walker.go:67", #[⟨4, .data⟩], none⟩) (v := ?_) (Or.inl ⟨by rfl, ?_⟩) (by assumption) ?_
  rotate_left
  · intro w' hSw
    (try dsimp only at hSw)
    go_simp
    try with_reducible rfl
  try simp only [aput]
  refine tk (i := 6) (oi := ⟨some 87, .fieldAddr 88 (.tmp 3) 0, 0, "walker.go:67", #[], none⟩) (v := ?_) (Or.inl ⟨by rfl, ?_⟩) (by assumption) ?_
  rotate_left
  · intro w' hSw
    (try dsimp only at hSw)
    go_simp
    try with_reducible rfl
  try simp only [aput]
  refine tk (i := 7) (oi := ⟨some 88, .fieldAddr 86 (.tmp 87) 0, 0, "walker.go:67", #[⟨6, .data⟩], none⟩) (v := ?_) (Or.inl ⟨by rfl, ?_⟩) (by assumption) ?_
  rotate_left
  · intro w' hSw
    (try dsimp only at hSw)
    go_simp
    try with_reducible rfl
  try simp only [aput]
  refine tk (i := 8) (oi := ⟨some 89, .fieldAddr 41 (.tmp 88) 2, 0, "walker.go:67", #[⟨7, .data⟩], none⟩) (v := ?_) (Or.inl ⟨by rfl, ?_⟩) (by assumption) ?_
  rotate_left
  · intro w' hSw
    (try dsimp only at hSw)
    go_simp
    try with_reducible rfl
  try simp only [aput]
  refine tk (i := 9) (oi := ⟨some 90, .load 36 (.tmp 89), 36, "walker.go:67", #[⟨8, .data⟩], none⟩) (v := ?_) (Or.inl ⟨by rfl, ?_⟩) (by assumption) ?_
  rotate_left
  · intro w' hSw
    (try dsimp only at hSw)
    go_simp
    try with_reducible rfl
  try simp only [aput]
  refine tk (i := 10) (oi := ⟨some 91, .fieldAddr 78 (.tmp 7) 2, 0, "walker.go:67", #[], none⟩) (v := ?_) (Or.inl ⟨by rfl, ?_⟩) (by assumption) ?_
  rotate_left
  · intro w' hSw
    (try dsimp only at hSw)
    go_simp
    try with_reducible rfl
  try simp only [aput]
  refine tk (i := 11) (oi := ⟨some 92, .load 3 (.tmp 91), 3, "walker.go:67", #[⟨10, .data⟩], none⟩) (v := ?_) (Or.inl ⟨by rfl, ?_⟩) (by assumption) ?_
  rotate_left
  · intro w' hSw
    (try dsimp only at hSw)
    go_simp
    try with_reducible rfl
  try simp only [aput]
  refine tk (i := 12) (oi := ⟨some 93, .indexAddr 36 (.tmp 90) (.tmp 92), 0, "walker.go:67", #[⟨9, .data⟩, ⟨11, .data⟩], none⟩) (v := ?_) (Or.inl ⟨by rfl, ?_⟩) (by assumption) ?_
  rotate_left
  · intro w' hSw
    (try dsimp only at hSw)
    go_simp
    try with_reducible rfl
  try simp only [aput]
  refine tk (i := 13) (oi := ⟨some 94, .load 102 (.tmp 93), 102, "walker.go:67", #[⟨12, .data⟩], none⟩) (v := ?_) (Or.inl ⟨by rfl, ?_⟩) (by assumption) ?_
  rotate_left
  · intro w' hSw
    (try dsimp only at hSw)
    go_simp
    try with_reducible rfl
  try simp only [aput]
  refine tk (i := 16) (oi := ⟨some 97, .fieldAddr 78 (.tmp 7) 1, 0, "walker.go:67", #[], none⟩) (v := ?_) (Or.inl ⟨by rfl, ?_⟩) (by assumption) ?_
  rotate_left
  · intro w' hSw
    (try dsimp only at hSw)
    go_simp
    try with_reducible rfl
  try simp only [aput]
  refine tk (i := 17) (oi := ⟨some 98, .load 3 (.tmp 97), 3, "walker.go:67", #[⟨16, .data⟩], none⟩) (v := ?_) (Or.inl ⟨by rfl, ?_⟩) (by assumption) ?_
  rotate_left
  · intro w' hSw
    (try dsimp only at hSw)
    go_simp
    try with_reducible rfl
  try simp only [aput]
  refine wpAnyH_ready (rs := [14]) (by kernel_rfl) (by simp) ?_
  refine AllReadyH.cons (o := { dst := some 95, op := Go.Op.call { callee := Go.Callee.value (Go.Operand.func 74), args := #[Go.Operand.tmp 86, Go.Operand.tmp 94], argTypes := #[86, 102] }, type := 62, pos := "walker.go:67", after := #[⟨5, .data⟩, ⟨13, .data⟩], guard := none }) rfl (fun K hK => ?_) AllReadyH.nil
  go_simp
  refine (KL.out _ ((Below.refl _ _).drew)).mono ?_
  rintro e W5 ⟨vj, rfl, hfr, hb5⟩
  have hbz := over_trans ((Below.refl _ (W3.alloc (.cells #[.slice o1 o2 o3, .slice o4 o5 o6] 62))).drew) hb5
  obtain ⟨m1, m2, m3, m4, m5, m6, hvj⟩ : ∃ m1 m2 m3 m4 m5 m6, vj = .agg #[.slice m1 m2 m3, .slice m4 m5 m6] := by
    obtain ⟨x, y, e, -⟩ := levAt_fresh hfr
    subst e
    obtain ⟨z1, z2, z3, z4, z5, z6, rfl, rfl⟩ := lev_slices (levAt_fresh hfr)
    exact ⟨_, _, _, _, _, _, rfl⟩
  subst hvj
  have hM5 : LevO c.n X W5 (.agg #[.slice m1 m2 m3, .slice m4 m5 m6]) (levOf (gnOf gs) c.n ls[j]) := ⟨by have := levAt_fresh hfr; simpa using this, ⟨rowOf_length _ _, rowOf_length _ _⟩, offV_new HI.out.xok hb5 (fun k hk => HI.out.xlt _ _ HI4.out k (HI.out.xok.below _ _ ((Below.refl _ _).drew) _ hk)) (newL_fresh hfr)⟩
  have hr0 := HB4.out.row.over hbz
  have hrp := HRP4.out.over hbz
  have hrs := HRS4.out.over hbz
  have hS5 : W5.cell? ⟨s, 0, none⟩ = some (.int .i64 (c.n : Int)) ∧ W5.cell? ⟨s, 1, none⟩ = some (.slice c.ga c.gn c.gc) ∧ W5.cell? ⟨s, 2, none⟩ = some (.slice c.sa c.sn c.sc) ∧ W5.cell? ⟨s, 3, none⟩ = some (.slice (some ⟨b3, z3, none⟩) c.yn c.yc) ∧ W5.cell? ⟨s, 4, none⟩ = some (.slice c.oa c.on c.oc) ∧ W5.cell? ⟨s, 5, none⟩ = some (.slice c.va c.vn c.vc) ∧ W5.cell? ⟨s, 6, none⟩ = some (.slice c.fa c.fn c.fc) ∧ W5.cell? ⟨s, 7, none⟩ = some (.slice c.ba c.bn c.bc) ∧ W5.cell? ⟨s, 8, none⟩ = some (.slice c.la c.ln c.lc) ∧ W5.cell? ⟨s, 9, none⟩ = some (.slice c.ka c.kn c.kc) ∧ W5.cell? ⟨s + 1 + 1, 0, none⟩ = some (.func (.func 75) #[] #[.pointer (some ⟨s, 0, none⟩), .pointer (some ⟨s + 1, 0, none⟩)]) ∧ W5.cell? ⟨(W.heap.size + 1), 0, none⟩ = some (.slice p1 q1 r1) ∧ W5.cell? ⟨(W.heap.size + 1), 1, none⟩ = some (.slice p2 q2 r2) ∧ W5.cell? ⟨W.heap.size, 0, none⟩ = some (.int .i64 3) ∧ W5.cell? ⟨W.heap.size, 1, none⟩ = some (.int .i64 vr) ∧ W5.cell? ⟨W.heap.size, 2, none⟩ = some (.int .i64 (j : Int)) ∧ W5.cell? ⟨W.heap.size, 3, none⟩ = some (.int .i64 ek) ∧ W5.cell? ⟨W.heap.size, 4, none⟩ = some (.int .i64 en) ∧ W5.cell? ⟨W.heap.size, 5, none⟩ = some (.slice xa xl xc) ∧ W5.cell? ⟨W.heap.size, 6, none⟩ = some (.slice aa al ac) ∧ W5.cell? ⟨W.heap.size, 7, none⟩ = some (.slice ta tl tc) ∧ W5.cell? ⟨W.heap.size, 8, none⟩ = some (.slice ea el ec) ∧ W5.cell? ⟨b3, z3 + j * 2, none⟩ = some (.slice a1 a2 a3) ∧ W5.cell? ⟨b3, z3 + j * 2 + 1, none⟩ = some (.slice a4 a5 a6) := ⟨hr0 0 _ rfl, hr0 1 _ rfl, hr0 2 _ rfl, (by rw [← HYA.out]; exact hr0 3 _ rfl), hr0 4 _ rfl, hr0 5 _ rfl, hr0 6 _ rfl, hr0 7 _ rfl, hr0 8 _ rfl, hr0 9 _ rfl, cell_over hbz _ _ tv, hrp 0 _ rfl, hrp 1 _ rfl, hrs 0 _ rfl, hrs 1 _ rfl, hrs 2 _ rfl, hrs 3 _ rfl, hrs 4 _ rfl, hrs 5 _ rfl, hrs 6 _ rfl, hrs 7 _ rfl, hrs 8 _ rfl, cell_over hbz _ _ l0, cell_over hbz _ _ l1⟩
  have HBZ5 := hide hbz
  have HM5 := hide hM5
  clear hr0 hrp hrs hM5 hfr hb5 hbz
  go_simp
  refine hK.out _ _ (hS5) (fun hHeld => ?_)
  clear hK K
  try simp only [aput]
  refine wpAnyH_ready (rs := [15]) (by kernel_rfl) (by simp) ?_
  refine AllReadyH.cons (o := { dst := some 96, op := Go.Op.call { callee := Go.Callee.value (Go.Operand.func 41), args := #[Go.Operand.tmp 83, Go.Operand.tmp 84, Go.Operand.tmp 95], argTypes := #[86, 62, 62] }, type := 62, pos := "walker.go:67", after := #[⟨2, .data⟩, ⟨3, .data⟩, ⟨14, .data⟩, ⟨14, .chain⟩], guard := none }) rfl (fun K hK => ?_) AllReadyH.nil
  go_simp
  refine (KJ.out W5 HBZ5.out _ _ _ HM5.out).mono ?_
  rintro e W6 ⟨vj, rfl, hfr, hb6⟩
  have hbz := over_trans HBZ5.out hb6
  obtain ⟨n1, n2, n3, n4, n5, n6, hvj⟩ : ∃ n1 n2 n3 n4 n5 n6, vj = .agg #[.slice n1 n2 n3, .slice n4 n5 n6] := by
    obtain ⟨x, y, e, -⟩ := levAt_fresh hfr
    subst e
    obtain ⟨z1, z2, z3, z4, z5, z6, rfl, rfl⟩ := lev_slices (levAt_fresh hfr)
    exact ⟨_, _, _, _, _, _, rfl⟩
  subst hvj
  have hN6 : LevO c.n X W6 (.agg #[.slice n1 n2 n3, .slice n4 n5 n6]) (joinL p (levOf (gnOf gs) c.n ls[j]) c.n) := ⟨by have := levAt_fresh hfr; simpa using this, joinL_len' _ _ _, offV_new HI.out.xok hb6 (fun k hk => by have := HI.out.xlt _ _ HI4.out k (HI.out.xok.below _ _ HBZ5.out _ hk); have := HBZ5.out.size; omega) (newL_fresh hfr)⟩
  have hr0 := HB4.out.row.over hbz
  have hrp := HRP4.out.over hbz
  have hrs := HRS4.out.over hbz
  have hS6 : W6.cell? ⟨s, 0, none⟩ = some (.int .i64 (c.n : Int)) ∧ W6.cell? ⟨s, 1, none⟩ = some (.slice c.ga c.gn c.gc) ∧ W6.cell? ⟨s, 2, none⟩ = some (.slice c.sa c.sn c.sc) ∧ W6.cell? ⟨s, 3, none⟩ = some (.slice (some ⟨b3, z3, none⟩) c.yn c.yc) ∧ W6.cell? ⟨s, 4, none⟩ = some (.slice c.oa c.on c.oc) ∧ W6.cell? ⟨s, 5, none⟩ = some (.slice c.va c.vn c.vc) ∧ W6.cell? ⟨s, 6, none⟩ = some (.slice c.fa c.fn c.fc) ∧ W6.cell? ⟨s, 7, none⟩ = some (.slice c.ba c.bn c.bc) ∧ W6.cell? ⟨s, 8, none⟩ = some (.slice c.la c.ln c.lc) ∧ W6.cell? ⟨s, 9, none⟩ = some (.slice c.ka c.kn c.kc) ∧ W6.cell? ⟨s + 1 + 1, 0, none⟩ = some (.func (.func 75) #[] #[.pointer (some ⟨s, 0, none⟩), .pointer (some ⟨s + 1, 0, none⟩)]) ∧ W6.cell? ⟨(W.heap.size + 1), 0, none⟩ = some (.slice p1 q1 r1) ∧ W6.cell? ⟨(W.heap.size + 1), 1, none⟩ = some (.slice p2 q2 r2) ∧ W6.cell? ⟨W.heap.size, 0, none⟩ = some (.int .i64 3) ∧ W6.cell? ⟨W.heap.size, 1, none⟩ = some (.int .i64 vr) ∧ W6.cell? ⟨W.heap.size, 2, none⟩ = some (.int .i64 (j : Int)) ∧ W6.cell? ⟨W.heap.size, 3, none⟩ = some (.int .i64 ek) ∧ W6.cell? ⟨W.heap.size, 4, none⟩ = some (.int .i64 en) ∧ W6.cell? ⟨W.heap.size, 5, none⟩ = some (.slice xa xl xc) ∧ W6.cell? ⟨W.heap.size, 6, none⟩ = some (.slice aa al ac) ∧ W6.cell? ⟨W.heap.size, 7, none⟩ = some (.slice ta tl tc) ∧ W6.cell? ⟨W.heap.size, 8, none⟩ = some (.slice ea el ec) ∧ W6.cell? ⟨b3, z3 + j * 2, none⟩ = some (.slice a1 a2 a3) ∧ W6.cell? ⟨b3, z3 + j * 2 + 1, none⟩ = some (.slice a4 a5 a6) := ⟨hr0 0 _ rfl, hr0 1 _ rfl, hr0 2 _ rfl, (by rw [← HYA.out]; exact hr0 3 _ rfl), hr0 4 _ rfl, hr0 5 _ rfl, hr0 6 _ rfl, hr0 7 _ rfl, hr0 8 _ rfl, hr0 9 _ rfl, cell_over hbz _ _ tv, hrp 0 _ rfl, hrp 1 _ rfl, hrs 0 _ rfl, hrs 1 _ rfl, hrs 2 _ rfl, hrs 3 _ rfl, hrs 4 _ rfl, hrs 5 _ rfl, hrs 6 _ rfl, hrs 7 _ rfl, hrs 8 _ rfl, cell_over hbz _ _ l0, cell_over hbz _ _ l1⟩
  have HBZ6 := hide hbz
  have HN6 := hide hN6
  clear hr0 hrp hrs hN6 hfr hb6 hbz
  go_simp
  refine hK.out _ _ (hS6) (fun hHeld => ?_)
  clear hK K
  try simp only [aput]
  refine wpAnyH_ready (rs := [18]) (by kernel_rfl) (by simp) ?_
  refine AllReadyH.cons (o := { dst := some 99, op := Go.Op.call { callee := Go.Callee.value (Go.Operand.tmp 81), args := #[Go.Operand.tmp 96, Go.Operand.tmp 98], argTypes := #[62, 3] }, type := 0, pos := "walker.go:67", after := #[⟨0, .data⟩, ⟨15, .data⟩, ⟨17, .data⟩, ⟨15, .chain⟩], guard := none }) rfl (fun K hK => ?_) AllReadyH.nil
  go_simp
  refine (KV.out st W6 _ _ vr (HI.out.over _ _ _ HI4.out HBZ6.out) (HB4.out.over HI.out.xok HBZ6.out) HN6.out (by rw [HVR.out]; exact (HOK.out.2.1 (by omega)).1) (by rw [HVR.out]; exact (HOK.out.2.1 (by omega)).2)).mono ?_
  rintro e W7 ⟨rfl, hI7, hF7⟩
  have hF47 := (FrW.of_below HI.out.xok HBZ6.out).trans hF7
  have hr0 := hF47.row HB4.out.row HB4.out.x0
  have hrp := hF47.row HRP4.out HXP4.out
  have hrs := hF47.row HRS4.out HXS4.out
  have hS7 : W7.cell? ⟨s, 0, none⟩ = some (.int .i64 (c.n : Int)) ∧ W7.cell? ⟨s, 1, none⟩ = some (.slice c.ga c.gn c.gc) ∧ W7.cell? ⟨s, 2, none⟩ = some (.slice c.sa c.sn c.sc) ∧ W7.cell? ⟨s, 3, none⟩ = some (.slice (some ⟨b3, z3, none⟩) c.yn c.yc) ∧ W7.cell? ⟨s, 4, none⟩ = some (.slice c.oa c.on c.oc) ∧ W7.cell? ⟨s, 5, none⟩ = some (.slice c.va c.vn c.vc) ∧ W7.cell? ⟨s, 6, none⟩ = some (.slice c.fa c.fn c.fc) ∧ W7.cell? ⟨s, 7, none⟩ = some (.slice c.ba c.bn c.bc) ∧ W7.cell? ⟨s, 8, none⟩ = some (.slice c.la c.ln c.lc) ∧ W7.cell? ⟨s, 9, none⟩ = some (.slice c.ka c.kn c.kc) ∧ W7.cell? ⟨s + 1 + 1, 0, none⟩ = some (.func (.func 75) #[] #[.pointer (some ⟨s, 0, none⟩), .pointer (some ⟨s + 1, 0, none⟩)]) ∧ W7.cell? ⟨(W.heap.size + 1), 0, none⟩ = some (.slice p1 q1 r1) ∧ W7.cell? ⟨(W.heap.size + 1), 1, none⟩ = some (.slice p2 q2 r2) ∧ W7.cell? ⟨W.heap.size, 0, none⟩ = some (.int .i64 3) ∧ W7.cell? ⟨W.heap.size, 1, none⟩ = some (.int .i64 vr) ∧ W7.cell? ⟨W.heap.size, 2, none⟩ = some (.int .i64 (j : Int)) ∧ W7.cell? ⟨W.heap.size, 3, none⟩ = some (.int .i64 ek) ∧ W7.cell? ⟨W.heap.size, 4, none⟩ = some (.int .i64 en) ∧ W7.cell? ⟨W.heap.size, 5, none⟩ = some (.slice xa xl xc) ∧ W7.cell? ⟨W.heap.size, 6, none⟩ = some (.slice aa al ac) ∧ W7.cell? ⟨W.heap.size, 7, none⟩ = some (.slice ta tl tc) ∧ W7.cell? ⟨W.heap.size, 8, none⟩ = some (.slice ea el ec) ∧ W7.cell? ⟨b3, z3 + j * 2, none⟩ = some (.slice a1 a2 a3) ∧ W7.cell? ⟨b3, z3 + j * 2 + 1, none⟩ = some (.slice a4 a5 a6) := ⟨hr0 0 _ rfl, hr0 1 _ rfl, hr0 2 _ rfl, (by rw [← HYA.out]; exact hr0 3 _ rfl), hr0 4 _ rfl, hr0 5 _ rfl, hr0 6 _ rfl, hr0 7 _ rfl, hr0 8 _ rfl, hr0 9 _ rfl, hF47.cell tv HB4.out.x2, hrp 0 _ rfl, hrp 1 _ rfl, hrs 0 _ rfl, hrs 1 _ rfl, hrs 2 _ rfl, hrs 3 _ rfl, hrs 4 _ rfl, hrs 5 _ rfl, hrs 6 _ rfl, hrs 7 _ rfl, hrs 8 _ rfl, cell_over (HI.out.below _ _ hI7) _ _ L0.out, cell_over (HI.out.below _ _ hI7) _ _ L1.out⟩
  clear hr0 hrp hrs
  go_simp
  refine hK.out _ _ (hS7) (fun hHeld => ?_)
  clear hK K
  try simp only [aput]
  refine wpAnyH_done (by kernel_rfl) ?_ _
  go_end0
  refine ⟨rfl, ⟨?_, HB4.out.keep hF47⟩, HF4.out.trans hF47⟩
  unfold askS
  rw [if_neg (by omega), if_neg (by omega), if_pos hk, ← HVR.out, ← HOT.out, HGJ.out]
  exact hI7
end
end Go.Proofs.Ytcbbjjenkommeaa.Ex
