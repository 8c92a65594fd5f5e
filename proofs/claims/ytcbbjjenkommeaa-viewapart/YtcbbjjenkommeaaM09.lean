/- All commands of a program, function by function: something is done with each. -/
import Derived.Test.YtcbbjjenkommeaaM08
import Derived.Deep.RegionHeld3
namespace Go.Proofs.Ytcbbjjenkommeaa.Ex
open Go.RowKit
set_option linter.unusedVariables false
section
variable {σ : Type} {c : WC} {w0 : World} {K kf nv ni no : Nat} {fs : List FnD} {gs : List (Int × Int)} {lev flev : σ → List Lev} {Inv : σ → World → Prop} {X : World → Nat → Prop}

theorem zip_take {fs : List FnD} {j : Nat} (h : j < fs.length) : ((List.range fs.length).zip fs).take (j + 1) = ((List.range fs.length).zip fs).take j ++ [(j, fs[j])] := by
  rw [List.take_succ_eq_append_getElem (by simpa using h)]
  simp
theorem goF_fst {n K kf : Nat} {lev flev : σ → List Lev} {step : Int → D → Lev → σ → σ} (st : σ) : ∀ (j : Nat), j ≤ fs.length → ((((List.range fs.length).zip fs).take j).foldl (goF n K lev step flev kf) (0, st)).1 = (cntF kf (fs.take j) : Nat)
  | 0, _ => by simp [cntF]
  | j + 1, h => by
    rw [zip_take (by omega), List.foldl_append, List.foldl_cons, List.foldl_nil, cntF_take (by omega)]
    simp only [goF]
    rw [goF_fst st j (by omega)]
    push_cast
    rfl
theorem cntF_le {k : Nat} {l : List FnD} {j : Nat} (hj : j < l.length) : cntF k (l.take j) + cnts k l[j].body ≤ cntF k l := by
  rw [← cntF_take hj]
  unfold cntF
  conv => rhs; rw [← List.take_append_drop (j + 1) l]
  rw [List.map_append, List.sum_append]
  omega

set_option maxHeartbeats 4000000 in
set_option maxRecDepth 100000 in
theorem eachW (I : WInv c w0 nv fs gs lev flev Inv X) (step : Int → D → Lev → σ → σ) (F : FuncId) (e1 e2 e3 : Value) (hC : ∀ (args : Array Value) (w : World), (callFunc F args).run Try.prog w = .ok (.enter F args) w) (hdo : Hid (DoOk c w0 K nv ni no fs Inv X step F e1 e2 e3))
    (l : List D) (hfs : FnsAt w0 K kf (.slice c.fa c.fn c.fc) fs) (hm : StmtsAt w0 K kf (.slice c.ba c.bn c.bc) l) (hof : ∀ i (h : i < fs.length), okF K nv ni no (i : Int) fs kf fs[i]) (hom : ∀ s ∈ l, okS K nv ni no (fs.length : Int) fs kf s) (h50 : cntF kf fs + cnts kf l ≤ 50) (hf5 : fs.length ≤ 5)
    (st : σ) (W : World) (hI : Inv st W) :
    Calls Try.prog 76 #[c.v, .func (.func F) #[] #[e1, e2, e3]] W fun e W' => e = .returned (.tuple #[]) ∧ Inv (goAll c.n K lev step flev kf fs l st) W' ∧ FrW X W W' := by
  have hb : Below W.heap.size W (W.alloc (.cells #[.int .i64 (c.n : Int), .slice c.ga c.gn c.gc, .slice c.sa c.sn c.sc, .slice c.ya c.yn c.yc, .slice c.oa c.on c.oc, .slice c.va c.vn c.vc, .slice c.fa c.fn c.fc, .slice c.ba c.bn c.bc, .slice c.la c.ln c.lc, .slice c.ka c.kn c.kc] 86)) := (Below.refl _ W).alloc (Nat.le_refl _) _
  have xs0 : ¬ X (W.alloc (.cells #[.int .i64 (c.n : Int), .slice c.ga c.gn c.gc, .slice c.sa c.sn c.sc, .slice c.ya c.yn c.yc, .slice c.oa c.on c.oc, .slice c.va c.vn c.vc, .slice c.fa c.fn c.fc, .slice c.ba c.bn c.bc, .slice c.la c.ln c.lc, .slice c.ka c.kn c.kc] 86)) W.heap.size := fun h => by have := I.xlt _ _ hI _ (I.xok.below _ _ hb _ h); omega
  have row0 : RowAt c.cs (W.alloc (.cells #[.int .i64 (c.n : Int), .slice c.ga c.gn c.gc, .slice c.sa c.sn c.sc, .slice c.ya c.yn c.yc, .slice c.oa c.on c.oc, .slice c.va c.vn c.vc, .slice c.fa c.fn c.fc, .slice c.ba c.bn c.bc, .slice c.la c.ln c.lc, .slice c.ka c.kn c.kc] 86)) W.heap.size := RowAt.new c.cs 86 W
  have KS := hide (stmtsW (K := K) (ni := ni) (no := no) I step F e1 e2 e3 hC hdo)
  have HX0 := hide xs0
  have HR0 := hide row0
  have HI0 := hide (I.over _ _ _ hI hb)
  have HF0 := hide (FrW.of_below I.xok hb)
  have HI := hide I
  have HOF := hide hof
  have HOM := hide hom
  have HM := hide hm
  have H50 := hide h50
  obtain ⟨hfl, fa', fc', hfe, hfc⟩ := hfs
  injection hfe with f1 f2 f3
  have hfn : c.fn ≤ 5 := by omega
  have HFN := hide f2
  have HFC := hide hfc
  have HFA := hide f1
  obtain ⟨Q, hQ⟩ : ∃ Q : Nat → Int × σ, Q = fun j => (((List.range fs.length).zip fs).take j).foldl (goF c.n K lev step flev kf) (0, st) := ⟨_, rfl⟩
  have HQ := hide hQ
  have HQ1 : Hid (∀ j, j ≤ fs.length → (Q j).1 = (cntF kf (fs.take j) : Nat)) := fun j hj => by rw [hQ]; exact goF_fst st j hj
  have HQ0 : Hid (Q 0 = (0, st)) := by rw [hQ]; rfl
  obtain ⟨W0, hW0⟩ : ∃ W0, W0 = (W.alloc (.cells #[.int .i64 (c.n : Int), .slice c.ga c.gn c.gc, .slice c.sa c.sn c.sc, .slice c.ya c.yn c.yc, .slice c.oa c.on c.oc, .slice c.va c.vn c.vc, .slice c.fa c.fn c.fc, .slice c.ba c.bn c.bc, .slice c.la c.ln c.lc, .slice c.ka c.kn c.kc] 86)) := ⟨_, rfl⟩
  rw [← hW0] at HX0 HR0 HI0 HF0
  clear hb xs0 row0 hdo hof hom hm h50 hfc f1 f2 f3 hQ hI I hfl hf5
  go_enter Try.func76, Try.ntmps76
  go_wp2_with fail
  go_loopw [4, 11] (fun x i wr => ∃ j : Nat, j ≤ c.fn ∧ i = .int .i64 j ∧ x = .int .i64 (Q j).1 ∧ Inv (Q j).2 wr ∧ FrW X W0 wr) (fun _ i _ => c.fn - (intOf i).toNat)
  case atStart => exact ⟨0, Nat.zero_le _, rfl, by rw [HQ0.out], by rw [HQ0.out, ← hW0]; exact HI0.out, by rw [← hW0]; exact FrW.refl _⟩
  case round =>
    obtain ⟨j, hj, rfl, rfl, hI, hF⟩ := hrel
    clear hW0
    have hj2 : j ≤ fs.length := by rw [← HFN.out]; exact hj
    obtain ⟨at_, hat⟩ : ∃ x, x = (Q j).1 := ⟨_, rfl⟩
    have hatv : at_ = (cntF kf (fs.take j) : Nat) := hat.trans (HQ1.out j hj2)
    rw [← hat]
    have HAT := hide hat
    by_cases hlt : j < c.fn
    · have hlt2 : j < fs.length := by rw [← HFN.out]; exact hlt
      have hcl := cntF_le (k := kf) hlt2
      have h50' := H50.out
      have ha0 : 0 ≤ at_ := by omega
      have ha1 : at_ + (cnts kf fs[j].body : Nat) ≤ 50 := by omega
      have hcell := cell_over (HI.out.below _ _ hI)
      obtain ⟨b, off, hao, hcs⟩ := HFC.out (by intro h; rw [h] at hlt2; simp at hlt2)
      obtain ⟨vP, vB, y0, y1, y2, g0, g1, g2, g3, g4, hps, -, hbody, hres⟩ := hcs j hlt2
      have hfa : c.fa = some ⟨b, off, none⟩ := HFA.out.trans hao
      obtain ⟨pa, pc, rfl, -⟩ := hps
      have hb0 := hbody
      obtain ⟨-, za, zc, rfl, -⟩ := hb0
      obtain ⟨xa, xc, hxf⟩ := hres.form
      simp only [List.cons.injEq, and_true] at hxf
      obtain ⟨rfl, rfl, rfl⟩ := hxf
      have g0 := hcell _ _ g0
      have g1 := hcell _ _ g1
      have g2 := hcell _ _ g2
      have g3 := hcell _ _ g3
      have g4 := hcell _ _ g4
      obtain ⟨pn, hpn⟩ : ∃ q, q = fs[j].ps.length := ⟨_, rfl⟩
      obtain ⟨zn, hzn⟩ : ∃ q, q = fs[j].body.length := ⟨_, rfl⟩
      obtain ⟨ek, hek⟩ : ∃ q, q = kindOf fs[j].res := ⟨_, rfl⟩
      obtain ⟨en, hen⟩ : ∃ q, q = numOf fs[j].res := ⟨_, rfl⟩
      obtain ⟨xl, hxl⟩ : ∃ q, q = (argsOf fs[j].res).length := ⟨_, rfl⟩
      rw [← hpn] at g0
      rw [← hzn] at g1 hbody
      rw [← hek] at g2
      rw [← hen] at g3
      rw [← hxl] at g4
      have hba := (Below.refl _ wr).alloc (Nat.le_refl _) (.cells #[.slice pa pn pc, .slice za zn zc, .int .i64 ek, .int .i64 en, .slice xa xl xc] 133)
      have hI1 := HI.out.over _ _ _ hI hba
      have hF1 := hF.trans (FrW.of_below HI.out.xok hba)
      have rowS := RowAt.new [.slice pa pn pc, .slice za zn zc, .int .i64 ek, .int .i64 en, .slice xa xl xc] 133 wr
      have xsS : ¬ X (wr.alloc (.cells #[.slice pa pn pc, .slice za zn zc, .int .i64 ek, .int .i64 en, .slice xa xl xc] 133)) wr.heap.size := fun h => by have := HI.out.xlt _ _ hI _ (HI.out.xok.below _ _ hba _ h); omega
      have row0 := hF1.row HR0.out HX0.out
      have x0 : ¬ X (wr.alloc (.cells #[.slice pa pn pc, .slice za zn zc, .int .i64 ek, .int .i64 en, .slice xa xl xc] 133)) W.heap.size := fun h => HX0.out (hF1.mov _ (World.block_lt_of_cell? W0 _ (HR0.out 0 _ rfl)) h)
      obtain ⟨hfl1, hfl2⟩ := HI.out.flevs _ _ hI1
      have hjf : j < (flev (Q j).2).length := by rw [hfl2]; exact hlt2
      obtain ⟨ao4, cap4, hk1, hk2⟩ := hfl1
      obtain ⟨b4, off4, hk3, hk4⟩ := hk2 (by intro h; rw [h] at hjf; simp at hjf)
      obtain ⟨rv, wv, m0, m1, hlv⟩ := hk4 j hjf
      injection hk1 with n1 n2 n3
      have hka : c.ka = some ⟨b4, off4, none⟩ := n1.trans hk3
      have hkn : j < c.kn := by omega
      have hkn5 : c.kn ≤ 5 := by have := HFN.out; omega
      obtain ⟨p1, q1, r1, p2, q2, r2, hform⟩ := hlv.form
      simp at hform
      obtain ⟨rfl, rfl⟩ := hform
      have hgd : (flev (Q j).2).getD j noLev = (flev (Q j).2)[j] := by simp [List.getD_eq_getElem?_getD, hjf]
      have HQS : Hid (Q (j + 1) = (at_ + (cnts kf fs[j].body : Nat), goS c.n K lev step kf fs[j].body at_ (flev (Q j).2)[j] (Q j).2)) := by
        have e1 : Q (j + 1) = goF c.n K lev step flev kf (Q j) (j, fs[j]) := by
          rw [HQ.out]
          dsimp only
          rw [zip_take hlt2, List.foldl_append]
          rfl
        rw [e1]
        unfold goF
        rw [← HAT.out]
        dsimp only
        rw [hgd]
        exact rfl
      have K1 := hide (fun (W1 : World) (hb1 : Below (wr.alloc (.cells #[.slice pa pn pc, .slice za zn zc, .int .i64 ek, .int .i64 en, .slice xa xl xc] 133)).heap.size (wr.alloc (.cells #[.slice pa pn pc, .slice za zn zc, .int .i64 ek, .int .i64 en, .slice xa xl xc] 133)) W1) => KS.out (j : Int) (by omega) kf (.slice za zn zc) fs[j].body at_ (.agg #[.slice p1 q1 r1, .slice p2 q2 r2]) _ (Q j).2 W1 hbody (HOF.out j hlt2).2.2.1 (HI.out.over _ _ _ hI1 hb1) (hlv.over HI.out.xok hb1) ha0 ha1)
      have HRW0 := hide row0
      have HRWS := hide rowS
      have HX0' := hide x0
      have HXS := hide xsS
      have HF1 := hide hF1
      have hj3 : (j : Int) < (c.fn : Int) := by omega
      have hk5 : (j : Int) < (c.kn : Int) := by omega
      have t0 := HRW0.out 0 _ rfl
      have t1 := HRW0.out 1 _ rfl
      have t2 := HRW0.out 2 _ rfl
      have t3 := HRW0.out 3 _ rfl
      have t4 := HRW0.out 4 _ rfl
      have t5 := HRW0.out 5 _ rfl
      have t6 := HRW0.out 6 _ rfl
      have t7 := HRW0.out 7 _ rfl
      have t8 := HRW0.out 8 _ rfl
      have t9 := HRW0.out 9 _ rfl
      have s0 := HRWS.out 0 _ rfl
      have s1 := HRWS.out 1 _ rfl
      have s2 := HRWS.out 2 _ rfl
      have s3 := HRWS.out 3 _ rfl
      have s4 := HRWS.out 4 _ rfl
      have lt0 := World.block_lt_of_cell? _ _ (HRW0.out 0 _ rfl)
      have ltS := World.block_lt_of_cell? _ _ (HRWS.out 0 _ rfl)
      have HLT := hide (And.intro lt0 ltS)
      rw [hka] at t9
      rw [hfa] at t6
      clear hatv hat hcl h50' hcell hcs hao hbody hres hpn hzn hek hen hxl hI1 hF1 hI hF rowS xsS row0 x0 hfl2 hk2 hk3 hk4 hlv n1 n2 n3 hgd lt0 ltS hba ha1 HAT
      simp only [WC.v, hka, hfa] at K1
      rw [hfa]
      go_wp2_with fail
      have hS0 : (wr.alloc (.cells #[.slice pa pn pc, .slice za zn zc, .int .i64 ek, .int .i64 en, .slice xa xl xc] 133)).cell? ⟨W.heap.size, 0, none⟩ = some (.int .i64 (c.n : Int)) ∧ (wr.alloc (.cells #[.slice pa pn pc, .slice za zn zc, .int .i64 ek, .int .i64 en, .slice xa xl xc] 133)).cell? ⟨W.heap.size, 1, none⟩ = some (.slice c.ga c.gn c.gc) ∧ (wr.alloc (.cells #[.slice pa pn pc, .slice za zn zc, .int .i64 ek, .int .i64 en, .slice xa xl xc] 133)).cell? ⟨W.heap.size, 2, none⟩ = some (.slice c.sa c.sn c.sc) ∧ (wr.alloc (.cells #[.slice pa pn pc, .slice za zn zc, .int .i64 ek, .int .i64 en, .slice xa xl xc] 133)).cell? ⟨W.heap.size, 3, none⟩ = some (.slice c.ya c.yn c.yc) ∧ (wr.alloc (.cells #[.slice pa pn pc, .slice za zn zc, .int .i64 ek, .int .i64 en, .slice xa xl xc] 133)).cell? ⟨W.heap.size, 4, none⟩ = some (.slice c.oa c.on c.oc) ∧ (wr.alloc (.cells #[.slice pa pn pc, .slice za zn zc, .int .i64 ek, .int .i64 en, .slice xa xl xc] 133)).cell? ⟨W.heap.size, 5, none⟩ = some (.slice c.va c.vn c.vc) ∧ (wr.alloc (.cells #[.slice pa pn pc, .slice za zn zc, .int .i64 ek, .int .i64 en, .slice xa xl xc] 133)).cell? ⟨W.heap.size, 6, none⟩ = some (.slice (some ⟨b, off, none⟩) c.fn c.fc) ∧ (wr.alloc (.cells #[.slice pa pn pc, .slice za zn zc, .int .i64 ek, .int .i64 en, .slice xa xl xc] 133)).cell? ⟨W.heap.size, 7, none⟩ = some (.slice c.ba c.bn c.bc) ∧ (wr.alloc (.cells #[.slice pa pn pc, .slice za zn zc, .int .i64 ek, .int .i64 en, .slice xa xl xc] 133)).cell? ⟨W.heap.size, 8, none⟩ = some (.slice c.la c.ln c.lc) ∧ (wr.alloc (.cells #[.slice pa pn pc, .slice za zn zc, .int .i64 ek, .int .i64 en, .slice xa xl xc] 133)).cell? ⟨W.heap.size, 9, none⟩ = some (.slice (some ⟨b4, off4, none⟩) c.kn c.kc) ∧ (wr.alloc (.cells #[.slice pa pn pc, .slice za zn zc, .int .i64 ek, .int .i64 en, .slice xa xl xc] 133)).cell? ⟨wr.heap.size, 0, none⟩ = some (.slice pa pn pc) ∧ (wr.alloc (.cells #[.slice pa pn pc, .slice za zn zc, .int .i64 ek, .int .i64 en, .slice xa xl xc] 133)).cell? ⟨wr.heap.size, 1, none⟩ = some (.slice za zn zc) ∧ (wr.alloc (.cells #[.slice pa pn pc, .slice za zn zc, .int .i64 ek, .int .i64 en, .slice xa xl xc] 133)).cell? ⟨wr.heap.size, 2, none⟩ = some (.int .i64 ek) ∧ (wr.alloc (.cells #[.slice pa pn pc, .slice za zn zc, .int .i64 ek, .int .i64 en, .slice xa xl xc] 133)).cell? ⟨wr.heap.size, 3, none⟩ = some (.int .i64 en) ∧ (wr.alloc (.cells #[.slice pa pn pc, .slice za zn zc, .int .i64 ek, .int .i64 en, .slice xa xl xc] 133)).cell? ⟨wr.heap.size, 4, none⟩ = some (.slice xa xl xc) := ⟨t0, t1, t2, t3, t4, t5, t6, t7, t8, t9, s0, s1, s2, s3, s4⟩
      refine wp_region_held_drew (S := fun Wz => Wz.cell? ⟨W.heap.size, 0, none⟩ = some (.int .i64 (c.n : Int)) ∧ Wz.cell? ⟨W.heap.size, 1, none⟩ = some (.slice c.ga c.gn c.gc) ∧ Wz.cell? ⟨W.heap.size, 2, none⟩ = some (.slice c.sa c.sn c.sc) ∧ Wz.cell? ⟨W.heap.size, 3, none⟩ = some (.slice c.ya c.yn c.yc) ∧ Wz.cell? ⟨W.heap.size, 4, none⟩ = some (.slice c.oa c.on c.oc) ∧ Wz.cell? ⟨W.heap.size, 5, none⟩ = some (.slice c.va c.vn c.vc) ∧ Wz.cell? ⟨W.heap.size, 6, none⟩ = some (.slice (some ⟨b, off, none⟩) c.fn c.fc) ∧ Wz.cell? ⟨W.heap.size, 7, none⟩ = some (.slice c.ba c.bn c.bc) ∧ Wz.cell? ⟨W.heap.size, 8, none⟩ = some (.slice c.la c.ln c.lc) ∧ Wz.cell? ⟨W.heap.size, 9, none⟩ = some (.slice (some ⟨b4, off4, none⟩) c.kn c.kc) ∧ Wz.cell? ⟨wr.heap.size, 0, none⟩ = some (.slice pa pn pc) ∧ Wz.cell? ⟨wr.heap.size, 1, none⟩ = some (.slice za zn zc) ∧ Wz.cell? ⟨wr.heap.size, 2, none⟩ = some (.int .i64 ek) ∧ Wz.cell? ⟨wr.heap.size, 3, none⟩ = some (.int .i64 en) ∧ Wz.cell? ⟨wr.heap.size, 4, none⟩ = some (.slice xa xl xc)) (by kernel_rfl) (hS0) (fun hHeld => ?_)
      refine tk (i := 0) (oi := ⟨some 16, .load 86 (.tmp 2), 86, "walk.go:56", #[], none⟩) (v := ?_) (Or.inl ⟨by rfl, ?_⟩) (by assumption) ?_
      rotate_left
      · intro w' hSw
        (try dsimp only at hSw)
        go_simp
        try with_reducible rfl
      try simp only [aput]
      refine tk (i := 1) (oi := ⟨some 17, .fieldAddr 133 (.tmp 6) 1, 0, "walk.go:56", #[], none⟩) (v := ?_) (Or.inl ⟨by rfl, ?_⟩) (by assumption) ?_
      rotate_left
      · intro w' hSw
        (try dsimp only at hSw)
        go_simp
        try with_reducible rfl
      try simp only [aput]
      refine tk (i := 2) (oi := ⟨some 18, .load 39 (.tmp 17), 39, "walk.go:56", #[⟨1, .data⟩], none⟩) (v := ?_) (Or.inl ⟨by rfl, ?_⟩) (by assumption) ?_
      rotate_left
      · intro w' hSw
        (try dsimp only at hSw)
        go_simp
        try with_reducible rfl
      try simp only [aput]
      refine tk (i := 3) (oi := ⟨some 19, .move (.tmp 4), 3, "walk.go:56", #[], none⟩) (v := ?_) (Or.inl ⟨by rfl, ?_⟩) (by assumption) ?_
      rotate_left
      · intro w' hSw
        (try dsimp only at hSw)
        go_simp
        try with_reducible rfl
      try simp only [aput]
      refine tk (i := 4) (oi := ⟨some 20, .fieldAddr 86 (.tmp 2) 1, 0, "walk.go:56", #[], none⟩) (v := ?_) (Or.inl ⟨by rfl, ?_⟩) (by assumption) ?_
      rotate_left
      · intro w' hSw
        (try dsimp only at hSw)
        go_simp
        try with_reducible rfl
      try simp only [aput]
      refine tk (i := 5) (oi := ⟨some 21, .fieldAddr 54 (.tmp 20) 1, 0, "walk.go:56", #[⟨4, .data⟩], none⟩) (v := ?_) (Or.inl ⟨by rfl, ?_⟩) (by assumption) ?_
      rotate_left
      · intro w' hSw
        (try dsimp only at hSw)
        go_simp
        try with_reducible rfl
      try simp only [aput]
      refine tk (i := 6) (oi := ⟨some 22, .load 52 (.tmp 21), 52, "walk.go:56", #[⟨5, .data⟩], none⟩) (v := ?_) (Or.inl ⟨by rfl, ?_⟩) (by assumption) ?_
      rotate_left
      · intro w' hSw
        (try dsimp only at hSw)
        go_simp
        try with_reducible rfl
      try simp only [aput]
      refine tk (i := 7) (oi := ⟨some 23, .move (.tmp 5), 3, "walk.go:56", #[], none⟩) (v := ?_) (Or.inl ⟨by rfl, ?_⟩) (by assumption) ?_
      rotate_left
      · intro w' hSw
        (try dsimp only at hSw)
        go_simp
        try with_reducible rfl
      try simp only [aput]
      refine tk (i := 8) (oi := ⟨some 24, .indexAddr 52 (.tmp 22) (.tmp 23), 0, "walk.go:56", #[⟨6, .data⟩, ⟨7, .data⟩], none⟩) (v := ?_) (Or.inl ⟨by rfl, ?_⟩) (by assumption) ?_
      rotate_left
      · intro w' hSw
        (try dsimp only at hSw)
        go_simp
        try with_reducible rfl
      try simp only [aput]
      refine tk (i := 10) (oi := { dst := some 26, op := Go.Op.move (Go.Operand.tmp 1), type := 134, pos := "walk.go:56", after := #[], guard := none }) (v := ?_) (Or.inl ⟨by rfl, ?_⟩) (by assumption) ?_
      rotate_left
      · intro w' hSw
        (try dsimp only at hSw)
        go_simp
        try with_reducible rfl
      try simp only [aput]
      refine wpAnyH_ready (rs := [9]) (by kernel_rfl) (by simp) ?_
      refine AllReadyH.cons (o := ⟨some 25, .load 62 (.tmp 24), 62, "walk.go:56", #[⟨8, .data⟩], none⟩) rfl (fun K hK => ?_) AllReadyH.nil
      go_simp
      refine hK.out _ _ (hHeld) (fun hHeld => ?_)
      clear hK K
      try simp only [aput]
      refine wpAnyH_ready (rs := [11]) (by kernel_rfl) (by simp) ?_
      refine AllReadyH.cons (o := { dst := some 27, op := Go.Op.call { callee := Go.Callee.value (Go.Operand.func 115), args := #[Go.Operand.tmp 16, Go.Operand.tmp 18, Go.Operand.tmp 19, Go.Operand.tmp 25, Go.Operand.tmp 26], argTypes := #[86, 39, 3, 62, 134] }, type := 3, pos := "walk.go:56", after := #[⟨0, .data⟩, ⟨2, .data⟩, ⟨3, .data⟩, ⟨9, .data⟩, ⟨10, .data⟩], guard := none }) rfl (fun K hK => ?_) AllReadyH.nil
      go_simp
      refine (K1.out _ ((Below.refl _ _).drew)).mono ?_
      rintro e W2 ⟨rfl, hI2, hF2⟩
      have hr0 := hF2.row (show RowAt c.cs _ W.heap.size from HRW0.out) (fun h => HX0'.out (HI.out.xok.below _ _ ((Below.refl _ _).drew) _ h))
      have hrS := hF2.row (show RowAt [.slice pa pn pc, .slice za zn zc, .int .i64 ek, .int .i64 en, .slice xa xl xc] _ wr.heap.size from HRWS.out) (fun h => HXS.out (HI.out.xok.below _ _ ((Below.refl _ _).drew) _ h))
      have hS2 : W2.cell? ⟨W.heap.size, 0, none⟩ = some (.int .i64 (c.n : Int)) ∧ W2.cell? ⟨W.heap.size, 1, none⟩ = some (.slice c.ga c.gn c.gc) ∧ W2.cell? ⟨W.heap.size, 2, none⟩ = some (.slice c.sa c.sn c.sc) ∧ W2.cell? ⟨W.heap.size, 3, none⟩ = some (.slice c.ya c.yn c.yc) ∧ W2.cell? ⟨W.heap.size, 4, none⟩ = some (.slice c.oa c.on c.oc) ∧ W2.cell? ⟨W.heap.size, 5, none⟩ = some (.slice c.va c.vn c.vc) ∧ W2.cell? ⟨W.heap.size, 6, none⟩ = some (.slice (some ⟨b, off, none⟩) c.fn c.fc) ∧ W2.cell? ⟨W.heap.size, 7, none⟩ = some (.slice c.ba c.bn c.bc) ∧ W2.cell? ⟨W.heap.size, 8, none⟩ = some (.slice c.la c.ln c.lc) ∧ W2.cell? ⟨W.heap.size, 9, none⟩ = some (.slice (some ⟨b4, off4, none⟩) c.kn c.kc) ∧ W2.cell? ⟨wr.heap.size, 0, none⟩ = some (.slice pa pn pc) ∧ W2.cell? ⟨wr.heap.size, 1, none⟩ = some (.slice za zn zc) ∧ W2.cell? ⟨wr.heap.size, 2, none⟩ = some (.int .i64 ek) ∧ W2.cell? ⟨wr.heap.size, 3, none⟩ = some (.int .i64 en) ∧ W2.cell? ⟨wr.heap.size, 4, none⟩ = some (.slice xa xl xc) := ⟨hr0 0 _ rfl, hr0 1 _ rfl, hr0 2 _ rfl, hr0 3 _ rfl, hr0 4 _ rfl, hr0 5 _ rfl, by rw [← hfa]; exact hr0 6 _ rfl, hr0 7 _ rfl, hr0 8 _ rfl, by rw [← hka]; exact hr0 9 _ rfl, hrS 0 _ rfl, hrS 1 _ rfl, hrS 2 _ rfl, hrS 3 _ rfl, hrS 4 _ rfl⟩
      clear hr0 hrS
      go_simp
      refine hK.out _ _ (hS2) (fun hHeld => ?_)
      clear hK K
      try simp only [aput]
      refine wpAnyH_ready (rs := [12]) (by kernel_rfl) (by simp) ?_
      refine AllReadyH.cons (o := ⟨some 4, .assign (.tmp 27), 3, "walk.go:56", #[⟨11, .data⟩, ⟨11, .chain⟩, ⟨0, .phase⟩, ⟨1, .phase⟩, ⟨2, .phase⟩, ⟨3, .phase⟩, ⟨4, .phase⟩, ⟨5, .phase⟩, ⟨6, .phase⟩, ⟨7, .phase⟩, ⟨8, .phase⟩, ⟨9, .phase⟩, ⟨10, .phase⟩, ⟨11, .phase⟩], none⟩) rfl (fun K hK => ?_) AllReadyH.nil
      go_simp
      refine hK.out _ _ (hS2) (fun hHeld => ?_)
      clear hK K
      try simp only [aput]
      refine wpAnyH_done (by kernel_rfl) ?_ _
      have HI2 := hide hI2
      have HF2 := hide ((HF1.out.trans (FrW.of_below HI.out.xok ((Below.refl _ _).drew))).trans hF2)
      clear hS2 hI2 hF2 hS0 K1 t0 t1 t2 t3 t4 t5 t6 t7 t8 t9 s0 s1 s2 s3 s4 g0 g1 g2 g3 g4 m0 m1
      go_wp2_with fail
      refine ⟨⟨j + 1, by omega, by go_num, by rw [HQS.out], by rw [HQS.out]; exact HI2.out, HF2.out⟩, by simp [intOf]; omega⟩
    · have hjf : j = fs.length := by rw [← HFN.out]; omega
      have h50' := H50.out
      have htk : fs.take j = fs := List.take_of_length_le (by omega)
      rw [htk] at hatv
      have ha0 : 0 ≤ at_ := by omega
      have ha1 : at_ + (cnts kf l : Nat) ≤ 50 := by omega
      have hrx := hF.row HR0.out HX0.out
      have HRWx := hide hrx
      have HIW := hide hI
      have HFW := hide hF
      have HXW : Hid (¬ X wr W.heap.size) := fun h => HX0.out (hF.mov _ (World.block_lt_of_cell? W0 _ (HR0.out 0 _ rfl)) h)
      have KB := hide fun W => bottomW c.n HI.out.n1 HI.out.n6 c.ga c.gn c.gc c.sa c.sn c.sc c.ya c.yn c.yc c.oa c.on c.oc c.va c.vn c.vc c.fa c.fn c.fc c.ba c.bn c.bc c.la c.ln c.lc c.ka c.kn c.kc W
      have t0 := hrx 0 _ rfl
      have t1 := hrx 1 _ rfl
      have t2 := hrx 2 _ rfl
      have t3 := hrx 3 _ rfl
      have t4 := hrx 4 _ rfl
      have t5 := hrx 5 _ rfl
      have t6 := hrx 6 _ rfl
      have t7 := hrx 7 _ rfl
      have t8 := hrx 8 _ rfl
      have t9 := hrx 9 _ rfl
      have hS0 : wr.cell? ⟨W.heap.size, 0, none⟩ = some (.int .i64 (c.n : Int)) ∧ wr.cell? ⟨W.heap.size, 1, none⟩ = some (.slice c.ga c.gn c.gc) ∧ wr.cell? ⟨W.heap.size, 2, none⟩ = some (.slice c.sa c.sn c.sc) ∧ wr.cell? ⟨W.heap.size, 3, none⟩ = some (.slice c.ya c.yn c.yc) ∧ wr.cell? ⟨W.heap.size, 4, none⟩ = some (.slice c.oa c.on c.oc) ∧ wr.cell? ⟨W.heap.size, 5, none⟩ = some (.slice c.va c.vn c.vc) ∧ wr.cell? ⟨W.heap.size, 6, none⟩ = some (.slice c.fa c.fn c.fc) ∧ wr.cell? ⟨W.heap.size, 7, none⟩ = some (.slice c.ba c.bn c.bc) ∧ wr.cell? ⟨W.heap.size, 8, none⟩ = some (.slice c.la c.ln c.lc) ∧ wr.cell? ⟨W.heap.size, 9, none⟩ = some (.slice c.ka c.kn c.kc) := ⟨t0, t1, t2, t3, t4, t5, t6, t7, t8, t9⟩
      have HALL : Hid (goAll c.n K lev step flev kf fs l st = goS c.n K lev step kf l at_ (botL c.n) (Q j).2) := by
        unfold goAll
        dsimp only
        have e1 : Q j = ((List.range fs.length).zip fs).foldl (goF c.n K lev step flev kf) (0, st) := by
          rw [HQ.out]
          dsimp only
          rw [List.take_of_length_le (by simp; omega)]
        rw [← e1, ← hat]
        rfl
      clear hatv hat h50' htk hrx hI hF hjf HAT
      go_wp2_with fail
      refine wp_region_held_drew (S := fun Wz => Wz.cell? ⟨W.heap.size, 0, none⟩ = some (.int .i64 (c.n : Int)) ∧ Wz.cell? ⟨W.heap.size, 1, none⟩ = some (.slice c.ga c.gn c.gc) ∧ Wz.cell? ⟨W.heap.size, 2, none⟩ = some (.slice c.sa c.sn c.sc) ∧ Wz.cell? ⟨W.heap.size, 3, none⟩ = some (.slice c.ya c.yn c.yc) ∧ Wz.cell? ⟨W.heap.size, 4, none⟩ = some (.slice c.oa c.on c.oc) ∧ Wz.cell? ⟨W.heap.size, 5, none⟩ = some (.slice c.va c.vn c.vc) ∧ Wz.cell? ⟨W.heap.size, 6, none⟩ = some (.slice c.fa c.fn c.fc) ∧ Wz.cell? ⟨W.heap.size, 7, none⟩ = some (.slice c.ba c.bn c.bc) ∧ Wz.cell? ⟨W.heap.size, 8, none⟩ = some (.slice c.la c.ln c.lc) ∧ Wz.cell? ⟨W.heap.size, 9, none⟩ = some (.slice c.ka c.kn c.kc)) (by kernel_rfl) (hS0) (fun hHeld => ?_)
      refine tk (i := 0) (oi := ⟨some 29, .load 86 (.tmp 2), 86, "walk.go:58", #[], none⟩) (v := ?_) (Or.inl ⟨by rfl, ?_⟩) (by assumption) ?_
      rotate_left
      · intro w' hSw
        (try dsimp only at hSw)
        go_simp
        try with_reducible rfl
      try simp only [aput]
      refine tk (i := 1) (oi := ⟨some 30, .fieldAddr 86 (.tmp 2) 0, 0, "walk.go:58", #[], none⟩) (v := ?_) (Or.inl ⟨by rfl, ?_⟩) (by assumption) ?_
      rotate_left
      · intro w' hSw
        (try dsimp only at hSw)
        go_simp
        try with_reducible rfl
      try simp only [aput]
      refine tk (i := 2) (oi := ⟨some 31, .fieldAddr 41 (.tmp 30) 6, 0, "walk.go:58", #[⟨1, .data⟩], none⟩) (v := ?_) (Or.inl ⟨by rfl, ?_⟩) (by assumption) ?_
      rotate_left
      · intro w' hSw
        (try dsimp only at hSw)
        go_simp
        try with_reducible rfl
      try simp only [aput]
      refine tk (i := 3) (oi := ⟨some 32, .load 39 (.tmp 31), 39, "walk.go:58", #[⟨2, .data⟩], none⟩) (v := ?_) (Or.inl ⟨by rfl, ?_⟩) (by assumption) ?_
      rotate_left
      · intro w' hSw
        (try dsimp only at hSw)
        go_simp
        try with_reducible rfl
      try simp only [aput]
      refine tk (i := 4) (oi := ⟨some 33, .move (.tmp 4), 3, "walk.go:58", #[], none⟩) (v := ?_) (Or.inl ⟨by rfl, ?_⟩) (by assumption) ?_
      rotate_left
      · intro w' hSw
        (try dsimp only at hSw)
        go_simp
        try with_reducible rfl
      try simp only [aput]
      refine tk (i := 5) (oi := ⟨some 34, .load 86 (.tmp 2), 86, "walk.go:58", #[], none⟩) (v := ?_) (Or.inl ⟨by rfl, ?_⟩) (by assumption) ?_
      rotate_left
      · intro w' hSw
        (try dsimp only at hSw)
        go_simp
        try with_reducible rfl
      try simp only [aput]
      refine tk (i := 7) (oi := { dst := some 36, op := Go.Op.move (Go.Operand.tmp 1), type := 134, pos := "walk.go:58", after := #[], guard := none }) (v := ?_) (Or.inl ⟨by rfl, ?_⟩) (by assumption) ?_
      rotate_left
      · intro w' hSw
        (try dsimp only at hSw)
        go_simp
        try with_reducible rfl
      try simp only [aput]
      refine wpAnyH_ready (rs := [6]) (by kernel_rfl) (by simp) ?_
      refine AllReadyH.cons (o := { dst := some 35, op := Go.Op.call { callee := Go.Callee.value (Go.Operand.func 73), args := #[Go.Operand.tmp 34], argTypes := #[86] }, type := 62, pos := "walk.go:58", after := #[⟨5, .data⟩], guard := none }) rfl (fun K hK => ?_) AllReadyH.nil
      go_simp
      refine (KB.out _).mono ?_
      rintro e W2 ⟨vj, rfl, hfr, hb2⟩
      have hbz := over_trans ((Below.refl _ wr).drew) hb2
      have hnew := newL_fresh hfr
      have hlA := levAt_fresh hfr
      obtain ⟨o1, o2, o3, o4, o5, o6, hvj⟩ : ∃ o1 o2 o3 o4 o5 o6, vj = .agg #[.slice o1 o2 o3, .slice o4 o5 o6] := by
        obtain ⟨x, y, rfl, -⟩ := hlA
        obtain ⟨a1, a2, a3, a4, a5, a6, rfl, rfl⟩ := lev_slices (levAt_fresh hfr)
        exact ⟨_, _, _, _, _, _, rfl⟩
      subst hvj
      have hL2 : LevO c.n X W2 (.agg #[.slice o1 o2 o3, .slice o4 o5 o6]) (botL c.n) := ⟨hlA, ⟨by simp [botL], by simp [botL]⟩, offV_new HI.out.xok hbz (HI.out.xlt _ _ HIW.out) hnew⟩
      have hr0 := HRWx.out.over hbz
      have hS2 : W2.cell? ⟨W.heap.size, 0, none⟩ = some (.int .i64 (c.n : Int)) ∧ W2.cell? ⟨W.heap.size, 1, none⟩ = some (.slice c.ga c.gn c.gc) ∧ W2.cell? ⟨W.heap.size, 2, none⟩ = some (.slice c.sa c.sn c.sc) ∧ W2.cell? ⟨W.heap.size, 3, none⟩ = some (.slice c.ya c.yn c.yc) ∧ W2.cell? ⟨W.heap.size, 4, none⟩ = some (.slice c.oa c.on c.oc) ∧ W2.cell? ⟨W.heap.size, 5, none⟩ = some (.slice c.va c.vn c.vc) ∧ W2.cell? ⟨W.heap.size, 6, none⟩ = some (.slice c.fa c.fn c.fc) ∧ W2.cell? ⟨W.heap.size, 7, none⟩ = some (.slice c.ba c.bn c.bc) ∧ W2.cell? ⟨W.heap.size, 8, none⟩ = some (.slice c.la c.ln c.lc) ∧ W2.cell? ⟨W.heap.size, 9, none⟩ = some (.slice c.ka c.kn c.kc) := ⟨hr0 0 _ rfl, hr0 1 _ rfl, hr0 2 _ rfl, hr0 3 _ rfl, hr0 4 _ rfl, hr0 5 _ rfl, hr0 6 _ rfl, hr0 7 _ rfl, hr0 8 _ rfl, hr0 9 _ rfl⟩
      have KM := hide (KS.out (fs.length : Int) (Int.le_refl _) kf (.slice c.ba c.bn c.bc) l at_ _ _ _ W2 HM.out HOM.out (HI.out.over _ _ _ HIW.out hbz) hL2 ha0 ha1)
      have HR2 := hide hr0
      have HXW2 : Hid (¬ X W2 W.heap.size) := fun h => HXW.out (HI.out.xok.below _ _ hbz _ h)
      have HFZ := hide (HFW.out.trans (FrW.of_below HI.out.xok hbz))
      clear hfr hb2 hbz hnew hlA hL2 hr0
      go_simp
      refine hK.out _ _ (hS2) (fun hHeld => ?_)
      clear hK K
      try simp only [aput]
      refine wpAnyH_ready (rs := [8]) (by kernel_rfl) (by simp) ?_
      refine AllReadyH.cons (o := { dst := some 37, op := Go.Op.call { callee := Go.Callee.value (Go.Operand.func 115), args := #[Go.Operand.tmp 29, Go.Operand.tmp 32, Go.Operand.tmp 33, Go.Operand.tmp 35, Go.Operand.tmp 36], argTypes := #[86, 39, 3, 62, 134] }, type := 3, pos := "walk.go:58", after := #[⟨0, .data⟩, ⟨3, .data⟩, ⟨4, .data⟩, ⟨6, .data⟩, ⟨7, .data⟩, ⟨6, .chain⟩], guard := none }) rfl (fun K hK => ?_) AllReadyH.nil
      go_simp
      refine (KM.out).mono ?_
      rintro e W3 ⟨rfl, hI3, hF3⟩
      have hr3 := hF3.row HR2.out HXW2.out
      have hS3 : W3.cell? ⟨W.heap.size, 0, none⟩ = some (.int .i64 (c.n : Int)) ∧ W3.cell? ⟨W.heap.size, 1, none⟩ = some (.slice c.ga c.gn c.gc) ∧ W3.cell? ⟨W.heap.size, 2, none⟩ = some (.slice c.sa c.sn c.sc) ∧ W3.cell? ⟨W.heap.size, 3, none⟩ = some (.slice c.ya c.yn c.yc) ∧ W3.cell? ⟨W.heap.size, 4, none⟩ = some (.slice c.oa c.on c.oc) ∧ W3.cell? ⟨W.heap.size, 5, none⟩ = some (.slice c.va c.vn c.vc) ∧ W3.cell? ⟨W.heap.size, 6, none⟩ = some (.slice c.fa c.fn c.fc) ∧ W3.cell? ⟨W.heap.size, 7, none⟩ = some (.slice c.ba c.bn c.bc) ∧ W3.cell? ⟨W.heap.size, 8, none⟩ = some (.slice c.la c.ln c.lc) ∧ W3.cell? ⟨W.heap.size, 9, none⟩ = some (.slice c.ka c.kn c.kc) := ⟨hr3 0 _ rfl, hr3 1 _ rfl, hr3 2 _ rfl, hr3 3 _ rfl, hr3 4 _ rfl, hr3 5 _ rfl, hr3 6 _ rfl, hr3 7 _ rfl, hr3 8 _ rfl, hr3 9 _ rfl⟩
      clear hr3
      go_simp
      refine hK.out _ _ (hS3) (fun hHeld => ?_)
      clear hK K
      try simp only [aput]
      refine wpAnyH_done (by kernel_rfl) ?_ _
      go_end0
      refine ⟨rfl, by rw [HALL.out]; exact hI3, ?_⟩
      exact (HF0.out.trans HFZ.out).trans hF3
end
section
variable {σ : Type} (c : WC) (w0 : World) (nv : Nat) (fs : List FnD) (Inv : σ → World → Prop) (X : World → Nat → Prop)
/-- something that is done where a level must flow to another one. -/
def FlowOk (flow : Lev → Bool × Nat → σ → σ) (G : FuncId) (d1 d2 : Value) : Prop :=
  ∀ (st : σ) (W : World) (v : Value) (l : Lev) (i : Bool × Nat) (b off : Nat), Inv st W → LevO c.n X W v l → (i.1 = true → i.2 < nv) → (i.1 = false → i.2 < fs.length) → (if i.1 = true then c.la else c.ka) = some ⟨b, off, none⟩ →
    Calls Try.prog G #[v, .pointer (some ⟨b, off + i.2 * 2, none⟩), d1, d2] W fun e W' => e = .returned (.tuple #[]) ∧ Inv (flow l i st) W' ∧ FrW X W W'
/-- boxes that are made for all commands. -/
structure AskBox (s : Nat) (G : FuncId) (d1 d2 : Value) (W : World) : Prop where
  row : RowAt c.cs W s
  flow : W.cell? ⟨s + 1, 0, none⟩ = some (.func (.func G) #[] #[d1, d2])
  toVar : W.cell? ⟨s + 1 + 1, 0, none⟩ = some (.func (.func 75) #[] #[.pointer (some ⟨s, 0, none⟩), .pointer (some ⟨s + 1, 0, none⟩)])
  x0 : ¬ X W s
  x1 : ¬ X W (s + 1)
  x2 : ¬ X W (s + 1 + 1)
end
section
variable {σ : Type} {c : WC} {w0 : World} {K nv ni no : Nat} {fs : List FnD} {gs : List (Int × Int)} {lev flev : σ → List Lev} {Inv : σ → World → Prop} {X : World → Nat → Prop} {s : Nat} {G : FuncId} {d1 d2 : Value}
theorem AskBox.over (hX : XOk X) {W W' : World} (h : AskBox c X s G d1 d2 W) (hb : Below W.heap.size W W') : AskBox c X s G d1 d2 W' :=
  ⟨h.row.over hb, cell_over hb _ _ h.flow, cell_over hb _ _ h.toVar, fun x => h.x0 (hX.below _ _ hb _ x), fun x => h.x1 (hX.below _ _ hb _ x), fun x => h.x2 (hX.below _ _ hb _ x)⟩
theorem AskBox.keep {W W' : World} (h : AskBox c X s G d1 d2 W) (hf : FrW X W W') : AskBox c X s G d1 d2 W' :=
  ⟨hf.row h.row h.x0, hf.cell h.flow h.x1, hf.cell h.toVar h.x2, fun x => h.x0 (hf.mov _ (World.block_lt_of_cell? W _ (h.row 0 _ rfl)) x), fun x => h.x1 (hf.mov _ (World.block_lt_of_cell? W _ h.flow) x), fun x => h.x2 (hf.mov _ (World.block_lt_of_cell? W _ h.toVar) x)⟩

set_option maxHeartbeats 4000000 in
set_option maxRecDepth 100000 in
theorem toVarW (I : WInv c w0 nv fs gs lev flev Inv X) (flow : Lev → Bool × Nat → σ → σ) (hC : ∀ (args : Array Value) (w : World), (callFunc G args).run Try.prog w = .ok (.enter G args) w) (hfl : Hid (FlowOk c nv fs Inv X flow G d1 d2)) (vs : List (Bool × Lab)) (hvs : VarsAt w0 (.slice c.va c.vn c.vc) vs) (hnv : vs.length = nv)
    (st : σ) (W : World) (v : Value) (l : Lev) (i : Int) (hI : Inv st W) (hB : AskBox c X s G d1 d2 W) (hl : LevO c.n X W v l) (h0 : 0 ≤ i) (hi : i < nv) :
    Calls Try.prog 75 #[v, .int .i64 i, .pointer (some ⟨s, 0, none⟩), .pointer (some ⟨s + 1, 0, none⟩)] W fun e W' => e = .returned (.tuple #[]) ∧ Inv (toVar (vs.map Prod.fst) flow l i st) W' ∧ FrW X W W' := by
  obtain ⟨p1, q1, r1, p2, q2, r2, rfl⟩ := hl.form
  obtain ⟨j, rfl⟩ : ∃ j : Nat, i = (j : Int) := ⟨i.toNat, by omega⟩
  have hj : j < vs.length := by omega
  obtain ⟨hvm, va', vc', hve, hvc⟩ := hvs
  injection hve with v1 v2 v3
  obtain ⟨bv, ov, hvo, hvel⟩ := hvc (by intro h; rw [h] at hj; simp at hj)
  obtain ⟨pr, pw, k0, -, -, -, -⟩ := hvel j hj
  have hva : c.va = some ⟨bv, ov, none⟩ := v1.trans hvo
  have k0 := cell_over (I.below _ _ hI) _ _ k0
  have hb : Below W.heap.size W (W.alloc (.cells #[.slice p1 q1 r1, .slice p2 q2 r2] 62)) := (Below.refl _ W).alloc (Nat.le_refl _) _
  have k0b := cell_over hb _ _ k0
  have hI1 := I.over _ _ _ hI hb
  have hB1 := hB.over I.xok hb
  have hl1 := hl.over I.xok hb
  have hF1 := FrW.of_below I.xok hb
  have hvn : j < c.vn := by omega
  have hvn16 : c.vn ≤ 16 := by have := I.nv16; omega
  have hgd : (vs.map Prod.fst).getD (j : Int).toNat false = vs[j].1 := by simp [List.getD_eq_getElem?_getD, hj]
  obtain ⟨kn, hkn⟩ : ∃ q, q = vs[j].1 := ⟨_, rfl⟩
  rw [← hkn] at k0b hgd
  have t0 := hB1.row 0 _ rfl
  have t1 := hB1.row 1 _ rfl
  have t2 := hB1.row 2 _ rfl
  have t3 := hB1.row 3 _ rfl
  have t4 := hB1.row 4 _ rfl
  have t5 := hB1.row 5 _ rfl
  have t6 := hB1.row 6 _ rfl
  have t7 := hB1.row 7 _ rfl
  have t8 := hB1.row 8 _ rfl
  have t9 := hB1.row 9 _ rfl
  rw [hva] at t5
  cases kn with
  | true =>
    have HR : Hid (toVar (vs.map Prod.fst) flow l (j : Int) st = st) := by unfold toVar; rw [if_pos hgd]; rfl
    have HI1 := hide hI1
    have HF1 := hide hF1
    clear hfl hgd hkn hI1 hF1 hB1 hl1 hB hl hI hb k0 hvel hvc hvo v1 v2 v3
    go_enter Try.func75, Try.ntmps75
    go_wp2_with fail
    go_end0
    exact ⟨rfl, by rw [HR.out]; exact HI1.out, HF1.out⟩
  | false =>
    have HR : Hid (toVar (vs.map Prod.fst) flow l (j : Int) st = flow l (true, j) st) := by unfold toVar; rw [if_neg (by rw [hgd]; simp)]; rfl
    obtain ⟨hlv, hll⟩ := I.levs _ _ hI1
    obtain ⟨ao, cap, hle, hlc⟩ := hlv
    injection hle with l1 l2 l3
    obtain ⟨bl, ol, hlo, -⟩ := hlc (by intro h; rw [h] at hll; simp at hll; omega)
    have hla : c.la = some ⟨bl, ol, none⟩ := l1.trans hlo
    have hln : j < c.ln := by omega
    have hln16 : c.ln ≤ 16 := by have := I.nv16; omega
    have KF := hide fun (W1 : World) (hb1 : Below (W.alloc (.cells #[.slice p1 q1 r1, .slice p2 q2 r2] 62)).heap.size (W.alloc (.cells #[.slice p1 q1 r1, .slice p2 q2 r2] 62)) W1) => hfl.out st W1 _ l (true, j) bl ol (I.over _ _ _ hI1 hb1) (hl1.over I.xok hb1) (fun _ => by omega) (fun h => by cases h) (by rw [if_pos rfl]; exact hla)
    rw [hla] at t8
    have f0 := hB1.flow
    have HR0 := hide hB1.row
    have HX0 := hide hB1.x0
    have HX1 := hide hB1.x1
    have rowB := RowAt.new [.slice p1 q1 r1, .slice p2 q2 r2] 62 W
    have xB : ¬ X (W.alloc (.cells #[.slice p1 q1 r1, .slice p2 q2 r2] 62)) W.heap.size := fun h => by have := I.xlt _ _ hI _ (I.xok.below _ _ hb _ h); omega
    have HRB := hide rowB
    have HXB := hide xB
    have b0 := rowB 0 _ rfl
    have b1 := rowB 1 _ rfl
    have hS0 : (W.alloc (.cells #[.slice p1 q1 r1, .slice p2 q2 r2] 62)).cell? ⟨s, 0, none⟩ = some (.int .i64 (c.n : Int)) ∧ (W.alloc (.cells #[.slice p1 q1 r1, .slice p2 q2 r2] 62)).cell? ⟨s, 1, none⟩ = some (.slice c.ga c.gn c.gc) ∧ (W.alloc (.cells #[.slice p1 q1 r1, .slice p2 q2 r2] 62)).cell? ⟨s, 2, none⟩ = some (.slice c.sa c.sn c.sc) ∧ (W.alloc (.cells #[.slice p1 q1 r1, .slice p2 q2 r2] 62)).cell? ⟨s, 3, none⟩ = some (.slice c.ya c.yn c.yc) ∧ (W.alloc (.cells #[.slice p1 q1 r1, .slice p2 q2 r2] 62)).cell? ⟨s, 4, none⟩ = some (.slice c.oa c.on c.oc) ∧ (W.alloc (.cells #[.slice p1 q1 r1, .slice p2 q2 r2] 62)).cell? ⟨s, 5, none⟩ = some (.slice (some ⟨bv, ov, none⟩) c.vn c.vc) ∧ (W.alloc (.cells #[.slice p1 q1 r1, .slice p2 q2 r2] 62)).cell? ⟨s, 6, none⟩ = some (.slice c.fa c.fn c.fc) ∧ (W.alloc (.cells #[.slice p1 q1 r1, .slice p2 q2 r2] 62)).cell? ⟨s, 7, none⟩ = some (.slice c.ba c.bn c.bc) ∧ (W.alloc (.cells #[.slice p1 q1 r1, .slice p2 q2 r2] 62)).cell? ⟨s, 8, none⟩ = some (.slice (some ⟨bl, ol, none⟩) c.ln c.lc) ∧ (W.alloc (.cells #[.slice p1 q1 r1, .slice p2 q2 r2] 62)).cell? ⟨s, 9, none⟩ = some (.slice c.ka c.kn c.kc) ∧ (W.alloc (.cells #[.slice p1 q1 r1, .slice p2 q2 r2] 62)).cell? ⟨s + 1, 0, none⟩ = some (.func (.func G) #[] #[d1, d2]) ∧ (W.alloc (.cells #[.slice p1 q1 r1, .slice p2 q2 r2] 62)).cell? ⟨W.heap.size, 0, none⟩ = some (.slice p1 q1 r1) ∧ (W.alloc (.cells #[.slice p1 q1 r1, .slice p2 q2 r2] 62)).cell? ⟨W.heap.size, 1, none⟩ = some (.slice p2 q2 r2) := ⟨t0, t1, t2, t3, t4, t5, t6, t7, t8, t9, f0, b0, b1⟩
    have HI := hide I
    have HF1 := hide hF1
    have hj1 : (j : Int) < (c.vn : Int) := by omega
    have hj2 : (j : Int) < (c.ln : Int) := by omega
    clear hfl hgd hkn hI1 hF1 hB1 hl1 hB hl hI hb k0 hvel hvc hvo v1 v2 v3 hlc hlo l1 l2 l3 hll rowB xB I
    go_enter Try.func75, Try.ntmps75
    go_wp2_with fail
    refine wp_region_held_drew (S := fun Wz => Wz.cell? ⟨s, 0, none⟩ = some (.int .i64 (c.n : Int)) ∧ Wz.cell? ⟨s, 1, none⟩ = some (.slice c.ga c.gn c.gc) ∧ Wz.cell? ⟨s, 2, none⟩ = some (.slice c.sa c.sn c.sc) ∧ Wz.cell? ⟨s, 3, none⟩ = some (.slice c.ya c.yn c.yc) ∧ Wz.cell? ⟨s, 4, none⟩ = some (.slice c.oa c.on c.oc) ∧ Wz.cell? ⟨s, 5, none⟩ = some (.slice (some ⟨bv, ov, none⟩) c.vn c.vc) ∧ Wz.cell? ⟨s, 6, none⟩ = some (.slice c.fa c.fn c.fc) ∧ Wz.cell? ⟨s, 7, none⟩ = some (.slice c.ba c.bn c.bc) ∧ Wz.cell? ⟨s, 8, none⟩ = some (.slice (some ⟨bl, ol, none⟩) c.ln c.lc) ∧ Wz.cell? ⟨s, 9, none⟩ = some (.slice c.ka c.kn c.kc) ∧ Wz.cell? ⟨s + 1, 0, none⟩ = some (.func (.func G) #[] #[d1, d2]) ∧ Wz.cell? ⟨W.heap.size, 0, none⟩ = some (.slice p1 q1 r1) ∧ Wz.cell? ⟨W.heap.size, 1, none⟩ = some (.slice p2 q2 r2)) (by kernel_rfl) (hS0) (fun hHeld => ?_)
    refine tk (i := 0) (oi := { dst := some 15, op := Go.Op.load 94 (Go.Operand.tmp 3), type := 94, pos := "walker.go:51", after := #[], guard := none }) (v := ?_) (Or.inl ⟨by rfl, ?_⟩) (by assumption) ?_
    rotate_left
    · intro w' hSw
      (try dsimp only at hSw)
      go_simp
      try with_reducible rfl
    try simp only [aput]
    refine tk (i := 1) (oi := ⟨some 16, .load 62 (.tmp 4), 62, "walker.go:51", #[], none⟩) (v := ?_) (Or.inl ⟨by rfl, ?_⟩) (by assumption) ?_
    rotate_left
    · intro w' hSw
      (try dsimp only at hSw)
      go_simp
      try with_reducible rfl
    try simp only [aput]
    refine tk (i := 2) (oi := ⟨some 17, .fieldAddr 88 (.tmp 2) 0, 0, "walker.go:51", #[], none⟩) (v := ?_) (Or.inl ⟨by rfl, ?_⟩) (by assumption) ?_
    rotate_left
    · intro w' hSw
      (try dsimp only at hSw)
      go_simp
      try with_reducible rfl
    try simp only [aput]
    refine tk (i := 3) (oi := ⟨some 18, .fieldAddr 86 (.tmp 17) 1, 0, "walker.go:51", #[⟨2, .data⟩], none⟩) (v := ?_) (Or.inl ⟨by rfl, ?_⟩) (by assumption) ?_
    rotate_left
    · intro w' hSw
      (try dsimp only at hSw)
      go_simp
      try with_reducible rfl
    try simp only [aput]
    refine tk (i := 4) (oi := ⟨some 19, .fieldAddr 54 (.tmp 18) 0, 0, "walker.go:51", #[⟨3, .data⟩], none⟩) (v := ?_) (Or.inl ⟨by rfl, ?_⟩) (by assumption) ?_
    rotate_left
    · intro w' hSw
      (try dsimp only at hSw)
      go_simp
      try with_reducible rfl
    try simp only [aput]
    refine tk (i := 5) (oi := ⟨some 20, .load 52 (.tmp 19), 52, "walker.go:51", #[⟨4, .data⟩], none⟩) (v := ?_) (Or.inl ⟨by rfl, ?_⟩) (by assumption) ?_
    rotate_left
    · intro w' hSw
      (try dsimp only at hSw)
      go_simp
      try with_reducible rfl
    try simp only [aput]
    refine tk (i := 6) (oi := ⟨some 21, .move (.tmp 1), 3, "walker.go:51", #[], none⟩) (v := ?_) (Or.inl ⟨by rfl, ?_⟩) (by assumption) ?_
    rotate_left
    · intro w' hSw
      (try dsimp only at hSw)
      go_simp
      try with_reducible rfl
    try simp only [aput]
    refine tk (i := 7) (oi := ⟨some 22, .indexAddr 52 (.tmp 20) (.tmp 21), 0, "walker.go:51", #[⟨5, .data⟩, ⟨6, .data⟩], none⟩) (v := ?_) (Or.inl ⟨by rfl, ?_⟩) (by assumption) ?_
    rotate_left
    · intro w' hSw
      (try dsimp only at hSw)
      go_simp
      try with_reducible rfl
    try simp only [aput]
    refine wpAnyH_ready (rs := [8]) (by kernel_rfl) (by simp) ?_
    refine AllReadyH.cons (o := { dst := some 23, op := Go.Op.call { callee := Go.Callee.value (Go.Operand.tmp 15), args := #[Go.Operand.tmp 16, Go.Operand.tmp 22], argTypes := #[62, 91] }, type := 0, pos := "walker.go:51", after := #[⟨0, .data⟩, ⟨1, .data⟩, ⟨7, .data⟩], guard := none }) rfl (fun K hK => ?_) AllReadyH.nil
    go_simp
    refine (KF.out _ ((Below.refl _ _).drew)).mono ?_
    rintro e W2 ⟨rfl, hI2, hF2⟩
    have hr0 := hF2.row (show RowAt c.cs _ s from HR0.out) (fun h => HX0.out (HI.out.xok.below _ _ ((Below.refl _ _).drew) _ h))
    have hr1 := hF2.cell (show (W.alloc (.cells #[.slice p1 q1 r1, .slice p2 q2 r2] 62)).drew.cell? ⟨s + 1, 0, none⟩ = some (.func (.func G) #[] #[d1, d2]) from f0) (fun h => HX1.out (HI.out.xok.below _ _ ((Below.refl _ _).drew) _ h))
    have hr2 := hF2.row (show RowAt [.slice p1 q1 r1, .slice p2 q2 r2] _ W.heap.size from HRB.out) (fun h => HXB.out (HI.out.xok.below _ _ ((Below.refl _ _).drew) _ h))
    have hS2 : W2.cell? ⟨s, 0, none⟩ = some (.int .i64 (c.n : Int)) ∧ W2.cell? ⟨s, 1, none⟩ = some (.slice c.ga c.gn c.gc) ∧ W2.cell? ⟨s, 2, none⟩ = some (.slice c.sa c.sn c.sc) ∧ W2.cell? ⟨s, 3, none⟩ = some (.slice c.ya c.yn c.yc) ∧ W2.cell? ⟨s, 4, none⟩ = some (.slice c.oa c.on c.oc) ∧ W2.cell? ⟨s, 5, none⟩ = some (.slice (some ⟨bv, ov, none⟩) c.vn c.vc) ∧ W2.cell? ⟨s, 6, none⟩ = some (.slice c.fa c.fn c.fc) ∧ W2.cell? ⟨s, 7, none⟩ = some (.slice c.ba c.bn c.bc) ∧ W2.cell? ⟨s, 8, none⟩ = some (.slice (some ⟨bl, ol, none⟩) c.ln c.lc) ∧ W2.cell? ⟨s, 9, none⟩ = some (.slice c.ka c.kn c.kc) ∧ W2.cell? ⟨s + 1, 0, none⟩ = some (.func (.func G) #[] #[d1, d2]) ∧ W2.cell? ⟨W.heap.size, 0, none⟩ = some (.slice p1 q1 r1) ∧ W2.cell? ⟨W.heap.size, 1, none⟩ = some (.slice p2 q2 r2) := ⟨hr0 0 _ rfl, hr0 1 _ rfl, hr0 2 _ rfl, hr0 3 _ rfl, hr0 4 _ rfl, by rw [← hva]; exact hr0 5 _ rfl, hr0 6 _ rfl, hr0 7 _ rfl, by rw [← hla]; exact hr0 8 _ rfl, hr0 9 _ rfl, hr1, hr2 0 _ rfl, hr2 1 _ rfl⟩
    go_simp
    refine hK.out _ _ (hS2) (fun hHeld => ?_)
    clear hK K
    try simp only [aput]
    refine wpAnyH_done (by kernel_rfl) ?_ _
    go_end0
    exact ⟨rfl, by rw [HR.out]; exact hI2, HF1.out.trans ((FrW.of_below HI.out.xok ((Below.refl _ _).drew)).trans hF2)⟩
end
end Go.Proofs.Ytcbbjjenkommeaa.Ex
