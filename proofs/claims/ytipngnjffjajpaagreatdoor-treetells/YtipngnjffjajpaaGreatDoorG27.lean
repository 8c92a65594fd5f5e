/- The document's answer: commands of two trees that are the same. -/
import Derived.Test.YtipngnjffjajpaaGreatDoorG26
namespace Go.Proofs.YtipngnjffjajpaaGreatDoor.Tx
open Go.RowKit
set_option linter.unusedVariables false
set_option maxHeartbeats 4000000 in
set_option maxRecDepth 100000 in
theorem sameSs_nil (ao bo : Option Addr) (ac bc : Nat) (at_ : Bool) (w : World) : Ro 30 #[.slice ao 0 ac,.slice bo 0 bc,.bool at_] w (.bool true):=by
  go_enter Tryz.func30,Tryz.ntmps30
  go_wp2_with fail
  go_loopw [7] (fun i wr => i = .int .i64 0∧w = wr) (fun _ _ => 0)
  case atStart => exact ⟨rfl,rfl⟩
  case round =>
    obtain ⟨rfl,rfl⟩:=hrel
    go_wp2_with fail
    go_ret
    exact ⟨rfl,Below.refl _ _⟩
set_option maxHeartbeats 4000000 in
set_option maxRecDepth 100000 in
theorem sameSs_f (ke : Nat) : ∀ (k : Nat),∀ (l m : List D) (ao bo : Option Addr) (ac bc : Nat) (w : World),LS 12 (ZC w ke k) w (.slice ao l.length ac) l→LS 12 (ZC w ke k) w (.slice bo m.length bc) m→all2 (ssK false ke k) l m = true→Ro 30 #[.slice ao l.length ac,.slice bo m.length bc,.bool false] w (.bool true):=by
  intro k
  induction k with
  | zero =>
    intro l m ao bo ac bc w ha hb hs
    have hl : l = []:=by
      cases l with
      | nil => rfl
      | cons a l =>
        obtain ⟨b,off,-,cs,-,-,hr⟩:=ha.at (j:=0) (by simp)
        exact hr.elim
    subst hl
    have hm : m = []:=List.length_eq_zero_iff.1 (all2_len hs).symm
    subst hm
    exact sameSs_nil ao bo ac bc false w
  | succ k ih =>
    intro l m ao bo ac bc w ha hb hs
    have HA:=hide ha
    have HC:=hide hb
    have IH:=hide ih
    have HS:=hide hs
    have HL:=ha.max
    have hlm:=all2_len hs
    rw [← hlm]
    obtain ⟨nn,hnn⟩:=nm l.length
    rw [← hnn] at HL ⊢
    have HN:=hide hnn
    have HM:=hide (hnn.trans hlm)
    clear ha hb ih hs hnn hlm
    go_enter Tryz.func30,Tryz.ntmps30
    go_wp2_with fail
    go_loopw [7] (fun i wr => ∃ (j : Nat),j≤nn∧i = .int .i64 j∧Ov w wr) (fun i _ => nn - (intOf i).toNat)
    case atStart => exact ⟨0,Nat.zero_le _,rfl,Below.refl _ _⟩
    case round =>
      obtain ⟨j,hj,rfl,hB⟩:=hrel
      by_cases hjl : j < nn
      · have hjl0 : j < l.length:=by have:=HN.o; omega
        have hjm0 : j < m.length:=by have:=HM.o; omega
        have hji : (j : Int) < (nn : Int):=by omega
        obtain ⟨b,off,rfl,cs,-,hcs,hr⟩:=HA.o.at hjl0
        obtain ⟨b',off',rfl,cs',-,hcs',hr'⟩:=HC.o.at hjm0
        have hq:=all2_at HS.o j hjl0 hjm0
        generalize l[j] = dj at hr hq
        generalize m[j] = dm at hr' hq
        obtain ⟨kd,a,x,y,e0,e1,e2,e3,q,q1,q2,e,aA,cA,args,aT,cT,th,aE,cE,el,rfl,rfl,-,-,he,hA,hT,hE⟩:=hr
        obtain ⟨kd9,a9,x9,y9,f0,f1,f2,f3,t,t1,t2,e9,bA9,bcA,args9,bT,bcT,th9,bE,bcE,el9,rfl,rfl,-,-,he9,hA9,hT9,hE9⟩:=hr'
        simp only [ssK,gSs,Bool.and_eq_true,decide_eq_true_eq] at hq
        obtain ⟨⟨⟨⟨⟨⟨⟨rfl,hat⟩,hx⟩,hy⟩,qe⟩,qa⟩,qt⟩,ql⟩:=hq
        have hxx : x9 = x:=by have:=ba_of_list hx.symm; rw [this]
        have hyy : y9 = y:=by have:=ba_of_list hy.symm; rw [this]
        subst hxx hyy
        have d0 : wr.cell? ⟨b,off + j * 12,none⟩ = _:=ce1 hB (hcs 0 _ rfl)
        have d1:=ce1 hB (hcs 1 _ rfl)
        have d2:=ce1 hB (hcs 2 _ rfl)
        have d3:=ce1 hB (hcs 3 _ rfl)
        have d4:=ce1 hB (hcs 4 _ rfl)
        have d5:=ce1 hB (hcs 5 _ rfl)
        have d6:=ce1 hB (hcs 6 _ rfl)
        have d7:=ce1 hB (hcs 7 _ rfl)
        have d8:=ce1 hB (hcs 8 _ rfl)
        have d9:=ce1 hB (hcs 9 _ rfl)
        have d10:=ce1 hB (hcs 10 _ rfl)
        have d11:=ce1 hB (hcs 11 _ rfl)
        have g0 : wr.cell? ⟨b',off' + j * 12,none⟩ = _:=ce1 hB (hcs' 0 _ rfl)
        have g1:=ce1 hB (hcs' 1 _ rfl)
        have g2:=ce1 hB (hcs' 2 _ rfl)
        have g3:=ce1 hB (hcs' 3 _ rfl)
        have g4:=ce1 hB (hcs' 4 _ rfl)
        have g5:=ce1 hB (hcs' 5 _ rfl)
        have g6:=ce1 hB (hcs' 6 _ rfl)
        have g7:=ce1 hB (hcs' 7 _ rfl)
        have g8:=ce1 hB (hcs' 8 _ rfl)
        have g9:=ce1 hB (hcs' 9 _ rfl)
        have g10:=ce1 hB (hcs' 10 _ rfl)
        have g11:=ce1 hB (hcs' 11 _ rfl)
        have KE : Hx (∀ X,Ov wr X→Ro 31 #[.agg #[.int .i64 e0,.int .i64 e1,.int .i64 e2,.string e3,.slice q q1 q2],.agg #[.int .i64 f0,.int .i64 f1,.int .i64 f2,.string f3,.slice t t1 t2],.bool false] X (.bool true)):=fun X hX => sameE_t false ke _ _ e e9 X ((he.over hB).over hX) ((he9.over hB).over hX) qe
        have KA : Hx (∀ X,Ov wr X→Ro 62 #[.slice aA args.length cA,.slice bA9 args9.length bcA,.bool false] X (.bool true)):=fun X hX => sameEs_of false ke (sameE_t false ke) args args9 aA bA9 cA bcA X (lsE_over hX (lsE_over hB hA)) (lsE_over hX (lsE_over hB hA9)) qa
        have KT : Hx (∀ X,Ov wr X→Ro 30 #[.slice aT th.length cT,.slice bT th9.length bcT,.bool false] X (.bool true)):=fun X hX => IH.o th th9 aT bT cT bcT X (lsC_over hX (lsC_over hB hT)) (lsC_over hX (lsC_over hB hT9)) qt
        have KL : Hx (∀ X,Ov wr X→Ro 30 #[.slice aE el.length cE,.slice bE el9.length bcE,.bool false] X (.bool true)):=fun X hX => IH.o el el9 aE bE cE bcE X (lsC_over hX (lsC_over hB hE)) (lsC_over hX (lsC_over hB hE9)) ql
        rw [← all2_len qa] at KA g9
        rw [← all2_len qt] at KT g10
        rw [← all2_len ql] at KL g11
        have HB:=hide hB
        clear hcs hcs' hjl0 hjm0 hB he he9 hA hA9 hT hT9 hE hE9 qe qa qt ql hx hy
        generalize args.length = nA at KA d9 g9
        generalize th.length = nT at KT d10 g10
        generalize el.length = nE at KL d11 g11
        generalize x9 = x at d2 g2
        generalize y9 = y at d3 g3
        clear hat
        go_wp2_with fail
        refine gS (fun Wz => Below wr.heap.size wr Wz) (Below.refl _ _).drew fun hHeld => ?_
        generalize wr.drew = W at hHeld ⊢
        have HW:=hide hHeld
        refine kO 0 ?_
        refine kO 1 ?_
        refine kO 2 ?_
        refine kO 3 ?_
        refine kO 4 ?_
        refine kO 5 ?_
        refine kO 6 ?_
        refine kO 7 ?_
        refine rdB 8 9 rfl (fun K hK => ?_) rfl fun K hK => ?_
        · go_simp
          refine xK hK (over_trans hHeld (bA _ _)) fun hHeld => ?_
          clear hK K
          refine rdA 9 rfl fun K hK => ?_
          go_simp
          refine xK hK (over_trans hHeld (bA _ _)) fun hHeld => ?_
          clear hK K
          refine rdA 10 rfl fun K hK => ?_
          go_simp
          refine xK hK (over_trans (over_trans HW.o (bA _ _)) (bA _ _)) fun hHeld => ?_
          clear hK K
          refine rdA 11 rfl fun K hK => ?_
          go_simp
          refine xK hK (over_trans (over_trans HW.o (bA _ _)) (bA _ _)) fun hHeld => ?_
          clear hK K
          refine gE ?_
          clear d0 d1 d2 d3 d4 d5 d6 d7 d8 d9 d10 d11 g0 g1 g2 g3 g4 g5 g6 g7 g8 g9 g10 g11
          obtain ⟨V,hV⟩:=nm ((W.alloc (.cells #[.int .i64 kd,.int .i64 a,.string x,.string y,.int .i64 e0,.int .i64 e1,.int .i64 e2,.string e3,.slice q q1 q2,.slice aA nA cA,.slice aT nT cT,.slice aE nE cE] 55)).alloc (.cells #[.int .i64 kd,.int .i64 a9,.string x,.string y,.int .i64 f0,.int .i64 f1,.int .i64 f2,.string f3,.slice t t1 t2,.slice bA9 nA bcA,.slice bT nT bcT,.slice bE nE bcE] 55))
          obtain ⟨b1,hb1⟩:=nm (W.heap.size)
          obtain ⟨b2,hb2⟩:=nm (W.heap.size + 1)
          have HRa : Hx (RowAt [.int .i64 kd,.int .i64 a,.string x,.string y,.int .i64 e0,.int .i64 e1,.int .i64 e2,.string e3,.slice q q1 q2,.slice aA nA cA,.slice aT nT cT,.slice aE nE cE] V b1):=by show RowAt _ _ _; rw [hV,hb1]; exact al20 W [.int .i64 kd,.int .i64 a,.string x,.string y,.int .i64 e0,.int .i64 e1,.int .i64 e2,.string e3,.slice q q1 q2,.slice aA nA cA,.slice aT nT cT,.slice aE nE cE] 55 (.cells #[.int .i64 kd,.int .i64 a9,.string x,.string y,.int .i64 f0,.int .i64 f1,.int .i64 f2,.string f3,.slice t t1 t2,.slice bA9 nA bcA,.slice bT nT bcT,.slice bE nE bcE] 55)
          have HRb : Hx (RowAt [.int .i64 kd,.int .i64 a9,.string x,.string y,.int .i64 f0,.int .i64 f1,.int .i64 f2,.string f3,.slice t t1 t2,.slice bA9 nA bcA,.slice bT nT bcT,.slice bE nE bcE] V b2):=by show RowAt _ _ _; rw [hV,hb2]; exact al21 W (.cells #[.int .i64 kd,.int .i64 a,.string x,.string y,.int .i64 e0,.int .i64 e1,.int .i64 e2,.string e3,.slice q q1 q2,.slice aA nA cA,.slice aT nT cT,.slice aE nE cE] 55) [.int .i64 kd,.int .i64 a9,.string x,.string y,.int .i64 f0,.int .i64 f1,.int .i64 f2,.string f3,.slice t t1 t2,.slice bA9 nA bcA,.slice bT nT bcT,.slice bE nE bcE] 55
          have HBV : Hx (Ov wr V):=by show Ov _ _; rw [hV]; exact over_trans (over_trans HW.o (bA _ _)) (bA _ _)
          rw [← hV,← hb2,← hb1]
          clear hV hb1 hb2 hHeld HW
          obtain ⟨m0x0,m0x1,m0x2,m0x3,m0x4,m0x5,m0x6,m0x7,m0x8,m0x9,m0x10,m0x11⟩:=rc12 HRa.o
          obtain ⟨m1x0,m1x1,m1x2,m1x3,m1x4,m1x5,m1x6,m1x7,m1x8,m1x9,m1x10,m1x11⟩:=rc12 HRb.o
          go_wp2_with fail
          refine (KE.o _ (HBV.o)).mono ?_
          rintro e w21 ⟨rfl,hb⟩
          have HB21 : Hx (Ov wr w21):=over_trans (HBV.o) hb
          have HR0_21 : Hx (RowAt [.int .i64 kd,.int .i64 a,.string x,.string y,.int .i64 e0,.int .i64 e1,.int .i64 e2,.string e3,.slice q q1 q2,.slice aA nA cA,.slice aT nT cT,.slice aE nE cE] w21 b1):=HRa.o.over hb
          have HR1_21 : Hx (RowAt [.int .i64 kd,.int .i64 a9,.string x,.string y,.int .i64 f0,.int .i64 f1,.int .i64 f2,.string f3,.slice t t1 t2,.slice bA9 nA bcA,.slice bT nT bcT,.slice bE nE bcE] w21 b2):=HRb.o.over hb
          clear hb m0x0 m0x1 m0x2 m0x3 m0x4 m0x5 m0x6 m0x7 m0x8 m0x9 m0x10 m0x11 m1x0 m1x1 m1x2 m1x3 m1x4 m1x5 m1x6 m1x7 m1x8 m1x9 m1x10 m1x11 KE
          obtain ⟨m0x0,m0x1,m0x2,m0x3,m0x4,m0x5,m0x6,m0x7,m0x8,m0x9,m0x10,m0x11⟩:=rc12 HR0_21.o
          obtain ⟨m1x0,m1x1,m1x2,m1x3,m1x4,m1x5,m1x6,m1x7,m1x8,m1x9,m1x10,m1x11⟩:=rc12 HR1_21.o
          go_wp2_with fail
          refine (KA.o _ (HB21.o)).mono ?_
          rintro e w22 ⟨rfl,hb⟩
          have HB22 : Hx (Ov wr w22):=over_trans (HB21.o) hb
          have HR0_22 : Hx (RowAt [.int .i64 kd,.int .i64 a,.string x,.string y,.int .i64 e0,.int .i64 e1,.int .i64 e2,.string e3,.slice q q1 q2,.slice aA nA cA,.slice aT nT cT,.slice aE nE cE] w22 b1):=HR0_21.o.over hb
          have HR1_22 : Hx (RowAt [.int .i64 kd,.int .i64 a9,.string x,.string y,.int .i64 f0,.int .i64 f1,.int .i64 f2,.string f3,.slice t t1 t2,.slice bA9 nA bcA,.slice bT nT bcT,.slice bE nE bcE] w22 b2):=HR1_21.o.over hb
          clear hb m0x0 m0x1 m0x2 m0x3 m0x4 m0x5 m0x6 m0x7 m0x8 m0x9 m0x10 m0x11 m1x0 m1x1 m1x2 m1x3 m1x4 m1x5 m1x6 m1x7 m1x8 m1x9 m1x10 m1x11 KA
          obtain ⟨m0x0,m0x1,m0x2,m0x3,m0x4,m0x5,m0x6,m0x7,m0x8,m0x9,m0x10,m0x11⟩:=rc12 HR0_22.o
          obtain ⟨m1x0,m1x1,m1x2,m1x3,m1x4,m1x5,m1x6,m1x7,m1x8,m1x9,m1x10,m1x11⟩:=rc12 HR1_22.o
          go_wp2_with fail
          refine (KT.o _ (HB22.o)).mono ?_
          rintro e w23 ⟨rfl,hb⟩
          have HB23 : Hx (Ov wr w23):=over_trans (HB22.o) hb
          have HR0_23 : Hx (RowAt [.int .i64 kd,.int .i64 a,.string x,.string y,.int .i64 e0,.int .i64 e1,.int .i64 e2,.string e3,.slice q q1 q2,.slice aA nA cA,.slice aT nT cT,.slice aE nE cE] w23 b1):=HR0_22.o.over hb
          have HR1_23 : Hx (RowAt [.int .i64 kd,.int .i64 a9,.string x,.string y,.int .i64 f0,.int .i64 f1,.int .i64 f2,.string f3,.slice t t1 t2,.slice bA9 nA bcA,.slice bT nT bcT,.slice bE nE bcE] w23 b2):=HR1_22.o.over hb
          clear hb m0x0 m0x1 m0x2 m0x3 m0x4 m0x5 m0x6 m0x7 m0x8 m0x9 m0x10 m0x11 m1x0 m1x1 m1x2 m1x3 m1x4 m1x5 m1x6 m1x7 m1x8 m1x9 m1x10 m1x11 KT
          obtain ⟨m0x0,m0x1,m0x2,m0x3,m0x4,m0x5,m0x6,m0x7,m0x8,m0x9,m0x10,m0x11⟩:=rc12 HR0_23.o
          obtain ⟨m1x0,m1x1,m1x2,m1x3,m1x4,m1x5,m1x6,m1x7,m1x8,m1x9,m1x10,m1x11⟩:=rc12 HR1_23.o
          go_wp2_with fail
          refine (KL.o _ (HB23.o)).mono ?_
          rintro e w24 ⟨rfl,hb⟩
          have HB24 : Hx (Ov wr w24):=over_trans (HB23.o) hb
          have HR0_24 : Hx (RowAt [.int .i64 kd,.int .i64 a,.string x,.string y,.int .i64 e0,.int .i64 e1,.int .i64 e2,.string e3,.slice q q1 q2,.slice aA nA cA,.slice aT nT cT,.slice aE nE cE] w24 b1):=HR0_23.o.over hb
          have HR1_24 : Hx (RowAt [.int .i64 kd,.int .i64 a9,.string x,.string y,.int .i64 f0,.int .i64 f1,.int .i64 f2,.string f3,.slice t t1 t2,.slice bA9 nA bcA,.slice bT nT bcT,.slice bE nE bcE] w24 b2):=HR1_23.o.over hb
          clear hb m0x0 m0x1 m0x2 m0x3 m0x4 m0x5 m0x6 m0x7 m0x8 m0x9 m0x10 m0x11 m1x0 m1x1 m1x2 m1x3 m1x4 m1x5 m1x6 m1x7 m1x8 m1x9 m1x10 m1x11 KL
          go_wp2_with fail
          exact ⟨⟨j + 1,by omega,by go_num,over_trans HB.o HB24.o⟩,by simp [intOf]; omega⟩
        · go_simp
          refine xK hK (over_trans hHeld (bA _ _)) fun hHeld => ?_
          clear hK K
          refine rdA 8 rfl fun K hK => ?_
          go_simp
          refine xK hK (over_trans hHeld (bA _ _)) fun hHeld => ?_
          clear hK K
          refine rdA 10 rfl fun K hK => ?_
          go_simp
          refine xK hK (over_trans (over_trans HW.o (bA _ _)) (bA _ _)) fun hHeld => ?_
          clear hK K
          refine rdA 11 rfl fun K hK => ?_
          go_simp
          refine xK hK (over_trans (over_trans HW.o (bA _ _)) (bA _ _)) fun hHeld => ?_
          clear hK K
          refine gE ?_
          clear d0 d1 d2 d3 d4 d5 d6 d7 d8 d9 d10 d11 g0 g1 g2 g3 g4 g5 g6 g7 g8 g9 g10 g11
          obtain ⟨V,hV⟩:=nm ((W.alloc (.cells #[.int .i64 kd,.int .i64 a9,.string x,.string y,.int .i64 f0,.int .i64 f1,.int .i64 f2,.string f3,.slice t t1 t2,.slice bA9 nA bcA,.slice bT nT bcT,.slice bE nE bcE] 55)).alloc (.cells #[.int .i64 kd,.int .i64 a,.string x,.string y,.int .i64 e0,.int .i64 e1,.int .i64 e2,.string e3,.slice q q1 q2,.slice aA nA cA,.slice aT nT cT,.slice aE nE cE] 55))
          obtain ⟨b1,hb1⟩:=nm (W.heap.size + 1)
          obtain ⟨b2,hb2⟩:=nm (W.heap.size)
          have HRa : Hx (RowAt [.int .i64 kd,.int .i64 a,.string x,.string y,.int .i64 e0,.int .i64 e1,.int .i64 e2,.string e3,.slice q q1 q2,.slice aA nA cA,.slice aT nT cT,.slice aE nE cE] V b1):=by show RowAt _ _ _; rw [hV,hb1]; exact al21 W (.cells #[.int .i64 kd,.int .i64 a9,.string x,.string y,.int .i64 f0,.int .i64 f1,.int .i64 f2,.string f3,.slice t t1 t2,.slice bA9 nA bcA,.slice bT nT bcT,.slice bE nE bcE] 55) [.int .i64 kd,.int .i64 a,.string x,.string y,.int .i64 e0,.int .i64 e1,.int .i64 e2,.string e3,.slice q q1 q2,.slice aA nA cA,.slice aT nT cT,.slice aE nE cE] 55
          have HRb : Hx (RowAt [.int .i64 kd,.int .i64 a9,.string x,.string y,.int .i64 f0,.int .i64 f1,.int .i64 f2,.string f3,.slice t t1 t2,.slice bA9 nA bcA,.slice bT nT bcT,.slice bE nE bcE] V b2):=by show RowAt _ _ _; rw [hV,hb2]; exact al20 W [.int .i64 kd,.int .i64 a9,.string x,.string y,.int .i64 f0,.int .i64 f1,.int .i64 f2,.string f3,.slice t t1 t2,.slice bA9 nA bcA,.slice bT nT bcT,.slice bE nE bcE] 55 (.cells #[.int .i64 kd,.int .i64 a,.string x,.string y,.int .i64 e0,.int .i64 e1,.int .i64 e2,.string e3,.slice q q1 q2,.slice aA nA cA,.slice aT nT cT,.slice aE nE cE] 55)
          have HBV : Hx (Ov wr V):=by show Ov _ _; rw [hV]; exact over_trans (over_trans HW.o (bA _ _)) (bA _ _)
          rw [← hV,← hb1,← hb2]
          clear hV hb1 hb2 hHeld HW
          obtain ⟨m0x0,m0x1,m0x2,m0x3,m0x4,m0x5,m0x6,m0x7,m0x8,m0x9,m0x10,m0x11⟩:=rc12 HRa.o
          obtain ⟨m1x0,m1x1,m1x2,m1x3,m1x4,m1x5,m1x6,m1x7,m1x8,m1x9,m1x10,m1x11⟩:=rc12 HRb.o
          go_wp2_with fail
          refine (KE.o _ (HBV.o)).mono ?_
          rintro e w21 ⟨rfl,hb⟩
          have HB21 : Hx (Ov wr w21):=over_trans (HBV.o) hb
          have HR0_21 : Hx (RowAt [.int .i64 kd,.int .i64 a,.string x,.string y,.int .i64 e0,.int .i64 e1,.int .i64 e2,.string e3,.slice q q1 q2,.slice aA nA cA,.slice aT nT cT,.slice aE nE cE] w21 b1):=HRa.o.over hb
          have HR1_21 : Hx (RowAt [.int .i64 kd,.int .i64 a9,.string x,.string y,.int .i64 f0,.int .i64 f1,.int .i64 f2,.string f3,.slice t t1 t2,.slice bA9 nA bcA,.slice bT nT bcT,.slice bE nE bcE] w21 b2):=HRb.o.over hb
          clear hb m0x0 m0x1 m0x2 m0x3 m0x4 m0x5 m0x6 m0x7 m0x8 m0x9 m0x10 m0x11 m1x0 m1x1 m1x2 m1x3 m1x4 m1x5 m1x6 m1x7 m1x8 m1x9 m1x10 m1x11 KE
          obtain ⟨m0x0,m0x1,m0x2,m0x3,m0x4,m0x5,m0x6,m0x7,m0x8,m0x9,m0x10,m0x11⟩:=rc12 HR0_21.o
          obtain ⟨m1x0,m1x1,m1x2,m1x3,m1x4,m1x5,m1x6,m1x7,m1x8,m1x9,m1x10,m1x11⟩:=rc12 HR1_21.o
          go_wp2_with fail
          refine (KA.o _ (HB21.o)).mono ?_
          rintro e w22 ⟨rfl,hb⟩
          have HB22 : Hx (Ov wr w22):=over_trans (HB21.o) hb
          have HR0_22 : Hx (RowAt [.int .i64 kd,.int .i64 a,.string x,.string y,.int .i64 e0,.int .i64 e1,.int .i64 e2,.string e3,.slice q q1 q2,.slice aA nA cA,.slice aT nT cT,.slice aE nE cE] w22 b1):=HR0_21.o.over hb
          have HR1_22 : Hx (RowAt [.int .i64 kd,.int .i64 a9,.string x,.string y,.int .i64 f0,.int .i64 f1,.int .i64 f2,.string f3,.slice t t1 t2,.slice bA9 nA bcA,.slice bT nT bcT,.slice bE nE bcE] w22 b2):=HR1_21.o.over hb
          clear hb m0x0 m0x1 m0x2 m0x3 m0x4 m0x5 m0x6 m0x7 m0x8 m0x9 m0x10 m0x11 m1x0 m1x1 m1x2 m1x3 m1x4 m1x5 m1x6 m1x7 m1x8 m1x9 m1x10 m1x11 KA
          obtain ⟨m0x0,m0x1,m0x2,m0x3,m0x4,m0x5,m0x6,m0x7,m0x8,m0x9,m0x10,m0x11⟩:=rc12 HR0_22.o
          obtain ⟨m1x0,m1x1,m1x2,m1x3,m1x4,m1x5,m1x6,m1x7,m1x8,m1x9,m1x10,m1x11⟩:=rc12 HR1_22.o
          go_wp2_with fail
          refine (KT.o _ (HB22.o)).mono ?_
          rintro e w23 ⟨rfl,hb⟩
          have HB23 : Hx (Ov wr w23):=over_trans (HB22.o) hb
          have HR0_23 : Hx (RowAt [.int .i64 kd,.int .i64 a,.string x,.string y,.int .i64 e0,.int .i64 e1,.int .i64 e2,.string e3,.slice q q1 q2,.slice aA nA cA,.slice aT nT cT,.slice aE nE cE] w23 b1):=HR0_22.o.over hb
          have HR1_23 : Hx (RowAt [.int .i64 kd,.int .i64 a9,.string x,.string y,.int .i64 f0,.int .i64 f1,.int .i64 f2,.string f3,.slice t t1 t2,.slice bA9 nA bcA,.slice bT nT bcT,.slice bE nE bcE] w23 b2):=HR1_22.o.over hb
          clear hb m0x0 m0x1 m0x2 m0x3 m0x4 m0x5 m0x6 m0x7 m0x8 m0x9 m0x10 m0x11 m1x0 m1x1 m1x2 m1x3 m1x4 m1x5 m1x6 m1x7 m1x8 m1x9 m1x10 m1x11 KT
          obtain ⟨m0x0,m0x1,m0x2,m0x3,m0x4,m0x5,m0x6,m0x7,m0x8,m0x9,m0x10,m0x11⟩:=rc12 HR0_23.o
          obtain ⟨m1x0,m1x1,m1x2,m1x3,m1x4,m1x5,m1x6,m1x7,m1x8,m1x9,m1x10,m1x11⟩:=rc12 HR1_23.o
          go_wp2_with fail
          refine (KL.o _ (HB23.o)).mono ?_
          rintro e w24 ⟨rfl,hb⟩
          have HB24 : Hx (Ov wr w24):=over_trans (HB23.o) hb
          have HR0_24 : Hx (RowAt [.int .i64 kd,.int .i64 a,.string x,.string y,.int .i64 e0,.int .i64 e1,.int .i64 e2,.string e3,.slice q q1 q2,.slice aA nA cA,.slice aT nT cT,.slice aE nE cE] w24 b1):=HR0_23.o.over hb
          have HR1_24 : Hx (RowAt [.int .i64 kd,.int .i64 a9,.string x,.string y,.int .i64 f0,.int .i64 f1,.int .i64 f2,.string f3,.slice t t1 t2,.slice bA9 nA bcA,.slice bT nT bcT,.slice bE nE bcE] w24 b2):=HR1_23.o.over hb
          clear hb m0x0 m0x1 m0x2 m0x3 m0x4 m0x5 m0x6 m0x7 m0x8 m0x9 m0x10 m0x11 m1x0 m1x1 m1x2 m1x3 m1x4 m1x5 m1x6 m1x7 m1x8 m1x9 m1x10 m1x11 KL
          go_wp2_with fail
          exact ⟨⟨j + 1,by omega,by go_num,over_trans HB.o HB24.o⟩,by simp [intOf]; omega⟩
      · have hji : ¬ (j : Int) < (nn : Int):=by omega
        have HB:=hide hB
        clear hB
        go_wp2_with fail
        go_ret
        exact ⟨rfl,HB.o⟩
end Go.Proofs.YtipngnjffjajpaaGreatDoor.Tx
