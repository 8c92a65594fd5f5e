/- The document's answer: how many commands. -/
import Derived.Test.YtipngnjffjajpaaGreatDoorF29
import Derived.Test.YtipngnjffjajpaaGreatDoorF30
import Derived.Test.YtipngnjffjajpaaGreatDoorF26
namespace Go.Proofs.YtipngnjffjajpaaGreatDoor.Tx
open Go.RowKit
set_option linter.unusedVariables false
theorem longE_po (ke : Nat) (d : D) : longE ke d = decide (15 < poK ke d 15):=by
  unfold longE
  rw [plK_po ke d 15 (by omega),decide_eq_decide]
  omega
theorem csF_step (ke : Nat) (rec : List D→Int) (t : Int) (s : D) (h : t≤50) : csF ke rec (t,false) s = if muchS ke s = true then (51,true) else (t + 1 + rec (gL 6 s) + rec (gL 7 s),false):=by
  unfold csF
  rw [if_neg (by simp; omega)]
theorem csF_51 (ke : Nat) (rec : List D→Int) : ∀ (l : List D),(l.foldl (csF ke rec) (51,true)).1 = 51
  | [] => rfl
  | a :: l => by
    rw [List.foldl_cons]
    have : csF ke rec (51,true) a = (51,true):=by unfold csF; rw [if_pos (Or.inl rfl)]
    rw [this]
    exact csF_51 ke rec l
theorem csF_done (ke : Nat) (rec : List D→Int) : ∀ (l : List D) (t : Int),50 < t→(l.foldl (csF ke rec) (t,false)).1 = t
  | [],t,h => rfl
  | a :: l,t,h => by
    rw [List.foldl_cons]
    have : csF ke rec (t,false) a = (t,false):=by unfold csF; rw [if_pos (Or.inr h)]
    rw [this]
    exact csF_done ke rec l t h
set_option maxHeartbeats 2000000 in
theorem count_nil (ao : Option Addr) (cap : Nat) (w : World) (deep : Int) : Ro 74 #[.slice ao 0 cap,.int .i64 deep] w (.int .i64 0):=by
  go_enter Tryz.func74,Tryz.ntmps74
  go_wp2_with fail
  go_loopw [5,6] (fun c i wr => c = .int .i64 0∧i = .int .i64 0∧wr = w) (fun _ _ _ => 0)
  case atStart => exact ⟨rfl,rfl,rfl⟩
  case round =>
    obtain ⟨rfl,rfl,rfl⟩:=hrel
    go_wp2_with fail
    go_ret
    exact ⟨rfl,Below.refl _ _⟩
set_option maxHeartbeats 4000000 in
set_option maxRecDepth 100000 in
theorem count_c (ke : Nat) : ∀ (k : Nat) (l : List D) (ao : Option Addr) (cap : Nat) (w : World) (deep : Int),LS 12 (ZC w ke k) w (.slice ao l.length cap) l→1≤deep→deep≤7→Ro 74 #[.slice ao l.length cap,.int .i64 deep] w (.int .i64 (csK ke k l deep)):=by
  intro k
  induction k with
  | zero =>
    intro l ao cap w deep hc _ _
    have hl : l = []:=by
      cases l with
      | nil => rfl
      | cons a l =>
        obtain ⟨b,off,-,cs,-,-,hr⟩:=hc.at (j:=0) (by simp)
        exact hr.elim
    subst hl
    exact count_nil ao cap w deep
  | succ k ih =>
    intro l ao cap w deep hc g1 g2
    have HC:=hide hc
    have IH:=hide ih
    have HL:=hc.max
    obtain ⟨fin,hfin⟩:=nm (csK ke (k + 1) l deep)
    rw [← hfin]
    have hspec : fin = if l≠[]∧6 < deep then 51 else min 51 (l.foldl (csF ke (fun l => csK ke k l (deep + 1))) (0,false)).1:=by rw [hfin]; rfl
    have hne : (l≠[]) = (0 < l.length):=by rw [List.length_pos_iff]
    simp only [hne] at hspec
    obtain ⟨nn,hnn⟩:=nm l.length
    rw [← hnn] at HL hspec ⊢
    have HN:=hide hnn
    clear hc ih hfin hnn hne
    by_cases h6 : 0 < nn∧6 < deep
    · rw [if_pos h6] at hspec
      obtain ⟨h7,h8⟩:=h6
      have hi : (0 : Int) < (nn : Int):=by omega
      have HV:=hide hspec
      clear hspec
      go_enter Tryz.func74,Tryz.ntmps74
      go_wp2_with fail
      go_ret
      exact ⟨by rw [HV.o]; rfl,Below.refl _ _⟩
    rw [if_neg h6] at hspec
    obtain ⟨F,hF⟩:=nm (l.foldl (csF ke (fun l => csK ke k l (deep + 1))) (0,false)).1
    rw [← hF] at hspec
    have HFF:=hide hspec
    have HF:=hide hF
    have H6:=hide h6
    clear hspec hF h6
    by_cases h0 : 0 < nn
    · have hi0 : (0 : Int) < (nn : Int):=by omega
      have h66 : ¬ 6 < deep:=fun h => H6.o ⟨h0,h⟩
      clear H6
      go_enter Tryz.func74,Tryz.ntmps74
      go_wp2_with fail
      go_loopw [5,6] (fun c i wr => ∃ (j : Nat) (t : Int),j≤nn∧i = .int .i64 j∧c = .int .i64 t∧0≤t∧t≤200∧((l.drop j).foldl (csF ke (fun l => csK ke k l (deep + 1))) (t,false)).1 = F∧Ov w wr) (fun _ i _ => nn - (intOf i).toNat)
      case atStart => exact ⟨0,0,Nat.zero_le _,rfl,rfl,by omega,by omega,HF.o.symm,Below.refl _ _⟩
      case round =>
        obtain ⟨j,t,hj,rfl,rfl,t1,t2,hp,hB⟩:=hrel
        by_cases hjl : j < nn
        · have hjl0 : j < l.length:=by have:=HN.o; omega
          have hji : (j : Int) < (nn : Int):=by omega
          by_cases ht0 : t≤50
          · obtain ⟨b,off,rfl,cs,hl12,hcs,hr⟩:=HC.o.at hjl0
            rw [foldl_drop hjl0,csF_step ke _ t _ ht0] at hp
            generalize l[j] = dj at hp hr
            obtain ⟨kd,a,x,y,e0,e1,e2,e3,q,q1,q2,e,aA,cA,args,aT,cT,th,aE,cE,el,rfl,rfl,-,-,he,hA,hT,hE⟩:=hr
            simp only [gSs] at hp
            have d0 : wr.cell? ⟨b,off + j * 12,none⟩ = _:=ce1 hB (hcs 0 _ rfl)
            have d1:=ce1 hB (hcs 1 _ rfl)
            have d2:=ce1 hB (hcs 2 _ rfl)
            have d3:=ce1 hB (hcs 3 _ rfl)
            have d4:=ce1 hB (hcs 4 _ rfl)
            have d5:=ce1 hB (hcs 5 _ rfl)
            have d6:=ce1 hB (hcs 6 _ rfl)
            have d7:=ce1 hB (hcs 7 _ rfl)
            have d8:=ce1 hB (hcs 8 _ rfl)
            have d9:=ce1 hB (hcs 9 _ rfl)
            have d10:=ce1 hB (hcs 10 _ rfl)
            have d11:=ce1 hB (hcs 11 _ rfl)
            obtain ⟨qm,hqm⟩:=nm (muchS ke (stD kd a x y e args th el))
            rw [← hqm] at hp
            have hm2 : qm = (decide (4 < args.length) || decide (15 < poK ke e 15) || args.any (longE ke)):=by rw [hqm]; unfold muchS; simp only [gSs]; rw [longE_po ke e]
            obtain ⟨re,hre⟩:=nm (poK ke e 15)
            obtain ⟨qn,hqn⟩:=nm (args.any (longE ke))
            rw [← hre,← hqn] at hm2
            have hbe:=poK_bd ke e 15 (by omega)
            rw [← hre] at hbe
            obtain ⟨r1,hr1⟩:=nm (csK ke k th (deep + 1))
            obtain ⟨r2,hr2⟩:=nm (csK ke k el (deep + 1))
            have hb1:=csK_bd ke k th (deep + 1)
            have hb2:=csK_bd ke k el (deep + 1)
            rw [← hr1] at hb1 hp
            rw [← hr2] at hb2 hp
            have KP : Hx (∀ X,Ov wr X→Ro 75 #[.agg #[.int .i64 e0,.int .i64 e1,.int .i64 e2,.string e3,.slice q q1 q2],.int .i64 15] X (.int .i64 re)):=fun X hX => by rw [hre]; exact partsOf_c ke _ e X 15 ((he.over hB).over hX) (by omega) (by omega)
            have hwd : IntKind.i64.wrap (deep + 1) = deep + 1:=by rw [IntKind.wrap_i64]; omega
            have KT : Hx (∀ X,Ov wr X→Ro 74 #[.slice aT th.length cT,.int .i64 (IntKind.i64.wrap (deep + 1))] X (.int .i64 r1)):=fun X hX => by rw [hr1,hwd]; exact IH.o th aT cT X (deep + 1) (lsC_over hX (lsC_over hB hT)) (by omega) (by omega)
            have KL : Hx (∀ X,Ov wr X→Ro 74 #[.slice aE el.length cE,.int .i64 (IntKind.i64.wrap (deep + 1))] X (.int .i64 r2)):=fun X hX => by rw [hr2,hwd]; exact IH.o el aE cE X (deep + 1) (lsC_over hX (lsC_over hB hE)) (by omega) (by omega)
            have HLA:=hA.max
            have HAA:=hide (lsE_over hB hA)
            have HQN:=hide hqn
            have HB0:=hide hB
            have HP:=hide hp
            obtain ⟨nA,hnA⟩:=nm args.length
            rw [← hnA] at d9 HLA hm2
            have HNA:=hide hnA
            have HM:=hide hm2
            clear hcs hl12 hB hjl0 hp hqm hm2 hre hqn hr1 hr2 he hA hT hE hnA hwd
            generalize th.length = nT at d10 KT
            generalize el.length = nE at d11 KL
            go_wp2_with fail
            refine (KP.o _ (bA _ _)).mono ?_
            rintro e W2 ⟨rfl,hb⟩
            have HB2 : Hx (Ov wr W2):=over_trans (bA _ _) hb
            have HR2 : Hx (RowAt [.int .i64 kd,.int .i64 a,.string x,.string y,.int .i64 e0,.int .i64 e1,.int .i64 e2,.string e3,.slice q q1 q2,.slice aA nA cA,.slice aT nT cT,.slice aE nE cE] W2 wr.heap.size):=RowAt.over (al10 wr [.int .i64 kd,.int .i64 a,.string x,.string y,.int .i64 e0,.int .i64 e1,.int .i64 e2,.string e3,.slice q q1 q2,.slice aA nA cA,.slice aT nT cT,.slice aE nE cE] 55) hb
            clear hb d0 d1 d2 d3 d4 d5 d6 d7 d8 d9 d10 d11 KP
            generalize wr.heap.size = bq at HR2 ⊢
            obtain ⟨n0,n1,n2,n3,n4,n5,n6,n7,n8,n9,n10,n11⟩:=rc12 HR2.o
            by_cases h15 : 15 < re
            · have hp:=HP.o
              rw [show qm = true by have h:=HM.o; simp [h15] at h; exact h,if_pos rfl,csF_51] at hp
              have HV : Hx (fin = 51):=by show _ = _; rw [HFF.o,← hp]; rfl
              clear hp
              go_wp2_with fail
              go_ret
              exact ⟨by rw [HV.o]; rfl,over_trans HB0.o HB2.o⟩
            by_cases h4 : 4 < nA
            · have hp:=HP.o
              rw [show qm = true by have h:=HM.o; simp [h4] at h; exact h,if_pos rfl,csF_51] at hp
              have HV : Hx (fin = 51):=by show _ = _; rw [HFF.o,← hp]; rfl
              clear hp
              have hi4 : (4 : Int) < (nA : Int):=by omega
              go_wp2_with fail
              go_ret
              exact ⟨by rw [HV.o]; rfl,over_trans HB0.o HB2.o⟩
            have hi4 : ¬ (4 : Int) < (nA : Int):=by omega
            have hmn : qm = qn:=by have h:=HM.o; simp [h15,h4] at h; exact h
            replace HM:=hide hmn
            clear hmn
            go_wp2_with fail
            clear n0 n1 n2 n3 n4 n5 n6 n7 n8 n9 n10 n11
            go_loopw [8] (fun i ws => ∃ (i2 : Nat),i2≤nA∧i = .int .i64 i2∧(args.drop i2).any (longE ke) = qn∧Ov W2 ws) (fun i _ => nA - (intOf i).toNat)
            case atStart => exact ⟨0,Nat.zero_le _,rfl,HQN.o.symm,Below.refl _ _⟩
            case round =>
              obtain ⟨i,hi2,rfl,hpa,hB2⟩:=hrel
              have HB3:=hide (over_trans HB2.o hB2)
              have hB3:=HB3.o
              obtain ⟨n0,n1,n2,n3,n4,n5,n6,n7,n8,n9,n10,n11⟩:=rc12 (HR2.o.over hB2)
              by_cases hil : i < nA
              · have hil0 : i < args.length:=by have:=HNA.o; omega
                have hii : (i : Int) < (nA : Int):=by omega
                obtain ⟨ba,oa,rfl,ca,hl5,hca,hra⟩:=HAA.o.at hil0
                rw [List.drop_eq_getElem_cons hil0,List.any_cons] at hpa
                generalize args[i] = da at hpa hra
                obtain ⟨rp,hrp⟩:=nm (poK ke da 15)
                rw [longE_po,← hrp] at hpa
                have KQ : Hx (∀ X,Ov wr X→Ro 75 #[.agg ca.toArray,.int .i64 15] X (.int .i64 rp)):=fun X hX => by rw [hrp]; exact partsOf_c ke ca da X 15 ((hra.over hB3).over hX) (by omega) (by omega)
                obtain ⟨k0,k1,k2,k3,k4,k5,k6,rfl⟩:=hra.cells
                have z0 : wr.cell? ⟨ba,oa + i * 5,none⟩ = _:=ce1 hB3 (hca 0 _ rfl)
                have z1:=ce1 hB3 (hca 1 _ rfl)
                have z2:=ce1 hB3 (hca 2 _ rfl)
                have z3:=ce1 hB3 (hca 3 _ rfl)
                have z4:=ce1 hB3 (hca 4 _ rfl)
                have HPA:=hide hpa
                have HBB:=hide hB2
                clear hpa hB2 hB3 hra hca hl5 hrp hil0
                go_wp2_with fail
                refine (KQ.o _ (Below.refl _ _)).mono ?_
                rintro e W4 ⟨rfl,hb⟩
                have HB4:=hide (over_trans HBB.o hb)
                have HB5:=hide (over_trans HB3.o hb)
                clear hb z0 z1 z2 z3 z4 n0 n1 n2 n3 n4 n5 n6 n7 n8 n9 n10 n11 KQ HB3
                by_cases h15' : 15 < rp
                · have hqn : qn = true:=by have h:=HPA.o; simp [h15'] at h; exact h
                  subst hqn
                  have hp:=HP.o
                  rw [HM.o,if_pos rfl,csF_51] at hp
                  have HV : Hx (fin = 51):=by show _ = _; rw [HFF.o,← hp]; rfl
                  clear hp
                  go_wp2_with fail
                  go_ret
                  exact ⟨by rw [HV.o]; rfl,over_trans HB0.o HB5.o⟩
                · have hqn : (args.drop (i + 1)).any (longE ke) = qn:=by have h:=HPA.o; rw [decide_eq_false h15',Bool.false_or] at h; exact h
                  replace HPA:=hide hqn
                  clear hqn
                  go_wp2_with fail
                  exact ⟨⟨i + 1,by omega,by go_num,HPA.o,HB4.o⟩,by simp [intOf]; omega⟩
              · have hd : args.drop i = []:=List.drop_eq_nil_of_le (by have:=HNA.o; omega)
                have hii : ¬ (i : Int) < (nA : Int):=by omega
                rw [hd] at hpa
                have hqn : qn = false:=by rw [← hpa]; rfl
                subst hqn
                have hp:=HP.o
                rw [HM.o,if_neg (by simp),show t + 1 + r1 + r2 = t + (1 + r1 + r2) by omega] at hp
                replace HP:=hide hp
                clear hp hd hpa hB2 hB3
                go_wp2_with fail
                refine Go.Proofs.YtipngnjffjajpaaGreatDoor.gS (fun Wz => Below wr.heap.size wr Wz) (Below.refl _ _).drew fun hHeld => ?_
                generalize wr.drew = W at hHeld ⊢
                refine kO 0 ?_
                refine kO 1 ?_
                refine kO 2 ?_
                refine kO 3 ?_
                refine kO 4 ?_
                refine kO 7 ?_
                refine kO 8 ?_
                refine kO 9 ?_
                refine kO 10 ?_
                refine rdA 5 rfl fun K hK => ?_
                go_simp
                refine (KT.o _ (over_trans HB3.o hHeld)).mono ?_
                rintro e W5 ⟨rfl,hb⟩
                have HH5 : Hx (Ov wr W5):=over_trans hHeld hb
                clear hb hHeld KT
                go_simp
                refine xK hK (HH5.o) fun hHeld => ?_
                clear hK K
                refine kO 6 ?_
                refine rdA 11 rfl fun K hK => ?_
                go_simp
                refine (KL.o _ (over_trans HB3.o hHeld)).mono ?_
                rintro e W6 ⟨rfl,hb⟩
                have HH6 : Hx (Ov wr W6):=over_trans hHeld hb
                clear hb hHeld KL
                go_simp
                refine xK hK (HH6.o) fun hHeld => ?_
                clear hK K
                refine kO 12 ?_
                refine kO 13 ?_
                refine kO 14 ?_
                refine gE ?_
                have HB6 : Hx (Ov w W6):=over_trans HB0.o (over_trans HB3.o HH6.o)
                clear hHeld n0 n1 n2 n3 n4 n5 n6 n7 n8 n9 n10 n11
                have hw1 : IntKind.i64.wrap (1 + r1) = 1 + r1:=by rw [IntKind.wrap_i64]; omega
                have hw2 : IntKind.i64.wrap (1 + r1 + r2) = 1 + r1 + r2:=by rw [IntKind.wrap_i64]; omega
                have hw3 : IntKind.i64.wrap (t + (1 + r1 + r2)) = t + (1 + r1 + r2):=by rw [IntKind.wrap_i64]; omega
                rw [hw1,hw2,hw3]
                clear hw1 hw2 hw3
                go_wp2_with fail
                exact ⟨⟨j + 1,t + (1 + r1 + r2),by omega,by go_num,rfl,by omega,by omega,HP.o,HB6.o⟩,by simp [intOf]; omega⟩
          · rw [csF_done ke _ _ _ (by omega)] at hp
            have HV : Hx (fin = min 51 t):=by show _ = _; rw [HFF.o,← hp]
            have HB:=hide hB
            clear hp hB hjl0
            by_cases h51 : 51 < t
            · have hv : fin = 51:=by rw [HV.o]; omega
              replace HV:=hide hv
              clear hv
              go_wp2_with fail
              go_ret
              exact ⟨by rw [HV.o]; rfl,HB.o⟩
            · have hv : fin = t:=by rw [HV.o]; omega
              replace HV:=hide hv
              clear hv
              go_wp2_with fail
              go_ret
              exact ⟨by rw [HV.o]; rfl,HB.o⟩
        · have hd : l.drop j = []:=List.drop_eq_nil_of_le (by have:=HN.o; omega)
          rw [hd] at hp
          have HV : Hx (fin = min 51 t):=by show _ = _; rw [HFF.o,← hp]; rfl
          have HB:=hide hB
          have hji : ¬ (j : Int) < (nn : Int):=by omega
          clear hp hB hd
          by_cases h51 : 51 < t
          · have hv : fin = 51:=by rw [HV.o]; omega
            replace HV:=hide hv
            clear hv
            go_wp2_with fail
            go_ret
            exact ⟨by rw [HV.o]; rfl,HB.o⟩
          · have hv : fin = t:=by rw [HV.o]; omega
            replace HV:=hide hv
            clear hv
            go_wp2_with fail
            go_ret
            exact ⟨by rw [HV.o]; rfl,HB.o⟩
    · have hl0 : l = []:=List.length_eq_zero_iff.1 (by have:=HN.o; omega)
      have hz : nn = 0:=by omega
      have hv : fin = 0:=by rw [HFF.o,HF.o,hl0]; rfl
      rw [hv,hz]
      exact count_nil ao cap w deep
set_option maxHeartbeats 4000000 in
set_option maxRecDepth 100000 in
theorem treeMany_c (ke kc : Nat) (ds l : List D) (v : Value) (w : World) (h : ZT w ke kc v ds l) : Ro 37 #[v] w (.bool (manyR ke kc ds l)):=by
  obtain ⟨ao,c,a2,c2,rfl,hD,hM⟩:=h
  obtain ⟨fin,hfin⟩:=nm (manyR ke kc ds l)
  rw [← hfin]
  unfold manyR at hfin
  have HD:=hide hD
  have HL:=hD.max
  obtain ⟨r0,hr0⟩:=nm (csK ke kc l 1)
  have hb0:=csK_bd ke kc l 1
  rw [← hr0] at hfin hb0
  have KM : Hx (∀ X,Ov w X→Ro 74 #[.slice a2 l.length c2,.int .i64 1] X (.int .i64 r0)):=fun X hX => by rw [hr0]; exact count_c ke kc l a2 c2 X 1 (lsC_over hX hM) (by omega) (by omega)
  obtain ⟨nn,hnn⟩:=nm ds.length
  rw [← hnn] at HL hfin ⊢
  have HN:=hide hnn
  clear hD hM hnn hr0
  generalize l.length = nl at KM ⊢
  obtain ⟨V,hV⟩:=nm (w.alloc (.cells #[.slice ao nn c,.slice a2 nl c2] 25))
  have HBV : Hx (Ov w V):=by show Ov _ _; rw [hV]; exact bA _ _
  have HRV : Hx (RowAt [.slice ao nn c,.slice a2 nl c2] V w.heap.size):=by show RowAt _ _ _; rw [hV]; exact al10 w [.slice ao nn c,.slice a2 nl c2] 25
  by_cases h30 : 30 < nn
  · have hi : (30 : Int) < (nn : Int):=by omega
    have HV : Hx (fin = true):=by show _ = _; rw [hfin]; simp [h30]
    clear hfin
    go_enter Tryz.func37,Tryz.ntmps37
    go_wp2_with fail
    go_ret
    exact ⟨by rw [HV.o]; rfl,by rw [← hV]; exact HBV.o⟩
  rw [decide_eq_false h30,Bool.false_or] at hfin
  have HF:=hide hfin
  have hi : ¬ (30 : Int) < (nn : Int):=by omega
  clear hfin
  go_enter Tryz.func37,Tryz.ntmps37
  go_wp2_with fail
  rw [← hV]
  clear hV
  refine (KM.o _ HBV.o).mono ?_
  rintro e W1 ⟨rfl,hb⟩
  have HBW : Hx (Ov w W1):=over_trans HBV.o hb
  have HRW:=hide (HRV.o.over hb)
  clear hb KM HBV HRV
  generalize w.heap.size = bt at HRW ⊢
  obtain ⟨s0,s1⟩:=rc2 HRW.o
  go_wp2_with fail
  clear s0 s1
  go_loopw [3,4] (fun c i wr => ∃ (j : Nat) (t : Int),j≤nn∧i = .int .i64 j∧c = .int .i64 t∧0≤t∧t≤51 + 51 * j∧((ds.drop j).any (muchD ke) || decide (50 < (ds.drop j).foldl (fun n d => n + csK ke kc (gL 7 d) 1) t)) = fin∧Ov W1 wr) (fun _ i _ => nn - (intOf i).toNat)
  case atStart => exact ⟨0,r0,Nat.zero_le _,rfl,rfl,by omega,by omega,HF.o.symm,Below.refl _ _⟩
  case round =>
    obtain ⟨j,t,hj,rfl,rfl,t1,t2,hp,hB⟩:=hrel
    obtain ⟨s0,s1⟩:=rc2 (HRW.o.over hB)
    by_cases hjl : j < nn
    · have hjl0 : j < ds.length:=by have:=HN.o; omega
      have hji : (j : Int) < (nn : Int):=by omega
      obtain ⟨b,off,rfl,cs,hl12,hcs,hr⟩:=HD.o.at hjl0
      rw [List.drop_eq_getElem_cons hjl0,List.any_cons,List.foldl_cons] at hp
      generalize ds[j] = dj at hp hr
      have hB0 : Ov w wr:=over_trans HBW.o hB
      obtain ⟨kd,a,x,y,gv,aL,cL,lb,aP,cP,ps,aB,cB,body,e0,e1,e2,e3,q,q1,q2,r,rfl,rfl,-,-,hLb,hPs,hBo,hR⟩:=hr
      simp only [gDd] at hp
      obtain ⟨r1,hr1⟩:=nm (csK ke kc body 1)
      have hb1:=csK_bd ke kc body 1
      rw [← hr1] at hp hb1
      have KB : Hx (∀ X,Ov wr X→Ro 74 #[.slice aB body.length cB,.int .i64 1] X (.int .i64 r1)):=fun X hX => by rw [hr1]; exact count_c ke kc body aB cB X 1 (lsC_over hX (lsC_over hB0 hBo)) (by omega) (by omega)
      obtain ⟨qm,hqm⟩:=nm (muchD ke (deD kd a x y gv lb ps body r))
      rw [← hqm] at hp
      have hm2 : qm = (decide (4 < lb.length) || decide (4 < ps.length) || decide (15 < poK ke r 15) || lb.any (fun p => decide (6 < (gL 3 p).length))):=by rw [hqm]; unfold muchD; simp only [gDd,List.length_map]; rw [longE_po ke r]
      obtain ⟨re,hre⟩:=nm (poK ke r 15)
      obtain ⟨qn,hqn⟩:=nm (lb.any (fun p => decide (6 < (gL 3 p).length)))
      rw [← hre,← hqn] at hm2
      have KP : Hx (∀ X,Ov wr X→Ro 75 #[.agg #[.int .i64 e0,.int .i64 e1,.int .i64 e2,.string e3,.slice q q1 q2],.int .i64 15] X (.int .i64 re)):=fun X hX => by rw [hre]; exact partsOf_c ke _ r X 15 ((hR.over hB0).over hX) (by omega) (by omega)
      have HLL:=hLb.max
      have HLP:=hPs.max
      have HAA:=hide (lsP_over hB0 hLb)
      have HQN:=hide hqn
      have d0 : wr.cell? ⟨b,off + j * 13,none⟩ = _:=ce1 hB0 (hcs 0 _ rfl)
      have d1:=ce1 hB0 (hcs 1 _ rfl)
      have d2:=ce1 hB0 (hcs 2 _ rfl)
      have d3:=ce1 hB0 (hcs 3 _ rfl)
      have d4:=ce1 hB0 (hcs 4 _ rfl)
      have d5:=ce1 hB0 (hcs 5 _ rfl)
      have d6:=ce1 hB0 (hcs 6 _ rfl)
      have d7:=ce1 hB0 (hcs 7 _ rfl)
      have d8:=ce1 hB0 (hcs 8 _ rfl)
      have d9:=ce1 hB0 (hcs 9 _ rfl)
      have d10:=ce1 hB0 (hcs 10 _ rfl)
      have d11:=ce1 hB0 (hcs 11 _ rfl)
      have d12:=ce1 hB0 (hcs 12 _ rfl)
      have HB:=hide hB
      have HP:=hide hp
      obtain ⟨nL,hnL⟩:=nm lb.length
      rw [← hnL] at d5 HLL hm2
      have HNL:=hide hnL
      have HM:=hide hm2
      clear hcs hl12 hB hjl0 hBo hqm hm2 hre hqn hB0 hr1 hp hLb hPs hR hnL
      generalize ps.length = nP at HLP HM d6
      generalize body.length = nB at KB d7
      have HRB : Hx (RowAt [.int .i64 kd,.int .i64 a,.string x,.string y,.bool gv,.slice aL nL cL,.slice aP nP cP,.slice aB nB cB,.int .i64 e0,.int .i64 e1,.int .i64 e2,.string e3,.slice q q1 q2] (wr.alloc (.cells #[.int .i64 kd,.int .i64 a,.string x,.string y,.bool gv,.slice aL nL cL,.slice aP nP cP,.slice aB nB cB,.int .i64 e0,.int .i64 e1,.int .i64 e2,.string e3,.slice q q1 q2] 51)) wr.heap.size):=al10 wr [.int .i64 kd,.int .i64 a,.string x,.string y,.bool gv,.slice aL nL cL,.slice aP nP cP,.slice aB nB cB,.int .i64 e0,.int .i64 e1,.int .i64 e2,.string e3,.slice q q1 q2] 51
      by_cases h4 : 4 < nL
      · have HV : Hx (fin = true):=by have h:=HP.o; rw [show qm = true by have h:=HM.o; simp [h4] at h; exact h] at h; simp at h; exact h
        have hi4 : (4 : Int) < (nL : Int):=by omega
        go_wp2_with fail
        go_ret
        exact ⟨by rw [HV.o]; rfl,over_trans HBW.o (over_trans HB.o (bA _ _))⟩
      have hi4 : ¬ (4 : Int) < (nL : Int):=by omega
      by_cases h5 : 4 < nP
      · have HV : Hx (fin = true):=by have h:=HP.o; rw [show qm = true by have h:=HM.o; simp [h5] at h; exact h] at h; simp at h; exact h
        have hi5 : (4 : Int) < (nP : Int):=by omega
        go_wp2_with fail
        go_ret
        exact ⟨by rw [HV.o]; rfl,over_trans HBW.o (over_trans HB.o (bA _ _))⟩
      have hi5 : ¬ (4 : Int) < (nP : Int):=by omega
      go_wp2_with fail
      refine (KP.o _ (bA _ _)).mono ?_
      rintro e W2 ⟨rfl,hb⟩
      have HB2 : Hx (Ov wr W2):=over_trans (bA _ _) hb
      have HR2 : Hx (RowAt [.int .i64 kd,.int .i64 a,.string x,.string y,.bool gv,.slice aL nL cL,.slice aP nP cP,.slice aB nB cB,.int .i64 e0,.int .i64 e1,.int .i64 e2,.string e3,.slice q q1 q2] W2 wr.heap.size):=HRB.o.over hb
      have HRX:=hide ((HRW.o.over HB.o).over HB2.o)
      clear hb d0 d1 d2 d3 d4 d5 d6 d7 d8 d9 d10 d11 d12 KP HRB s0 s1
      generalize wr.heap.size = bq at HR2 ⊢
      obtain ⟨n0,n1,n2,n3,n4,n5,n6,n7,n8,n9,n10,n11,n12⟩:=rc13 HR2.o
      by_cases h15 : 15 < re
      · have HV : Hx (fin = true):=by have h:=HP.o; rw [show qm = true by have h:=HM.o; simp [h15] at h; exact h] at h; simp at h; exact h
        go_wp2_with fail
        go_ret
        exact ⟨by rw [HV.o]; rfl,over_trans HBW.o (over_trans HB.o HB2.o)⟩
      have hmn : qm = qn:=by have h:=HM.o; simp [h15,h4,h5] at h; exact h
      replace HM:=hide hmn
      clear hmn
      go_wp2_with fail
      clear n0 n1 n2 n3 n4 n5 n6 n7 n8 n9 n10 n11 n12
      go_loopw [6] (fun i ws => ∃ (i2 : Nat),i2≤nL∧i = .int .i64 i2∧(lb.drop i2).any (fun p => decide (6 < (gL 3 p).length)) = qn∧ws = W2) (fun i _ => nL - (intOf i).toNat)
      case atStart => exact ⟨0,Nat.zero_le _,rfl,HQN.o.symm,rfl⟩
      case round =>
        obtain ⟨i,hi2,rfl,hpa,rfl⟩:=hrel
        obtain ⟨n0,n1,n2,n3,n4,n5,n6,n7,n8,n9,n10,n11,n12⟩:=rc13 HR2.o
        by_cases hil : i < nL
        · have hil0 : i < lb.length:=by have:=HNL.o; omega
          have hii : (i : Int) < (nL : Int):=by omega
          obtain ⟨ba,oa,rfl,ca,hl4,hca,hra⟩:=HAA.o.at hil0
          rw [List.drop_eq_getElem_cons hil0,List.any_cons] at hpa
          generalize lb[i] = da at hpa hra
          have hB3:=HB2.o
          obtain ⟨pa,po,pw,pn,pc,ns,rfl,rfl,-,hN⟩:=hra
          simp only [gPp,List.length_map] at hpa
          have HLN:=hN.max
          have z3:=ce1 hB3 (hca 3 _ rfl)
          generalize ns.length = nN at z3 hpa HLN
          have HPA:=hide hpa
          clear hpa hB3 hca hl4 hil0 hN
          by_cases hn6 : 6 < nN
          · have hqn : qn = true:=by have h:=HPA.o; simp [hn6] at h; exact h
            subst hqn
            have HV : Hx (fin = true):=by have h:=HP.o; rw [HM.o] at h; simp at h; exact h
            have hi6 : (6 : Int) < (nN : Int):=by omega
            go_wp2_with fail
            go_ret
            exact ⟨by rw [HV.o]; rfl,over_trans HBW.o (over_trans HB.o HB2.o)⟩
          · have hqn : (lb.drop (i + 1)).any (fun p => decide (6 < (gL 3 p).length)) = qn:=by have h:=HPA.o; rw [decide_eq_false hn6,Bool.false_or] at h; exact h
            replace HPA:=hide hqn
            have hi6 : ¬ (6 : Int) < (nN : Int):=by omega
            clear hqn
            go_wp2_with fail
            exact ⟨⟨i + 1,by omega,by go_num,HPA.o,by trivial⟩,by simp [intOf]; omega⟩
        · have hd : lb.drop i = []:=List.drop_eq_nil_of_le (by have:=HNL.o; omega)
          have hii : ¬ (i : Int) < (nL : Int):=by omega
          rw [hd] at hpa
          have hqn : qn = false:=by rw [← hpa]; rfl
          subst hqn
          have hp:=HP.o
          rw [HM.o,Bool.false_or] at hp
          replace HP:=hide hp
          clear hp hd hpa
          go_wp2_with fail
          refine (KB.o _ HB2.o).mono ?_
          rintro e W3 ⟨rfl,hb⟩
          have HB3:=hide (over_trans HB.o (over_trans HB2.o hb))
          clear hb n0 n1 n2 n3 n4 n5 n6 n7 n8 n9 n10 n11 n12 KB
          go_wp2_with fail
          exact ⟨⟨j + 1,t + r1,by omega,by go_num,by go_num,by omega,by omega,HP.o,HB3.o⟩,by simp [intOf]; omega⟩
    · have hd : ds.drop j = []:=List.drop_eq_nil_of_le (by have:=HN.o; omega)
      have hji : ¬ (j : Int) < (nn : Int):=by omega
      rw [hd] at hp
      have HV : Hx (fin = decide (50 < t)):=by show _ = _; rw [← hp]; rfl
      have HB:=hide hB
      clear hp hd hB
      go_wp2_with fail
      go_ret
      exact ⟨by rw [HV.o]; rfl,over_trans HBW.o HB.o⟩
set_option maxHeartbeats 4000000 in
set_option maxRecDepth 100000 in
theorem isDecl_out (kd a : Int) (x y : ByteArray) (gv : Bool) (aL : Option Addr) (nL cL : Nat) (aP : Option Addr) (nP cP : Nat) (aB : Option Addr) (nB cB : Nat) (e0 e1 e2 : Int) (e3 : ByteArray) (q : Option Addr) (q1 q2 : Nat) (w : World) (hk : ¬ (1≤kd∧kd≤7)) : Ro 38 #[.agg #[.int .i64 kd,.int .i64 a,.string x,.string y,.bool gv,.slice aL nL cL,.slice aP nP cP,.slice aB nB cB,.int .i64 e0,.int .i64 e1,.int .i64 e2,.string e3,.slice q q1 q2]] w (.bool false):=by
  have KB : Hx (∀ X,Ov w X→Ro 76 #[.int .i64 kd,.int .i64 1,.int .i64 7] X (.bool false)):=fun X _ => by
    have h:=between_c kd 1 7 X
    rw [show (decide (1≤kd) && decide (kd≤7)) = false by simp; omega] at h
    exact h
  clear hk
  go_enter Tryz.func38,Tryz.ntmps38
  go_wp2_with fail
  refine (KB.o _ (bA w (.cells #[.int .i64 kd,.int .i64 a,.string x,.string y,.bool gv,.slice aL nL cL,.slice aP nP cP,.slice aB nB cB,.int .i64 e0,.int .i64 e1,.int .i64 e2,.string e3,.slice q q1 q2] 51))).mono ?_
  rintro e w1 ⟨rfl,hb⟩
  have HB1 : Hx (Ov w w1):=over_trans (bA w (.cells #[.int .i64 kd,.int .i64 a,.string x,.string y,.bool gv,.slice aL nL cL,.slice aP nP cP,.slice aB nB cB,.int .i64 e0,.int .i64 e1,.int .i64 e2,.string e3,.slice q q1 q2] 51)) hb
  have HR0_1 : Hx (RowAt [.int .i64 kd,.int .i64 a,.string x,.string y,.bool gv,.slice aL nL cL,.slice aP nP cP,.slice aB nB cB,.int .i64 e0,.int .i64 e1,.int .i64 e2,.string e3,.slice q q1 q2] w1 w.heap.size):=RowAt.over (al10 w [.int .i64 kd,.int .i64 a,.string x,.string y,.bool gv,.slice aL nL cL,.slice aP nP cP,.slice aB nB cB,.int .i64 e0,.int .i64 e1,.int .i64 e2,.string e3,.slice q q1 q2] 51) hb
  clear hb  KB
  obtain ⟨m0x0,m0x1,m0x2,m0x3,m0x4,m0x5,m0x6,m0x7,m0x8,m0x9,m0x10,m0x11,m0x12⟩:=rc13 HR0_1.o
  go_wp2_with fail
  go_ret
  exact ⟨rfl,HB1.o⟩
theorem isDecl_c (ke kc : Nat) (cs : List Value) (d : D) (w : World) (h : ZD w ke kc cs d) : Ro 38 #[.agg cs.toArray] w (.bool (dfK ke kc d)):=by
  obtain ⟨kd,a,x,y,gv,aL,cL,lb,aP,cP,ps,aB,cB,body,e0,e1,e2,e3,q,q1,q2,r,rfl,rfl,hx,hy,hL,hP,hB,hR⟩:=h
  by_cases hk : 1≤kd∧kd≤7
  · have h7 : kd = 1∨kd = 2∨kd = 3∨kd = 4∨kd = 5∨kd = 6∨kd = 7:=by omega
    clear hk
    rcases h7 with rfl | rfl | rfl | rfl | rfl | rfl | rfl <;> cases gv
    · exact isDecl_1f ke kc a x y aL cL lb aP cP ps aB cB body e0 e1 e2 e3 q q1 q2 r w hx hy hL hP hB hR
    · exact isDecl_1t ke kc a x y aL cL lb aP cP ps aB cB body e0 e1 e2 e3 q q1 q2 r w hx hy hL hP hB hR
    · exact isDecl_2f ke kc a x y aL cL lb aP cP ps aB cB body e0 e1 e2 e3 q q1 q2 r w hx hy hL hP hB hR
    · exact isDecl_2t ke kc a x y aL cL lb aP cP ps aB cB body e0 e1 e2 e3 q q1 q2 r w hx hy hL hP hB hR
    · exact isDecl_3f ke kc a x y aL cL lb aP cP ps aB cB body e0 e1 e2 e3 q q1 q2 r w hx hy hL hP hB hR
    · exact isDecl_3t ke kc a x y aL cL lb aP cP ps aB cB body e0 e1 e2 e3 q q1 q2 r w hx hy hL hP hB hR
    · exact isDecl_4f ke kc a x y aL cL lb aP cP ps aB cB body e0 e1 e2 e3 q q1 q2 r w hx hy hL hP hB hR
    · exact isDecl_4t ke kc a x y aL cL lb aP cP ps aB cB body e0 e1 e2 e3 q q1 q2 r w hx hy hL hP hB hR
    · exact isDecl_5f ke kc a x y aL cL lb aP cP ps aB cB body e0 e1 e2 e3 q q1 q2 r w hx hy hL hP hB hR
    · exact isDecl_5t ke kc a x y aL cL lb aP cP ps aB cB body e0 e1 e2 e3 q q1 q2 r w hx hy hL hP hB hR
    · exact isDecl_6f ke kc a x y aL cL lb aP cP ps aB cB body e0 e1 e2 e3 q q1 q2 r w hx hy hL hP hB hR
    · exact isDecl_6t ke kc a x y aL cL lb aP cP ps aB cB body e0 e1 e2 e3 q q1 q2 r w hx hy hL hP hB hR
    · exact isDecl_7f ke kc a x y aL cL lb aP cP ps aB cB body e0 e1 e2 e3 q q1 q2 r w hx hy hL hP hB hR
    · exact isDecl_7t ke kc a x y aL cL lb aP cP ps aB cB body e0 e1 e2 e3 q q1 q2 r w hx hy hL hP hB hR
  · have hf : dfK ke kc (deD kd a x y gv lb ps body r) = false:=by
      unfold dfK
      simp only [gDd]
      rw [show (decide (1≤kd) && decide (kd≤7)) = false by simp; omega]
      simp
    rw [hf]
    exact isDecl_out kd a x y gv aL _ cL aP _ cP aB _ cB e0 e1 e2 e3 q q1 q2 w hk
set_option maxHeartbeats 4000000 in
set_option maxRecDepth 100000 in
/-- CheckTree of any tree. -/
theorem checkTree_c (ke kc : Nat) (ds l : List D) (v : Value) (w : World) (h : ZT w ke kc v ds l) : Ro 15 #[v] w (.int .i64 (ckT ke kc ds l)):=by
  have KM0 : Hx (∀ X,Ov w X→Ro 37 #[v] X (.bool (manyP ke kc ds l))):=fun X hX => by rw [many_eq]; exact treeMany_c ke kc ds l v X (h.over hX)
  obtain ⟨ao,c,a2,c2,rfl,hD,hM⟩:=h
  obtain ⟨fin,hfin⟩:=nm (ckT ke kc ds l)
  rw [← hfin]
  unfold ckT at hfin
  obtain ⟨qm,hqm⟩:=nm (manyP ke kc ds l)
  obtain ⟨qd,hqd⟩:=nm (ds.all (dfK ke kc))
  obtain ⟨ql,hql⟩:=nm (l.all (sfK ke kc))
  rw [← hqm,← hqd,← hql] at hfin
  have HF:=hide hfin
  have HQD:=hide hqd
  have KM : Hx (∀ X,Ov w X→Ro 37 #[.agg #[.slice ao ds.length c,.slice a2 l.length c2]] X (.bool qm)):=by rw [hqm]; exact KM0
  have KL : Hx (∀ X,Ov w X→Ro 39 #[.slice a2 l.length c2] X (.bool ql)):=fun X hX => by rw [hql]; exact areStmts_c ke kc l a2 c2 X (lsC_over hX hM)
  have HD:=hide hD
  have HL:=hD.max
  obtain ⟨nn,hnn⟩:=nm ds.length
  rw [← hnn] at KM HL ⊢
  have HN:=hide hnn
  clear hfin hqm hqd hql hD hM KM0 hnn
  generalize l.length = nl at KM KL ⊢
  go_enter Tryz.func15,Tryz.ntmps15
  go_wp2_with fail
  refine (KM.o _ (bA _ _)).mono ?_
  rintro e W1 ⟨rfl,hb⟩
  have HBW : Hx (Ov w W1):=over_trans (bA _ _) hb
  have HRW : Hx (RowAt [.slice ao nn c,.slice a2 nl c2] W1 w.heap.size):=RowAt.over (al10 w [.slice ao nn c,.slice a2 nl c2] 25) hb
  clear hb KM
  generalize w.heap.size = bt at HRW ⊢
  obtain ⟨s0,s1⟩:=rc2 HRW.o
  cases qm with
  | true =>
    have HV : Hx (fin = 2):=by have h:=HF.o; simp at h; exact h
    go_wp2_with fail
    go_ret
    exact ⟨by rw [HV.o]; rfl,HBW.o⟩
  | false =>
    go_wp2_with fail
    clear s0 s1
    go_loopw [3] (fun i wr => ∃ (j : Nat),j≤nn∧i = .int .i64 j∧(ds.drop j).all (dfK ke kc) = qd∧Ov W1 wr) (fun i _ => nn - (intOf i).toNat)
    case atStart => exact ⟨0,Nat.zero_le _,rfl,HQD.o.symm,Below.refl _ _⟩
    case round =>
      obtain ⟨j,hj,rfl,hp,hB⟩:=hrel
      obtain ⟨s0,s1⟩:=rc2 (HRW.o.over hB)
      by_cases hjl : j < nn
      · have hjl0 : j < ds.length:=by have:=HN.o; omega
        have hji : (j : Int) < (nn : Int):=by omega
        obtain ⟨b,off,rfl,cs,hl12,hcs,hr⟩:=HD.o.at hjl0
        rw [List.drop_eq_getElem_cons hjl0,List.all_cons] at hp
        generalize ds[j] = dj at hp hr
        have hB0 : Ov w wr:=over_trans HBW.o hB
        obtain ⟨q9,hq9⟩:=nm (dfK ke kc dj)
        rw [← hq9] at hp
        have KC : Hx (∀ X,Ov wr X→Ro 38 #[.agg cs.toArray] X (.bool q9)):=fun X hX => by rw [hq9]; exact isDecl_c ke kc cs dj X ((hr.over hB0).over hX)
        obtain ⟨kd0,a0,x0,y0,g0,l0,l1,l2,p0,p1,p2,b0,b1,b2,e0,e1,e2,e3,q0,q1,q2,rfl⟩:=hr.cells
        have d0 : wr.cell? ⟨b,off + j * 13,none⟩ = _:=ce1 hB0 (hcs 0 _ rfl)
        have d1:=ce1 hB0 (hcs 1 _ rfl)
        have d2:=ce1 hB0 (hcs 2 _ rfl)
        have d3:=ce1 hB0 (hcs 3 _ rfl)
        have d4:=ce1 hB0 (hcs 4 _ rfl)
        have d5:=ce1 hB0 (hcs 5 _ rfl)
        have d6:=ce1 hB0 (hcs 6 _ rfl)
        have d7:=ce1 hB0 (hcs 7 _ rfl)
        have d8:=ce1 hB0 (hcs 8 _ rfl)
        have d9:=ce1 hB0 (hcs 9 _ rfl)
        have d10:=ce1 hB0 (hcs 10 _ rfl)
        have d11:=ce1 hB0 (hcs 11 _ rfl)
        have d12:=ce1 hB0 (hcs 12 _ rfl)
        have HP:=hide hp
        have HB:=hide hB
        clear hp hB hcs hl12 hr hq9 hjl0 hB0
        go_wp2_with fail
        refine (KC.o _ (Below.refl _ _)).mono ?_
        rintro e W2 ⟨rfl,hb⟩
        have HB2:=hide (over_trans HB.o hb)
        clear hb KC d0 d1 d2 d3 d4 d5 d6 d7 d8 d9 d10 d11 d12 s0 s1
        cases q9 with
        | true =>
          have hp:=HP.o
          rw [Bool.true_and] at hp
          replace HP:=hide hp
          clear hp
          go_wp2_with fail
          exact ⟨⟨j + 1,by omega,by go_num,HP.o,HB2.o⟩,by simp [intOf]; omega⟩
        | false =>
          have hp:=HP.o
          rw [Bool.false_and] at hp
          subst hp
          have HV : Hx (fin = 1):=by have h:=HF.o; simp at h; exact h
          go_wp2_with fail
          go_ret
          exact ⟨by rw [HV.o]; rfl,over_trans HBW.o HB2.o⟩
      · have hd : ds.drop j = []:=List.drop_eq_nil_of_le (by have:=HN.o; omega)
        have hji : ¬ (j : Int) < (nn : Int):=by omega
        rw [hd] at hp
        have hqd : true = qd:=by rw [← hp]; rfl
        subst hqd
        have HB:=hide (over_trans HBW.o hB)
        clear hp hd hB HQD
        go_wp2_with fail
        refine (KL.o _ HB.o).mono ?_
        rintro e W2 ⟨rfl,hb⟩
        have HB2:=hide (over_trans HB.o hb)
        clear hb KL s0 s1
        cases ql with
        | true =>
          have HV : Hx (fin = 0):=by have h:=HF.o; simp at h; exact h
          go_wp2_with fail
          go_ret
          exact ⟨by rw [HV.o]; rfl,HB2.o⟩
        | false =>
          have HV : Hx (fin = 1):=by have h:=HF.o; simp at h; exact h
          go_wp2_with fail
          go_ret
          exact ⟨by rw [HV.o]; rfl,HB2.o⟩
set_option maxHeartbeats 4000000 in
set_option maxRecDepth 100000 in
theorem treeChecks_any (ke kc : Nat) (ds l : List D) (v : Value) (w : World) (h : ZT w ke kc v ds l) : Ro 4 #[v] w (.bool true):=by
  obtain ⟨ck,hck⟩:=nm (ckT ke kc ds l)
  have KC0 : Hx (∀ X,Ov w X→Ro 14 #[v] X (.int .i64 ck)):=fun X hX => by rw [hck]; exact check_c ke kc ds l v X (h.over hX)
  have KT0 : Hx (∀ X,Ov w X→Ro 15 #[v] X (.int .i64 ck)):=fun X hX => by rw [hck]; exact checkTree_c ke kc ds l v X (h.over hX)
  obtain ⟨ao,c,a2,c2,rfl,-,-⟩:=h
  generalize ds.length = nd at KC0 KT0 ⊢
  generalize l.length = nl at KC0 KT0 ⊢
  have KC:=KC0
  have KT:=KT0
  obtain ⟨V,hV⟩:=nm (w.alloc (.cells #[.slice ao nd c,.slice a2 nl c2] 25))
  obtain ⟨bt,hbt⟩:=nm w.heap.size
  have HBV : Hx (Ov w V):=by show Ov _ _; rw [hV]; exact bA _ _
  have hRV : RowAt [.slice ao nd c,.slice a2 nl c2] V bt:=by rw [hV,hbt]; exact al10 w [.slice ao nd c,.slice a2 nl c2] 25
  obtain ⟨m0,m1⟩:=rc2 hRV
  clear hck KC0 KT0 hRV
  go_enter Tryz.func4,Tryz.ntmps4
  go_wp2_with fail
  rw [← hV,← hbt]
  clear hV hbt
  refine Go.Proofs.YtipngnjffjajpaaGreatDoor.gS (fun Wz => Below V.heap.size V Wz) (Below.refl _ _).drew fun hHeld => ?_
  generalize V.drew = W at hHeld ⊢
  refine rdA 0 rfl fun K hK => ?_
  go_simp
  refine (treeBegun_c _).mono ?_
  rintro e W2 ⟨rfl,hb⟩
  have HH2 : Hx (Ov V W2):=over_trans hHeld hb
  clear hb hHeld
  go_simp
  refine xK hK (HH2.o) fun hHeld => ?_
  clear hK K
  refine kO 1 ?_
  refine kO 2 ?_
  refine kO 4 ?_
  refine rdA 3 rfl fun K hK => ?_
  go_simp
  refine (KC.o _ (over_trans HBV.o hHeld)).mono ?_
  rintro e W3 ⟨rfl,hb⟩
  have HH3 : Hx (Ov V W3):=over_trans hHeld hb
  clear hb hHeld KC
  go_simp
  refine xK hK (HH3.o) fun hHeld => ?_
  clear hK K
  refine rdA 5 rfl fun K hK => ?_
  go_simp
  refine (KT.o _ (over_trans HBV.o hHeld)).mono ?_
  rintro e W4 ⟨rfl,hb⟩
  have HH4 : Hx (Ov V W4):=over_trans hHeld hb
  clear hb hHeld KT
  go_simp
  refine xK hK (HH4.o) fun hHeld => ?_
  clear hK K
  refine kO 6 ?_
  refine kO 7 ?_
  refine kO 8 ?_
  refine gE ?_
  clear hHeld
  go_wp2_with fail
  go_ret
  exact ⟨by simp,over_trans HBV.o HH4.o⟩
end Go.Proofs.YtipngnjffjajpaaGreatDoor.Tx
