/- The document's answer: how many commands. -/
import Derived.Test.YtipngnjffjajpaaGreatDoorF27
namespace Go.Proofs.YtipngnjffjajpaaGreatDoor.Tx
open Go.RowKit
set_option linter.unusedVariables false
theorem longE_po (ke : Nat) (d : D) : longE ke d = decide (15 < poK ke d 15):=by
  unfold longE
  rw [plK_po ke d 15 (by omega),decide_eq_decide]
  omega
theorem csF_step (ke : Nat) (rec : List D→Int) (t : Int) (s : D) (h : t≤50) : csF ke rec (t,false) s = if muchS ke s = true then (51,true) else (t + 1 + rec (gL 6 s) + rec (gL 7 s),false):=by
  unfold csF
  rw [if_neg (by simp; omega)]
theorem csF_51 (ke : Nat) (rec : List D→Int) : ∀ (l : List D),(l.foldl (csF ke rec) (51,true)).1 = 51
  | [] => rfl
  | a :: l => by
    rw [List.foldl_cons]
    have : csF ke rec (51,true) a = (51,true):=by unfold csF; rw [if_pos (Or.inl rfl)]
    rw [this]
    exact csF_51 ke rec l
theorem csF_done (ke : Nat) (rec : List D→Int) : ∀ (l : List D) (t : Int),50 < t→(l.foldl (csF ke rec) (t,false)).1 = t
  | [],t,h => rfl
  | a :: l,t,h => by
    rw [List.foldl_cons]
    have : csF ke rec (t,false) a = (t,false):=by unfold csF; rw [if_pos (Or.inr h)]
    rw [this]
    exact csF_done ke rec l t h
set_option maxHeartbeats 2000000 in
theorem count_nil (ao : Option Addr) (cap : Nat) (w : World) (deep : Int) : Ro 74 #[.slice ao 0 cap,.int .i64 deep] w (.int .i64 0):=by
  go_enter Tryz.func74,Tryz.ntmps74
  go_wp2_with fail
  go_loopw [5,6] (fun c i wr => c = .int .i64 0∧i = .int .i64 0∧wr = w) (fun _ _ _ => 0)
  case atStart => exact ⟨rfl,rfl,rfl⟩
  case round =>
    obtain ⟨rfl,rfl,rfl⟩:=hrel
    go_wp2_with fail
    go_ret
    exact ⟨rfl,Below.refl _ _⟩
set_option maxHeartbeats 4000000 in
set_option maxRecDepth 100000 in
theorem count_c (ke : Nat) : ∀ (k : Nat) (l : List D) (ao : Option Addr) (cap : Nat) (w : World) (deep : Int),LS 12 (ZC w ke k) w (.slice ao l.length cap) l→1≤deep→deep≤7→Ro 74 #[.slice ao l.length cap,.int .i64 deep] w (.int .i64 (csK ke k l deep)):=by
  intro k
  induction k with
  | zero =>
    intro l ao cap w deep hc _ _
    have hl : l = []:=by
      cases l with
      | nil => rfl
      | cons a l =>
        obtain ⟨b,off,-,cs,-,-,hr⟩:=hc.at (j:=0) (by simp)
        exact hr.elim
    subst hl
    exact count_nil ao cap w deep
  | succ k ih =>
    intro l ao cap w deep hc g1 g2
    have HC:=hide hc
    have IH:=hide ih
    have HL:=hc.max
    obtain ⟨fin,hfin⟩:=nm (csK ke (k + 1) l deep)
    rw [← hfin]
    have hspec : fin = if l≠[]∧6 < deep then 51 else min 51 (l.foldl (csF ke (fun l => csK ke k l (deep + 1))) (0,false)).1:=by rw [hfin]; rfl
    have hne : (l≠[]) = (0 < l.length):=by rw [List.length_pos_iff]
    simp only [hne] at hspec
    obtain ⟨nn,hnn⟩:=nm l.length
    rw [← hnn] at HL hspec ⊢
    have HN:=hide hnn
    clear hc ih hfin hnn hne
    by_cases h6 : 0 < nn∧6 < deep
    · rw [if_pos h6] at hspec
      obtain ⟨h7,h8⟩:=h6
      have hi : (0 : Int) < (nn : Int):=by omega
      have HV:=hide hspec
      clear hspec
      go_enter Tryz.func74,Tryz.ntmps74
      go_wp2_with fail
      go_ret
      exact ⟨by rw [HV.o]; rfl,Below.refl _ _⟩
    rw [if_neg h6] at hspec
    obtain ⟨F,hF⟩:=nm (l.foldl (csF ke (fun l => csK ke k l (deep + 1))) (0,false)).1
    rw [← hF] at hspec
    have HFF:=hide hspec
    have HF:=hide hF
    have H6:=hide h6
    clear hspec hF h6
    by_cases h0 : 0 < nn
    · have hi0 : (0 : Int) < (nn : Int):=by omega
      have h66 : ¬ 6 < deep:=fun h => H6.o ⟨h0,h⟩
      clear H6
      go_enter Tryz.func74,Tryz.ntmps74
      go_wp2_with fail
      go_loopw [5,6] (fun c i wr => ∃ (j : Nat) (t : Int),j≤nn∧i = .int .i64 j∧c = .int .i64 t∧0≤t∧t≤200∧((l.drop j).foldl (csF ke (fun l => csK ke k l (deep + 1))) (t,false)).1 = F∧Ov w wr) (fun _ i _ => nn - (intOf i).toNat)
      case atStart => exact ⟨0,0,Nat.zero_le _,rfl,rfl,by omega,by omega,HF.o.symm,Below.refl _ _⟩
      case round =>
        obtain ⟨j,t,hj,rfl,rfl,t1,t2,hp,hB⟩:=hrel
        by_cases hjl : j < nn
        · have hjl0 : j < l.length:=by have:=HN.o; omega
          have hji : (j : Int) < (nn : Int):=by omega
          by_cases ht0 : t≤50
          · obtain ⟨b,off,rfl,cs,hl12,hcs,hr⟩:=HC.o.at hjl0
            rw [foldl_drop hjl0,csF_step ke _ t _ ht0] at hp
            generalize l[j] = dj at hp hr
            obtain ⟨kd,a,x,y,e0,e1,e2,e3,q,q1,q2,e,aA,cA,args,aT,cT,th,aE,cE,el,rfl,rfl,-,-,he,hA,hT,hE⟩:=hr
            simp only [gSs] at hp
            have d0 : wr.cell? ⟨b,off + j * 12,none⟩ = _:=ce1 hB (hcs 0 _ rfl)
            have d1:=ce1 hB (hcs 1 _ rfl)
            have d2:=ce1 hB (hcs 2 _ rfl)
            have d3:=ce1 hB (hcs 3 _ rfl)
            have d4:=ce1 hB (hcs 4 _ rfl)
            have d5:=ce1 hB (hcs 5 _ rfl)
            have d6:=ce1 hB (hcs 6 _ rfl)
            have d7:=ce1 hB (hcs 7 _ rfl)
            have d8:=ce1 hB (hcs 8 _ rfl)
            have d9:=ce1 hB (hcs 9 _ rfl)
            have d10:=ce1 hB (hcs 10 _ rfl)
            have d11:=ce1 hB (hcs 11 _ rfl)
            obtain ⟨qm,hqm⟩:=nm (muchS ke (stD kd a x y e args th el))
            rw [← hqm] at hp
            have hm2 : qm = (decide (4 < args.length) || decide (15 < poK ke e 15) || args.any (longE ke)):=by rw [hqm]; unfold muchS; simp only [gSs]; rw [longE_po ke e]
            obtain ⟨re,hre⟩:=nm (poK ke e 15)
            obtain ⟨qn,hqn⟩:=nm (args.any (longE ke))
            rw [← hre,← hqn] at hm2
            have hbe:=poK_bd ke e 15 (by omega)
            rw [← hre] at hbe
            obtain ⟨r1,hr1⟩:=nm (csK ke k th (deep + 1))
            obtain ⟨r2,hr2⟩:=nm (csK ke k el (deep + 1))
            have hb1:=csK_bd ke k th (deep + 1)
            have hb2:=csK_bd ke k el (deep + 1)
            rw [← hr1] at hb1 hp
            rw [← hr2] at hb2 hp
            have KP : Hx (∀ X,Ov wr X→Ro 75 #[.agg #[.int .i64 e0,.int .i64 e1,.int .i64 e2,.string e3,.slice q q1 q2],.int .i64 15] X (.int .i64 re)):=fun X hX => by rw [hre]; exact partsOf_c ke _ e X 15 ((he.over hB).over hX) (by omega) (by omega)
            have hwd : IntKind.i64.wrap (deep + 1) = deep + 1:=by rw [IntKind.wrap_i64]; omega
            have KT : Hx (∀ X,Ov wr X→Ro 74 #[.slice aT th.length cT,.int .i64 (IntKind.i64.wrap (deep + 1))] X (.int .i64 r1)):=fun X hX => by rw [hr1,hwd]; exact IH.o th aT cT X (deep + 1) (lsC_over hX (lsC_over hB hT)) (by omega) (by omega)
            have KL : Hx (∀ X,Ov wr X→Ro 74 #[.slice aE el.length cE,.int .i64 (IntKind.i64.wrap (deep + 1))] X (.int .i64 r2)):=fun X hX => by rw [hr2,hwd]; exact IH.o el aE cE X (deep + 1) (lsC_over hX (lsC_over hB hE)) (by omega) (by omega)
            have HLA:=hA.max
            have HAA:=hide (lsE_over hB hA)
            have HQN:=hide hqn
            have HB0:=hide hB
            have HP:=hide hp
            obtain ⟨nA,hnA⟩:=nm args.length
            rw [← hnA] at d9 HLA hm2
            have HNA:=hide hnA
            have HM:=hide hm2
            clear hcs hl12 hB hjl0 hp hqm hm2 hre hqn hr1 hr2 he hA hT hE hnA hwd
            generalize th.length = nT at d10 KT
            generalize el.length = nE at d11 KL
            go_wp2_with fail
            refine (KP.o _ (bA _ _)).mono ?_
            rintro e W2 ⟨rfl,hb⟩
            have HB2 : Hx (Ov wr W2):=over_trans (bA _ _) hb
            have HR2 : Hx (RowAt [.int .i64 kd,.int .i64 a,.string x,.string y,.int .i64 e0,.int .i64 e1,.int .i64 e2,.string e3,.slice q q1 q2,.slice aA nA cA,.slice aT nT cT,.slice aE nE cE] W2 wr.heap.size):=RowAt.over (al10 wr [.int .i64 kd,.int .i64 a,.string x,.string y,.int .i64 e0,.int .i64 e1,.int .i64 e2,.string e3,.slice q q1 q2,.slice aA nA cA,.slice aT nT cT,.slice aE nE cE] 55) hb
            clear hb d0 d1 d2 d3 d4 d5 d6 d7 d8 d9 d10 d11 KP
            generalize wr.heap.size = bq at HR2 ⊢
            obtain ⟨n0,n1,n2,n3,n4,n5,n6,n7,n8,n9,n10,n11⟩:=rc12 HR2.o
            by_cases h15 : 15 < re
            · have hp:=HP.o
              rw [show qm = true by have h:=HM.o; simp [h15] at h; exact h,if_pos rfl,csF_51] at hp
              have HV : Hx (fin = 51):=by show _ = _; rw [HFF.o,← hp]; rfl
              clear hp
              go_wp2_with fail
              go_ret
              exact ⟨by rw [HV.o]; rfl,over_trans HB0.o HB2.o⟩
            by_cases h4 : 4 < nA
            · have hp:=HP.o
              rw [show qm = true by have h:=HM.o; simp [h4] at h; exact h,if_pos rfl,csF_51] at hp
              have HV : Hx (fin = 51):=by show _ = _; rw [HFF.o,← hp]; rfl
              clear hp
              have hi4 : (4 : Int) < (nA : Int):=by omega
              go_wp2_with fail
              go_ret
              exact ⟨by rw [HV.o]; rfl,over_trans HB0.o HB2.o⟩
            have hi4 : ¬ (4 : Int) < (nA : Int):=by omega
            have hmn : qm = qn:=by have h:=HM.o; simp [h15,h4] at h; exact h
            replace HM:=hide hmn
            clear hmn
            go_wp2_with fail
            clear n0 n1 n2 n3 n4 n5 n6 n7 n8 n9 n10 n11
            go_loopw [8] (fun i ws => ∃ (i2 : Nat),i2≤nA∧i = .int .i64 i2∧(args.drop i2).any (longE ke) = qn∧Ov W2 ws) (fun i _ => nA - (intOf i).toNat)
            case atStart => exact ⟨0,Nat.zero_le _,rfl,HQN.o.symm,Below.refl _ _⟩
            case round =>
              obtain ⟨i,hi2,rfl,hpa,hB2⟩:=hrel
              have HB3:=hide (over_trans HB2.o hB2)
              have hB3:=HB3.o
              obtain ⟨n0,n1,n2,n3,n4,n5,n6,n7,n8,n9,n10,n11⟩:=rc12 (HR2.o.over hB2)
              by_cases hil : i < nA
              · have hil0 : i < args.length:=by have:=HNA.o; omega
                have hii : (i : Int) < (nA : Int):=by omega
                obtain ⟨ba,oa,rfl,ca,hl5,hca,hra⟩:=HAA.o.at hil0
                rw [List.drop_eq_getElem_cons hil0,List.any_cons] at hpa
                generalize args[i] = da at hpa hra
                obtain ⟨rp,hrp⟩:=nm (poK ke da 15)
                rw [longE_po,← hrp] at hpa
                have KQ : Hx (∀ X,Ov wr X→Ro 75 #[.agg ca.toArray,.int .i64 15] X (.int .i64 rp)):=fun X hX => by rw [hrp]; exact partsOf_c ke ca da X 15 ((hra.over hB3).over hX) (by omega) (by omega)
                obtain ⟨k0,k1,k2,k3,k4,k5,k6,rfl⟩:=hra.cells
                have z0 : wr.cell? ⟨ba,oa + i * 5,none⟩ = _:=ce1 hB3 (hca 0 _ rfl)
                have z1:=ce1 hB3 (hca 1 _ rfl)
                have z2:=ce1 hB3 (hca 2 _ rfl)
                have z3:=ce1 hB3 (hca 3 _ rfl)
                have z4:=ce1 hB3 (hca 4 _ rfl)
                have HPA:=hide hpa
                have HBB:=hide hB2
                clear hpa hB2 hB3 hra hca hl5 hrp hil0
                go_wp2_with fail
                refine (KQ.o _ (Below.refl _ _)).mono ?_
                rintro e W4 ⟨rfl,hb⟩
                have HB4:=hide (over_trans HBB.o hb)
                have HB5:=hide (over_trans HB3.o hb)
                clear hb z0 z1 z2 z3 z4 n0 n1 n2 n3 n4 n5 n6 n7 n8 n9 n10 n11 KQ HB3
                by_cases h15' : 15 < rp
                · have hqn : qn = true:=by have h:=HPA.o; simp [h15'] at h; exact h
                  subst hqn
                  have hp:=HP.o
                  rw [HM.o,if_pos rfl,csF_51] at hp
                  have HV : Hx (fin = 51):=by show _ = _; rw [HFF.o,← hp]; rfl
                  clear hp
                  go_wp2_with fail
                  go_ret
                  exact ⟨by rw [HV.o]; rfl,over_trans HB0.o HB5.o⟩
                · have hqn : (args.drop (i + 1)).any (longE ke) = qn:=by have h:=HPA.o; rw [decide_eq_false h15',Bool.false_or] at h; exact h
                  replace HPA:=hide hqn
                  clear hqn
                  go_wp2_with fail
                  exact ⟨⟨i + 1,by omega,by go_num,HPA.o,HB4.o⟩,by simp [intOf]; omega⟩
              · have hd : args.drop i = []:=List.drop_eq_nil_of_le (by have:=HNA.o; omega)
                have hii : ¬ (i : Int) < (nA : Int):=by omega
                rw [hd] at hpa
                have hqn : qn = false:=by rw [← hpa]; rfl
                subst hqn
                have hp:=HP.o
                rw [HM.o,if_neg (by simp),show t + 1 + r1 + r2 = t + (1 + r1 + r2) by omega] at hp
                replace HP:=hide hp
                clear hp hd hpa hB2 hB3
                go_wp2_with fail
                refine Go.Proofs.YtipngnjffjajpaaGreatDoor.gS (fun Wz => Below wr.heap.size wr Wz) (Below.refl _ _).drew fun hHeld => ?_
                generalize wr.drew = W at hHeld ⊢
                refine kO 0 ?_
                refine kO 1 ?_
                refine kO 2 ?_
                refine kO 3 ?_
                refine kO 4 ?_
                refine kO 7 ?_
                refine kO 8 ?_
                refine kO 9 ?_
                refine kO 10 ?_
                refine rdA 5 rfl fun K hK => ?_
                go_simp
                refine (KT.o _ (over_trans HB3.o hHeld)).mono ?_
                rintro e W5 ⟨rfl,hb⟩
                have HH5 : Hx (Ov wr W5):=over_trans hHeld hb
                clear hb hHeld KT
                go_simp
                refine xK hK (HH5.o) fun hHeld => ?_
                clear hK K
                refine kO 6 ?_
                refine rdA 11 rfl fun K hK => ?_
                go_simp
                refine (KL.o _ (over_trans HB3.o hHeld)).mono ?_
                rintro e W6 ⟨rfl,hb⟩
                have HH6 : Hx (Ov wr W6):=over_trans hHeld hb
                clear hb hHeld KL
                go_simp
                refine xK hK (HH6.o) fun hHeld => ?_
                clear hK K
                refine kO 12 ?_
                refine kO 13 ?_
                refine kO 14 ?_
                refine gE ?_
                have HB6 : Hx (Ov w W6):=over_trans HB0.o (over_trans HB3.o HH6.o)
                clear hHeld n0 n1 n2 n3 n4 n5 n6 n7 n8 n9 n10 n11
                have hw1 : IntKind.i64.wrap (1 + r1) = 1 + r1:=by rw [IntKind.wrap_i64]; omega
                have hw2 : IntKind.i64.wrap (1 + r1 + r2) = 1 + r1 + r2:=by rw [IntKind.wrap_i64]; omega
                have hw3 : IntKind.i64.wrap (t + (1 + r1 + r2)) = t + (1 + r1 + r2):=by rw [IntKind.wrap_i64]; omega
                rw [hw1,hw2,hw3]
                clear hw1 hw2 hw3
                go_wp2_with fail
                exact ⟨⟨j + 1,t + (1 + r1 + r2),by omega,by go_num,rfl,by omega,by omega,HP.o,HB6.o⟩,by simp [intOf]; omega⟩
          · rw [csF_done ke _ _ _ (by omega)] at hp
            have HV : Hx (fin = min 51 t):=by show _ = _; rw [HFF.o,← hp]
            have HB:=hide hB
            clear hp hB hjl0
            by_cases h51 : 51 < t
            · have hv : fin = 51:=by rw [HV.o]; omega
              replace HV:=hide hv
              clear hv
              go_wp2_with fail
              go_ret
              exact ⟨by rw [HV.o]; rfl,HB.o⟩
            · have hv : fin = t:=by rw [HV.o]; omega
              replace HV:=hide hv
              clear hv
              go_wp2_with fail
              go_ret
              exact ⟨by rw [HV.o]; rfl,HB.o⟩
        · have hd : l.drop j = []:=List.drop_eq_nil_of_le (by have:=HN.o; omega)
          rw [hd] at hp
          have HV : Hx (fin = min 51 t):=by show _ = _; rw [HFF.o,← hp]; rfl
          have HB:=hide hB
          have hji : ¬ (j : Int) < (nn : Int):=by omega
          clear hp hB hd
          by_cases h51 : 51 < t
          · have hv : fin = 51:=by rw [HV.o]; omega
            replace HV:=hide hv
            clear hv
            go_wp2_with fail
            go_ret
            exact ⟨by rw [HV.o]; rfl,HB.o⟩
          · have hv : fin = t:=by rw [HV.o]; omega
            replace HV:=hide hv
            clear hv
            go_wp2_with fail
            go_ret
            exact ⟨by rw [HV.o]; rfl,HB.o⟩
    · have hl0 : l = []:=List.length_eq_zero_iff.1 (by have:=HN.o; omega)
      have hz : nn = 0:=by omega
      have hv : fin = 0:=by rw [HFF.o,HF.o,hl0]; rfl
      rw [hv,hz]
      exact count_nil ao cap w deep
end Go.Proofs.YtipngnjffjajpaaGreatDoor.Tx
