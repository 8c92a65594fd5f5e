/- The document's answer: too much of something. -/
import Derived.Test.YtipngnjffjajpaaGreatDoorF31
namespace Go.Proofs.YtipngnjffjajpaaGreatDoor.Tx
open Go.RowKit
set_option linter.unusedVariables false
set_option maxHeartbeats 4000000 in
set_option maxRecDepth 100000 in
theorem treeMany_c (ke kc : Nat) (ds l : List D) (v : Value) (w : World) (h : ZT w ke kc v ds l) : Ro 37 #[v] w (.bool (manyR ke kc ds l)):=by
  obtain ⟨ao,c,a2,c2,rfl,hD,hM⟩:=h
  obtain ⟨fin,hfin⟩:=nm (manyR ke kc ds l)
  rw [← hfin]
  unfold manyR at hfin
  have HD:=hide hD
  have HL:=hD.max
  obtain ⟨r0,hr0⟩:=nm (csK ke kc l 1)
  have hb0:=csK_bd ke kc l 1
  rw [← hr0] at hfin hb0
  have KM : Hx (∀ X,Ov w X→Ro 74 #[.slice a2 l.length c2,.int .i64 1] X (.int .i64 r0)):=fun X hX => by rw [hr0]; exact count_c ke kc l a2 c2 X 1 (lsC_over hX hM) (by omega) (by omega)
  obtain ⟨nn,hnn⟩:=nm ds.length
  rw [← hnn] at HL hfin ⊢
  have HN:=hide hnn
  clear hD hM hnn hr0
  generalize l.length = nl at KM ⊢
  obtain ⟨V,hV⟩:=nm (w.alloc (.cells #[.slice ao nn c,.slice a2 nl c2] 25))
  have HBV : Hx (Ov w V):=by show Ov _ _; rw [hV]; exact bA _ _
  have HRV : Hx (RowAt [.slice ao nn c,.slice a2 nl c2] V w.heap.size):=by show RowAt _ _ _; rw [hV]; exact al10 w [.slice ao nn c,.slice a2 nl c2] 25
  by_cases h30 : 30 < nn
  · have hi : (30 : Int) < (nn : Int):=by omega
    have HV : Hx (fin = true):=by show _ = _; rw [hfin]; simp [h30]
    clear hfin
    go_enter Tryz.func37,Tryz.ntmps37
    go_wp2_with fail
    go_ret
    exact ⟨by rw [HV.o]; rfl,by rw [← hV]; exact HBV.o⟩
  rw [decide_eq_false h30,Bool.false_or] at hfin
  have HF:=hide hfin
  have hi : ¬ (30 : Int) < (nn : Int):=by omega
  clear hfin
  go_enter Tryz.func37,Tryz.ntmps37
  go_wp2_with fail
  rw [← hV]
  clear hV
  refine (KM.o _ HBV.o).mono ?_
  rintro e W1 ⟨rfl,hb⟩
  have HBW : Hx (Ov w W1):=over_trans HBV.o hb
  have HRW:=hide (HRV.o.over hb)
  clear hb KM HBV HRV
  generalize w.heap.size = bt at HRW ⊢
  obtain ⟨s0,s1⟩:=rc2 HRW.o
  go_wp2_with fail
  clear s0 s1
  go_loopw [3,4] (fun c i wr => ∃ (j : Nat) (t : Int),j≤nn∧i = .int .i64 j∧c = .int .i64 t∧0≤t∧t≤51 + 51 * j∧((ds.drop j).any (muchD ke) || decide (50 < (ds.drop j).foldl (fun n d => n + csK ke kc (gL 7 d) 1) t)) = fin∧Ov W1 wr) (fun _ i _ => nn - (intOf i).toNat)
  case atStart => exact ⟨0,r0,Nat.zero_le _,rfl,rfl,by omega,by omega,HF.o.symm,Below.refl _ _⟩
  case round =>
    obtain ⟨j,t,hj,rfl,rfl,t1,t2,hp,hB⟩:=hrel
    obtain ⟨s0,s1⟩:=rc2 (HRW.o.over hB)
    by_cases hjl : j < nn
    · have hjl0 : j < ds.length:=by have:=HN.o; omega
      have hji : (j : Int) < (nn : Int):=by omega
      obtain ⟨b,off,rfl,cs,hl12,hcs,hr⟩:=HD.o.at hjl0
      rw [List.drop_eq_getElem_cons hjl0,List.any_cons,List.foldl_cons] at hp
      generalize ds[j] = dj at hp hr
      have hB0 : Ov w wr:=over_trans HBW.o hB
      obtain ⟨kd,a,x,y,gv,aL,cL,lb,aP,cP,ps,aB,cB,body,e0,e1,e2,e3,q,q1,q2,r,rfl,rfl,-,-,hLb,hPs,hBo,hR⟩:=hr
      simp only [gDd] at hp
      obtain ⟨r1,hr1⟩:=nm (csK ke kc body 1)
      have hb1:=csK_bd ke kc body 1
      rw [← hr1] at hp hb1
      have KB : Hx (∀ X,Ov wr X→Ro 74 #[.slice aB body.length cB,.int .i64 1] X (.int .i64 r1)):=fun X hX => by rw [hr1]; exact count_c ke kc body aB cB X 1 (lsC_over hX (lsC_over hB0 hBo)) (by omega) (by omega)
      obtain ⟨qm,hqm⟩:=nm (muchD ke (deD kd a x y gv lb ps body r))
      rw [← hqm] at hp
      have hm2 : qm = (decide (4 < lb.length) || decide (4 < ps.length) || decide (15 < poK ke r 15) || lb.any (fun p => decide (6 < (gL 3 p).length))):=by rw [hqm]; unfold muchD; simp only [gDd,List.length_map]; rw [longE_po ke r]
      obtain ⟨re,hre⟩:=nm (poK ke r 15)
      obtain ⟨qn,hqn⟩:=nm (lb.any (fun p => decide (6 < (gL 3 p).length)))
      rw [← hre,← hqn] at hm2
      have KP : Hx (∀ X,Ov wr X→Ro 75 #[.agg #[.int .i64 e0,.int .i64 e1,.int .i64 e2,.string e3,.slice q q1 q2],.int .i64 15] X (.int .i64 re)):=fun X hX => by rw [hre]; exact partsOf_c ke _ r X 15 ((hR.over hB0).over hX) (by omega) (by omega)
      have HLL:=hLb.max
      have HLP:=hPs.max
      have HAA:=hide (lsP_over hB0 hLb)
      have HQN:=hide hqn
      have d0 : wr.cell? ⟨b,off + j * 13,none⟩ = _:=ce1 hB0 (hcs 0 _ rfl)
      have d1:=ce1 hB0 (hcs 1 _ rfl)
      have d2:=ce1 hB0 (hcs 2 _ rfl)
      have d3:=ce1 hB0 (hcs 3 _ rfl)
      have d4:=ce1 hB0 (hcs 4 _ rfl)
      have d5:=ce1 hB0 (hcs 5 _ rfl)
      have d6:=ce1 hB0 (hcs 6 _ rfl)
      have d7:=ce1 hB0 (hcs 7 _ rfl)
      have d8:=ce1 hB0 (hcs 8 _ rfl)
      have d9:=ce1 hB0 (hcs 9 _ rfl)
      have d10:=ce1 hB0 (hcs 10 _ rfl)
      have d11:=ce1 hB0 (hcs 11 _ rfl)
      have d12:=ce1 hB0 (hcs 12 _ rfl)
      have HB:=hide hB
      have HP:=hide hp
      obtain ⟨nL,hnL⟩:=nm lb.length
      rw [← hnL] at d5 HLL hm2
      have HNL:=hide hnL
      have HM:=hide hm2
      clear hcs hl12 hB hjl0 hBo hqm hm2 hre hqn hB0 hr1 hp hLb hPs hR hnL
      generalize ps.length = nP at HLP HM d6
      generalize body.length = nB at KB d7
      have HRB : Hx (RowAt [.int .i64 kd,.int .i64 a,.string x,.string y,.bool gv,.slice aL nL cL,.slice aP nP cP,.slice aB nB cB,.int .i64 e0,.int .i64 e1,.int .i64 e2,.string e3,.slice q q1 q2] (wr.alloc (.cells #[.int .i64 kd,.int .i64 a,.string x,.string y,.bool gv,.slice aL nL cL,.slice aP nP cP,.slice aB nB cB,.int .i64 e0,.int .i64 e1,.int .i64 e2,.string e3,.slice q q1 q2] 51)) wr.heap.size):=al10 wr [.int .i64 kd,.int .i64 a,.string x,.string y,.bool gv,.slice aL nL cL,.slice aP nP cP,.slice aB nB cB,.int .i64 e0,.int .i64 e1,.int .i64 e2,.string e3,.slice q q1 q2] 51
      by_cases h4 : 4 < nL
      · have HV : Hx (fin = true):=by have h:=HP.o; rw [show qm = true by have h:=HM.o; simp [h4] at h; exact h] at h; simp at h; exact h
        have hi4 : (4 : Int) < (nL : Int):=by omega
        go_wp2_with fail
        go_ret
        exact ⟨by rw [HV.o]; rfl,over_trans HBW.o (over_trans HB.o (bA _ _))⟩
      have hi4 : ¬ (4 : Int) < (nL : Int):=by omega
      by_cases h5 : 4 < nP
      · have HV : Hx (fin = true):=by have h:=HP.o; rw [show qm = true by have h:=HM.o; simp [h5] at h; exact h] at h; simp at h; exact h
        have hi5 : (4 : Int) < (nP : Int):=by omega
        go_wp2_with fail
        go_ret
        exact ⟨by rw [HV.o]; rfl,over_trans HBW.o (over_trans HB.o (bA _ _))⟩
      have hi5 : ¬ (4 : Int) < (nP : Int):=by omega
      go_wp2_with fail
      refine (KP.o _ (bA _ _)).mono ?_
      rintro e W2 ⟨rfl,hb⟩
      have HB2 : Hx (Ov wr W2):=over_trans (bA _ _) hb
      have HR2 : Hx (RowAt [.int .i64 kd,.int .i64 a,.string x,.string y,.bool gv,.slice aL nL cL,.slice aP nP cP,.slice aB nB cB,.int .i64 e0,.int .i64 e1,.int .i64 e2,.string e3,.slice q q1 q2] W2 wr.heap.size):=HRB.o.over hb
      have HRX:=hide ((HRW.o.over HB.o).over HB2.o)
      clear hb d0 d1 d2 d3 d4 d5 d6 d7 d8 d9 d10 d11 d12 KP HRB s0 s1
      generalize wr.heap.size = bq at HR2 ⊢
      obtain ⟨n0,n1,n2,n3,n4,n5,n6,n7,n8,n9,n10,n11,n12⟩:=rc13 HR2.o
      by_cases h15 : 15 < re
      · have HV : Hx (fin = true):=by have h:=HP.o; rw [show qm = true by have h:=HM.o; simp [h15] at h; exact h] at h; simp at h; exact h
        go_wp2_with fail
        go_ret
        exact ⟨by rw [HV.o]; rfl,over_trans HBW.o (over_trans HB.o HB2.o)⟩
      have hmn : qm = qn:=by have h:=HM.o; simp [h15,h4,h5] at h; exact h
      replace HM:=hide hmn
      clear hmn
      go_wp2_with fail
      clear n0 n1 n2 n3 n4 n5 n6 n7 n8 n9 n10 n11 n12
      go_loopw [6] (fun i ws => ∃ (i2 : Nat),i2≤nL∧i = .int .i64 i2∧(lb.drop i2).any (fun p => decide (6 < (gL 3 p).length)) = qn∧ws = W2) (fun i _ => nL - (intOf i).toNat)
      case atStart => exact ⟨0,Nat.zero_le _,rfl,HQN.o.symm,rfl⟩
      case round =>
        obtain ⟨i,hi2,rfl,hpa,rfl⟩:=hrel
        obtain ⟨n0,n1,n2,n3,n4,n5,n6,n7,n8,n9,n10,n11,n12⟩:=rc13 HR2.o
        by_cases hil : i < nL
        · have hil0 : i < lb.length:=by have:=HNL.o; omega
          have hii : (i : Int) < (nL : Int):=by omega
          obtain ⟨ba,oa,rfl,ca,hl4,hca,hra⟩:=HAA.o.at hil0
          rw [List.drop_eq_getElem_cons hil0,List.any_cons] at hpa
          generalize lb[i] = da at hpa hra
          have hB3:=HB2.o
          obtain ⟨pa,po,pw,pn,pc,ns,rfl,rfl,-,hN⟩:=hra
          simp only [gPp,List.length_map] at hpa
          have HLN:=hN.max
          have z3:=ce1 hB3 (hca 3 _ rfl)
          generalize ns.length = nN at z3 hpa HLN
          have HPA:=hide hpa
          clear hpa hB3 hca hl4 hil0 hN
          by_cases hn6 : 6 < nN
          · have hqn : qn = true:=by have h:=HPA.o; simp [hn6] at h; exact h
            subst hqn
            have HV : Hx (fin = true):=by have h:=HP.o; rw [HM.o] at h; simp at h; exact h
            have hi6 : (6 : Int) < (nN : Int):=by omega
            go_wp2_with fail
            go_ret
            exact ⟨by rw [HV.o]; rfl,over_trans HBW.o (over_trans HB.o HB2.o)⟩
          · have hqn : (lb.drop (i + 1)).any (fun p => decide (6 < (gL 3 p).length)) = qn:=by have h:=HPA.o; rw [decide_eq_false hn6,Bool.false_or] at h; exact h
            replace HPA:=hide hqn
            have hi6 : ¬ (6 : Int) < (nN : Int):=by omega
            clear hqn
            go_wp2_with fail
            exact ⟨⟨i + 1,by omega,by go_num,HPA.o,by trivial⟩,by simp [intOf]; omega⟩
        · have hd : lb.drop i = []:=List.drop_eq_nil_of_le (by have:=HNL.o; omega)
          have hii : ¬ (i : Int) < (nL : Int):=by omega
          rw [hd] at hpa
          have hqn : qn = false:=by rw [← hpa]; rfl
          subst hqn
          have hp:=HP.o
          rw [HM.o,Bool.false_or] at hp
          replace HP:=hide hp
          clear hp hd hpa
          go_wp2_with fail
          refine (KB.o _ HB2.o).mono ?_
          rintro e W3 ⟨rfl,hb⟩
          have HB3:=hide (over_trans HB.o (over_trans HB2.o hb))
          clear hb n0 n1 n2 n3 n4 n5 n6 n7 n8 n9 n10 n11 n12 KB
          go_wp2_with fail
          exact ⟨⟨j + 1,t + r1,by omega,by go_num,by go_num,by omega,by omega,HP.o,HB3.o⟩,by simp [intOf]; omega⟩
    · have hd : ds.drop j = []:=List.drop_eq_nil_of_le (by have:=HN.o; omega)
      have hji : ¬ (j : Int) < (nn : Int):=by omega
      rw [hd] at hp
      have HV : Hx (fin = decide (50 < t)):=by show _ = _; rw [← hp]; rfl
      have HB:=hide hB
      clear hp hd hB
      go_wp2_with fail
      go_ret
      exact ⟨by rw [HV.o]; rfl,over_trans HBW.o HB.o⟩
end Go.Proofs.YtipngnjffjajpaaGreatDoor.Tx
