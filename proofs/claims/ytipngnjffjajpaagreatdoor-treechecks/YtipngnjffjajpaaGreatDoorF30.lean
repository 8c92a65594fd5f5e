/- The document's answer: declarations. -/
import Derived.Test.YtipngnjffjajpaaGreatDoorF28
namespace Go.Proofs.YtipngnjffjajpaaGreatDoor.Tx
open Go.RowKit
set_option linter.unusedVariables false
set_option maxHeartbeats 4000000 in
set_option maxRecDepth 100000 in
theorem isDecl_4t (ke kc : Nat) (a : Int) (x y : ByteArray) (aL : Option Addr) (cL : Nat) (lb : List D) (aP : Option Addr) (cP : Nat) (ps : List ByteArray) (aB : Option Addr) (cB : Nat) (body : List D) (e0 e1 e2 : Int) (e3 : ByteArray) (q : Option Addr) (q1 q2 : Nat) (r : D) (w : World) (hx : x.size≤maxLen) (hy : y.size≤maxLen) (hL : LS 4 (ZP w) w (.slice aL lb.length cL) lb) (hP : LS 1 ZN w (.slice aP ps.length cP) ps) (hB : LS 12 (ZC w ke kc) w (.slice aB body.length cB) body) (hR : ZE w ke [.int .i64 e0,.int .i64 e1,.int .i64 e2,.string e3,.slice q q1 q2] r) :
    Ro 38 #[.agg #[.int .i64 4,.int .i64 a,.string x,.string y,.bool true,.slice aL lb.length cL,.slice aP ps.length cP,.slice aB body.length cB,.int .i64 e0,.int .i64 e1,.int .i64 e2,.string e3,.slice q q1 q2]] w (.bool (dfK ke kc (deD 4 a x y true lb ps body r))):=by
  obtain ⟨fin,hfin⟩:=nm (dfK ke kc (deD 4 a x y true lb ps body r))
  rw [← hfin]
  unfold dfK labF funF at hfin
  simp only [gDd,all_dS nmS,emp_len,List.length_map] at hfin
  obtain ⟨qx,hqx⟩:=nm (nmS x.data.toList)
  obtain ⟨qy,hqy⟩:=nm (y.data.toList.isEmpty)
  obtain ⟨ql,hql⟩:=nm (lb.all polF)
  obtain ⟨qp,hqp⟩:=nm (ps.all fun x => nmS x.data.toList)
  obtain ⟨qb,hqb⟩:=nm (body.all (sfK ke kc))
  obtain ⟨qr,hqr⟩:=nm (efK ke r)
  obtain ⟨qo,hqo⟩:=nm (noEx r)
  obtain ⟨nL,hnL⟩:=nm lb.length
  obtain ⟨nP,hnP⟩:=nm ps.length
  obtain ⟨nB,hnB⟩:=nm body.length
  have hne : (lb≠[]) = (nL≠0):=by rw [hnL]; simp
  have hl0 : nL = 0→ql = true:=fun h => by rw [hql,List.length_eq_zero_iff.1 (hnL.symm.trans h)]; rfl
  simp only [← hqx,← hql,← hqp,← hqb,← hqr,← hqo,← hnP,← hnB,hne] at hfin
  have HF : Hx (fin = (qx && qy && (true && ql) && (decide (nP = 0) && decide (nB = 0) && qo))):=by
    show _ = _
    rw [hfin,hqy]
    by_cases h0 : nL = 0
    · simp [nfS]
    · simp [nfS]
  have K17 : Hx (∀ X,Ov w X→Ro 76 #[.int .i64 4,.int .i64 1,.int .i64 7] X (.bool true)):=fun X _ => by simpa using between_c 4 1 7 X
  have K46 : Hx (∀ X,Ov w X→Ro 76 #[.int .i64 4,.int .i64 4,.int .i64 6] X (.bool true)):=fun X _ => by simpa using between_c 4 4 6 X
  have KX : Hx (∀ X,Ov w X→Ro 77 #[.string x] X (.bool qx)):=fun X _ => by rw [hqx]; exact isNameR_c x X hx
  have HYE:=hide hqy
  have KO : Hx (∀ X,Ov w X→Ro 78 #[.agg #[.int .i64 e0,.int .i64 e1,.int .i64 e2,.string e3,.slice q q1 q2]] X (.bool qo)):=fun X hX => by rw [hqo]; exact noExR_c ke _ r X (hR.over hX)
  have KR : Hx (∀ X,Ov w X→Ro 79 #[.agg #[.int .i64 e0,.int .i64 e1,.int .i64 e2,.string e3,.slice q q1 q2]] X (.bool qr)):=fun X hX => by rw [hqr]; exact isExpr_c ke _ r X (hR.over hX)
  have KBD : Hx (∀ X,Ov w X→Ro 39 #[.slice aB body.length cB] X (.bool qb)):=fun X hX => by rw [hqb]; exact areStmts_c ke kc body aB cB X (lsC_over hX hB)
  rw [← hnB] at KBD
  have HLL:=hL.max
  have HLP:=hP.max
  have HLBB:=hB.max
  rw [← hnL] at HLL
  rw [← hnP] at HLP
  rw [← hnB] at HLBB
  have HLB:=hide hL
  have HPS:=hide hP
  have HQL:=hide hql
  have HQP:=hide hqp
  have HNL:=hide hnL
  have HNP:=hide hnP
  rw [← hnL,← hnP,← hnB]
  clear hfin hqx hqy hql hqp hqb hqr hqo hne hl0 hL hP hB hR hnL hnP hnB hx hy
  go_enter Tryz.func38,Tryz.ntmps38
  go_wp2_with fail
  refine (K17.o _ (bA w (.cells #[.int .i64 4,.int .i64 a,.string x,.string y,.bool true,.slice aL nL cL,.slice aP nP cP,.slice aB nB cB,.int .i64 e0,.int .i64 e1,.int .i64 e2,.string e3,.slice q q1 q2] 51))).mono ?_
  rintro e w1 ⟨rfl,hb⟩
  have HB1 : Hx (Ov w w1):=over_trans (bA w (.cells #[.int .i64 4,.int .i64 a,.string x,.string y,.bool true,.slice aL nL cL,.slice aP nP cP,.slice aB nB cB,.int .i64 e0,.int .i64 e1,.int .i64 e2,.string e3,.slice q q1 q2] 51)) hb
  have HR0_1 : Hx (RowAt [.int .i64 4,.int .i64 a,.string x,.string y,.bool true,.slice aL nL cL,.slice aP nP cP,.slice aB nB cB,.int .i64 e0,.int .i64 e1,.int .i64 e2,.string e3,.slice q q1 q2] w1 w.heap.size):=RowAt.over (al10 w [.int .i64 4,.int .i64 a,.string x,.string y,.bool true,.slice aL nL cL,.slice aP nP cP,.slice aB nB cB,.int .i64 e0,.int .i64 e1,.int .i64 e2,.string e3,.slice q q1 q2] 51) hb
  clear hb  K17
  obtain ⟨m0x0,m0x1,m0x2,m0x3,m0x4,m0x5,m0x6,m0x7,m0x8,m0x9,m0x10,m0x11,m0x12⟩:=rc13 HR0_1.o
  go_wp2_with fail
  refine (KX.o _ (HB1.o)).mono ?_
  rintro e w2 ⟨rfl,hb⟩
  have HB2 : Hx (Ov w w2):=over_trans (HB1.o) hb
  have HR0_2 : Hx (RowAt [.int .i64 4,.int .i64 a,.string x,.string y,.bool true,.slice aL nL cL,.slice aP nP cP,.slice aB nB cB,.int .i64 e0,.int .i64 e1,.int .i64 e2,.string e3,.slice q q1 q2] w2 w.heap.size):=HR0_1.o.over hb
  clear hb m0x0 m0x1 m0x2 m0x3 m0x4 m0x5 m0x6 m0x7 m0x8 m0x9 m0x10 m0x11 m0x12 KX
  cases qx with
  | true =>
    by_cases hy0 : y.data.toList = []
    · obtain rfl:=ba_of_list hy0
      have hyy : qy = true:=by rw [HYE.o]; rfl
      subst hyy
      clear hy0 HYE
      obtain ⟨m0x0,m0x1,m0x2,m0x3,m0x4,m0x5,m0x6,m0x7,m0x8,m0x9,m0x10,m0x11,m0x12⟩:=rc13 HR0_2.o
      go_wp2_with fail
      refine (K46.o _ (HB2.o)).mono ?_
      rintro e w3 ⟨rfl,hb⟩
      have HB3 : Hx (Ov w w3):=over_trans (HB2.o) hb
      have HR0_3 : Hx (RowAt [.int .i64 4,.int .i64 a,.string x,.string ⟨#[]⟩,.bool true,.slice aL nL cL,.slice aP nP cP,.slice aB nB cB,.int .i64 e0,.int .i64 e1,.int .i64 e2,.string e3,.slice q q1 q2] w3 w.heap.size):=HR0_2.o.over hb
      clear hb m0x0 m0x1 m0x2 m0x3 m0x4 m0x5 m0x6 m0x7 m0x8 m0x9 m0x10 m0x11 m0x12 K46
      obtain ⟨m0x0,m0x1,m0x2,m0x3,m0x4,m0x5,m0x6,m0x7,m0x8,m0x9,m0x10,m0x11,m0x12⟩:=rc13 HR0_3.o
      go_wp2_with fail
      clear m0x0 m0x1 m0x2 m0x3 m0x4 m0x5 m0x6 m0x7 m0x8 m0x9 m0x10 m0x11 m0x12
      go_loopw [3] (fun i wr => ∃ (j : Nat),j≤nL∧i = .int .i64 j∧(lb.drop j).all polF = ql∧Ov w3 wr) (fun i _ => nL - (intOf i).toNat)
      case atStart => exact ⟨0,Nat.zero_le _,rfl,HQL.o.symm,Below.refl _ _⟩
      case round =>
        obtain ⟨j,hj,rfl,hp,hB⟩:=hrel
        by_cases hjl : j < nL
        · have hjl0 : j < lb.length:=by have:=HNL.o; omega
          have hji : (j : Int) < (nL : Int):=by omega
          obtain ⟨b,off,rfl,cs,hl4,hcs,hr⟩:=HLB.o.at hjl0
          rw [List.drop_eq_getElem_cons hjl0,List.all_cons] at hp
          generalize lb[j] = dj at hp hr
          obtain ⟨pa,po,pw,pn,pc,ns,rfl,rfl,ho,hN⟩:=hr
          unfold polF at hp
          simp only [gPp,all_dS nmS] at hp
          obtain ⟨q8,hq8⟩:=nm (nmS po.data.toList)
          obtain ⟨q9,hq9⟩:=nm (ns.all fun x => nmS x.data.toList)
          rw [← hq8,← hq9] at hp
          have hp' : (q8 && q9 && (lb.drop (j + 1)).all polF) = ql:=hp
          have hB3:=over_trans HB3.o hB
          have KC : Hx (∀ X,Ov wr X→Ro 77 #[.string po] X (.bool q8)):=fun X _ => by rw [hq8]; exact isNameR_c po X ho
          have HNN:=hide (lsN_over hB3 hN)
          have HQ9:=hide hq9
          obtain ⟨nN,hnN⟩:=nm ns.length
          have HLN:=hN.max
          rw [← hnN] at HLN hcs
          have HnN:=hide hnN
          have z1:=ce1 hB3 (hcs 1 _ rfl)
          have z3:=ce1 hB3 (hcs 3 _ rfl)
          have HZ3:=hide z3
          obtain ⟨n0,n1,n2,n3,n4,n5,n6,n7,n8,n9,n10,n11,n12⟩:=rc13 (HR0_3.o.over hB)
          have HP:=hide hp'
          have HB:=hide hB
          clear hp hp' hB hB3 hcs hl4 hq8 hq9 hjl0 ho hN hnN
          go_wp2_with fail
          refine (KC.o _ (Below.refl _ _)).mono ?_
          rintro e W6 ⟨rfl,hb⟩
          have HB6:=hide (over_trans HB.o hb)
          have HC6:=hide hb
          clear hb KC z1 z3 n0 n1 n2 n3 n4 n5 n6 n7 n8 n9 n10 n11 n12
          cases q8 with
          | false =>
            have hp:=HP.o
            simp at hp
            subst hp
            have HV : Hx (fin = false):=by have h:=HF.o; simp at h; exact h
            go_wp2_with fail
            go_ret
            exact ⟨by rw [HV.o]; rfl,over_trans HB3.o HB6.o⟩
          | true =>
            have hp:=HP.o
            rw [Bool.true_and] at hp
            replace HP:=hide hp
            clear hp
            go_wp2_with fail
            go_loopw [4] (fun i ws => ∃ (i2 : Nat),i2≤nN∧i = .int .i64 i2∧(ns.drop i2).all (fun x => nmS x.data.toList) = q9∧Ov W6 ws) (fun i _ => nN - (intOf i).toNat)
            case atStart => exact ⟨0,Nat.zero_le _,rfl,HQ9.o.symm,Below.refl _ _⟩
            case round =>
              obtain ⟨i,hi2,rfl,hpa,hB2⟩:=hrel
              have hBB:=over_trans HB6.o hB2
              obtain ⟨p0,p1,p2,p3,p4,p5,p6,p7,p8,p9,p10,p11,p12⟩:=rc13 (HR0_3.o.over hBB)
              have z3:=ce1 (over_trans HC6.o hB2) HZ3.o
              by_cases hil : i < nN
              · have hil0 : i < ns.length:=by have:=HnN.o; omega
                have hii : (i : Int) < (nN : Int):=by omega
                obtain ⟨ba,oa,rfl,ca,hl1,hca,hra⟩:=HNN.o.at hil0
                rw [List.drop_eq_getElem_cons hil0,List.all_cons] at hpa
                generalize ns[i] = da at hpa hra
                obtain ⟨q7,hq7⟩:=nm (nmS da.data.toList)
                rw [← hq7] at hpa
                have KQ : Hx (∀ X,Ov wr X→Ro 77 #[.string da] X (.bool q7)):=fun X _ => by rw [hq7]; exact isNameR_c da X hra.2
                rw [hra.1] at hca
                have y0 : wr.cell? ⟨ba,oa + i,none⟩ = some (.string da):=ce1 (over_trans HC6.o hB2) (by have:=hca 0 _ rfl; simpa using this)
                have HPA:=hide hpa
                have HBQ:=hide hB2
                clear hpa hB2 hBB hca hl1 hra hq7 hil0
                go_wp2_with fail
                refine (KQ.o _ (Below.refl _ _)).mono ?_
                rintro e W7 ⟨rfl,hb⟩
                have HB7:=hide (over_trans HBQ.o hb)
                clear hb KQ y0 z3 p0 p1 p2 p3 p4 p5 p6 p7 p8 p9 p10 p11 p12
                cases q7 with
                | true =>
                  have hp:=HPA.o
                  rw [Bool.true_and] at hp
                  replace HPA:=hide hp
                  clear hp
                  go_wp2_with fail
                  exact ⟨⟨i + 1,by omega,by go_num,HPA.o,HB7.o⟩,by simp [intOf]; omega⟩
                | false =>
                  have hp:=HPA.o
                  rw [Bool.false_and] at hp
                  subst hp
                  have hp:=HP.o
                  rw [Bool.false_and] at hp
                  subst hp
                  have HV : Hx (fin = false):=by have h:=HF.o; simp at h; exact h
                  go_wp2_with fail
                  go_ret
                  exact ⟨by rw [HV.o]; rfl,over_trans HB3.o (over_trans HB6.o HB7.o)⟩
              · have hd : ns.drop i = []:=List.drop_eq_nil_of_le (by have:=HnN.o; omega)
                have hii : ¬ (i : Int) < (nN : Int):=by omega
                rw [hd] at hpa
                have hq9 : true = q9:=by rw [← hpa]; rfl
                subst hq9
                have hp:=HP.o
                rw [Bool.true_and] at hp
                replace HP:=hide hp
                have HBQ:=hide hBB
                clear hp hd hpa hB2 hBB
                go_wp2_with fail
                exact ⟨⟨j + 1,by omega,by go_num,HP.o,HBQ.o⟩,by simp [intOf]; omega⟩
        · have hd : lb.drop j = []:=List.drop_eq_nil_of_le (by have:=HNL.o; omega)
          have hji : ¬ (j : Int) < (nL : Int):=by omega
          rw [hd] at hp
          have hql : true = ql:=by rw [← hp]; rfl
          subst hql
          have HBY:=hide (over_trans HB3.o hB)
          have HRY:=hide (HR0_3.o.over hB)
          clear hp hd hB HQL
          by_cases h1 : nP = 0
          · subst h1
            by_cases h2 : nB = 0
            · subst h2
              obtain ⟨m0x0,m0x1,m0x2,m0x3,m0x4,m0x5,m0x6,m0x7,m0x8,m0x9,m0x10,m0x11,m0x12⟩:=rc13 HRY.o
              go_wp2_with fail
              refine (KO.o _ (HBY.o)).mono ?_
              rintro e w71 ⟨rfl,hb⟩
              have HB71 : Hx (Ov w w71):=over_trans (HBY.o) hb
              have HR0_71 : Hx (RowAt [.int .i64 4,.int .i64 a,.string x,.string ⟨#[]⟩,.bool true,.slice aL nL cL,.slice aP 0 cP,.slice aB 0 cB,.int .i64 e0,.int .i64 e1,.int .i64 e2,.string e3,.slice q q1 q2] w71 w.heap.size):=HRY.o.over hb
              clear hb m0x0 m0x1 m0x2 m0x3 m0x4 m0x5 m0x6 m0x7 m0x8 m0x9 m0x10 m0x11 m0x12 KO
              have HV : Hx (fin = qo):=by have h:=HF.o; simp at h; exact h
              obtain ⟨m0x0,m0x1,m0x2,m0x3,m0x4,m0x5,m0x6,m0x7,m0x8,m0x9,m0x10,m0x11,m0x12⟩:=rc13 HR0_71.o
              go_wp2_with fail
              go_ret
              exact ⟨by rw [HV.o]; (first | rfl | (simp; done) | (simp; assumption) | (simp; omega)),HB71.o⟩
            · have hi : ¬ (nB : Int) = 0:=by omega
              have HV : Hx (fin = false):=by have h:=HF.o; simp [h2] at h; exact h
              obtain ⟨m0x0,m0x1,m0x2,m0x3,m0x4,m0x5,m0x6,m0x7,m0x8,m0x9,m0x10,m0x11,m0x12⟩:=rc13 HRY.o
              go_wp2_with fail
              go_ret
              exact ⟨by rw [HV.o]; (first | rfl | (simp; done) | (simp; assumption) | (simp; omega)),HBY.o⟩
          · have hi : ¬ (nP : Int) = 0:=by omega
            have HV : Hx (fin = false):=by have h:=HF.o; simp [h1] at h; exact h
            obtain ⟨m0x0,m0x1,m0x2,m0x3,m0x4,m0x5,m0x6,m0x7,m0x8,m0x9,m0x10,m0x11,m0x12⟩:=rc13 HRY.o
            go_wp2_with fail
            go_ret
            exact ⟨by rw [HV.o]; (first | rfl | (simp; done) | (simp; assumption) | (simp; omega)),HBY.o⟩
    · have hne:=ne_of_list hy0
      have hyy : qy = false:=by rw [HYE.o]; simpa using hy0
      subst hyy
      clear hy0 HYE
      have HV : Hx (fin = false):=by have h:=HF.o; simp at h; exact h
      obtain ⟨m0x0,m0x1,m0x2,m0x3,m0x4,m0x5,m0x6,m0x7,m0x8,m0x9,m0x10,m0x11,m0x12⟩:=rc13 HR0_2.o
      go_wp2_with fail
      go_ret
      exact ⟨by rw [HV.o]; (first | rfl | (simp; done) | (simp; assumption) | (simp; omega)),HB2.o⟩
  | false =>
    have HV : Hx (fin = false):=by have h:=HF.o; simp at h; exact h
    obtain ⟨m0x0,m0x1,m0x2,m0x3,m0x4,m0x5,m0x6,m0x7,m0x8,m0x9,m0x10,m0x11,m0x12⟩:=rc13 HR0_2.o
    go_wp2_with fail
    go_ret
    exact ⟨by rw [HV.o]; (first | rfl | (simp; done) | (simp; assumption) | (simp; omega)),HB2.o⟩
set_option maxHeartbeats 4000000 in
set_option maxRecDepth 100000 in
theorem isDecl_4f (ke kc : Nat) (a : Int) (x y : ByteArray) (aL : Option Addr) (cL : Nat) (lb : List D) (aP : Option Addr) (cP : Nat) (ps : List ByteArray) (aB : Option Addr) (cB : Nat) (body : List D) (e0 e1 e2 : Int) (e3 : ByteArray) (q : Option Addr) (q1 q2 : Nat) (r : D) (w : World) (hx : x.size≤maxLen) (hy : y.size≤maxLen) (hL : LS 4 (ZP w) w (.slice aL lb.length cL) lb) (hP : LS 1 ZN w (.slice aP ps.length cP) ps) (hB : LS 12 (ZC w ke kc) w (.slice aB body.length cB) body) (hR : ZE w ke [.int .i64 e0,.int .i64 e1,.int .i64 e2,.string e3,.slice q q1 q2] r) :
    Ro 38 #[.agg #[.int .i64 4,.int .i64 a,.string x,.string y,.bool false,.slice aL lb.length cL,.slice aP ps.length cP,.slice aB body.length cB,.int .i64 e0,.int .i64 e1,.int .i64 e2,.string e3,.slice q q1 q2]] w (.bool (dfK ke kc (deD 4 a x y false lb ps body r))):=by
  obtain ⟨fin,hfin⟩:=nm (dfK ke kc (deD 4 a x y false lb ps body r))
  rw [← hfin]
  unfold dfK labF funF at hfin
  simp only [gDd,all_dS nmS,emp_len,List.length_map] at hfin
  obtain ⟨qx,hqx⟩:=nm (nmS x.data.toList)
  obtain ⟨qy,hqy⟩:=nm (y.data.toList.isEmpty)
  obtain ⟨ql,hql⟩:=nm (lb.all polF)
  obtain ⟨qp,hqp⟩:=nm (ps.all fun x => nmS x.data.toList)
  obtain ⟨qb,hqb⟩:=nm (body.all (sfK ke kc))
  obtain ⟨qr,hqr⟩:=nm (efK ke r)
  obtain ⟨qo,hqo⟩:=nm (noEx r)
  obtain ⟨nL,hnL⟩:=nm lb.length
  obtain ⟨nP,hnP⟩:=nm ps.length
  obtain ⟨nB,hnB⟩:=nm body.length
  have hne : (lb≠[]) = (nL≠0):=by rw [hnL]; simp
  have hl0 : nL = 0→ql = true:=fun h => by rw [hql,List.length_eq_zero_iff.1 (hnL.symm.trans h)]; rfl
  simp only [← hqx,← hql,← hqp,← hqb,← hqr,← hqo,← hnP,← hnB,hne] at hfin
  have HF : Hx (fin = (qx && qy && false && (decide (nP = 0) && decide (nB = 0) && qo))):=by
    show _ = _
    rw [hfin,hqy]
    by_cases h0 : nL = 0
    · simp [nfS]
    · simp [nfS]
  have K17 : Hx (∀ X,Ov w X→Ro 76 #[.int .i64 4,.int .i64 1,.int .i64 7] X (.bool true)):=fun X _ => by simpa using between_c 4 1 7 X
  have K46 : Hx (∀ X,Ov w X→Ro 76 #[.int .i64 4,.int .i64 4,.int .i64 6] X (.bool true)):=fun X _ => by simpa using between_c 4 4 6 X
  have KX : Hx (∀ X,Ov w X→Ro 77 #[.string x] X (.bool qx)):=fun X _ => by rw [hqx]; exact isNameR_c x X hx
  have HYE:=hide hqy
  have KO : Hx (∀ X,Ov w X→Ro 78 #[.agg #[.int .i64 e0,.int .i64 e1,.int .i64 e2,.string e3,.slice q q1 q2]] X (.bool qo)):=fun X hX => by rw [hqo]; exact noExR_c ke _ r X (hR.over hX)
  have KR : Hx (∀ X,Ov w X→Ro 79 #[.agg #[.int .i64 e0,.int .i64 e1,.int .i64 e2,.string e3,.slice q q1 q2]] X (.bool qr)):=fun X hX => by rw [hqr]; exact isExpr_c ke _ r X (hR.over hX)
  have KBD : Hx (∀ X,Ov w X→Ro 39 #[.slice aB body.length cB] X (.bool qb)):=fun X hX => by rw [hqb]; exact areStmts_c ke kc body aB cB X (lsC_over hX hB)
  rw [← hnB] at KBD
  have HLL:=hL.max
  have HLP:=hP.max
  have HLBB:=hB.max
  rw [← hnL] at HLL
  rw [← hnP] at HLP
  rw [← hnB] at HLBB
  have HLB:=hide hL
  have HPS:=hide hP
  have HQL:=hide hql
  have HQP:=hide hqp
  have HNL:=hide hnL
  have HNP:=hide hnP
  rw [← hnL,← hnP,← hnB]
  clear hfin hqx hqy hql hqp hqb hqr hqo hne hl0 hL hP hB hR hnL hnP hnB hx hy
  go_enter Tryz.func38,Tryz.ntmps38
  go_wp2_with fail
  refine (K17.o _ (bA w (.cells #[.int .i64 4,.int .i64 a,.string x,.string y,.bool false,.slice aL nL cL,.slice aP nP cP,.slice aB nB cB,.int .i64 e0,.int .i64 e1,.int .i64 e2,.string e3,.slice q q1 q2] 51))).mono ?_
  rintro e w1 ⟨rfl,hb⟩
  have HB1 : Hx (Ov w w1):=over_trans (bA w (.cells #[.int .i64 4,.int .i64 a,.string x,.string y,.bool false,.slice aL nL cL,.slice aP nP cP,.slice aB nB cB,.int .i64 e0,.int .i64 e1,.int .i64 e2,.string e3,.slice q q1 q2] 51)) hb
  have HR0_1 : Hx (RowAt [.int .i64 4,.int .i64 a,.string x,.string y,.bool false,.slice aL nL cL,.slice aP nP cP,.slice aB nB cB,.int .i64 e0,.int .i64 e1,.int .i64 e2,.string e3,.slice q q1 q2] w1 w.heap.size):=RowAt.over (al10 w [.int .i64 4,.int .i64 a,.string x,.string y,.bool false,.slice aL nL cL,.slice aP nP cP,.slice aB nB cB,.int .i64 e0,.int .i64 e1,.int .i64 e2,.string e3,.slice q q1 q2] 51) hb
  clear hb  K17
  obtain ⟨m0x0,m0x1,m0x2,m0x3,m0x4,m0x5,m0x6,m0x7,m0x8,m0x9,m0x10,m0x11,m0x12⟩:=rc13 HR0_1.o
  go_wp2_with fail
  refine (KX.o _ (HB1.o)).mono ?_
  rintro e w2 ⟨rfl,hb⟩
  have HB2 : Hx (Ov w w2):=over_trans (HB1.o) hb
  have HR0_2 : Hx (RowAt [.int .i64 4,.int .i64 a,.string x,.string y,.bool false,.slice aL nL cL,.slice aP nP cP,.slice aB nB cB,.int .i64 e0,.int .i64 e1,.int .i64 e2,.string e3,.slice q q1 q2] w2 w.heap.size):=HR0_1.o.over hb
  clear hb m0x0 m0x1 m0x2 m0x3 m0x4 m0x5 m0x6 m0x7 m0x8 m0x9 m0x10 m0x11 m0x12 KX
  cases qx with
  | true =>
    by_cases hy0 : y.data.toList = []
    · obtain rfl:=ba_of_list hy0
      have hyy : qy = true:=by rw [HYE.o]; rfl
      subst hyy
      clear hy0 HYE
      have HV : Hx (fin = false):=by have h:=HF.o; simp at h; exact h
      obtain ⟨m0x0,m0x1,m0x2,m0x3,m0x4,m0x5,m0x6,m0x7,m0x8,m0x9,m0x10,m0x11,m0x12⟩:=rc13 HR0_2.o
      go_wp2_with fail
      go_ret
      exact ⟨by rw [HV.o]; (first | rfl | (simp; done) | (simp; assumption) | (simp; omega)),HB2.o⟩
    · have hne:=ne_of_list hy0
      have hyy : qy = false:=by rw [HYE.o]; simpa using hy0
      subst hyy
      clear hy0 HYE
      have HV : Hx (fin = false):=by have h:=HF.o; simp at h; exact h
      obtain ⟨m0x0,m0x1,m0x2,m0x3,m0x4,m0x5,m0x6,m0x7,m0x8,m0x9,m0x10,m0x11,m0x12⟩:=rc13 HR0_2.o
      go_wp2_with fail
      go_ret
      exact ⟨by rw [HV.o]; (first | rfl | (simp; done) | (simp; assumption) | (simp; omega)),HB2.o⟩
  | false =>
    have HV : Hx (fin = false):=by have h:=HF.o; simp at h; exact h
    obtain ⟨m0x0,m0x1,m0x2,m0x3,m0x4,m0x5,m0x6,m0x7,m0x8,m0x9,m0x10,m0x11,m0x12⟩:=rc13 HR0_2.o
    go_wp2_with fail
    go_ret
    exact ⟨by rw [HV.o]; (first | rfl | (simp; done) | (simp; assumption) | (simp; omega)),HB2.o⟩
set_option maxHeartbeats 4000000 in
set_option maxRecDepth 100000 in
theorem isDecl_5t (ke kc : Nat) (a : Int) (x y : ByteArray) (aL : Option Addr) (cL : Nat) (lb : List D) (aP : Option Addr) (cP : Nat) (ps : List ByteArray) (aB : Option Addr) (cB : Nat) (body : List D) (e0 e1 e2 : Int) (e3 : ByteArray) (q : Option Addr) (q1 q2 : Nat) (r : D) (w : World) (hx : x.size≤maxLen) (hy : y.size≤maxLen) (hL : LS 4 (ZP w) w (.slice aL lb.length cL) lb) (hP : LS 1 ZN w (.slice aP ps.length cP) ps) (hB : LS 12 (ZC w ke kc) w (.slice aB body.length cB) body) (hR : ZE w ke [.int .i64 e0,.int .i64 e1,.int .i64 e2,.string e3,.slice q q1 q2] r) :
    Ro 38 #[.agg #[.int .i64 5,.int .i64 a,.string x,.string y,.bool true,.slice aL lb.length cL,.slice aP ps.length cP,.slice aB body.length cB,.int .i64 e0,.int .i64 e1,.int .i64 e2,.string e3,.slice q q1 q2]] w (.bool (dfK ke kc (deD 5 a x y true lb ps body r))):=by
  obtain ⟨fin,hfin⟩:=nm (dfK ke kc (deD 5 a x y true lb ps body r))
  rw [← hfin]
  unfold dfK labF funF at hfin
  simp only [gDd,all_dS nmS,emp_len,List.length_map] at hfin
  obtain ⟨qx,hqx⟩:=nm (nmS x.data.toList)
  obtain ⟨qy,hqy⟩:=nm (y.data.toList.isEmpty)
  obtain ⟨ql,hql⟩:=nm (lb.all polF)
  obtain ⟨qp,hqp⟩:=nm (ps.all fun x => nmS x.data.toList)
  obtain ⟨qb,hqb⟩:=nm (body.all (sfK ke kc))
  obtain ⟨qr,hqr⟩:=nm (efK ke r)
  obtain ⟨qo,hqo⟩:=nm (noEx r)
  obtain ⟨nL,hnL⟩:=nm lb.length
  obtain ⟨nP,hnP⟩:=nm ps.length
  obtain ⟨nB,hnB⟩:=nm body.length
  have hne : (lb≠[]) = (nL≠0):=by rw [hnL]; simp
  have hl0 : nL = 0→ql = true:=fun h => by rw [hql,List.length_eq_zero_iff.1 (hnL.symm.trans h)]; rfl
  simp only [← hqx,← hql,← hqp,← hqb,← hqr,← hqo,← hnP,← hnB,hne] at hfin
  have HF : Hx (fin = (qx && qy && (true && ql) && (decide (nP = 0) && decide (nB = 0) && qo))):=by
    show _ = _
    rw [hfin,hqy]
    by_cases h0 : nL = 0
    · simp [nfS]
    · simp [nfS]
  have K17 : Hx (∀ X,Ov w X→Ro 76 #[.int .i64 5,.int .i64 1,.int .i64 7] X (.bool true)):=fun X _ => by simpa using between_c 5 1 7 X
  have K46 : Hx (∀ X,Ov w X→Ro 76 #[.int .i64 5,.int .i64 4,.int .i64 6] X (.bool true)):=fun X _ => by simpa using between_c 5 4 6 X
  have KX : Hx (∀ X,Ov w X→Ro 77 #[.string x] X (.bool qx)):=fun X _ => by rw [hqx]; exact isNameR_c x X hx
  have HYE:=hide hqy
  have KO : Hx (∀ X,Ov w X→Ro 78 #[.agg #[.int .i64 e0,.int .i64 e1,.int .i64 e2,.string e3,.slice q q1 q2]] X (.bool qo)):=fun X hX => by rw [hqo]; exact noExR_c ke _ r X (hR.over hX)
  have KR : Hx (∀ X,Ov w X→Ro 79 #[.agg #[.int .i64 e0,.int .i64 e1,.int .i64 e2,.string e3,.slice q q1 q2]] X (.bool qr)):=fun X hX => by rw [hqr]; exact isExpr_c ke _ r X (hR.over hX)
  have KBD : Hx (∀ X,Ov w X→Ro 39 #[.slice aB body.length cB] X (.bool qb)):=fun X hX => by rw [hqb]; exact areStmts_c ke kc body aB cB X (lsC_over hX hB)
  rw [← hnB] at KBD
  have HLL:=hL.max
  have HLP:=hP.max
  have HLBB:=hB.max
  rw [← hnL] at HLL
  rw [← hnP] at HLP
  rw [← hnB] at HLBB
  have HLB:=hide hL
  have HPS:=hide hP
  have HQL:=hide hql
  have HQP:=hide hqp
  have HNL:=hide hnL
  have HNP:=hide hnP
  rw [← hnL,← hnP,← hnB]
  clear hfin hqx hqy hql hqp hqb hqr hqo hne hl0 hL hP hB hR hnL hnP hnB hx hy
  go_enter Tryz.func38,Tryz.ntmps38
  go_wp2_with fail
  refine (K17.o _ (bA w (.cells #[.int .i64 5,.int .i64 a,.string x,.string y,.bool true,.slice aL nL cL,.slice aP nP cP,.slice aB nB cB,.int .i64 e0,.int .i64 e1,.int .i64 e2,.string e3,.slice q q1 q2] 51))).mono ?_
  rintro e w1 ⟨rfl,hb⟩
  have HB1 : Hx (Ov w w1):=over_trans (bA w (.cells #[.int .i64 5,.int .i64 a,.string x,.string y,.bool true,.slice aL nL cL,.slice aP nP cP,.slice aB nB cB,.int .i64 e0,.int .i64 e1,.int .i64 e2,.string e3,.slice q q1 q2] 51)) hb
  have HR0_1 : Hx (RowAt [.int .i64 5,.int .i64 a,.string x,.string y,.bool true,.slice aL nL cL,.slice aP nP cP,.slice aB nB cB,.int .i64 e0,.int .i64 e1,.int .i64 e2,.string e3,.slice q q1 q2] w1 w.heap.size):=RowAt.over (al10 w [.int .i64 5,.int .i64 a,.string x,.string y,.bool true,.slice aL nL cL,.slice aP nP cP,.slice aB nB cB,.int .i64 e0,.int .i64 e1,.int .i64 e2,.string e3,.slice q q1 q2] 51) hb
  clear hb  K17
  obtain ⟨m0x0,m0x1,m0x2,m0x3,m0x4,m0x5,m0x6,m0x7,m0x8,m0x9,m0x10,m0x11,m0x12⟩:=rc13 HR0_1.o
  go_wp2_with fail
  refine (KX.o _ (HB1.o)).mono ?_
  rintro e w2 ⟨rfl,hb⟩
  have HB2 : Hx (Ov w w2):=over_trans (HB1.o) hb
  have HR0_2 : Hx (RowAt [.int .i64 5,.int .i64 a,.string x,.string y,.bool true,.slice aL nL cL,.slice aP nP cP,.slice aB nB cB,.int .i64 e0,.int .i64 e1,.int .i64 e2,.string e3,.slice q q1 q2] w2 w.heap.size):=HR0_1.o.over hb
  clear hb m0x0 m0x1 m0x2 m0x3 m0x4 m0x5 m0x6 m0x7 m0x8 m0x9 m0x10 m0x11 m0x12 KX
  cases qx with
  | true =>
    by_cases hy0 : y.data.toList = []
    · obtain rfl:=ba_of_list hy0
      have hyy : qy = true:=by rw [HYE.o]; rfl
      subst hyy
      clear hy0 HYE
      obtain ⟨m0x0,m0x1,m0x2,m0x3,m0x4,m0x5,m0x6,m0x7,m0x8,m0x9,m0x10,m0x11,m0x12⟩:=rc13 HR0_2.o
      go_wp2_with fail
      refine (K46.o _ (HB2.o)).mono ?_
      rintro e w3 ⟨rfl,hb⟩
      have HB3 : Hx (Ov w w3):=over_trans (HB2.o) hb
      have HR0_3 : Hx (RowAt [.int .i64 5,.int .i64 a,.string x,.string ⟨#[]⟩,.bool true,.slice aL nL cL,.slice aP nP cP,.slice aB nB cB,.int .i64 e0,.int .i64 e1,.int .i64 e2,.string e3,.slice q q1 q2] w3 w.heap.size):=HR0_2.o.over hb
      clear hb m0x0 m0x1 m0x2 m0x3 m0x4 m0x5 m0x6 m0x7 m0x8 m0x9 m0x10 m0x11 m0x12 K46
      obtain ⟨m0x0,m0x1,m0x2,m0x3,m0x4,m0x5,m0x6,m0x7,m0x8,m0x9,m0x10,m0x11,m0x12⟩:=rc13 HR0_3.o
      go_wp2_with fail
      clear m0x0 m0x1 m0x2 m0x3 m0x4 m0x5 m0x6 m0x7 m0x8 m0x9 m0x10 m0x11 m0x12
      go_loopw [3] (fun i wr => ∃ (j : Nat),j≤nL∧i = .int .i64 j∧(lb.drop j).all polF = ql∧Ov w3 wr) (fun i _ => nL - (intOf i).toNat)
      case atStart => exact ⟨0,Nat.zero_le _,rfl,HQL.o.symm,Below.refl _ _⟩
      case round =>
        obtain ⟨j,hj,rfl,hp,hB⟩:=hrel
        by_cases hjl : j < nL
        · have hjl0 : j < lb.length:=by have:=HNL.o; omega
          have hji : (j : Int) < (nL : Int):=by omega
          obtain ⟨b,off,rfl,cs,hl4,hcs,hr⟩:=HLB.o.at hjl0
          rw [List.drop_eq_getElem_cons hjl0,List.all_cons] at hp
          generalize lb[j] = dj at hp hr
          obtain ⟨pa,po,pw,pn,pc,ns,rfl,rfl,ho,hN⟩:=hr
          unfold polF at hp
          simp only [gPp,all_dS nmS] at hp
          obtain ⟨q8,hq8⟩:=nm (nmS po.data.toList)
          obtain ⟨q9,hq9⟩:=nm (ns.all fun x => nmS x.data.toList)
          rw [← hq8,← hq9] at hp
          have hp' : (q8 && q9 && (lb.drop (j + 1)).all polF) = ql:=hp
          have hB3:=over_trans HB3.o hB
          have KC : Hx (∀ X,Ov wr X→Ro 77 #[.string po] X (.bool q8)):=fun X _ => by rw [hq8]; exact isNameR_c po X ho
          have HNN:=hide (lsN_over hB3 hN)
          have HQ9:=hide hq9
          obtain ⟨nN,hnN⟩:=nm ns.length
          have HLN:=hN.max
          rw [← hnN] at HLN hcs
          have HnN:=hide hnN
          have z1:=ce1 hB3 (hcs 1 _ rfl)
          have z3:=ce1 hB3 (hcs 3 _ rfl)
          have HZ3:=hide z3
          obtain ⟨n0,n1,n2,n3,n4,n5,n6,n7,n8,n9,n10,n11,n12⟩:=rc13 (HR0_3.o.over hB)
          have HP:=hide hp'
          have HB:=hide hB
          clear hp hp' hB hB3 hcs hl4 hq8 hq9 hjl0 ho hN hnN
          go_wp2_with fail
          refine (KC.o _ (Below.refl _ _)).mono ?_
          rintro e W6 ⟨rfl,hb⟩
          have HB6:=hide (over_trans HB.o hb)
          have HC6:=hide hb
          clear hb KC z1 z3 n0 n1 n2 n3 n4 n5 n6 n7 n8 n9 n10 n11 n12
          cases q8 with
          | false =>
            have hp:=HP.o
            simp at hp
            subst hp
            have HV : Hx (fin = false):=by have h:=HF.o; simp at h; exact h
            go_wp2_with fail
            go_ret
            exact ⟨by rw [HV.o]; rfl,over_trans HB3.o HB6.o⟩
          | true =>
            have hp:=HP.o
            rw [Bool.true_and] at hp
            replace HP:=hide hp
            clear hp
            go_wp2_with fail
            go_loopw [4] (fun i ws => ∃ (i2 : Nat),i2≤nN∧i = .int .i64 i2∧(ns.drop i2).all (fun x => nmS x.data.toList) = q9∧Ov W6 ws) (fun i _ => nN - (intOf i).toNat)
            case atStart => exact ⟨0,Nat.zero_le _,rfl,HQ9.o.symm,Below.refl _ _⟩
            case round =>
              obtain ⟨i,hi2,rfl,hpa,hB2⟩:=hrel
              have hBB:=over_trans HB6.o hB2
              obtain ⟨p0,p1,p2,p3,p4,p5,p6,p7,p8,p9,p10,p11,p12⟩:=rc13 (HR0_3.o.over hBB)
              have z3:=ce1 (over_trans HC6.o hB2) HZ3.o
              by_cases hil : i < nN
              · have hil0 : i < ns.length:=by have:=HnN.o; omega
                have hii : (i : Int) < (nN : Int):=by omega
                obtain ⟨ba,oa,rfl,ca,hl1,hca,hra⟩:=HNN.o.at hil0
                rw [List.drop_eq_getElem_cons hil0,List.all_cons] at hpa
                generalize ns[i] = da at hpa hra
                obtain ⟨q7,hq7⟩:=nm (nmS da.data.toList)
                rw [← hq7] at hpa
                have KQ : Hx (∀ X,Ov wr X→Ro 77 #[.string da] X (.bool q7)):=fun X _ => by rw [hq7]; exact isNameR_c da X hra.2
                rw [hra.1] at hca
                have y0 : wr.cell? ⟨ba,oa + i,none⟩ = some (.string da):=ce1 (over_trans HC6.o hB2) (by have:=hca 0 _ rfl; simpa using this)
                have HPA:=hide hpa
                have HBQ:=hide hB2
                clear hpa hB2 hBB hca hl1 hra hq7 hil0
                go_wp2_with fail
                refine (KQ.o _ (Below.refl _ _)).mono ?_
                rintro e W7 ⟨rfl,hb⟩
                have HB7:=hide (over_trans HBQ.o hb)
                clear hb KQ y0 z3 p0 p1 p2 p3 p4 p5 p6 p7 p8 p9 p10 p11 p12
                cases q7 with
                | true =>
                  have hp:=HPA.o
                  rw [Bool.true_and] at hp
                  replace HPA:=hide hp
                  clear hp
                  go_wp2_with fail
                  exact ⟨⟨i + 1,by omega,by go_num,HPA.o,HB7.o⟩,by simp [intOf]; omega⟩
                | false =>
                  have hp:=HPA.o
                  rw [Bool.false_and] at hp
                  subst hp
                  have hp:=HP.o
                  rw [Bool.false_and] at hp
                  subst hp
                  have HV : Hx (fin = false):=by have h:=HF.o; simp at h; exact h
                  go_wp2_with fail
                  go_ret
                  exact ⟨by rw [HV.o]; rfl,over_trans HB3.o (over_trans HB6.o HB7.o)⟩
              · have hd : ns.drop i = []:=List.drop_eq_nil_of_le (by have:=HnN.o; omega)
                have hii : ¬ (i : Int) < (nN : Int):=by omega
                rw [hd] at hpa
                have hq9 : true = q9:=by rw [← hpa]; rfl
                subst hq9
                have hp:=HP.o
                rw [Bool.true_and] at hp
                replace HP:=hide hp
                have HBQ:=hide hBB
                clear hp hd hpa hB2 hBB
                go_wp2_with fail
                exact ⟨⟨j + 1,by omega,by go_num,HP.o,HBQ.o⟩,by simp [intOf]; omega⟩
        · have hd : lb.drop j = []:=List.drop_eq_nil_of_le (by have:=HNL.o; omega)
          have hji : ¬ (j : Int) < (nL : Int):=by omega
          rw [hd] at hp
          have hql : true = ql:=by rw [← hp]; rfl
          subst hql
          have HBY:=hide (over_trans HB3.o hB)
          have HRY:=hide (HR0_3.o.over hB)
          clear hp hd hB HQL
          by_cases h1 : nP = 0
          · subst h1
            by_cases h2 : nB = 0
            · subst h2
              obtain ⟨m0x0,m0x1,m0x2,m0x3,m0x4,m0x5,m0x6,m0x7,m0x8,m0x9,m0x10,m0x11,m0x12⟩:=rc13 HRY.o
              go_wp2_with fail
              refine (KO.o _ (HBY.o)).mono ?_
              rintro e w71 ⟨rfl,hb⟩
              have HB71 : Hx (Ov w w71):=over_trans (HBY.o) hb
              have HR0_71 : Hx (RowAt [.int .i64 5,.int .i64 a,.string x,.string ⟨#[]⟩,.bool true,.slice aL nL cL,.slice aP 0 cP,.slice aB 0 cB,.int .i64 e0,.int .i64 e1,.int .i64 e2,.string e3,.slice q q1 q2] w71 w.heap.size):=HRY.o.over hb
              clear hb m0x0 m0x1 m0x2 m0x3 m0x4 m0x5 m0x6 m0x7 m0x8 m0x9 m0x10 m0x11 m0x12 KO
              have HV : Hx (fin = qo):=by have h:=HF.o; simp at h; exact h
              obtain ⟨m0x0,m0x1,m0x2,m0x3,m0x4,m0x5,m0x6,m0x7,m0x8,m0x9,m0x10,m0x11,m0x12⟩:=rc13 HR0_71.o
              go_wp2_with fail
              go_ret
              exact ⟨by rw [HV.o]; (first | rfl | (simp; done) | (simp; assumption) | (simp; omega)),HB71.o⟩
            · have hi : ¬ (nB : Int) = 0:=by omega
              have HV : Hx (fin = false):=by have h:=HF.o; simp [h2] at h; exact h
              obtain ⟨m0x0,m0x1,m0x2,m0x3,m0x4,m0x5,m0x6,m0x7,m0x8,m0x9,m0x10,m0x11,m0x12⟩:=rc13 HRY.o
              go_wp2_with fail
              go_ret
              exact ⟨by rw [HV.o]; (first | rfl | (simp; done) | (simp; assumption) | (simp; omega)),HBY.o⟩
          · have hi : ¬ (nP : Int) = 0:=by omega
            have HV : Hx (fin = false):=by have h:=HF.o; simp [h1] at h; exact h
            obtain ⟨m0x0,m0x1,m0x2,m0x3,m0x4,m0x5,m0x6,m0x7,m0x8,m0x9,m0x10,m0x11,m0x12⟩:=rc13 HRY.o
            go_wp2_with fail
            go_ret
            exact ⟨by rw [HV.o]; (first | rfl | (simp; done) | (simp; assumption) | (simp; omega)),HBY.o⟩
    · have hne:=ne_of_list hy0
      have hyy : qy = false:=by rw [HYE.o]; simpa using hy0
      subst hyy
      clear hy0 HYE
      have HV : Hx (fin = false):=by have h:=HF.o; simp at h; exact h
      obtain ⟨m0x0,m0x1,m0x2,m0x3,m0x4,m0x5,m0x6,m0x7,m0x8,m0x9,m0x10,m0x11,m0x12⟩:=rc13 HR0_2.o
      go_wp2_with fail
      go_ret
      exact ⟨by rw [HV.o]; (first | rfl | (simp; done) | (simp; assumption) | (simp; omega)),HB2.o⟩
  | false =>
    have HV : Hx (fin = false):=by have h:=HF.o; simp at h; exact h
    obtain ⟨m0x0,m0x1,m0x2,m0x3,m0x4,m0x5,m0x6,m0x7,m0x8,m0x9,m0x10,m0x11,m0x12⟩:=rc13 HR0_2.o
    go_wp2_with fail
    go_ret
    exact ⟨by rw [HV.o]; (first | rfl | (simp; done) | (simp; assumption) | (simp; omega)),HB2.o⟩
set_option maxHeartbeats 4000000 in
set_option maxRecDepth 100000 in
theorem isDecl_5f (ke kc : Nat) (a : Int) (x y : ByteArray) (aL : Option Addr) (cL : Nat) (lb : List D) (aP : Option Addr) (cP : Nat) (ps : List ByteArray) (aB : Option Addr) (cB : Nat) (body : List D) (e0 e1 e2 : Int) (e3 : ByteArray) (q : Option Addr) (q1 q2 : Nat) (r : D) (w : World) (hx : x.size≤maxLen) (hy : y.size≤maxLen) (hL : LS 4 (ZP w) w (.slice aL lb.length cL) lb) (hP : LS 1 ZN w (.slice aP ps.length cP) ps) (hB : LS 12 (ZC w ke kc) w (.slice aB body.length cB) body) (hR : ZE w ke [.int .i64 e0,.int .i64 e1,.int .i64 e2,.string e3,.slice q q1 q2] r) :
    Ro 38 #[.agg #[.int .i64 5,.int .i64 a,.string x,.string y,.bool false,.slice aL lb.length cL,.slice aP ps.length cP,.slice aB body.length cB,.int .i64 e0,.int .i64 e1,.int .i64 e2,.string e3,.slice q q1 q2]] w (.bool (dfK ke kc (deD 5 a x y false lb ps body r))):=by
  obtain ⟨fin,hfin⟩:=nm (dfK ke kc (deD 5 a x y false lb ps body r))
  rw [← hfin]
  unfold dfK labF funF at hfin
  simp only [gDd,all_dS nmS,emp_len,List.length_map] at hfin
  obtain ⟨qx,hqx⟩:=nm (nmS x.data.toList)
  obtain ⟨qy,hqy⟩:=nm (y.data.toList.isEmpty)
  obtain ⟨ql,hql⟩:=nm (lb.all polF)
  obtain ⟨qp,hqp⟩:=nm (ps.all fun x => nmS x.data.toList)
  obtain ⟨qb,hqb⟩:=nm (body.all (sfK ke kc))
  obtain ⟨qr,hqr⟩:=nm (efK ke r)
  obtain ⟨qo,hqo⟩:=nm (noEx r)
  obtain ⟨nL,hnL⟩:=nm lb.length
  obtain ⟨nP,hnP⟩:=nm ps.length
  obtain ⟨nB,hnB⟩:=nm body.length
  have hne : (lb≠[]) = (nL≠0):=by rw [hnL]; simp
  have hl0 : nL = 0→ql = true:=fun h => by rw [hql,List.length_eq_zero_iff.1 (hnL.symm.trans h)]; rfl
  simp only [← hqx,← hql,← hqp,← hqb,← hqr,← hqo,← hnP,← hnB,hne] at hfin
  have HF : Hx (fin = (qx && qy && false && (decide (nP = 0) && decide (nB = 0) && qo))):=by
    show _ = _
    rw [hfin,hqy]
    by_cases h0 : nL = 0
    · simp [nfS]
    · simp [nfS]
  have K17 : Hx (∀ X,Ov w X→Ro 76 #[.int .i64 5,.int .i64 1,.int .i64 7] X (.bool true)):=fun X _ => by simpa using between_c 5 1 7 X
  have K46 : Hx (∀ X,Ov w X→Ro 76 #[.int .i64 5,.int .i64 4,.int .i64 6] X (.bool true)):=fun X _ => by simpa using between_c 5 4 6 X
  have KX : Hx (∀ X,Ov w X→Ro 77 #[.string x] X (.bool qx)):=fun X _ => by rw [hqx]; exact isNameR_c x X hx
  have HYE:=hide hqy
  have KO : Hx (∀ X,Ov w X→Ro 78 #[.agg #[.int .i64 e0,.int .i64 e1,.int .i64 e2,.string e3,.slice q q1 q2]] X (.bool qo)):=fun X hX => by rw [hqo]; exact noExR_c ke _ r X (hR.over hX)
  have KR : Hx (∀ X,Ov w X→Ro 79 #[.agg #[.int .i64 e0,.int .i64 e1,.int .i64 e2,.string e3,.slice q q1 q2]] X (.bool qr)):=fun X hX => by rw [hqr]; exact isExpr_c ke _ r X (hR.over hX)
  have KBD : Hx (∀ X,Ov w X→Ro 39 #[.slice aB body.length cB] X (.bool qb)):=fun X hX => by rw [hqb]; exact areStmts_c ke kc body aB cB X (lsC_over hX hB)
  rw [← hnB] at KBD
  have HLL:=hL.max
  have HLP:=hP.max
  have HLBB:=hB.max
  rw [← hnL] at HLL
  rw [← hnP] at HLP
  rw [← hnB] at HLBB
  have HLB:=hide hL
  have HPS:=hide hP
  have HQL:=hide hql
  have HQP:=hide hqp
  have HNL:=hide hnL
  have HNP:=hide hnP
  rw [← hnL,← hnP,← hnB]
  clear hfin hqx hqy hql hqp hqb hqr hqo hne hl0 hL hP hB hR hnL hnP hnB hx hy
  go_enter Tryz.func38,Tryz.ntmps38
  go_wp2_with fail
  refine (K17.o _ (bA w (.cells #[.int .i64 5,.int .i64 a,.string x,.string y,.bool false,.slice aL nL cL,.slice aP nP cP,.slice aB nB cB,.int .i64 e0,.int .i64 e1,.int .i64 e2,.string e3,.slice q q1 q2] 51))).mono ?_
  rintro e w1 ⟨rfl,hb⟩
  have HB1 : Hx (Ov w w1):=over_trans (bA w (.cells #[.int .i64 5,.int .i64 a,.string x,.string y,.bool false,.slice aL nL cL,.slice aP nP cP,.slice aB nB cB,.int .i64 e0,.int .i64 e1,.int .i64 e2,.string e3,.slice q q1 q2] 51)) hb
  have HR0_1 : Hx (RowAt [.int .i64 5,.int .i64 a,.string x,.string y,.bool false,.slice aL nL cL,.slice aP nP cP,.slice aB nB cB,.int .i64 e0,.int .i64 e1,.int .i64 e2,.string e3,.slice q q1 q2] w1 w.heap.size):=RowAt.over (al10 w [.int .i64 5,.int .i64 a,.string x,.string y,.bool false,.slice aL nL cL,.slice aP nP cP,.slice aB nB cB,.int .i64 e0,.int .i64 e1,.int .i64 e2,.string e3,.slice q q1 q2] 51) hb
  clear hb  K17
  obtain ⟨m0x0,m0x1,m0x2,m0x3,m0x4,m0x5,m0x6,m0x7,m0x8,m0x9,m0x10,m0x11,m0x12⟩:=rc13 HR0_1.o
  go_wp2_with fail
  refine (KX.o _ (HB1.o)).mono ?_
  rintro e w2 ⟨rfl,hb⟩
  have HB2 : Hx (Ov w w2):=over_trans (HB1.o) hb
  have HR0_2 : Hx (RowAt [.int .i64 5,.int .i64 a,.string x,.string y,.bool false,.slice aL nL cL,.slice aP nP cP,.slice aB nB cB,.int .i64 e0,.int .i64 e1,.int .i64 e2,.string e3,.slice q q1 q2] w2 w.heap.size):=HR0_1.o.over hb
  clear hb m0x0 m0x1 m0x2 m0x3 m0x4 m0x5 m0x6 m0x7 m0x8 m0x9 m0x10 m0x11 m0x12 KX
  cases qx with
  | true =>
    by_cases hy0 : y.data.toList = []
    · obtain rfl:=ba_of_list hy0
      have hyy : qy = true:=by rw [HYE.o]; rfl
      subst hyy
      clear hy0 HYE
      have HV : Hx (fin = false):=by have h:=HF.o; simp at h; exact h
      obtain ⟨m0x0,m0x1,m0x2,m0x3,m0x4,m0x5,m0x6,m0x7,m0x8,m0x9,m0x10,m0x11,m0x12⟩:=rc13 HR0_2.o
      go_wp2_with fail
      go_ret
      exact ⟨by rw [HV.o]; (first | rfl | (simp; done) | (simp; assumption) | (simp; omega)),HB2.o⟩
    · have hne:=ne_of_list hy0
      have hyy : qy = false:=by rw [HYE.o]; simpa using hy0
      subst hyy
      clear hy0 HYE
      have HV : Hx (fin = false):=by have h:=HF.o; simp at h; exact h
      obtain ⟨m0x0,m0x1,m0x2,m0x3,m0x4,m0x5,m0x6,m0x7,m0x8,m0x9,m0x10,m0x11,m0x12⟩:=rc13 HR0_2.o
      go_wp2_with fail
      go_ret
      exact ⟨by rw [HV.o]; (first | rfl | (simp; done) | (simp; assumption) | (simp; omega)),HB2.o⟩
  | false =>
    have HV : Hx (fin = false):=by have h:=HF.o; simp at h; exact h
    obtain ⟨m0x0,m0x1,m0x2,m0x3,m0x4,m0x5,m0x6,m0x7,m0x8,m0x9,m0x10,m0x11,m0x12⟩:=rc13 HR0_2.o
    go_wp2_with fail
    go_ret
    exact ⟨by rw [HV.o]; (first | rfl | (simp; done) | (simp; assumption) | (simp; omega)),HB2.o⟩
set_option maxHeartbeats 4000000 in
set_option maxRecDepth 100000 in
theorem isDecl_6t (ke kc : Nat) (a : Int) (x y : ByteArray) (aL : Option Addr) (cL : Nat) (lb : List D) (aP : Option Addr) (cP : Nat) (ps : List ByteArray) (aB : Option Addr) (cB : Nat) (body : List D) (e0 e1 e2 : Int) (e3 : ByteArray) (q : Option Addr) (q1 q2 : Nat) (r : D) (w : World) (hx : x.size≤maxLen) (hy : y.size≤maxLen) (hL : LS 4 (ZP w) w (.slice aL lb.length cL) lb) (hP : LS 1 ZN w (.slice aP ps.length cP) ps) (hB : LS 12 (ZC w ke kc) w (.slice aB body.length cB) body) (hR : ZE w ke [.int .i64 e0,.int .i64 e1,.int .i64 e2,.string e3,.slice q q1 q2] r) :
    Ro 38 #[.agg #[.int .i64 6,.int .i64 a,.string x,.string y,.bool true,.slice aL lb.length cL,.slice aP ps.length cP,.slice aB body.length cB,.int .i64 e0,.int .i64 e1,.int .i64 e2,.string e3,.slice q q1 q2]] w (.bool (dfK ke kc (deD 6 a x y true lb ps body r))):=by
  obtain ⟨fin,hfin⟩:=nm (dfK ke kc (deD 6 a x y true lb ps body r))
  rw [← hfin]
  unfold dfK labF funF at hfin
  simp only [gDd,all_dS nmS,emp_len,List.length_map] at hfin
  obtain ⟨qx,hqx⟩:=nm (nmS x.data.toList)
  obtain ⟨qy,hqy⟩:=nm (y.data.toList.isEmpty)
  obtain ⟨ql,hql⟩:=nm (lb.all polF)
  obtain ⟨qp,hqp⟩:=nm (ps.all fun x => nmS x.data.toList)
  obtain ⟨qb,hqb⟩:=nm (body.all (sfK ke kc))
  obtain ⟨qr,hqr⟩:=nm (efK ke r)
  obtain ⟨qo,hqo⟩:=nm (noEx r)
  obtain ⟨nL,hnL⟩:=nm lb.length
  obtain ⟨nP,hnP⟩:=nm ps.length
  obtain ⟨nB,hnB⟩:=nm body.length
  have hne : (lb≠[]) = (nL≠0):=by rw [hnL]; simp
  have hl0 : nL = 0→ql = true:=fun h => by rw [hql,List.length_eq_zero_iff.1 (hnL.symm.trans h)]; rfl
  simp only [← hqx,← hql,← hqp,← hqb,← hqr,← hqo,← hnP,← hnB,hne] at hfin
  have HF : Hx (fin = (qx && qy && ql && (decide (nP = 0) && decide (nB = 0) && qo))):=by
    show _ = _
    rw [hfin,hqy]
    by_cases h0 : nL = 0
    · simp [nfS]
    · simp [nfS]
  have K17 : Hx (∀ X,Ov w X→Ro 76 #[.int .i64 6,.int .i64 1,.int .i64 7] X (.bool true)):=fun X _ => by simpa using between_c 6 1 7 X
  have K46 : Hx (∀ X,Ov w X→Ro 76 #[.int .i64 6,.int .i64 4,.int .i64 6] X (.bool true)):=fun X _ => by simpa using between_c 6 4 6 X
  have KX : Hx (∀ X,Ov w X→Ro 77 #[.string x] X (.bool qx)):=fun X _ => by rw [hqx]; exact isNameR_c x X hx
  have HYE:=hide hqy
  have KO : Hx (∀ X,Ov w X→Ro 78 #[.agg #[.int .i64 e0,.int .i64 e1,.int .i64 e2,.string e3,.slice q q1 q2]] X (.bool qo)):=fun X hX => by rw [hqo]; exact noExR_c ke _ r X (hR.over hX)
  have KR : Hx (∀ X,Ov w X→Ro 79 #[.agg #[.int .i64 e0,.int .i64 e1,.int .i64 e2,.string e3,.slice q q1 q2]] X (.bool qr)):=fun X hX => by rw [hqr]; exact isExpr_c ke _ r X (hR.over hX)
  have KBD : Hx (∀ X,Ov w X→Ro 39 #[.slice aB body.length cB] X (.bool qb)):=fun X hX => by rw [hqb]; exact areStmts_c ke kc body aB cB X (lsC_over hX hB)
  rw [← hnB] at KBD
  have HLL:=hL.max
  have HLP:=hP.max
  have HLBB:=hB.max
  rw [← hnL] at HLL
  rw [← hnP] at HLP
  rw [← hnB] at HLBB
  have HLB:=hide hL
  have HPS:=hide hP
  have HQL:=hide hql
  have HQP:=hide hqp
  have HNL:=hide hnL
  have HNP:=hide hnP
  rw [← hnL,← hnP,← hnB]
  clear hfin hqx hqy hql hqp hqb hqr hqo hne hl0 hL hP hB hR hnL hnP hnB hx hy
  go_enter Tryz.func38,Tryz.ntmps38
  go_wp2_with fail
  refine (K17.o _ (bA w (.cells #[.int .i64 6,.int .i64 a,.string x,.string y,.bool true,.slice aL nL cL,.slice aP nP cP,.slice aB nB cB,.int .i64 e0,.int .i64 e1,.int .i64 e2,.string e3,.slice q q1 q2] 51))).mono ?_
  rintro e w1 ⟨rfl,hb⟩
  have HB1 : Hx (Ov w w1):=over_trans (bA w (.cells #[.int .i64 6,.int .i64 a,.string x,.string y,.bool true,.slice aL nL cL,.slice aP nP cP,.slice aB nB cB,.int .i64 e0,.int .i64 e1,.int .i64 e2,.string e3,.slice q q1 q2] 51)) hb
  have HR0_1 : Hx (RowAt [.int .i64 6,.int .i64 a,.string x,.string y,.bool true,.slice aL nL cL,.slice aP nP cP,.slice aB nB cB,.int .i64 e0,.int .i64 e1,.int .i64 e2,.string e3,.slice q q1 q2] w1 w.heap.size):=RowAt.over (al10 w [.int .i64 6,.int .i64 a,.string x,.string y,.bool true,.slice aL nL cL,.slice aP nP cP,.slice aB nB cB,.int .i64 e0,.int .i64 e1,.int .i64 e2,.string e3,.slice q q1 q2] 51) hb
  clear hb  K17
  obtain ⟨m0x0,m0x1,m0x2,m0x3,m0x4,m0x5,m0x6,m0x7,m0x8,m0x9,m0x10,m0x11,m0x12⟩:=rc13 HR0_1.o
  go_wp2_with fail
  refine (KX.o _ (HB1.o)).mono ?_
  rintro e w2 ⟨rfl,hb⟩
  have HB2 : Hx (Ov w w2):=over_trans (HB1.o) hb
  have HR0_2 : Hx (RowAt [.int .i64 6,.int .i64 a,.string x,.string y,.bool true,.slice aL nL cL,.slice aP nP cP,.slice aB nB cB,.int .i64 e0,.int .i64 e1,.int .i64 e2,.string e3,.slice q q1 q2] w2 w.heap.size):=HR0_1.o.over hb
  clear hb m0x0 m0x1 m0x2 m0x3 m0x4 m0x5 m0x6 m0x7 m0x8 m0x9 m0x10 m0x11 m0x12 KX
  cases qx with
  | true =>
    by_cases hy0 : y.data.toList = []
    · obtain rfl:=ba_of_list hy0
      have hyy : qy = true:=by rw [HYE.o]; rfl
      subst hyy
      clear hy0 HYE
      obtain ⟨m0x0,m0x1,m0x2,m0x3,m0x4,m0x5,m0x6,m0x7,m0x8,m0x9,m0x10,m0x11,m0x12⟩:=rc13 HR0_2.o
      go_wp2_with fail
      refine (K46.o _ (HB2.o)).mono ?_
      rintro e w3 ⟨rfl,hb⟩
      have HB3 : Hx (Ov w w3):=over_trans (HB2.o) hb
      have HR0_3 : Hx (RowAt [.int .i64 6,.int .i64 a,.string x,.string ⟨#[]⟩,.bool true,.slice aL nL cL,.slice aP nP cP,.slice aB nB cB,.int .i64 e0,.int .i64 e1,.int .i64 e2,.string e3,.slice q q1 q2] w3 w.heap.size):=HR0_2.o.over hb
      clear hb m0x0 m0x1 m0x2 m0x3 m0x4 m0x5 m0x6 m0x7 m0x8 m0x9 m0x10 m0x11 m0x12 K46
      obtain ⟨m0x0,m0x1,m0x2,m0x3,m0x4,m0x5,m0x6,m0x7,m0x8,m0x9,m0x10,m0x11,m0x12⟩:=rc13 HR0_3.o
      go_wp2_with fail
      clear m0x0 m0x1 m0x2 m0x3 m0x4 m0x5 m0x6 m0x7 m0x8 m0x9 m0x10 m0x11 m0x12
      go_loopw [3] (fun i wr => ∃ (j : Nat),j≤nL∧i = .int .i64 j∧(lb.drop j).all polF = ql∧Ov w3 wr) (fun i _ => nL - (intOf i).toNat)
      case atStart => exact ⟨0,Nat.zero_le _,rfl,HQL.o.symm,Below.refl _ _⟩
      case round =>
        obtain ⟨j,hj,rfl,hp,hB⟩:=hrel
        by_cases hjl : j < nL
        · have hjl0 : j < lb.length:=by have:=HNL.o; omega
          have hji : (j : Int) < (nL : Int):=by omega
          obtain ⟨b,off,rfl,cs,hl4,hcs,hr⟩:=HLB.o.at hjl0
          rw [List.drop_eq_getElem_cons hjl0,List.all_cons] at hp
          generalize lb[j] = dj at hp hr
          obtain ⟨pa,po,pw,pn,pc,ns,rfl,rfl,ho,hN⟩:=hr
          unfold polF at hp
          simp only [gPp,all_dS nmS] at hp
          obtain ⟨q8,hq8⟩:=nm (nmS po.data.toList)
          obtain ⟨q9,hq9⟩:=nm (ns.all fun x => nmS x.data.toList)
          rw [← hq8,← hq9] at hp
          have hp' : (q8 && q9 && (lb.drop (j + 1)).all polF) = ql:=hp
          have hB3:=over_trans HB3.o hB
          have KC : Hx (∀ X,Ov wr X→Ro 77 #[.string po] X (.bool q8)):=fun X _ => by rw [hq8]; exact isNameR_c po X ho
          have HNN:=hide (lsN_over hB3 hN)
          have HQ9:=hide hq9
          obtain ⟨nN,hnN⟩:=nm ns.length
          have HLN:=hN.max
          rw [← hnN] at HLN hcs
          have HnN:=hide hnN
          have z1:=ce1 hB3 (hcs 1 _ rfl)
          have z3:=ce1 hB3 (hcs 3 _ rfl)
          have HZ3:=hide z3
          obtain ⟨n0,n1,n2,n3,n4,n5,n6,n7,n8,n9,n10,n11,n12⟩:=rc13 (HR0_3.o.over hB)
          have HP:=hide hp'
          have HB:=hide hB
          clear hp hp' hB hB3 hcs hl4 hq8 hq9 hjl0 ho hN hnN
          go_wp2_with fail
          refine (KC.o _ (Below.refl _ _)).mono ?_
          rintro e W6 ⟨rfl,hb⟩
          have HB6:=hide (over_trans HB.o hb)
          have HC6:=hide hb
          clear hb KC z1 z3 n0 n1 n2 n3 n4 n5 n6 n7 n8 n9 n10 n11 n12
          cases q8 with
          | false =>
            have hp:=HP.o
            simp at hp
            subst hp
            have HV : Hx (fin = false):=by have h:=HF.o; simp at h; exact h
            go_wp2_with fail
            go_ret
            exact ⟨by rw [HV.o]; rfl,over_trans HB3.o HB6.o⟩
          | true =>
            have hp:=HP.o
            rw [Bool.true_and] at hp
            replace HP:=hide hp
            clear hp
            go_wp2_with fail
            go_loopw [4] (fun i ws => ∃ (i2 : Nat),i2≤nN∧i = .int .i64 i2∧(ns.drop i2).all (fun x => nmS x.data.toList) = q9∧Ov W6 ws) (fun i _ => nN - (intOf i).toNat)
            case atStart => exact ⟨0,Nat.zero_le _,rfl,HQ9.o.symm,Below.refl _ _⟩
            case round =>
              obtain ⟨i,hi2,rfl,hpa,hB2⟩:=hrel
              have hBB:=over_trans HB6.o hB2
              obtain ⟨p0,p1,p2,p3,p4,p5,p6,p7,p8,p9,p10,p11,p12⟩:=rc13 (HR0_3.o.over hBB)
              have z3:=ce1 (over_trans HC6.o hB2) HZ3.o
              by_cases hil : i < nN
              · have hil0 : i < ns.length:=by have:=HnN.o; omega
                have hii : (i : Int) < (nN : Int):=by omega
                obtain ⟨ba,oa,rfl,ca,hl1,hca,hra⟩:=HNN.o.at hil0
                rw [List.drop_eq_getElem_cons hil0,List.all_cons] at hpa
                generalize ns[i] = da at hpa hra
                obtain ⟨q7,hq7⟩:=nm (nmS da.data.toList)
                rw [← hq7] at hpa
                have KQ : Hx (∀ X,Ov wr X→Ro 77 #[.string da] X (.bool q7)):=fun X _ => by rw [hq7]; exact isNameR_c da X hra.2
                rw [hra.1] at hca
                have y0 : wr.cell? ⟨ba,oa + i,none⟩ = some (.string da):=ce1 (over_trans HC6.o hB2) (by have:=hca 0 _ rfl; simpa using this)
                have HPA:=hide hpa
                have HBQ:=hide hB2
                clear hpa hB2 hBB hca hl1 hra hq7 hil0
                go_wp2_with fail
                refine (KQ.o _ (Below.refl _ _)).mono ?_
                rintro e W7 ⟨rfl,hb⟩
                have HB7:=hide (over_trans HBQ.o hb)
                clear hb KQ y0 z3 p0 p1 p2 p3 p4 p5 p6 p7 p8 p9 p10 p11 p12
                cases q7 with
                | true =>
                  have hp:=HPA.o
                  rw [Bool.true_and] at hp
                  replace HPA:=hide hp
                  clear hp
                  go_wp2_with fail
                  exact ⟨⟨i + 1,by omega,by go_num,HPA.o,HB7.o⟩,by simp [intOf]; omega⟩
                | false =>
                  have hp:=HPA.o
                  rw [Bool.false_and] at hp
                  subst hp
                  have hp:=HP.o
                  rw [Bool.false_and] at hp
                  subst hp
                  have HV : Hx (fin = false):=by have h:=HF.o; simp at h; exact h
                  go_wp2_with fail
                  go_ret
                  exact ⟨by rw [HV.o]; rfl,over_trans HB3.o (over_trans HB6.o HB7.o)⟩
              · have hd : ns.drop i = []:=List.drop_eq_nil_of_le (by have:=HnN.o; omega)
                have hii : ¬ (i : Int) < (nN : Int):=by omega
                rw [hd] at hpa
                have hq9 : true = q9:=by rw [← hpa]; rfl
                subst hq9
                have hp:=HP.o
                rw [Bool.true_and] at hp
                replace HP:=hide hp
                have HBQ:=hide hBB
                clear hp hd hpa hB2 hBB
                go_wp2_with fail
                exact ⟨⟨j + 1,by omega,by go_num,HP.o,HBQ.o⟩,by simp [intOf]; omega⟩
        · have hd : lb.drop j = []:=List.drop_eq_nil_of_le (by have:=HNL.o; omega)
          have hji : ¬ (j : Int) < (nL : Int):=by omega
          rw [hd] at hp
          have hql : true = ql:=by rw [← hp]; rfl
          subst hql
          have HBY:=hide (over_trans HB3.o hB)
          have HRY:=hide (HR0_3.o.over hB)
          clear hp hd hB HQL
          by_cases h1 : nP = 0
          · subst h1
            by_cases h2 : nB = 0
            · subst h2
              obtain ⟨m0x0,m0x1,m0x2,m0x3,m0x4,m0x5,m0x6,m0x7,m0x8,m0x9,m0x10,m0x11,m0x12⟩:=rc13 HRY.o
              go_wp2_with fail
              refine (KO.o _ (HBY.o)).mono ?_
              rintro e w71 ⟨rfl,hb⟩
              have HB71 : Hx (Ov w w71):=over_trans (HBY.o) hb
              have HR0_71 : Hx (RowAt [.int .i64 6,.int .i64 a,.string x,.string ⟨#[]⟩,.bool true,.slice aL nL cL,.slice aP 0 cP,.slice aB 0 cB,.int .i64 e0,.int .i64 e1,.int .i64 e2,.string e3,.slice q q1 q2] w71 w.heap.size):=HRY.o.over hb
              clear hb m0x0 m0x1 m0x2 m0x3 m0x4 m0x5 m0x6 m0x7 m0x8 m0x9 m0x10 m0x11 m0x12 KO
              have HV : Hx (fin = qo):=by have h:=HF.o; simp at h; exact h
              obtain ⟨m0x0,m0x1,m0x2,m0x3,m0x4,m0x5,m0x6,m0x7,m0x8,m0x9,m0x10,m0x11,m0x12⟩:=rc13 HR0_71.o
              go_wp2_with fail
              go_ret
              exact ⟨by rw [HV.o]; (first | rfl | (simp; done) | (simp; assumption) | (simp; omega)),HB71.o⟩
            · have hi : ¬ (nB : Int) = 0:=by omega
              have HV : Hx (fin = false):=by have h:=HF.o; simp [h2] at h; exact h
              obtain ⟨m0x0,m0x1,m0x2,m0x3,m0x4,m0x5,m0x6,m0x7,m0x8,m0x9,m0x10,m0x11,m0x12⟩:=rc13 HRY.o
              go_wp2_with fail
              go_ret
              exact ⟨by rw [HV.o]; (first | rfl | (simp; done) | (simp; assumption) | (simp; omega)),HBY.o⟩
          · have hi : ¬ (nP : Int) = 0:=by omega
            have HV : Hx (fin = false):=by have h:=HF.o; simp [h1] at h; exact h
            obtain ⟨m0x0,m0x1,m0x2,m0x3,m0x4,m0x5,m0x6,m0x7,m0x8,m0x9,m0x10,m0x11,m0x12⟩:=rc13 HRY.o
            go_wp2_with fail
            go_ret
            exact ⟨by rw [HV.o]; (first | rfl | (simp; done) | (simp; assumption) | (simp; omega)),HBY.o⟩
    · have hne:=ne_of_list hy0
      have hyy : qy = false:=by rw [HYE.o]; simpa using hy0
      subst hyy
      clear hy0 HYE
      have HV : Hx (fin = false):=by have h:=HF.o; simp at h; exact h
      obtain ⟨m0x0,m0x1,m0x2,m0x3,m0x4,m0x5,m0x6,m0x7,m0x8,m0x9,m0x10,m0x11,m0x12⟩:=rc13 HR0_2.o
      go_wp2_with fail
      go_ret
      exact ⟨by rw [HV.o]; (first | rfl | (simp; done) | (simp; assumption) | (simp; omega)),HB2.o⟩
  | false =>
    have HV : Hx (fin = false):=by have h:=HF.o; simp at h; exact h
    obtain ⟨m0x0,m0x1,m0x2,m0x3,m0x4,m0x5,m0x6,m0x7,m0x8,m0x9,m0x10,m0x11,m0x12⟩:=rc13 HR0_2.o
    go_wp2_with fail
    go_ret
    exact ⟨by rw [HV.o]; (first | rfl | (simp; done) | (simp; assumption) | (simp; omega)),HB2.o⟩
set_option maxHeartbeats 4000000 in
set_option maxRecDepth 100000 in
theorem isDecl_6f (ke kc : Nat) (a : Int) (x y : ByteArray) (aL : Option Addr) (cL : Nat) (lb : List D) (aP : Option Addr) (cP : Nat) (ps : List ByteArray) (aB : Option Addr) (cB : Nat) (body : List D) (e0 e1 e2 : Int) (e3 : ByteArray) (q : Option Addr) (q1 q2 : Nat) (r : D) (w : World) (hx : x.size≤maxLen) (hy : y.size≤maxLen) (hL : LS 4 (ZP w) w (.slice aL lb.length cL) lb) (hP : LS 1 ZN w (.slice aP ps.length cP) ps) (hB : LS 12 (ZC w ke kc) w (.slice aB body.length cB) body) (hR : ZE w ke [.int .i64 e0,.int .i64 e1,.int .i64 e2,.string e3,.slice q q1 q2] r) :
    Ro 38 #[.agg #[.int .i64 6,.int .i64 a,.string x,.string y,.bool false,.slice aL lb.length cL,.slice aP ps.length cP,.slice aB body.length cB,.int .i64 e0,.int .i64 e1,.int .i64 e2,.string e3,.slice q q1 q2]] w (.bool (dfK ke kc (deD 6 a x y false lb ps body r))):=by
  obtain ⟨fin,hfin⟩:=nm (dfK ke kc (deD 6 a x y false lb ps body r))
  rw [← hfin]
  unfold dfK labF funF at hfin
  simp only [gDd,all_dS nmS,emp_len,List.length_map] at hfin
  obtain ⟨qx,hqx⟩:=nm (nmS x.data.toList)
  obtain ⟨qy,hqy⟩:=nm (y.data.toList.isEmpty)
  obtain ⟨ql,hql⟩:=nm (lb.all polF)
  obtain ⟨qp,hqp⟩:=nm (ps.all fun x => nmS x.data.toList)
  obtain ⟨qb,hqb⟩:=nm (body.all (sfK ke kc))
  obtain ⟨qr,hqr⟩:=nm (efK ke r)
  obtain ⟨qo,hqo⟩:=nm (noEx r)
  obtain ⟨nL,hnL⟩:=nm lb.length
  obtain ⟨nP,hnP⟩:=nm ps.length
  obtain ⟨nB,hnB⟩:=nm body.length
  have hne : (lb≠[]) = (nL≠0):=by rw [hnL]; simp
  have hl0 : nL = 0→ql = true:=fun h => by rw [hql,List.length_eq_zero_iff.1 (hnL.symm.trans h)]; rfl
  simp only [← hqx,← hql,← hqp,← hqb,← hqr,← hqo,← hnP,← hnB,hne] at hfin
  have HF : Hx (fin = (qx && qy && decide (nL = 0) && (decide (nP = 0) && decide (nB = 0) && qo))):=by
    show _ = _
    rw [hfin,hqy]
    by_cases h0 : nL = 0
    · simp [h0,nfS,hl0 h0]
    · simp [h0,nfS]
  have K17 : Hx (∀ X,Ov w X→Ro 76 #[.int .i64 6,.int .i64 1,.int .i64 7] X (.bool true)):=fun X _ => by simpa using between_c 6 1 7 X
  have K46 : Hx (∀ X,Ov w X→Ro 76 #[.int .i64 6,.int .i64 4,.int .i64 6] X (.bool true)):=fun X _ => by simpa using between_c 6 4 6 X
  have KX : Hx (∀ X,Ov w X→Ro 77 #[.string x] X (.bool qx)):=fun X _ => by rw [hqx]; exact isNameR_c x X hx
  have HYE:=hide hqy
  have KO : Hx (∀ X,Ov w X→Ro 78 #[.agg #[.int .i64 e0,.int .i64 e1,.int .i64 e2,.string e3,.slice q q1 q2]] X (.bool qo)):=fun X hX => by rw [hqo]; exact noExR_c ke _ r X (hR.over hX)
  have KR : Hx (∀ X,Ov w X→Ro 79 #[.agg #[.int .i64 e0,.int .i64 e1,.int .i64 e2,.string e3,.slice q q1 q2]] X (.bool qr)):=fun X hX => by rw [hqr]; exact isExpr_c ke _ r X (hR.over hX)
  have KBD : Hx (∀ X,Ov w X→Ro 39 #[.slice aB body.length cB] X (.bool qb)):=fun X hX => by rw [hqb]; exact areStmts_c ke kc body aB cB X (lsC_over hX hB)
  rw [← hnB] at KBD
  have HLL:=hL.max
  have HLP:=hP.max
  have HLBB:=hB.max
  rw [← hnL] at HLL
  rw [← hnP] at HLP
  rw [← hnB] at HLBB
  have HLB:=hide hL
  have HPS:=hide hP
  have HQL:=hide hql
  have HQP:=hide hqp
  have HNL:=hide hnL
  have HNP:=hide hnP
  rw [← hnL,← hnP,← hnB]
  clear hfin hqx hqy hql hqp hqb hqr hqo hne hl0 hL hP hB hR hnL hnP hnB hx hy
  go_enter Tryz.func38,Tryz.ntmps38
  go_wp2_with fail
  refine (K17.o _ (bA w (.cells #[.int .i64 6,.int .i64 a,.string x,.string y,.bool false,.slice aL nL cL,.slice aP nP cP,.slice aB nB cB,.int .i64 e0,.int .i64 e1,.int .i64 e2,.string e3,.slice q q1 q2] 51))).mono ?_
  rintro e w1 ⟨rfl,hb⟩
  have HB1 : Hx (Ov w w1):=over_trans (bA w (.cells #[.int .i64 6,.int .i64 a,.string x,.string y,.bool false,.slice aL nL cL,.slice aP nP cP,.slice aB nB cB,.int .i64 e0,.int .i64 e1,.int .i64 e2,.string e3,.slice q q1 q2] 51)) hb
  have HR0_1 : Hx (RowAt [.int .i64 6,.int .i64 a,.string x,.string y,.bool false,.slice aL nL cL,.slice aP nP cP,.slice aB nB cB,.int .i64 e0,.int .i64 e1,.int .i64 e2,.string e3,.slice q q1 q2] w1 w.heap.size):=RowAt.over (al10 w [.int .i64 6,.int .i64 a,.string x,.string y,.bool false,.slice aL nL cL,.slice aP nP cP,.slice aB nB cB,.int .i64 e0,.int .i64 e1,.int .i64 e2,.string e3,.slice q q1 q2] 51) hb
  clear hb  K17
  obtain ⟨m0x0,m0x1,m0x2,m0x3,m0x4,m0x5,m0x6,m0x7,m0x8,m0x9,m0x10,m0x11,m0x12⟩:=rc13 HR0_1.o
  go_wp2_with fail
  refine (KX.o _ (HB1.o)).mono ?_
  rintro e w2 ⟨rfl,hb⟩
  have HB2 : Hx (Ov w w2):=over_trans (HB1.o) hb
  have HR0_2 : Hx (RowAt [.int .i64 6,.int .i64 a,.string x,.string y,.bool false,.slice aL nL cL,.slice aP nP cP,.slice aB nB cB,.int .i64 e0,.int .i64 e1,.int .i64 e2,.string e3,.slice q q1 q2] w2 w.heap.size):=HR0_1.o.over hb
  clear hb m0x0 m0x1 m0x2 m0x3 m0x4 m0x5 m0x6 m0x7 m0x8 m0x9 m0x10 m0x11 m0x12 KX
  cases qx with
  | true =>
    by_cases hy0 : y.data.toList = []
    · obtain rfl:=ba_of_list hy0
      have hyy : qy = true:=by rw [HYE.o]; rfl
      subst hyy
      clear hy0 HYE
      obtain ⟨m0x0,m0x1,m0x2,m0x3,m0x4,m0x5,m0x6,m0x7,m0x8,m0x9,m0x10,m0x11,m0x12⟩:=rc13 HR0_2.o
      go_wp2_with fail
      refine (K46.o _ (HB2.o)).mono ?_
      rintro e w3 ⟨rfl,hb⟩
      have HB3 : Hx (Ov w w3):=over_trans (HB2.o) hb
      have HR0_3 : Hx (RowAt [.int .i64 6,.int .i64 a,.string x,.string ⟨#[]⟩,.bool false,.slice aL nL cL,.slice aP nP cP,.slice aB nB cB,.int .i64 e0,.int .i64 e1,.int .i64 e2,.string e3,.slice q q1 q2] w3 w.heap.size):=HR0_2.o.over hb
      clear hb m0x0 m0x1 m0x2 m0x3 m0x4 m0x5 m0x6 m0x7 m0x8 m0x9 m0x10 m0x11 m0x12 K46
      by_cases h0 : nL = 0
      · subst h0
        obtain ⟨m0x0,m0x1,m0x2,m0x3,m0x4,m0x5,m0x6,m0x7,m0x8,m0x9,m0x10,m0x11,m0x12⟩:=rc13 HR0_3.o
        go_wp2_with fail
        clear m0x0 m0x1 m0x2 m0x3 m0x4 m0x5 m0x6 m0x7 m0x8 m0x9 m0x10 m0x11 m0x12
        go_loopw [3] (fun i wr => i = .int .i64 0∧w3 = wr) (fun _ _ => 0)
        case atStart => exact ⟨rfl,rfl⟩
        case round =>
          obtain ⟨rfl,rfl⟩:=hrel
          by_cases h1 : nP = 0
          · subst h1
            by_cases h2 : nB = 0
            · subst h2
              obtain ⟨m0x0,m0x1,m0x2,m0x3,m0x4,m0x5,m0x6,m0x7,m0x8,m0x9,m0x10,m0x11,m0x12⟩:=rc13 HR0_3.o
              go_wp2_with fail
              refine (KO.o _ (HB3.o)).mono ?_
              rintro e w4 ⟨rfl,hb⟩
              have HB4 : Hx (Ov w w4):=over_trans (HB3.o) hb
              have HR0_4 : Hx (RowAt [.int .i64 6,.int .i64 a,.string x,.string ⟨#[]⟩,.bool false,.slice aL 0 cL,.slice aP 0 cP,.slice aB 0 cB,.int .i64 e0,.int .i64 e1,.int .i64 e2,.string e3,.slice q q1 q2] w4 w.heap.size):=HR0_3.o.over hb
              clear hb m0x0 m0x1 m0x2 m0x3 m0x4 m0x5 m0x6 m0x7 m0x8 m0x9 m0x10 m0x11 m0x12 KO
              have HV : Hx (fin = qo):=by have h:=HF.o; simp at h; exact h
              obtain ⟨m0x0,m0x1,m0x2,m0x3,m0x4,m0x5,m0x6,m0x7,m0x8,m0x9,m0x10,m0x11,m0x12⟩:=rc13 HR0_4.o
              go_wp2_with fail
              go_ret
              exact ⟨by rw [HV.o]; (first | rfl | (simp; done) | (simp; assumption) | (simp; omega)),HB4.o⟩
            · have hi : ¬ (nB : Int) = 0:=by omega
              have HV : Hx (fin = false):=by have h:=HF.o; simp [h2] at h; exact h
              obtain ⟨m0x0,m0x1,m0x2,m0x3,m0x4,m0x5,m0x6,m0x7,m0x8,m0x9,m0x10,m0x11,m0x12⟩:=rc13 HR0_3.o
              go_wp2_with fail
              go_ret
              exact ⟨by rw [HV.o]; (first | rfl | (simp; done) | (simp; assumption) | (simp; omega)),HB3.o⟩
          · have hi : ¬ (nP : Int) = 0:=by omega
            have HV : Hx (fin = false):=by have h:=HF.o; simp [h1] at h; exact h
            obtain ⟨m0x0,m0x1,m0x2,m0x3,m0x4,m0x5,m0x6,m0x7,m0x8,m0x9,m0x10,m0x11,m0x12⟩:=rc13 HR0_3.o
            go_wp2_with fail
            go_ret
            exact ⟨by rw [HV.o]; (first | rfl | (simp; done) | (simp; assumption) | (simp; omega)),HB3.o⟩
      · have hi : (0 : Int) < (nL : Int):=by omega
        have hn0 : 0 < nL:=by omega
        have HV : Hx (fin = false):=by have h:=HF.o; simp [h0] at h; exact h
        obtain ⟨m0x0,m0x1,m0x2,m0x3,m0x4,m0x5,m0x6,m0x7,m0x8,m0x9,m0x10,m0x11,m0x12⟩:=rc13 HR0_3.o
        go_wp2_with fail
        go_ret
        exact ⟨by rw [HV.o]; (first | rfl | (simp; done) | (simp; assumption) | (simp; omega)),HB3.o⟩
    · have hne:=ne_of_list hy0
      have hyy : qy = false:=by rw [HYE.o]; simpa using hy0
      subst hyy
      clear hy0 HYE
      have HV : Hx (fin = false):=by have h:=HF.o; simp at h; exact h
      obtain ⟨m0x0,m0x1,m0x2,m0x3,m0x4,m0x5,m0x6,m0x7,m0x8,m0x9,m0x10,m0x11,m0x12⟩:=rc13 HR0_2.o
      go_wp2_with fail
      go_ret
      exact ⟨by rw [HV.o]; (first | rfl | (simp; done) | (simp; assumption) | (simp; omega)),HB2.o⟩
  | false =>
    have HV : Hx (fin = false):=by have h:=HF.o; simp at h; exact h
    obtain ⟨m0x0,m0x1,m0x2,m0x3,m0x4,m0x5,m0x6,m0x7,m0x8,m0x9,m0x10,m0x11,m0x12⟩:=rc13 HR0_2.o
    go_wp2_with fail
    go_ret
    exact ⟨by rw [HV.o]; (first | rfl | (simp; done) | (simp; assumption) | (simp; omega)),HB2.o⟩
end Go.Proofs.YtipngnjffjajpaaGreatDoor.Tx
