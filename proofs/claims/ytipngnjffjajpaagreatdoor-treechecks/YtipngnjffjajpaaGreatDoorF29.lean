/- The document's answer: declarations. -/
import Derived.Test.YtipngnjffjajpaaGreatDoorF28
namespace Go.Proofs.YtipngnjffjajpaaGreatDoor.Tx
open Go.RowKit
set_option linter.unusedVariables false
set_option maxHeartbeats 4000000 in
set_option maxRecDepth 100000 in
theorem isDecl_1t (ke kc : Nat) (a : Int) (x y : ByteArray) (aL : Option Addr) (cL : Nat) (lb : List D) (aP : Option Addr) (cP : Nat) (ps : List ByteArray) (aB : Option Addr) (cB : Nat) (body : List D) (e0 e1 e2 : Int) (e3 : ByteArray) (q : Option Addr) (q1 q2 : Nat) (r : D) (w : World) (hx : x.size≤maxLen) (hy : y.size≤maxLen) (hL : LS 4 (ZP w) w (.slice aL lb.length cL) lb) (hP : LS 1 ZN w (.slice aP ps.length cP) ps) (hB : LS 12 (ZC w ke kc) w (.slice aB body.length cB) body) (hR : ZE w ke [.int .i64 e0,.int .i64 e1,.int .i64 e2,.string e3,.slice q q1 q2] r) :
    Ro 38 #[.agg #[.int .i64 1,.int .i64 a,.string x,.string y,.bool true,.slice aL lb.length cL,.slice aP ps.length cP,.slice aB body.length cB,.int .i64 e0,.int .i64 e1,.int .i64 e2,.string e3,.slice q q1 q2]] w (.bool (dfK ke kc (deD 1 a x y true lb ps body r))):=by
  obtain ⟨fin,hfin⟩:=nm (dfK ke kc (deD 1 a x y true lb ps body r))
  rw [← hfin]
  unfold dfK labF funF at hfin
  simp only [gDd,all_dS nmS,emp_len,List.length_map] at hfin
  obtain ⟨qx,hqx⟩:=nm (nmS x.data.toList)
  obtain ⟨qy,hqy⟩:=nm (y.data.toList.isEmpty)
  obtain ⟨ql,hql⟩:=nm (lb.all polF)
  obtain ⟨qp,hqp⟩:=nm (ps.all fun x => nmS x.data.toList)
  obtain ⟨qb,hqb⟩:=nm (body.all (sfK ke kc))
  obtain ⟨qr,hqr⟩:=nm (efK ke r)
  obtain ⟨qo,hqo⟩:=nm (noEx r)
  obtain ⟨nL,hnL⟩:=nm lb.length
  obtain ⟨nP,hnP⟩:=nm ps.length
  obtain ⟨nB,hnB⟩:=nm body.length
  have hne : (lb≠[]) = (nL≠0):=by rw [hnL]; simp
  have hl0 : nL = 0→ql = true:=fun h => by rw [hql,List.length_eq_zero_iff.1 (hnL.symm.trans h)]; rfl
  simp only [← hqx,← hql,← hqp,← hqb,← hqr,← hqo,← hnP,← hnB,hne] at hfin
  have HF : Hx (fin = (qx && qy && (!true && decide (nL = 0)) && (decide (nP = 0) && decide (nB = 0) && qo))):=by
    show _ = _
    rw [hfin,hqy]
    by_cases h0 : nL = 0
    · simp [nfS]
    · simp [nfS]
  have K17 : Hx (∀ X,Ov w X→Ro 76 #[.int .i64 1,.int .i64 1,.int .i64 7] X (.bool true)):=fun X _ => by simpa using between_c 1 1 7 X
  have K46 : Hx (∀ X,Ov w X→Ro 76 #[.int .i64 1,.int .i64 4,.int .i64 6] X (.bool false)):=fun X _ => by simpa using between_c 1 4 6 X
  have KX : Hx (∀ X,Ov w X→Ro 77 #[.string x] X (.bool qx)):=fun X _ => by rw [hqx]; exact isNameR_c x X hx
  have HYE:=hide hqy
  have KO : Hx (∀ X,Ov w X→Ro 78 #[.agg #[.int .i64 e0,.int .i64 e1,.int .i64 e2,.string e3,.slice q q1 q2]] X (.bool qo)):=fun X hX => by rw [hqo]; exact noExR_c ke _ r X (hR.over hX)
  have KR : Hx (∀ X,Ov w X→Ro 79 #[.agg #[.int .i64 e0,.int .i64 e1,.int .i64 e2,.string e3,.slice q q1 q2]] X (.bool qr)):=fun X hX => by rw [hqr]; exact isExpr_c ke _ r X (hR.over hX)
  have KBD : Hx (∀ X,Ov w X→Ro 39 #[.slice aB body.length cB] X (.bool qb)):=fun X hX => by rw [hqb]; exact areStmts_c ke kc body aB cB X (lsC_over hX hB)
  rw [← hnB] at KBD
  have HLL:=hL.max
  have HLP:=hP.max
  have HLBB:=hB.max
  rw [← hnL] at HLL
  rw [← hnP] at HLP
  rw [← hnB] at HLBB
  have HLB:=hide hL
  have HPS:=hide hP
  have HQL:=hide hql
  have HQP:=hide hqp
  have HNL:=hide hnL
  have HNP:=hide hnP
  rw [← hnL,← hnP,← hnB]
  clear hfin hqx hqy hql hqp hqb hqr hqo hne hl0 hL hP hB hR hnL hnP hnB hx hy
  go_enter Tryz.func38,Tryz.ntmps38
  go_wp2_with fail
  refine (K17.o _ (bA w (.cells #[.int .i64 1,.int .i64 a,.string x,.string y,.bool true,.slice aL nL cL,.slice aP nP cP,.slice aB nB cB,.int .i64 e0,.int .i64 e1,.int .i64 e2,.string e3,.slice q q1 q2] 51))).mono ?_
  rintro e w1 ⟨rfl,hb⟩
  have HB1 : Hx (Ov w w1):=over_trans (bA w (.cells #[.int .i64 1,.int .i64 a,.string x,.string y,.bool true,.slice aL nL cL,.slice aP nP cP,.slice aB nB cB,.int .i64 e0,.int .i64 e1,.int .i64 e2,.string e3,.slice q q1 q2] 51)) hb
  have HR0_1 : Hx (RowAt [.int .i64 1,.int .i64 a,.string x,.string y,.bool true,.slice aL nL cL,.slice aP nP cP,.slice aB nB cB,.int .i64 e0,.int .i64 e1,.int .i64 e2,.string e3,.slice q q1 q2] w1 w.heap.size):=RowAt.over (al10 w [.int .i64 1,.int .i64 a,.string x,.string y,.bool true,.slice aL nL cL,.slice aP nP cP,.slice aB nB cB,.int .i64 e0,.int .i64 e1,.int .i64 e2,.string e3,.slice q q1 q2] 51) hb
  clear hb  K17
  obtain ⟨m0x0,m0x1,m0x2,m0x3,m0x4,m0x5,m0x6,m0x7,m0x8,m0x9,m0x10,m0x11,m0x12⟩:=rc13 HR0_1.o
  go_wp2_with fail
  refine (KX.o _ (HB1.o)).mono ?_
  rintro e w2 ⟨rfl,hb⟩
  have HB2 : Hx (Ov w w2):=over_trans (HB1.o) hb
  have HR0_2 : Hx (RowAt [.int .i64 1,.int .i64 a,.string x,.string y,.bool true,.slice aL nL cL,.slice aP nP cP,.slice aB nB cB,.int .i64 e0,.int .i64 e1,.int .i64 e2,.string e3,.slice q q1 q2] w2 w.heap.size):=HR0_1.o.over hb
  clear hb m0x0 m0x1 m0x2 m0x3 m0x4 m0x5 m0x6 m0x7 m0x8 m0x9 m0x10 m0x11 m0x12 KX
  cases qx with
  | true =>
    by_cases hy0 : y.data.toList = []
    · obtain rfl:=ba_of_list hy0
      have hyy : qy = true:=by rw [HYE.o]; rfl
      subst hyy
      clear hy0 HYE
      obtain ⟨m0x0,m0x1,m0x2,m0x3,m0x4,m0x5,m0x6,m0x7,m0x8,m0x9,m0x10,m0x11,m0x12⟩:=rc13 HR0_2.o
      go_wp2_with fail
      refine (K46.o _ (HB2.o)).mono ?_
      rintro e w3 ⟨rfl,hb⟩
      have HB3 : Hx (Ov w w3):=over_trans (HB2.o) hb
      have HR0_3 : Hx (RowAt [.int .i64 1,.int .i64 a,.string x,.string ⟨#[]⟩,.bool true,.slice aL nL cL,.slice aP nP cP,.slice aB nB cB,.int .i64 e0,.int .i64 e1,.int .i64 e2,.string e3,.slice q q1 q2] w3 w.heap.size):=HR0_2.o.over hb
      clear hb m0x0 m0x1 m0x2 m0x3 m0x4 m0x5 m0x6 m0x7 m0x8 m0x9 m0x10 m0x11 m0x12 K46
      have HV : Hx (fin = false):=by have h:=HF.o; simp at h; exact h
      obtain ⟨m0x0,m0x1,m0x2,m0x3,m0x4,m0x5,m0x6,m0x7,m0x8,m0x9,m0x10,m0x11,m0x12⟩:=rc13 HR0_3.o
      go_wp2_with fail
      go_ret
      exact ⟨by rw [HV.o]; (first | rfl | (simp; done) | (simp; assumption) | (simp; omega)),HB3.o⟩
    · have hne:=ne_of_list hy0
      have hyy : qy = false:=by rw [HYE.o]; simpa using hy0
      subst hyy
      clear hy0 HYE
      have HV : Hx (fin = false):=by have h:=HF.o; simp at h; exact h
      obtain ⟨m0x0,m0x1,m0x2,m0x3,m0x4,m0x5,m0x6,m0x7,m0x8,m0x9,m0x10,m0x11,m0x12⟩:=rc13 HR0_2.o
      go_wp2_with fail
      go_ret
      exact ⟨by rw [HV.o]; (first | rfl | (simp; done) | (simp; assumption) | (simp; omega)),HB2.o⟩
  | false =>
    have HV : Hx (fin = false):=by have h:=HF.o; simp at h; exact h
    obtain ⟨m0x0,m0x1,m0x2,m0x3,m0x4,m0x5,m0x6,m0x7,m0x8,m0x9,m0x10,m0x11,m0x12⟩:=rc13 HR0_2.o
    go_wp2_with fail
    go_ret
    exact ⟨by rw [HV.o]; (first | rfl | (simp; done) | (simp; assumption) | (simp; omega)),HB2.o⟩
set_option maxHeartbeats 4000000 in
set_option maxRecDepth 100000 in
theorem isDecl_1f (ke kc : Nat) (a : Int) (x y : ByteArray) (aL : Option Addr) (cL : Nat) (lb : List D) (aP : Option Addr) (cP : Nat) (ps : List ByteArray) (aB : Option Addr) (cB : Nat) (body : List D) (e0 e1 e2 : Int) (e3 : ByteArray) (q : Option Addr) (q1 q2 : Nat) (r : D) (w : World) (hx : x.size≤maxLen) (hy : y.size≤maxLen) (hL : LS 4 (ZP w) w (.slice aL lb.length cL) lb) (hP : LS 1 ZN w (.slice aP ps.length cP) ps) (hB : LS 12 (ZC w ke kc) w (.slice aB body.length cB) body) (hR : ZE w ke [.int .i64 e0,.int .i64 e1,.int .i64 e2,.string e3,.slice q q1 q2] r) :
    Ro 38 #[.agg #[.int .i64 1,.int .i64 a,.string x,.string y,.bool false,.slice aL lb.length cL,.slice aP ps.length cP,.slice aB body.length cB,.int .i64 e0,.int .i64 e1,.int .i64 e2,.string e3,.slice q q1 q2]] w (.bool (dfK ke kc (deD 1 a x y false lb ps body r))):=by
  obtain ⟨fin,hfin⟩:=nm (dfK ke kc (deD 1 a x y false lb ps body r))
  rw [← hfin]
  unfold dfK labF funF at hfin
  simp only [gDd,all_dS nmS,emp_len,List.length_map] at hfin
  obtain ⟨qx,hqx⟩:=nm (nmS x.data.toList)
  obtain ⟨qy,hqy⟩:=nm (y.data.toList.isEmpty)
  obtain ⟨ql,hql⟩:=nm (lb.all polF)
  obtain ⟨qp,hqp⟩:=nm (ps.all fun x => nmS x.data.toList)
  obtain ⟨qb,hqb⟩:=nm (body.all (sfK ke kc))
  obtain ⟨qr,hqr⟩:=nm (efK ke r)
  obtain ⟨qo,hqo⟩:=nm (noEx r)
  obtain ⟨nL,hnL⟩:=nm lb.length
  obtain ⟨nP,hnP⟩:=nm ps.length
  obtain ⟨nB,hnB⟩:=nm body.length
  have hne : (lb≠[]) = (nL≠0):=by rw [hnL]; simp
  have hl0 : nL = 0→ql = true:=fun h => by rw [hql,List.length_eq_zero_iff.1 (hnL.symm.trans h)]; rfl
  simp only [← hqx,← hql,← hqp,← hqb,← hqr,← hqo,← hnP,← hnB,hne] at hfin
  have HF : Hx (fin = (qx && qy && (!false && decide (nL = 0)) && (decide (nP = 0) && decide (nB = 0) && qo))):=by
    show _ = _
    rw [hfin,hqy]
    by_cases h0 : nL = 0
    · simp [h0,nfS]
    · simp [h0,nfS]
  have K17 : Hx (∀ X,Ov w X→Ro 76 #[.int .i64 1,.int .i64 1,.int .i64 7] X (.bool true)):=fun X _ => by simpa using between_c 1 1 7 X
  have K46 : Hx (∀ X,Ov w X→Ro 76 #[.int .i64 1,.int .i64 4,.int .i64 6] X (.bool false)):=fun X _ => by simpa using between_c 1 4 6 X
  have KX : Hx (∀ X,Ov w X→Ro 77 #[.string x] X (.bool qx)):=fun X _ => by rw [hqx]; exact isNameR_c x X hx
  have HYE:=hide hqy
  have KO : Hx (∀ X,Ov w X→Ro 78 #[.agg #[.int .i64 e0,.int .i64 e1,.int .i64 e2,.string e3,.slice q q1 q2]] X (.bool qo)):=fun X hX => by rw [hqo]; exact noExR_c ke _ r X (hR.over hX)
  have KR : Hx (∀ X,Ov w X→Ro 79 #[.agg #[.int .i64 e0,.int .i64 e1,.int .i64 e2,.string e3,.slice q q1 q2]] X (.bool qr)):=fun X hX => by rw [hqr]; exact isExpr_c ke _ r X (hR.over hX)
  have KBD : Hx (∀ X,Ov w X→Ro 39 #[.slice aB body.length cB] X (.bool qb)):=fun X hX => by rw [hqb]; exact areStmts_c ke kc body aB cB X (lsC_over hX hB)
  rw [← hnB] at KBD
  have HLL:=hL.max
  have HLP:=hP.max
  have HLBB:=hB.max
  rw [← hnL] at HLL
  rw [← hnP] at HLP
  rw [← hnB] at HLBB
  have HLB:=hide hL
  have HPS:=hide hP
  have HQL:=hide hql
  have HQP:=hide hqp
  have HNL:=hide hnL
  have HNP:=hide hnP
  rw [← hnL,← hnP,← hnB]
  clear hfin hqx hqy hql hqp hqb hqr hqo hne hl0 hL hP hB hR hnL hnP hnB hx hy
  go_enter Tryz.func38,Tryz.ntmps38
  go_wp2_with fail
  refine (K17.o _ (bA w (.cells #[.int .i64 1,.int .i64 a,.string x,.string y,.bool false,.slice aL nL cL,.slice aP nP cP,.slice aB nB cB,.int .i64 e0,.int .i64 e1,.int .i64 e2,.string e3,.slice q q1 q2] 51))).mono ?_
  rintro e w1 ⟨rfl,hb⟩
  have HB1 : Hx (Ov w w1):=over_trans (bA w (.cells #[.int .i64 1,.int .i64 a,.string x,.string y,.bool false,.slice aL nL cL,.slice aP nP cP,.slice aB nB cB,.int .i64 e0,.int .i64 e1,.int .i64 e2,.string e3,.slice q q1 q2] 51)) hb
  have HR0_1 : Hx (RowAt [.int .i64 1,.int .i64 a,.string x,.string y,.bool false,.slice aL nL cL,.slice aP nP cP,.slice aB nB cB,.int .i64 e0,.int .i64 e1,.int .i64 e2,.string e3,.slice q q1 q2] w1 w.heap.size):=RowAt.over (al10 w [.int .i64 1,.int .i64 a,.string x,.string y,.bool false,.slice aL nL cL,.slice aP nP cP,.slice aB nB cB,.int .i64 e0,.int .i64 e1,.int .i64 e2,.string e3,.slice q q1 q2] 51) hb
  clear hb  K17
  obtain ⟨m0x0,m0x1,m0x2,m0x3,m0x4,m0x5,m0x6,m0x7,m0x8,m0x9,m0x10,m0x11,m0x12⟩:=rc13 HR0_1.o
  go_wp2_with fail
  refine (KX.o _ (HB1.o)).mono ?_
  rintro e w2 ⟨rfl,hb⟩
  have HB2 : Hx (Ov w w2):=over_trans (HB1.o) hb
  have HR0_2 : Hx (RowAt [.int .i64 1,.int .i64 a,.string x,.string y,.bool false,.slice aL nL cL,.slice aP nP cP,.slice aB nB cB,.int .i64 e0,.int .i64 e1,.int .i64 e2,.string e3,.slice q q1 q2] w2 w.heap.size):=HR0_1.o.over hb
  clear hb m0x0 m0x1 m0x2 m0x3 m0x4 m0x5 m0x6 m0x7 m0x8 m0x9 m0x10 m0x11 m0x12 KX
  cases qx with
  | true =>
    by_cases hy0 : y.data.toList = []
    · obtain rfl:=ba_of_list hy0
      have hyy : qy = true:=by rw [HYE.o]; rfl
      subst hyy
      clear hy0 HYE
      obtain ⟨m0x0,m0x1,m0x2,m0x3,m0x4,m0x5,m0x6,m0x7,m0x8,m0x9,m0x10,m0x11,m0x12⟩:=rc13 HR0_2.o
      go_wp2_with fail
      refine (K46.o _ (HB2.o)).mono ?_
      rintro e w3 ⟨rfl,hb⟩
      have HB3 : Hx (Ov w w3):=over_trans (HB2.o) hb
      have HR0_3 : Hx (RowAt [.int .i64 1,.int .i64 a,.string x,.string ⟨#[]⟩,.bool false,.slice aL nL cL,.slice aP nP cP,.slice aB nB cB,.int .i64 e0,.int .i64 e1,.int .i64 e2,.string e3,.slice q q1 q2] w3 w.heap.size):=HR0_2.o.over hb
      clear hb m0x0 m0x1 m0x2 m0x3 m0x4 m0x5 m0x6 m0x7 m0x8 m0x9 m0x10 m0x11 m0x12 K46
      by_cases h0 : nL = 0
      · subst h0
        obtain ⟨m0x0,m0x1,m0x2,m0x3,m0x4,m0x5,m0x6,m0x7,m0x8,m0x9,m0x10,m0x11,m0x12⟩:=rc13 HR0_3.o
        go_wp2_with fail
        clear m0x0 m0x1 m0x2 m0x3 m0x4 m0x5 m0x6 m0x7 m0x8 m0x9 m0x10 m0x11 m0x12
        go_loopw [3] (fun i wr => i = .int .i64 0∧w3 = wr) (fun _ _ => 0)
        case atStart => exact ⟨rfl,rfl⟩
        case round =>
          obtain ⟨rfl,rfl⟩:=hrel
          by_cases h1 : nP = 0
          · subst h1
            by_cases h2 : nB = 0
            · subst h2
              obtain ⟨m0x0,m0x1,m0x2,m0x3,m0x4,m0x5,m0x6,m0x7,m0x8,m0x9,m0x10,m0x11,m0x12⟩:=rc13 HR0_3.o
              go_wp2_with fail
              refine (KO.o _ (HB3.o)).mono ?_
              rintro e w4 ⟨rfl,hb⟩
              have HB4 : Hx (Ov w w4):=over_trans (HB3.o) hb
              have HR0_4 : Hx (RowAt [.int .i64 1,.int .i64 a,.string x,.string ⟨#[]⟩,.bool false,.slice aL 0 cL,.slice aP 0 cP,.slice aB 0 cB,.int .i64 e0,.int .i64 e1,.int .i64 e2,.string e3,.slice q q1 q2] w4 w.heap.size):=HR0_3.o.over hb
              clear hb m0x0 m0x1 m0x2 m0x3 m0x4 m0x5 m0x6 m0x7 m0x8 m0x9 m0x10 m0x11 m0x12 KO
              have HV : Hx (fin = qo):=by have h:=HF.o; simp at h; exact h
              obtain ⟨m0x0,m0x1,m0x2,m0x3,m0x4,m0x5,m0x6,m0x7,m0x8,m0x9,m0x10,m0x11,m0x12⟩:=rc13 HR0_4.o
              go_wp2_with fail
              go_ret
              exact ⟨by rw [HV.o]; (first | rfl | (simp; done) | (simp; assumption) | (simp; omega)),HB4.o⟩
            · have hi : ¬ (nB : Int) = 0:=by omega
              have HV : Hx (fin = false):=by have h:=HF.o; simp [h2] at h; exact h
              obtain ⟨m0x0,m0x1,m0x2,m0x3,m0x4,m0x5,m0x6,m0x7,m0x8,m0x9,m0x10,m0x11,m0x12⟩:=rc13 HR0_3.o
              go_wp2_with fail
              go_ret
              exact ⟨by rw [HV.o]; (first | rfl | (simp; done) | (simp; assumption) | (simp; omega)),HB3.o⟩
          · have hi : ¬ (nP : Int) = 0:=by omega
            have HV : Hx (fin = false):=by have h:=HF.o; simp [h1] at h; exact h
            obtain ⟨m0x0,m0x1,m0x2,m0x3,m0x4,m0x5,m0x6,m0x7,m0x8,m0x9,m0x10,m0x11,m0x12⟩:=rc13 HR0_3.o
            go_wp2_with fail
            go_ret
            exact ⟨by rw [HV.o]; (first | rfl | (simp; done) | (simp; assumption) | (simp; omega)),HB3.o⟩
      · have hi : (0 : Int) < (nL : Int):=by omega
        have hn0 : 0 < nL:=by omega
        have HV : Hx (fin = false):=by have h:=HF.o; simp [h0] at h; exact h
        obtain ⟨m0x0,m0x1,m0x2,m0x3,m0x4,m0x5,m0x6,m0x7,m0x8,m0x9,m0x10,m0x11,m0x12⟩:=rc13 HR0_3.o
        go_wp2_with fail
        go_ret
        exact ⟨by rw [HV.o]; (first | rfl | (simp; done) | (simp; assumption) | (simp; omega)),HB3.o⟩
    · have hne:=ne_of_list hy0
      have hyy : qy = false:=by rw [HYE.o]; simpa using hy0
      subst hyy
      clear hy0 HYE
      have HV : Hx (fin = false):=by have h:=HF.o; simp at h; exact h
      obtain ⟨m0x0,m0x1,m0x2,m0x3,m0x4,m0x5,m0x6,m0x7,m0x8,m0x9,m0x10,m0x11,m0x12⟩:=rc13 HR0_2.o
      go_wp2_with fail
      go_ret
      exact ⟨by rw [HV.o]; (first | rfl | (simp; done) | (simp; assumption) | (simp; omega)),HB2.o⟩
  | false =>
    have HV : Hx (fin = false):=by have h:=HF.o; simp at h; exact h
    obtain ⟨m0x0,m0x1,m0x2,m0x3,m0x4,m0x5,m0x6,m0x7,m0x8,m0x9,m0x10,m0x11,m0x12⟩:=rc13 HR0_2.o
    go_wp2_with fail
    go_ret
    exact ⟨by rw [HV.o]; (first | rfl | (simp; done) | (simp; assumption) | (simp; omega)),HB2.o⟩
set_option maxHeartbeats 4000000 in
set_option maxRecDepth 100000 in
theorem isDecl_2t (ke kc : Nat) (a : Int) (x y : ByteArray) (aL : Option Addr) (cL : Nat) (lb : List D) (aP : Option Addr) (cP : Nat) (ps : List ByteArray) (aB : Option Addr) (cB : Nat) (body : List D) (e0 e1 e2 : Int) (e3 : ByteArray) (q : Option Addr) (q1 q2 : Nat) (r : D) (w : World) (hx : x.size≤maxLen) (hy : y.size≤maxLen) (hL : LS 4 (ZP w) w (.slice aL lb.length cL) lb) (hP : LS 1 ZN w (.slice aP ps.length cP) ps) (hB : LS 12 (ZC w ke kc) w (.slice aB body.length cB) body) (hR : ZE w ke [.int .i64 e0,.int .i64 e1,.int .i64 e2,.string e3,.slice q q1 q2] r) :
    Ro 38 #[.agg #[.int .i64 2,.int .i64 a,.string x,.string y,.bool true,.slice aL lb.length cL,.slice aP ps.length cP,.slice aB body.length cB,.int .i64 e0,.int .i64 e1,.int .i64 e2,.string e3,.slice q q1 q2]] w (.bool (dfK ke kc (deD 2 a x y true lb ps body r))):=by
  obtain ⟨fin,hfin⟩:=nm (dfK ke kc (deD 2 a x y true lb ps body r))
  rw [← hfin]
  unfold dfK labF funF at hfin
  simp only [gDd,all_dS nmS,emp_len,List.length_map] at hfin
  obtain ⟨qx,hqx⟩:=nm (nmS x.data.toList)
  obtain ⟨qy,hqy⟩:=nm (nmS y.data.toList)
  obtain ⟨ql,hql⟩:=nm (lb.all polF)
  obtain ⟨qp,hqp⟩:=nm (ps.all fun x => nmS x.data.toList)
  obtain ⟨qb,hqb⟩:=nm (body.all (sfK ke kc))
  obtain ⟨qr,hqr⟩:=nm (efK ke r)
  obtain ⟨qo,hqo⟩:=nm (noEx r)
  obtain ⟨nL,hnL⟩:=nm lb.length
  obtain ⟨nP,hnP⟩:=nm ps.length
  obtain ⟨nB,hnB⟩:=nm body.length
  have hne : (lb≠[]) = (nL≠0):=by rw [hnL]; simp
  have hl0 : nL = 0→ql = true:=fun h => by rw [hql,List.length_eq_zero_iff.1 (hnL.symm.trans h)]; rfl
  simp only [← hqx,← hql,← hqp,← hqb,← hqr,← hqo,← hnP,← hnB,hne] at hfin
  have HF : Hx (fin = (qx && qy && (!true && decide (nL = 0)) && (decide (nP = 0) && decide (nB = 0) && qo))):=by
    show _ = _
    rw [hfin,hqy]
    by_cases h0 : nL = 0
    · simp [nfS]
    · simp [nfS]
  have K17 : Hx (∀ X,Ov w X→Ro 76 #[.int .i64 2,.int .i64 1,.int .i64 7] X (.bool true)):=fun X _ => by simpa using between_c 2 1 7 X
  have K46 : Hx (∀ X,Ov w X→Ro 76 #[.int .i64 2,.int .i64 4,.int .i64 6] X (.bool false)):=fun X _ => by simpa using between_c 2 4 6 X
  have KX : Hx (∀ X,Ov w X→Ro 77 #[.string x] X (.bool qx)):=fun X _ => by rw [hqx]; exact isNameR_c x X hx
  have KY : Hx (∀ X,Ov w X→Ro 77 #[.string y] X (.bool qy)):=fun X _ => by rw [hqy]; exact isNameR_c y X hy
  have KO : Hx (∀ X,Ov w X→Ro 78 #[.agg #[.int .i64 e0,.int .i64 e1,.int .i64 e2,.string e3,.slice q q1 q2]] X (.bool qo)):=fun X hX => by rw [hqo]; exact noExR_c ke _ r X (hR.over hX)
  have KR : Hx (∀ X,Ov w X→Ro 79 #[.agg #[.int .i64 e0,.int .i64 e1,.int .i64 e2,.string e3,.slice q q1 q2]] X (.bool qr)):=fun X hX => by rw [hqr]; exact isExpr_c ke _ r X (hR.over hX)
  have KBD : Hx (∀ X,Ov w X→Ro 39 #[.slice aB body.length cB] X (.bool qb)):=fun X hX => by rw [hqb]; exact areStmts_c ke kc body aB cB X (lsC_over hX hB)
  rw [← hnB] at KBD
  have HLL:=hL.max
  have HLP:=hP.max
  have HLBB:=hB.max
  rw [← hnL] at HLL
  rw [← hnP] at HLP
  rw [← hnB] at HLBB
  have HLB:=hide hL
  have HPS:=hide hP
  have HQL:=hide hql
  have HQP:=hide hqp
  have HNL:=hide hnL
  have HNP:=hide hnP
  rw [← hnL,← hnP,← hnB]
  clear hfin hqx hqy hql hqp hqb hqr hqo hne hl0 hL hP hB hR hnL hnP hnB hx hy
  go_enter Tryz.func38,Tryz.ntmps38
  go_wp2_with fail
  refine (K17.o _ (bA w (.cells #[.int .i64 2,.int .i64 a,.string x,.string y,.bool true,.slice aL nL cL,.slice aP nP cP,.slice aB nB cB,.int .i64 e0,.int .i64 e1,.int .i64 e2,.string e3,.slice q q1 q2] 51))).mono ?_
  rintro e w1 ⟨rfl,hb⟩
  have HB1 : Hx (Ov w w1):=over_trans (bA w (.cells #[.int .i64 2,.int .i64 a,.string x,.string y,.bool true,.slice aL nL cL,.slice aP nP cP,.slice aB nB cB,.int .i64 e0,.int .i64 e1,.int .i64 e2,.string e3,.slice q q1 q2] 51)) hb
  have HR0_1 : Hx (RowAt [.int .i64 2,.int .i64 a,.string x,.string y,.bool true,.slice aL nL cL,.slice aP nP cP,.slice aB nB cB,.int .i64 e0,.int .i64 e1,.int .i64 e2,.string e3,.slice q q1 q2] w1 w.heap.size):=RowAt.over (al10 w [.int .i64 2,.int .i64 a,.string x,.string y,.bool true,.slice aL nL cL,.slice aP nP cP,.slice aB nB cB,.int .i64 e0,.int .i64 e1,.int .i64 e2,.string e3,.slice q q1 q2] 51) hb
  clear hb  K17
  obtain ⟨m0x0,m0x1,m0x2,m0x3,m0x4,m0x5,m0x6,m0x7,m0x8,m0x9,m0x10,m0x11,m0x12⟩:=rc13 HR0_1.o
  go_wp2_with fail
  refine (KX.o _ (HB1.o)).mono ?_
  rintro e w2 ⟨rfl,hb⟩
  have HB2 : Hx (Ov w w2):=over_trans (HB1.o) hb
  have HR0_2 : Hx (RowAt [.int .i64 2,.int .i64 a,.string x,.string y,.bool true,.slice aL nL cL,.slice aP nP cP,.slice aB nB cB,.int .i64 e0,.int .i64 e1,.int .i64 e2,.string e3,.slice q q1 q2] w2 w.heap.size):=HR0_1.o.over hb
  clear hb m0x0 m0x1 m0x2 m0x3 m0x4 m0x5 m0x6 m0x7 m0x8 m0x9 m0x10 m0x11 m0x12 KX
  cases qx with
  | true =>
    obtain ⟨m0x0,m0x1,m0x2,m0x3,m0x4,m0x5,m0x6,m0x7,m0x8,m0x9,m0x10,m0x11,m0x12⟩:=rc13 HR0_2.o
    go_wp2_with fail
    refine (KY.o _ (HB2.o)).mono ?_
    rintro e w3 ⟨rfl,hb⟩
    have HB3 : Hx (Ov w w3):=over_trans (HB2.o) hb
    have HR0_3 : Hx (RowAt [.int .i64 2,.int .i64 a,.string x,.string y,.bool true,.slice aL nL cL,.slice aP nP cP,.slice aB nB cB,.int .i64 e0,.int .i64 e1,.int .i64 e2,.string e3,.slice q q1 q2] w3 w.heap.size):=HR0_2.o.over hb
    clear hb m0x0 m0x1 m0x2 m0x3 m0x4 m0x5 m0x6 m0x7 m0x8 m0x9 m0x10 m0x11 m0x12 KY
    cases qy with
    | true =>
      obtain ⟨m0x0,m0x1,m0x2,m0x3,m0x4,m0x5,m0x6,m0x7,m0x8,m0x9,m0x10,m0x11,m0x12⟩:=rc13 HR0_3.o
      go_wp2_with fail
      refine (K46.o _ (HB3.o)).mono ?_
      rintro e w4 ⟨rfl,hb⟩
      have HB4 : Hx (Ov w w4):=over_trans (HB3.o) hb
      have HR0_4 : Hx (RowAt [.int .i64 2,.int .i64 a,.string x,.string y,.bool true,.slice aL nL cL,.slice aP nP cP,.slice aB nB cB,.int .i64 e0,.int .i64 e1,.int .i64 e2,.string e3,.slice q q1 q2] w4 w.heap.size):=HR0_3.o.over hb
      clear hb m0x0 m0x1 m0x2 m0x3 m0x4 m0x5 m0x6 m0x7 m0x8 m0x9 m0x10 m0x11 m0x12 K46
      have HV : Hx (fin = false):=by have h:=HF.o; simp at h; exact h
      obtain ⟨m0x0,m0x1,m0x2,m0x3,m0x4,m0x5,m0x6,m0x7,m0x8,m0x9,m0x10,m0x11,m0x12⟩:=rc13 HR0_4.o
      go_wp2_with fail
      go_ret
      exact ⟨by rw [HV.o]; (first | rfl | (simp; done) | (simp; assumption) | (simp; omega)),HB4.o⟩
    | false =>
      have HV : Hx (fin = false):=by have h:=HF.o; simp at h; exact h
      obtain ⟨m0x0,m0x1,m0x2,m0x3,m0x4,m0x5,m0x6,m0x7,m0x8,m0x9,m0x10,m0x11,m0x12⟩:=rc13 HR0_3.o
      go_wp2_with fail
      go_ret
      exact ⟨by rw [HV.o]; (first | rfl | (simp; done) | (simp; assumption) | (simp; omega)),HB3.o⟩
  | false =>
    have HV : Hx (fin = false):=by have h:=HF.o; simp at h; exact h
    obtain ⟨m0x0,m0x1,m0x2,m0x3,m0x4,m0x5,m0x6,m0x7,m0x8,m0x9,m0x10,m0x11,m0x12⟩:=rc13 HR0_2.o
    go_wp2_with fail
    go_ret
    exact ⟨by rw [HV.o]; (first | rfl | (simp; done) | (simp; assumption) | (simp; omega)),HB2.o⟩
set_option maxHeartbeats 4000000 in
set_option maxRecDepth 100000 in
theorem isDecl_2f (ke kc : Nat) (a : Int) (x y : ByteArray) (aL : Option Addr) (cL : Nat) (lb : List D) (aP : Option Addr) (cP : Nat) (ps : List ByteArray) (aB : Option Addr) (cB : Nat) (body : List D) (e0 e1 e2 : Int) (e3 : ByteArray) (q : Option Addr) (q1 q2 : Nat) (r : D) (w : World) (hx : x.size≤maxLen) (hy : y.size≤maxLen) (hL : LS 4 (ZP w) w (.slice aL lb.length cL) lb) (hP : LS 1 ZN w (.slice aP ps.length cP) ps) (hB : LS 12 (ZC w ke kc) w (.slice aB body.length cB) body) (hR : ZE w ke [.int .i64 e0,.int .i64 e1,.int .i64 e2,.string e3,.slice q q1 q2] r) :
    Ro 38 #[.agg #[.int .i64 2,.int .i64 a,.string x,.string y,.bool false,.slice aL lb.length cL,.slice aP ps.length cP,.slice aB body.length cB,.int .i64 e0,.int .i64 e1,.int .i64 e2,.string e3,.slice q q1 q2]] w (.bool (dfK ke kc (deD 2 a x y false lb ps body r))):=by
  obtain ⟨fin,hfin⟩:=nm (dfK ke kc (deD 2 a x y false lb ps body r))
  rw [← hfin]
  unfold dfK labF funF at hfin
  simp only [gDd,all_dS nmS,emp_len,List.length_map] at hfin
  obtain ⟨qx,hqx⟩:=nm (nmS x.data.toList)
  obtain ⟨qy,hqy⟩:=nm (nmS y.data.toList)
  obtain ⟨ql,hql⟩:=nm (lb.all polF)
  obtain ⟨qp,hqp⟩:=nm (ps.all fun x => nmS x.data.toList)
  obtain ⟨qb,hqb⟩:=nm (body.all (sfK ke kc))
  obtain ⟨qr,hqr⟩:=nm (efK ke r)
  obtain ⟨qo,hqo⟩:=nm (noEx r)
  obtain ⟨nL,hnL⟩:=nm lb.length
  obtain ⟨nP,hnP⟩:=nm ps.length
  obtain ⟨nB,hnB⟩:=nm body.length
  have hne : (lb≠[]) = (nL≠0):=by rw [hnL]; simp
  have hl0 : nL = 0→ql = true:=fun h => by rw [hql,List.length_eq_zero_iff.1 (hnL.symm.trans h)]; rfl
  simp only [← hqx,← hql,← hqp,← hqb,← hqr,← hqo,← hnP,← hnB,hne] at hfin
  have HF : Hx (fin = (qx && qy && (!false && decide (nL = 0)) && (decide (nP = 0) && decide (nB = 0) && qo))):=by
    show _ = _
    rw [hfin,hqy]
    by_cases h0 : nL = 0
    · simp [h0,nfS]
    · simp [h0,nfS]
  have K17 : Hx (∀ X,Ov w X→Ro 76 #[.int .i64 2,.int .i64 1,.int .i64 7] X (.bool true)):=fun X _ => by simpa using between_c 2 1 7 X
  have K46 : Hx (∀ X,Ov w X→Ro 76 #[.int .i64 2,.int .i64 4,.int .i64 6] X (.bool false)):=fun X _ => by simpa using between_c 2 4 6 X
  have KX : Hx (∀ X,Ov w X→Ro 77 #[.string x] X (.bool qx)):=fun X _ => by rw [hqx]; exact isNameR_c x X hx
  have KY : Hx (∀ X,Ov w X→Ro 77 #[.string y] X (.bool qy)):=fun X _ => by rw [hqy]; exact isNameR_c y X hy
  have KO : Hx (∀ X,Ov w X→Ro 78 #[.agg #[.int .i64 e0,.int .i64 e1,.int .i64 e2,.string e3,.slice q q1 q2]] X (.bool qo)):=fun X hX => by rw [hqo]; exact noExR_c ke _ r X (hR.over hX)
  have KR : Hx (∀ X,Ov w X→Ro 79 #[.agg #[.int .i64 e0,.int .i64 e1,.int .i64 e2,.string e3,.slice q q1 q2]] X (.bool qr)):=fun X hX => by rw [hqr]; exact isExpr_c ke _ r X (hR.over hX)
  have KBD : Hx (∀ X,Ov w X→Ro 39 #[.slice aB body.length cB] X (.bool qb)):=fun X hX => by rw [hqb]; exact areStmts_c ke kc body aB cB X (lsC_over hX hB)
  rw [← hnB] at KBD
  have HLL:=hL.max
  have HLP:=hP.max
  have HLBB:=hB.max
  rw [← hnL] at HLL
  rw [← hnP] at HLP
  rw [← hnB] at HLBB
  have HLB:=hide hL
  have HPS:=hide hP
  have HQL:=hide hql
  have HQP:=hide hqp
  have HNL:=hide hnL
  have HNP:=hide hnP
  rw [← hnL,← hnP,← hnB]
  clear hfin hqx hqy hql hqp hqb hqr hqo hne hl0 hL hP hB hR hnL hnP hnB hx hy
  go_enter Tryz.func38,Tryz.ntmps38
  go_wp2_with fail
  refine (K17.o _ (bA w (.cells #[.int .i64 2,.int .i64 a,.string x,.string y,.bool false,.slice aL nL cL,.slice aP nP cP,.slice aB nB cB,.int .i64 e0,.int .i64 e1,.int .i64 e2,.string e3,.slice q q1 q2] 51))).mono ?_
  rintro e w1 ⟨rfl,hb⟩
  have HB1 : Hx (Ov w w1):=over_trans (bA w (.cells #[.int .i64 2,.int .i64 a,.string x,.string y,.bool false,.slice aL nL cL,.slice aP nP cP,.slice aB nB cB,.int .i64 e0,.int .i64 e1,.int .i64 e2,.string e3,.slice q q1 q2] 51)) hb
  have HR0_1 : Hx (RowAt [.int .i64 2,.int .i64 a,.string x,.string y,.bool false,.slice aL nL cL,.slice aP nP cP,.slice aB nB cB,.int .i64 e0,.int .i64 e1,.int .i64 e2,.string e3,.slice q q1 q2] w1 w.heap.size):=RowAt.over (al10 w [.int .i64 2,.int .i64 a,.string x,.string y,.bool false,.slice aL nL cL,.slice aP nP cP,.slice aB nB cB,.int .i64 e0,.int .i64 e1,.int .i64 e2,.string e3,.slice q q1 q2] 51) hb
  clear hb  K17
  obtain ⟨m0x0,m0x1,m0x2,m0x3,m0x4,m0x5,m0x6,m0x7,m0x8,m0x9,m0x10,m0x11,m0x12⟩:=rc13 HR0_1.o
  go_wp2_with fail
  refine (KX.o _ (HB1.o)).mono ?_
  rintro e w2 ⟨rfl,hb⟩
  have HB2 : Hx (Ov w w2):=over_trans (HB1.o) hb
  have HR0_2 : Hx (RowAt [.int .i64 2,.int .i64 a,.string x,.string y,.bool false,.slice aL nL cL,.slice aP nP cP,.slice aB nB cB,.int .i64 e0,.int .i64 e1,.int .i64 e2,.string e3,.slice q q1 q2] w2 w.heap.size):=HR0_1.o.over hb
  clear hb m0x0 m0x1 m0x2 m0x3 m0x4 m0x5 m0x6 m0x7 m0x8 m0x9 m0x10 m0x11 m0x12 KX
  cases qx with
  | true =>
    obtain ⟨m0x0,m0x1,m0x2,m0x3,m0x4,m0x5,m0x6,m0x7,m0x8,m0x9,m0x10,m0x11,m0x12⟩:=rc13 HR0_2.o
    go_wp2_with fail
    refine (KY.o _ (HB2.o)).mono ?_
    rintro e w3 ⟨rfl,hb⟩
    have HB3 : Hx (Ov w w3):=over_trans (HB2.o) hb
    have HR0_3 : Hx (RowAt [.int .i64 2,.int .i64 a,.string x,.string y,.bool false,.slice aL nL cL,.slice aP nP cP,.slice aB nB cB,.int .i64 e0,.int .i64 e1,.int .i64 e2,.string e3,.slice q q1 q2] w3 w.heap.size):=HR0_2.o.over hb
    clear hb m0x0 m0x1 m0x2 m0x3 m0x4 m0x5 m0x6 m0x7 m0x8 m0x9 m0x10 m0x11 m0x12 KY
    cases qy with
    | true =>
      obtain ⟨m0x0,m0x1,m0x2,m0x3,m0x4,m0x5,m0x6,m0x7,m0x8,m0x9,m0x10,m0x11,m0x12⟩:=rc13 HR0_3.o
      go_wp2_with fail
      refine (K46.o _ (HB3.o)).mono ?_
      rintro e w4 ⟨rfl,hb⟩
      have HB4 : Hx (Ov w w4):=over_trans (HB3.o) hb
      have HR0_4 : Hx (RowAt [.int .i64 2,.int .i64 a,.string x,.string y,.bool false,.slice aL nL cL,.slice aP nP cP,.slice aB nB cB,.int .i64 e0,.int .i64 e1,.int .i64 e2,.string e3,.slice q q1 q2] w4 w.heap.size):=HR0_3.o.over hb
      clear hb m0x0 m0x1 m0x2 m0x3 m0x4 m0x5 m0x6 m0x7 m0x8 m0x9 m0x10 m0x11 m0x12 K46
      by_cases h0 : nL = 0
      · subst h0
        obtain ⟨m0x0,m0x1,m0x2,m0x3,m0x4,m0x5,m0x6,m0x7,m0x8,m0x9,m0x10,m0x11,m0x12⟩:=rc13 HR0_4.o
        go_wp2_with fail
        clear m0x0 m0x1 m0x2 m0x3 m0x4 m0x5 m0x6 m0x7 m0x8 m0x9 m0x10 m0x11 m0x12
        go_loopw [3] (fun i wr => i = .int .i64 0∧w4 = wr) (fun _ _ => 0)
        case atStart => exact ⟨rfl,rfl⟩
        case round =>
          obtain ⟨rfl,rfl⟩:=hrel
          by_cases h1 : nP = 0
          · subst h1
            by_cases h2 : nB = 0
            · subst h2
              obtain ⟨m0x0,m0x1,m0x2,m0x3,m0x4,m0x5,m0x6,m0x7,m0x8,m0x9,m0x10,m0x11,m0x12⟩:=rc13 HR0_4.o
              go_wp2_with fail
              refine (KO.o _ (HB4.o)).mono ?_
              rintro e w5 ⟨rfl,hb⟩
              have HB5 : Hx (Ov w w5):=over_trans (HB4.o) hb
              have HR0_5 : Hx (RowAt [.int .i64 2,.int .i64 a,.string x,.string y,.bool false,.slice aL 0 cL,.slice aP 0 cP,.slice aB 0 cB,.int .i64 e0,.int .i64 e1,.int .i64 e2,.string e3,.slice q q1 q2] w5 w.heap.size):=HR0_4.o.over hb
              clear hb m0x0 m0x1 m0x2 m0x3 m0x4 m0x5 m0x6 m0x7 m0x8 m0x9 m0x10 m0x11 m0x12 KO
              have HV : Hx (fin = qo):=by have h:=HF.o; simp at h; exact h
              obtain ⟨m0x0,m0x1,m0x2,m0x3,m0x4,m0x5,m0x6,m0x7,m0x8,m0x9,m0x10,m0x11,m0x12⟩:=rc13 HR0_5.o
              go_wp2_with fail
              go_ret
              exact ⟨by rw [HV.o]; (first | rfl | (simp; done) | (simp; assumption) | (simp; omega)),HB5.o⟩
            · have hi : ¬ (nB : Int) = 0:=by omega
              have HV : Hx (fin = false):=by have h:=HF.o; simp [h2] at h; exact h
              obtain ⟨m0x0,m0x1,m0x2,m0x3,m0x4,m0x5,m0x6,m0x7,m0x8,m0x9,m0x10,m0x11,m0x12⟩:=rc13 HR0_4.o
              go_wp2_with fail
              go_ret
              exact ⟨by rw [HV.o]; (first | rfl | (simp; done) | (simp; assumption) | (simp; omega)),HB4.o⟩
          · have hi : ¬ (nP : Int) = 0:=by omega
            have HV : Hx (fin = false):=by have h:=HF.o; simp [h1] at h; exact h
            obtain ⟨m0x0,m0x1,m0x2,m0x3,m0x4,m0x5,m0x6,m0x7,m0x8,m0x9,m0x10,m0x11,m0x12⟩:=rc13 HR0_4.o
            go_wp2_with fail
            go_ret
            exact ⟨by rw [HV.o]; (first | rfl | (simp; done) | (simp; assumption) | (simp; omega)),HB4.o⟩
      · have hi : (0 : Int) < (nL : Int):=by omega
        have hn0 : 0 < nL:=by omega
        have HV : Hx (fin = false):=by have h:=HF.o; simp [h0] at h; exact h
        obtain ⟨m0x0,m0x1,m0x2,m0x3,m0x4,m0x5,m0x6,m0x7,m0x8,m0x9,m0x10,m0x11,m0x12⟩:=rc13 HR0_4.o
        go_wp2_with fail
        go_ret
        exact ⟨by rw [HV.o]; (first | rfl | (simp; done) | (simp; assumption) | (simp; omega)),HB4.o⟩
    | false =>
      have HV : Hx (fin = false):=by have h:=HF.o; simp at h; exact h
      obtain ⟨m0x0,m0x1,m0x2,m0x3,m0x4,m0x5,m0x6,m0x7,m0x8,m0x9,m0x10,m0x11,m0x12⟩:=rc13 HR0_3.o
      go_wp2_with fail
      go_ret
      exact ⟨by rw [HV.o]; (first | rfl | (simp; done) | (simp; assumption) | (simp; omega)),HB3.o⟩
  | false =>
    have HV : Hx (fin = false):=by have h:=HF.o; simp at h; exact h
    obtain ⟨m0x0,m0x1,m0x2,m0x3,m0x4,m0x5,m0x6,m0x7,m0x8,m0x9,m0x10,m0x11,m0x12⟩:=rc13 HR0_2.o
    go_wp2_with fail
    go_ret
    exact ⟨by rw [HV.o]; (first | rfl | (simp; done) | (simp; assumption) | (simp; omega)),HB2.o⟩
set_option maxHeartbeats 4000000 in
set_option maxRecDepth 100000 in
theorem isDecl_3t (ke kc : Nat) (a : Int) (x y : ByteArray) (aL : Option Addr) (cL : Nat) (lb : List D) (aP : Option Addr) (cP : Nat) (ps : List ByteArray) (aB : Option Addr) (cB : Nat) (body : List D) (e0 e1 e2 : Int) (e3 : ByteArray) (q : Option Addr) (q1 q2 : Nat) (r : D) (w : World) (hx : x.size≤maxLen) (hy : y.size≤maxLen) (hL : LS 4 (ZP w) w (.slice aL lb.length cL) lb) (hP : LS 1 ZN w (.slice aP ps.length cP) ps) (hB : LS 12 (ZC w ke kc) w (.slice aB body.length cB) body) (hR : ZE w ke [.int .i64 e0,.int .i64 e1,.int .i64 e2,.string e3,.slice q q1 q2] r) :
    Ro 38 #[.agg #[.int .i64 3,.int .i64 a,.string x,.string y,.bool true,.slice aL lb.length cL,.slice aP ps.length cP,.slice aB body.length cB,.int .i64 e0,.int .i64 e1,.int .i64 e2,.string e3,.slice q q1 q2]] w (.bool (dfK ke kc (deD 3 a x y true lb ps body r))):=by
  obtain ⟨fin,hfin⟩:=nm (dfK ke kc (deD 3 a x y true lb ps body r))
  rw [← hfin]
  unfold dfK labF funF at hfin
  simp only [gDd,all_dS nmS,emp_len,List.length_map] at hfin
  obtain ⟨qx,hqx⟩:=nm (nmS x.data.toList)
  obtain ⟨qy,hqy⟩:=nm (y.data.toList.isEmpty)
  obtain ⟨ql,hql⟩:=nm (lb.all polF)
  obtain ⟨qp,hqp⟩:=nm (ps.all fun x => nmS x.data.toList)
  obtain ⟨qb,hqb⟩:=nm (body.all (sfK ke kc))
  obtain ⟨qr,hqr⟩:=nm (efK ke r)
  obtain ⟨qo,hqo⟩:=nm (noEx r)
  obtain ⟨nL,hnL⟩:=nm lb.length
  obtain ⟨nP,hnP⟩:=nm ps.length
  obtain ⟨nB,hnB⟩:=nm body.length
  have hne : (lb≠[]) = (nL≠0):=by rw [hnL]; simp
  have hl0 : nL = 0→ql = true:=fun h => by rw [hql,List.length_eq_zero_iff.1 (hnL.symm.trans h)]; rfl
  simp only [← hqx,← hql,← hqp,← hqb,← hqr,← hqo,← hnP,← hnB,hne] at hfin
  have HF : Hx (fin = (qx && qy && (!true && decide (nL = 0)) && (decide (nP = 0) && decide (nB = 0) && qo))):=by
    show _ = _
    rw [hfin,hqy]
    by_cases h0 : nL = 0
    · simp [nfS]
    · simp [nfS]
  have K17 : Hx (∀ X,Ov w X→Ro 76 #[.int .i64 3,.int .i64 1,.int .i64 7] X (.bool true)):=fun X _ => by simpa using between_c 3 1 7 X
  have K46 : Hx (∀ X,Ov w X→Ro 76 #[.int .i64 3,.int .i64 4,.int .i64 6] X (.bool false)):=fun X _ => by simpa using between_c 3 4 6 X
  have KX : Hx (∀ X,Ov w X→Ro 77 #[.string x] X (.bool qx)):=fun X _ => by rw [hqx]; exact isNameR_c x X hx
  have HYE:=hide hqy
  have KO : Hx (∀ X,Ov w X→Ro 78 #[.agg #[.int .i64 e0,.int .i64 e1,.int .i64 e2,.string e3,.slice q q1 q2]] X (.bool qo)):=fun X hX => by rw [hqo]; exact noExR_c ke _ r X (hR.over hX)
  have KR : Hx (∀ X,Ov w X→Ro 79 #[.agg #[.int .i64 e0,.int .i64 e1,.int .i64 e2,.string e3,.slice q q1 q2]] X (.bool qr)):=fun X hX => by rw [hqr]; exact isExpr_c ke _ r X (hR.over hX)
  have KBD : Hx (∀ X,Ov w X→Ro 39 #[.slice aB body.length cB] X (.bool qb)):=fun X hX => by rw [hqb]; exact areStmts_c ke kc body aB cB X (lsC_over hX hB)
  rw [← hnB] at KBD
  have HLL:=hL.max
  have HLP:=hP.max
  have HLBB:=hB.max
  rw [← hnL] at HLL
  rw [← hnP] at HLP
  rw [← hnB] at HLBB
  have HLB:=hide hL
  have HPS:=hide hP
  have HQL:=hide hql
  have HQP:=hide hqp
  have HNL:=hide hnL
  have HNP:=hide hnP
  rw [← hnL,← hnP,← hnB]
  clear hfin hqx hqy hql hqp hqb hqr hqo hne hl0 hL hP hB hR hnL hnP hnB hx hy
  go_enter Tryz.func38,Tryz.ntmps38
  go_wp2_with fail
  refine (K17.o _ (bA w (.cells #[.int .i64 3,.int .i64 a,.string x,.string y,.bool true,.slice aL nL cL,.slice aP nP cP,.slice aB nB cB,.int .i64 e0,.int .i64 e1,.int .i64 e2,.string e3,.slice q q1 q2] 51))).mono ?_
  rintro e w1 ⟨rfl,hb⟩
  have HB1 : Hx (Ov w w1):=over_trans (bA w (.cells #[.int .i64 3,.int .i64 a,.string x,.string y,.bool true,.slice aL nL cL,.slice aP nP cP,.slice aB nB cB,.int .i64 e0,.int .i64 e1,.int .i64 e2,.string e3,.slice q q1 q2] 51)) hb
  have HR0_1 : Hx (RowAt [.int .i64 3,.int .i64 a,.string x,.string y,.bool true,.slice aL nL cL,.slice aP nP cP,.slice aB nB cB,.int .i64 e0,.int .i64 e1,.int .i64 e2,.string e3,.slice q q1 q2] w1 w.heap.size):=RowAt.over (al10 w [.int .i64 3,.int .i64 a,.string x,.string y,.bool true,.slice aL nL cL,.slice aP nP cP,.slice aB nB cB,.int .i64 e0,.int .i64 e1,.int .i64 e2,.string e3,.slice q q1 q2] 51) hb
  clear hb  K17
  obtain ⟨m0x0,m0x1,m0x2,m0x3,m0x4,m0x5,m0x6,m0x7,m0x8,m0x9,m0x10,m0x11,m0x12⟩:=rc13 HR0_1.o
  go_wp2_with fail
  refine (KX.o _ (HB1.o)).mono ?_
  rintro e w2 ⟨rfl,hb⟩
  have HB2 : Hx (Ov w w2):=over_trans (HB1.o) hb
  have HR0_2 : Hx (RowAt [.int .i64 3,.int .i64 a,.string x,.string y,.bool true,.slice aL nL cL,.slice aP nP cP,.slice aB nB cB,.int .i64 e0,.int .i64 e1,.int .i64 e2,.string e3,.slice q q1 q2] w2 w.heap.size):=HR0_1.o.over hb
  clear hb m0x0 m0x1 m0x2 m0x3 m0x4 m0x5 m0x6 m0x7 m0x8 m0x9 m0x10 m0x11 m0x12 KX
  cases qx with
  | true =>
    by_cases hy0 : y.data.toList = []
    · obtain rfl:=ba_of_list hy0
      have hyy : qy = true:=by rw [HYE.o]; rfl
      subst hyy
      clear hy0 HYE
      obtain ⟨m0x0,m0x1,m0x2,m0x3,m0x4,m0x5,m0x6,m0x7,m0x8,m0x9,m0x10,m0x11,m0x12⟩:=rc13 HR0_2.o
      go_wp2_with fail
      refine (K46.o _ (HB2.o)).mono ?_
      rintro e w3 ⟨rfl,hb⟩
      have HB3 : Hx (Ov w w3):=over_trans (HB2.o) hb
      have HR0_3 : Hx (RowAt [.int .i64 3,.int .i64 a,.string x,.string ⟨#[]⟩,.bool true,.slice aL nL cL,.slice aP nP cP,.slice aB nB cB,.int .i64 e0,.int .i64 e1,.int .i64 e2,.string e3,.slice q q1 q2] w3 w.heap.size):=HR0_2.o.over hb
      clear hb m0x0 m0x1 m0x2 m0x3 m0x4 m0x5 m0x6 m0x7 m0x8 m0x9 m0x10 m0x11 m0x12 K46
      have HV : Hx (fin = false):=by have h:=HF.o; simp at h; exact h
      obtain ⟨m0x0,m0x1,m0x2,m0x3,m0x4,m0x5,m0x6,m0x7,m0x8,m0x9,m0x10,m0x11,m0x12⟩:=rc13 HR0_3.o
      go_wp2_with fail
      go_ret
      exact ⟨by rw [HV.o]; (first | rfl | (simp; done) | (simp; assumption) | (simp; omega)),HB3.o⟩
    · have hne:=ne_of_list hy0
      have hyy : qy = false:=by rw [HYE.o]; simpa using hy0
      subst hyy
      clear hy0 HYE
      have HV : Hx (fin = false):=by have h:=HF.o; simp at h; exact h
      obtain ⟨m0x0,m0x1,m0x2,m0x3,m0x4,m0x5,m0x6,m0x7,m0x8,m0x9,m0x10,m0x11,m0x12⟩:=rc13 HR0_2.o
      go_wp2_with fail
      go_ret
      exact ⟨by rw [HV.o]; (first | rfl | (simp; done) | (simp; assumption) | (simp; omega)),HB2.o⟩
  | false =>
    have HV : Hx (fin = false):=by have h:=HF.o; simp at h; exact h
    obtain ⟨m0x0,m0x1,m0x2,m0x3,m0x4,m0x5,m0x6,m0x7,m0x8,m0x9,m0x10,m0x11,m0x12⟩:=rc13 HR0_2.o
    go_wp2_with fail
    go_ret
    exact ⟨by rw [HV.o]; (first | rfl | (simp; done) | (simp; assumption) | (simp; omega)),HB2.o⟩
set_option maxHeartbeats 4000000 in
set_option maxRecDepth 100000 in
theorem isDecl_3f (ke kc : Nat) (a : Int) (x y : ByteArray) (aL : Option Addr) (cL : Nat) (lb : List D) (aP : Option Addr) (cP : Nat) (ps : List ByteArray) (aB : Option Addr) (cB : Nat) (body : List D) (e0 e1 e2 : Int) (e3 : ByteArray) (q : Option Addr) (q1 q2 : Nat) (r : D) (w : World) (hx : x.size≤maxLen) (hy : y.size≤maxLen) (hL : LS 4 (ZP w) w (.slice aL lb.length cL) lb) (hP : LS 1 ZN w (.slice aP ps.length cP) ps) (hB : LS 12 (ZC w ke kc) w (.slice aB body.length cB) body) (hR : ZE w ke [.int .i64 e0,.int .i64 e1,.int .i64 e2,.string e3,.slice q q1 q2] r) :
    Ro 38 #[.agg #[.int .i64 3,.int .i64 a,.string x,.string y,.bool false,.slice aL lb.length cL,.slice aP ps.length cP,.slice aB body.length cB,.int .i64 e0,.int .i64 e1,.int .i64 e2,.string e3,.slice q q1 q2]] w (.bool (dfK ke kc (deD 3 a x y false lb ps body r))):=by
  obtain ⟨fin,hfin⟩:=nm (dfK ke kc (deD 3 a x y false lb ps body r))
  rw [← hfin]
  unfold dfK labF funF at hfin
  simp only [gDd,all_dS nmS,emp_len,List.length_map] at hfin
  obtain ⟨qx,hqx⟩:=nm (nmS x.data.toList)
  obtain ⟨qy,hqy⟩:=nm (y.data.toList.isEmpty)
  obtain ⟨ql,hql⟩:=nm (lb.all polF)
  obtain ⟨qp,hqp⟩:=nm (ps.all fun x => nmS x.data.toList)
  obtain ⟨qb,hqb⟩:=nm (body.all (sfK ke kc))
  obtain ⟨qr,hqr⟩:=nm (efK ke r)
  obtain ⟨qo,hqo⟩:=nm (noEx r)
  obtain ⟨nL,hnL⟩:=nm lb.length
  obtain ⟨nP,hnP⟩:=nm ps.length
  obtain ⟨nB,hnB⟩:=nm body.length
  have hne : (lb≠[]) = (nL≠0):=by rw [hnL]; simp
  have hl0 : nL = 0→ql = true:=fun h => by rw [hql,List.length_eq_zero_iff.1 (hnL.symm.trans h)]; rfl
  simp only [← hqx,← hql,← hqp,← hqb,← hqr,← hqo,← hnP,← hnB,hne] at hfin
  have HF : Hx (fin = (qx && qy && (!false && decide (nL = 0)) && (decide (nP = 0) && decide (nB = 0) && qo))):=by
    show _ = _
    rw [hfin,hqy]
    by_cases h0 : nL = 0
    · simp [h0,nfS]
    · simp [h0,nfS]
  have K17 : Hx (∀ X,Ov w X→Ro 76 #[.int .i64 3,.int .i64 1,.int .i64 7] X (.bool true)):=fun X _ => by simpa using between_c 3 1 7 X
  have K46 : Hx (∀ X,Ov w X→Ro 76 #[.int .i64 3,.int .i64 4,.int .i64 6] X (.bool false)):=fun X _ => by simpa using between_c 3 4 6 X
  have KX : Hx (∀ X,Ov w X→Ro 77 #[.string x] X (.bool qx)):=fun X _ => by rw [hqx]; exact isNameR_c x X hx
  have HYE:=hide hqy
  have KO : Hx (∀ X,Ov w X→Ro 78 #[.agg #[.int .i64 e0,.int .i64 e1,.int .i64 e2,.string e3,.slice q q1 q2]] X (.bool qo)):=fun X hX => by rw [hqo]; exact noExR_c ke _ r X (hR.over hX)
  have KR : Hx (∀ X,Ov w X→Ro 79 #[.agg #[.int .i64 e0,.int .i64 e1,.int .i64 e2,.string e3,.slice q q1 q2]] X (.bool qr)):=fun X hX => by rw [hqr]; exact isExpr_c ke _ r X (hR.over hX)
  have KBD : Hx (∀ X,Ov w X→Ro 39 #[.slice aB body.length cB] X (.bool qb)):=fun X hX => by rw [hqb]; exact areStmts_c ke kc body aB cB X (lsC_over hX hB)
  rw [← hnB] at KBD
  have HLL:=hL.max
  have HLP:=hP.max
  have HLBB:=hB.max
  rw [← hnL] at HLL
  rw [← hnP] at HLP
  rw [← hnB] at HLBB
  have HLB:=hide hL
  have HPS:=hide hP
  have HQL:=hide hql
  have HQP:=hide hqp
  have HNL:=hide hnL
  have HNP:=hide hnP
  rw [← hnL,← hnP,← hnB]
  clear hfin hqx hqy hql hqp hqb hqr hqo hne hl0 hL hP hB hR hnL hnP hnB hx hy
  go_enter Tryz.func38,Tryz.ntmps38
  go_wp2_with fail
  refine (K17.o _ (bA w (.cells #[.int .i64 3,.int .i64 a,.string x,.string y,.bool false,.slice aL nL cL,.slice aP nP cP,.slice aB nB cB,.int .i64 e0,.int .i64 e1,.int .i64 e2,.string e3,.slice q q1 q2] 51))).mono ?_
  rintro e w1 ⟨rfl,hb⟩
  have HB1 : Hx (Ov w w1):=over_trans (bA w (.cells #[.int .i64 3,.int .i64 a,.string x,.string y,.bool false,.slice aL nL cL,.slice aP nP cP,.slice aB nB cB,.int .i64 e0,.int .i64 e1,.int .i64 e2,.string e3,.slice q q1 q2] 51)) hb
  have HR0_1 : Hx (RowAt [.int .i64 3,.int .i64 a,.string x,.string y,.bool false,.slice aL nL cL,.slice aP nP cP,.slice aB nB cB,.int .i64 e0,.int .i64 e1,.int .i64 e2,.string e3,.slice q q1 q2] w1 w.heap.size):=RowAt.over (al10 w [.int .i64 3,.int .i64 a,.string x,.string y,.bool false,.slice aL nL cL,.slice aP nP cP,.slice aB nB cB,.int .i64 e0,.int .i64 e1,.int .i64 e2,.string e3,.slice q q1 q2] 51) hb
  clear hb  K17
  obtain ⟨m0x0,m0x1,m0x2,m0x3,m0x4,m0x5,m0x6,m0x7,m0x8,m0x9,m0x10,m0x11,m0x12⟩:=rc13 HR0_1.o
  go_wp2_with fail
  refine (KX.o _ (HB1.o)).mono ?_
  rintro e w2 ⟨rfl,hb⟩
  have HB2 : Hx (Ov w w2):=over_trans (HB1.o) hb
  have HR0_2 : Hx (RowAt [.int .i64 3,.int .i64 a,.string x,.string y,.bool false,.slice aL nL cL,.slice aP nP cP,.slice aB nB cB,.int .i64 e0,.int .i64 e1,.int .i64 e2,.string e3,.slice q q1 q2] w2 w.heap.size):=HR0_1.o.over hb
  clear hb m0x0 m0x1 m0x2 m0x3 m0x4 m0x5 m0x6 m0x7 m0x8 m0x9 m0x10 m0x11 m0x12 KX
  cases qx with
  | true =>
    by_cases hy0 : y.data.toList = []
    · obtain rfl:=ba_of_list hy0
      have hyy : qy = true:=by rw [HYE.o]; rfl
      subst hyy
      clear hy0 HYE
      obtain ⟨m0x0,m0x1,m0x2,m0x3,m0x4,m0x5,m0x6,m0x7,m0x8,m0x9,m0x10,m0x11,m0x12⟩:=rc13 HR0_2.o
      go_wp2_with fail
      refine (K46.o _ (HB2.o)).mono ?_
      rintro e w3 ⟨rfl,hb⟩
      have HB3 : Hx (Ov w w3):=over_trans (HB2.o) hb
      have HR0_3 : Hx (RowAt [.int .i64 3,.int .i64 a,.string x,.string ⟨#[]⟩,.bool false,.slice aL nL cL,.slice aP nP cP,.slice aB nB cB,.int .i64 e0,.int .i64 e1,.int .i64 e2,.string e3,.slice q q1 q2] w3 w.heap.size):=HR0_2.o.over hb
      clear hb m0x0 m0x1 m0x2 m0x3 m0x4 m0x5 m0x6 m0x7 m0x8 m0x9 m0x10 m0x11 m0x12 K46
      by_cases h0 : nL = 0
      · subst h0
        obtain ⟨m0x0,m0x1,m0x2,m0x3,m0x4,m0x5,m0x6,m0x7,m0x8,m0x9,m0x10,m0x11,m0x12⟩:=rc13 HR0_3.o
        go_wp2_with fail
        clear m0x0 m0x1 m0x2 m0x3 m0x4 m0x5 m0x6 m0x7 m0x8 m0x9 m0x10 m0x11 m0x12
        go_loopw [3] (fun i wr => i = .int .i64 0∧w3 = wr) (fun _ _ => 0)
        case atStart => exact ⟨rfl,rfl⟩
        case round =>
          obtain ⟨rfl,rfl⟩:=hrel
          by_cases h1 : nP = 0
          · subst h1
            by_cases h2 : nB = 0
            · subst h2
              obtain ⟨m0x0,m0x1,m0x2,m0x3,m0x4,m0x5,m0x6,m0x7,m0x8,m0x9,m0x10,m0x11,m0x12⟩:=rc13 HR0_3.o
              go_wp2_with fail
              refine (KO.o _ (HB3.o)).mono ?_
              rintro e w4 ⟨rfl,hb⟩
              have HB4 : Hx (Ov w w4):=over_trans (HB3.o) hb
              have HR0_4 : Hx (RowAt [.int .i64 3,.int .i64 a,.string x,.string ⟨#[]⟩,.bool false,.slice aL 0 cL,.slice aP 0 cP,.slice aB 0 cB,.int .i64 e0,.int .i64 e1,.int .i64 e2,.string e3,.slice q q1 q2] w4 w.heap.size):=HR0_3.o.over hb
              clear hb m0x0 m0x1 m0x2 m0x3 m0x4 m0x5 m0x6 m0x7 m0x8 m0x9 m0x10 m0x11 m0x12 KO
              have HV : Hx (fin = qo):=by have h:=HF.o; simp at h; exact h
              obtain ⟨m0x0,m0x1,m0x2,m0x3,m0x4,m0x5,m0x6,m0x7,m0x8,m0x9,m0x10,m0x11,m0x12⟩:=rc13 HR0_4.o
              go_wp2_with fail
              go_ret
              exact ⟨by rw [HV.o]; (first | rfl | (simp; done) | (simp; assumption) | (simp; omega)),HB4.o⟩
            · have hi : ¬ (nB : Int) = 0:=by omega
              have HV : Hx (fin = false):=by have h:=HF.o; simp [h2] at h; exact h
              obtain ⟨m0x0,m0x1,m0x2,m0x3,m0x4,m0x5,m0x6,m0x7,m0x8,m0x9,m0x10,m0x11,m0x12⟩:=rc13 HR0_3.o
              go_wp2_with fail
              go_ret
              exact ⟨by rw [HV.o]; (first | rfl | (simp; done) | (simp; assumption) | (simp; omega)),HB3.o⟩
          · have hi : ¬ (nP : Int) = 0:=by omega
            have HV : Hx (fin = false):=by have h:=HF.o; simp [h1] at h; exact h
            obtain ⟨m0x0,m0x1,m0x2,m0x3,m0x4,m0x5,m0x6,m0x7,m0x8,m0x9,m0x10,m0x11,m0x12⟩:=rc13 HR0_3.o
            go_wp2_with fail
            go_ret
            exact ⟨by rw [HV.o]; (first | rfl | (simp; done) | (simp; assumption) | (simp; omega)),HB3.o⟩
      · have hi : (0 : Int) < (nL : Int):=by omega
        have hn0 : 0 < nL:=by omega
        have HV : Hx (fin = false):=by have h:=HF.o; simp [h0] at h; exact h
        obtain ⟨m0x0,m0x1,m0x2,m0x3,m0x4,m0x5,m0x6,m0x7,m0x8,m0x9,m0x10,m0x11,m0x12⟩:=rc13 HR0_3.o
        go_wp2_with fail
        go_ret
        exact ⟨by rw [HV.o]; (first | rfl | (simp; done) | (simp; assumption) | (simp; omega)),HB3.o⟩
    · have hne:=ne_of_list hy0
      have hyy : qy = false:=by rw [HYE.o]; simpa using hy0
      subst hyy
      clear hy0 HYE
      have HV : Hx (fin = false):=by have h:=HF.o; simp at h; exact h
      obtain ⟨m0x0,m0x1,m0x2,m0x3,m0x4,m0x5,m0x6,m0x7,m0x8,m0x9,m0x10,m0x11,m0x12⟩:=rc13 HR0_2.o
      go_wp2_with fail
      go_ret
      exact ⟨by rw [HV.o]; (first | rfl | (simp; done) | (simp; assumption) | (simp; omega)),HB2.o⟩
  | false =>
    have HV : Hx (fin = false):=by have h:=HF.o; simp at h; exact h
    obtain ⟨m0x0,m0x1,m0x2,m0x3,m0x4,m0x5,m0x6,m0x7,m0x8,m0x9,m0x10,m0x11,m0x12⟩:=rc13 HR0_2.o
    go_wp2_with fail
    go_ret
    exact ⟨by rw [HV.o]; (first | rfl | (simp; done) | (simp; assumption) | (simp; omega)),HB2.o⟩
set_option maxHeartbeats 4000000 in
set_option maxRecDepth 100000 in
theorem isDecl_7t (ke kc : Nat) (a : Int) (x y : ByteArray) (aL : Option Addr) (cL : Nat) (lb : List D) (aP : Option Addr) (cP : Nat) (ps : List ByteArray) (aB : Option Addr) (cB : Nat) (body : List D) (e0 e1 e2 : Int) (e3 : ByteArray) (q : Option Addr) (q1 q2 : Nat) (r : D) (w : World) (hx : x.size≤maxLen) (hy : y.size≤maxLen) (hL : LS 4 (ZP w) w (.slice aL lb.length cL) lb) (hP : LS 1 ZN w (.slice aP ps.length cP) ps) (hB : LS 12 (ZC w ke kc) w (.slice aB body.length cB) body) (hR : ZE w ke [.int .i64 e0,.int .i64 e1,.int .i64 e2,.string e3,.slice q q1 q2] r) :
    Ro 38 #[.agg #[.int .i64 7,.int .i64 a,.string x,.string y,.bool true,.slice aL lb.length cL,.slice aP ps.length cP,.slice aB body.length cB,.int .i64 e0,.int .i64 e1,.int .i64 e2,.string e3,.slice q q1 q2]] w (.bool (dfK ke kc (deD 7 a x y true lb ps body r))):=by
  obtain ⟨fin,hfin⟩:=nm (dfK ke kc (deD 7 a x y true lb ps body r))
  rw [← hfin]
  unfold dfK labF funF at hfin
  simp only [gDd,all_dS nmS,emp_len,List.length_map] at hfin
  obtain ⟨qx,hqx⟩:=nm (nmS x.data.toList)
  obtain ⟨qy,hqy⟩:=nm (y.data.toList.isEmpty)
  obtain ⟨ql,hql⟩:=nm (lb.all polF)
  obtain ⟨qp,hqp⟩:=nm (ps.all fun x => nmS x.data.toList)
  obtain ⟨qb,hqb⟩:=nm (body.all (sfK ke kc))
  obtain ⟨qr,hqr⟩:=nm (efK ke r)
  obtain ⟨qo,hqo⟩:=nm (noEx r)
  obtain ⟨nL,hnL⟩:=nm lb.length
  obtain ⟨nP,hnP⟩:=nm ps.length
  obtain ⟨nB,hnB⟩:=nm body.length
  have hne : (lb≠[]) = (nL≠0):=by rw [hnL]; simp
  have hl0 : nL = 0→ql = true:=fun h => by rw [hql,List.length_eq_zero_iff.1 (hnL.symm.trans h)]; rfl
  simp only [← hqx,← hql,← hqp,← hqb,← hqr,← hqo,← hnP,← hnB,hne] at hfin
  have HF : Hx (fin = (qx && qy && (!true && decide (nL = 0)) && (qp && qb && qr))):=by
    show _ = _
    rw [hfin,hqy]
    by_cases h0 : nL = 0
    · simp [nfS]
    · simp [nfS]
  have K17 : Hx (∀ X,Ov w X→Ro 76 #[.int .i64 7,.int .i64 1,.int .i64 7] X (.bool true)):=fun X _ => by simpa using between_c 7 1 7 X
  have K46 : Hx (∀ X,Ov w X→Ro 76 #[.int .i64 7,.int .i64 4,.int .i64 6] X (.bool false)):=fun X _ => by simpa using between_c 7 4 6 X
  have KX : Hx (∀ X,Ov w X→Ro 77 #[.string x] X (.bool qx)):=fun X _ => by rw [hqx]; exact isNameR_c x X hx
  have HYE:=hide hqy
  have KO : Hx (∀ X,Ov w X→Ro 78 #[.agg #[.int .i64 e0,.int .i64 e1,.int .i64 e2,.string e3,.slice q q1 q2]] X (.bool qo)):=fun X hX => by rw [hqo]; exact noExR_c ke _ r X (hR.over hX)
  have KR : Hx (∀ X,Ov w X→Ro 79 #[.agg #[.int .i64 e0,.int .i64 e1,.int .i64 e2,.string e3,.slice q q1 q2]] X (.bool qr)):=fun X hX => by rw [hqr]; exact isExpr_c ke _ r X (hR.over hX)
  have KBD : Hx (∀ X,Ov w X→Ro 39 #[.slice aB body.length cB] X (.bool qb)):=fun X hX => by rw [hqb]; exact areStmts_c ke kc body aB cB X (lsC_over hX hB)
  rw [← hnB] at KBD
  have HLL:=hL.max
  have HLP:=hP.max
  have HLBB:=hB.max
  rw [← hnL] at HLL
  rw [← hnP] at HLP
  rw [← hnB] at HLBB
  have HLB:=hide hL
  have HPS:=hide hP
  have HQL:=hide hql
  have HQP:=hide hqp
  have HNL:=hide hnL
  have HNP:=hide hnP
  rw [← hnL,← hnP,← hnB]
  clear hfin hqx hqy hql hqp hqb hqr hqo hne hl0 hL hP hB hR hnL hnP hnB hx hy
  go_enter Tryz.func38,Tryz.ntmps38
  go_wp2_with fail
  refine (K17.o _ (bA w (.cells #[.int .i64 7,.int .i64 a,.string x,.string y,.bool true,.slice aL nL cL,.slice aP nP cP,.slice aB nB cB,.int .i64 e0,.int .i64 e1,.int .i64 e2,.string e3,.slice q q1 q2] 51))).mono ?_
  rintro e w1 ⟨rfl,hb⟩
  have HB1 : Hx (Ov w w1):=over_trans (bA w (.cells #[.int .i64 7,.int .i64 a,.string x,.string y,.bool true,.slice aL nL cL,.slice aP nP cP,.slice aB nB cB,.int .i64 e0,.int .i64 e1,.int .i64 e2,.string e3,.slice q q1 q2] 51)) hb
  have HR0_1 : Hx (RowAt [.int .i64 7,.int .i64 a,.string x,.string y,.bool true,.slice aL nL cL,.slice aP nP cP,.slice aB nB cB,.int .i64 e0,.int .i64 e1,.int .i64 e2,.string e3,.slice q q1 q2] w1 w.heap.size):=RowAt.over (al10 w [.int .i64 7,.int .i64 a,.string x,.string y,.bool true,.slice aL nL cL,.slice aP nP cP,.slice aB nB cB,.int .i64 e0,.int .i64 e1,.int .i64 e2,.string e3,.slice q q1 q2] 51) hb
  clear hb  K17
  obtain ⟨m0x0,m0x1,m0x2,m0x3,m0x4,m0x5,m0x6,m0x7,m0x8,m0x9,m0x10,m0x11,m0x12⟩:=rc13 HR0_1.o
  go_wp2_with fail
  refine (KX.o _ (HB1.o)).mono ?_
  rintro e w2 ⟨rfl,hb⟩
  have HB2 : Hx (Ov w w2):=over_trans (HB1.o) hb
  have HR0_2 : Hx (RowAt [.int .i64 7,.int .i64 a,.string x,.string y,.bool true,.slice aL nL cL,.slice aP nP cP,.slice aB nB cB,.int .i64 e0,.int .i64 e1,.int .i64 e2,.string e3,.slice q q1 q2] w2 w.heap.size):=HR0_1.o.over hb
  clear hb m0x0 m0x1 m0x2 m0x3 m0x4 m0x5 m0x6 m0x7 m0x8 m0x9 m0x10 m0x11 m0x12 KX
  cases qx with
  | true =>
    by_cases hy0 : y.data.toList = []
    · obtain rfl:=ba_of_list hy0
      have hyy : qy = true:=by rw [HYE.o]; rfl
      subst hyy
      clear hy0 HYE
      obtain ⟨m0x0,m0x1,m0x2,m0x3,m0x4,m0x5,m0x6,m0x7,m0x8,m0x9,m0x10,m0x11,m0x12⟩:=rc13 HR0_2.o
      go_wp2_with fail
      refine (K46.o _ (HB2.o)).mono ?_
      rintro e w3 ⟨rfl,hb⟩
      have HB3 : Hx (Ov w w3):=over_trans (HB2.o) hb
      have HR0_3 : Hx (RowAt [.int .i64 7,.int .i64 a,.string x,.string ⟨#[]⟩,.bool true,.slice aL nL cL,.slice aP nP cP,.slice aB nB cB,.int .i64 e0,.int .i64 e1,.int .i64 e2,.string e3,.slice q q1 q2] w3 w.heap.size):=HR0_2.o.over hb
      clear hb m0x0 m0x1 m0x2 m0x3 m0x4 m0x5 m0x6 m0x7 m0x8 m0x9 m0x10 m0x11 m0x12 K46
      have HV : Hx (fin = false):=by have h:=HF.o; simp at h; exact h
      obtain ⟨m0x0,m0x1,m0x2,m0x3,m0x4,m0x5,m0x6,m0x7,m0x8,m0x9,m0x10,m0x11,m0x12⟩:=rc13 HR0_3.o
      go_wp2_with fail
      go_ret
      exact ⟨by rw [HV.o]; (first | rfl | (simp; done) | (simp; assumption) | (simp; omega)),HB3.o⟩
    · have hne:=ne_of_list hy0
      have hyy : qy = false:=by rw [HYE.o]; simpa using hy0
      subst hyy
      clear hy0 HYE
      have HV : Hx (fin = false):=by have h:=HF.o; simp at h; exact h
      obtain ⟨m0x0,m0x1,m0x2,m0x3,m0x4,m0x5,m0x6,m0x7,m0x8,m0x9,m0x10,m0x11,m0x12⟩:=rc13 HR0_2.o
      go_wp2_with fail
      go_ret
      exact ⟨by rw [HV.o]; (first | rfl | (simp; done) | (simp; assumption) | (simp; omega)),HB2.o⟩
  | false =>
    have HV : Hx (fin = false):=by have h:=HF.o; simp at h; exact h
    obtain ⟨m0x0,m0x1,m0x2,m0x3,m0x4,m0x5,m0x6,m0x7,m0x8,m0x9,m0x10,m0x11,m0x12⟩:=rc13 HR0_2.o
    go_wp2_with fail
    go_ret
    exact ⟨by rw [HV.o]; (first | rfl | (simp; done) | (simp; assumption) | (simp; omega)),HB2.o⟩
set_option maxHeartbeats 4000000 in
set_option maxRecDepth 100000 in
theorem isDecl_7f (ke kc : Nat) (a : Int) (x y : ByteArray) (aL : Option Addr) (cL : Nat) (lb : List D) (aP : Option Addr) (cP : Nat) (ps : List ByteArray) (aB : Option Addr) (cB : Nat) (body : List D) (e0 e1 e2 : Int) (e3 : ByteArray) (q : Option Addr) (q1 q2 : Nat) (r : D) (w : World) (hx : x.size≤maxLen) (hy : y.size≤maxLen) (hL : LS 4 (ZP w) w (.slice aL lb.length cL) lb) (hP : LS 1 ZN w (.slice aP ps.length cP) ps) (hB : LS 12 (ZC w ke kc) w (.slice aB body.length cB) body) (hR : ZE w ke [.int .i64 e0,.int .i64 e1,.int .i64 e2,.string e3,.slice q q1 q2] r) :
    Ro 38 #[.agg #[.int .i64 7,.int .i64 a,.string x,.string y,.bool false,.slice aL lb.length cL,.slice aP ps.length cP,.slice aB body.length cB,.int .i64 e0,.int .i64 e1,.int .i64 e2,.string e3,.slice q q1 q2]] w (.bool (dfK ke kc (deD 7 a x y false lb ps body r))):=by
  obtain ⟨fin,hfin⟩:=nm (dfK ke kc (deD 7 a x y false lb ps body r))
  rw [← hfin]
  unfold dfK labF funF at hfin
  simp only [gDd,all_dS nmS,emp_len,List.length_map] at hfin
  obtain ⟨qx,hqx⟩:=nm (nmS x.data.toList)
  obtain ⟨qy,hqy⟩:=nm (y.data.toList.isEmpty)
  obtain ⟨ql,hql⟩:=nm (lb.all polF)
  obtain ⟨qp,hqp⟩:=nm (ps.all fun x => nmS x.data.toList)
  obtain ⟨qb,hqb⟩:=nm (body.all (sfK ke kc))
  obtain ⟨qr,hqr⟩:=nm (efK ke r)
  obtain ⟨qo,hqo⟩:=nm (noEx r)
  obtain ⟨nL,hnL⟩:=nm lb.length
  obtain ⟨nP,hnP⟩:=nm ps.length
  obtain ⟨nB,hnB⟩:=nm body.length
  have hne : (lb≠[]) = (nL≠0):=by rw [hnL]; simp
  have hl0 : nL = 0→ql = true:=fun h => by rw [hql,List.length_eq_zero_iff.1 (hnL.symm.trans h)]; rfl
  simp only [← hqx,← hql,← hqp,← hqb,← hqr,← hqo,← hnP,← hnB,hne] at hfin
  have HF : Hx (fin = (qx && qy && (!false && decide (nL = 0)) && (qp && qb && qr))):=by
    show _ = _
    rw [hfin,hqy]
    by_cases h0 : nL = 0
    · simp [h0,nfS]
    · simp [h0,nfS]
  have K17 : Hx (∀ X,Ov w X→Ro 76 #[.int .i64 7,.int .i64 1,.int .i64 7] X (.bool true)):=fun X _ => by simpa using between_c 7 1 7 X
  have K46 : Hx (∀ X,Ov w X→Ro 76 #[.int .i64 7,.int .i64 4,.int .i64 6] X (.bool false)):=fun X _ => by simpa using between_c 7 4 6 X
  have KX : Hx (∀ X,Ov w X→Ro 77 #[.string x] X (.bool qx)):=fun X _ => by rw [hqx]; exact isNameR_c x X hx
  have HYE:=hide hqy
  have KO : Hx (∀ X,Ov w X→Ro 78 #[.agg #[.int .i64 e0,.int .i64 e1,.int .i64 e2,.string e3,.slice q q1 q2]] X (.bool qo)):=fun X hX => by rw [hqo]; exact noExR_c ke _ r X (hR.over hX)
  have KR : Hx (∀ X,Ov w X→Ro 79 #[.agg #[.int .i64 e0,.int .i64 e1,.int .i64 e2,.string e3,.slice q q1 q2]] X (.bool qr)):=fun X hX => by rw [hqr]; exact isExpr_c ke _ r X (hR.over hX)
  have KBD : Hx (∀ X,Ov w X→Ro 39 #[.slice aB body.length cB] X (.bool qb)):=fun X hX => by rw [hqb]; exact areStmts_c ke kc body aB cB X (lsC_over hX hB)
  rw [← hnB] at KBD
  have HLL:=hL.max
  have HLP:=hP.max
  have HLBB:=hB.max
  rw [← hnL] at HLL
  rw [← hnP] at HLP
  rw [← hnB] at HLBB
  have HLB:=hide hL
  have HPS:=hide hP
  have HQL:=hide hql
  have HQP:=hide hqp
  have HNL:=hide hnL
  have HNP:=hide hnP
  rw [← hnL,← hnP,← hnB]
  clear hfin hqx hqy hql hqp hqb hqr hqo hne hl0 hL hP hB hR hnL hnP hnB hx hy
  go_enter Tryz.func38,Tryz.ntmps38
  go_wp2_with fail
  refine (K17.o _ (bA w (.cells #[.int .i64 7,.int .i64 a,.string x,.string y,.bool false,.slice aL nL cL,.slice aP nP cP,.slice aB nB cB,.int .i64 e0,.int .i64 e1,.int .i64 e2,.string e3,.slice q q1 q2] 51))).mono ?_
  rintro e w1 ⟨rfl,hb⟩
  have HB1 : Hx (Ov w w1):=over_trans (bA w (.cells #[.int .i64 7,.int .i64 a,.string x,.string y,.bool false,.slice aL nL cL,.slice aP nP cP,.slice aB nB cB,.int .i64 e0,.int .i64 e1,.int .i64 e2,.string e3,.slice q q1 q2] 51)) hb
  have HR0_1 : Hx (RowAt [.int .i64 7,.int .i64 a,.string x,.string y,.bool false,.slice aL nL cL,.slice aP nP cP,.slice aB nB cB,.int .i64 e0,.int .i64 e1,.int .i64 e2,.string e3,.slice q q1 q2] w1 w.heap.size):=RowAt.over (al10 w [.int .i64 7,.int .i64 a,.string x,.string y,.bool false,.slice aL nL cL,.slice aP nP cP,.slice aB nB cB,.int .i64 e0,.int .i64 e1,.int .i64 e2,.string e3,.slice q q1 q2] 51) hb
  clear hb  K17
  obtain ⟨m0x0,m0x1,m0x2,m0x3,m0x4,m0x5,m0x6,m0x7,m0x8,m0x9,m0x10,m0x11,m0x12⟩:=rc13 HR0_1.o
  go_wp2_with fail
  refine (KX.o _ (HB1.o)).mono ?_
  rintro e w2 ⟨rfl,hb⟩
  have HB2 : Hx (Ov w w2):=over_trans (HB1.o) hb
  have HR0_2 : Hx (RowAt [.int .i64 7,.int .i64 a,.string x,.string y,.bool false,.slice aL nL cL,.slice aP nP cP,.slice aB nB cB,.int .i64 e0,.int .i64 e1,.int .i64 e2,.string e3,.slice q q1 q2] w2 w.heap.size):=HR0_1.o.over hb
  clear hb m0x0 m0x1 m0x2 m0x3 m0x4 m0x5 m0x6 m0x7 m0x8 m0x9 m0x10 m0x11 m0x12 KX
  cases qx with
  | true =>
    by_cases hy0 : y.data.toList = []
    · obtain rfl:=ba_of_list hy0
      have hyy : qy = true:=by rw [HYE.o]; rfl
      subst hyy
      clear hy0 HYE
      obtain ⟨m0x0,m0x1,m0x2,m0x3,m0x4,m0x5,m0x6,m0x7,m0x8,m0x9,m0x10,m0x11,m0x12⟩:=rc13 HR0_2.o
      go_wp2_with fail
      refine (K46.o _ (HB2.o)).mono ?_
      rintro e w3 ⟨rfl,hb⟩
      have HB3 : Hx (Ov w w3):=over_trans (HB2.o) hb
      have HR0_3 : Hx (RowAt [.int .i64 7,.int .i64 a,.string x,.string ⟨#[]⟩,.bool false,.slice aL nL cL,.slice aP nP cP,.slice aB nB cB,.int .i64 e0,.int .i64 e1,.int .i64 e2,.string e3,.slice q q1 q2] w3 w.heap.size):=HR0_2.o.over hb
      clear hb m0x0 m0x1 m0x2 m0x3 m0x4 m0x5 m0x6 m0x7 m0x8 m0x9 m0x10 m0x11 m0x12 K46
      by_cases h0 : nL = 0
      · subst h0
        obtain ⟨m0x0,m0x1,m0x2,m0x3,m0x4,m0x5,m0x6,m0x7,m0x8,m0x9,m0x10,m0x11,m0x12⟩:=rc13 HR0_3.o
        go_wp2_with fail
        clear m0x0 m0x1 m0x2 m0x3 m0x4 m0x5 m0x6 m0x7 m0x8 m0x9 m0x10 m0x11 m0x12
        go_loopw [3] (fun i wr => i = .int .i64 0∧w3 = wr) (fun _ _ => 0)
        case atStart => exact ⟨rfl,rfl⟩
        case round =>
          obtain ⟨rfl,rfl⟩:=hrel
          obtain ⟨m0x0,m0x1,m0x2,m0x3,m0x4,m0x5,m0x6,m0x7,m0x8,m0x9,m0x10,m0x11,m0x12⟩:=rc13 HR0_3.o
          go_wp2_with fail
          clear m0x0 m0x1 m0x2 m0x3 m0x4 m0x5 m0x6 m0x7 m0x8 m0x9 m0x10 m0x11 m0x12
          go_loopw [5] (fun i wr => ∃ (j : Nat),j≤nP∧i = .int .i64 j∧(ps.drop j).all (fun x => nmS x.data.toList) = qp∧Ov w3 wr) (fun i _ => nP - (intOf i).toNat)
          case atStart => exact ⟨0,Nat.zero_le _,rfl,HQP.o.symm,Below.refl _ _⟩
          case round =>
            obtain ⟨j,hj,rfl,hp,hB⟩:=hrel
            obtain ⟨n0,n1,n2,n3,n4,n5,n6,n7,n8,n9,n10,n11,n12⟩:=rc13 (HR0_3.o.over hB)
            by_cases hjl : j < nP
            · have hjl0 : j < ps.length:=by have:=HNP.o; omega
              have hji : (j : Int) < (nP : Int):=by omega
              obtain ⟨b,off,rfl,cs,hl1,hcs,hr⟩:=HPS.o.at hjl0
              rw [List.drop_eq_getElem_cons hjl0,List.all_cons] at hp
              generalize ps[j] = dj at hp hr
              obtain ⟨q9,hq9⟩:=nm (nmS dj.data.toList)
              rw [← hq9] at hp
              have KC : Hx (∀ X,Ov wr X→Ro 77 #[.string dj] X (.bool q9)):=fun X _ => by rw [hq9]; exact isNameR_c dj X hr.2
              rw [hr.1] at hcs
              have z0 : wr.cell? ⟨b,off + j,none⟩ = some (.string dj):=ce1 (over_trans HB3.o hB) (by have:=hcs 0 _ rfl; simpa using this)
              have HP:=hide hp
              have HB:=hide hB
              clear hp hB hcs hl1 hr hq9 hjl0
              go_wp2_with fail
              refine (KC.o _ (Below.refl _ _)).mono ?_
              rintro e W9 ⟨rfl,hb⟩
              have HB9:=hide (over_trans HB.o hb)
              clear hb KC z0 n0 n1 n2 n3 n4 n5 n6 n7 n8 n9 n10 n11 n12
              cases q9 with
              | true =>
                have hp:=HP.o
                rw [Bool.true_and] at hp
                replace HP:=hide hp
                clear hp
                go_wp2_with fail
                exact ⟨⟨j + 1,by omega,by go_num,HP.o,HB9.o⟩,by simp [intOf]; omega⟩
              | false =>
                have hp:=HP.o
                rw [Bool.false_and] at hp
                subst hp
                have HV : Hx (fin = false):=by have h:=HF.o; simp at h; exact h
                go_wp2_with fail
                go_ret
                exact ⟨by rw [HV.o]; rfl,over_trans HB3.o HB9.o⟩
            · have hd : ps.drop j = []:=List.drop_eq_nil_of_le (by have:=HNP.o; omega)
              have hji : ¬ (j : Int) < (nP : Int):=by omega
              rw [hd] at hp
              have hqp : true = qp:=by rw [← hp]; rfl
              subst hqp
              have HBX:=hide (over_trans HB3.o hB)
              have HRX:=hide (HR0_3.o.over hB)
              clear hp hd hB n0 n1 n2 n3 n4 n5 n6 n7 n8 n9 n10 n11 n12 HQP
              obtain ⟨m0x0,m0x1,m0x2,m0x3,m0x4,m0x5,m0x6,m0x7,m0x8,m0x9,m0x10,m0x11,m0x12⟩:=rc13 HRX.o
              go_wp2_with fail
              refine (KBD.o _ (HBX.o)).mono ?_
              rintro e w91 ⟨rfl,hb⟩
              have HB91 : Hx (Ov w w91):=over_trans (HBX.o) hb
              have HR0_91 : Hx (RowAt [.int .i64 7,.int .i64 a,.string x,.string ⟨#[]⟩,.bool false,.slice aL 0 cL,.slice aP nP cP,.slice aB nB cB,.int .i64 e0,.int .i64 e1,.int .i64 e2,.string e3,.slice q q1 q2] w91 w.heap.size):=HRX.o.over hb
              clear hb m0x0 m0x1 m0x2 m0x3 m0x4 m0x5 m0x6 m0x7 m0x8 m0x9 m0x10 m0x11 m0x12 KBD
              cases qb with
              | true =>
                obtain ⟨m0x0,m0x1,m0x2,m0x3,m0x4,m0x5,m0x6,m0x7,m0x8,m0x9,m0x10,m0x11,m0x12⟩:=rc13 HR0_91.o
                go_wp2_with fail
                refine (KR.o _ (HB91.o)).mono ?_
                rintro e w92 ⟨rfl,hb⟩
                have HB92 : Hx (Ov w w92):=over_trans (HB91.o) hb
                have HR0_92 : Hx (RowAt [.int .i64 7,.int .i64 a,.string x,.string ⟨#[]⟩,.bool false,.slice aL 0 cL,.slice aP nP cP,.slice aB nB cB,.int .i64 e0,.int .i64 e1,.int .i64 e2,.string e3,.slice q q1 q2] w92 w.heap.size):=HR0_91.o.over hb
                clear hb m0x0 m0x1 m0x2 m0x3 m0x4 m0x5 m0x6 m0x7 m0x8 m0x9 m0x10 m0x11 m0x12 KR
                have HV : Hx (fin = qr):=by have h:=HF.o; simp at h; exact h
                obtain ⟨m0x0,m0x1,m0x2,m0x3,m0x4,m0x5,m0x6,m0x7,m0x8,m0x9,m0x10,m0x11,m0x12⟩:=rc13 HR0_92.o
                go_wp2_with fail
                go_ret
                exact ⟨by rw [HV.o]; (first | rfl | (simp; done) | (simp; assumption) | (simp; omega)),HB92.o⟩
              | false =>
                have HV : Hx (fin = false):=by have h:=HF.o; simp at h; exact h
                obtain ⟨m0x0,m0x1,m0x2,m0x3,m0x4,m0x5,m0x6,m0x7,m0x8,m0x9,m0x10,m0x11,m0x12⟩:=rc13 HR0_91.o
                go_wp2_with fail
                go_ret
                exact ⟨by rw [HV.o]; (first | rfl | (simp; done) | (simp; assumption) | (simp; omega)),HB91.o⟩
      · have hi : (0 : Int) < (nL : Int):=by omega
        have hn0 : 0 < nL:=by omega
        have HV : Hx (fin = false):=by have h:=HF.o; simp [h0] at h; exact h
        obtain ⟨m0x0,m0x1,m0x2,m0x3,m0x4,m0x5,m0x6,m0x7,m0x8,m0x9,m0x10,m0x11,m0x12⟩:=rc13 HR0_3.o
        go_wp2_with fail
        go_ret
        exact ⟨by rw [HV.o]; (first | rfl | (simp; done) | (simp; assumption) | (simp; omega)),HB3.o⟩
    · have hne:=ne_of_list hy0
      have hyy : qy = false:=by rw [HYE.o]; simpa using hy0
      subst hyy
      clear hy0 HYE
      have HV : Hx (fin = false):=by have h:=HF.o; simp at h; exact h
      obtain ⟨m0x0,m0x1,m0x2,m0x3,m0x4,m0x5,m0x6,m0x7,m0x8,m0x9,m0x10,m0x11,m0x12⟩:=rc13 HR0_2.o
      go_wp2_with fail
      go_ret
      exact ⟨by rw [HV.o]; (first | rfl | (simp; done) | (simp; assumption) | (simp; omega)),HB2.o⟩
  | false =>
    have HV : Hx (fin = false):=by have h:=HF.o; simp at h; exact h
    obtain ⟨m0x0,m0x1,m0x2,m0x3,m0x4,m0x5,m0x6,m0x7,m0x8,m0x9,m0x10,m0x11,m0x12⟩:=rc13 HR0_2.o
    go_wp2_with fail
    go_ret
    exact ⟨by rw [HV.o]; (first | rfl | (simp; done) | (simp; assumption) | (simp; omega)),HB2.o⟩
end Go.Proofs.YtipngnjffjajpaaGreatDoor.Tx
