/- Package tree's Check: policies, labels, functions, commands, declarations that are fine. -/
import Derived.Test.YtipngnjffjajpaaGreatDoorG21
namespace Go.Proofs.YtipngnjffjajpaaGreatDoor.Tx
open Go.RowKit
set_option linter.unusedVariables false
theorem all_dS (f : List UInt8→Bool) (ns : List ByteArray) : ((ns.map dS).all fun x => f (asS x)) = ns.all fun x => f x.data.toList:=by
  rw [List.all_map]; rfl
theorem emp_len {α : Type} (l : List α) : l.isEmpty = decide (l.length = 0):=by cases l <;> simp
set_option maxHeartbeats 4000000 in
set_option maxRecDepth 100000 in
theorem policyFine_c (cs : List Value) (d : D) (w : World) (h : ZP w cs d) : Ro 109 #[.agg cs.toArray] w (.bool (polF d)):=by
  obtain ⟨a,o,wr,an,cn,ns,rfl,rfl,ho,hN⟩:=h
  obtain ⟨fin,hfin⟩:=nm (polF (polD a o wr ns))
  rw [← hfin]
  unfold polF at hfin
  simp only [gPp,all_dS nmS] at hfin
  obtain ⟨qn,hqn⟩:=nm (nmS o.data.toList)
  obtain ⟨qa,hqa⟩:=nm (ns.all fun x => nmS x.data.toList)
  rw [← hqn,← hqa] at hfin
  have HF:=hide hfin
  have KN : Hx (∀ X,Ov w X→Ro 65 #[.string o] X (.bool qn)):=fun X _ => by rw [hqn]; exact isNameT_c o X ho
  have KA : Hx (∀ X,Ov w X→Ro 110 #[.slice an ns.length cn,.func (.func 65) #[] #[]] X (.bool qa)):=fun X hX => by rw [hqa]; exact allN_c 65 (fun args w => by simp [go_sem]) _ ns an cn X (fun x X hx => isNameT_c x X hx) (lsN_over hX hN)
  have HL:=hN.max
  clear hfin hqn hqa hN ho
  show Ro 109 #[.agg #[.int .i64 a,.string o,.bool wr,.slice an ns.length cn]] w _
  go_enter Tryz.func109,Tryz.ntmps109
  go_wp2_with fail
  refine (KN.o _ (bA w (.cells #[.int .i64 a,.string o,.bool wr,.slice an ns.length cn] 53))).mono ?_
  rintro e w1 ⟨rfl,hb⟩
  have HB1 : Hx (Ov w w1):=over_trans (bA w (.cells #[.int .i64 a,.string o,.bool wr,.slice an ns.length cn] 53)) hb
  have HR0_1 : Hx (RowAt [.int .i64 a,.string o,.bool wr,.slice an ns.length cn] w1 w.heap.size):=RowAt.over (al10 w [.int .i64 a,.string o,.bool wr,.slice an ns.length cn] 53) hb
  clear hb  KN
  cases qn with
  | true =>
    obtain ⟨m0x0,m0x1,m0x2,m0x3⟩:=rc4 HR0_1.o
    go_wp2_with fail
    refine (KA.o _ (HB1.o)).mono ?_
    rintro e w2 ⟨rfl,hb⟩
    have HB2 : Hx (Ov w w2):=over_trans (HB1.o) hb
    have HR0_2 : Hx (RowAt [.int .i64 a,.string o,.bool wr,.slice an ns.length cn] w2 w.heap.size):=HR0_1.o.over hb
    clear hb m0x0 m0x1 m0x2 m0x3 KA
    have HV : Hx (fin = qa):=by have h:=HF.o; simp at h; exact h
    obtain ⟨m0x0,m0x1,m0x2,m0x3⟩:=rc4 HR0_2.o
    go_wp2_with fail
    go_ret
    exact ⟨by rw [HV.o]; (first | rfl | (simp; done) | (simp; assumption) | (simp; omega)),HB2.o⟩
  | false =>
    have HV : Hx (fin = false):=by have h:=HF.o; simp at h; exact h
    obtain ⟨m0x0,m0x1,m0x2,m0x3⟩:=rc4 HR0_1.o
    go_wp2_with fail
    go_ret
    exact ⟨by rw [HV.o]; (first | rfl | (simp; done) | (simp; assumption) | (simp; omega)),HB1.o⟩
set_option maxHeartbeats 4000000 in
set_option maxRecDepth 100000 in
theorem labelFine_c (ke kc : Nat) (cs : List Value) (d : D) (w : World) (h : ZD w ke kc cs d) : Ro 67 #[.agg cs.toArray] w (.bool (labF d)):=by
  obtain ⟨kd,a,x,y,gv,aL,cL,lb,aP,cP,ps,aB,cB,body,e0,e1,e2,e3,q,q1,q2,r,rfl,rfl,-,-,hL,hP,hB,-⟩:=h
  obtain ⟨fin,hfin⟩:=nm (labF (deD kd a x y gv lb ps body r))
  rw [← hfin]
  unfold labF at hfin
  simp only [gDd] at hfin
  obtain ⟨qa,hqa⟩:=nm (lb.all polF)
  have he : (lb≠[]) = (lb.length≠0):=by simp
  simp only [← hqa,he] at hfin
  have KA : Hx (∀ X,Ov w X→Ro 105 #[.slice aL lb.length cL,.func (.func 109) #[] #[]] X (.bool qa)):=fun X hX => by rw [hqa]; exact allP_c 109 (fun args w => by simp [go_sem]) polF lb aL cL X (fun cs d X _ h => policyFine_c cs d X h) (lsP_over hX hL)
  have HLA:=hL.max
  clear hqa hL hP hB he
  show Ro 67 #[.agg #[.int .i64 kd,.int .i64 a,.string x,.string y,.bool gv,.slice aL lb.length cL,.slice aP ps.length cP,.slice aB body.length cB,.int .i64 e0,.int .i64 e1,.int .i64 e2,.string e3,.slice q q1 q2]] w _
  generalize lb.length = nL at hfin KA HLA ⊢
  generalize ps.length = nP at ⊢
  generalize body.length = nB at ⊢
  cases gv with
  | false =>
    by_cases h0 : nL = 0
    · subst h0
      by_cases h4 : kd = 4
      · subst h4
        have HV : Hx (fin = false):=by show _ = _; rw [hfin]; simp
        clear hfin
        go_enter Tryz.func67,Tryz.ntmps67
        go_wp2_with fail
        go_ret
        exact ⟨by rw [HV.o]; (first | rfl | (simp; done) | (simp; assumption) | (simp; omega)),bA w (.cells #[.int .i64 4,.int .i64 a,.string x,.string y,.bool false,.slice aL 0 cL,.slice aP nP cP,.slice aB nB cB,.int .i64 e0,.int .i64 e1,.int .i64 e2,.string e3,.slice q q1 q2] 51)⟩
      by_cases h5 : kd = 5
      · subst h5
        have HV : Hx (fin = false):=by show _ = _; rw [hfin]; simp
        clear hfin
        go_enter Tryz.func67,Tryz.ntmps67
        go_wp2_with fail
        go_ret
        exact ⟨by rw [HV.o]; (first | rfl | (simp; done) | (simp; assumption) | (simp; omega)),bA w (.cells #[.int .i64 5,.int .i64 a,.string x,.string y,.bool false,.slice aL 0 cL,.slice aP nP cP,.slice aB nB cB,.int .i64 e0,.int .i64 e1,.int .i64 e2,.string e3,.slice q q1 q2] 51)⟩
      by_cases h6 : kd = 6
      · subst h6
        have HV : Hx (fin = qa):=by show _ = _; rw [hfin]; simp
        clear hfin
        go_enter Tryz.func67,Tryz.ntmps67
        go_wp2_with fail
        refine (KA.o _ (bA w (.cells #[.int .i64 6,.int .i64 a,.string x,.string y,.bool false,.slice aL 0 cL,.slice aP nP cP,.slice aB nB cB,.int .i64 e0,.int .i64 e1,.int .i64 e2,.string e3,.slice q q1 q2] 51))).mono ?_
        rintro e w1 ⟨rfl,hb⟩
        have HB1 : Hx (Ov w w1):=over_trans (bA w (.cells #[.int .i64 6,.int .i64 a,.string x,.string y,.bool false,.slice aL 0 cL,.slice aP nP cP,.slice aB nB cB,.int .i64 e0,.int .i64 e1,.int .i64 e2,.string e3,.slice q q1 q2] 51)) hb
        have HR0_1 : Hx (RowAt [.int .i64 6,.int .i64 a,.string x,.string y,.bool false,.slice aL 0 cL,.slice aP nP cP,.slice aB nB cB,.int .i64 e0,.int .i64 e1,.int .i64 e2,.string e3,.slice q q1 q2] w1 w.heap.size):=RowAt.over (al10 w [.int .i64 6,.int .i64 a,.string x,.string y,.bool false,.slice aL 0 cL,.slice aP nP cP,.slice aB nB cB,.int .i64 e0,.int .i64 e1,.int .i64 e2,.string e3,.slice q q1 q2] 51) hb
        clear hb  KA
        obtain ⟨m0x0,m0x1,m0x2,m0x3,m0x4,m0x5,m0x6,m0x7,m0x8,m0x9,m0x10,m0x11,m0x12⟩:=rc13 HR0_1.o
        go_wp2_with fail
        go_ret
        exact ⟨by rw [HV.o]; (first | rfl | (simp; done) | (simp; assumption) | (simp; omega)),HB1.o⟩
      have HV : Hx (fin = true):=by show _ = _; rw [hfin]; simp [h4,h5,h6]
      clear hfin
      go_enter Tryz.func67,Tryz.ntmps67
      go_wp2_with fail
      go_ret
      exact ⟨by rw [HV.o]; (first | rfl | (simp; done) | (simp; assumption) | (simp; omega)),bA w (.cells #[.int .i64 kd,.int .i64 a,.string x,.string y,.bool false,.slice aL 0 cL,.slice aP nP cP,.slice aB nB cB,.int .i64 e0,.int .i64 e1,.int .i64 e2,.string e3,.slice q q1 q2] 51)⟩
    · have hi : (0 : Int) < (nL : Int):=by omega
      have hn : 0 < nL:=by omega
      have HV : Hx (fin = false):=by show _ = _; rw [hfin]; simp [h0]
      clear hfin
      go_enter Tryz.func67,Tryz.ntmps67
      go_wp2_with fail
      go_ret
      exact ⟨by rw [HV.o]; (first | rfl | (simp; done) | (simp; assumption) | (simp; omega)),bA w (.cells #[.int .i64 kd,.int .i64 a,.string x,.string y,.bool false,.slice aL nL cL,.slice aP nP cP,.slice aB nB cB,.int .i64 e0,.int .i64 e1,.int .i64 e2,.string e3,.slice q q1 q2] 51)⟩
  | true =>
    by_cases h4 : kd = 4
    · subst h4
      have HV : Hx (fin = qa):=by show _ = _; rw [hfin]; simp
      clear hfin
      go_enter Tryz.func67,Tryz.ntmps67
      go_wp2_with fail
      refine (KA.o _ (bA w (.cells #[.int .i64 4,.int .i64 a,.string x,.string y,.bool true,.slice aL nL cL,.slice aP nP cP,.slice aB nB cB,.int .i64 e0,.int .i64 e1,.int .i64 e2,.string e3,.slice q q1 q2] 51))).mono ?_
      rintro e w1 ⟨rfl,hb⟩
      have HB1 : Hx (Ov w w1):=over_trans (bA w (.cells #[.int .i64 4,.int .i64 a,.string x,.string y,.bool true,.slice aL nL cL,.slice aP nP cP,.slice aB nB cB,.int .i64 e0,.int .i64 e1,.int .i64 e2,.string e3,.slice q q1 q2] 51)) hb
      have HR0_1 : Hx (RowAt [.int .i64 4,.int .i64 a,.string x,.string y,.bool true,.slice aL nL cL,.slice aP nP cP,.slice aB nB cB,.int .i64 e0,.int .i64 e1,.int .i64 e2,.string e3,.slice q q1 q2] w1 w.heap.size):=RowAt.over (al10 w [.int .i64 4,.int .i64 a,.string x,.string y,.bool true,.slice aL nL cL,.slice aP nP cP,.slice aB nB cB,.int .i64 e0,.int .i64 e1,.int .i64 e2,.string e3,.slice q q1 q2] 51) hb
      clear hb  KA
      obtain ⟨m0x0,m0x1,m0x2,m0x3,m0x4,m0x5,m0x6,m0x7,m0x8,m0x9,m0x10,m0x11,m0x12⟩:=rc13 HR0_1.o
      go_wp2_with fail
      go_ret
      exact ⟨by rw [HV.o]; (first | rfl | (simp; done) | (simp; assumption) | (simp; omega)),HB1.o⟩
    by_cases h5 : kd = 5
    · subst h5
      have HV : Hx (fin = qa):=by show _ = _; rw [hfin]; simp
      clear hfin
      go_enter Tryz.func67,Tryz.ntmps67
      go_wp2_with fail
      refine (KA.o _ (bA w (.cells #[.int .i64 5,.int .i64 a,.string x,.string y,.bool true,.slice aL nL cL,.slice aP nP cP,.slice aB nB cB,.int .i64 e0,.int .i64 e1,.int .i64 e2,.string e3,.slice q q1 q2] 51))).mono ?_
      rintro e w1 ⟨rfl,hb⟩
      have HB1 : Hx (Ov w w1):=over_trans (bA w (.cells #[.int .i64 5,.int .i64 a,.string x,.string y,.bool true,.slice aL nL cL,.slice aP nP cP,.slice aB nB cB,.int .i64 e0,.int .i64 e1,.int .i64 e2,.string e3,.slice q q1 q2] 51)) hb
      have HR0_1 : Hx (RowAt [.int .i64 5,.int .i64 a,.string x,.string y,.bool true,.slice aL nL cL,.slice aP nP cP,.slice aB nB cB,.int .i64 e0,.int .i64 e1,.int .i64 e2,.string e3,.slice q q1 q2] w1 w.heap.size):=RowAt.over (al10 w [.int .i64 5,.int .i64 a,.string x,.string y,.bool true,.slice aL nL cL,.slice aP nP cP,.slice aB nB cB,.int .i64 e0,.int .i64 e1,.int .i64 e2,.string e3,.slice q q1 q2] 51) hb
      clear hb  KA
      obtain ⟨m0x0,m0x1,m0x2,m0x3,m0x4,m0x5,m0x6,m0x7,m0x8,m0x9,m0x10,m0x11,m0x12⟩:=rc13 HR0_1.o
      go_wp2_with fail
      go_ret
      exact ⟨by rw [HV.o]; (first | rfl | (simp; done) | (simp; assumption) | (simp; omega)),HB1.o⟩
    by_cases h6 : kd = 6
    · subst h6
      have HV : Hx (fin = qa):=by show _ = _; rw [hfin]; simp
      clear hfin
      go_enter Tryz.func67,Tryz.ntmps67
      go_wp2_with fail
      refine (KA.o _ (bA w (.cells #[.int .i64 6,.int .i64 a,.string x,.string y,.bool true,.slice aL nL cL,.slice aP nP cP,.slice aB nB cB,.int .i64 e0,.int .i64 e1,.int .i64 e2,.string e3,.slice q q1 q2] 51))).mono ?_
      rintro e w1 ⟨rfl,hb⟩
      have HB1 : Hx (Ov w w1):=over_trans (bA w (.cells #[.int .i64 6,.int .i64 a,.string x,.string y,.bool true,.slice aL nL cL,.slice aP nP cP,.slice aB nB cB,.int .i64 e0,.int .i64 e1,.int .i64 e2,.string e3,.slice q q1 q2] 51)) hb
      have HR0_1 : Hx (RowAt [.int .i64 6,.int .i64 a,.string x,.string y,.bool true,.slice aL nL cL,.slice aP nP cP,.slice aB nB cB,.int .i64 e0,.int .i64 e1,.int .i64 e2,.string e3,.slice q q1 q2] w1 w.heap.size):=RowAt.over (al10 w [.int .i64 6,.int .i64 a,.string x,.string y,.bool true,.slice aL nL cL,.slice aP nP cP,.slice aB nB cB,.int .i64 e0,.int .i64 e1,.int .i64 e2,.string e3,.slice q q1 q2] 51) hb
      clear hb  KA
      obtain ⟨m0x0,m0x1,m0x2,m0x3,m0x4,m0x5,m0x6,m0x7,m0x8,m0x9,m0x10,m0x11,m0x12⟩:=rc13 HR0_1.o
      go_wp2_with fail
      go_ret
      exact ⟨by rw [HV.o]; (first | rfl | (simp; done) | (simp; assumption) | (simp; omega)),HB1.o⟩
    have HV : Hx (fin = false):=by show _ = _; rw [hfin]; simp [h4,h5,h6]
    clear hfin
    go_enter Tryz.func67,Tryz.ntmps67
    go_wp2_with fail
    go_ret
    exact ⟨by rw [HV.o]; (first | rfl | (simp; done) | (simp; assumption) | (simp; omega)),bA w (.cells #[.int .i64 kd,.int .i64 a,.string x,.string y,.bool true,.slice aL nL cL,.slice aP nP cP,.slice aB nB cB,.int .i64 e0,.int .i64 e1,.int .i64 e2,.string e3,.slice q q1 q2] 51)⟩
set_option maxHeartbeats 4000000 in
set_option maxRecDepth 100000 in
theorem ofStmt_c (kd : Int) (w : World) : Ro 69 #[.int .i64 kd] w (.tuple #[.agg #[.bool (hVar kd),.bool (hOth kd),.bool (hExp kd),.bool (hArg kd),.bool (hThn kd),.bool (hEls kd)],.bool (hOk kd)]):=by
  by_cases hk : 1≤kd∧kd≤8
  · have h : kd = 1∨kd = 2∨kd = 3∨kd = 4∨kd = 5∨kd = 6∨kd = 7∨kd = 8:=by omega
    clear hk
    rcases h with rfl | rfl | rfl | rfl | rfl | rfl | rfl | rfl
    · show Ro 69 #[.int .i64 1] w (.tuple #[.agg #[.bool true,.bool false,.bool true,.bool false,.bool false,.bool false],.bool true])
      go_enter Tryz.func69,Tryz.ntmps69
      go_wp2_with fail
      exact bodyPost_ret (v:=.tuple #[.agg #[.bool true,.bool false,.bool true,.bool false,.bool false,.bool false],.bool true]) (by simp [results,Tryz.results69,go_sem]) rfl ⟨rfl,bA _ _⟩
    · show Ro 69 #[.int .i64 2] w (.tuple #[.agg #[.bool true,.bool true,.bool false,.bool true,.bool false,.bool false],.bool true])
      go_enter Tryz.func69,Tryz.ntmps69
      go_wp2_with fail
      exact bodyPost_ret (v:=.tuple #[.agg #[.bool true,.bool true,.bool false,.bool true,.bool false,.bool false],.bool true]) (by simp [results,Tryz.results69,go_sem]) rfl ⟨rfl,bA _ _⟩
    · show Ro 69 #[.int .i64 3] w (.tuple #[.agg #[.bool true,.bool true,.bool false,.bool false,.bool false,.bool false],.bool true])
      go_enter Tryz.func69,Tryz.ntmps69
      go_wp2_with fail
      exact bodyPost_ret (v:=.tuple #[.agg #[.bool true,.bool true,.bool false,.bool false,.bool false,.bool false],.bool true]) (by simp [results,Tryz.results69,go_sem]) rfl ⟨rfl,bA _ _⟩
    · show Ro 69 #[.int .i64 4] w (.tuple #[.agg #[.bool false,.bool true,.bool true,.bool false,.bool false,.bool false],.bool true])
      go_enter Tryz.func69,Tryz.ntmps69
      go_wp2_with fail
      exact bodyPost_ret (v:=.tuple #[.agg #[.bool false,.bool true,.bool true,.bool false,.bool false,.bool false],.bool true]) (by simp [results,Tryz.results69,go_sem]) rfl ⟨rfl,bA _ _⟩
    · show Ro 69 #[.int .i64 5] w (.tuple #[.agg #[.bool true,.bool false,.bool true,.bool false,.bool false,.bool false],.bool true])
      go_enter Tryz.func69,Tryz.ntmps69
      go_wp2_with fail
      exact bodyPost_ret (v:=.tuple #[.agg #[.bool true,.bool false,.bool true,.bool false,.bool false,.bool false],.bool true]) (by simp [results,Tryz.results69,go_sem]) rfl ⟨rfl,bA _ _⟩
    · show Ro 69 #[.int .i64 6] w (.tuple #[.agg #[.bool true,.bool false,.bool true,.bool false,.bool false,.bool false],.bool true])
      go_enter Tryz.func69,Tryz.ntmps69
      go_wp2_with fail
      exact bodyPost_ret (v:=.tuple #[.agg #[.bool true,.bool false,.bool true,.bool false,.bool false,.bool false],.bool true]) (by simp [results,Tryz.results69,go_sem]) rfl ⟨rfl,bA _ _⟩
    · show Ro 69 #[.int .i64 7] w (.tuple #[.agg #[.bool false,.bool false,.bool true,.bool false,.bool true,.bool true],.bool true])
      go_enter Tryz.func69,Tryz.ntmps69
      go_wp2_with fail
      exact bodyPost_ret (v:=.tuple #[.agg #[.bool false,.bool false,.bool true,.bool false,.bool true,.bool true],.bool true]) (by simp [results,Tryz.results69,go_sem]) rfl ⟨rfl,bA _ _⟩
    · show Ro 69 #[.int .i64 8] w (.tuple #[.agg #[.bool false,.bool false,.bool true,.bool false,.bool true,.bool false],.bool true])
      go_enter Tryz.func69,Tryz.ntmps69
      go_wp2_with fail
      exact bodyPost_ret (v:=.tuple #[.agg #[.bool false,.bool false,.bool true,.bool false,.bool true,.bool false],.bool true]) (by simp [results,Tryz.results69,go_sem]) rfl ⟨rfl,bA _ _⟩
  · have f1 : ∀ j : Int,1≤j→j≤8→¬ kd = j:=fun j _ _ _ => hk (by omega)
    have b1 : (kd == 1) = false:=by simp; omega
    have b2 : (kd == 2) = false:=by simp; omega
    have b3 : (kd == 3) = false:=by simp; omega
    have b4 : (kd == 4) = false:=by simp; omega
    have b5 : (kd == 5) = false:=by simp; omega
    have b6 : (kd == 6) = false:=by simp; omega
    have b7 : (kd == 7) = false:=by simp; omega
    have b8 : (kd == 8) = false:=by simp; omega
    have e0 : hVar kd = false:=by unfold hVar; simp; omega
    have e1 : hOth kd = false:=by unfold hOth; simp; omega
    have e2 : hExp kd = false:=by unfold hExp; simp; omega
    have e3 : hArg kd = false:=by unfold hArg; simp; omega
    have e4 : hThn kd = false:=by unfold hThn; simp; omega
    have e5 : hEls kd = false:=by unfold hEls; simp; omega
    have e6 : hOk kd = false:=by unfold hOk; simp; omega
    rw [e0,e1,e2,e3,e4,e5,e6]
    clear hk f1 e0 e1 e2 e3 e4 e5 e6
    go_enter Tryz.func69,Tryz.ntmps69
    go_wp2_with fail
    exact bodyPost_ret (v:=.tuple #[.agg #[.bool false,.bool false,.bool false,.bool false,.bool false,.bool false],.bool false]) (by simp [results,Tryz.results69,go_sem]) rfl ⟨rfl,bA _ _⟩
end Go.Proofs.YtipngnjffjajpaaGreatDoor.Tx
