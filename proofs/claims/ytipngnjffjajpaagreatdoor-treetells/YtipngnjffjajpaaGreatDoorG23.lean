/- Package tree's Check: commands, functions, declarations that are fine. -/
import Derived.Test.YtipngnjffjajpaaGreatDoorG22
namespace Go.Proofs.YtipngnjffjajpaaGreatDoor.Tx
open Go.RowKit
set_option linter.unusedVariables false
set_option maxHeartbeats 4000000 in
set_option maxRecDepth 100000 in
theorem stmtFine_c (ke : Nat) : ∀ (k : Nat) (cs : List Value) (d : D) (w : World),ZC w ke k cs d→Ro 36 #[.agg cs.toArray] w (.bool (sfK ke k d)):=by
  intro k
  induction k with
  | zero => intro cs d w h; exact h.elim
  | succ k ih =>
    intro cs d w h
    obtain ⟨kd,a,x,y,e0,e1,e2,e3,q,q1,q2,e,aA,cA,args,aT,cT,th,aE,cE,el,rfl,rfl,hx,hy,he,hA,hT,hE⟩:=h
    obtain ⟨fin,hfin⟩:=nm (sfK ke (k + 1) (stD kd a x y e args th el))
    rw [← hfin]
    simp only [sfK,gSs] at hfin
    obtain ⟨b0,hb0⟩:=nm (hVar kd)
    obtain ⟨b1,hb1⟩:=nm (hOth kd)
    obtain ⟨b2,hb2⟩:=nm (hExp kd)
    obtain ⟨b3,hb3⟩:=nm (hArg kd)
    obtain ⟨b4,hb4⟩:=nm (hThn kd)
    obtain ⟨b5,hb5⟩:=nm (hEls kd)
    obtain ⟨ok,hok⟩:=nm (hOk kd)
    have KS : Hx (∀ X,Ov w X→Ro 69 #[.int .i64 kd] X (.tuple #[.agg #[.bool b0,.bool b1,.bool b2,.bool b3,.bool b4,.bool b5],.bool ok])):=fun X _ => by rw [hb0,hb1,hb2,hb3,hb4,hb5,hok]; exact ofStmt_c kd X
    rw [← hb0,← hb1,← hb2,← hb3,← hb4,← hb5,← hok] at hfin
    clear hb0 hb1 hb2 hb3 hb4 hb5 hok
    obtain ⟨qv,hqv⟩:=nm (nfS x.data.toList b0)
    obtain ⟨qy,hqy⟩:=nm (nfS y.data.toList b1)
    obtain ⟨qe,hqe⟩:=nm (efK ke e)
    obtain ⟨qx,hqx⟩:=nm (noEx e)
    obtain ⟨qa,hqa⟩:=nm (lfS args b3 (efK ke))
    obtain ⟨qt,hqt⟩:=nm (lfS th b4 (sfK ke k))
    obtain ⟨ql,hql⟩:=nm (lfS el b5 (sfK ke k))
    rw [← hqv,← hqy,← hqe,← hqx,← hqa,← hqt,← hql] at hfin
    have HF:=hide hfin
    have KV : Hx (∀ X,Ov w X→Ro 66 #[.string x,.bool b0] X (.bool qv)):=fun X _ => by rw [hqv]; exact nameFine_c x b0 X hx
    have KY : Hx (∀ X,Ov w X→Ro 66 #[.string y,.bool b1] X (.bool qy)):=fun X _ => by rw [hqy]; exact nameFine_c y b1 X hy
    have KX : Hx (∀ X,Ov w X→Ro 70 #[.agg #[.int .i64 e0,.int .i64 e1,.int .i64 e2,.string e3,.slice q q1 q2]] X (.bool qe)):=fun X hX => by rw [hqe]; exact exprFine_c ke _ e X (he.over hX)
    have KO : Hx (∀ X,Ov w X→Ro 71 #[.agg #[.int .i64 e0,.int .i64 e1,.int .i64 e2,.string e3,.slice q q1 q2]] X (.bool qx)):=fun X hX => by rw [hqx]; exact noEx_c ke _ e X (he.over hX)
    have KA : Hx (∀ X,Ov w X→Ro 72 #[.slice aA args.length cA,.bool b3,.func (.func 70) #[] #[]] X (.bool qa)):=fun X hX => by rw [hqa]; exact listFineE_c 70 (fun args w => by simp [go_sem]) (efK ke) args aA cA b3 X (fun cs d X _ h => exprFine_c ke cs d X h) (lsE_over hX hA)
    have KT : Hx (∀ X,Ov w X→Ro 73 #[.slice aT th.length cT,.bool b4,.func (.func 36) #[] #[]] X (.bool qt)):=fun X hX => by rw [hqt]; exact listFineC_c 36 (fun args w => by simp [go_sem]) (sfK ke k) th aT cT b4 X (fun cs d X _ h => ih cs d X h) (lsC_over hX hT)
    have KE : Hx (∀ X,Ov w X→Ro 73 #[.slice aE el.length cE,.bool b5,.func (.func 36) #[] #[]] X (.bool ql)):=fun X hX => by rw [hql]; exact listFineC_c 36 (fun args w => by simp [go_sem]) (sfK ke k) el aE cE b5 X (fun cs d X _ h => ih cs d X h) (lsC_over hX hE)
    clear hfin hqv hqy hqe hqx hqa hqt hql hx hy he hA hT hE ih
    show Ro 36 #[.agg #[.int .i64 kd,.int .i64 a,.string x,.string y,.int .i64 e0,.int .i64 e1,.int .i64 e2,.string e3,.slice q q1 q2,.slice aA args.length cA,.slice aT th.length cT,.slice aE el.length cE]] w _
    generalize args.length = nA at KA ⊢
    generalize th.length = nT at KT ⊢
    generalize el.length = nE at KE ⊢
    go_enter Tryz.func36,Tryz.ntmps36
    go_wp2_with fail
    refine (KS.o _ (bA w (.cells #[.int .i64 kd,.int .i64 a,.string x,.string y,.int .i64 e0,.int .i64 e1,.int .i64 e2,.string e3,.slice q q1 q2,.slice aA nA cA,.slice aT nT cT,.slice aE nE cE] 55))).mono ?_
    rintro e w1 ⟨rfl,hb⟩
    have HB1 : Hx (Ov w w1):=over_trans (bA w (.cells #[.int .i64 kd,.int .i64 a,.string x,.string y,.int .i64 e0,.int .i64 e1,.int .i64 e2,.string e3,.slice q q1 q2,.slice aA nA cA,.slice aT nT cT,.slice aE nE cE] 55)) hb
    have HR0_1 : Hx (RowAt [.int .i64 kd,.int .i64 a,.string x,.string y,.int .i64 e0,.int .i64 e1,.int .i64 e2,.string e3,.slice q q1 q2,.slice aA nA cA,.slice aT nT cT,.slice aE nE cE] w1 w.heap.size):=RowAt.over (al10 w [.int .i64 kd,.int .i64 a,.string x,.string y,.int .i64 e0,.int .i64 e1,.int .i64 e2,.string e3,.slice q q1 q2,.slice aA nA cA,.slice aT nT cT,.slice aE nE cE] 55) hb
    clear hb  KS
    cases ok with
    | true =>
      obtain ⟨m0x0,m0x1,m0x2,m0x3,m0x4,m0x5,m0x6,m0x7,m0x8,m0x9,m0x10,m0x11⟩:=rc12 (hide (HR0_1.o.over (bA w1 (.cells #[.bool b0,.bool b1,.bool b2,.bool b3,.bool b4,.bool b5] 106)))).o
      go_wp2_with fail
      refine (KV.o _ (over_trans HB1.o (bA _ _))).mono ?_
      rintro e w2 ⟨rfl,hb⟩
      have HB2 : Hx (Ov w w2):=over_trans (over_trans HB1.o (bA _ _)) hb
      have HR0_2 : Hx (RowAt [.int .i64 kd,.int .i64 a,.string x,.string y,.int .i64 e0,.int .i64 e1,.int .i64 e2,.string e3,.slice q q1 q2,.slice aA nA cA,.slice aT nT cT,.slice aE nE cE] w2 w.heap.size):=(HR0_1.o.over (bA _ _)).over hb
      have HR1_2 : Hx (RowAt [.bool b0,.bool b1,.bool b2,.bool b3,.bool b4,.bool b5] w2 w1.heap.size):=RowAt.over (al10 w1 [.bool b0,.bool b1,.bool b2,.bool b3,.bool b4,.bool b5] 106) hb
      clear hb m0x0 m0x1 m0x2 m0x3 m0x4 m0x5 m0x6 m0x7 m0x8 m0x9 m0x10 m0x11 KV
      cases qv with
      | true =>
        obtain ⟨m0x0,m0x1,m0x2,m0x3,m0x4,m0x5,m0x6,m0x7,m0x8,m0x9,m0x10,m0x11⟩:=rc12 HR0_2.o
        obtain ⟨m1x0,m1x1,m1x2,m1x3,m1x4,m1x5⟩:=rc6 HR1_2.o
        go_wp2_with fail
        refine (KY.o _ (HB2.o)).mono ?_
        rintro e w3 ⟨rfl,hb⟩
        have HB3 : Hx (Ov w w3):=over_trans (HB2.o) hb
        have HR0_3 : Hx (RowAt [.int .i64 kd,.int .i64 a,.string x,.string y,.int .i64 e0,.int .i64 e1,.int .i64 e2,.string e3,.slice q q1 q2,.slice aA nA cA,.slice aT nT cT,.slice aE nE cE] w3 w.heap.size):=HR0_2.o.over hb
        have HR1_3 : Hx (RowAt [.bool b0,.bool b1,.bool b2,.bool b3,.bool b4,.bool b5] w3 w1.heap.size):=HR1_2.o.over hb
        clear hb m0x0 m0x1 m0x2 m0x3 m0x4 m0x5 m0x6 m0x7 m0x8 m0x9 m0x10 m0x11 m1x0 m1x1 m1x2 m1x3 m1x4 m1x5 KY
        cases qy with
        | true =>
          cases b2 with
          | true =>
            obtain ⟨m0x0,m0x1,m0x2,m0x3,m0x4,m0x5,m0x6,m0x7,m0x8,m0x9,m0x10,m0x11⟩:=rc12 HR0_3.o
            obtain ⟨m1x0,m1x1,m1x2,m1x3,m1x4,m1x5⟩:=rc6 HR1_3.o
            go_wp2_with fail
            refine (KX.o _ (HB3.o)).mono ?_
            rintro e w4 ⟨rfl,hb⟩
            have HB4 : Hx (Ov w w4):=over_trans (HB3.o) hb
            have HR0_4 : Hx (RowAt [.int .i64 kd,.int .i64 a,.string x,.string y,.int .i64 e0,.int .i64 e1,.int .i64 e2,.string e3,.slice q q1 q2,.slice aA nA cA,.slice aT nT cT,.slice aE nE cE] w4 w.heap.size):=HR0_3.o.over hb
            have HR1_4 : Hx (RowAt [.bool b0,.bool b1,.bool true,.bool b3,.bool b4,.bool b5] w4 w1.heap.size):=HR1_3.o.over hb
            clear hb m0x0 m0x1 m0x2 m0x3 m0x4 m0x5 m0x6 m0x7 m0x8 m0x9 m0x10 m0x11 m1x0 m1x1 m1x2 m1x3 m1x4 m1x5 KX
            cases qe with
            | true =>
              obtain ⟨m0x0,m0x1,m0x2,m0x3,m0x4,m0x5,m0x6,m0x7,m0x8,m0x9,m0x10,m0x11⟩:=rc12 HR0_4.o
              obtain ⟨m1x0,m1x1,m1x2,m1x3,m1x4,m1x5⟩:=rc6 HR1_4.o
              go_wp2_with fail
              refine (KA.o _ (HB4.o)).mono ?_
              rintro e w5 ⟨rfl,hb⟩
              have HB5 : Hx (Ov w w5):=over_trans (HB4.o) hb
              have HR0_5 : Hx (RowAt [.int .i64 kd,.int .i64 a,.string x,.string y,.int .i64 e0,.int .i64 e1,.int .i64 e2,.string e3,.slice q q1 q2,.slice aA nA cA,.slice aT nT cT,.slice aE nE cE] w5 w.heap.size):=HR0_4.o.over hb
              have HR1_5 : Hx (RowAt [.bool b0,.bool b1,.bool true,.bool b3,.bool b4,.bool b5] w5 w1.heap.size):=HR1_4.o.over hb
              clear hb m0x0 m0x1 m0x2 m0x3 m0x4 m0x5 m0x6 m0x7 m0x8 m0x9 m0x10 m0x11 m1x0 m1x1 m1x2 m1x3 m1x4 m1x5 KA
              cases qa with
              | true =>
                obtain ⟨m0x0,m0x1,m0x2,m0x3,m0x4,m0x5,m0x6,m0x7,m0x8,m0x9,m0x10,m0x11⟩:=rc12 HR0_5.o
                obtain ⟨m1x0,m1x1,m1x2,m1x3,m1x4,m1x5⟩:=rc6 HR1_5.o
                go_wp2_with fail
                refine (KT.o _ (HB5.o)).mono ?_
                rintro e w6 ⟨rfl,hb⟩
                have HB6 : Hx (Ov w w6):=over_trans (HB5.o) hb
                have HR0_6 : Hx (RowAt [.int .i64 kd,.int .i64 a,.string x,.string y,.int .i64 e0,.int .i64 e1,.int .i64 e2,.string e3,.slice q q1 q2,.slice aA nA cA,.slice aT nT cT,.slice aE nE cE] w6 w.heap.size):=HR0_5.o.over hb
                have HR1_6 : Hx (RowAt [.bool b0,.bool b1,.bool true,.bool b3,.bool b4,.bool b5] w6 w1.heap.size):=HR1_5.o.over hb
                clear hb m0x0 m0x1 m0x2 m0x3 m0x4 m0x5 m0x6 m0x7 m0x8 m0x9 m0x10 m0x11 m1x0 m1x1 m1x2 m1x3 m1x4 m1x5 KT
                cases qt with
                | true =>
                  obtain ⟨m0x0,m0x1,m0x2,m0x3,m0x4,m0x5,m0x6,m0x7,m0x8,m0x9,m0x10,m0x11⟩:=rc12 HR0_6.o
                  obtain ⟨m1x0,m1x1,m1x2,m1x3,m1x4,m1x5⟩:=rc6 HR1_6.o
                  go_wp2_with fail
                  refine (KE.o _ (HB6.o)).mono ?_
                  rintro e w7 ⟨rfl,hb⟩
                  have HB7 : Hx (Ov w w7):=over_trans (HB6.o) hb
                  have HR0_7 : Hx (RowAt [.int .i64 kd,.int .i64 a,.string x,.string y,.int .i64 e0,.int .i64 e1,.int .i64 e2,.string e3,.slice q q1 q2,.slice aA nA cA,.slice aT nT cT,.slice aE nE cE] w7 w.heap.size):=HR0_6.o.over hb
                  have HR1_7 : Hx (RowAt [.bool b0,.bool b1,.bool true,.bool b3,.bool b4,.bool b5] w7 w1.heap.size):=HR1_6.o.over hb
                  clear hb m0x0 m0x1 m0x2 m0x3 m0x4 m0x5 m0x6 m0x7 m0x8 m0x9 m0x10 m0x11 m1x0 m1x1 m1x2 m1x3 m1x4 m1x5 KE
                  have HV : Hx (fin = ql):=by have h:=HF.o; simp at h; exact h
                  obtain ⟨m0x0,m0x1,m0x2,m0x3,m0x4,m0x5,m0x6,m0x7,m0x8,m0x9,m0x10,m0x11⟩:=rc12 HR0_7.o
                  obtain ⟨m1x0,m1x1,m1x2,m1x3,m1x4,m1x5⟩:=rc6 HR1_7.o
                  go_wp2_with fail
                  go_ret
                  exact ⟨by rw [HV.o]; (first | rfl | (simp; done) | (simp; assumption) | (simp; omega)),HB7.o⟩
                | false =>
                  have HV : Hx (fin = false):=by have h:=HF.o; simp at h; exact h
                  obtain ⟨m0x0,m0x1,m0x2,m0x3,m0x4,m0x5,m0x6,m0x7,m0x8,m0x9,m0x10,m0x11⟩:=rc12 HR0_6.o
                  obtain ⟨m1x0,m1x1,m1x2,m1x3,m1x4,m1x5⟩:=rc6 HR1_6.o
                  go_wp2_with fail
                  go_ret
                  exact ⟨by rw [HV.o]; (first | rfl | (simp; done) | (simp; assumption) | (simp; omega)),HB6.o⟩
              | false =>
                have HV : Hx (fin = false):=by have h:=HF.o; simp at h; exact h
                obtain ⟨m0x0,m0x1,m0x2,m0x3,m0x4,m0x5,m0x6,m0x7,m0x8,m0x9,m0x10,m0x11⟩:=rc12 HR0_5.o
                obtain ⟨m1x0,m1x1,m1x2,m1x3,m1x4,m1x5⟩:=rc6 HR1_5.o
                go_wp2_with fail
                go_ret
                exact ⟨by rw [HV.o]; (first | rfl | (simp; done) | (simp; assumption) | (simp; omega)),HB5.o⟩
            | false =>
              have HV : Hx (fin = false):=by have h:=HF.o; simp at h; exact h
              obtain ⟨m0x0,m0x1,m0x2,m0x3,m0x4,m0x5,m0x6,m0x7,m0x8,m0x9,m0x10,m0x11⟩:=rc12 HR0_4.o
              obtain ⟨m1x0,m1x1,m1x2,m1x3,m1x4,m1x5⟩:=rc6 HR1_4.o
              go_wp2_with fail
              go_ret
              exact ⟨by rw [HV.o]; (first | rfl | (simp; done) | (simp; assumption) | (simp; omega)),HB4.o⟩
          | false =>
            obtain ⟨m0x0,m0x1,m0x2,m0x3,m0x4,m0x5,m0x6,m0x7,m0x8,m0x9,m0x10,m0x11⟩:=rc12 HR0_3.o
            obtain ⟨m1x0,m1x1,m1x2,m1x3,m1x4,m1x5⟩:=rc6 HR1_3.o
            go_wp2_with fail
            refine (KO.o _ (HB3.o)).mono ?_
            rintro e w4 ⟨rfl,hb⟩
            have HB4 : Hx (Ov w w4):=over_trans (HB3.o) hb
            have HR0_4 : Hx (RowAt [.int .i64 kd,.int .i64 a,.string x,.string y,.int .i64 e0,.int .i64 e1,.int .i64 e2,.string e3,.slice q q1 q2,.slice aA nA cA,.slice aT nT cT,.slice aE nE cE] w4 w.heap.size):=HR0_3.o.over hb
            have HR1_4 : Hx (RowAt [.bool b0,.bool b1,.bool false,.bool b3,.bool b4,.bool b5] w4 w1.heap.size):=HR1_3.o.over hb
            clear hb m0x0 m0x1 m0x2 m0x3 m0x4 m0x5 m0x6 m0x7 m0x8 m0x9 m0x10 m0x11 m1x0 m1x1 m1x2 m1x3 m1x4 m1x5 KO
            cases qx with
            | true =>
              obtain ⟨m0x0,m0x1,m0x2,m0x3,m0x4,m0x5,m0x6,m0x7,m0x8,m0x9,m0x10,m0x11⟩:=rc12 HR0_4.o
              obtain ⟨m1x0,m1x1,m1x2,m1x3,m1x4,m1x5⟩:=rc6 HR1_4.o
              go_wp2_with fail
              refine (KA.o _ (HB4.o)).mono ?_
              rintro e w5 ⟨rfl,hb⟩
              have HB5 : Hx (Ov w w5):=over_trans (HB4.o) hb
              have HR0_5 : Hx (RowAt [.int .i64 kd,.int .i64 a,.string x,.string y,.int .i64 e0,.int .i64 e1,.int .i64 e2,.string e3,.slice q q1 q2,.slice aA nA cA,.slice aT nT cT,.slice aE nE cE] w5 w.heap.size):=HR0_4.o.over hb
              have HR1_5 : Hx (RowAt [.bool b0,.bool b1,.bool false,.bool b3,.bool b4,.bool b5] w5 w1.heap.size):=HR1_4.o.over hb
              clear hb m0x0 m0x1 m0x2 m0x3 m0x4 m0x5 m0x6 m0x7 m0x8 m0x9 m0x10 m0x11 m1x0 m1x1 m1x2 m1x3 m1x4 m1x5 KA
              cases qa with
              | true =>
                obtain ⟨m0x0,m0x1,m0x2,m0x3,m0x4,m0x5,m0x6,m0x7,m0x8,m0x9,m0x10,m0x11⟩:=rc12 HR0_5.o
                obtain ⟨m1x0,m1x1,m1x2,m1x3,m1x4,m1x5⟩:=rc6 HR1_5.o
                go_wp2_with fail
                refine (KT.o _ (HB5.o)).mono ?_
                rintro e w6 ⟨rfl,hb⟩
                have HB6 : Hx (Ov w w6):=over_trans (HB5.o) hb
                have HR0_6 : Hx (RowAt [.int .i64 kd,.int .i64 a,.string x,.string y,.int .i64 e0,.int .i64 e1,.int .i64 e2,.string e3,.slice q q1 q2,.slice aA nA cA,.slice aT nT cT,.slice aE nE cE] w6 w.heap.size):=HR0_5.o.over hb
                have HR1_6 : Hx (RowAt [.bool b0,.bool b1,.bool false,.bool b3,.bool b4,.bool b5] w6 w1.heap.size):=HR1_5.o.over hb
                clear hb m0x0 m0x1 m0x2 m0x3 m0x4 m0x5 m0x6 m0x7 m0x8 m0x9 m0x10 m0x11 m1x0 m1x1 m1x2 m1x3 m1x4 m1x5 KT
                cases qt with
                | true =>
                  obtain ⟨m0x0,m0x1,m0x2,m0x3,m0x4,m0x5,m0x6,m0x7,m0x8,m0x9,m0x10,m0x11⟩:=rc12 HR0_6.o
                  obtain ⟨m1x0,m1x1,m1x2,m1x3,m1x4,m1x5⟩:=rc6 HR1_6.o
                  go_wp2_with fail
                  refine (KE.o _ (HB6.o)).mono ?_
                  rintro e w7 ⟨rfl,hb⟩
                  have HB7 : Hx (Ov w w7):=over_trans (HB6.o) hb
                  have HR0_7 : Hx (RowAt [.int .i64 kd,.int .i64 a,.string x,.string y,.int .i64 e0,.int .i64 e1,.int .i64 e2,.string e3,.slice q q1 q2,.slice aA nA cA,.slice aT nT cT,.slice aE nE cE] w7 w.heap.size):=HR0_6.o.over hb
                  have HR1_7 : Hx (RowAt [.bool b0,.bool b1,.bool false,.bool b3,.bool b4,.bool b5] w7 w1.heap.size):=HR1_6.o.over hb
                  clear hb m0x0 m0x1 m0x2 m0x3 m0x4 m0x5 m0x6 m0x7 m0x8 m0x9 m0x10 m0x11 m1x0 m1x1 m1x2 m1x3 m1x4 m1x5 KE
                  have HV : Hx (fin = ql):=by have h:=HF.o; simp at h; exact h
                  obtain ⟨m0x0,m0x1,m0x2,m0x3,m0x4,m0x5,m0x6,m0x7,m0x8,m0x9,m0x10,m0x11⟩:=rc12 HR0_7.o
                  obtain ⟨m1x0,m1x1,m1x2,m1x3,m1x4,m1x5⟩:=rc6 HR1_7.o
                  go_wp2_with fail
                  go_ret
                  exact ⟨by rw [HV.o]; (first | rfl | (simp; done) | (simp; assumption) | (simp; omega)),HB7.o⟩
                | false =>
                  have HV : Hx (fin = false):=by have h:=HF.o; simp at h; exact h
                  obtain ⟨m0x0,m0x1,m0x2,m0x3,m0x4,m0x5,m0x6,m0x7,m0x8,m0x9,m0x10,m0x11⟩:=rc12 HR0_6.o
                  obtain ⟨m1x0,m1x1,m1x2,m1x3,m1x4,m1x5⟩:=rc6 HR1_6.o
                  go_wp2_with fail
                  go_ret
                  exact ⟨by rw [HV.o]; (first | rfl | (simp; done) | (simp; assumption) | (simp; omega)),HB6.o⟩
              | false =>
                have HV : Hx (fin = false):=by have h:=HF.o; simp at h; exact h
                obtain ⟨m0x0,m0x1,m0x2,m0x3,m0x4,m0x5,m0x6,m0x7,m0x8,m0x9,m0x10,m0x11⟩:=rc12 HR0_5.o
                obtain ⟨m1x0,m1x1,m1x2,m1x3,m1x4,m1x5⟩:=rc6 HR1_5.o
                go_wp2_with fail
                go_ret
                exact ⟨by rw [HV.o]; (first | rfl | (simp; done) | (simp; assumption) | (simp; omega)),HB5.o⟩
            | false =>
              have HV : Hx (fin = false):=by have h:=HF.o; simp at h; exact h
              obtain ⟨m0x0,m0x1,m0x2,m0x3,m0x4,m0x5,m0x6,m0x7,m0x8,m0x9,m0x10,m0x11⟩:=rc12 HR0_4.o
              obtain ⟨m1x0,m1x1,m1x2,m1x3,m1x4,m1x5⟩:=rc6 HR1_4.o
              go_wp2_with fail
              go_ret
              exact ⟨by rw [HV.o]; (first | rfl | (simp; done) | (simp; assumption) | (simp; omega)),HB4.o⟩
        | false =>
          have HV : Hx (fin = false):=by have h:=HF.o; simp at h; exact h
          obtain ⟨m0x0,m0x1,m0x2,m0x3,m0x4,m0x5,m0x6,m0x7,m0x8,m0x9,m0x10,m0x11⟩:=rc12 HR0_3.o
          obtain ⟨m1x0,m1x1,m1x2,m1x3,m1x4,m1x5⟩:=rc6 HR1_3.o
          go_wp2_with fail
          go_ret
          exact ⟨by rw [HV.o]; (first | rfl | (simp; done) | (simp; assumption) | (simp; omega)),HB3.o⟩
      | false =>
        have HV : Hx (fin = false):=by have h:=HF.o; simp at h; exact h
        obtain ⟨m0x0,m0x1,m0x2,m0x3,m0x4,m0x5,m0x6,m0x7,m0x8,m0x9,m0x10,m0x11⟩:=rc12 HR0_2.o
        obtain ⟨m1x0,m1x1,m1x2,m1x3,m1x4,m1x5⟩:=rc6 HR1_2.o
        go_wp2_with fail
        go_ret
        exact ⟨by rw [HV.o]; (first | rfl | (simp; done) | (simp; assumption) | (simp; omega)),HB2.o⟩
    | false =>
      have HV : Hx (fin = false):=by have h:=HF.o; simp at h; exact h
      obtain ⟨m0x0,m0x1,m0x2,m0x3,m0x4,m0x5,m0x6,m0x7,m0x8,m0x9,m0x10,m0x11⟩:=rc12 HR0_1.o
      go_wp2_with fail
      go_ret
      exact ⟨by rw [HV.o]; (first | rfl | (simp; done) | (simp; assumption) | (simp; omega)),over_trans HB1.o (bA _ _)⟩
set_option maxHeartbeats 4000000 in
set_option maxRecDepth 100000 in
theorem functionFine_c (ke kc : Nat) (cs : List Value) (d : D) (w : World) (h : ZD w ke kc cs d) : Ro 68 #[.agg cs.toArray] w (.bool (funF ke kc d)):=by
  obtain ⟨kd,a,x,y,gv,aL,cL,lb,aP,cP,ps,aB,cB,body,e0,e1,e2,e3,q,q1,q2,r,rfl,rfl,-,-,hL,hP,hB,hR⟩:=h
  obtain ⟨fin,hfin⟩:=nm (funF ke kc (deD kd a x y gv lb ps body r))
  rw [← hfin]
  unfold funF at hfin
  simp only [gDd,all_dS nmS,emp_len,List.length_map] at hfin
  obtain ⟨qp,hqp⟩:=nm (ps.all fun x => nmS x.data.toList)
  obtain ⟨qb,hqb⟩:=nm (body.all (sfK ke kc))
  obtain ⟨qr,hqr⟩:=nm (efK ke r)
  obtain ⟨qx,hqx⟩:=nm (noEx r)
  rw [← hqp,← hqb,← hqr,← hqx] at hfin
  have KP : Hx (∀ X,Ov w X→Ro 110 #[.slice aP ps.length cP,.func (.func 65) #[] #[]] X (.bool qp)):=fun X hX => by rw [hqp]; exact allN_c 65 (fun args w => by simp [go_sem]) _ ps aP cP X (fun x X hx => isNameT_c x X hx) (lsN_over hX hP)
  have KB : Hx (∀ X,Ov w X→Ro 35 #[.slice aB body.length cB,.func (.func 36) #[] #[]] X (.bool qb)):=fun X hX => by rw [hqb]; exact allC_c 36 (fun args w => by simp [go_sem]) (sfK ke kc) body aB cB X (fun cs d X _ h => stmtFine_c ke kc cs d X h) (lsC_over hX hB)
  have KR : Hx (∀ X,Ov w X→Ro 70 #[.agg #[.int .i64 e0,.int .i64 e1,.int .i64 e2,.string e3,.slice q q1 q2]] X (.bool qr)):=fun X hX => by rw [hqr]; exact exprFine_c ke _ r X (hR.over hX)
  have KO : Hx (∀ X,Ov w X→Ro 71 #[.agg #[.int .i64 e0,.int .i64 e1,.int .i64 e2,.string e3,.slice q q1 q2]] X (.bool qx)):=fun X hX => by rw [hqx]; exact noEx_c ke _ r X (hR.over hX)
  have HLP:=hP.max
  have HLB:=hB.max
  clear hqp hqb hqr hqx hL hP hB hR
  show Ro 68 #[.agg #[.int .i64 kd,.int .i64 a,.string x,.string y,.bool gv,.slice aL lb.length cL,.slice aP ps.length cP,.slice aB body.length cB,.int .i64 e0,.int .i64 e1,.int .i64 e2,.string e3,.slice q q1 q2]] w _
  generalize lb.length = nL at ⊢
  generalize ps.length = nP at hfin KP HLP ⊢
  generalize body.length = nB at hfin KB HLB ⊢
  by_cases h7 : kd = 7
  · subst h7
    rw [if_pos rfl] at hfin
    have HF:=hide hfin
    clear hfin
    go_enter Tryz.func68,Tryz.ntmps68
    go_wp2_with fail
    refine (KP.o _ (bA w (.cells #[.int .i64 7,.int .i64 a,.string x,.string y,.bool gv,.slice aL nL cL,.slice aP nP cP,.slice aB nB cB,.int .i64 e0,.int .i64 e1,.int .i64 e2,.string e3,.slice q q1 q2] 51))).mono ?_
    rintro e w1 ⟨rfl,hb⟩
    have HB1 : Hx (Ov w w1):=over_trans (bA w (.cells #[.int .i64 7,.int .i64 a,.string x,.string y,.bool gv,.slice aL nL cL,.slice aP nP cP,.slice aB nB cB,.int .i64 e0,.int .i64 e1,.int .i64 e2,.string e3,.slice q q1 q2] 51)) hb
    have HR0_1 : Hx (RowAt [.int .i64 7,.int .i64 a,.string x,.string y,.bool gv,.slice aL nL cL,.slice aP nP cP,.slice aB nB cB,.int .i64 e0,.int .i64 e1,.int .i64 e2,.string e3,.slice q q1 q2] w1 w.heap.size):=RowAt.over (al10 w [.int .i64 7,.int .i64 a,.string x,.string y,.bool gv,.slice aL nL cL,.slice aP nP cP,.slice aB nB cB,.int .i64 e0,.int .i64 e1,.int .i64 e2,.string e3,.slice q q1 q2] 51) hb
    clear hb  KP
    cases qp with
    | true =>
      obtain ⟨m0x0,m0x1,m0x2,m0x3,m0x4,m0x5,m0x6,m0x7,m0x8,m0x9,m0x10,m0x11,m0x12⟩:=rc13 HR0_1.o
      go_wp2_with fail
      refine (KB.o _ (HB1.o)).mono ?_
      rintro e w2 ⟨rfl,hb⟩
      have HB2 : Hx (Ov w w2):=over_trans (HB1.o) hb
      have HR0_2 : Hx (RowAt [.int .i64 7,.int .i64 a,.string x,.string y,.bool gv,.slice aL nL cL,.slice aP nP cP,.slice aB nB cB,.int .i64 e0,.int .i64 e1,.int .i64 e2,.string e3,.slice q q1 q2] w2 w.heap.size):=HR0_1.o.over hb
      clear hb m0x0 m0x1 m0x2 m0x3 m0x4 m0x5 m0x6 m0x7 m0x8 m0x9 m0x10 m0x11 m0x12 KB
      cases qb with
      | true =>
        obtain ⟨m0x0,m0x1,m0x2,m0x3,m0x4,m0x5,m0x6,m0x7,m0x8,m0x9,m0x10,m0x11,m0x12⟩:=rc13 HR0_2.o
        go_wp2_with fail
        refine (KR.o _ (HB2.o)).mono ?_
        rintro e w3 ⟨rfl,hb⟩
        have HB3 : Hx (Ov w w3):=over_trans (HB2.o) hb
        have HR0_3 : Hx (RowAt [.int .i64 7,.int .i64 a,.string x,.string y,.bool gv,.slice aL nL cL,.slice aP nP cP,.slice aB nB cB,.int .i64 e0,.int .i64 e1,.int .i64 e2,.string e3,.slice q q1 q2] w3 w.heap.size):=HR0_2.o.over hb
        clear hb m0x0 m0x1 m0x2 m0x3 m0x4 m0x5 m0x6 m0x7 m0x8 m0x9 m0x10 m0x11 m0x12 KR
        have HV : Hx (fin = qr):=by have h:=HF.o; simp at h; exact h
        obtain ⟨m0x0,m0x1,m0x2,m0x3,m0x4,m0x5,m0x6,m0x7,m0x8,m0x9,m0x10,m0x11,m0x12⟩:=rc13 HR0_3.o
        go_wp2_with fail
        go_ret
        exact ⟨by rw [HV.o]; (first | rfl | (simp; done) | (simp; assumption) | (simp; omega)),HB3.o⟩
      | false =>
        have HV : Hx (fin = false):=by have h:=HF.o; simp at h; exact h
        obtain ⟨m0x0,m0x1,m0x2,m0x3,m0x4,m0x5,m0x6,m0x7,m0x8,m0x9,m0x10,m0x11,m0x12⟩:=rc13 HR0_2.o
        go_wp2_with fail
        go_ret
        exact ⟨by rw [HV.o]; (first | rfl | (simp; done) | (simp; assumption) | (simp; omega)),HB2.o⟩
    | false =>
      have HV : Hx (fin = false):=by have h:=HF.o; simp at h; exact h
      obtain ⟨m0x0,m0x1,m0x2,m0x3,m0x4,m0x5,m0x6,m0x7,m0x8,m0x9,m0x10,m0x11,m0x12⟩:=rc13 HR0_1.o
      go_wp2_with fail
      go_ret
      exact ⟨by rw [HV.o]; (first | rfl | (simp; done) | (simp; assumption) | (simp; omega)),HB1.o⟩
  by_cases h1 : nP = 0
  · subst h1
    by_cases h2 : nB = 0
    · subst h2
      have HV : Hx (fin = qx):=by show _ = _; rw [hfin]; simp [h7]
      clear hfin
      go_enter Tryz.func68,Tryz.ntmps68
      go_wp2_with fail
      refine (KO.o _ (bA w (.cells #[.int .i64 kd,.int .i64 a,.string x,.string y,.bool gv,.slice aL nL cL,.slice aP 0 cP,.slice aB 0 cB,.int .i64 e0,.int .i64 e1,.int .i64 e2,.string e3,.slice q q1 q2] 51))).mono ?_
      rintro e w1 ⟨rfl,hb⟩
      have HB1 : Hx (Ov w w1):=over_trans (bA w (.cells #[.int .i64 kd,.int .i64 a,.string x,.string y,.bool gv,.slice aL nL cL,.slice aP 0 cP,.slice aB 0 cB,.int .i64 e0,.int .i64 e1,.int .i64 e2,.string e3,.slice q q1 q2] 51)) hb
      have HR0_1 : Hx (RowAt [.int .i64 kd,.int .i64 a,.string x,.string y,.bool gv,.slice aL nL cL,.slice aP 0 cP,.slice aB 0 cB,.int .i64 e0,.int .i64 e1,.int .i64 e2,.string e3,.slice q q1 q2] w1 w.heap.size):=RowAt.over (al10 w [.int .i64 kd,.int .i64 a,.string x,.string y,.bool gv,.slice aL nL cL,.slice aP 0 cP,.slice aB 0 cB,.int .i64 e0,.int .i64 e1,.int .i64 e2,.string e3,.slice q q1 q2] 51) hb
      clear hb  KO
      obtain ⟨m0x0,m0x1,m0x2,m0x3,m0x4,m0x5,m0x6,m0x7,m0x8,m0x9,m0x10,m0x11,m0x12⟩:=rc13 HR0_1.o
      go_wp2_with fail
      go_ret
      exact ⟨by rw [HV.o]; (first | rfl | (simp; done) | (simp; assumption) | (simp; omega)),HB1.o⟩
    · have hi : ¬ (nB : Int) = 0:=by omega
      have HV : Hx (fin = false):=by show _ = _; rw [hfin]; simp [h7,h2]
      clear hfin
      go_enter Tryz.func68,Tryz.ntmps68
      go_wp2_with fail
      go_ret
      exact ⟨by rw [HV.o]; (first | rfl | (simp; done) | (simp; assumption) | (simp; omega)),bA w (.cells #[.int .i64 kd,.int .i64 a,.string x,.string y,.bool gv,.slice aL nL cL,.slice aP 0 cP,.slice aB nB cB,.int .i64 e0,.int .i64 e1,.int .i64 e2,.string e3,.slice q q1 q2] 51)⟩
  · have hi : ¬ (nP : Int) = 0:=by omega
    have HV : Hx (fin = false):=by show _ = _; rw [hfin]; simp [h7,h1]
    clear hfin
    go_enter Tryz.func68,Tryz.ntmps68
    go_wp2_with fail
    go_ret
    exact ⟨by rw [HV.o]; (first | rfl | (simp; done) | (simp; assumption) | (simp; omega)),bA w (.cells #[.int .i64 kd,.int .i64 a,.string x,.string y,.bool gv,.slice aL nL cL,.slice aP nP cP,.slice aB nB cB,.int .i64 e0,.int .i64 e1,.int .i64 e2,.string e3,.slice q q1 q2] 51)⟩
set_option maxHeartbeats 4000000 in
set_option maxRecDepth 100000 in
theorem declFine_c (ke kc : Nat) (cs : List Value) (d : D) (w : World) (h : ZD w ke kc cs d) : Ro 34 #[.agg cs.toArray] w (.bool (dfK ke kc d)):=by
  have KL0 : Hx (∀ X,Ov w X→Ro 67 #[.agg cs.toArray] X (.bool (labF d))):=fun X hX => labelFine_c ke kc cs d X (h.over hX)
  have KF0 : Hx (∀ X,Ov w X→Ro 68 #[.agg cs.toArray] X (.bool (funF ke kc d))):=fun X hX => functionFine_c ke kc cs d X (h.over hX)
  obtain ⟨kd,a,x,y,gv,aL,cL,lb,aP,cP,ps,aB,cB,body,e0,e1,e2,e3,q,q1,q2,r,rfl,rfl,hx,hy,-,-,-,-⟩:=h
  obtain ⟨fin,hfin⟩:=nm (dfK ke kc (deD kd a x y gv lb ps body r))
  rw [← hfin]
  unfold dfK at hfin
  obtain ⟨ql,hql⟩:=nm (labF (deD kd a x y gv lb ps body r))
  obtain ⟨qf,hqf⟩:=nm (funF ke kc (deD kd a x y gv lb ps body r))
  rw [← hql,← hqf] at hfin
  rw [← hql] at KL0
  rw [← hqf] at KF0
  simp only [gDd] at hfin
  obtain ⟨qn,hqn⟩:=nm (nmS x.data.toList)
  rw [← hqn] at hfin
  have KL : Hx (∀ X,Ov w X→Ro 67 #[.agg #[.int .i64 kd,.int .i64 a,.string x,.string y,.bool gv,.slice aL lb.length cL,.slice aP ps.length cP,.slice aB body.length cB,.int .i64 e0,.int .i64 e1,.int .i64 e2,.string e3,.slice q q1 q2]] X (.bool ql)):=KL0
  have KF : Hx (∀ X,Ov w X→Ro 68 #[.agg #[.int .i64 kd,.int .i64 a,.string x,.string y,.bool gv,.slice aL lb.length cL,.slice aP ps.length cP,.slice aB body.length cB,.int .i64 e0,.int .i64 e1,.int .i64 e2,.string e3,.slice q q1 q2]] X (.bool qf)):=KF0
  have KN : Hx (∀ X,Ov w X→Ro 65 #[.string x] X (.bool qn)):=fun X _ => by rw [hqn]; exact isNameT_c x X hx
  clear hql hqf hqn KL0 KF0 hx
  show Ro 34 #[.agg #[.int .i64 kd,.int .i64 a,.string x,.string y,.bool gv,.slice aL lb.length cL,.slice aP ps.length cP,.slice aB body.length cB,.int .i64 e0,.int .i64 e1,.int .i64 e2,.string e3,.slice q q1 q2]] w _
  generalize lb.length = nL at KL KF ⊢
  generalize ps.length = nP at KL KF ⊢
  generalize body.length = nB at KL KF ⊢
  by_cases hlo : kd < 1
  · have HV : Hx (fin = false):=by show _ = _; rw [hfin,decide_eq_false (show ¬ 1≤kd by omega)]; simp
    clear hfin
    go_enter Tryz.func34,Tryz.ntmps34
    go_wp2_with fail
    go_ret
    exact ⟨by rw [HV.o]; (first | rfl | (simp; done) | (simp; assumption) | (simp; omega)),bA _ _⟩
  by_cases hhi : 7 < kd
  · have HV : Hx (fin = false):=by show _ = _; rw [hfin,decide_eq_false (show ¬ kd≤7 by omega)]; simp
    clear hfin
    go_enter Tryz.func34,Tryz.ntmps34
    go_wp2_with fail
    go_ret
    exact ⟨by rw [HV.o]; (first | rfl | (simp; done) | (simp; assumption) | (simp; omega)),bA _ _⟩
  rw [decide_eq_true (show 1≤kd by omega),decide_eq_true (show kd≤7 by omega)] at hfin
  by_cases h2 : kd = 2
  · subst h2
    obtain ⟨qy,hqy⟩:=nm (nfS y.data.toList true)
    have HF : Hx (fin = (qn && qy && ql && qf)):=by show _ = _; rw [hfin,hqy]; simp
    have KY : Hx (∀ X,Ov w X→Ro 66 #[.string y,.bool true] X (.bool qy)):=fun X _ => by rw [hqy]; exact nameFine_c y true X hy
    clear hfin hqy hy hlo hhi
    go_enter Tryz.func34,Tryz.ntmps34
    go_wp2_with fail
    refine (KN.o _ (bA w (.cells #[.int .i64 2,.int .i64 a,.string x,.string y,.bool gv,.slice aL nL cL,.slice aP nP cP,.slice aB nB cB,.int .i64 e0,.int .i64 e1,.int .i64 e2,.string e3,.slice q q1 q2] 51))).mono ?_
    rintro e w1 ⟨rfl,hb⟩
    have HB1 : Hx (Ov w w1):=over_trans (bA w (.cells #[.int .i64 2,.int .i64 a,.string x,.string y,.bool gv,.slice aL nL cL,.slice aP nP cP,.slice aB nB cB,.int .i64 e0,.int .i64 e1,.int .i64 e2,.string e3,.slice q q1 q2] 51)) hb
    have HR0_1 : Hx (RowAt [.int .i64 2,.int .i64 a,.string x,.string y,.bool gv,.slice aL nL cL,.slice aP nP cP,.slice aB nB cB,.int .i64 e0,.int .i64 e1,.int .i64 e2,.string e3,.slice q q1 q2] w1 w.heap.size):=RowAt.over (al10 w [.int .i64 2,.int .i64 a,.string x,.string y,.bool gv,.slice aL nL cL,.slice aP nP cP,.slice aB nB cB,.int .i64 e0,.int .i64 e1,.int .i64 e2,.string e3,.slice q q1 q2] 51) hb
    clear hb  KN
    cases qn with
    | true =>
      obtain ⟨m0x0,m0x1,m0x2,m0x3,m0x4,m0x5,m0x6,m0x7,m0x8,m0x9,m0x10,m0x11,m0x12⟩:=rc13 HR0_1.o
      go_wp2_with fail
      refine (KY.o _ (HB1.o)).mono ?_
      rintro e w2 ⟨rfl,hb⟩
      have HB2 : Hx (Ov w w2):=over_trans (HB1.o) hb
      have HR0_2 : Hx (RowAt [.int .i64 2,.int .i64 a,.string x,.string y,.bool gv,.slice aL nL cL,.slice aP nP cP,.slice aB nB cB,.int .i64 e0,.int .i64 e1,.int .i64 e2,.string e3,.slice q q1 q2] w2 w.heap.size):=HR0_1.o.over hb
      clear hb m0x0 m0x1 m0x2 m0x3 m0x4 m0x5 m0x6 m0x7 m0x8 m0x9 m0x10 m0x11 m0x12 KY
      cases qy with
      | true =>
        obtain ⟨m0x0,m0x1,m0x2,m0x3,m0x4,m0x5,m0x6,m0x7,m0x8,m0x9,m0x10,m0x11,m0x12⟩:=rc13 HR0_2.o
        go_wp2_with fail
        refine (KL.o _ (HB2.o)).mono ?_
        rintro e w3 ⟨rfl,hb⟩
        have HB3 : Hx (Ov w w3):=over_trans (HB2.o) hb
        have HR0_3 : Hx (RowAt [.int .i64 2,.int .i64 a,.string x,.string y,.bool gv,.slice aL nL cL,.slice aP nP cP,.slice aB nB cB,.int .i64 e0,.int .i64 e1,.int .i64 e2,.string e3,.slice q q1 q2] w3 w.heap.size):=HR0_2.o.over hb
        clear hb m0x0 m0x1 m0x2 m0x3 m0x4 m0x5 m0x6 m0x7 m0x8 m0x9 m0x10 m0x11 m0x12 KL
        cases ql with
        | true =>
          obtain ⟨m0x0,m0x1,m0x2,m0x3,m0x4,m0x5,m0x6,m0x7,m0x8,m0x9,m0x10,m0x11,m0x12⟩:=rc13 HR0_3.o
          go_wp2_with fail
          refine (KF.o _ (HB3.o)).mono ?_
          rintro e w4 ⟨rfl,hb⟩
          have HB4 : Hx (Ov w w4):=over_trans (HB3.o) hb
          have HR0_4 : Hx (RowAt [.int .i64 2,.int .i64 a,.string x,.string y,.bool gv,.slice aL nL cL,.slice aP nP cP,.slice aB nB cB,.int .i64 e0,.int .i64 e1,.int .i64 e2,.string e3,.slice q q1 q2] w4 w.heap.size):=HR0_3.o.over hb
          clear hb m0x0 m0x1 m0x2 m0x3 m0x4 m0x5 m0x6 m0x7 m0x8 m0x9 m0x10 m0x11 m0x12 KF
          have HV : Hx (fin = qf):=by have h:=HF.o; simp at h; exact h
          obtain ⟨m0x0,m0x1,m0x2,m0x3,m0x4,m0x5,m0x6,m0x7,m0x8,m0x9,m0x10,m0x11,m0x12⟩:=rc13 HR0_4.o
          go_wp2_with fail
          go_ret
          exact ⟨by rw [HV.o]; (first | rfl | (simp; done) | (simp; assumption) | (simp; omega)),HB4.o⟩
        | false =>
          have HV : Hx (fin = false):=by have h:=HF.o; simp at h; exact h
          obtain ⟨m0x0,m0x1,m0x2,m0x3,m0x4,m0x5,m0x6,m0x7,m0x8,m0x9,m0x10,m0x11,m0x12⟩:=rc13 HR0_3.o
          go_wp2_with fail
          go_ret
          exact ⟨by rw [HV.o]; (first | rfl | (simp; done) | (simp; assumption) | (simp; omega)),HB3.o⟩
      | false =>
        have HV : Hx (fin = false):=by have h:=HF.o; simp at h; exact h
        obtain ⟨m0x0,m0x1,m0x2,m0x3,m0x4,m0x5,m0x6,m0x7,m0x8,m0x9,m0x10,m0x11,m0x12⟩:=rc13 HR0_2.o
        go_wp2_with fail
        go_ret
        exact ⟨by rw [HV.o]; (first | rfl | (simp; done) | (simp; assumption) | (simp; omega)),HB2.o⟩
    | false =>
      have HV : Hx (fin = false):=by have h:=HF.o; simp at h; exact h
      obtain ⟨m0x0,m0x1,m0x2,m0x3,m0x4,m0x5,m0x6,m0x7,m0x8,m0x9,m0x10,m0x11,m0x12⟩:=rc13 HR0_1.o
      go_wp2_with fail
      go_ret
      exact ⟨by rw [HV.o]; (first | rfl | (simp; done) | (simp; assumption) | (simp; omega)),HB1.o⟩
  · obtain ⟨qy,hqy⟩:=nm (nfS y.data.toList false)
    have HF : Hx (fin = (qn && qy && ql && qf)):=by show _ = _; rw [hfin,hqy,decide_eq_false h2]; simp
    have KY : Hx (∀ X,Ov w X→Ro 66 #[.string y,.bool false] X (.bool qy)):=fun X _ => by rw [hqy]; exact nameFine_c y false X hy
    have b2 : (kd == 2) = false:=by simpa using h2
    clear hfin hqy hy h2
    go_enter Tryz.func34,Tryz.ntmps34
    go_wp2_with fail
    refine (KN.o _ (bA w (.cells #[.int .i64 kd,.int .i64 a,.string x,.string y,.bool gv,.slice aL nL cL,.slice aP nP cP,.slice aB nB cB,.int .i64 e0,.int .i64 e1,.int .i64 e2,.string e3,.slice q q1 q2] 51))).mono ?_
    rintro e w1 ⟨rfl,hb⟩
    have HB1 : Hx (Ov w w1):=over_trans (bA w (.cells #[.int .i64 kd,.int .i64 a,.string x,.string y,.bool gv,.slice aL nL cL,.slice aP nP cP,.slice aB nB cB,.int .i64 e0,.int .i64 e1,.int .i64 e2,.string e3,.slice q q1 q2] 51)) hb
    have HR0_1 : Hx (RowAt [.int .i64 kd,.int .i64 a,.string x,.string y,.bool gv,.slice aL nL cL,.slice aP nP cP,.slice aB nB cB,.int .i64 e0,.int .i64 e1,.int .i64 e2,.string e3,.slice q q1 q2] w1 w.heap.size):=RowAt.over (al10 w [.int .i64 kd,.int .i64 a,.string x,.string y,.bool gv,.slice aL nL cL,.slice aP nP cP,.slice aB nB cB,.int .i64 e0,.int .i64 e1,.int .i64 e2,.string e3,.slice q q1 q2] 51) hb
    clear hb  KN
    cases qn with
    | true =>
      obtain ⟨m0x0,m0x1,m0x2,m0x3,m0x4,m0x5,m0x6,m0x7,m0x8,m0x9,m0x10,m0x11,m0x12⟩:=rc13 HR0_1.o
      go_wp2_with fail
      refine (KY.o _ (HB1.o)).mono ?_
      rintro e w2 ⟨rfl,hb⟩
      have HB2 : Hx (Ov w w2):=over_trans (HB1.o) hb
      have HR0_2 : Hx (RowAt [.int .i64 kd,.int .i64 a,.string x,.string y,.bool gv,.slice aL nL cL,.slice aP nP cP,.slice aB nB cB,.int .i64 e0,.int .i64 e1,.int .i64 e2,.string e3,.slice q q1 q2] w2 w.heap.size):=HR0_1.o.over hb
      clear hb m0x0 m0x1 m0x2 m0x3 m0x4 m0x5 m0x6 m0x7 m0x8 m0x9 m0x10 m0x11 m0x12 KY
      cases qy with
      | true =>
        obtain ⟨m0x0,m0x1,m0x2,m0x3,m0x4,m0x5,m0x6,m0x7,m0x8,m0x9,m0x10,m0x11,m0x12⟩:=rc13 HR0_2.o
        go_wp2_with fail
        refine (KL.o _ (HB2.o)).mono ?_
        rintro e w3 ⟨rfl,hb⟩
        have HB3 : Hx (Ov w w3):=over_trans (HB2.o) hb
        have HR0_3 : Hx (RowAt [.int .i64 kd,.int .i64 a,.string x,.string y,.bool gv,.slice aL nL cL,.slice aP nP cP,.slice aB nB cB,.int .i64 e0,.int .i64 e1,.int .i64 e2,.string e3,.slice q q1 q2] w3 w.heap.size):=HR0_2.o.over hb
        clear hb m0x0 m0x1 m0x2 m0x3 m0x4 m0x5 m0x6 m0x7 m0x8 m0x9 m0x10 m0x11 m0x12 KL
        cases ql with
        | true =>
          obtain ⟨m0x0,m0x1,m0x2,m0x3,m0x4,m0x5,m0x6,m0x7,m0x8,m0x9,m0x10,m0x11,m0x12⟩:=rc13 HR0_3.o
          go_wp2_with fail
          refine (KF.o _ (HB3.o)).mono ?_
          rintro e w4 ⟨rfl,hb⟩
          have HB4 : Hx (Ov w w4):=over_trans (HB3.o) hb
          have HR0_4 : Hx (RowAt [.int .i64 kd,.int .i64 a,.string x,.string y,.bool gv,.slice aL nL cL,.slice aP nP cP,.slice aB nB cB,.int .i64 e0,.int .i64 e1,.int .i64 e2,.string e3,.slice q q1 q2] w4 w.heap.size):=HR0_3.o.over hb
          clear hb m0x0 m0x1 m0x2 m0x3 m0x4 m0x5 m0x6 m0x7 m0x8 m0x9 m0x10 m0x11 m0x12 KF
          have HV : Hx (fin = qf):=by have h:=HF.o; simp at h; exact h
          obtain ⟨m0x0,m0x1,m0x2,m0x3,m0x4,m0x5,m0x6,m0x7,m0x8,m0x9,m0x10,m0x11,m0x12⟩:=rc13 HR0_4.o
          go_wp2_with fail
          go_ret
          exact ⟨by rw [HV.o]; (first | rfl | (simp; done) | (simp; assumption) | (simp; omega)),HB4.o⟩
        | false =>
          have HV : Hx (fin = false):=by have h:=HF.o; simp at h; exact h
          obtain ⟨m0x0,m0x1,m0x2,m0x3,m0x4,m0x5,m0x6,m0x7,m0x8,m0x9,m0x10,m0x11,m0x12⟩:=rc13 HR0_3.o
          go_wp2_with fail
          go_ret
          exact ⟨by rw [HV.o]; (first | rfl | (simp; done) | (simp; assumption) | (simp; omega)),HB3.o⟩
      | false =>
        have HV : Hx (fin = false):=by have h:=HF.o; simp at h; exact h
        obtain ⟨m0x0,m0x1,m0x2,m0x3,m0x4,m0x5,m0x6,m0x7,m0x8,m0x9,m0x10,m0x11,m0x12⟩:=rc13 HR0_2.o
        go_wp2_with fail
        go_ret
        exact ⟨by rw [HV.o]; (first | rfl | (simp; done) | (simp; assumption) | (simp; omega)),HB2.o⟩
    | false =>
      have HV : Hx (fin = false):=by have h:=HF.o; simp at h; exact h
      obtain ⟨m0x0,m0x1,m0x2,m0x3,m0x4,m0x5,m0x6,m0x7,m0x8,m0x9,m0x10,m0x11,m0x12⟩:=rc13 HR0_1.o
      go_wp2_with fail
      go_ret
      exact ⟨by rw [HV.o]; (first | rfl | (simp; done) | (simp; assumption) | (simp; omega)),HB1.o⟩
end Go.Proofs.YtipngnjffjajpaaGreatDoor.Tx
