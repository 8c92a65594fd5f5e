/- The document's answer: commands. -/
import Derived.Test.YtipngnjffjajpaaGreatDoorF27
namespace Go.Proofs.YtipngnjffjajpaaGreatDoor.Tx
open Go.RowKit
set_option linter.unusedVariables false
theorem lsC_nil {w : World} {ke : Nat} {ao : Option Addr} {cap : Nat} {l : List D} (h : LS 12 (ZC w ke 0) w (.slice ao l.length cap) l) : l = []:=by
  cases l with
  | nil => rfl
  | cons a l =>
    obtain ⟨b,off,-,cs,-,-,hr⟩:=h.at (j:=0) (by simp)
    exact hr.elim
theorem lfS_no (l : List D) (p : D→Bool) : lfS l false p = l.isEmpty:=by unfold lfS; cases l <;> simp
theorem lfS_yes (l : List D) (p : D→Bool) : lfS l true p = l.all p:=by unfold lfS; simp
/-- what is asked of a command, kind by kind. -/
structure SfQ (kd : Int) (qs qx qy qo qe qa qT qE px py pA pT pE : Bool) : Prop where
  k1 : kd = 1→qs = (qx && py && qe && pA && pT && pE)
  k2 : kd = 2→qs = (qx && qy && qo && qa && pT && pE)
  k3 : kd = 3→qs = (qx && qy && qo && pA && pT && pE)
  k4 : kd = 4→qs = (px && qy && qe && pA && pT && pE)
  k5 : kd = 5→qs = (qx && py && qe && pA && pT && pE)
  k6 : kd = 6→qs = (qx && py && qe && pA && pT && pE)
  k7 : kd = 7→qs = (px && py && qe && pA && qT && qE)
  k8 : kd = 8→qs = (px && py && qe && pA && qT && pE)
  z : ¬ kd = 1→¬ kd = 2→¬ kd = 3→¬ kd = 4→¬ kd = 5→¬ kd = 6→¬ kd = 7→¬ kd = 8→qs = false
theorem sfQ (ke k : Nat) (kd a : Int) (x y : ByteArray) (e : D) (args th el : List D) : SfQ kd (sfK ke (k + 1) (stD kd a x y e args th el)) (nmS x.data.toList) (nmS y.data.toList) (noEx e) (efK ke e) (args.all (efK ke)) (th.all (sfK ke k)) (el.all (sfK ke k)) x.data.toList.isEmpty y.data.toList.isEmpty args.isEmpty th.isEmpty el.isEmpty:=by
  constructor
  · rintro rfl
    simp only [sfK,gSs]
    simp [hVar,hOth,hExp,hArg,hThn,hEls,hOk,nfS,lfS_no]
  · rintro rfl
    simp only [sfK,gSs]
    simp [hVar,hOth,hExp,hArg,hThn,hEls,hOk,nfS,lfS_no,lfS_yes]
  · rintro rfl
    simp only [sfK,gSs]
    simp [hVar,hOth,hExp,hArg,hThn,hEls,hOk,nfS,lfS_no]
  · rintro rfl
    simp only [sfK,gSs]
    simp [hVar,hOth,hExp,hArg,hThn,hEls,hOk,nfS,lfS_no]
  · rintro rfl
    simp only [sfK,gSs]
    simp [hVar,hOth,hExp,hArg,hThn,hEls,hOk,nfS,lfS_no]
  · rintro rfl
    simp only [sfK,gSs]
    simp [hVar,hOth,hExp,hArg,hThn,hEls,hOk,nfS,lfS_no]
  · rintro rfl
    simp only [sfK,gSs]
    simp [hVar,hOth,hExp,hArg,hThn,hEls,hOk,nfS,lfS_no,lfS_yes]
  · rintro rfl
    simp only [sfK,gSs]
    simp [hVar,hOth,hExp,hArg,hThn,hEls,hOk,nfS,lfS_no,lfS_yes]
  · intro h1 h2 h3 h4 h5 h6 h7 h8
    have : hOk kd = false:=by unfold hOk; simp; omega
    simp only [sfK,gSs]
    rw [this]
    simp
theorem emp_int {α : Type} (l : List α) : ((l.length : Int) == 0) = l.isEmpty:=by cases l <;> simp; omega
set_option maxHeartbeats 16000000 in
set_option maxRecDepth 100000 in
theorem areStmts_c (ke : Nat) : ∀ (k : Nat) (l : List D) (ao : Option Addr) (cap : Nat) (w : World),LS 12 (ZC w ke k) w (.slice ao l.length cap) l→Ro 39 #[.slice ao l.length cap] w (.bool (l.all (sfK ke k))):=by
  intro k
  induction k with
  | zero =>
    intro l ao cap w hc
    obtain rfl:=lsC_nil hc
    clear hc
    go_enter Tryz.func39,Tryz.ntmps39
    go_wp2_with fail
    go_loopw [3] (fun i wr => i = .int .i64 0∧wr = w) (fun _ _ => 0)
    case atStart => exact ⟨rfl,rfl⟩
    case round =>
      obtain ⟨rfl,rfl⟩:=hrel
      go_wp2_with fail
      go_ret
      exact ⟨rfl,Below.refl _ _⟩
  | succ k ih =>
    intro l ao cap w hc
    have HC:=hide hc
    have IH:=hide ih
    have HL:=hc.max
    obtain ⟨fin,hfin⟩:=nm (l.all (sfK ke (k + 1)))
    rw [← hfin]
    have HF:=hide hfin
    obtain ⟨nn,hnn⟩:=nm l.length
    rw [← hnn] at HL ⊢
    have HN:=hide hnn
    clear hc ih hfin hnn
    go_enter Tryz.func39,Tryz.ntmps39
    go_wp2_with fail
    go_loopw [3] (fun i wr => ∃ (j : Nat),j≤nn∧i = .int .i64 j∧(l.drop j).all (sfK ke (k + 1)) = fin∧Ov w wr) (fun i _ => nn - (intOf i).toNat)
    case atStart => exact ⟨0,Nat.zero_le _,rfl,HF.o.symm,Below.refl _ _⟩
    case round =>
      obtain ⟨j,hj,rfl,hp,hB⟩:=hrel
      by_cases hjl : j < nn
      · have hjl0 : j < l.length:=by have:=HN.o; omega
        have hji : (j : Int) < (nn : Int):=by omega
        obtain ⟨b,off,rfl,cs,hl12,hcs,hr⟩:=HC.o.at hjl0
        rw [List.drop_eq_getElem_cons hjl0,List.all_cons] at hp
        generalize l[j] = dj at hp hr
        obtain ⟨kd,a,x,y,e0,e1,e2,e3,q,q1,q2,e,aA,cA,args,aT,cT,th,aE,cE,el,rfl,rfl,hx,hy,he,hA,hT,hE⟩:=hr
        have d0 : wr.cell? ⟨b,off + j * 12,none⟩ = _:=ce1 hB (hcs 0 _ rfl)
        have d1:=ce1 hB (hcs 1 _ rfl)
        have d2:=ce1 hB (hcs 2 _ rfl)
        have d3:=ce1 hB (hcs 3 _ rfl)
        have d4:=ce1 hB (hcs 4 _ rfl)
        have d5:=ce1 hB (hcs 5 _ rfl)
        have d6:=ce1 hB (hcs 6 _ rfl)
        have d7:=ce1 hB (hcs 7 _ rfl)
        have d8:=ce1 hB (hcs 8 _ rfl)
        have d9:=ce1 hB (hcs 9 _ rfl)
        have d10:=ce1 hB (hcs 10 _ rfl)
        have d11:=ce1 hB (hcs 11 _ rfl)
        have HQ:=hide (sfQ ke k kd a x y e args th el)
        obtain ⟨qs,hqs⟩:=nm (sfK ke (k + 1) (stD kd a x y e args th el))
        obtain ⟨qx,hqx⟩:=nm (nmS x.data.toList)
        obtain ⟨qy,hqy⟩:=nm (nmS y.data.toList)
        obtain ⟨qo,hqo⟩:=nm (noEx e)
        obtain ⟨qe,hqe⟩:=nm (efK ke e)
        obtain ⟨qa,hqa⟩:=nm (args.all (efK ke))
        obtain ⟨qT,hqT⟩:=nm (th.all (sfK ke k))
        obtain ⟨qE,hqE⟩:=nm (el.all (sfK ke k))
        obtain ⟨px,hpx⟩:=nm x.data.toList.isEmpty
        obtain ⟨py,hpy⟩:=nm y.data.toList.isEmpty
        obtain ⟨pA,hpA⟩:=nm args.isEmpty
        obtain ⟨pT,hpT⟩:=nm th.isEmpty
        obtain ⟨pE,hpE⟩:=nm el.isEmpty
        rw [← hqs,← hqx,← hqy,← hqo,← hqe,← hqa,← hqT,← hqE,← hpx,← hpy,← hpA,← hpT,← hpE] at HQ
        rw [← hqs] at hp
        have HX0 : Hx (x.toList.isEmpty = px):=by show _ = _; rw [hpx,ByteArray.toList_eq]
        have HY0 : Hx (y.toList.isEmpty = py):=by show _ = _; rw [hpy,ByteArray.toList_eq]
        have HA0 : Hx (((args.length : Int) == 0) = pA):=by show _ = _; rw [hpA,emp_int]
        have HT0 : Hx (((th.length : Int) == 0) = pT):=by show _ = _; rw [hpT,emp_int]
        have HE0 : Hx (((el.length : Int) == 0) = pE):=by show _ = _; rw [hpE,emp_int]
        have KO : Hx (∀ X,Ov wr X→Ro 78 #[.agg #[.int .i64 e0,.int .i64 e1,.int .i64 e2,.string e3,.slice q q1 q2]] X (.bool qo)):=fun X hX => by rw [hqo]; exact noExR_c ke _ e X ((he.over hB).over hX)
        have KE : Hx (∀ X,Ov wr X→Ro 79 #[.agg #[.int .i64 e0,.int .i64 e1,.int .i64 e2,.string e3,.slice q q1 q2]] X (.bool qe)):=fun X hX => by rw [hqe]; exact isExpr_c ke _ e X ((he.over hB).over hX)
        have KX : Hx (∀ X,Ov wr X→Ro 77 #[.string x] X (.bool qx)):=fun X hX => by rw [hqx]; exact isNameR_c x X hx
        have KY : Hx (∀ X,Ov wr X→Ro 77 #[.string y] X (.bool qy)):=fun X hX => by rw [hqy]; exact isNameR_c y X hy
        have KT : Hx (∀ X,Ov wr X→Ro 39 #[.slice aT th.length cT] X (.bool qT)):=fun X hX => by rw [hqT]; exact IH.o th aT cT X (lsC_over hX (lsC_over hB hT))
        have KL : Hx (∀ X,Ov wr X→Ro 39 #[.slice aE el.length cE] X (.bool qE)):=fun X hX => by rw [hqE]; exact IH.o el aE cE X (lsC_over hX (lsC_over hB hE))
        have HQA:=hide hqa
        have HLA:=hA.max
        have HAA:=hide (lsE_over hB hA)
        have HNA:=hide (rfl : args.length = args.length)
        have HB0:=hide hB
        have HP:=hide hp
        clear hcs hl12 hB hjl0 hp hqs hqx hqy hqo hqe hqa hqT hqE hpx hpy hpA hpT hpE hx hy he hA hT hE
        obtain ⟨nA,hnA⟩:=nm args.length
        rw [← hnA] at d9 HA0 HLA
        replace HNA:=hide hnA
        clear hnA
        generalize th.length = nT at d0 d1 d2 d3 d4 d5 d6 d7 d8 d9 d10 d11 HT0 KT
        generalize el.length = nE at d0 d1 d2 d3 d4 d5 d6 d7 d8 d9 d10 d11 HE0 KL
        obtain ⟨W1,hW1⟩:=nm (wr.alloc (.cells #[.int .i64 kd,.int .i64 a,.string x,.string y,.int .i64 e0,.int .i64 e1,.int .i64 e2,.string e3,.slice q q1 q2,.slice aA nA cA,.slice aT nT cT,.slice aE nE cE] 55))
        obtain ⟨bq,hbq⟩:=nm wr.heap.size
        have HB1 : Hx (Ov wr W1):=by show Ov _ _; rw [hW1]; exact bA _ _
        have HR1 : Hx (RowAt [.int .i64 kd,.int .i64 a,.string x,.string y,.int .i64 e0,.int .i64 e1,.int .i64 e2,.string e3,.slice q q1 q2,.slice aA nA cA,.slice aT nT cT,.slice aE nE cE] W1 bq):=by show RowAt _ _ _; rw [hW1,hbq]; exact al10 wr [.int .i64 kd,.int .i64 a,.string x,.string y,.int .i64 e0,.int .i64 e1,.int .i64 e2,.string e3,.slice q q1 q2,.slice aA nA cA,.slice aT nT cT,.slice aE nE cE] 55
        go_wp2_with fail
        rw [← hW1,← hbq]
        clear hW1 hbq d0 d1 d2 d3 d4 d5 d6 d7 d8 d9 d10 d11
        obtain ⟨m0,m1,m2,m3,m4,m5,m6,m7,m8,m9,m10,m11⟩:=rc12 HR1.o
        refine Go.Proofs.YtipngnjffjajpaaGreatDoor.gS (fun Wz => Below W1.heap.size W1 Wz) (Below.refl _ _).drew fun hHeld => ?_
        generalize W1.drew = Y2 at hHeld ⊢
        refine kO 0 ?_
        refine kO 1 ?_
        refine kO 2 ?_
        refine kO 3 ?_
        refine kO 4 ?_
        refine kO 5 ?_
        refine kO 6 ?_
        refine kO 7 ?_
        refine rdA 8 rfl fun K hK => ?_
        go_simp
        refine (KO.o _ (over_trans HB1.o hHeld)).mono ?_
        rintro e W3 ⟨rfl,hb⟩
        have HHW3 : Hx (Ov W1 W3):=over_trans hHeld hb
        clear hb hHeld KO
        go_simp
        refine xK hK (HHW3.o) fun hHeld => ?_
        clear hK K
        refine kO 9 ?_
        refine kO 10 ?_
        refine kO 11 ?_
        refine gE ?_
        have HBW3 : Hx (Ov wr W3):=over_trans HB1.o HHW3.o
        have HRW3 : Hx (RowAt [.int .i64 kd,.int .i64 a,.string x,.string y,.int .i64 e0,.int .i64 e1,.int .i64 e2,.string e3,.slice q q1 q2,.slice aA nA cA,.slice aT nT cT,.slice aE nE cE] W3 bq):=HR1.o.over HHW3.o
        clear hHeld m0 m1 m2 m3 m4 m5 m6 m7 m8 m9 m10 m11
        go_wp2_with fail
        obtain ⟨m0,m1,m2,m3,m4,m5,m6,m7,m8,m9,m10,m11⟩:=rc12 HRW3.o
        refine Go.Proofs.YtipngnjffjajpaaGreatDoor.gS (fun Wz => Below W3.heap.size W3 Wz) (Below.refl _ _).drew fun hHeld => ?_
        generalize W3.drew = Y4 at hHeld ⊢
        refine kO 0 ?_
        refine kO 1 ?_
        refine kO 2 ?_
        refine kO 3 ?_
        refine kO 4 ?_
        refine kO 5 ?_
        refine kO 6 ?_
        refine kO 7 ?_
        refine kO 8 ?_
        refine kO 9 ?_
        refine kO 10 ?_
        refine kO 11 ?_
        refine kO 12 ?_
        refine kO 13 ?_
        refine kO 14 ?_
        refine gE ?_
        have HBW5 : Hx (Ov wr Y4):=over_trans HBW3.o hHeld
        have HRW5 : Hx (RowAt [.int .i64 kd,.int .i64 a,.string x,.string y,.int .i64 e0,.int .i64 e1,.int .i64 e2,.string e3,.slice q q1 q2,.slice aA nA cA,.slice aT nT cT,.slice aE nE cE] Y4 bq):=HRW3.o.over hHeld
        clear hHeld m0 m1 m2 m3 m4 m5 m6 m7 m8 m9 m10 m11
        rw [HX0.o,HY0.o,HT0.o,HE0.o,HA0.o]
        clear HX0 HY0 HT0 HE0 HA0
        by_cases h1 : kd = 1
        · have HS:=hide (HQ.o.k1 h1)
          subst h1
          clear HQ
          obtain ⟨n0,n1,n2,n3,n4,n5,n6,n7,n8,n9,n10,n11⟩:=rc12 HRW5.o
          go_wp2_with fail
          clear n0 n1 n2 n3 n4 n5 n6 n7 n8 n9 n10 n11
          obtain ⟨m0,m1,m2,m3,m4,m5,m6,m7,m8,m9,m10,m11⟩:=rc12 HRW5.o
          refine Go.Proofs.YtipngnjffjajpaaGreatDoor.gS (fun Wz => Below Y4.heap.size Y4 Wz) (Below.refl _ _).drew fun hHeld => ?_
          generalize Y4.drew = Y6 at hHeld ⊢
          refine kO 0 ?_
          refine kO 1 ?_
          refine kO 3 ?_
          refine kO 4 ?_
          refine rdA 2 rfl fun K hK => ?_
          go_simp
          refine (KX.o _ (over_trans HBW5.o hHeld)).mono ?_
          rintro e W7 ⟨rfl,hb⟩
          have HHW7 : Hx (Ov Y4 W7):=over_trans hHeld hb
          clear hb hHeld KX
          go_simp
          refine xK hK (HHW7.o) fun hHeld => ?_
          clear hK K
          refine rdA 5 rfl fun K hK => ?_
          go_simp
          refine (KE.o _ (over_trans HBW5.o hHeld)).mono ?_
          rintro e W8 ⟨rfl,hb⟩
          have HHW8 : Hx (Ov Y4 W8):=over_trans hHeld hb
          clear hb hHeld KE
          go_simp
          refine xK hK (HHW8.o) fun hHeld => ?_
          clear hK K
          refine kO 6 ?_
          refine kO 7 ?_
          refine gE ?_
          have HBW8 : Hx (Ov wr W8):=over_trans HBW5.o HHW8.o
          have HRW8 : Hx (RowAt [.int .i64 1,.int .i64 a,.string x,.string y,.int .i64 e0,.int .i64 e1,.int .i64 e2,.string e3,.slice q q1 q2,.slice aA nA cA,.slice aT nT cT,.slice aE nE cE] W8 bq):=HRW5.o.over HHW8.o
          clear hHeld m0 m1 m2 m3 m4 m5 m6 m7 m8 m9 m10 m11
          cases qx with
          | true =>
            cases py with
            | true =>
              cases qe with
              | true =>
                cases pT with
                | true =>
                  cases pE with
                  | true =>
                    cases pA with
                    | true =>
                      have hp:=HP.o
                      rw [show qs = true by have h:=HS.o; simp at h; exact h,Bool.true_and] at hp
                      replace HP:=hide hp
                      clear hp
                      go_wp2_with fail
                      exact ⟨⟨j + 1,by omega,by go_num,HP.o,over_trans HB0.o HBW8.o⟩,by simp [intOf]; omega⟩
                    | false =>
                      have hp:=HP.o
                      rw [show qs = false by have h:=HS.o; simp at h; exact h,Bool.false_and] at hp
                      replace HP:=hide hp
                      clear hp
                      go_wp2_with fail
                      go_ret
                      exact ⟨by rw [← HP.o]; rfl,over_trans HB0.o HBW8.o⟩
                  | false =>
                    have hp:=HP.o
                    rw [show qs = false by have h:=HS.o; simp at h; exact h,Bool.false_and] at hp
                    replace HP:=hide hp
                    clear hp
                    go_wp2_with fail
                    go_ret
                    exact ⟨by rw [← HP.o]; rfl,over_trans HB0.o HBW8.o⟩
                | false =>
                  have hp:=HP.o
                  rw [show qs = false by have h:=HS.o; simp at h; exact h,Bool.false_and] at hp
                  replace HP:=hide hp
                  clear hp
                  go_wp2_with fail
                  go_ret
                  exact ⟨by rw [← HP.o]; rfl,over_trans HB0.o HBW8.o⟩
              | false =>
                have hp:=HP.o
                rw [show qs = false by have h:=HS.o; simp at h; exact h,Bool.false_and] at hp
                replace HP:=hide hp
                clear hp
                go_wp2_with fail
                go_ret
                exact ⟨by rw [← HP.o]; rfl,over_trans HB0.o HBW8.o⟩
            | false =>
              have hp:=HP.o
              rw [show qs = false by have h:=HS.o; simp at h; exact h,Bool.false_and] at hp
              replace HP:=hide hp
              clear hp
              go_wp2_with fail
              go_ret
              exact ⟨by rw [← HP.o]; rfl,over_trans HB0.o HBW8.o⟩
          | false =>
            have hp:=HP.o
            rw [show qs = false by have h:=HS.o; simp at h; exact h,Bool.false_and] at hp
            replace HP:=hide hp
            clear hp
            go_wp2_with fail
            go_ret
            exact ⟨by rw [← HP.o]; rfl,over_trans HB0.o HBW8.o⟩
        by_cases h5 : kd = 5
        · have HS:=hide (HQ.o.k5 h5)
          subst h5
          clear HQ
          obtain ⟨n0,n1,n2,n3,n4,n5,n6,n7,n8,n9,n10,n11⟩:=rc12 HRW5.o
          go_wp2_with fail
          clear n0 n1 n2 n3 n4 n5 n6 n7 n8 n9 n10 n11
          obtain ⟨m0,m1,m2,m3,m4,m5,m6,m7,m8,m9,m10,m11⟩:=rc12 HRW5.o
          refine Go.Proofs.YtipngnjffjajpaaGreatDoor.gS (fun Wz => Below Y4.heap.size Y4 Wz) (Below.refl _ _).drew fun hHeld => ?_
          generalize Y4.drew = Y9 at hHeld ⊢
          refine kO 0 ?_
          refine kO 1 ?_
          refine kO 3 ?_
          refine kO 4 ?_
          refine rdA 2 rfl fun K hK => ?_
          go_simp
          refine (KX.o _ (over_trans HBW5.o hHeld)).mono ?_
          rintro e W10 ⟨rfl,hb⟩
          have HHW10 : Hx (Ov Y4 W10):=over_trans hHeld hb
          clear hb hHeld KX
          go_simp
          refine xK hK (HHW10.o) fun hHeld => ?_
          clear hK K
          refine rdA 5 rfl fun K hK => ?_
          go_simp
          refine (KE.o _ (over_trans HBW5.o hHeld)).mono ?_
          rintro e W11 ⟨rfl,hb⟩
          have HHW11 : Hx (Ov Y4 W11):=over_trans hHeld hb
          clear hb hHeld KE
          go_simp
          refine xK hK (HHW11.o) fun hHeld => ?_
          clear hK K
          refine kO 6 ?_
          refine kO 7 ?_
          refine gE ?_
          have HBW11 : Hx (Ov wr W11):=over_trans HBW5.o HHW11.o
          have HRW11 : Hx (RowAt [.int .i64 5,.int .i64 a,.string x,.string y,.int .i64 e0,.int .i64 e1,.int .i64 e2,.string e3,.slice q q1 q2,.slice aA nA cA,.slice aT nT cT,.slice aE nE cE] W11 bq):=HRW5.o.over HHW11.o
          clear hHeld m0 m1 m2 m3 m4 m5 m6 m7 m8 m9 m10 m11
          cases qx with
          | true =>
            cases py with
            | true =>
              cases qe with
              | true =>
                cases pT with
                | true =>
                  cases pE with
                  | true =>
                    cases pA with
                    | true =>
                      have hp:=HP.o
                      rw [show qs = true by have h:=HS.o; simp at h; exact h,Bool.true_and] at hp
                      replace HP:=hide hp
                      clear hp
                      go_wp2_with fail
                      exact ⟨⟨j + 1,by omega,by go_num,HP.o,over_trans HB0.o HBW11.o⟩,by simp [intOf]; omega⟩
                    | false =>
                      have hp:=HP.o
                      rw [show qs = false by have h:=HS.o; simp at h; exact h,Bool.false_and] at hp
                      replace HP:=hide hp
                      clear hp
                      go_wp2_with fail
                      go_ret
                      exact ⟨by rw [← HP.o]; rfl,over_trans HB0.o HBW11.o⟩
                  | false =>
                    have hp:=HP.o
                    rw [show qs = false by have h:=HS.o; simp at h; exact h,Bool.false_and] at hp
                    replace HP:=hide hp
                    clear hp
                    go_wp2_with fail
                    go_ret
                    exact ⟨by rw [← HP.o]; rfl,over_trans HB0.o HBW11.o⟩
                | false =>
                  have hp:=HP.o
                  rw [show qs = false by have h:=HS.o; simp at h; exact h,Bool.false_and] at hp
                  replace HP:=hide hp
                  clear hp
                  go_wp2_with fail
                  go_ret
                  exact ⟨by rw [← HP.o]; rfl,over_trans HB0.o HBW11.o⟩
              | false =>
                have hp:=HP.o
                rw [show qs = false by have h:=HS.o; simp at h; exact h,Bool.false_and] at hp
                replace HP:=hide hp
                clear hp
                go_wp2_with fail
                go_ret
                exact ⟨by rw [← HP.o]; rfl,over_trans HB0.o HBW11.o⟩
            | false =>
              have hp:=HP.o
              rw [show qs = false by have h:=HS.o; simp at h; exact h,Bool.false_and] at hp
              replace HP:=hide hp
              clear hp
              go_wp2_with fail
              go_ret
              exact ⟨by rw [← HP.o]; rfl,over_trans HB0.o HBW11.o⟩
          | false =>
            have hp:=HP.o
            rw [show qs = false by have h:=HS.o; simp at h; exact h,Bool.false_and] at hp
            replace HP:=hide hp
            clear hp
            go_wp2_with fail
            go_ret
            exact ⟨by rw [← HP.o]; rfl,over_trans HB0.o HBW11.o⟩
        by_cases h6 : kd = 6
        · have HS:=hide (HQ.o.k6 h6)
          subst h6
          clear HQ
          obtain ⟨n0,n1,n2,n3,n4,n5,n6,n7,n8,n9,n10,n11⟩:=rc12 HRW5.o
          go_wp2_with fail
          clear n0 n1 n2 n3 n4 n5 n6 n7 n8 n9 n10 n11
          obtain ⟨m0,m1,m2,m3,m4,m5,m6,m7,m8,m9,m10,m11⟩:=rc12 HRW5.o
          refine Go.Proofs.YtipngnjffjajpaaGreatDoor.gS (fun Wz => Below Y4.heap.size Y4 Wz) (Below.refl _ _).drew fun hHeld => ?_
          generalize Y4.drew = Y12 at hHeld ⊢
          refine kO 0 ?_
          refine kO 1 ?_
          refine kO 3 ?_
          refine kO 4 ?_
          refine rdA 2 rfl fun K hK => ?_
          go_simp
          refine (KX.o _ (over_trans HBW5.o hHeld)).mono ?_
          rintro e W13 ⟨rfl,hb⟩
          have HHW13 : Hx (Ov Y4 W13):=over_trans hHeld hb
          clear hb hHeld KX
          go_simp
          refine xK hK (HHW13.o) fun hHeld => ?_
          clear hK K
          refine rdA 5 rfl fun K hK => ?_
          go_simp
          refine (KE.o _ (over_trans HBW5.o hHeld)).mono ?_
          rintro e W14 ⟨rfl,hb⟩
          have HHW14 : Hx (Ov Y4 W14):=over_trans hHeld hb
          clear hb hHeld KE
          go_simp
          refine xK hK (HHW14.o) fun hHeld => ?_
          clear hK K
          refine kO 6 ?_
          refine kO 7 ?_
          refine gE ?_
          have HBW14 : Hx (Ov wr W14):=over_trans HBW5.o HHW14.o
          have HRW14 : Hx (RowAt [.int .i64 6,.int .i64 a,.string x,.string y,.int .i64 e0,.int .i64 e1,.int .i64 e2,.string e3,.slice q q1 q2,.slice aA nA cA,.slice aT nT cT,.slice aE nE cE] W14 bq):=HRW5.o.over HHW14.o
          clear hHeld m0 m1 m2 m3 m4 m5 m6 m7 m8 m9 m10 m11
          cases qx with
          | true =>
            cases py with
            | true =>
              cases qe with
              | true =>
                cases pT with
                | true =>
                  cases pE with
                  | true =>
                    cases pA with
                    | true =>
                      have hp:=HP.o
                      rw [show qs = true by have h:=HS.o; simp at h; exact h,Bool.true_and] at hp
                      replace HP:=hide hp
                      clear hp
                      go_wp2_with fail
                      exact ⟨⟨j + 1,by omega,by go_num,HP.o,over_trans HB0.o HBW14.o⟩,by simp [intOf]; omega⟩
                    | false =>
                      have hp:=HP.o
                      rw [show qs = false by have h:=HS.o; simp at h; exact h,Bool.false_and] at hp
                      replace HP:=hide hp
                      clear hp
                      go_wp2_with fail
                      go_ret
                      exact ⟨by rw [← HP.o]; rfl,over_trans HB0.o HBW14.o⟩
                  | false =>
                    have hp:=HP.o
                    rw [show qs = false by have h:=HS.o; simp at h; exact h,Bool.false_and] at hp
                    replace HP:=hide hp
                    clear hp
                    go_wp2_with fail
                    go_ret
                    exact ⟨by rw [← HP.o]; rfl,over_trans HB0.o HBW14.o⟩
                | false =>
                  have hp:=HP.o
                  rw [show qs = false by have h:=HS.o; simp at h; exact h,Bool.false_and] at hp
                  replace HP:=hide hp
                  clear hp
                  go_wp2_with fail
                  go_ret
                  exact ⟨by rw [← HP.o]; rfl,over_trans HB0.o HBW14.o⟩
              | false =>
                have hp:=HP.o
                rw [show qs = false by have h:=HS.o; simp at h; exact h,Bool.false_and] at hp
                replace HP:=hide hp
                clear hp
                go_wp2_with fail
                go_ret
                exact ⟨by rw [← HP.o]; rfl,over_trans HB0.o HBW14.o⟩
            | false =>
              have hp:=HP.o
              rw [show qs = false by have h:=HS.o; simp at h; exact h,Bool.false_and] at hp
              replace HP:=hide hp
              clear hp
              go_wp2_with fail
              go_ret
              exact ⟨by rw [← HP.o]; rfl,over_trans HB0.o HBW14.o⟩
          | false =>
            have hp:=HP.o
            rw [show qs = false by have h:=HS.o; simp at h; exact h,Bool.false_and] at hp
            replace HP:=hide hp
            clear hp
            go_wp2_with fail
            go_ret
            exact ⟨by rw [← HP.o]; rfl,over_trans HB0.o HBW14.o⟩
        by_cases h2 : kd = 2
        · have HS:=hide (HQ.o.k2 h2)
          subst h2
          clear HQ
          obtain ⟨n0,n1,n2,n3,n4,n5,n6,n7,n8,n9,n10,n11⟩:=rc12 HRW5.o
          go_wp2_with fail
          clear n0 n1 n2 n3 n4 n5 n6 n7 n8 n9 n10 n11
          obtain ⟨m0,m1,m2,m3,m4,m5,m6,m7,m8,m9,m10,m11⟩:=rc12 HRW5.o
          refine Go.Proofs.YtipngnjffjajpaaGreatDoor.gS (fun Wz => Below Y4.heap.size Y4 Wz) (Below.refl _ _).drew fun hHeld => ?_
          generalize Y4.drew = Y15 at hHeld ⊢
          refine kO 0 ?_
          refine kO 1 ?_
          refine kO 3 ?_
          refine kO 4 ?_
          refine rdA 2 rfl fun K hK => ?_
          go_simp
          refine (KX.o _ (over_trans HBW5.o hHeld)).mono ?_
          rintro e W16 ⟨rfl,hb⟩
          have HHW16 : Hx (Ov Y4 W16):=over_trans hHeld hb
          clear hb hHeld KX
          go_simp
          refine xK hK (HHW16.o) fun hHeld => ?_
          clear hK K
          refine rdA 5 rfl fun K hK => ?_
          go_simp
          refine (KY.o _ (over_trans HBW5.o hHeld)).mono ?_
          rintro e W17 ⟨rfl,hb⟩
          have HHW17 : Hx (Ov Y4 W17):=over_trans hHeld hb
          clear hb hHeld KY
          go_simp
          refine xK hK (HHW17.o) fun hHeld => ?_
          clear hK K
          refine kO 6 ?_
          refine kO 7 ?_
          refine kO 8 ?_
          refine gE ?_
          have HBW17 : Hx (Ov wr W17):=over_trans HBW5.o HHW17.o
          have HRW17 : Hx (RowAt [.int .i64 2,.int .i64 a,.string x,.string y,.int .i64 e0,.int .i64 e1,.int .i64 e2,.string e3,.slice q q1 q2,.slice aA nA cA,.slice aT nT cT,.slice aE nE cE] W17 bq):=HRW5.o.over HHW17.o
          clear hHeld m0 m1 m2 m3 m4 m5 m6 m7 m8 m9 m10 m11
          go_wp2_with fail
          go_loopw [10,11] (fun c i ws => ∃ (i2 : Nat) (t : Bool),i2≤nA∧i = .int .i64 i2∧c = .bool t∧(t && (args.drop i2).all (efK ke)) = qa∧Ov W17 ws) (fun _ i _ => nA - (intOf i).toNat)
          case atStart => exact ⟨0,true,Nat.zero_le _,rfl,rfl,by rw [Bool.true_and]; exact HQA.o.symm,Below.refl _ _⟩
          case round =>
            obtain ⟨i,t,hi2,rfl,rfl,hpa,hB2⟩:=hrel
            have HB3:=hide (over_trans HBW17.o hB2)
            have hB3:=HB3.o
            obtain ⟨n0,n1,n2,n3,n4,n5,n6,n7,n8,n9,n10,n11⟩:=rc12 (HRW17.o.over hB2)
            by_cases hil : i < nA
            · have hil0 : i < args.length:=by have:=HNA.o; omega
              have hii : (i : Int) < (nA : Int):=by omega
              obtain ⟨ba,oa,rfl,ca,hl5,hca,hra⟩:=HAA.o.at hil0
              rw [List.drop_eq_getElem_cons hil0,List.all_cons] at hpa
              generalize args[i] = da at hpa hra
              obtain ⟨rq,hrq⟩:=nm (efK ke da)
              rw [← hrq] at hpa
              have KQ : Hx (∀ X,Ov wr X→Ro 79 #[.agg ca.toArray] X (.bool rq)):=fun X hX => by rw [hrq]; exact isExpr_c ke ca da X ((hra.over hB3).over hX)
              obtain ⟨k0,k1,k2,k3,k4,k5,k6,rfl⟩:=hra.cells
              have z0 : wr.cell? ⟨ba,oa + i * 5,none⟩ = _:=ce1 hB3 (hca 0 _ rfl)
              have z1:=ce1 hB3 (hca 1 _ rfl)
              have z2:=ce1 hB3 (hca 2 _ rfl)
              have z3:=ce1 hB3 (hca 3 _ rfl)
              have z4:=ce1 hB3 (hca 4 _ rfl)
              have HBB:=hide hB2
              clear hB2 hB3 hra hca hl5 hrq hil0
              cases t with
              | true =>
                rw [Bool.true_and] at hpa
                have HPA:=hide hpa
                clear hpa
                go_wp2_with fail
                refine (KQ.o _ (Below.refl _ _)).mono ?_
                rintro e W9 ⟨rfl,hb⟩
                have HB4:=hide (over_trans HBB.o hb)
                clear hb z0 z1 z2 z3 z4 n0 n1 n2 n3 n4 n5 n6 n7 n8 n9 n10 n11 KQ HB3
                go_wp2_with fail
                exact ⟨⟨i + 1,rq,by omega,by go_num,rfl,HPA.o,HB4.o⟩,by simp [intOf]; omega⟩
              | false =>
                rw [Bool.false_and] at hpa
                have HPA:=hide hpa
                clear hpa
                go_wp2_with fail
                exact ⟨⟨i + 1,false,by omega,by go_num,rfl,by rw [Bool.false_and]; exact HPA.o,HBB.o⟩,by simp [intOf]; omega⟩
            · have hd : args.drop i = []:=List.drop_eq_nil_of_le (by have:=HNA.o; omega)
              have hii : ¬ (i : Int) < (nA : Int):=by omega
              rw [hd] at hpa
              have hqt : t = qa:=by rw [← hpa]; simp
              subst hqt
              clear hd hpa hB2 hB3 HQA
              cases qx with
              | true =>
                cases qy with
                | true =>
                  cases qo with
                  | true =>
                    cases pT with
                    | true =>
                      cases pE with
                      | true =>
                        cases t with
                        | true =>
                          have hp:=HP.o
                          rw [show qs = true by have h:=HS.o; simp at h; exact h,Bool.true_and] at hp
                          replace HP:=hide hp
                          clear hp
                          go_wp2_with fail
                          exact ⟨⟨j + 1,by omega,by go_num,HP.o,over_trans HB0.o HB3.o⟩,by simp [intOf]; omega⟩
                        | false =>
                          have hp:=HP.o
                          rw [show qs = false by have h:=HS.o; simp at h; exact h,Bool.false_and] at hp
                          replace HP:=hide hp
                          clear hp
                          go_wp2_with fail
                          go_ret
                          exact ⟨by rw [← HP.o]; rfl,over_trans HB0.o HB3.o⟩
                      | false =>
                        have hp:=HP.o
                        rw [show qs = false by have h:=HS.o; simp at h; exact h,Bool.false_and] at hp
                        replace HP:=hide hp
                        clear hp
                        go_wp2_with fail
                        go_ret
                        exact ⟨by rw [← HP.o]; rfl,over_trans HB0.o HB3.o⟩
                    | false =>
                      have hp:=HP.o
                      rw [show qs = false by have h:=HS.o; simp at h; exact h,Bool.false_and] at hp
                      replace HP:=hide hp
                      clear hp
                      go_wp2_with fail
                      go_ret
                      exact ⟨by rw [← HP.o]; rfl,over_trans HB0.o HB3.o⟩
                  | false =>
                    have hp:=HP.o
                    rw [show qs = false by have h:=HS.o; simp at h; exact h,Bool.false_and] at hp
                    replace HP:=hide hp
                    clear hp
                    go_wp2_with fail
                    go_ret
                    exact ⟨by rw [← HP.o]; rfl,over_trans HB0.o HB3.o⟩
                | false =>
                  have hp:=HP.o
                  rw [show qs = false by have h:=HS.o; simp at h; exact h,Bool.false_and] at hp
                  replace HP:=hide hp
                  clear hp
                  go_wp2_with fail
                  go_ret
                  exact ⟨by rw [← HP.o]; rfl,over_trans HB0.o HB3.o⟩
              | false =>
                have hp:=HP.o
                rw [show qs = false by have h:=HS.o; simp at h; exact h,Bool.false_and] at hp
                replace HP:=hide hp
                clear hp
                go_wp2_with fail
                go_ret
                exact ⟨by rw [← HP.o]; rfl,over_trans HB0.o HB3.o⟩
        by_cases h3 : kd = 3
        · have HS:=hide (HQ.o.k3 h3)
          subst h3
          clear HQ
          obtain ⟨n0,n1,n2,n3,n4,n5,n6,n7,n8,n9,n10,n11⟩:=rc12 HRW5.o
          go_wp2_with fail
          clear n0 n1 n2 n3 n4 n5 n6 n7 n8 n9 n10 n11
          obtain ⟨m0,m1,m2,m3,m4,m5,m6,m7,m8,m9,m10,m11⟩:=rc12 HRW5.o
          refine Go.Proofs.YtipngnjffjajpaaGreatDoor.gS (fun Wz => Below Y4.heap.size Y4 Wz) (Below.refl _ _).drew fun hHeld => ?_
          generalize Y4.drew = Y18 at hHeld ⊢
          refine kO 0 ?_
          refine kO 1 ?_
          refine kO 3 ?_
          refine kO 4 ?_
          refine rdA 2 rfl fun K hK => ?_
          go_simp
          refine (KX.o _ (over_trans HBW5.o hHeld)).mono ?_
          rintro e W19 ⟨rfl,hb⟩
          have HHW19 : Hx (Ov Y4 W19):=over_trans hHeld hb
          clear hb hHeld KX
          go_simp
          refine xK hK (HHW19.o) fun hHeld => ?_
          clear hK K
          refine rdA 5 rfl fun K hK => ?_
          go_simp
          refine (KY.o _ (over_trans HBW5.o hHeld)).mono ?_
          rintro e W20 ⟨rfl,hb⟩
          have HHW20 : Hx (Ov Y4 W20):=over_trans hHeld hb
          clear hb hHeld KY
          go_simp
          refine xK hK (HHW20.o) fun hHeld => ?_
          clear hK K
          refine kO 6 ?_
          refine kO 7 ?_
          refine gE ?_
          have HBW20 : Hx (Ov wr W20):=over_trans HBW5.o HHW20.o
          have HRW20 : Hx (RowAt [.int .i64 3,.int .i64 a,.string x,.string y,.int .i64 e0,.int .i64 e1,.int .i64 e2,.string e3,.slice q q1 q2,.slice aA nA cA,.slice aT nT cT,.slice aE nE cE] W20 bq):=HRW5.o.over HHW20.o
          clear hHeld m0 m1 m2 m3 m4 m5 m6 m7 m8 m9 m10 m11
          cases qx with
          | true =>
            cases qy with
            | true =>
              cases qo with
              | true =>
                cases pT with
                | true =>
                  cases pE with
                  | true =>
                    cases pA with
                    | true =>
                      have hp:=HP.o
                      rw [show qs = true by have h:=HS.o; simp at h; exact h,Bool.true_and] at hp
                      replace HP:=hide hp
                      clear hp
                      go_wp2_with fail
                      exact ⟨⟨j + 1,by omega,by go_num,HP.o,over_trans HB0.o HBW20.o⟩,by simp [intOf]; omega⟩
                    | false =>
                      have hp:=HP.o
                      rw [show qs = false by have h:=HS.o; simp at h; exact h,Bool.false_and] at hp
                      replace HP:=hide hp
                      clear hp
                      go_wp2_with fail
                      go_ret
                      exact ⟨by rw [← HP.o]; rfl,over_trans HB0.o HBW20.o⟩
                  | false =>
                    have hp:=HP.o
                    rw [show qs = false by have h:=HS.o; simp at h; exact h,Bool.false_and] at hp
                    replace HP:=hide hp
                    clear hp
                    go_wp2_with fail
                    go_ret
                    exact ⟨by rw [← HP.o]; rfl,over_trans HB0.o HBW20.o⟩
                | false =>
                  have hp:=HP.o
                  rw [show qs = false by have h:=HS.o; simp at h; exact h,Bool.false_and] at hp
                  replace HP:=hide hp
                  clear hp
                  go_wp2_with fail
                  go_ret
                  exact ⟨by rw [← HP.o]; rfl,over_trans HB0.o HBW20.o⟩
              | false =>
                have hp:=HP.o
                rw [show qs = false by have h:=HS.o; simp at h; exact h,Bool.false_and] at hp
                replace HP:=hide hp
                clear hp
                go_wp2_with fail
                go_ret
                exact ⟨by rw [← HP.o]; rfl,over_trans HB0.o HBW20.o⟩
            | false =>
              have hp:=HP.o
              rw [show qs = false by have h:=HS.o; simp at h; exact h,Bool.false_and] at hp
              replace HP:=hide hp
              clear hp
              go_wp2_with fail
              go_ret
              exact ⟨by rw [← HP.o]; rfl,over_trans HB0.o HBW20.o⟩
          | false =>
            have hp:=HP.o
            rw [show qs = false by have h:=HS.o; simp at h; exact h,Bool.false_and] at hp
            replace HP:=hide hp
            clear hp
            go_wp2_with fail
            go_ret
            exact ⟨by rw [← HP.o]; rfl,over_trans HB0.o HBW20.o⟩
        by_cases h4 : kd = 4
        · have HS:=hide (HQ.o.k4 h4)
          subst h4
          clear HQ
          obtain ⟨n0,n1,n2,n3,n4,n5,n6,n7,n8,n9,n10,n11⟩:=rc12 HRW5.o
          go_wp2_with fail
          clear n0 n1 n2 n3 n4 n5 n6 n7 n8 n9 n10 n11
          obtain ⟨m0,m1,m2,m3,m4,m5,m6,m7,m8,m9,m10,m11⟩:=rc12 HRW5.o
          refine Go.Proofs.YtipngnjffjajpaaGreatDoor.gS (fun Wz => Below Y4.heap.size Y4 Wz) (Below.refl _ _).drew fun hHeld => ?_
          generalize Y4.drew = Y21 at hHeld ⊢
          refine kO 0 ?_
          refine kO 1 ?_
          refine kO 3 ?_
          refine kO 4 ?_
          refine rdA 2 rfl fun K hK => ?_
          go_simp
          refine (KY.o _ (over_trans HBW5.o hHeld)).mono ?_
          rintro e W22 ⟨rfl,hb⟩
          have HHW22 : Hx (Ov Y4 W22):=over_trans hHeld hb
          clear hb hHeld KY
          go_simp
          refine xK hK (HHW22.o) fun hHeld => ?_
          clear hK K
          refine rdA 5 rfl fun K hK => ?_
          go_simp
          refine (KE.o _ (over_trans HBW5.o hHeld)).mono ?_
          rintro e W23 ⟨rfl,hb⟩
          have HHW23 : Hx (Ov Y4 W23):=over_trans hHeld hb
          clear hb hHeld KE
          go_simp
          refine xK hK (HHW23.o) fun hHeld => ?_
          clear hK K
          refine kO 6 ?_
          refine kO 7 ?_
          refine gE ?_
          have HBW23 : Hx (Ov wr W23):=over_trans HBW5.o HHW23.o
          have HRW23 : Hx (RowAt [.int .i64 4,.int .i64 a,.string x,.string y,.int .i64 e0,.int .i64 e1,.int .i64 e2,.string e3,.slice q q1 q2,.slice aA nA cA,.slice aT nT cT,.slice aE nE cE] W23 bq):=HRW5.o.over HHW23.o
          clear hHeld m0 m1 m2 m3 m4 m5 m6 m7 m8 m9 m10 m11
          cases px with
          | true =>
            cases qy with
            | true =>
              cases qe with
              | true =>
                cases pT with
                | true =>
                  cases pE with
                  | true =>
                    cases pA with
                    | true =>
                      have hp:=HP.o
                      rw [show qs = true by have h:=HS.o; simp at h; exact h,Bool.true_and] at hp
                      replace HP:=hide hp
                      clear hp
                      go_wp2_with fail
                      exact ⟨⟨j + 1,by omega,by go_num,HP.o,over_trans HB0.o HBW23.o⟩,by simp [intOf]; omega⟩
                    | false =>
                      have hp:=HP.o
                      rw [show qs = false by have h:=HS.o; simp at h; exact h,Bool.false_and] at hp
                      replace HP:=hide hp
                      clear hp
                      go_wp2_with fail
                      go_ret
                      exact ⟨by rw [← HP.o]; rfl,over_trans HB0.o HBW23.o⟩
                  | false =>
                    have hp:=HP.o
                    rw [show qs = false by have h:=HS.o; simp at h; exact h,Bool.false_and] at hp
                    replace HP:=hide hp
                    clear hp
                    go_wp2_with fail
                    go_ret
                    exact ⟨by rw [← HP.o]; rfl,over_trans HB0.o HBW23.o⟩
                | false =>
                  have hp:=HP.o
                  rw [show qs = false by have h:=HS.o; simp at h; exact h,Bool.false_and] at hp
                  replace HP:=hide hp
                  clear hp
                  go_wp2_with fail
                  go_ret
                  exact ⟨by rw [← HP.o]; rfl,over_trans HB0.o HBW23.o⟩
              | false =>
                have hp:=HP.o
                rw [show qs = false by have h:=HS.o; simp at h; exact h,Bool.false_and] at hp
                replace HP:=hide hp
                clear hp
                go_wp2_with fail
                go_ret
                exact ⟨by rw [← HP.o]; rfl,over_trans HB0.o HBW23.o⟩
            | false =>
              have hp:=HP.o
              rw [show qs = false by have h:=HS.o; simp at h; exact h,Bool.false_and] at hp
              replace HP:=hide hp
              clear hp
              go_wp2_with fail
              go_ret
              exact ⟨by rw [← HP.o]; rfl,over_trans HB0.o HBW23.o⟩
          | false =>
            have hp:=HP.o
            rw [show qs = false by have h:=HS.o; simp at h; exact h,Bool.false_and] at hp
            replace HP:=hide hp
            clear hp
            go_wp2_with fail
            go_ret
            exact ⟨by rw [← HP.o]; rfl,over_trans HB0.o HBW23.o⟩
        by_cases h7 : kd = 7
        · have HS:=hide (HQ.o.k7 h7)
          subst h7
          clear HQ
          obtain ⟨n0,n1,n2,n3,n4,n5,n6,n7,n8,n9,n10,n11⟩:=rc12 HRW5.o
          go_wp2_with fail
          clear n0 n1 n2 n3 n4 n5 n6 n7 n8 n9 n10 n11
          obtain ⟨m0,m1,m2,m3,m4,m5,m6,m7,m8,m9,m10,m11⟩:=rc12 HRW5.o
          refine Go.Proofs.YtipngnjffjajpaaGreatDoor.gS (fun Wz => Below Y4.heap.size Y4 Wz) (Below.refl _ _).drew fun hHeld => ?_
          generalize Y4.drew = Y24 at hHeld ⊢
          refine kO 0 ?_
          refine kO 1 ?_
          refine kO 3 ?_
          refine kO 4 ?_
          refine kO 6 ?_
          refine kO 7 ?_
          refine rdA 2 rfl fun K hK => ?_
          go_simp
          refine (KE.o _ (over_trans HBW5.o hHeld)).mono ?_
          rintro e W25 ⟨rfl,hb⟩
          have HHW25 : Hx (Ov Y4 W25):=over_trans hHeld hb
          clear hb hHeld KE
          go_simp
          refine xK hK (HHW25.o) fun hHeld => ?_
          clear hK K
          refine rdA 5 rfl fun K hK => ?_
          go_simp
          refine (KT.o _ (over_trans HBW5.o hHeld)).mono ?_
          rintro e W26 ⟨rfl,hb⟩
          have HHW26 : Hx (Ov Y4 W26):=over_trans hHeld hb
          clear hb hHeld KT
          go_simp
          refine xK hK (HHW26.o) fun hHeld => ?_
          clear hK K
          refine rdA 8 rfl fun K hK => ?_
          go_simp
          refine (KL.o _ (over_trans HBW5.o hHeld)).mono ?_
          rintro e W27 ⟨rfl,hb⟩
          have HHW27 : Hx (Ov Y4 W27):=over_trans hHeld hb
          clear hb hHeld KL
          go_simp
          refine xK hK (HHW27.o) fun hHeld => ?_
          clear hK K
          refine kO 9 ?_
          refine kO 10 ?_
          refine kO 11 ?_
          refine gE ?_
          have HBW27 : Hx (Ov wr W27):=over_trans HBW5.o HHW27.o
          have HRW27 : Hx (RowAt [.int .i64 7,.int .i64 a,.string x,.string y,.int .i64 e0,.int .i64 e1,.int .i64 e2,.string e3,.slice q q1 q2,.slice aA nA cA,.slice aT nT cT,.slice aE nE cE] W27 bq):=HRW5.o.over HHW27.o
          clear hHeld m0 m1 m2 m3 m4 m5 m6 m7 m8 m9 m10 m11
          cases px with
          | true =>
            cases py with
            | true =>
              cases qe with
              | true =>
                cases qT with
                | true =>
                  cases qE with
                  | true =>
                    cases pA with
                    | true =>
                      have hp:=HP.o
                      rw [show qs = true by have h:=HS.o; simp at h; exact h,Bool.true_and] at hp
                      replace HP:=hide hp
                      clear hp
                      go_wp2_with fail
                      exact ⟨⟨j + 1,by omega,by go_num,HP.o,over_trans HB0.o HBW27.o⟩,by simp [intOf]; omega⟩
                    | false =>
                      have hp:=HP.o
                      rw [show qs = false by have h:=HS.o; simp at h; exact h,Bool.false_and] at hp
                      replace HP:=hide hp
                      clear hp
                      go_wp2_with fail
                      go_ret
                      exact ⟨by rw [← HP.o]; rfl,over_trans HB0.o HBW27.o⟩
                  | false =>
                    have hp:=HP.o
                    rw [show qs = false by have h:=HS.o; simp at h; exact h,Bool.false_and] at hp
                    replace HP:=hide hp
                    clear hp
                    go_wp2_with fail
                    go_ret
                    exact ⟨by rw [← HP.o]; rfl,over_trans HB0.o HBW27.o⟩
                | false =>
                  have hp:=HP.o
                  rw [show qs = false by have h:=HS.o; simp at h; exact h,Bool.false_and] at hp
                  replace HP:=hide hp
                  clear hp
                  go_wp2_with fail
                  go_ret
                  exact ⟨by rw [← HP.o]; rfl,over_trans HB0.o HBW27.o⟩
              | false =>
                have hp:=HP.o
                rw [show qs = false by have h:=HS.o; simp at h; exact h,Bool.false_and] at hp
                replace HP:=hide hp
                clear hp
                go_wp2_with fail
                go_ret
                exact ⟨by rw [← HP.o]; rfl,over_trans HB0.o HBW27.o⟩
            | false =>
              have hp:=HP.o
              rw [show qs = false by have h:=HS.o; simp at h; exact h,Bool.false_and] at hp
              replace HP:=hide hp
              clear hp
              go_wp2_with fail
              go_ret
              exact ⟨by rw [← HP.o]; rfl,over_trans HB0.o HBW27.o⟩
          | false =>
            have hp:=HP.o
            rw [show qs = false by have h:=HS.o; simp at h; exact h,Bool.false_and] at hp
            replace HP:=hide hp
            clear hp
            go_wp2_with fail
            go_ret
            exact ⟨by rw [← HP.o]; rfl,over_trans HB0.o HBW27.o⟩
        by_cases h8 : kd = 8
        · have HS:=hide (HQ.o.k8 h8)
          subst h8
          clear HQ
          obtain ⟨n0,n1,n2,n3,n4,n5,n6,n7,n8,n9,n10,n11⟩:=rc12 HRW5.o
          go_wp2_with fail
          clear n0 n1 n2 n3 n4 n5 n6 n7 n8 n9 n10 n11
          obtain ⟨m0,m1,m2,m3,m4,m5,m6,m7,m8,m9,m10,m11⟩:=rc12 HRW5.o
          refine Go.Proofs.YtipngnjffjajpaaGreatDoor.gS (fun Wz => Below Y4.heap.size Y4 Wz) (Below.refl _ _).drew fun hHeld => ?_
          generalize Y4.drew = Y28 at hHeld ⊢
          refine kO 0 ?_
          refine kO 1 ?_
          refine kO 3 ?_
          refine kO 4 ?_
          refine rdA 2 rfl fun K hK => ?_
          go_simp
          refine (KE.o _ (over_trans HBW5.o hHeld)).mono ?_
          rintro e W29 ⟨rfl,hb⟩
          have HHW29 : Hx (Ov Y4 W29):=over_trans hHeld hb
          clear hb hHeld KE
          go_simp
          refine xK hK (HHW29.o) fun hHeld => ?_
          clear hK K
          refine rdA 5 rfl fun K hK => ?_
          go_simp
          refine (KT.o _ (over_trans HBW5.o hHeld)).mono ?_
          rintro e W30 ⟨rfl,hb⟩
          have HHW30 : Hx (Ov Y4 W30):=over_trans hHeld hb
          clear hb hHeld KT
          go_simp
          refine xK hK (HHW30.o) fun hHeld => ?_
          clear hK K
          refine kO 6 ?_
          refine kO 7 ?_
          refine gE ?_
          have HBW30 : Hx (Ov wr W30):=over_trans HBW5.o HHW30.o
          have HRW30 : Hx (RowAt [.int .i64 8,.int .i64 a,.string x,.string y,.int .i64 e0,.int .i64 e1,.int .i64 e2,.string e3,.slice q q1 q2,.slice aA nA cA,.slice aT nT cT,.slice aE nE cE] W30 bq):=HRW5.o.over HHW30.o
          clear hHeld m0 m1 m2 m3 m4 m5 m6 m7 m8 m9 m10 m11
          cases px with
          | true =>
            cases py with
            | true =>
              cases qe with
              | true =>
                cases qT with
                | true =>
                  cases pE with
                  | true =>
                    cases pA with
                    | true =>
                      have hp:=HP.o
                      rw [show qs = true by have h:=HS.o; simp at h; exact h,Bool.true_and] at hp
                      replace HP:=hide hp
                      clear hp
                      go_wp2_with fail
                      exact ⟨⟨j + 1,by omega,by go_num,HP.o,over_trans HB0.o HBW30.o⟩,by simp [intOf]; omega⟩
                    | false =>
                      have hp:=HP.o
                      rw [show qs = false by have h:=HS.o; simp at h; exact h,Bool.false_and] at hp
                      replace HP:=hide hp
                      clear hp
                      go_wp2_with fail
                      go_ret
                      exact ⟨by rw [← HP.o]; rfl,over_trans HB0.o HBW30.o⟩
                  | false =>
                    have hp:=HP.o
                    rw [show qs = false by have h:=HS.o; simp at h; exact h,Bool.false_and] at hp
                    replace HP:=hide hp
                    clear hp
                    go_wp2_with fail
                    go_ret
                    exact ⟨by rw [← HP.o]; rfl,over_trans HB0.o HBW30.o⟩
                | false =>
                  have hp:=HP.o
                  rw [show qs = false by have h:=HS.o; simp at h; exact h,Bool.false_and] at hp
                  replace HP:=hide hp
                  clear hp
                  go_wp2_with fail
                  go_ret
                  exact ⟨by rw [← HP.o]; rfl,over_trans HB0.o HBW30.o⟩
              | false =>
                have hp:=HP.o
                rw [show qs = false by have h:=HS.o; simp at h; exact h,Bool.false_and] at hp
                replace HP:=hide hp
                clear hp
                go_wp2_with fail
                go_ret
                exact ⟨by rw [← HP.o]; rfl,over_trans HB0.o HBW30.o⟩
            | false =>
              have hp:=HP.o
              rw [show qs = false by have h:=HS.o; simp at h; exact h,Bool.false_and] at hp
              replace HP:=hide hp
              clear hp
              go_wp2_with fail
              go_ret
              exact ⟨by rw [← HP.o]; rfl,over_trans HB0.o HBW30.o⟩
          | false =>
            have hp:=HP.o
            rw [show qs = false by have h:=HS.o; simp at h; exact h,Bool.false_and] at hp
            replace HP:=hide hp
            clear hp
            go_wp2_with fail
            go_ret
            exact ⟨by rw [← HP.o]; rfl,over_trans HB0.o HBW30.o⟩
        have hp:=HP.o
        rw [show qs = false from HQ.o.z h1 h2 h3 h4 h5 h6 h7 h8,Bool.false_and] at hp
        replace HP:=hide hp
        clear hp
        have b1 : (kd == 1) = false:=by simpa using h1
        have b2 : (kd == 2) = false:=by simpa using h2
        have b3 : (kd == 3) = false:=by simpa using h3
        have b4 : (kd == 4) = false:=by simpa using h4
        have b5 : (kd == 5) = false:=by simpa using h5
        have b6 : (kd == 6) = false:=by simpa using h6
        have b7 : (kd == 7) = false:=by simpa using h7
        have b8 : (kd == 8) = false:=by simpa using h8
        clear h1 h2 h3 h4 h5 h6 h7 h8
        obtain ⟨n0,n1,n2,n3,n4,n5,n6,n7,n8,n9,n10,n11⟩:=rc12 HRW5.o
        go_wp2_with fail
        go_ret
        exact ⟨by rw [← HP.o]; rfl,over_trans HB0.o HBW5.o⟩
      · have hd : l.drop j = []:=List.drop_eq_nil_of_le (by have:=HN.o; omega)
        rw [hd] at hp
        have HP:=hide hp
        have HB:=hide hB
        have hji : ¬ (j : Int) < (nn : Int):=by omega
        clear hp hB hd
        go_wp2_with fail
        go_ret
        exact ⟨by rw [← HP.o]; rfl,HB.o⟩
end Go.Proofs.YtipngnjffjajpaaGreatDoor.Tx
