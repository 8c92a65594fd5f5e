/- The document's answer: two trees that are the same. -/
import Derived.Test.YtipngnjffjajpaaGreatDoorG27
namespace Go.Proofs.YtipngnjffjajpaaGreatDoor.Tx
open Go.RowKit
set_option linter.unusedVariables false
set_option maxHeartbeats 16000000 in
set_option maxRecDepth 100000 in
theorem sameT_f (ke kc : Nat) (ds l ds' l' : List D) (v v' : Value) (w : World) (h : ZT w ke kc v ds l) (h' : ZT w ke kc v' ds' l') (hs : stK false ke kc ds l ds' l' = true) : Ro 13 #[v,v',.bool false] w (.bool true):=by
  obtain ⟨a,c,a2,c2,rfl,hD,hM⟩:=h
  obtain ⟨b,d,b2,d2,rfl,hD9,hM9⟩:=h'
  unfold stK at hs
  rw [Bool.and_eq_true] at hs
  obtain ⟨hs1,hs2⟩:=hs
  have KM : Hx (∀ X,Ov w X→Ro 30 #[.slice a2 l.length c2,.slice b2 l'.length d2,.bool false] X (.bool true)):=fun X hX => sameSs_f ke kc l l' a2 b2 c2 d2 X (lsC_over hX hM) (lsC_over hX hM9) hs2
  have hl1:=all2_len hs1
  have hl2:=all2_len hs2
  rw [← hl2] at KM
  rw [← hl1,← hl2]
  have HA:=hide hD
  have HC:=hide hD9
  have HS:=hide hs1
  have HLD:=hD.max
  obtain ⟨nd,hnd⟩:=nm ds.length
  rw [← hnd] at HLD ⊢
  have HN:=hide hnd
  have HM:=hide (hnd.trans hl1)
  generalize l.length = nl at KM ⊢
  clear hD hM hD9 hM9 hs1 hs2 hl1 hl2 hnd
  obtain ⟨V0,hV0⟩:=nm ((w.alloc (.cells #[.slice a nd c,.slice a2 nl c2] 25)).alloc (.cells #[.slice b nd d,.slice b2 nl d2] 25))
  obtain ⟨bt,hbt⟩:=nm (w.heap.size)
  obtain ⟨bu,hbu⟩:=nm (w.heap.size + 1)
  have HRt : Hx (RowAt [.slice a nd c,.slice a2 nl c2] V0 bt):=by show RowAt _ _ _; rw [hV0,hbt]; exact al20 w [.slice a nd c,.slice a2 nl c2] 25 (.cells #[.slice b nd d,.slice b2 nl d2] 25)
  have HRu : Hx (RowAt [.slice b nd d,.slice b2 nl d2] V0 bu):=by show RowAt _ _ _; rw [hV0,hbu]; exact al21 w (.cells #[.slice a nd c,.slice a2 nl c2] 25) [.slice b nd d,.slice b2 nl d2] 25
  have HBV : Hx (Ov w V0):=by show Ov _ _; rw [hV0]; exact over_trans (bA _ _) (bA _ _)
  go_enter Tryz.func13,Tryz.ntmps13
  go_wp2_with fail
  rw [← hV0,← hbu,← hbt]
  clear hV0 hbu hbt
  go_loopw [7] (fun i wr => ∃ (j : Nat),j≤nd∧i = .int .i64 j∧Ov V0 wr) (fun i _ => nd - (intOf i).toNat)
  case atStart => exact ⟨0,Nat.zero_le _,rfl,Below.refl _ _⟩
  case round =>
    obtain ⟨j,hj,rfl,hB⟩:=hrel
    obtain ⟨s0,s1⟩:=rc2 (HRt.o.over hB)
    obtain ⟨s2,s3⟩:=rc2 (HRu.o.over hB)
    have HB:=hide hB
    by_cases hjl : j < nd
    · have hjl0 : j < ds.length:=by have:=HN.o; omega
      have hjm0 : j < ds'.length:=by have:=HM.o; omega
      have hji : (j : Int) < (nd : Int):=by omega
      obtain ⟨ba,oa,rfl,cs,-,hcs,hr⟩:=HA.o.at hjl0
      obtain ⟨bc,oc,rfl,cs',-,hcs',hr'⟩:=HC.o.at hjm0
      have hq:=all2_at HS.o j hjl0 hjm0
      generalize ds[j] = dj at hr hq
      generalize ds'[j] = dm at hr' hq
      have hB0 : Ov w wr:=over_trans HBV.o hB
      obtain ⟨kd,a,x,y,gv,aL,cL,lb,aP,cP,ps,aB,cB,body,e0,e1,e2,e3,q,q1,q2,r,rfl,rfl,-,-,hL,hP,hBo,hR⟩:=hr
      obtain ⟨kd9,a9,x9,y9,gv9,bL,dL,lb9,bP,dP,ps9,bB,dB,body9,f0,f1,f2,f3,t,t1,t2,r9,rfl,rfl,-,-,hL9,hP9,hBo9,hR9⟩:=hr'
      simp only [sdK,gDd,Bool.and_eq_true,decide_eq_true_eq] at hq
      obtain ⟨⟨⟨⟨⟨⟨⟨⟨rfl,hat⟩,hx⟩,hy⟩,hgv⟩,ql⟩,qp⟩,qb⟩,qr⟩:=hq
      have hxx : x9 = x:=by have:=ba_of_list hx.symm; rw [this]
      have hyy : y9 = y:=by have:=ba_of_list hy.symm; rw [this]
      have hpp : ps = ps9:=sx_eq qp
      have hgg : gv9 = gv:=by simpa using hgv.symm
      subst hxx hyy hpp hgg
      have d0 : wr.cell? ⟨ba,oa + j * 13,none⟩ = _:=ce1 hB0 (hcs 0 _ rfl)
      have d1:=ce1 hB0 (hcs 1 _ rfl)
      have d2:=ce1 hB0 (hcs 2 _ rfl)
      have d3:=ce1 hB0 (hcs 3 _ rfl)
      have d4:=ce1 hB0 (hcs 4 _ rfl)
      have d5:=ce1 hB0 (hcs 5 _ rfl)
      have d6:=ce1 hB0 (hcs 6 _ rfl)
      have d7:=ce1 hB0 (hcs 7 _ rfl)
      have d8:=ce1 hB0 (hcs 8 _ rfl)
      have d9:=ce1 hB0 (hcs 9 _ rfl)
      have d10:=ce1 hB0 (hcs 10 _ rfl)
      have d11:=ce1 hB0 (hcs 11 _ rfl)
      have d12:=ce1 hB0 (hcs 12 _ rfl)
      have g0 : wr.cell? ⟨bc,oc + j * 13,none⟩ = _:=ce1 hB0 (hcs' 0 _ rfl)
      have g1:=ce1 hB0 (hcs' 1 _ rfl)
      have g2:=ce1 hB0 (hcs' 2 _ rfl)
      have g3:=ce1 hB0 (hcs' 3 _ rfl)
      have g4:=ce1 hB0 (hcs' 4 _ rfl)
      have g5:=ce1 hB0 (hcs' 5 _ rfl)
      have g6:=ce1 hB0 (hcs' 6 _ rfl)
      have g7:=ce1 hB0 (hcs' 7 _ rfl)
      have g8:=ce1 hB0 (hcs' 8 _ rfl)
      have g9:=ce1 hB0 (hcs' 9 _ rfl)
      have g10:=ce1 hB0 (hcs' 10 _ rfl)
      have g11:=ce1 hB0 (hcs' 11 _ rfl)
      have g12:=ce1 hB0 (hcs' 12 _ rfl)
      have KP : Hx (∀ X,Ov wr X→Ro 29 #[.slice aP ps.length cP,.slice bP ps.length dP] X (.bool true)):=fun X hX => sameStr_t ps aP bP cP dP X (lsN_over hX (lsN_over hB0 hP)) (lsN_over hX (lsN_over hB0 hP9))
      have KB : Hx (∀ X,Ov wr X→Ro 30 #[.slice aB body.length cB,.slice bB body9.length dB,.bool false] X (.bool true)):=fun X hX => sameSs_f ke kc body body9 aB bB cB dB X (lsC_over hX (lsC_over hB0 hBo)) (lsC_over hX (lsC_over hB0 hBo9)) qb
      have KR : Hx (∀ X,Ov wr X→Ro 31 #[.agg #[.int .i64 e0,.int .i64 e1,.int .i64 e2,.string e3,.slice q q1 q2],.agg #[.int .i64 f0,.int .i64 f1,.int .i64 f2,.string f3,.slice t t1 t2],.bool false] X (.bool true)):=fun X hX => sameE_t false ke _ _ r r9 X ((hR.over hB0).over hX) ((hR9.over hB0).over hX) qr
      have hlb:=all2_len ql
      rw [← all2_len qb] at KB g7
      rw [← hlb] at g5
      have HLa:=hide hL
      have HLb:=hide hL9
      have HSL:=hide ql
      have HLX:=hL.max
      obtain ⟨nL,hnL⟩:=nm lb.length
      rw [← hnL] at d5 g5 HLX
      have HNL:=hide hnL
      have HNM:=hide (hnL.trans hlb)
      obtain ⟨Wx,hWx⟩:=nm w
      have HBX : Hx (Ov Wx wr):=by show Ov _ _; rw [hWx]; exact hB0
      rw [← hWx] at HLa HLb
      skip
      skip
      clear hcs hcs' hjl0 hjm0 hB hB0 hL hL9 hP hP9 hBo hBo9 hR hR9 ql qp qb qr hx hy hgv hat hnL hlb hWx
      generalize ps.length = nP at KP d6 g6
      generalize body.length = nB at KB d7 g7
      generalize x9 = x at d2 g2
      generalize y9 = y at d3 g3
      generalize gv9 = gv at d4 g4
      go_wp2_with fail
      refine gS (fun Wz => Below wr.heap.size wr Wz) (Below.refl _ _).drew fun hHeld => ?_
      generalize wr.drew = W at hHeld ⊢
      have HWY:=hide hHeld
      refine kO 0 ?_
      refine kO 1 ?_
      refine kO 2 ?_
      refine kO 3 ?_
      refine kO 4 ?_
      refine kO 5 ?_
      refine kO 6 ?_
      refine kO 7 ?_
      refine kO 8 ?_
      refine kO 9 ?_
      refine rdB 10 11 rfl (fun K hK => ?_) rfl fun K hK => ?_
      · go_simp
        refine xK hK (over_trans hHeld (bA _ _)) fun hHeld => ?_
        clear hK K
        refine rdA 11 rfl fun K hK => ?_
        go_simp
        refine xK hK (over_trans hHeld (bA _ _)) fun hHeld => ?_
        clear hK K
        refine rdA 12 rfl fun K hK => ?_
        go_simp
        refine xK hK (over_trans (over_trans HWY.o (bA _ _)) (bA _ _)) fun hHeld => ?_
        clear hK K
        refine rdA 13 rfl fun K hK => ?_
        go_simp
        refine xK hK (over_trans (over_trans HWY.o (bA _ _)) (bA _ _)) fun hHeld => ?_
        clear hK K
        refine gE ?_
        clear d0 d1 d2 d3 d4 d5 d6 d7 d8 d9 d10 d11 d12 g0 g1 g2 g3 g4 g5 g6 g7 g8 g9 g10 g11 g12 s0 s1 s2 s3
        obtain ⟨Y,hY⟩:=nm ((W.alloc (.cells #[.int .i64 kd,.int .i64 a,.string x,.string y,.bool gv,.slice aL nL cL,.slice aP nP cP,.slice aB nB cB,.int .i64 e0,.int .i64 e1,.int .i64 e2,.string e3,.slice q q1 q2] 51)).alloc (.cells #[.int .i64 kd,.int .i64 a9,.string x,.string y,.bool gv,.slice bL nL dL,.slice bP nP dP,.slice bB nB dB,.int .i64 f0,.int .i64 f1,.int .i64 f2,.string f3,.slice t t1 t2] 51))
        obtain ⟨b1,hb1⟩:=nm (W.heap.size)
        obtain ⟨b2,hb2⟩:=nm (W.heap.size + 1)
        have HRa : Hx (RowAt [.int .i64 kd,.int .i64 a,.string x,.string y,.bool gv,.slice aL nL cL,.slice aP nP cP,.slice aB nB cB,.int .i64 e0,.int .i64 e1,.int .i64 e2,.string e3,.slice q q1 q2] Y b1):=by show RowAt _ _ _; rw [hY,hb1]; exact al20 W [.int .i64 kd,.int .i64 a,.string x,.string y,.bool gv,.slice aL nL cL,.slice aP nP cP,.slice aB nB cB,.int .i64 e0,.int .i64 e1,.int .i64 e2,.string e3,.slice q q1 q2] 51 (.cells #[.int .i64 kd,.int .i64 a9,.string x,.string y,.bool gv,.slice bL nL dL,.slice bP nP dP,.slice bB nB dB,.int .i64 f0,.int .i64 f1,.int .i64 f2,.string f3,.slice t t1 t2] 51)
        have HRb : Hx (RowAt [.int .i64 kd,.int .i64 a9,.string x,.string y,.bool gv,.slice bL nL dL,.slice bP nP dP,.slice bB nB dB,.int .i64 f0,.int .i64 f1,.int .i64 f2,.string f3,.slice t t1 t2] Y b2):=by show RowAt _ _ _; rw [hY,hb2]; exact al21 W (.cells #[.int .i64 kd,.int .i64 a,.string x,.string y,.bool gv,.slice aL nL cL,.slice aP nP cP,.slice aB nB cB,.int .i64 e0,.int .i64 e1,.int .i64 e2,.string e3,.slice q q1 q2] 51) [.int .i64 kd,.int .i64 a9,.string x,.string y,.bool gv,.slice bL nL dL,.slice bP nP dP,.slice bB nB dB,.int .i64 f0,.int .i64 f1,.int .i64 f2,.string f3,.slice t t1 t2] 51
        have HBY : Hx (Ov wr Y):=by show Ov _ _; rw [hY]; exact over_trans (over_trans HWY.o (bA _ _)) (bA _ _)
        rw [← hY,← hb2,← hb1]
        clear hY hb1 hb2 hHeld HWY
        obtain ⟨m0x0,m0x1,m0x2,m0x3,m0x4,m0x5,m0x6,m0x7,m0x8,m0x9,m0x10,m0x11,m0x12⟩:=rc13 HRa.o
        obtain ⟨m1x0,m1x1,m1x2,m1x3,m1x4,m1x5,m1x6,m1x7,m1x8,m1x9,m1x10,m1x11,m1x12⟩:=rc13 HRb.o
        go_wp2_with fail
        refine (KP.o _ (HBY.o)).mono ?_
        rintro e w21 ⟨rfl,hb⟩
        have HB21 : Hx (Ov wr w21):=over_trans (HBY.o) hb
        have HR0_21 : Hx (RowAt [.int .i64 kd,.int .i64 a,.string x,.string y,.bool gv,.slice aL nL cL,.slice aP nP cP,.slice aB nB cB,.int .i64 e0,.int .i64 e1,.int .i64 e2,.string e3,.slice q q1 q2] w21 b1):=HRa.o.over hb
        have HR1_21 : Hx (RowAt [.int .i64 kd,.int .i64 a9,.string x,.string y,.bool gv,.slice bL nL dL,.slice bP nP dP,.slice bB nB dB,.int .i64 f0,.int .i64 f1,.int .i64 f2,.string f3,.slice t t1 t2] w21 b2):=HRb.o.over hb
        clear hb m0x0 m0x1 m0x2 m0x3 m0x4 m0x5 m0x6 m0x7 m0x8 m0x9 m0x10 m0x11 m0x12 m1x0 m1x1 m1x2 m1x3 m1x4 m1x5 m1x6 m1x7 m1x8 m1x9 m1x10 m1x11 m1x12 KP
        obtain ⟨m0x0,m0x1,m0x2,m0x3,m0x4,m0x5,m0x6,m0x7,m0x8,m0x9,m0x10,m0x11,m0x12⟩:=rc13 HR0_21.o
        obtain ⟨m1x0,m1x1,m1x2,m1x3,m1x4,m1x5,m1x6,m1x7,m1x8,m1x9,m1x10,m1x11,m1x12⟩:=rc13 HR1_21.o
        go_wp2_with fail
        refine (KB.o _ (HB21.o)).mono ?_
        rintro e w22 ⟨rfl,hb⟩
        have HB22 : Hx (Ov wr w22):=over_trans (HB21.o) hb
        have HR0_22 : Hx (RowAt [.int .i64 kd,.int .i64 a,.string x,.string y,.bool gv,.slice aL nL cL,.slice aP nP cP,.slice aB nB cB,.int .i64 e0,.int .i64 e1,.int .i64 e2,.string e3,.slice q q1 q2] w22 b1):=HR0_21.o.over hb
        have HR1_22 : Hx (RowAt [.int .i64 kd,.int .i64 a9,.string x,.string y,.bool gv,.slice bL nL dL,.slice bP nP dP,.slice bB nB dB,.int .i64 f0,.int .i64 f1,.int .i64 f2,.string f3,.slice t t1 t2] w22 b2):=HR1_21.o.over hb
        clear hb m0x0 m0x1 m0x2 m0x3 m0x4 m0x5 m0x6 m0x7 m0x8 m0x9 m0x10 m0x11 m0x12 m1x0 m1x1 m1x2 m1x3 m1x4 m1x5 m1x6 m1x7 m1x8 m1x9 m1x10 m1x11 m1x12 KB
        obtain ⟨m0x0,m0x1,m0x2,m0x3,m0x4,m0x5,m0x6,m0x7,m0x8,m0x9,m0x10,m0x11,m0x12⟩:=rc13 HR0_22.o
        obtain ⟨m1x0,m1x1,m1x2,m1x3,m1x4,m1x5,m1x6,m1x7,m1x8,m1x9,m1x10,m1x11,m1x12⟩:=rc13 HR1_22.o
        go_wp2_with fail
        refine (KR.o _ (HB22.o)).mono ?_
        rintro e w23 ⟨rfl,hb⟩
        have HB23 : Hx (Ov wr w23):=over_trans (HB22.o) hb
        have HR0_23 : Hx (RowAt [.int .i64 kd,.int .i64 a,.string x,.string y,.bool gv,.slice aL nL cL,.slice aP nP cP,.slice aB nB cB,.int .i64 e0,.int .i64 e1,.int .i64 e2,.string e3,.slice q q1 q2] w23 b1):=HR0_22.o.over hb
        have HR1_23 : Hx (RowAt [.int .i64 kd,.int .i64 a9,.string x,.string y,.bool gv,.slice bL nL dL,.slice bP nP dP,.slice bB nB dB,.int .i64 f0,.int .i64 f1,.int .i64 f2,.string f3,.slice t t1 t2] w23 b2):=HR1_22.o.over hb
        clear hb m0x0 m0x1 m0x2 m0x3 m0x4 m0x5 m0x6 m0x7 m0x8 m0x9 m0x10 m0x11 m0x12 m1x0 m1x1 m1x2 m1x3 m1x4 m1x5 m1x6 m1x7 m1x8 m1x9 m1x10 m1x11 m1x12 KR
        obtain ⟨WK,hWK⟩:=nm w23
        rw [← hWK] at HR0_23 HR1_23 HB23 ⊢
        clear hWK
        obtain ⟨u0,u1,u2,u3,u4,u5,u6,u7,u8,u9,u10,u11,u12⟩:=rc13 HR0_23.o
        go_wp2_with fail
        clear u0 u1 u2 u3 u4 u5 u6 u7 u8 u9 u10 u11 u12
        go_loopw [10] (fun i wr => ∃ (jj : Nat),jj≤nL∧i = .int .i64 jj∧Ov WK wr) (fun i _ => nL - (intOf i).toNat)
        case atStart => exact ⟨0,Nat.zero_le _,rfl,Below.refl _ _⟩
        case round =>
          obtain ⟨jj,hjj,rfl,hBi⟩:=hrel
          obtain ⟨u0,u1,u2,u3,u4,u5,u6,u7,u8,u9,u10,u11,u12⟩:=rc13 (HR0_23.o.over hBi)
          obtain ⟨v0,v1,v2,v3,v4,v5,v6,v7,v8,v9,v10,v11,v12⟩:=rc13 (HR1_23.o.over hBi)
          have HBI:=hide hBi
          by_cases hil : jj < nL
          · have hil0 : jj < lb.length:=by have:=HNL.o; omega
            have him0 : jj < lb9.length:=by have:=HNM.o; omega
            have hii : (jj : Int) < (nL : Int):=by omega
            obtain ⟨c1,of1,rfl,cs,-,hcs,hr⟩:=HLa.o.at hil0
            obtain ⟨c2,of2,rfl,cs',-,hcs',hr'⟩:=HLb.o.at him0
            have hq:=all2_at HSL.o jj hil0 him0
            generalize lb[jj] = dj at hr hq
            generalize lb9[jj] = dm at hr' hq
            have hB0 : Ov Wx wr:=over_trans HBX.o (over_trans HB23.o hBi)
            obtain ⟨pa,o,wr0,an,cn,ns,rfl,rfl,-,hN⟩:=hr
            obtain ⟨pb,o9,wr9,bn,dn,ns9,rfl,rfl,-,hN9⟩:=hr'
            simp only [spD,gPp,Bool.and_eq_true,decide_eq_true_eq] at hq
            obtain ⟨⟨⟨hat,ho⟩,hwr⟩,qn⟩:=hq
            have hoo : o9 = o:=by have:=ba_of_list ho.symm; rw [this]
            have hnn : ns = ns9:=sx_eq qn
            subst hoo hnn
            have hwr' : wr9 = wr0:=by simpa using hwr.symm
            subst hwr'
            have d0 : wr.cell? ⟨c1,of1 + jj * 4,none⟩ = _:=ce1 hB0 (hcs 0 _ rfl)
            have d1:=ce1 hB0 (hcs 1 _ rfl)
            have d2:=ce1 hB0 (hcs 2 _ rfl)
            have d3:=ce1 hB0 (hcs 3 _ rfl)
            have g0 : wr.cell? ⟨c2,of2 + jj * 4,none⟩ = _:=ce1 hB0 (hcs' 0 _ rfl)
            have g1:=ce1 hB0 (hcs' 1 _ rfl)
            have g2:=ce1 hB0 (hcs' 2 _ rfl)
            have g3:=ce1 hB0 (hcs' 3 _ rfl)
            have KN : Hx (∀ X,Ov wr X→Ro 29 #[.slice an ns.length cn,.slice bn ns.length dn] X (.bool true)):=fun X hX => sameStr_t ns an bn cn dn X (lsN_over hX (lsN_over hB0 hN)) (lsN_over hX (lsN_over hB0 hN9))
            skip
            skip
            clear hcs hcs' hil0 him0 hB0 hBi hN hN9 qn ho hwr hat
            generalize ns.length = nN at KN d3 g3
            generalize o9 = o at d1 g1
            generalize wr9 = wr0 at d2 g2
            go_wp2_with fail
            refine gS (fun Wz => Below wr.heap.size wr Wz) (Below.refl _ _).drew fun hHeld => ?_
            generalize wr.drew = W at hHeld ⊢
            have HWQ:=hide hHeld
            refine kO 0 ?_
            refine kO 1 ?_
            refine kO 2 ?_
            refine kO 3 ?_
            refine kO 4 ?_
            refine kO 5 ?_
            refine kO 6 ?_
            refine kO 7 ?_
            refine kO 8 ?_
            refine kO 9 ?_
            refine rdB 10 11 rfl (fun K hK => ?_) rfl fun K hK => ?_
            · go_simp
              refine xK hK (over_trans hHeld (bA _ _)) fun hHeld => ?_
              clear hK K
              refine rdA 11 rfl fun K hK => ?_
              go_simp
              refine xK hK (over_trans hHeld (bA _ _)) fun hHeld => ?_
              clear hK K
              refine rdA 12 rfl fun K hK => ?_
              go_simp
              refine xK hK (over_trans (over_trans HWQ.o (bA _ _)) (bA _ _)) fun hHeld => ?_
              clear hK K
              refine rdA 13 rfl fun K hK => ?_
              go_simp
              refine xK hK (over_trans (over_trans HWQ.o (bA _ _)) (bA _ _)) fun hHeld => ?_
              clear hK K
              refine gE ?_
              clear d0 d1 d2 d3 g0 g1 g2 g3 u0 u1 u2 u3 u4 u5 u6 u7 u8 u9 u10 u11 u12 v0 v1 v2 v3 v4 v5 v6 v7 v8 v9 v10 v11 v12
              obtain ⟨Q,hQ⟩:=nm ((W.alloc (.cells #[.int .i64 pa,.string o,.bool wr0,.slice an nN cn] 53)).alloc (.cells #[.int .i64 pb,.string o,.bool wr0,.slice bn nN dn] 53))
              obtain ⟨p1,hp1⟩:=nm (W.heap.size)
              obtain ⟨p2,hp2⟩:=nm (W.heap.size + 1)
              have HQa : Hx (RowAt [.int .i64 pa,.string o,.bool wr0,.slice an nN cn] Q p1):=by show RowAt _ _ _; rw [hQ,hp1]; exact al20 W [.int .i64 pa,.string o,.bool wr0,.slice an nN cn] 53 (.cells #[.int .i64 pb,.string o,.bool wr0,.slice bn nN dn] 53)
              have HQb : Hx (RowAt [.int .i64 pb,.string o,.bool wr0,.slice bn nN dn] Q p2):=by show RowAt _ _ _; rw [hQ,hp2]; exact al21 W (.cells #[.int .i64 pa,.string o,.bool wr0,.slice an nN cn] 53) [.int .i64 pb,.string o,.bool wr0,.slice bn nN dn] 53
              have HBQ : Hx (Ov wr Q):=by show Ov _ _; rw [hQ]; exact over_trans (over_trans HWQ.o (bA _ _)) (bA _ _)
              rw [← hQ,← hp2,← hp1]
              clear hQ hp1 hp2 hHeld HWQ
              obtain ⟨m0x0,m0x1,m0x2,m0x3⟩:=rc4 HQa.o
              obtain ⟨m1x0,m1x1,m1x2,m1x3⟩:=rc4 HQb.o
              go_wp2_with fail
              refine (KN.o _ (HBQ.o)).mono ?_
              rintro e w41 ⟨rfl,hb⟩
              have HB41 : Hx (Ov wr w41):=over_trans (HBQ.o) hb
              have HR0_41 : Hx (RowAt [.int .i64 pa,.string o,.bool wr0,.slice an nN cn] w41 p1):=HQa.o.over hb
              have HR1_41 : Hx (RowAt [.int .i64 pb,.string o,.bool wr0,.slice bn nN dn] w41 p2):=HQb.o.over hb
              clear hb m0x0 m0x1 m0x2 m0x3 m1x0 m1x1 m1x2 m1x3 KN
              go_wp2_with fail
              refine ⟨⟨jj + 1,by omega,by go_num,over_trans HBI.o HB41.o⟩,by simp [intOf]; omega⟩
            · go_simp
              refine xK hK (over_trans hHeld (bA _ _)) fun hHeld => ?_
              clear hK K
              refine rdA 10 rfl fun K hK => ?_
              go_simp
              refine xK hK (over_trans hHeld (bA _ _)) fun hHeld => ?_
              clear hK K
              refine rdA 12 rfl fun K hK => ?_
              go_simp
              refine xK hK (over_trans (over_trans HWQ.o (bA _ _)) (bA _ _)) fun hHeld => ?_
              clear hK K
              refine rdA 13 rfl fun K hK => ?_
              go_simp
              refine xK hK (over_trans (over_trans HWQ.o (bA _ _)) (bA _ _)) fun hHeld => ?_
              clear hK K
              refine gE ?_
              clear d0 d1 d2 d3 g0 g1 g2 g3 u0 u1 u2 u3 u4 u5 u6 u7 u8 u9 u10 u11 u12 v0 v1 v2 v3 v4 v5 v6 v7 v8 v9 v10 v11 v12
              obtain ⟨Q,hQ⟩:=nm ((W.alloc (.cells #[.int .i64 pb,.string o,.bool wr0,.slice bn nN dn] 53)).alloc (.cells #[.int .i64 pa,.string o,.bool wr0,.slice an nN cn] 53))
              obtain ⟨p1,hp1⟩:=nm (W.heap.size + 1)
              obtain ⟨p2,hp2⟩:=nm (W.heap.size)
              have HQa : Hx (RowAt [.int .i64 pa,.string o,.bool wr0,.slice an nN cn] Q p1):=by show RowAt _ _ _; rw [hQ,hp1]; exact al21 W (.cells #[.int .i64 pb,.string o,.bool wr0,.slice bn nN dn] 53) [.int .i64 pa,.string o,.bool wr0,.slice an nN cn] 53
              have HQb : Hx (RowAt [.int .i64 pb,.string o,.bool wr0,.slice bn nN dn] Q p2):=by show RowAt _ _ _; rw [hQ,hp2]; exact al20 W [.int .i64 pb,.string o,.bool wr0,.slice bn nN dn] 53 (.cells #[.int .i64 pa,.string o,.bool wr0,.slice an nN cn] 53)
              have HBQ : Hx (Ov wr Q):=by show Ov _ _; rw [hQ]; exact over_trans (over_trans HWQ.o (bA _ _)) (bA _ _)
              rw [← hQ,← hp1,← hp2]
              clear hQ hp1 hp2 hHeld HWQ
              obtain ⟨m0x0,m0x1,m0x2,m0x3⟩:=rc4 HQa.o
              obtain ⟨m1x0,m1x1,m1x2,m1x3⟩:=rc4 HQb.o
              go_wp2_with fail
              refine (KN.o _ (HBQ.o)).mono ?_
              rintro e w41 ⟨rfl,hb⟩
              have HB41 : Hx (Ov wr w41):=over_trans (HBQ.o) hb
              have HR0_41 : Hx (RowAt [.int .i64 pa,.string o,.bool wr0,.slice an nN cn] w41 p1):=HQa.o.over hb
              have HR1_41 : Hx (RowAt [.int .i64 pb,.string o,.bool wr0,.slice bn nN dn] w41 p2):=HQb.o.over hb
              clear hb m0x0 m0x1 m0x2 m0x3 m1x0 m1x1 m1x2 m1x3 KN
              go_wp2_with fail
              refine ⟨⟨jj + 1,by omega,by go_num,over_trans HBI.o HB41.o⟩,by simp [intOf]; omega⟩
          · have hii : ¬ (jj : Int) < (nL : Int):=by omega
            clear hBi
            go_wp2_with fail
            exact ⟨⟨j + 1,by omega,by go_num,over_trans HB.o (over_trans HB23.o HBI.o)⟩,by simp [intOf]; omega⟩
      · go_simp
        refine xK hK (over_trans hHeld (bA _ _)) fun hHeld => ?_
        clear hK K
        refine rdA 10 rfl fun K hK => ?_
        go_simp
        refine xK hK (over_trans hHeld (bA _ _)) fun hHeld => ?_
        clear hK K
        refine rdA 12 rfl fun K hK => ?_
        go_simp
        refine xK hK (over_trans (over_trans HWY.o (bA _ _)) (bA _ _)) fun hHeld => ?_
        clear hK K
        refine rdA 13 rfl fun K hK => ?_
        go_simp
        refine xK hK (over_trans (over_trans HWY.o (bA _ _)) (bA _ _)) fun hHeld => ?_
        clear hK K
        refine gE ?_
        clear d0 d1 d2 d3 d4 d5 d6 d7 d8 d9 d10 d11 d12 g0 g1 g2 g3 g4 g5 g6 g7 g8 g9 g10 g11 g12 s0 s1 s2 s3
        obtain ⟨Y,hY⟩:=nm ((W.alloc (.cells #[.int .i64 kd,.int .i64 a9,.string x,.string y,.bool gv,.slice bL nL dL,.slice bP nP dP,.slice bB nB dB,.int .i64 f0,.int .i64 f1,.int .i64 f2,.string f3,.slice t t1 t2] 51)).alloc (.cells #[.int .i64 kd,.int .i64 a,.string x,.string y,.bool gv,.slice aL nL cL,.slice aP nP cP,.slice aB nB cB,.int .i64 e0,.int .i64 e1,.int .i64 e2,.string e3,.slice q q1 q2] 51))
        obtain ⟨b1,hb1⟩:=nm (W.heap.size + 1)
        obtain ⟨b2,hb2⟩:=nm (W.heap.size)
        have HRa : Hx (RowAt [.int .i64 kd,.int .i64 a,.string x,.string y,.bool gv,.slice aL nL cL,.slice aP nP cP,.slice aB nB cB,.int .i64 e0,.int .i64 e1,.int .i64 e2,.string e3,.slice q q1 q2] Y b1):=by show RowAt _ _ _; rw [hY,hb1]; exact al21 W (.cells #[.int .i64 kd,.int .i64 a9,.string x,.string y,.bool gv,.slice bL nL dL,.slice bP nP dP,.slice bB nB dB,.int .i64 f0,.int .i64 f1,.int .i64 f2,.string f3,.slice t t1 t2] 51) [.int .i64 kd,.int .i64 a,.string x,.string y,.bool gv,.slice aL nL cL,.slice aP nP cP,.slice aB nB cB,.int .i64 e0,.int .i64 e1,.int .i64 e2,.string e3,.slice q q1 q2] 51
        have HRb : Hx (RowAt [.int .i64 kd,.int .i64 a9,.string x,.string y,.bool gv,.slice bL nL dL,.slice bP nP dP,.slice bB nB dB,.int .i64 f0,.int .i64 f1,.int .i64 f2,.string f3,.slice t t1 t2] Y b2):=by show RowAt _ _ _; rw [hY,hb2]; exact al20 W [.int .i64 kd,.int .i64 a9,.string x,.string y,.bool gv,.slice bL nL dL,.slice bP nP dP,.slice bB nB dB,.int .i64 f0,.int .i64 f1,.int .i64 f2,.string f3,.slice t t1 t2] 51 (.cells #[.int .i64 kd,.int .i64 a,.string x,.string y,.bool gv,.slice aL nL cL,.slice aP nP cP,.slice aB nB cB,.int .i64 e0,.int .i64 e1,.int .i64 e2,.string e3,.slice q q1 q2] 51)
        have HBY : Hx (Ov wr Y):=by show Ov _ _; rw [hY]; exact over_trans (over_trans HWY.o (bA _ _)) (bA _ _)
        rw [← hY,← hb1,← hb2]
        clear hY hb1 hb2 hHeld HWY
        obtain ⟨m0x0,m0x1,m0x2,m0x3,m0x4,m0x5,m0x6,m0x7,m0x8,m0x9,m0x10,m0x11,m0x12⟩:=rc13 HRa.o
        obtain ⟨m1x0,m1x1,m1x2,m1x3,m1x4,m1x5,m1x6,m1x7,m1x8,m1x9,m1x10,m1x11,m1x12⟩:=rc13 HRb.o
        go_wp2_with fail
        refine (KP.o _ (HBY.o)).mono ?_
        rintro e w21 ⟨rfl,hb⟩
        have HB21 : Hx (Ov wr w21):=over_trans (HBY.o) hb
        have HR0_21 : Hx (RowAt [.int .i64 kd,.int .i64 a,.string x,.string y,.bool gv,.slice aL nL cL,.slice aP nP cP,.slice aB nB cB,.int .i64 e0,.int .i64 e1,.int .i64 e2,.string e3,.slice q q1 q2] w21 b1):=HRa.o.over hb
        have HR1_21 : Hx (RowAt [.int .i64 kd,.int .i64 a9,.string x,.string y,.bool gv,.slice bL nL dL,.slice bP nP dP,.slice bB nB dB,.int .i64 f0,.int .i64 f1,.int .i64 f2,.string f3,.slice t t1 t2] w21 b2):=HRb.o.over hb
        clear hb m0x0 m0x1 m0x2 m0x3 m0x4 m0x5 m0x6 m0x7 m0x8 m0x9 m0x10 m0x11 m0x12 m1x0 m1x1 m1x2 m1x3 m1x4 m1x5 m1x6 m1x7 m1x8 m1x9 m1x10 m1x11 m1x12 KP
        obtain ⟨m0x0,m0x1,m0x2,m0x3,m0x4,m0x5,m0x6,m0x7,m0x8,m0x9,m0x10,m0x11,m0x12⟩:=rc13 HR0_21.o
        obtain ⟨m1x0,m1x1,m1x2,m1x3,m1x4,m1x5,m1x6,m1x7,m1x8,m1x9,m1x10,m1x11,m1x12⟩:=rc13 HR1_21.o
        go_wp2_with fail
        refine (KB.o _ (HB21.o)).mono ?_
        rintro e w22 ⟨rfl,hb⟩
        have HB22 : Hx (Ov wr w22):=over_trans (HB21.o) hb
        have HR0_22 : Hx (RowAt [.int .i64 kd,.int .i64 a,.string x,.string y,.bool gv,.slice aL nL cL,.slice aP nP cP,.slice aB nB cB,.int .i64 e0,.int .i64 e1,.int .i64 e2,.string e3,.slice q q1 q2] w22 b1):=HR0_21.o.over hb
        have HR1_22 : Hx (RowAt [.int .i64 kd,.int .i64 a9,.string x,.string y,.bool gv,.slice bL nL dL,.slice bP nP dP,.slice bB nB dB,.int .i64 f0,.int .i64 f1,.int .i64 f2,.string f3,.slice t t1 t2] w22 b2):=HR1_21.o.over hb
        clear hb m0x0 m0x1 m0x2 m0x3 m0x4 m0x5 m0x6 m0x7 m0x8 m0x9 m0x10 m0x11 m0x12 m1x0 m1x1 m1x2 m1x3 m1x4 m1x5 m1x6 m1x7 m1x8 m1x9 m1x10 m1x11 m1x12 KB
        obtain ⟨m0x0,m0x1,m0x2,m0x3,m0x4,m0x5,m0x6,m0x7,m0x8,m0x9,m0x10,m0x11,m0x12⟩:=rc13 HR0_22.o
        obtain ⟨m1x0,m1x1,m1x2,m1x3,m1x4,m1x5,m1x6,m1x7,m1x8,m1x9,m1x10,m1x11,m1x12⟩:=rc13 HR1_22.o
        go_wp2_with fail
        refine (KR.o _ (HB22.o)).mono ?_
        rintro e w23 ⟨rfl,hb⟩
        have HB23 : Hx (Ov wr w23):=over_trans (HB22.o) hb
        have HR0_23 : Hx (RowAt [.int .i64 kd,.int .i64 a,.string x,.string y,.bool gv,.slice aL nL cL,.slice aP nP cP,.slice aB nB cB,.int .i64 e0,.int .i64 e1,.int .i64 e2,.string e3,.slice q q1 q2] w23 b1):=HR0_22.o.over hb
        have HR1_23 : Hx (RowAt [.int .i64 kd,.int .i64 a9,.string x,.string y,.bool gv,.slice bL nL dL,.slice bP nP dP,.slice bB nB dB,.int .i64 f0,.int .i64 f1,.int .i64 f2,.string f3,.slice t t1 t2] w23 b2):=HR1_22.o.over hb
        clear hb m0x0 m0x1 m0x2 m0x3 m0x4 m0x5 m0x6 m0x7 m0x8 m0x9 m0x10 m0x11 m0x12 m1x0 m1x1 m1x2 m1x3 m1x4 m1x5 m1x6 m1x7 m1x8 m1x9 m1x10 m1x11 m1x12 KR
        obtain ⟨WK,hWK⟩:=nm w23
        rw [← hWK] at HR0_23 HR1_23 HB23 ⊢
        clear hWK
        obtain ⟨u0,u1,u2,u3,u4,u5,u6,u7,u8,u9,u10,u11,u12⟩:=rc13 HR0_23.o
        go_wp2_with fail
        clear u0 u1 u2 u3 u4 u5 u6 u7 u8 u9 u10 u11 u12
        go_loopw [10] (fun i wr => ∃ (jj : Nat),jj≤nL∧i = .int .i64 jj∧Ov WK wr) (fun i _ => nL - (intOf i).toNat)
        case atStart => exact ⟨0,Nat.zero_le _,rfl,Below.refl _ _⟩
        case round =>
          obtain ⟨jj,hjj,rfl,hBi⟩:=hrel
          obtain ⟨u0,u1,u2,u3,u4,u5,u6,u7,u8,u9,u10,u11,u12⟩:=rc13 (HR0_23.o.over hBi)
          obtain ⟨v0,v1,v2,v3,v4,v5,v6,v7,v8,v9,v10,v11,v12⟩:=rc13 (HR1_23.o.over hBi)
          have HBI:=hide hBi
          by_cases hil : jj < nL
          · have hil0 : jj < lb.length:=by have:=HNL.o; omega
            have him0 : jj < lb9.length:=by have:=HNM.o; omega
            have hii : (jj : Int) < (nL : Int):=by omega
            obtain ⟨c1,of1,rfl,cs,-,hcs,hr⟩:=HLa.o.at hil0
            obtain ⟨c2,of2,rfl,cs',-,hcs',hr'⟩:=HLb.o.at him0
            have hq:=all2_at HSL.o jj hil0 him0
            generalize lb[jj] = dj at hr hq
            generalize lb9[jj] = dm at hr' hq
            have hB0 : Ov Wx wr:=over_trans HBX.o (over_trans HB23.o hBi)
            obtain ⟨pa,o,wr0,an,cn,ns,rfl,rfl,-,hN⟩:=hr
            obtain ⟨pb,o9,wr9,bn,dn,ns9,rfl,rfl,-,hN9⟩:=hr'
            simp only [spD,gPp,Bool.and_eq_true,decide_eq_true_eq] at hq
            obtain ⟨⟨⟨hat,ho⟩,hwr⟩,qn⟩:=hq
            have hoo : o9 = o:=by have:=ba_of_list ho.symm; rw [this]
            have hnn : ns = ns9:=sx_eq qn
            subst hoo hnn
            have hwr' : wr9 = wr0:=by simpa using hwr.symm
            subst hwr'
            have d0 : wr.cell? ⟨c1,of1 + jj * 4,none⟩ = _:=ce1 hB0 (hcs 0 _ rfl)
            have d1:=ce1 hB0 (hcs 1 _ rfl)
            have d2:=ce1 hB0 (hcs 2 _ rfl)
            have d3:=ce1 hB0 (hcs 3 _ rfl)
            have g0 : wr.cell? ⟨c2,of2 + jj * 4,none⟩ = _:=ce1 hB0 (hcs' 0 _ rfl)
            have g1:=ce1 hB0 (hcs' 1 _ rfl)
            have g2:=ce1 hB0 (hcs' 2 _ rfl)
            have g3:=ce1 hB0 (hcs' 3 _ rfl)
            have KN : Hx (∀ X,Ov wr X→Ro 29 #[.slice an ns.length cn,.slice bn ns.length dn] X (.bool true)):=fun X hX => sameStr_t ns an bn cn dn X (lsN_over hX (lsN_over hB0 hN)) (lsN_over hX (lsN_over hB0 hN9))
            skip
            skip
            clear hcs hcs' hil0 him0 hB0 hBi hN hN9 qn ho hwr hat
            generalize ns.length = nN at KN d3 g3
            generalize o9 = o at d1 g1
            generalize wr9 = wr0 at d2 g2
            go_wp2_with fail
            refine gS (fun Wz => Below wr.heap.size wr Wz) (Below.refl _ _).drew fun hHeld => ?_
            generalize wr.drew = W at hHeld ⊢
            have HWQ:=hide hHeld
            refine kO 0 ?_
            refine kO 1 ?_
            refine kO 2 ?_
            refine kO 3 ?_
            refine kO 4 ?_
            refine kO 5 ?_
            refine kO 6 ?_
            refine kO 7 ?_
            refine kO 8 ?_
            refine kO 9 ?_
            refine rdB 10 11 rfl (fun K hK => ?_) rfl fun K hK => ?_
            · go_simp
              refine xK hK (over_trans hHeld (bA _ _)) fun hHeld => ?_
              clear hK K
              refine rdA 11 rfl fun K hK => ?_
              go_simp
              refine xK hK (over_trans hHeld (bA _ _)) fun hHeld => ?_
              clear hK K
              refine rdA 12 rfl fun K hK => ?_
              go_simp
              refine xK hK (over_trans (over_trans HWQ.o (bA _ _)) (bA _ _)) fun hHeld => ?_
              clear hK K
              refine rdA 13 rfl fun K hK => ?_
              go_simp
              refine xK hK (over_trans (over_trans HWQ.o (bA _ _)) (bA _ _)) fun hHeld => ?_
              clear hK K
              refine gE ?_
              clear d0 d1 d2 d3 g0 g1 g2 g3 u0 u1 u2 u3 u4 u5 u6 u7 u8 u9 u10 u11 u12 v0 v1 v2 v3 v4 v5 v6 v7 v8 v9 v10 v11 v12
              obtain ⟨Q,hQ⟩:=nm ((W.alloc (.cells #[.int .i64 pa,.string o,.bool wr0,.slice an nN cn] 53)).alloc (.cells #[.int .i64 pb,.string o,.bool wr0,.slice bn nN dn] 53))
              obtain ⟨p1,hp1⟩:=nm (W.heap.size)
              obtain ⟨p2,hp2⟩:=nm (W.heap.size + 1)
              have HQa : Hx (RowAt [.int .i64 pa,.string o,.bool wr0,.slice an nN cn] Q p1):=by show RowAt _ _ _; rw [hQ,hp1]; exact al20 W [.int .i64 pa,.string o,.bool wr0,.slice an nN cn] 53 (.cells #[.int .i64 pb,.string o,.bool wr0,.slice bn nN dn] 53)
              have HQb : Hx (RowAt [.int .i64 pb,.string o,.bool wr0,.slice bn nN dn] Q p2):=by show RowAt _ _ _; rw [hQ,hp2]; exact al21 W (.cells #[.int .i64 pa,.string o,.bool wr0,.slice an nN cn] 53) [.int .i64 pb,.string o,.bool wr0,.slice bn nN dn] 53
              have HBQ : Hx (Ov wr Q):=by show Ov _ _; rw [hQ]; exact over_trans (over_trans HWQ.o (bA _ _)) (bA _ _)
              rw [← hQ,← hp2,← hp1]
              clear hQ hp1 hp2 hHeld HWQ
              obtain ⟨m0x0,m0x1,m0x2,m0x3⟩:=rc4 HQa.o
              obtain ⟨m1x0,m1x1,m1x2,m1x3⟩:=rc4 HQb.o
              go_wp2_with fail
              refine (KN.o _ (HBQ.o)).mono ?_
              rintro e w41 ⟨rfl,hb⟩
              have HB41 : Hx (Ov wr w41):=over_trans (HBQ.o) hb
              have HR0_41 : Hx (RowAt [.int .i64 pa,.string o,.bool wr0,.slice an nN cn] w41 p1):=HQa.o.over hb
              have HR1_41 : Hx (RowAt [.int .i64 pb,.string o,.bool wr0,.slice bn nN dn] w41 p2):=HQb.o.over hb
              clear hb m0x0 m0x1 m0x2 m0x3 m1x0 m1x1 m1x2 m1x3 KN
              go_wp2_with fail
              refine ⟨⟨jj + 1,by omega,by go_num,over_trans HBI.o HB41.o⟩,by simp [intOf]; omega⟩
            · go_simp
              refine xK hK (over_trans hHeld (bA _ _)) fun hHeld => ?_
              clear hK K
              refine rdA 10 rfl fun K hK => ?_
              go_simp
              refine xK hK (over_trans hHeld (bA _ _)) fun hHeld => ?_
              clear hK K
              refine rdA 12 rfl fun K hK => ?_
              go_simp
              refine xK hK (over_trans (over_trans HWQ.o (bA _ _)) (bA _ _)) fun hHeld => ?_
              clear hK K
              refine rdA 13 rfl fun K hK => ?_
              go_simp
              refine xK hK (over_trans (over_trans HWQ.o (bA _ _)) (bA _ _)) fun hHeld => ?_
              clear hK K
              refine gE ?_
              clear d0 d1 d2 d3 g0 g1 g2 g3 u0 u1 u2 u3 u4 u5 u6 u7 u8 u9 u10 u11 u12 v0 v1 v2 v3 v4 v5 v6 v7 v8 v9 v10 v11 v12
              obtain ⟨Q,hQ⟩:=nm ((W.alloc (.cells #[.int .i64 pb,.string o,.bool wr0,.slice bn nN dn] 53)).alloc (.cells #[.int .i64 pa,.string o,.bool wr0,.slice an nN cn] 53))
              obtain ⟨p1,hp1⟩:=nm (W.heap.size + 1)
              obtain ⟨p2,hp2⟩:=nm (W.heap.size)
              have HQa : Hx (RowAt [.int .i64 pa,.string o,.bool wr0,.slice an nN cn] Q p1):=by show RowAt _ _ _; rw [hQ,hp1]; exact al21 W (.cells #[.int .i64 pb,.string o,.bool wr0,.slice bn nN dn] 53) [.int .i64 pa,.string o,.bool wr0,.slice an nN cn] 53
              have HQb : Hx (RowAt [.int .i64 pb,.string o,.bool wr0,.slice bn nN dn] Q p2):=by show RowAt _ _ _; rw [hQ,hp2]; exact al20 W [.int .i64 pb,.string o,.bool wr0,.slice bn nN dn] 53 (.cells #[.int .i64 pa,.string o,.bool wr0,.slice an nN cn] 53)
              have HBQ : Hx (Ov wr Q):=by show Ov _ _; rw [hQ]; exact over_trans (over_trans HWQ.o (bA _ _)) (bA _ _)
              rw [← hQ,← hp1,← hp2]
              clear hQ hp1 hp2 hHeld HWQ
              obtain ⟨m0x0,m0x1,m0x2,m0x3⟩:=rc4 HQa.o
              obtain ⟨m1x0,m1x1,m1x2,m1x3⟩:=rc4 HQb.o
              go_wp2_with fail
              refine (KN.o _ (HBQ.o)).mono ?_
              rintro e w41 ⟨rfl,hb⟩
              have HB41 : Hx (Ov wr w41):=over_trans (HBQ.o) hb
              have HR0_41 : Hx (RowAt [.int .i64 pa,.string o,.bool wr0,.slice an nN cn] w41 p1):=HQa.o.over hb
              have HR1_41 : Hx (RowAt [.int .i64 pb,.string o,.bool wr0,.slice bn nN dn] w41 p2):=HQb.o.over hb
              clear hb m0x0 m0x1 m0x2 m0x3 m1x0 m1x1 m1x2 m1x3 KN
              go_wp2_with fail
              refine ⟨⟨jj + 1,by omega,by go_num,over_trans HBI.o HB41.o⟩,by simp [intOf]; omega⟩
          · have hii : ¬ (jj : Int) < (nL : Int):=by omega
            clear hBi
            go_wp2_with fail
            exact ⟨⟨j + 1,by omega,by go_num,over_trans HB.o (over_trans HB23.o HBI.o)⟩,by simp [intOf]; omega⟩
    · have hji : ¬ (j : Int) < (nd : Int):=by omega
      clear hB
      go_wp2_with fail
      refine (KM.o _ (over_trans HBV.o HB.o)).mono ?_
      rintro e wz ⟨rfl,hb⟩
      have HBZ:=hide (over_trans (over_trans HBV.o HB.o) hb)
      clear hb KM s0 s1 s2 s3
      go_wp2_with fail
      go_ret
      exact ⟨rfl,HBZ.o⟩
end Go.Proofs.YtipngnjffjajpaaGreatDoor.Tx
