/- Package tree's Check: too many commands; Check of any tree. -/
import Derived.Test.YtipngnjffjajpaaGreatDoorG23
namespace Go.Proofs.YtipngnjffjajpaaGreatDoor.Tx
open Go.RowKit
set_option linter.unusedVariables false
theorem slK_bd (ke k : Nat) (l : List D) (deep left : Int) (h1 : -1≤left) (h2 : left≤50) : -1≤slK ke k l deep left∧slK ke k l deep left≤50:=by
  have h:=slK_cs ke k l deep left h1 h2
  have b:=csK_bd ke k l deep
  rw [h]
  split <;> omega
theorem slF_step (ke : Nat) (rec : List D→Int→Int) (deep t : Int) (s : D) : slF ke rec deep (t,false) s = if t - 1 < 0∨6 < deep∨muchS ke s = true then (-1,true) else (rec (gL 7 s) (rec (gL 6 s) (t - 1)),false):=by
  unfold slF
  rw [if_neg (by simp)]
theorem slF_done (ke : Nat) (rec : List D→Int→Int) (deep : Int) : ∀ (l : List D),(l.foldl (slF ke rec deep) (-1,true)).1 = -1
  | [] => rfl
  | a :: l => by
    rw [List.foldl_cons]
    have : slF ke rec deep (-1,true) a = (-1,true):=by unfold slF; rw [if_pos rfl]
    rw [this]
    exact slF_done ke rec deep l
set_option maxHeartbeats 2000000 in
theorem stmtsLeft_nil (ao : Option Addr) (cap : Nat) (w : World) (deep left : Int) : Ro 64 #[.slice ao 0 cap,.int .i64 deep,.int .i64 left] w (.int .i64 left):=by
  go_enter Tryz.func64,Tryz.ntmps64
  go_wp2_with fail
  go_loopw [2,11] (fun c i wr => c = .int .i64 left∧i = .int .i64 0∧wr = w) (fun _ _ _ => 0)
  case atStart => exact ⟨rfl,rfl,rfl⟩
  case round =>
    obtain ⟨rfl,rfl,rfl⟩:=hrel
    go_wp2_with fail
    go_ret
    exact ⟨rfl,Below.refl _ _⟩
set_option maxHeartbeats 4000000 in
set_option maxRecDepth 100000 in
theorem stmtsLeft_c (ke : Nat) : ∀ (k : Nat) (l : List D) (ao : Option Addr) (cap : Nat) (w : World) (deep left : Int),LS 12 (ZC w ke k) w (.slice ao l.length cap) l→1≤deep→deep≤7→-1≤left→left≤50→Ro 64 #[.slice ao l.length cap,.int .i64 deep,.int .i64 left] w (.int .i64 (slK ke k l deep left)):=by
  intro k
  induction k with
  | zero =>
    intro l ao cap w deep left h _ _ _ _
    have hl : l = []:=by
      cases l with
      | nil => rfl
      | cons a l =>
        obtain ⟨b,off,-,cs,-,-,hr⟩:=h.at (j:=0) (by simp)
        exact hr.elim
    subst hl
    exact stmtsLeft_nil ao cap w deep left
  | succ k ih =>
    intro l ao cap w deep left hc g1 g2 g3 g4
    have HC:=hide hc
    have IH:=hide ih
    have HL:=hc.max
    obtain ⟨fin,hfin⟩:=nm (l.foldl (slF ke (fun l left => slK ke k l (deep + 1) left) deep) (left,false)).1
    have hspec : slK ke (k + 1) l deep left = fin:=by rw [hfin]; rfl
    rw [hspec]
    have HF:=hide hfin
    obtain ⟨nn,hnn⟩:=nm l.length
    rw [← hnn] at HL ⊢
    have HN:=hide hnn
    clear hc ih hspec hfin hnn
    go_enter Tryz.func64,Tryz.ntmps64
    go_wp2_with fail
    go_loopw [2,11] (fun c i wr => ∃ (j : Nat) (t : Int),j≤nn∧i = .int .i64 j∧c = .int .i64 t∧-1≤t∧t≤50∧((l.drop j).foldl (slF ke (fun l left => slK ke k l (deep + 1) left) deep) (t,false)).1 = fin∧Ov w wr) (fun _ i _ => nn - (intOf i).toNat)
    case atStart => exact ⟨0,left,Nat.zero_le _,rfl,rfl,g3,g4,HF.o.symm,Below.refl _ _⟩
    case round =>
      obtain ⟨j,t,hj,rfl,rfl,t1,t2,hp,hB⟩:=hrel
      by_cases hjl : j < nn
      · have hjl0 : j < l.length:=by have:=HN.o; omega
        obtain ⟨b,off,rfl,cs,hl12,hcs,hr⟩:=HC.o.at hjl0
        rw [foldl_drop hjl0] at hp
        generalize l[j] = dj at hp hr
        have KM0 : Hx (∀ X,Ov wr X→Ro 107 #[.agg cs.toArray] X (.bool (muchS ke dj))):=fun X hX => muchS_c ke (k + 1) cs dj X ((hr.over hB).over hX)
        obtain ⟨kd,a,x,y,e0,e1,e2,e3,q,q1,q2,e,aA,cA,args,aT,cT,th,aE,cE,el,rfl,rfl,-,-,-,-,hT,hE⟩:=id hr
        rw [slF_step] at hp
        simp only [gSs] at hp
        have KT0 : Hx (∀ X (t : Int),Ov wr X→deep≤6→-1≤t→t≤50→Ro 64 #[.slice aT th.length cT,.int .i64 (deep + 1),.int .i64 t] X (.int .i64 (slK ke k th (deep + 1) t))):=fun X t hX h6 h1 h2 => IH.o th aT cT X (deep + 1) t (lsC_over hX (lsC_over hB hT)) (by omega) (by omega) h1 h2
        have KE0 : Hx (∀ X (t : Int),Ov wr X→deep≤6→-1≤t→t≤50→Ro 64 #[.slice aE el.length cE,.int .i64 (deep + 1),.int .i64 t] X (.int .i64 (slK ke k el (deep + 1) t))):=fun X t hX h6 h1 h2 => IH.o el aE cE X (deep + 1) t (lsC_over hX (lsC_over hB hE)) (by omega) (by omega) h1 h2
        obtain ⟨qm,hqm⟩:=nm (muchS ke (stD kd a x y e args th el))
        rw [← hqm] at hp KM0
        have d0 : wr.cell? ⟨b,off + j * 12,none⟩ = _:=ce1 hB (hcs 0 _ rfl)
        have d1:=ce1 hB (hcs 1 _ rfl)
        have d2:=ce1 hB (hcs 2 _ rfl)
        have d3:=ce1 hB (hcs 3 _ rfl)
        have d4:=ce1 hB (hcs 4 _ rfl)
        have d5:=ce1 hB (hcs 5 _ rfl)
        have d6:=ce1 hB (hcs 6 _ rfl)
        have d7:=ce1 hB (hcs 7 _ rfl)
        have d8:=ce1 hB (hcs 8 _ rfl)
        have d9:=ce1 hB (hcs 9 _ rfl)
        have d10:=ce1 hB (hcs 10 _ rfl)
        have d11:=ce1 hB (hcs 11 _ rfl)
        have HB:=hide hB
        have hji : (j : Int) < (nn : Int):=by omega
        have KM : Hx (∀ X,Ov wr X→Ro 107 #[.agg #[.int .i64 kd,.int .i64 a,.string x,.string y,.int .i64 e0,.int .i64 e1,.int .i64 e2,.string e3,.slice q q1 q2,.slice aA args.length cA,.slice aT th.length cT,.slice aE el.length cE]] X (.bool qm)):=KM0
        clear hcs hl12 hr hB hjl0 hT hE hqm KM0
        generalize args.length = nA at KM d0 d1 d2 d3 d4 d5 d6 d7 d8 d9 d10 d11
        generalize th.length = nT at KM KT0 d0 d1 d2 d3 d4 d5 d6 d7 d8 d9 d10 d11
        generalize el.length = nE at KM KE0 d0 d1 d2 d3 d4 d5 d6 d7 d8 d9 d10 d11
        by_cases ht0 : t - 1 < 0
        · rw [if_pos (Or.inl ht0)] at hp
          have HP:=hide (hp.symm.trans (slF_done ke _ deep _))
          clear hp
          go_wp2_with fail
          go_ret
          exact ⟨by rw [HP.o]; rfl,over_trans HB.o (bA _ _)⟩
        by_cases h6 : 6 < deep
        · rw [if_pos (Or.inr (Or.inl h6))] at hp
          have HP:=hide (hp.symm.trans (slF_done ke _ deep _))
          clear hp
          go_wp2_with fail
          go_ret
          exact ⟨by rw [HP.o]; rfl,over_trans HB.o (bA _ _)⟩
        have HP:=hide hp
        clear hp
        go_wp2_with fail
        refine (KM.o _ (bA _ _)).mono ?_
        rintro e w1 ⟨rfl,hb⟩
        have HB1 : Hx (Ov wr w1):=over_trans (bA _ _) hb
        have HR1 : Hx (RowAt [.int .i64 kd,.int .i64 a,.string x,.string y,.int .i64 e0,.int .i64 e1,.int .i64 e2,.string e3,.slice q q1 q2,.slice aA nA cA,.slice aT nT cT,.slice aE nE cE] w1 wr.heap.size):=RowAt.over (al10 wr [.int .i64 kd,.int .i64 a,.string x,.string y,.int .i64 e0,.int .i64 e1,.int .i64 e2,.string e3,.slice q q1 q2,.slice aA nA cA,.slice aT nT cT,.slice aE nE cE] 55) hb
        clear hb d0 d1 d2 d3 d4 d5 d6 d7 d8 d9 d10 d11 KM
        cases qm with
        | true =>
          have hp:=HP.o
          rw [if_pos (Or.inr (Or.inr rfl))] at hp
          replace HP:=hide (hp.symm.trans (slF_done ke _ deep _))
          clear hp
          go_wp2_with fail
          go_ret
          exact ⟨by rw [HP.o]; rfl,over_trans HB.o HB1.o⟩
        | false =>
          have hp:=HP.o
          rw [if_neg (by rintro (h | h | h) <;> first | omega | cases h)] at hp
          obtain ⟨r1,hr1⟩:=nm (slK ke k th (deep + 1) (t - 1))
          have hb1:=slK_bd ke k th (deep + 1) (t - 1) (by omega) (by omega)
          rw [← hr1] at hp hb1
          obtain ⟨r2,hr2⟩:=nm (slK ke k el (deep + 1) r1)
          have hb2:=slK_bd ke k el (deep + 1) r1 (by omega) (by omega)
          rw [← hr2] at hp hb2
          have KT : Hx (∀ X,Ov wr X→Ro 64 #[.slice aT nT cT,.int .i64 (deep + 1),.int .i64 (t - 1)] X (.int .i64 r1)):=fun X hX => by rw [hr1]; exact KT0.o X (t - 1) hX (by omega) (by omega) (by omega)
          have KE : Hx (∀ X,Ov wr X→Ro 64 #[.slice aE nE cE,.int .i64 (deep + 1),.int .i64 r1] X (.int .i64 r2)):=fun X hX => by rw [hr2]; exact KE0.o X r1 hX (by omega) (by omega) (by omega)
          replace HP:=hide hp
          clear hp hr1 hr2 KT0 KE0
          obtain ⟨m0,m1,m2,m3,m4,m5,m6,m7,m8,m9,m10,m11⟩:=rc12 HR1.o
          go_wp2_with fail
          refine (KT.o _ HB1.o).mono ?_
          rintro e w2 ⟨rfl,hb⟩
          have HB2 : Hx (Ov wr w2):=over_trans HB1.o hb
          have HR2:=hide (HR1.o.over hb)
          clear hb m0 m1 m2 m3 m4 m5 m6 m7 m8 m9 m10 m11 KT HR1 HB1
          obtain ⟨m0,m1,m2,m3,m4,m5,m6,m7,m8,m9,m10,m11⟩:=rc12 HR2.o
          go_wp2_with fail
          refine (KE.o _ HB2.o).mono ?_
          rintro e w3 ⟨rfl,hb⟩
          have HB3 : Hx (Ov w w3):=over_trans HB.o (over_trans HB2.o hb)
          clear hb m0 m1 m2 m3 m4 m5 m6 m7 m8 m9 m10 m11 KE HR2 HB2
          go_wp2_with fail
          exact ⟨⟨j + 1,r2,by omega,by go_num,rfl,by omega,by omega,HP.o,HB3.o⟩,by simp [intOf]; omega⟩
      · have hd : l.drop j = []:=List.drop_eq_nil_of_le (by have:=HN.o; omega)
        rw [hd] at hp
        have HP:=hide hp
        have HB:=hide hB
        clear hp hB hd
        go_wp2_with fail
        go_ret
        exact ⟨by rw [← HP.o]; rfl,HB.o⟩
set_option maxHeartbeats 4000000 in
set_option maxRecDepth 100000 in
theorem tooMany_c (ke kc : Nat) (ds l : List D) (v : Value) (w : World) (h : ZT w ke kc v ds l) : Ro 32 #[v] w (.bool (manyP ke kc ds l)):=by
  obtain ⟨ao,c,a2,c2,rfl,hD,hM⟩:=h
  obtain ⟨fin,hfin⟩:=nm (manyP ke kc ds l)
  rw [← hfin]
  unfold manyP at hfin
  have HD:=hide hD
  have HL:=hD.max
  have KM0 : Hx (∀ X (t : Int),Ov w X→-1≤t→t≤50→Ro 64 #[.slice a2 l.length c2,.int .i64 1,.int .i64 t] X (.int .i64 (slK ke kc l 1 t))):=fun X t hX h1 h2 => stmtsLeft_c ke kc l a2 c2 X 1 t (lsC_over hX hM) (by omega) (by omega) h1 h2
  obtain ⟨nn,hnn⟩:=nm ds.length
  rw [← hnn] at HL hfin ⊢
  have HN:=hide hnn
  clear hD hM hnn
  generalize l.length = nl at KM0 ⊢
  obtain ⟨V,hV⟩:=nm (w.alloc (.cells #[.slice ao nn c,.slice a2 nl c2] 25))
  have HBV : Hx (Ov w V):=by show Ov _ _; rw [hV]; exact bA _ _
  have HRV : Hx (RowAt [.slice ao nn c,.slice a2 nl c2] V w.heap.size):=by show RowAt _ _ _; rw [hV]; exact al10 w [.slice ao nn c,.slice a2 nl c2] 25
  by_cases h30 : 30 < nn
  · have hi : (30 : Int) < (nn : Int):=by omega
    have HV : Hx (fin = true):=by show _ = _; rw [hfin]; simp [h30]
    clear hfin
    go_enter Tryz.func32,Tryz.ntmps32
    go_wp2_with fail
    go_ret
    exact ⟨by rw [HV.o]; rfl,by rw [← hV]; exact HBV.o⟩
  rw [decide_eq_false h30,Bool.false_or] at hfin
  have HF:=hide hfin
  have hi : ¬ (30 : Int) < (nn : Int):=by omega
  clear hfin
  go_enter Tryz.func32,Tryz.ntmps32
  go_wp2_with fail
  rw [← hV]
  clear hV
  go_loopw [3,13] (fun c i wr => ∃ (j : Nat) (t : Int),j≤nn∧i = .int .i64 j∧c = .int .i64 t∧-1≤t∧t≤50∧((ds.drop j).any (muchD ke) || decide (slK ke kc l 1 ((ds.drop j).foldl (fun left d => slK ke kc (gL 7 d) 1 left) t) < 0)) = fin∧Ov V wr) (fun _ i _ => nn - (intOf i).toNat)
  case atStart => exact ⟨0,50,Nat.zero_le _,rfl,rfl,by omega,by omega,HF.o.symm,Below.refl _ _⟩
  case round =>
    obtain ⟨j,t,hj,rfl,rfl,t1,t2,hp,hB⟩:=hrel
    by_cases hjl : j < nn
    · have hjl0 : j < ds.length:=by have:=HN.o; omega
      obtain ⟨b,off,rfl,cs,hl12,hcs,hr⟩:=HD.o.at hjl0
      rw [List.drop_eq_getElem_cons hjl0,List.any_cons,List.foldl_cons] at hp
      generalize ds[j] = dj at hp hr
      have hB0 : Ov w wr:=over_trans HBV.o hB
      have KM1 : Hx (∀ X,Ov wr X→Ro 63 #[.agg cs.toArray] X (.bool (muchD ke dj))):=fun X hX => muchD_c ke kc cs dj X ((hr.over hB0).over hX)
      obtain ⟨kd,a,x,y,gv,aL,cL,lb,aP,cP,ps,aB,cB,body,e0,e1,e2,e3,q,q1,q2,r,rfl,rfl,-,-,-,-,hBo,-⟩:=id hr
      simp only [gDd] at hp
      obtain ⟨r1,hr1⟩:=nm (slK ke kc body 1 t)
      have hb1:=slK_bd ke kc body 1 t (by omega) (by omega)
      rw [← hr1] at hp hb1
      have KB : Hx (∀ X,Ov wr X→Ro 64 #[.slice aB body.length cB,.int .i64 1,.int .i64 t] X (.int .i64 r1)):=fun X hX => by rw [hr1]; exact stmtsLeft_c ke kc body aB cB X 1 t (lsC_over hX (lsC_over hB0 hBo)) (by omega) (by omega) t1 t2
      obtain ⟨qm,hqm⟩:=nm (muchD ke (deD kd a x y gv lb ps body r))
      rw [← hqm] at hp KM1
      have d0 : wr.cell? ⟨b,off + j * 13,none⟩ = _:=ce1 hB0 (hcs 0 _ rfl)
      have d1:=ce1 hB0 (hcs 1 _ rfl)
      have d2:=ce1 hB0 (hcs 2 _ rfl)
      have d3:=ce1 hB0 (hcs 3 _ rfl)
      have d4:=ce1 hB0 (hcs 4 _ rfl)
      have d5:=ce1 hB0 (hcs 5 _ rfl)
      have d6:=ce1 hB0 (hcs 6 _ rfl)
      have d7:=ce1 hB0 (hcs 7 _ rfl)
      have d8:=ce1 hB0 (hcs 8 _ rfl)
      have d9:=ce1 hB0 (hcs 9 _ rfl)
      have d10:=ce1 hB0 (hcs 10 _ rfl)
      have d11:=ce1 hB0 (hcs 11 _ rfl)
      have d12:=ce1 hB0 (hcs 12 _ rfl)
      have HB:=hide hB
      have hji : (j : Int) < (nn : Int):=by omega
      have KM : Hx (∀ X,Ov wr X→Ro 63 #[.agg #[.int .i64 kd,.int .i64 a,.string x,.string y,.bool gv,.slice aL lb.length cL,.slice aP ps.length cP,.slice aB body.length cB,.int .i64 e0,.int .i64 e1,.int .i64 e2,.string e3,.slice q q1 q2]] X (.bool qm)):=KM1
      have HP:=hide hp
      clear hcs hl12 hr hB hjl0 hBo hqm KM1 hB0 hr1 hp
      generalize lb.length = nL at KM d0 d1 d2 d3 d4 d5 d6 d7 d8 d9 d10 d11 d12
      generalize ps.length = nP at KM d0 d1 d2 d3 d4 d5 d6 d7 d8 d9 d10 d11 d12
      generalize body.length = nB at KM KB d0 d1 d2 d3 d4 d5 d6 d7 d8 d9 d10 d11 d12
      go_wp2_with fail
      refine (KM.o _ (bA _ _)).mono ?_
      rintro e w1 ⟨rfl,hb⟩
      have HB1 : Hx (Ov wr w1):=over_trans (bA _ _) hb
      have HR1 : Hx (RowAt [.int .i64 kd,.int .i64 a,.string x,.string y,.bool gv,.slice aL nL cL,.slice aP nP cP,.slice aB nB cB,.int .i64 e0,.int .i64 e1,.int .i64 e2,.string e3,.slice q q1 q2] w1 wr.heap.size):=RowAt.over (al10 wr [.int .i64 kd,.int .i64 a,.string x,.string y,.bool gv,.slice aL nL cL,.slice aP nP cP,.slice aB nB cB,.int .i64 e0,.int .i64 e1,.int .i64 e2,.string e3,.slice q q1 q2] 51) hb
      clear hb d0 d1 d2 d3 d4 d5 d6 d7 d8 d9 d10 d11 d12 KM
      cases qm with
      | true =>
        have HV : Hx (fin = true):=by have h:=HP.o; simp at h; exact h
        go_wp2_with fail
        go_ret
        exact ⟨by rw [HV.o]; rfl,over_trans HBV.o (over_trans HB.o HB1.o)⟩
      | false =>
        have hp:=HP.o
        rw [Bool.false_or] at hp
        replace HP:=hide hp
        clear hp
        obtain ⟨m0,m1,m2,m3,m4,m5,m6,m7,m8,m9,m10,m11,m12⟩:=rc13 HR1.o
        go_wp2_with fail
        refine (KB.o _ HB1.o).mono ?_
        rintro e w2 ⟨rfl,hb⟩
        have HB2 : Hx (Ov V w2):=over_trans HB.o (over_trans HB1.o hb)
        clear hb m0 m1 m2 m3 m4 m5 m6 m7 m8 m9 m10 m11 m12 KB HR1 HB1
        go_wp2_with fail
        exact ⟨⟨j + 1,r1,by omega,by go_num,rfl,by omega,by omega,HP.o,HB2.o⟩,by simp [intOf]; omega⟩
    · have hd : ds.drop j = []:=List.drop_eq_nil_of_le (by have:=HN.o; omega)
      rw [hd] at hp
      obtain ⟨r1,hr1⟩:=nm (slK ke kc l 1 t)
      have KM : Hx (∀ X,Ov w X→Ro 64 #[.slice a2 nl c2,.int .i64 1,.int .i64 t] X (.int .i64 r1)):=fun X hX => by rw [hr1]; exact KM0.o X t hX t1 t2
      have HV : Hx (fin = decide (r1 < 0)):=by show _ = _; rw [← hp,hr1]; rfl
      have HB:=hide hB
      obtain ⟨m0,m1⟩:=rc2 (HRV.o.over hB)
      clear hp hd hr1 hB KM0
      go_wp2_with fail
      refine (KM.o _ (over_trans HBV.o HB.o)).mono ?_
      rintro e w2 ⟨rfl,hb⟩
      have HB2 : Hx (Ov w w2):=over_trans HBV.o (over_trans HB.o hb)
      clear hb m0 m1 KM HB
      go_wp2_with fail
      go_ret
      exact ⟨by rw [HV.o]; rfl,HB2.o⟩
set_option maxHeartbeats 4000000 in
set_option maxRecDepth 100000 in
/-- Check of any tree. -/
theorem check_c (ke kc : Nat) (ds l : List D) (v : Value) (w : World) (h : ZT w ke kc v ds l) : Ro 14 #[v] w (.int .i64 (ckT ke kc ds l)):=by
  have KM0 : Hx (∀ X,Ov w X→Ro 32 #[v] X (.bool (manyP ke kc ds l))):=fun X hX => tooMany_c ke kc ds l v X (h.over hX)
  obtain ⟨ao,c,a2,c2,rfl,hD,hM⟩:=h
  obtain ⟨fin,hfin⟩:=nm (ckT ke kc ds l)
  rw [← hfin]
  unfold ckT at hfin
  obtain ⟨qm,hqm⟩:=nm (manyP ke kc ds l)
  obtain ⟨qd,hqd⟩:=nm (ds.all (dfK ke kc))
  obtain ⟨ql,hql⟩:=nm (l.all (sfK ke kc))
  rw [← hqm,← hqd,← hql] at hfin
  have HF:=hide hfin
  have KM : Hx (∀ X,Ov w X→Ro 32 #[.agg #[.slice ao ds.length c,.slice a2 l.length c2]] X (.bool qm)):=by rw [hqm]; exact KM0
  have KD : Hx (∀ X,Ov w X→Ro 33 #[.slice ao ds.length c,.func (.func 34) #[] #[]] X (.bool qd)):=fun X hX => by rw [hqd]; exact allD_c 34 (fun args w => by simp [go_sem]) (dfK ke kc) ds ao c X (fun cs d X _ h => declFine_c ke kc cs d X h) (lsD_over hX hD)
  have KL : Hx (∀ X,Ov w X→Ro 35 #[.slice a2 l.length c2,.func (.func 36) #[] #[]] X (.bool ql)):=fun X hX => by rw [hql]; exact allC_c 36 (fun args w => by simp [go_sem]) (sfK ke kc) l a2 c2 X (fun cs d X _ h => stmtFine_c ke kc cs d X h) (lsC_over hX hM)
  clear hfin hqm hqd hql hD hM KM0
  generalize ds.length = nd at KM KD ⊢
  generalize l.length = nl at KM KL ⊢
  go_enter Tryz.func14,Tryz.ntmps14
  go_wp2_with fail
  refine (KM.o _ (bA w (.cells #[.slice ao nd c,.slice a2 nl c2] 25))).mono ?_
  rintro e w1 ⟨rfl,hb⟩
  have HB1 : Hx (Ov w w1):=over_trans (bA w (.cells #[.slice ao nd c,.slice a2 nl c2] 25)) hb
  have HR0_1 : Hx (RowAt [.slice ao nd c,.slice a2 nl c2] w1 w.heap.size):=RowAt.over (al10 w [.slice ao nd c,.slice a2 nl c2] 25) hb
  clear hb  KM
  cases qm with
  | true =>
    have HV : Hx (fin = 2):=by have h:=HF.o; simp at h; exact h
    obtain ⟨m0x0,m0x1⟩:=rc2 HR0_1.o
    go_wp2_with fail
    go_ret
    exact ⟨by rw [HV.o]; rfl,HB1.o⟩
  | false =>
    obtain ⟨m0x0,m0x1⟩:=rc2 HR0_1.o
    go_wp2_with fail
    refine (KD.o _ (HB1.o)).mono ?_
    rintro e w2 ⟨rfl,hb⟩
    have HB2 : Hx (Ov w w2):=over_trans (HB1.o) hb
    have HR0_2 : Hx (RowAt [.slice ao nd c,.slice a2 nl c2] w2 w.heap.size):=HR0_1.o.over hb
    clear hb m0x0 m0x1 KD
    cases qd with
    | true =>
      obtain ⟨m0x0,m0x1⟩:=rc2 HR0_2.o
      go_wp2_with fail
      refine (KL.o _ (HB2.o)).mono ?_
      rintro e w3 ⟨rfl,hb⟩
      have HB3 : Hx (Ov w w3):=over_trans (HB2.o) hb
      have HR0_3 : Hx (RowAt [.slice ao nd c,.slice a2 nl c2] w3 w.heap.size):=HR0_2.o.over hb
      clear hb m0x0 m0x1 KL
      cases ql with
      | true =>
        have HV : Hx (fin = 0):=by have h:=HF.o; simp at h; exact h
        obtain ⟨m0x0,m0x1⟩:=rc2 HR0_3.o
        go_wp2_with fail
        go_ret
        exact ⟨by rw [HV.o]; rfl,HB3.o⟩
      | false =>
        have HV : Hx (fin = 1):=by have h:=HF.o; simp at h; exact h
        obtain ⟨m0x0,m0x1⟩:=rc2 HR0_3.o
        go_wp2_with fail
        go_ret
        exact ⟨by rw [HV.o]; rfl,HB3.o⟩
    | false =>
      have HV : Hx (fin = 1):=by have h:=HF.o; simp at h; exact h
      obtain ⟨m0x0,m0x1⟩:=rc2 HR0_2.o
      go_wp2_with fail
      go_ret
      exact ⟨by rw [HV.o]; rfl,HB2.o⟩
end Go.Proofs.YtipngnjffjajpaaGreatDoor.Tx
