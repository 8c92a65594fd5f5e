/- Package tree's Check: is each of a list so? -/
import Derived.Test.YtipngnjffjajpaaGreatDoorG19
import Derived.Test.YtipngnjffjajpaaGreatDoorG17
namespace Go.Proofs.YtipngnjffjajpaaGreatDoor.Tx
open Go.RowKit
set_option linter.unusedVariables false
set_option maxHeartbeats 4000000 in
set_option maxRecDepth 100000 in
theorem allE_c {k : Nat} (F : FuncId) (hC : ∀ (args : Array Value) (w : World),(callFunc F args).run Tryz.prog w = .ok (.enter F args) w) (p : D→Bool) (l : List D) (ao : Option Addr) (cap : Nat) (w : World) (hp : ∀ (cs : List Value) (d : D) (X : World),d∈l→ZE X k cs d→Ro F #[.agg cs.toArray] X (.bool (p d))) (hc : LS 5 (ZE w k) w (.slice ao l.length cap) l) :
    Ro 111 #[.slice ao l.length cap,.func (.func F) #[] #[]] w (.bool (l.all p)):=by
  have HC:=hide hc
  have HP0:=hide hp
  have HL:=hc.max
  obtain ⟨fin,hfin⟩:=nm (l.all p)
  rw [← hfin]
  have HF:=hide hfin
  obtain ⟨nn,hnn⟩:=nm l.length
  rw [← hnn] at HL ⊢
  have HN:=hide hnn
  clear hc hp hfin hnn
  go_enter Tryz.func111,Tryz.ntmps111
  go_wp2_with fail
  go_loopw [9] (fun i wr => ∃ (j : Nat),j≤nn∧i = .int .i64 j∧(l.drop j).all p = fin∧Ov w wr) (fun i _ => nn - (intOf i).toNat)
  case atStart => exact ⟨0,Nat.zero_le _,rfl,HF.o.symm,Below.refl _ _⟩
  case round =>
    obtain ⟨j,hj,rfl,hp,hB⟩:=hrel
    by_cases hjl : j < nn
    · have hjl0 : j < l.length:=by have:=HN.o; omega
      obtain ⟨b,off,rfl,cs,hl5,hcs,hr⟩:=HC.o.at hjl0
      rw [List.drop_eq_getElem_cons hjl0,List.all_cons] at hp
      have hmem:=List.getElem_mem hjl0
      obtain ⟨dj,hdj⟩:=nm l[j]
      rw [← hdj] at hp hr hmem
      obtain ⟨qq,hqq⟩:=nm (p dj)
      rw [← hqq] at hp
      have KC : Hx (∀ X,Ov wr X→Ro F #[.agg cs.toArray] X (.bool qq)):=fun X hX => by rw [hqq]; exact HP0.o cs dj X hmem ((hr.over hB).over hX)
      obtain ⟨c0,c1,c2,c3,c4a,c4n,c4c,rfl⟩:=hr.cells
      have d0 : wr.cell? ⟨b,off + j * 5,none⟩ = _:=ce1 hB (hcs 0 _ rfl)
      have d1:=ce1 hB (hcs 1 _ rfl)
      have d2:=ce1 hB (hcs 2 _ rfl)
      have d3:=ce1 hB (hcs 3 _ rfl)
      have d4:=ce1 hB (hcs 4 _ rfl)
      have HP:=hide hp
      have HB:=hide hB
      have hji : (j : Int) < (nn : Int):=by omega
      clear hcs hl5 hr hp hB hjl0 hqq hdj hmem
      go_wp2_with fail
      refine (KC.o _ (bA _ _)).mono ?_
      rintro e w1 ⟨rfl,hb1⟩
      have HB1 : Hx (Ov w w1):=over_trans HB.o (over_trans (bA _ _) hb1)
      clear hb1 d0 d1 d2 d3 d4 KC
      cases qq with
      | true =>
        have hp:=HP.o
        rw [Bool.true_and] at hp
        replace HP:=hide hp
        clear hp
        go_wp2_with fail
        exact ⟨⟨j + 1,by omega,by go_num,HP.o,HB1.o⟩,by simp [intOf]; omega⟩
      | false =>
        have hp:=HP.o
        rw [Bool.false_and] at hp
        replace HP:=hide hp
        clear hp
        go_wp2_with fail
        go_ret
        exact ⟨by rw [← HP.o]; rfl,HB1.o⟩
    · have hd : l.drop j = []:=List.drop_eq_nil_of_le (by have:=HN.o; omega)
      rw [hd] at hp
      have HP:=hide hp
      have HB:=hide hB
      clear hp hB hd
      go_wp2_with fail
      go_ret
      exact ⟨by rw [← HP.o]; rfl,HB.o⟩
set_option maxHeartbeats 4000000 in
set_option maxRecDepth 100000 in
theorem allC_c {ke k : Nat} (F : FuncId) (hC : ∀ (args : Array Value) (w : World),(callFunc F args).run Tryz.prog w = .ok (.enter F args) w) (p : D→Bool) (l : List D) (ao : Option Addr) (cap : Nat) (w : World) (hp : ∀ (cs : List Value) (d : D) (X : World),d∈l→ZC X ke k cs d→Ro F #[.agg cs.toArray] X (.bool (p d))) (hc : LS 12 (ZC w ke k) w (.slice ao l.length cap) l) :
    Ro 35 #[.slice ao l.length cap,.func (.func F) #[] #[]] w (.bool (l.all p)):=by
  have HC:=hide hc
  have HP0:=hide hp
  have HL:=hc.max
  obtain ⟨fin,hfin⟩:=nm (l.all p)
  rw [← hfin]
  have HF:=hide hfin
  obtain ⟨nn,hnn⟩:=nm l.length
  rw [← hnn] at HL ⊢
  have HN:=hide hnn
  clear hc hp hfin hnn
  go_enter Tryz.func35,Tryz.ntmps35
  go_wp2_with fail
  go_loopw [9] (fun i wr => ∃ (j : Nat),j≤nn∧i = .int .i64 j∧(l.drop j).all p = fin∧Ov w wr) (fun i _ => nn - (intOf i).toNat)
  case atStart => exact ⟨0,Nat.zero_le _,rfl,HF.o.symm,Below.refl _ _⟩
  case round =>
    obtain ⟨j,hj,rfl,hp,hB⟩:=hrel
    by_cases hjl : j < nn
    · have hjl0 : j < l.length:=by have:=HN.o; omega
      obtain ⟨b,off,rfl,cs,hl5,hcs,hr⟩:=HC.o.at hjl0
      rw [List.drop_eq_getElem_cons hjl0,List.all_cons] at hp
      have hmem:=List.getElem_mem hjl0
      obtain ⟨dj,hdj⟩:=nm l[j]
      rw [← hdj] at hp hr hmem
      obtain ⟨qq,hqq⟩:=nm (p dj)
      rw [← hqq] at hp
      have KC : Hx (∀ X,Ov wr X→Ro F #[.agg cs.toArray] X (.bool qq)):=fun X hX => by rw [hqq]; exact HP0.o cs dj X hmem ((hr.over hB).over hX)
      obtain ⟨c0,c1,c2,c3,c4,c5,c6,c7,c8a,c8n,c8c,c9a,c9n,c9c,c10a,c10n,c10c,c11a,c11n,c11c,rfl⟩:=hr.cells
      have d0 : wr.cell? ⟨b,off + j * 12,none⟩ = _:=ce1 hB (hcs 0 _ rfl)
      have d1:=ce1 hB (hcs 1 _ rfl)
      have d2:=ce1 hB (hcs 2 _ rfl)
      have d3:=ce1 hB (hcs 3 _ rfl)
      have d4:=ce1 hB (hcs 4 _ rfl)
      have d5:=ce1 hB (hcs 5 _ rfl)
      have d6:=ce1 hB (hcs 6 _ rfl)
      have d7:=ce1 hB (hcs 7 _ rfl)
      have d8:=ce1 hB (hcs 8 _ rfl)
      have d9:=ce1 hB (hcs 9 _ rfl)
      have d10:=ce1 hB (hcs 10 _ rfl)
      have d11:=ce1 hB (hcs 11 _ rfl)
      have HP:=hide hp
      have HB:=hide hB
      have hji : (j : Int) < (nn : Int):=by omega
      clear hcs hl5 hr hp hB hjl0 hqq hdj hmem
      go_wp2_with fail
      refine (KC.o _ (bA _ _)).mono ?_
      rintro e w1 ⟨rfl,hb1⟩
      have HB1 : Hx (Ov w w1):=over_trans HB.o (over_trans (bA _ _) hb1)
      clear hb1 d0 d1 d2 d3 d4 d5 d6 d7 d8 d9 d10 d11 KC
      cases qq with
      | true =>
        have hp:=HP.o
        rw [Bool.true_and] at hp
        replace HP:=hide hp
        clear hp
        go_wp2_with fail
        exact ⟨⟨j + 1,by omega,by go_num,HP.o,HB1.o⟩,by simp [intOf]; omega⟩
      | false =>
        have hp:=HP.o
        rw [Bool.false_and] at hp
        replace HP:=hide hp
        clear hp
        go_wp2_with fail
        go_ret
        exact ⟨by rw [← HP.o]; rfl,HB1.o⟩
    · have hd : l.drop j = []:=List.drop_eq_nil_of_le (by have:=HN.o; omega)
      rw [hd] at hp
      have HP:=hide hp
      have HB:=hide hB
      clear hp hB hd
      go_wp2_with fail
      go_ret
      exact ⟨by rw [← HP.o]; rfl,HB.o⟩
set_option maxHeartbeats 4000000 in
set_option maxRecDepth 100000 in
theorem allP_c  (F : FuncId) (hC : ∀ (args : Array Value) (w : World),(callFunc F args).run Tryz.prog w = .ok (.enter F args) w) (p : D→Bool) (l : List D) (ao : Option Addr) (cap : Nat) (w : World) (hp : ∀ (cs : List Value) (d : D) (X : World),d∈l→ZP X cs d→Ro F #[.agg cs.toArray] X (.bool (p d))) (hc : LS 4 (ZP w) w (.slice ao l.length cap) l) :
    Ro 105 #[.slice ao l.length cap,.func (.func F) #[] #[]] w (.bool (l.all p)):=by
  have HC:=hide hc
  have HP0:=hide hp
  have HL:=hc.max
  obtain ⟨fin,hfin⟩:=nm (l.all p)
  rw [← hfin]
  have HF:=hide hfin
  obtain ⟨nn,hnn⟩:=nm l.length
  rw [← hnn] at HL ⊢
  have HN:=hide hnn
  clear hc hp hfin hnn
  go_enter Tryz.func105,Tryz.ntmps105
  go_wp2_with fail
  go_loopw [9] (fun i wr => ∃ (j : Nat),j≤nn∧i = .int .i64 j∧(l.drop j).all p = fin∧Ov w wr) (fun i _ => nn - (intOf i).toNat)
  case atStart => exact ⟨0,Nat.zero_le _,rfl,HF.o.symm,Below.refl _ _⟩
  case round =>
    obtain ⟨j,hj,rfl,hp,hB⟩:=hrel
    by_cases hjl : j < nn
    · have hjl0 : j < l.length:=by have:=HN.o; omega
      obtain ⟨b,off,rfl,cs,hl5,hcs,hr⟩:=HC.o.at hjl0
      rw [List.drop_eq_getElem_cons hjl0,List.all_cons] at hp
      have hmem:=List.getElem_mem hjl0
      obtain ⟨dj,hdj⟩:=nm l[j]
      rw [← hdj] at hp hr hmem
      obtain ⟨qq,hqq⟩:=nm (p dj)
      rw [← hqq] at hp
      have KC : Hx (∀ X,Ov wr X→Ro F #[.agg cs.toArray] X (.bool qq)):=fun X hX => by rw [hqq]; exact HP0.o cs dj X hmem ((hr.over hB).over hX)
      obtain ⟨c0,c1,c2,c3a,c3n,c3c,rfl⟩:=hr.cells
      have d0 : wr.cell? ⟨b,off + j * 4,none⟩ = _:=ce1 hB (hcs 0 _ rfl)
      have d1:=ce1 hB (hcs 1 _ rfl)
      have d2:=ce1 hB (hcs 2 _ rfl)
      have d3:=ce1 hB (hcs 3 _ rfl)
      have HP:=hide hp
      have HB:=hide hB
      have hji : (j : Int) < (nn : Int):=by omega
      clear hcs hl5 hr hp hB hjl0 hqq hdj hmem
      go_wp2_with fail
      refine (KC.o _ (bA _ _)).mono ?_
      rintro e w1 ⟨rfl,hb1⟩
      have HB1 : Hx (Ov w w1):=over_trans HB.o (over_trans (bA _ _) hb1)
      clear hb1 d0 d1 d2 d3 KC
      cases qq with
      | true =>
        have hp:=HP.o
        rw [Bool.true_and] at hp
        replace HP:=hide hp
        clear hp
        go_wp2_with fail
        exact ⟨⟨j + 1,by omega,by go_num,HP.o,HB1.o⟩,by simp [intOf]; omega⟩
      | false =>
        have hp:=HP.o
        rw [Bool.false_and] at hp
        replace HP:=hide hp
        clear hp
        go_wp2_with fail
        go_ret
        exact ⟨by rw [← HP.o]; rfl,HB1.o⟩
    · have hd : l.drop j = []:=List.drop_eq_nil_of_le (by have:=HN.o; omega)
      rw [hd] at hp
      have HP:=hide hp
      have HB:=hide hB
      clear hp hB hd
      go_wp2_with fail
      go_ret
      exact ⟨by rw [← HP.o]; rfl,HB.o⟩
set_option maxHeartbeats 4000000 in
set_option maxRecDepth 100000 in
theorem allD_c {ke k : Nat} (F : FuncId) (hC : ∀ (args : Array Value) (w : World),(callFunc F args).run Tryz.prog w = .ok (.enter F args) w) (p : D→Bool) (l : List D) (ao : Option Addr) (cap : Nat) (w : World) (hp : ∀ (cs : List Value) (d : D) (X : World),d∈l→ZD X ke k cs d→Ro F #[.agg cs.toArray] X (.bool (p d))) (hc : LS 13 (ZD w ke k) w (.slice ao l.length cap) l) :
    Ro 33 #[.slice ao l.length cap,.func (.func F) #[] #[]] w (.bool (l.all p)):=by
  have HC:=hide hc
  have HP0:=hide hp
  have HL:=hc.max
  obtain ⟨fin,hfin⟩:=nm (l.all p)
  rw [← hfin]
  have HF:=hide hfin
  obtain ⟨nn,hnn⟩:=nm l.length
  rw [← hnn] at HL ⊢
  have HN:=hide hnn
  clear hc hp hfin hnn
  go_enter Tryz.func33,Tryz.ntmps33
  go_wp2_with fail
  go_loopw [9] (fun i wr => ∃ (j : Nat),j≤nn∧i = .int .i64 j∧(l.drop j).all p = fin∧Ov w wr) (fun i _ => nn - (intOf i).toNat)
  case atStart => exact ⟨0,Nat.zero_le _,rfl,HF.o.symm,Below.refl _ _⟩
  case round =>
    obtain ⟨j,hj,rfl,hp,hB⟩:=hrel
    by_cases hjl : j < nn
    · have hjl0 : j < l.length:=by have:=HN.o; omega
      obtain ⟨b,off,rfl,cs,hl5,hcs,hr⟩:=HC.o.at hjl0
      rw [List.drop_eq_getElem_cons hjl0,List.all_cons] at hp
      have hmem:=List.getElem_mem hjl0
      obtain ⟨dj,hdj⟩:=nm l[j]
      rw [← hdj] at hp hr hmem
      obtain ⟨qq,hqq⟩:=nm (p dj)
      rw [← hqq] at hp
      have KC : Hx (∀ X,Ov wr X→Ro F #[.agg cs.toArray] X (.bool qq)):=fun X hX => by rw [hqq]; exact HP0.o cs dj X hmem ((hr.over hB).over hX)
      obtain ⟨c0,c1,c2,c3,c4,c5a,c5n,c5c,c6a,c6n,c6c,c7a,c7n,c7c,c8,c9,c10,c11,c12a,c12n,c12c,rfl⟩:=hr.cells
      have d0 : wr.cell? ⟨b,off + j * 13,none⟩ = _:=ce1 hB (hcs 0 _ rfl)
      have d1:=ce1 hB (hcs 1 _ rfl)
      have d2:=ce1 hB (hcs 2 _ rfl)
      have d3:=ce1 hB (hcs 3 _ rfl)
      have d4:=ce1 hB (hcs 4 _ rfl)
      have d5:=ce1 hB (hcs 5 _ rfl)
      have d6:=ce1 hB (hcs 6 _ rfl)
      have d7:=ce1 hB (hcs 7 _ rfl)
      have d8:=ce1 hB (hcs 8 _ rfl)
      have d9:=ce1 hB (hcs 9 _ rfl)
      have d10:=ce1 hB (hcs 10 _ rfl)
      have d11:=ce1 hB (hcs 11 _ rfl)
      have d12:=ce1 hB (hcs 12 _ rfl)
      have HP:=hide hp
      have HB:=hide hB
      have hji : (j : Int) < (nn : Int):=by omega
      clear hcs hl5 hr hp hB hjl0 hqq hdj hmem
      go_wp2_with fail
      refine (KC.o _ (bA _ _)).mono ?_
      rintro e w1 ⟨rfl,hb1⟩
      have HB1 : Hx (Ov w w1):=over_trans HB.o (over_trans (bA _ _) hb1)
      clear hb1 d0 d1 d2 d3 d4 d5 d6 d7 d8 d9 d10 d11 d12 KC
      cases qq with
      | true =>
        have hp:=HP.o
        rw [Bool.true_and] at hp
        replace HP:=hide hp
        clear hp
        go_wp2_with fail
        exact ⟨⟨j + 1,by omega,by go_num,HP.o,HB1.o⟩,by simp [intOf]; omega⟩
      | false =>
        have hp:=HP.o
        rw [Bool.false_and] at hp
        replace HP:=hide hp
        clear hp
        go_wp2_with fail
        go_ret
        exact ⟨by rw [← HP.o]; rfl,HB1.o⟩
    · have hd : l.drop j = []:=List.drop_eq_nil_of_le (by have:=HN.o; omega)
      rw [hd] at hp
      have HP:=hide hp
      have HB:=hide hB
      clear hp hB hd
      go_wp2_with fail
      go_ret
      exact ⟨by rw [← HP.o]; rfl,HB.o⟩
set_option maxHeartbeats 4000000 in
set_option maxRecDepth 100000 in
theorem allN_c  (F : FuncId) (hC : ∀ (args : Array Value) (w : World),(callFunc F args).run Tryz.prog w = .ok (.enter F args) w) (p : ByteArray→Bool) (l : List ByteArray) (ao : Option Addr) (cap : Nat) (w : World) (hp : ∀ (x : ByteArray) (X : World),x.size≤maxLen→Ro F #[.string x] X (.bool (p x))) (hc : LS 1 ZN w (.slice ao l.length cap) l) :
    Ro 110 #[.slice ao l.length cap,.func (.func F) #[] #[]] w (.bool (l.all p)):=by
  have HC:=hide hc
  have HP0:=hide hp
  have HL:=hc.max
  obtain ⟨fin,hfin⟩:=nm (l.all p)
  rw [← hfin]
  have HF:=hide hfin
  obtain ⟨nn,hnn⟩:=nm l.length
  rw [← hnn] at HL ⊢
  have HN:=hide hnn
  clear hc hp hfin hnn
  go_enter Tryz.func110,Tryz.ntmps110
  go_wp2_with fail
  go_loopw [9] (fun i wr => ∃ (j : Nat),j≤nn∧i = .int .i64 j∧(l.drop j).all p = fin∧Ov w wr) (fun i _ => nn - (intOf i).toNat)
  case atStart => exact ⟨0,Nat.zero_le _,rfl,HF.o.symm,Below.refl _ _⟩
  case round =>
    obtain ⟨j,hj,rfl,hp,hB⟩:=hrel
    by_cases hjl : j < nn
    · have hjl0 : j < l.length:=by have:=HN.o; omega
      obtain ⟨b,off,rfl,cs,hl5,hcs,hr⟩:=HC.o.at hjl0
      rw [List.drop_eq_getElem_cons hjl0,List.all_cons] at hp
      have hmem:=List.getElem_mem hjl0
      obtain ⟨dj,hdj⟩:=nm l[j]
      rw [← hdj] at hp hr hmem
      obtain ⟨qq,hqq⟩:=nm (p dj)
      rw [← hqq] at hp
      have KC : Hx (∀ X,Ov wr X→Ro F #[.string dj] X (.bool qq)):=fun X hX => by rw [hqq]; exact HP0.o dj X hr.2
      rw [hr.1] at hcs
      have d0 : wr.cell? ⟨b,off + j,none⟩ = some (.string dj):=ce1 hB (by have:=hcs 0 _ rfl; simpa using this)
      have HP:=hide hp
      have HB:=hide hB
      have hji : (j : Int) < (nn : Int):=by omega
      clear hcs hl5 hr hp hB hjl0 hqq hdj hmem
      go_wp2_with fail
      refine (KC.o _ (Below.refl _ _)).mono ?_
      rintro e w1 ⟨rfl,hb1⟩
      have HB1 : Hx (Ov w w1):=over_trans HB.o hb1
      clear hb1 d0 KC
      cases qq with
      | true =>
        have hp:=HP.o
        rw [Bool.true_and] at hp
        replace HP:=hide hp
        clear hp
        go_wp2_with fail
        exact ⟨⟨j + 1,by omega,by go_num,HP.o,HB1.o⟩,by simp [intOf]; omega⟩
      | false =>
        have hp:=HP.o
        rw [Bool.false_and] at hp
        replace HP:=hide hp
        clear hp
        go_wp2_with fail
        go_ret
        exact ⟨by rw [← HP.o]; rfl,HB1.o⟩
    · have hd : l.drop j = []:=List.drop_eq_nil_of_le (by have:=HN.o; omega)
      rw [hd] at hp
      have HP:=hide hp
      have HB:=hide hB
      clear hp hB hd
      go_wp2_with fail
      go_ret
      exact ⟨by rw [← HP.o]; rfl,HB.o⟩
theorem ba_toArray (x : ByteArray) : (⟨x.data.toList.toArray⟩ : ByteArray) = x:=by simp
theorem join1 (x : ByteArray) : joinErr [⟨1,0,x⟩] = if isAlone ⟨1,0,x⟩ = true then 0 else 1:=by
  unfold joinErr
  by_cases h : isAlone ⟨1,0,x⟩ = true
  · have hs : x.size≤6000:=isAlone_size h
    have : sizes [⟨1,0,x⟩]≤6001:=by simp [sizes]; omega
    simp [h,this]
  · simp [h]
set_option maxHeartbeats 4000000 in
set_option maxRecDepth 100000 in
theorem isNameT_c (x : ByteArray) (w : World) (hx : x.size≤maxLen) : Ro 65 #[.string x] w (.bool (nmS x.data.toList)):=by
  obtain ⟨fin,hfin⟩:=nm (nmS x.data.toList)
  rw [← hfin]
  unfold nmS at hfin
  rw [ba_toArray] at hfin
  obtain ⟨p,hp⟩:=nm (isAlone ⟨1,0,x⟩)
  obtain ⟨q,hq⟩:=nm (isWordB x)
  have HF : Hx (fin = (p && !q)):=by show _ = _; rw [hfin,hp,hq]; rfl
  have KW : Hx (∀ X,Ov w X→Ro 108 #[.string x] X (.bool q)):=fun X _ => by rw [hq]; exact (isWord_any x X).mono fun e w' ⟨h1,h2⟩ => ⟨h1,h2 ▸ Below.refl _ _⟩
  obtain ⟨V,hV⟩:=nm (w.alloc (.cells #[.int .i64 1,.int .i64 0,.string x] 44))
  obtain ⟨st,hst⟩:=nm (joinStr [⟨1,0,x⟩])
  have KJ : Hx (Calls Tryz.prog 18 #[.slice (some ⟨w.heap.size,0,none⟩) 1 1] V fun e w' => e = .returned (.tuple #[.string st,.int .i64 (if p = true then 0 else 1)])∧Ov V w'):=by
    have h:=Join_any (.slice (some ⟨w.heap.size,0,none⟩) 1 1) [⟨1,0,x⟩] V ⟨_,_,rfl,fun _ => ⟨_,_,rfl,fun j u hu => ?_⟩⟩ (by simp) (fun t ht => by simp at ht; subst ht; exact hx)
    · rw [join1,← hp,← hst] at h
      exact h
    · rw [hV,Nat.zero_add]
      exact al10 w [.int .i64 1,.int .i64 0,.string x] 44 j u hu
  have HBV : Hx (Ov w V):=by show Ov _ _; rw [hV]; exact bA _ _
  clear hfin hp hq hst hx
  go_enter Tryz.func65,Tryz.ntmps65
  go_wp2_with fail
  rw [← hV]
  clear hV
  refine KJ.o.mono ?_
  rintro e w1 ⟨rfl,hb⟩
  have HB1 : Hx (Ov w w1):=over_trans HBV.o hb
  clear hb KJ HBV
  cases p with
  | false =>
    rw [if_neg (by simp)]
    go_wp2_with fail
    go_ret
    exact ⟨by have h:=HF.o; simp at h; rw [h]; rfl,HB1.o⟩
  | true =>
    rw [if_pos rfl]
    go_wp2_with fail
    refine (KW.o _ HB1.o).mono ?_
    rintro e w2 ⟨rfl,hb⟩
    have HB2 : Hx (Ov w w2):=over_trans HB1.o hb
    clear hb KW
    go_wp2_with fail
    go_ret
    exact ⟨by have h:=HF.o; simp at h; rw [h]; rfl,HB2.o⟩
set_option maxHeartbeats 4000000 in
set_option maxRecDepth 100000 in
theorem nameFine_c (x : ByteArray) (m : Bool) (w : World) (hx : x.size≤maxLen) : Ro 66 #[.string x,.bool m] w (.bool (nfS x.data.toList m)):=by
  obtain ⟨fin,hfin⟩:=nm (nfS x.data.toList m)
  rw [← hfin]
  cases m with
  | true =>
    have KN : Hx (Ro 65 #[.string x] w (.bool fin)):=by rw [hfin]; exact isNameT_c x w hx
    clear hfin hx
    go_enter Tryz.func66,Tryz.ntmps66
    go_wp2_with fail
    refine KN.o.mono ?_
    rintro e w1 ⟨rfl,hb⟩
    have HB1:=hide hb
    clear hb KN
    go_wp2_with fail
    go_ret
    exact ⟨rfl,HB1.o⟩
  | false =>
    by_cases h0 : x.data.toList = []
    · obtain rfl:=ba_of_list h0
      have HF:=hide hfin
      clear hfin hx h0
      go_enter Tryz.func66,Tryz.ntmps66
      go_wp2_with fail
      go_ret
      exact ⟨by rw [HF.o]; rfl,Below.refl _ _⟩
    · have hne:=ne_of_list h0
      have HF : Hx (fin = false):=by show _ = _; rw [hfin]; unfold nfS; simpa using h0
      clear hfin hx h0
      go_enter Tryz.func66,Tryz.ntmps66
      go_wp2_with fail
      go_ret
      exact ⟨by rw [HF.o]; rfl,Below.refl _ _⟩
set_option maxHeartbeats 4000000 in
set_option maxRecDepth 100000 in
theorem muchS_c (ke k : Nat) (cs : List Value) (d : D) (w : World) (h : ZC w ke k cs d) : Ro 107 #[.agg cs.toArray] w (.bool (muchS ke d)):=by
  cases k with
  | zero => exact h.elim
  | succ k =>
    obtain ⟨kd,a,x,y,e0,e1,e2,e3,q,q1,q2,e,aA,cA,args,aT,cT,th,aE,cE,el,rfl,rfl,-,-,he,hA,-,-⟩:=h
    obtain ⟨fin,hfin⟩:=nm (muchS ke (stD kd a x y e args th el))
    rw [← hfin]
    unfold muchS at hfin
    simp only [gSs] at hfin
    obtain ⟨ql,hql⟩:=nm (longE ke e)
    obtain ⟨qa,hqa⟩:=nm (args.all fun x => !longE ke x)
    rw [← any_all,← hql,← hqa] at hfin
    have HF:=hide hfin
    have KL : Hx (∀ X,Ov w X→Ro 104 #[.agg #[.int .i64 e0,.int .i64 e1,.int .i64 e2,.string e3,.slice q q1 q2]] X (.bool ql)):=fun X hX => by rw [hql]; exact tooLong_c ke _ e X (he.over hX)
    have KA : Hx (∀ X,Ov w X→Ro 111 #[.slice aA args.length cA,.func (.func 140) #[] #[]] X (.bool qa)):=fun X hX => by rw [hqa]; exact allE_c 140 (fun args w => by simp [go_sem]) (fun x => !longE ke x) args aA cA X (fun cs d X _ h => notLong_c ke cs d X h) (lsE_over hX hA)
    have HLA:=hA.max
    clear hfin hql hqa he hA
    show Ro 107 #[.agg #[.int .i64 kd,.int .i64 a,.string x,.string y,.int .i64 e0,.int .i64 e1,.int .i64 e2,.string e3,.slice q q1 q2,.slice aA args.length cA,.slice aT th.length cT,.slice aE el.length cE]] w _
    go_enter Tryz.func107,Tryz.ntmps107
    by_cases h4 : 4 < args.length
    · have hi : (4 : Int) < (args.length : Int):=by omega
      go_wp2_with fail
      go_ret
      exact ⟨by have h:=HF.o; simp [h4] at h; rw [h]; rfl,bA w (.cells #[.int .i64 kd,.int .i64 a,.string x,.string y,.int .i64 e0,.int .i64 e1,.int .i64 e2,.string e3,.slice q q1 q2,.slice aA args.length cA,.slice aT th.length cT,.slice aE el.length cE] 55)⟩
    · have hi : ¬ (4 : Int) < (args.length : Int):=by omega
      go_wp2_with fail
      refine (KL.o _ (bA w (.cells #[.int .i64 kd,.int .i64 a,.string x,.string y,.int .i64 e0,.int .i64 e1,.int .i64 e2,.string e3,.slice q q1 q2,.slice aA args.length cA,.slice aT th.length cT,.slice aE el.length cE] 55))).mono ?_
      rintro e w1 ⟨rfl,hb⟩
      have HB1 : Hx (Ov w w1):=over_trans (bA w (.cells #[.int .i64 kd,.int .i64 a,.string x,.string y,.int .i64 e0,.int .i64 e1,.int .i64 e2,.string e3,.slice q q1 q2,.slice aA args.length cA,.slice aT th.length cT,.slice aE el.length cE] 55)) hb
      have HR0_1 : Hx (RowAt [.int .i64 kd,.int .i64 a,.string x,.string y,.int .i64 e0,.int .i64 e1,.int .i64 e2,.string e3,.slice q q1 q2,.slice aA args.length cA,.slice aT th.length cT,.slice aE el.length cE] w1 w.heap.size):=RowAt.over (al10 w [.int .i64 kd,.int .i64 a,.string x,.string y,.int .i64 e0,.int .i64 e1,.int .i64 e2,.string e3,.slice q q1 q2,.slice aA args.length cA,.slice aT th.length cT,.slice aE el.length cE] 55) hb
      clear hb  KL
      cases ql with
      | true =>
        obtain ⟨m0x0,m0x1,m0x2,m0x3,m0x4,m0x5,m0x6,m0x7,m0x8,m0x9,m0x10,m0x11⟩:=rc12 HR0_1.o
        go_wp2_with fail
        go_ret
        exact ⟨by have h:=HF.o; simp [h4] at h; rw [h]; rfl,HB1.o⟩
      | false =>
        obtain ⟨m0x0,m0x1,m0x2,m0x3,m0x4,m0x5,m0x6,m0x7,m0x8,m0x9,m0x10,m0x11⟩:=rc12 HR0_1.o
        go_wp2_with fail
        refine (KA.o _ HB1.o).mono ?_
        rintro e w2 ⟨rfl,hb⟩
        have HB2 : Hx (Ov w w2):=over_trans HB1.o hb
        have HR0_2 : Hx (RowAt [.int .i64 kd,.int .i64 a,.string x,.string y,.int .i64 e0,.int .i64 e1,.int .i64 e2,.string e3,.slice q q1 q2,.slice aA args.length cA,.slice aT th.length cT,.slice aE el.length cE] w2 w.heap.size):=HR0_1.o.over hb
        clear hb m0x0 m0x1 m0x2 m0x3 m0x4 m0x5 m0x6 m0x7 m0x8 m0x9 m0x10 m0x11 KA
        obtain ⟨m0x0,m0x1,m0x2,m0x3,m0x4,m0x5,m0x6,m0x7,m0x8,m0x9,m0x10,m0x11⟩:=rc12 HR0_2.o
        go_wp2_with fail
        go_ret
        exact ⟨by have h:=HF.o; simp [h4] at h; rw [h]; rfl,HB2.o⟩
set_option maxHeartbeats 4000000 in
set_option maxRecDepth 100000 in
theorem fewN_c (cs : List Value) (d : D) (w : World) (h : ZP w cs d) : Ro 106 #[.agg cs.toArray] w (.bool (!decide (6 < (gL 3 d).length))):=by
  obtain ⟨a,o,wr,an,cn,ns,rfl,rfl,-,hN⟩:=h
  obtain ⟨fin,hfin⟩:=nm (!decide (6 < (gL 3 (polD a o wr ns)).length))
  rw [← hfin]
  simp only [gPp,List.length_map] at hfin
  have HF:=hide hfin
  have HL:=hN.max
  clear hfin hN
  show Ro 106 #[.agg #[.int .i64 a,.string o,.bool wr,.slice an ns.length cn]] w _
  go_enter Tryz.func106,Tryz.ntmps106
  by_cases h6 : 6 < ns.length
  · have hi : ¬ (ns.length : Int)≤6:=by omega
    go_wp2_with fail
    go_ret
    exact ⟨by have h:=HF.o; simp [h6] at h; rw [h]; (first | rfl | (simp; done) | (simp; assumption) | (simp; omega)),bA w (.cells #[.int .i64 a,.string o,.bool wr,.slice an ns.length cn] 53)⟩
  · have hi : (ns.length : Int)≤6:=by omega
    go_wp2_with fail
    go_ret
    exact ⟨by have h:=HF.o; simp [h6] at h; rw [h]; (first | rfl | (simp; done) | (simp; assumption) | (simp; omega)),bA w (.cells #[.int .i64 a,.string o,.bool wr,.slice an ns.length cn] 53)⟩
set_option maxHeartbeats 4000000 in
set_option maxRecDepth 100000 in
theorem muchD_c (ke kc : Nat) (cs : List Value) (d : D) (w : World) (h : ZD w ke kc cs d) : Ro 63 #[.agg cs.toArray] w (.bool (muchD ke d)):=by
  obtain ⟨kd,a,x,y,gv,aL,cL,lb,aP,cP,ps,aB,cB,body,e0,e1,e2,e3,q,q1,q2,r,rfl,rfl,-,-,hL,hP,-,hR⟩:=h
  obtain ⟨fin,hfin⟩:=nm (muchD ke (deD kd a x y gv lb ps body r))
  rw [← hfin]
  unfold muchD at hfin
  simp only [gDd,List.length_map] at hfin
  obtain ⟨ql,hql⟩:=nm (longE ke r)
  obtain ⟨qa,hqa⟩:=nm (lb.all fun p => !decide (6 < (gL 3 p).length))
  rw [← any_all,← hql,← hqa] at hfin
  have HF:=hide hfin
  have KL : Hx (∀ X,Ov w X→Ro 104 #[.agg #[.int .i64 e0,.int .i64 e1,.int .i64 e2,.string e3,.slice q q1 q2]] X (.bool ql)):=fun X hX => by rw [hql]; exact tooLong_c ke _ r X (hR.over hX)
  have KA : Hx (∀ X,Ov w X→Ro 105 #[.slice aL lb.length cL,.func (.func 106) #[] #[]] X (.bool qa)):=fun X hX => by rw [hqa]; exact allP_c 106 (fun args w => by simp [go_sem]) (fun p => !decide (6 < (gL 3 p).length)) lb aL cL X (fun cs d X _ h => fewN_c cs d X h) (lsP_over hX hL)
  have HLA:=hL.max
  have HLP:=hP.max
  clear hfin hql hqa hL hP hR
  show Ro 63 #[.agg #[.int .i64 kd,.int .i64 a,.string x,.string y,.bool gv,.slice aL lb.length cL,.slice aP ps.length cP,.slice aB body.length cB,.int .i64 e0,.int .i64 e1,.int .i64 e2,.string e3,.slice q q1 q2]] w _
  go_enter Tryz.func63,Tryz.ntmps63
  by_cases h4 : 4 < lb.length
  · have hi : (4 : Int) < (lb.length : Int):=by omega
    go_wp2_with fail
    go_ret
    exact ⟨by have h:=HF.o; simp [h4] at h; rw [h]; rfl,bA w (.cells #[.int .i64 kd,.int .i64 a,.string x,.string y,.bool gv,.slice aL lb.length cL,.slice aP ps.length cP,.slice aB body.length cB,.int .i64 e0,.int .i64 e1,.int .i64 e2,.string e3,.slice q q1 q2] 51)⟩
  · have hi : ¬ (4 : Int) < (lb.length : Int):=by omega
    by_cases h5 : 4 < ps.length
    · have hi2 : (4 : Int) < (ps.length : Int):=by omega
      go_wp2_with fail
      go_ret
      exact ⟨by have h:=HF.o; simp [h4,h5] at h; rw [h]; rfl,bA w (.cells #[.int .i64 kd,.int .i64 a,.string x,.string y,.bool gv,.slice aL lb.length cL,.slice aP ps.length cP,.slice aB body.length cB,.int .i64 e0,.int .i64 e1,.int .i64 e2,.string e3,.slice q q1 q2] 51)⟩
    · have hi2 : ¬ (4 : Int) < (ps.length : Int):=by omega
      go_wp2_with fail
      refine (KL.o _ (bA w (.cells #[.int .i64 kd,.int .i64 a,.string x,.string y,.bool gv,.slice aL lb.length cL,.slice aP ps.length cP,.slice aB body.length cB,.int .i64 e0,.int .i64 e1,.int .i64 e2,.string e3,.slice q q1 q2] 51))).mono ?_
      rintro e w1 ⟨rfl,hb⟩
      have HB1 : Hx (Ov w w1):=over_trans (bA w (.cells #[.int .i64 kd,.int .i64 a,.string x,.string y,.bool gv,.slice aL lb.length cL,.slice aP ps.length cP,.slice aB body.length cB,.int .i64 e0,.int .i64 e1,.int .i64 e2,.string e3,.slice q q1 q2] 51)) hb
      have HR0_1 : Hx (RowAt [.int .i64 kd,.int .i64 a,.string x,.string y,.bool gv,.slice aL lb.length cL,.slice aP ps.length cP,.slice aB body.length cB,.int .i64 e0,.int .i64 e1,.int .i64 e2,.string e3,.slice q q1 q2] w1 w.heap.size):=RowAt.over (al10 w [.int .i64 kd,.int .i64 a,.string x,.string y,.bool gv,.slice aL lb.length cL,.slice aP ps.length cP,.slice aB body.length cB,.int .i64 e0,.int .i64 e1,.int .i64 e2,.string e3,.slice q q1 q2] 51) hb
      clear hb  KL
      cases ql with
      | true =>
        obtain ⟨m0x0,m0x1,m0x2,m0x3,m0x4,m0x5,m0x6,m0x7,m0x8,m0x9,m0x10,m0x11,m0x12⟩:=rc13 HR0_1.o
        go_wp2_with fail
        go_ret
        exact ⟨by have h:=HF.o; simp [h4,h5] at h; rw [h]; rfl,HB1.o⟩
      | false =>
        obtain ⟨m0x0,m0x1,m0x2,m0x3,m0x4,m0x5,m0x6,m0x7,m0x8,m0x9,m0x10,m0x11,m0x12⟩:=rc13 HR0_1.o
        go_wp2_with fail
        refine (KA.o _ HB1.o).mono ?_
        rintro e w2 ⟨rfl,hb⟩
        have HB2 : Hx (Ov w w2):=over_trans HB1.o hb
        have HR0_2 : Hx (RowAt [.int .i64 kd,.int .i64 a,.string x,.string y,.bool gv,.slice aL lb.length cL,.slice aP ps.length cP,.slice aB body.length cB,.int .i64 e0,.int .i64 e1,.int .i64 e2,.string e3,.slice q q1 q2] w2 w.heap.size):=HR0_1.o.over hb
        clear hb m0x0 m0x1 m0x2 m0x3 m0x4 m0x5 m0x6 m0x7 m0x8 m0x9 m0x10 m0x11 m0x12 KA
        obtain ⟨m0x0,m0x1,m0x2,m0x3,m0x4,m0x5,m0x6,m0x7,m0x8,m0x9,m0x10,m0x11,m0x12⟩:=rc13 HR0_2.o
        go_wp2_with fail
        go_ret
        exact ⟨by have h:=HF.o; simp [h4,h5] at h; rw [h]; rfl,HB2.o⟩
set_option maxHeartbeats 4000000 in
set_option maxRecDepth 100000 in
theorem noEx_c (k : Nat) (cs : List Value) (d : D) (w : World) (h : ZE w k cs d) : Ro 71 #[.agg cs.toArray] w (.bool (noEx d)):=by
  cases k with
  | zero => exact h.elim
  | succ k =>
    obtain ⟨kd,a,n,x,ao,c,ds,rfl,rfl,-,hc⟩:=h
    obtain ⟨fin,hfin⟩:=nm (noEx (eD kd a n x ds))
    rw [← hfin]
    unfold noEx at hfin
    simp only [gEe] at hfin
    have HL:=hc.max
    clear hc
    show Ro 71 #[.agg #[.int .i64 kd,.int .i64 a,.int .i64 n,.string x,.slice ao ds.length c]] w _
    by_cases h1 : kd = 0
    · by_cases h2 : n = 0
      · by_cases h3 : x.data.toList = []
        · have hx:=ba_of_list h3
          by_cases h4 : ds = []
          · have HV : Hx (fin = true):=by show _ = _; rw [hfin,h1,h2,h3,h4]; rfl
            clear hfin
            subst h4
            subst h1
            subst h2
            subst hx
            go_enter Tryz.func71,Tryz.ntmps71
            go_wp2_with fail
            go_ret
            exact ⟨by rw [HV.o]; (first | rfl | (simp; done) | (simp; assumption) | (simp; omega)),bA _ _⟩
          · have h5 : 0 < ds.length:=List.length_pos_iff.2 h4
            have hi : ¬ (ds.length : Int) = 0:=by omega
            have HV : Hx (fin = false):=by show _ = _; rw [hfin]; simp [h4]
            clear hfin
            subst h1
            subst h2
            subst hx
            go_enter Tryz.func71,Tryz.ntmps71
            go_wp2_with fail
            go_ret
            exact ⟨by rw [HV.o]; (first | rfl | (simp; done) | (simp; assumption) | (simp; omega)),bA _ _⟩
        · have hne:=ne_of_list h3
          have HV : Hx (fin = false):=by show _ = _; rw [hfin,show x.data.toList.isEmpty = false by simpa using h3]; simp
          clear hfin
          subst h1
          subst h2
          go_enter Tryz.func71,Tryz.ntmps71
          go_wp2_with fail
          go_ret
          exact ⟨by rw [HV.o]; (first | rfl | (simp; done) | (simp; assumption) | (simp; omega)),bA _ _⟩
      · have HV : Hx (fin = false):=by show _ = _; rw [hfin]; simp [h2]
        clear hfin
        subst h1
        go_enter Tryz.func71,Tryz.ntmps71
        go_wp2_with fail
        go_ret
        exact ⟨by rw [HV.o]; (first | rfl | (simp; done) | (simp; assumption) | (simp; omega)),bA _ _⟩
    · have HV : Hx (fin = false):=by show _ = _; rw [hfin]; simp [h1]
      clear hfin
      go_enter Tryz.func71,Tryz.ntmps71
      go_wp2_with fail
      go_ret
      exact ⟨by rw [HV.o]; (first | rfl | (simp; done) | (simp; assumption) | (simp; omega)),bA _ _⟩
end Go.Proofs.YtipngnjffjajpaaGreatDoor.Tx
