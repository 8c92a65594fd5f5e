/- Package tree's Check: the parts of expressions. -/
import Derived.Test.YtipngnjffjajpaaGreatDoorG07
namespace Go.Proofs.YtipngnjffjajpaaGreatDoor.Tx
open Go.RowKit
set_option linter.unusedVariables false
/-- a call that only reads. -/
abbrev Ro (F : FuncId) (args : Array Value) (w : World) (r : Value) : Prop:=Calls Tryz.prog F args w fun e w' => e = .returned r∧Ov w w'
theorem LS.at {α : Type} {size : Nat} {R : List Value→α→Prop} {w : World} {ao : Option Addr} {n c : Nat} {l : List α} (h : LS size R w (.slice ao n c) l) {j : Nat} (hj : j < l.length) :
    ∃ b off,ao = some ⟨b,off,none⟩∧∃ cs : List Value,cs.length = size∧(∀ (i : Nat) (u : Value),cs[i]? = some u→w.cell? ⟨b,off + j * size + i,none⟩ = some u)∧R cs l[j]:=by
  obtain ⟨-,ao',cap,e,h3⟩:=h
  injection e with e1 e2 e3
  subst e1
  obtain ⟨b,off,hb,he⟩:=h3 (by rintro rfl; simp at hj)
  obtain ⟨cs,q1,q2,q3⟩:=he j l[j] (List.getElem?_eq_getElem hj)
  exact ⟨b,off,hb,cs,q1,q2,q3⟩
theorem LS.max {α : Type} {size : Nat} {R : List Value→α→Prop} {w : World} {v : Value} {l : List α} (h : LS size R w v l) : l.length≤9223372036854775807:=h.1
theorem foldl_drop {α β : Type} {F : β→α→β} {l : List α} {j : Nat} (hj : j < l.length) (s : β) : (l.drop j).foldl F s = (l.drop (j + 1)).foldl F (F s l[j]):=by
  rw [List.drop_eq_getElem_cons hj,List.foldl_cons]
theorem plF_done (k : Nat) : ∀ (l : List D) (t : Int),t < 0→l.foldl (fun l a => if l < 0 then l else plK k a l) t = t
  | [],t,h => rfl
  | a :: l,t,h => by rw [List.foldl_cons,if_pos h]; exact plF_done k l t h
set_option maxHeartbeats 2000000 in
set_option maxRecDepth 100000 in
theorem partsLeft_c : ∀ (k : Nat) (cs : List Value) (d : D) (w : World) (L : Int),ZE w k cs d→0≤L→L≤15→Ro 139 #[.agg cs.toArray,.int .i64 L] w (.int .i64 (plK k d L)):=by
  intro k
  induction k with
  | zero => intro cs d w L h; exact h.elim
  | succ k ih =>
    intro cs d w L h L0 L1
    obtain ⟨kd,a,n,x,ao,c,ds,rfl,rfl,-,hc⟩:=h
    have HC:=hide hc
    have IH:=hide ih
    have HL:=hc.max
    obtain ⟨fin,hfin⟩:=nm (ds.foldl (fun l a => if l < 0 then l else plK k a l) (L - 1))
    have hspec : plK (k + 1) (eD kd a n x ds) L = fin:=by rw [hfin]; rfl
    rw [hspec]
    have HF:=hide hfin
    obtain ⟨nn,hnn⟩:=nm ds.length
    rw [← hnn] at HL ⊢
    have HN:=hide hnn
    have hbel:=bA w (.cells #[.int .i64 kd,.int .i64 a,.int .i64 n,.string x,.slice ao nn c] 49)
    clear hc ih hspec hfin hnn
    show Ro 139 #[.agg #[.int .i64 kd,.int .i64 a,.int .i64 n,.string x,.slice ao nn c],.int .i64 L] w _
    go_enter Tryz.func139,Tryz.ntmps139
    go_wp2_with fail
    go_loopw [1,12] (fun c i wr => ∃ (j : Nat) (t : Int),j≤nn∧i = .int .i64 j∧c = .int .i64 t∧-1≤t∧t≤15∧(ds.drop j).foldl (fun l a => if l < 0 then l else plK k a l) t = fin∧Ov w wr) (fun _ i _ => nn - (intOf i).toNat)
    case atStart => exact ⟨0,L - 1,Nat.zero_le _,rfl,by go_num,by omega,by omega,HF.o.symm,hbel⟩
    case round =>
      clear hbel
      obtain ⟨j,t,hj,rfl,rfl,t1,t2,hp,hB⟩:=hrel
      by_cases hjl : j < nn
      · have hjl0 : j < ds.length:=by have:=HN.o; omega
        obtain ⟨b,off,rfl,cs,hl5,hcs,hr⟩:=HC.o.at hjl0
        rw [foldl_drop hjl0] at hp
        by_cases ht0 : t < 0
        · rw [if_pos ht0,plF_done k _ _ ht0] at hp
          obtain ⟨k0,k1,k2,k3,q,q1,q2,rfl⟩:=hr.cells
          have c0 : wr.cell? ⟨b,off + j * 5,none⟩ = _:=ce1 hB (hcs 0 _ rfl)
          have c1:=ce1 hB (hcs 1 _ rfl)
          have c2:=ce1 hB (hcs 2 _ rfl)
          have c3:=ce1 hB (hcs 3 _ rfl)
          have c4:=ce1 hB (hcs 4 _ rfl)
          have HP:=hide hp
          have HB:=hide hB
          clear hcs hl5 hr hp hB hjl0
          have hji : (j : Int) < (nn : Int):=by omega
          go_wp2_with fail
          go_ret
          exact ⟨by rw [HP.o]; rfl,over_trans HB.o (bA _ _)⟩
        · rw [if_neg ht0] at hp
          have hb:=plK_bd k ds[j] t (by omega)
          obtain ⟨dj,hdj⟩:=nm ds[j]
          rw [← hdj] at hp hb hr
          obtain ⟨r,hre⟩:=nm (plK k dj t)
          have KC : Hx (∀ X,Ov wr X→Ro 139 #[.agg cs.toArray,.int .i64 t] X (.int .i64 r)):=fun X hX => by rw [hre]; exact IH.o cs dj X t ((hr.over hB).over hX) (by omega) (by omega)
          obtain ⟨k0,k1,k2,k3,q,q1,q2,rfl⟩:=hr.cells
          have c0 : wr.cell? ⟨b,off + j * 5,none⟩ = _:=ce1 hB (hcs 0 _ rfl)
          have c1:=ce1 hB (hcs 1 _ rfl)
          have c2:=ce1 hB (hcs 2 _ rfl)
          have c3:=ce1 hB (hcs 3 _ rfl)
          have c4:=ce1 hB (hcs 4 _ rfl)
          rw [← hre] at hp hb
          have HP:=hide hp
          have HB:=hide hB
          have hji : (j : Int) < (nn : Int):=by omega
          clear hcs hl5 hr hp hB hjl0 hre hdj
          go_wp2_with fail
          refine (KC.o _ (bA _ _)).mono ?_
          rintro e w1 ⟨rfl,hb1⟩
          have HB1 : Hx (Ov w w1):=over_trans HB.o (over_trans (bA _ _) hb1)
          clear hb1 c0 c1 c2 c3 c4 KC
          go_wp2_with fail
          exact ⟨⟨j + 1,r,by omega,by go_num,rfl,by omega,by omega,HP.o,HB1.o⟩,by simp [intOf]; omega⟩
      · have hd : ds.drop j = []:=List.drop_eq_nil_of_le (by have:=HN.o; omega)
        rw [hd] at hp
        have HP:=hide hp
        have HB:=hide hB
        clear hp hB hd
        go_wp2_with fail
        go_ret
        exact ⟨by rw [← HP.o]; rfl,HB.o⟩
theorem any_all {α : Type} (p : α→Bool) (l : List α) : (!l.all fun x => !p x) = l.any p:=by
  induction l with
  | nil => rfl
  | cons a l ih => rw [List.all_cons,List.any_cons,← ih]; cases p a <;> simp
set_option maxHeartbeats 2000000 in
theorem tooLong_c (k : Nat) (cs : List Value) (d : D) (w : World) (h : ZE w k cs d) : Ro 104 #[.agg cs.toArray] w (.bool (longE k d)):=by
  obtain ⟨r,hr⟩:=nm (plK k d 15)
  have KC : Hx (∀ X,Ov w X→Ro 139 #[.agg cs.toArray,.int .i64 15] X (.int .i64 r)):=fun X hX => by rw [hr]; exact partsLeft_c k cs d X 15 (h.over hX) (by omega) (by omega)
  obtain ⟨k0,k1,k2,k3,q,q1,q2,rfl⟩:=h.cells
  unfold longE
  rw [← hr]
  clear h hr
  go_enter Tryz.func104,Tryz.ntmps104
  go_wp2_with fail
  refine (KC.o _ (bA _ _)).mono ?_
  rintro e w1 ⟨rfl,hb1⟩
  have HB1 : Hx (Ov w w1):=over_trans (bA _ _) hb1
  clear hb1 KC
  go_wp2_with fail
  go_ret
  exact ⟨rfl,HB1.o⟩
set_option maxHeartbeats 2000000 in
theorem notLong_c (k : Nat) (cs : List Value) (d : D) (w : World) (h : ZE w k cs d) : Ro 140 #[.agg cs.toArray] w (.bool (!longE k d)):=by
  obtain ⟨r,hr⟩:=nm (longE k d)
  have KC : Hx (∀ X,Ov w X→Ro 104 #[.agg cs.toArray] X (.bool r)):=fun X hX => by rw [hr]; exact tooLong_c k cs d X (h.over hX)
  obtain ⟨k0,k1,k2,k3,q,q1,q2,rfl⟩:=h.cells
  rw [← hr]
  clear h hr
  go_enter Tryz.func140,Tryz.ntmps140
  go_wp2_with fail
  refine (KC.o _ (bA _ _)).mono ?_
  rintro e w1 ⟨rfl,hb1⟩
  have HB1 : Hx (Ov w w1):=over_trans (bA _ _) hb1
  clear hb1 KC
  go_wp2_with fail
  go_ret
  exact ⟨rfl,HB1.o⟩
end Go.Proofs.YtipngnjffjajpaaGreatDoor.Tx
