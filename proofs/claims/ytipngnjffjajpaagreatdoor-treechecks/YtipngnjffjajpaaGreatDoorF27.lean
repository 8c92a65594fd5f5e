/- The document's answer: parts of expressions, names, nothing, expressions. -/
import Derived.Test.YtipngnjffjajpaaGreatDoorF23
namespace Go.Proofs.YtipngnjffjajpaaGreatDoor.Tx
open Go.RowKit
set_option linter.unusedVariables false
abbrev RowAt' (cs : List Value) (w : World) (b off : Nat) : Prop:=∀ (j : Nat) (u : Value),cs[j]? = some u→w.cell? ⟨b,off + j,none⟩ = some u
theorem RowAt'.ten {a0 a1 a2 a3 a4 a5 a6 a7 a8 a9 : Value} {w w' : World} {b off : Nat} (h : RowAt' [a0,a1,a2,a3,a4,a5,a6,a7,a8,a9] w b off) (hb : Ov w w') : w'.cell? ⟨b,off,none⟩ = some a0∧w'.cell? ⟨b,off + 1,none⟩ = some a1∧w'.cell? ⟨b,off + 2,none⟩ = some a2∧w'.cell? ⟨b,off + 3,none⟩ = some a3∧w'.cell? ⟨b,off + 4,none⟩ = some a4∧w'.cell? ⟨b,off + 5,none⟩ = some a5∧w'.cell? ⟨b,off + 5 + 1,none⟩ = some a6∧w'.cell? ⟨b,off + 5 + 2,none⟩ = some a7∧w'.cell? ⟨b,off + 5 + 3,none⟩ = some a8∧w'.cell? ⟨b,off + 5 + 4,none⟩ = some a9 :=
  ⟨ce1 hb (h 0 _ rfl),ce1 hb (h 1 _ rfl),ce1 hb (h 2 _ rfl),ce1 hb (h 3 _ rfl),ce1 hb (h 4 _ rfl),ce1 hb (h 5 _ rfl),ce1 hb (h 6 _ rfl),ce1 hb (h 7 _ rfl),ce1 hb (h 8 _ rfl),ce1 hb (h 9 _ rfl)⟩
theorem poF_done (k : Nat) (en : Int) : ∀ (l : List D) (t : Int),en < t→l.foldl (fun n a => if n≤en then n + poK k a (en - n) else n) t = t
  | [],t,h => rfl
  | a :: l,t,h => by rw [List.foldl_cons,if_neg (by omega)]; exact poF_done k en l t h
set_option maxHeartbeats 4000000 in
set_option maxRecDepth 100000 in
theorem partsOf_c : ∀ (k : Nat) (cs : List Value) (d : D) (w : World) (en : Int),ZE w k cs d→0≤en→en≤15→Ro 75 #[.agg cs.toArray,.int .i64 en] w (.int .i64 (poK k d en)):=by
  intro k
  induction k with
  | zero => intro cs d w L h; exact h.elim
  | succ k ih =>
    intro cs d w en h L0 L1
    obtain ⟨kd,a,n,x,ao,c,ds,rfl,rfl,-,hc⟩:=h
    have HC:=hide hc
    have IH:=hide ih
    have HL:=hc.max
    obtain ⟨fin,hfin⟩:=nm (ds.foldl (fun n a => if n≤en then n + poK k a (en - n) else n) 1)
    have hspec : poK (k + 1) (eD kd a n x ds) en = fin:=by rw [hfin]; rfl
    rw [hspec]
    have HF:=hide hfin
    obtain ⟨nn,hnn⟩:=nm ds.length
    rw [← hnn] at HL ⊢
    have HN:=hide hnn
    obtain ⟨V,hV⟩:=nm (w.alloc (.cells #[.int .i64 kd,.int .i64 a,.int .i64 n,.string x,.slice ao nn c] 49))
    have HBV : Hx (Ov w V):=by show Ov _ _; rw [hV]; exact bA _ _
    have HRV : Hx (RowAt [.int .i64 kd,.int .i64 a,.int .i64 n,.string x,.slice ao nn c] V w.heap.size):=by show RowAt _ _ _; rw [hV]; exact al10 w [.int .i64 kd,.int .i64 a,.int .i64 n,.string x,.slice ao nn c] 49
    clear hc ih hspec hfin hnn
    show Ro 75 #[.agg #[.int .i64 kd,.int .i64 a,.int .i64 n,.string x,.slice ao nn c],.int .i64 en] w _
    go_enter Tryz.func75,Tryz.ntmps75
    go_wp2_with fail
    rw [← hV]
    clear hV
    go_loopw [5,6] (fun c i wr => ∃ (j : Nat) (t : Int),j≤nn∧i = .int .i64 j∧c = .int .i64 t∧0≤t∧t≤16∧(ds.drop j).foldl (fun n a => if n≤en then n + poK k a (en - n) else n) t = fin∧Ov V wr) (fun _ i _ => nn - (intOf i).toNat)
    case atStart => exact ⟨0,1,Nat.zero_le _,rfl,rfl,by omega,by omega,HF.o.symm,Below.refl _ _⟩
    case round =>
      obtain ⟨j,t,hj,rfl,rfl,t1,t2,hp,hB⟩:=hrel
      obtain ⟨m0,m1,m2,m3,m4⟩:=rc5 (HRV.o.over hB)
      by_cases hjl : j < nn
      · have hjl0 : j < ds.length:=by have:=HN.o; omega
        have hji : (j : Int) < (nn : Int):=by omega
        by_cases ht0 : t≤en
        · obtain ⟨b,off,rfl,cs,hl5,hcs,hr⟩:=HC.o.at hjl0
          rw [foldl_drop hjl0,if_pos ht0] at hp
          generalize ds[j] = dj at hp hr
          have hB0 : Ov w wr:=over_trans HBV.o hB
          have hb:=poK_bd k dj (en - t) (by omega)
          obtain ⟨r,hre⟩:=nm (poK k dj (en - t))
          have KC : Hx (∀ X,Ov wr X→Ro 75 #[.agg cs.toArray,.int .i64 (en - t)] X (.int .i64 r)):=fun X hX => by rw [hre]; exact IH.o cs dj X (en - t) ((hr.over hB0).over hX) (by omega) (by omega)
          obtain ⟨k0,k1,k2,k3,q,q1,q2,rfl⟩:=hr.cells
          have d0 : wr.cell? ⟨b,off + j * 5,none⟩ = _:=ce1 hB0 (hcs 0 _ rfl)
          have d1:=ce1 hB0 (hcs 1 _ rfl)
          have d2:=ce1 hB0 (hcs 2 _ rfl)
          have d3:=ce1 hB0 (hcs 3 _ rfl)
          have d4:=ce1 hB0 (hcs 4 _ rfl)
          rw [← hre] at hp hb
          have HP:=hide hp
          have HB:=hide hB
          clear hcs hl5 hr hp hB hjl0 hre hB0
          go_wp2_with fail
          refine (KC.o _ (Below.refl _ _)).mono ?_
          rintro e w1 ⟨rfl,hb1⟩
          have HB1 : Hx (Ov V w1):=over_trans HB.o hb1
          clear hb1 d0 d1 d2 d3 d4 m0 m1 m2 m3 m4 KC
          go_wp2_with fail
          exact ⟨⟨j + 1,t + r,by omega,by go_num,by go_num,by omega,by omega,HP.o,HB1.o⟩,by simp [intOf]; omega⟩
        · rw [poF_done k en _ _ (by omega)] at hp
          have HP:=hide hp
          have HB:=hide hB
          clear hp hB hjl0
          go_wp2_with fail
          go_ret
          exact ⟨by rw [← HP.o]; rfl,over_trans HBV.o HB.o⟩
      · have hd : ds.drop j = []:=List.drop_eq_nil_of_le (by have:=HN.o; omega)
        rw [hd] at hp
        have HP:=hide hp
        have HB:=hide hB
        have hji : ¬ (j : Int) < (nn : Int):=by omega
        clear hp hB hd
        go_wp2_with fail
        go_ret
        exact ⟨by rw [← HP.o]; rfl,over_trans HBV.o HB.o⟩
set_option maxHeartbeats 4000000 in
set_option maxRecDepth 100000 in
theorem between_c (n lo hi : Int) (w : World) : Ro 76 #[.int .i64 n,.int .i64 lo,.int .i64 hi] w (.bool (decide (lo≤n) && decide (n≤hi))):=by
  obtain ⟨fin,hfin⟩:=nm (decide (lo≤n) && decide (n≤hi))
  rw [← hfin]
  by_cases h1 : lo≤n
  · have HV : Hx (fin = decide (n≤hi)):=by show _ = _; rw [hfin]; simp [h1]
    clear hfin
    go_enter Tryz.func76,Tryz.ntmps76
    go_wp2_with fail
    go_ret
    exact ⟨by rw [HV.o]; (first | rfl | (simp; done) | (simp; assumption) | (simp; omega)),Below.refl _ _⟩
  · have HV : Hx (fin = false):=by show _ = _; rw [hfin]; simp [h1]
    clear hfin
    go_enter Tryz.func76,Tryz.ntmps76
    go_wp2_with fail
    go_ret
    exact ⟨by rw [HV.o]; (first | rfl | (simp; done) | (simp; assumption) | (simp; omega)),Below.refl _ _⟩
def wordsB : List ByteArray:=[⟨#[97,99,116,111,114]⟩,⟨#[103,114,97,110,116]⟩,⟨#[115,112,101,97,107]⟩,⟨#[105,110]⟩,⟨#[111,117,116]⟩,⟨#[118,97,114]⟩,⟨#[102,117,110,99]⟩,⟨#[109,97,105,110]⟩,⟨#[103,101,116]⟩,⟨#[112,117,116]⟩,⟨#[114,101,118,101,97,108]⟩,⟨#[116,114,117,115,116]⟩,⟨#[105,102]⟩,⟨#[101,108,115,101]⟩,⟨#[119,104,105,108,101]⟩,⟨#[114,101,116,117,114,110]⟩]
theorem words_eq : wordsB.map (fun x => x.data.toList) = wordsL:=by decide
theorem isWord_any2 (x : ByteArray) : isWordB x = wordsB.any (fun y => y.toList == x.toList):=by
  have e : ∀ y : ByteArray,(y.toList == x.toList) = (x.data.toList == y.data.toList):=fun y => by
    rw [ByteArray.toList_eq,ByteArray.toList_eq]
    rw [Bool.eq_iff_iff]
    simp only [beq_iff_eq]
    exact eq_comm
  unfold isWordB
  rw [← words_eq,List.contains_eq_any_beq,List.any_map]
  congr 1
  funext y
  exact (e y).symm
set_option maxHeartbeats 4000000 in
set_option maxRecDepth 100000 in
theorem isWordR_c (x : ByteArray) (w : World) : Ro 113 #[.string x] w (.bool (isWordB x)):=by
  rw [isWord_any2]
  obtain ⟨fin,hfin⟩:=nm (wordsB.any (fun y => y.toList == x.toList))
  rw [← hfin]
  have HF:=hide hfin
  clear hfin
  obtain ⟨V,hV⟩:=nm (w.alloc (.cells #[.string ⟨#[97,99,116,111,114]⟩,.string ⟨#[103,114,97,110,116]⟩,.string ⟨#[115,112,101,97,107]⟩,.string ⟨#[105,110]⟩,.string ⟨#[111,117,116]⟩,.string ⟨#[118,97,114]⟩,.string ⟨#[102,117,110,99]⟩,.string ⟨#[109,97,105,110]⟩,.string ⟨#[103,101,116]⟩,.string ⟨#[112,117,116]⟩,.string ⟨#[114,101,118,101,97,108]⟩,.string ⟨#[116,114,117,115,116]⟩,.string ⟨#[105,102]⟩,.string ⟨#[101,108,115,101]⟩,.string ⟨#[119,104,105,108,101]⟩,.string ⟨#[114,101,116,117,114,110]⟩] 9))
  have HBV : Hx (Ov w V):=by show Ov _ _; rw [hV]; exact bA _ _
  have HRV : Hx (RowAt (wordsB.map Value.string) V w.heap.size):=by show RowAt _ _ _; rw [hV]; exact al10 w [.string ⟨#[97,99,116,111,114]⟩,.string ⟨#[103,114,97,110,116]⟩,.string ⟨#[115,112,101,97,107]⟩,.string ⟨#[105,110]⟩,.string ⟨#[111,117,116]⟩,.string ⟨#[118,97,114]⟩,.string ⟨#[102,117,110,99]⟩,.string ⟨#[109,97,105,110]⟩,.string ⟨#[103,101,116]⟩,.string ⟨#[112,117,116]⟩,.string ⟨#[114,101,118,101,97,108]⟩,.string ⟨#[116,114,117,115,116]⟩,.string ⟨#[105,102]⟩,.string ⟨#[101,108,115,101]⟩,.string ⟨#[119,104,105,108,101]⟩,.string ⟨#[114,101,116,117,114,110]⟩] 9
  go_enter Tryz.func113,Tryz.ntmps113
  go_wp2_with fail
  rw [← hV]
  clear hV
  go_loopw [4] (fun i wr => ∃ (j : Nat),j≤16∧i = .int .i64 j∧(wordsB.drop j).any (fun y => y.toList == x.toList) = fin∧wr = V) (fun i _ => 16 - (intOf i).toNat)
  case atStart => exact ⟨0,Nat.zero_le _,rfl,HF.o.symm,rfl⟩
  case round =>
    obtain ⟨j,hj,rfl,hp,rfl⟩:=hrel
    by_cases hjl : j < 16
    · have hjl0 : j < wordsB.length:=hjl
      have hji : (j : Int) < 16:=by omega
      rw [List.drop_eq_getElem_cons hjl0,List.any_cons] at hp
      have m0:=HRV.o j (.string wordsB[j]) (by rw [List.getElem?_map,List.getElem?_eq_getElem hjl0]; rfl)
      generalize wordsB[j] = y at hp m0
      generalize hq : (y.toList == x.toList) = q at hp
      have HP:=hide hp
      clear hp hjl0
      cases q with
      | true =>
        have HV : Hx (fin = true):=by have h:=HP.o; simp at h; exact h
        go_wp2_with fail
        go_ret
        exact ⟨by rw [HV.o]; rfl,HBV.o⟩
      | false =>
        have hp:=HP.o
        rw [Bool.false_or] at hp
        replace HP:=hide hp
        clear hp
        go_wp2_with fail
        exact ⟨⟨j + 1,by omega,by go_num,HP.o,by trivial⟩,by simp [intOf]; omega⟩
    · have hd : wordsB.drop j = []:=List.drop_eq_nil_of_le (by show 16≤j; omega)
      rw [hd] at hp
      have HP:=hide hp
      have hji : ¬ (j : Int) < 16:=by omega
      clear hp hd
      go_wp2_with fail
      go_ret
      exact ⟨by rw [← HP.o]; rfl,HBV.o⟩
set_option maxHeartbeats 4000000 in
set_option maxRecDepth 100000 in
theorem isNameR_c (x : ByteArray) (w : World) (hx : x.size≤maxLen) : Ro 77 #[.string x] w (.bool (nmS x.data.toList)):=by
  obtain ⟨fin,hfin⟩:=nm (nmS x.data.toList)
  rw [← hfin]
  unfold nmS at hfin
  rw [ba_toArray] at hfin
  obtain ⟨p,hp⟩:=nm (isAlone ⟨1,0,x⟩)
  obtain ⟨q,hq⟩:=nm (isWordB x)
  have HF : Hx (fin = (p && !q)):=by show _ = _; rw [hfin,hp,hq]; rfl
  have KT : Hx (∀ X,Ov w X→Ro 112 #[.int .i64 1,.string x] X (.bool p)):=fun X _ => by rw [hp]; exact (isToken_any 1 0 x hx X).mono fun e w' ⟨h1,h2⟩ => ⟨h1,h2 ▸ Below.refl _ _⟩
  have KW : Hx (∀ X,Ov w X→Ro 113 #[.string x] X (.bool q)):=fun X _ => by rw [hq]; exact isWordR_c x X
  clear hfin hp hq hx
  go_enter Tryz.func77,Tryz.ntmps77
  go_wp2_with fail
  refine (KT.o _ (Below.refl _ _)).mono ?_
  rintro e w1 ⟨rfl,hb⟩
  have HB1 : Hx (Ov w w1):=over_trans (Below.refl _ _) hb
  clear hb  KT
  cases p with
  | true =>
    go_wp2_with fail
    refine (KW.o _ (HB1.o)).mono ?_
    rintro e w2 ⟨rfl,hb⟩
    have HB2 : Hx (Ov w w2):=over_trans (HB1.o) hb
    clear hb  KW
    have HV : Hx (fin = !q):=by have h:=HF.o; simp at h; exact h
    go_wp2_with fail
    go_ret
    exact ⟨by rw [HV.o]; (first | rfl | (simp; done) | (simp; assumption) | (simp; omega)),HB2.o⟩
  | false =>
    have HV : Hx (fin = false):=by have h:=HF.o; simp at h; exact h
    go_wp2_with fail
    go_ret
    exact ⟨by rw [HV.o]; (first | rfl | (simp; done) | (simp; assumption) | (simp; omega)),HB1.o⟩
set_option maxHeartbeats 4000000 in
set_option maxRecDepth 100000 in
theorem noExR_c (k : Nat) (cs : List Value) (d : D) (w : World) (h : ZE w k cs d) : Ro 78 #[.agg cs.toArray] w (.bool (noEx d)):=by
  cases k with
  | zero => exact h.elim
  | succ k =>
    obtain ⟨kd,a,n,x,ao,c,ds,rfl,rfl,-,hc⟩:=h
    obtain ⟨fin,hfin⟩:=nm (noEx (eD kd a n x ds))
    rw [← hfin]
    unfold noEx at hfin
    simp only [gEe] at hfin
    have HL:=hc.max
    clear hc
    show Ro 78 #[.agg #[.int .i64 kd,.int .i64 a,.int .i64 n,.string x,.slice ao ds.length c]] w _
    by_cases h1 : kd = 0
    · by_cases h2 : n = 0
      · by_cases h3 : x.data.toList = []
        · have hx:=ba_of_list h3
          by_cases h4 : ds = []
          · have HV : Hx (fin = true):=by show _ = _; rw [hfin,h1,h2,h3,h4]; rfl
            clear hfin
            subst h4
            subst h1
            subst h2
            subst hx
            go_enter Tryz.func78,Tryz.ntmps78
            go_wp2_with fail
            go_ret
            exact ⟨by rw [HV.o]; (first | rfl | (simp; done) | (simp; assumption) | (simp; omega)),bA _ _⟩
          · have h5 : 0 < ds.length:=List.length_pos_iff.2 h4
            have hi : ¬ (ds.length : Int) = 0:=by omega
            have HV : Hx (fin = false):=by show _ = _; rw [hfin]; simp [h4]
            clear hfin
            subst h1
            subst h2
            subst hx
            go_enter Tryz.func78,Tryz.ntmps78
            go_wp2_with fail
            go_ret
            exact ⟨by rw [HV.o]; (first | rfl | (simp; done) | (simp; assumption) | (simp; omega)),bA _ _⟩
        · have hne:=ne_of_list h3
          have HV : Hx (fin = false):=by show _ = _; rw [hfin,show x.data.toList.isEmpty = false by simpa using h3]; simp
          clear hfin
          subst h1
          subst h2
          go_enter Tryz.func78,Tryz.ntmps78
          go_wp2_with fail
          go_ret
          exact ⟨by rw [HV.o]; (first | rfl | (simp; done) | (simp; assumption) | (simp; omega)),bA _ _⟩
      · have HV : Hx (fin = false):=by show _ = _; rw [hfin]; simp [h2]
        clear hfin
        subst h1
        go_enter Tryz.func78,Tryz.ntmps78
        go_wp2_with fail
        go_ret
        exact ⟨by rw [HV.o]; (first | rfl | (simp; done) | (simp; assumption) | (simp; omega)),bA _ _⟩
    · have HV : Hx (fin = false):=by show _ = _; rw [hfin]; simp [h1]
      clear hfin
      go_enter Tryz.func78,Tryz.ntmps78
      go_wp2_with fail
      go_ret
      exact ⟨by rw [HV.o]; (first | rfl | (simp; done) | (simp; assumption) | (simp; omega)),bA _ _⟩
set_option maxHeartbeats 4000000 in
set_option maxRecDepth 100000 in
theorem isExpr_c : ∀ (k : Nat) (cs : List Value) (d : D) (w : World),ZE w k cs d→Ro 79 #[.agg cs.toArray] w (.bool (efK k d)):=by
  intro k
  induction k with
  | zero => intro cs d w h; exact h.elim
  | succ k ih =>
    intro cs d w h
    obtain ⟨kd,a,n,x,ao,c,ds,rfl,rfl,hx,hc⟩:=h
    obtain ⟨fin,hfin⟩:=nm (efK (k + 1) (eD kd a n x ds))
    rw [← hfin]
    simp only [efK,gEe] at hfin
    obtain ⟨qa,hqa⟩:=nm (ds.all (efK k))
    rw [← hqa] at hfin
    have HL:=hc.max
    show Ro 79 #[.agg #[.int .i64 kd,.int .i64 a,.int .i64 n,.string x,.slice ao ds.length c]] w _
    have H0 : Hx (ds.length = 0→qa = true):=fun h => by rw [hqa,List.length_eq_zero_iff.1 h]; rfl
    have H2 : Hx (ds.length = 2→∃ b off,ao = some ⟨b,off,none⟩∧∃ (x0 x1 x2 : Int) (x3 : ByteArray) (x4 : Option Addr) (x5 x6 : Nat) (y0 y1 y2 : Int) (y3 : ByteArray) (y4 : Option Addr) (y5 y6 : Nat) (p0 p1 : Bool),RowAt' [.int .i64 x0,.int .i64 x1,.int .i64 x2,.string x3,.slice x4 x5 x6,.int .i64 y0,.int .i64 y1,.int .i64 y2,.string y3,.slice y4 y5 y6] w b off∧(∀ X,Ov w X→Ro 79 #[.agg #[.int .i64 x0,.int .i64 x1,.int .i64 x2,.string x3,.slice x4 x5 x6]] X (.bool p0))∧(∀ X,Ov w X→Ro 79 #[.agg #[.int .i64 y0,.int .i64 y1,.int .i64 y2,.string y3,.slice y4 y5 y6]] X (.bool p1))∧qa = (p0 && p1)):=fun h => by
      match ds,h with
      | [d0,d1],_ =>
        obtain ⟨b,off,e1,cs0,hl0,hc0,hr0⟩:=hc.at (j:=0) (by simp)
        obtain ⟨b',off',e2,cs1,hl1,hc1,hr1⟩:=hc.at (j:=1) (by simp)
        rw [e1] at e2
        simp at e2
        obtain ⟨rfl,rfl⟩:=e2
        obtain ⟨x0,x1,x2,x3,x4,x5,x6,rfl⟩:=hr0.cells
        obtain ⟨y0,y1,y2,y3,y4,y5,y6,rfl⟩:=hr1.cells
        refine ⟨b,off,e1,x0,x1,x2,x3,x4,x5,x6,y0,y1,y2,y3,y4,y5,y6,efK k d0,efK k d1,fun j u hu => ?_,fun X hX => ih _ d0 X (hr0.over hX),fun X hX => ih _ d1 X (hr1.over hX),by rw [hqa]; simp⟩
        match j,hu with
        | 0,hu => exact hc0 0 u hu
        | 1,hu => exact hc0 1 u hu
        | 2,hu => exact hc0 2 u hu
        | 3,hu => exact hc0 3 u hu
        | 4,hu => exact hc0 4 u hu
        | 5,hu => exact hc1 0 u hu
        | 6,hu => exact hc1 1 u hu
        | 7,hu => exact hc1 2 u hu
        | 8,hu => exact hc1 3 u hu
        | 9,hu => exact hc1 4 u hu
        | j + 10,hu => simp at hu
    clear hqa ih hc
    generalize ds.length = nn at hfin HL H0 H2 ⊢
    by_cases hk1 : kd = 1
    · subst hk1
      by_cases hx0 : x.data.toList = []
      · obtain rfl:=ba_of_list hx0
        by_cases h0 : nn = 0
        · subst h0
          obtain ⟨qb,hqb⟩:=nm (decide (-9999999≤n) && decide (n≤9999999))
          have KB : Hx (∀ X,Ov w X→Ro 76 #[.int .i64 n,.int .i64 (-9999999),.int .i64 9999999] X (.bool qb)):=fun X _ => by rw [hqb]; exact between_c n (-9999999) 9999999 X
          have HV : Hx (fin = qb):=by show _ = _; rw [hfin,hqb,H0.o rfl]; simp [nfS]
          clear hfin hqb hx0 hx
          go_enter Tryz.func79,Tryz.ntmps79
          go_wp2_with fail
          refine (KB.o _ (bA w (.cells #[.int .i64 1,.int .i64 a,.int .i64 n,.string ⟨#[]⟩,.slice ao 0 c] 49))).mono ?_
          rintro e w1 ⟨rfl,hb⟩
          have HB1 : Hx (Ov w w1):=over_trans (bA w (.cells #[.int .i64 1,.int .i64 a,.int .i64 n,.string ⟨#[]⟩,.slice ao 0 c] 49)) hb
          have HR0_1 : Hx (RowAt [.int .i64 1,.int .i64 a,.int .i64 n,.string ⟨#[]⟩,.slice ao 0 c] w1 w.heap.size):=RowAt.over (al10 w [.int .i64 1,.int .i64 a,.int .i64 n,.string ⟨#[]⟩,.slice ao 0 c] 49) hb
          clear hb  KB
          obtain ⟨m0x0,m0x1,m0x2,m0x3,m0x4⟩:=rc5 HR0_1.o
          go_wp2_with fail
          go_ret
          exact ⟨by rw [HV.o]; (first | rfl | (simp; done) | (simp; assumption) | (simp; omega)),HB1.o⟩
        · have hi : ¬ (nn : Int) = 0:=by omega
          have HV : Hx (fin = false):=by show _ = _; rw [hfin]; simp [h0]
          clear hfin hx0 hx
          go_enter Tryz.func79,Tryz.ntmps79
          go_wp2_with fail
          go_ret
          exact ⟨by rw [HV.o]; (first | rfl | (simp; done) | (simp; assumption) | (simp; omega)),bA w (.cells #[.int .i64 1,.int .i64 a,.int .i64 n,.string ⟨#[]⟩,.slice ao nn c] 49)⟩
      · have hne:=ne_of_list hx0
        have hem : nfS x.data.toList false = false:=by unfold nfS; simpa using hx0
        have HV : Hx (fin = false):=by show _ = _; rw [hfin]; simp [hem]
        clear hfin hx0 hx hem
        go_enter Tryz.func79,Tryz.ntmps79
        go_wp2_with fail
        go_ret
        exact ⟨by rw [HV.o]; (first | rfl | (simp; done) | (simp; assumption) | (simp; omega)),bA w (.cells #[.int .i64 1,.int .i64 a,.int .i64 n,.string x,.slice ao nn c] 49)⟩
    by_cases hk2 : kd = 2
    · subst hk2
      by_cases hn0 : n = 0
      · subst hn0
        by_cases h0 : nn = 0
        · subst h0
          obtain ⟨qb,hqb⟩:=nm (nmS x.data.toList)
          have KB : Hx (∀ X,Ov w X→Ro 77 #[.string x] X (.bool qb)):=fun X _ => by rw [hqb]; exact isNameR_c x X hx
          have HV : Hx (fin = qb):=by show _ = _; rw [hfin,hqb,H0.o rfl]; simp [nfS]
          clear hfin hqb hx
          go_enter Tryz.func79,Tryz.ntmps79
          go_wp2_with fail
          refine (KB.o _ (bA w (.cells #[.int .i64 2,.int .i64 a,.int .i64 0,.string x,.slice ao 0 c] 49))).mono ?_
          rintro e w1 ⟨rfl,hb⟩
          have HB1 : Hx (Ov w w1):=over_trans (bA w (.cells #[.int .i64 2,.int .i64 a,.int .i64 0,.string x,.slice ao 0 c] 49)) hb
          have HR0_1 : Hx (RowAt [.int .i64 2,.int .i64 a,.int .i64 0,.string x,.slice ao 0 c] w1 w.heap.size):=RowAt.over (al10 w [.int .i64 2,.int .i64 a,.int .i64 0,.string x,.slice ao 0 c] 49) hb
          clear hb  KB
          obtain ⟨m0x0,m0x1,m0x2,m0x3,m0x4⟩:=rc5 HR0_1.o
          go_wp2_with fail
          go_ret
          exact ⟨by rw [HV.o]; (first | rfl | (simp; done) | (simp; assumption) | (simp; omega)),HB1.o⟩
        · have hi : ¬ (nn : Int) = 0:=by omega
          have HV : Hx (fin = false):=by show _ = _; rw [hfin]; simp [h0]
          clear hfin
          go_enter Tryz.func79,Tryz.ntmps79
          go_wp2_with fail
          go_ret
          exact ⟨by rw [HV.o]; (first | rfl | (simp; done) | (simp; assumption) | (simp; omega)),bA w (.cells #[.int .i64 2,.int .i64 a,.int .i64 0,.string x,.slice ao nn c] 49)⟩
      · have hnn2 : (decide (0≤n) && decide (n≤0)) = false:=by simp; omega
        have HV : Hx (fin = false):=by show _ = _; rw [hfin]; simp only [if_neg (show ¬ (2 : Int) = 1 by omega)]; rw [Bool.and_assoc,Bool.and_assoc,Bool.and_assoc,Bool.and_assoc]; cases hh : (decide (0≤n)) <;> simp [hh] at hnn2 ⊢; omega
        clear hfin
        go_enter Tryz.func79,Tryz.ntmps79
        go_wp2_with fail
        go_ret
        exact ⟨by rw [HV.o]; (first | rfl | (simp; done) | (simp; assumption) | (simp; omega)),bA w (.cells #[.int .i64 2,.int .i64 a,.int .i64 n,.string x,.slice ao nn c] 49)⟩
    have b1 : (kd == 1) = false:=by simpa using hk1
    have b2 : (kd == 2) = false:=by simpa using hk2
    obtain ⟨qk,hqk⟩:=nm (decide (3≤kd) && decide (kd≤7))
    have KK : Hx (∀ X,Ov w X→Ro 76 #[.int .i64 kd,.int .i64 3,.int .i64 7] X (.bool qk)):=fun X _ => by rw [hqk]; exact between_c kd 3 7 X
    have hfin2 : fin = (qk && decide (n = 0) && x.data.toList.isEmpty && decide (nn = 2) && qa):=by
      rw [hfin,hqk]
      by_cases h37 : 3≤kd∧kd≤7
      · have g1 : decide (1≤kd) = true:=by simp; omega
        have g2 : decide (3≤kd) = true:=by simp; omega
        have g3 : decide (kd≤7) = true:=by simp; omega
        have g4 : decide (kd = 2) = false:=by simp; omega
        have g5 : (decide (0≤n) && decide (n≤0)) = decide (n = 0):=by rw [Bool.eq_iff_iff]; simp; omega
        rw [g1,g2,g3,g4,if_neg hk1,if_neg hk1,if_neg (show ¬ kd≤2 by omega)]
        simp only [Bool.true_and]
        rw [g5]
        rfl
      · have g : (decide (1≤kd) && decide (kd≤7)) = false:=by simp; omega
        have g' : (decide (3≤kd) && decide (kd≤7)) = false:=by simp; omega
        rw [g,g']
        simp
    have HF:=hide hfin2
    clear hfin hfin2 hqk hk1 hk2 hx
    go_enter Tryz.func79,Tryz.ntmps79
    go_wp2_with fail
    refine (KK.o _ (bA w (.cells #[.int .i64 kd,.int .i64 a,.int .i64 n,.string x,.slice ao nn c] 49))).mono ?_
    rintro e w1 ⟨rfl,hb⟩
    have HB1 : Hx (Ov w w1):=over_trans (bA w (.cells #[.int .i64 kd,.int .i64 a,.int .i64 n,.string x,.slice ao nn c] 49)) hb
    have HR0_1 : Hx (RowAt [.int .i64 kd,.int .i64 a,.int .i64 n,.string x,.slice ao nn c] w1 w.heap.size):=RowAt.over (al10 w [.int .i64 kd,.int .i64 a,.int .i64 n,.string x,.slice ao nn c] 49) hb
    clear hb  KK
    cases qk with
    | true =>
      by_cases h1 : n = 0
      · subst h1
        by_cases h2 : x.data.toList = []
        · obtain rfl:=ba_of_list h2
          clear h2
          by_cases h3 : nn = 2
          · subst h3
            obtain ⟨b,off,rfl,x0,x1,x2,x3,x4,x5,x6,y0,y1,y2,y3,y4,y5,y6,p0,p1,hz,hp0,hp1,rfl⟩:=H2.o rfl
            have KP0:=hide hp0
            have KP1:=hide hp1
            have HZ:=hide hz
            clear hz hp0 hp1
            obtain ⟨z0,z1,z2,z3,z4,z5,z6,z7,z8,z9⟩:=HZ.o.ten HB1.o
            obtain ⟨m0x0,m0x1,m0x2,m0x3,m0x4⟩:=rc5 HR0_1.o
            go_wp2_with fail
            refine (KP0.o _ (HB1.o)).mono ?_
            rintro e w2 ⟨rfl,hb⟩
            have HB2 : Hx (Ov w w2):=over_trans (HB1.o) hb
            have HR0_2 : Hx (RowAt [.int .i64 kd,.int .i64 a,.int .i64 0,.string ⟨#[]⟩,.slice (some ⟨b,off,none⟩) 2 c] w2 w.heap.size):=HR0_1.o.over hb
            clear hb m0x0 m0x1 m0x2 m0x3 m0x4 KP0
            clear z0 z1 z2 z3 z4 z5 z6 z7 z8 z9
            cases p0 with
            | true =>
              obtain ⟨z0,z1,z2,z3,z4,z5,z6,z7,z8,z9⟩:=HZ.o.ten HB2.o
              obtain ⟨m0x0,m0x1,m0x2,m0x3,m0x4⟩:=rc5 HR0_2.o
              go_wp2_with fail
              refine (KP1.o _ (HB2.o)).mono ?_
              rintro e w3 ⟨rfl,hb⟩
              have HB3 : Hx (Ov w w3):=over_trans (HB2.o) hb
              have HR0_3 : Hx (RowAt [.int .i64 kd,.int .i64 a,.int .i64 0,.string ⟨#[]⟩,.slice (some ⟨b,off,none⟩) 2 c] w3 w.heap.size):=HR0_2.o.over hb
              clear hb m0x0 m0x1 m0x2 m0x3 m0x4 KP1
              clear z0 z1 z2 z3 z4 z5 z6 z7 z8 z9
              have HV : Hx (fin = p1):=by have h:=HF.o; simp at h; exact h
              obtain ⟨m0x0,m0x1,m0x2,m0x3,m0x4⟩:=rc5 HR0_3.o
              go_wp2_with fail
              go_ret
              exact ⟨by rw [HV.o]; (first | rfl | (simp; done) | (simp; assumption) | (simp; omega)),HB3.o⟩
            | false =>
              have HV : Hx (fin = false):=by have h:=HF.o; simp at h; exact h
              obtain ⟨m0x0,m0x1,m0x2,m0x3,m0x4⟩:=rc5 HR0_2.o
              go_wp2_with fail
              go_ret
              exact ⟨by rw [HV.o]; (first | rfl | (simp; done) | (simp; assumption) | (simp; omega)),HB2.o⟩
          · have hi : ¬ (nn : Int) = 2:=by omega
            have HV : Hx (fin = false):=by have h:=HF.o; simp [h3] at h; exact h
            obtain ⟨m0x0,m0x1,m0x2,m0x3,m0x4⟩:=rc5 HR0_1.o
            go_wp2_with fail
            go_ret
            exact ⟨by rw [HV.o]; (first | rfl | (simp; done) | (simp; assumption) | (simp; omega)),HB1.o⟩
        · have hne:=ne_of_list h2
          have hem : x.data.toList.isEmpty = false:=by simpa using h2
          have HV : Hx (fin = false):=by have h:=HF.o; rw [hem] at h; simp at h; exact h
          clear hem h2
          obtain ⟨m0x0,m0x1,m0x2,m0x3,m0x4⟩:=rc5 HR0_1.o
          go_wp2_with fail
          go_ret
          exact ⟨by rw [HV.o]; (first | rfl | (simp; done) | (simp; assumption) | (simp; omega)),HB1.o⟩
      · have HV : Hx (fin = false):=by have h:=HF.o; simp [h1] at h; exact h
        obtain ⟨m0x0,m0x1,m0x2,m0x3,m0x4⟩:=rc5 HR0_1.o
        go_wp2_with fail
        go_ret
        exact ⟨by rw [HV.o]; (first | rfl | (simp; done) | (simp; assumption) | (simp; omega)),HB1.o⟩
    | false =>
      have HV : Hx (fin = false):=by have h:=HF.o; simp at h; exact h
      obtain ⟨m0x0,m0x1,m0x2,m0x3,m0x4⟩:=rc5 HR0_1.o
      go_wp2_with fail
      go_ret
      exact ⟨by rw [HV.o]; (first | rfl | (simp; done) | (simp; assumption) | (simp; omega)),HB1.o⟩
end Go.Proofs.YtipngnjffjajpaaGreatDoor.Tx
