/- veilworklaw.TreeTells of any text. -/
import Derived.Test.YtipngnjffjajpaaGreatDoorG28
import Derived.Test.YtipngnjffjajpaaGreatDoorG29
namespace Go.Proofs.YtipngnjffjajpaaGreatDoor.Tx
open Go.RowKit
set_option linter.unusedVariables false
theorem parse_why {s : ByteArray} {p r : Int} (h : parseR s = .inr (p,r)) : ¬ r = 0:=by
  unfold parseR at h
  split at h
  · split at h
    · split at h
      · injection h with h; injection h with h1 h2; omega
      · split at h
        · cases h
        · rename_i h0
          injection h with h
          injection h with h1 h2
          rw [← h2]; exact h0
    · rename_i h0
      injection h with h
      injection h with h1 h2
      omega
  · injection h with h; injection h with h1 h2; omega
theorem parse_bad {s : ByteArray} (h : ¬ (s.size≤6000∧scanErr s = 0)) : parseR s = if s.size≤6000 then .inr ((scanPos s : Int),(scanErr s : Int)) else .inr (0,2):=by
  unfold parseR
  by_cases h6 : s.size≤6000
  · rw [if_pos h6,if_pos h6,if_neg (fun e => h ⟨h6,e⟩)]
  · rw [if_neg h6,if_neg h6]
theorem ZT.nil (W : World) (ke kc : Nat) : ZT W ke kc (.agg #[.slice none 0 0,.slice none 0 0]) [] []:=⟨none,0,none,0,rfl,LS.nil,LS.nil⟩
/-- what joined tokens are parsed to. -/
def Told (res : Sum (List D × List D) (Int × Int)) (s : ByteArray) : Prop:=match res with
  | .inl (ds,l) => ∃ ds' l',parseR (joinStr (scanToks s)) = .inl (ds',l')∧(scanToks s).length = (scanToks (joinStr (scanToks s))).length∧stK false 61 (2 * (scanToks s).length + 3) ds l ds' l' = true
  | .inr (_,r) => ∃ p',parseR (joinStr (scanToks s)) = .inr (p',r)
theorem told {s : ByteArray} (hs : s.size≤6000) (he : scanErr s = 0) (hj : joinErr (scanToks s) = 0) : Told (parseR s) s:=by
  obtain ⟨h1,h2⟩:=join_scan hj
  rcases parse_rel hs he (joinStr_size hj) h1 h2 with ⟨ds,l,ds',l',e1,e2,e3,e4⟩ | ⟨p,p',r,e1,e2⟩
  · rw [e1]; exact ⟨ds',l',e2,e3,e4⟩
  · rw [e1]; exact ⟨p',e2⟩
abbrev JoinP (ts : List Tok) (X : World) (e : Ending) (w' : World) : Prop:=e = .returned (.tuple #[.string (joinStr ts),.int .i64 (joinErr ts)])∧Below X.heap.size X w'
theorem joinK {s : ByteArray} (hs : s.size≤6000) {B : Nat} {v : Value} {X : World} (hown : X.ownsRow B 44 3 v (scanToks s).length (toksCells (scanToks s))) : Calls Tryz.prog 18 #[v] X (JoinP (scanToks s) X) :=
  Join_any v (scanToks s) X (isToks_owned hown) (by have:=scan_few s hs; omega) fun t ht => by
    have:=isAlone_size (List.all_eq_true.1 (scanToks_alone s hs) t ht)
    unfold maxLen; omega
set_option maxHeartbeats 8000000 in
set_option maxRecDepth 100000 in
theorem treeTells_any (s : ByteArray) (hs : s.size≤maxLen) (w : World) : Ro 5 #[.string s] w (.bool true):=by
  have hml : s.size≤9223372036854775807:=hs
  obtain ⟨res,hres⟩:=nm (parseR s)
  have KP : Hx (∀ X,Calls Tryz.prog 10 #[.string s] X (fun e w' => Ov X w'∧ParseSaid s res e w')):=fun X => by rw [hres]; exact parse_c s hs X
  have KS : Hx (∀ X,Calls Tryz.prog 17 #[.string s] X (Scanned s X)):=fun X => Scan_any s hs X
  have HR:=hide hres
  clear hres hs
  go_enter Tryz.func5,Tryz.ntmps5
  go_wp2_with fail
  refine (treeBegun_c _).mono ?_
  rintro e w1 ⟨rfl,hb1⟩
  have HB1:=hide hb1
  clear hb1
  go_wp2_with fail
  refine (begun_any _).mono ?_
  rintro e w2 ⟨rfl,hb⟩
  have HB2 : Hx (Ov w w2):=over_trans HB1.o hb
  clear hb HB1
  go_wp2_with fail
  refine (KP.o _).mono ?_
  rintro e w3 ⟨hb,hsaid⟩
  have HB3:=hide (over_trans HB2.o hb)
  clear hb HB2 KP
  by_cases hgood : s.size≤6000∧scanErr s = 0
  · obtain ⟨h6,he⟩:=hgood
    rcases res with ⟨ds,l⟩ | ⟨p,r⟩
    · obtain ⟨v,rfl,hz⟩:=hsaid
      have KC0 : Hx (∀ X,Ov w3 X→Ro 14 #[v] X (.int .i64 0)):=fun X hX => by
        have h:=check_c 61 _ ds l v X (hz.over hX)
        rw [parse_ok HR.o.symm] at h
        exact h
      have HZ:=hide hz
      obtain ⟨a,c,a2,c2,rfl,-,-⟩:=hz
      have KC:=KC0
      generalize ds.length = nd at KC HZ ⊢
      generalize l.length = nl at KC HZ ⊢
      obtain ⟨V,hV⟩:=nm (w3.alloc (.cells #[.slice a nd c,.slice a2 nl c2] 25))
      obtain ⟨bt,hbt⟩:=nm w3.heap.size
      have HBV : Hx (Ov w3 V):=by show Ov _ _; rw [hV]; exact bA _ _
      have HRV : Hx (RowAt [.slice a nd c,.slice a2 nl c2] V bt):=by show RowAt _ _ _; rw [hV,hbt]; exact al10 w3 [.slice a nd c,.slice a2 nl c2] 25
      clear KC0
      go_wp2_with fail
      rw [← hV,← hbt]
      clear hV hbt
      refine (KC.o _ HBV.o).mono ?_
      rintro e w4 ⟨rfl,hb⟩
      have HB4:=hide (over_trans HBV.o hb)
      have HR4:=hide (HRV.o.over hb)
      clear hb KC HBV HRV
      go_wp2_with fail
      refine (KS.o _).mono ?_
      rintro e w5 ⟨v5,ts,q,r5,rfl,hown,hb,hif⟩
      rw [if_pos h6] at hif
      obtain ⟨rfl,rfl,hr5⟩:=hif
      rw [he] at hr5
      subst hr5
      have HB5:=hide (over_trans HB4.o hb)
      have HR5:=hide (HR4.o.over hb)
      have KJ:=hide (joinK h6 hown)
      clear hb KS HB4 HR4
      obtain ⟨je,hje⟩:=nm (joinErr (scanToks s))
      obtain ⟨js,hjs⟩:=nm (joinStr (scanToks s))
      have KJ2 : Hx (Calls Tryz.prog 18 #[v5] w5 fun e w' => e = .returned (.tuple #[.string js,.int .i64 je])∧Below w5.heap.size w5 w'):=by rw [hje,hjs]; exact KJ.o
      obtain ⟨va,vn,vc,rfl⟩:=own_form hown
      have HJ:=hide (And.intro hje hjs)
      clear KJ hown hje hjs
      go_wp2_with fail
      refine KJ2.o.mono ?_
      rintro e w6 ⟨rfl,hb⟩
      have HB6:=hide (over_trans HB5.o hb)
      have HR6:=hide (HR5.o.over hb)
      clear hb KJ2 HB5 HR5
      by_cases hj0 : je = 0
      · subst hj0
        have ht:=told h6 he HJ.o.1.symm
        rw [← HR.o] at ht
        obtain ⟨ds',l',e2,e3,e4⟩:=ht
        rw [← HJ.o.2] at e2 e3
        have KQ : Hx (∀ X,Calls Tryz.prog 10 #[.string js] X (fun e w' => Ov X w'∧ParseSaid js (.inl (ds',l')) e w')):=fun X => by
          rw [← e2]
          exact parse_c js (by rw [HJ.o.2]; exact Nat.le_trans (joinStr_size HJ.o.1.symm) (by unfold maxLen; omega)) X
        have HE3:=hide e3
        have HE4:=hide e4
        clear e2 e3 e4
        go_wp2_with fail
        refine (KQ.o _).mono ?_
        rintro e w7 ⟨hb,v7,rfl,hz7⟩
        have HB7:=hide (over_trans HB6.o hb)
        have HR7:=hide (HR6.o.over hb)
        have KT0 : Hx (∀ X,Ov w7 X→Ro 13 #[.agg #[.slice a nd c,.slice a2 nl c2],v7,.bool false] X (.bool true)):=fun X hX => by
          have hz8:=hz7
          rw [← HE3.o] at hz8
          exact sameT_f 61 _ ds l ds' l' _ v7 X ((HZ.o.over HB7.o).over hX) (hz8.over hX) HE4.o
        obtain ⟨ao,cc,ao2,cc2,rfl,-,-⟩:=hz7
        have KT:=KT0
        generalize ds'.length = nd' at KT ⊢
        generalize l'.length = nl' at KT ⊢
        clear hb KQ HB6 HR6 KT0
        obtain ⟨s0,s1⟩:=rc2 HR7.o
        have z0:=alUp s0 (.cells #[.slice ao nd' cc,.slice ao2 nl' cc2] 25)
        have z1:=alUp s1 (.cells #[.slice ao nd' cc,.slice ao2 nl' cc2] 25)
        clear s0 s1
        go_wp2_with fail
        refine (KT.o _ (bA _ _)).mono ?_
        rintro e w8 ⟨rfl,hb⟩
        have HB8:=hide (over_trans HB3.o (over_trans HB7.o (over_trans (bA _ _) hb)))
        clear hb KT z0 z1
        go_wp2_with fail
        go_ret
        exact ⟨rfl,HB8.o⟩
      · have hji : ¬ (je : Int) = 0:=by omega
        clear HZ
        go_wp2_with fail
        go_ret
        exact ⟨rfl,over_trans HB3.o HB6.o⟩
    · have hr0:=parse_why HR.o.symm
      obtain rfl:=hsaid
      obtain ⟨V,hV⟩:=nm (w3.alloc (.cells #[.slice none 0 0,.slice none 0 0] 25))
      obtain ⟨bt,hbt⟩:=nm w3.heap.size
      have HBV : Hx (Ov w3 V):=by show Ov _ _; rw [hV]; exact bA _ _
      have HRV : Hx (RowAt [.slice none 0 0,.slice none 0 0] V bt):=by show RowAt _ _ _; rw [hV,hbt]; exact al10 w3 [.slice none 0 0,.slice none 0 0] 25
      go_wp2_with fail
      rw [← hV,← hbt]
      clear hV hbt
      refine (KS.o _).mono ?_
      rintro e w5 ⟨v5,ts,q,r5,rfl,hown,hb,hif⟩
      rw [if_pos h6] at hif
      obtain ⟨rfl,rfl,hr5⟩:=hif
      rw [he] at hr5
      subst hr5
      have HB5:=hide (over_trans HBV.o hb)
      have HR5:=hide (HRV.o.over hb)
      have KJ:=hide (joinK h6 hown)
      clear hb KS HBV HRV
      obtain ⟨je,hje⟩:=nm (joinErr (scanToks s))
      obtain ⟨js,hjs⟩:=nm (joinStr (scanToks s))
      have KJ2 : Hx (Calls Tryz.prog 18 #[v5] w5 fun e w' => e = .returned (.tuple #[.string js,.int .i64 je])∧Below w5.heap.size w5 w'):=by rw [hje,hjs]; exact KJ.o
      obtain ⟨va,vn,vc,rfl⟩:=own_form hown
      have HJ:=hide (And.intro hje hjs)
      clear KJ hown hje hjs
      go_wp2_with fail
      refine KJ2.o.mono ?_
      rintro e w6 ⟨rfl,hb⟩
      have HB6:=hide (over_trans HB5.o hb)
      have HR6:=hide (HR5.o.over hb)
      clear hb KJ2 HB5 HR5
      by_cases hj0 : je = 0
      · subst hj0
        have ht:=told h6 he HJ.o.1.symm
        rw [← HR.o] at ht
        obtain ⟨p',e2⟩:=ht
        rw [← HJ.o.2] at e2
        have KQ : Hx (∀ X,Calls Tryz.prog 10 #[.string js] X (fun e w' => Ov X w'∧ParseSaid js (.inr (p',r)) e w')):=fun X => by
          rw [← e2]
          exact parse_c js (by rw [HJ.o.2]; exact Nat.le_trans (joinStr_size HJ.o.1.symm) (by unfold maxLen; omega)) X
        clear e2
        go_wp2_with fail
        refine (KQ.o _).mono ?_
        rintro e w7 ⟨hb,rfl⟩
        have HB7:=hide (over_trans HB6.o hb)
        have HR7:=hide (HR6.o.over hb)
        have KT : Hx (∀ X,Ro 13 #[.agg #[.slice none 0 0,.slice none 0 0],.agg #[.slice none 0 0,.slice none 0 0],.bool false] X (.bool true)):=fun X => sameT_f 0 0 [] [] [] [] _ _ X (ZT.nil X 0 0) (ZT.nil X 0 0) rfl
        clear hb KQ HB6 HR6
        obtain ⟨s0,s1⟩:=rc2 HR7.o
        have z0:=alUp s0 (.cells #[.slice none 0 0,.slice none 0 0] 25)
        have z1:=alUp s1 (.cells #[.slice none 0 0,.slice none 0 0] 25)
        clear s0 s1
        go_wp2_with fail
        refine (KT.o _).mono ?_
        rintro e w8 ⟨rfl,hb⟩
        have HB8:=hide (over_trans HB3.o (over_trans HB7.o (over_trans (bA _ _) hb)))
        clear hb KT z0 z1
        go_wp2_with fail
        go_ret
        exact ⟨rfl,HB8.o⟩
      · have hji : ¬ (je : Int) = 0:=by omega
        go_wp2_with fail
        go_ret
        exact ⟨rfl,over_trans HB3.o HB6.o⟩
  · have hrr:=HR.o
    rw [parse_bad hgood] at hrr
    obtain ⟨p,r,hpr,hr0⟩ : ∃ p r : Int,res = .inr (p,r)∧¬ r = 0:=by
      rcases res with ⟨ds,l⟩ | ⟨p,r⟩
      · exfalso
        revert hrr
        split <;> intro h <;> cases h
      · exact ⟨p,r,rfl,parse_why HR.o.symm⟩
    subst hpr
    obtain rfl:=hsaid
    obtain ⟨V,hV⟩:=nm (w3.alloc (.cells #[.slice none 0 0,.slice none 0 0] 25))
    obtain ⟨bt,hbt⟩:=nm w3.heap.size
    have HBV : Hx (Ov w3 V):=by show Ov _ _; rw [hV]; exact bA _ _
    have HRV : Hx (RowAt [.slice none 0 0,.slice none 0 0] V bt):=by show RowAt _ _ _; rw [hV,hbt]; exact al10 w3 [.slice none 0 0,.slice none 0 0] 25
    have HRR:=hide hrr
    clear hrr hgood
    go_wp2_with fail
    rw [← hV,← hbt]
    clear hV hbt
    refine (KS.o _).mono ?_
    rintro e w5 ⟨v5,ts,q,r5,rfl,hown,hb,hif⟩
    have hrr:=HRR.o
    have hr5 : (r5 : Int) = r:=by
      by_cases h6 : s.size≤6000
      · rw [if_pos h6] at hif hrr
        injection hrr with hrr
        injection hrr with e1 e2
        rw [hif.2.2,e2]
      · rw [if_neg h6] at hif hrr
        injection hrr with hrr
        injection hrr with e1 e2
        rw [hif.2.2,e2]; rfl
    have HB5:=hide (over_trans HBV.o hb)
    have HR5:=hide (HRV.o.over hb)
    obtain ⟨va,vn,vc,rfl⟩:=own_form hown
    obtain ⟨s0,s1⟩:=rc2 HR5.o
    rw [hr5]
    clear hb KS HBV HRV hown hif hrr hr5 HRR HR
    go_wp2_with fail
    go_ret
    exact ⟨rfl,over_trans HB3.o HB5.o⟩
end Go.Proofs.YtipngnjffjajpaaGreatDoor.Tx
