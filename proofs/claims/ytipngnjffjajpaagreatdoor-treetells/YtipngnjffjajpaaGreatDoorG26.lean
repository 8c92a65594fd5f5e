/- Law treeBegun: the small text. -/
import Derived.Test.YtipngnjffjajpaaGreatDoorG25
namespace Go.Proofs.YtipngnjffjajpaaGreatDoor.Tx
open Go.RowKit
set_option linter.unusedVariables false
def smallB : ByteArray:=⟨#[97,99,116,111,114,32,97,59,10,111,117,116,32,99,32,123,97,58,32,97,125,59,10,109,97,105,110,32,123,10,32,32,112,117,116,32,99,32,40,49,32,43,32,50,41,59,10,125,10]⟩
def smallD : List D:=[deD 1 0 ⟨#[97]⟩ noS false [] [] [] noE,deD 5 9 ⟨#[99]⟩ noS true [polD 16 ⟨#[97]⟩ false [⟨#[97]⟩]] [] [] noE]
def smallL : List D:=[stD 4 32 noS ⟨#[99]⟩ (eD 3 38 0 noS [eD 1 39 1 noS [],eD 1 43 2 noS []]) [] [] []]
set_option maxRecDepth 100000 in
theorem small_parse : parseR smallB = .inl (smallD,smallL):=by kernel_rfl
set_option maxRecDepth 100000 in
theorem small_check : ckT 61 (2 * (scanToks smallB).length + 3) smallD smallL = 0:=by kernel_rfl
theorem dS_inj {x y : ByteArray} (h : dS x = dS y) : x = y:=by
  unfold dS at h
  injection h with h
  injection h with h
  have:=ba_of_list h
  rw [this]
theorem dI_inj {x y : Int} (h : dI x = dI y) : x = y:=by
  unfold dI at h
  injection h with h
  injection h with h1 h2
set_option maxHeartbeats 4000000 in
set_option maxRecDepth 100000 in
theorem treeBegun_c (w : World) : Ro 12 #[] w (.bool true):=by
  have KP:=hide (parse_c smallB (by have h : smallB.size = 49:=rfl; rw [h]; unfold maxLen; omega) w)
  go_enter Tryz.func12,Tryz.ntmps12
  go_wp2_with fail
  refine KP.o.mono ?_
  rintro e w1 ⟨hb,hsaid⟩
  rw [small_parse] at hsaid
  obtain ⟨v,rfl,hz⟩:=hsaid
  have KC : Hx (∀ X,Ov w1 X→Ro 14 #[v] X (.int .i64 0)):=fun X hX => by
    have h:=check_c 61 _ smallD smallL v X (hz.over hX)
    rw [small_check] at h
    exact h
  obtain ⟨a,c,a2,c2,rfl,hD,hM⟩:=hz
  obtain ⟨b,off,rfl,cs,hl,hcs,hr⟩:=hM.at (j:=0) (by decide)
  have hr' : ZC w1 61 (2 * (scanToks smallB).length + 2 + 1) cs (stD 4 32 noS ⟨#[99]⟩ (eD 3 38 0 noS [eD 1 39 1 noS [],eD 1 43 2 noS []]) [] [] []):=hr
  obtain ⟨kd,at_,x,y,e0,e1,e2,e3,q,q1,q2,e,aA,cA,args,aT,cT,th,aE,cE,el,rfl,hd,-⟩:=hr'
  unfold stD at hd
  injection hd with hd
  simp only [List.cons.injEq] at hd
  obtain ⟨hk,-,-,hy,-⟩:=hd
  obtain rfl:=dI_inj hk
  obtain rfl:=dS_inj hy
  have d0 : w1.cell? ⟨b,off,none⟩ = some (.int .i64 4):=by have:=hcs 0 _ rfl; simpa using this
  have d3 : w1.cell? ⟨b,off + 3,none⟩ = some (.string ⟨#[99]⟩):=by have:=hcs 3 _ rfl; simpa using this
  have HB1:=hide hb
  replace KC : Hx (∀ X,Ov w1 X→Ro 14 #[.agg #[.slice a 2 c,.slice (some ⟨b,off,none⟩) 1 c2]] X (.int .i64 0)):=KC
  clear KP hb hD hM hcs hl hr
  have z0 : (w1.alloc (.cells #[.slice a 2 c,.slice (some ⟨b,off,none⟩) 1 c2] 25)).cell? ⟨b,off,none⟩ = some (.int .i64 4):=alUp d0 _
  have z3 : (w1.alloc (.cells #[.slice a 2 c,.slice (some ⟨b,off,none⟩) 1 c2] 25)).cell? ⟨b,off + 3,none⟩ = some (.string ⟨#[99]⟩):=alUp d3 _
  have e1 : smallD.length = 2:=rfl
  have e2 : smallL.length = 1:=rfl
  rw [e1,e2]
  clear e1 e2 d0 d3
  go_wp2_with fail
  refine (KC.o _ (bA _ _)).mono ?_
  rintro e w2 ⟨rfl,hb⟩
  have HB2:=hide (over_trans HB1.o (over_trans (bA _ _) hb))
  clear hb KC z0 z3
  go_wp2_with fail
  go_ret
  exact ⟨rfl,HB2.o⟩
theorem all2_at {α : Type} {f : α→α→Bool} : ∀ {l m : List α},all2 f l m = true→∀ (j : Nat) (h : j < l.length) (h' : j < m.length),f l[j] m[j] = true
  | a :: l,b :: m,h,0,_,_ => by simp [all2] at h; exact h.1
  | a :: l,b :: m,h,j + 1,h1,h2 => by simp [all2] at h; exact all2_at h.2 j (by simpa using h1) (by simpa using h2)
  | [],_,h,j,h1,h2 => absurd h1 (Nat.not_lt_zero _)
  | _ :: _,[],h,j,h1,h2 => absurd h2 (Nat.not_lt_zero _)
theorem sx_eq : ∀ {l m : List ByteArray},all2 sxS (l.map dS) (m.map dS) = true→l = m
  | [],[],_ => rfl
  | a :: l,b :: m,h => by
    simp only [List.map_cons,all2,sxS,asS_dS,Bool.and_eq_true] at h
    have e : a = b:=by
      have:=ba_of_list (of_decide_eq_true h.1)
      rw [this]
    rw [e,sx_eq h.2]
  | [],_ :: _,h => by cases h
  | _ :: _,[],h => by cases h
set_option maxHeartbeats 4000000 in
set_option maxRecDepth 100000 in
theorem sameStr_t (ns : List ByteArray) (ao bo : Option Addr) (ac bc : Nat) (w : World) (ha : LS 1 ZN w (.slice ao ns.length ac) ns) (hb : LS 1 ZN w (.slice bo ns.length bc) ns) : Ro 29 #[.slice ao ns.length ac,.slice bo ns.length bc] w (.bool true):=by
  have HA:=hide ha
  have HC:=hide hb
  have HL:=ha.max
  obtain ⟨nn,hnn⟩:=nm ns.length
  rw [← hnn] at HL ⊢
  have HN:=hide hnn
  clear ha hb hnn
  go_enter Tryz.func29,Tryz.ntmps29
  go_wp2_with fail
  go_loopw [5] (fun i wr => ∃ (j : Nat),j≤nn∧i = .int .i64 j∧Ov w wr) (fun i _ => nn - (intOf i).toNat)
  case atStart => exact ⟨0,Nat.zero_le _,rfl,Below.refl _ _⟩
  case round =>
    obtain ⟨j,hj,rfl,hB⟩:=hrel
    by_cases hjl : j < nn
    · have hjl0 : j < ns.length:=by have:=HN.o; omega
      have hji : (j : Int) < (nn : Int):=by omega
      obtain ⟨b,off,rfl,cs,-,hcs,hr⟩:=HA.o.at hjl0
      obtain ⟨b',off',rfl,cs',-,hcs',hr'⟩:=HC.o.at hjl0
      generalize ns[j] = x at hr hr'
      rw [hr.1] at hcs
      rw [hr'.1] at hcs'
      have d0 : wr.cell? ⟨b,off + j,none⟩ = some (.string x):=ce1 hB (by have:=hcs 0 _ rfl; simpa using this)
      have d1 : wr.cell? ⟨b',off' + j,none⟩ = some (.string x):=ce1 hB (by have:=hcs' 0 _ rfl; simpa using this)
      have HB:=hide hB
      clear hcs hcs' hr hr' hjl0 hB
      go_wp2_with fail
      refine Go.Proofs.YtipngnjffjajpaaGreatDoor.gS (fun Wz => Below wr.heap.size wr Wz) (Below.refl _ _).drew fun hHeld => ?_
      generalize wr.drew = W at hHeld ⊢
      refine kO 0 ?_
      refine kO 1 ?_
      refine kO 2 ?_
      refine kO 3 ?_
      refine kO 4 ?_
      refine kO 5 ?_
      refine kO 6 ?_
      refine kO 7 ?_
      refine kO 8 ?_
      refine gE ?_
      have HB9:=hide (over_trans HB.o hHeld)
      clear hHeld d0 d1
      go_wp2_with fail
      exact ⟨⟨j + 1,by omega,by go_num,HB9.o⟩,by simp [intOf]; omega⟩
    · have hji : ¬ (j : Int) < (nn : Int):=by omega
      have HB:=hide hB
      clear hB
      go_wp2_with fail
      go_ret
      exact ⟨rfl,HB.o⟩
set_option maxHeartbeats 4000000 in
set_option maxRecDepth 100000 in
theorem sameEs_of (at_ : Bool) (k : Nat) (hE : ∀ (cs cs' : List Value) (d d' : D) (X : World),ZE X k cs d→ZE X k cs' d'→seK at_ k d d' = true→Ro 31 #[.agg cs.toArray,.agg cs'.toArray,.bool at_] X (.bool true)) (l m : List D) (ao bo : Option Addr) (ac bc : Nat) (w : World) (ha : LS 5 (ZE w k) w (.slice ao l.length ac) l) (hb : LS 5 (ZE w k) w (.slice bo m.length bc) m) (hs : all2 (seK at_ k) l m = true) : Ro 62 #[.slice ao l.length ac,.slice bo m.length bc,.bool at_] w (.bool true):=by
  have HA:=hide ha
  have HC:=hide hb
  have HE:=hide hE
  have HS:=hide hs
  have HL:=ha.max
  have hlm:=all2_len hs
  rw [← hlm]
  obtain ⟨nn,hnn⟩:=nm l.length
  rw [← hnn] at HL ⊢
  have HN:=hide hnn
  have HM:=hide (hnn.trans hlm)
  clear ha hb hE hs hnn hlm
  go_enter Tryz.func62,Tryz.ntmps62
  go_wp2_with fail
  go_loopw [7] (fun i wr => ∃ (j : Nat),j≤nn∧i = .int .i64 j∧Ov w wr) (fun i _ => nn - (intOf i).toNat)
  case atStart => exact ⟨0,Nat.zero_le _,rfl,Below.refl _ _⟩
  case round =>
    obtain ⟨j,hj,rfl,hB⟩:=hrel
    by_cases hjl : j < nn
    · have hjl0 : j < l.length:=by have:=HN.o; omega
      have hjm0 : j < m.length:=by have:=HM.o; omega
      have hji : (j : Int) < (nn : Int):=by omega
      obtain ⟨b,off,rfl,cs,-,hcs,hr⟩:=HA.o.at hjl0
      obtain ⟨b',off',rfl,cs',-,hcs',hr'⟩:=HC.o.at hjm0
      have hq:=all2_at HS.o j hjl0 hjm0
      generalize l[j] = dj at hr hq
      generalize m[j] = dm at hr' hq
      have KC : Hx (∀ X,Ov wr X→Ro 31 #[.agg cs.toArray,.agg cs'.toArray,.bool at_] X (.bool true)):=fun X hX => HE.o cs cs' dj dm X ((hr.over hB).over hX) ((hr'.over hB).over hX) hq
      obtain ⟨p0,p1,p2,p3,p4,p5,p6,rfl⟩:=hr.cells
      obtain ⟨r0,r1,r2,r3,r4,r5,r6,rfl⟩:=hr'.cells
      have d0 : wr.cell? ⟨b,off + j * 5,none⟩ = _:=ce1 hB (hcs 0 _ rfl)
      have d1:=ce1 hB (hcs 1 _ rfl)
      have d2:=ce1 hB (hcs 2 _ rfl)
      have d3:=ce1 hB (hcs 3 _ rfl)
      have d4:=ce1 hB (hcs 4 _ rfl)
      have f0 : wr.cell? ⟨b',off' + j * 5,none⟩ = _:=ce1 hB (hcs' 0 _ rfl)
      have f1:=ce1 hB (hcs' 1 _ rfl)
      have f2:=ce1 hB (hcs' 2 _ rfl)
      have f3:=ce1 hB (hcs' 3 _ rfl)
      have f4:=ce1 hB (hcs' 4 _ rfl)
      have HB:=hide hB
      clear hcs hcs' hr hr' hjl0 hjm0 hB hq
      go_wp2_with fail
      refine Go.Proofs.YtipngnjffjajpaaGreatDoor.gS (fun Wz => Below wr.heap.size wr Wz) (Below.refl _ _).drew fun hHeld => ?_
      generalize wr.drew = W at hHeld ⊢
      refine kO 0 ?_
      refine kO 1 ?_
      refine kO 2 ?_
      refine kO 3 ?_
      refine kO 4 ?_
      refine kO 5 ?_
      refine kO 6 ?_
      refine kO 7 ?_
      refine kO 8 ?_
      refine rdA 9 rfl fun K hK => ?_
      go_simp
      refine (KC.o _ hHeld).mono ?_
      rintro e W8 ⟨rfl,hb⟩
      have HH8:=hide (over_trans hHeld hb)
      clear hb hHeld KC
      go_simp
      refine xK hK (HH8.o) fun hHeld => ?_
      clear hK K
      refine kO 10 ?_
      refine gE ?_
      have HB9:=hide (over_trans HB.o HH8.o)
      clear hHeld d0 d1 d2 d3 d4 f0 f1 f2 f3 f4
      go_wp2_with fail
      exact ⟨⟨j + 1,by omega,by go_num,HB9.o⟩,by simp [intOf]; omega⟩
    · have hji : ¬ (j : Int) < (nn : Int):=by omega
      have HB:=hide hB
      clear hB
      go_wp2_with fail
      go_ret
      exact ⟨rfl,HB.o⟩
set_option maxHeartbeats 4000000 in
set_option maxRecDepth 100000 in
theorem sameE_t (at_ : Bool) : ∀ (k : Nat) (cs cs' : List Value) (d d' : D) (X : World),ZE X k cs d→ZE X k cs' d'→seK at_ k d d' = true→Ro 31 #[.agg cs.toArray,.agg cs'.toArray,.bool at_] X (.bool true):=by
  intro k
  induction k with
  | zero => intro cs cs' d d' w h; exact h.elim
  | succ k ih =>
    intro cs cs' d d' w h h' hs
    obtain ⟨kd,a,n,x,ao,c,ds,rfl,rfl,-,hc⟩:=h
    obtain ⟨kd9,a9,n9,x9,ao9,c9,ds9,rfl,rfl,-,hc9⟩:=h'
    simp only [seK,gEe,Bool.and_eq_true,decide_eq_true_eq] at hs
    obtain ⟨⟨⟨⟨rfl,rfl⟩,hx⟩,hat⟩,hl⟩:=hs
    have hxx : x9 = x:=by have:=ba_of_list hx.symm; rw [this]
    subst hxx
    have KL0 : Hx (∀ X,Ov w X→Ro 62 #[.slice ao ds.length c,.slice ao9 ds9.length c9,.bool at_] X (.bool true)):=fun X hX => sameEs_of at_ k ih ds ds9 ao ao9 c c9 X (lsE_over hX hc) (lsE_over hX hc9) hl
    have hlen:=all2_len hl
    rw [← hlen] at KL0 ⊢
    have KL:=KL0
    clear hx hl hc hc9 ih KL0 hlen
    show Ro 31 #[.agg #[.int .i64 kd,.int .i64 a,.int .i64 n,.string x9,.slice ao ds.length c],.agg #[.int .i64 kd,.int .i64 a9,.int .i64 n,.string x9,.slice ao9 ds.length c9],.bool at_] w _
    generalize ds.length = nn at KL ⊢
    generalize x9 = x
    cases at_ with
    | true =>
      have haa : a = a9:=by simpa using hat
      subst haa
      clear hat
      go_enter Tryz.func31,Tryz.ntmps31
      go_wp2_with fail
      refine (KL.o _ ((bA w (.cells #[.int .i64 kd,.int .i64 a,.int .i64 n,.string x,.slice ao nn c] 49)).alloc (by simp) (.cells #[.int .i64 kd,.int .i64 a,.int .i64 n,.string x,.slice ao9 nn c9] 49))).mono ?_
      rintro e w1 ⟨rfl,hb⟩
      have HB1 : Hx (Ov w w1):=over_trans ((bA w (.cells #[.int .i64 kd,.int .i64 a,.int .i64 n,.string x,.slice ao nn c] 49)).alloc (by simp) (.cells #[.int .i64 kd,.int .i64 a,.int .i64 n,.string x,.slice ao9 nn c9] 49)) hb
      clear hb  KL
      go_wp2_with fail
      go_ret
      exact ⟨rfl,HB1.o⟩
    | false =>
      clear hat
      go_enter Tryz.func31,Tryz.ntmps31
      go_wp2_with fail
      refine (KL.o _ ((bA w (.cells #[.int .i64 kd,.int .i64 a,.int .i64 n,.string x,.slice ao nn c] 49)).alloc (by simp) (.cells #[.int .i64 kd,.int .i64 a9,.int .i64 n,.string x,.slice ao9 nn c9] 49))).mono ?_
      rintro e w1 ⟨rfl,hb⟩
      have HB1 : Hx (Ov w w1):=over_trans ((bA w (.cells #[.int .i64 kd,.int .i64 a,.int .i64 n,.string x,.slice ao nn c] 49)).alloc (by simp) (.cells #[.int .i64 kd,.int .i64 a9,.int .i64 n,.string x,.slice ao9 nn c9] 49)) hb
      clear hb  KL
      go_wp2_with fail
      go_ret
      exact ⟨rfl,HB1.o⟩
end Go.Proofs.YtipngnjffjajpaaGreatDoor.Tx
