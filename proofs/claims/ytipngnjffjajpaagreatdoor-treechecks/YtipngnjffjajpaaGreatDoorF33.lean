/- The document's answer: CheckTree of any tree. -/
import Derived.Test.YtipngnjffjajpaaGreatDoorF29
import Derived.Test.YtipngnjffjajpaaGreatDoorF30
import Derived.Test.YtipngnjffjajpaaGreatDoorF32
import Derived.Test.YtipngnjffjajpaaGreatDoorF26
import Derived.ProofKit
import Derived.OpenShut
import Derived.Deep.Strs
import Derived.Lib.SmallJoins
namespace Go.Proofs.YtipngnjffjajpaaGreatDoor.Tx
open Go.RowKit
set_option linter.unusedVariables false
set_option maxHeartbeats 4000000 in
set_option maxRecDepth 100000 in
theorem isDecl_out (kd a : Int) (x y : ByteArray) (gv : Bool) (aL : Option Addr) (nL cL : Nat) (aP : Option Addr) (nP cP : Nat) (aB : Option Addr) (nB cB : Nat) (e0 e1 e2 : Int) (e3 : ByteArray) (q : Option Addr) (q1 q2 : Nat) (w : World) (hk : ¬ (1≤kd∧kd≤7)) : Ro 38 #[.agg #[.int .i64 kd,.int .i64 a,.string x,.string y,.bool gv,.slice aL nL cL,.slice aP nP cP,.slice aB nB cB,.int .i64 e0,.int .i64 e1,.int .i64 e2,.string e3,.slice q q1 q2]] w (.bool false):=by
  have KB : Hx (∀ X,Ov w X→Ro 76 #[.int .i64 kd,.int .i64 1,.int .i64 7] X (.bool false)):=fun X _ => by
    have h:=between_c kd 1 7 X
    rw [show (decide (1≤kd) && decide (kd≤7)) = false by simp; omega] at h
    exact h
  clear hk
  go_enter Tryz.func38,Tryz.ntmps38
  go_wp2_with fail
  refine (KB.o _ (bA w (.cells #[.int .i64 kd,.int .i64 a,.string x,.string y,.bool gv,.slice aL nL cL,.slice aP nP cP,.slice aB nB cB,.int .i64 e0,.int .i64 e1,.int .i64 e2,.string e3,.slice q q1 q2] 51))).mono ?_
  rintro e w1 ⟨rfl,hb⟩
  have HB1 : Hx (Ov w w1):=over_trans (bA w (.cells #[.int .i64 kd,.int .i64 a,.string x,.string y,.bool gv,.slice aL nL cL,.slice aP nP cP,.slice aB nB cB,.int .i64 e0,.int .i64 e1,.int .i64 e2,.string e3,.slice q q1 q2] 51)) hb
  have HR0_1 : Hx (RowAt [.int .i64 kd,.int .i64 a,.string x,.string y,.bool gv,.slice aL nL cL,.slice aP nP cP,.slice aB nB cB,.int .i64 e0,.int .i64 e1,.int .i64 e2,.string e3,.slice q q1 q2] w1 w.heap.size):=RowAt.over (al10 w [.int .i64 kd,.int .i64 a,.string x,.string y,.bool gv,.slice aL nL cL,.slice aP nP cP,.slice aB nB cB,.int .i64 e0,.int .i64 e1,.int .i64 e2,.string e3,.slice q q1 q2] 51) hb
  clear hb  KB
  obtain ⟨m0x0,m0x1,m0x2,m0x3,m0x4,m0x5,m0x6,m0x7,m0x8,m0x9,m0x10,m0x11,m0x12⟩:=rc13 HR0_1.o
  go_wp2_with fail
  go_ret
  exact ⟨rfl,HB1.o⟩
theorem isDecl_c (ke kc : Nat) (cs : List Value) (d : D) (w : World) (h : ZD w ke kc cs d) : Ro 38 #[.agg cs.toArray] w (.bool (dfK ke kc d)):=by
  obtain ⟨kd,a,x,y,gv,aL,cL,lb,aP,cP,ps,aB,cB,body,e0,e1,e2,e3,q,q1,q2,r,rfl,rfl,hx,hy,hL,hP,hB,hR⟩:=h
  by_cases hk : 1≤kd∧kd≤7
  · have h7 : kd = 1∨kd = 2∨kd = 3∨kd = 4∨kd = 5∨kd = 6∨kd = 7:=by omega
    clear hk
    rcases h7 with rfl | rfl | rfl | rfl | rfl | rfl | rfl <;> cases gv
    · exact isDecl_1f ke kc a x y aL cL lb aP cP ps aB cB body e0 e1 e2 e3 q q1 q2 r w hx hy hL hP hB hR
    · exact isDecl_1t ke kc a x y aL cL lb aP cP ps aB cB body e0 e1 e2 e3 q q1 q2 r w hx hy hL hP hB hR
    · exact isDecl_2f ke kc a x y aL cL lb aP cP ps aB cB body e0 e1 e2 e3 q q1 q2 r w hx hy hL hP hB hR
    · exact isDecl_2t ke kc a x y aL cL lb aP cP ps aB cB body e0 e1 e2 e3 q q1 q2 r w hx hy hL hP hB hR
    · exact isDecl_3f ke kc a x y aL cL lb aP cP ps aB cB body e0 e1 e2 e3 q q1 q2 r w hx hy hL hP hB hR
    · exact isDecl_3t ke kc a x y aL cL lb aP cP ps aB cB body e0 e1 e2 e3 q q1 q2 r w hx hy hL hP hB hR
    · exact isDecl_4f ke kc a x y aL cL lb aP cP ps aB cB body e0 e1 e2 e3 q q1 q2 r w hx hy hL hP hB hR
    · exact isDecl_4t ke kc a x y aL cL lb aP cP ps aB cB body e0 e1 e2 e3 q q1 q2 r w hx hy hL hP hB hR
    · exact isDecl_5f ke kc a x y aL cL lb aP cP ps aB cB body e0 e1 e2 e3 q q1 q2 r w hx hy hL hP hB hR
    · exact isDecl_5t ke kc a x y aL cL lb aP cP ps aB cB body e0 e1 e2 e3 q q1 q2 r w hx hy hL hP hB hR
    · exact isDecl_6f ke kc a x y aL cL lb aP cP ps aB cB body e0 e1 e2 e3 q q1 q2 r w hx hy hL hP hB hR
    · exact isDecl_6t ke kc a x y aL cL lb aP cP ps aB cB body e0 e1 e2 e3 q q1 q2 r w hx hy hL hP hB hR
    · exact isDecl_7f ke kc a x y aL cL lb aP cP ps aB cB body e0 e1 e2 e3 q q1 q2 r w hx hy hL hP hB hR
    · exact isDecl_7t ke kc a x y aL cL lb aP cP ps aB cB body e0 e1 e2 e3 q q1 q2 r w hx hy hL hP hB hR
  · have hf : dfK ke kc (deD kd a x y gv lb ps body r) = false:=by
      unfold dfK
      simp only [gDd]
      rw [show (decide (1≤kd) && decide (kd≤7)) = false by simp; omega]
      simp
    rw [hf]
    exact isDecl_out kd a x y gv aL _ cL aP _ cP aB _ cB e0 e1 e2 e3 q q1 q2 w hk
set_option maxHeartbeats 4000000 in
set_option maxRecDepth 100000 in
/-- CheckTree of any tree. -/
theorem checkTree_c (ke kc : Nat) (ds l : List D) (v : Value) (w : World) (h : ZT w ke kc v ds l) : Ro 15 #[v] w (.int .i64 (ckT ke kc ds l)):=by
  have KM0 : Hx (∀ X,Ov w X→Ro 37 #[v] X (.bool (manyP ke kc ds l))):=fun X hX => by rw [many_eq]; exact treeMany_c ke kc ds l v X (h.over hX)
  obtain ⟨ao,c,a2,c2,rfl,hD,hM⟩:=h
  obtain ⟨fin,hfin⟩:=nm (ckT ke kc ds l)
  rw [← hfin]
  unfold ckT at hfin
  obtain ⟨qm,hqm⟩:=nm (manyP ke kc ds l)
  obtain ⟨qd,hqd⟩:=nm (ds.all (dfK ke kc))
  obtain ⟨ql,hql⟩:=nm (l.all (sfK ke kc))
  rw [← hqm,← hqd,← hql] at hfin
  have HF:=hide hfin
  have HQD:=hide hqd
  have KM : Hx (∀ X,Ov w X→Ro 37 #[.agg #[.slice ao ds.length c,.slice a2 l.length c2]] X (.bool qm)):=by rw [hqm]; exact KM0
  have KL : Hx (∀ X,Ov w X→Ro 39 #[.slice a2 l.length c2] X (.bool ql)):=fun X hX => by rw [hql]; exact areStmts_c ke kc l a2 c2 X (lsC_over hX hM)
  have HD:=hide hD
  have HL:=hD.max
  obtain ⟨nn,hnn⟩:=nm ds.length
  rw [← hnn] at KM HL ⊢
  have HN:=hide hnn
  clear hfin hqm hqd hql hD hM KM0 hnn
  generalize l.length = nl at KM KL ⊢
  go_enter Tryz.func15,Tryz.ntmps15
  go_wp2_with fail
  refine (KM.o _ (bA _ _)).mono ?_
  rintro e W1 ⟨rfl,hb⟩
  have HBW : Hx (Ov w W1):=over_trans (bA _ _) hb
  have HRW : Hx (RowAt [.slice ao nn c,.slice a2 nl c2] W1 w.heap.size):=RowAt.over (al10 w [.slice ao nn c,.slice a2 nl c2] 25) hb
  clear hb KM
  generalize w.heap.size = bt at HRW ⊢
  obtain ⟨s0,s1⟩:=rc2 HRW.o
  cases qm with
  | true =>
    have HV : Hx (fin = 2):=by have h:=HF.o; simp at h; exact h
    go_wp2_with fail
    go_ret
    exact ⟨by rw [HV.o]; rfl,HBW.o⟩
  | false =>
    go_wp2_with fail
    clear s0 s1
    go_loopw [3] (fun i wr => ∃ (j : Nat),j≤nn∧i = .int .i64 j∧(ds.drop j).all (dfK ke kc) = qd∧Ov W1 wr) (fun i _ => nn - (intOf i).toNat)
    case atStart => exact ⟨0,Nat.zero_le _,rfl,HQD.o.symm,Below.refl _ _⟩
    case round =>
      obtain ⟨j,hj,rfl,hp,hB⟩:=hrel
      obtain ⟨s0,s1⟩:=rc2 (HRW.o.over hB)
      by_cases hjl : j < nn
      · have hjl0 : j < ds.length:=by have:=HN.o; omega
        have hji : (j : Int) < (nn : Int):=by omega
        obtain ⟨b,off,rfl,cs,hl12,hcs,hr⟩:=HD.o.at hjl0
        rw [List.drop_eq_getElem_cons hjl0,List.all_cons] at hp
        generalize ds[j] = dj at hp hr
        have hB0 : Ov w wr:=over_trans HBW.o hB
        obtain ⟨q9,hq9⟩:=nm (dfK ke kc dj)
        rw [← hq9] at hp
        have KC : Hx (∀ X,Ov wr X→Ro 38 #[.agg cs.toArray] X (.bool q9)):=fun X hX => by rw [hq9]; exact isDecl_c ke kc cs dj X ((hr.over hB0).over hX)
        obtain ⟨kd0,a0,x0,y0,g0,l0,l1,l2,p0,p1,p2,b0,b1,b2,e0,e1,e2,e3,q0,q1,q2,rfl⟩:=hr.cells
        have d0 : wr.cell? ⟨b,off + j * 13,none⟩ = _:=ce1 hB0 (hcs 0 _ rfl)
        have d1:=ce1 hB0 (hcs 1 _ rfl)
        have d2:=ce1 hB0 (hcs 2 _ rfl)
        have d3:=ce1 hB0 (hcs 3 _ rfl)
        have d4:=ce1 hB0 (hcs 4 _ rfl)
        have d5:=ce1 hB0 (hcs 5 _ rfl)
        have d6:=ce1 hB0 (hcs 6 _ rfl)
        have d7:=ce1 hB0 (hcs 7 _ rfl)
        have d8:=ce1 hB0 (hcs 8 _ rfl)
        have d9:=ce1 hB0 (hcs 9 _ rfl)
        have d10:=ce1 hB0 (hcs 10 _ rfl)
        have d11:=ce1 hB0 (hcs 11 _ rfl)
        have d12:=ce1 hB0 (hcs 12 _ rfl)
        have HP:=hide hp
        have HB:=hide hB
        clear hp hB hcs hl12 hr hq9 hjl0 hB0
        go_wp2_with fail
        refine (KC.o _ (Below.refl _ _)).mono ?_
        rintro e W2 ⟨rfl,hb⟩
        have HB2:=hide (over_trans HB.o hb)
        clear hb KC d0 d1 d2 d3 d4 d5 d6 d7 d8 d9 d10 d11 d12 s0 s1
        cases q9 with
        | true =>
          have hp:=HP.o
          rw [Bool.true_and] at hp
          replace HP:=hide hp
          clear hp
          go_wp2_with fail
          exact ⟨⟨j + 1,by omega,by go_num,HP.o,HB2.o⟩,by simp [intOf]; omega⟩
        | false =>
          have hp:=HP.o
          rw [Bool.false_and] at hp
          subst hp
          have HV : Hx (fin = 1):=by have h:=HF.o; simp at h; exact h
          go_wp2_with fail
          go_ret
          exact ⟨by rw [HV.o]; rfl,over_trans HBW.o HB2.o⟩
      · have hd : ds.drop j = []:=List.drop_eq_nil_of_le (by have:=HN.o; omega)
        have hji : ¬ (j : Int) < (nn : Int):=by omega
        rw [hd] at hp
        have hqd : true = qd:=by rw [← hp]; rfl
        subst hqd
        have HB:=hide (over_trans HBW.o hB)
        clear hp hd hB HQD
        go_wp2_with fail
        refine (KL.o _ HB.o).mono ?_
        rintro e W2 ⟨rfl,hb⟩
        have HB2:=hide (over_trans HB.o hb)
        clear hb KL s0 s1
        cases ql with
        | true =>
          have HV : Hx (fin = 0):=by have h:=HF.o; simp at h; exact h
          go_wp2_with fail
          go_ret
          exact ⟨by rw [HV.o]; rfl,HB2.o⟩
        | false =>
          have HV : Hx (fin = 1):=by have h:=HF.o; simp at h; exact h
          go_wp2_with fail
          go_ret
          exact ⟨by rw [HV.o]; rfl,HB2.o⟩
set_option maxHeartbeats 4000000 in
set_option maxRecDepth 100000 in
theorem treeChecks_any (ke kc : Nat) (ds l : List D) (v : Value) (w : World) (h : ZT w ke kc v ds l) : Ro 4 #[v] w (.bool true):=by
  obtain ⟨ck,hck⟩:=nm (ckT ke kc ds l)
  have KC0 : Hx (∀ X,Ov w X→Ro 14 #[v] X (.int .i64 ck)):=fun X hX => by rw [hck]; exact check_c ke kc ds l v X (h.over hX)
  have KT0 : Hx (∀ X,Ov w X→Ro 15 #[v] X (.int .i64 ck)):=fun X hX => by rw [hck]; exact checkTree_c ke kc ds l v X (h.over hX)
  obtain ⟨ao,c,a2,c2,rfl,-,-⟩:=h
  generalize ds.length = nd at KC0 KT0 ⊢
  generalize l.length = nl at KC0 KT0 ⊢
  have KC:=KC0
  have KT:=KT0
  obtain ⟨V,hV⟩:=nm (w.alloc (.cells #[.slice ao nd c,.slice a2 nl c2] 25))
  obtain ⟨bt,hbt⟩:=nm w.heap.size
  have HBV : Hx (Ov w V):=by show Ov _ _; rw [hV]; exact bA _ _
  have hRV : RowAt [.slice ao nd c,.slice a2 nl c2] V bt:=by rw [hV,hbt]; exact al10 w [.slice ao nd c,.slice a2 nl c2] 25
  obtain ⟨m0,m1⟩:=rc2 hRV
  clear hck KC0 KT0 hRV
  go_enter Tryz.func4,Tryz.ntmps4
  go_wp2_with fail
  rw [← hV,← hbt]
  clear hV hbt
  refine Go.Proofs.YtipngnjffjajpaaGreatDoor.gS (fun Wz => Below V.heap.size V Wz) (Below.refl _ _).drew fun hHeld => ?_
  generalize V.drew = W at hHeld ⊢
  refine rdA 0 rfl fun K hK => ?_
  go_simp
  refine (treeBegun_c _).mono ?_
  rintro e W2 ⟨rfl,hb⟩
  have HH2 : Hx (Ov V W2):=over_trans hHeld hb
  clear hb hHeld
  go_simp
  refine xK hK (HH2.o) fun hHeld => ?_
  clear hK K
  refine kO 1 ?_
  refine kO 2 ?_
  refine kO 4 ?_
  refine rdA 3 rfl fun K hK => ?_
  go_simp
  refine (KC.o _ (over_trans HBV.o hHeld)).mono ?_
  rintro e W3 ⟨rfl,hb⟩
  have HH3 : Hx (Ov V W3):=over_trans hHeld hb
  clear hb hHeld KC
  go_simp
  refine xK hK (HH3.o) fun hHeld => ?_
  clear hK K
  refine rdA 5 rfl fun K hK => ?_
  go_simp
  refine (KT.o _ (over_trans HBV.o hHeld)).mono ?_
  rintro e W4 ⟨rfl,hb⟩
  have HH4 : Hx (Ov V W4):=over_trans hHeld hb
  clear hb hHeld KT
  go_simp
  refine xK hK (HH4.o) fun hHeld => ?_
  clear hK K
  refine kO 6 ?_
  refine kO 7 ?_
  refine kO 8 ?_
  refine gE ?_
  clear hHeld
  go_wp2_with fail
  go_ret
  exact ⟨by simp,over_trans HBV.o HH4.o⟩
end Go.Proofs.YtipngnjffjajpaaGreatDoor.Tx
namespace Go.Proofs.YtipngnjffjajpaaGreatDoor.Tx
open Go.RowKit Go.ChangeShapes Go.WideShapes
set_option linter.unusedVariables false
theorem Tryz.kE : Tryz.prog.cellsOf 49 = 5:=by kernel_rfl
theorem Tryz.kC : Tryz.prog.cellsOf 55 = 12:=by kernel_rfl
theorem Tryz.kD : Tryz.prog.cellsOf 51 = 13:=by kernel_rfl
theorem Tryz.kP : Tryz.prog.cellsOf 53 = 4:=by kernel_rfl
theorem Tryz.kT : Tryz.prog.cellsOf 25 = 2:=by kernel_rfl
theorem Tryz.kI : Tryz.prog.cellsOf 3 = 1:=by kernel_rfl
theorem Tryz.kB : Tryz.prog.cellsOf 4 = 1:=by kernel_rfl
theorem Tryz.kS : Tryz.prog.cellsOf 9 = 1:=by kernel_rfl
theorem Tryz.k22 : Tryz.prog.cellsOf 22 = 1:=by kernel_rfl
theorem Tryz.k23 : Tryz.prog.cellsOf 23 = 1:=by kernel_rfl
theorem Tryz.k45 : Tryz.prog.cellsOf 45 = 1:=by kernel_rfl
theorem Tryz.k46 : Tryz.prog.cellsOf 46 = 1:=by kernel_rfl
theorem Tryz.k47 : Tryz.prog.cellsOf 47 = 1:=by kernel_rfl
section
variable {H : Type} {enc : TypeId × Value→H} {W : World}
theorem open_ls {α : Type} {TS E s : Nat} (hU : Tryz.prog.underlying TS = some (.slice E)) (hc : Tryz.prog.cellsOf E = s) (hs : 0 < s) {fuel : Nat} {v : Value} {x : DataW H × List MemPlace} (h : DataW.trod enc Tryz.prog W 0 (fun _ => true) true fuel TS [v] = some x)
    (d0 : α) (R : List Value→α→Prop) (hel : ∀ (m : Nat) (cs : List Value) (y : DataW H × List MemPlace),m < fuel→DataW.trod enc Tryz.prog W 0 (fun _ => true) true m E cs = some y→∃ d,R cs d) : ∃ (ds : List α) (ao : Option Addr) (cap : Nat),v = .slice ao ds.length cap∧LS s R W (.slice ao ds.length cap) ds:=by
  haveI : Inhabited α:=⟨d0⟩
  rcases DataW.trod_slice hU h with ⟨hcs,-⟩ | ⟨ad,len,cap,elems,rest,m,rfl,hcs,-,-,hlc,hcm,hen,hat,-,-⟩
  · simp at hcs
    subst hcs
    exact ⟨[],none,0,rfl,LS.nil⟩
  · simp at hcs
    subst hcs
    rw [hc] at hat
    have hget : ∀ i,i < len→∃ d : α,∃ cs : List Value,cs.length = s∧(∀ (j : Nat) (u : Value),cs[j]? = some u→W.cell? (ad.add (i * s + j)) = some u)∧R cs d:=fun i hi => by
      have hi2:=hat i hi
      rw [List.getElem?_eq_getElem (by omega),Option.bind_eq_some_iff] at hi2
      obtain ⟨cs,hcc,ht⟩:=hi2
      obtain ⟨-,hlen,hcell⟩:=World.cells?_some hcc
      obtain ⟨d,hd⟩:=hel m cs _ (Nat.lt_succ_self _) ht
      refine ⟨d,cs,hlen,fun j u hu => ?_,hd⟩
      have hj : j < s:=by have:=(List.getElem?_eq_some_iff.1 hu).1; omega
      have hk:=hcell j hj
      rw [hu] at hk
      rw [Addr.add_add] at hk
      exact hk
    obtain ⟨f,hf⟩:=Deep.choose_lt hget
    refine ⟨(List.range len).map f,some ad,cap,by simp,by simp; omega,some ad,cap,rfl,fun hne => ?_⟩
    have h0 : 0 < len:=by
      rcases Nat.eq_zero_or_pos len with h | h
      · subst h; simp at hne
      · exact h
    have hp : ∃ b off,ad = ⟨b,off,none⟩:=by
      obtain ⟨cs,hl,hcl,-⟩:=hf 0 h0
      obtain ⟨u,hu⟩ : ∃ u,cs[0]? = some u:=⟨cs[0]'(by omega),List.getElem?_eq_getElem (by omega)⟩
      have hk:=hcl 0 u hu
      have hsp : ad.spot = none:=by simpa [Addr.add] using World.cell?_spot hk
      obtain ⟨b,off,sp⟩:=ad
      simp only at hsp
      subst hsp
      exact ⟨b,off,rfl⟩
    obtain ⟨bb,off,rfl⟩:=hp
    refine ⟨bb,off,rfl,fun i d hd => ?_⟩
    have hi : i < len:=by
      have:=(List.getElem?_eq_some_iff.1 hd).1
      simpa using this
    have hd' : d = f i:=by
      rw [List.getElem?_map,List.getElem?_range hi] at hd
      simpa using hd.symm
    subst hd'
    obtain ⟨cs,hl,hcl,hr⟩:=hf i hi
    exact ⟨cs,hl,fun j u hu => by have:=hcl j u hu; rw [Addr.add_lit] at this; simpa [Nat.add_assoc] using this,hr⟩
theorem open_i {m : Nat} {cs : List Value} {y : DataW H × List MemPlace} (h : DataW.trod enc Tryz.prog W 0 (fun _ => true) true m 3 cs = some y) : ∃ n : Int,cs = [.int .i64 n]:=by
  obtain ⟨n,e,-⟩:=DataW.trod_int Tryz.underlying3 h
  exact ⟨n,e⟩
theorem open_s {m : Nat} {cs : List Value} {y : DataW H × List MemPlace} (h : DataW.trod enc Tryz.prog W 0 (fun _ => true) true m 9 cs = some y) : ∃ x : ByteArray,cs = [.string x]∧x.size≤maxLen:=by
  obtain ⟨n,e,-,hs⟩:=DataW.trod_string Tryz.underlying9 h
  exact ⟨n,e,hs⟩
theorem open_b {m : Nat} {cs : List Value} {y : DataW H × List MemPlace} (h : DataW.trod enc Tryz.prog W 0 (fun _ => true) true m 4 cs = some y) : ∃ x : Bool,cs = [.bool x]:=by
  obtain ⟨n,e,-⟩:=DataW.trod_bool Tryz.underlying4 h
  exact ⟨n,e⟩
theorem zeUp {k m : Nat} {cs : List Value} {d : D} (hk : k≤m) (h : ZE W k cs d) : ZE W m cs d:=h.up (fun _ _ h => h) hk
theorem zcUp {ke k m : Nat} {cs : List Value} {d : D} (hk : k≤m) (h : ZC W ke k cs d) : ZC W ke m cs d:=h.up (fun _ _ h => h) (Nat.le_refl _) hk
set_option maxRecDepth 100000 in
theorem open_te : ∀ (fuel : Nat) (cs : List Value) (x : DataW H × List MemPlace),DataW.trod enc Tryz.prog W 0 (fun _ => true) true fuel 49 cs = some x→∃ d,ZE W fuel cs d:=by
  intro fuel
  induction fuel using Nat.strongRecOn with
  | ind fuel ih =>
    intro cs x h
    obtain ⟨xs,n,rfl,-,hl,hxl,hf⟩:=DataW.trod_struct Tryz.underlying49 h
    rw [Tryz.kE] at hl
    match cs,hl,xs,hxl with
    | [c0,c1,c2,c3,c4],_,[y0,y1,y2,y3,y4],_ =>
      have h0:=hf 0 _ rfl
      have h1:=hf 1 _ rfl
      have h2:=hf 2 _ rfl
      have h3:=hf 3 _ rfl
      have h4:=hf 4 _ rfl
      simp [Tryz.kI,Tryz.kS,Tryz.k47] at h0 h1 h2 h3 h4
      obtain ⟨kd,e0⟩:=open_i h0
      obtain ⟨a,e1⟩:=open_i h1
      obtain ⟨m,e2⟩:=open_i h2
      obtain ⟨s,e3,hs⟩:=open_s h3
      obtain ⟨ds,ao,cap,e4,hD⟩:=open_ls Tryz.underlying47 Tryz.kE (by omega) h4 (.agg [] : D) (ZE W n) fun m cs y hm hy => by
        obtain ⟨d,hd⟩:=ih m (by omega) cs y hy
        exact ⟨d,zeUp (by omega) hd⟩
      simp at e0 e1 e2 e3
      subst e0 e1 e2 e3 e4
      exact ⟨eD kd a m s ds,kd,a,m,s,ao,cap,ds,rfl,rfl,hs,hD⟩
set_option maxRecDepth 100000 in
theorem open_tc (K : Nat) : ∀ (fuel : Nat) (cs : List Value) (x : DataW H × List MemPlace),fuel≤K→DataW.trod enc Tryz.prog W 0 (fun _ => true) true fuel 55 cs = some x→∃ d,ZC W K fuel cs d:=by
  intro fuel
  induction fuel using Nat.strongRecOn with
  | ind fuel ih =>
    intro cs x hK h
    obtain ⟨xs,n,rfl,-,hl,hxl,hf⟩:=DataW.trod_struct Tryz.underlying55 h
    rw [Tryz.kC] at hl
    match cs,hl,xs,hxl with
    | [c0,c1,c2,c3,c4,c5,c6,c7,c8,c9,c10,c11],_,[y0,y1,y2,y3,y4,y5,y6,y7],_ =>
      have h0:=hf 0 _ rfl
      have h1:=hf 1 _ rfl
      have h2:=hf 2 _ rfl
      have h3:=hf 3 _ rfl
      have h4:=hf 4 _ rfl
      have h5:=hf 5 _ rfl
      have h6:=hf 6 _ rfl
      have h7:=hf 7 _ rfl
      simp [Tryz.kI,Tryz.kS,Tryz.k47,Tryz.kE,Tryz.k23] at h0 h1 h2 h3 h4 h5 h6 h7
      obtain ⟨kd,e0⟩:=open_i h0
      obtain ⟨a,e1⟩:=open_i h1
      obtain ⟨s,e2,hs⟩:=open_s h2
      obtain ⟨t,e3,ht⟩:=open_s h3
      obtain ⟨e,he⟩:=open_te n _ _ h4
      obtain ⟨ags,aA,cA,e5,hA⟩:=open_ls Tryz.underlying47 Tryz.kE (by omega) h5 (.agg [] : D) (ZE W K) fun m cs y hm hy => by
        obtain ⟨d,hd⟩:=open_te m cs y hy
        exact ⟨d,zeUp (by omega) hd⟩
      obtain ⟨ths,aT,cT,e6,hT⟩:=open_ls Tryz.underlying23 Tryz.kC (by omega) h6 (.agg [] : D) (ZC W K n) fun m cs y hm hy => by
        obtain ⟨d,hd⟩:=ih m (by omega) cs y (by omega) hy
        exact ⟨d,zcUp (by omega) hd⟩
      obtain ⟨els,aE,cE,e7,hE⟩:=open_ls Tryz.underlying23 Tryz.kC (by omega) h7 (.agg [] : D) (ZC W K n) fun m cs y hm hy => by
        obtain ⟨d,hd⟩:=ih m (by omega) cs y (by omega) hy
        exact ⟨d,zcUp (by omega) hd⟩
      obtain ⟨k0,k1,k2,k3,q,q1,q2,hk⟩:=he.cells
      simp only [List.cons.injEq,and_true] at hk
      simp at e0 e1 e2 e3
      subst e0 e1 e2 e3 e5 e6 e7
      obtain ⟨rfl,rfl,rfl,rfl,rfl⟩:=hk
      exact ⟨stD kd a s t e ags ths els,kd,a,s,t,k0,k1,k2,k3,q,q1,q2,e,aA,cA,ags,aT,cT,ths,aE,cE,els,rfl,rfl,hs,ht,zeUp (by omega) he,hA,hT,hE⟩
theorem open_ns {fuel : Nat} {v : Value} {x : DataW H × List MemPlace} (h : DataW.trod enc Tryz.prog W 0 (fun _ => true) true fuel 46 [v] = some x) : ∃ (ns : List ByteArray) (ao : Option Addr) (cap : Nat),v = .slice ao ns.length cap∧LS 1 ZN W (.slice ao ns.length cap) ns :=
  open_ls Tryz.underlying46 Tryz.kS (by omega) h noS ZN fun m cs y hm hy => by
    obtain ⟨s,e,hs⟩:=open_s hy
    exact ⟨s,e,hs⟩
set_option maxRecDepth 100000 in
theorem open_tp {fuel : Nat} {cs : List Value} {x : DataW H × List MemPlace} (h : DataW.trod enc Tryz.prog W 0 (fun _ => true) true fuel 53 cs = some x) : ∃ d,ZP W cs d:=by
  obtain ⟨xs,n,rfl,-,hl,hxl,hf⟩:=DataW.trod_struct Tryz.underlying53 h
  rw [Tryz.kP] at hl
  match cs,hl,xs,hxl with
  | [c0,c1,c2,c3],_,[y0,y1,y2,y3],_ =>
    have h0:=hf 0 _ rfl
    have h1:=hf 1 _ rfl
    have h2:=hf 2 _ rfl
    have h3:=hf 3 _ rfl
    simp [Tryz.kI,Tryz.kS,Tryz.kB,Tryz.k46] at h0 h1 h2 h3
    obtain ⟨a,e0⟩:=open_i h0
    obtain ⟨s,e1,hs⟩:=open_s h1
    obtain ⟨b,e2⟩:=open_b h2
    obtain ⟨ns,ao,cap,e3,hN⟩:=open_ns h3
    simp at e0 e1 e2
    subst e0 e1 e2 e3
    exact ⟨polD a s b ns,a,s,b,ao,cap,ns,rfl,rfl,hs,hN⟩
set_option maxRecDepth 100000 in
theorem open_td (K : Nat) {fuel : Nat} {cs : List Value} {x : DataW H × List MemPlace} (hK : fuel≤K) (h : DataW.trod enc Tryz.prog W 0 (fun _ => true) true fuel 51 cs = some x) : ∃ d,ZD W K K cs d:=by
  obtain ⟨xs,n,rfl,-,hl,hxl,hf⟩:=DataW.trod_struct Tryz.underlying51 h
  rw [Tryz.kD] at hl
  match cs,hl,xs,hxl with
  | [c0,c1,c2,c3,c4,c5,c6,c7,c8,c9,c10,c11,c12],_,[y0,y1,y2,y3,y4,y5,y6,y7,y8],_ =>
    have h0:=hf 0 _ rfl
    have h1:=hf 1 _ rfl
    have h2:=hf 2 _ rfl
    have h3:=hf 3 _ rfl
    have h4:=hf 4 _ rfl
    have h5:=hf 5 _ rfl
    have h6:=hf 6 _ rfl
    have h7:=hf 7 _ rfl
    have h8:=hf 8 _ rfl
    simp [Tryz.kI,Tryz.kS,Tryz.kB,Tryz.k45,Tryz.k46,Tryz.k23,Tryz.kE] at h0 h1 h2 h3 h4 h5 h6 h7 h8
    obtain ⟨kd,e0⟩:=open_i h0
    obtain ⟨a,e1⟩:=open_i h1
    obtain ⟨s,e2,hs⟩:=open_s h2
    obtain ⟨t,e3,ht⟩:=open_s h3
    obtain ⟨gv,e4⟩:=open_b h4
    obtain ⟨lb,aL,cL,e5,hL⟩:=open_ls Tryz.underlying45 Tryz.kP (by omega) h5 (.agg [] : D) (ZP W) fun m cs y hm hy => open_tp hy
    obtain ⟨ps,aP,cP,e6,hP⟩:=open_ns h6
    obtain ⟨bd,aB,cB,e7,hB⟩:=open_ls Tryz.underlying23 Tryz.kC (by omega) h7 (.agg [] : D) (ZC W K K) fun m cs y hm hy => by
      obtain ⟨d,hd⟩:=open_tc K m cs y (by omega) hy
      exact ⟨d,zcUp (by omega) hd⟩
    obtain ⟨r,hr⟩:=open_te n _ _ h8
    obtain ⟨k0,k1,k2,k3,q,q1,q2,hk⟩:=hr.cells
    simp only [List.cons.injEq,and_true] at hk
    simp at e0 e1 e2 e3 e4
    subst e0 e1 e2 e3 e4 e5 e6 e7
    obtain ⟨rfl,rfl,rfl,rfl,rfl⟩:=hk
    exact ⟨deD kd a s t gv lb ps bd r,kd,a,s,t,gv,aL,cL,lb,aP,cP,ps,aB,cB,bd,k0,k1,k2,k3,q,q1,q2,r,rfl,rfl,hs,ht,hL,hP,hB,zeUp (by omega) hr⟩
set_option maxRecDepth 100000 in
/-- an argument that is a tree. -/
theorem open_tree {r : Go.Reach} {b0 : Nat} {v : Value} {d : DataW H} {p : List MemPlace} (hv : Value.okWide Tryz.prog W r b0 25 v) (h : DataW.Trod enc Tryz.prog W 0 (fun _ => true) true 25 v d p) : ∃ (K : Nat) (ds l : List D),ZT W K K v ds l:=by
  obtain ⟨cs,rfl,hsz⟩:=okWide_struct Tryz.underlying25 hv
  obtain ⟨fuel,hf0⟩:=h
  obtain ⟨xs,n,rfl,-,hl,hxl,hf⟩:=DataW.trod_struct Tryz.underlying25 hf0
  rw [Tryz.kT] at hl
  have hcs : (Value.cells (.agg cs)).toList = cs.toList:=by simp [Value.cells]
  obtain ⟨csl⟩:=cs
  simp [Value.cells] at hl hf
  match csl,hl,xs,hxl with
  | [c0,c1],_,[y0,y1],_ =>
    have h0:=hf 0 _ rfl
    have h1:=hf 1 _ rfl
    simp [Tryz.k22,Tryz.k23] at h0 h1
    obtain ⟨ds,ao,cap,e0,hD⟩:=open_ls Tryz.underlying22 Tryz.kD (by omega) h0 (.agg [] : D) (ZD W n n) fun m cs y hm hy => open_td n (by omega) hy
    obtain ⟨l,a2,c2,e1,hM⟩:=open_ls Tryz.underlying23 Tryz.kC (by omega) h1 (.agg [] : D) (ZC W n n) fun m cs y hm hy => by
      obtain ⟨d,hd⟩:=open_tc n m cs y (by omega) hy
      exact ⟨d,zcUp (by omega) hd⟩
    subst e0 e1
    exact ⟨n,ds,l,ao,cap,a2,c2,rfl,hD,hM⟩
end
end Go.Proofs.YtipngnjffjajpaaGreatDoor.Tx
