/- Package tree's reader: a call's arguments. -/
import Derived.Test.YtipngnjffjajpaaGreatDoorG08
namespace Go.Proofs.YtipngnjffjajpaaGreatDoor.Tx
open Go.RowKit
set_option linter.unusedVariables false
theorem nsr {a b : Nat} (h : a≠b) : some a≠some b:=fun e => h (by injection e)
set_option maxHeartbeats 8000000 in
set_option maxRecDepth 100000 in
theorem becomeOne {w0 wz : World} {rb : Nat} {tv : Value} {ts : List Tok} {en sb b1 b2 B : Nat} {c0 c1 c2 c3 c4 c5 c6 c7 c8 cT cE : Value} (hall : ts.all isAlone = true) (acc : List D) (n : Nat) (w : World) (h : GroB w0 wz rb tv ts en sb b1 b2 B c0 c1 c2 c3 c4 c5 c6 c7 c8 cT cE acc n w) :
    Calls Tryz.prog 169 #[.pointer (some ⟨b2,0,none⟩),.pointer (some ⟨b1,0,none⟩)] w (PostC ts en (pX ts en n) (fun a n1 e w' => e = .returned (.tuple #[])∧GroB w0 wz rb tv ts en sb b1 b2 B c0 c1 c2 c3 c4 c5 c6 c7 c8 cT cE (acc ++ [a]) n1 w') (fun w' => w0.grownBy w' (some rb))):=by
  obtain ⟨i0,hi,hz0,hz1,hz2⟩:=info_parts Tryz.infoTE
  obtain ⟨v,hbv,hcv⟩:=h.row
  have HL:=hide (hbv.row 9 _ rfl)
  have HGRO:=hide h
  have KX : Hx (∀ X,Ov w X→_):=fun X (hX : Ov w X) => expr_c (rb:=rb) (tv:=tv) (en:=en) hall n X (h.rd.st.below hX)
  have HM : Hx (∀ n a n1,pX ts en n = .inl (a,n1)→n + 1≤n1):=fun n a n1 h => (pE_few 61 0 n a n1 h).2
  obtain ⟨la,lc,hla,-⟩:=hcv.cells (by decide)
  obtain ⟨k,hk⟩:=nm acc.length
  rw [← hk] at hla
  subst hla
  have HK:=hide hk
  clear h hbv hcv hk
  go_enter Tryz.func169,Tryz.ntmps169
  go_wp2_with fail
  refine region_cut (fun act W => ∃ (q : Bool) (z : Nat),act = { tmps:=#[.pointer (some ⟨b2,0,none⟩),.pointer (some ⟨b1,0,none⟩),.pointer (some ⟨z,0,none⟩),.bool q,undef,undef,undef,undef,undef,undef,undef,undef,undef,undef,undef,undef,undef,undef,undef,undef,undef,undef,undef,undef,undef,undef,undef],defers:=[] }∧Ov w W) ?_ ?_
  · refine gS (fun _ => True) trivial fun hHeld => ?_
    refine rdA 0 rfl fun K hK => ?_
    go_simp
    refine xK hK (trivial) fun hHeld => ?_
    clear hK K
    refine rdB 1 2 rfl (fun K hK => ?_) rfl fun K hK => ?_
    · go_simp
      refine xK hK (trivial) fun hHeld => ?_
      clear hK K
      refine rdA 2 rfl fun K hK => ?_
      go_simp
      refine xK hK (trivial) fun hHeld => ?_
      clear hK K
      refine rdA 3 rfl fun K hK => ?_
      go_simp
      refine xK hK (trivial) fun hHeld => ?_
      clear hK K
      refine gE ?_
      exact onlyN_intro ⟨_,_,rfl,over_trans (bD w) (bA _ _)⟩
    · go_simp
      refine xK hK (trivial) fun hHeld => ?_
      clear hK K
      refine rdA 1 rfl fun K hK => ?_
      go_simp
      refine xK hK (trivial) fun hHeld => ?_
      clear hK K
      refine rdA 3 rfl fun K hK => ?_
      go_simp
      refine xK hK (trivial) fun hHeld => ?_
      clear hK K
      refine gE ?_
      exact onlyN_intro ⟨_,_,rfl,over_trans (bD w) (bA _ _)⟩
  · rintro act V ⟨q,z,rfl,hov⟩
    have HOV:=hide hov
    have x0:=ce1 hov (HGRO.o.r2.row 0 _ rfl)
    have y0:=ce1 hov (HGRO.o.r1.row 0 _ rfl)
    have s0:=ce1 hov HL.o
    clear hov
    cases q with
    | false =>
      go_wp2_with fail
      refine gS (fun Wz => Wz.cell? ⟨b2,0,none⟩ = some (.pointer (some ⟨sb,0,none⟩))∧Wz.cell? ⟨b1,0,none⟩ = some (.pointer (some ⟨rb,0,none⟩))) ⟨ce1 (bD V) x0,ce1 (bD V) y0⟩ fun hHeld => ?_
      have HDD : Hx (Ov w V.drew):=over_trans HOV.o (bD V)
      have sv:=ce1 (bD V) s0
      generalize V.drew = W at hHeld HDD sv ⊢
      refine kT 0 ?_
      refine kT 1 ?_
      refine kT 2 ?_
      refine kT 3 ?_
      refine kT 5 ?_
      refine rdB 4 6 rfl (fun K hK => ?_) rfl fun K hK => ?_
      · first | (have sx:=s2; go_simp) | (have sx:=s1; go_simp) | (have sx:=sv; go_simp)
        refine xK hK (hHeld) fun hHeld => ?_
        clear hK K
        refine rdA 6 rfl fun K hK => ?_
        go_simp
        refine (KX.o _ HDD.o).mono ?_
        rintro e w1 hp
        obtain ⟨m,ho⟩ | ⟨a,n1,ho⟩:=res_cases (pX ts en n)
        · rw [ho] at hp
          obtain ⟨rfl,hg⟩:=hp
          have HG:=hide (grownBy_trans (grownBy_trans HGRO.o.rd.gr (grownBy_below HDD.o)) hg)
          have HO:=hide ho
          clear hg ho hK hHeld
          unfold gaveUpAt
          go_simp
          refine ⟨rfl,?_⟩
          rw [HO.o]
          exact ⟨rfl,HG.o⟩
        rw [ho] at hp
        obtain ⟨k0,k1,k2,k3,k4,k5,k6,rfl,hof,-,-,hg1,hst1⟩:=hp
        have HOFF:=hide (hof.base HDD.o.size)
        have HO:=hide ho
        have hgw : w.grownBy w1 (some rb):=grownBy_trans (grownBy_below HDD.o) hg1
        have HG1:=hide hgw
        have HST1:=hide hst1
        have HGR1:=hide hg1
        have hr:=HGRO.o.rd.rlt
        have hs0:=HGRO.o.s0
        have hp0:=HGRO.o.p0
        have hq0:=HGRO.o.q0
        have s1 : w1.cell? ⟨sb,9,none⟩ = some (.slice la k lc):=hgw.cell HL.o (nsr (by show sb≠rb; omega))
        have x1 : w1.cell? ⟨b2,0,none⟩ = some (.pointer (some ⟨sb,0,none⟩)):=hgw.cell (HGRO.o.r2.row 0 _ rfl) (nsr (by show b2≠rb; omega))
        have y1 : w1.cell? ⟨b1,0,none⟩ = some (.pointer (some ⟨rb,0,none⟩)):=hgw.cell (HGRO.o.r1.row 0 _ rfl) (nsr (by show b1≠rb; omega))
        try (replace HZ:=hide (fun j u hu => HGR1.o.cell (HZ.o j u hu) (nsr (by have:=HZB.o; have:=HGRO.o.rd.rlt; have:=HGRO.o.rd.size; show zb≠rb; omega)) : RowAt [.int .i64 0,.int .i64 0,.int .i64 0,.string ⟨#[]⟩,.slice none 0 0] w1 zb))
        clear ho hg1 hst1 hgw hHeld hof hr hs0 hp0 hq0
        go_simp
        refine xK hK (⟨x1,y1⟩) fun hHeld => ?_
        clear hK K
        refine rdA 7 rfl fun K hK => ?_
        obtain ⟨W2,hW2⟩:=nm (w1.alloc (.cells #[.int .i64 k0,.int .i64 k1,.int .i64 k2,.string k3,.slice k4 k5 k6] 49))
        obtain ⟨zb,hzb⟩:=nm w1.heap.size
        have HB2 : Hx (Ov w1 W2):=by show Ov _ _; rw [hW2]; exact bA _ _
        have HZ : Hx (RowAt [.int .i64 k0,.int .i64 k1,.int .i64 k2,.string k3,.slice k4 k5 k6] W2 zb):=by show RowAt _ _ _; rw [hW2,hzb]; exact al10 w1 [.int .i64 k0,.int .i64 k1,.int .i64 k2,.string k3,.slice k4 k5 k6] 49
        have x2:=ce1 HB2.o x1
        have y2:=ce1 HB2.o y1
        have s2:=ce1 HB2.o s1
        have HCUR : Hx (W2.cell? ⟨b2,0,none⟩ = some (.pointer (some ⟨sb,0,none⟩))∧W2.cell? ⟨b1,0,none⟩ = some (.pointer (some ⟨rb,0,none⟩))):=⟨x2,y2⟩
        go_simp
        rw [← hW2,← hzb]
        clear hW2 hzb hHeld
        refine xK hK (HCUR.o) fun hHeld => ?_
        clear hK K
        refine rdA 8 rfl fun K hK => ?_
        first
          | (have t1:=HB2.o
             clear t1)
          | (obtain ⟨W2,hW2⟩:=nm w1
             have HB2 : Hx (Ov w1 W2):=by show Ov _ _; rw [hW2]; exact Below.refl _ _
             have x2:=ce1 HB2.o x1
             have y2:=ce1 HB2.o y1
             have s2:=ce1 HB2.o s1
             rw [← hW2] at HZ ⊢
             clear hW2)
        obtain ⟨xs,hown,hel,hrow⟩:=HGRO.o.app HL.o HG1.o HB2.o
        have hs2 : B≤W2.heap.size:=Nat.le_trans HGRO.o.sz (Nat.le_trans HG1.o.size HB2.o.size)
        have hfw : acc.length≤6000:=Nat.le_trans HGRO.o.few (Nat.le_trans HGRO.o.rd.st.2.1 HGRO.o.rd.st.2.2.1)
        obtain ⟨v2,W3,hrun,hown3,hgr3,-,hat⟩:=run_append_own_at (P:=Tryz.prog) (w:=W2) B 47 47 49 i0 (.agg #[.int .i64 0,.int .i64 0,.int .i64 0,.string ⟨#[]⟩,.slice none 0 0]) 5 64 Tryz.underlying47 hi hz0 hz1 hz2 rfl (by decide) _ _ _ hown ⟨zb,0,none⟩ 1 1 [.int .i64 k0,.int .i64 k1,.int .i64 k2,.string k3,.slice k4 k5 k6] rfl (fun jj u hu => by rw [Addr.add_lit,Nat.zero_add]; exact HZ.o jj u hu) (by simp [Value.oneCell']) (by unfold maxLen; omega) (by omega) hs2
        have hnb : ∀ i,i < B→some i≠(Value.slice la k lc).ownBlock:=fun i hk e => by have:=(own_lt hown e.symm).1; omega
        have l3 : W3.cell? ⟨sb,9,none⟩ = some (.slice la k lc):=(World.cell?_of_block (a:=⟨sb,9,none⟩) (hgr3.block sb (bL s2) (hnb sb HGRO.o.s1))).trans s2
        have x3 : W3.cell? ⟨b2,0,none⟩ = some (.pointer (some ⟨sb,0,none⟩)):=(World.cell?_of_block (a:=⟨b2,0,none⟩) (hgr3.block b2 (bL x2) (hnb b2 HGRO.o.q1))).trans x2
        have y3 : W3.cell? ⟨b1,0,none⟩ = some (.pointer (some ⟨rb,0,none⟩)):=(World.cell?_of_block (a:=⟨b1,0,none⟩) (hgr3.block b1 (bL y2) (hnb b1 HGRO.o.p1))).trans y2
        obtain ⟨v',hbx,-⟩:=(HGRO.o.move (Nat.le_of_lt (HM.o _ _ _ HO.o)) HG1.o HST1.o).row
        have hve : v' = .slice la k lc:=by
          have t1:=hbx.row 9 _ rfl
          rw [s1] at t1
          injection t1 with t1
          exact t1.symm
        subst hve
        have hbx2:=hbx.over HB2.o
        have hbx3 : Bx sb [c0,c1,c2,c3,c4,c5,c6,c7,c8,.slice la k lc,cT,cE] W3:=⟨fun j u hu => (World.cell?_of_block (a:=⟨sb,j,none⟩) (hgr3.block sb hbx2.lt (hnb sb HGRO.o.s1))).trans (hbx2.row j u hu),fun j => (World.frozen?_of_block (a:=⟨sb,j,none⟩) (hgr3.block sb hbx2.lt (hnb sb HGRO.o.s1))).trans (hbx2.fz j),Nat.lt_of_lt_of_le hbx2.lt hgr3.size⟩
        have f3:=hbx3.fz 9
        have HBX3:=hide hbx3
        have HOWN:=hide hown
        have HEL:=hide hel
        have HROW:=hide hrow
        have HOWN3:=hide hown3
        have HGR3:=hide hgr3
        have HAT:=hide hat
        have HCUR3 : Hx (W3.cell? ⟨b2,0,none⟩ = some (.pointer (some ⟨sb,0,none⟩))∧W3.cell? ⟨b1,0,none⟩ = some (.pointer (some ⟨rb,0,none⟩))):=⟨x3,y3⟩
        obtain ⟨va2,vn2,vc2,hv2⟩:=own_form hown3
        subst hv2
        refine step_appJ rfl _ _ _ rfl _ _ _ _ rfl rfl hrun ?_
        clear hrun hown hel hown3 hgr3 hat hrow hfw hs2 hnb hbx hbx2 hbx3
        refine xK hK (HCUR3.o) fun hHeld => ?_
        clear hK K
        refine kT 9 ?_
        refine kT 10 ?_
        refine rdA 11 rfl fun K hK => ?_
        go_simp
        refine xK hK (⟨by rw [World.cell?_setCell_far _ _ _ _ HGRO.o.n2]; exact HCUR3.o.1,by rw [World.cell?_setCell_far _ _ _ _ HGRO.o.n1]; exact HCUR3.o.2⟩) fun hHeld => ?_
        clear hK K
        refine gE ?_
        have hfin : GroB w0 wz rb tv ts en sb b1 b2 B c0 c1 c2 c3 c4 c5 c6 c7 c8 cT cE (acc ++ [a]) n1 (W3.setCell ⟨sb,9,none⟩ (.slice va2 vn2 vc2)):=HGRO.o.fin (v:=.slice la k lc) (cs:=[.int .i64 k0,.int .i64 k1,.int .i64 k2,.string k3,.slice k4 k5 k6]) HG1.o HST1.o (HM.o _ _ _ HO.o) HB2.o HOWN.o HEL.o HROW.o rfl HOFF.o (fun k k1 k2 k3 => by rw [Below.heap_setCell _ _ _ _ k3]; exact HGR3.o.block k k1 k2) (by have t:=HGR3.o.size; simpa [World.setCell] using t) HGR3.o.os HGR3.o.tape HGR3.o.output (HBX3.o.set (j:=9) (by simp)) (ownsRow_setCell_below HOWN3.o HGRO.o.s1 _) HAT.o
        have HFIN:=hide hfin
        clear hfin
        go_wp2_with fail
        go_end0
        rw [HO.o]
        exact ⟨rfl,HFIN.o⟩
      · go_simp
        refine (KX.o _ HDD.o).mono ?_
        rintro e w1 hp
        obtain ⟨m,ho⟩ | ⟨a,n1,ho⟩:=res_cases (pX ts en n)
        · rw [ho] at hp
          obtain ⟨rfl,hg⟩:=hp
          have HG:=hide (grownBy_trans (grownBy_trans HGRO.o.rd.gr (grownBy_below HDD.o)) hg)
          have HO:=hide ho
          clear hg ho hK hHeld
          unfold gaveUpAt
          go_simp
          refine ⟨rfl,?_⟩
          rw [HO.o]
          exact ⟨rfl,HG.o⟩
        rw [ho] at hp
        obtain ⟨k0,k1,k2,k3,k4,k5,k6,rfl,hof,-,-,hg1,hst1⟩:=hp
        have HOFF:=hide (hof.base HDD.o.size)
        have HO:=hide ho
        have hgw : w.grownBy w1 (some rb):=grownBy_trans (grownBy_below HDD.o) hg1
        have HG1:=hide hgw
        have HST1:=hide hst1
        have HGR1:=hide hg1
        have hr:=HGRO.o.rd.rlt
        have hs0:=HGRO.o.s0
        have hp0:=HGRO.o.p0
        have hq0:=HGRO.o.q0
        have s1 : w1.cell? ⟨sb,9,none⟩ = some (.slice la k lc):=hgw.cell HL.o (nsr (by show sb≠rb; omega))
        have x1 : w1.cell? ⟨b2,0,none⟩ = some (.pointer (some ⟨sb,0,none⟩)):=hgw.cell (HGRO.o.r2.row 0 _ rfl) (nsr (by show b2≠rb; omega))
        have y1 : w1.cell? ⟨b1,0,none⟩ = some (.pointer (some ⟨rb,0,none⟩)):=hgw.cell (HGRO.o.r1.row 0 _ rfl) (nsr (by show b1≠rb; omega))
        try (replace HZ:=hide (fun j u hu => HGR1.o.cell (HZ.o j u hu) (nsr (by have:=HZB.o; have:=HGRO.o.rd.rlt; have:=HGRO.o.rd.size; show zb≠rb; omega)) : RowAt [.int .i64 0,.int .i64 0,.int .i64 0,.string ⟨#[]⟩,.slice none 0 0] w1 zb))
        clear ho hg1 hst1 hgw hHeld hof hr hs0 hp0 hq0
        go_simp
        refine xK hK (⟨x1,y1⟩) fun hHeld => ?_
        clear hK K
        refine rdB 4 7 rfl (fun K hK => ?_) rfl fun K hK => ?_
        · first | (have sx:=s2; go_simp) | (have sx:=s1; go_simp) | (have sx:=sv; go_simp)
          refine xK hK (hHeld) fun hHeld => ?_
          clear hK K
          refine rdA 7 rfl fun K hK => ?_
          obtain ⟨W2,hW2⟩:=nm (w1.alloc (.cells #[.int .i64 k0,.int .i64 k1,.int .i64 k2,.string k3,.slice k4 k5 k6] 49))
          obtain ⟨zb,hzb⟩:=nm w1.heap.size
          have HB2 : Hx (Ov w1 W2):=by show Ov _ _; rw [hW2]; exact bA _ _
          have HZ : Hx (RowAt [.int .i64 k0,.int .i64 k1,.int .i64 k2,.string k3,.slice k4 k5 k6] W2 zb):=by show RowAt _ _ _; rw [hW2,hzb]; exact al10 w1 [.int .i64 k0,.int .i64 k1,.int .i64 k2,.string k3,.slice k4 k5 k6] 49
          have x2:=ce1 HB2.o x1
          have y2:=ce1 HB2.o y1
          have s2:=ce1 HB2.o s1
          have HCUR : Hx (W2.cell? ⟨b2,0,none⟩ = some (.pointer (some ⟨sb,0,none⟩))∧W2.cell? ⟨b1,0,none⟩ = some (.pointer (some ⟨rb,0,none⟩))):=⟨x2,y2⟩
          go_simp
          rw [← hW2,← hzb]
          clear hW2 hzb hHeld
          refine xK hK (HCUR.o) fun hHeld => ?_
          clear hK K
          refine rdA 8 rfl fun K hK => ?_
          first
            | (have t1:=HB2.o
               clear t1)
            | (obtain ⟨W2,hW2⟩:=nm w1
               have HB2 : Hx (Ov w1 W2):=by show Ov _ _; rw [hW2]; exact Below.refl _ _
               have x2:=ce1 HB2.o x1
               have y2:=ce1 HB2.o y1
               have s2:=ce1 HB2.o s1
               rw [← hW2] at HZ ⊢
               clear hW2)
          obtain ⟨xs,hown,hel,hrow⟩:=HGRO.o.app HL.o HG1.o HB2.o
          have hs2 : B≤W2.heap.size:=Nat.le_trans HGRO.o.sz (Nat.le_trans HG1.o.size HB2.o.size)
          have hfw : acc.length≤6000:=Nat.le_trans HGRO.o.few (Nat.le_trans HGRO.o.rd.st.2.1 HGRO.o.rd.st.2.2.1)
          obtain ⟨v2,W3,hrun,hown3,hgr3,-,hat⟩:=run_append_own_at (P:=Tryz.prog) (w:=W2) B 47 47 49 i0 (.agg #[.int .i64 0,.int .i64 0,.int .i64 0,.string ⟨#[]⟩,.slice none 0 0]) 5 64 Tryz.underlying47 hi hz0 hz1 hz2 rfl (by decide) _ _ _ hown ⟨zb,0,none⟩ 1 1 [.int .i64 k0,.int .i64 k1,.int .i64 k2,.string k3,.slice k4 k5 k6] rfl (fun jj u hu => by rw [Addr.add_lit,Nat.zero_add]; exact HZ.o jj u hu) (by simp [Value.oneCell']) (by unfold maxLen; omega) (by omega) hs2
          have hnb : ∀ i,i < B→some i≠(Value.slice la k lc).ownBlock:=fun i hk e => by have:=(own_lt hown e.symm).1; omega
          have l3 : W3.cell? ⟨sb,9,none⟩ = some (.slice la k lc):=(World.cell?_of_block (a:=⟨sb,9,none⟩) (hgr3.block sb (bL s2) (hnb sb HGRO.o.s1))).trans s2
          have x3 : W3.cell? ⟨b2,0,none⟩ = some (.pointer (some ⟨sb,0,none⟩)):=(World.cell?_of_block (a:=⟨b2,0,none⟩) (hgr3.block b2 (bL x2) (hnb b2 HGRO.o.q1))).trans x2
          have y3 : W3.cell? ⟨b1,0,none⟩ = some (.pointer (some ⟨rb,0,none⟩)):=(World.cell?_of_block (a:=⟨b1,0,none⟩) (hgr3.block b1 (bL y2) (hnb b1 HGRO.o.p1))).trans y2
          obtain ⟨v',hbx,-⟩:=(HGRO.o.move (Nat.le_of_lt (HM.o _ _ _ HO.o)) HG1.o HST1.o).row
          have hve : v' = .slice la k lc:=by
            have t1:=hbx.row 9 _ rfl
            rw [s1] at t1
            injection t1 with t1
            exact t1.symm
          subst hve
          have hbx2:=hbx.over HB2.o
          have hbx3 : Bx sb [c0,c1,c2,c3,c4,c5,c6,c7,c8,.slice la k lc,cT,cE] W3:=⟨fun j u hu => (World.cell?_of_block (a:=⟨sb,j,none⟩) (hgr3.block sb hbx2.lt (hnb sb HGRO.o.s1))).trans (hbx2.row j u hu),fun j => (World.frozen?_of_block (a:=⟨sb,j,none⟩) (hgr3.block sb hbx2.lt (hnb sb HGRO.o.s1))).trans (hbx2.fz j),Nat.lt_of_lt_of_le hbx2.lt hgr3.size⟩
          have f3:=hbx3.fz 9
          have HBX3:=hide hbx3
          have HOWN:=hide hown
          have HEL:=hide hel
          have HROW:=hide hrow
          have HOWN3:=hide hown3
          have HGR3:=hide hgr3
          have HAT:=hide hat
          have HCUR3 : Hx (W3.cell? ⟨b2,0,none⟩ = some (.pointer (some ⟨sb,0,none⟩))∧W3.cell? ⟨b1,0,none⟩ = some (.pointer (some ⟨rb,0,none⟩))):=⟨x3,y3⟩
          obtain ⟨va2,vn2,vc2,hv2⟩:=own_form hown3
          subst hv2
          refine step_appJ rfl _ _ _ rfl _ _ _ _ rfl rfl hrun ?_
          clear hrun hown hel hown3 hgr3 hat hrow hfw hs2 hnb hbx hbx2 hbx3
          refine xK hK (HCUR3.o) fun hHeld => ?_
          clear hK K
          refine kT 9 ?_
          refine kT 10 ?_
          refine rdA 11 rfl fun K hK => ?_
          go_simp
          refine xK hK (⟨by rw [World.cell?_setCell_far _ _ _ _ HGRO.o.n2]; exact HCUR3.o.1,by rw [World.cell?_setCell_far _ _ _ _ HGRO.o.n1]; exact HCUR3.o.2⟩) fun hHeld => ?_
          clear hK K
          refine gE ?_
          have hfin : GroB w0 wz rb tv ts en sb b1 b2 B c0 c1 c2 c3 c4 c5 c6 c7 c8 cT cE (acc ++ [a]) n1 (W3.setCell ⟨sb,9,none⟩ (.slice va2 vn2 vc2)):=HGRO.o.fin (v:=.slice la k lc) (cs:=[.int .i64 k0,.int .i64 k1,.int .i64 k2,.string k3,.slice k4 k5 k6]) HG1.o HST1.o (HM.o _ _ _ HO.o) HB2.o HOWN.o HEL.o HROW.o rfl HOFF.o (fun k k1 k2 k3 => by rw [Below.heap_setCell _ _ _ _ k3]; exact HGR3.o.block k k1 k2) (by have t:=HGR3.o.size; simpa [World.setCell] using t) HGR3.o.os HGR3.o.tape HGR3.o.output (HBX3.o.set (j:=9) (by simp)) (ownsRow_setCell_below HOWN3.o HGRO.o.s1 _) HAT.o
          have HFIN:=hide hfin
          clear hfin
          go_wp2_with fail
          go_end0
          rw [HO.o]
          exact ⟨rfl,HFIN.o⟩
        · obtain ⟨W2,hW2⟩:=nm (w1.alloc (.cells #[.int .i64 k0,.int .i64 k1,.int .i64 k2,.string k3,.slice k4 k5 k6] 49))
          obtain ⟨zb,hzb⟩:=nm w1.heap.size
          have HB2 : Hx (Ov w1 W2):=by show Ov _ _; rw [hW2]; exact bA _ _
          have HZ : Hx (RowAt [.int .i64 k0,.int .i64 k1,.int .i64 k2,.string k3,.slice k4 k5 k6] W2 zb):=by show RowAt _ _ _; rw [hW2,hzb]; exact al10 w1 [.int .i64 k0,.int .i64 k1,.int .i64 k2,.string k3,.slice k4 k5 k6] 49
          have x2:=ce1 HB2.o x1
          have y2:=ce1 HB2.o y1
          have s2:=ce1 HB2.o s1
          have HCUR : Hx (W2.cell? ⟨b2,0,none⟩ = some (.pointer (some ⟨sb,0,none⟩))∧W2.cell? ⟨b1,0,none⟩ = some (.pointer (some ⟨rb,0,none⟩))):=⟨x2,y2⟩
          go_simp
          rw [← hW2,← hzb]
          clear hW2 hzb hHeld
          refine xK hK (HCUR.o) fun hHeld => ?_
          clear hK K
          refine rdA 4 rfl fun K hK => ?_
          first | (have sx:=s2; go_simp) | (have sx:=s1; go_simp) | (have sx:=sv; go_simp)
          refine xK hK (hHeld) fun hHeld => ?_
          clear hK K
          refine rdA 8 rfl fun K hK => ?_
          first
            | (have t1:=HB2.o
               clear t1)
            | (obtain ⟨W2,hW2⟩:=nm w1
               have HB2 : Hx (Ov w1 W2):=by show Ov _ _; rw [hW2]; exact Below.refl _ _
               have x2:=ce1 HB2.o x1
               have y2:=ce1 HB2.o y1
               have s2:=ce1 HB2.o s1
               rw [← hW2] at HZ ⊢
               clear hW2)
          obtain ⟨xs,hown,hel,hrow⟩:=HGRO.o.app HL.o HG1.o HB2.o
          have hs2 : B≤W2.heap.size:=Nat.le_trans HGRO.o.sz (Nat.le_trans HG1.o.size HB2.o.size)
          have hfw : acc.length≤6000:=Nat.le_trans HGRO.o.few (Nat.le_trans HGRO.o.rd.st.2.1 HGRO.o.rd.st.2.2.1)
          obtain ⟨v2,W3,hrun,hown3,hgr3,-,hat⟩:=run_append_own_at (P:=Tryz.prog) (w:=W2) B 47 47 49 i0 (.agg #[.int .i64 0,.int .i64 0,.int .i64 0,.string ⟨#[]⟩,.slice none 0 0]) 5 64 Tryz.underlying47 hi hz0 hz1 hz2 rfl (by decide) _ _ _ hown ⟨zb,0,none⟩ 1 1 [.int .i64 k0,.int .i64 k1,.int .i64 k2,.string k3,.slice k4 k5 k6] rfl (fun jj u hu => by rw [Addr.add_lit,Nat.zero_add]; exact HZ.o jj u hu) (by simp [Value.oneCell']) (by unfold maxLen; omega) (by omega) hs2
          have hnb : ∀ i,i < B→some i≠(Value.slice la k lc).ownBlock:=fun i hk e => by have:=(own_lt hown e.symm).1; omega
          have l3 : W3.cell? ⟨sb,9,none⟩ = some (.slice la k lc):=(World.cell?_of_block (a:=⟨sb,9,none⟩) (hgr3.block sb (bL s2) (hnb sb HGRO.o.s1))).trans s2
          have x3 : W3.cell? ⟨b2,0,none⟩ = some (.pointer (some ⟨sb,0,none⟩)):=(World.cell?_of_block (a:=⟨b2,0,none⟩) (hgr3.block b2 (bL x2) (hnb b2 HGRO.o.q1))).trans x2
          have y3 : W3.cell? ⟨b1,0,none⟩ = some (.pointer (some ⟨rb,0,none⟩)):=(World.cell?_of_block (a:=⟨b1,0,none⟩) (hgr3.block b1 (bL y2) (hnb b1 HGRO.o.p1))).trans y2
          obtain ⟨v',hbx,-⟩:=(HGRO.o.move (Nat.le_of_lt (HM.o _ _ _ HO.o)) HG1.o HST1.o).row
          have hve : v' = .slice la k lc:=by
            have t1:=hbx.row 9 _ rfl
            rw [s1] at t1
            injection t1 with t1
            exact t1.symm
          subst hve
          have hbx2:=hbx.over HB2.o
          have hbx3 : Bx sb [c0,c1,c2,c3,c4,c5,c6,c7,c8,.slice la k lc,cT,cE] W3:=⟨fun j u hu => (World.cell?_of_block (a:=⟨sb,j,none⟩) (hgr3.block sb hbx2.lt (hnb sb HGRO.o.s1))).trans (hbx2.row j u hu),fun j => (World.frozen?_of_block (a:=⟨sb,j,none⟩) (hgr3.block sb hbx2.lt (hnb sb HGRO.o.s1))).trans (hbx2.fz j),Nat.lt_of_lt_of_le hbx2.lt hgr3.size⟩
          have f3:=hbx3.fz 9
          have HBX3:=hide hbx3
          have HOWN:=hide hown
          have HEL:=hide hel
          have HROW:=hide hrow
          have HOWN3:=hide hown3
          have HGR3:=hide hgr3
          have HAT:=hide hat
          have HCUR3 : Hx (W3.cell? ⟨b2,0,none⟩ = some (.pointer (some ⟨sb,0,none⟩))∧W3.cell? ⟨b1,0,none⟩ = some (.pointer (some ⟨rb,0,none⟩))):=⟨x3,y3⟩
          obtain ⟨va2,vn2,vc2,hv2⟩:=own_form hown3
          subst hv2
          refine step_appJ rfl _ _ _ rfl _ _ _ _ rfl rfl hrun ?_
          clear hrun hown hel hown3 hgr3 hat hrow hfw hs2 hnb hbx hbx2 hbx3
          refine xK hK (HCUR3.o) fun hHeld => ?_
          clear hK K
          refine kT 9 ?_
          refine kT 10 ?_
          refine rdA 11 rfl fun K hK => ?_
          go_simp
          refine xK hK (⟨by rw [World.cell?_setCell_far _ _ _ _ HGRO.o.n2]; exact HCUR3.o.1,by rw [World.cell?_setCell_far _ _ _ _ HGRO.o.n1]; exact HCUR3.o.2⟩) fun hHeld => ?_
          clear hK K
          refine gE ?_
          have hfin : GroB w0 wz rb tv ts en sb b1 b2 B c0 c1 c2 c3 c4 c5 c6 c7 c8 cT cE (acc ++ [a]) n1 (W3.setCell ⟨sb,9,none⟩ (.slice va2 vn2 vc2)):=HGRO.o.fin (v:=.slice la k lc) (cs:=[.int .i64 k0,.int .i64 k1,.int .i64 k2,.string k3,.slice k4 k5 k6]) HG1.o HST1.o (HM.o _ _ _ HO.o) HB2.o HOWN.o HEL.o HROW.o rfl HOFF.o (fun k k1 k2 k3 => by rw [Below.heap_setCell _ _ _ _ k3]; exact HGR3.o.block k k1 k2) (by have t:=HGR3.o.size; simpa [World.setCell] using t) HGR3.o.os HGR3.o.tape HGR3.o.output (HBX3.o.set (j:=9) (by simp)) (ownsRow_setCell_below HOWN3.o HGRO.o.s1 _) HAT.o
          have HFIN:=hide hfin
          clear hfin
          go_wp2_with fail
          go_end0
          rw [HO.o]
          exact ⟨rfl,HFIN.o⟩
    | true =>
      go_wp2_with fail
      refine gS (fun Wz => Wz.cell? ⟨b2,0,none⟩ = some (.pointer (some ⟨sb,0,none⟩))∧Wz.cell? ⟨b1,0,none⟩ = some (.pointer (some ⟨rb,0,none⟩))) ⟨ce1 (bD V) x0,ce1 (bD V) y0⟩ fun hHeld => ?_
      have HDD : Hx (Ov w V.drew):=over_trans HOV.o (bD V)
      have sv:=ce1 (bD V) s0
      generalize V.drew = W at hHeld HDD sv ⊢
      refine kT 0 ?_
      refine kT 1 ?_
      refine kT 2 ?_
      refine kT 4 ?_
      refine rdC 3 5 7 rfl (fun K hK => ?_) rfl (fun K hK => ?_) rfl fun K hK => ?_
      · first | (have sx:=s2; go_simp) | (have sx:=s1; go_simp) | (have sx:=sv; go_simp)
        refine xK hK (hHeld) fun hHeld => ?_
        clear hK K
        refine kT 6 ?_
        refine rdB 5 7 rfl (fun K hK => ?_) rfl fun K hK => ?_
        · go_simp
          refine (KX.o _ HDD.o).mono ?_
          rintro e w1 hp
          obtain ⟨m,ho⟩ | ⟨a,n1,ho⟩:=res_cases (pX ts en n)
          · rw [ho] at hp
            obtain ⟨rfl,hg⟩:=hp
            have HG:=hide (grownBy_trans (grownBy_trans HGRO.o.rd.gr (grownBy_below HDD.o)) hg)
            have HO:=hide ho
            clear hg ho hK hHeld
            unfold gaveUpAt
            go_simp
            refine ⟨rfl,?_⟩
            rw [HO.o]
            exact ⟨rfl,HG.o⟩
          rw [ho] at hp
          obtain ⟨k0,k1,k2,k3,k4,k5,k6,rfl,hof,-,-,hg1,hst1⟩:=hp
          have HOFF:=hide (hof.base HDD.o.size)
          have HO:=hide ho
          have hgw : w.grownBy w1 (some rb):=grownBy_trans (grownBy_below HDD.o) hg1
          have HG1:=hide hgw
          have HST1:=hide hst1
          have HGR1:=hide hg1
          have hr:=HGRO.o.rd.rlt
          have hs0:=HGRO.o.s0
          have hp0:=HGRO.o.p0
          have hq0:=HGRO.o.q0
          have s1 : w1.cell? ⟨sb,9,none⟩ = some (.slice la k lc):=hgw.cell HL.o (nsr (by show sb≠rb; omega))
          have x1 : w1.cell? ⟨b2,0,none⟩ = some (.pointer (some ⟨sb,0,none⟩)):=hgw.cell (HGRO.o.r2.row 0 _ rfl) (nsr (by show b2≠rb; omega))
          have y1 : w1.cell? ⟨b1,0,none⟩ = some (.pointer (some ⟨rb,0,none⟩)):=hgw.cell (HGRO.o.r1.row 0 _ rfl) (nsr (by show b1≠rb; omega))
          try (replace HZ:=hide (fun j u hu => HGR1.o.cell (HZ.o j u hu) (nsr (by have:=HZB.o; have:=HGRO.o.rd.rlt; have:=HGRO.o.rd.size; show zb≠rb; omega)) : RowAt [.int .i64 0,.int .i64 0,.int .i64 0,.string ⟨#[]⟩,.slice none 0 0] w1 zb))
          clear ho hg1 hst1 hgw hHeld hof hr hs0 hp0 hq0
          go_simp
          refine xK hK (⟨x1,y1⟩) fun hHeld => ?_
          clear hK K
          refine rdA 7 rfl fun K hK => ?_
          first
            | (have t1:=HO.o
               clear t1
               obtain ⟨W2,hW2⟩:=nm (w1.alloc (.cells #[.int .i64 0,.int .i64 0,.int .i64 0,.string ⟨#[]⟩,.slice none 0 0] 49))
               obtain ⟨zb,hzb⟩:=nm w1.heap.size
               have HB2 : Hx (Ov w1 W2):=by show Ov _ _; rw [hW2]; exact bA _ _
               have HZ : Hx (RowAt [.int .i64 0,.int .i64 0,.int .i64 0,.string ⟨#[]⟩,.slice none 0 0] W2 zb):=by show RowAt _ _ _; rw [hW2,hzb]; exact al10 w1 [.int .i64 0,.int .i64 0,.int .i64 0,.string ⟨#[]⟩,.slice none 0 0] 49
               have x2:=ce1 HB2.o x1
               have y2:=ce1 HB2.o y1
               have s2:=ce1 HB2.o s1
               have HCUR : Hx (W2.cell? ⟨b2,0,none⟩ = some (.pointer (some ⟨sb,0,none⟩))∧W2.cell? ⟨b1,0,none⟩ = some (.pointer (some ⟨rb,0,none⟩))):=⟨x2,y2⟩
               go_simp
               rw [← hW2,← hzb]
               clear hW2 hzb hHeld)
            | (obtain ⟨Wb,hWb⟩:=nm (W.alloc (.cells #[.int .i64 0,.int .i64 0,.int .i64 0,.string ⟨#[]⟩,.slice none 0 0] 49))
               obtain ⟨zb,hzb⟩:=nm W.heap.size
               have HZB : Hx (w.heap.size≤zb):=by show _≤_; rw [hzb]; exact HDD.o.size
               replace HDD : Hx (Ov w Wb):=by show Ov _ _; rw [hWb]; exact over_trans HDD.o (bA _ _)
               have HZ : Hx (RowAt [.int .i64 0,.int .i64 0,.int .i64 0,.string ⟨#[]⟩,.slice none 0 0] Wb zb):=by show RowAt _ _ _; rw [hWb,hzb]; exact al10 W [.int .i64 0,.int .i64 0,.int .i64 0,.string ⟨#[]⟩,.slice none 0 0] 49
               have HCUR : Hx (Wb.cell? ⟨b2,0,none⟩ = some (.pointer (some ⟨sb,0,none⟩))∧Wb.cell? ⟨b1,0,none⟩ = some (.pointer (some ⟨rb,0,none⟩))):=⟨ce1 HDD.o (HGRO.o.r2.row 0 _ rfl),ce1 HDD.o (HGRO.o.r1.row 0 _ rfl)⟩
               have sv : Wb.cell? ⟨sb,9,none⟩ = some (.slice la k lc):=ce1 HDD.o HL.o
               go_simp
               rw [← hWb,← hzb]
               clear hWb hzb hHeld)
          refine xK hK (HCUR.o) fun hHeld => ?_
          clear hK K
          refine rdA 8 rfl fun K hK => ?_
          first
            | (have t1:=HB2.o
               clear t1)
            | (obtain ⟨W2,hW2⟩:=nm w1
               have HB2 : Hx (Ov w1 W2):=by show Ov _ _; rw [hW2]; exact Below.refl _ _
               have x2:=ce1 HB2.o x1
               have y2:=ce1 HB2.o y1
               have s2:=ce1 HB2.o s1
               rw [← hW2] at HZ ⊢
               clear hW2)
          obtain ⟨xs,hown,hel,hrow⟩:=HGRO.o.app HL.o HG1.o HB2.o
          have hs2 : B≤W2.heap.size:=Nat.le_trans HGRO.o.sz (Nat.le_trans HG1.o.size HB2.o.size)
          have hfw : acc.length≤6000:=Nat.le_trans HGRO.o.few (Nat.le_trans HGRO.o.rd.st.2.1 HGRO.o.rd.st.2.2.1)
          obtain ⟨v2,W3,hrun,hown3,hgr3,-,hat⟩:=run_append_own_at (P:=Tryz.prog) (w:=W2) B 47 47 49 i0 (.agg #[.int .i64 0,.int .i64 0,.int .i64 0,.string ⟨#[]⟩,.slice none 0 0]) 5 64 Tryz.underlying47 hi hz0 hz1 hz2 rfl (by decide) _ _ _ hown ⟨zb,0,none⟩ 1 1 [.int .i64 0,.int .i64 0,.int .i64 0,.string ⟨#[]⟩,.slice none 0 0] rfl (fun jj u hu => by rw [Addr.add_lit,Nat.zero_add]; exact HZ.o jj u hu) (by simp [Value.oneCell']) (by unfold maxLen; omega) (by omega) hs2
          have hnb : ∀ i,i < B→some i≠(Value.slice la k lc).ownBlock:=fun i hk e => by have:=(own_lt hown e.symm).1; omega
          have l3 : W3.cell? ⟨sb,9,none⟩ = some (.slice la k lc):=(World.cell?_of_block (a:=⟨sb,9,none⟩) (hgr3.block sb (bL s2) (hnb sb HGRO.o.s1))).trans s2
          have x3 : W3.cell? ⟨b2,0,none⟩ = some (.pointer (some ⟨sb,0,none⟩)):=(World.cell?_of_block (a:=⟨b2,0,none⟩) (hgr3.block b2 (bL x2) (hnb b2 HGRO.o.q1))).trans x2
          have y3 : W3.cell? ⟨b1,0,none⟩ = some (.pointer (some ⟨rb,0,none⟩)):=(World.cell?_of_block (a:=⟨b1,0,none⟩) (hgr3.block b1 (bL y2) (hnb b1 HGRO.o.p1))).trans y2
          obtain ⟨v',hbx,-⟩:=(HGRO.o.move (Nat.le_of_lt (HM.o _ _ _ HO.o)) HG1.o HST1.o).row
          have hve : v' = .slice la k lc:=by
            have t1:=hbx.row 9 _ rfl
            rw [s1] at t1
            injection t1 with t1
            exact t1.symm
          subst hve
          have hbx2:=hbx.over HB2.o
          have hbx3 : Bx sb [c0,c1,c2,c3,c4,c5,c6,c7,c8,.slice la k lc,cT,cE] W3:=⟨fun j u hu => (World.cell?_of_block (a:=⟨sb,j,none⟩) (hgr3.block sb hbx2.lt (hnb sb HGRO.o.s1))).trans (hbx2.row j u hu),fun j => (World.frozen?_of_block (a:=⟨sb,j,none⟩) (hgr3.block sb hbx2.lt (hnb sb HGRO.o.s1))).trans (hbx2.fz j),Nat.lt_of_lt_of_le hbx2.lt hgr3.size⟩
          have f3:=hbx3.fz 9
          have HBX3:=hide hbx3
          have HOWN:=hide hown
          have HEL:=hide hel
          have HROW:=hide hrow
          have HOWN3:=hide hown3
          have HGR3:=hide hgr3
          have HAT:=hide hat
          have HCUR3 : Hx (W3.cell? ⟨b2,0,none⟩ = some (.pointer (some ⟨sb,0,none⟩))∧W3.cell? ⟨b1,0,none⟩ = some (.pointer (some ⟨rb,0,none⟩))):=⟨x3,y3⟩
          obtain ⟨va2,vn2,vc2,hv2⟩:=own_form hown3
          subst hv2
          refine step_appJ rfl _ _ _ rfl _ _ _ _ rfl rfl hrun ?_
          clear hrun hown hel hown3 hgr3 hat hrow hfw hs2 hnb hbx hbx2 hbx3
          refine xK hK (HCUR3.o) fun hHeld => ?_
          clear hK K
          refine kT 9 ?_
          refine kT 10 ?_
          refine rdA 11 rfl fun K hK => ?_
          go_simp
          refine xK hK (⟨by rw [World.cell?_setCell_far _ _ _ _ HGRO.o.n2]; exact HCUR3.o.1,by rw [World.cell?_setCell_far _ _ _ _ HGRO.o.n1]; exact HCUR3.o.2⟩) fun hHeld => ?_
          clear hK K
          refine gE ?_
          obtain ⟨hxl,⟨-,hbad⟩ | ⟨g,cap,cur,hv2,hbg,hgg,-⟩⟩:=id HOWN3.o
          · exact absurd hbad (by omega)
          injection hv2 with hv2 hvn hvc
          subst hv2
          have hgs : g≠sb:=by have:=HGRO.o.s1; omega
          have hzc : ∀ j u,([.int .i64 0,.int .i64 0,.int .i64 0,.string ⟨#[]⟩,.slice none 0 0] : List Value)[j]? = some u→W3.cell? ⟨g,k * 5 + j,none⟩ = some u:=fun j u hu => by
            have t:=HOWN3.o.cells (g:=g) rfl (k * 5 + j) u (by rw [List.getElem?_append_right (by rw [HOWN.o.1,HK.o]; omega),HOWN.o.1,HK.o,Nat.add_sub_cancel_left]; exact hu)
            rw [Addr.add_lit,Nat.zero_add] at t
            exact t
          obtain ⟨z0,z1,z2,z3,z4⟩:=rc5 hzc
          replace z0 : W3.cell? ⟨g,k * 5,none⟩ = _:=z0
          have hfg : ∀ j,W3.frozen? ⟨g,j,none⟩ = false:=fun j => Lib.frozen_of_heap hgg j
          have g0:=hfg (k * 5)
          have g1:=hfg (k * 5 + 1)
          have g2:=hfg (k * 5 + 2)
          have g3:=hfg (k * 5 + 3)
          have g4:=hfg (k * 5 + 4)
          have hkl : k < vn2:=by rw [hvn,← HK.o]; omega
          have hki : (k : Int) < (vn2 : Int):=by omega
          have HGS:=hide hgs
          have HXL:=hide (And.intro hbg (And.intro hvn hvc))
          have hfin:=HGRO.o.inplace (v:=.slice la k lc) (a:=a) (k:=k) HG1.o HST1.o (HM.o _ _ _ HO.o) HB2.o HOWN.o HEL.o HROW.o HOFF.o HGR3.o HBX3.o HOWN3.o HAT.o HK.o hbg
          have HFIN:=hide hfin
          clear hxl hgg hzc hfg hvn hvc hbg hfin
          go_wp2_with fail
          go_end0
          rw [HO.o]
          exact ⟨rfl,HFIN.o⟩
        · first
            | (have t1:=HO.o
               clear t1
               obtain ⟨W2,hW2⟩:=nm (w1.alloc (.cells #[.int .i64 0,.int .i64 0,.int .i64 0,.string ⟨#[]⟩,.slice none 0 0] 49))
               obtain ⟨zb,hzb⟩:=nm w1.heap.size
               have HB2 : Hx (Ov w1 W2):=by show Ov _ _; rw [hW2]; exact bA _ _
               have HZ : Hx (RowAt [.int .i64 0,.int .i64 0,.int .i64 0,.string ⟨#[]⟩,.slice none 0 0] W2 zb):=by show RowAt _ _ _; rw [hW2,hzb]; exact al10 w1 [.int .i64 0,.int .i64 0,.int .i64 0,.string ⟨#[]⟩,.slice none 0 0] 49
               have x2:=ce1 HB2.o x1
               have y2:=ce1 HB2.o y1
               have s2:=ce1 HB2.o s1
               have HCUR : Hx (W2.cell? ⟨b2,0,none⟩ = some (.pointer (some ⟨sb,0,none⟩))∧W2.cell? ⟨b1,0,none⟩ = some (.pointer (some ⟨rb,0,none⟩))):=⟨x2,y2⟩
               go_simp
               rw [← hW2,← hzb]
               clear hW2 hzb hHeld)
            | (obtain ⟨Wb,hWb⟩:=nm (W.alloc (.cells #[.int .i64 0,.int .i64 0,.int .i64 0,.string ⟨#[]⟩,.slice none 0 0] 49))
               obtain ⟨zb,hzb⟩:=nm W.heap.size
               have HZB : Hx (w.heap.size≤zb):=by show _≤_; rw [hzb]; exact HDD.o.size
               replace HDD : Hx (Ov w Wb):=by show Ov _ _; rw [hWb]; exact over_trans HDD.o (bA _ _)
               have HZ : Hx (RowAt [.int .i64 0,.int .i64 0,.int .i64 0,.string ⟨#[]⟩,.slice none 0 0] Wb zb):=by show RowAt _ _ _; rw [hWb,hzb]; exact al10 W [.int .i64 0,.int .i64 0,.int .i64 0,.string ⟨#[]⟩,.slice none 0 0] 49
               have HCUR : Hx (Wb.cell? ⟨b2,0,none⟩ = some (.pointer (some ⟨sb,0,none⟩))∧Wb.cell? ⟨b1,0,none⟩ = some (.pointer (some ⟨rb,0,none⟩))):=⟨ce1 HDD.o (HGRO.o.r2.row 0 _ rfl),ce1 HDD.o (HGRO.o.r1.row 0 _ rfl)⟩
               have sv : Wb.cell? ⟨sb,9,none⟩ = some (.slice la k lc):=ce1 HDD.o HL.o
               go_simp
               rw [← hWb,← hzb]
               clear hWb hzb hHeld)
          refine xK hK (HCUR.o) fun hHeld => ?_
          clear hK K
          refine rdA 5 rfl fun K hK => ?_
          go_simp
          refine (KX.o _ HDD.o).mono ?_
          rintro e w1 hp
          obtain ⟨m,ho⟩ | ⟨a,n1,ho⟩:=res_cases (pX ts en n)
          · rw [ho] at hp
            obtain ⟨rfl,hg⟩:=hp
            have HG:=hide (grownBy_trans (grownBy_trans HGRO.o.rd.gr (grownBy_below HDD.o)) hg)
            have HO:=hide ho
            clear hg ho hK hHeld
            unfold gaveUpAt
            go_simp
            refine ⟨rfl,?_⟩
            rw [HO.o]
            exact ⟨rfl,HG.o⟩
          rw [ho] at hp
          obtain ⟨k0,k1,k2,k3,k4,k5,k6,rfl,hof,-,-,hg1,hst1⟩:=hp
          have HOFF:=hide (hof.base HDD.o.size)
          have HO:=hide ho
          have hgw : w.grownBy w1 (some rb):=grownBy_trans (grownBy_below HDD.o) hg1
          have HG1:=hide hgw
          have HST1:=hide hst1
          have HGR1:=hide hg1
          have hr:=HGRO.o.rd.rlt
          have hs0:=HGRO.o.s0
          have hp0:=HGRO.o.p0
          have hq0:=HGRO.o.q0
          have s1 : w1.cell? ⟨sb,9,none⟩ = some (.slice la k lc):=hgw.cell HL.o (nsr (by show sb≠rb; omega))
          have x1 : w1.cell? ⟨b2,0,none⟩ = some (.pointer (some ⟨sb,0,none⟩)):=hgw.cell (HGRO.o.r2.row 0 _ rfl) (nsr (by show b2≠rb; omega))
          have y1 : w1.cell? ⟨b1,0,none⟩ = some (.pointer (some ⟨rb,0,none⟩)):=hgw.cell (HGRO.o.r1.row 0 _ rfl) (nsr (by show b1≠rb; omega))
          try (replace HZ:=hide (fun j u hu => HGR1.o.cell (HZ.o j u hu) (nsr (by have:=HZB.o; have:=HGRO.o.rd.rlt; have:=HGRO.o.rd.size; show zb≠rb; omega)) : RowAt [.int .i64 0,.int .i64 0,.int .i64 0,.string ⟨#[]⟩,.slice none 0 0] w1 zb))
          clear ho hg1 hst1 hgw hHeld hof hr hs0 hp0 hq0
          go_simp
          refine xK hK (⟨x1,y1⟩) fun hHeld => ?_
          clear hK K
          refine rdA 8 rfl fun K hK => ?_
          first
            | (have t1:=HB2.o
               clear t1)
            | (obtain ⟨W2,hW2⟩:=nm w1
               have HB2 : Hx (Ov w1 W2):=by show Ov _ _; rw [hW2]; exact Below.refl _ _
               have x2:=ce1 HB2.o x1
               have y2:=ce1 HB2.o y1
               have s2:=ce1 HB2.o s1
               rw [← hW2] at HZ ⊢
               clear hW2)
          obtain ⟨xs,hown,hel,hrow⟩:=HGRO.o.app HL.o HG1.o HB2.o
          have hs2 : B≤W2.heap.size:=Nat.le_trans HGRO.o.sz (Nat.le_trans HG1.o.size HB2.o.size)
          have hfw : acc.length≤6000:=Nat.le_trans HGRO.o.few (Nat.le_trans HGRO.o.rd.st.2.1 HGRO.o.rd.st.2.2.1)
          obtain ⟨v2,W3,hrun,hown3,hgr3,-,hat⟩:=run_append_own_at (P:=Tryz.prog) (w:=W2) B 47 47 49 i0 (.agg #[.int .i64 0,.int .i64 0,.int .i64 0,.string ⟨#[]⟩,.slice none 0 0]) 5 64 Tryz.underlying47 hi hz0 hz1 hz2 rfl (by decide) _ _ _ hown ⟨zb,0,none⟩ 1 1 [.int .i64 0,.int .i64 0,.int .i64 0,.string ⟨#[]⟩,.slice none 0 0] rfl (fun jj u hu => by rw [Addr.add_lit,Nat.zero_add]; exact HZ.o jj u hu) (by simp [Value.oneCell']) (by unfold maxLen; omega) (by omega) hs2
          have hnb : ∀ i,i < B→some i≠(Value.slice la k lc).ownBlock:=fun i hk e => by have:=(own_lt hown e.symm).1; omega
          have l3 : W3.cell? ⟨sb,9,none⟩ = some (.slice la k lc):=(World.cell?_of_block (a:=⟨sb,9,none⟩) (hgr3.block sb (bL s2) (hnb sb HGRO.o.s1))).trans s2
          have x3 : W3.cell? ⟨b2,0,none⟩ = some (.pointer (some ⟨sb,0,none⟩)):=(World.cell?_of_block (a:=⟨b2,0,none⟩) (hgr3.block b2 (bL x2) (hnb b2 HGRO.o.q1))).trans x2
          have y3 : W3.cell? ⟨b1,0,none⟩ = some (.pointer (some ⟨rb,0,none⟩)):=(World.cell?_of_block (a:=⟨b1,0,none⟩) (hgr3.block b1 (bL y2) (hnb b1 HGRO.o.p1))).trans y2
          obtain ⟨v',hbx,-⟩:=(HGRO.o.move (Nat.le_of_lt (HM.o _ _ _ HO.o)) HG1.o HST1.o).row
          have hve : v' = .slice la k lc:=by
            have t1:=hbx.row 9 _ rfl
            rw [s1] at t1
            injection t1 with t1
            exact t1.symm
          subst hve
          have hbx2:=hbx.over HB2.o
          have hbx3 : Bx sb [c0,c1,c2,c3,c4,c5,c6,c7,c8,.slice la k lc,cT,cE] W3:=⟨fun j u hu => (World.cell?_of_block (a:=⟨sb,j,none⟩) (hgr3.block sb hbx2.lt (hnb sb HGRO.o.s1))).trans (hbx2.row j u hu),fun j => (World.frozen?_of_block (a:=⟨sb,j,none⟩) (hgr3.block sb hbx2.lt (hnb sb HGRO.o.s1))).trans (hbx2.fz j),Nat.lt_of_lt_of_le hbx2.lt hgr3.size⟩
          have f3:=hbx3.fz 9
          have HBX3:=hide hbx3
          have HOWN:=hide hown
          have HEL:=hide hel
          have HROW:=hide hrow
          have HOWN3:=hide hown3
          have HGR3:=hide hgr3
          have HAT:=hide hat
          have HCUR3 : Hx (W3.cell? ⟨b2,0,none⟩ = some (.pointer (some ⟨sb,0,none⟩))∧W3.cell? ⟨b1,0,none⟩ = some (.pointer (some ⟨rb,0,none⟩))):=⟨x3,y3⟩
          obtain ⟨va2,vn2,vc2,hv2⟩:=own_form hown3
          subst hv2
          refine step_appJ rfl _ _ _ rfl _ _ _ _ rfl rfl hrun ?_
          clear hrun hown hel hown3 hgr3 hat hrow hfw hs2 hnb hbx hbx2 hbx3
          refine xK hK (HCUR3.o) fun hHeld => ?_
          clear hK K
          refine kT 9 ?_
          refine kT 10 ?_
          refine rdA 11 rfl fun K hK => ?_
          go_simp
          refine xK hK (⟨by rw [World.cell?_setCell_far _ _ _ _ HGRO.o.n2]; exact HCUR3.o.1,by rw [World.cell?_setCell_far _ _ _ _ HGRO.o.n1]; exact HCUR3.o.2⟩) fun hHeld => ?_
          clear hK K
          refine gE ?_
          obtain ⟨hxl,⟨-,hbad⟩ | ⟨g,cap,cur,hv2,hbg,hgg,-⟩⟩:=id HOWN3.o
          · exact absurd hbad (by omega)
          injection hv2 with hv2 hvn hvc
          subst hv2
          have hgs : g≠sb:=by have:=HGRO.o.s1; omega
          have hzc : ∀ j u,([.int .i64 0,.int .i64 0,.int .i64 0,.string ⟨#[]⟩,.slice none 0 0] : List Value)[j]? = some u→W3.cell? ⟨g,k * 5 + j,none⟩ = some u:=fun j u hu => by
            have t:=HOWN3.o.cells (g:=g) rfl (k * 5 + j) u (by rw [List.getElem?_append_right (by rw [HOWN.o.1,HK.o]; omega),HOWN.o.1,HK.o,Nat.add_sub_cancel_left]; exact hu)
            rw [Addr.add_lit,Nat.zero_add] at t
            exact t
          obtain ⟨z0,z1,z2,z3,z4⟩:=rc5 hzc
          replace z0 : W3.cell? ⟨g,k * 5,none⟩ = _:=z0
          have hfg : ∀ j,W3.frozen? ⟨g,j,none⟩ = false:=fun j => Lib.frozen_of_heap hgg j
          have g0:=hfg (k * 5)
          have g1:=hfg (k * 5 + 1)
          have g2:=hfg (k * 5 + 2)
          have g3:=hfg (k * 5 + 3)
          have g4:=hfg (k * 5 + 4)
          have hkl : k < vn2:=by rw [hvn,← HK.o]; omega
          have hki : (k : Int) < (vn2 : Int):=by omega
          have HGS:=hide hgs
          have HXL:=hide (And.intro hbg (And.intro hvn hvc))
          have hfin:=HGRO.o.inplace (v:=.slice la k lc) (a:=a) (k:=k) HG1.o HST1.o (HM.o _ _ _ HO.o) HB2.o HOWN.o HEL.o HROW.o HOFF.o HGR3.o HBX3.o HOWN3.o HAT.o HK.o hbg
          have HFIN:=hide hfin
          clear hxl hgg hzc hfg hvn hvc hbg hfin
          go_wp2_with fail
          go_end0
          rw [HO.o]
          exact ⟨rfl,HFIN.o⟩
      · go_simp
        refine (KX.o _ HDD.o).mono ?_
        rintro e w1 hp
        obtain ⟨m,ho⟩ | ⟨a,n1,ho⟩:=res_cases (pX ts en n)
        · rw [ho] at hp
          obtain ⟨rfl,hg⟩:=hp
          have HG:=hide (grownBy_trans (grownBy_trans HGRO.o.rd.gr (grownBy_below HDD.o)) hg)
          have HO:=hide ho
          clear hg ho hK hHeld
          unfold gaveUpAt
          go_simp
          refine ⟨rfl,?_⟩
          rw [HO.o]
          exact ⟨rfl,HG.o⟩
        rw [ho] at hp
        obtain ⟨k0,k1,k2,k3,k4,k5,k6,rfl,hof,-,-,hg1,hst1⟩:=hp
        have HOFF:=hide (hof.base HDD.o.size)
        have HO:=hide ho
        have hgw : w.grownBy w1 (some rb):=grownBy_trans (grownBy_below HDD.o) hg1
        have HG1:=hide hgw
        have HST1:=hide hst1
        have HGR1:=hide hg1
        have hr:=HGRO.o.rd.rlt
        have hs0:=HGRO.o.s0
        have hp0:=HGRO.o.p0
        have hq0:=HGRO.o.q0
        have s1 : w1.cell? ⟨sb,9,none⟩ = some (.slice la k lc):=hgw.cell HL.o (nsr (by show sb≠rb; omega))
        have x1 : w1.cell? ⟨b2,0,none⟩ = some (.pointer (some ⟨sb,0,none⟩)):=hgw.cell (HGRO.o.r2.row 0 _ rfl) (nsr (by show b2≠rb; omega))
        have y1 : w1.cell? ⟨b1,0,none⟩ = some (.pointer (some ⟨rb,0,none⟩)):=hgw.cell (HGRO.o.r1.row 0 _ rfl) (nsr (by show b1≠rb; omega))
        try (replace HZ:=hide (fun j u hu => HGR1.o.cell (HZ.o j u hu) (nsr (by have:=HZB.o; have:=HGRO.o.rd.rlt; have:=HGRO.o.rd.size; show zb≠rb; omega)) : RowAt [.int .i64 0,.int .i64 0,.int .i64 0,.string ⟨#[]⟩,.slice none 0 0] w1 zb))
        clear ho hg1 hst1 hgw hHeld hof hr hs0 hp0 hq0
        go_simp
        refine xK hK (⟨x1,y1⟩) fun hHeld => ?_
        clear hK K
        refine rdB 3 7 rfl (fun K hK => ?_) rfl fun K hK => ?_
        · first | (have sx:=s2; go_simp) | (have sx:=s1; go_simp) | (have sx:=sv; go_simp)
          refine xK hK (hHeld) fun hHeld => ?_
          clear hK K
          refine kT 6 ?_
          refine rdA 7 rfl fun K hK => ?_
          first
            | (have t1:=HO.o
               clear t1
               obtain ⟨W2,hW2⟩:=nm (w1.alloc (.cells #[.int .i64 0,.int .i64 0,.int .i64 0,.string ⟨#[]⟩,.slice none 0 0] 49))
               obtain ⟨zb,hzb⟩:=nm w1.heap.size
               have HB2 : Hx (Ov w1 W2):=by show Ov _ _; rw [hW2]; exact bA _ _
               have HZ : Hx (RowAt [.int .i64 0,.int .i64 0,.int .i64 0,.string ⟨#[]⟩,.slice none 0 0] W2 zb):=by show RowAt _ _ _; rw [hW2,hzb]; exact al10 w1 [.int .i64 0,.int .i64 0,.int .i64 0,.string ⟨#[]⟩,.slice none 0 0] 49
               have x2:=ce1 HB2.o x1
               have y2:=ce1 HB2.o y1
               have s2:=ce1 HB2.o s1
               have HCUR : Hx (W2.cell? ⟨b2,0,none⟩ = some (.pointer (some ⟨sb,0,none⟩))∧W2.cell? ⟨b1,0,none⟩ = some (.pointer (some ⟨rb,0,none⟩))):=⟨x2,y2⟩
               go_simp
               rw [← hW2,← hzb]
               clear hW2 hzb hHeld)
            | (obtain ⟨Wb,hWb⟩:=nm (W.alloc (.cells #[.int .i64 0,.int .i64 0,.int .i64 0,.string ⟨#[]⟩,.slice none 0 0] 49))
               obtain ⟨zb,hzb⟩:=nm W.heap.size
               have HZB : Hx (w.heap.size≤zb):=by show _≤_; rw [hzb]; exact HDD.o.size
               replace HDD : Hx (Ov w Wb):=by show Ov _ _; rw [hWb]; exact over_trans HDD.o (bA _ _)
               have HZ : Hx (RowAt [.int .i64 0,.int .i64 0,.int .i64 0,.string ⟨#[]⟩,.slice none 0 0] Wb zb):=by show RowAt _ _ _; rw [hWb,hzb]; exact al10 W [.int .i64 0,.int .i64 0,.int .i64 0,.string ⟨#[]⟩,.slice none 0 0] 49
               have HCUR : Hx (Wb.cell? ⟨b2,0,none⟩ = some (.pointer (some ⟨sb,0,none⟩))∧Wb.cell? ⟨b1,0,none⟩ = some (.pointer (some ⟨rb,0,none⟩))):=⟨ce1 HDD.o (HGRO.o.r2.row 0 _ rfl),ce1 HDD.o (HGRO.o.r1.row 0 _ rfl)⟩
               have sv : Wb.cell? ⟨sb,9,none⟩ = some (.slice la k lc):=ce1 HDD.o HL.o
               go_simp
               rw [← hWb,← hzb]
               clear hWb hzb hHeld)
          refine xK hK (HCUR.o) fun hHeld => ?_
          clear hK K
          refine rdA 8 rfl fun K hK => ?_
          first
            | (have t1:=HB2.o
               clear t1)
            | (obtain ⟨W2,hW2⟩:=nm w1
               have HB2 : Hx (Ov w1 W2):=by show Ov _ _; rw [hW2]; exact Below.refl _ _
               have x2:=ce1 HB2.o x1
               have y2:=ce1 HB2.o y1
               have s2:=ce1 HB2.o s1
               rw [← hW2] at HZ ⊢
               clear hW2)
          obtain ⟨xs,hown,hel,hrow⟩:=HGRO.o.app HL.o HG1.o HB2.o
          have hs2 : B≤W2.heap.size:=Nat.le_trans HGRO.o.sz (Nat.le_trans HG1.o.size HB2.o.size)
          have hfw : acc.length≤6000:=Nat.le_trans HGRO.o.few (Nat.le_trans HGRO.o.rd.st.2.1 HGRO.o.rd.st.2.2.1)
          obtain ⟨v2,W3,hrun,hown3,hgr3,-,hat⟩:=run_append_own_at (P:=Tryz.prog) (w:=W2) B 47 47 49 i0 (.agg #[.int .i64 0,.int .i64 0,.int .i64 0,.string ⟨#[]⟩,.slice none 0 0]) 5 64 Tryz.underlying47 hi hz0 hz1 hz2 rfl (by decide) _ _ _ hown ⟨zb,0,none⟩ 1 1 [.int .i64 0,.int .i64 0,.int .i64 0,.string ⟨#[]⟩,.slice none 0 0] rfl (fun jj u hu => by rw [Addr.add_lit,Nat.zero_add]; exact HZ.o jj u hu) (by simp [Value.oneCell']) (by unfold maxLen; omega) (by omega) hs2
          have hnb : ∀ i,i < B→some i≠(Value.slice la k lc).ownBlock:=fun i hk e => by have:=(own_lt hown e.symm).1; omega
          have l3 : W3.cell? ⟨sb,9,none⟩ = some (.slice la k lc):=(World.cell?_of_block (a:=⟨sb,9,none⟩) (hgr3.block sb (bL s2) (hnb sb HGRO.o.s1))).trans s2
          have x3 : W3.cell? ⟨b2,0,none⟩ = some (.pointer (some ⟨sb,0,none⟩)):=(World.cell?_of_block (a:=⟨b2,0,none⟩) (hgr3.block b2 (bL x2) (hnb b2 HGRO.o.q1))).trans x2
          have y3 : W3.cell? ⟨b1,0,none⟩ = some (.pointer (some ⟨rb,0,none⟩)):=(World.cell?_of_block (a:=⟨b1,0,none⟩) (hgr3.block b1 (bL y2) (hnb b1 HGRO.o.p1))).trans y2
          obtain ⟨v',hbx,-⟩:=(HGRO.o.move (Nat.le_of_lt (HM.o _ _ _ HO.o)) HG1.o HST1.o).row
          have hve : v' = .slice la k lc:=by
            have t1:=hbx.row 9 _ rfl
            rw [s1] at t1
            injection t1 with t1
            exact t1.symm
          subst hve
          have hbx2:=hbx.over HB2.o
          have hbx3 : Bx sb [c0,c1,c2,c3,c4,c5,c6,c7,c8,.slice la k lc,cT,cE] W3:=⟨fun j u hu => (World.cell?_of_block (a:=⟨sb,j,none⟩) (hgr3.block sb hbx2.lt (hnb sb HGRO.o.s1))).trans (hbx2.row j u hu),fun j => (World.frozen?_of_block (a:=⟨sb,j,none⟩) (hgr3.block sb hbx2.lt (hnb sb HGRO.o.s1))).trans (hbx2.fz j),Nat.lt_of_lt_of_le hbx2.lt hgr3.size⟩
          have f3:=hbx3.fz 9
          have HBX3:=hide hbx3
          have HOWN:=hide hown
          have HEL:=hide hel
          have HROW:=hide hrow
          have HOWN3:=hide hown3
          have HGR3:=hide hgr3
          have HAT:=hide hat
          have HCUR3 : Hx (W3.cell? ⟨b2,0,none⟩ = some (.pointer (some ⟨sb,0,none⟩))∧W3.cell? ⟨b1,0,none⟩ = some (.pointer (some ⟨rb,0,none⟩))):=⟨x3,y3⟩
          obtain ⟨va2,vn2,vc2,hv2⟩:=own_form hown3
          subst hv2
          refine step_appJ rfl _ _ _ rfl _ _ _ _ rfl rfl hrun ?_
          clear hrun hown hel hown3 hgr3 hat hrow hfw hs2 hnb hbx hbx2 hbx3
          refine xK hK (HCUR3.o) fun hHeld => ?_
          clear hK K
          refine kT 9 ?_
          refine kT 10 ?_
          refine rdA 11 rfl fun K hK => ?_
          go_simp
          refine xK hK (⟨by rw [World.cell?_setCell_far _ _ _ _ HGRO.o.n2]; exact HCUR3.o.1,by rw [World.cell?_setCell_far _ _ _ _ HGRO.o.n1]; exact HCUR3.o.2⟩) fun hHeld => ?_
          clear hK K
          refine gE ?_
          obtain ⟨hxl,⟨-,hbad⟩ | ⟨g,cap,cur,hv2,hbg,hgg,-⟩⟩:=id HOWN3.o
          · exact absurd hbad (by omega)
          injection hv2 with hv2 hvn hvc
          subst hv2
          have hgs : g≠sb:=by have:=HGRO.o.s1; omega
          have hzc : ∀ j u,([.int .i64 0,.int .i64 0,.int .i64 0,.string ⟨#[]⟩,.slice none 0 0] : List Value)[j]? = some u→W3.cell? ⟨g,k * 5 + j,none⟩ = some u:=fun j u hu => by
            have t:=HOWN3.o.cells (g:=g) rfl (k * 5 + j) u (by rw [List.getElem?_append_right (by rw [HOWN.o.1,HK.o]; omega),HOWN.o.1,HK.o,Nat.add_sub_cancel_left]; exact hu)
            rw [Addr.add_lit,Nat.zero_add] at t
            exact t
          obtain ⟨z0,z1,z2,z3,z4⟩:=rc5 hzc
          replace z0 : W3.cell? ⟨g,k * 5,none⟩ = _:=z0
          have hfg : ∀ j,W3.frozen? ⟨g,j,none⟩ = false:=fun j => Lib.frozen_of_heap hgg j
          have g0:=hfg (k * 5)
          have g1:=hfg (k * 5 + 1)
          have g2:=hfg (k * 5 + 2)
          have g3:=hfg (k * 5 + 3)
          have g4:=hfg (k * 5 + 4)
          have hkl : k < vn2:=by rw [hvn,← HK.o]; omega
          have hki : (k : Int) < (vn2 : Int):=by omega
          have HGS:=hide hgs
          have HXL:=hide (And.intro hbg (And.intro hvn hvc))
          have hfin:=HGRO.o.inplace (v:=.slice la k lc) (a:=a) (k:=k) HG1.o HST1.o (HM.o _ _ _ HO.o) HB2.o HOWN.o HEL.o HROW.o HOFF.o HGR3.o HBX3.o HOWN3.o HAT.o HK.o hbg
          have HFIN:=hide hfin
          clear hxl hgg hzc hfg hvn hvc hbg hfin
          go_wp2_with fail
          go_end0
          rw [HO.o]
          exact ⟨rfl,HFIN.o⟩
        · first
            | (have t1:=HO.o
               clear t1
               obtain ⟨W2,hW2⟩:=nm (w1.alloc (.cells #[.int .i64 0,.int .i64 0,.int .i64 0,.string ⟨#[]⟩,.slice none 0 0] 49))
               obtain ⟨zb,hzb⟩:=nm w1.heap.size
               have HB2 : Hx (Ov w1 W2):=by show Ov _ _; rw [hW2]; exact bA _ _
               have HZ : Hx (RowAt [.int .i64 0,.int .i64 0,.int .i64 0,.string ⟨#[]⟩,.slice none 0 0] W2 zb):=by show RowAt _ _ _; rw [hW2,hzb]; exact al10 w1 [.int .i64 0,.int .i64 0,.int .i64 0,.string ⟨#[]⟩,.slice none 0 0] 49
               have x2:=ce1 HB2.o x1
               have y2:=ce1 HB2.o y1
               have s2:=ce1 HB2.o s1
               have HCUR : Hx (W2.cell? ⟨b2,0,none⟩ = some (.pointer (some ⟨sb,0,none⟩))∧W2.cell? ⟨b1,0,none⟩ = some (.pointer (some ⟨rb,0,none⟩))):=⟨x2,y2⟩
               go_simp
               rw [← hW2,← hzb]
               clear hW2 hzb hHeld)
            | (obtain ⟨Wb,hWb⟩:=nm (W.alloc (.cells #[.int .i64 0,.int .i64 0,.int .i64 0,.string ⟨#[]⟩,.slice none 0 0] 49))
               obtain ⟨zb,hzb⟩:=nm W.heap.size
               have HZB : Hx (w.heap.size≤zb):=by show _≤_; rw [hzb]; exact HDD.o.size
               replace HDD : Hx (Ov w Wb):=by show Ov _ _; rw [hWb]; exact over_trans HDD.o (bA _ _)
               have HZ : Hx (RowAt [.int .i64 0,.int .i64 0,.int .i64 0,.string ⟨#[]⟩,.slice none 0 0] Wb zb):=by show RowAt _ _ _; rw [hWb,hzb]; exact al10 W [.int .i64 0,.int .i64 0,.int .i64 0,.string ⟨#[]⟩,.slice none 0 0] 49
               have HCUR : Hx (Wb.cell? ⟨b2,0,none⟩ = some (.pointer (some ⟨sb,0,none⟩))∧Wb.cell? ⟨b1,0,none⟩ = some (.pointer (some ⟨rb,0,none⟩))):=⟨ce1 HDD.o (HGRO.o.r2.row 0 _ rfl),ce1 HDD.o (HGRO.o.r1.row 0 _ rfl)⟩
               have sv : Wb.cell? ⟨sb,9,none⟩ = some (.slice la k lc):=ce1 HDD.o HL.o
               go_simp
               rw [← hWb,← hzb]
               clear hWb hzb hHeld)
          refine xK hK (HCUR.o) fun hHeld => ?_
          clear hK K
          refine rdA 3 rfl fun K hK => ?_
          first | (have sx:=s2; go_simp) | (have sx:=s1; go_simp) | (have sx:=sv; go_simp)
          refine xK hK (hHeld) fun hHeld => ?_
          clear hK K
          refine kT 6 ?_
          refine rdA 8 rfl fun K hK => ?_
          first
            | (have t1:=HB2.o
               clear t1)
            | (obtain ⟨W2,hW2⟩:=nm w1
               have HB2 : Hx (Ov w1 W2):=by show Ov _ _; rw [hW2]; exact Below.refl _ _
               have x2:=ce1 HB2.o x1
               have y2:=ce1 HB2.o y1
               have s2:=ce1 HB2.o s1
               rw [← hW2] at HZ ⊢
               clear hW2)
          obtain ⟨xs,hown,hel,hrow⟩:=HGRO.o.app HL.o HG1.o HB2.o
          have hs2 : B≤W2.heap.size:=Nat.le_trans HGRO.o.sz (Nat.le_trans HG1.o.size HB2.o.size)
          have hfw : acc.length≤6000:=Nat.le_trans HGRO.o.few (Nat.le_trans HGRO.o.rd.st.2.1 HGRO.o.rd.st.2.2.1)
          obtain ⟨v2,W3,hrun,hown3,hgr3,-,hat⟩:=run_append_own_at (P:=Tryz.prog) (w:=W2) B 47 47 49 i0 (.agg #[.int .i64 0,.int .i64 0,.int .i64 0,.string ⟨#[]⟩,.slice none 0 0]) 5 64 Tryz.underlying47 hi hz0 hz1 hz2 rfl (by decide) _ _ _ hown ⟨zb,0,none⟩ 1 1 [.int .i64 0,.int .i64 0,.int .i64 0,.string ⟨#[]⟩,.slice none 0 0] rfl (fun jj u hu => by rw [Addr.add_lit,Nat.zero_add]; exact HZ.o jj u hu) (by simp [Value.oneCell']) (by unfold maxLen; omega) (by omega) hs2
          have hnb : ∀ i,i < B→some i≠(Value.slice la k lc).ownBlock:=fun i hk e => by have:=(own_lt hown e.symm).1; omega
          have l3 : W3.cell? ⟨sb,9,none⟩ = some (.slice la k lc):=(World.cell?_of_block (a:=⟨sb,9,none⟩) (hgr3.block sb (bL s2) (hnb sb HGRO.o.s1))).trans s2
          have x3 : W3.cell? ⟨b2,0,none⟩ = some (.pointer (some ⟨sb,0,none⟩)):=(World.cell?_of_block (a:=⟨b2,0,none⟩) (hgr3.block b2 (bL x2) (hnb b2 HGRO.o.q1))).trans x2
          have y3 : W3.cell? ⟨b1,0,none⟩ = some (.pointer (some ⟨rb,0,none⟩)):=(World.cell?_of_block (a:=⟨b1,0,none⟩) (hgr3.block b1 (bL y2) (hnb b1 HGRO.o.p1))).trans y2
          obtain ⟨v',hbx,-⟩:=(HGRO.o.move (Nat.le_of_lt (HM.o _ _ _ HO.o)) HG1.o HST1.o).row
          have hve : v' = .slice la k lc:=by
            have t1:=hbx.row 9 _ rfl
            rw [s1] at t1
            injection t1 with t1
            exact t1.symm
          subst hve
          have hbx2:=hbx.over HB2.o
          have hbx3 : Bx sb [c0,c1,c2,c3,c4,c5,c6,c7,c8,.slice la k lc,cT,cE] W3:=⟨fun j u hu => (World.cell?_of_block (a:=⟨sb,j,none⟩) (hgr3.block sb hbx2.lt (hnb sb HGRO.o.s1))).trans (hbx2.row j u hu),fun j => (World.frozen?_of_block (a:=⟨sb,j,none⟩) (hgr3.block sb hbx2.lt (hnb sb HGRO.o.s1))).trans (hbx2.fz j),Nat.lt_of_lt_of_le hbx2.lt hgr3.size⟩
          have f3:=hbx3.fz 9
          have HBX3:=hide hbx3
          have HOWN:=hide hown
          have HEL:=hide hel
          have HROW:=hide hrow
          have HOWN3:=hide hown3
          have HGR3:=hide hgr3
          have HAT:=hide hat
          have HCUR3 : Hx (W3.cell? ⟨b2,0,none⟩ = some (.pointer (some ⟨sb,0,none⟩))∧W3.cell? ⟨b1,0,none⟩ = some (.pointer (some ⟨rb,0,none⟩))):=⟨x3,y3⟩
          obtain ⟨va2,vn2,vc2,hv2⟩:=own_form hown3
          subst hv2
          refine step_appJ rfl _ _ _ rfl _ _ _ _ rfl rfl hrun ?_
          clear hrun hown hel hown3 hgr3 hat hrow hfw hs2 hnb hbx hbx2 hbx3
          refine xK hK (HCUR3.o) fun hHeld => ?_
          clear hK K
          refine kT 9 ?_
          refine kT 10 ?_
          refine rdA 11 rfl fun K hK => ?_
          go_simp
          refine xK hK (⟨by rw [World.cell?_setCell_far _ _ _ _ HGRO.o.n2]; exact HCUR3.o.1,by rw [World.cell?_setCell_far _ _ _ _ HGRO.o.n1]; exact HCUR3.o.2⟩) fun hHeld => ?_
          clear hK K
          refine gE ?_
          obtain ⟨hxl,⟨-,hbad⟩ | ⟨g,cap,cur,hv2,hbg,hgg,-⟩⟩:=id HOWN3.o
          · exact absurd hbad (by omega)
          injection hv2 with hv2 hvn hvc
          subst hv2
          have hgs : g≠sb:=by have:=HGRO.o.s1; omega
          have hzc : ∀ j u,([.int .i64 0,.int .i64 0,.int .i64 0,.string ⟨#[]⟩,.slice none 0 0] : List Value)[j]? = some u→W3.cell? ⟨g,k * 5 + j,none⟩ = some u:=fun j u hu => by
            have t:=HOWN3.o.cells (g:=g) rfl (k * 5 + j) u (by rw [List.getElem?_append_right (by rw [HOWN.o.1,HK.o]; omega),HOWN.o.1,HK.o,Nat.add_sub_cancel_left]; exact hu)
            rw [Addr.add_lit,Nat.zero_add] at t
            exact t
          obtain ⟨z0,z1,z2,z3,z4⟩:=rc5 hzc
          replace z0 : W3.cell? ⟨g,k * 5,none⟩ = _:=z0
          have hfg : ∀ j,W3.frozen? ⟨g,j,none⟩ = false:=fun j => Lib.frozen_of_heap hgg j
          have g0:=hfg (k * 5)
          have g1:=hfg (k * 5 + 1)
          have g2:=hfg (k * 5 + 2)
          have g3:=hfg (k * 5 + 3)
          have g4:=hfg (k * 5 + 4)
          have hkl : k < vn2:=by rw [hvn,← HK.o]; omega
          have hki : (k : Int) < (vn2 : Int):=by omega
          have HGS:=hide hgs
          have HXL:=hide (And.intro hbg (And.intro hvn hvc))
          have hfin:=HGRO.o.inplace (v:=.slice la k lc) (a:=a) (k:=k) HG1.o HST1.o (HM.o _ _ _ HO.o) HB2.o HOWN.o HEL.o HROW.o HOFF.o HGR3.o HBX3.o HOWN3.o HAT.o HK.o hbg
          have HFIN:=hide hfin
          clear hxl hgg hzc hfg hvn hvc hbg hfin
          go_wp2_with fail
          go_end0
          rw [HO.o]
          exact ⟨rfl,HFIN.o⟩
      · first
          | (have t1:=HO.o
             clear t1
             obtain ⟨W2,hW2⟩:=nm (w1.alloc (.cells #[.int .i64 0,.int .i64 0,.int .i64 0,.string ⟨#[]⟩,.slice none 0 0] 49))
             obtain ⟨zb,hzb⟩:=nm w1.heap.size
             have HB2 : Hx (Ov w1 W2):=by show Ov _ _; rw [hW2]; exact bA _ _
             have HZ : Hx (RowAt [.int .i64 0,.int .i64 0,.int .i64 0,.string ⟨#[]⟩,.slice none 0 0] W2 zb):=by show RowAt _ _ _; rw [hW2,hzb]; exact al10 w1 [.int .i64 0,.int .i64 0,.int .i64 0,.string ⟨#[]⟩,.slice none 0 0] 49
             have x2:=ce1 HB2.o x1
             have y2:=ce1 HB2.o y1
             have s2:=ce1 HB2.o s1
             have HCUR : Hx (W2.cell? ⟨b2,0,none⟩ = some (.pointer (some ⟨sb,0,none⟩))∧W2.cell? ⟨b1,0,none⟩ = some (.pointer (some ⟨rb,0,none⟩))):=⟨x2,y2⟩
             go_simp
             rw [← hW2,← hzb]
             clear hW2 hzb hHeld)
          | (obtain ⟨Wb,hWb⟩:=nm (W.alloc (.cells #[.int .i64 0,.int .i64 0,.int .i64 0,.string ⟨#[]⟩,.slice none 0 0] 49))
             obtain ⟨zb,hzb⟩:=nm W.heap.size
             have HZB : Hx (w.heap.size≤zb):=by show _≤_; rw [hzb]; exact HDD.o.size
             replace HDD : Hx (Ov w Wb):=by show Ov _ _; rw [hWb]; exact over_trans HDD.o (bA _ _)
             have HZ : Hx (RowAt [.int .i64 0,.int .i64 0,.int .i64 0,.string ⟨#[]⟩,.slice none 0 0] Wb zb):=by show RowAt _ _ _; rw [hWb,hzb]; exact al10 W [.int .i64 0,.int .i64 0,.int .i64 0,.string ⟨#[]⟩,.slice none 0 0] 49
             have HCUR : Hx (Wb.cell? ⟨b2,0,none⟩ = some (.pointer (some ⟨sb,0,none⟩))∧Wb.cell? ⟨b1,0,none⟩ = some (.pointer (some ⟨rb,0,none⟩))):=⟨ce1 HDD.o (HGRO.o.r2.row 0 _ rfl),ce1 HDD.o (HGRO.o.r1.row 0 _ rfl)⟩
             have sv : Wb.cell? ⟨sb,9,none⟩ = some (.slice la k lc):=ce1 HDD.o HL.o
             go_simp
             rw [← hWb,← hzb]
             clear hWb hzb hHeld)
        refine xK hK (HCUR.o) fun hHeld => ?_
        clear hK K
        refine rdB 3 5 rfl (fun K hK => ?_) rfl fun K hK => ?_
        · first | (have sx:=s2; go_simp) | (have sx:=s1; go_simp) | (have sx:=sv; go_simp)
          refine xK hK (hHeld) fun hHeld => ?_
          clear hK K
          refine kT 6 ?_
          refine rdA 5 rfl fun K hK => ?_
          go_simp
          refine (KX.o _ HDD.o).mono ?_
          rintro e w1 hp
          obtain ⟨m,ho⟩ | ⟨a,n1,ho⟩:=res_cases (pX ts en n)
          · rw [ho] at hp
            obtain ⟨rfl,hg⟩:=hp
            have HG:=hide (grownBy_trans (grownBy_trans HGRO.o.rd.gr (grownBy_below HDD.o)) hg)
            have HO:=hide ho
            clear hg ho hK hHeld
            unfold gaveUpAt
            go_simp
            refine ⟨rfl,?_⟩
            rw [HO.o]
            exact ⟨rfl,HG.o⟩
          rw [ho] at hp
          obtain ⟨k0,k1,k2,k3,k4,k5,k6,rfl,hof,-,-,hg1,hst1⟩:=hp
          have HOFF:=hide (hof.base HDD.o.size)
          have HO:=hide ho
          have hgw : w.grownBy w1 (some rb):=grownBy_trans (grownBy_below HDD.o) hg1
          have HG1:=hide hgw
          have HST1:=hide hst1
          have HGR1:=hide hg1
          have hr:=HGRO.o.rd.rlt
          have hs0:=HGRO.o.s0
          have hp0:=HGRO.o.p0
          have hq0:=HGRO.o.q0
          have s1 : w1.cell? ⟨sb,9,none⟩ = some (.slice la k lc):=hgw.cell HL.o (nsr (by show sb≠rb; omega))
          have x1 : w1.cell? ⟨b2,0,none⟩ = some (.pointer (some ⟨sb,0,none⟩)):=hgw.cell (HGRO.o.r2.row 0 _ rfl) (nsr (by show b2≠rb; omega))
          have y1 : w1.cell? ⟨b1,0,none⟩ = some (.pointer (some ⟨rb,0,none⟩)):=hgw.cell (HGRO.o.r1.row 0 _ rfl) (nsr (by show b1≠rb; omega))
          try (replace HZ:=hide (fun j u hu => HGR1.o.cell (HZ.o j u hu) (nsr (by have:=HZB.o; have:=HGRO.o.rd.rlt; have:=HGRO.o.rd.size; show zb≠rb; omega)) : RowAt [.int .i64 0,.int .i64 0,.int .i64 0,.string ⟨#[]⟩,.slice none 0 0] w1 zb))
          clear ho hg1 hst1 hgw hHeld hof hr hs0 hp0 hq0
          go_simp
          refine xK hK (⟨x1,y1⟩) fun hHeld => ?_
          clear hK K
          refine rdA 8 rfl fun K hK => ?_
          first
            | (have t1:=HB2.o
               clear t1)
            | (obtain ⟨W2,hW2⟩:=nm w1
               have HB2 : Hx (Ov w1 W2):=by show Ov _ _; rw [hW2]; exact Below.refl _ _
               have x2:=ce1 HB2.o x1
               have y2:=ce1 HB2.o y1
               have s2:=ce1 HB2.o s1
               rw [← hW2] at HZ ⊢
               clear hW2)
          obtain ⟨xs,hown,hel,hrow⟩:=HGRO.o.app HL.o HG1.o HB2.o
          have hs2 : B≤W2.heap.size:=Nat.le_trans HGRO.o.sz (Nat.le_trans HG1.o.size HB2.o.size)
          have hfw : acc.length≤6000:=Nat.le_trans HGRO.o.few (Nat.le_trans HGRO.o.rd.st.2.1 HGRO.o.rd.st.2.2.1)
          obtain ⟨v2,W3,hrun,hown3,hgr3,-,hat⟩:=run_append_own_at (P:=Tryz.prog) (w:=W2) B 47 47 49 i0 (.agg #[.int .i64 0,.int .i64 0,.int .i64 0,.string ⟨#[]⟩,.slice none 0 0]) 5 64 Tryz.underlying47 hi hz0 hz1 hz2 rfl (by decide) _ _ _ hown ⟨zb,0,none⟩ 1 1 [.int .i64 0,.int .i64 0,.int .i64 0,.string ⟨#[]⟩,.slice none 0 0] rfl (fun jj u hu => by rw [Addr.add_lit,Nat.zero_add]; exact HZ.o jj u hu) (by simp [Value.oneCell']) (by unfold maxLen; omega) (by omega) hs2
          have hnb : ∀ i,i < B→some i≠(Value.slice la k lc).ownBlock:=fun i hk e => by have:=(own_lt hown e.symm).1; omega
          have l3 : W3.cell? ⟨sb,9,none⟩ = some (.slice la k lc):=(World.cell?_of_block (a:=⟨sb,9,none⟩) (hgr3.block sb (bL s2) (hnb sb HGRO.o.s1))).trans s2
          have x3 : W3.cell? ⟨b2,0,none⟩ = some (.pointer (some ⟨sb,0,none⟩)):=(World.cell?_of_block (a:=⟨b2,0,none⟩) (hgr3.block b2 (bL x2) (hnb b2 HGRO.o.q1))).trans x2
          have y3 : W3.cell? ⟨b1,0,none⟩ = some (.pointer (some ⟨rb,0,none⟩)):=(World.cell?_of_block (a:=⟨b1,0,none⟩) (hgr3.block b1 (bL y2) (hnb b1 HGRO.o.p1))).trans y2
          obtain ⟨v',hbx,-⟩:=(HGRO.o.move (Nat.le_of_lt (HM.o _ _ _ HO.o)) HG1.o HST1.o).row
          have hve : v' = .slice la k lc:=by
            have t1:=hbx.row 9 _ rfl
            rw [s1] at t1
            injection t1 with t1
            exact t1.symm
          subst hve
          have hbx2:=hbx.over HB2.o
          have hbx3 : Bx sb [c0,c1,c2,c3,c4,c5,c6,c7,c8,.slice la k lc,cT,cE] W3:=⟨fun j u hu => (World.cell?_of_block (a:=⟨sb,j,none⟩) (hgr3.block sb hbx2.lt (hnb sb HGRO.o.s1))).trans (hbx2.row j u hu),fun j => (World.frozen?_of_block (a:=⟨sb,j,none⟩) (hgr3.block sb hbx2.lt (hnb sb HGRO.o.s1))).trans (hbx2.fz j),Nat.lt_of_lt_of_le hbx2.lt hgr3.size⟩
          have f3:=hbx3.fz 9
          have HBX3:=hide hbx3
          have HOWN:=hide hown
          have HEL:=hide hel
          have HROW:=hide hrow
          have HOWN3:=hide hown3
          have HGR3:=hide hgr3
          have HAT:=hide hat
          have HCUR3 : Hx (W3.cell? ⟨b2,0,none⟩ = some (.pointer (some ⟨sb,0,none⟩))∧W3.cell? ⟨b1,0,none⟩ = some (.pointer (some ⟨rb,0,none⟩))):=⟨x3,y3⟩
          obtain ⟨va2,vn2,vc2,hv2⟩:=own_form hown3
          subst hv2
          refine step_appJ rfl _ _ _ rfl _ _ _ _ rfl rfl hrun ?_
          clear hrun hown hel hown3 hgr3 hat hrow hfw hs2 hnb hbx hbx2 hbx3
          refine xK hK (HCUR3.o) fun hHeld => ?_
          clear hK K
          refine kT 9 ?_
          refine kT 10 ?_
          refine rdA 11 rfl fun K hK => ?_
          go_simp
          refine xK hK (⟨by rw [World.cell?_setCell_far _ _ _ _ HGRO.o.n2]; exact HCUR3.o.1,by rw [World.cell?_setCell_far _ _ _ _ HGRO.o.n1]; exact HCUR3.o.2⟩) fun hHeld => ?_
          clear hK K
          refine gE ?_
          obtain ⟨hxl,⟨-,hbad⟩ | ⟨g,cap,cur,hv2,hbg,hgg,-⟩⟩:=id HOWN3.o
          · exact absurd hbad (by omega)
          injection hv2 with hv2 hvn hvc
          subst hv2
          have hgs : g≠sb:=by have:=HGRO.o.s1; omega
          have hzc : ∀ j u,([.int .i64 0,.int .i64 0,.int .i64 0,.string ⟨#[]⟩,.slice none 0 0] : List Value)[j]? = some u→W3.cell? ⟨g,k * 5 + j,none⟩ = some u:=fun j u hu => by
            have t:=HOWN3.o.cells (g:=g) rfl (k * 5 + j) u (by rw [List.getElem?_append_right (by rw [HOWN.o.1,HK.o]; omega),HOWN.o.1,HK.o,Nat.add_sub_cancel_left]; exact hu)
            rw [Addr.add_lit,Nat.zero_add] at t
            exact t
          obtain ⟨z0,z1,z2,z3,z4⟩:=rc5 hzc
          replace z0 : W3.cell? ⟨g,k * 5,none⟩ = _:=z0
          have hfg : ∀ j,W3.frozen? ⟨g,j,none⟩ = false:=fun j => Lib.frozen_of_heap hgg j
          have g0:=hfg (k * 5)
          have g1:=hfg (k * 5 + 1)
          have g2:=hfg (k * 5 + 2)
          have g3:=hfg (k * 5 + 3)
          have g4:=hfg (k * 5 + 4)
          have hkl : k < vn2:=by rw [hvn,← HK.o]; omega
          have hki : (k : Int) < (vn2 : Int):=by omega
          have HGS:=hide hgs
          have HXL:=hide (And.intro hbg (And.intro hvn hvc))
          have hfin:=HGRO.o.inplace (v:=.slice la k lc) (a:=a) (k:=k) HG1.o HST1.o (HM.o _ _ _ HO.o) HB2.o HOWN.o HEL.o HROW.o HOFF.o HGR3.o HBX3.o HOWN3.o HAT.o HK.o hbg
          have HFIN:=hide hfin
          clear hxl hgg hzc hfg hvn hvc hbg hfin
          go_wp2_with fail
          go_end0
          rw [HO.o]
          exact ⟨rfl,HFIN.o⟩
        · go_simp
          refine (KX.o _ HDD.o).mono ?_
          rintro e w1 hp
          obtain ⟨m,ho⟩ | ⟨a,n1,ho⟩:=res_cases (pX ts en n)
          · rw [ho] at hp
            obtain ⟨rfl,hg⟩:=hp
            have HG:=hide (grownBy_trans (grownBy_trans HGRO.o.rd.gr (grownBy_below HDD.o)) hg)
            have HO:=hide ho
            clear hg ho hK hHeld
            unfold gaveUpAt
            go_simp
            refine ⟨rfl,?_⟩
            rw [HO.o]
            exact ⟨rfl,HG.o⟩
          rw [ho] at hp
          obtain ⟨k0,k1,k2,k3,k4,k5,k6,rfl,hof,-,-,hg1,hst1⟩:=hp
          have HOFF:=hide (hof.base HDD.o.size)
          have HO:=hide ho
          have hgw : w.grownBy w1 (some rb):=grownBy_trans (grownBy_below HDD.o) hg1
          have HG1:=hide hgw
          have HST1:=hide hst1
          have HGR1:=hide hg1
          have hr:=HGRO.o.rd.rlt
          have hs0:=HGRO.o.s0
          have hp0:=HGRO.o.p0
          have hq0:=HGRO.o.q0
          have s1 : w1.cell? ⟨sb,9,none⟩ = some (.slice la k lc):=hgw.cell HL.o (nsr (by show sb≠rb; omega))
          have x1 : w1.cell? ⟨b2,0,none⟩ = some (.pointer (some ⟨sb,0,none⟩)):=hgw.cell (HGRO.o.r2.row 0 _ rfl) (nsr (by show b2≠rb; omega))
          have y1 : w1.cell? ⟨b1,0,none⟩ = some (.pointer (some ⟨rb,0,none⟩)):=hgw.cell (HGRO.o.r1.row 0 _ rfl) (nsr (by show b1≠rb; omega))
          try (replace HZ:=hide (fun j u hu => HGR1.o.cell (HZ.o j u hu) (nsr (by have:=HZB.o; have:=HGRO.o.rd.rlt; have:=HGRO.o.rd.size; show zb≠rb; omega)) : RowAt [.int .i64 0,.int .i64 0,.int .i64 0,.string ⟨#[]⟩,.slice none 0 0] w1 zb))
          clear ho hg1 hst1 hgw hHeld hof hr hs0 hp0 hq0
          go_simp
          refine xK hK (⟨x1,y1⟩) fun hHeld => ?_
          clear hK K
          refine rdA 3 rfl fun K hK => ?_
          first | (have sx:=s2; go_simp) | (have sx:=s1; go_simp) | (have sx:=sv; go_simp)
          refine xK hK (hHeld) fun hHeld => ?_
          clear hK K
          refine kT 6 ?_
          refine rdA 8 rfl fun K hK => ?_
          first
            | (have t1:=HB2.o
               clear t1)
            | (obtain ⟨W2,hW2⟩:=nm w1
               have HB2 : Hx (Ov w1 W2):=by show Ov _ _; rw [hW2]; exact Below.refl _ _
               have x2:=ce1 HB2.o x1
               have y2:=ce1 HB2.o y1
               have s2:=ce1 HB2.o s1
               rw [← hW2] at HZ ⊢
               clear hW2)
          obtain ⟨xs,hown,hel,hrow⟩:=HGRO.o.app HL.o HG1.o HB2.o
          have hs2 : B≤W2.heap.size:=Nat.le_trans HGRO.o.sz (Nat.le_trans HG1.o.size HB2.o.size)
          have hfw : acc.length≤6000:=Nat.le_trans HGRO.o.few (Nat.le_trans HGRO.o.rd.st.2.1 HGRO.o.rd.st.2.2.1)
          obtain ⟨v2,W3,hrun,hown3,hgr3,-,hat⟩:=run_append_own_at (P:=Tryz.prog) (w:=W2) B 47 47 49 i0 (.agg #[.int .i64 0,.int .i64 0,.int .i64 0,.string ⟨#[]⟩,.slice none 0 0]) 5 64 Tryz.underlying47 hi hz0 hz1 hz2 rfl (by decide) _ _ _ hown ⟨zb,0,none⟩ 1 1 [.int .i64 0,.int .i64 0,.int .i64 0,.string ⟨#[]⟩,.slice none 0 0] rfl (fun jj u hu => by rw [Addr.add_lit,Nat.zero_add]; exact HZ.o jj u hu) (by simp [Value.oneCell']) (by unfold maxLen; omega) (by omega) hs2
          have hnb : ∀ i,i < B→some i≠(Value.slice la k lc).ownBlock:=fun i hk e => by have:=(own_lt hown e.symm).1; omega
          have l3 : W3.cell? ⟨sb,9,none⟩ = some (.slice la k lc):=(World.cell?_of_block (a:=⟨sb,9,none⟩) (hgr3.block sb (bL s2) (hnb sb HGRO.o.s1))).trans s2
          have x3 : W3.cell? ⟨b2,0,none⟩ = some (.pointer (some ⟨sb,0,none⟩)):=(World.cell?_of_block (a:=⟨b2,0,none⟩) (hgr3.block b2 (bL x2) (hnb b2 HGRO.o.q1))).trans x2
          have y3 : W3.cell? ⟨b1,0,none⟩ = some (.pointer (some ⟨rb,0,none⟩)):=(World.cell?_of_block (a:=⟨b1,0,none⟩) (hgr3.block b1 (bL y2) (hnb b1 HGRO.o.p1))).trans y2
          obtain ⟨v',hbx,-⟩:=(HGRO.o.move (Nat.le_of_lt (HM.o _ _ _ HO.o)) HG1.o HST1.o).row
          have hve : v' = .slice la k lc:=by
            have t1:=hbx.row 9 _ rfl
            rw [s1] at t1
            injection t1 with t1
            exact t1.symm
          subst hve
          have hbx2:=hbx.over HB2.o
          have hbx3 : Bx sb [c0,c1,c2,c3,c4,c5,c6,c7,c8,.slice la k lc,cT,cE] W3:=⟨fun j u hu => (World.cell?_of_block (a:=⟨sb,j,none⟩) (hgr3.block sb hbx2.lt (hnb sb HGRO.o.s1))).trans (hbx2.row j u hu),fun j => (World.frozen?_of_block (a:=⟨sb,j,none⟩) (hgr3.block sb hbx2.lt (hnb sb HGRO.o.s1))).trans (hbx2.fz j),Nat.lt_of_lt_of_le hbx2.lt hgr3.size⟩
          have f3:=hbx3.fz 9
          have HBX3:=hide hbx3
          have HOWN:=hide hown
          have HEL:=hide hel
          have HROW:=hide hrow
          have HOWN3:=hide hown3
          have HGR3:=hide hgr3
          have HAT:=hide hat
          have HCUR3 : Hx (W3.cell? ⟨b2,0,none⟩ = some (.pointer (some ⟨sb,0,none⟩))∧W3.cell? ⟨b1,0,none⟩ = some (.pointer (some ⟨rb,0,none⟩))):=⟨x3,y3⟩
          obtain ⟨va2,vn2,vc2,hv2⟩:=own_form hown3
          subst hv2
          refine step_appJ rfl _ _ _ rfl _ _ _ _ rfl rfl hrun ?_
          clear hrun hown hel hown3 hgr3 hat hrow hfw hs2 hnb hbx hbx2 hbx3
          refine xK hK (HCUR3.o) fun hHeld => ?_
          clear hK K
          refine kT 9 ?_
          refine kT 10 ?_
          refine rdA 11 rfl fun K hK => ?_
          go_simp
          refine xK hK (⟨by rw [World.cell?_setCell_far _ _ _ _ HGRO.o.n2]; exact HCUR3.o.1,by rw [World.cell?_setCell_far _ _ _ _ HGRO.o.n1]; exact HCUR3.o.2⟩) fun hHeld => ?_
          clear hK K
          refine gE ?_
          obtain ⟨hxl,⟨-,hbad⟩ | ⟨g,cap,cur,hv2,hbg,hgg,-⟩⟩:=id HOWN3.o
          · exact absurd hbad (by omega)
          injection hv2 with hv2 hvn hvc
          subst hv2
          have hgs : g≠sb:=by have:=HGRO.o.s1; omega
          have hzc : ∀ j u,([.int .i64 0,.int .i64 0,.int .i64 0,.string ⟨#[]⟩,.slice none 0 0] : List Value)[j]? = some u→W3.cell? ⟨g,k * 5 + j,none⟩ = some u:=fun j u hu => by
            have t:=HOWN3.o.cells (g:=g) rfl (k * 5 + j) u (by rw [List.getElem?_append_right (by rw [HOWN.o.1,HK.o]; omega),HOWN.o.1,HK.o,Nat.add_sub_cancel_left]; exact hu)
            rw [Addr.add_lit,Nat.zero_add] at t
            exact t
          obtain ⟨z0,z1,z2,z3,z4⟩:=rc5 hzc
          replace z0 : W3.cell? ⟨g,k * 5,none⟩ = _:=z0
          have hfg : ∀ j,W3.frozen? ⟨g,j,none⟩ = false:=fun j => Lib.frozen_of_heap hgg j
          have g0:=hfg (k * 5)
          have g1:=hfg (k * 5 + 1)
          have g2:=hfg (k * 5 + 2)
          have g3:=hfg (k * 5 + 3)
          have g4:=hfg (k * 5 + 4)
          have hkl : k < vn2:=by rw [hvn,← HK.o]; omega
          have hki : (k : Int) < (vn2 : Int):=by omega
          have HGS:=hide hgs
          have HXL:=hide (And.intro hbg (And.intro hvn hvc))
          have hfin:=HGRO.o.inplace (v:=.slice la k lc) (a:=a) (k:=k) HG1.o HST1.o (HM.o _ _ _ HO.o) HB2.o HOWN.o HEL.o HROW.o HOFF.o HGR3.o HBX3.o HOWN3.o HAT.o HK.o hbg
          have HFIN:=hide hfin
          clear hxl hgg hzc hfg hvn hvc hbg hfin
          go_wp2_with fail
          go_end0
          rw [HO.o]
          exact ⟨rfl,HFIN.o⟩
end Go.Proofs.YtipngnjffjajpaaGreatDoor.Tx
