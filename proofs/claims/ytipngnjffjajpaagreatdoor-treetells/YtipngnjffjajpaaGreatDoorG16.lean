/- Package tree: read. -/
import Derived.Test.YtipngnjffjajpaaGreatDoorG15
import Derived.Deep.Cut
namespace Go.Proofs.YtipngnjffjajpaaGreatDoor.Tx
open Go.RowKit
set_option linter.unusedVariables false
theorem Tryz.infoTD : (Tryz.prog.info? 51).map (fun i => (i.zero,i.size,i.bytes)) = some (some (.agg #[.int .i64 0,.int .i64 0,.string ⟨#[]⟩,.string ⟨#[]⟩,.bool false,.slice none 0 0,.slice none 0 0,.slice none 0 0,.int .i64 0,.int .i64 0,.int .i64 0,.string ⟨#[]⟩,.slice none 0 0]),13,192):=by kernel_rfl
def pRest (ts : List Tok) (en : Nat) (ds : List D) (n : Nat) : Res (List D × List D):=bindR (pTake ts [109,97,105,110] n) fun _ n1 => bindR (pBlock ts (pStmts ts en (2 * ts.length + 3) []) n1) fun l n2 => if n2 < ts.length then .inr n2 else .inl ((ds,l),n2)
theorem pDecls_succ (ts : List Tok) (en f : Nat) (acc : List D) (n : Nat) : pDecls ts en (f + 1) acc n = if isT ts n [109,97,105,110] = true then .inl (acc,n) else bindR (pDecl ts en n) fun d n1 => pDecls ts en f (acc ++ [d]) n1:=rfl
/-- behind a region that may give up: what is so of the frame stays so. -/
def onlyP (R : Act→World→Prop) (A : Act→Prop) (Pn : List PanicEntry→World→Prop) : Exit→Act→World→Prop
  | .normal,a,w => R a w
  | .panic c,a,w => A a∧Pn c w
  | _,_,_ => False
theorem region_cutP {P : Program} {id : Nat} {ops : Array Oper} {dr : Bool} {Q : Exit→Act→World→Prop} {a : Act} {w : World} (R : Act→World→Prop) (A : Act→Prop) (Pn : List PanicEntry→World→Prop) (h : (Code.region id ops dr).wp P (onlyP R A Pn) a w) (hq : ∀ a w,R a w→Q .normal a w) (hp : ∀ c a w,A a→Pn c w→Q (.panic c) a w) : (Code.region id ops dr).wp P Q a w :=
  Code.wp_mono (by intro e a w h; cases e <;> first | exact hq _ _ h | exact hp _ _ _ h.1 h.2 | exact h.elim) h
/-- a frame's head. -/
def Head (x y z : Value) (ds : List Deferred) (a : Act) : Prop:=a.defers = ds∧a.tmps[4]? = some x∧a.tmps[5]? = some y∧a.tmps[6]? = some z
theorem Head.put {x y z : Value} {ds : List Deferred} {a : Act} {d : Nat} {v : Value} (hd : 7≤d) (h : Head x y z ds (a.put (some d) v)) : Head x y z ds a:=by
  obtain ⟨h1,h2,h3,h4⟩:=h
  simp only [Act.put] at h1 h2 h3 h4
  rw [Array.getElem?_setIfInBounds_ne (by omega)] at h2 h3 h4
  exact ⟨h1,h2,h3,h4⟩
set_option maxHeartbeats 4000000 in
set_option maxRecDepth 100000 in
theorem read_c {tv : Value} {ts : List Tok} {en : Nat} (hall : ts.all isAlone = true) (w : World) (h : TokAt tv ts w) : Calls Tryz.prog 23 #[tv,.int .i64 (en : Int)] w (ReadPost w ts en):=by
  have hmf : ∀ (fn : Fn) (first cap : Array Value) (w : World),(Instr.makeFunc fn first cap).run Tryz.prog w = .ok (.func fn first cap) w:=fun _ _ _ _ => rfl
  obtain ⟨i0,hi,hz0,hz1,hz2⟩:=info_parts Tryz.infoTD
  unfold ReadPost
  obtain ⟨res,hres⟩:=nm (pTree ts en)
  rw [← hres]
  have HR : Hx (bindR (pDecls ts en (ts.length + 1) [] 0) (pRest ts en) = res):=hres.symm
  have HT:=hide h
  obtain ⟨h6,ao,cap,hv,-⟩:=h
  subst hv
  clear hres
  go_enter_defers Tryz.func23,Tryz.ntmps23
  go_wp2_with fail
  go_loopw [] (fun wr => ∃ (acc : List D) (m f : Nat) (v : Value),ReadI w (.slice ao ts.length cap) ts en w.heap.size (w.heap.size + 1) (w.heap.size + 1 + 1) (w.heap.size + 1 + 1 + 1) acc m v wr∧bindR (pDecls ts en f acc m) (pRest ts en) = res∧ts.length + 1≤f + m) (fun wr => ts.length + 1 - nOf (w.heap.size + 1 + 1 + 1) wr)
  case atStart =>
    refine ⟨[],0,ts.length + 1,.slice none 0 0,⟨?_,?_,?_,?_,Cop.nil,Nat.zero_le _⟩,HR.o,Nat.le_refl _⟩
    · refine RdT.mk' HT.o (by omega) (Nat.zero_le _) ?_ ?_
      · have t:=fun A A2 A3 o => allocAt (((w.alloc A).alloc A2).alloc A3) o
        simp only [alS] at t
        exact t _ _ _ _
      · exact ((((Below.refl _ w).alloc (Nat.le_refl _) _).alloc (by simp) _).alloc (by simp; omega) _).alloc (by simp; omega) _
    · exact (((Bx.new w [.slice none 0 0,.slice none 0 0] _).over (bA _ _)).over (bA _ _)).over (bA _ _)
    · have t:=fun T A o o' => ((Bx.new (w.alloc A) [.int .i64 0] T).over (bA _ o)).over (bA _ o')
      simp only [alS] at t
      exact t _ _ _ _
    · have t:=fun T A A2 o => (Bx.new ((w.alloc A).alloc A2) [.int .i64 0] T).over (bA _ o)
      simp only [alS] at t
      exact t _ _ _ _
  case round =>
    obtain ⟨acc,m,f,v,hI,hp,hf⟩:=hrel
    obtain ⟨f,rfl⟩ : ∃ g,f = g + 1:=⟨f - 1,by have:=hI.rd.st.2.1; omega⟩
    rw [pDecls_succ] at hp
    have K1:=hide (is_q ⟨#[109,97,105,110]⟩ [109,97,105,110] rfl m wr hI.rd.st)
    obtain ⟨la,lc,hla,-⟩:=hI.cop.cells (by decide)
    subst hla
    have HN:=hide (nOf_st hI.rd.st)
    have HI:=hide hI
    have HRP:=hide hp
    have HF:=hide hf
    obtain ⟨k,hk⟩:=nm acc.length
    rw [← hk] at HI
    have HK:=hide hk
    clear hI hp hf hk h6
    go_wp2_with fail
    refine K1.o.mono ?_
    rintro e w1 ⟨rfl,hg,hs⟩
    have hi1:=HI.o.call (by omega) hg hs (Nat.le_refl _)
    have HI1:=hide hi1
    have HG1:=hide hg
    clear hg hs hi1 K1
    cases hq : isT ts m [109,97,105,110] with
    | true =>
      have HE : Hx (res = pRest ts en acc m):=by show _ = _; rw [← HRP.o,if_pos hq]; rfl
      have hh:=HE.o
      unfold pRest at hh
      replace HE:=hide hh
      have K2:=hide (take_c ⟨#[109,97,105,110]⟩ (by decide) m w1 HI1.o.rd.st)
      clear hq hh
      go_wp2_with fail
      refine K2.o.mono ?_
      rintro e wx hpo
      obtain ⟨m1,ho⟩ | ⟨_u,n1,ho⟩:=res_cases (pTake ts [109,97,105,110] m)
      · replace hpo : PostC ts en (pTake ts [109,97,105,110] m) _ _ e wx:=hpo
        rw [ho] at hpo
        obtain ⟨rfl,hg⟩:=hpo
        have HRZ : Hx (res = .inr m1):=by show _ = _; rw [HE.o,ho]; rfl
        have HBZ:=hide (HI1.o.rd.gave hg)
        have HTZ:=hide (HI1.o.t.keep hg (by omega))
        have HPZ:=hide (HI1.o.p.keep hg (by omega))
        have HQZ:=hide (HI1.o.q.keep hg (by omega))
        clear hg ho
        unfold gaveUpAt
        go_wp2_with fail
        refine leaves_cons (f:=50) (args:=#[.pointer (some ⟨w.heap.size,0,none⟩),.pointer (some ⟨w.heap.size + 1,0,none⟩),.pointer (some ⟨w.heap.size + 1 + 1,0,none⟩)]) (by simp) (by simp [go_sem]) ?_
        refine (rcatch_place w.heap.size _ _ 0 0 _ [] _ (by have:=HQZ.o.lt; omega) (HTZ.o.row 0 _ rfl) (HTZ.o.row 1 _ rfl) (HPZ.o.row 0 _ rfl) (HQZ.o.row 0 _ rfl) (HTZ.o.fz 0) (HTZ.o.fz 1) (HPZ.o.fz 0) (HQZ.o.fz 0)).mono ?_
        rintro e u' w9 ⟨rfl,rfl,d0,d1,d2,d3,hb3⟩
        have hbb:=HBZ.o.trans hb3
        simp [Leaves,settle,results,Tryz.results23,go_sem,d0,d1,d2,d3]
        rw [HRZ.o]
        exact ⟨hbb,rfl⟩
      replace hpo : PostC ts en (pTake ts [109,97,105,110] m) _ _ e wx:=hpo
      rw [ho] at hpo
      obtain ⟨rfl,hg,hs⟩:=hpo
      have hh:=HE.o
      rw [ho,bindR_inl] at hh
      replace HE:=hide hh
      have HI2:=hide (HI1.o.call (by omega) hg hs (Nat.le_of_lt (pTake_lt ho)))
      have K3:=hide (block_c (2 * ts.length + 3) (both_ok (rb:=w.heap.size + 1 + 1 + 1) (en:=en) hall _).2 n1 wx hs (by omega))
      clear hh ho hg hs K2 HI1
      obtain ⟨w2,hw2⟩:=nm wx
      rw [← hw2] at HI2 K3 ⊢
      clear hw2
      go_wp2_with fail
      refine K3.o.mono ?_
      clear wx
      rintro e wx hpo
      obtain ⟨m1,ho⟩ | ⟨l,n2,ho⟩:=res_cases (pBlock ts (fun n => pStmts ts en (2 * ts.length + 3) [] n) n1)
      · replace hpo : PostC ts en (pBlock ts (fun n => pStmts ts en (2 * ts.length + 3) [] n) n1) _ _ e wx:=hpo
        rw [ho] at hpo
        obtain ⟨rfl,hg⟩:=hpo
        have HRZ : Hx (res = .inr m1):=by show _ = _; rw [HE.o,ho]; rfl
        have HBZ:=hide (HI2.o.rd.gave hg)
        have HTZ:=hide (HI2.o.t.keep hg (by omega))
        have HPZ:=hide (HI2.o.p.keep hg (by omega))
        have HQZ:=hide (HI2.o.q.keep hg (by omega))
        clear hg ho
        unfold gaveUpAt
        go_wp2_with fail
        refine leaves_cons (f:=50) (args:=#[.pointer (some ⟨w.heap.size,0,none⟩),.pointer (some ⟨w.heap.size + 1,0,none⟩),.pointer (some ⟨w.heap.size + 1 + 1,0,none⟩)]) (by simp) (by simp [go_sem]) ?_
        refine (rcatch_place w.heap.size _ _ 0 0 _ [] _ (by have:=HQZ.o.lt; omega) (HTZ.o.row 0 _ rfl) (HTZ.o.row 1 _ rfl) (HPZ.o.row 0 _ rfl) (HQZ.o.row 0 _ rfl) (HTZ.o.fz 0) (HTZ.o.fz 1) (HPZ.o.fz 0) (HQZ.o.fz 0)).mono ?_
        rintro e u' w9 ⟨rfl,rfl,d0,d1,d2,d3,hb3⟩
        have hbb:=HBZ.o.trans hb3
        simp [Leaves,settle,results,Tryz.results23,go_sem,d0,d1,d2,d3]
        rw [HRZ.o]
        exact ⟨hbb,rfl⟩
      replace hpo : PostC ts en (pBlock ts (fun n => pStmts ts en (2 * ts.length + 3) [] n) n1) _ _ e wx:=hpo
      rw [ho] at hpo
      obtain ⟨a2,c2,rfl,hoff,hl6,hg,hs⟩:=hpo
      have hh:=HE.o
      rw [ho,bindR_inl] at hh
      replace HE:=hide hh
      have HLE:=hide (Nat.le_of_lt (pBlock_lt (fun n l n1 h => pStmts_le _ [] n l n1 h) ho))
      have HI3:=hide (HI2.o.call (by omega) hg hs HLE.o)
      have HOFF:=hide hoff
      have HL6:=hide hl6
      clear hh ho hg hs hoff hl6 K3
      have t0:=HI3.o.t.row 0 _ rfl
      have t1:=HI3.o.t.row 1 _ rfl
      have t2:=HI3.o.t.fz 1
      obtain ⟨W4,hW4⟩:=nm (wx.setCell ⟨w.heap.size,1,none⟩ (.slice a2 l.length c2))
      have HD4 : Hx (RdT w (w.heap.size + 1 + 1 + 1) (.slice ao ts.length cap) ts en n2 W4):=by show RdT _ _ _ _ _ _ _; rw [hW4]; exact HI3.o.rd.set (Nat.le_refl _) (by omega)
      have HT4 : Hx (Bx w.heap.size [.slice la k lc,.slice a2 l.length c2] W4):=by show Bx _ _ _; rw [hW4]; exact HI3.o.t.set (j:=1) (by simp)
      have HP4 : Hx (Bx (w.heap.size + 1) [.int .i64 0] W4):=by show Bx _ _ _; rw [hW4]; exact HI3.o.p.far (by omega)
      have HQ4 : Hx (Bx (w.heap.size + 1 + 1) [.int .i64 0] W4):=by show Bx _ _ _; rw [hW4]; exact HI3.o.q.far (by omega)
      obtain ⟨rc0,rc1,rc2,rf1⟩:=HD4.o.st.cells
      obtain ⟨lk,hlk⟩:=nm l.length
      rw [← hlk] at hW4 HT4 ⊢
      have HLK:=hide hlk
      clear hlk
      by_cases hlt : n2 < ts.length
      · have K4:=hide (giveUp_any _ _ ts en n2 _ HD4.o.st)
        go_wp2_with fail
        rw [← hW4]
        clear hW4 t0 t1 t2
        go_quiet ((fail))
        go_wp2_with fail
        have HOV : Hx (Ov W4 (W4.drewN nq)):=below_drewN (Below.refl _ _) _
        generalize W4.drewN nq = W5 at HOV ⊢
        refine (giveUp_any _ _ ts en n2 _ (HD4.o.st.below HOV.o)).mono ?_
        rintro e wz ⟨rfl,hbz⟩
        have HO5:=hide (over_trans HOV.o hbz)
        have HRZ : Hx (res = .inr n2):=by show _ = _; rw [HE.o,if_pos hlt]
        have HBZ:=hide (HD4.o.bel.trans (HO5.o.mono HD4.o.size))
        have HTZ:=hide (HT4.o.over HO5.o)
        have HPZ:=hide (HP4.o.over HO5.o)
        have HQZ:=hide (HQ4.o.over HO5.o)
        clear hbz hlt
        unfold gaveUpAt
        go_wp2_with fail
        refine leaves_cons (f:=50) (args:=#[.pointer (some ⟨w.heap.size,0,none⟩),.pointer (some ⟨w.heap.size + 1,0,none⟩),.pointer (some ⟨w.heap.size + 1 + 1,0,none⟩)]) (by simp) (by simp [go_sem]) ?_
        refine (rcatch_place w.heap.size _ _ 0 0 _ [] _ (by have:=HQZ.o.lt; omega) (HTZ.o.row 0 _ rfl) (HTZ.o.row 1 _ rfl) (HPZ.o.row 0 _ rfl) (HQZ.o.row 0 _ rfl) (HTZ.o.fz 0) (HTZ.o.fz 1) (HPZ.o.fz 0) (HQZ.o.fz 0)).mono ?_
        rintro e u' w9 ⟨rfl,rfl,d0,d1,d2,d3,hb3⟩
        have hbb:=HBZ.o.trans hb3
        simp [Leaves,settle,results,Tryz.results23,go_sem,d0,d1,d2,d3]
        rw [HRZ.o]
        exact ⟨hbb,rfl⟩
      · go_wp2_with fail
        rw [← hW4]
        have HW4:=hide hW4
        clear hW4 t0 t1 t2
        go_quiet ((fail))
        have HOV : Hx (Ov W4 (W4.drewN nq)):=below_drewN (Below.refl _ _) _
        generalize W4.drewN nq = W5 at HOV ⊢
        have HT5:=hide (HT4.o.over HOV.o)
        have HP5:=hide (HP4.o.over HOV.o)
        have HQ5:=hide (HQ4.o.over HOV.o)
        have t0:=HT5.o.row 0 _ rfl
        have t1:=HT5.o.row 1 _ rfl
        have t2:=HT5.o.fz 0
        have t3:=HT5.o.fz 1
        have t4:=HP5.o.row 0 _ rfl
        have t5:=HP5.o.fz 0
        have t6:=HQ5.o.row 0 _ rfl
        have t7:=HQ5.o.fz 0
        have HRZ : Hx (res = .inl ((acc,l),n2)):=by show _ = _; rw [HE.o,if_neg hlt]
        go_wp2_with fail
        clear t0 t1 t2 t3 t4 t5 t6 t7 rc0 rc1 rc2 rf1
        obtain ⟨V9,hV9⟩:=nm ((((W5.setCell ⟨w.heap.size,0,none⟩ (.slice la k lc)).setCell ⟨w.heap.size,1,none⟩ (.slice a2 lk c2)).setCell ⟨w.heap.size + 1,0,none⟩ (.int .i64 0)).setCell ⟨w.heap.size + 1 + 1,0,none⟩ (.int .i64 0))
        rw [← hV9]
        have HT9 : Hx (Bx w.heap.size [.slice la k lc,.slice a2 lk c2] V9):=by show Bx _ _ _; rw [hV9]; exact (((HT5.o.set (j:=0) (by simp)).set (j:=1) (by simp)).far (by omega)).far (by omega)
        have HP9 : Hx (Bx (w.heap.size + 1) [.int .i64 0] V9):=by show Bx _ _ _; rw [hV9]; exact (((HP5.o.far (by omega)).far (by omega)).set (j:=0) (by simp)).far (by omega)
        have HQ9 : Hx (Bx (w.heap.size + 1 + 1) [.int .i64 0] V9):=by show Bx _ _ _; rw [hV9]; exact (((HQ5.o.far (by omega)).far (by omega)).far (by omega)).set (j:=0) (by simp)
        have HB9 : Hx (Below w.heap.size w V9):=by show Below _ _ _; rw [hV9]; exact ((((HD4.o.bel.trans (HOV.o.mono HD4.o.size)).setCell (by simp) _).setCell (by simp) _).setCell (by simp) _).setCell (by simp; omega) _
        have hc4 : Cop (w.heap.size + 1 + 1 + 1 + 1) 51 13 (fun i cs W => ∀ x,acc[i]? = some x→XD W (2 * ts.length + 3) cs x) acc.length (.slice la k lc) W4:=by rw [HW4.o]; exact HI3.o.cop.set (by omega)
        have hc9 : Cop (w.heap.size + 1 + 1 + 1 + 1) 51 13 (fun i cs W => ∀ x,acc[i]? = some x→XD W (2 * ts.length + 3) cs x) acc.length (.slice la k lc) V9:=by rw [hV9]; exact ((((hc4.over HOV.o).set (by omega)).set (by omega)).set (by omega)).set (by omega)
        have hfw : acc.length≤6000:=by have:=HI3.o.few; have:=HI3.o.rd.st.2.1; have:=HI3.o.rd.st.2.2.1; omega
        obtain ⟨a,c,hv,hoff⟩:=Cop.ls hc9 (by decide) (by omega)
        injection hv with v1 v2 v3
        subst v1 v3
        have hz : w.heap.size + 1 + 1 < w2.heap.size:=HI2.o.q.lt
        have ho4 : Off w2.heap.size none W4 (fun W => LS 12 (XC W (2 * ts.length + 3)) W (.slice a2 l.length c2) l):=by rw [HW4.o]; exact HOFF.o.set (by omega)
        have ho9 : Off w2.heap.size none V9 (fun W => LS 12 (XC W (2 * ts.length + 3)) W (.slice a2 l.length c2) l):=by rw [hV9]; exact ((((ho4.over HOV.o).set (by omega)).set (by omega)).set (by omega)).set (by omega)
        have HS1:=hide (hoff.base (B':=w.heap.size) (by omega))
        have HS2:=hide (ho9.base (B':=w.heap.size) (by omega))
        have HFW:=hide hfw
        clear hV9 hc4 hc9 hfw hoff ho4 ho9 hz v2 hlt
        refine leaves_cons (f:=50) (args:=#[.pointer (some ⟨w.heap.size,0,none⟩),.pointer (some ⟨w.heap.size + 1,0,none⟩),.pointer (some ⟨w.heap.size + 1 + 1,0,none⟩)]) (by simp) (by simp [go_sem]) ?_
        refine (rcatch_idle _ _ _ _).mono ?_
        rintro e u' w9 ⟨rfl,rfl,hw9⟩
        have hw9:=hw9.symm
        subst hw9
        have d0:=HT9.o.row 0 _ rfl
        have d1:=HT9.o.row 1 _ rfl
        have d2:=HP9.o.row 0 _ rfl
        have d3:=HQ9.o.row 0 _ rfl
        simp [Leaves,settle,results,Tryz.results23,go_sem,d0,d1,d2,d3]
        rw [HRZ.o]
        exact ⟨HB9.o,_,_,_,_,by rw [HK.o,HLK.o],HS1.o,HS2.o,HFW.o,HL6.o⟩
    | false =>
      have hr:=HRP.o
      rw [if_neg (by rw [hq]; simp)] at hr
      have HRQ:=hide hr
      have KD : Hx (∀ X,Ov w1 X→_):=fun X (hX : Ov w1 X) => decl_c (rb:=w.heap.size + 1 + 1 + 1) (en:=en) hall m X (HI1.o.rd.st.below hX)
      have s1:=HI1.o.t.row 0 _ rfl
      clear hr hq
      go_wp2_with fail
      refine region_cutP (fun act W => ∃ (d : D) (n1 : Nat) (v : Value) (u13 u14 u15 u16 u17 u18 u19 u20 u21 u22 : Value),act = { tmps:=#[.slice ao ts.length cap,.int .i64 (en : Int),undef,undef,.pointer (some ⟨w.heap.size,0,none⟩),.pointer (some ⟨w.heap.size + 1,0,none⟩),.pointer (some ⟨w.heap.size + 1 + 1,0,none⟩),.pointer (some ⟨w.heap.size + 1 + 1 + 1,0,none⟩),.func (Fn.func 50) #[] #[.pointer (some ⟨w.heap.size,0,none⟩),.pointer (some ⟨w.heap.size + 1,0,none⟩),.pointer (some ⟨w.heap.size + 1 + 1,0,none⟩)],.slice ao ts.length cap,.int .i64 (en : Int),.agg #[.slice ao ts.length cap,.int .i64 0,.int .i64 (en : Int)],.pointer (some ⟨w.heap.size + 1 + 1 + 1,0,none⟩),u13,u14,u15,u16,u17,u18,u19,u20,u21,u22,undef,undef,undef,undef,undef,undef,undef,undef,undef,undef,undef,undef,undef,undef,undef,undef,undef,undef],defers:=[{ target:=Target.fn (Fn.func 50) #[.pointer (some ⟨w.heap.size,0,none⟩),.pointer (some ⟨w.heap.size + 1,0,none⟩),.pointer (some ⟨w.heap.size + 1 + 1,0,none⟩)],args:=#[] }] }∧pDecl ts en m = .inl (d,n1)∧ReadI w (.slice ao ts.length cap) ts en (w.heap.size) (w.heap.size + 1) (w.heap.size + 1 + 1) (w.heap.size + 1 + 1 + 1) (acc ++ [d]) n1 v W) (Head (.pointer (some ⟨w.heap.size,0,none⟩)) (.pointer (some ⟨w.heap.size + 1,0,none⟩)) (.pointer (some ⟨w.heap.size + 1 + 1,0,none⟩)) [{ target:=Target.fn (Fn.func 50) #[.pointer (some ⟨w.heap.size,0,none⟩),.pointer (some ⟨w.heap.size + 1,0,none⟩),.pointer (some ⟨w.heap.size + 1 + 1,0,none⟩)],args:=#[] }]) (fun c W => ∃ m1,pDecl ts en m = .inr m1∧c = [{ v:=.iface 90 (.int .i64 (posn ts en m1)),recovered:=false }]∧w1.grownBy W (some (w.heap.size + 1 + 1 + 1))) ?_ ?_ ?_
      · refine gS (fun _ => True) trivial fun hHeld => ?_
        have HOV : Hx (Ov w1 w1.drew):=bD w1
        have sv:=ce1 (bD w1) s1
        clear s1
        generalize w1.drew = W at hHeld HOV sv ⊢
        refine kT (hQ:=by exact fun c a w h => ⟨Head.put (by decide) h.1,h.2⟩) 0 ?_
        refine kT (hQ:=by exact fun c a w h => ⟨Head.put (by decide) h.1,h.2⟩) 2 ?_
        refine rdB 1 3 rfl (fun K hK => ?_) rfl fun K hK => ?_
        · first | (have sx:=s3; go_simp) | (have sx:=s2; go_simp) | (have sx:=sv; go_simp)
          refine xK hK (trivial) fun hHeld => ?_
          clear hK K
          refine rdA 3 rfl fun K hK => ?_
          go_simp
          refine (KD.o _ HOV.o).mono ?_
          rintro e w2 hp
          obtain ⟨m1,ho⟩ | ⟨d,n1,ho⟩:=res_cases (pDecl ts en m)
          · rw [ho] at hp
            obtain ⟨rfl,hg⟩:=hp
            have HG:=hide (grownBy_trans (grownBy_below HOV.o) hg)
            have HO:=hide ho
            clear hg ho hK hHeld
            unfold gaveUpAt
            go_simp
            exact ⟨⟨rfl,rfl,rfl,rfl⟩,m1,HO.o,rfl,HG.o⟩
          rw [ho] at hp
          obtain ⟨kd,a,x,y,gv,q0,q1,q2,q3,q4,q5,q6,q7,q8,e0,e1,e2,e3,q9,r0,r1,rfl,hof,hg1,hst1⟩:=hp
          have hg2:=grownBy_trans (grownBy_below (r:=some (w.heap.size + 1 + 1 + 1)) HOV.o) hg1
          have hi2:=HI1.o.call (by omega) hg2 hst1 (Nat.le_of_lt (pDecl_lt ho))
          have HI2:=hide hi2
          have HOFF:=hide (hof.base HOV.o.size)
          have HO:=hide ho
          have s2:=hi2.t.row 0 _ rfl
          clear ho hg1 hst1 hg2 hHeld hof hi2
          go_simp
          refine xK hK (trivial) fun hHeld => ?_
          clear hK K
          refine rdA 4 rfl fun K hK => ?_
          obtain ⟨W3,hW3⟩:=nm (w2.alloc (.cells #[.int .i64 kd,.int .i64 a,.string x,.string y,.bool gv,.slice q0 q1 q2,.slice q3 q4 q5,.slice q6 q7 q8,.int .i64 e0,.int .i64 e1,.int .i64 e2,.string e3,.slice q9 r0 r1] 51))
          obtain ⟨zb,hzb⟩:=nm w2.heap.size
          have HB3 : Hx (Ov w2 W3):=by show Ov _ _; rw [hW3]; exact bA _ _
          have HZ : Hx (RowAt [.int .i64 kd,.int .i64 a,.string x,.string y,.bool gv,.slice q0 q1 q2,.slice q3 q4 q5,.slice q6 q7 q8,.int .i64 e0,.int .i64 e1,.int .i64 e2,.string e3,.slice q9 r0 r1] W3 zb):=by show RowAt _ _ _; rw [hW3,hzb]; exact al10 w2 [.int .i64 kd,.int .i64 a,.string x,.string y,.bool gv,.slice q0 q1 q2,.slice q3 q4 q5,.slice q6 q7 q8,.int .i64 e0,.int .i64 e1,.int .i64 e2,.string e3,.slice q9 r0 r1] 51
          have s3:=ce1 HB3.o s2
          go_simp
          rw [← hW3,← hzb]
          clear hW3 hzb hHeld
          refine xK hK (trivial) fun hHeld => ?_
          clear hK K
          refine rdA 5 rfl fun K hK => ?_
          obtain ⟨xs,hown,hel⟩:=HI2.o.cop.over HB3.o
          obtain ⟨v2,W4,hrun,hown4,hgr4,-,hat⟩:=run_append_own_at (P:=Tryz.prog) (w:=W3) (w.heap.size + 1 + 1 + 1 + 1) 22 22 51 i0 (.agg #[.int .i64 0,.int .i64 0,.string ⟨#[]⟩,.string ⟨#[]⟩,.bool false,.slice none 0 0,.slice none 0 0,.slice none 0 0,.int .i64 0,.int .i64 0,.int .i64 0,.string ⟨#[]⟩,.slice none 0 0]) 13 192 Tryz.underlying22 hi hz0 hz1 hz2 rfl (by decide) _ _ _ hown ⟨zb,0,none⟩ 1 1 [.int .i64 kd,.int .i64 a,.string x,.string y,.bool gv,.slice q0 q1 q2,.slice q3 q4 q5,.slice q6 q7 q8,.int .i64 e0,.int .i64 e1,.int .i64 e2,.string e3,.slice q9 r0 r1] rfl (fun jj u hu => by rw [Addr.add_lit,Nat.zero_add]; exact HZ.o jj u hu) (by simp [Value.oneCell']) (by have:=HI1.o.few; have:=HI1.o.rd.st.2.1; have:=HI1.o.rd.st.2.2.1; unfold maxLen; omega) (by have:=HI1.o.few; have:=HI1.o.rd.st.2.1; have:=HI1.o.rd.st.2.2.1; omega) (by have:=HI2.o.rd.st.lt; have:=HB3.o.size; omega)
          have hnb : ∀ i,i < w.heap.size + 1 + 1 + 1 + 1→some i≠(Value.slice la k lc).ownBlock:=fun i hk e => by have:=(own_lt hown e.symm).1; omega
          have ht4 : Bx (w.heap.size) [.slice la k lc,.slice none 0 0] W4:=(HI2.o.t.over HB3.o).grown hgr4 (hnb _ (by omega))
          have s4:=ht4.row 0 _ rfl
          have f4:=ht4.fz 0
          have HT4:=hide ht4
          have HP4 : Hx (Bx (w.heap.size + 1) [.int .i64 0] W4):=(HI2.o.p.over HB3.o).grown hgr4 (hnb _ (by omega))
          have HQ4 : Hx (Bx (w.heap.size + 1 + 1) [.int .i64 0] W4):=(HI2.o.q.over HB3.o).grown hgr4 (hnb _ (by omega))
          have HRD4:=hide ((HI2.o.rd.over HB3.o).row hown (Nat.lt_succ_self _) hgr4)
          have HCOP4 : Hx (Cop (w.heap.size + 1 + 1 + 1 + 1) 51 13 (fun i cs W => ∀ x,(acc ++ [d])[i]? = some x→XD W (2 * ts.length + 3) cs x) (acc.length + 1) v2 W4):=Cop.add (B1:=w1.heap.size) hown (fun i hi => by
              obtain ⟨ds,z1,z2,z3⟩:=hel i hi
              exact ⟨ds,z1,z2,z3.imp fun W hW x hx => hW x (by rw [List.getElem?_append_left hi] at hx; exact hx)⟩) rfl ((HOFF.o.over HB3.o).imp fun W hW x hx => by
                rw [List.getElem?_append_right (Nat.le_refl _),Nat.sub_self] at hx
                injection hx with hx
                rw [← hx]; exact hW) HI1.o.rd.st.lt (fun g hg => by
                obtain ⟨ys,h1,-⟩:=HI1.o.cop
                exact (own_lt h1 hg).2) hown4 hgr4 hat
          obtain ⟨va2,vn2,vc2,hv2⟩:=own_form hown4
          subst hv2
          refine step_appJ rfl _ _ _ rfl _ _ _ _ rfl rfl hrun ?_
          clear hrun hown hel hown4 hgr4 hat hnb ht4
          refine xK hK (trivial) fun hHeld => ?_
          clear hK K
          refine kT (hQ:=by exact fun c a w h => ⟨Head.put (by decide) h.1,h.2⟩) 6 ?_
          refine rdA 7 rfl fun K hK => ?_
          go_simp
          refine xK hK (trivial) fun hHeld => ?_
          clear hK K
          refine gE ?_
          have hfw:=HI1.o.few
          have hlt:=pDecl_lt HO.o
          exact ⟨d,n1,.slice va2 vn2 vc2,_,_,_,_,_,_,_,_,_,_,rfl,HO.o,⟨HRD4.o.set (Nat.le_refl _) (by omega),HT4.o.set (j:=0) (by simp),HP4.o.far (by omega),HQ4.o.far (by omega),by rw [List.length_append]; exact HCOP4.o.set (by omega),by rw [List.length_append]; show acc.length + 1≤n1; omega⟩⟩
        · go_simp
          refine (KD.o _ HOV.o).mono ?_
          rintro e w2 hp
          obtain ⟨m1,ho⟩ | ⟨d,n1,ho⟩:=res_cases (pDecl ts en m)
          · rw [ho] at hp
            obtain ⟨rfl,hg⟩:=hp
            have HG:=hide (grownBy_trans (grownBy_below HOV.o) hg)
            have HO:=hide ho
            clear hg ho hK hHeld
            unfold gaveUpAt
            go_simp
            exact ⟨⟨rfl,rfl,rfl,rfl⟩,m1,HO.o,rfl,HG.o⟩
          rw [ho] at hp
          obtain ⟨kd,a,x,y,gv,q0,q1,q2,q3,q4,q5,q6,q7,q8,e0,e1,e2,e3,q9,r0,r1,rfl,hof,hg1,hst1⟩:=hp
          have hg2:=grownBy_trans (grownBy_below (r:=some (w.heap.size + 1 + 1 + 1)) HOV.o) hg1
          have hi2:=HI1.o.call (by omega) hg2 hst1 (Nat.le_of_lt (pDecl_lt ho))
          have HI2:=hide hi2
          have HOFF:=hide (hof.base HOV.o.size)
          have HO:=hide ho
          have s2:=hi2.t.row 0 _ rfl
          clear ho hg1 hst1 hg2 hHeld hof hi2
          go_simp
          refine xK hK (trivial) fun hHeld => ?_
          clear hK K
          refine rdB 1 4 rfl (fun K hK => ?_) rfl fun K hK => ?_
          · first | (have sx:=s3; go_simp) | (have sx:=s2; go_simp) | (have sx:=sv; go_simp)
            refine xK hK (trivial) fun hHeld => ?_
            clear hK K
            refine rdA 4 rfl fun K hK => ?_
            obtain ⟨W3,hW3⟩:=nm (w2.alloc (.cells #[.int .i64 kd,.int .i64 a,.string x,.string y,.bool gv,.slice q0 q1 q2,.slice q3 q4 q5,.slice q6 q7 q8,.int .i64 e0,.int .i64 e1,.int .i64 e2,.string e3,.slice q9 r0 r1] 51))
            obtain ⟨zb,hzb⟩:=nm w2.heap.size
            have HB3 : Hx (Ov w2 W3):=by show Ov _ _; rw [hW3]; exact bA _ _
            have HZ : Hx (RowAt [.int .i64 kd,.int .i64 a,.string x,.string y,.bool gv,.slice q0 q1 q2,.slice q3 q4 q5,.slice q6 q7 q8,.int .i64 e0,.int .i64 e1,.int .i64 e2,.string e3,.slice q9 r0 r1] W3 zb):=by show RowAt _ _ _; rw [hW3,hzb]; exact al10 w2 [.int .i64 kd,.int .i64 a,.string x,.string y,.bool gv,.slice q0 q1 q2,.slice q3 q4 q5,.slice q6 q7 q8,.int .i64 e0,.int .i64 e1,.int .i64 e2,.string e3,.slice q9 r0 r1] 51
            have s3:=ce1 HB3.o s2
            go_simp
            rw [← hW3,← hzb]
            clear hW3 hzb hHeld
            refine xK hK (trivial) fun hHeld => ?_
            clear hK K
            refine rdA 5 rfl fun K hK => ?_
            obtain ⟨xs,hown,hel⟩:=HI2.o.cop.over HB3.o
            obtain ⟨v2,W4,hrun,hown4,hgr4,-,hat⟩:=run_append_own_at (P:=Tryz.prog) (w:=W3) (w.heap.size + 1 + 1 + 1 + 1) 22 22 51 i0 (.agg #[.int .i64 0,.int .i64 0,.string ⟨#[]⟩,.string ⟨#[]⟩,.bool false,.slice none 0 0,.slice none 0 0,.slice none 0 0,.int .i64 0,.int .i64 0,.int .i64 0,.string ⟨#[]⟩,.slice none 0 0]) 13 192 Tryz.underlying22 hi hz0 hz1 hz2 rfl (by decide) _ _ _ hown ⟨zb,0,none⟩ 1 1 [.int .i64 kd,.int .i64 a,.string x,.string y,.bool gv,.slice q0 q1 q2,.slice q3 q4 q5,.slice q6 q7 q8,.int .i64 e0,.int .i64 e1,.int .i64 e2,.string e3,.slice q9 r0 r1] rfl (fun jj u hu => by rw [Addr.add_lit,Nat.zero_add]; exact HZ.o jj u hu) (by simp [Value.oneCell']) (by have:=HI1.o.few; have:=HI1.o.rd.st.2.1; have:=HI1.o.rd.st.2.2.1; unfold maxLen; omega) (by have:=HI1.o.few; have:=HI1.o.rd.st.2.1; have:=HI1.o.rd.st.2.2.1; omega) (by have:=HI2.o.rd.st.lt; have:=HB3.o.size; omega)
            have hnb : ∀ i,i < w.heap.size + 1 + 1 + 1 + 1→some i≠(Value.slice la k lc).ownBlock:=fun i hk e => by have:=(own_lt hown e.symm).1; omega
            have ht4 : Bx (w.heap.size) [.slice la k lc,.slice none 0 0] W4:=(HI2.o.t.over HB3.o).grown hgr4 (hnb _ (by omega))
            have s4:=ht4.row 0 _ rfl
            have f4:=ht4.fz 0
            have HT4:=hide ht4
            have HP4 : Hx (Bx (w.heap.size + 1) [.int .i64 0] W4):=(HI2.o.p.over HB3.o).grown hgr4 (hnb _ (by omega))
            have HQ4 : Hx (Bx (w.heap.size + 1 + 1) [.int .i64 0] W4):=(HI2.o.q.over HB3.o).grown hgr4 (hnb _ (by omega))
            have HRD4:=hide ((HI2.o.rd.over HB3.o).row hown (Nat.lt_succ_self _) hgr4)
            have HCOP4 : Hx (Cop (w.heap.size + 1 + 1 + 1 + 1) 51 13 (fun i cs W => ∀ x,(acc ++ [d])[i]? = some x→XD W (2 * ts.length + 3) cs x) (acc.length + 1) v2 W4):=Cop.add (B1:=w1.heap.size) hown (fun i hi => by
                obtain ⟨ds,z1,z2,z3⟩:=hel i hi
                exact ⟨ds,z1,z2,z3.imp fun W hW x hx => hW x (by rw [List.getElem?_append_left hi] at hx; exact hx)⟩) rfl ((HOFF.o.over HB3.o).imp fun W hW x hx => by
                  rw [List.getElem?_append_right (Nat.le_refl _),Nat.sub_self] at hx
                  injection hx with hx
                  rw [← hx]; exact hW) HI1.o.rd.st.lt (fun g hg => by
                  obtain ⟨ys,h1,-⟩:=HI1.o.cop
                  exact (own_lt h1 hg).2) hown4 hgr4 hat
            obtain ⟨va2,vn2,vc2,hv2⟩:=own_form hown4
            subst hv2
            refine step_appJ rfl _ _ _ rfl _ _ _ _ rfl rfl hrun ?_
            clear hrun hown hel hown4 hgr4 hat hnb ht4
            refine xK hK (trivial) fun hHeld => ?_
            clear hK K
            refine kT (hQ:=by exact fun c a w h => ⟨Head.put (by decide) h.1,h.2⟩) 6 ?_
            refine rdA 7 rfl fun K hK => ?_
            go_simp
            refine xK hK (trivial) fun hHeld => ?_
            clear hK K
            refine gE ?_
            have hfw:=HI1.o.few
            have hlt:=pDecl_lt HO.o
            exact ⟨d,n1,.slice va2 vn2 vc2,_,_,_,_,_,_,_,_,_,_,rfl,HO.o,⟨HRD4.o.set (Nat.le_refl _) (by omega),HT4.o.set (j:=0) (by simp),HP4.o.far (by omega),HQ4.o.far (by omega),by rw [List.length_append]; exact HCOP4.o.set (by omega),by rw [List.length_append]; show acc.length + 1≤n1; omega⟩⟩
          · obtain ⟨W3,hW3⟩:=nm (w2.alloc (.cells #[.int .i64 kd,.int .i64 a,.string x,.string y,.bool gv,.slice q0 q1 q2,.slice q3 q4 q5,.slice q6 q7 q8,.int .i64 e0,.int .i64 e1,.int .i64 e2,.string e3,.slice q9 r0 r1] 51))
            obtain ⟨zb,hzb⟩:=nm w2.heap.size
            have HB3 : Hx (Ov w2 W3):=by show Ov _ _; rw [hW3]; exact bA _ _
            have HZ : Hx (RowAt [.int .i64 kd,.int .i64 a,.string x,.string y,.bool gv,.slice q0 q1 q2,.slice q3 q4 q5,.slice q6 q7 q8,.int .i64 e0,.int .i64 e1,.int .i64 e2,.string e3,.slice q9 r0 r1] W3 zb):=by show RowAt _ _ _; rw [hW3,hzb]; exact al10 w2 [.int .i64 kd,.int .i64 a,.string x,.string y,.bool gv,.slice q0 q1 q2,.slice q3 q4 q5,.slice q6 q7 q8,.int .i64 e0,.int .i64 e1,.int .i64 e2,.string e3,.slice q9 r0 r1] 51
            have s3:=ce1 HB3.o s2
            go_simp
            rw [← hW3,← hzb]
            clear hW3 hzb hHeld
            refine xK hK (trivial) fun hHeld => ?_
            clear hK K
            refine rdA 1 rfl fun K hK => ?_
            first | (have sx:=s3; go_simp) | (have sx:=s2; go_simp) | (have sx:=sv; go_simp)
            refine xK hK (trivial) fun hHeld => ?_
            clear hK K
            refine rdA 5 rfl fun K hK => ?_
            obtain ⟨xs,hown,hel⟩:=HI2.o.cop.over HB3.o
            obtain ⟨v2,W4,hrun,hown4,hgr4,-,hat⟩:=run_append_own_at (P:=Tryz.prog) (w:=W3) (w.heap.size + 1 + 1 + 1 + 1) 22 22 51 i0 (.agg #[.int .i64 0,.int .i64 0,.string ⟨#[]⟩,.string ⟨#[]⟩,.bool false,.slice none 0 0,.slice none 0 0,.slice none 0 0,.int .i64 0,.int .i64 0,.int .i64 0,.string ⟨#[]⟩,.slice none 0 0]) 13 192 Tryz.underlying22 hi hz0 hz1 hz2 rfl (by decide) _ _ _ hown ⟨zb,0,none⟩ 1 1 [.int .i64 kd,.int .i64 a,.string x,.string y,.bool gv,.slice q0 q1 q2,.slice q3 q4 q5,.slice q6 q7 q8,.int .i64 e0,.int .i64 e1,.int .i64 e2,.string e3,.slice q9 r0 r1] rfl (fun jj u hu => by rw [Addr.add_lit,Nat.zero_add]; exact HZ.o jj u hu) (by simp [Value.oneCell']) (by have:=HI1.o.few; have:=HI1.o.rd.st.2.1; have:=HI1.o.rd.st.2.2.1; unfold maxLen; omega) (by have:=HI1.o.few; have:=HI1.o.rd.st.2.1; have:=HI1.o.rd.st.2.2.1; omega) (by have:=HI2.o.rd.st.lt; have:=HB3.o.size; omega)
            have hnb : ∀ i,i < w.heap.size + 1 + 1 + 1 + 1→some i≠(Value.slice la k lc).ownBlock:=fun i hk e => by have:=(own_lt hown e.symm).1; omega
            have ht4 : Bx (w.heap.size) [.slice la k lc,.slice none 0 0] W4:=(HI2.o.t.over HB3.o).grown hgr4 (hnb _ (by omega))
            have s4:=ht4.row 0 _ rfl
            have f4:=ht4.fz 0
            have HT4:=hide ht4
            have HP4 : Hx (Bx (w.heap.size + 1) [.int .i64 0] W4):=(HI2.o.p.over HB3.o).grown hgr4 (hnb _ (by omega))
            have HQ4 : Hx (Bx (w.heap.size + 1 + 1) [.int .i64 0] W4):=(HI2.o.q.over HB3.o).grown hgr4 (hnb _ (by omega))
            have HRD4:=hide ((HI2.o.rd.over HB3.o).row hown (Nat.lt_succ_self _) hgr4)
            have HCOP4 : Hx (Cop (w.heap.size + 1 + 1 + 1 + 1) 51 13 (fun i cs W => ∀ x,(acc ++ [d])[i]? = some x→XD W (2 * ts.length + 3) cs x) (acc.length + 1) v2 W4):=Cop.add (B1:=w1.heap.size) hown (fun i hi => by
                obtain ⟨ds,z1,z2,z3⟩:=hel i hi
                exact ⟨ds,z1,z2,z3.imp fun W hW x hx => hW x (by rw [List.getElem?_append_left hi] at hx; exact hx)⟩) rfl ((HOFF.o.over HB3.o).imp fun W hW x hx => by
                  rw [List.getElem?_append_right (Nat.le_refl _),Nat.sub_self] at hx
                  injection hx with hx
                  rw [← hx]; exact hW) HI1.o.rd.st.lt (fun g hg => by
                  obtain ⟨ys,h1,-⟩:=HI1.o.cop
                  exact (own_lt h1 hg).2) hown4 hgr4 hat
            obtain ⟨va2,vn2,vc2,hv2⟩:=own_form hown4
            subst hv2
            refine step_appJ rfl _ _ _ rfl _ _ _ _ rfl rfl hrun ?_
            clear hrun hown hel hown4 hgr4 hat hnb ht4
            refine xK hK (trivial) fun hHeld => ?_
            clear hK K
            refine kT (hQ:=by exact fun c a w h => ⟨Head.put (by decide) h.1,h.2⟩) 6 ?_
            refine rdA 7 rfl fun K hK => ?_
            go_simp
            refine xK hK (trivial) fun hHeld => ?_
            clear hK K
            refine gE ?_
            have hfw:=HI1.o.few
            have hlt:=pDecl_lt HO.o
            exact ⟨d,n1,.slice va2 vn2 vc2,_,_,_,_,_,_,_,_,_,_,rfl,HO.o,⟨HRD4.o.set (Nat.le_refl _) (by omega),HT4.o.set (j:=0) (by simp),HP4.o.far (by omega),HQ4.o.far (by omega),by rw [List.length_append]; exact HCOP4.o.set (by omega),by rw [List.length_append]; show acc.length + 1≤n1; omega⟩⟩
      · rintro act W ⟨d,n1,v,u13,u14,u15,u16,u17,u18,u19,u20,u21,u22,rfl,ho,hI⟩
        have hr:=HRQ.o
        rw [ho,bindR_inl] at hr
        have HRZ:=hide hr
        have HIZ:=hide hI
        have HLT:=hide (pDecl_lt ho)
        clear hr ho hI s1 KD HRQ
        go_wp2_with fail
        have hN:=HN.o
        have hN2:=nOf_st HIZ.o.rd.st
        have hF:=HF.o
        have hL:=HLT.o
        have hs:=HIZ.o.rd.st.2.1
        refine ⟨⟨_,_,_,_,_,_,_,_,_,_,⟨acc ++ [d],n1,f,v,HIZ.o,HRZ.o,by omega⟩,rfl⟩,by omega⟩
      · rintro c a W ⟨hd,h4,h5,h6⟩ ⟨m1,ho,rfl,hg⟩
        have hr:=HRQ.o
        rw [ho] at hr
        have HRZ : Hx (res = .inr m1):=hr.symm
        have HBZ:=hide (HI1.o.rd.gave hg)
        have HTZ:=hide (HI1.o.t.keep hg (by omega))
        have HPZ:=hide (HI1.o.p.keep hg (by omega))
        have HQZ:=hide (HI1.o.q.keep hg (by omega))
        obtain ⟨ad,at_⟩:=a
        simp only at hd h4 h5 h6
        clear hr ho hg s1 KD HRQ
        go_simp
        simp (config:={ zetaDelta:=true }) only [Exit.then,Exit.inBlock]
        refine leaves_cons (f:=50) (args:=#[.pointer (some ⟨w.heap.size,0,none⟩),.pointer (some ⟨w.heap.size + 1,0,none⟩),.pointer (some ⟨w.heap.size + 1 + 1,0,none⟩)]) (by simp) (by simp [go_sem]) ?_
        refine (rcatch_place w.heap.size _ _ 0 0 _ [] _ (by have:=HQZ.o.lt; omega) (HTZ.o.row 0 _ rfl) (HTZ.o.row 1 _ rfl) (HPZ.o.row 0 _ rfl) (HQZ.o.row 0 _ rfl) (HTZ.o.fz 0) (HTZ.o.fz 1) (HPZ.o.fz 0) (HQZ.o.fz 0)).mono ?_
        rintro e u' w9 ⟨rfl,rfl,d0,d1,d2,d3,hb3⟩
        have hbb:=HBZ.o.trans hb3
        simp [Leaves,settle,results,Tryz.results23,go_sem,d0,d1,d2,d3,h4,h5,h6]
        rw [HRZ.o]
        exact ⟨hbb,rfl⟩
end Go.Proofs.YtipngnjffjajpaaGreatDoor.Tx
