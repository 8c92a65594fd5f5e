/- Package tree's reader: commands one behind the other; a block. -/
import Derived.Test.YtipngnjffjajpaaGreatDoorG07
import Derived.ArgAppend
namespace Go.Proofs.YtipngnjffjajpaaGreatDoor.Tx
open Go.RowKit
set_option linter.unusedVariables false
theorem Tryz.infoStm : (Tryz.prog.info? 55).map (fun i => (i.zero,i.size,i.bytes)) = some (some (.agg #[.int .i64 0,.int .i64 0,.string ⟨#[]⟩,.string ⟨#[]⟩,.int .i64 0,.int .i64 0,.int .i64 0,.string ⟨#[]⟩,.slice none 0 0,.slice none 0 0,.slice none 0 0,.slice none 0 0]),12,184):=by kernel_rfl
section
variable {rb : Nat} {tv : Value} {ts : List Tok} {en : Nat}
theorem Rd.row {w V V' : World} {n B T s k : Nat} {v : Value} {xs : List Value} (h : Rd rb tv ts en w n V) (ho : V.ownsRow B T s v k xs) (hB : w.heap.size≤B) (hg : V.grownBy V' v.ownBlock) : Rd rb tv ts en w n V':=by
  obtain ⟨n0,h0⟩:=h.st0
  have hr:=h0.lt
  have hne : ∀ i,i < w.heap.size→some i≠v.ownBlock:=fun i hi e => by have:=(own_lt ho e.symm).1; omega
  have hg2:=h.gr
  have hg3 : w.grownBy V' (some rb):=⟨hg.os.trans hg2.os,hg.tape.trans hg2.tape,hg.output.trans hg2.output,Nat.le_trans hg2.size hg.size,fun i hi hn => (hg.block i (Nat.lt_of_lt_of_le hi hg2.size) (hne i hi)).trans (hg2.block i hi hn)⟩
  exact ⟨⟨n0,h0⟩,h0.keep hg3 (by rw [hg.block rb (Nat.lt_of_lt_of_le hr hg2.size) (hne rb hr)]; exact h.st.1) h.st.2.1,hg3⟩
theorem is_q (x : ByteArray) (l : List UInt8) (hl : x.data.toList = l) (n : Nat) (w : World) (h : St rb tv ts en n w) : Calls Tryz.prog 51 #[.pointer (some ⟨rb,0,none⟩),.string x] w fun e w' => e = .returned (.bool (isT ts n l))∧w.grownBy w' (some rb)∧St rb tv ts en n w':=by
  rw [← hl]; exact is_c x n w h
set_option maxHeartbeats 4000000 in
set_option maxRecDepth 100000 in
theorem stmts_of (f : Nat) (hS : ∀ f',f' < f→StmtOk rb tv ts en f') : StmtsOk rb tv ts en f:=by
  intro n w h hf
  obtain ⟨i0,hi,hz0,hz1,hz2⟩:=info_parts Tryz.infoStm
  obtain ⟨res,hres⟩:=nm (pStmts ts en f [] n)
  rw [← hres]
  have HR:=hide hres
  have HS:=hide hS
  have HD0:=hide (Rd.start h)
  have HF0:=hide hf
  clear h hres hS hf
  go_enter Tryz.func99,Tryz.ntmps99
  go_wp2_with fail
  go_loopw [3] (fun l wr => ∃ (acc : List D) (m f' : Nat),Cop w.heap.size 55 12 (fun i cs W => ∀ x,acc[i]? = some x→XC W f cs x) acc.length l wr∧Rd rb tv ts en w m wr∧pStmts ts en f' acc m = res∧2 * (ts.length - m) + 2≤f'∧f'≤f∧acc.length≤m) (fun _ wr => ts.length - nOf rb wr)
  case atStart => exact ⟨[],n,f,Cop.nil,HD0.o,HR.o.symm,HF0.o,Nat.le_refl _,Nat.zero_le _⟩
  case round =>
    obtain ⟨acc,m,f',hcop,hd,hp,hf1,hf2,hac⟩:=hrel
    obtain ⟨f1,rfl⟩ : ∃ f1,f' = f1 + 1:=⟨f' - 1,by omega⟩
    rw [pStmts_succ] at hp
    have hst:=hd.st
    have hm6 : m≤6000:=Nat.le_trans hst.2.1 hst.2.2.1
    have K1:=hide (is_q ⟨#[125]⟩ [125] rfl m wr hst)
    obtain ⟨la,lc,hla,-⟩:=hcop.cells (by decide)
    subst hla
    have HN:=hide (nOf_st hst)
    have HCO:=hide hcop
    have HD:=hide hd
    have HRP:=hide hp
    have HF:=hide (And.intro hf1 (And.intro hf2 (And.intro hac hm6)))
    obtain ⟨k,hk⟩:=nm acc.length
    rw [← hk] at HCO ⊢
    have HK:=hide hk
    clear hcop hd hp hst hf1 hf2 hac hm6 hk
    go_wp2_with fail
    refine K1.o.mono ?_
    rintro e w1 ⟨rfl,hg,hs⟩
    have HCO1:=hide (HCO.o.keep hg HD.o.rlt)
    have HD1:=hide (HD.o.call hg hs)
    have hgr1:=hg
    have HGR1:=hide hg
    clear hg hs hgr1 K1
    cases hq : isT ts m [125] with
    | true =>
      have HE : Hx (res = .inl (acc,m)):=by
        show _ = _
        rw [← HRP.o,if_pos (Or.inl hq)]
      have hfw : acc.length≤6000:=by have:=HF.o; omega
      have hc1:=HCO1.o
      rw [HK.o] at hc1
      obtain ⟨a,c,hv,hoff⟩:=Cop.ls hc1 (by decide) (by omega)
      injection hv with v1 v2 v3
      subst v1 v3
      have HOFF:=hide hoff
      have HFW:=hide hfw
      clear hq hc1 hoff hfw v2
      go_wp2_with fail
      go_ret
      rw [HE.o]
      exact ⟨la,lc,by rw [HK.o]; rfl,HOFF.o,HFW.o,HD1.o.gr,HD1.o.st⟩
    | false =>
      have K2:=hide (is_q ⟨#[114,101,116,117,114,110]⟩ [114,101,116,117,114,110] rfl m w1 HD1.o.st)
      have HQ:=hide hq
      clear hq
      go_wp2_with fail
      refine K2.o.mono ?_
      rintro e w2 ⟨rfl,hg,hs⟩
      have HCO2:=hide (HCO1.o.keep hg HD.o.rlt)
      have HD2:=hide (HD1.o.call hg hs)
      have HGR2:=hide (grownBy_trans HGR1.o hg)
      clear hg hs K2 HCO1 HD1
      cases hq : isT ts m [114,101,116,117,114,110] with
      | true =>
        have HE : Hx (res = .inl (acc,m)):=by
          show _ = _
          rw [← HRP.o,if_pos (Or.inr hq)]
        have hfw : acc.length≤6000:=by have:=HF.o; omega
        have hc1:=HCO2.o
        rw [HK.o] at hc1
        obtain ⟨a,c,hv,hoff⟩:=Cop.ls hc1 (by decide) (by omega)
        injection hv with v1 v2 v3
        subst v1 v3
        have HOFF:=hide hoff
        have HFW:=hide hfw
        clear hq hc1 hoff hfw v2
        go_wp2_with fail
        go_ret
        rw [HE.o]
        exact ⟨la,lc,by rw [HK.o]; rfl,HOFF.o,HFW.o,HD2.o.gr,HD2.o.st⟩
      | false =>
        have hr:=HRP.o
        rw [if_neg (by rw [HQ.o,hq]; simp)] at hr
        have HRQ : Hx (res = bindR (pStmt ts en f1 m) fun s n1 => pStmts ts en f1 (acc ++ [s]) n1):=hr.symm
        have KS:=hide (HS.o f1 (by have:=HF.o; omega) m w2 HD2.o.st (by have:=HF.o; omega))
        clear hr hq
        go_wp2_with fail
        refine KS.o.mono ?_
        rintro e w3 hpo
        obtain ⟨m1,ho⟩ | ⟨d,n1,ho⟩:=res_cases (pStmt ts en f1 m)
        · rw [ho] at hpo
          obtain ⟨rfl,hg⟩:=hpo
          have HO : Hx (res = .inr m1):=by show _ = _; rw [HRQ.o,ho]; rfl
          have HG:=hide (grownBy_trans HD2.o.gr hg)
          clear hg ho
          unfold gaveUpAt
          go_wp2_with fail
          refine ⟨rfl,?_⟩
          rw [HO.o]
          exact ⟨rfl,HG.o⟩
        rw [ho] at hpo
        obtain ⟨kd,a,x,y,e0,e1,e2,e3,q0,q1,q2,q3,q4,q5,q6,q7,q8,q9,r0,r1,rfl,hoff,hlt,hg,hs⟩:=hpo
        have hr:=HRQ.o
        rw [ho,bindR_inl] at hr
        have HRZ:=hide hr
        have hco3:=HCO2.o.keep hg HD.o.rlt
        have hd3:=HD2.o.call hg hs
        obtain ⟨W4,hW4⟩:=nm (w3.alloc (.cells #[.int .i64 kd,.int .i64 a,.string x,.string y,.int .i64 e0,.int .i64 e1,.int .i64 e2,.string e3,.slice q0 q1 q2,.slice q3 q4 q5,.slice q6 q7 q8,.slice q9 r0 r1] 55))
        have hb4 : Ov w3 W4:=by rw [hW4]; exact bA _ _
        obtain ⟨xs,hown,hpar⟩:=hco3.over hb4
        have HN4 : Hx (RowAt [.int .i64 kd,.int .i64 a,.string x,.string y,.int .i64 e0,.int .i64 e1,.int .i64 e2,.string e3,.slice q0 q1 q2,.slice q3 q4 q5,.slice q6 q7 q8,.slice q9 r0 r1] W4 w3.heap.size):=by show RowAt _ _ _; rw [hW4]; exact al10 w3 [.int .i64 kd,.int .i64 a,.string x,.string y,.int .i64 e0,.int .i64 e1,.int .i64 e2,.string e3,.slice q0 q1 q2,.slice q3 q4 q5,.slice q6 q7 q8,.slice q9 r0 r1] 55
        have HOFF:=hide (hoff.over hb4)
        have hBW : w.heap.size≤W4.heap.size:=Nat.le_trans hd3.size hb4.size
        have hrow : ∀ g,(Value.slice la k lc).ownBlock = some g→g < w2.heap.size:=fun g hg => by
          obtain ⟨ys,h1,-⟩:=HCO2.o
          exact (own_lt h1 hg).2
        have HROW:=hide hrow
        have HPAR:=hide hpar
        have HD4:=hide (hd3.over hb4)
        have HLT:=hide (And.intro hlt hs.2.1)
        have HSZ2:=hide HD2.o.size
        have hkb : k≤6000:=by have h1:=HF.o; have h2:=HK.o; omega
        clear hr ho hoff hlt hg hs hco3 hd3 hb4 hpar hrow KS
        go_wp2_with (at_builtin; (try rw [← hW4]); refine wpList_append_own_at _ rfl _ _ 23 rfl w.heap.size 55 i0 (.agg #[.int .i64 0,.int .i64 0,.string ⟨#[]⟩,.string ⟨#[]⟩,.int .i64 0,.int .i64 0,.int .i64 0,.string ⟨#[]⟩,.slice none 0 0,.slice none 0 0,.slice none 0 0,.slice none 0 0]) 12 184 Tryz.underlying23 hi hz0 hz1 hz2 rfl (by decide) _ _ _ rfl hown ⟨w3.heap.size,0,none⟩ 1 1 [.int .i64 kd,.int .i64 a,.string x,.string y,.int .i64 e0,.int .i64 e1,.int .i64 e2,.string e3,.slice q0 q1 q2,.slice q3 q4 q5,.slice q6 q7 q8,.slice q9 r0 r1] rfl rfl (fun jj u hu => by rw [Addr.add_lit,Nat.zero_add]; exact HN4.o jj u hu) (by simp [Value.oneCell']) (by unfold maxLen; omega) (by omega) hBW ?_)
        intro v2 W5 hown2 hgr2 _ hat
        rw [← hW4] at hgr2
        have hs4 : W4.heap.size = w3.heap.size + 1:=by rw [hW4]; simp
        replace hat : v2.ownBlock = (Value.slice la k lc).ownBlock∨v2.ownBlock = some W4.heap.size:=by rw [hs4]; simpa using hat
        have hcop : Cop w.heap.size 55 12 (fun i cs W => ∀ x,(acc ++ [d])[i]? = some x→XC W f cs x) (k + 1) v2 W5:=Cop.add (B1:=w2.heap.size) hown (fun i hi => by
            obtain ⟨ds,z1,z2,z3⟩:=HPAR.o i hi
            exact ⟨ds,z1,z2,z3.imp fun W hW x hx => hW x (by rw [List.getElem?_append_left (by rw [← HK.o]; exact hi)] at hx; exact hx)⟩) rfl (HOFF.o.imp fun W hW x hx => by
              rw [List.getElem?_append_right (by rw [HK.o]; exact Nat.le_refl _),HK.o,Nat.sub_self] at hx
              injection hx with hx
              rw [← hx]; exact XC.mono (by have:=HF.o; omega) hW) HSZ2.o HROW.o hown2 hgr2 hat
        have hd5:=HD4.o.row hown (Nat.le_refl _) hgr2
        obtain ⟨va2,vn2,vc2,hv2⟩:=own_form hown2
        subst hv2
        have HCOP:=hide hcop
        have HD5:=hide hd5
        have HN5:=hide (nOf_st hd5.st)
        clear hcop hd5 hown hown2 hgr2 hat hBW hs4 hW4
        go_wp2_with fail
        have hF:=HF.o
        have hL:=HLT.o
        have hN:=HN.o
        have hN5:=HN5.o
        refine ⟨⟨acc ++ [d],n1,f1,?_,HD5.o,HRZ.o.symm,by omega,by omega,by simp; omega⟩,by omega⟩
        have:=HCOP.o
        rw [HK.o] at this
        simpa using this
set_option maxHeartbeats 2000000 in
/-- a block. -/
theorem block_c (f : Nat) (hS : StmtsOk rb tv ts en f) (n : Nat) (w : World) (h : St rb tv ts en n w) (hf : 2 * (ts.length - n)≤f) :
    Calls Tryz.prog 54 #[.pointer (some ⟨rb,0,none⟩)] w (PostC ts en (pBlock ts (fun n => pStmts ts en f [] n) n) (fun l n1 e w' => ∃ a c,e = .returned (.slice a l.length c)∧Off w.heap.size none w' (fun W => LS 12 (XC W f) W (.slice a l.length c) l)∧l.length≤6000∧w.grownBy w' (some rb)∧St rb tv ts en n1 w') (fun w' => w.grownBy w' (some rb))):=by
  obtain ⟨res,hres⟩:=nm (pBlock ts (fun n => pStmts ts en f [] n) n)
  rw [← hres]
  have HRP : Hx (res = bindR (pTake ts [123] n) fun _ n1 => bindR (pStmts ts en f [] n1) fun l n2 => bindR (pTake ts [125] n2) fun _ n3 => .inl (l,n3)):=hres
  have HD:=hide (Rd.start h)
  have HS:=hide hS
  have HF:=hide hf
  have K1:=hide (take_c ⟨#[123]⟩ (by decide) n w h)
  clear h hres hS hf
  go_enter Tryz.func54,Tryz.ntmps54
  go_wp2_with fail
  refine K1.o.mono ?_
  rintro e w1 hpo
  obtain ⟨m,ho⟩ | ⟨_u,n1,ho⟩:=res_cases (pTake ts [123] n)
  · replace hpo : PostC ts en (pTake ts [123] n) _ _ e w1:=hpo
    rw [ho] at hpo
    obtain ⟨rfl,hg⟩:=hpo
    have HO : Hx (res = .inr m):=by show _ = _; rw [HRP.o,ho]; rfl
    have HG:=hide (grownBy_trans HD.o.gr hg)
    clear hg ho
    unfold gaveUpAt
    go_wp2_with fail
    refine ⟨rfl,?_⟩
    rw [HO.o]
    exact ⟨rfl,HG.o⟩
  replace hpo : PostC ts en (pTake ts [123] n) _ _ e w1:=hpo
  rw [ho] at hpo
  obtain ⟨rfl,hg,hs⟩:=hpo
  have hr:=HRP.o
  rw [ho,bindR_inl] at hr
  replace HRP:=hide hr
  have HOO:=hide ho
  clear hr ho
  have HN1:=hide (show n + 1≤n1 from pTake_lt HOO.o)
  clear HOO
  replace HD : Hx (Rd rb tv ts en w (n1) w1):=HD.o.call hg hs
  clear hg hs
  have K2:=hide (HS.o n1 _ HD.o.st (by have:=HF.o; have:=HN1.o; have:=HD.o.st.2.1; omega))
  clear K1
  go_wp2_with fail
  obtain ⟨z,hz⟩:=nm w1.heap.size
  have HWz : Hx (w.heap.size≤z):=by show _≤_; rw [hz]; exact HD.o.size
  refine K2.o.mono ?_
  rintro e w2 hpo
  obtain ⟨m,ho⟩ | ⟨l,n2,ho⟩:=res_cases (pStmts ts en f [] n1)
  · replace hpo : PostC ts en (pStmts ts en f [] n1) _ _ e w2:=hpo
    rw [ho] at hpo
    obtain ⟨rfl,hg⟩:=hpo
    have HO : Hx (res = .inr m):=by show _ = _; rw [HRP.o,ho]; rfl
    have HG:=hide (grownBy_trans HD.o.gr hg)
    clear hg ho
    unfold gaveUpAt
    go_wp2_with fail
    refine ⟨rfl,?_⟩
    rw [HO.o]
    exact ⟨rfl,HG.o⟩
  replace hpo : PostC ts en (pStmts ts en f [] n1) _ _ e w2:=hpo
  rw [ho] at hpo
  obtain ⟨la,lc,rfl,hoff,hl6,hg,hs⟩:=hpo
  have hr:=HRP.o
  rw [ho,bindR_inl] at hr
  replace HRP:=hide hr
  have HOO:=hide ho
  clear hr ho
  obtain ⟨lk,hlk⟩:=nm l.length
  rw [← hlk,← hz] at hoff
  rw [← hlk]
  have HOFF:=hide hoff
  have HLK:=hide (And.intro hlk hl6)
  clear hoff hl6 hlk hz
  clear HOO
  replace HD : Hx (Rd rb tv ts en w (n2) w2):=HD.o.call hg hs
  clear hg hs
  have K3:=hide (take_c ⟨#[125]⟩ (by decide) n2 _ HD.o.st)
  clear K2
  go_wp2_with fail
  refine K3.o.mono ?_
  rintro e w3 hpo
  obtain ⟨m,ho⟩ | ⟨_u2,n3,ho⟩:=res_cases (pTake ts [125] n2)
  · replace hpo : PostC ts en (pTake ts [125] n2) _ _ e w3:=hpo
    rw [ho] at hpo
    obtain ⟨rfl,hg⟩:=hpo
    have HO : Hx (res = .inr m):=by show _ = _; rw [HRP.o,ho]; rfl
    have HG:=hide (grownBy_trans HD.o.gr hg)
    clear hg ho
    unfold gaveUpAt
    go_wp2_with fail
    refine ⟨rfl,?_⟩
    rw [HO.o]
    exact ⟨rfl,HG.o⟩
  replace hpo : PostC ts en (pTake ts [125] n2) _ _ e w3:=hpo
  rw [ho] at hpo
  obtain ⟨rfl,hg,hs⟩:=hpo
  have hr:=HRP.o
  rw [ho,bindR_inl] at hr
  replace HRP:=hide hr
  have HOO:=hide ho
  clear hr ho
  clear HOO
  replace HOFF:=hide (HOFF.o.keep hg (by have:=HD.o.rlt; have:=HWz.o; omega))
  replace HD : Hx (Rd rb tv ts en w (n3) w3):=HD.o.call hg hs
  clear hg hs
  go_wp2_with fail
  go_ret
  rw [HRP.o]
  have hlk:=HLK.o.1
  subst hlk
  exact ⟨la,lc,rfl,HOFF.o.base HWz.o,HLK.o.2,HD.o.gr,HD.o.st⟩
end
theorem Tryz.infoTE : (Tryz.prog.info? 49).map (fun i => (i.zero,i.size,i.bytes)) = some (some (.agg #[.int .i64 0,.int .i64 0,.int .i64 0,.string ⟨#[]⟩,.slice none 0 0]),5,64):=by kernel_rfl
/-- behind a region it goes on as if nothing else. -/
def onlyN (Qn : Act→World→Prop) : Exit→Act→World→Prop
  | .normal,a,w => Qn a w
  | _,_,_ => False
theorem region_cut {P : Program} {id : Nat} {ops : Array Oper} {dr : Bool} {Q : Exit→Act→World→Prop} {a : Act} {w : World} (R : Act→World→Prop) (h : (Code.region id ops dr).wp P (onlyN R) a w) (hq : ∀ a w,R a w→Q .normal a w) : (Code.region id ops dr).wp P Q a w :=
  wp_mono h fun e a w h => by cases e <;> first | exact hq _ _ h | exact h.elim
theorem onlyN_intro {R : Act→World→Prop} {a : Act} {w : World} (h : R a w) : onlyN R .normal a w:=h
/-- one cell of a row of one's own is another one. -/
theorem own_set1 {W : World} {B e s n g cap i : Nat} {xs : List Value} {u : Value} (h : W.ownsRow B e s (.slice (some ⟨g,0,none⟩) n cap) n xs) (hi : i < n * s) : (W.setCell ⟨g,i,none⟩ u).ownsRow B e s (.slice (some ⟨g,0,none⟩) n cap) n (xs.set i u):=by
  obtain ⟨h1,⟨h2,-⟩ | ⟨g',cap',cur,hv,hb,hg,hn,hc,hs,ht⟩⟩:=h
  · cases h2
  injection hv with v1 v2 v3
  injection v1 with v1
  injection v1 with v1
  subst v1 v3
  have hic : i < cur.size:=by rw [hs]; exact Nat.lt_of_lt_of_le hi (Nat.mul_le_mul_right _ hn)
  refine ⟨by simp [h1],Or.inr ⟨g,cap,cur.set i u hic,rfl,hb,?_,hn,hc,by simp [hs],?_⟩⟩
  · have hlt : g < W.heap.size:=(Array.getElem?_eq_some_iff.1 hg).1
    have hgg : W.heap[g] = .cells cur e:=by
      have:=Array.getElem?_eq_getElem hlt
      rw [hg] at this
      injection this with this
      exact this.symm
    simp only [World.setCell]
    rw [Array.getElem?_eq_getElem (by simpa using hlt),Array.getElem_modify_self,hgg]
    simp [Array.setIfInBounds,hic]
  · rw [Array.toList_set,List.take_set,ht]
/-- what hangs on fresh blocks, where a row has grown. -/
theorem Off.row2 {B : Nat} {v v' : Value} {w w' : World} {P : World→Prop} (h : Off B v.ownBlock w P) (hg : ∀ k,B≤k→k < w.heap.size→some k≠v.ownBlock→w'.heap[k]? = w.heap[k]?) (hs : w.heap.size≤w'.heap.size) (hv : v'.ownBlock = v.ownBlock∨v'.ownBlock = some w.heap.size) : Off B v'.ownBlock w' P:=fun W hW => h W fun k h1 h2 h3 =>
  (hW k h1 (Nat.lt_of_lt_of_le h2 hs) (by
    rcases hv with e | e
    · rw [e]; exact h3
    · rw [e]; intro q; injection q with q; omega)).trans (hg k h1 h2 h3)
structure GroB (w0 wz : World) (rb : Nat) (tv : Value) (ts : List Tok) (en sb b1 b2 B : Nat) (c0 c1 c2 c3 c4 c5 c6 c7 c8 cT cE : Value) (acc : List D) (n : Nat) (w : World) : Prop where
  rd : Rd rb tv ts en w0 n w
  s0 : w0.heap.size≤sb
  s1 : sb < B
  p0 : w0.heap.size≤b1
  p1 : b1 < B
  q0 : w0.heap.size≤b2
  q1 : b2 < B
  n1 : sb≠b1
  n2 : sb≠b2
  sz : B≤w.heap.size
  r1 : Bx b1 [.pointer (some ⟨rb,0,none⟩)] w
  r2 : Bx b2 [.pointer (some ⟨sb,0,none⟩)] w
  few : acc.length≤n
  fr : ∀ k,k < B→k≠rb→k≠sb→w.heap[k]? = wz.heap[k]?
  row : ∃ v,Bx sb [c0,c1,c2,c3,c4,c5,c6,c7,c8,v,cT,cE] w∧Cop B 49 5 (fun i cs W => ∀ x,acc[i]? = some x→XE W 61 cs x) acc.length v w
section
variable {w0 wz : World} {rb : Nat} {tv : Value} {ts : List Tok} {en sb b1 b2 B : Nat} {c0 c1 c2 c3 c4 c5 c6 c7 c8 cT cE : Value} {acc : List D} {n n1 : Nat} {w w1 W2 W : World} {v v2 : Value} {xs cs : List Value} {a : D}
theorem GroB.move (h : GroB w0 wz rb tv ts en sb b1 b2 B c0 c1 c2 c3 c4 c5 c6 c7 c8 cT cE acc n w) (hn : n≤n1) (hg : w.grownBy w1 (some rb)) (hs : St rb tv ts en n1 w1) : GroB w0 wz rb tv ts en sb b1 b2 B c0 c1 c2 c3 c4 c5 c6 c7 c8 cT cE acc n1 w1:=by
  obtain ⟨v,hv,hc⟩:=h.row
  have hr:=h.rd.rlt
  have e0:=h.s0; have e1:=h.p0; have e2:=h.q0; have e3:=h.s1
  refine ⟨h.rd.call hg hs,h.s0,h.s1,h.p0,h.p1,h.q0,h.q1,h.n1,h.n2,Nat.le_trans h.sz hg.size,h.r1.keep hg (by omega),h.r2.keep hg (by omega),Nat.le_trans h.few hn,fun k h1 h2 h3 => ?_,v,hv.keep hg (by omega),hc.keep hg (by omega)⟩
  rw [hg.block k (Nat.lt_of_lt_of_le h1 h.sz) (fun e => by injection e with e; exact h2 e)]
  exact h.fr k h1 h2 h3
theorem GroB.app (h : GroB w0 wz rb tv ts en sb b1 b2 B c0 c1 c2 c3 c4 c5 c6 c7 c8 cT cE acc n w) (hv : w.cell? ⟨sb,9,none⟩ = some v) (hg : w.grownBy w1 (some rb)) (hb : Ov w1 W2) : ∃ xs,W2.ownsRow B 49 5 v acc.length xs∧(∀ i,i < acc.length→∃ cs : List Value,cs.length = 5∧(∀ j u,cs[j]? = some u→xs[i * 5 + j]? = some u)∧Off B v.ownBlock W2 (fun W => ∀ x,acc[i]? = some x→XE W 61 cs x))∧∀ k,v.ownBlock = some k→k < w.heap.size:=by
  obtain ⟨v',hv',hc⟩:=h.row
  have:=hv'.row 9 _ rfl
  rw [hv] at this
  injection this with this
  subst this
  have hr:=h.rd.rlt
  have e0:=h.s0; have e3:=h.s1
  obtain ⟨xs,h1,h2⟩:=(hc.keep hg (by omega)).over hb
  obtain ⟨ys,h3,-⟩:=hc
  exact ⟨xs,h1,h2,fun k hk => (own_lt h3 hk).2⟩
theorem GroB.fin (h : GroB w0 wz rb tv ts en sb b1 b2 B c0 c1 c2 c3 c4 c5 c6 c7 c8 cT cE acc n w) (hg : w.grownBy w1 (some rb)) (hs : St rb tv ts en n1 w1) (hn : n + 1≤n1) (hb : Ov w1 W2)
    (hown : W2.ownsRow B 49 5 v acc.length xs) (hel : ∀ i,i < acc.length→∃ cs : List Value,cs.length = 5∧(∀ j u,cs[j]? = some u→xs[i * 5 + j]? = some u)∧Off B v.ownBlock W2 (fun W => ∀ x,acc[i]? = some x→XE W 61 cs x)) (hrow : ∀ k,v.ownBlock = some k→k < w.heap.size)
    (hl : cs.length = 5) (hoff : Off w.heap.size none w1 (fun W => XE W 61 cs a)) (hW : ∀ k,k < W2.heap.size→some k≠v.ownBlock→k≠sb→W.heap[k]? = W2.heap[k]?) (hWs : W2.heap.size≤W.heap.size) (ho1 : W.os = W2.os) (ho2 : W.tape = W2.tape) (ho3 : W.output = W2.output)
    (hbx : Bx sb [c0,c1,c2,c3,c4,c5,c6,c7,c8,v2,cT,cE] W) (hown3 : W.ownsRow B 49 5 v2 (acc.length + 1) (xs ++ cs)) (hat : v2.ownBlock = v.ownBlock∨v2.ownBlock = some W2.heap.size) :
    GroB w0 wz rb tv ts en sb b1 b2 B c0 c1 c2 c3 c4 c5 c6 c7 c8 cT cE (acc ++ [a]) n1 W:=by
  have hm:=h.move (Nat.le_of_lt hn) hg hs
  have hr:=h.rd.rlt
  have e0:=h.s0; have e1:=h.p0; have e2:=h.q0; have e3:=h.s1; have e4:=h.p1; have e5:=h.q1
  have hnb : ∀ k,k < B→some k≠v.ownBlock:=fun k hk e => by have:=(own_lt hown e.symm).1; omega
  have hBW : B≤W2.heap.size:=Nat.le_trans hm.sz hb.size
  have hblk : ∀ k,k < B→k≠sb→W.heap[k]? = w1.heap[k]?:=fun k hk hks => by
    rw [hW k (by omega) (hnb k hk) hks,hb.block k (Nat.lt_of_lt_of_le hk hm.sz)]
  have hg0:=hm.rd.gr
  have hgW : w0.grownBy W (some rb):=⟨(ho1.trans hb.os).trans hg0.os,(ho2.trans hb.tape).trans hg0.tape,(ho3.trans hb.output).trans hg0.output,Nat.le_trans (Nat.le_trans hg0.size hb.size) hWs,fun k hk hne => (hblk k (by omega) (by omega)).trans (hg0.block k hk hne)⟩
  obtain ⟨m0,hm0⟩:=hm.rd.st0
  have hst : St rb tv ts en n1 W:=hm0.keep hgW (by rw [hblk rb (by omega) (by omega)]; exact hs.1) hs.2.1
  have hbk : ∀ {b : Nat} {ds : List Value},Bx b ds w1→b < B→b≠sb→Bx b ds W:=fun {b ds} hx hlt hne => ⟨fun j u hu => (World.cell?_of_block (a:=⟨b,j,none⟩) (hblk b hlt hne)).trans (hx.row j u hu),fun j => (World.frozen?_of_block (a:=⟨b,j,none⟩) (hblk b hlt hne)).trans (hx.fz j),by omega⟩
  refine ⟨⟨⟨m0,hm0⟩,hst,hgW⟩,h.s0,h.s1,h.p0,h.p1,h.q0,h.q1,h.n1,h.n2,by omega,hbk hm.r1 e4 (fun e => h.n1 e.symm),hbk hm.r2 e5 (fun e => h.n2 e.symm),?_,fun k h1 h2 h3 => ?_,v2,hbx,?_⟩
  · have:=h.few
    simp; omega
  · rw [hblk k h1 h3]; exact hm.fr k h1 h2 h3
  · refine ⟨xs ++ cs,by rw [List.length_append]; exact hown3,fun i hi => ?_⟩
    by_cases hia : i < acc.length
    · obtain ⟨ds,q1,q2,q3⟩:=hel i hia
      refine ⟨ds,q1,fun j u hu => ?_,Off.row2 (q3.imp fun W hW x hx => hW x (by rw [List.getElem?_append_left hia] at hx; exact hx)) (fun k k1 k2 k3 => hW k k2 k3 (by omega)) hWs hat⟩
      have:=q2 j u hu
      rw [List.getElem?_append_left (List.getElem?_eq_some_iff.1 this).1]
      exact this
    · have hie : i = acc.length:=by simp at hi; omega
      subst hie
      have hn2 : Off B v.ownBlock W2 (fun W => ∀ x,(acc ++ [a])[acc.length]? = some x→XE W 61 cs x):=((hoff.over hb).weak h.sz hrow).imp fun W hW x hx => by
        rw [List.getElem?_append_right (Nat.le_refl _),Nat.sub_self] at hx
        injection hx with hx
        rw [← hx]; exact hW
      refine ⟨cs,hl,fun j u hu => ?_,Off.row2 hn2 (fun k k1 k2 k3 => hW k k2 k3 (by omega)) hWs hat⟩
      rw [List.getElem?_append_right (by rw [hown.1]; omega),hown.1,Nat.add_sub_cancel_left]
      exact hu
theorem set_after {xs zs : List Value} {m j : Nat} {u : Value} (hm : xs.length = m) : (xs ++ zs).set (m + j) u = xs ++ zs.set j u:=by
  rw [List.set_append,if_neg (by omega),hm,Nat.add_sub_cancel_left]
theorem own_fill5 {W : World} {k g vn vc : Nat} {z0 z1 z2 z3 z4 u0 u1 u2 u3 u4 : Value} (h : W.ownsRow B 49 5 (.slice (some ⟨g,0,none⟩) vn vc) (k + 1) (xs ++ [z0,z1,z2,z3,z4])) (hx : xs.length = k * 5) :
    (((((W.setCell ⟨g,k * 5,none⟩ u0).setCell ⟨g,k * 5 + 1,none⟩ u1).setCell ⟨g,k * 5 + 2,none⟩ u2).setCell ⟨g,k * 5 + 3,none⟩ u3).setCell ⟨g,k * 5 + 4,none⟩ u4).ownsRow B 49 5 (.slice (some ⟨g,0,none⟩) vn vc) (k + 1) (xs ++ [u0,u1,u2,u3,u4]):=by
  have hvn:=own_len h
  subst hvn
  have h0:=own_set1 (i:=k * 5 + 0) (u:=u0) h (by omega)
  rw [set_after hx] at h0
  have h1:=own_set1 (i:=k * 5 + 1) (u:=u1) h0 (by omega)
  rw [set_after hx] at h1
  have h2:=own_set1 (i:=k * 5 + 2) (u:=u2) h1 (by omega)
  rw [set_after hx] at h2
  have h3:=own_set1 (i:=k * 5 + 3) (u:=u3) h2 (by omega)
  rw [set_after hx] at h3
  have h4:=own_set1 (i:=k * 5 + 4) (u:=u4) h3 (by omega)
  rw [set_after hx] at h4
  exact h4
theorem set_all (V : World) (p : Addr) (u : Value) : (V.setCell p u).os = V.os∧(V.setCell p u).tape = V.tape∧(V.setCell p u).output = V.output∧(V.setCell p u).heap.size = V.heap.size:=⟨rfl,rfl,rfl,by simp [World.setCell]⟩
theorem GroB.inplace {W3 : World} {k g vn vc : Nat} {z0 z1 z2 z3 z4 u0 u1 u2 u3 u4 : Value} (h : GroB w0 wz rb tv ts en sb b1 b2 B c0 c1 c2 c3 c4 c5 c6 c7 c8 cT cE acc n w) (hg : w.grownBy w1 (some rb)) (hs : St rb tv ts en n1 w1) (hn : n + 1≤n1) (hb : Ov w1 W2)
    (hown : W2.ownsRow B 49 5 v acc.length xs) (hel : ∀ i,i < acc.length→∃ cs : List Value,cs.length = 5∧(∀ j u,cs[j]? = some u→xs[i * 5 + j]? = some u)∧Off B v.ownBlock W2 (fun W => ∀ x,acc[i]? = some x→XE W 61 cs x)) (hrow : ∀ k,v.ownBlock = some k→k < w.heap.size)
    (hoff : Off w.heap.size none w1 (fun W => XE W 61 [u0,u1,u2,u3,u4] a)) (hgr : W2.grownBy W3 v.ownBlock) (hbx : Bx sb [c0,c1,c2,c3,c4,c5,c6,c7,c8,v,cT,cE] W3)
    (hown3 : W3.ownsRow B 49 5 (.slice (some ⟨g,0,none⟩) vn vc) (acc.length + 1) (xs ++ [z0,z1,z2,z3,z4])) (hat : (Value.slice (some ⟨g,0,none⟩) vn vc).ownBlock = v.ownBlock∨(Value.slice (some ⟨g,0,none⟩) vn vc).ownBlock = some W2.heap.size) (hk : k = acc.length) (hgb : B≤g) :
    GroB w0 wz rb tv ts en sb b1 b2 B c0 c1 c2 c3 c4 c5 c6 c7 c8 cT cE (acc ++ [a]) n1 ((((((W3.setCell ⟨sb,9,none⟩ (.slice (some ⟨g,0,none⟩) vn vc)).setCell ⟨g,k * 5,none⟩ u0).setCell ⟨g,k * 5 + 1,none⟩ u1).setCell ⟨g,k * 5 + 2,none⟩ u2).setCell ⟨g,k * 5 + 3,none⟩ u3).setCell ⟨g,k * 5 + 4,none⟩ u4):=by
  subst hk
  have hs1:=h.s1
  have hgs : sb≠g:=by omega
  have hk2 : ∀ k',k' < W2.heap.size→some k'≠v.ownBlock→k'≠g:=fun k' h1 h2 e => by
    subst e
    rcases hat with e | e
    · exact h2 e
    · have e2 : some k' = some W2.heap.size:=e
      injection e2 with e2
      omega
  refine h.fin (v:=v) (cs:=[u0,u1,u2,u3,u4]) hg hs hn hb hown hel hrow rfl hoff (fun k' q1 q2 q3 => ?_) (by rw [(set_all _ _ _).2.2.2,(set_all _ _ _).2.2.2,(set_all _ _ _).2.2.2,(set_all _ _ _).2.2.2,(set_all _ _ _).2.2.2,(set_all _ _ _).2.2.2]; exact hgr.size) (by rw [(set_all _ _ _).1,(set_all _ _ _).1,(set_all _ _ _).1,(set_all _ _ _).1,(set_all _ _ _).1,(set_all _ _ _).1]; exact hgr.os) (by rw [(set_all _ _ _).2.1,(set_all _ _ _).2.1,(set_all _ _ _).2.1,(set_all _ _ _).2.1,(set_all _ _ _).2.1,(set_all _ _ _).2.1]; exact hgr.tape) (by rw [(set_all _ _ _).2.2.1,(set_all _ _ _).2.2.1,(set_all _ _ _).2.2.1,(set_all _ _ _).2.2.1,(set_all _ _ _).2.2.1,(set_all _ _ _).2.2.1]; exact hgr.output) ?_ ?_ hat
  · have hne:=hk2 k' q1 q2
    rw [Below.heap_setCell _ _ _ _ hne,Below.heap_setCell _ _ _ _ hne,Below.heap_setCell _ _ _ _ hne,Below.heap_setCell _ _ _ _ hne,Below.heap_setCell _ _ _ _ hne,Below.heap_setCell _ _ _ _ q3]
    exact hgr.block k' q1 q2
  · exact (((((hbx.set (j:=9) (by simp)).far hgs).far hgs).far hgs).far hgs).far hgs
  · exact own_fill5 (ownsRow_setCell_below hown3 hs1 _) hown.1
end
end Go.Proofs.YtipngnjffjajpaaGreatDoor.Tx
