/- Package tree's reader: commands, whatever stands there. -/
import Derived.Test.YtipngnjffjajpaaGreatDoorG12
namespace Go.Proofs.YtipngnjffjajpaaGreatDoor.Tx
open Go.RowKit
set_option linter.unusedVariables false
section
variable {rb : Nat} {tv : Value} {ts : List Tok} {en : Nat}
theorem stmt_of (hall : ts.all isAlone = true) (f : Nat) (hB : StmtsOk rb tv ts en f) : StmtOk rb tv ts en (f + 1):=by
  intro n w h hf
  cases q0 : isT ts n [105,102] with
  | true => exact stmt_if hall hB n w h hf q0
  | false =>
  cases q1 : isT ts n [119,104,105,108,101] with
  | true => exact stmt_while hall hB n w h hf q0 q1
  | false =>
  cases q2 : isT ts n [103,101,116] with
  | true => exact stmt_get hall hB n w h hf q0 q1 q2
  | false =>
  cases q3 : isT ts n [112,117,116] with
  | true => exact stmt_put hall hB n w h hf q0 q1 q2 q3
  | false =>
  cases q4 : isT ts n [114,101,118,101,97,108] with
  | true => exact stmt_reveal hall hB n w h hf q0 q1 q2 q3 q4
  | false =>
  cases q5 : isT ts n [116,114,117,115,116] with
  | true => exact stmt_trust hall hB n w h hf q0 q1 q2 q3 q4 q5
  | false => exact stmt_become hall hB n w h hf q0 q1 q2 q3 q4 q5
theorem both_ok (hall : ts.all isAlone = true) (f : Nat) : StmtOk rb tv ts en f∧StmtsOk rb tv ts en f:=by
  induction f using Nat.strongRecOn with
  | _ f ih =>
    refine ⟨?_,stmts_of f fun f' h => (ih f' h).1⟩
    cases f with
    | zero => intro n w h hf; omega
    | succ f => exact stmt_of hall f (ih f (by omega)).2
end
/-- a declaration in memory. -/
def XD (W : World) (f : Nat) (cs : List Value) (d : D) : Prop:=∃ (kd a : Int) (x y : ByteArray) (gv : Bool) (vL : Value) (lb : List D) (vP : Value) (ps : List ByteArray) (vB : Value) (body : List D) (r0 r1 r2 r3 r4 : Value) (r : D),cs = [.int .i64 kd,.int .i64 a,.string x,.string y,.bool gv,vL,vP,vB,r0,r1,r2,r3,r4]∧d = deD kd a x y gv lb ps body r∧LS 4 (RPol W) W vL lb∧StrsAt W vP ps∧LS 12 (XC W f) W vB body∧XE W 61 [r0,r1,r2,r3,r4] r
set_option maxHeartbeats 8000000 in
set_option maxRecDepth 100000 in
theorem function_c {rb : Nat} {tv : Value} {ts : List Tok} {en : Nat} (hall : ts.all isAlone = true) {w : World} {bs : Nat} (at_ : Int) (nm_ : ByteArray) (n : Nat) (u : World) (hd : Rd rb tv ts en w n u) (hsb : w.heap.size≤bs) (hb : Bx bs [.int .i64 7,.int .i64 at_,.string nm_,.string ⟨#[]⟩,.bool false,.slice none 0 0,.slice none 0 0,.slice none 0 0,.int .i64 0,.int .i64 0,.int .i64 0,.string ⟨#[]⟩,.slice none 0 0] u) :
    Calls Tryz.prog 96 #[.pointer (some ⟨rb,0,none⟩),.pointer (some ⟨bs,0,none⟩)] u (PostC ts en (pFunc ts en at_ nm_ n) (fun d n1 e w' => e = .returned (.tuple #[])∧∃ (pa : Option Addr) (pk pc : Nat) (ba : Option Addr) (bk bc : Nat) (e0 e1 e2 : Int) (e3 : ByteArray) (q0 : Option Addr) (q1 q2 : Nat),Bx bs [.int .i64 7,.int .i64 at_,.string nm_,.string ⟨#[]⟩,.bool false,.slice none 0 0,.slice pa pk pc,.slice ba bk bc,.int .i64 e0,.int .i64 e1,.int .i64 e2,.string e3,.slice q0 q1 q2] w'∧Off u.heap.size none w' (fun W => XD W (2 * ts.length + 3) [.int .i64 7,.int .i64 at_,.string nm_,.string ⟨#[]⟩,.bool false,.slice none 0 0,.slice pa pk pc,.slice ba bk bc,.int .i64 e0,.int .i64 e1,.int .i64 e2,.string e3,.slice q0 q1 q2] d)∧Rd rb tv ts en w n1 w'∧Fz rb bs u w') (fun w' => w.grownBy w' (some rb))):=by
  obtain ⟨res,hres⟩:=nm (pFunc ts en at_ nm_ n)
  rw [← hres]
  have HRP : Hx (res = bindR (pTake ts [40] n) fun _ n1 => bindR (pNames ts (!isT ts n1 [41]) n1) fun ps n2 => bindR (pTake ts [41] n2) fun _ n3 => bindR (pTake ts [123] n3) fun _ n4 =>
      bindR (pStmts ts en (2 * ts.length + 3) [] n4) fun body n5 => bindR (pTake ts [114,101,116,117,114,110] n5) fun _ n6 => bindR (pX ts en n6) fun r n7 => bindR (pTake ts [59] n7) fun _ n8 => bindR (pTake ts [125] n8) fun _ n9 =>
        .inl (deD 7 at_ nm_ noS false [] ps body r,n9)):=hres
  have HD:=hide hd
  have HBs:=hide hb
  have HLs:=hide hsb
  have HFZ:=hide (Fz.refl rb bs u)
  clear hres hd hb hsb
  go_enter Tryz.func96,Tryz.ntmps96
  have K1:=hide (take_c ⟨#[40]⟩ (by decide) n _ HD.o.st)
  go_wp2_with fail
  refine K1.o.mono ?_
  rintro e w1 hpo
  obtain ⟨m,ho⟩ | ⟨_un1,n1,ho⟩:=res_cases (pTake ts [40] n)
  · replace hpo : PostC ts en (pTake ts [40] n) _ _ e w1:=hpo
    rw [ho] at hpo
    obtain ⟨rfl,hg⟩:=hpo
    have HO : Hx (res = .inr m):=by show _ = _; rw [HRP.o,ho]; rfl
    have HG:=hide (grownBy_trans HD.o.gr hg)
    clear hg ho
    unfold gaveUpAt
    go_wp2_with fail
    refine ⟨rfl,?_⟩
    rw [HO.o]
    exact ⟨rfl,HG.o⟩
  replace hpo : PostC ts en (pTake ts [40] n) _ _ e w1:=hpo
  rw [ho] at hpo
  obtain ⟨rfl,hg,hs⟩:=hpo
  have hr:=HRP.o
  rw [ho,bindR_inl] at hr
  replace HRP:=hide hr
  have HOO:=hide ho
  clear hr ho
  clear K1
  clear HOO
  replace HFZ:=hide (HFZ.o.call hg)
  replace HBs:=hide (HBs.o.keep hg (by have:=HD.o.rlt; have:=HLs.o; omega))
  replace HD : Hx (Rd rb tv ts en w (n1) w1):=HD.o.call hg hs
  clear hg hs
  have K2:=hide (is_q ⟨#[41]⟩ [41] rfl n1 _ HD.o.st)
  go_wp2_with fail
  refine K2.o.mono ?_
  rintro e wa ⟨rfl,hg,hs⟩
  obtain ⟨q,hq⟩:=nm (isT ts n1 [41])
  rw [← hq] at HRP ⊢
  clear hq K2
  replace HFZ:=hide (HFZ.o.call hg)
  replace HBs:=hide (HBs.o.keep hg (by have:=HD.o.rlt; have:=HLs.o; omega))
  replace HD : Hx (Rd rb tv ts en w (n1) wa):=HD.o.call hg hs
  clear hg hs
  have K3:=hide (names_c (!q) n1 _ HD.o.st)
  go_wp2_with fail
  obtain ⟨z,hz⟩:=nm wa.heap.size
  have HWz : Hx (w.heap.size≤z):=by show _≤_; rw [hz]; exact HD.o.size
  have HZzs : Hx (bs < z):=by show _ < _; rw [hz]; exact HBs.o.lt
  have HUz : Hx (u.heap.size≤z):=by show _≤_; rw [hz]; exact HFZ.o.1
  refine K3.o.mono ?_
  rintro e w2 hpo
  obtain ⟨m,ho⟩ | ⟨ps,n2,ho⟩:=res_cases (pNames ts (!q) n1)
  · replace hpo : PostC ts en (pNames ts (!q) n1) _ _ e w2:=hpo
    rw [ho] at hpo
    obtain ⟨rfl,hg⟩:=hpo
    have HO : Hx (res = .inr m):=by show _ = _; rw [HRP.o,ho]; rfl
    have HG:=hide (grownBy_trans HD.o.gr hg)
    clear hg ho
    unfold gaveUpAt
    go_wp2_with fail
    refine ⟨rfl,?_⟩
    rw [HO.o]
    exact ⟨rfl,HG.o⟩
  replace hpo : PostC ts en (pNames ts (!q) n1) _ _ e w2:=hpo
  rw [ho] at hpo
  obtain ⟨pa,pc,rfl,hoff,hl6,hg,hs⟩:=hpo
  have hr:=HRP.o
  rw [ho,bindR_inl] at hr
  replace HRP:=hide hr
  have HOO:=hide ho
  clear hr ho
  obtain ⟨pk,hpk⟩:=nm ps.length
  rw [← hpk,← hz] at hoff
  rw [← hpk]
  have HOP:=hide hoff
  clear hoff hl6 hpk hz K3
  clear HOO
  replace HFZ:=hide (HFZ.o.call hg)
  replace HBs:=hide (HBs.o.keep hg (by have:=HD.o.rlt; have:=HLs.o; omega))
  replace HD : Hx (Rd rb tv ts en w (n2) w2):=HD.o.call hg hs
  clear hg hs
  obtain ⟨cs0,cs1,cs2,cs3,cs4,cs5,cs6,cs7,cs8,cs9,cs10,cs11,cs12⟩:=rc13 HBs.o.row
  have fs0:=HBs.o.fz 0
  have fs1:=HBs.o.fz 1
  have fs2:=HBs.o.fz 2
  have fs3:=HBs.o.fz 3
  have fs4:=HBs.o.fz 4
  have fs5:=HBs.o.fz 5
  have fs6:=HBs.o.fz 6
  have fs7:=HBs.o.fz 7
  have fs8:=HBs.o.fz 8
  have fs9:=HBs.o.fz 9
  have fs10:=HBs.o.fz 10
  have fs11:=HBs.o.fz 11
  have fs12:=HBs.o.fz 12
  obtain ⟨V3,hV3⟩:=nm (w2.setCell ⟨bs,6,none⟩ (.slice pa pk pc))
  replace HBs : Hx (Bx bs [.int .i64 7,.int .i64 at_,.string nm_,.string ⟨#[]⟩,.bool false,.slice none 0 0,.slice pa pk pc,.slice none 0 0,.int .i64 0,.int .i64 0,.int .i64 0,.string ⟨#[]⟩,.slice none 0 0] V3):=by show Bx _ _ _; rw [hV3]; exact HBs.o.set (j:=6) (by simp)
  replace HD : Hx (Rd rb tv ts en w (n2) V3):=by show Rd _ _ _ _ _ _ _; rw [hV3]; exact HD.o.set (by exact HLs.o)
  replace HFZ : Hx (Fz rb bs u V3):=by show Fz _ _ _ _; rw [hV3]; exact HFZ.o.set (Or.inl rfl)
  replace HOP : Hx (Off z none V3 (fun W => StrsAt W (.slice pa pk pc) ps)):=by show Off _ _ _ _; rw [hV3]; exact HOP.o.set HZzs.o
  have K4:=hide (take_c ⟨#[41]⟩ (by decide) n2 _ HD.o.st)
  go_wp2_with fail
  rw [← hV3]
  clear fs12 fs11 fs10 fs9 fs8 fs7 fs6 fs5 fs4 fs3 fs2 fs1 fs0 cs12 cs11 cs10 cs9 cs8 cs7 cs6 cs5 cs4 cs3 cs2 cs1 cs0
  clear hV3
  refine K4.o.mono ?_
  rintro e w4 hpo
  obtain ⟨m,ho⟩ | ⟨_un3,n3,ho⟩:=res_cases (pTake ts [41] n2)
  · replace hpo : PostC ts en (pTake ts [41] n2) _ _ e w4:=hpo
    rw [ho] at hpo
    obtain ⟨rfl,hg⟩:=hpo
    have HO : Hx (res = .inr m):=by show _ = _; rw [HRP.o,ho]; rfl
    have HG:=hide (grownBy_trans HD.o.gr hg)
    clear hg ho
    unfold gaveUpAt
    go_wp2_with fail
    refine ⟨rfl,?_⟩
    rw [HO.o]
    exact ⟨rfl,HG.o⟩
  replace hpo : PostC ts en (pTake ts [41] n2) _ _ e w4:=hpo
  rw [ho] at hpo
  obtain ⟨rfl,hg,hs⟩:=hpo
  have hr:=HRP.o
  rw [ho,bindR_inl] at hr
  replace HRP:=hide hr
  have HOO:=hide ho
  clear hr ho
  clear K4
  clear HOO
  replace HFZ:=hide (HFZ.o.call hg)
  replace HBs:=hide (HBs.o.keep hg (by have:=HD.o.rlt; have:=HLs.o; omega))
  replace HOP:=hide (HOP.o.keep hg (by have:=HD.o.rlt; have:=HWz.o; omega))
  replace HD : Hx (Rd rb tv ts en w (n3) w4):=HD.o.call hg hs
  clear hg hs
  have K5:=hide (take_c ⟨#[123]⟩ (by decide) n3 _ HD.o.st)
  go_wp2_with fail
  refine K5.o.mono ?_
  rintro e w5 hpo
  obtain ⟨m,ho⟩ | ⟨_un4,n4,ho⟩:=res_cases (pTake ts [123] n3)
  · replace hpo : PostC ts en (pTake ts [123] n3) _ _ e w5:=hpo
    rw [ho] at hpo
    obtain ⟨rfl,hg⟩:=hpo
    have HO : Hx (res = .inr m):=by show _ = _; rw [HRP.o,ho]; rfl
    have HG:=hide (grownBy_trans HD.o.gr hg)
    clear hg ho
    unfold gaveUpAt
    go_wp2_with fail
    refine ⟨rfl,?_⟩
    rw [HO.o]
    exact ⟨rfl,HG.o⟩
  replace hpo : PostC ts en (pTake ts [123] n3) _ _ e w5:=hpo
  rw [ho] at hpo
  obtain ⟨rfl,hg,hs⟩:=hpo
  have hr:=HRP.o
  rw [ho,bindR_inl] at hr
  replace HRP:=hide hr
  have HOO:=hide ho
  clear hr ho
  clear K5
  clear HOO
  replace HFZ:=hide (HFZ.o.call hg)
  replace HBs:=hide (HBs.o.keep hg (by have:=HD.o.rlt; have:=HLs.o; omega))
  replace HOP:=hide (HOP.o.keep hg (by have:=HD.o.rlt; have:=HWz.o; omega))
  replace HD : Hx (Rd rb tv ts en w (n4) w5):=HD.o.call hg hs
  clear hg hs
  have K6:=hide ((both_ok (rb:=rb) (tv:=tv) (en:=en) hall (2 * ts.length + 3)).2 n4 _ HD.o.st (by omega))
  go_wp2_with fail
  obtain ⟨y,hy⟩:=nm w5.heap.size
  have HWy : Hx (w.heap.size≤y):=by show _≤_; rw [hy]; exact HD.o.size
  have HZys : Hx (bs < y):=by show _ < _; rw [hy]; exact HBs.o.lt
  have HUy : Hx (u.heap.size≤y):=by show _≤_; rw [hy]; exact HFZ.o.1
  refine K6.o.mono ?_
  rintro e w6 hpo
  obtain ⟨m,ho⟩ | ⟨body,n5,ho⟩:=res_cases (pStmts ts en (2 * ts.length + 3) [] n4)
  · replace hpo : PostC ts en (pStmts ts en (2 * ts.length + 3) [] n4) _ _ e w6:=hpo
    rw [ho] at hpo
    obtain ⟨rfl,hg⟩:=hpo
    have HO : Hx (res = .inr m):=by show _ = _; rw [HRP.o,ho]; rfl
    have HG:=hide (grownBy_trans HD.o.gr hg)
    clear hg ho
    unfold gaveUpAt
    go_wp2_with fail
    refine ⟨rfl,?_⟩
    rw [HO.o]
    exact ⟨rfl,HG.o⟩
  replace hpo : PostC ts en (pStmts ts en (2 * ts.length + 3) [] n4) _ _ e w6:=hpo
  rw [ho] at hpo
  obtain ⟨ba,bc,rfl,hoff,hl6,hg,hs⟩:=hpo
  have hr:=HRP.o
  rw [ho,bindR_inl] at hr
  replace HRP:=hide hr
  have HOO:=hide ho
  clear hr ho
  obtain ⟨bk,hbk⟩:=nm body.length
  rw [← hbk,← hy] at hoff
  rw [← hbk]
  have HOB:=hide hoff
  clear hoff hl6 hbk hy K6
  clear HOO
  replace HFZ:=hide (HFZ.o.call hg)
  replace HBs:=hide (HBs.o.keep hg (by have:=HD.o.rlt; have:=HLs.o; omega))
  replace HOP:=hide (HOP.o.keep hg (by have:=HD.o.rlt; have:=HWz.o; omega))
  replace HD : Hx (Rd rb tv ts en w (n5) w6):=HD.o.call hg hs
  clear hg hs
  obtain ⟨cs0,cs1,cs2,cs3,cs4,cs5,cs6,cs7,cs8,cs9,cs10,cs11,cs12⟩:=rc13 HBs.o.row
  have fs0:=HBs.o.fz 0
  have fs1:=HBs.o.fz 1
  have fs2:=HBs.o.fz 2
  have fs3:=HBs.o.fz 3
  have fs4:=HBs.o.fz 4
  have fs5:=HBs.o.fz 5
  have fs6:=HBs.o.fz 6
  have fs7:=HBs.o.fz 7
  have fs8:=HBs.o.fz 8
  have fs9:=HBs.o.fz 9
  have fs10:=HBs.o.fz 10
  have fs11:=HBs.o.fz 11
  have fs12:=HBs.o.fz 12
  obtain ⟨V7,hV7⟩:=nm (w6.setCell ⟨bs,7,none⟩ (.slice ba bk bc))
  replace HBs : Hx (Bx bs [.int .i64 7,.int .i64 at_,.string nm_,.string ⟨#[]⟩,.bool false,.slice none 0 0,.slice pa pk pc,.slice ba bk bc,.int .i64 0,.int .i64 0,.int .i64 0,.string ⟨#[]⟩,.slice none 0 0] V7):=by show Bx _ _ _; rw [hV7]; exact HBs.o.set (j:=7) (by simp)
  replace HD : Hx (Rd rb tv ts en w (n5) V7):=by show Rd _ _ _ _ _ _ _; rw [hV7]; exact HD.o.set (by exact HLs.o)
  replace HFZ : Hx (Fz rb bs u V7):=by show Fz _ _ _ _; rw [hV7]; exact HFZ.o.set (Or.inl rfl)
  replace HOP : Hx (Off z none V7 (fun W => StrsAt W (.slice pa pk pc) ps)):=by show Off _ _ _ _; rw [hV7]; exact HOP.o.set HZzs.o
  replace HOB : Hx (Off y none V7 (fun W => LS 12 (XC W (2 * ts.length + 3)) W (.slice ba bk bc) body)):=by show Off _ _ _ _; rw [hV7]; exact HOB.o.set HZys.o
  have K7:=hide (take_c ⟨#[114,101,116,117,114,110]⟩ (by decide) n5 _ HD.o.st)
  go_wp2_with fail
  rw [← hV7]
  clear fs12 fs11 fs10 fs9 fs8 fs7 fs6 fs5 fs4 fs3 fs2 fs1 fs0 cs12 cs11 cs10 cs9 cs8 cs7 cs6 cs5 cs4 cs3 cs2 cs1 cs0
  clear hV7
  refine K7.o.mono ?_
  rintro e w8 hpo
  obtain ⟨m,ho⟩ | ⟨_un6,n6,ho⟩:=res_cases (pTake ts [114,101,116,117,114,110] n5)
  · replace hpo : PostC ts en (pTake ts [114,101,116,117,114,110] n5) _ _ e w8:=hpo
    rw [ho] at hpo
    obtain ⟨rfl,hg⟩:=hpo
    have HO : Hx (res = .inr m):=by show _ = _; rw [HRP.o,ho]; rfl
    have HG:=hide (grownBy_trans HD.o.gr hg)
    clear hg ho
    unfold gaveUpAt
    go_wp2_with fail
    refine ⟨rfl,?_⟩
    rw [HO.o]
    exact ⟨rfl,HG.o⟩
  replace hpo : PostC ts en (pTake ts [114,101,116,117,114,110] n5) _ _ e w8:=hpo
  rw [ho] at hpo
  obtain ⟨rfl,hg,hs⟩:=hpo
  have hr:=HRP.o
  rw [ho,bindR_inl] at hr
  replace HRP:=hide hr
  have HOO:=hide ho
  clear hr ho
  clear K7
  clear HOO
  replace HFZ:=hide (HFZ.o.call hg)
  replace HBs:=hide (HBs.o.keep hg (by have:=HD.o.rlt; have:=HLs.o; omega))
  replace HOP:=hide (HOP.o.keep hg (by have:=HD.o.rlt; have:=HWz.o; omega))
  replace HOB:=hide (HOB.o.keep hg (by have:=HD.o.rlt; have:=HWy.o; omega))
  replace HD : Hx (Rd rb tv ts en w (n6) w8):=HD.o.call hg hs
  clear hg hs
  have K8:=hide (expr_c hall n6 _ HD.o.st)
  go_wp2_with fail
  obtain ⟨x,hx⟩:=nm w8.heap.size
  have HWx : Hx (w.heap.size≤x):=by show _≤_; rw [hx]; exact HD.o.size
  have HZxs : Hx (bs < x):=by show _ < _; rw [hx]; exact HBs.o.lt
  have HUx : Hx (u.heap.size≤x):=by show _≤_; rw [hx]; exact HFZ.o.1
  refine K8.o.mono ?_
  rintro e w9 hpo
  obtain ⟨m,ho⟩ | ⟨ed,n7,ho⟩:=res_cases (pX ts en n6)
  · replace hpo : PostC ts en (pX ts en n6) _ _ e w9:=hpo
    rw [ho] at hpo
    obtain ⟨rfl,hg⟩:=hpo
    have HO : Hx (res = .inr m):=by show _ = _; rw [HRP.o,ho]; rfl
    have HG:=hide (grownBy_trans HD.o.gr hg)
    clear hg ho
    unfold gaveUpAt
    go_wp2_with fail
    refine ⟨rfl,?_⟩
    rw [HO.o]
    exact ⟨rfl,HG.o⟩
  replace hpo : PostC ts en (pX ts en n6) _ _ e w9:=hpo
  rw [ho] at hpo
  obtain ⟨e0,e1,e2,e3,q0,q1,q2,rfl,hoff,-,-,hg,hs⟩:=hpo
  have hr:=HRP.o
  rw [ho,bindR_inl] at hr
  replace HRP:=hide hr
  have HOO:=hide ho
  clear hr ho
  rw [← hx] at hoff
  have HOE:=hide hoff
  clear hoff hx K8
  clear HOO
  replace HFZ:=hide (HFZ.o.call hg)
  replace HBs:=hide (HBs.o.keep hg (by have:=HD.o.rlt; have:=HLs.o; omega))
  replace HOP:=hide (HOP.o.keep hg (by have:=HD.o.rlt; have:=HWz.o; omega))
  replace HOB:=hide (HOB.o.keep hg (by have:=HD.o.rlt; have:=HWy.o; omega))
  replace HD : Hx (Rd rb tv ts en w (n7) w9):=HD.o.call hg hs
  clear hg hs
  obtain ⟨cs0,cs1,cs2,cs3,cs4,cs5,cs6,cs7,cs8,cs9,cs10,cs11,cs12⟩:=rc13 HBs.o.row
  have fs0:=HBs.o.fz 0
  have fs1:=HBs.o.fz 1
  have fs2:=HBs.o.fz 2
  have fs3:=HBs.o.fz 3
  have fs4:=HBs.o.fz 4
  have fs5:=HBs.o.fz 5
  have fs6:=HBs.o.fz 6
  have fs7:=HBs.o.fz 7
  have fs8:=HBs.o.fz 8
  have fs9:=HBs.o.fz 9
  have fs10:=HBs.o.fz 10
  have fs11:=HBs.o.fz 11
  have fs12:=HBs.o.fz 12
  obtain ⟨V10,hV10⟩:=nm (w9.setCell ⟨bs,8,none⟩ (.int .i64 e0))
  replace HBs : Hx (Bx bs [.int .i64 7,.int .i64 at_,.string nm_,.string ⟨#[]⟩,.bool false,.slice none 0 0,.slice pa pk pc,.slice ba bk bc,.int .i64 e0,.int .i64 0,.int .i64 0,.string ⟨#[]⟩,.slice none 0 0] V10):=by show Bx _ _ _; rw [hV10]; exact HBs.o.set (j:=8) (by simp)
  replace HD : Hx (Rd rb tv ts en w (n7) V10):=by show Rd _ _ _ _ _ _ _; rw [hV10]; exact HD.o.set (by exact HLs.o)
  replace HFZ : Hx (Fz rb bs u V10):=by show Fz _ _ _ _; rw [hV10]; exact HFZ.o.set (Or.inl rfl)
  replace HOP : Hx (Off z none V10 (fun W => StrsAt W (.slice pa pk pc) ps)):=by show Off _ _ _ _; rw [hV10]; exact HOP.o.set HZzs.o
  replace HOB : Hx (Off y none V10 (fun W => LS 12 (XC W (2 * ts.length + 3)) W (.slice ba bk bc) body)):=by show Off _ _ _ _; rw [hV10]; exact HOB.o.set HZys.o
  replace HOE : Hx (Off x none V10 (fun W => XE W 61 [.int .i64 e0,.int .i64 e1,.int .i64 e2,.string e3,.slice q0 q1 q2] ed)):=by show Off _ _ _ _; rw [hV10]; exact HOE.o.set HZxs.o
  obtain ⟨V11,hV11⟩:=nm (V10.setCell ⟨bs,9,none⟩ (.int .i64 e1))
  replace HBs : Hx (Bx bs [.int .i64 7,.int .i64 at_,.string nm_,.string ⟨#[]⟩,.bool false,.slice none 0 0,.slice pa pk pc,.slice ba bk bc,.int .i64 e0,.int .i64 e1,.int .i64 0,.string ⟨#[]⟩,.slice none 0 0] V11):=by show Bx _ _ _; rw [hV11]; exact HBs.o.set (j:=9) (by simp)
  replace HD : Hx (Rd rb tv ts en w (n7) V11):=by show Rd _ _ _ _ _ _ _; rw [hV11]; exact HD.o.set (by exact HLs.o)
  replace HFZ : Hx (Fz rb bs u V11):=by show Fz _ _ _ _; rw [hV11]; exact HFZ.o.set (Or.inl rfl)
  replace HOP : Hx (Off z none V11 (fun W => StrsAt W (.slice pa pk pc) ps)):=by show Off _ _ _ _; rw [hV11]; exact HOP.o.set HZzs.o
  replace HOB : Hx (Off y none V11 (fun W => LS 12 (XC W (2 * ts.length + 3)) W (.slice ba bk bc) body)):=by show Off _ _ _ _; rw [hV11]; exact HOB.o.set HZys.o
  replace HOE : Hx (Off x none V11 (fun W => XE W 61 [.int .i64 e0,.int .i64 e1,.int .i64 e2,.string e3,.slice q0 q1 q2] ed)):=by show Off _ _ _ _; rw [hV11]; exact HOE.o.set HZxs.o
  obtain ⟨V12,hV12⟩:=nm (V11.setCell ⟨bs,10,none⟩ (.int .i64 e2))
  replace HBs : Hx (Bx bs [.int .i64 7,.int .i64 at_,.string nm_,.string ⟨#[]⟩,.bool false,.slice none 0 0,.slice pa pk pc,.slice ba bk bc,.int .i64 e0,.int .i64 e1,.int .i64 e2,.string ⟨#[]⟩,.slice none 0 0] V12):=by show Bx _ _ _; rw [hV12]; exact HBs.o.set (j:=10) (by simp)
  replace HD : Hx (Rd rb tv ts en w (n7) V12):=by show Rd _ _ _ _ _ _ _; rw [hV12]; exact HD.o.set (by exact HLs.o)
  replace HFZ : Hx (Fz rb bs u V12):=by show Fz _ _ _ _; rw [hV12]; exact HFZ.o.set (Or.inl rfl)
  replace HOP : Hx (Off z none V12 (fun W => StrsAt W (.slice pa pk pc) ps)):=by show Off _ _ _ _; rw [hV12]; exact HOP.o.set HZzs.o
  replace HOB : Hx (Off y none V12 (fun W => LS 12 (XC W (2 * ts.length + 3)) W (.slice ba bk bc) body)):=by show Off _ _ _ _; rw [hV12]; exact HOB.o.set HZys.o
  replace HOE : Hx (Off x none V12 (fun W => XE W 61 [.int .i64 e0,.int .i64 e1,.int .i64 e2,.string e3,.slice q0 q1 q2] ed)):=by show Off _ _ _ _; rw [hV12]; exact HOE.o.set HZxs.o
  obtain ⟨V13,hV13⟩:=nm (V12.setCell ⟨bs,11,none⟩ (.string e3))
  replace HBs : Hx (Bx bs [.int .i64 7,.int .i64 at_,.string nm_,.string ⟨#[]⟩,.bool false,.slice none 0 0,.slice pa pk pc,.slice ba bk bc,.int .i64 e0,.int .i64 e1,.int .i64 e2,.string e3,.slice none 0 0] V13):=by show Bx _ _ _; rw [hV13]; exact HBs.o.set (j:=11) (by simp)
  replace HD : Hx (Rd rb tv ts en w (n7) V13):=by show Rd _ _ _ _ _ _ _; rw [hV13]; exact HD.o.set (by exact HLs.o)
  replace HFZ : Hx (Fz rb bs u V13):=by show Fz _ _ _ _; rw [hV13]; exact HFZ.o.set (Or.inl rfl)
  replace HOP : Hx (Off z none V13 (fun W => StrsAt W (.slice pa pk pc) ps)):=by show Off _ _ _ _; rw [hV13]; exact HOP.o.set HZzs.o
  replace HOB : Hx (Off y none V13 (fun W => LS 12 (XC W (2 * ts.length + 3)) W (.slice ba bk bc) body)):=by show Off _ _ _ _; rw [hV13]; exact HOB.o.set HZys.o
  replace HOE : Hx (Off x none V13 (fun W => XE W 61 [.int .i64 e0,.int .i64 e1,.int .i64 e2,.string e3,.slice q0 q1 q2] ed)):=by show Off _ _ _ _; rw [hV13]; exact HOE.o.set HZxs.o
  obtain ⟨V14,hV14⟩:=nm (V13.setCell ⟨bs,12,none⟩ (.slice q0 q1 q2))
  replace HBs : Hx (Bx bs [.int .i64 7,.int .i64 at_,.string nm_,.string ⟨#[]⟩,.bool false,.slice none 0 0,.slice pa pk pc,.slice ba bk bc,.int .i64 e0,.int .i64 e1,.int .i64 e2,.string e3,.slice q0 q1 q2] V14):=by show Bx _ _ _; rw [hV14]; exact HBs.o.set (j:=12) (by simp)
  replace HD : Hx (Rd rb tv ts en w (n7) V14):=by show Rd _ _ _ _ _ _ _; rw [hV14]; exact HD.o.set (by exact HLs.o)
  replace HFZ : Hx (Fz rb bs u V14):=by show Fz _ _ _ _; rw [hV14]; exact HFZ.o.set (Or.inl rfl)
  replace HOP : Hx (Off z none V14 (fun W => StrsAt W (.slice pa pk pc) ps)):=by show Off _ _ _ _; rw [hV14]; exact HOP.o.set HZzs.o
  replace HOB : Hx (Off y none V14 (fun W => LS 12 (XC W (2 * ts.length + 3)) W (.slice ba bk bc) body)):=by show Off _ _ _ _; rw [hV14]; exact HOB.o.set HZys.o
  replace HOE : Hx (Off x none V14 (fun W => XE W 61 [.int .i64 e0,.int .i64 e1,.int .i64 e2,.string e3,.slice q0 q1 q2] ed)):=by show Off _ _ _ _; rw [hV14]; exact HOE.o.set HZxs.o
  have K9:=hide (take_c ⟨#[59]⟩ (by decide) n7 _ HD.o.st)
  go_wp2_with fail
  rw [← hV10,← hV11,← hV12,← hV13,← hV14]
  clear fs12 fs11 fs10 fs9 fs8 fs7 fs6 fs5 fs4 fs3 fs2 fs1 fs0 cs12 cs11 cs10 cs9 cs8 cs7 cs6 cs5 cs4 cs3 cs2 cs1 cs0
  clear hV14 hV13 hV12 hV11 hV10
  refine K9.o.mono ?_
  rintro e w15 hpo
  obtain ⟨m,ho⟩ | ⟨_un8,n8,ho⟩:=res_cases (pTake ts [59] n7)
  · replace hpo : PostC ts en (pTake ts [59] n7) _ _ e w15:=hpo
    rw [ho] at hpo
    obtain ⟨rfl,hg⟩:=hpo
    have HO : Hx (res = .inr m):=by show _ = _; rw [HRP.o,ho]; rfl
    have HG:=hide (grownBy_trans HD.o.gr hg)
    clear hg ho
    unfold gaveUpAt
    go_wp2_with fail
    refine ⟨rfl,?_⟩
    rw [HO.o]
    exact ⟨rfl,HG.o⟩
  replace hpo : PostC ts en (pTake ts [59] n7) _ _ e w15:=hpo
  rw [ho] at hpo
  obtain ⟨rfl,hg,hs⟩:=hpo
  have hr:=HRP.o
  rw [ho,bindR_inl] at hr
  replace HRP:=hide hr
  have HOO:=hide ho
  clear hr ho
  clear K9
  clear HOO
  replace HFZ:=hide (HFZ.o.call hg)
  replace HBs:=hide (HBs.o.keep hg (by have:=HD.o.rlt; have:=HLs.o; omega))
  replace HOP:=hide (HOP.o.keep hg (by have:=HD.o.rlt; have:=HWz.o; omega))
  replace HOB:=hide (HOB.o.keep hg (by have:=HD.o.rlt; have:=HWy.o; omega))
  replace HOE:=hide (HOE.o.keep hg (by have:=HD.o.rlt; have:=HWx.o; omega))
  replace HD : Hx (Rd rb tv ts en w (n8) w15):=HD.o.call hg hs
  clear hg hs
  have KA:=hide (take_c ⟨#[125]⟩ (by decide) n8 _ HD.o.st)
  go_wp2_with fail
  refine KA.o.mono ?_
  rintro e w16 hpo
  obtain ⟨m,ho⟩ | ⟨_un9,n9,ho⟩:=res_cases (pTake ts [125] n8)
  · replace hpo : PostC ts en (pTake ts [125] n8) _ _ e w16:=hpo
    rw [ho] at hpo
    obtain ⟨rfl,hg⟩:=hpo
    have HO : Hx (res = .inr m):=by show _ = _; rw [HRP.o,ho]; rfl
    have HG:=hide (grownBy_trans HD.o.gr hg)
    clear hg ho
    unfold gaveUpAt
    go_wp2_with fail
    refine ⟨rfl,?_⟩
    rw [HO.o]
    exact ⟨rfl,HG.o⟩
  replace hpo : PostC ts en (pTake ts [125] n8) _ _ e w16:=hpo
  rw [ho] at hpo
  obtain ⟨rfl,hg,hs⟩:=hpo
  have hr:=HRP.o
  rw [ho,bindR_inl] at hr
  replace HRP:=hide hr
  have HOO:=hide ho
  clear hr ho
  clear KA
  clear HOO
  replace HFZ:=hide (HFZ.o.call hg)
  replace HBs:=hide (HBs.o.keep hg (by have:=HD.o.rlt; have:=HLs.o; omega))
  replace HOP:=hide (HOP.o.keep hg (by have:=HD.o.rlt; have:=HWz.o; omega))
  replace HOB:=hide (HOB.o.keep hg (by have:=HD.o.rlt; have:=HWy.o; omega))
  replace HOE:=hide (HOE.o.keep hg (by have:=HD.o.rlt; have:=HWx.o; omega))
  replace HD : Hx (Rd rb tv ts en w (n9) w16):=HD.o.call hg hs
  clear hg hs
  go_wp2_with fail
  go_end0
  rw [HRP.o]
  exact ⟨rfl,pa,pk,pc,ba,bk,bc,e0,e1,e2,e3,q0,q1,q2,HBs.o,(fun W hW => ⟨7,at_,nm_,⟨#[]⟩,false,_,[],_,ps,_,body,_,_,_,_,_,ed,rfl,rfl,LS.nil,(HOP.o.base HUz.o) W hW,(HOB.o.base HUy.o) W hW,(HOE.o.base HUx.o) W hW⟩),HD.o,HFZ.o⟩
end Go.Proofs.YtipngnjffjajpaaGreatDoor.Tx
