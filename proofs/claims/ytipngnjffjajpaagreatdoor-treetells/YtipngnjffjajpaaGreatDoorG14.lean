/- Package tree's reader: a declaration, whatever stands there. -/
import Derived.Test.YtipngnjffjajpaaGreatDoorG13
import Derived.Deep.Cut
namespace Go.Proofs.YtipngnjffjajpaaGreatDoor.Tx
open Go.RowKit
set_option linter.unusedVariables false
/-- what a declaration's call is to answer. -/
def DeclPost (rb : Nat) (tv : Value) (ts : List Tok) (en : Nat) (w : World) (d : D) (n1 : Nat) (e : Ending) (w' : World) : Prop:=∃ (kd a : Int) (x y : ByteArray) (gv : Bool) (q0 : Option Addr) (q1 q2 : Nat) (q3 : Option Addr) (q4 q5 : Nat) (q6 : Option Addr) (q7 q8 : Nat) (e0 e1 e2 : Int) (e3 : ByteArray) (q9 : Option Addr) (r0 r1 : Nat),e = .returned (.agg #[.int .i64 kd,.int .i64 a,.string x,.string y,.bool gv,.slice q0 q1 q2,.slice q3 q4 q5,.slice q6 q7 q8,.int .i64 e0,.int .i64 e1,.int .i64 e2,.string e3,.slice q9 r0 r1])∧Off w.heap.size none w' (fun W => XD W (2 * ts.length + 3) [.int .i64 kd,.int .i64 a,.string x,.string y,.bool gv,.slice q0 q1 q2,.slice q3 q4 q5,.slice q6 q7 q8,.int .i64 e0,.int .i64 e1,.int .i64 e2,.string e3,.slice q9 r0 r1] d)∧w.grownBy w' (some rb)∧St rb tv ts en n1 w'
section
variable {rb : Nat} {tv : Value} {ts : List Tok} {en : Nat}
theorem peek_c (n : Nat) (w : World) (h : St rb tv ts en n w) : Calls Tryz.prog 92 #[.pointer (some ⟨rb,0,none⟩)] w fun e w' => e = .returned (.agg #[.int .i64 (peekT ts n).kind,.int .i64 (peekT ts n).pos,.string (peekT ts n).text])∧w.grownBy w' (some rb)∧St rb tv ts en n w' :=
  (peek_any rb tv ts en n w h).mono fun e w' ⟨h1,h2⟩ => ⟨h1,grownBy_below h2,h.below h2⟩
set_option maxHeartbeats 8000000 in
set_option maxRecDepth 100000 in
theorem decl_1 (hall : ts.all isAlone = true) (n : Nat) (w : World) (h : St rb tv ts en n w) (hk : dKind (peekT ts n).text.data.toList = 1) :
    Calls Tryz.prog 52 #[.pointer (some ⟨rb,0,none⟩)] w (PostC ts en (pDecl ts en n) (DeclPost rb tv ts en w) (fun w' => w.grownBy w' (some rb))):=by
  obtain ⟨res,hres⟩:=nm (pDecl ts en n)
  rw [← hres]
  have HRP : Hx (res = bindR (pName ts (n + 1)) fun a n1 => bindR (pTake ts [59] n1) fun _ m1 => .inl (deD 1 (posn ts en n) a noS false [] [] [] noE,m1)):=by show _ = _; rw [hres]; unfold pDecl pGiven; rw [hk]; rfl
  obtain ⟨p,hp⟩:=nm (posn ts en n)
  rw [← hp] at HRP
  have HP:=hide hp
  have hn : n < ts.length:=peek_lt (fun h2 => by rw [h2] at hk; exact absurd hk (by decide))
  have h6:=h.2.2.1
  have HD:=hide (Rd.start h)
  have HK:=hide hk
  clear hres hp h hk
  obtain ⟨V1,hV1⟩:=nm (w.alloc (.cells #[.int .i64 0,.int .i64 0,.string ⟨#[]⟩,.string ⟨#[]⟩,.bool false,.slice none 0 0,.slice none 0 0,.slice none 0 0,.int .i64 0,.int .i64 0,.int .i64 0,.string ⟨#[]⟩,.slice none 0 0] 51))
  obtain ⟨ba,hba⟩:=nm w.heap.size
  have hsba:=hba
  have HLa : Hx (w.heap.size≤ba):=by show _≤_; rw [hsba]; exact HD.o.size
  have HBa : Hx (Bx ba [.int .i64 0,.int .i64 0,.string ⟨#[]⟩,.string ⟨#[]⟩,.bool false,.slice none 0 0,.slice none 0 0,.slice none 0 0,.int .i64 0,.int .i64 0,.int .i64 0,.string ⟨#[]⟩,.slice none 0 0] V1):=by show Bx _ _ _; rw [hV1,hsba]; exact Bx.new w [.int .i64 0,.int .i64 0,.string ⟨#[]⟩,.string ⟨#[]⟩,.bool false,.slice none 0 0,.slice none 0 0,.slice none 0 0,.int .i64 0,.int .i64 0,.int .i64 0,.string ⟨#[]⟩,.slice none 0 0] 51
  replace HD : Hx (Rd rb tv ts en w (n) V1):=by show Rd _ _ _ _ _ _ _; rw [hV1]; exact HD.o.over (bA _ _)
  have K0:=hide (here_c n _ HD.o.st)
  go_enter Tryz.func52,Tryz.ntmps52
  go_wp2_with fail
  rw [← hV1,← hba]
  clear hsba
  clear hba hV1
  refine K0.o.mono ?_
  rintro e wh ⟨rfl,hg,hs⟩
  rw [← HP.o]
  replace HBa:=hide (HBa.o.keep hg (by have:=HD.o.rlt; have:=HLa.o; omega))
  replace HD : Hx (Rd rb tv ts en w (n) wh):=HD.o.call hg hs
  clear hg hs
  obtain ⟨kk,hkk⟩:=nm (peekT ts n).kind
  obtain ⟨pp,hpp⟩:=nm (peekT ts n).pos
  obtain ⟨tx,htx⟩:=nm (peekT ts n).text
  have K1:=hide (peek_c n _ HD.o.st)
  rw [← hkk,← hpp,← htx] at K1
  have HTX:=hide htx
  have hft:=field_text kk pp tx
  clear K0 hkk hpp htx
  go_wp2_with fail
  refine K1.o.mono ?_
  rintro e wp ⟨rfl,hg,hs⟩
  replace HBa:=hide (HBa.o.keep hg (by have:=HD.o.rlt; have:=HLa.o; omega))
  replace HD : Hx (Rd rb tv ts en w (n) wp):=HD.o.call hg hs
  clear hg hs
  have KD : Hx (∀ W,Calls Tryz.prog 94 #[.string tx] W fun e w' => e = .returned (.int .i64 1)∧W = w'):=fun W => by
    have t:=declKind_any tx W
    rw [HTX.o,HK.o] at t
    rw [HTX.o]
    exact t.mono fun e w' h => ⟨h.1,h.2.symm⟩
  clear K1
  go_wp2_with fail
  refine (KD.o _).mono ?_
  rintro e w' ⟨rfl,rfl⟩
  clear hft KD
  obtain ⟨V2,hV2⟩:=nm (wp.alloc (.cells #[.int .i64 1,.int .i64 p,.string ⟨#[]⟩,.string ⟨#[]⟩,.bool false,.slice none 0 0,.slice none 0 0,.slice none 0 0,.int .i64 0,.int .i64 0,.int .i64 0,.string ⟨#[]⟩,.slice none 0 0] 51))
  obtain ⟨bs,hbs⟩:=nm wp.heap.size
  have hsbs:=hbs
  have HLs : Hx (w.heap.size≤bs):=by show _≤_; rw [hsbs]; exact HD.o.size
  have HLas : Hx (ba < bs):=by show _ < _; rw [hsbs]; exact HBa.o.lt
  have HBs : Hx (Bx bs [.int .i64 1,.int .i64 p,.string ⟨#[]⟩,.string ⟨#[]⟩,.bool false,.slice none 0 0,.slice none 0 0,.slice none 0 0,.int .i64 0,.int .i64 0,.int .i64 0,.string ⟨#[]⟩,.slice none 0 0] V2):=by show Bx _ _ _; rw [hV2,hsbs]; exact Bx.new wp [.int .i64 1,.int .i64 p,.string ⟨#[]⟩,.string ⟨#[]⟩,.bool false,.slice none 0 0,.slice none 0 0,.slice none 0 0,.int .i64 0,.int .i64 0,.int .i64 0,.string ⟨#[]⟩,.slice none 0 0] 51
  replace HBa : Hx (Bx ba [.int .i64 0,.int .i64 0,.string ⟨#[]⟩,.string ⟨#[]⟩,.bool false,.slice none 0 0,.slice none 0 0,.slice none 0 0,.int .i64 0,.int .i64 0,.int .i64 0,.string ⟨#[]⟩,.slice none 0 0] V2):=by show Bx _ _ _; rw [hV2]; exact HBa.o.over (bA _ _)
  replace HD : Hx (Rd rb tv ts en w (n) V2):=by show Rd _ _ _ _ _ _ _; rw [hV2]; exact HD.o.over (bA _ _)
  go_upto_region 4 with fail
  rw [← hV2,← hbs]
  clear hsbs
  clear hbs hV2
  obtain ⟨rc0,rc1,rc2,rf1⟩:=HD.o.st.cells
  have hnx:=st_next HD.o.st hn
  obtain ⟨V3,hV3⟩:=nm (V2.setCell ⟨rb,1,none⟩ (.int .i64 ((n : Int) + 1)))
  rw [← hV3] at hnx
  obtain ⟨hs,hg⟩:=hnx
  replace HBa:=hide (HBa.o.keep hg (by have:=HD.o.rlt; have:=HLa.o; omega))
  replace HBs:=hide (HBs.o.keep hg (by have:=HD.o.rlt; have:=HLs.o; omega))
  replace HD : Hx (Rd rb tv ts en w (n + 1) V3):=HD.o.call hg hs
  clear hg hs
  have K2:=hide (name_c (n + 1) _ HD.o.st)
  go_wp2_with fail
  rw [← hV3]
  clear rf1 rc2 rc1 rc0
  clear hV3
  clear hn h6
  refine K2.o.mono ?_
  rintro e w4 hpo
  obtain ⟨m,ho⟩ | ⟨x,n1,ho⟩:=res_cases (pName ts (n + 1))
  · replace hpo : PostC ts en (pName ts (n + 1)) _ _ e w4:=hpo
    rw [ho] at hpo
    obtain ⟨rfl,hg⟩:=hpo
    have HO : Hx (res = .inr m):=by show _ = _; rw [HRP.o,ho]; rfl
    have HG:=hide (grownBy_trans HD.o.gr hg)
    clear hg ho
    unfold gaveUpAt
    go_wp2_with fail
    refine ⟨rfl,?_⟩
    rw [HO.o]
    exact ⟨rfl,HG.o⟩
  replace hpo : PostC ts en (pName ts (n + 1)) _ _ e w4:=hpo
  rw [ho] at hpo
  obtain ⟨rfl,hg,hs⟩:=hpo
  have hr:=HRP.o
  rw [ho,bindR_inl] at hr
  replace HRP:=hide hr
  have HOO:=hide ho
  clear hr ho
  clear K2
  clear HOO
  replace HBa:=hide (HBa.o.keep hg (by have:=HD.o.rlt; have:=HLa.o; omega))
  replace HBs:=hide (HBs.o.keep hg (by have:=HD.o.rlt; have:=HLs.o; omega))
  replace HD : Hx (Rd rb tv ts en w (n1) w4):=HD.o.call hg hs
  clear hg hs
  obtain ⟨cs0,cs1,cs2,cs3,cs4,cs5,cs6,cs7,cs8,cs9,cs10,cs11,cs12⟩:=rc13 HBs.o.row
  have fs0:=HBs.o.fz 0
  have fs1:=HBs.o.fz 1
  have fs2:=HBs.o.fz 2
  have fs3:=HBs.o.fz 3
  have fs4:=HBs.o.fz 4
  have fs5:=HBs.o.fz 5
  have fs6:=HBs.o.fz 6
  have fs7:=HBs.o.fz 7
  have fs8:=HBs.o.fz 8
  have fs9:=HBs.o.fz 9
  have fs10:=HBs.o.fz 10
  have fs11:=HBs.o.fz 11
  have fs12:=HBs.o.fz 12
  obtain ⟨V5,hV5⟩:=nm (w4.setCell ⟨bs,2,none⟩ (.string x))
  replace HBs : Hx (Bx bs [.int .i64 1,.int .i64 p,.string x,.string ⟨#[]⟩,.bool false,.slice none 0 0,.slice none 0 0,.slice none 0 0,.int .i64 0,.int .i64 0,.int .i64 0,.string ⟨#[]⟩,.slice none 0 0] V5):=by show Bx _ _ _; rw [hV5]; exact HBs.o.set (j:=2) (by simp)
  replace HBa : Hx (Bx ba [.int .i64 0,.int .i64 0,.string ⟨#[]⟩,.string ⟨#[]⟩,.bool false,.slice none 0 0,.slice none 0 0,.slice none 0 0,.int .i64 0,.int .i64 0,.int .i64 0,.string ⟨#[]⟩,.slice none 0 0] V5):=by show Bx _ _ _; rw [hV5]; exact HBa.o.far (by have:=HLas.o; omega)
  replace HD : Hx (Rd rb tv ts en w (n1) V5):=by show Rd _ _ _ _ _ _ _; rw [hV5]; exact HD.o.set (by exact HLs.o)
  have K3:=hide (take_c ⟨#[59]⟩ (by decide) n1 _ HD.o.st)
  go_wp2_with fail
  rw [← hV5]
  clear fs12 fs11 fs10 fs9 fs8 fs7 fs6 fs5 fs4 fs3 fs2 fs1 fs0 cs12 cs11 cs10 cs9 cs8 cs7 cs6 cs5 cs4 cs3 cs2 cs1 cs0
  clear hV5
  refine K3.o.mono ?_
  rintro e w6 hpo
  obtain ⟨m,ho⟩ | ⟨_un2,n2,ho⟩:=res_cases (pTake ts [59] n1)
  · replace hpo : PostC ts en (pTake ts [59] n1) _ _ e w6:=hpo
    rw [ho] at hpo
    obtain ⟨rfl,hg⟩:=hpo
    have HO : Hx (res = .inr m):=by show _ = _; rw [HRP.o,ho]; rfl
    have HG:=hide (grownBy_trans HD.o.gr hg)
    clear hg ho
    unfold gaveUpAt
    go_wp2_with fail
    refine ⟨rfl,?_⟩
    rw [HO.o]
    exact ⟨rfl,HG.o⟩
  replace hpo : PostC ts en (pTake ts [59] n1) _ _ e w6:=hpo
  rw [ho] at hpo
  obtain ⟨rfl,hg,hs⟩:=hpo
  have hr:=HRP.o
  rw [ho,bindR_inl] at hr
  replace HRP:=hide hr
  have HOO:=hide ho
  clear hr ho
  clear K3
  clear HOO
  replace HBa:=hide (HBa.o.keep hg (by have:=HD.o.rlt; have:=HLa.o; omega))
  replace HBs:=hide (HBs.o.keep hg (by have:=HD.o.rlt; have:=HLs.o; omega))
  replace HD : Hx (Rd rb tv ts en w (n2) w6):=HD.o.call hg hs
  clear hg hs
  have neas : ba≠bs:=by have:=HLas.o; omega
  have nesa : bs≠ba:=by have:=HLas.o; omega
  obtain ⟨ca0,ca1,ca2,ca3,ca4,ca5,ca6,ca7,ca8,ca9,ca10,ca11,ca12⟩:=rc13 HBa.o.row
  have fa0:=HBa.o.fz 0
  have fa1:=HBa.o.fz 1
  have fa2:=HBa.o.fz 2
  have fa3:=HBa.o.fz 3
  have fa4:=HBa.o.fz 4
  have fa5:=HBa.o.fz 5
  have fa6:=HBa.o.fz 6
  have fa7:=HBa.o.fz 7
  have fa8:=HBa.o.fz 8
  have fa9:=HBa.o.fz 9
  have fa10:=HBa.o.fz 10
  have fa11:=HBa.o.fz 11
  have fa12:=HBa.o.fz 12
  obtain ⟨cs0,cs1,cs2,cs3,cs4,cs5,cs6,cs7,cs8,cs9,cs10,cs11,cs12⟩:=rc13 HBs.o.row
  have fs0:=HBs.o.fz 0
  have fs1:=HBs.o.fz 1
  have fs2:=HBs.o.fz 2
  have fs3:=HBs.o.fz 3
  have fs4:=HBs.o.fz 4
  have fs5:=HBs.o.fz 5
  have fs6:=HBs.o.fz 6
  have fs7:=HBs.o.fz 7
  have fs8:=HBs.o.fz 8
  have fs9:=HBs.o.fz 9
  have fs10:=HBs.o.fz 10
  have fs11:=HBs.o.fz 11
  have fs12:=HBs.o.fz 12
  obtain ⟨V7,hV7⟩:=nm (w6.setCell ⟨ba,0,none⟩ (.int .i64 1))
  replace HBa : Hx (Bx ba [.int .i64 1,.int .i64 0,.string ⟨#[]⟩,.string ⟨#[]⟩,.bool false,.slice none 0 0,.slice none 0 0,.slice none 0 0,.int .i64 0,.int .i64 0,.int .i64 0,.string ⟨#[]⟩,.slice none 0 0] V7):=by show Bx _ _ _; rw [hV7]; exact HBa.o.set (j:=0) (by simp)
  replace HBs : Hx (Bx bs [.int .i64 1,.int .i64 p,.string x,.string ⟨#[]⟩,.bool false,.slice none 0 0,.slice none 0 0,.slice none 0 0,.int .i64 0,.int .i64 0,.int .i64 0,.string ⟨#[]⟩,.slice none 0 0] V7):=by show Bx _ _ _; rw [hV7]; exact HBs.o.far (by have:=HLas.o; omega)
  replace HD : Hx (Rd rb tv ts en w (n2) V7):=by show Rd _ _ _ _ _ _ _; rw [hV7]; exact HD.o.set (by exact HLa.o)
  obtain ⟨V8,hV8⟩:=nm (V7.setCell ⟨ba,1,none⟩ (.int .i64 p))
  replace HBa : Hx (Bx ba [.int .i64 1,.int .i64 p,.string ⟨#[]⟩,.string ⟨#[]⟩,.bool false,.slice none 0 0,.slice none 0 0,.slice none 0 0,.int .i64 0,.int .i64 0,.int .i64 0,.string ⟨#[]⟩,.slice none 0 0] V8):=by show Bx _ _ _; rw [hV8]; exact HBa.o.set (j:=1) (by simp)
  replace HBs : Hx (Bx bs [.int .i64 1,.int .i64 p,.string x,.string ⟨#[]⟩,.bool false,.slice none 0 0,.slice none 0 0,.slice none 0 0,.int .i64 0,.int .i64 0,.int .i64 0,.string ⟨#[]⟩,.slice none 0 0] V8):=by show Bx _ _ _; rw [hV8]; exact HBs.o.far (by have:=HLas.o; omega)
  replace HD : Hx (Rd rb tv ts en w (n2) V8):=by show Rd _ _ _ _ _ _ _; rw [hV8]; exact HD.o.set (by exact HLa.o)
  obtain ⟨V9,hV9⟩:=nm (V8.setCell ⟨ba,2,none⟩ (.string x))
  replace HBa : Hx (Bx ba [.int .i64 1,.int .i64 p,.string x,.string ⟨#[]⟩,.bool false,.slice none 0 0,.slice none 0 0,.slice none 0 0,.int .i64 0,.int .i64 0,.int .i64 0,.string ⟨#[]⟩,.slice none 0 0] V9):=by show Bx _ _ _; rw [hV9]; exact HBa.o.set (j:=2) (by simp)
  replace HBs : Hx (Bx bs [.int .i64 1,.int .i64 p,.string x,.string ⟨#[]⟩,.bool false,.slice none 0 0,.slice none 0 0,.slice none 0 0,.int .i64 0,.int .i64 0,.int .i64 0,.string ⟨#[]⟩,.slice none 0 0] V9):=by show Bx _ _ _; rw [hV9]; exact HBs.o.far (by have:=HLas.o; omega)
  replace HD : Hx (Rd rb tv ts en w (n2) V9):=by show Rd _ _ _ _ _ _ _; rw [hV9]; exact HD.o.set (by exact HLa.o)
  obtain ⟨V10,hV10⟩:=nm (V9.setCell ⟨ba,3,none⟩ (.string ⟨#[]⟩))
  replace HBa : Hx (Bx ba [.int .i64 1,.int .i64 p,.string x,.string ⟨#[]⟩,.bool false,.slice none 0 0,.slice none 0 0,.slice none 0 0,.int .i64 0,.int .i64 0,.int .i64 0,.string ⟨#[]⟩,.slice none 0 0] V10):=by show Bx _ _ _; rw [hV10]; exact HBa.o.set (j:=3) (by simp)
  replace HBs : Hx (Bx bs [.int .i64 1,.int .i64 p,.string x,.string ⟨#[]⟩,.bool false,.slice none 0 0,.slice none 0 0,.slice none 0 0,.int .i64 0,.int .i64 0,.int .i64 0,.string ⟨#[]⟩,.slice none 0 0] V10):=by show Bx _ _ _; rw [hV10]; exact HBs.o.far (by have:=HLas.o; omega)
  replace HD : Hx (Rd rb tv ts en w (n2) V10):=by show Rd _ _ _ _ _ _ _; rw [hV10]; exact HD.o.set (by exact HLa.o)
  obtain ⟨V11,hV11⟩:=nm (V10.setCell ⟨ba,4,none⟩ (.bool false))
  replace HBa : Hx (Bx ba [.int .i64 1,.int .i64 p,.string x,.string ⟨#[]⟩,.bool false,.slice none 0 0,.slice none 0 0,.slice none 0 0,.int .i64 0,.int .i64 0,.int .i64 0,.string ⟨#[]⟩,.slice none 0 0] V11):=by show Bx _ _ _; rw [hV11]; exact HBa.o.set (j:=4) (by simp)
  replace HBs : Hx (Bx bs [.int .i64 1,.int .i64 p,.string x,.string ⟨#[]⟩,.bool false,.slice none 0 0,.slice none 0 0,.slice none 0 0,.int .i64 0,.int .i64 0,.int .i64 0,.string ⟨#[]⟩,.slice none 0 0] V11):=by show Bx _ _ _; rw [hV11]; exact HBs.o.far (by have:=HLas.o; omega)
  replace HD : Hx (Rd rb tv ts en w (n2) V11):=by show Rd _ _ _ _ _ _ _; rw [hV11]; exact HD.o.set (by exact HLa.o)
  obtain ⟨V12,hV12⟩:=nm (V11.setCell ⟨ba,5,none⟩ (.slice none 0 0))
  replace HBa : Hx (Bx ba [.int .i64 1,.int .i64 p,.string x,.string ⟨#[]⟩,.bool false,.slice none 0 0,.slice none 0 0,.slice none 0 0,.int .i64 0,.int .i64 0,.int .i64 0,.string ⟨#[]⟩,.slice none 0 0] V12):=by show Bx _ _ _; rw [hV12]; exact HBa.o.set (j:=5) (by simp)
  replace HBs : Hx (Bx bs [.int .i64 1,.int .i64 p,.string x,.string ⟨#[]⟩,.bool false,.slice none 0 0,.slice none 0 0,.slice none 0 0,.int .i64 0,.int .i64 0,.int .i64 0,.string ⟨#[]⟩,.slice none 0 0] V12):=by show Bx _ _ _; rw [hV12]; exact HBs.o.far (by have:=HLas.o; omega)
  replace HD : Hx (Rd rb tv ts en w (n2) V12):=by show Rd _ _ _ _ _ _ _; rw [hV12]; exact HD.o.set (by exact HLa.o)
  obtain ⟨V13,hV13⟩:=nm (V12.setCell ⟨ba,6,none⟩ (.slice none 0 0))
  replace HBa : Hx (Bx ba [.int .i64 1,.int .i64 p,.string x,.string ⟨#[]⟩,.bool false,.slice none 0 0,.slice none 0 0,.slice none 0 0,.int .i64 0,.int .i64 0,.int .i64 0,.string ⟨#[]⟩,.slice none 0 0] V13):=by show Bx _ _ _; rw [hV13]; exact HBa.o.set (j:=6) (by simp)
  replace HBs : Hx (Bx bs [.int .i64 1,.int .i64 p,.string x,.string ⟨#[]⟩,.bool false,.slice none 0 0,.slice none 0 0,.slice none 0 0,.int .i64 0,.int .i64 0,.int .i64 0,.string ⟨#[]⟩,.slice none 0 0] V13):=by show Bx _ _ _; rw [hV13]; exact HBs.o.far (by have:=HLas.o; omega)
  replace HD : Hx (Rd rb tv ts en w (n2) V13):=by show Rd _ _ _ _ _ _ _; rw [hV13]; exact HD.o.set (by exact HLa.o)
  obtain ⟨V14,hV14⟩:=nm (V13.setCell ⟨ba,7,none⟩ (.slice none 0 0))
  replace HBa : Hx (Bx ba [.int .i64 1,.int .i64 p,.string x,.string ⟨#[]⟩,.bool false,.slice none 0 0,.slice none 0 0,.slice none 0 0,.int .i64 0,.int .i64 0,.int .i64 0,.string ⟨#[]⟩,.slice none 0 0] V14):=by show Bx _ _ _; rw [hV14]; exact HBa.o.set (j:=7) (by simp)
  replace HBs : Hx (Bx bs [.int .i64 1,.int .i64 p,.string x,.string ⟨#[]⟩,.bool false,.slice none 0 0,.slice none 0 0,.slice none 0 0,.int .i64 0,.int .i64 0,.int .i64 0,.string ⟨#[]⟩,.slice none 0 0] V14):=by show Bx _ _ _; rw [hV14]; exact HBs.o.far (by have:=HLas.o; omega)
  replace HD : Hx (Rd rb tv ts en w (n2) V14):=by show Rd _ _ _ _ _ _ _; rw [hV14]; exact HD.o.set (by exact HLa.o)
  obtain ⟨V15,hV15⟩:=nm (V14.setCell ⟨ba,8,none⟩ (.int .i64 0))
  replace HBa : Hx (Bx ba [.int .i64 1,.int .i64 p,.string x,.string ⟨#[]⟩,.bool false,.slice none 0 0,.slice none 0 0,.slice none 0 0,.int .i64 0,.int .i64 0,.int .i64 0,.string ⟨#[]⟩,.slice none 0 0] V15):=by show Bx _ _ _; rw [hV15]; exact HBa.o.set (j:=8) (by simp)
  replace HBs : Hx (Bx bs [.int .i64 1,.int .i64 p,.string x,.string ⟨#[]⟩,.bool false,.slice none 0 0,.slice none 0 0,.slice none 0 0,.int .i64 0,.int .i64 0,.int .i64 0,.string ⟨#[]⟩,.slice none 0 0] V15):=by show Bx _ _ _; rw [hV15]; exact HBs.o.far (by have:=HLas.o; omega)
  replace HD : Hx (Rd rb tv ts en w (n2) V15):=by show Rd _ _ _ _ _ _ _; rw [hV15]; exact HD.o.set (by exact HLa.o)
  obtain ⟨V16,hV16⟩:=nm (V15.setCell ⟨ba,9,none⟩ (.int .i64 0))
  replace HBa : Hx (Bx ba [.int .i64 1,.int .i64 p,.string x,.string ⟨#[]⟩,.bool false,.slice none 0 0,.slice none 0 0,.slice none 0 0,.int .i64 0,.int .i64 0,.int .i64 0,.string ⟨#[]⟩,.slice none 0 0] V16):=by show Bx _ _ _; rw [hV16]; exact HBa.o.set (j:=9) (by simp)
  replace HBs : Hx (Bx bs [.int .i64 1,.int .i64 p,.string x,.string ⟨#[]⟩,.bool false,.slice none 0 0,.slice none 0 0,.slice none 0 0,.int .i64 0,.int .i64 0,.int .i64 0,.string ⟨#[]⟩,.slice none 0 0] V16):=by show Bx _ _ _; rw [hV16]; exact HBs.o.far (by have:=HLas.o; omega)
  replace HD : Hx (Rd rb tv ts en w (n2) V16):=by show Rd _ _ _ _ _ _ _; rw [hV16]; exact HD.o.set (by exact HLa.o)
  obtain ⟨V17,hV17⟩:=nm (V16.setCell ⟨ba,10,none⟩ (.int .i64 0))
  replace HBa : Hx (Bx ba [.int .i64 1,.int .i64 p,.string x,.string ⟨#[]⟩,.bool false,.slice none 0 0,.slice none 0 0,.slice none 0 0,.int .i64 0,.int .i64 0,.int .i64 0,.string ⟨#[]⟩,.slice none 0 0] V17):=by show Bx _ _ _; rw [hV17]; exact HBa.o.set (j:=10) (by simp)
  replace HBs : Hx (Bx bs [.int .i64 1,.int .i64 p,.string x,.string ⟨#[]⟩,.bool false,.slice none 0 0,.slice none 0 0,.slice none 0 0,.int .i64 0,.int .i64 0,.int .i64 0,.string ⟨#[]⟩,.slice none 0 0] V17):=by show Bx _ _ _; rw [hV17]; exact HBs.o.far (by have:=HLas.o; omega)
  replace HD : Hx (Rd rb tv ts en w (n2) V17):=by show Rd _ _ _ _ _ _ _; rw [hV17]; exact HD.o.set (by exact HLa.o)
  obtain ⟨V18,hV18⟩:=nm (V17.setCell ⟨ba,11,none⟩ (.string ⟨#[]⟩))
  replace HBa : Hx (Bx ba [.int .i64 1,.int .i64 p,.string x,.string ⟨#[]⟩,.bool false,.slice none 0 0,.slice none 0 0,.slice none 0 0,.int .i64 0,.int .i64 0,.int .i64 0,.string ⟨#[]⟩,.slice none 0 0] V18):=by show Bx _ _ _; rw [hV18]; exact HBa.o.set (j:=11) (by simp)
  replace HBs : Hx (Bx bs [.int .i64 1,.int .i64 p,.string x,.string ⟨#[]⟩,.bool false,.slice none 0 0,.slice none 0 0,.slice none 0 0,.int .i64 0,.int .i64 0,.int .i64 0,.string ⟨#[]⟩,.slice none 0 0] V18):=by show Bx _ _ _; rw [hV18]; exact HBs.o.far (by have:=HLas.o; omega)
  replace HD : Hx (Rd rb tv ts en w (n2) V18):=by show Rd _ _ _ _ _ _ _; rw [hV18]; exact HD.o.set (by exact HLa.o)
  obtain ⟨V19,hV19⟩:=nm (V18.setCell ⟨ba,12,none⟩ (.slice none 0 0))
  replace HBa : Hx (Bx ba [.int .i64 1,.int .i64 p,.string x,.string ⟨#[]⟩,.bool false,.slice none 0 0,.slice none 0 0,.slice none 0 0,.int .i64 0,.int .i64 0,.int .i64 0,.string ⟨#[]⟩,.slice none 0 0] V19):=by show Bx _ _ _; rw [hV19]; exact HBa.o.set (j:=12) (by simp)
  replace HBs : Hx (Bx bs [.int .i64 1,.int .i64 p,.string x,.string ⟨#[]⟩,.bool false,.slice none 0 0,.slice none 0 0,.slice none 0 0,.int .i64 0,.int .i64 0,.int .i64 0,.string ⟨#[]⟩,.slice none 0 0] V19):=by show Bx _ _ _; rw [hV19]; exact HBs.o.far (by have:=HLas.o; omega)
  replace HD : Hx (Rd rb tv ts en w (n2) V19):=by show Rd _ _ _ _ _ _ _; rw [hV19]; exact HD.o.set (by exact HLa.o)
  go_wp2_with fail
  refine bodyPost_ret (v:=.agg #[.int .i64 1,.int .i64 p,.string x,.string ⟨#[]⟩,.bool false,.slice none 0 0,.slice none 0 0,.slice none 0 0,.int .i64 0,.int .i64 0,.int .i64 0,.string ⟨#[]⟩,.slice none 0 0]) (by simp [results,Tryz.results52,go_sem, *]) rfl ?_
  rw [← hV7,← hV8,← hV9,← hV10,← hV11,← hV12,← hV13,← hV14,← hV15,← hV16,← hV17,← hV18,← hV19]
  rw [HRP.o]
  refine ⟨_,_,_,_,_,_,_,_,_,_,_,_,_,_,_,_,_,_,_,_,_,rfl,fun W hW => ?_,HD.o.gr,HD.o.st⟩
  exact ⟨1,p,x,⟨#[]⟩,false,_,[],_,[],_,[],_,_,_,_,_,noE,rfl,rfl,LS.nil,LS.nil,LS.nil,XE.none W⟩
set_option maxHeartbeats 8000000 in
set_option maxRecDepth 100000 in
theorem decl_2 (hall : ts.all isAlone = true) (n : Nat) (w : World) (h : St rb tv ts en n w) (hk : dKind (peekT ts n).text.data.toList = 2) :
    Calls Tryz.prog 52 #[.pointer (some ⟨rb,0,none⟩)] w (PostC ts en (pDecl ts en n) (DeclPost rb tv ts en w) (fun w' => w.grownBy w' (some rb))):=by
  obtain ⟨res,hres⟩:=nm (pDecl ts en n)
  rw [← hres]
  have HRP : Hx (res = bindR (pName ts (n + 1)) fun a n1 => bindR (pName ts n1) fun b n2 => bindR (pTake ts [59] n2) fun _ m1 => .inl (deD 2 (posn ts en n) a b false [] [] [] noE,m1)):=by show _ = _; rw [hres]; unfold pDecl pGiven; rw [hk]; rfl
  obtain ⟨p,hp⟩:=nm (posn ts en n)
  rw [← hp] at HRP
  have HP:=hide hp
  have hn : n < ts.length:=peek_lt (fun h2 => by rw [h2] at hk; exact absurd hk (by decide))
  have h6:=h.2.2.1
  have HD:=hide (Rd.start h)
  have HK:=hide hk
  clear hres hp h hk
  obtain ⟨V1,hV1⟩:=nm (w.alloc (.cells #[.int .i64 0,.int .i64 0,.string ⟨#[]⟩,.string ⟨#[]⟩,.bool false,.slice none 0 0,.slice none 0 0,.slice none 0 0,.int .i64 0,.int .i64 0,.int .i64 0,.string ⟨#[]⟩,.slice none 0 0] 51))
  obtain ⟨ba,hba⟩:=nm w.heap.size
  have hsba:=hba
  have HLa : Hx (w.heap.size≤ba):=by show _≤_; rw [hsba]; exact HD.o.size
  have HBa : Hx (Bx ba [.int .i64 0,.int .i64 0,.string ⟨#[]⟩,.string ⟨#[]⟩,.bool false,.slice none 0 0,.slice none 0 0,.slice none 0 0,.int .i64 0,.int .i64 0,.int .i64 0,.string ⟨#[]⟩,.slice none 0 0] V1):=by show Bx _ _ _; rw [hV1,hsba]; exact Bx.new w [.int .i64 0,.int .i64 0,.string ⟨#[]⟩,.string ⟨#[]⟩,.bool false,.slice none 0 0,.slice none 0 0,.slice none 0 0,.int .i64 0,.int .i64 0,.int .i64 0,.string ⟨#[]⟩,.slice none 0 0] 51
  replace HD : Hx (Rd rb tv ts en w (n) V1):=by show Rd _ _ _ _ _ _ _; rw [hV1]; exact HD.o.over (bA _ _)
  have K0:=hide (here_c n _ HD.o.st)
  go_enter Tryz.func52,Tryz.ntmps52
  go_wp2_with fail
  rw [← hV1,← hba]
  clear hsba
  clear hba hV1
  refine K0.o.mono ?_
  rintro e wh ⟨rfl,hg,hs⟩
  rw [← HP.o]
  replace HBa:=hide (HBa.o.keep hg (by have:=HD.o.rlt; have:=HLa.o; omega))
  replace HD : Hx (Rd rb tv ts en w (n) wh):=HD.o.call hg hs
  clear hg hs
  obtain ⟨kk,hkk⟩:=nm (peekT ts n).kind
  obtain ⟨pp,hpp⟩:=nm (peekT ts n).pos
  obtain ⟨tx,htx⟩:=nm (peekT ts n).text
  have K1:=hide (peek_c n _ HD.o.st)
  rw [← hkk,← hpp,← htx] at K1
  have HTX:=hide htx
  have hft:=field_text kk pp tx
  clear K0 hkk hpp htx
  go_wp2_with fail
  refine K1.o.mono ?_
  rintro e wp ⟨rfl,hg,hs⟩
  replace HBa:=hide (HBa.o.keep hg (by have:=HD.o.rlt; have:=HLa.o; omega))
  replace HD : Hx (Rd rb tv ts en w (n) wp):=HD.o.call hg hs
  clear hg hs
  have KD : Hx (∀ W,Calls Tryz.prog 94 #[.string tx] W fun e w' => e = .returned (.int .i64 2)∧W = w'):=fun W => by
    have t:=declKind_any tx W
    rw [HTX.o,HK.o] at t
    rw [HTX.o]
    exact t.mono fun e w' h => ⟨h.1,h.2.symm⟩
  clear K1
  go_wp2_with fail
  refine (KD.o _).mono ?_
  rintro e w' ⟨rfl,rfl⟩
  clear hft KD
  obtain ⟨V2,hV2⟩:=nm (wp.alloc (.cells #[.int .i64 2,.int .i64 p,.string ⟨#[]⟩,.string ⟨#[]⟩,.bool false,.slice none 0 0,.slice none 0 0,.slice none 0 0,.int .i64 0,.int .i64 0,.int .i64 0,.string ⟨#[]⟩,.slice none 0 0] 51))
  obtain ⟨bs,hbs⟩:=nm wp.heap.size
  have hsbs:=hbs
  have HLs : Hx (w.heap.size≤bs):=by show _≤_; rw [hsbs]; exact HD.o.size
  have HLas : Hx (ba < bs):=by show _ < _; rw [hsbs]; exact HBa.o.lt
  have HBs : Hx (Bx bs [.int .i64 2,.int .i64 p,.string ⟨#[]⟩,.string ⟨#[]⟩,.bool false,.slice none 0 0,.slice none 0 0,.slice none 0 0,.int .i64 0,.int .i64 0,.int .i64 0,.string ⟨#[]⟩,.slice none 0 0] V2):=by show Bx _ _ _; rw [hV2,hsbs]; exact Bx.new wp [.int .i64 2,.int .i64 p,.string ⟨#[]⟩,.string ⟨#[]⟩,.bool false,.slice none 0 0,.slice none 0 0,.slice none 0 0,.int .i64 0,.int .i64 0,.int .i64 0,.string ⟨#[]⟩,.slice none 0 0] 51
  replace HBa : Hx (Bx ba [.int .i64 0,.int .i64 0,.string ⟨#[]⟩,.string ⟨#[]⟩,.bool false,.slice none 0 0,.slice none 0 0,.slice none 0 0,.int .i64 0,.int .i64 0,.int .i64 0,.string ⟨#[]⟩,.slice none 0 0] V2):=by show Bx _ _ _; rw [hV2]; exact HBa.o.over (bA _ _)
  replace HD : Hx (Rd rb tv ts en w (n) V2):=by show Rd _ _ _ _ _ _ _; rw [hV2]; exact HD.o.over (bA _ _)
  go_upto_region 4 with fail
  rw [← hV2,← hbs]
  clear hsbs
  clear hbs hV2
  obtain ⟨rc0,rc1,rc2,rf1⟩:=HD.o.st.cells
  have hnx:=st_next HD.o.st hn
  obtain ⟨V3,hV3⟩:=nm (V2.setCell ⟨rb,1,none⟩ (.int .i64 ((n : Int) + 1)))
  rw [← hV3] at hnx
  obtain ⟨hs,hg⟩:=hnx
  replace HBa:=hide (HBa.o.keep hg (by have:=HD.o.rlt; have:=HLa.o; omega))
  replace HBs:=hide (HBs.o.keep hg (by have:=HD.o.rlt; have:=HLs.o; omega))
  replace HD : Hx (Rd rb tv ts en w (n + 1) V3):=HD.o.call hg hs
  clear hg hs
  have K2:=hide (name_c (n + 1) _ HD.o.st)
  go_wp2_with fail
  rw [← hV3]
  clear rf1 rc2 rc1 rc0
  clear hV3
  clear hn h6
  refine K2.o.mono ?_
  rintro e w4 hpo
  obtain ⟨m,ho⟩ | ⟨x,n1,ho⟩:=res_cases (pName ts (n + 1))
  · replace hpo : PostC ts en (pName ts (n + 1)) _ _ e w4:=hpo
    rw [ho] at hpo
    obtain ⟨rfl,hg⟩:=hpo
    have HO : Hx (res = .inr m):=by show _ = _; rw [HRP.o,ho]; rfl
    have HG:=hide (grownBy_trans HD.o.gr hg)
    clear hg ho
    unfold gaveUpAt
    go_wp2_with fail
    refine ⟨rfl,?_⟩
    rw [HO.o]
    exact ⟨rfl,HG.o⟩
  replace hpo : PostC ts en (pName ts (n + 1)) _ _ e w4:=hpo
  rw [ho] at hpo
  obtain ⟨rfl,hg,hs⟩:=hpo
  have hr:=HRP.o
  rw [ho,bindR_inl] at hr
  replace HRP:=hide hr
  have HOO:=hide ho
  clear hr ho
  clear K2
  clear HOO
  replace HBa:=hide (HBa.o.keep hg (by have:=HD.o.rlt; have:=HLa.o; omega))
  replace HBs:=hide (HBs.o.keep hg (by have:=HD.o.rlt; have:=HLs.o; omega))
  replace HD : Hx (Rd rb tv ts en w (n1) w4):=HD.o.call hg hs
  clear hg hs
  obtain ⟨cs0,cs1,cs2,cs3,cs4,cs5,cs6,cs7,cs8,cs9,cs10,cs11,cs12⟩:=rc13 HBs.o.row
  have fs0:=HBs.o.fz 0
  have fs1:=HBs.o.fz 1
  have fs2:=HBs.o.fz 2
  have fs3:=HBs.o.fz 3
  have fs4:=HBs.o.fz 4
  have fs5:=HBs.o.fz 5
  have fs6:=HBs.o.fz 6
  have fs7:=HBs.o.fz 7
  have fs8:=HBs.o.fz 8
  have fs9:=HBs.o.fz 9
  have fs10:=HBs.o.fz 10
  have fs11:=HBs.o.fz 11
  have fs12:=HBs.o.fz 12
  obtain ⟨V5,hV5⟩:=nm (w4.setCell ⟨bs,2,none⟩ (.string x))
  replace HBs : Hx (Bx bs [.int .i64 2,.int .i64 p,.string x,.string ⟨#[]⟩,.bool false,.slice none 0 0,.slice none 0 0,.slice none 0 0,.int .i64 0,.int .i64 0,.int .i64 0,.string ⟨#[]⟩,.slice none 0 0] V5):=by show Bx _ _ _; rw [hV5]; exact HBs.o.set (j:=2) (by simp)
  replace HBa : Hx (Bx ba [.int .i64 0,.int .i64 0,.string ⟨#[]⟩,.string ⟨#[]⟩,.bool false,.slice none 0 0,.slice none 0 0,.slice none 0 0,.int .i64 0,.int .i64 0,.int .i64 0,.string ⟨#[]⟩,.slice none 0 0] V5):=by show Bx _ _ _; rw [hV5]; exact HBa.o.far (by have:=HLas.o; omega)
  replace HD : Hx (Rd rb tv ts en w (n1) V5):=by show Rd _ _ _ _ _ _ _; rw [hV5]; exact HD.o.set (by exact HLs.o)
  have K3:=hide (name_c n1 _ HD.o.st)
  go_wp2_with fail
  rw [← hV5]
  clear fs12 fs11 fs10 fs9 fs8 fs7 fs6 fs5 fs4 fs3 fs2 fs1 fs0 cs12 cs11 cs10 cs9 cs8 cs7 cs6 cs5 cs4 cs3 cs2 cs1 cs0
  clear hV5
  refine K3.o.mono ?_
  rintro e w6 hpo
  obtain ⟨m,ho⟩ | ⟨y,n2,ho⟩:=res_cases (pName ts n1)
  · replace hpo : PostC ts en (pName ts n1) _ _ e w6:=hpo
    rw [ho] at hpo
    obtain ⟨rfl,hg⟩:=hpo
    have HO : Hx (res = .inr m):=by show _ = _; rw [HRP.o,ho]; rfl
    have HG:=hide (grownBy_trans HD.o.gr hg)
    clear hg ho
    unfold gaveUpAt
    go_wp2_with fail
    refine ⟨rfl,?_⟩
    rw [HO.o]
    exact ⟨rfl,HG.o⟩
  replace hpo : PostC ts en (pName ts n1) _ _ e w6:=hpo
  rw [ho] at hpo
  obtain ⟨rfl,hg,hs⟩:=hpo
  have hr:=HRP.o
  rw [ho,bindR_inl] at hr
  replace HRP:=hide hr
  have HOO:=hide ho
  clear hr ho
  clear K3
  clear HOO
  replace HBa:=hide (HBa.o.keep hg (by have:=HD.o.rlt; have:=HLa.o; omega))
  replace HBs:=hide (HBs.o.keep hg (by have:=HD.o.rlt; have:=HLs.o; omega))
  replace HD : Hx (Rd rb tv ts en w (n2) w6):=HD.o.call hg hs
  clear hg hs
  obtain ⟨cs0,cs1,cs2,cs3,cs4,cs5,cs6,cs7,cs8,cs9,cs10,cs11,cs12⟩:=rc13 HBs.o.row
  have fs0:=HBs.o.fz 0
  have fs1:=HBs.o.fz 1
  have fs2:=HBs.o.fz 2
  have fs3:=HBs.o.fz 3
  have fs4:=HBs.o.fz 4
  have fs5:=HBs.o.fz 5
  have fs6:=HBs.o.fz 6
  have fs7:=HBs.o.fz 7
  have fs8:=HBs.o.fz 8
  have fs9:=HBs.o.fz 9
  have fs10:=HBs.o.fz 10
  have fs11:=HBs.o.fz 11
  have fs12:=HBs.o.fz 12
  obtain ⟨V7,hV7⟩:=nm (w6.setCell ⟨bs,3,none⟩ (.string y))
  replace HBs : Hx (Bx bs [.int .i64 2,.int .i64 p,.string x,.string y,.bool false,.slice none 0 0,.slice none 0 0,.slice none 0 0,.int .i64 0,.int .i64 0,.int .i64 0,.string ⟨#[]⟩,.slice none 0 0] V7):=by show Bx _ _ _; rw [hV7]; exact HBs.o.set (j:=3) (by simp)
  replace HBa : Hx (Bx ba [.int .i64 0,.int .i64 0,.string ⟨#[]⟩,.string ⟨#[]⟩,.bool false,.slice none 0 0,.slice none 0 0,.slice none 0 0,.int .i64 0,.int .i64 0,.int .i64 0,.string ⟨#[]⟩,.slice none 0 0] V7):=by show Bx _ _ _; rw [hV7]; exact HBa.o.far (by have:=HLas.o; omega)
  replace HD : Hx (Rd rb tv ts en w (n2) V7):=by show Rd _ _ _ _ _ _ _; rw [hV7]; exact HD.o.set (by exact HLs.o)
  have K4:=hide (take_c ⟨#[59]⟩ (by decide) n2 _ HD.o.st)
  go_wp2_with fail
  rw [← hV7]
  clear fs12 fs11 fs10 fs9 fs8 fs7 fs6 fs5 fs4 fs3 fs2 fs1 fs0 cs12 cs11 cs10 cs9 cs8 cs7 cs6 cs5 cs4 cs3 cs2 cs1 cs0
  clear hV7
  refine K4.o.mono ?_
  rintro e w8 hpo
  obtain ⟨m,ho⟩ | ⟨_un3,n3,ho⟩:=res_cases (pTake ts [59] n2)
  · replace hpo : PostC ts en (pTake ts [59] n2) _ _ e w8:=hpo
    rw [ho] at hpo
    obtain ⟨rfl,hg⟩:=hpo
    have HO : Hx (res = .inr m):=by show _ = _; rw [HRP.o,ho]; rfl
    have HG:=hide (grownBy_trans HD.o.gr hg)
    clear hg ho
    unfold gaveUpAt
    go_wp2_with fail
    refine ⟨rfl,?_⟩
    rw [HO.o]
    exact ⟨rfl,HG.o⟩
  replace hpo : PostC ts en (pTake ts [59] n2) _ _ e w8:=hpo
  rw [ho] at hpo
  obtain ⟨rfl,hg,hs⟩:=hpo
  have hr:=HRP.o
  rw [ho,bindR_inl] at hr
  replace HRP:=hide hr
  have HOO:=hide ho
  clear hr ho
  clear K4
  clear HOO
  replace HBa:=hide (HBa.o.keep hg (by have:=HD.o.rlt; have:=HLa.o; omega))
  replace HBs:=hide (HBs.o.keep hg (by have:=HD.o.rlt; have:=HLs.o; omega))
  replace HD : Hx (Rd rb tv ts en w (n3) w8):=HD.o.call hg hs
  clear hg hs
  have neas : ba≠bs:=by have:=HLas.o; omega
  have nesa : bs≠ba:=by have:=HLas.o; omega
  obtain ⟨ca0,ca1,ca2,ca3,ca4,ca5,ca6,ca7,ca8,ca9,ca10,ca11,ca12⟩:=rc13 HBa.o.row
  have fa0:=HBa.o.fz 0
  have fa1:=HBa.o.fz 1
  have fa2:=HBa.o.fz 2
  have fa3:=HBa.o.fz 3
  have fa4:=HBa.o.fz 4
  have fa5:=HBa.o.fz 5
  have fa6:=HBa.o.fz 6
  have fa7:=HBa.o.fz 7
  have fa8:=HBa.o.fz 8
  have fa9:=HBa.o.fz 9
  have fa10:=HBa.o.fz 10
  have fa11:=HBa.o.fz 11
  have fa12:=HBa.o.fz 12
  obtain ⟨cs0,cs1,cs2,cs3,cs4,cs5,cs6,cs7,cs8,cs9,cs10,cs11,cs12⟩:=rc13 HBs.o.row
  have fs0:=HBs.o.fz 0
  have fs1:=HBs.o.fz 1
  have fs2:=HBs.o.fz 2
  have fs3:=HBs.o.fz 3
  have fs4:=HBs.o.fz 4
  have fs5:=HBs.o.fz 5
  have fs6:=HBs.o.fz 6
  have fs7:=HBs.o.fz 7
  have fs8:=HBs.o.fz 8
  have fs9:=HBs.o.fz 9
  have fs10:=HBs.o.fz 10
  have fs11:=HBs.o.fz 11
  have fs12:=HBs.o.fz 12
  obtain ⟨V9,hV9⟩:=nm (w8.setCell ⟨ba,0,none⟩ (.int .i64 2))
  replace HBa : Hx (Bx ba [.int .i64 2,.int .i64 0,.string ⟨#[]⟩,.string ⟨#[]⟩,.bool false,.slice none 0 0,.slice none 0 0,.slice none 0 0,.int .i64 0,.int .i64 0,.int .i64 0,.string ⟨#[]⟩,.slice none 0 0] V9):=by show Bx _ _ _; rw [hV9]; exact HBa.o.set (j:=0) (by simp)
  replace HBs : Hx (Bx bs [.int .i64 2,.int .i64 p,.string x,.string y,.bool false,.slice none 0 0,.slice none 0 0,.slice none 0 0,.int .i64 0,.int .i64 0,.int .i64 0,.string ⟨#[]⟩,.slice none 0 0] V9):=by show Bx _ _ _; rw [hV9]; exact HBs.o.far (by have:=HLas.o; omega)
  replace HD : Hx (Rd rb tv ts en w (n3) V9):=by show Rd _ _ _ _ _ _ _; rw [hV9]; exact HD.o.set (by exact HLa.o)
  obtain ⟨V10,hV10⟩:=nm (V9.setCell ⟨ba,1,none⟩ (.int .i64 p))
  replace HBa : Hx (Bx ba [.int .i64 2,.int .i64 p,.string ⟨#[]⟩,.string ⟨#[]⟩,.bool false,.slice none 0 0,.slice none 0 0,.slice none 0 0,.int .i64 0,.int .i64 0,.int .i64 0,.string ⟨#[]⟩,.slice none 0 0] V10):=by show Bx _ _ _; rw [hV10]; exact HBa.o.set (j:=1) (by simp)
  replace HBs : Hx (Bx bs [.int .i64 2,.int .i64 p,.string x,.string y,.bool false,.slice none 0 0,.slice none 0 0,.slice none 0 0,.int .i64 0,.int .i64 0,.int .i64 0,.string ⟨#[]⟩,.slice none 0 0] V10):=by show Bx _ _ _; rw [hV10]; exact HBs.o.far (by have:=HLas.o; omega)
  replace HD : Hx (Rd rb tv ts en w (n3) V10):=by show Rd _ _ _ _ _ _ _; rw [hV10]; exact HD.o.set (by exact HLa.o)
  obtain ⟨V11,hV11⟩:=nm (V10.setCell ⟨ba,2,none⟩ (.string x))
  replace HBa : Hx (Bx ba [.int .i64 2,.int .i64 p,.string x,.string ⟨#[]⟩,.bool false,.slice none 0 0,.slice none 0 0,.slice none 0 0,.int .i64 0,.int .i64 0,.int .i64 0,.string ⟨#[]⟩,.slice none 0 0] V11):=by show Bx _ _ _; rw [hV11]; exact HBa.o.set (j:=2) (by simp)
  replace HBs : Hx (Bx bs [.int .i64 2,.int .i64 p,.string x,.string y,.bool false,.slice none 0 0,.slice none 0 0,.slice none 0 0,.int .i64 0,.int .i64 0,.int .i64 0,.string ⟨#[]⟩,.slice none 0 0] V11):=by show Bx _ _ _; rw [hV11]; exact HBs.o.far (by have:=HLas.o; omega)
  replace HD : Hx (Rd rb tv ts en w (n3) V11):=by show Rd _ _ _ _ _ _ _; rw [hV11]; exact HD.o.set (by exact HLa.o)
  obtain ⟨V12,hV12⟩:=nm (V11.setCell ⟨ba,3,none⟩ (.string y))
  replace HBa : Hx (Bx ba [.int .i64 2,.int .i64 p,.string x,.string y,.bool false,.slice none 0 0,.slice none 0 0,.slice none 0 0,.int .i64 0,.int .i64 0,.int .i64 0,.string ⟨#[]⟩,.slice none 0 0] V12):=by show Bx _ _ _; rw [hV12]; exact HBa.o.set (j:=3) (by simp)
  replace HBs : Hx (Bx bs [.int .i64 2,.int .i64 p,.string x,.string y,.bool false,.slice none 0 0,.slice none 0 0,.slice none 0 0,.int .i64 0,.int .i64 0,.int .i64 0,.string ⟨#[]⟩,.slice none 0 0] V12):=by show Bx _ _ _; rw [hV12]; exact HBs.o.far (by have:=HLas.o; omega)
  replace HD : Hx (Rd rb tv ts en w (n3) V12):=by show Rd _ _ _ _ _ _ _; rw [hV12]; exact HD.o.set (by exact HLa.o)
  obtain ⟨V13,hV13⟩:=nm (V12.setCell ⟨ba,4,none⟩ (.bool false))
  replace HBa : Hx (Bx ba [.int .i64 2,.int .i64 p,.string x,.string y,.bool false,.slice none 0 0,.slice none 0 0,.slice none 0 0,.int .i64 0,.int .i64 0,.int .i64 0,.string ⟨#[]⟩,.slice none 0 0] V13):=by show Bx _ _ _; rw [hV13]; exact HBa.o.set (j:=4) (by simp)
  replace HBs : Hx (Bx bs [.int .i64 2,.int .i64 p,.string x,.string y,.bool false,.slice none 0 0,.slice none 0 0,.slice none 0 0,.int .i64 0,.int .i64 0,.int .i64 0,.string ⟨#[]⟩,.slice none 0 0] V13):=by show Bx _ _ _; rw [hV13]; exact HBs.o.far (by have:=HLas.o; omega)
  replace HD : Hx (Rd rb tv ts en w (n3) V13):=by show Rd _ _ _ _ _ _ _; rw [hV13]; exact HD.o.set (by exact HLa.o)
  obtain ⟨V14,hV14⟩:=nm (V13.setCell ⟨ba,5,none⟩ (.slice none 0 0))
  replace HBa : Hx (Bx ba [.int .i64 2,.int .i64 p,.string x,.string y,.bool false,.slice none 0 0,.slice none 0 0,.slice none 0 0,.int .i64 0,.int .i64 0,.int .i64 0,.string ⟨#[]⟩,.slice none 0 0] V14):=by show Bx _ _ _; rw [hV14]; exact HBa.o.set (j:=5) (by simp)
  replace HBs : Hx (Bx bs [.int .i64 2,.int .i64 p,.string x,.string y,.bool false,.slice none 0 0,.slice none 0 0,.slice none 0 0,.int .i64 0,.int .i64 0,.int .i64 0,.string ⟨#[]⟩,.slice none 0 0] V14):=by show Bx _ _ _; rw [hV14]; exact HBs.o.far (by have:=HLas.o; omega)
  replace HD : Hx (Rd rb tv ts en w (n3) V14):=by show Rd _ _ _ _ _ _ _; rw [hV14]; exact HD.o.set (by exact HLa.o)
  obtain ⟨V15,hV15⟩:=nm (V14.setCell ⟨ba,6,none⟩ (.slice none 0 0))
  replace HBa : Hx (Bx ba [.int .i64 2,.int .i64 p,.string x,.string y,.bool false,.slice none 0 0,.slice none 0 0,.slice none 0 0,.int .i64 0,.int .i64 0,.int .i64 0,.string ⟨#[]⟩,.slice none 0 0] V15):=by show Bx _ _ _; rw [hV15]; exact HBa.o.set (j:=6) (by simp)
  replace HBs : Hx (Bx bs [.int .i64 2,.int .i64 p,.string x,.string y,.bool false,.slice none 0 0,.slice none 0 0,.slice none 0 0,.int .i64 0,.int .i64 0,.int .i64 0,.string ⟨#[]⟩,.slice none 0 0] V15):=by show Bx _ _ _; rw [hV15]; exact HBs.o.far (by have:=HLas.o; omega)
  replace HD : Hx (Rd rb tv ts en w (n3) V15):=by show Rd _ _ _ _ _ _ _; rw [hV15]; exact HD.o.set (by exact HLa.o)
  obtain ⟨V16,hV16⟩:=nm (V15.setCell ⟨ba,7,none⟩ (.slice none 0 0))
  replace HBa : Hx (Bx ba [.int .i64 2,.int .i64 p,.string x,.string y,.bool false,.slice none 0 0,.slice none 0 0,.slice none 0 0,.int .i64 0,.int .i64 0,.int .i64 0,.string ⟨#[]⟩,.slice none 0 0] V16):=by show Bx _ _ _; rw [hV16]; exact HBa.o.set (j:=7) (by simp)
  replace HBs : Hx (Bx bs [.int .i64 2,.int .i64 p,.string x,.string y,.bool false,.slice none 0 0,.slice none 0 0,.slice none 0 0,.int .i64 0,.int .i64 0,.int .i64 0,.string ⟨#[]⟩,.slice none 0 0] V16):=by show Bx _ _ _; rw [hV16]; exact HBs.o.far (by have:=HLas.o; omega)
  replace HD : Hx (Rd rb tv ts en w (n3) V16):=by show Rd _ _ _ _ _ _ _; rw [hV16]; exact HD.o.set (by exact HLa.o)
  obtain ⟨V17,hV17⟩:=nm (V16.setCell ⟨ba,8,none⟩ (.int .i64 0))
  replace HBa : Hx (Bx ba [.int .i64 2,.int .i64 p,.string x,.string y,.bool false,.slice none 0 0,.slice none 0 0,.slice none 0 0,.int .i64 0,.int .i64 0,.int .i64 0,.string ⟨#[]⟩,.slice none 0 0] V17):=by show Bx _ _ _; rw [hV17]; exact HBa.o.set (j:=8) (by simp)
  replace HBs : Hx (Bx bs [.int .i64 2,.int .i64 p,.string x,.string y,.bool false,.slice none 0 0,.slice none 0 0,.slice none 0 0,.int .i64 0,.int .i64 0,.int .i64 0,.string ⟨#[]⟩,.slice none 0 0] V17):=by show Bx _ _ _; rw [hV17]; exact HBs.o.far (by have:=HLas.o; omega)
  replace HD : Hx (Rd rb tv ts en w (n3) V17):=by show Rd _ _ _ _ _ _ _; rw [hV17]; exact HD.o.set (by exact HLa.o)
  obtain ⟨V18,hV18⟩:=nm (V17.setCell ⟨ba,9,none⟩ (.int .i64 0))
  replace HBa : Hx (Bx ba [.int .i64 2,.int .i64 p,.string x,.string y,.bool false,.slice none 0 0,.slice none 0 0,.slice none 0 0,.int .i64 0,.int .i64 0,.int .i64 0,.string ⟨#[]⟩,.slice none 0 0] V18):=by show Bx _ _ _; rw [hV18]; exact HBa.o.set (j:=9) (by simp)
  replace HBs : Hx (Bx bs [.int .i64 2,.int .i64 p,.string x,.string y,.bool false,.slice none 0 0,.slice none 0 0,.slice none 0 0,.int .i64 0,.int .i64 0,.int .i64 0,.string ⟨#[]⟩,.slice none 0 0] V18):=by show Bx _ _ _; rw [hV18]; exact HBs.o.far (by have:=HLas.o; omega)
  replace HD : Hx (Rd rb tv ts en w (n3) V18):=by show Rd _ _ _ _ _ _ _; rw [hV18]; exact HD.o.set (by exact HLa.o)
  obtain ⟨V19,hV19⟩:=nm (V18.setCell ⟨ba,10,none⟩ (.int .i64 0))
  replace HBa : Hx (Bx ba [.int .i64 2,.int .i64 p,.string x,.string y,.bool false,.slice none 0 0,.slice none 0 0,.slice none 0 0,.int .i64 0,.int .i64 0,.int .i64 0,.string ⟨#[]⟩,.slice none 0 0] V19):=by show Bx _ _ _; rw [hV19]; exact HBa.o.set (j:=10) (by simp)
  replace HBs : Hx (Bx bs [.int .i64 2,.int .i64 p,.string x,.string y,.bool false,.slice none 0 0,.slice none 0 0,.slice none 0 0,.int .i64 0,.int .i64 0,.int .i64 0,.string ⟨#[]⟩,.slice none 0 0] V19):=by show Bx _ _ _; rw [hV19]; exact HBs.o.far (by have:=HLas.o; omega)
  replace HD : Hx (Rd rb tv ts en w (n3) V19):=by show Rd _ _ _ _ _ _ _; rw [hV19]; exact HD.o.set (by exact HLa.o)
  obtain ⟨V20,hV20⟩:=nm (V19.setCell ⟨ba,11,none⟩ (.string ⟨#[]⟩))
  replace HBa : Hx (Bx ba [.int .i64 2,.int .i64 p,.string x,.string y,.bool false,.slice none 0 0,.slice none 0 0,.slice none 0 0,.int .i64 0,.int .i64 0,.int .i64 0,.string ⟨#[]⟩,.slice none 0 0] V20):=by show Bx _ _ _; rw [hV20]; exact HBa.o.set (j:=11) (by simp)
  replace HBs : Hx (Bx bs [.int .i64 2,.int .i64 p,.string x,.string y,.bool false,.slice none 0 0,.slice none 0 0,.slice none 0 0,.int .i64 0,.int .i64 0,.int .i64 0,.string ⟨#[]⟩,.slice none 0 0] V20):=by show Bx _ _ _; rw [hV20]; exact HBs.o.far (by have:=HLas.o; omega)
  replace HD : Hx (Rd rb tv ts en w (n3) V20):=by show Rd _ _ _ _ _ _ _; rw [hV20]; exact HD.o.set (by exact HLa.o)
  obtain ⟨V21,hV21⟩:=nm (V20.setCell ⟨ba,12,none⟩ (.slice none 0 0))
  replace HBa : Hx (Bx ba [.int .i64 2,.int .i64 p,.string x,.string y,.bool false,.slice none 0 0,.slice none 0 0,.slice none 0 0,.int .i64 0,.int .i64 0,.int .i64 0,.string ⟨#[]⟩,.slice none 0 0] V21):=by show Bx _ _ _; rw [hV21]; exact HBa.o.set (j:=12) (by simp)
  replace HBs : Hx (Bx bs [.int .i64 2,.int .i64 p,.string x,.string y,.bool false,.slice none 0 0,.slice none 0 0,.slice none 0 0,.int .i64 0,.int .i64 0,.int .i64 0,.string ⟨#[]⟩,.slice none 0 0] V21):=by show Bx _ _ _; rw [hV21]; exact HBs.o.far (by have:=HLas.o; omega)
  replace HD : Hx (Rd rb tv ts en w (n3) V21):=by show Rd _ _ _ _ _ _ _; rw [hV21]; exact HD.o.set (by exact HLa.o)
  go_wp2_with fail
  refine bodyPost_ret (v:=.agg #[.int .i64 2,.int .i64 p,.string x,.string y,.bool false,.slice none 0 0,.slice none 0 0,.slice none 0 0,.int .i64 0,.int .i64 0,.int .i64 0,.string ⟨#[]⟩,.slice none 0 0]) (by simp [results,Tryz.results52,go_sem, *]) rfl ?_
  rw [← hV9,← hV10,← hV11,← hV12,← hV13,← hV14,← hV15,← hV16,← hV17,← hV18,← hV19,← hV20,← hV21]
  rw [HRP.o]
  refine ⟨_,_,_,_,_,_,_,_,_,_,_,_,_,_,_,_,_,_,_,_,_,rfl,fun W hW => ?_,HD.o.gr,HD.o.st⟩
  exact ⟨2,p,x,y,false,_,[],_,[],_,[],_,_,_,_,_,noE,rfl,rfl,LS.nil,LS.nil,LS.nil,XE.none W⟩
set_option maxHeartbeats 8000000 in
set_option maxRecDepth 100000 in
theorem decl_3 (hall : ts.all isAlone = true) (n : Nat) (w : World) (h : St rb tv ts en n w) (hk : dKind (peekT ts n).text.data.toList = 3) :
    Calls Tryz.prog 52 #[.pointer (some ⟨rb,0,none⟩)] w (PostC ts en (pDecl ts en n) (DeclPost rb tv ts en w) (fun w' => w.grownBy w' (some rb))):=by
  obtain ⟨res,hres⟩:=nm (pDecl ts en n)
  rw [← hres]
  have HRP : Hx (res = bindR (pName ts (n + 1)) fun a n1 => bindR (pTake ts [59] n1) fun _ m1 => .inl (deD 3 (posn ts en n) a noS false [] [] [] noE,m1)):=by show _ = _; rw [hres]; unfold pDecl pGiven; rw [hk]; rfl
  obtain ⟨p,hp⟩:=nm (posn ts en n)
  rw [← hp] at HRP
  have HP:=hide hp
  have hn : n < ts.length:=peek_lt (fun h2 => by rw [h2] at hk; exact absurd hk (by decide))
  have h6:=h.2.2.1
  have HD:=hide (Rd.start h)
  have HK:=hide hk
  clear hres hp h hk
  obtain ⟨V1,hV1⟩:=nm (w.alloc (.cells #[.int .i64 0,.int .i64 0,.string ⟨#[]⟩,.string ⟨#[]⟩,.bool false,.slice none 0 0,.slice none 0 0,.slice none 0 0,.int .i64 0,.int .i64 0,.int .i64 0,.string ⟨#[]⟩,.slice none 0 0] 51))
  obtain ⟨ba,hba⟩:=nm w.heap.size
  have hsba:=hba
  have HLa : Hx (w.heap.size≤ba):=by show _≤_; rw [hsba]; exact HD.o.size
  have HBa : Hx (Bx ba [.int .i64 0,.int .i64 0,.string ⟨#[]⟩,.string ⟨#[]⟩,.bool false,.slice none 0 0,.slice none 0 0,.slice none 0 0,.int .i64 0,.int .i64 0,.int .i64 0,.string ⟨#[]⟩,.slice none 0 0] V1):=by show Bx _ _ _; rw [hV1,hsba]; exact Bx.new w [.int .i64 0,.int .i64 0,.string ⟨#[]⟩,.string ⟨#[]⟩,.bool false,.slice none 0 0,.slice none 0 0,.slice none 0 0,.int .i64 0,.int .i64 0,.int .i64 0,.string ⟨#[]⟩,.slice none 0 0] 51
  replace HD : Hx (Rd rb tv ts en w (n) V1):=by show Rd _ _ _ _ _ _ _; rw [hV1]; exact HD.o.over (bA _ _)
  have K0:=hide (here_c n _ HD.o.st)
  go_enter Tryz.func52,Tryz.ntmps52
  go_wp2_with fail
  rw [← hV1,← hba]
  clear hsba
  clear hba hV1
  refine K0.o.mono ?_
  rintro e wh ⟨rfl,hg,hs⟩
  rw [← HP.o]
  replace HBa:=hide (HBa.o.keep hg (by have:=HD.o.rlt; have:=HLa.o; omega))
  replace HD : Hx (Rd rb tv ts en w (n) wh):=HD.o.call hg hs
  clear hg hs
  obtain ⟨kk,hkk⟩:=nm (peekT ts n).kind
  obtain ⟨pp,hpp⟩:=nm (peekT ts n).pos
  obtain ⟨tx,htx⟩:=nm (peekT ts n).text
  have K1:=hide (peek_c n _ HD.o.st)
  rw [← hkk,← hpp,← htx] at K1
  have HTX:=hide htx
  have hft:=field_text kk pp tx
  clear K0 hkk hpp htx
  go_wp2_with fail
  refine K1.o.mono ?_
  rintro e wp ⟨rfl,hg,hs⟩
  replace HBa:=hide (HBa.o.keep hg (by have:=HD.o.rlt; have:=HLa.o; omega))
  replace HD : Hx (Rd rb tv ts en w (n) wp):=HD.o.call hg hs
  clear hg hs
  have KD : Hx (∀ W,Calls Tryz.prog 94 #[.string tx] W fun e w' => e = .returned (.int .i64 3)∧W = w'):=fun W => by
    have t:=declKind_any tx W
    rw [HTX.o,HK.o] at t
    rw [HTX.o]
    exact t.mono fun e w' h => ⟨h.1,h.2.symm⟩
  clear K1
  go_wp2_with fail
  refine (KD.o _).mono ?_
  rintro e w' ⟨rfl,rfl⟩
  clear hft KD
  obtain ⟨V2,hV2⟩:=nm (wp.alloc (.cells #[.int .i64 3,.int .i64 p,.string ⟨#[]⟩,.string ⟨#[]⟩,.bool false,.slice none 0 0,.slice none 0 0,.slice none 0 0,.int .i64 0,.int .i64 0,.int .i64 0,.string ⟨#[]⟩,.slice none 0 0] 51))
  obtain ⟨bs,hbs⟩:=nm wp.heap.size
  have hsbs:=hbs
  have HLs : Hx (w.heap.size≤bs):=by show _≤_; rw [hsbs]; exact HD.o.size
  have HLas : Hx (ba < bs):=by show _ < _; rw [hsbs]; exact HBa.o.lt
  have HBs : Hx (Bx bs [.int .i64 3,.int .i64 p,.string ⟨#[]⟩,.string ⟨#[]⟩,.bool false,.slice none 0 0,.slice none 0 0,.slice none 0 0,.int .i64 0,.int .i64 0,.int .i64 0,.string ⟨#[]⟩,.slice none 0 0] V2):=by show Bx _ _ _; rw [hV2,hsbs]; exact Bx.new wp [.int .i64 3,.int .i64 p,.string ⟨#[]⟩,.string ⟨#[]⟩,.bool false,.slice none 0 0,.slice none 0 0,.slice none 0 0,.int .i64 0,.int .i64 0,.int .i64 0,.string ⟨#[]⟩,.slice none 0 0] 51
  replace HBa : Hx (Bx ba [.int .i64 0,.int .i64 0,.string ⟨#[]⟩,.string ⟨#[]⟩,.bool false,.slice none 0 0,.slice none 0 0,.slice none 0 0,.int .i64 0,.int .i64 0,.int .i64 0,.string ⟨#[]⟩,.slice none 0 0] V2):=by show Bx _ _ _; rw [hV2]; exact HBa.o.over (bA _ _)
  replace HD : Hx (Rd rb tv ts en w (n) V2):=by show Rd _ _ _ _ _ _ _; rw [hV2]; exact HD.o.over (bA _ _)
  go_upto_region 4 with fail
  rw [← hV2,← hbs]
  clear hsbs
  clear hbs hV2
  obtain ⟨rc0,rc1,rc2,rf1⟩:=HD.o.st.cells
  have hnx:=st_next HD.o.st hn
  obtain ⟨V3,hV3⟩:=nm (V2.setCell ⟨rb,1,none⟩ (.int .i64 ((n : Int) + 1)))
  rw [← hV3] at hnx
  obtain ⟨hs,hg⟩:=hnx
  replace HBa:=hide (HBa.o.keep hg (by have:=HD.o.rlt; have:=HLa.o; omega))
  replace HBs:=hide (HBs.o.keep hg (by have:=HD.o.rlt; have:=HLs.o; omega))
  replace HD : Hx (Rd rb tv ts en w (n + 1) V3):=HD.o.call hg hs
  clear hg hs
  have K2:=hide (name_c (n + 1) _ HD.o.st)
  go_wp2_with fail
  rw [← hV3]
  clear rf1 rc2 rc1 rc0
  clear hV3
  clear hn h6
  refine K2.o.mono ?_
  rintro e w4 hpo
  obtain ⟨m,ho⟩ | ⟨x,n1,ho⟩:=res_cases (pName ts (n + 1))
  · replace hpo : PostC ts en (pName ts (n + 1)) _ _ e w4:=hpo
    rw [ho] at hpo
    obtain ⟨rfl,hg⟩:=hpo
    have HO : Hx (res = .inr m):=by show _ = _; rw [HRP.o,ho]; rfl
    have HG:=hide (grownBy_trans HD.o.gr hg)
    clear hg ho
    unfold gaveUpAt
    go_wp2_with fail
    refine ⟨rfl,?_⟩
    rw [HO.o]
    exact ⟨rfl,HG.o⟩
  replace hpo : PostC ts en (pName ts (n + 1)) _ _ e w4:=hpo
  rw [ho] at hpo
  obtain ⟨rfl,hg,hs⟩:=hpo
  have hr:=HRP.o
  rw [ho,bindR_inl] at hr
  replace HRP:=hide hr
  have HOO:=hide ho
  clear hr ho
  clear K2
  clear HOO
  replace HBa:=hide (HBa.o.keep hg (by have:=HD.o.rlt; have:=HLa.o; omega))
  replace HBs:=hide (HBs.o.keep hg (by have:=HD.o.rlt; have:=HLs.o; omega))
  replace HD : Hx (Rd rb tv ts en w (n1) w4):=HD.o.call hg hs
  clear hg hs
  obtain ⟨cs0,cs1,cs2,cs3,cs4,cs5,cs6,cs7,cs8,cs9,cs10,cs11,cs12⟩:=rc13 HBs.o.row
  have fs0:=HBs.o.fz 0
  have fs1:=HBs.o.fz 1
  have fs2:=HBs.o.fz 2
  have fs3:=HBs.o.fz 3
  have fs4:=HBs.o.fz 4
  have fs5:=HBs.o.fz 5
  have fs6:=HBs.o.fz 6
  have fs7:=HBs.o.fz 7
  have fs8:=HBs.o.fz 8
  have fs9:=HBs.o.fz 9
  have fs10:=HBs.o.fz 10
  have fs11:=HBs.o.fz 11
  have fs12:=HBs.o.fz 12
  obtain ⟨V5,hV5⟩:=nm (w4.setCell ⟨bs,2,none⟩ (.string x))
  replace HBs : Hx (Bx bs [.int .i64 3,.int .i64 p,.string x,.string ⟨#[]⟩,.bool false,.slice none 0 0,.slice none 0 0,.slice none 0 0,.int .i64 0,.int .i64 0,.int .i64 0,.string ⟨#[]⟩,.slice none 0 0] V5):=by show Bx _ _ _; rw [hV5]; exact HBs.o.set (j:=2) (by simp)
  replace HBa : Hx (Bx ba [.int .i64 0,.int .i64 0,.string ⟨#[]⟩,.string ⟨#[]⟩,.bool false,.slice none 0 0,.slice none 0 0,.slice none 0 0,.int .i64 0,.int .i64 0,.int .i64 0,.string ⟨#[]⟩,.slice none 0 0] V5):=by show Bx _ _ _; rw [hV5]; exact HBa.o.far (by have:=HLas.o; omega)
  replace HD : Hx (Rd rb tv ts en w (n1) V5):=by show Rd _ _ _ _ _ _ _; rw [hV5]; exact HD.o.set (by exact HLs.o)
  have K3:=hide (take_c ⟨#[59]⟩ (by decide) n1 _ HD.o.st)
  go_wp2_with fail
  rw [← hV5]
  clear fs12 fs11 fs10 fs9 fs8 fs7 fs6 fs5 fs4 fs3 fs2 fs1 fs0 cs12 cs11 cs10 cs9 cs8 cs7 cs6 cs5 cs4 cs3 cs2 cs1 cs0
  clear hV5
  refine K3.o.mono ?_
  rintro e w6 hpo
  obtain ⟨m,ho⟩ | ⟨_un2,n2,ho⟩:=res_cases (pTake ts [59] n1)
  · replace hpo : PostC ts en (pTake ts [59] n1) _ _ e w6:=hpo
    rw [ho] at hpo
    obtain ⟨rfl,hg⟩:=hpo
    have HO : Hx (res = .inr m):=by show _ = _; rw [HRP.o,ho]; rfl
    have HG:=hide (grownBy_trans HD.o.gr hg)
    clear hg ho
    unfold gaveUpAt
    go_wp2_with fail
    refine ⟨rfl,?_⟩
    rw [HO.o]
    exact ⟨rfl,HG.o⟩
  replace hpo : PostC ts en (pTake ts [59] n1) _ _ e w6:=hpo
  rw [ho] at hpo
  obtain ⟨rfl,hg,hs⟩:=hpo
  have hr:=HRP.o
  rw [ho,bindR_inl] at hr
  replace HRP:=hide hr
  have HOO:=hide ho
  clear hr ho
  clear K3
  clear HOO
  replace HBa:=hide (HBa.o.keep hg (by have:=HD.o.rlt; have:=HLa.o; omega))
  replace HBs:=hide (HBs.o.keep hg (by have:=HD.o.rlt; have:=HLs.o; omega))
  replace HD : Hx (Rd rb tv ts en w (n2) w6):=HD.o.call hg hs
  clear hg hs
  have neas : ba≠bs:=by have:=HLas.o; omega
  have nesa : bs≠ba:=by have:=HLas.o; omega
  obtain ⟨ca0,ca1,ca2,ca3,ca4,ca5,ca6,ca7,ca8,ca9,ca10,ca11,ca12⟩:=rc13 HBa.o.row
  have fa0:=HBa.o.fz 0
  have fa1:=HBa.o.fz 1
  have fa2:=HBa.o.fz 2
  have fa3:=HBa.o.fz 3
  have fa4:=HBa.o.fz 4
  have fa5:=HBa.o.fz 5
  have fa6:=HBa.o.fz 6
  have fa7:=HBa.o.fz 7
  have fa8:=HBa.o.fz 8
  have fa9:=HBa.o.fz 9
  have fa10:=HBa.o.fz 10
  have fa11:=HBa.o.fz 11
  have fa12:=HBa.o.fz 12
  obtain ⟨cs0,cs1,cs2,cs3,cs4,cs5,cs6,cs7,cs8,cs9,cs10,cs11,cs12⟩:=rc13 HBs.o.row
  have fs0:=HBs.o.fz 0
  have fs1:=HBs.o.fz 1
  have fs2:=HBs.o.fz 2
  have fs3:=HBs.o.fz 3
  have fs4:=HBs.o.fz 4
  have fs5:=HBs.o.fz 5
  have fs6:=HBs.o.fz 6
  have fs7:=HBs.o.fz 7
  have fs8:=HBs.o.fz 8
  have fs9:=HBs.o.fz 9
  have fs10:=HBs.o.fz 10
  have fs11:=HBs.o.fz 11
  have fs12:=HBs.o.fz 12
  obtain ⟨V7,hV7⟩:=nm (w6.setCell ⟨ba,0,none⟩ (.int .i64 3))
  replace HBa : Hx (Bx ba [.int .i64 3,.int .i64 0,.string ⟨#[]⟩,.string ⟨#[]⟩,.bool false,.slice none 0 0,.slice none 0 0,.slice none 0 0,.int .i64 0,.int .i64 0,.int .i64 0,.string ⟨#[]⟩,.slice none 0 0] V7):=by show Bx _ _ _; rw [hV7]; exact HBa.o.set (j:=0) (by simp)
  replace HBs : Hx (Bx bs [.int .i64 3,.int .i64 p,.string x,.string ⟨#[]⟩,.bool false,.slice none 0 0,.slice none 0 0,.slice none 0 0,.int .i64 0,.int .i64 0,.int .i64 0,.string ⟨#[]⟩,.slice none 0 0] V7):=by show Bx _ _ _; rw [hV7]; exact HBs.o.far (by have:=HLas.o; omega)
  replace HD : Hx (Rd rb tv ts en w (n2) V7):=by show Rd _ _ _ _ _ _ _; rw [hV7]; exact HD.o.set (by exact HLa.o)
  obtain ⟨V8,hV8⟩:=nm (V7.setCell ⟨ba,1,none⟩ (.int .i64 p))
  replace HBa : Hx (Bx ba [.int .i64 3,.int .i64 p,.string ⟨#[]⟩,.string ⟨#[]⟩,.bool false,.slice none 0 0,.slice none 0 0,.slice none 0 0,.int .i64 0,.int .i64 0,.int .i64 0,.string ⟨#[]⟩,.slice none 0 0] V8):=by show Bx _ _ _; rw [hV8]; exact HBa.o.set (j:=1) (by simp)
  replace HBs : Hx (Bx bs [.int .i64 3,.int .i64 p,.string x,.string ⟨#[]⟩,.bool false,.slice none 0 0,.slice none 0 0,.slice none 0 0,.int .i64 0,.int .i64 0,.int .i64 0,.string ⟨#[]⟩,.slice none 0 0] V8):=by show Bx _ _ _; rw [hV8]; exact HBs.o.far (by have:=HLas.o; omega)
  replace HD : Hx (Rd rb tv ts en w (n2) V8):=by show Rd _ _ _ _ _ _ _; rw [hV8]; exact HD.o.set (by exact HLa.o)
  obtain ⟨V9,hV9⟩:=nm (V8.setCell ⟨ba,2,none⟩ (.string x))
  replace HBa : Hx (Bx ba [.int .i64 3,.int .i64 p,.string x,.string ⟨#[]⟩,.bool false,.slice none 0 0,.slice none 0 0,.slice none 0 0,.int .i64 0,.int .i64 0,.int .i64 0,.string ⟨#[]⟩,.slice none 0 0] V9):=by show Bx _ _ _; rw [hV9]; exact HBa.o.set (j:=2) (by simp)
  replace HBs : Hx (Bx bs [.int .i64 3,.int .i64 p,.string x,.string ⟨#[]⟩,.bool false,.slice none 0 0,.slice none 0 0,.slice none 0 0,.int .i64 0,.int .i64 0,.int .i64 0,.string ⟨#[]⟩,.slice none 0 0] V9):=by show Bx _ _ _; rw [hV9]; exact HBs.o.far (by have:=HLas.o; omega)
  replace HD : Hx (Rd rb tv ts en w (n2) V9):=by show Rd _ _ _ _ _ _ _; rw [hV9]; exact HD.o.set (by exact HLa.o)
  obtain ⟨V10,hV10⟩:=nm (V9.setCell ⟨ba,3,none⟩ (.string ⟨#[]⟩))
  replace HBa : Hx (Bx ba [.int .i64 3,.int .i64 p,.string x,.string ⟨#[]⟩,.bool false,.slice none 0 0,.slice none 0 0,.slice none 0 0,.int .i64 0,.int .i64 0,.int .i64 0,.string ⟨#[]⟩,.slice none 0 0] V10):=by show Bx _ _ _; rw [hV10]; exact HBa.o.set (j:=3) (by simp)
  replace HBs : Hx (Bx bs [.int .i64 3,.int .i64 p,.string x,.string ⟨#[]⟩,.bool false,.slice none 0 0,.slice none 0 0,.slice none 0 0,.int .i64 0,.int .i64 0,.int .i64 0,.string ⟨#[]⟩,.slice none 0 0] V10):=by show Bx _ _ _; rw [hV10]; exact HBs.o.far (by have:=HLas.o; omega)
  replace HD : Hx (Rd rb tv ts en w (n2) V10):=by show Rd _ _ _ _ _ _ _; rw [hV10]; exact HD.o.set (by exact HLa.o)
  obtain ⟨V11,hV11⟩:=nm (V10.setCell ⟨ba,4,none⟩ (.bool false))
  replace HBa : Hx (Bx ba [.int .i64 3,.int .i64 p,.string x,.string ⟨#[]⟩,.bool false,.slice none 0 0,.slice none 0 0,.slice none 0 0,.int .i64 0,.int .i64 0,.int .i64 0,.string ⟨#[]⟩,.slice none 0 0] V11):=by show Bx _ _ _; rw [hV11]; exact HBa.o.set (j:=4) (by simp)
  replace HBs : Hx (Bx bs [.int .i64 3,.int .i64 p,.string x,.string ⟨#[]⟩,.bool false,.slice none 0 0,.slice none 0 0,.slice none 0 0,.int .i64 0,.int .i64 0,.int .i64 0,.string ⟨#[]⟩,.slice none 0 0] V11):=by show Bx _ _ _; rw [hV11]; exact HBs.o.far (by have:=HLas.o; omega)
  replace HD : Hx (Rd rb tv ts en w (n2) V11):=by show Rd _ _ _ _ _ _ _; rw [hV11]; exact HD.o.set (by exact HLa.o)
  obtain ⟨V12,hV12⟩:=nm (V11.setCell ⟨ba,5,none⟩ (.slice none 0 0))
  replace HBa : Hx (Bx ba [.int .i64 3,.int .i64 p,.string x,.string ⟨#[]⟩,.bool false,.slice none 0 0,.slice none 0 0,.slice none 0 0,.int .i64 0,.int .i64 0,.int .i64 0,.string ⟨#[]⟩,.slice none 0 0] V12):=by show Bx _ _ _; rw [hV12]; exact HBa.o.set (j:=5) (by simp)
  replace HBs : Hx (Bx bs [.int .i64 3,.int .i64 p,.string x,.string ⟨#[]⟩,.bool false,.slice none 0 0,.slice none 0 0,.slice none 0 0,.int .i64 0,.int .i64 0,.int .i64 0,.string ⟨#[]⟩,.slice none 0 0] V12):=by show Bx _ _ _; rw [hV12]; exact HBs.o.far (by have:=HLas.o; omega)
  replace HD : Hx (Rd rb tv ts en w (n2) V12):=by show Rd _ _ _ _ _ _ _; rw [hV12]; exact HD.o.set (by exact HLa.o)
  obtain ⟨V13,hV13⟩:=nm (V12.setCell ⟨ba,6,none⟩ (.slice none 0 0))
  replace HBa : Hx (Bx ba [.int .i64 3,.int .i64 p,.string x,.string ⟨#[]⟩,.bool false,.slice none 0 0,.slice none 0 0,.slice none 0 0,.int .i64 0,.int .i64 0,.int .i64 0,.string ⟨#[]⟩,.slice none 0 0] V13):=by show Bx _ _ _; rw [hV13]; exact HBa.o.set (j:=6) (by simp)
  replace HBs : Hx (Bx bs [.int .i64 3,.int .i64 p,.string x,.string ⟨#[]⟩,.bool false,.slice none 0 0,.slice none 0 0,.slice none 0 0,.int .i64 0,.int .i64 0,.int .i64 0,.string ⟨#[]⟩,.slice none 0 0] V13):=by show Bx _ _ _; rw [hV13]; exact HBs.o.far (by have:=HLas.o; omega)
  replace HD : Hx (Rd rb tv ts en w (n2) V13):=by show Rd _ _ _ _ _ _ _; rw [hV13]; exact HD.o.set (by exact HLa.o)
  obtain ⟨V14,hV14⟩:=nm (V13.setCell ⟨ba,7,none⟩ (.slice none 0 0))
  replace HBa : Hx (Bx ba [.int .i64 3,.int .i64 p,.string x,.string ⟨#[]⟩,.bool false,.slice none 0 0,.slice none 0 0,.slice none 0 0,.int .i64 0,.int .i64 0,.int .i64 0,.string ⟨#[]⟩,.slice none 0 0] V14):=by show Bx _ _ _; rw [hV14]; exact HBa.o.set (j:=7) (by simp)
  replace HBs : Hx (Bx bs [.int .i64 3,.int .i64 p,.string x,.string ⟨#[]⟩,.bool false,.slice none 0 0,.slice none 0 0,.slice none 0 0,.int .i64 0,.int .i64 0,.int .i64 0,.string ⟨#[]⟩,.slice none 0 0] V14):=by show Bx _ _ _; rw [hV14]; exact HBs.o.far (by have:=HLas.o; omega)
  replace HD : Hx (Rd rb tv ts en w (n2) V14):=by show Rd _ _ _ _ _ _ _; rw [hV14]; exact HD.o.set (by exact HLa.o)
  obtain ⟨V15,hV15⟩:=nm (V14.setCell ⟨ba,8,none⟩ (.int .i64 0))
  replace HBa : Hx (Bx ba [.int .i64 3,.int .i64 p,.string x,.string ⟨#[]⟩,.bool false,.slice none 0 0,.slice none 0 0,.slice none 0 0,.int .i64 0,.int .i64 0,.int .i64 0,.string ⟨#[]⟩,.slice none 0 0] V15):=by show Bx _ _ _; rw [hV15]; exact HBa.o.set (j:=8) (by simp)
  replace HBs : Hx (Bx bs [.int .i64 3,.int .i64 p,.string x,.string ⟨#[]⟩,.bool false,.slice none 0 0,.slice none 0 0,.slice none 0 0,.int .i64 0,.int .i64 0,.int .i64 0,.string ⟨#[]⟩,.slice none 0 0] V15):=by show Bx _ _ _; rw [hV15]; exact HBs.o.far (by have:=HLas.o; omega)
  replace HD : Hx (Rd rb tv ts en w (n2) V15):=by show Rd _ _ _ _ _ _ _; rw [hV15]; exact HD.o.set (by exact HLa.o)
  obtain ⟨V16,hV16⟩:=nm (V15.setCell ⟨ba,9,none⟩ (.int .i64 0))
  replace HBa : Hx (Bx ba [.int .i64 3,.int .i64 p,.string x,.string ⟨#[]⟩,.bool false,.slice none 0 0,.slice none 0 0,.slice none 0 0,.int .i64 0,.int .i64 0,.int .i64 0,.string ⟨#[]⟩,.slice none 0 0] V16):=by show Bx _ _ _; rw [hV16]; exact HBa.o.set (j:=9) (by simp)
  replace HBs : Hx (Bx bs [.int .i64 3,.int .i64 p,.string x,.string ⟨#[]⟩,.bool false,.slice none 0 0,.slice none 0 0,.slice none 0 0,.int .i64 0,.int .i64 0,.int .i64 0,.string ⟨#[]⟩,.slice none 0 0] V16):=by show Bx _ _ _; rw [hV16]; exact HBs.o.far (by have:=HLas.o; omega)
  replace HD : Hx (Rd rb tv ts en w (n2) V16):=by show Rd _ _ _ _ _ _ _; rw [hV16]; exact HD.o.set (by exact HLa.o)
  obtain ⟨V17,hV17⟩:=nm (V16.setCell ⟨ba,10,none⟩ (.int .i64 0))
  replace HBa : Hx (Bx ba [.int .i64 3,.int .i64 p,.string x,.string ⟨#[]⟩,.bool false,.slice none 0 0,.slice none 0 0,.slice none 0 0,.int .i64 0,.int .i64 0,.int .i64 0,.string ⟨#[]⟩,.slice none 0 0] V17):=by show Bx _ _ _; rw [hV17]; exact HBa.o.set (j:=10) (by simp)
  replace HBs : Hx (Bx bs [.int .i64 3,.int .i64 p,.string x,.string ⟨#[]⟩,.bool false,.slice none 0 0,.slice none 0 0,.slice none 0 0,.int .i64 0,.int .i64 0,.int .i64 0,.string ⟨#[]⟩,.slice none 0 0] V17):=by show Bx _ _ _; rw [hV17]; exact HBs.o.far (by have:=HLas.o; omega)
  replace HD : Hx (Rd rb tv ts en w (n2) V17):=by show Rd _ _ _ _ _ _ _; rw [hV17]; exact HD.o.set (by exact HLa.o)
  obtain ⟨V18,hV18⟩:=nm (V17.setCell ⟨ba,11,none⟩ (.string ⟨#[]⟩))
  replace HBa : Hx (Bx ba [.int .i64 3,.int .i64 p,.string x,.string ⟨#[]⟩,.bool false,.slice none 0 0,.slice none 0 0,.slice none 0 0,.int .i64 0,.int .i64 0,.int .i64 0,.string ⟨#[]⟩,.slice none 0 0] V18):=by show Bx _ _ _; rw [hV18]; exact HBa.o.set (j:=11) (by simp)
  replace HBs : Hx (Bx bs [.int .i64 3,.int .i64 p,.string x,.string ⟨#[]⟩,.bool false,.slice none 0 0,.slice none 0 0,.slice none 0 0,.int .i64 0,.int .i64 0,.int .i64 0,.string ⟨#[]⟩,.slice none 0 0] V18):=by show Bx _ _ _; rw [hV18]; exact HBs.o.far (by have:=HLas.o; omega)
  replace HD : Hx (Rd rb tv ts en w (n2) V18):=by show Rd _ _ _ _ _ _ _; rw [hV18]; exact HD.o.set (by exact HLa.o)
  obtain ⟨V19,hV19⟩:=nm (V18.setCell ⟨ba,12,none⟩ (.slice none 0 0))
  replace HBa : Hx (Bx ba [.int .i64 3,.int .i64 p,.string x,.string ⟨#[]⟩,.bool false,.slice none 0 0,.slice none 0 0,.slice none 0 0,.int .i64 0,.int .i64 0,.int .i64 0,.string ⟨#[]⟩,.slice none 0 0] V19):=by show Bx _ _ _; rw [hV19]; exact HBa.o.set (j:=12) (by simp)
  replace HBs : Hx (Bx bs [.int .i64 3,.int .i64 p,.string x,.string ⟨#[]⟩,.bool false,.slice none 0 0,.slice none 0 0,.slice none 0 0,.int .i64 0,.int .i64 0,.int .i64 0,.string ⟨#[]⟩,.slice none 0 0] V19):=by show Bx _ _ _; rw [hV19]; exact HBs.o.far (by have:=HLas.o; omega)
  replace HD : Hx (Rd rb tv ts en w (n2) V19):=by show Rd _ _ _ _ _ _ _; rw [hV19]; exact HD.o.set (by exact HLa.o)
  go_wp2_with fail
  refine bodyPost_ret (v:=.agg #[.int .i64 3,.int .i64 p,.string x,.string ⟨#[]⟩,.bool false,.slice none 0 0,.slice none 0 0,.slice none 0 0,.int .i64 0,.int .i64 0,.int .i64 0,.string ⟨#[]⟩,.slice none 0 0]) (by simp [results,Tryz.results52,go_sem, *]) rfl ?_
  rw [← hV7,← hV8,← hV9,← hV10,← hV11,← hV12,← hV13,← hV14,← hV15,← hV16,← hV17,← hV18,← hV19]
  rw [HRP.o]
  refine ⟨_,_,_,_,_,_,_,_,_,_,_,_,_,_,_,_,_,_,_,_,_,rfl,fun W hW => ?_,HD.o.gr,HD.o.st⟩
  exact ⟨3,p,x,⟨#[]⟩,false,_,[],_,[],_,[],_,_,_,_,_,noE,rfl,rfl,LS.nil,LS.nil,LS.nil,XE.none W⟩
set_option maxHeartbeats 8000000 in
set_option maxRecDepth 100000 in
theorem decl_4 (hall : ts.all isAlone = true) (n : Nat) (w : World) (h : St rb tv ts en n w) (hk : dKind (peekT ts n).text.data.toList = 4) :
    Calls Tryz.prog 52 #[.pointer (some ⟨rb,0,none⟩)] w (PostC ts en (pDecl ts en n) (DeclPost rb tv ts en w) (fun w' => w.grownBy w' (some rb))):=by
  obtain ⟨res,hres⟩:=nm (pDecl ts en n)
  rw [← hres]
  have HRP : Hx (res = bindR (pName ts (n + 1)) fun a n1 => bindR (pLabel ts en n1) fun lb m1 => bindR (pTake ts [59] m1) fun _ m2 => .inl (deD 4 (posn ts en n) a noS true lb [] [] noE,m2)):=by show _ = _; rw [hres]; unfold pDecl pGiven; rw [hk]; rfl
  obtain ⟨p,hp⟩:=nm (posn ts en n)
  rw [← hp] at HRP
  have HP:=hide hp
  have hn : n < ts.length:=peek_lt (fun h2 => by rw [h2] at hk; exact absurd hk (by decide))
  have h6:=h.2.2.1
  have HD:=hide (Rd.start h)
  have HK:=hide hk
  clear hres hp h hk
  obtain ⟨V1,hV1⟩:=nm (w.alloc (.cells #[.int .i64 0,.int .i64 0,.string ⟨#[]⟩,.string ⟨#[]⟩,.bool false,.slice none 0 0,.slice none 0 0,.slice none 0 0,.int .i64 0,.int .i64 0,.int .i64 0,.string ⟨#[]⟩,.slice none 0 0] 51))
  obtain ⟨ba,hba⟩:=nm w.heap.size
  have hsba:=hba
  have HLa : Hx (w.heap.size≤ba):=by show _≤_; rw [hsba]; exact HD.o.size
  have HBa : Hx (Bx ba [.int .i64 0,.int .i64 0,.string ⟨#[]⟩,.string ⟨#[]⟩,.bool false,.slice none 0 0,.slice none 0 0,.slice none 0 0,.int .i64 0,.int .i64 0,.int .i64 0,.string ⟨#[]⟩,.slice none 0 0] V1):=by show Bx _ _ _; rw [hV1,hsba]; exact Bx.new w [.int .i64 0,.int .i64 0,.string ⟨#[]⟩,.string ⟨#[]⟩,.bool false,.slice none 0 0,.slice none 0 0,.slice none 0 0,.int .i64 0,.int .i64 0,.int .i64 0,.string ⟨#[]⟩,.slice none 0 0] 51
  replace HD : Hx (Rd rb tv ts en w (n) V1):=by show Rd _ _ _ _ _ _ _; rw [hV1]; exact HD.o.over (bA _ _)
  have K0:=hide (here_c n _ HD.o.st)
  go_enter Tryz.func52,Tryz.ntmps52
  go_wp2_with fail
  rw [← hV1,← hba]
  clear hsba
  clear hba hV1
  refine K0.o.mono ?_
  rintro e wh ⟨rfl,hg,hs⟩
  rw [← HP.o]
  replace HBa:=hide (HBa.o.keep hg (by have:=HD.o.rlt; have:=HLa.o; omega))
  replace HD : Hx (Rd rb tv ts en w (n) wh):=HD.o.call hg hs
  clear hg hs
  obtain ⟨kk,hkk⟩:=nm (peekT ts n).kind
  obtain ⟨pp,hpp⟩:=nm (peekT ts n).pos
  obtain ⟨tx,htx⟩:=nm (peekT ts n).text
  have K1:=hide (peek_c n _ HD.o.st)
  rw [← hkk,← hpp,← htx] at K1
  have HTX:=hide htx
  have hft:=field_text kk pp tx
  clear K0 hkk hpp htx
  go_wp2_with fail
  refine K1.o.mono ?_
  rintro e wp ⟨rfl,hg,hs⟩
  replace HBa:=hide (HBa.o.keep hg (by have:=HD.o.rlt; have:=HLa.o; omega))
  replace HD : Hx (Rd rb tv ts en w (n) wp):=HD.o.call hg hs
  clear hg hs
  have KD : Hx (∀ W,Calls Tryz.prog 94 #[.string tx] W fun e w' => e = .returned (.int .i64 4)∧W = w'):=fun W => by
    have t:=declKind_any tx W
    rw [HTX.o,HK.o] at t
    rw [HTX.o]
    exact t.mono fun e w' h => ⟨h.1,h.2.symm⟩
  clear K1
  go_wp2_with fail
  refine (KD.o _).mono ?_
  rintro e w' ⟨rfl,rfl⟩
  clear hft KD
  obtain ⟨V2,hV2⟩:=nm (wp.alloc (.cells #[.int .i64 4,.int .i64 p,.string ⟨#[]⟩,.string ⟨#[]⟩,.bool false,.slice none 0 0,.slice none 0 0,.slice none 0 0,.int .i64 0,.int .i64 0,.int .i64 0,.string ⟨#[]⟩,.slice none 0 0] 51))
  obtain ⟨bs,hbs⟩:=nm wp.heap.size
  have hsbs:=hbs
  have HLs : Hx (w.heap.size≤bs):=by show _≤_; rw [hsbs]; exact HD.o.size
  have HLas : Hx (ba < bs):=by show _ < _; rw [hsbs]; exact HBa.o.lt
  have HBs : Hx (Bx bs [.int .i64 4,.int .i64 p,.string ⟨#[]⟩,.string ⟨#[]⟩,.bool false,.slice none 0 0,.slice none 0 0,.slice none 0 0,.int .i64 0,.int .i64 0,.int .i64 0,.string ⟨#[]⟩,.slice none 0 0] V2):=by show Bx _ _ _; rw [hV2,hsbs]; exact Bx.new wp [.int .i64 4,.int .i64 p,.string ⟨#[]⟩,.string ⟨#[]⟩,.bool false,.slice none 0 0,.slice none 0 0,.slice none 0 0,.int .i64 0,.int .i64 0,.int .i64 0,.string ⟨#[]⟩,.slice none 0 0] 51
  replace HBa : Hx (Bx ba [.int .i64 0,.int .i64 0,.string ⟨#[]⟩,.string ⟨#[]⟩,.bool false,.slice none 0 0,.slice none 0 0,.slice none 0 0,.int .i64 0,.int .i64 0,.int .i64 0,.string ⟨#[]⟩,.slice none 0 0] V2):=by show Bx _ _ _; rw [hV2]; exact HBa.o.over (bA _ _)
  replace HD : Hx (Rd rb tv ts en w (n) V2):=by show Rd _ _ _ _ _ _ _; rw [hV2]; exact HD.o.over (bA _ _)
  go_upto_region 4 with fail
  rw [← hV2,← hbs]
  clear hsbs
  clear hbs hV2
  obtain ⟨rc0,rc1,rc2,rf1⟩:=HD.o.st.cells
  have hnx:=st_next HD.o.st hn
  obtain ⟨V3,hV3⟩:=nm (V2.setCell ⟨rb,1,none⟩ (.int .i64 ((n : Int) + 1)))
  rw [← hV3] at hnx
  obtain ⟨hs,hg⟩:=hnx
  replace HBa:=hide (HBa.o.keep hg (by have:=HD.o.rlt; have:=HLa.o; omega))
  replace HBs:=hide (HBs.o.keep hg (by have:=HD.o.rlt; have:=HLs.o; omega))
  replace HD : Hx (Rd rb tv ts en w (n + 1) V3):=HD.o.call hg hs
  clear hg hs
  have K2:=hide (name_c (n + 1) _ HD.o.st)
  go_wp2_with fail
  rw [← hV3]
  clear rf1 rc2 rc1 rc0
  clear hV3
  clear hn h6
  refine K2.o.mono ?_
  rintro e w4 hpo
  obtain ⟨m,ho⟩ | ⟨x,n1,ho⟩:=res_cases (pName ts (n + 1))
  · replace hpo : PostC ts en (pName ts (n + 1)) _ _ e w4:=hpo
    rw [ho] at hpo
    obtain ⟨rfl,hg⟩:=hpo
    have HO : Hx (res = .inr m):=by show _ = _; rw [HRP.o,ho]; rfl
    have HG:=hide (grownBy_trans HD.o.gr hg)
    clear hg ho
    unfold gaveUpAt
    go_wp2_with fail
    refine ⟨rfl,?_⟩
    rw [HO.o]
    exact ⟨rfl,HG.o⟩
  replace hpo : PostC ts en (pName ts (n + 1)) _ _ e w4:=hpo
  rw [ho] at hpo
  obtain ⟨rfl,hg,hs⟩:=hpo
  have hr:=HRP.o
  rw [ho,bindR_inl] at hr
  replace HRP:=hide hr
  have HOO:=hide ho
  clear hr ho
  clear K2
  clear HOO
  replace HBa:=hide (HBa.o.keep hg (by have:=HD.o.rlt; have:=HLa.o; omega))
  replace HBs:=hide (HBs.o.keep hg (by have:=HD.o.rlt; have:=HLs.o; omega))
  replace HD : Hx (Rd rb tv ts en w (n1) w4):=HD.o.call hg hs
  clear hg hs
  obtain ⟨cs0,cs1,cs2,cs3,cs4,cs5,cs6,cs7,cs8,cs9,cs10,cs11,cs12⟩:=rc13 HBs.o.row
  have fs0:=HBs.o.fz 0
  have fs1:=HBs.o.fz 1
  have fs2:=HBs.o.fz 2
  have fs3:=HBs.o.fz 3
  have fs4:=HBs.o.fz 4
  have fs5:=HBs.o.fz 5
  have fs6:=HBs.o.fz 6
  have fs7:=HBs.o.fz 7
  have fs8:=HBs.o.fz 8
  have fs9:=HBs.o.fz 9
  have fs10:=HBs.o.fz 10
  have fs11:=HBs.o.fz 11
  have fs12:=HBs.o.fz 12
  obtain ⟨V5,hV5⟩:=nm (w4.setCell ⟨bs,2,none⟩ (.string x))
  replace HBs : Hx (Bx bs [.int .i64 4,.int .i64 p,.string x,.string ⟨#[]⟩,.bool false,.slice none 0 0,.slice none 0 0,.slice none 0 0,.int .i64 0,.int .i64 0,.int .i64 0,.string ⟨#[]⟩,.slice none 0 0] V5):=by show Bx _ _ _; rw [hV5]; exact HBs.o.set (j:=2) (by simp)
  replace HBa : Hx (Bx ba [.int .i64 0,.int .i64 0,.string ⟨#[]⟩,.string ⟨#[]⟩,.bool false,.slice none 0 0,.slice none 0 0,.slice none 0 0,.int .i64 0,.int .i64 0,.int .i64 0,.string ⟨#[]⟩,.slice none 0 0] V5):=by show Bx _ _ _; rw [hV5]; exact HBa.o.far (by have:=HLas.o; omega)
  replace HD : Hx (Rd rb tv ts en w (n1) V5):=by show Rd _ _ _ _ _ _ _; rw [hV5]; exact HD.o.set (by exact HLs.o)
  obtain ⟨V6,hV6⟩:=nm (V5.setCell ⟨bs,4,none⟩ (.bool true))
  replace HBs : Hx (Bx bs [.int .i64 4,.int .i64 p,.string x,.string ⟨#[]⟩,.bool true,.slice none 0 0,.slice none 0 0,.slice none 0 0,.int .i64 0,.int .i64 0,.int .i64 0,.string ⟨#[]⟩,.slice none 0 0] V6):=by show Bx _ _ _; rw [hV6]; exact HBs.o.set (j:=4) (by simp)
  replace HBa : Hx (Bx ba [.int .i64 0,.int .i64 0,.string ⟨#[]⟩,.string ⟨#[]⟩,.bool false,.slice none 0 0,.slice none 0 0,.slice none 0 0,.int .i64 0,.int .i64 0,.int .i64 0,.string ⟨#[]⟩,.slice none 0 0] V6):=by show Bx _ _ _; rw [hV6]; exact HBa.o.far (by have:=HLas.o; omega)
  replace HD : Hx (Rd rb tv ts en w (n1) V6):=by show Rd _ _ _ _ _ _ _; rw [hV6]; exact HD.o.set (by exact HLs.o)
  have KL:=hide (label_c n1 _ HD.o.st)
  go_wp2_with fail
  rw [← hV5,← hV6]
  clear fs12 fs11 fs10 fs9 fs8 fs7 fs6 fs5 fs4 fs3 fs2 fs1 fs0 cs12 cs11 cs10 cs9 cs8 cs7 cs6 cs5 cs4 cs3 cs2 cs1 cs0
  clear hV6 hV5
  obtain ⟨z,hz⟩:=nm V6.heap.size
  have HWz : Hx (w.heap.size≤z):=by show _≤_; rw [hz]; exact HD.o.size
  have HZza : Hx (ba < z):=by show _ < _; rw [hz]; exact HBa.o.lt
  have HZzs : Hx (bs < z):=by show _ < _; rw [hz]; exact HBs.o.lt
  refine KL.o.mono ?_
  rintro e w7 hpo
  obtain ⟨m,ho⟩ | ⟨lb,n2,ho⟩:=res_cases (pLabel ts en n1)
  · replace hpo : PostC ts en (pLabel ts en n1) _ _ e w7:=hpo
    rw [ho] at hpo
    obtain ⟨rfl,hg⟩:=hpo
    have HO : Hx (res = .inr m):=by show _ = _; rw [HRP.o,ho]; rfl
    have HG:=hide (grownBy_trans HD.o.gr hg)
    clear hg ho
    unfold gaveUpAt
    go_wp2_with fail
    refine ⟨rfl,?_⟩
    rw [HO.o]
    exact ⟨rfl,HG.o⟩
  replace hpo : PostC ts en (pLabel ts en n1) _ _ e w7:=hpo
  rw [ho] at hpo
  obtain ⟨la,lc,rfl,hoff,hl6,hg,hs⟩:=hpo
  have hr:=HRP.o
  rw [ho,bindR_inl] at hr
  replace HRP:=hide hr
  have HOO:=hide ho
  clear hr ho
  obtain ⟨lk,hlk⟩:=nm lb.length
  rw [← hlk,← hz] at hoff
  rw [← hlk]
  have HOL:=hide hoff
  clear hoff hl6 hlk hz KL
  clear HOO
  replace HBa:=hide (HBa.o.keep hg (by have:=HD.o.rlt; have:=HLa.o; omega))
  replace HBs:=hide (HBs.o.keep hg (by have:=HD.o.rlt; have:=HLs.o; omega))
  replace HD : Hx (Rd rb tv ts en w (n2) w7):=HD.o.call hg hs
  clear hg hs
  obtain ⟨cs0,cs1,cs2,cs3,cs4,cs5,cs6,cs7,cs8,cs9,cs10,cs11,cs12⟩:=rc13 HBs.o.row
  have fs0:=HBs.o.fz 0
  have fs1:=HBs.o.fz 1
  have fs2:=HBs.o.fz 2
  have fs3:=HBs.o.fz 3
  have fs4:=HBs.o.fz 4
  have fs5:=HBs.o.fz 5
  have fs6:=HBs.o.fz 6
  have fs7:=HBs.o.fz 7
  have fs8:=HBs.o.fz 8
  have fs9:=HBs.o.fz 9
  have fs10:=HBs.o.fz 10
  have fs11:=HBs.o.fz 11
  have fs12:=HBs.o.fz 12
  obtain ⟨V8,hV8⟩:=nm (w7.setCell ⟨bs,5,none⟩ (.slice la lk lc))
  replace HBs : Hx (Bx bs [.int .i64 4,.int .i64 p,.string x,.string ⟨#[]⟩,.bool true,.slice la lk lc,.slice none 0 0,.slice none 0 0,.int .i64 0,.int .i64 0,.int .i64 0,.string ⟨#[]⟩,.slice none 0 0] V8):=by show Bx _ _ _; rw [hV8]; exact HBs.o.set (j:=5) (by simp)
  replace HBa : Hx (Bx ba [.int .i64 0,.int .i64 0,.string ⟨#[]⟩,.string ⟨#[]⟩,.bool false,.slice none 0 0,.slice none 0 0,.slice none 0 0,.int .i64 0,.int .i64 0,.int .i64 0,.string ⟨#[]⟩,.slice none 0 0] V8):=by show Bx _ _ _; rw [hV8]; exact HBa.o.far (by have:=HLas.o; omega)
  replace HD : Hx (Rd rb tv ts en w (n2) V8):=by show Rd _ _ _ _ _ _ _; rw [hV8]; exact HD.o.set (by exact HLs.o)
  replace HOL : Hx (Off z none V8 (fun W => LS 4 (RPol W) W (.slice la lk lc) lb)):=by show Off _ _ _ _; rw [hV8]; exact HOL.o.set HZzs.o
  have K4:=hide (take_c ⟨#[59]⟩ (by decide) n2 _ HD.o.st)
  go_wp2_with fail
  rw [← hV8]
  clear fs12 fs11 fs10 fs9 fs8 fs7 fs6 fs5 fs4 fs3 fs2 fs1 fs0 cs12 cs11 cs10 cs9 cs8 cs7 cs6 cs5 cs4 cs3 cs2 cs1 cs0
  clear hV8
  refine K4.o.mono ?_
  rintro e w9 hpo
  obtain ⟨m,ho⟩ | ⟨_un3,n3,ho⟩:=res_cases (pTake ts [59] n2)
  · replace hpo : PostC ts en (pTake ts [59] n2) _ _ e w9:=hpo
    rw [ho] at hpo
    obtain ⟨rfl,hg⟩:=hpo
    have HO : Hx (res = .inr m):=by show _ = _; rw [HRP.o,ho]; rfl
    have HG:=hide (grownBy_trans HD.o.gr hg)
    clear hg ho
    unfold gaveUpAt
    go_wp2_with fail
    refine ⟨rfl,?_⟩
    rw [HO.o]
    exact ⟨rfl,HG.o⟩
  replace hpo : PostC ts en (pTake ts [59] n2) _ _ e w9:=hpo
  rw [ho] at hpo
  obtain ⟨rfl,hg,hs⟩:=hpo
  have hr:=HRP.o
  rw [ho,bindR_inl] at hr
  replace HRP:=hide hr
  have HOO:=hide ho
  clear hr ho
  clear K4
  clear HOO
  replace HBa:=hide (HBa.o.keep hg (by have:=HD.o.rlt; have:=HLa.o; omega))
  replace HBs:=hide (HBs.o.keep hg (by have:=HD.o.rlt; have:=HLs.o; omega))
  replace HOL:=hide (HOL.o.keep hg (by have:=HD.o.rlt; have:=HWz.o; omega))
  replace HD : Hx (Rd rb tv ts en w (n3) w9):=HD.o.call hg hs
  clear hg hs
  have neas : ba≠bs:=by have:=HLas.o; omega
  have nesa : bs≠ba:=by have:=HLas.o; omega
  obtain ⟨ca0,ca1,ca2,ca3,ca4,ca5,ca6,ca7,ca8,ca9,ca10,ca11,ca12⟩:=rc13 HBa.o.row
  have fa0:=HBa.o.fz 0
  have fa1:=HBa.o.fz 1
  have fa2:=HBa.o.fz 2
  have fa3:=HBa.o.fz 3
  have fa4:=HBa.o.fz 4
  have fa5:=HBa.o.fz 5
  have fa6:=HBa.o.fz 6
  have fa7:=HBa.o.fz 7
  have fa8:=HBa.o.fz 8
  have fa9:=HBa.o.fz 9
  have fa10:=HBa.o.fz 10
  have fa11:=HBa.o.fz 11
  have fa12:=HBa.o.fz 12
  obtain ⟨cs0,cs1,cs2,cs3,cs4,cs5,cs6,cs7,cs8,cs9,cs10,cs11,cs12⟩:=rc13 HBs.o.row
  have fs0:=HBs.o.fz 0
  have fs1:=HBs.o.fz 1
  have fs2:=HBs.o.fz 2
  have fs3:=HBs.o.fz 3
  have fs4:=HBs.o.fz 4
  have fs5:=HBs.o.fz 5
  have fs6:=HBs.o.fz 6
  have fs7:=HBs.o.fz 7
  have fs8:=HBs.o.fz 8
  have fs9:=HBs.o.fz 9
  have fs10:=HBs.o.fz 10
  have fs11:=HBs.o.fz 11
  have fs12:=HBs.o.fz 12
  obtain ⟨V10,hV10⟩:=nm (w9.setCell ⟨ba,0,none⟩ (.int .i64 4))
  replace HBa : Hx (Bx ba [.int .i64 4,.int .i64 0,.string ⟨#[]⟩,.string ⟨#[]⟩,.bool false,.slice none 0 0,.slice none 0 0,.slice none 0 0,.int .i64 0,.int .i64 0,.int .i64 0,.string ⟨#[]⟩,.slice none 0 0] V10):=by show Bx _ _ _; rw [hV10]; exact HBa.o.set (j:=0) (by simp)
  replace HBs : Hx (Bx bs [.int .i64 4,.int .i64 p,.string x,.string ⟨#[]⟩,.bool true,.slice la lk lc,.slice none 0 0,.slice none 0 0,.int .i64 0,.int .i64 0,.int .i64 0,.string ⟨#[]⟩,.slice none 0 0] V10):=by show Bx _ _ _; rw [hV10]; exact HBs.o.far (by have:=HLas.o; omega)
  replace HD : Hx (Rd rb tv ts en w (n3) V10):=by show Rd _ _ _ _ _ _ _; rw [hV10]; exact HD.o.set (by exact HLa.o)
  replace HOL : Hx (Off z none V10 (fun W => LS 4 (RPol W) W (.slice la lk lc) lb)):=by show Off _ _ _ _; rw [hV10]; exact HOL.o.set HZza.o
  obtain ⟨V11,hV11⟩:=nm (V10.setCell ⟨ba,1,none⟩ (.int .i64 p))
  replace HBa : Hx (Bx ba [.int .i64 4,.int .i64 p,.string ⟨#[]⟩,.string ⟨#[]⟩,.bool false,.slice none 0 0,.slice none 0 0,.slice none 0 0,.int .i64 0,.int .i64 0,.int .i64 0,.string ⟨#[]⟩,.slice none 0 0] V11):=by show Bx _ _ _; rw [hV11]; exact HBa.o.set (j:=1) (by simp)
  replace HBs : Hx (Bx bs [.int .i64 4,.int .i64 p,.string x,.string ⟨#[]⟩,.bool true,.slice la lk lc,.slice none 0 0,.slice none 0 0,.int .i64 0,.int .i64 0,.int .i64 0,.string ⟨#[]⟩,.slice none 0 0] V11):=by show Bx _ _ _; rw [hV11]; exact HBs.o.far (by have:=HLas.o; omega)
  replace HD : Hx (Rd rb tv ts en w (n3) V11):=by show Rd _ _ _ _ _ _ _; rw [hV11]; exact HD.o.set (by exact HLa.o)
  replace HOL : Hx (Off z none V11 (fun W => LS 4 (RPol W) W (.slice la lk lc) lb)):=by show Off _ _ _ _; rw [hV11]; exact HOL.o.set HZza.o
  obtain ⟨V12,hV12⟩:=nm (V11.setCell ⟨ba,2,none⟩ (.string x))
  replace HBa : Hx (Bx ba [.int .i64 4,.int .i64 p,.string x,.string ⟨#[]⟩,.bool false,.slice none 0 0,.slice none 0 0,.slice none 0 0,.int .i64 0,.int .i64 0,.int .i64 0,.string ⟨#[]⟩,.slice none 0 0] V12):=by show Bx _ _ _; rw [hV12]; exact HBa.o.set (j:=2) (by simp)
  replace HBs : Hx (Bx bs [.int .i64 4,.int .i64 p,.string x,.string ⟨#[]⟩,.bool true,.slice la lk lc,.slice none 0 0,.slice none 0 0,.int .i64 0,.int .i64 0,.int .i64 0,.string ⟨#[]⟩,.slice none 0 0] V12):=by show Bx _ _ _; rw [hV12]; exact HBs.o.far (by have:=HLas.o; omega)
  replace HD : Hx (Rd rb tv ts en w (n3) V12):=by show Rd _ _ _ _ _ _ _; rw [hV12]; exact HD.o.set (by exact HLa.o)
  replace HOL : Hx (Off z none V12 (fun W => LS 4 (RPol W) W (.slice la lk lc) lb)):=by show Off _ _ _ _; rw [hV12]; exact HOL.o.set HZza.o
  obtain ⟨V13,hV13⟩:=nm (V12.setCell ⟨ba,3,none⟩ (.string ⟨#[]⟩))
  replace HBa : Hx (Bx ba [.int .i64 4,.int .i64 p,.string x,.string ⟨#[]⟩,.bool false,.slice none 0 0,.slice none 0 0,.slice none 0 0,.int .i64 0,.int .i64 0,.int .i64 0,.string ⟨#[]⟩,.slice none 0 0] V13):=by show Bx _ _ _; rw [hV13]; exact HBa.o.set (j:=3) (by simp)
  replace HBs : Hx (Bx bs [.int .i64 4,.int .i64 p,.string x,.string ⟨#[]⟩,.bool true,.slice la lk lc,.slice none 0 0,.slice none 0 0,.int .i64 0,.int .i64 0,.int .i64 0,.string ⟨#[]⟩,.slice none 0 0] V13):=by show Bx _ _ _; rw [hV13]; exact HBs.o.far (by have:=HLas.o; omega)
  replace HD : Hx (Rd rb tv ts en w (n3) V13):=by show Rd _ _ _ _ _ _ _; rw [hV13]; exact HD.o.set (by exact HLa.o)
  replace HOL : Hx (Off z none V13 (fun W => LS 4 (RPol W) W (.slice la lk lc) lb)):=by show Off _ _ _ _; rw [hV13]; exact HOL.o.set HZza.o
  obtain ⟨V14,hV14⟩:=nm (V13.setCell ⟨ba,4,none⟩ (.bool true))
  replace HBa : Hx (Bx ba [.int .i64 4,.int .i64 p,.string x,.string ⟨#[]⟩,.bool true,.slice none 0 0,.slice none 0 0,.slice none 0 0,.int .i64 0,.int .i64 0,.int .i64 0,.string ⟨#[]⟩,.slice none 0 0] V14):=by show Bx _ _ _; rw [hV14]; exact HBa.o.set (j:=4) (by simp)
  replace HBs : Hx (Bx bs [.int .i64 4,.int .i64 p,.string x,.string ⟨#[]⟩,.bool true,.slice la lk lc,.slice none 0 0,.slice none 0 0,.int .i64 0,.int .i64 0,.int .i64 0,.string ⟨#[]⟩,.slice none 0 0] V14):=by show Bx _ _ _; rw [hV14]; exact HBs.o.far (by have:=HLas.o; omega)
  replace HD : Hx (Rd rb tv ts en w (n3) V14):=by show Rd _ _ _ _ _ _ _; rw [hV14]; exact HD.o.set (by exact HLa.o)
  replace HOL : Hx (Off z none V14 (fun W => LS 4 (RPol W) W (.slice la lk lc) lb)):=by show Off _ _ _ _; rw [hV14]; exact HOL.o.set HZza.o
  obtain ⟨V15,hV15⟩:=nm (V14.setCell ⟨ba,5,none⟩ (.slice la lk lc))
  replace HBa : Hx (Bx ba [.int .i64 4,.int .i64 p,.string x,.string ⟨#[]⟩,.bool true,.slice la lk lc,.slice none 0 0,.slice none 0 0,.int .i64 0,.int .i64 0,.int .i64 0,.string ⟨#[]⟩,.slice none 0 0] V15):=by show Bx _ _ _; rw [hV15]; exact HBa.o.set (j:=5) (by simp)
  replace HBs : Hx (Bx bs [.int .i64 4,.int .i64 p,.string x,.string ⟨#[]⟩,.bool true,.slice la lk lc,.slice none 0 0,.slice none 0 0,.int .i64 0,.int .i64 0,.int .i64 0,.string ⟨#[]⟩,.slice none 0 0] V15):=by show Bx _ _ _; rw [hV15]; exact HBs.o.far (by have:=HLas.o; omega)
  replace HD : Hx (Rd rb tv ts en w (n3) V15):=by show Rd _ _ _ _ _ _ _; rw [hV15]; exact HD.o.set (by exact HLa.o)
  replace HOL : Hx (Off z none V15 (fun W => LS 4 (RPol W) W (.slice la lk lc) lb)):=by show Off _ _ _ _; rw [hV15]; exact HOL.o.set HZza.o
  obtain ⟨V16,hV16⟩:=nm (V15.setCell ⟨ba,6,none⟩ (.slice none 0 0))
  replace HBa : Hx (Bx ba [.int .i64 4,.int .i64 p,.string x,.string ⟨#[]⟩,.bool true,.slice la lk lc,.slice none 0 0,.slice none 0 0,.int .i64 0,.int .i64 0,.int .i64 0,.string ⟨#[]⟩,.slice none 0 0] V16):=by show Bx _ _ _; rw [hV16]; exact HBa.o.set (j:=6) (by simp)
  replace HBs : Hx (Bx bs [.int .i64 4,.int .i64 p,.string x,.string ⟨#[]⟩,.bool true,.slice la lk lc,.slice none 0 0,.slice none 0 0,.int .i64 0,.int .i64 0,.int .i64 0,.string ⟨#[]⟩,.slice none 0 0] V16):=by show Bx _ _ _; rw [hV16]; exact HBs.o.far (by have:=HLas.o; omega)
  replace HD : Hx (Rd rb tv ts en w (n3) V16):=by show Rd _ _ _ _ _ _ _; rw [hV16]; exact HD.o.set (by exact HLa.o)
  replace HOL : Hx (Off z none V16 (fun W => LS 4 (RPol W) W (.slice la lk lc) lb)):=by show Off _ _ _ _; rw [hV16]; exact HOL.o.set HZza.o
  obtain ⟨V17,hV17⟩:=nm (V16.setCell ⟨ba,7,none⟩ (.slice none 0 0))
  replace HBa : Hx (Bx ba [.int .i64 4,.int .i64 p,.string x,.string ⟨#[]⟩,.bool true,.slice la lk lc,.slice none 0 0,.slice none 0 0,.int .i64 0,.int .i64 0,.int .i64 0,.string ⟨#[]⟩,.slice none 0 0] V17):=by show Bx _ _ _; rw [hV17]; exact HBa.o.set (j:=7) (by simp)
  replace HBs : Hx (Bx bs [.int .i64 4,.int .i64 p,.string x,.string ⟨#[]⟩,.bool true,.slice la lk lc,.slice none 0 0,.slice none 0 0,.int .i64 0,.int .i64 0,.int .i64 0,.string ⟨#[]⟩,.slice none 0 0] V17):=by show Bx _ _ _; rw [hV17]; exact HBs.o.far (by have:=HLas.o; omega)
  replace HD : Hx (Rd rb tv ts en w (n3) V17):=by show Rd _ _ _ _ _ _ _; rw [hV17]; exact HD.o.set (by exact HLa.o)
  replace HOL : Hx (Off z none V17 (fun W => LS 4 (RPol W) W (.slice la lk lc) lb)):=by show Off _ _ _ _; rw [hV17]; exact HOL.o.set HZza.o
  obtain ⟨V18,hV18⟩:=nm (V17.setCell ⟨ba,8,none⟩ (.int .i64 0))
  replace HBa : Hx (Bx ba [.int .i64 4,.int .i64 p,.string x,.string ⟨#[]⟩,.bool true,.slice la lk lc,.slice none 0 0,.slice none 0 0,.int .i64 0,.int .i64 0,.int .i64 0,.string ⟨#[]⟩,.slice none 0 0] V18):=by show Bx _ _ _; rw [hV18]; exact HBa.o.set (j:=8) (by simp)
  replace HBs : Hx (Bx bs [.int .i64 4,.int .i64 p,.string x,.string ⟨#[]⟩,.bool true,.slice la lk lc,.slice none 0 0,.slice none 0 0,.int .i64 0,.int .i64 0,.int .i64 0,.string ⟨#[]⟩,.slice none 0 0] V18):=by show Bx _ _ _; rw [hV18]; exact HBs.o.far (by have:=HLas.o; omega)
  replace HD : Hx (Rd rb tv ts en w (n3) V18):=by show Rd _ _ _ _ _ _ _; rw [hV18]; exact HD.o.set (by exact HLa.o)
  replace HOL : Hx (Off z none V18 (fun W => LS 4 (RPol W) W (.slice la lk lc) lb)):=by show Off _ _ _ _; rw [hV18]; exact HOL.o.set HZza.o
  obtain ⟨V19,hV19⟩:=nm (V18.setCell ⟨ba,9,none⟩ (.int .i64 0))
  replace HBa : Hx (Bx ba [.int .i64 4,.int .i64 p,.string x,.string ⟨#[]⟩,.bool true,.slice la lk lc,.slice none 0 0,.slice none 0 0,.int .i64 0,.int .i64 0,.int .i64 0,.string ⟨#[]⟩,.slice none 0 0] V19):=by show Bx _ _ _; rw [hV19]; exact HBa.o.set (j:=9) (by simp)
  replace HBs : Hx (Bx bs [.int .i64 4,.int .i64 p,.string x,.string ⟨#[]⟩,.bool true,.slice la lk lc,.slice none 0 0,.slice none 0 0,.int .i64 0,.int .i64 0,.int .i64 0,.string ⟨#[]⟩,.slice none 0 0] V19):=by show Bx _ _ _; rw [hV19]; exact HBs.o.far (by have:=HLas.o; omega)
  replace HD : Hx (Rd rb tv ts en w (n3) V19):=by show Rd _ _ _ _ _ _ _; rw [hV19]; exact HD.o.set (by exact HLa.o)
  replace HOL : Hx (Off z none V19 (fun W => LS 4 (RPol W) W (.slice la lk lc) lb)):=by show Off _ _ _ _; rw [hV19]; exact HOL.o.set HZza.o
  obtain ⟨V20,hV20⟩:=nm (V19.setCell ⟨ba,10,none⟩ (.int .i64 0))
  replace HBa : Hx (Bx ba [.int .i64 4,.int .i64 p,.string x,.string ⟨#[]⟩,.bool true,.slice la lk lc,.slice none 0 0,.slice none 0 0,.int .i64 0,.int .i64 0,.int .i64 0,.string ⟨#[]⟩,.slice none 0 0] V20):=by show Bx _ _ _; rw [hV20]; exact HBa.o.set (j:=10) (by simp)
  replace HBs : Hx (Bx bs [.int .i64 4,.int .i64 p,.string x,.string ⟨#[]⟩,.bool true,.slice la lk lc,.slice none 0 0,.slice none 0 0,.int .i64 0,.int .i64 0,.int .i64 0,.string ⟨#[]⟩,.slice none 0 0] V20):=by show Bx _ _ _; rw [hV20]; exact HBs.o.far (by have:=HLas.o; omega)
  replace HD : Hx (Rd rb tv ts en w (n3) V20):=by show Rd _ _ _ _ _ _ _; rw [hV20]; exact HD.o.set (by exact HLa.o)
  replace HOL : Hx (Off z none V20 (fun W => LS 4 (RPol W) W (.slice la lk lc) lb)):=by show Off _ _ _ _; rw [hV20]; exact HOL.o.set HZza.o
  obtain ⟨V21,hV21⟩:=nm (V20.setCell ⟨ba,11,none⟩ (.string ⟨#[]⟩))
  replace HBa : Hx (Bx ba [.int .i64 4,.int .i64 p,.string x,.string ⟨#[]⟩,.bool true,.slice la lk lc,.slice none 0 0,.slice none 0 0,.int .i64 0,.int .i64 0,.int .i64 0,.string ⟨#[]⟩,.slice none 0 0] V21):=by show Bx _ _ _; rw [hV21]; exact HBa.o.set (j:=11) (by simp)
  replace HBs : Hx (Bx bs [.int .i64 4,.int .i64 p,.string x,.string ⟨#[]⟩,.bool true,.slice la lk lc,.slice none 0 0,.slice none 0 0,.int .i64 0,.int .i64 0,.int .i64 0,.string ⟨#[]⟩,.slice none 0 0] V21):=by show Bx _ _ _; rw [hV21]; exact HBs.o.far (by have:=HLas.o; omega)
  replace HD : Hx (Rd rb tv ts en w (n3) V21):=by show Rd _ _ _ _ _ _ _; rw [hV21]; exact HD.o.set (by exact HLa.o)
  replace HOL : Hx (Off z none V21 (fun W => LS 4 (RPol W) W (.slice la lk lc) lb)):=by show Off _ _ _ _; rw [hV21]; exact HOL.o.set HZza.o
  obtain ⟨V22,hV22⟩:=nm (V21.setCell ⟨ba,12,none⟩ (.slice none 0 0))
  replace HBa : Hx (Bx ba [.int .i64 4,.int .i64 p,.string x,.string ⟨#[]⟩,.bool true,.slice la lk lc,.slice none 0 0,.slice none 0 0,.int .i64 0,.int .i64 0,.int .i64 0,.string ⟨#[]⟩,.slice none 0 0] V22):=by show Bx _ _ _; rw [hV22]; exact HBa.o.set (j:=12) (by simp)
  replace HBs : Hx (Bx bs [.int .i64 4,.int .i64 p,.string x,.string ⟨#[]⟩,.bool true,.slice la lk lc,.slice none 0 0,.slice none 0 0,.int .i64 0,.int .i64 0,.int .i64 0,.string ⟨#[]⟩,.slice none 0 0] V22):=by show Bx _ _ _; rw [hV22]; exact HBs.o.far (by have:=HLas.o; omega)
  replace HD : Hx (Rd rb tv ts en w (n3) V22):=by show Rd _ _ _ _ _ _ _; rw [hV22]; exact HD.o.set (by exact HLa.o)
  replace HOL : Hx (Off z none V22 (fun W => LS 4 (RPol W) W (.slice la lk lc) lb)):=by show Off _ _ _ _; rw [hV22]; exact HOL.o.set HZza.o
  go_wp2_with fail
  refine bodyPost_ret (v:=.agg #[.int .i64 4,.int .i64 p,.string x,.string ⟨#[]⟩,.bool true,.slice la lk lc,.slice none 0 0,.slice none 0 0,.int .i64 0,.int .i64 0,.int .i64 0,.string ⟨#[]⟩,.slice none 0 0]) (by simp [results,Tryz.results52,go_sem, *]) rfl ?_
  rw [← hV10,← hV11,← hV12,← hV13,← hV14,← hV15,← hV16,← hV17,← hV18,← hV19,← hV20,← hV21,← hV22]
  rw [HRP.o]
  refine ⟨_,_,_,_,_,_,_,_,_,_,_,_,_,_,_,_,_,_,_,_,_,rfl,fun W hW => ?_,HD.o.gr,HD.o.st⟩
  exact ⟨4,p,x,⟨#[]⟩,true,_,lb,_,[],_,[],_,_,_,_,_,noE,rfl,rfl,(HOL.o.base HWz.o) W hW,LS.nil,LS.nil,XE.none W⟩
set_option maxHeartbeats 8000000 in
set_option maxRecDepth 100000 in
theorem decl_5 (hall : ts.all isAlone = true) (n : Nat) (w : World) (h : St rb tv ts en n w) (hk : dKind (peekT ts n).text.data.toList = 5) :
    Calls Tryz.prog 52 #[.pointer (some ⟨rb,0,none⟩)] w (PostC ts en (pDecl ts en n) (DeclPost rb tv ts en w) (fun w' => w.grownBy w' (some rb))):=by
  obtain ⟨res,hres⟩:=nm (pDecl ts en n)
  rw [← hres]
  have HRP : Hx (res = bindR (pName ts (n + 1)) fun a n1 => bindR (pLabel ts en n1) fun lb m1 => bindR (pTake ts [59] m1) fun _ m2 => .inl (deD 5 (posn ts en n) a noS true lb [] [] noE,m2)):=by show _ = _; rw [hres]; unfold pDecl pGiven; rw [hk]; rfl
  obtain ⟨p,hp⟩:=nm (posn ts en n)
  rw [← hp] at HRP
  have HP:=hide hp
  have hn : n < ts.length:=peek_lt (fun h2 => by rw [h2] at hk; exact absurd hk (by decide))
  have h6:=h.2.2.1
  have HD:=hide (Rd.start h)
  have HK:=hide hk
  clear hres hp h hk
  obtain ⟨V1,hV1⟩:=nm (w.alloc (.cells #[.int .i64 0,.int .i64 0,.string ⟨#[]⟩,.string ⟨#[]⟩,.bool false,.slice none 0 0,.slice none 0 0,.slice none 0 0,.int .i64 0,.int .i64 0,.int .i64 0,.string ⟨#[]⟩,.slice none 0 0] 51))
  obtain ⟨ba,hba⟩:=nm w.heap.size
  have hsba:=hba
  have HLa : Hx (w.heap.size≤ba):=by show _≤_; rw [hsba]; exact HD.o.size
  have HBa : Hx (Bx ba [.int .i64 0,.int .i64 0,.string ⟨#[]⟩,.string ⟨#[]⟩,.bool false,.slice none 0 0,.slice none 0 0,.slice none 0 0,.int .i64 0,.int .i64 0,.int .i64 0,.string ⟨#[]⟩,.slice none 0 0] V1):=by show Bx _ _ _; rw [hV1,hsba]; exact Bx.new w [.int .i64 0,.int .i64 0,.string ⟨#[]⟩,.string ⟨#[]⟩,.bool false,.slice none 0 0,.slice none 0 0,.slice none 0 0,.int .i64 0,.int .i64 0,.int .i64 0,.string ⟨#[]⟩,.slice none 0 0] 51
  replace HD : Hx (Rd rb tv ts en w (n) V1):=by show Rd _ _ _ _ _ _ _; rw [hV1]; exact HD.o.over (bA _ _)
  have K0:=hide (here_c n _ HD.o.st)
  go_enter Tryz.func52,Tryz.ntmps52
  go_wp2_with fail
  rw [← hV1,← hba]
  clear hsba
  clear hba hV1
  refine K0.o.mono ?_
  rintro e wh ⟨rfl,hg,hs⟩
  rw [← HP.o]
  replace HBa:=hide (HBa.o.keep hg (by have:=HD.o.rlt; have:=HLa.o; omega))
  replace HD : Hx (Rd rb tv ts en w (n) wh):=HD.o.call hg hs
  clear hg hs
  obtain ⟨kk,hkk⟩:=nm (peekT ts n).kind
  obtain ⟨pp,hpp⟩:=nm (peekT ts n).pos
  obtain ⟨tx,htx⟩:=nm (peekT ts n).text
  have K1:=hide (peek_c n _ HD.o.st)
  rw [← hkk,← hpp,← htx] at K1
  have HTX:=hide htx
  have hft:=field_text kk pp tx
  clear K0 hkk hpp htx
  go_wp2_with fail
  refine K1.o.mono ?_
  rintro e wp ⟨rfl,hg,hs⟩
  replace HBa:=hide (HBa.o.keep hg (by have:=HD.o.rlt; have:=HLa.o; omega))
  replace HD : Hx (Rd rb tv ts en w (n) wp):=HD.o.call hg hs
  clear hg hs
  have KD : Hx (∀ W,Calls Tryz.prog 94 #[.string tx] W fun e w' => e = .returned (.int .i64 5)∧W = w'):=fun W => by
    have t:=declKind_any tx W
    rw [HTX.o,HK.o] at t
    rw [HTX.o]
    exact t.mono fun e w' h => ⟨h.1,h.2.symm⟩
  clear K1
  go_wp2_with fail
  refine (KD.o _).mono ?_
  rintro e w' ⟨rfl,rfl⟩
  clear hft KD
  obtain ⟨V2,hV2⟩:=nm (wp.alloc (.cells #[.int .i64 5,.int .i64 p,.string ⟨#[]⟩,.string ⟨#[]⟩,.bool false,.slice none 0 0,.slice none 0 0,.slice none 0 0,.int .i64 0,.int .i64 0,.int .i64 0,.string ⟨#[]⟩,.slice none 0 0] 51))
  obtain ⟨bs,hbs⟩:=nm wp.heap.size
  have hsbs:=hbs
  have HLs : Hx (w.heap.size≤bs):=by show _≤_; rw [hsbs]; exact HD.o.size
  have HLas : Hx (ba < bs):=by show _ < _; rw [hsbs]; exact HBa.o.lt
  have HBs : Hx (Bx bs [.int .i64 5,.int .i64 p,.string ⟨#[]⟩,.string ⟨#[]⟩,.bool false,.slice none 0 0,.slice none 0 0,.slice none 0 0,.int .i64 0,.int .i64 0,.int .i64 0,.string ⟨#[]⟩,.slice none 0 0] V2):=by show Bx _ _ _; rw [hV2,hsbs]; exact Bx.new wp [.int .i64 5,.int .i64 p,.string ⟨#[]⟩,.string ⟨#[]⟩,.bool false,.slice none 0 0,.slice none 0 0,.slice none 0 0,.int .i64 0,.int .i64 0,.int .i64 0,.string ⟨#[]⟩,.slice none 0 0] 51
  replace HBa : Hx (Bx ba [.int .i64 0,.int .i64 0,.string ⟨#[]⟩,.string ⟨#[]⟩,.bool false,.slice none 0 0,.slice none 0 0,.slice none 0 0,.int .i64 0,.int .i64 0,.int .i64 0,.string ⟨#[]⟩,.slice none 0 0] V2):=by show Bx _ _ _; rw [hV2]; exact HBa.o.over (bA _ _)
  replace HD : Hx (Rd rb tv ts en w (n) V2):=by show Rd _ _ _ _ _ _ _; rw [hV2]; exact HD.o.over (bA _ _)
  go_upto_region 4 with fail
  rw [← hV2,← hbs]
  clear hsbs
  clear hbs hV2
  obtain ⟨rc0,rc1,rc2,rf1⟩:=HD.o.st.cells
  have hnx:=st_next HD.o.st hn
  obtain ⟨V3,hV3⟩:=nm (V2.setCell ⟨rb,1,none⟩ (.int .i64 ((n : Int) + 1)))
  rw [← hV3] at hnx
  obtain ⟨hs,hg⟩:=hnx
  replace HBa:=hide (HBa.o.keep hg (by have:=HD.o.rlt; have:=HLa.o; omega))
  replace HBs:=hide (HBs.o.keep hg (by have:=HD.o.rlt; have:=HLs.o; omega))
  replace HD : Hx (Rd rb tv ts en w (n + 1) V3):=HD.o.call hg hs
  clear hg hs
  have K2:=hide (name_c (n + 1) _ HD.o.st)
  go_wp2_with fail
  rw [← hV3]
  clear rf1 rc2 rc1 rc0
  clear hV3
  clear hn h6
  refine K2.o.mono ?_
  rintro e w4 hpo
  obtain ⟨m,ho⟩ | ⟨x,n1,ho⟩:=res_cases (pName ts (n + 1))
  · replace hpo : PostC ts en (pName ts (n + 1)) _ _ e w4:=hpo
    rw [ho] at hpo
    obtain ⟨rfl,hg⟩:=hpo
    have HO : Hx (res = .inr m):=by show _ = _; rw [HRP.o,ho]; rfl
    have HG:=hide (grownBy_trans HD.o.gr hg)
    clear hg ho
    unfold gaveUpAt
    go_wp2_with fail
    refine ⟨rfl,?_⟩
    rw [HO.o]
    exact ⟨rfl,HG.o⟩
  replace hpo : PostC ts en (pName ts (n + 1)) _ _ e w4:=hpo
  rw [ho] at hpo
  obtain ⟨rfl,hg,hs⟩:=hpo
  have hr:=HRP.o
  rw [ho,bindR_inl] at hr
  replace HRP:=hide hr
  have HOO:=hide ho
  clear hr ho
  clear K2
  clear HOO
  replace HBa:=hide (HBa.o.keep hg (by have:=HD.o.rlt; have:=HLa.o; omega))
  replace HBs:=hide (HBs.o.keep hg (by have:=HD.o.rlt; have:=HLs.o; omega))
  replace HD : Hx (Rd rb tv ts en w (n1) w4):=HD.o.call hg hs
  clear hg hs
  obtain ⟨cs0,cs1,cs2,cs3,cs4,cs5,cs6,cs7,cs8,cs9,cs10,cs11,cs12⟩:=rc13 HBs.o.row
  have fs0:=HBs.o.fz 0
  have fs1:=HBs.o.fz 1
  have fs2:=HBs.o.fz 2
  have fs3:=HBs.o.fz 3
  have fs4:=HBs.o.fz 4
  have fs5:=HBs.o.fz 5
  have fs6:=HBs.o.fz 6
  have fs7:=HBs.o.fz 7
  have fs8:=HBs.o.fz 8
  have fs9:=HBs.o.fz 9
  have fs10:=HBs.o.fz 10
  have fs11:=HBs.o.fz 11
  have fs12:=HBs.o.fz 12
  obtain ⟨V5,hV5⟩:=nm (w4.setCell ⟨bs,2,none⟩ (.string x))
  replace HBs : Hx (Bx bs [.int .i64 5,.int .i64 p,.string x,.string ⟨#[]⟩,.bool false,.slice none 0 0,.slice none 0 0,.slice none 0 0,.int .i64 0,.int .i64 0,.int .i64 0,.string ⟨#[]⟩,.slice none 0 0] V5):=by show Bx _ _ _; rw [hV5]; exact HBs.o.set (j:=2) (by simp)
  replace HBa : Hx (Bx ba [.int .i64 0,.int .i64 0,.string ⟨#[]⟩,.string ⟨#[]⟩,.bool false,.slice none 0 0,.slice none 0 0,.slice none 0 0,.int .i64 0,.int .i64 0,.int .i64 0,.string ⟨#[]⟩,.slice none 0 0] V5):=by show Bx _ _ _; rw [hV5]; exact HBa.o.far (by have:=HLas.o; omega)
  replace HD : Hx (Rd rb tv ts en w (n1) V5):=by show Rd _ _ _ _ _ _ _; rw [hV5]; exact HD.o.set (by exact HLs.o)
  obtain ⟨V6,hV6⟩:=nm (V5.setCell ⟨bs,4,none⟩ (.bool true))
  replace HBs : Hx (Bx bs [.int .i64 5,.int .i64 p,.string x,.string ⟨#[]⟩,.bool true,.slice none 0 0,.slice none 0 0,.slice none 0 0,.int .i64 0,.int .i64 0,.int .i64 0,.string ⟨#[]⟩,.slice none 0 0] V6):=by show Bx _ _ _; rw [hV6]; exact HBs.o.set (j:=4) (by simp)
  replace HBa : Hx (Bx ba [.int .i64 0,.int .i64 0,.string ⟨#[]⟩,.string ⟨#[]⟩,.bool false,.slice none 0 0,.slice none 0 0,.slice none 0 0,.int .i64 0,.int .i64 0,.int .i64 0,.string ⟨#[]⟩,.slice none 0 0] V6):=by show Bx _ _ _; rw [hV6]; exact HBa.o.far (by have:=HLas.o; omega)
  replace HD : Hx (Rd rb tv ts en w (n1) V6):=by show Rd _ _ _ _ _ _ _; rw [hV6]; exact HD.o.set (by exact HLs.o)
  have KL:=hide (label_c n1 _ HD.o.st)
  go_wp2_with fail
  rw [← hV5,← hV6]
  clear fs12 fs11 fs10 fs9 fs8 fs7 fs6 fs5 fs4 fs3 fs2 fs1 fs0 cs12 cs11 cs10 cs9 cs8 cs7 cs6 cs5 cs4 cs3 cs2 cs1 cs0
  clear hV6 hV5
  obtain ⟨z,hz⟩:=nm V6.heap.size
  have HWz : Hx (w.heap.size≤z):=by show _≤_; rw [hz]; exact HD.o.size
  have HZza : Hx (ba < z):=by show _ < _; rw [hz]; exact HBa.o.lt
  have HZzs : Hx (bs < z):=by show _ < _; rw [hz]; exact HBs.o.lt
  refine KL.o.mono ?_
  rintro e w7 hpo
  obtain ⟨m,ho⟩ | ⟨lb,n2,ho⟩:=res_cases (pLabel ts en n1)
  · replace hpo : PostC ts en (pLabel ts en n1) _ _ e w7:=hpo
    rw [ho] at hpo
    obtain ⟨rfl,hg⟩:=hpo
    have HO : Hx (res = .inr m):=by show _ = _; rw [HRP.o,ho]; rfl
    have HG:=hide (grownBy_trans HD.o.gr hg)
    clear hg ho
    unfold gaveUpAt
    go_wp2_with fail
    refine ⟨rfl,?_⟩
    rw [HO.o]
    exact ⟨rfl,HG.o⟩
  replace hpo : PostC ts en (pLabel ts en n1) _ _ e w7:=hpo
  rw [ho] at hpo
  obtain ⟨la,lc,rfl,hoff,hl6,hg,hs⟩:=hpo
  have hr:=HRP.o
  rw [ho,bindR_inl] at hr
  replace HRP:=hide hr
  have HOO:=hide ho
  clear hr ho
  obtain ⟨lk,hlk⟩:=nm lb.length
  rw [← hlk,← hz] at hoff
  rw [← hlk]
  have HOL:=hide hoff
  clear hoff hl6 hlk hz KL
  clear HOO
  replace HBa:=hide (HBa.o.keep hg (by have:=HD.o.rlt; have:=HLa.o; omega))
  replace HBs:=hide (HBs.o.keep hg (by have:=HD.o.rlt; have:=HLs.o; omega))
  replace HD : Hx (Rd rb tv ts en w (n2) w7):=HD.o.call hg hs
  clear hg hs
  obtain ⟨cs0,cs1,cs2,cs3,cs4,cs5,cs6,cs7,cs8,cs9,cs10,cs11,cs12⟩:=rc13 HBs.o.row
  have fs0:=HBs.o.fz 0
  have fs1:=HBs.o.fz 1
  have fs2:=HBs.o.fz 2
  have fs3:=HBs.o.fz 3
  have fs4:=HBs.o.fz 4
  have fs5:=HBs.o.fz 5
  have fs6:=HBs.o.fz 6
  have fs7:=HBs.o.fz 7
  have fs8:=HBs.o.fz 8
  have fs9:=HBs.o.fz 9
  have fs10:=HBs.o.fz 10
  have fs11:=HBs.o.fz 11
  have fs12:=HBs.o.fz 12
  obtain ⟨V8,hV8⟩:=nm (w7.setCell ⟨bs,5,none⟩ (.slice la lk lc))
  replace HBs : Hx (Bx bs [.int .i64 5,.int .i64 p,.string x,.string ⟨#[]⟩,.bool true,.slice la lk lc,.slice none 0 0,.slice none 0 0,.int .i64 0,.int .i64 0,.int .i64 0,.string ⟨#[]⟩,.slice none 0 0] V8):=by show Bx _ _ _; rw [hV8]; exact HBs.o.set (j:=5) (by simp)
  replace HBa : Hx (Bx ba [.int .i64 0,.int .i64 0,.string ⟨#[]⟩,.string ⟨#[]⟩,.bool false,.slice none 0 0,.slice none 0 0,.slice none 0 0,.int .i64 0,.int .i64 0,.int .i64 0,.string ⟨#[]⟩,.slice none 0 0] V8):=by show Bx _ _ _; rw [hV8]; exact HBa.o.far (by have:=HLas.o; omega)
  replace HD : Hx (Rd rb tv ts en w (n2) V8):=by show Rd _ _ _ _ _ _ _; rw [hV8]; exact HD.o.set (by exact HLs.o)
  replace HOL : Hx (Off z none V8 (fun W => LS 4 (RPol W) W (.slice la lk lc) lb)):=by show Off _ _ _ _; rw [hV8]; exact HOL.o.set HZzs.o
  have K4:=hide (take_c ⟨#[59]⟩ (by decide) n2 _ HD.o.st)
  go_wp2_with fail
  rw [← hV8]
  clear fs12 fs11 fs10 fs9 fs8 fs7 fs6 fs5 fs4 fs3 fs2 fs1 fs0 cs12 cs11 cs10 cs9 cs8 cs7 cs6 cs5 cs4 cs3 cs2 cs1 cs0
  clear hV8
  refine K4.o.mono ?_
  rintro e w9 hpo
  obtain ⟨m,ho⟩ | ⟨_un3,n3,ho⟩:=res_cases (pTake ts [59] n2)
  · replace hpo : PostC ts en (pTake ts [59] n2) _ _ e w9:=hpo
    rw [ho] at hpo
    obtain ⟨rfl,hg⟩:=hpo
    have HO : Hx (res = .inr m):=by show _ = _; rw [HRP.o,ho]; rfl
    have HG:=hide (grownBy_trans HD.o.gr hg)
    clear hg ho
    unfold gaveUpAt
    go_wp2_with fail
    refine ⟨rfl,?_⟩
    rw [HO.o]
    exact ⟨rfl,HG.o⟩
  replace hpo : PostC ts en (pTake ts [59] n2) _ _ e w9:=hpo
  rw [ho] at hpo
  obtain ⟨rfl,hg,hs⟩:=hpo
  have hr:=HRP.o
  rw [ho,bindR_inl] at hr
  replace HRP:=hide hr
  have HOO:=hide ho
  clear hr ho
  clear K4
  clear HOO
  replace HBa:=hide (HBa.o.keep hg (by have:=HD.o.rlt; have:=HLa.o; omega))
  replace HBs:=hide (HBs.o.keep hg (by have:=HD.o.rlt; have:=HLs.o; omega))
  replace HOL:=hide (HOL.o.keep hg (by have:=HD.o.rlt; have:=HWz.o; omega))
  replace HD : Hx (Rd rb tv ts en w (n3) w9):=HD.o.call hg hs
  clear hg hs
  have neas : ba≠bs:=by have:=HLas.o; omega
  have nesa : bs≠ba:=by have:=HLas.o; omega
  obtain ⟨ca0,ca1,ca2,ca3,ca4,ca5,ca6,ca7,ca8,ca9,ca10,ca11,ca12⟩:=rc13 HBa.o.row
  have fa0:=HBa.o.fz 0
  have fa1:=HBa.o.fz 1
  have fa2:=HBa.o.fz 2
  have fa3:=HBa.o.fz 3
  have fa4:=HBa.o.fz 4
  have fa5:=HBa.o.fz 5
  have fa6:=HBa.o.fz 6
  have fa7:=HBa.o.fz 7
  have fa8:=HBa.o.fz 8
  have fa9:=HBa.o.fz 9
  have fa10:=HBa.o.fz 10
  have fa11:=HBa.o.fz 11
  have fa12:=HBa.o.fz 12
  obtain ⟨cs0,cs1,cs2,cs3,cs4,cs5,cs6,cs7,cs8,cs9,cs10,cs11,cs12⟩:=rc13 HBs.o.row
  have fs0:=HBs.o.fz 0
  have fs1:=HBs.o.fz 1
  have fs2:=HBs.o.fz 2
  have fs3:=HBs.o.fz 3
  have fs4:=HBs.o.fz 4
  have fs5:=HBs.o.fz 5
  have fs6:=HBs.o.fz 6
  have fs7:=HBs.o.fz 7
  have fs8:=HBs.o.fz 8
  have fs9:=HBs.o.fz 9
  have fs10:=HBs.o.fz 10
  have fs11:=HBs.o.fz 11
  have fs12:=HBs.o.fz 12
  obtain ⟨V10,hV10⟩:=nm (w9.setCell ⟨ba,0,none⟩ (.int .i64 5))
  replace HBa : Hx (Bx ba [.int .i64 5,.int .i64 0,.string ⟨#[]⟩,.string ⟨#[]⟩,.bool false,.slice none 0 0,.slice none 0 0,.slice none 0 0,.int .i64 0,.int .i64 0,.int .i64 0,.string ⟨#[]⟩,.slice none 0 0] V10):=by show Bx _ _ _; rw [hV10]; exact HBa.o.set (j:=0) (by simp)
  replace HBs : Hx (Bx bs [.int .i64 5,.int .i64 p,.string x,.string ⟨#[]⟩,.bool true,.slice la lk lc,.slice none 0 0,.slice none 0 0,.int .i64 0,.int .i64 0,.int .i64 0,.string ⟨#[]⟩,.slice none 0 0] V10):=by show Bx _ _ _; rw [hV10]; exact HBs.o.far (by have:=HLas.o; omega)
  replace HD : Hx (Rd rb tv ts en w (n3) V10):=by show Rd _ _ _ _ _ _ _; rw [hV10]; exact HD.o.set (by exact HLa.o)
  replace HOL : Hx (Off z none V10 (fun W => LS 4 (RPol W) W (.slice la lk lc) lb)):=by show Off _ _ _ _; rw [hV10]; exact HOL.o.set HZza.o
  obtain ⟨V11,hV11⟩:=nm (V10.setCell ⟨ba,1,none⟩ (.int .i64 p))
  replace HBa : Hx (Bx ba [.int .i64 5,.int .i64 p,.string ⟨#[]⟩,.string ⟨#[]⟩,.bool false,.slice none 0 0,.slice none 0 0,.slice none 0 0,.int .i64 0,.int .i64 0,.int .i64 0,.string ⟨#[]⟩,.slice none 0 0] V11):=by show Bx _ _ _; rw [hV11]; exact HBa.o.set (j:=1) (by simp)
  replace HBs : Hx (Bx bs [.int .i64 5,.int .i64 p,.string x,.string ⟨#[]⟩,.bool true,.slice la lk lc,.slice none 0 0,.slice none 0 0,.int .i64 0,.int .i64 0,.int .i64 0,.string ⟨#[]⟩,.slice none 0 0] V11):=by show Bx _ _ _; rw [hV11]; exact HBs.o.far (by have:=HLas.o; omega)
  replace HD : Hx (Rd rb tv ts en w (n3) V11):=by show Rd _ _ _ _ _ _ _; rw [hV11]; exact HD.o.set (by exact HLa.o)
  replace HOL : Hx (Off z none V11 (fun W => LS 4 (RPol W) W (.slice la lk lc) lb)):=by show Off _ _ _ _; rw [hV11]; exact HOL.o.set HZza.o
  obtain ⟨V12,hV12⟩:=nm (V11.setCell ⟨ba,2,none⟩ (.string x))
  replace HBa : Hx (Bx ba [.int .i64 5,.int .i64 p,.string x,.string ⟨#[]⟩,.bool false,.slice none 0 0,.slice none 0 0,.slice none 0 0,.int .i64 0,.int .i64 0,.int .i64 0,.string ⟨#[]⟩,.slice none 0 0] V12):=by show Bx _ _ _; rw [hV12]; exact HBa.o.set (j:=2) (by simp)
  replace HBs : Hx (Bx bs [.int .i64 5,.int .i64 p,.string x,.string ⟨#[]⟩,.bool true,.slice la lk lc,.slice none 0 0,.slice none 0 0,.int .i64 0,.int .i64 0,.int .i64 0,.string ⟨#[]⟩,.slice none 0 0] V12):=by show Bx _ _ _; rw [hV12]; exact HBs.o.far (by have:=HLas.o; omega)
  replace HD : Hx (Rd rb tv ts en w (n3) V12):=by show Rd _ _ _ _ _ _ _; rw [hV12]; exact HD.o.set (by exact HLa.o)
  replace HOL : Hx (Off z none V12 (fun W => LS 4 (RPol W) W (.slice la lk lc) lb)):=by show Off _ _ _ _; rw [hV12]; exact HOL.o.set HZza.o
  obtain ⟨V13,hV13⟩:=nm (V12.setCell ⟨ba,3,none⟩ (.string ⟨#[]⟩))
  replace HBa : Hx (Bx ba [.int .i64 5,.int .i64 p,.string x,.string ⟨#[]⟩,.bool false,.slice none 0 0,.slice none 0 0,.slice none 0 0,.int .i64 0,.int .i64 0,.int .i64 0,.string ⟨#[]⟩,.slice none 0 0] V13):=by show Bx _ _ _; rw [hV13]; exact HBa.o.set (j:=3) (by simp)
  replace HBs : Hx (Bx bs [.int .i64 5,.int .i64 p,.string x,.string ⟨#[]⟩,.bool true,.slice la lk lc,.slice none 0 0,.slice none 0 0,.int .i64 0,.int .i64 0,.int .i64 0,.string ⟨#[]⟩,.slice none 0 0] V13):=by show Bx _ _ _; rw [hV13]; exact HBs.o.far (by have:=HLas.o; omega)
  replace HD : Hx (Rd rb tv ts en w (n3) V13):=by show Rd _ _ _ _ _ _ _; rw [hV13]; exact HD.o.set (by exact HLa.o)
  replace HOL : Hx (Off z none V13 (fun W => LS 4 (RPol W) W (.slice la lk lc) lb)):=by show Off _ _ _ _; rw [hV13]; exact HOL.o.set HZza.o
  obtain ⟨V14,hV14⟩:=nm (V13.setCell ⟨ba,4,none⟩ (.bool true))
  replace HBa : Hx (Bx ba [.int .i64 5,.int .i64 p,.string x,.string ⟨#[]⟩,.bool true,.slice none 0 0,.slice none 0 0,.slice none 0 0,.int .i64 0,.int .i64 0,.int .i64 0,.string ⟨#[]⟩,.slice none 0 0] V14):=by show Bx _ _ _; rw [hV14]; exact HBa.o.set (j:=4) (by simp)
  replace HBs : Hx (Bx bs [.int .i64 5,.int .i64 p,.string x,.string ⟨#[]⟩,.bool true,.slice la lk lc,.slice none 0 0,.slice none 0 0,.int .i64 0,.int .i64 0,.int .i64 0,.string ⟨#[]⟩,.slice none 0 0] V14):=by show Bx _ _ _; rw [hV14]; exact HBs.o.far (by have:=HLas.o; omega)
  replace HD : Hx (Rd rb tv ts en w (n3) V14):=by show Rd _ _ _ _ _ _ _; rw [hV14]; exact HD.o.set (by exact HLa.o)
  replace HOL : Hx (Off z none V14 (fun W => LS 4 (RPol W) W (.slice la lk lc) lb)):=by show Off _ _ _ _; rw [hV14]; exact HOL.o.set HZza.o
  obtain ⟨V15,hV15⟩:=nm (V14.setCell ⟨ba,5,none⟩ (.slice la lk lc))
  replace HBa : Hx (Bx ba [.int .i64 5,.int .i64 p,.string x,.string ⟨#[]⟩,.bool true,.slice la lk lc,.slice none 0 0,.slice none 0 0,.int .i64 0,.int .i64 0,.int .i64 0,.string ⟨#[]⟩,.slice none 0 0] V15):=by show Bx _ _ _; rw [hV15]; exact HBa.o.set (j:=5) (by simp)
  replace HBs : Hx (Bx bs [.int .i64 5,.int .i64 p,.string x,.string ⟨#[]⟩,.bool true,.slice la lk lc,.slice none 0 0,.slice none 0 0,.int .i64 0,.int .i64 0,.int .i64 0,.string ⟨#[]⟩,.slice none 0 0] V15):=by show Bx _ _ _; rw [hV15]; exact HBs.o.far (by have:=HLas.o; omega)
  replace HD : Hx (Rd rb tv ts en w (n3) V15):=by show Rd _ _ _ _ _ _ _; rw [hV15]; exact HD.o.set (by exact HLa.o)
  replace HOL : Hx (Off z none V15 (fun W => LS 4 (RPol W) W (.slice la lk lc) lb)):=by show Off _ _ _ _; rw [hV15]; exact HOL.o.set HZza.o
  obtain ⟨V16,hV16⟩:=nm (V15.setCell ⟨ba,6,none⟩ (.slice none 0 0))
  replace HBa : Hx (Bx ba [.int .i64 5,.int .i64 p,.string x,.string ⟨#[]⟩,.bool true,.slice la lk lc,.slice none 0 0,.slice none 0 0,.int .i64 0,.int .i64 0,.int .i64 0,.string ⟨#[]⟩,.slice none 0 0] V16):=by show Bx _ _ _; rw [hV16]; exact HBa.o.set (j:=6) (by simp)
  replace HBs : Hx (Bx bs [.int .i64 5,.int .i64 p,.string x,.string ⟨#[]⟩,.bool true,.slice la lk lc,.slice none 0 0,.slice none 0 0,.int .i64 0,.int .i64 0,.int .i64 0,.string ⟨#[]⟩,.slice none 0 0] V16):=by show Bx _ _ _; rw [hV16]; exact HBs.o.far (by have:=HLas.o; omega)
  replace HD : Hx (Rd rb tv ts en w (n3) V16):=by show Rd _ _ _ _ _ _ _; rw [hV16]; exact HD.o.set (by exact HLa.o)
  replace HOL : Hx (Off z none V16 (fun W => LS 4 (RPol W) W (.slice la lk lc) lb)):=by show Off _ _ _ _; rw [hV16]; exact HOL.o.set HZza.o
  obtain ⟨V17,hV17⟩:=nm (V16.setCell ⟨ba,7,none⟩ (.slice none 0 0))
  replace HBa : Hx (Bx ba [.int .i64 5,.int .i64 p,.string x,.string ⟨#[]⟩,.bool true,.slice la lk lc,.slice none 0 0,.slice none 0 0,.int .i64 0,.int .i64 0,.int .i64 0,.string ⟨#[]⟩,.slice none 0 0] V17):=by show Bx _ _ _; rw [hV17]; exact HBa.o.set (j:=7) (by simp)
  replace HBs : Hx (Bx bs [.int .i64 5,.int .i64 p,.string x,.string ⟨#[]⟩,.bool true,.slice la lk lc,.slice none 0 0,.slice none 0 0,.int .i64 0,.int .i64 0,.int .i64 0,.string ⟨#[]⟩,.slice none 0 0] V17):=by show Bx _ _ _; rw [hV17]; exact HBs.o.far (by have:=HLas.o; omega)
  replace HD : Hx (Rd rb tv ts en w (n3) V17):=by show Rd _ _ _ _ _ _ _; rw [hV17]; exact HD.o.set (by exact HLa.o)
  replace HOL : Hx (Off z none V17 (fun W => LS 4 (RPol W) W (.slice la lk lc) lb)):=by show Off _ _ _ _; rw [hV17]; exact HOL.o.set HZza.o
  obtain ⟨V18,hV18⟩:=nm (V17.setCell ⟨ba,8,none⟩ (.int .i64 0))
  replace HBa : Hx (Bx ba [.int .i64 5,.int .i64 p,.string x,.string ⟨#[]⟩,.bool true,.slice la lk lc,.slice none 0 0,.slice none 0 0,.int .i64 0,.int .i64 0,.int .i64 0,.string ⟨#[]⟩,.slice none 0 0] V18):=by show Bx _ _ _; rw [hV18]; exact HBa.o.set (j:=8) (by simp)
  replace HBs : Hx (Bx bs [.int .i64 5,.int .i64 p,.string x,.string ⟨#[]⟩,.bool true,.slice la lk lc,.slice none 0 0,.slice none 0 0,.int .i64 0,.int .i64 0,.int .i64 0,.string ⟨#[]⟩,.slice none 0 0] V18):=by show Bx _ _ _; rw [hV18]; exact HBs.o.far (by have:=HLas.o; omega)
  replace HD : Hx (Rd rb tv ts en w (n3) V18):=by show Rd _ _ _ _ _ _ _; rw [hV18]; exact HD.o.set (by exact HLa.o)
  replace HOL : Hx (Off z none V18 (fun W => LS 4 (RPol W) W (.slice la lk lc) lb)):=by show Off _ _ _ _; rw [hV18]; exact HOL.o.set HZza.o
  obtain ⟨V19,hV19⟩:=nm (V18.setCell ⟨ba,9,none⟩ (.int .i64 0))
  replace HBa : Hx (Bx ba [.int .i64 5,.int .i64 p,.string x,.string ⟨#[]⟩,.bool true,.slice la lk lc,.slice none 0 0,.slice none 0 0,.int .i64 0,.int .i64 0,.int .i64 0,.string ⟨#[]⟩,.slice none 0 0] V19):=by show Bx _ _ _; rw [hV19]; exact HBa.o.set (j:=9) (by simp)
  replace HBs : Hx (Bx bs [.int .i64 5,.int .i64 p,.string x,.string ⟨#[]⟩,.bool true,.slice la lk lc,.slice none 0 0,.slice none 0 0,.int .i64 0,.int .i64 0,.int .i64 0,.string ⟨#[]⟩,.slice none 0 0] V19):=by show Bx _ _ _; rw [hV19]; exact HBs.o.far (by have:=HLas.o; omega)
  replace HD : Hx (Rd rb tv ts en w (n3) V19):=by show Rd _ _ _ _ _ _ _; rw [hV19]; exact HD.o.set (by exact HLa.o)
  replace HOL : Hx (Off z none V19 (fun W => LS 4 (RPol W) W (.slice la lk lc) lb)):=by show Off _ _ _ _; rw [hV19]; exact HOL.o.set HZza.o
  obtain ⟨V20,hV20⟩:=nm (V19.setCell ⟨ba,10,none⟩ (.int .i64 0))
  replace HBa : Hx (Bx ba [.int .i64 5,.int .i64 p,.string x,.string ⟨#[]⟩,.bool true,.slice la lk lc,.slice none 0 0,.slice none 0 0,.int .i64 0,.int .i64 0,.int .i64 0,.string ⟨#[]⟩,.slice none 0 0] V20):=by show Bx _ _ _; rw [hV20]; exact HBa.o.set (j:=10) (by simp)
  replace HBs : Hx (Bx bs [.int .i64 5,.int .i64 p,.string x,.string ⟨#[]⟩,.bool true,.slice la lk lc,.slice none 0 0,.slice none 0 0,.int .i64 0,.int .i64 0,.int .i64 0,.string ⟨#[]⟩,.slice none 0 0] V20):=by show Bx _ _ _; rw [hV20]; exact HBs.o.far (by have:=HLas.o; omega)
  replace HD : Hx (Rd rb tv ts en w (n3) V20):=by show Rd _ _ _ _ _ _ _; rw [hV20]; exact HD.o.set (by exact HLa.o)
  replace HOL : Hx (Off z none V20 (fun W => LS 4 (RPol W) W (.slice la lk lc) lb)):=by show Off _ _ _ _; rw [hV20]; exact HOL.o.set HZza.o
  obtain ⟨V21,hV21⟩:=nm (V20.setCell ⟨ba,11,none⟩ (.string ⟨#[]⟩))
  replace HBa : Hx (Bx ba [.int .i64 5,.int .i64 p,.string x,.string ⟨#[]⟩,.bool true,.slice la lk lc,.slice none 0 0,.slice none 0 0,.int .i64 0,.int .i64 0,.int .i64 0,.string ⟨#[]⟩,.slice none 0 0] V21):=by show Bx _ _ _; rw [hV21]; exact HBa.o.set (j:=11) (by simp)
  replace HBs : Hx (Bx bs [.int .i64 5,.int .i64 p,.string x,.string ⟨#[]⟩,.bool true,.slice la lk lc,.slice none 0 0,.slice none 0 0,.int .i64 0,.int .i64 0,.int .i64 0,.string ⟨#[]⟩,.slice none 0 0] V21):=by show Bx _ _ _; rw [hV21]; exact HBs.o.far (by have:=HLas.o; omega)
  replace HD : Hx (Rd rb tv ts en w (n3) V21):=by show Rd _ _ _ _ _ _ _; rw [hV21]; exact HD.o.set (by exact HLa.o)
  replace HOL : Hx (Off z none V21 (fun W => LS 4 (RPol W) W (.slice la lk lc) lb)):=by show Off _ _ _ _; rw [hV21]; exact HOL.o.set HZza.o
  obtain ⟨V22,hV22⟩:=nm (V21.setCell ⟨ba,12,none⟩ (.slice none 0 0))
  replace HBa : Hx (Bx ba [.int .i64 5,.int .i64 p,.string x,.string ⟨#[]⟩,.bool true,.slice la lk lc,.slice none 0 0,.slice none 0 0,.int .i64 0,.int .i64 0,.int .i64 0,.string ⟨#[]⟩,.slice none 0 0] V22):=by show Bx _ _ _; rw [hV22]; exact HBa.o.set (j:=12) (by simp)
  replace HBs : Hx (Bx bs [.int .i64 5,.int .i64 p,.string x,.string ⟨#[]⟩,.bool true,.slice la lk lc,.slice none 0 0,.slice none 0 0,.int .i64 0,.int .i64 0,.int .i64 0,.string ⟨#[]⟩,.slice none 0 0] V22):=by show Bx _ _ _; rw [hV22]; exact HBs.o.far (by have:=HLas.o; omega)
  replace HD : Hx (Rd rb tv ts en w (n3) V22):=by show Rd _ _ _ _ _ _ _; rw [hV22]; exact HD.o.set (by exact HLa.o)
  replace HOL : Hx (Off z none V22 (fun W => LS 4 (RPol W) W (.slice la lk lc) lb)):=by show Off _ _ _ _; rw [hV22]; exact HOL.o.set HZza.o
  go_wp2_with fail
  refine bodyPost_ret (v:=.agg #[.int .i64 5,.int .i64 p,.string x,.string ⟨#[]⟩,.bool true,.slice la lk lc,.slice none 0 0,.slice none 0 0,.int .i64 0,.int .i64 0,.int .i64 0,.string ⟨#[]⟩,.slice none 0 0]) (by simp [results,Tryz.results52,go_sem, *]) rfl ?_
  rw [← hV10,← hV11,← hV12,← hV13,← hV14,← hV15,← hV16,← hV17,← hV18,← hV19,← hV20,← hV21,← hV22]
  rw [HRP.o]
  refine ⟨_,_,_,_,_,_,_,_,_,_,_,_,_,_,_,_,_,_,_,_,_,rfl,fun W hW => ?_,HD.o.gr,HD.o.st⟩
  exact ⟨5,p,x,⟨#[]⟩,true,_,lb,_,[],_,[],_,_,_,_,_,noE,rfl,rfl,(HOL.o.base HWz.o) W hW,LS.nil,LS.nil,XE.none W⟩
set_option maxHeartbeats 8000000 in
set_option maxRecDepth 100000 in
theorem decl_6 (hall : ts.all isAlone = true) (n : Nat) (w : World) (h : St rb tv ts en n w) (hk : dKind (peekT ts n).text.data.toList = 6) :
    Calls Tryz.prog 52 #[.pointer (some ⟨rb,0,none⟩)] w (PostC ts en (pDecl ts en n) (DeclPost rb tv ts en w) (fun w' => w.grownBy w' (some rb))):=by
  obtain ⟨res,hres⟩:=nm (pDecl ts en n)
  rw [← hres]
  have HRP : Hx (res = bindR (pName ts (n + 1)) fun a n1 => if isT ts n1 [123] = true then bindR (pLabel ts en n1) fun lb m1 => bindR (pTake ts [59] m1) fun _ m2 => .inl (deD 6 (posn ts en n) a noS true lb [] [] noE,m2) else bindR (pTake ts [59] n1) fun _ m1 => .inl (deD 6 (posn ts en n) a noS false [] [] [] noE,m1)):=by show _ = _; rw [hres]; unfold pDecl pGiven; rw [hk]; rfl
  obtain ⟨p,hp⟩:=nm (posn ts en n)
  rw [← hp] at HRP
  have HP:=hide hp
  have hn : n < ts.length:=peek_lt (fun h2 => by rw [h2] at hk; exact absurd hk (by decide))
  have h6:=h.2.2.1
  have HD:=hide (Rd.start h)
  have HK:=hide hk
  clear hres hp h hk
  obtain ⟨V1,hV1⟩:=nm (w.alloc (.cells #[.int .i64 0,.int .i64 0,.string ⟨#[]⟩,.string ⟨#[]⟩,.bool false,.slice none 0 0,.slice none 0 0,.slice none 0 0,.int .i64 0,.int .i64 0,.int .i64 0,.string ⟨#[]⟩,.slice none 0 0] 51))
  obtain ⟨ba,hba⟩:=nm w.heap.size
  have hsba:=hba
  have HLa : Hx (w.heap.size≤ba):=by show _≤_; rw [hsba]; exact HD.o.size
  have HBa : Hx (Bx ba [.int .i64 0,.int .i64 0,.string ⟨#[]⟩,.string ⟨#[]⟩,.bool false,.slice none 0 0,.slice none 0 0,.slice none 0 0,.int .i64 0,.int .i64 0,.int .i64 0,.string ⟨#[]⟩,.slice none 0 0] V1):=by show Bx _ _ _; rw [hV1,hsba]; exact Bx.new w [.int .i64 0,.int .i64 0,.string ⟨#[]⟩,.string ⟨#[]⟩,.bool false,.slice none 0 0,.slice none 0 0,.slice none 0 0,.int .i64 0,.int .i64 0,.int .i64 0,.string ⟨#[]⟩,.slice none 0 0] 51
  replace HD : Hx (Rd rb tv ts en w (n) V1):=by show Rd _ _ _ _ _ _ _; rw [hV1]; exact HD.o.over (bA _ _)
  have K0:=hide (here_c n _ HD.o.st)
  go_enter Tryz.func52,Tryz.ntmps52
  go_wp2_with fail
  rw [← hV1,← hba]
  clear hsba
  clear hba hV1
  refine K0.o.mono ?_
  rintro e wh ⟨rfl,hg,hs⟩
  rw [← HP.o]
  replace HBa:=hide (HBa.o.keep hg (by have:=HD.o.rlt; have:=HLa.o; omega))
  replace HD : Hx (Rd rb tv ts en w (n) wh):=HD.o.call hg hs
  clear hg hs
  obtain ⟨kk,hkk⟩:=nm (peekT ts n).kind
  obtain ⟨pp,hpp⟩:=nm (peekT ts n).pos
  obtain ⟨tx,htx⟩:=nm (peekT ts n).text
  have K1:=hide (peek_c n _ HD.o.st)
  rw [← hkk,← hpp,← htx] at K1
  have HTX:=hide htx
  have hft:=field_text kk pp tx
  clear K0 hkk hpp htx
  go_wp2_with fail
  refine K1.o.mono ?_
  rintro e wp ⟨rfl,hg,hs⟩
  replace HBa:=hide (HBa.o.keep hg (by have:=HD.o.rlt; have:=HLa.o; omega))
  replace HD : Hx (Rd rb tv ts en w (n) wp):=HD.o.call hg hs
  clear hg hs
  have KD : Hx (∀ W,Calls Tryz.prog 94 #[.string tx] W fun e w' => e = .returned (.int .i64 6)∧W = w'):=fun W => by
    have t:=declKind_any tx W
    rw [HTX.o,HK.o] at t
    rw [HTX.o]
    exact t.mono fun e w' h => ⟨h.1,h.2.symm⟩
  clear K1
  go_wp2_with fail
  refine (KD.o _).mono ?_
  rintro e w' ⟨rfl,rfl⟩
  clear hft KD
  obtain ⟨V2,hV2⟩:=nm (wp.alloc (.cells #[.int .i64 6,.int .i64 p,.string ⟨#[]⟩,.string ⟨#[]⟩,.bool false,.slice none 0 0,.slice none 0 0,.slice none 0 0,.int .i64 0,.int .i64 0,.int .i64 0,.string ⟨#[]⟩,.slice none 0 0] 51))
  obtain ⟨bs,hbs⟩:=nm wp.heap.size
  have hsbs:=hbs
  have HLs : Hx (w.heap.size≤bs):=by show _≤_; rw [hsbs]; exact HD.o.size
  have HLas : Hx (ba < bs):=by show _ < _; rw [hsbs]; exact HBa.o.lt
  have HBs : Hx (Bx bs [.int .i64 6,.int .i64 p,.string ⟨#[]⟩,.string ⟨#[]⟩,.bool false,.slice none 0 0,.slice none 0 0,.slice none 0 0,.int .i64 0,.int .i64 0,.int .i64 0,.string ⟨#[]⟩,.slice none 0 0] V2):=by show Bx _ _ _; rw [hV2,hsbs]; exact Bx.new wp [.int .i64 6,.int .i64 p,.string ⟨#[]⟩,.string ⟨#[]⟩,.bool false,.slice none 0 0,.slice none 0 0,.slice none 0 0,.int .i64 0,.int .i64 0,.int .i64 0,.string ⟨#[]⟩,.slice none 0 0] 51
  replace HBa : Hx (Bx ba [.int .i64 0,.int .i64 0,.string ⟨#[]⟩,.string ⟨#[]⟩,.bool false,.slice none 0 0,.slice none 0 0,.slice none 0 0,.int .i64 0,.int .i64 0,.int .i64 0,.string ⟨#[]⟩,.slice none 0 0] V2):=by show Bx _ _ _; rw [hV2]; exact HBa.o.over (bA _ _)
  replace HD : Hx (Rd rb tv ts en w (n) V2):=by show Rd _ _ _ _ _ _ _; rw [hV2]; exact HD.o.over (bA _ _)
  go_upto_region 4 with fail
  rw [← hV2,← hbs]
  clear hsbs
  clear hbs hV2
  obtain ⟨rc0,rc1,rc2,rf1⟩:=HD.o.st.cells
  have hnx:=st_next HD.o.st hn
  obtain ⟨V3,hV3⟩:=nm (V2.setCell ⟨rb,1,none⟩ (.int .i64 ((n : Int) + 1)))
  rw [← hV3] at hnx
  obtain ⟨hs,hg⟩:=hnx
  replace HBa:=hide (HBa.o.keep hg (by have:=HD.o.rlt; have:=HLa.o; omega))
  replace HBs:=hide (HBs.o.keep hg (by have:=HD.o.rlt; have:=HLs.o; omega))
  replace HD : Hx (Rd rb tv ts en w (n + 1) V3):=HD.o.call hg hs
  clear hg hs
  have K2:=hide (name_c (n + 1) _ HD.o.st)
  go_wp2_with fail
  rw [← hV3]
  clear rf1 rc2 rc1 rc0
  clear hV3
  clear hn h6
  refine K2.o.mono ?_
  rintro e w4 hpo
  obtain ⟨m,ho⟩ | ⟨x,n1,ho⟩:=res_cases (pName ts (n + 1))
  · replace hpo : PostC ts en (pName ts (n + 1)) _ _ e w4:=hpo
    rw [ho] at hpo
    obtain ⟨rfl,hg⟩:=hpo
    have HO : Hx (res = .inr m):=by show _ = _; rw [HRP.o,ho]; rfl
    have HG:=hide (grownBy_trans HD.o.gr hg)
    clear hg ho
    unfold gaveUpAt
    go_wp2_with fail
    refine ⟨rfl,?_⟩
    rw [HO.o]
    exact ⟨rfl,HG.o⟩
  replace hpo : PostC ts en (pName ts (n + 1)) _ _ e w4:=hpo
  rw [ho] at hpo
  obtain ⟨rfl,hg,hs⟩:=hpo
  have hr:=HRP.o
  rw [ho,bindR_inl] at hr
  replace HRP:=hide hr
  have HOO:=hide ho
  clear hr ho
  clear K2
  clear HOO
  replace HBa:=hide (HBa.o.keep hg (by have:=HD.o.rlt; have:=HLa.o; omega))
  replace HBs:=hide (HBs.o.keep hg (by have:=HD.o.rlt; have:=HLs.o; omega))
  replace HD : Hx (Rd rb tv ts en w (n1) w4):=HD.o.call hg hs
  clear hg hs
  obtain ⟨cs0,cs1,cs2,cs3,cs4,cs5,cs6,cs7,cs8,cs9,cs10,cs11,cs12⟩:=rc13 HBs.o.row
  have fs0:=HBs.o.fz 0
  have fs1:=HBs.o.fz 1
  have fs2:=HBs.o.fz 2
  have fs3:=HBs.o.fz 3
  have fs4:=HBs.o.fz 4
  have fs5:=HBs.o.fz 5
  have fs6:=HBs.o.fz 6
  have fs7:=HBs.o.fz 7
  have fs8:=HBs.o.fz 8
  have fs9:=HBs.o.fz 9
  have fs10:=HBs.o.fz 10
  have fs11:=HBs.o.fz 11
  have fs12:=HBs.o.fz 12
  obtain ⟨V5,hV5⟩:=nm (w4.setCell ⟨bs,2,none⟩ (.string x))
  replace HBs : Hx (Bx bs [.int .i64 6,.int .i64 p,.string x,.string ⟨#[]⟩,.bool false,.slice none 0 0,.slice none 0 0,.slice none 0 0,.int .i64 0,.int .i64 0,.int .i64 0,.string ⟨#[]⟩,.slice none 0 0] V5):=by show Bx _ _ _; rw [hV5]; exact HBs.o.set (j:=2) (by simp)
  replace HBa : Hx (Bx ba [.int .i64 0,.int .i64 0,.string ⟨#[]⟩,.string ⟨#[]⟩,.bool false,.slice none 0 0,.slice none 0 0,.slice none 0 0,.int .i64 0,.int .i64 0,.int .i64 0,.string ⟨#[]⟩,.slice none 0 0] V5):=by show Bx _ _ _; rw [hV5]; exact HBa.o.far (by have:=HLas.o; omega)
  replace HD : Hx (Rd rb tv ts en w (n1) V5):=by show Rd _ _ _ _ _ _ _; rw [hV5]; exact HD.o.set (by exact HLs.o)
  have K3:=hide (is_q ⟨#[123]⟩ [123] rfl n1 _ HD.o.st)
  go_wp2_with fail
  rw [← hV5]
  clear fs12 fs11 fs10 fs9 fs8 fs7 fs6 fs5 fs4 fs3 fs2 fs1 fs0 cs12 cs11 cs10 cs9 cs8 cs7 cs6 cs5 cs4 cs3 cs2 cs1 cs0
  clear hV5
  refine K3.o.mono ?_
  rintro e wq ⟨rfl,hg,hs⟩
  cases hq : isT ts n1 [123] with
  | false =>
    have hr:=HRP.o
    rw [if_neg (by rw [hq]; simp)] at hr
    replace HRP:=hide hr
    clear hr hq K3
    replace HBa:=hide (HBa.o.keep hg (by have:=HD.o.rlt; have:=HLa.o; omega))
    replace HBs:=hide (HBs.o.keep hg (by have:=HD.o.rlt; have:=HLs.o; omega))
    replace HD : Hx (Rd rb tv ts en w (n1) wq):=HD.o.call hg hs
    clear hg hs
    obtain ⟨cs0,cs1,cs2,cs3,cs4,cs5,cs6,cs7,cs8,cs9,cs10,cs11,cs12⟩:=rc13 HBs.o.row
    have fs0:=HBs.o.fz 0
    have fs1:=HBs.o.fz 1
    have fs2:=HBs.o.fz 2
    have fs3:=HBs.o.fz 3
    have fs4:=HBs.o.fz 4
    have fs5:=HBs.o.fz 5
    have fs6:=HBs.o.fz 6
    have fs7:=HBs.o.fz 7
    have fs8:=HBs.o.fz 8
    have fs9:=HBs.o.fz 9
    have fs10:=HBs.o.fz 10
    have fs11:=HBs.o.fz 11
    have fs12:=HBs.o.fz 12
    obtain ⟨V6,hV6⟩:=nm (wq.setCell ⟨bs,4,none⟩ (.bool false))
    replace HBs : Hx (Bx bs [.int .i64 6,.int .i64 p,.string x,.string ⟨#[]⟩,.bool false,.slice none 0 0,.slice none 0 0,.slice none 0 0,.int .i64 0,.int .i64 0,.int .i64 0,.string ⟨#[]⟩,.slice none 0 0] V6):=by show Bx _ _ _; rw [hV6]; exact HBs.o.set (j:=4) (by simp)
    replace HBa : Hx (Bx ba [.int .i64 0,.int .i64 0,.string ⟨#[]⟩,.string ⟨#[]⟩,.bool false,.slice none 0 0,.slice none 0 0,.slice none 0 0,.int .i64 0,.int .i64 0,.int .i64 0,.string ⟨#[]⟩,.slice none 0 0] V6):=by show Bx _ _ _; rw [hV6]; exact HBa.o.far (by have:=HLas.o; omega)
    replace HD : Hx (Rd rb tv ts en w (n1) V6):=by show Rd _ _ _ _ _ _ _; rw [hV6]; exact HD.o.set (by exact HLs.o)
    have K4:=hide (take_c ⟨#[59]⟩ (by decide) n1 _ HD.o.st)
    go_wp2_with fail
    rw [← hV6]
    clear fs12 fs11 fs10 fs9 fs8 fs7 fs6 fs5 fs4 fs3 fs2 fs1 fs0 cs12 cs11 cs10 cs9 cs8 cs7 cs6 cs5 cs4 cs3 cs2 cs1 cs0
    clear hV6
    refine K4.o.mono ?_
    rintro e w7 hpo
    obtain ⟨m,ho⟩ | ⟨_un2,n2,ho⟩:=res_cases (pTake ts [59] n1)
    · replace hpo : PostC ts en (pTake ts [59] n1) _ _ e w7:=hpo
      rw [ho] at hpo
      obtain ⟨rfl,hg⟩:=hpo
      have HO : Hx (res = .inr m):=by show _ = _; rw [HRP.o,ho]; rfl
      have HG:=hide (grownBy_trans HD.o.gr hg)
      clear hg ho
      unfold gaveUpAt
      go_wp2_with fail
      refine ⟨rfl,?_⟩
      rw [HO.o]
      exact ⟨rfl,HG.o⟩
    replace hpo : PostC ts en (pTake ts [59] n1) _ _ e w7:=hpo
    rw [ho] at hpo
    obtain ⟨rfl,hg,hs⟩:=hpo
    have hr:=HRP.o
    rw [ho,bindR_inl] at hr
    replace HRP:=hide hr
    have HOO:=hide ho
    clear hr ho
    clear K4
    clear HOO
    replace HBa:=hide (HBa.o.keep hg (by have:=HD.o.rlt; have:=HLa.o; omega))
    replace HBs:=hide (HBs.o.keep hg (by have:=HD.o.rlt; have:=HLs.o; omega))
    replace HD : Hx (Rd rb tv ts en w (n2) w7):=HD.o.call hg hs
    clear hg hs
    have neas : ba≠bs:=by have:=HLas.o; omega
    have nesa : bs≠ba:=by have:=HLas.o; omega
    obtain ⟨ca0,ca1,ca2,ca3,ca4,ca5,ca6,ca7,ca8,ca9,ca10,ca11,ca12⟩:=rc13 HBa.o.row
    have fa0:=HBa.o.fz 0
    have fa1:=HBa.o.fz 1
    have fa2:=HBa.o.fz 2
    have fa3:=HBa.o.fz 3
    have fa4:=HBa.o.fz 4
    have fa5:=HBa.o.fz 5
    have fa6:=HBa.o.fz 6
    have fa7:=HBa.o.fz 7
    have fa8:=HBa.o.fz 8
    have fa9:=HBa.o.fz 9
    have fa10:=HBa.o.fz 10
    have fa11:=HBa.o.fz 11
    have fa12:=HBa.o.fz 12
    obtain ⟨cs0,cs1,cs2,cs3,cs4,cs5,cs6,cs7,cs8,cs9,cs10,cs11,cs12⟩:=rc13 HBs.o.row
    have fs0:=HBs.o.fz 0
    have fs1:=HBs.o.fz 1
    have fs2:=HBs.o.fz 2
    have fs3:=HBs.o.fz 3
    have fs4:=HBs.o.fz 4
    have fs5:=HBs.o.fz 5
    have fs6:=HBs.o.fz 6
    have fs7:=HBs.o.fz 7
    have fs8:=HBs.o.fz 8
    have fs9:=HBs.o.fz 9
    have fs10:=HBs.o.fz 10
    have fs11:=HBs.o.fz 11
    have fs12:=HBs.o.fz 12
    obtain ⟨V8,hV8⟩:=nm (w7.setCell ⟨ba,0,none⟩ (.int .i64 6))
    replace HBa : Hx (Bx ba [.int .i64 6,.int .i64 0,.string ⟨#[]⟩,.string ⟨#[]⟩,.bool false,.slice none 0 0,.slice none 0 0,.slice none 0 0,.int .i64 0,.int .i64 0,.int .i64 0,.string ⟨#[]⟩,.slice none 0 0] V8):=by show Bx _ _ _; rw [hV8]; exact HBa.o.set (j:=0) (by simp)
    replace HBs : Hx (Bx bs [.int .i64 6,.int .i64 p,.string x,.string ⟨#[]⟩,.bool false,.slice none 0 0,.slice none 0 0,.slice none 0 0,.int .i64 0,.int .i64 0,.int .i64 0,.string ⟨#[]⟩,.slice none 0 0] V8):=by show Bx _ _ _; rw [hV8]; exact HBs.o.far (by have:=HLas.o; omega)
    replace HD : Hx (Rd rb tv ts en w (n2) V8):=by show Rd _ _ _ _ _ _ _; rw [hV8]; exact HD.o.set (by exact HLa.o)
    obtain ⟨V9,hV9⟩:=nm (V8.setCell ⟨ba,1,none⟩ (.int .i64 p))
    replace HBa : Hx (Bx ba [.int .i64 6,.int .i64 p,.string ⟨#[]⟩,.string ⟨#[]⟩,.bool false,.slice none 0 0,.slice none 0 0,.slice none 0 0,.int .i64 0,.int .i64 0,.int .i64 0,.string ⟨#[]⟩,.slice none 0 0] V9):=by show Bx _ _ _; rw [hV9]; exact HBa.o.set (j:=1) (by simp)
    replace HBs : Hx (Bx bs [.int .i64 6,.int .i64 p,.string x,.string ⟨#[]⟩,.bool false,.slice none 0 0,.slice none 0 0,.slice none 0 0,.int .i64 0,.int .i64 0,.int .i64 0,.string ⟨#[]⟩,.slice none 0 0] V9):=by show Bx _ _ _; rw [hV9]; exact HBs.o.far (by have:=HLas.o; omega)
    replace HD : Hx (Rd rb tv ts en w (n2) V9):=by show Rd _ _ _ _ _ _ _; rw [hV9]; exact HD.o.set (by exact HLa.o)
    obtain ⟨V10,hV10⟩:=nm (V9.setCell ⟨ba,2,none⟩ (.string x))
    replace HBa : Hx (Bx ba [.int .i64 6,.int .i64 p,.string x,.string ⟨#[]⟩,.bool false,.slice none 0 0,.slice none 0 0,.slice none 0 0,.int .i64 0,.int .i64 0,.int .i64 0,.string ⟨#[]⟩,.slice none 0 0] V10):=by show Bx _ _ _; rw [hV10]; exact HBa.o.set (j:=2) (by simp)
    replace HBs : Hx (Bx bs [.int .i64 6,.int .i64 p,.string x,.string ⟨#[]⟩,.bool false,.slice none 0 0,.slice none 0 0,.slice none 0 0,.int .i64 0,.int .i64 0,.int .i64 0,.string ⟨#[]⟩,.slice none 0 0] V10):=by show Bx _ _ _; rw [hV10]; exact HBs.o.far (by have:=HLas.o; omega)
    replace HD : Hx (Rd rb tv ts en w (n2) V10):=by show Rd _ _ _ _ _ _ _; rw [hV10]; exact HD.o.set (by exact HLa.o)
    obtain ⟨V11,hV11⟩:=nm (V10.setCell ⟨ba,3,none⟩ (.string ⟨#[]⟩))
    replace HBa : Hx (Bx ba [.int .i64 6,.int .i64 p,.string x,.string ⟨#[]⟩,.bool false,.slice none 0 0,.slice none 0 0,.slice none 0 0,.int .i64 0,.int .i64 0,.int .i64 0,.string ⟨#[]⟩,.slice none 0 0] V11):=by show Bx _ _ _; rw [hV11]; exact HBa.o.set (j:=3) (by simp)
    replace HBs : Hx (Bx bs [.int .i64 6,.int .i64 p,.string x,.string ⟨#[]⟩,.bool false,.slice none 0 0,.slice none 0 0,.slice none 0 0,.int .i64 0,.int .i64 0,.int .i64 0,.string ⟨#[]⟩,.slice none 0 0] V11):=by show Bx _ _ _; rw [hV11]; exact HBs.o.far (by have:=HLas.o; omega)
    replace HD : Hx (Rd rb tv ts en w (n2) V11):=by show Rd _ _ _ _ _ _ _; rw [hV11]; exact HD.o.set (by exact HLa.o)
    obtain ⟨V12,hV12⟩:=nm (V11.setCell ⟨ba,4,none⟩ (.bool false))
    replace HBa : Hx (Bx ba [.int .i64 6,.int .i64 p,.string x,.string ⟨#[]⟩,.bool false,.slice none 0 0,.slice none 0 0,.slice none 0 0,.int .i64 0,.int .i64 0,.int .i64 0,.string ⟨#[]⟩,.slice none 0 0] V12):=by show Bx _ _ _; rw [hV12]; exact HBa.o.set (j:=4) (by simp)
    replace HBs : Hx (Bx bs [.int .i64 6,.int .i64 p,.string x,.string ⟨#[]⟩,.bool false,.slice none 0 0,.slice none 0 0,.slice none 0 0,.int .i64 0,.int .i64 0,.int .i64 0,.string ⟨#[]⟩,.slice none 0 0] V12):=by show Bx _ _ _; rw [hV12]; exact HBs.o.far (by have:=HLas.o; omega)
    replace HD : Hx (Rd rb tv ts en w (n2) V12):=by show Rd _ _ _ _ _ _ _; rw [hV12]; exact HD.o.set (by exact HLa.o)
    obtain ⟨V13,hV13⟩:=nm (V12.setCell ⟨ba,5,none⟩ (.slice none 0 0))
    replace HBa : Hx (Bx ba [.int .i64 6,.int .i64 p,.string x,.string ⟨#[]⟩,.bool false,.slice none 0 0,.slice none 0 0,.slice none 0 0,.int .i64 0,.int .i64 0,.int .i64 0,.string ⟨#[]⟩,.slice none 0 0] V13):=by show Bx _ _ _; rw [hV13]; exact HBa.o.set (j:=5) (by simp)
    replace HBs : Hx (Bx bs [.int .i64 6,.int .i64 p,.string x,.string ⟨#[]⟩,.bool false,.slice none 0 0,.slice none 0 0,.slice none 0 0,.int .i64 0,.int .i64 0,.int .i64 0,.string ⟨#[]⟩,.slice none 0 0] V13):=by show Bx _ _ _; rw [hV13]; exact HBs.o.far (by have:=HLas.o; omega)
    replace HD : Hx (Rd rb tv ts en w (n2) V13):=by show Rd _ _ _ _ _ _ _; rw [hV13]; exact HD.o.set (by exact HLa.o)
    obtain ⟨V14,hV14⟩:=nm (V13.setCell ⟨ba,6,none⟩ (.slice none 0 0))
    replace HBa : Hx (Bx ba [.int .i64 6,.int .i64 p,.string x,.string ⟨#[]⟩,.bool false,.slice none 0 0,.slice none 0 0,.slice none 0 0,.int .i64 0,.int .i64 0,.int .i64 0,.string ⟨#[]⟩,.slice none 0 0] V14):=by show Bx _ _ _; rw [hV14]; exact HBa.o.set (j:=6) (by simp)
    replace HBs : Hx (Bx bs [.int .i64 6,.int .i64 p,.string x,.string ⟨#[]⟩,.bool false,.slice none 0 0,.slice none 0 0,.slice none 0 0,.int .i64 0,.int .i64 0,.int .i64 0,.string ⟨#[]⟩,.slice none 0 0] V14):=by show Bx _ _ _; rw [hV14]; exact HBs.o.far (by have:=HLas.o; omega)
    replace HD : Hx (Rd rb tv ts en w (n2) V14):=by show Rd _ _ _ _ _ _ _; rw [hV14]; exact HD.o.set (by exact HLa.o)
    obtain ⟨V15,hV15⟩:=nm (V14.setCell ⟨ba,7,none⟩ (.slice none 0 0))
    replace HBa : Hx (Bx ba [.int .i64 6,.int .i64 p,.string x,.string ⟨#[]⟩,.bool false,.slice none 0 0,.slice none 0 0,.slice none 0 0,.int .i64 0,.int .i64 0,.int .i64 0,.string ⟨#[]⟩,.slice none 0 0] V15):=by show Bx _ _ _; rw [hV15]; exact HBa.o.set (j:=7) (by simp)
    replace HBs : Hx (Bx bs [.int .i64 6,.int .i64 p,.string x,.string ⟨#[]⟩,.bool false,.slice none 0 0,.slice none 0 0,.slice none 0 0,.int .i64 0,.int .i64 0,.int .i64 0,.string ⟨#[]⟩,.slice none 0 0] V15):=by show Bx _ _ _; rw [hV15]; exact HBs.o.far (by have:=HLas.o; omega)
    replace HD : Hx (Rd rb tv ts en w (n2) V15):=by show Rd _ _ _ _ _ _ _; rw [hV15]; exact HD.o.set (by exact HLa.o)
    obtain ⟨V16,hV16⟩:=nm (V15.setCell ⟨ba,8,none⟩ (.int .i64 0))
    replace HBa : Hx (Bx ba [.int .i64 6,.int .i64 p,.string x,.string ⟨#[]⟩,.bool false,.slice none 0 0,.slice none 0 0,.slice none 0 0,.int .i64 0,.int .i64 0,.int .i64 0,.string ⟨#[]⟩,.slice none 0 0] V16):=by show Bx _ _ _; rw [hV16]; exact HBa.o.set (j:=8) (by simp)
    replace HBs : Hx (Bx bs [.int .i64 6,.int .i64 p,.string x,.string ⟨#[]⟩,.bool false,.slice none 0 0,.slice none 0 0,.slice none 0 0,.int .i64 0,.int .i64 0,.int .i64 0,.string ⟨#[]⟩,.slice none 0 0] V16):=by show Bx _ _ _; rw [hV16]; exact HBs.o.far (by have:=HLas.o; omega)
    replace HD : Hx (Rd rb tv ts en w (n2) V16):=by show Rd _ _ _ _ _ _ _; rw [hV16]; exact HD.o.set (by exact HLa.o)
    obtain ⟨V17,hV17⟩:=nm (V16.setCell ⟨ba,9,none⟩ (.int .i64 0))
    replace HBa : Hx (Bx ba [.int .i64 6,.int .i64 p,.string x,.string ⟨#[]⟩,.bool false,.slice none 0 0,.slice none 0 0,.slice none 0 0,.int .i64 0,.int .i64 0,.int .i64 0,.string ⟨#[]⟩,.slice none 0 0] V17):=by show Bx _ _ _; rw [hV17]; exact HBa.o.set (j:=9) (by simp)
    replace HBs : Hx (Bx bs [.int .i64 6,.int .i64 p,.string x,.string ⟨#[]⟩,.bool false,.slice none 0 0,.slice none 0 0,.slice none 0 0,.int .i64 0,.int .i64 0,.int .i64 0,.string ⟨#[]⟩,.slice none 0 0] V17):=by show Bx _ _ _; rw [hV17]; exact HBs.o.far (by have:=HLas.o; omega)
    replace HD : Hx (Rd rb tv ts en w (n2) V17):=by show Rd _ _ _ _ _ _ _; rw [hV17]; exact HD.o.set (by exact HLa.o)
    obtain ⟨V18,hV18⟩:=nm (V17.setCell ⟨ba,10,none⟩ (.int .i64 0))
    replace HBa : Hx (Bx ba [.int .i64 6,.int .i64 p,.string x,.string ⟨#[]⟩,.bool false,.slice none 0 0,.slice none 0 0,.slice none 0 0,.int .i64 0,.int .i64 0,.int .i64 0,.string ⟨#[]⟩,.slice none 0 0] V18):=by show Bx _ _ _; rw [hV18]; exact HBa.o.set (j:=10) (by simp)
    replace HBs : Hx (Bx bs [.int .i64 6,.int .i64 p,.string x,.string ⟨#[]⟩,.bool false,.slice none 0 0,.slice none 0 0,.slice none 0 0,.int .i64 0,.int .i64 0,.int .i64 0,.string ⟨#[]⟩,.slice none 0 0] V18):=by show Bx _ _ _; rw [hV18]; exact HBs.o.far (by have:=HLas.o; omega)
    replace HD : Hx (Rd rb tv ts en w (n2) V18):=by show Rd _ _ _ _ _ _ _; rw [hV18]; exact HD.o.set (by exact HLa.o)
    obtain ⟨V19,hV19⟩:=nm (V18.setCell ⟨ba,11,none⟩ (.string ⟨#[]⟩))
    replace HBa : Hx (Bx ba [.int .i64 6,.int .i64 p,.string x,.string ⟨#[]⟩,.bool false,.slice none 0 0,.slice none 0 0,.slice none 0 0,.int .i64 0,.int .i64 0,.int .i64 0,.string ⟨#[]⟩,.slice none 0 0] V19):=by show Bx _ _ _; rw [hV19]; exact HBa.o.set (j:=11) (by simp)
    replace HBs : Hx (Bx bs [.int .i64 6,.int .i64 p,.string x,.string ⟨#[]⟩,.bool false,.slice none 0 0,.slice none 0 0,.slice none 0 0,.int .i64 0,.int .i64 0,.int .i64 0,.string ⟨#[]⟩,.slice none 0 0] V19):=by show Bx _ _ _; rw [hV19]; exact HBs.o.far (by have:=HLas.o; omega)
    replace HD : Hx (Rd rb tv ts en w (n2) V19):=by show Rd _ _ _ _ _ _ _; rw [hV19]; exact HD.o.set (by exact HLa.o)
    obtain ⟨V20,hV20⟩:=nm (V19.setCell ⟨ba,12,none⟩ (.slice none 0 0))
    replace HBa : Hx (Bx ba [.int .i64 6,.int .i64 p,.string x,.string ⟨#[]⟩,.bool false,.slice none 0 0,.slice none 0 0,.slice none 0 0,.int .i64 0,.int .i64 0,.int .i64 0,.string ⟨#[]⟩,.slice none 0 0] V20):=by show Bx _ _ _; rw [hV20]; exact HBa.o.set (j:=12) (by simp)
    replace HBs : Hx (Bx bs [.int .i64 6,.int .i64 p,.string x,.string ⟨#[]⟩,.bool false,.slice none 0 0,.slice none 0 0,.slice none 0 0,.int .i64 0,.int .i64 0,.int .i64 0,.string ⟨#[]⟩,.slice none 0 0] V20):=by show Bx _ _ _; rw [hV20]; exact HBs.o.far (by have:=HLas.o; omega)
    replace HD : Hx (Rd rb tv ts en w (n2) V20):=by show Rd _ _ _ _ _ _ _; rw [hV20]; exact HD.o.set (by exact HLa.o)
    go_wp2_with fail
    refine bodyPost_ret (v:=.agg #[.int .i64 6,.int .i64 p,.string x,.string ⟨#[]⟩,.bool false,.slice none 0 0,.slice none 0 0,.slice none 0 0,.int .i64 0,.int .i64 0,.int .i64 0,.string ⟨#[]⟩,.slice none 0 0]) (by simp [results,Tryz.results52,go_sem, *]) rfl ?_
    rw [← hV8,← hV9,← hV10,← hV11,← hV12,← hV13,← hV14,← hV15,← hV16,← hV17,← hV18,← hV19,← hV20]
    rw [HRP.o]
    refine ⟨_,_,_,_,_,_,_,_,_,_,_,_,_,_,_,_,_,_,_,_,_,rfl,fun W hW => ?_,HD.o.gr,HD.o.st⟩
    exact ⟨6,p,x,⟨#[]⟩,false,_,[],_,[],_,[],_,_,_,_,_,noE,rfl,rfl,LS.nil,LS.nil,LS.nil,XE.none W⟩
  | true =>
    have hr:=HRP.o
    rw [if_pos hq] at hr
    replace HRP:=hide hr
    clear hr hq K3
    replace HBa:=hide (HBa.o.keep hg (by have:=HD.o.rlt; have:=HLa.o; omega))
    replace HBs:=hide (HBs.o.keep hg (by have:=HD.o.rlt; have:=HLs.o; omega))
    replace HD : Hx (Rd rb tv ts en w (n1) wq):=HD.o.call hg hs
    clear hg hs
    obtain ⟨cs0,cs1,cs2,cs3,cs4,cs5,cs6,cs7,cs8,cs9,cs10,cs11,cs12⟩:=rc13 HBs.o.row
    have fs0:=HBs.o.fz 0
    have fs1:=HBs.o.fz 1
    have fs2:=HBs.o.fz 2
    have fs3:=HBs.o.fz 3
    have fs4:=HBs.o.fz 4
    have fs5:=HBs.o.fz 5
    have fs6:=HBs.o.fz 6
    have fs7:=HBs.o.fz 7
    have fs8:=HBs.o.fz 8
    have fs9:=HBs.o.fz 9
    have fs10:=HBs.o.fz 10
    have fs11:=HBs.o.fz 11
    have fs12:=HBs.o.fz 12
    obtain ⟨V6,hV6⟩:=nm (wq.setCell ⟨bs,4,none⟩ (.bool true))
    replace HBs : Hx (Bx bs [.int .i64 6,.int .i64 p,.string x,.string ⟨#[]⟩,.bool true,.slice none 0 0,.slice none 0 0,.slice none 0 0,.int .i64 0,.int .i64 0,.int .i64 0,.string ⟨#[]⟩,.slice none 0 0] V6):=by show Bx _ _ _; rw [hV6]; exact HBs.o.set (j:=4) (by simp)
    replace HBa : Hx (Bx ba [.int .i64 0,.int .i64 0,.string ⟨#[]⟩,.string ⟨#[]⟩,.bool false,.slice none 0 0,.slice none 0 0,.slice none 0 0,.int .i64 0,.int .i64 0,.int .i64 0,.string ⟨#[]⟩,.slice none 0 0] V6):=by show Bx _ _ _; rw [hV6]; exact HBa.o.far (by have:=HLas.o; omega)
    replace HD : Hx (Rd rb tv ts en w (n1) V6):=by show Rd _ _ _ _ _ _ _; rw [hV6]; exact HD.o.set (by exact HLs.o)
    have KL:=hide (label_c n1 _ HD.o.st)
    go_wp2_with fail
    rw [← hV6]
    clear fs12 fs11 fs10 fs9 fs8 fs7 fs6 fs5 fs4 fs3 fs2 fs1 fs0 cs12 cs11 cs10 cs9 cs8 cs7 cs6 cs5 cs4 cs3 cs2 cs1 cs0
    clear hV6
    obtain ⟨z,hz⟩:=nm V6.heap.size
    have HWz : Hx (w.heap.size≤z):=by show _≤_; rw [hz]; exact HD.o.size
    have HZza : Hx (ba < z):=by show _ < _; rw [hz]; exact HBa.o.lt
    have HZzs : Hx (bs < z):=by show _ < _; rw [hz]; exact HBs.o.lt
    refine KL.o.mono ?_
    rintro e w7 hpo
    obtain ⟨m,ho⟩ | ⟨lb,n2,ho⟩:=res_cases (pLabel ts en n1)
    · replace hpo : PostC ts en (pLabel ts en n1) _ _ e w7:=hpo
      rw [ho] at hpo
      obtain ⟨rfl,hg⟩:=hpo
      have HO : Hx (res = .inr m):=by show _ = _; rw [HRP.o,ho]; rfl
      have HG:=hide (grownBy_trans HD.o.gr hg)
      clear hg ho
      unfold gaveUpAt
      go_wp2_with fail
      refine ⟨rfl,?_⟩
      rw [HO.o]
      exact ⟨rfl,HG.o⟩
    replace hpo : PostC ts en (pLabel ts en n1) _ _ e w7:=hpo
    rw [ho] at hpo
    obtain ⟨la,lc,rfl,hoff,hl6,hg,hs⟩:=hpo
    have hr:=HRP.o
    rw [ho,bindR_inl] at hr
    replace HRP:=hide hr
    have HOO:=hide ho
    clear hr ho
    obtain ⟨lk,hlk⟩:=nm lb.length
    rw [← hlk,← hz] at hoff
    rw [← hlk]
    have HOL:=hide hoff
    clear hoff hl6 hlk hz KL
    clear HOO
    replace HBa:=hide (HBa.o.keep hg (by have:=HD.o.rlt; have:=HLa.o; omega))
    replace HBs:=hide (HBs.o.keep hg (by have:=HD.o.rlt; have:=HLs.o; omega))
    replace HD : Hx (Rd rb tv ts en w (n2) w7):=HD.o.call hg hs
    clear hg hs
    obtain ⟨cs0,cs1,cs2,cs3,cs4,cs5,cs6,cs7,cs8,cs9,cs10,cs11,cs12⟩:=rc13 HBs.o.row
    have fs0:=HBs.o.fz 0
    have fs1:=HBs.o.fz 1
    have fs2:=HBs.o.fz 2
    have fs3:=HBs.o.fz 3
    have fs4:=HBs.o.fz 4
    have fs5:=HBs.o.fz 5
    have fs6:=HBs.o.fz 6
    have fs7:=HBs.o.fz 7
    have fs8:=HBs.o.fz 8
    have fs9:=HBs.o.fz 9
    have fs10:=HBs.o.fz 10
    have fs11:=HBs.o.fz 11
    have fs12:=HBs.o.fz 12
    obtain ⟨V8,hV8⟩:=nm (w7.setCell ⟨bs,5,none⟩ (.slice la lk lc))
    replace HBs : Hx (Bx bs [.int .i64 6,.int .i64 p,.string x,.string ⟨#[]⟩,.bool true,.slice la lk lc,.slice none 0 0,.slice none 0 0,.int .i64 0,.int .i64 0,.int .i64 0,.string ⟨#[]⟩,.slice none 0 0] V8):=by show Bx _ _ _; rw [hV8]; exact HBs.o.set (j:=5) (by simp)
    replace HBa : Hx (Bx ba [.int .i64 0,.int .i64 0,.string ⟨#[]⟩,.string ⟨#[]⟩,.bool false,.slice none 0 0,.slice none 0 0,.slice none 0 0,.int .i64 0,.int .i64 0,.int .i64 0,.string ⟨#[]⟩,.slice none 0 0] V8):=by show Bx _ _ _; rw [hV8]; exact HBa.o.far (by have:=HLas.o; omega)
    replace HD : Hx (Rd rb tv ts en w (n2) V8):=by show Rd _ _ _ _ _ _ _; rw [hV8]; exact HD.o.set (by exact HLs.o)
    replace HOL : Hx (Off z none V8 (fun W => LS 4 (RPol W) W (.slice la lk lc) lb)):=by show Off _ _ _ _; rw [hV8]; exact HOL.o.set HZzs.o
    have K4:=hide (take_c ⟨#[59]⟩ (by decide) n2 _ HD.o.st)
    go_wp2_with fail
    rw [← hV8]
    clear fs12 fs11 fs10 fs9 fs8 fs7 fs6 fs5 fs4 fs3 fs2 fs1 fs0 cs12 cs11 cs10 cs9 cs8 cs7 cs6 cs5 cs4 cs3 cs2 cs1 cs0
    clear hV8
    refine K4.o.mono ?_
    rintro e w9 hpo
    obtain ⟨m,ho⟩ | ⟨_un3,n3,ho⟩:=res_cases (pTake ts [59] n2)
    · replace hpo : PostC ts en (pTake ts [59] n2) _ _ e w9:=hpo
      rw [ho] at hpo
      obtain ⟨rfl,hg⟩:=hpo
      have HO : Hx (res = .inr m):=by show _ = _; rw [HRP.o,ho]; rfl
      have HG:=hide (grownBy_trans HD.o.gr hg)
      clear hg ho
      unfold gaveUpAt
      go_wp2_with fail
      refine ⟨rfl,?_⟩
      rw [HO.o]
      exact ⟨rfl,HG.o⟩
    replace hpo : PostC ts en (pTake ts [59] n2) _ _ e w9:=hpo
    rw [ho] at hpo
    obtain ⟨rfl,hg,hs⟩:=hpo
    have hr:=HRP.o
    rw [ho,bindR_inl] at hr
    replace HRP:=hide hr
    have HOO:=hide ho
    clear hr ho
    clear K4
    clear HOO
    replace HBa:=hide (HBa.o.keep hg (by have:=HD.o.rlt; have:=HLa.o; omega))
    replace HBs:=hide (HBs.o.keep hg (by have:=HD.o.rlt; have:=HLs.o; omega))
    replace HOL:=hide (HOL.o.keep hg (by have:=HD.o.rlt; have:=HWz.o; omega))
    replace HD : Hx (Rd rb tv ts en w (n3) w9):=HD.o.call hg hs
    clear hg hs
    have neas : ba≠bs:=by have:=HLas.o; omega
    have nesa : bs≠ba:=by have:=HLas.o; omega
    obtain ⟨ca0,ca1,ca2,ca3,ca4,ca5,ca6,ca7,ca8,ca9,ca10,ca11,ca12⟩:=rc13 HBa.o.row
    have fa0:=HBa.o.fz 0
    have fa1:=HBa.o.fz 1
    have fa2:=HBa.o.fz 2
    have fa3:=HBa.o.fz 3
    have fa4:=HBa.o.fz 4
    have fa5:=HBa.o.fz 5
    have fa6:=HBa.o.fz 6
    have fa7:=HBa.o.fz 7
    have fa8:=HBa.o.fz 8
    have fa9:=HBa.o.fz 9
    have fa10:=HBa.o.fz 10
    have fa11:=HBa.o.fz 11
    have fa12:=HBa.o.fz 12
    obtain ⟨cs0,cs1,cs2,cs3,cs4,cs5,cs6,cs7,cs8,cs9,cs10,cs11,cs12⟩:=rc13 HBs.o.row
    have fs0:=HBs.o.fz 0
    have fs1:=HBs.o.fz 1
    have fs2:=HBs.o.fz 2
    have fs3:=HBs.o.fz 3
    have fs4:=HBs.o.fz 4
    have fs5:=HBs.o.fz 5
    have fs6:=HBs.o.fz 6
    have fs7:=HBs.o.fz 7
    have fs8:=HBs.o.fz 8
    have fs9:=HBs.o.fz 9
    have fs10:=HBs.o.fz 10
    have fs11:=HBs.o.fz 11
    have fs12:=HBs.o.fz 12
    obtain ⟨V10,hV10⟩:=nm (w9.setCell ⟨ba,0,none⟩ (.int .i64 6))
    replace HBa : Hx (Bx ba [.int .i64 6,.int .i64 0,.string ⟨#[]⟩,.string ⟨#[]⟩,.bool false,.slice none 0 0,.slice none 0 0,.slice none 0 0,.int .i64 0,.int .i64 0,.int .i64 0,.string ⟨#[]⟩,.slice none 0 0] V10):=by show Bx _ _ _; rw [hV10]; exact HBa.o.set (j:=0) (by simp)
    replace HBs : Hx (Bx bs [.int .i64 6,.int .i64 p,.string x,.string ⟨#[]⟩,.bool true,.slice la lk lc,.slice none 0 0,.slice none 0 0,.int .i64 0,.int .i64 0,.int .i64 0,.string ⟨#[]⟩,.slice none 0 0] V10):=by show Bx _ _ _; rw [hV10]; exact HBs.o.far (by have:=HLas.o; omega)
    replace HD : Hx (Rd rb tv ts en w (n3) V10):=by show Rd _ _ _ _ _ _ _; rw [hV10]; exact HD.o.set (by exact HLa.o)
    replace HOL : Hx (Off z none V10 (fun W => LS 4 (RPol W) W (.slice la lk lc) lb)):=by show Off _ _ _ _; rw [hV10]; exact HOL.o.set HZza.o
    obtain ⟨V11,hV11⟩:=nm (V10.setCell ⟨ba,1,none⟩ (.int .i64 p))
    replace HBa : Hx (Bx ba [.int .i64 6,.int .i64 p,.string ⟨#[]⟩,.string ⟨#[]⟩,.bool false,.slice none 0 0,.slice none 0 0,.slice none 0 0,.int .i64 0,.int .i64 0,.int .i64 0,.string ⟨#[]⟩,.slice none 0 0] V11):=by show Bx _ _ _; rw [hV11]; exact HBa.o.set (j:=1) (by simp)
    replace HBs : Hx (Bx bs [.int .i64 6,.int .i64 p,.string x,.string ⟨#[]⟩,.bool true,.slice la lk lc,.slice none 0 0,.slice none 0 0,.int .i64 0,.int .i64 0,.int .i64 0,.string ⟨#[]⟩,.slice none 0 0] V11):=by show Bx _ _ _; rw [hV11]; exact HBs.o.far (by have:=HLas.o; omega)
    replace HD : Hx (Rd rb tv ts en w (n3) V11):=by show Rd _ _ _ _ _ _ _; rw [hV11]; exact HD.o.set (by exact HLa.o)
    replace HOL : Hx (Off z none V11 (fun W => LS 4 (RPol W) W (.slice la lk lc) lb)):=by show Off _ _ _ _; rw [hV11]; exact HOL.o.set HZza.o
    obtain ⟨V12,hV12⟩:=nm (V11.setCell ⟨ba,2,none⟩ (.string x))
    replace HBa : Hx (Bx ba [.int .i64 6,.int .i64 p,.string x,.string ⟨#[]⟩,.bool false,.slice none 0 0,.slice none 0 0,.slice none 0 0,.int .i64 0,.int .i64 0,.int .i64 0,.string ⟨#[]⟩,.slice none 0 0] V12):=by show Bx _ _ _; rw [hV12]; exact HBa.o.set (j:=2) (by simp)
    replace HBs : Hx (Bx bs [.int .i64 6,.int .i64 p,.string x,.string ⟨#[]⟩,.bool true,.slice la lk lc,.slice none 0 0,.slice none 0 0,.int .i64 0,.int .i64 0,.int .i64 0,.string ⟨#[]⟩,.slice none 0 0] V12):=by show Bx _ _ _; rw [hV12]; exact HBs.o.far (by have:=HLas.o; omega)
    replace HD : Hx (Rd rb tv ts en w (n3) V12):=by show Rd _ _ _ _ _ _ _; rw [hV12]; exact HD.o.set (by exact HLa.o)
    replace HOL : Hx (Off z none V12 (fun W => LS 4 (RPol W) W (.slice la lk lc) lb)):=by show Off _ _ _ _; rw [hV12]; exact HOL.o.set HZza.o
    obtain ⟨V13,hV13⟩:=nm (V12.setCell ⟨ba,3,none⟩ (.string ⟨#[]⟩))
    replace HBa : Hx (Bx ba [.int .i64 6,.int .i64 p,.string x,.string ⟨#[]⟩,.bool false,.slice none 0 0,.slice none 0 0,.slice none 0 0,.int .i64 0,.int .i64 0,.int .i64 0,.string ⟨#[]⟩,.slice none 0 0] V13):=by show Bx _ _ _; rw [hV13]; exact HBa.o.set (j:=3) (by simp)
    replace HBs : Hx (Bx bs [.int .i64 6,.int .i64 p,.string x,.string ⟨#[]⟩,.bool true,.slice la lk lc,.slice none 0 0,.slice none 0 0,.int .i64 0,.int .i64 0,.int .i64 0,.string ⟨#[]⟩,.slice none 0 0] V13):=by show Bx _ _ _; rw [hV13]; exact HBs.o.far (by have:=HLas.o; omega)
    replace HD : Hx (Rd rb tv ts en w (n3) V13):=by show Rd _ _ _ _ _ _ _; rw [hV13]; exact HD.o.set (by exact HLa.o)
    replace HOL : Hx (Off z none V13 (fun W => LS 4 (RPol W) W (.slice la lk lc) lb)):=by show Off _ _ _ _; rw [hV13]; exact HOL.o.set HZza.o
    obtain ⟨V14,hV14⟩:=nm (V13.setCell ⟨ba,4,none⟩ (.bool true))
    replace HBa : Hx (Bx ba [.int .i64 6,.int .i64 p,.string x,.string ⟨#[]⟩,.bool true,.slice none 0 0,.slice none 0 0,.slice none 0 0,.int .i64 0,.int .i64 0,.int .i64 0,.string ⟨#[]⟩,.slice none 0 0] V14):=by show Bx _ _ _; rw [hV14]; exact HBa.o.set (j:=4) (by simp)
    replace HBs : Hx (Bx bs [.int .i64 6,.int .i64 p,.string x,.string ⟨#[]⟩,.bool true,.slice la lk lc,.slice none 0 0,.slice none 0 0,.int .i64 0,.int .i64 0,.int .i64 0,.string ⟨#[]⟩,.slice none 0 0] V14):=by show Bx _ _ _; rw [hV14]; exact HBs.o.far (by have:=HLas.o; omega)
    replace HD : Hx (Rd rb tv ts en w (n3) V14):=by show Rd _ _ _ _ _ _ _; rw [hV14]; exact HD.o.set (by exact HLa.o)
    replace HOL : Hx (Off z none V14 (fun W => LS 4 (RPol W) W (.slice la lk lc) lb)):=by show Off _ _ _ _; rw [hV14]; exact HOL.o.set HZza.o
    obtain ⟨V15,hV15⟩:=nm (V14.setCell ⟨ba,5,none⟩ (.slice la lk lc))
    replace HBa : Hx (Bx ba [.int .i64 6,.int .i64 p,.string x,.string ⟨#[]⟩,.bool true,.slice la lk lc,.slice none 0 0,.slice none 0 0,.int .i64 0,.int .i64 0,.int .i64 0,.string ⟨#[]⟩,.slice none 0 0] V15):=by show Bx _ _ _; rw [hV15]; exact HBa.o.set (j:=5) (by simp)
    replace HBs : Hx (Bx bs [.int .i64 6,.int .i64 p,.string x,.string ⟨#[]⟩,.bool true,.slice la lk lc,.slice none 0 0,.slice none 0 0,.int .i64 0,.int .i64 0,.int .i64 0,.string ⟨#[]⟩,.slice none 0 0] V15):=by show Bx _ _ _; rw [hV15]; exact HBs.o.far (by have:=HLas.o; omega)
    replace HD : Hx (Rd rb tv ts en w (n3) V15):=by show Rd _ _ _ _ _ _ _; rw [hV15]; exact HD.o.set (by exact HLa.o)
    replace HOL : Hx (Off z none V15 (fun W => LS 4 (RPol W) W (.slice la lk lc) lb)):=by show Off _ _ _ _; rw [hV15]; exact HOL.o.set HZza.o
    obtain ⟨V16,hV16⟩:=nm (V15.setCell ⟨ba,6,none⟩ (.slice none 0 0))
    replace HBa : Hx (Bx ba [.int .i64 6,.int .i64 p,.string x,.string ⟨#[]⟩,.bool true,.slice la lk lc,.slice none 0 0,.slice none 0 0,.int .i64 0,.int .i64 0,.int .i64 0,.string ⟨#[]⟩,.slice none 0 0] V16):=by show Bx _ _ _; rw [hV16]; exact HBa.o.set (j:=6) (by simp)
    replace HBs : Hx (Bx bs [.int .i64 6,.int .i64 p,.string x,.string ⟨#[]⟩,.bool true,.slice la lk lc,.slice none 0 0,.slice none 0 0,.int .i64 0,.int .i64 0,.int .i64 0,.string ⟨#[]⟩,.slice none 0 0] V16):=by show Bx _ _ _; rw [hV16]; exact HBs.o.far (by have:=HLas.o; omega)
    replace HD : Hx (Rd rb tv ts en w (n3) V16):=by show Rd _ _ _ _ _ _ _; rw [hV16]; exact HD.o.set (by exact HLa.o)
    replace HOL : Hx (Off z none V16 (fun W => LS 4 (RPol W) W (.slice la lk lc) lb)):=by show Off _ _ _ _; rw [hV16]; exact HOL.o.set HZza.o
    obtain ⟨V17,hV17⟩:=nm (V16.setCell ⟨ba,7,none⟩ (.slice none 0 0))
    replace HBa : Hx (Bx ba [.int .i64 6,.int .i64 p,.string x,.string ⟨#[]⟩,.bool true,.slice la lk lc,.slice none 0 0,.slice none 0 0,.int .i64 0,.int .i64 0,.int .i64 0,.string ⟨#[]⟩,.slice none 0 0] V17):=by show Bx _ _ _; rw [hV17]; exact HBa.o.set (j:=7) (by simp)
    replace HBs : Hx (Bx bs [.int .i64 6,.int .i64 p,.string x,.string ⟨#[]⟩,.bool true,.slice la lk lc,.slice none 0 0,.slice none 0 0,.int .i64 0,.int .i64 0,.int .i64 0,.string ⟨#[]⟩,.slice none 0 0] V17):=by show Bx _ _ _; rw [hV17]; exact HBs.o.far (by have:=HLas.o; omega)
    replace HD : Hx (Rd rb tv ts en w (n3) V17):=by show Rd _ _ _ _ _ _ _; rw [hV17]; exact HD.o.set (by exact HLa.o)
    replace HOL : Hx (Off z none V17 (fun W => LS 4 (RPol W) W (.slice la lk lc) lb)):=by show Off _ _ _ _; rw [hV17]; exact HOL.o.set HZza.o
    obtain ⟨V18,hV18⟩:=nm (V17.setCell ⟨ba,8,none⟩ (.int .i64 0))
    replace HBa : Hx (Bx ba [.int .i64 6,.int .i64 p,.string x,.string ⟨#[]⟩,.bool true,.slice la lk lc,.slice none 0 0,.slice none 0 0,.int .i64 0,.int .i64 0,.int .i64 0,.string ⟨#[]⟩,.slice none 0 0] V18):=by show Bx _ _ _; rw [hV18]; exact HBa.o.set (j:=8) (by simp)
    replace HBs : Hx (Bx bs [.int .i64 6,.int .i64 p,.string x,.string ⟨#[]⟩,.bool true,.slice la lk lc,.slice none 0 0,.slice none 0 0,.int .i64 0,.int .i64 0,.int .i64 0,.string ⟨#[]⟩,.slice none 0 0] V18):=by show Bx _ _ _; rw [hV18]; exact HBs.o.far (by have:=HLas.o; omega)
    replace HD : Hx (Rd rb tv ts en w (n3) V18):=by show Rd _ _ _ _ _ _ _; rw [hV18]; exact HD.o.set (by exact HLa.o)
    replace HOL : Hx (Off z none V18 (fun W => LS 4 (RPol W) W (.slice la lk lc) lb)):=by show Off _ _ _ _; rw [hV18]; exact HOL.o.set HZza.o
    obtain ⟨V19,hV19⟩:=nm (V18.setCell ⟨ba,9,none⟩ (.int .i64 0))
    replace HBa : Hx (Bx ba [.int .i64 6,.int .i64 p,.string x,.string ⟨#[]⟩,.bool true,.slice la lk lc,.slice none 0 0,.slice none 0 0,.int .i64 0,.int .i64 0,.int .i64 0,.string ⟨#[]⟩,.slice none 0 0] V19):=by show Bx _ _ _; rw [hV19]; exact HBa.o.set (j:=9) (by simp)
    replace HBs : Hx (Bx bs [.int .i64 6,.int .i64 p,.string x,.string ⟨#[]⟩,.bool true,.slice la lk lc,.slice none 0 0,.slice none 0 0,.int .i64 0,.int .i64 0,.int .i64 0,.string ⟨#[]⟩,.slice none 0 0] V19):=by show Bx _ _ _; rw [hV19]; exact HBs.o.far (by have:=HLas.o; omega)
    replace HD : Hx (Rd rb tv ts en w (n3) V19):=by show Rd _ _ _ _ _ _ _; rw [hV19]; exact HD.o.set (by exact HLa.o)
    replace HOL : Hx (Off z none V19 (fun W => LS 4 (RPol W) W (.slice la lk lc) lb)):=by show Off _ _ _ _; rw [hV19]; exact HOL.o.set HZza.o
    obtain ⟨V20,hV20⟩:=nm (V19.setCell ⟨ba,10,none⟩ (.int .i64 0))
    replace HBa : Hx (Bx ba [.int .i64 6,.int .i64 p,.string x,.string ⟨#[]⟩,.bool true,.slice la lk lc,.slice none 0 0,.slice none 0 0,.int .i64 0,.int .i64 0,.int .i64 0,.string ⟨#[]⟩,.slice none 0 0] V20):=by show Bx _ _ _; rw [hV20]; exact HBa.o.set (j:=10) (by simp)
    replace HBs : Hx (Bx bs [.int .i64 6,.int .i64 p,.string x,.string ⟨#[]⟩,.bool true,.slice la lk lc,.slice none 0 0,.slice none 0 0,.int .i64 0,.int .i64 0,.int .i64 0,.string ⟨#[]⟩,.slice none 0 0] V20):=by show Bx _ _ _; rw [hV20]; exact HBs.o.far (by have:=HLas.o; omega)
    replace HD : Hx (Rd rb tv ts en w (n3) V20):=by show Rd _ _ _ _ _ _ _; rw [hV20]; exact HD.o.set (by exact HLa.o)
    replace HOL : Hx (Off z none V20 (fun W => LS 4 (RPol W) W (.slice la lk lc) lb)):=by show Off _ _ _ _; rw [hV20]; exact HOL.o.set HZza.o
    obtain ⟨V21,hV21⟩:=nm (V20.setCell ⟨ba,11,none⟩ (.string ⟨#[]⟩))
    replace HBa : Hx (Bx ba [.int .i64 6,.int .i64 p,.string x,.string ⟨#[]⟩,.bool true,.slice la lk lc,.slice none 0 0,.slice none 0 0,.int .i64 0,.int .i64 0,.int .i64 0,.string ⟨#[]⟩,.slice none 0 0] V21):=by show Bx _ _ _; rw [hV21]; exact HBa.o.set (j:=11) (by simp)
    replace HBs : Hx (Bx bs [.int .i64 6,.int .i64 p,.string x,.string ⟨#[]⟩,.bool true,.slice la lk lc,.slice none 0 0,.slice none 0 0,.int .i64 0,.int .i64 0,.int .i64 0,.string ⟨#[]⟩,.slice none 0 0] V21):=by show Bx _ _ _; rw [hV21]; exact HBs.o.far (by have:=HLas.o; omega)
    replace HD : Hx (Rd rb tv ts en w (n3) V21):=by show Rd _ _ _ _ _ _ _; rw [hV21]; exact HD.o.set (by exact HLa.o)
    replace HOL : Hx (Off z none V21 (fun W => LS 4 (RPol W) W (.slice la lk lc) lb)):=by show Off _ _ _ _; rw [hV21]; exact HOL.o.set HZza.o
    obtain ⟨V22,hV22⟩:=nm (V21.setCell ⟨ba,12,none⟩ (.slice none 0 0))
    replace HBa : Hx (Bx ba [.int .i64 6,.int .i64 p,.string x,.string ⟨#[]⟩,.bool true,.slice la lk lc,.slice none 0 0,.slice none 0 0,.int .i64 0,.int .i64 0,.int .i64 0,.string ⟨#[]⟩,.slice none 0 0] V22):=by show Bx _ _ _; rw [hV22]; exact HBa.o.set (j:=12) (by simp)
    replace HBs : Hx (Bx bs [.int .i64 6,.int .i64 p,.string x,.string ⟨#[]⟩,.bool true,.slice la lk lc,.slice none 0 0,.slice none 0 0,.int .i64 0,.int .i64 0,.int .i64 0,.string ⟨#[]⟩,.slice none 0 0] V22):=by show Bx _ _ _; rw [hV22]; exact HBs.o.far (by have:=HLas.o; omega)
    replace HD : Hx (Rd rb tv ts en w (n3) V22):=by show Rd _ _ _ _ _ _ _; rw [hV22]; exact HD.o.set (by exact HLa.o)
    replace HOL : Hx (Off z none V22 (fun W => LS 4 (RPol W) W (.slice la lk lc) lb)):=by show Off _ _ _ _; rw [hV22]; exact HOL.o.set HZza.o
    go_wp2_with fail
    refine bodyPost_ret (v:=.agg #[.int .i64 6,.int .i64 p,.string x,.string ⟨#[]⟩,.bool true,.slice la lk lc,.slice none 0 0,.slice none 0 0,.int .i64 0,.int .i64 0,.int .i64 0,.string ⟨#[]⟩,.slice none 0 0]) (by simp [results,Tryz.results52,go_sem, *]) rfl ?_
    rw [← hV10,← hV11,← hV12,← hV13,← hV14,← hV15,← hV16,← hV17,← hV18,← hV19,← hV20,← hV21,← hV22]
    rw [HRP.o]
    refine ⟨_,_,_,_,_,_,_,_,_,_,_,_,_,_,_,_,_,_,_,_,_,rfl,fun W hW => ?_,HD.o.gr,HD.o.st⟩
    exact ⟨6,p,x,⟨#[]⟩,true,_,lb,_,[],_,[],_,_,_,_,_,noE,rfl,rfl,(HOL.o.base HWz.o) W hW,LS.nil,LS.nil,XE.none W⟩
set_option maxHeartbeats 8000000 in
set_option maxRecDepth 100000 in
theorem decl_7 (hall : ts.all isAlone = true) (n : Nat) (w : World) (h : St rb tv ts en n w) (hk : dKind (peekT ts n).text.data.toList = 7) :
    Calls Tryz.prog 52 #[.pointer (some ⟨rb,0,none⟩)] w (PostC ts en (pDecl ts en n) (DeclPost rb tv ts en w) (fun w' => w.grownBy w' (some rb))):=by
  obtain ⟨res,hres⟩:=nm (pDecl ts en n)
  rw [← hres]
  have HRP : Hx (res = bindR (pName ts (n + 1)) fun a n1 => pFunc ts en (posn ts en n) a n1):=by show _ = _; rw [hres]; unfold pDecl pGiven; rw [hk]; rfl
  obtain ⟨p,hp⟩:=nm (posn ts en n)
  rw [← hp] at HRP
  have HP:=hide hp
  have hn : n < ts.length:=peek_lt (fun h2 => by rw [h2] at hk; exact absurd hk (by decide))
  have h6:=h.2.2.1
  have HD:=hide (Rd.start h)
  have HK:=hide hk
  clear hres hp h hk
  obtain ⟨V1,hV1⟩:=nm (w.alloc (.cells #[.int .i64 0,.int .i64 0,.string ⟨#[]⟩,.string ⟨#[]⟩,.bool false,.slice none 0 0,.slice none 0 0,.slice none 0 0,.int .i64 0,.int .i64 0,.int .i64 0,.string ⟨#[]⟩,.slice none 0 0] 51))
  obtain ⟨ba,hba⟩:=nm w.heap.size
  have hsba:=hba
  have HLa : Hx (w.heap.size≤ba):=by show _≤_; rw [hsba]; exact HD.o.size
  have HBa : Hx (Bx ba [.int .i64 0,.int .i64 0,.string ⟨#[]⟩,.string ⟨#[]⟩,.bool false,.slice none 0 0,.slice none 0 0,.slice none 0 0,.int .i64 0,.int .i64 0,.int .i64 0,.string ⟨#[]⟩,.slice none 0 0] V1):=by show Bx _ _ _; rw [hV1,hsba]; exact Bx.new w [.int .i64 0,.int .i64 0,.string ⟨#[]⟩,.string ⟨#[]⟩,.bool false,.slice none 0 0,.slice none 0 0,.slice none 0 0,.int .i64 0,.int .i64 0,.int .i64 0,.string ⟨#[]⟩,.slice none 0 0] 51
  replace HD : Hx (Rd rb tv ts en w (n) V1):=by show Rd _ _ _ _ _ _ _; rw [hV1]; exact HD.o.over (bA _ _)
  have K0:=hide (here_c n _ HD.o.st)
  go_enter Tryz.func52,Tryz.ntmps52
  go_wp2_with fail
  rw [← hV1,← hba]
  clear hsba
  clear hba hV1
  refine K0.o.mono ?_
  rintro e wh ⟨rfl,hg,hs⟩
  rw [← HP.o]
  replace HBa:=hide (HBa.o.keep hg (by have:=HD.o.rlt; have:=HLa.o; omega))
  replace HD : Hx (Rd rb tv ts en w (n) wh):=HD.o.call hg hs
  clear hg hs
  obtain ⟨kk,hkk⟩:=nm (peekT ts n).kind
  obtain ⟨pp,hpp⟩:=nm (peekT ts n).pos
  obtain ⟨tx,htx⟩:=nm (peekT ts n).text
  have K1:=hide (peek_c n _ HD.o.st)
  rw [← hkk,← hpp,← htx] at K1
  have HTX:=hide htx
  have hft:=field_text kk pp tx
  clear K0 hkk hpp htx
  go_wp2_with fail
  refine K1.o.mono ?_
  rintro e wp ⟨rfl,hg,hs⟩
  replace HBa:=hide (HBa.o.keep hg (by have:=HD.o.rlt; have:=HLa.o; omega))
  replace HD : Hx (Rd rb tv ts en w (n) wp):=HD.o.call hg hs
  clear hg hs
  have KD : Hx (∀ W,Calls Tryz.prog 94 #[.string tx] W fun e w' => e = .returned (.int .i64 7)∧W = w'):=fun W => by
    have t:=declKind_any tx W
    rw [HTX.o,HK.o] at t
    rw [HTX.o]
    exact t.mono fun e w' h => ⟨h.1,h.2.symm⟩
  clear K1
  go_wp2_with fail
  refine (KD.o _).mono ?_
  rintro e w' ⟨rfl,rfl⟩
  clear hft KD
  obtain ⟨V2,hV2⟩:=nm (wp.alloc (.cells #[.int .i64 7,.int .i64 p,.string ⟨#[]⟩,.string ⟨#[]⟩,.bool false,.slice none 0 0,.slice none 0 0,.slice none 0 0,.int .i64 0,.int .i64 0,.int .i64 0,.string ⟨#[]⟩,.slice none 0 0] 51))
  obtain ⟨bs,hbs⟩:=nm wp.heap.size
  have hsbs:=hbs
  have HLs : Hx (w.heap.size≤bs):=by show _≤_; rw [hsbs]; exact HD.o.size
  have HLas : Hx (ba < bs):=by show _ < _; rw [hsbs]; exact HBa.o.lt
  have HBs : Hx (Bx bs [.int .i64 7,.int .i64 p,.string ⟨#[]⟩,.string ⟨#[]⟩,.bool false,.slice none 0 0,.slice none 0 0,.slice none 0 0,.int .i64 0,.int .i64 0,.int .i64 0,.string ⟨#[]⟩,.slice none 0 0] V2):=by show Bx _ _ _; rw [hV2,hsbs]; exact Bx.new wp [.int .i64 7,.int .i64 p,.string ⟨#[]⟩,.string ⟨#[]⟩,.bool false,.slice none 0 0,.slice none 0 0,.slice none 0 0,.int .i64 0,.int .i64 0,.int .i64 0,.string ⟨#[]⟩,.slice none 0 0] 51
  replace HBa : Hx (Bx ba [.int .i64 0,.int .i64 0,.string ⟨#[]⟩,.string ⟨#[]⟩,.bool false,.slice none 0 0,.slice none 0 0,.slice none 0 0,.int .i64 0,.int .i64 0,.int .i64 0,.string ⟨#[]⟩,.slice none 0 0] V2):=by show Bx _ _ _; rw [hV2]; exact HBa.o.over (bA _ _)
  replace HD : Hx (Rd rb tv ts en w (n) V2):=by show Rd _ _ _ _ _ _ _; rw [hV2]; exact HD.o.over (bA _ _)
  go_upto_region 4 with fail
  rw [← hV2,← hbs]
  clear hsbs
  clear hbs hV2
  obtain ⟨rc0,rc1,rc2,rf1⟩:=HD.o.st.cells
  have hnx:=st_next HD.o.st hn
  obtain ⟨V3,hV3⟩:=nm (V2.setCell ⟨rb,1,none⟩ (.int .i64 ((n : Int) + 1)))
  rw [← hV3] at hnx
  obtain ⟨hs,hg⟩:=hnx
  replace HBa:=hide (HBa.o.keep hg (by have:=HD.o.rlt; have:=HLa.o; omega))
  replace HBs:=hide (HBs.o.keep hg (by have:=HD.o.rlt; have:=HLs.o; omega))
  replace HD : Hx (Rd rb tv ts en w (n + 1) V3):=HD.o.call hg hs
  clear hg hs
  have K2:=hide (name_c (n + 1) _ HD.o.st)
  go_wp2_with fail
  rw [← hV3]
  clear rf1 rc2 rc1 rc0
  clear hV3
  clear hn h6
  refine K2.o.mono ?_
  rintro e w4 hpo
  obtain ⟨m,ho⟩ | ⟨x,n1,ho⟩:=res_cases (pName ts (n + 1))
  · replace hpo : PostC ts en (pName ts (n + 1)) _ _ e w4:=hpo
    rw [ho] at hpo
    obtain ⟨rfl,hg⟩:=hpo
    have HO : Hx (res = .inr m):=by show _ = _; rw [HRP.o,ho]; rfl
    have HG:=hide (grownBy_trans HD.o.gr hg)
    clear hg ho
    unfold gaveUpAt
    go_wp2_with fail
    refine ⟨rfl,?_⟩
    rw [HO.o]
    exact ⟨rfl,HG.o⟩
  replace hpo : PostC ts en (pName ts (n + 1)) _ _ e w4:=hpo
  rw [ho] at hpo
  obtain ⟨rfl,hg,hs⟩:=hpo
  have hr:=HRP.o
  rw [ho,bindR_inl] at hr
  replace HRP:=hide hr
  have HOO:=hide ho
  clear hr ho
  clear K2
  clear HOO
  replace HBa:=hide (HBa.o.keep hg (by have:=HD.o.rlt; have:=HLa.o; omega))
  replace HBs:=hide (HBs.o.keep hg (by have:=HD.o.rlt; have:=HLs.o; omega))
  replace HD : Hx (Rd rb tv ts en w (n1) w4):=HD.o.call hg hs
  clear hg hs
  obtain ⟨cs0,cs1,cs2,cs3,cs4,cs5,cs6,cs7,cs8,cs9,cs10,cs11,cs12⟩:=rc13 HBs.o.row
  have fs0:=HBs.o.fz 0
  have fs1:=HBs.o.fz 1
  have fs2:=HBs.o.fz 2
  have fs3:=HBs.o.fz 3
  have fs4:=HBs.o.fz 4
  have fs5:=HBs.o.fz 5
  have fs6:=HBs.o.fz 6
  have fs7:=HBs.o.fz 7
  have fs8:=HBs.o.fz 8
  have fs9:=HBs.o.fz 9
  have fs10:=HBs.o.fz 10
  have fs11:=HBs.o.fz 11
  have fs12:=HBs.o.fz 12
  obtain ⟨V5,hV5⟩:=nm (w4.setCell ⟨bs,2,none⟩ (.string x))
  replace HBs : Hx (Bx bs [.int .i64 7,.int .i64 p,.string x,.string ⟨#[]⟩,.bool false,.slice none 0 0,.slice none 0 0,.slice none 0 0,.int .i64 0,.int .i64 0,.int .i64 0,.string ⟨#[]⟩,.slice none 0 0] V5):=by show Bx _ _ _; rw [hV5]; exact HBs.o.set (j:=2) (by simp)
  replace HBa : Hx (Bx ba [.int .i64 0,.int .i64 0,.string ⟨#[]⟩,.string ⟨#[]⟩,.bool false,.slice none 0 0,.slice none 0 0,.slice none 0 0,.int .i64 0,.int .i64 0,.int .i64 0,.string ⟨#[]⟩,.slice none 0 0] V5):=by show Bx _ _ _; rw [hV5]; exact HBa.o.far (by have:=HLas.o; omega)
  replace HD : Hx (Rd rb tv ts en w (n1) V5):=by show Rd _ _ _ _ _ _ _; rw [hV5]; exact HD.o.set (by exact HLs.o)
  have K3:=hide (function_c hall (bs:=bs) p x n1 _ HD.o HLs.o HBs.o)
  go_wp2_with fail
  rw [← hV5]
  clear fs12 fs11 fs10 fs9 fs8 fs7 fs6 fs5 fs4 fs3 fs2 fs1 fs0 cs12 cs11 cs10 cs9 cs8 cs7 cs6 cs5 cs4 cs3 cs2 cs1 cs0
  clear hV5
  obtain ⟨z,hz⟩:=nm V5.heap.size
  have HWz : Hx (w.heap.size≤z):=by show _≤_; rw [hz]; exact HD.o.size
  have HZza : Hx (ba < z):=by show _ < _; rw [hz]; exact HBa.o.lt
  have HZzs : Hx (bs < z):=by show _ < _; rw [hz]; exact HBs.o.lt
  refine K3.o.mono ?_
  rintro e w6 hpo
  obtain ⟨m,ho⟩ | ⟨sd,n2,ho⟩:=res_cases (pFunc ts en p x n1)
  · rw [ho] at hpo
    obtain ⟨rfl,hg⟩:=hpo
    have HO : Hx (res = .inr m):=by show _ = _; rw [HRP.o,ho]
    have HG:=hide hg
    clear hg ho
    unfold gaveUpAt
    go_wp2_with fail
    refine ⟨rfl,?_⟩
    rw [HO.o]
    exact ⟨rfl,HG.o⟩
  rw [ho] at hpo
  obtain ⟨rfl,pa,pk,pc,fa,bk,bc,e0,e1,e2,e3,q0,q1,q2,hbx,hoff,hrd,hfz⟩:=hpo
  have hr:=HRP.o
  rw [ho] at hr
  replace HRP:=hide hr
  rw [← hz] at hoff
  have HOFF:=hide hoff
  have HBa2 : Hx (Bx ba [.int .i64 0,.int .i64 0,.string ⟨#[]⟩,.string ⟨#[]⟩,.bool false,.slice none 0 0,.slice none 0 0,.slice none 0 0,.int .i64 0,.int .i64 0,.int .i64 0,.string ⟨#[]⟩,.slice none 0 0] w6):=HBa.o.fz' hfz (by have:=HD.o.rlt; have:=HLa.o; omega) (by have:=HLas.o; omega)
  replace HBa:=HBa2
  replace HBs : Hx (Bx bs [.int .i64 7,.int .i64 p,.string x,.string ⟨#[]⟩,.bool false,.slice none 0 0,.slice pa pk pc,.slice fa bk bc,.int .i64 e0,.int .i64 e1,.int .i64 e2,.string e3,.slice q0 q1 q2] w6):=hbx
  replace HD : Hx (Rd rb tv ts en w n2 w6):=hrd
  clear hr ho hoff hbx hrd hfz hz HBa2 K3
  have neas : ba≠bs:=by have:=HLas.o; omega
  have nesa : bs≠ba:=by have:=HLas.o; omega
  obtain ⟨ca0,ca1,ca2,ca3,ca4,ca5,ca6,ca7,ca8,ca9,ca10,ca11,ca12⟩:=rc13 HBa.o.row
  have fa0:=HBa.o.fz 0
  have fa1:=HBa.o.fz 1
  have fa2:=HBa.o.fz 2
  have fa3:=HBa.o.fz 3
  have fa4:=HBa.o.fz 4
  have fa5:=HBa.o.fz 5
  have fa6:=HBa.o.fz 6
  have fa7:=HBa.o.fz 7
  have fa8:=HBa.o.fz 8
  have fa9:=HBa.o.fz 9
  have fa10:=HBa.o.fz 10
  have fa11:=HBa.o.fz 11
  have fa12:=HBa.o.fz 12
  obtain ⟨cs0,cs1,cs2,cs3,cs4,cs5,cs6,cs7,cs8,cs9,cs10,cs11,cs12⟩:=rc13 HBs.o.row
  have fs0:=HBs.o.fz 0
  have fs1:=HBs.o.fz 1
  have fs2:=HBs.o.fz 2
  have fs3:=HBs.o.fz 3
  have fs4:=HBs.o.fz 4
  have fs5:=HBs.o.fz 5
  have fs6:=HBs.o.fz 6
  have fs7:=HBs.o.fz 7
  have fs8:=HBs.o.fz 8
  have fs9:=HBs.o.fz 9
  have fs10:=HBs.o.fz 10
  have fs11:=HBs.o.fz 11
  have fs12:=HBs.o.fz 12
  obtain ⟨V7,hV7⟩:=nm (w6.setCell ⟨ba,0,none⟩ (.int .i64 7))
  replace HBa : Hx (Bx ba [.int .i64 7,.int .i64 0,.string ⟨#[]⟩,.string ⟨#[]⟩,.bool false,.slice none 0 0,.slice none 0 0,.slice none 0 0,.int .i64 0,.int .i64 0,.int .i64 0,.string ⟨#[]⟩,.slice none 0 0] V7):=by show Bx _ _ _; rw [hV7]; exact HBa.o.set (j:=0) (by simp)
  replace HBs : Hx (Bx bs [.int .i64 7,.int .i64 p,.string x,.string ⟨#[]⟩,.bool false,.slice none 0 0,.slice pa pk pc,.slice fa bk bc,.int .i64 e0,.int .i64 e1,.int .i64 e2,.string e3,.slice q0 q1 q2] V7):=by show Bx _ _ _; rw [hV7]; exact HBs.o.far (by have:=HLas.o; omega)
  replace HD : Hx (Rd rb tv ts en w (n2) V7):=by show Rd _ _ _ _ _ _ _; rw [hV7]; exact HD.o.set (by exact HLa.o)
  replace HOFF : Hx (Off z none V7 (fun W => XD W (2 * ts.length + 3) [.int .i64 7,.int .i64 p,.string x,.string ⟨#[]⟩,.bool false,.slice none 0 0,.slice pa pk pc,.slice fa bk bc,.int .i64 e0,.int .i64 e1,.int .i64 e2,.string e3,.slice q0 q1 q2] sd)):=by show Off _ _ _ _; rw [hV7]; exact HOFF.o.set HZza.o
  obtain ⟨V8,hV8⟩:=nm (V7.setCell ⟨ba,1,none⟩ (.int .i64 p))
  replace HBa : Hx (Bx ba [.int .i64 7,.int .i64 p,.string ⟨#[]⟩,.string ⟨#[]⟩,.bool false,.slice none 0 0,.slice none 0 0,.slice none 0 0,.int .i64 0,.int .i64 0,.int .i64 0,.string ⟨#[]⟩,.slice none 0 0] V8):=by show Bx _ _ _; rw [hV8]; exact HBa.o.set (j:=1) (by simp)
  replace HBs : Hx (Bx bs [.int .i64 7,.int .i64 p,.string x,.string ⟨#[]⟩,.bool false,.slice none 0 0,.slice pa pk pc,.slice fa bk bc,.int .i64 e0,.int .i64 e1,.int .i64 e2,.string e3,.slice q0 q1 q2] V8):=by show Bx _ _ _; rw [hV8]; exact HBs.o.far (by have:=HLas.o; omega)
  replace HD : Hx (Rd rb tv ts en w (n2) V8):=by show Rd _ _ _ _ _ _ _; rw [hV8]; exact HD.o.set (by exact HLa.o)
  replace HOFF : Hx (Off z none V8 (fun W => XD W (2 * ts.length + 3) [.int .i64 7,.int .i64 p,.string x,.string ⟨#[]⟩,.bool false,.slice none 0 0,.slice pa pk pc,.slice fa bk bc,.int .i64 e0,.int .i64 e1,.int .i64 e2,.string e3,.slice q0 q1 q2] sd)):=by show Off _ _ _ _; rw [hV8]; exact HOFF.o.set HZza.o
  obtain ⟨V9,hV9⟩:=nm (V8.setCell ⟨ba,2,none⟩ (.string x))
  replace HBa : Hx (Bx ba [.int .i64 7,.int .i64 p,.string x,.string ⟨#[]⟩,.bool false,.slice none 0 0,.slice none 0 0,.slice none 0 0,.int .i64 0,.int .i64 0,.int .i64 0,.string ⟨#[]⟩,.slice none 0 0] V9):=by show Bx _ _ _; rw [hV9]; exact HBa.o.set (j:=2) (by simp)
  replace HBs : Hx (Bx bs [.int .i64 7,.int .i64 p,.string x,.string ⟨#[]⟩,.bool false,.slice none 0 0,.slice pa pk pc,.slice fa bk bc,.int .i64 e0,.int .i64 e1,.int .i64 e2,.string e3,.slice q0 q1 q2] V9):=by show Bx _ _ _; rw [hV9]; exact HBs.o.far (by have:=HLas.o; omega)
  replace HD : Hx (Rd rb tv ts en w (n2) V9):=by show Rd _ _ _ _ _ _ _; rw [hV9]; exact HD.o.set (by exact HLa.o)
  replace HOFF : Hx (Off z none V9 (fun W => XD W (2 * ts.length + 3) [.int .i64 7,.int .i64 p,.string x,.string ⟨#[]⟩,.bool false,.slice none 0 0,.slice pa pk pc,.slice fa bk bc,.int .i64 e0,.int .i64 e1,.int .i64 e2,.string e3,.slice q0 q1 q2] sd)):=by show Off _ _ _ _; rw [hV9]; exact HOFF.o.set HZza.o
  obtain ⟨V10,hV10⟩:=nm (V9.setCell ⟨ba,3,none⟩ (.string ⟨#[]⟩))
  replace HBa : Hx (Bx ba [.int .i64 7,.int .i64 p,.string x,.string ⟨#[]⟩,.bool false,.slice none 0 0,.slice none 0 0,.slice none 0 0,.int .i64 0,.int .i64 0,.int .i64 0,.string ⟨#[]⟩,.slice none 0 0] V10):=by show Bx _ _ _; rw [hV10]; exact HBa.o.set (j:=3) (by simp)
  replace HBs : Hx (Bx bs [.int .i64 7,.int .i64 p,.string x,.string ⟨#[]⟩,.bool false,.slice none 0 0,.slice pa pk pc,.slice fa bk bc,.int .i64 e0,.int .i64 e1,.int .i64 e2,.string e3,.slice q0 q1 q2] V10):=by show Bx _ _ _; rw [hV10]; exact HBs.o.far (by have:=HLas.o; omega)
  replace HD : Hx (Rd rb tv ts en w (n2) V10):=by show Rd _ _ _ _ _ _ _; rw [hV10]; exact HD.o.set (by exact HLa.o)
  replace HOFF : Hx (Off z none V10 (fun W => XD W (2 * ts.length + 3) [.int .i64 7,.int .i64 p,.string x,.string ⟨#[]⟩,.bool false,.slice none 0 0,.slice pa pk pc,.slice fa bk bc,.int .i64 e0,.int .i64 e1,.int .i64 e2,.string e3,.slice q0 q1 q2] sd)):=by show Off _ _ _ _; rw [hV10]; exact HOFF.o.set HZza.o
  obtain ⟨V11,hV11⟩:=nm (V10.setCell ⟨ba,4,none⟩ (.bool false))
  replace HBa : Hx (Bx ba [.int .i64 7,.int .i64 p,.string x,.string ⟨#[]⟩,.bool false,.slice none 0 0,.slice none 0 0,.slice none 0 0,.int .i64 0,.int .i64 0,.int .i64 0,.string ⟨#[]⟩,.slice none 0 0] V11):=by show Bx _ _ _; rw [hV11]; exact HBa.o.set (j:=4) (by simp)
  replace HBs : Hx (Bx bs [.int .i64 7,.int .i64 p,.string x,.string ⟨#[]⟩,.bool false,.slice none 0 0,.slice pa pk pc,.slice fa bk bc,.int .i64 e0,.int .i64 e1,.int .i64 e2,.string e3,.slice q0 q1 q2] V11):=by show Bx _ _ _; rw [hV11]; exact HBs.o.far (by have:=HLas.o; omega)
  replace HD : Hx (Rd rb tv ts en w (n2) V11):=by show Rd _ _ _ _ _ _ _; rw [hV11]; exact HD.o.set (by exact HLa.o)
  replace HOFF : Hx (Off z none V11 (fun W => XD W (2 * ts.length + 3) [.int .i64 7,.int .i64 p,.string x,.string ⟨#[]⟩,.bool false,.slice none 0 0,.slice pa pk pc,.slice fa bk bc,.int .i64 e0,.int .i64 e1,.int .i64 e2,.string e3,.slice q0 q1 q2] sd)):=by show Off _ _ _ _; rw [hV11]; exact HOFF.o.set HZza.o
  obtain ⟨V12,hV12⟩:=nm (V11.setCell ⟨ba,5,none⟩ (.slice none 0 0))
  replace HBa : Hx (Bx ba [.int .i64 7,.int .i64 p,.string x,.string ⟨#[]⟩,.bool false,.slice none 0 0,.slice none 0 0,.slice none 0 0,.int .i64 0,.int .i64 0,.int .i64 0,.string ⟨#[]⟩,.slice none 0 0] V12):=by show Bx _ _ _; rw [hV12]; exact HBa.o.set (j:=5) (by simp)
  replace HBs : Hx (Bx bs [.int .i64 7,.int .i64 p,.string x,.string ⟨#[]⟩,.bool false,.slice none 0 0,.slice pa pk pc,.slice fa bk bc,.int .i64 e0,.int .i64 e1,.int .i64 e2,.string e3,.slice q0 q1 q2] V12):=by show Bx _ _ _; rw [hV12]; exact HBs.o.far (by have:=HLas.o; omega)
  replace HD : Hx (Rd rb tv ts en w (n2) V12):=by show Rd _ _ _ _ _ _ _; rw [hV12]; exact HD.o.set (by exact HLa.o)
  replace HOFF : Hx (Off z none V12 (fun W => XD W (2 * ts.length + 3) [.int .i64 7,.int .i64 p,.string x,.string ⟨#[]⟩,.bool false,.slice none 0 0,.slice pa pk pc,.slice fa bk bc,.int .i64 e0,.int .i64 e1,.int .i64 e2,.string e3,.slice q0 q1 q2] sd)):=by show Off _ _ _ _; rw [hV12]; exact HOFF.o.set HZza.o
  obtain ⟨V13,hV13⟩:=nm (V12.setCell ⟨ba,6,none⟩ (.slice pa pk pc))
  replace HBa : Hx (Bx ba [.int .i64 7,.int .i64 p,.string x,.string ⟨#[]⟩,.bool false,.slice none 0 0,.slice pa pk pc,.slice none 0 0,.int .i64 0,.int .i64 0,.int .i64 0,.string ⟨#[]⟩,.slice none 0 0] V13):=by show Bx _ _ _; rw [hV13]; exact HBa.o.set (j:=6) (by simp)
  replace HBs : Hx (Bx bs [.int .i64 7,.int .i64 p,.string x,.string ⟨#[]⟩,.bool false,.slice none 0 0,.slice pa pk pc,.slice fa bk bc,.int .i64 e0,.int .i64 e1,.int .i64 e2,.string e3,.slice q0 q1 q2] V13):=by show Bx _ _ _; rw [hV13]; exact HBs.o.far (by have:=HLas.o; omega)
  replace HD : Hx (Rd rb tv ts en w (n2) V13):=by show Rd _ _ _ _ _ _ _; rw [hV13]; exact HD.o.set (by exact HLa.o)
  replace HOFF : Hx (Off z none V13 (fun W => XD W (2 * ts.length + 3) [.int .i64 7,.int .i64 p,.string x,.string ⟨#[]⟩,.bool false,.slice none 0 0,.slice pa pk pc,.slice fa bk bc,.int .i64 e0,.int .i64 e1,.int .i64 e2,.string e3,.slice q0 q1 q2] sd)):=by show Off _ _ _ _; rw [hV13]; exact HOFF.o.set HZza.o
  obtain ⟨V14,hV14⟩:=nm (V13.setCell ⟨ba,7,none⟩ (.slice fa bk bc))
  replace HBa : Hx (Bx ba [.int .i64 7,.int .i64 p,.string x,.string ⟨#[]⟩,.bool false,.slice none 0 0,.slice pa pk pc,.slice fa bk bc,.int .i64 0,.int .i64 0,.int .i64 0,.string ⟨#[]⟩,.slice none 0 0] V14):=by show Bx _ _ _; rw [hV14]; exact HBa.o.set (j:=7) (by simp)
  replace HBs : Hx (Bx bs [.int .i64 7,.int .i64 p,.string x,.string ⟨#[]⟩,.bool false,.slice none 0 0,.slice pa pk pc,.slice fa bk bc,.int .i64 e0,.int .i64 e1,.int .i64 e2,.string e3,.slice q0 q1 q2] V14):=by show Bx _ _ _; rw [hV14]; exact HBs.o.far (by have:=HLas.o; omega)
  replace HD : Hx (Rd rb tv ts en w (n2) V14):=by show Rd _ _ _ _ _ _ _; rw [hV14]; exact HD.o.set (by exact HLa.o)
  replace HOFF : Hx (Off z none V14 (fun W => XD W (2 * ts.length + 3) [.int .i64 7,.int .i64 p,.string x,.string ⟨#[]⟩,.bool false,.slice none 0 0,.slice pa pk pc,.slice fa bk bc,.int .i64 e0,.int .i64 e1,.int .i64 e2,.string e3,.slice q0 q1 q2] sd)):=by show Off _ _ _ _; rw [hV14]; exact HOFF.o.set HZza.o
  obtain ⟨V15,hV15⟩:=nm (V14.setCell ⟨ba,8,none⟩ (.int .i64 e0))
  replace HBa : Hx (Bx ba [.int .i64 7,.int .i64 p,.string x,.string ⟨#[]⟩,.bool false,.slice none 0 0,.slice pa pk pc,.slice fa bk bc,.int .i64 e0,.int .i64 0,.int .i64 0,.string ⟨#[]⟩,.slice none 0 0] V15):=by show Bx _ _ _; rw [hV15]; exact HBa.o.set (j:=8) (by simp)
  replace HBs : Hx (Bx bs [.int .i64 7,.int .i64 p,.string x,.string ⟨#[]⟩,.bool false,.slice none 0 0,.slice pa pk pc,.slice fa bk bc,.int .i64 e0,.int .i64 e1,.int .i64 e2,.string e3,.slice q0 q1 q2] V15):=by show Bx _ _ _; rw [hV15]; exact HBs.o.far (by have:=HLas.o; omega)
  replace HD : Hx (Rd rb tv ts en w (n2) V15):=by show Rd _ _ _ _ _ _ _; rw [hV15]; exact HD.o.set (by exact HLa.o)
  replace HOFF : Hx (Off z none V15 (fun W => XD W (2 * ts.length + 3) [.int .i64 7,.int .i64 p,.string x,.string ⟨#[]⟩,.bool false,.slice none 0 0,.slice pa pk pc,.slice fa bk bc,.int .i64 e0,.int .i64 e1,.int .i64 e2,.string e3,.slice q0 q1 q2] sd)):=by show Off _ _ _ _; rw [hV15]; exact HOFF.o.set HZza.o
  obtain ⟨V16,hV16⟩:=nm (V15.setCell ⟨ba,9,none⟩ (.int .i64 e1))
  replace HBa : Hx (Bx ba [.int .i64 7,.int .i64 p,.string x,.string ⟨#[]⟩,.bool false,.slice none 0 0,.slice pa pk pc,.slice fa bk bc,.int .i64 e0,.int .i64 e1,.int .i64 0,.string ⟨#[]⟩,.slice none 0 0] V16):=by show Bx _ _ _; rw [hV16]; exact HBa.o.set (j:=9) (by simp)
  replace HBs : Hx (Bx bs [.int .i64 7,.int .i64 p,.string x,.string ⟨#[]⟩,.bool false,.slice none 0 0,.slice pa pk pc,.slice fa bk bc,.int .i64 e0,.int .i64 e1,.int .i64 e2,.string e3,.slice q0 q1 q2] V16):=by show Bx _ _ _; rw [hV16]; exact HBs.o.far (by have:=HLas.o; omega)
  replace HD : Hx (Rd rb tv ts en w (n2) V16):=by show Rd _ _ _ _ _ _ _; rw [hV16]; exact HD.o.set (by exact HLa.o)
  replace HOFF : Hx (Off z none V16 (fun W => XD W (2 * ts.length + 3) [.int .i64 7,.int .i64 p,.string x,.string ⟨#[]⟩,.bool false,.slice none 0 0,.slice pa pk pc,.slice fa bk bc,.int .i64 e0,.int .i64 e1,.int .i64 e2,.string e3,.slice q0 q1 q2] sd)):=by show Off _ _ _ _; rw [hV16]; exact HOFF.o.set HZza.o
  obtain ⟨V17,hV17⟩:=nm (V16.setCell ⟨ba,10,none⟩ (.int .i64 e2))
  replace HBa : Hx (Bx ba [.int .i64 7,.int .i64 p,.string x,.string ⟨#[]⟩,.bool false,.slice none 0 0,.slice pa pk pc,.slice fa bk bc,.int .i64 e0,.int .i64 e1,.int .i64 e2,.string ⟨#[]⟩,.slice none 0 0] V17):=by show Bx _ _ _; rw [hV17]; exact HBa.o.set (j:=10) (by simp)
  replace HBs : Hx (Bx bs [.int .i64 7,.int .i64 p,.string x,.string ⟨#[]⟩,.bool false,.slice none 0 0,.slice pa pk pc,.slice fa bk bc,.int .i64 e0,.int .i64 e1,.int .i64 e2,.string e3,.slice q0 q1 q2] V17):=by show Bx _ _ _; rw [hV17]; exact HBs.o.far (by have:=HLas.o; omega)
  replace HD : Hx (Rd rb tv ts en w (n2) V17):=by show Rd _ _ _ _ _ _ _; rw [hV17]; exact HD.o.set (by exact HLa.o)
  replace HOFF : Hx (Off z none V17 (fun W => XD W (2 * ts.length + 3) [.int .i64 7,.int .i64 p,.string x,.string ⟨#[]⟩,.bool false,.slice none 0 0,.slice pa pk pc,.slice fa bk bc,.int .i64 e0,.int .i64 e1,.int .i64 e2,.string e3,.slice q0 q1 q2] sd)):=by show Off _ _ _ _; rw [hV17]; exact HOFF.o.set HZza.o
  obtain ⟨V18,hV18⟩:=nm (V17.setCell ⟨ba,11,none⟩ (.string e3))
  replace HBa : Hx (Bx ba [.int .i64 7,.int .i64 p,.string x,.string ⟨#[]⟩,.bool false,.slice none 0 0,.slice pa pk pc,.slice fa bk bc,.int .i64 e0,.int .i64 e1,.int .i64 e2,.string e3,.slice none 0 0] V18):=by show Bx _ _ _; rw [hV18]; exact HBa.o.set (j:=11) (by simp)
  replace HBs : Hx (Bx bs [.int .i64 7,.int .i64 p,.string x,.string ⟨#[]⟩,.bool false,.slice none 0 0,.slice pa pk pc,.slice fa bk bc,.int .i64 e0,.int .i64 e1,.int .i64 e2,.string e3,.slice q0 q1 q2] V18):=by show Bx _ _ _; rw [hV18]; exact HBs.o.far (by have:=HLas.o; omega)
  replace HD : Hx (Rd rb tv ts en w (n2) V18):=by show Rd _ _ _ _ _ _ _; rw [hV18]; exact HD.o.set (by exact HLa.o)
  replace HOFF : Hx (Off z none V18 (fun W => XD W (2 * ts.length + 3) [.int .i64 7,.int .i64 p,.string x,.string ⟨#[]⟩,.bool false,.slice none 0 0,.slice pa pk pc,.slice fa bk bc,.int .i64 e0,.int .i64 e1,.int .i64 e2,.string e3,.slice q0 q1 q2] sd)):=by show Off _ _ _ _; rw [hV18]; exact HOFF.o.set HZza.o
  obtain ⟨V19,hV19⟩:=nm (V18.setCell ⟨ba,12,none⟩ (.slice q0 q1 q2))
  replace HBa : Hx (Bx ba [.int .i64 7,.int .i64 p,.string x,.string ⟨#[]⟩,.bool false,.slice none 0 0,.slice pa pk pc,.slice fa bk bc,.int .i64 e0,.int .i64 e1,.int .i64 e2,.string e3,.slice q0 q1 q2] V19):=by show Bx _ _ _; rw [hV19]; exact HBa.o.set (j:=12) (by simp)
  replace HBs : Hx (Bx bs [.int .i64 7,.int .i64 p,.string x,.string ⟨#[]⟩,.bool false,.slice none 0 0,.slice pa pk pc,.slice fa bk bc,.int .i64 e0,.int .i64 e1,.int .i64 e2,.string e3,.slice q0 q1 q2] V19):=by show Bx _ _ _; rw [hV19]; exact HBs.o.far (by have:=HLas.o; omega)
  replace HD : Hx (Rd rb tv ts en w (n2) V19):=by show Rd _ _ _ _ _ _ _; rw [hV19]; exact HD.o.set (by exact HLa.o)
  replace HOFF : Hx (Off z none V19 (fun W => XD W (2 * ts.length + 3) [.int .i64 7,.int .i64 p,.string x,.string ⟨#[]⟩,.bool false,.slice none 0 0,.slice pa pk pc,.slice fa bk bc,.int .i64 e0,.int .i64 e1,.int .i64 e2,.string e3,.slice q0 q1 q2] sd)):=by show Off _ _ _ _; rw [hV19]; exact HOFF.o.set HZza.o
  go_wp2_with fail
  refine bodyPost_ret (v:=.agg #[.int .i64 7,.int .i64 p,.string x,.string ⟨#[]⟩,.bool false,.slice none 0 0,.slice pa pk pc,.slice fa bk bc,.int .i64 e0,.int .i64 e1,.int .i64 e2,.string e3,.slice q0 q1 q2]) (by simp [results,Tryz.results52,go_sem, *]) rfl ?_
  rw [← hV7,← hV8,← hV9,← hV10,← hV11,← hV12,← hV13,← hV14,← hV15,← hV16,← hV17,← hV18,← hV19]
  rw [HRP.o]
  refine ⟨_,_,_,_,_,_,_,_,_,_,_,_,_,_,_,_,_,_,_,_,_,rfl,fun W hW => ?_,HD.o.gr,HD.o.st⟩
  exact (HOFF.o.base HWz.o) W hW
end
end Go.Proofs.YtipngnjffjajpaaGreatDoor.Tx
