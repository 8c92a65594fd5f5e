/- Package tree's reader: a command, whatever stands there. -/
import Derived.Test.YtipngnjffjajpaaGreatDoorG11
import Derived.Deep.Cut
namespace Go.Proofs.YtipngnjffjajpaaGreatDoor.Tx
open Go.RowKit
set_option linter.unusedVariables false
theorem Bx.fz' {rb sb b : Nat} {cs : List Value} {u V : World} (h : Bx b cs u) (hz : Fz rb sb u V) (h1 : b≠rb) (h2 : b≠sb) : Bx b cs V :=
  ⟨fun j x hx => (World.cell?_of_block (a:=⟨b,j,none⟩) (hz.2 b h.lt h1 h2)).trans (h.row j x hx),fun j => (World.frozen?_of_block (a:=⟨b,j,none⟩) (hz.2 b h.lt h1 h2)).trans (h.fz j),Nat.lt_of_lt_of_le h.lt hz.1⟩
/-- what a command's call is to answer. -/
def StmtPost (rb : Nat) (tv : Value) (ts : List Tok) (en f n : Nat) (w : World) (d : D) (n1 : Nat) (e : Ending) (w' : World) : Prop:=∃ (kd a : Int) (x y : ByteArray) (e0 e1 e2 : Int) (e3 : ByteArray) (q0 : Option Addr) (q1 q2 : Nat) (q3 : Option Addr) (q4 q5 : Nat) (q6 : Option Addr) (q7 q8 : Nat) (q9 : Option Addr) (r0 r1 : Nat),e = .returned (.agg #[.int .i64 kd,.int .i64 a,.string x,.string y,.int .i64 e0,.int .i64 e1,.int .i64 e2,.string e3,.slice q0 q1 q2,.slice q3 q4 q5,.slice q6 q7 q8,.slice q9 r0 r1])∧Off w.heap.size none w' (fun W => XC W f [.int .i64 kd,.int .i64 a,.string x,.string y,.int .i64 e0,.int .i64 e1,.int .i64 e2,.string e3,.slice q0 q1 q2,.slice q3 q4 q5,.slice q6 q7 q8,.slice q9 r0 r1] d)∧n + 1≤n1∧w.grownBy w' (some rb)∧St rb tv ts en n1 w'
section
variable {rb : Nat} {tv : Value} {ts : List Tok} {en : Nat}
theorem takes_f {x : ByteArray} {l : List UInt8} (hl : x.data.toList = l) {n : Nat} (w : World) (h : St rb tv ts en n w) (hq : isT ts n l = false) : Calls Tryz.prog 98 #[.pointer (some ⟨rb,0,none⟩),.string x] w fun e w' => e = .returned (.bool false)∧w.grownBy w' (some rb)∧St rb tv ts en n w':=by
  subst hl
  exact (takes_no rb tv ts en n x w h hq).mono fun e w' ⟨h1,h2⟩ => ⟨h1,grownBy_below h2,h.below h2⟩
theorem takes_t {x : ByteArray} {l : List UInt8} (hl : x.data.toList = l) (hne : l≠[]) {n : Nat} (w : World) (h : St rb tv ts en n w) (hq : isT ts n l = true) : Calls Tryz.prog 98 #[.pointer (some ⟨rb,0,none⟩),.string x] w fun e w' => e = .returned (.bool true)∧w.grownBy w' (some rb)∧St rb tv ts en (n + 1) w':=by
  subst hl
  exact takes_yes rb tv ts en n x w h hq (isT_lt hq hne)
set_option maxHeartbeats 8000000 in
set_option maxRecDepth 100000 in
theorem stmt_if (hall : ts.all isAlone = true) {f : Nat} (hB : StmtsOk rb tv ts en f) (n : Nat) (w : World) (h : St rb tv ts en n w) (hf : 2 * (ts.length - n) + 1≤f + 1) (hq0 : isT ts n [105,102] = true) :
    Calls Tryz.prog 137 #[.pointer (some ⟨rb,0,none⟩)] w (PostC ts en (pStmt ts en (f + 1) n) (StmtPost rb tv ts en (f + 1) n w) (fun w' => w.grownBy w' (some rb))):=by
  obtain ⟨res,hres⟩:=nm (pStmt ts en (f + 1) n)
  rw [← hres]
  have HR0:=hide hres
  have HRP : Hx (res = bindR (pX ts en (n + 1)) fun e n1 => bindR (pBlock ts (fun n => pStmts ts en f [] n) n1) fun th n2 => if isT ts n2 [101,108,115,101] = true then bindR (pBlock ts (fun n => pStmts ts en f [] n) (n2 + 1)) fun el n3 => .inl (stD 7 (posn ts en n) noS noS e [] th el,n3) else .inl (stD 7 (posn ts en n) noS noS e [] th [],n2)):=by show _ = _; rw [hres,show pStmt ts en (f + 1) n = pStmt1 ts en (pBlock ts (fun n => pStmts ts en f [] n)) n from rfl]; unfold pStmt1; rw [if_pos hq0]; try rfl
  obtain ⟨p,hp⟩:=nm (posn ts en n)
  rw [← hp] at HRP
  have HP:=hide hp
  have HD:=hide (Rd.start h)
  have HS:=hide hB
  have HF:=hide hf
  clear hres hp h hB hf
  obtain ⟨V1,hV1⟩:=nm (w.alloc (.cells #[.int .i64 0,.int .i64 0,.string ⟨#[]⟩,.string ⟨#[]⟩,.int .i64 0,.int .i64 0,.int .i64 0,.string ⟨#[]⟩,.slice none 0 0,.slice none 0 0,.slice none 0 0,.slice none 0 0] 55))
  obtain ⟨ba,hba⟩:=nm w.heap.size
  have hsba:=hba
  have HLa : Hx (w.heap.size≤ba):=by show _≤_; rw [hsba]; exact HD.o.size
  have HBa : Hx (Bx ba [.int .i64 0,.int .i64 0,.string ⟨#[]⟩,.string ⟨#[]⟩,.int .i64 0,.int .i64 0,.int .i64 0,.string ⟨#[]⟩,.slice none 0 0,.slice none 0 0,.slice none 0 0,.slice none 0 0] V1):=by show Bx _ _ _; rw [hV1,hsba]; exact Bx.new w [.int .i64 0,.int .i64 0,.string ⟨#[]⟩,.string ⟨#[]⟩,.int .i64 0,.int .i64 0,.int .i64 0,.string ⟨#[]⟩,.slice none 0 0,.slice none 0 0,.slice none 0 0,.slice none 0 0] 55
  replace HD : Hx (Rd rb tv ts en w (n) V1):=by show Rd _ _ _ _ _ _ _; rw [hV1]; exact HD.o.over (bA _ _)
  have K0:=hide (here_c n _ HD.o.st)
  go_enter Tryz.func137,Tryz.ntmps137
  go_wp2_with fail
  rw [← hV1,← hba]
  clear hsba
  clear hba hV1
  refine K0.o.mono ?_
  rintro e wh ⟨rfl,hg,hs⟩
  rw [← HP.o]
  replace HBa:=hide (HBa.o.keep hg (by have:=HD.o.rlt; have:=HLa.o; omega))
  replace HD : Hx (Rd rb tv ts en w (n) wh):=HD.o.call hg hs
  clear hg hs
  clear K0
  obtain ⟨V2,hV2⟩:=nm (wh.alloc (.cells #[.int .i64 0,.int .i64 p,.string ⟨#[]⟩,.string ⟨#[]⟩,.int .i64 0,.int .i64 0,.int .i64 0,.string ⟨#[]⟩,.slice none 0 0,.slice none 0 0,.slice none 0 0,.slice none 0 0] 55))
  obtain ⟨bs,hbs⟩:=nm wh.heap.size
  have hsbs:=hbs
  have HLs : Hx (w.heap.size≤bs):=by show _≤_; rw [hsbs]; exact HD.o.size
  have HLas : Hx (ba < bs):=by show _ < _; rw [hsbs]; exact HBa.o.lt
  have HBs : Hx (Bx bs [.int .i64 0,.int .i64 p,.string ⟨#[]⟩,.string ⟨#[]⟩,.int .i64 0,.int .i64 0,.int .i64 0,.string ⟨#[]⟩,.slice none 0 0,.slice none 0 0,.slice none 0 0,.slice none 0 0] V2):=by show Bx _ _ _; rw [hV2,hsbs]; exact Bx.new wh [.int .i64 0,.int .i64 p,.string ⟨#[]⟩,.string ⟨#[]⟩,.int .i64 0,.int .i64 0,.int .i64 0,.string ⟨#[]⟩,.slice none 0 0,.slice none 0 0,.slice none 0 0,.slice none 0 0] 55
  replace HBa : Hx (Bx ba [.int .i64 0,.int .i64 0,.string ⟨#[]⟩,.string ⟨#[]⟩,.int .i64 0,.int .i64 0,.int .i64 0,.string ⟨#[]⟩,.slice none 0 0,.slice none 0 0,.slice none 0 0,.slice none 0 0] V2):=by show Bx _ _ _; rw [hV2]; exact HBa.o.over (bA _ _)
  replace HD : Hx (Rd rb tv ts en w (n) V2):=by show Rd _ _ _ _ _ _ _; rw [hV2]; exact HD.o.over (bA _ _)
  have KT:=hide (takes_t (x:=⟨#[105,102]⟩) rfl (by decide) _ HD.o.st hq0)
  go_wp2_with fail
  rw [← hV2,← hbs]
  clear hsbs
  clear hbs hV2
  refine KT.o.mono ?_
  rintro e w3 ⟨rfl,hg,hs⟩
  replace HBa:=hide (HBa.o.keep hg (by have:=HD.o.rlt; have:=HLa.o; omega))
  replace HBs:=hide (HBs.o.keep hg (by have:=HD.o.rlt; have:=HLs.o; omega))
  replace HD : Hx (Rd rb tv ts en w (n + 1) w3):=HD.o.call hg hs
  clear hg hs
  clear KT
  have K1:=hide (expr_c hall (n + 1) _ HD.o.st)
  go_wp2_with fail
  obtain ⟨z,hz⟩:=nm w3.heap.size
  have HWz : Hx (w.heap.size≤z):=by show _≤_; rw [hz]; exact HD.o.size
  have HZza : Hx (ba < z):=by show _ < _; rw [hz]; exact HBa.o.lt
  have HZzs : Hx (bs < z):=by show _ < _; rw [hz]; exact HBs.o.lt
  refine K1.o.mono ?_
  rintro e w4 hpo
  obtain ⟨m,ho⟩ | ⟨ed,n1,ho⟩:=res_cases (pX ts en (n + 1))
  · replace hpo : PostC ts en (pX ts en (n + 1)) _ _ e w4:=hpo
    rw [ho] at hpo
    obtain ⟨rfl,hg⟩:=hpo
    have HO : Hx (res = .inr m):=by show _ = _; rw [HRP.o,ho]; rfl
    have HG:=hide (grownBy_trans HD.o.gr hg)
    clear hg ho
    unfold gaveUpAt
    go_wp2_with fail
    refine ⟨rfl,?_⟩
    rw [HO.o]
    exact ⟨rfl,HG.o⟩
  replace hpo : PostC ts en (pX ts en (n + 1)) _ _ e w4:=hpo
  rw [ho] at hpo
  obtain ⟨e0,e1,e2,e3,q0,q1,q2,rfl,hoff,-,-,hg,hs⟩:=hpo
  have hr:=HRP.o
  rw [ho,bindR_inl] at hr
  replace HRP:=hide hr
  have HOO:=hide ho
  clear hr ho
  rw [← hz] at hoff
  have HOFF:=hide hoff
  have HNn1:=hide (pX_lt HOO.o)
  clear hoff hz K1
  clear HOO
  replace HBa:=hide (HBa.o.keep hg (by have:=HD.o.rlt; have:=HLa.o; omega))
  replace HBs:=hide (HBs.o.keep hg (by have:=HD.o.rlt; have:=HLs.o; omega))
  replace HD : Hx (Rd rb tv ts en w (n1) w4):=HD.o.call hg hs
  clear hg hs
  have K2:=hide (block_c f HS.o (n1) _ HD.o.st (by have:=HF.o; have:=HNn1.o; omega))
  go_wp2_with fail
  obtain ⟨y,hy⟩:=nm w4.heap.size
  have HWy : Hx (w.heap.size≤y):=by show _≤_; rw [hy]; exact HD.o.size
  have HZya : Hx (ba < y):=by show _ < _; rw [hy]; exact HBa.o.lt
  have HZys : Hx (bs < y):=by show _ < _; rw [hy]; exact HBs.o.lt
  refine K2.o.mono ?_
  rintro e w5 hpo
  obtain ⟨m,ho⟩ | ⟨th,n2,ho⟩:=res_cases (pBlock ts (fun n => pStmts ts en f [] n) (n1))
  · replace hpo : PostC ts en (pBlock ts (fun n => pStmts ts en f [] n) (n1)) _ _ e w5:=hpo
    rw [ho] at hpo
    obtain ⟨rfl,hg⟩:=hpo
    have HO : Hx (res = .inr m):=by show _ = _; rw [HRP.o,ho]; rfl
    have HG:=hide (grownBy_trans HD.o.gr hg)
    clear hg ho
    unfold gaveUpAt
    go_wp2_with fail
    refine ⟨rfl,?_⟩
    rw [HO.o]
    exact ⟨rfl,HG.o⟩
  replace hpo : PostC ts en (pBlock ts (fun n => pStmts ts en f [] n) (n1)) _ _ e w5:=hpo
  rw [ho] at hpo
  obtain ⟨tha,thc,rfl,hoff,hl6,hg,hs⟩:=hpo
  have hr:=HRP.o
  rw [ho,bindR_inl] at hr
  replace HRP:=hide hr
  have HOO:=hide ho
  clear hr ho
  obtain ⟨thk,hthk⟩:=nm th.length
  rw [← hthk,← hy] at hoff
  rw [← hthk]
  have HOth:=hide hoff
  have HNn2:=hide (pBlock_lt (fun n l n1 h => pStmts_le f [] n l n1 h) HOO.o)
  clear hoff hl6 hthk hy K2
  clear HOO
  replace HBa:=hide (HBa.o.keep hg (by have:=HD.o.rlt; have:=HLa.o; omega))
  replace HBs:=hide (HBs.o.keep hg (by have:=HD.o.rlt; have:=HLs.o; omega))
  replace HOFF:=hide (HOFF.o.keep hg (by have:=HD.o.rlt; have:=HWz.o; omega))
  replace HD : Hx (Rd rb tv ts en w (n2) w5):=HD.o.call hg hs
  clear hg hs
  obtain ⟨cs0,cs1,cs2,cs3,cs4,cs5,cs6,cs7,cs8,cs9,cs10,cs11⟩:=rc12 HBs.o.row
  have fs0:=HBs.o.fz 0
  have fs1:=HBs.o.fz 1
  have fs2:=HBs.o.fz 2
  have fs3:=HBs.o.fz 3
  have fs4:=HBs.o.fz 4
  have fs5:=HBs.o.fz 5
  have fs6:=HBs.o.fz 6
  have fs7:=HBs.o.fz 7
  have fs8:=HBs.o.fz 8
  have fs9:=HBs.o.fz 9
  have fs10:=HBs.o.fz 10
  have fs11:=HBs.o.fz 11
  obtain ⟨V6,hV6⟩:=nm (w5.setCell ⟨bs,0,none⟩ (.int .i64 7))
  replace HBs : Hx (Bx bs [.int .i64 7,.int .i64 p,.string ⟨#[]⟩,.string ⟨#[]⟩,.int .i64 0,.int .i64 0,.int .i64 0,.string ⟨#[]⟩,.slice none 0 0,.slice none 0 0,.slice none 0 0,.slice none 0 0] V6):=by show Bx _ _ _; rw [hV6]; exact HBs.o.set (j:=0) (by simp)
  replace HBa : Hx (Bx ba [.int .i64 0,.int .i64 0,.string ⟨#[]⟩,.string ⟨#[]⟩,.int .i64 0,.int .i64 0,.int .i64 0,.string ⟨#[]⟩,.slice none 0 0,.slice none 0 0,.slice none 0 0,.slice none 0 0] V6):=by show Bx _ _ _; rw [hV6]; exact HBa.o.far (by have:=HLas.o; omega)
  replace HD : Hx (Rd rb tv ts en w (n2) V6):=by show Rd _ _ _ _ _ _ _; rw [hV6]; exact HD.o.set (by exact HLs.o)
  replace HOFF : Hx (Off z none V6 (fun W => XE W 61 [.int .i64 e0,.int .i64 e1,.int .i64 e2,.string e3,.slice q0 q1 q2] ed)):=by show Off _ _ _ _; rw [hV6]; exact HOFF.o.set HZzs.o
  replace HOth : Hx (Off y none V6 (fun W => LS 12 (XC W f) W (.slice tha thk thc) th)):=by show Off _ _ _ _; rw [hV6]; exact HOth.o.set HZys.o
  obtain ⟨V7,hV7⟩:=nm (V6.setCell ⟨bs,4,none⟩ (.int .i64 e0))
  replace HBs : Hx (Bx bs [.int .i64 7,.int .i64 p,.string ⟨#[]⟩,.string ⟨#[]⟩,.int .i64 e0,.int .i64 0,.int .i64 0,.string ⟨#[]⟩,.slice none 0 0,.slice none 0 0,.slice none 0 0,.slice none 0 0] V7):=by show Bx _ _ _; rw [hV7]; exact HBs.o.set (j:=4) (by simp)
  replace HBa : Hx (Bx ba [.int .i64 0,.int .i64 0,.string ⟨#[]⟩,.string ⟨#[]⟩,.int .i64 0,.int .i64 0,.int .i64 0,.string ⟨#[]⟩,.slice none 0 0,.slice none 0 0,.slice none 0 0,.slice none 0 0] V7):=by show Bx _ _ _; rw [hV7]; exact HBa.o.far (by have:=HLas.o; omega)
  replace HD : Hx (Rd rb tv ts en w (n2) V7):=by show Rd _ _ _ _ _ _ _; rw [hV7]; exact HD.o.set (by exact HLs.o)
  replace HOFF : Hx (Off z none V7 (fun W => XE W 61 [.int .i64 e0,.int .i64 e1,.int .i64 e2,.string e3,.slice q0 q1 q2] ed)):=by show Off _ _ _ _; rw [hV7]; exact HOFF.o.set HZzs.o
  replace HOth : Hx (Off y none V7 (fun W => LS 12 (XC W f) W (.slice tha thk thc) th)):=by show Off _ _ _ _; rw [hV7]; exact HOth.o.set HZys.o
  obtain ⟨V8,hV8⟩:=nm (V7.setCell ⟨bs,5,none⟩ (.int .i64 e1))
  replace HBs : Hx (Bx bs [.int .i64 7,.int .i64 p,.string ⟨#[]⟩,.string ⟨#[]⟩,.int .i64 e0,.int .i64 e1,.int .i64 0,.string ⟨#[]⟩,.slice none 0 0,.slice none 0 0,.slice none 0 0,.slice none 0 0] V8):=by show Bx _ _ _; rw [hV8]; exact HBs.o.set (j:=5) (by simp)
  replace HBa : Hx (Bx ba [.int .i64 0,.int .i64 0,.string ⟨#[]⟩,.string ⟨#[]⟩,.int .i64 0,.int .i64 0,.int .i64 0,.string ⟨#[]⟩,.slice none 0 0,.slice none 0 0,.slice none 0 0,.slice none 0 0] V8):=by show Bx _ _ _; rw [hV8]; exact HBa.o.far (by have:=HLas.o; omega)
  replace HD : Hx (Rd rb tv ts en w (n2) V8):=by show Rd _ _ _ _ _ _ _; rw [hV8]; exact HD.o.set (by exact HLs.o)
  replace HOFF : Hx (Off z none V8 (fun W => XE W 61 [.int .i64 e0,.int .i64 e1,.int .i64 e2,.string e3,.slice q0 q1 q2] ed)):=by show Off _ _ _ _; rw [hV8]; exact HOFF.o.set HZzs.o
  replace HOth : Hx (Off y none V8 (fun W => LS 12 (XC W f) W (.slice tha thk thc) th)):=by show Off _ _ _ _; rw [hV8]; exact HOth.o.set HZys.o
  obtain ⟨V9,hV9⟩:=nm (V8.setCell ⟨bs,6,none⟩ (.int .i64 e2))
  replace HBs : Hx (Bx bs [.int .i64 7,.int .i64 p,.string ⟨#[]⟩,.string ⟨#[]⟩,.int .i64 e0,.int .i64 e1,.int .i64 e2,.string ⟨#[]⟩,.slice none 0 0,.slice none 0 0,.slice none 0 0,.slice none 0 0] V9):=by show Bx _ _ _; rw [hV9]; exact HBs.o.set (j:=6) (by simp)
  replace HBa : Hx (Bx ba [.int .i64 0,.int .i64 0,.string ⟨#[]⟩,.string ⟨#[]⟩,.int .i64 0,.int .i64 0,.int .i64 0,.string ⟨#[]⟩,.slice none 0 0,.slice none 0 0,.slice none 0 0,.slice none 0 0] V9):=by show Bx _ _ _; rw [hV9]; exact HBa.o.far (by have:=HLas.o; omega)
  replace HD : Hx (Rd rb tv ts en w (n2) V9):=by show Rd _ _ _ _ _ _ _; rw [hV9]; exact HD.o.set (by exact HLs.o)
  replace HOFF : Hx (Off z none V9 (fun W => XE W 61 [.int .i64 e0,.int .i64 e1,.int .i64 e2,.string e3,.slice q0 q1 q2] ed)):=by show Off _ _ _ _; rw [hV9]; exact HOFF.o.set HZzs.o
  replace HOth : Hx (Off y none V9 (fun W => LS 12 (XC W f) W (.slice tha thk thc) th)):=by show Off _ _ _ _; rw [hV9]; exact HOth.o.set HZys.o
  obtain ⟨V10,hV10⟩:=nm (V9.setCell ⟨bs,7,none⟩ (.string e3))
  replace HBs : Hx (Bx bs [.int .i64 7,.int .i64 p,.string ⟨#[]⟩,.string ⟨#[]⟩,.int .i64 e0,.int .i64 e1,.int .i64 e2,.string e3,.slice none 0 0,.slice none 0 0,.slice none 0 0,.slice none 0 0] V10):=by show Bx _ _ _; rw [hV10]; exact HBs.o.set (j:=7) (by simp)
  replace HBa : Hx (Bx ba [.int .i64 0,.int .i64 0,.string ⟨#[]⟩,.string ⟨#[]⟩,.int .i64 0,.int .i64 0,.int .i64 0,.string ⟨#[]⟩,.slice none 0 0,.slice none 0 0,.slice none 0 0,.slice none 0 0] V10):=by show Bx _ _ _; rw [hV10]; exact HBa.o.far (by have:=HLas.o; omega)
  replace HD : Hx (Rd rb tv ts en w (n2) V10):=by show Rd _ _ _ _ _ _ _; rw [hV10]; exact HD.o.set (by exact HLs.o)
  replace HOFF : Hx (Off z none V10 (fun W => XE W 61 [.int .i64 e0,.int .i64 e1,.int .i64 e2,.string e3,.slice q0 q1 q2] ed)):=by show Off _ _ _ _; rw [hV10]; exact HOFF.o.set HZzs.o
  replace HOth : Hx (Off y none V10 (fun W => LS 12 (XC W f) W (.slice tha thk thc) th)):=by show Off _ _ _ _; rw [hV10]; exact HOth.o.set HZys.o
  obtain ⟨V11,hV11⟩:=nm (V10.setCell ⟨bs,8,none⟩ (.slice q0 q1 q2))
  replace HBs : Hx (Bx bs [.int .i64 7,.int .i64 p,.string ⟨#[]⟩,.string ⟨#[]⟩,.int .i64 e0,.int .i64 e1,.int .i64 e2,.string e3,.slice q0 q1 q2,.slice none 0 0,.slice none 0 0,.slice none 0 0] V11):=by show Bx _ _ _; rw [hV11]; exact HBs.o.set (j:=8) (by simp)
  replace HBa : Hx (Bx ba [.int .i64 0,.int .i64 0,.string ⟨#[]⟩,.string ⟨#[]⟩,.int .i64 0,.int .i64 0,.int .i64 0,.string ⟨#[]⟩,.slice none 0 0,.slice none 0 0,.slice none 0 0,.slice none 0 0] V11):=by show Bx _ _ _; rw [hV11]; exact HBa.o.far (by have:=HLas.o; omega)
  replace HD : Hx (Rd rb tv ts en w (n2) V11):=by show Rd _ _ _ _ _ _ _; rw [hV11]; exact HD.o.set (by exact HLs.o)
  replace HOFF : Hx (Off z none V11 (fun W => XE W 61 [.int .i64 e0,.int .i64 e1,.int .i64 e2,.string e3,.slice q0 q1 q2] ed)):=by show Off _ _ _ _; rw [hV11]; exact HOFF.o.set HZzs.o
  replace HOth : Hx (Off y none V11 (fun W => LS 12 (XC W f) W (.slice tha thk thc) th)):=by show Off _ _ _ _; rw [hV11]; exact HOth.o.set HZys.o
  obtain ⟨V12,hV12⟩:=nm (V11.setCell ⟨bs,10,none⟩ (.slice tha thk thc))
  replace HBs : Hx (Bx bs [.int .i64 7,.int .i64 p,.string ⟨#[]⟩,.string ⟨#[]⟩,.int .i64 e0,.int .i64 e1,.int .i64 e2,.string e3,.slice q0 q1 q2,.slice none 0 0,.slice tha thk thc,.slice none 0 0] V12):=by show Bx _ _ _; rw [hV12]; exact HBs.o.set (j:=10) (by simp)
  replace HBa : Hx (Bx ba [.int .i64 0,.int .i64 0,.string ⟨#[]⟩,.string ⟨#[]⟩,.int .i64 0,.int .i64 0,.int .i64 0,.string ⟨#[]⟩,.slice none 0 0,.slice none 0 0,.slice none 0 0,.slice none 0 0] V12):=by show Bx _ _ _; rw [hV12]; exact HBa.o.far (by have:=HLas.o; omega)
  replace HD : Hx (Rd rb tv ts en w (n2) V12):=by show Rd _ _ _ _ _ _ _; rw [hV12]; exact HD.o.set (by exact HLs.o)
  replace HOFF : Hx (Off z none V12 (fun W => XE W 61 [.int .i64 e0,.int .i64 e1,.int .i64 e2,.string e3,.slice q0 q1 q2] ed)):=by show Off _ _ _ _; rw [hV12]; exact HOFF.o.set HZzs.o
  replace HOth : Hx (Off y none V12 (fun W => LS 12 (XC W f) W (.slice tha thk thc) th)):=by show Off _ _ _ _; rw [hV12]; exact HOth.o.set HZys.o
  have K4:=hide (takes_c ⟨#[101,108,115,101]⟩ (by decide) n2 _ HD.o.st)
  go_wp2_with fail
  rw [← hV6,← hV7,← hV8,← hV9,← hV10,← hV11,← hV12]
  clear fs11 fs10 fs9 fs8 fs7 fs6 fs5 fs4 fs3 fs2 fs1 fs0 cs11 cs10 cs9 cs8 cs7 cs6 cs5 cs4 cs3 cs2 cs1 cs0
  clear hV12 hV11 hV10 hV9 hV8 hV7 hV6
  refine K4.o.mono ?_
  rintro e wt ⟨rfl,hg,hs⟩
  replace hs : St rb tv ts en (if isT ts n2 [101,108,115,101] = true then n2 + 1 else n2) wt:=hs
  cases hq : isT ts n2 [101,108,115,101] with
  | false =>
    rw [hq] at hs
    have hr:=HRP.o
    rw [if_neg (by rw [hq]; simp)] at hr
    replace HRP:=hide hr
    replace hs : St rb tv ts en n2 wt:=hs
    try rw [show isT ts n2 (ByteArray.mk #[101,108,115,101]).data.toList = false from hq]
    clear hr hq K4
    replace HBa:=hide (HBa.o.keep hg (by have:=HD.o.rlt; have:=HLa.o; omega))
    replace HBs:=hide (HBs.o.keep hg (by have:=HD.o.rlt; have:=HLs.o; omega))
    replace HOFF:=hide (HOFF.o.keep hg (by have:=HD.o.rlt; have:=HWz.o; omega))
    replace HOth:=hide (HOth.o.keep hg (by have:=HD.o.rlt; have:=HWy.o; omega))
    replace HD : Hx (Rd rb tv ts en w (n2) wt):=HD.o.call hg hs
    clear hg hs
    have neas : ba≠bs:=by have:=HLas.o; omega
    have nesa : bs≠ba:=by have:=HLas.o; omega
    obtain ⟨ca0,ca1,ca2,ca3,ca4,ca5,ca6,ca7,ca8,ca9,ca10,ca11⟩:=rc12 HBa.o.row
    have fa0:=HBa.o.fz 0
    have fa1:=HBa.o.fz 1
    have fa2:=HBa.o.fz 2
    have fa3:=HBa.o.fz 3
    have fa4:=HBa.o.fz 4
    have fa5:=HBa.o.fz 5
    have fa6:=HBa.o.fz 6
    have fa7:=HBa.o.fz 7
    have fa8:=HBa.o.fz 8
    have fa9:=HBa.o.fz 9
    have fa10:=HBa.o.fz 10
    have fa11:=HBa.o.fz 11
    obtain ⟨cs0,cs1,cs2,cs3,cs4,cs5,cs6,cs7,cs8,cs9,cs10,cs11⟩:=rc12 HBs.o.row
    have fs0:=HBs.o.fz 0
    have fs1:=HBs.o.fz 1
    have fs2:=HBs.o.fz 2
    have fs3:=HBs.o.fz 3
    have fs4:=HBs.o.fz 4
    have fs5:=HBs.o.fz 5
    have fs6:=HBs.o.fz 6
    have fs7:=HBs.o.fz 7
    have fs8:=HBs.o.fz 8
    have fs9:=HBs.o.fz 9
    have fs10:=HBs.o.fz 10
    have fs11:=HBs.o.fz 11
    obtain ⟨V13,hV13⟩:=nm (wt.setCell ⟨ba,0,none⟩ (.int .i64 7))
    replace HBa : Hx (Bx ba [.int .i64 7,.int .i64 0,.string ⟨#[]⟩,.string ⟨#[]⟩,.int .i64 0,.int .i64 0,.int .i64 0,.string ⟨#[]⟩,.slice none 0 0,.slice none 0 0,.slice none 0 0,.slice none 0 0] V13):=by show Bx _ _ _; rw [hV13]; exact HBa.o.set (j:=0) (by simp)
    replace HBs : Hx (Bx bs [.int .i64 7,.int .i64 p,.string ⟨#[]⟩,.string ⟨#[]⟩,.int .i64 e0,.int .i64 e1,.int .i64 e2,.string e3,.slice q0 q1 q2,.slice none 0 0,.slice tha thk thc,.slice none 0 0] V13):=by show Bx _ _ _; rw [hV13]; exact HBs.o.far (by have:=HLas.o; omega)
    replace HD : Hx (Rd rb tv ts en w (n2) V13):=by show Rd _ _ _ _ _ _ _; rw [hV13]; exact HD.o.set (by exact HLa.o)
    replace HOFF : Hx (Off z none V13 (fun W => XE W 61 [.int .i64 e0,.int .i64 e1,.int .i64 e2,.string e3,.slice q0 q1 q2] ed)):=by show Off _ _ _ _; rw [hV13]; exact HOFF.o.set HZza.o
    replace HOth : Hx (Off y none V13 (fun W => LS 12 (XC W f) W (.slice tha thk thc) th)):=by show Off _ _ _ _; rw [hV13]; exact HOth.o.set HZya.o
    obtain ⟨V14,hV14⟩:=nm (V13.setCell ⟨ba,1,none⟩ (.int .i64 p))
    replace HBa : Hx (Bx ba [.int .i64 7,.int .i64 p,.string ⟨#[]⟩,.string ⟨#[]⟩,.int .i64 0,.int .i64 0,.int .i64 0,.string ⟨#[]⟩,.slice none 0 0,.slice none 0 0,.slice none 0 0,.slice none 0 0] V14):=by show Bx _ _ _; rw [hV14]; exact HBa.o.set (j:=1) (by simp)
    replace HBs : Hx (Bx bs [.int .i64 7,.int .i64 p,.string ⟨#[]⟩,.string ⟨#[]⟩,.int .i64 e0,.int .i64 e1,.int .i64 e2,.string e3,.slice q0 q1 q2,.slice none 0 0,.slice tha thk thc,.slice none 0 0] V14):=by show Bx _ _ _; rw [hV14]; exact HBs.o.far (by have:=HLas.o; omega)
    replace HD : Hx (Rd rb tv ts en w (n2) V14):=by show Rd _ _ _ _ _ _ _; rw [hV14]; exact HD.o.set (by exact HLa.o)
    replace HOFF : Hx (Off z none V14 (fun W => XE W 61 [.int .i64 e0,.int .i64 e1,.int .i64 e2,.string e3,.slice q0 q1 q2] ed)):=by show Off _ _ _ _; rw [hV14]; exact HOFF.o.set HZza.o
    replace HOth : Hx (Off y none V14 (fun W => LS 12 (XC W f) W (.slice tha thk thc) th)):=by show Off _ _ _ _; rw [hV14]; exact HOth.o.set HZya.o
    obtain ⟨V15,hV15⟩:=nm (V14.setCell ⟨ba,2,none⟩ (.string ⟨#[]⟩))
    replace HBa : Hx (Bx ba [.int .i64 7,.int .i64 p,.string ⟨#[]⟩,.string ⟨#[]⟩,.int .i64 0,.int .i64 0,.int .i64 0,.string ⟨#[]⟩,.slice none 0 0,.slice none 0 0,.slice none 0 0,.slice none 0 0] V15):=by show Bx _ _ _; rw [hV15]; exact HBa.o.set (j:=2) (by simp)
    replace HBs : Hx (Bx bs [.int .i64 7,.int .i64 p,.string ⟨#[]⟩,.string ⟨#[]⟩,.int .i64 e0,.int .i64 e1,.int .i64 e2,.string e3,.slice q0 q1 q2,.slice none 0 0,.slice tha thk thc,.slice none 0 0] V15):=by show Bx _ _ _; rw [hV15]; exact HBs.o.far (by have:=HLas.o; omega)
    replace HD : Hx (Rd rb tv ts en w (n2) V15):=by show Rd _ _ _ _ _ _ _; rw [hV15]; exact HD.o.set (by exact HLa.o)
    replace HOFF : Hx (Off z none V15 (fun W => XE W 61 [.int .i64 e0,.int .i64 e1,.int .i64 e2,.string e3,.slice q0 q1 q2] ed)):=by show Off _ _ _ _; rw [hV15]; exact HOFF.o.set HZza.o
    replace HOth : Hx (Off y none V15 (fun W => LS 12 (XC W f) W (.slice tha thk thc) th)):=by show Off _ _ _ _; rw [hV15]; exact HOth.o.set HZya.o
    obtain ⟨V16,hV16⟩:=nm (V15.setCell ⟨ba,3,none⟩ (.string ⟨#[]⟩))
    replace HBa : Hx (Bx ba [.int .i64 7,.int .i64 p,.string ⟨#[]⟩,.string ⟨#[]⟩,.int .i64 0,.int .i64 0,.int .i64 0,.string ⟨#[]⟩,.slice none 0 0,.slice none 0 0,.slice none 0 0,.slice none 0 0] V16):=by show Bx _ _ _; rw [hV16]; exact HBa.o.set (j:=3) (by simp)
    replace HBs : Hx (Bx bs [.int .i64 7,.int .i64 p,.string ⟨#[]⟩,.string ⟨#[]⟩,.int .i64 e0,.int .i64 e1,.int .i64 e2,.string e3,.slice q0 q1 q2,.slice none 0 0,.slice tha thk thc,.slice none 0 0] V16):=by show Bx _ _ _; rw [hV16]; exact HBs.o.far (by have:=HLas.o; omega)
    replace HD : Hx (Rd rb tv ts en w (n2) V16):=by show Rd _ _ _ _ _ _ _; rw [hV16]; exact HD.o.set (by exact HLa.o)
    replace HOFF : Hx (Off z none V16 (fun W => XE W 61 [.int .i64 e0,.int .i64 e1,.int .i64 e2,.string e3,.slice q0 q1 q2] ed)):=by show Off _ _ _ _; rw [hV16]; exact HOFF.o.set HZza.o
    replace HOth : Hx (Off y none V16 (fun W => LS 12 (XC W f) W (.slice tha thk thc) th)):=by show Off _ _ _ _; rw [hV16]; exact HOth.o.set HZya.o
    obtain ⟨V17,hV17⟩:=nm (V16.setCell ⟨ba,4,none⟩ (.int .i64 e0))
    replace HBa : Hx (Bx ba [.int .i64 7,.int .i64 p,.string ⟨#[]⟩,.string ⟨#[]⟩,.int .i64 e0,.int .i64 0,.int .i64 0,.string ⟨#[]⟩,.slice none 0 0,.slice none 0 0,.slice none 0 0,.slice none 0 0] V17):=by show Bx _ _ _; rw [hV17]; exact HBa.o.set (j:=4) (by simp)
    replace HBs : Hx (Bx bs [.int .i64 7,.int .i64 p,.string ⟨#[]⟩,.string ⟨#[]⟩,.int .i64 e0,.int .i64 e1,.int .i64 e2,.string e3,.slice q0 q1 q2,.slice none 0 0,.slice tha thk thc,.slice none 0 0] V17):=by show Bx _ _ _; rw [hV17]; exact HBs.o.far (by have:=HLas.o; omega)
    replace HD : Hx (Rd rb tv ts en w (n2) V17):=by show Rd _ _ _ _ _ _ _; rw [hV17]; exact HD.o.set (by exact HLa.o)
    replace HOFF : Hx (Off z none V17 (fun W => XE W 61 [.int .i64 e0,.int .i64 e1,.int .i64 e2,.string e3,.slice q0 q1 q2] ed)):=by show Off _ _ _ _; rw [hV17]; exact HOFF.o.set HZza.o
    replace HOth : Hx (Off y none V17 (fun W => LS 12 (XC W f) W (.slice tha thk thc) th)):=by show Off _ _ _ _; rw [hV17]; exact HOth.o.set HZya.o
    obtain ⟨V18,hV18⟩:=nm (V17.setCell ⟨ba,5,none⟩ (.int .i64 e1))
    replace HBa : Hx (Bx ba [.int .i64 7,.int .i64 p,.string ⟨#[]⟩,.string ⟨#[]⟩,.int .i64 e0,.int .i64 e1,.int .i64 0,.string ⟨#[]⟩,.slice none 0 0,.slice none 0 0,.slice none 0 0,.slice none 0 0] V18):=by show Bx _ _ _; rw [hV18]; exact HBa.o.set (j:=5) (by simp)
    replace HBs : Hx (Bx bs [.int .i64 7,.int .i64 p,.string ⟨#[]⟩,.string ⟨#[]⟩,.int .i64 e0,.int .i64 e1,.int .i64 e2,.string e3,.slice q0 q1 q2,.slice none 0 0,.slice tha thk thc,.slice none 0 0] V18):=by show Bx _ _ _; rw [hV18]; exact HBs.o.far (by have:=HLas.o; omega)
    replace HD : Hx (Rd rb tv ts en w (n2) V18):=by show Rd _ _ _ _ _ _ _; rw [hV18]; exact HD.o.set (by exact HLa.o)
    replace HOFF : Hx (Off z none V18 (fun W => XE W 61 [.int .i64 e0,.int .i64 e1,.int .i64 e2,.string e3,.slice q0 q1 q2] ed)):=by show Off _ _ _ _; rw [hV18]; exact HOFF.o.set HZza.o
    replace HOth : Hx (Off y none V18 (fun W => LS 12 (XC W f) W (.slice tha thk thc) th)):=by show Off _ _ _ _; rw [hV18]; exact HOth.o.set HZya.o
    obtain ⟨V19,hV19⟩:=nm (V18.setCell ⟨ba,6,none⟩ (.int .i64 e2))
    replace HBa : Hx (Bx ba [.int .i64 7,.int .i64 p,.string ⟨#[]⟩,.string ⟨#[]⟩,.int .i64 e0,.int .i64 e1,.int .i64 e2,.string ⟨#[]⟩,.slice none 0 0,.slice none 0 0,.slice none 0 0,.slice none 0 0] V19):=by show Bx _ _ _; rw [hV19]; exact HBa.o.set (j:=6) (by simp)
    replace HBs : Hx (Bx bs [.int .i64 7,.int .i64 p,.string ⟨#[]⟩,.string ⟨#[]⟩,.int .i64 e0,.int .i64 e1,.int .i64 e2,.string e3,.slice q0 q1 q2,.slice none 0 0,.slice tha thk thc,.slice none 0 0] V19):=by show Bx _ _ _; rw [hV19]; exact HBs.o.far (by have:=HLas.o; omega)
    replace HD : Hx (Rd rb tv ts en w (n2) V19):=by show Rd _ _ _ _ _ _ _; rw [hV19]; exact HD.o.set (by exact HLa.o)
    replace HOFF : Hx (Off z none V19 (fun W => XE W 61 [.int .i64 e0,.int .i64 e1,.int .i64 e2,.string e3,.slice q0 q1 q2] ed)):=by show Off _ _ _ _; rw [hV19]; exact HOFF.o.set HZza.o
    replace HOth : Hx (Off y none V19 (fun W => LS 12 (XC W f) W (.slice tha thk thc) th)):=by show Off _ _ _ _; rw [hV19]; exact HOth.o.set HZya.o
    obtain ⟨V20,hV20⟩:=nm (V19.setCell ⟨ba,7,none⟩ (.string e3))
    replace HBa : Hx (Bx ba [.int .i64 7,.int .i64 p,.string ⟨#[]⟩,.string ⟨#[]⟩,.int .i64 e0,.int .i64 e1,.int .i64 e2,.string e3,.slice none 0 0,.slice none 0 0,.slice none 0 0,.slice none 0 0] V20):=by show Bx _ _ _; rw [hV20]; exact HBa.o.set (j:=7) (by simp)
    replace HBs : Hx (Bx bs [.int .i64 7,.int .i64 p,.string ⟨#[]⟩,.string ⟨#[]⟩,.int .i64 e0,.int .i64 e1,.int .i64 e2,.string e3,.slice q0 q1 q2,.slice none 0 0,.slice tha thk thc,.slice none 0 0] V20):=by show Bx _ _ _; rw [hV20]; exact HBs.o.far (by have:=HLas.o; omega)
    replace HD : Hx (Rd rb tv ts en w (n2) V20):=by show Rd _ _ _ _ _ _ _; rw [hV20]; exact HD.o.set (by exact HLa.o)
    replace HOFF : Hx (Off z none V20 (fun W => XE W 61 [.int .i64 e0,.int .i64 e1,.int .i64 e2,.string e3,.slice q0 q1 q2] ed)):=by show Off _ _ _ _; rw [hV20]; exact HOFF.o.set HZza.o
    replace HOth : Hx (Off y none V20 (fun W => LS 12 (XC W f) W (.slice tha thk thc) th)):=by show Off _ _ _ _; rw [hV20]; exact HOth.o.set HZya.o
    obtain ⟨V21,hV21⟩:=nm (V20.setCell ⟨ba,8,none⟩ (.slice q0 q1 q2))
    replace HBa : Hx (Bx ba [.int .i64 7,.int .i64 p,.string ⟨#[]⟩,.string ⟨#[]⟩,.int .i64 e0,.int .i64 e1,.int .i64 e2,.string e3,.slice q0 q1 q2,.slice none 0 0,.slice none 0 0,.slice none 0 0] V21):=by show Bx _ _ _; rw [hV21]; exact HBa.o.set (j:=8) (by simp)
    replace HBs : Hx (Bx bs [.int .i64 7,.int .i64 p,.string ⟨#[]⟩,.string ⟨#[]⟩,.int .i64 e0,.int .i64 e1,.int .i64 e2,.string e3,.slice q0 q1 q2,.slice none 0 0,.slice tha thk thc,.slice none 0 0] V21):=by show Bx _ _ _; rw [hV21]; exact HBs.o.far (by have:=HLas.o; omega)
    replace HD : Hx (Rd rb tv ts en w (n2) V21):=by show Rd _ _ _ _ _ _ _; rw [hV21]; exact HD.o.set (by exact HLa.o)
    replace HOFF : Hx (Off z none V21 (fun W => XE W 61 [.int .i64 e0,.int .i64 e1,.int .i64 e2,.string e3,.slice q0 q1 q2] ed)):=by show Off _ _ _ _; rw [hV21]; exact HOFF.o.set HZza.o
    replace HOth : Hx (Off y none V21 (fun W => LS 12 (XC W f) W (.slice tha thk thc) th)):=by show Off _ _ _ _; rw [hV21]; exact HOth.o.set HZya.o
    obtain ⟨V22,hV22⟩:=nm (V21.setCell ⟨ba,9,none⟩ (.slice none 0 0))
    replace HBa : Hx (Bx ba [.int .i64 7,.int .i64 p,.string ⟨#[]⟩,.string ⟨#[]⟩,.int .i64 e0,.int .i64 e1,.int .i64 e2,.string e3,.slice q0 q1 q2,.slice none 0 0,.slice none 0 0,.slice none 0 0] V22):=by show Bx _ _ _; rw [hV22]; exact HBa.o.set (j:=9) (by simp)
    replace HBs : Hx (Bx bs [.int .i64 7,.int .i64 p,.string ⟨#[]⟩,.string ⟨#[]⟩,.int .i64 e0,.int .i64 e1,.int .i64 e2,.string e3,.slice q0 q1 q2,.slice none 0 0,.slice tha thk thc,.slice none 0 0] V22):=by show Bx _ _ _; rw [hV22]; exact HBs.o.far (by have:=HLas.o; omega)
    replace HD : Hx (Rd rb tv ts en w (n2) V22):=by show Rd _ _ _ _ _ _ _; rw [hV22]; exact HD.o.set (by exact HLa.o)
    replace HOFF : Hx (Off z none V22 (fun W => XE W 61 [.int .i64 e0,.int .i64 e1,.int .i64 e2,.string e3,.slice q0 q1 q2] ed)):=by show Off _ _ _ _; rw [hV22]; exact HOFF.o.set HZza.o
    replace HOth : Hx (Off y none V22 (fun W => LS 12 (XC W f) W (.slice tha thk thc) th)):=by show Off _ _ _ _; rw [hV22]; exact HOth.o.set HZya.o
    obtain ⟨V23,hV23⟩:=nm (V22.setCell ⟨ba,10,none⟩ (.slice tha thk thc))
    replace HBa : Hx (Bx ba [.int .i64 7,.int .i64 p,.string ⟨#[]⟩,.string ⟨#[]⟩,.int .i64 e0,.int .i64 e1,.int .i64 e2,.string e3,.slice q0 q1 q2,.slice none 0 0,.slice tha thk thc,.slice none 0 0] V23):=by show Bx _ _ _; rw [hV23]; exact HBa.o.set (j:=10) (by simp)
    replace HBs : Hx (Bx bs [.int .i64 7,.int .i64 p,.string ⟨#[]⟩,.string ⟨#[]⟩,.int .i64 e0,.int .i64 e1,.int .i64 e2,.string e3,.slice q0 q1 q2,.slice none 0 0,.slice tha thk thc,.slice none 0 0] V23):=by show Bx _ _ _; rw [hV23]; exact HBs.o.far (by have:=HLas.o; omega)
    replace HD : Hx (Rd rb tv ts en w (n2) V23):=by show Rd _ _ _ _ _ _ _; rw [hV23]; exact HD.o.set (by exact HLa.o)
    replace HOFF : Hx (Off z none V23 (fun W => XE W 61 [.int .i64 e0,.int .i64 e1,.int .i64 e2,.string e3,.slice q0 q1 q2] ed)):=by show Off _ _ _ _; rw [hV23]; exact HOFF.o.set HZza.o
    replace HOth : Hx (Off y none V23 (fun W => LS 12 (XC W f) W (.slice tha thk thc) th)):=by show Off _ _ _ _; rw [hV23]; exact HOth.o.set HZya.o
    obtain ⟨V24,hV24⟩:=nm (V23.setCell ⟨ba,11,none⟩ (.slice none 0 0))
    replace HBa : Hx (Bx ba [.int .i64 7,.int .i64 p,.string ⟨#[]⟩,.string ⟨#[]⟩,.int .i64 e0,.int .i64 e1,.int .i64 e2,.string e3,.slice q0 q1 q2,.slice none 0 0,.slice tha thk thc,.slice none 0 0] V24):=by show Bx _ _ _; rw [hV24]; exact HBa.o.set (j:=11) (by simp)
    replace HBs : Hx (Bx bs [.int .i64 7,.int .i64 p,.string ⟨#[]⟩,.string ⟨#[]⟩,.int .i64 e0,.int .i64 e1,.int .i64 e2,.string e3,.slice q0 q1 q2,.slice none 0 0,.slice tha thk thc,.slice none 0 0] V24):=by show Bx _ _ _; rw [hV24]; exact HBs.o.far (by have:=HLas.o; omega)
    replace HD : Hx (Rd rb tv ts en w (n2) V24):=by show Rd _ _ _ _ _ _ _; rw [hV24]; exact HD.o.set (by exact HLa.o)
    replace HOFF : Hx (Off z none V24 (fun W => XE W 61 [.int .i64 e0,.int .i64 e1,.int .i64 e2,.string e3,.slice q0 q1 q2] ed)):=by show Off _ _ _ _; rw [hV24]; exact HOFF.o.set HZza.o
    replace HOth : Hx (Off y none V24 (fun W => LS 12 (XC W f) W (.slice tha thk thc) th)):=by show Off _ _ _ _; rw [hV24]; exact HOth.o.set HZya.o
    go_wp2_with fail
    refine bodyPost_ret (v:=.agg #[.int .i64 7,.int .i64 p,.string ⟨#[]⟩,.string ⟨#[]⟩,.int .i64 e0,.int .i64 e1,.int .i64 e2,.string e3,.slice q0 q1 q2,.slice none 0 0,.slice tha thk thc,.slice none 0 0]) (by simp [results,Tryz.results137,go_sem, *]) rfl ?_
    rw [← hV13,← hV14,← hV15,← hV16,← hV17,← hV18,← hV19,← hV20,← hV21,← hV22,← hV23,← hV24]
    have hlt:=HR0.o
    rw [HRP.o] at hlt
    have hlt2:=pStmt_lt hlt.symm
    rw [HRP.o]
    refine ⟨_,_,_,_,_,_,_,_,_,_,_,_,_,_,_,_,_,_,_,_,rfl,fun W hW => ?_,hlt2,HD.o.gr,HD.o.st⟩
    exact ⟨_,_,_,_,_,_,_,_,_,ed,_,[],_,th,_,[],rfl,rfl,(HOFF.o.base HWz.o) W hW,LS.nil,(HOth.o.base HWy.o) W hW,LS.nil⟩
  | true =>
    rw [hq] at hs
    have hr:=HRP.o
    rw [if_pos hq] at hr
    replace HRP:=hide hr
    replace hs : St rb tv ts en (n2 + 1) wt:=hs
    try rw [show isT ts n2 (ByteArray.mk #[101,108,115,101]).data.toList = true from hq]
    clear hr hq K4
    replace HBa:=hide (HBa.o.keep hg (by have:=HD.o.rlt; have:=HLa.o; omega))
    replace HBs:=hide (HBs.o.keep hg (by have:=HD.o.rlt; have:=HLs.o; omega))
    replace HOFF:=hide (HOFF.o.keep hg (by have:=HD.o.rlt; have:=HWz.o; omega))
    replace HOth:=hide (HOth.o.keep hg (by have:=HD.o.rlt; have:=HWy.o; omega))
    replace HD : Hx (Rd rb tv ts en w (n2 + 1) wt):=HD.o.call hg hs
    clear hg hs
    have K5:=hide (block_c f HS.o (n2 + 1) _ HD.o.st (by have:=HF.o; have:=HNn1.o; have:=HNn2.o; omega))
    go_wp2_with fail
    obtain ⟨x,hx⟩:=nm wt.heap.size
    have HWx : Hx (w.heap.size≤x):=by show _≤_; rw [hx]; exact HD.o.size
    have HZxa : Hx (ba < x):=by show _ < _; rw [hx]; exact HBa.o.lt
    have HZxs : Hx (bs < x):=by show _ < _; rw [hx]; exact HBs.o.lt
    refine K5.o.mono ?_
    rintro e w13 hpo
    obtain ⟨m,ho⟩ | ⟨el,n3,ho⟩:=res_cases (pBlock ts (fun n => pStmts ts en f [] n) (n2 + 1))
    · replace hpo : PostC ts en (pBlock ts (fun n => pStmts ts en f [] n) (n2 + 1)) _ _ e w13:=hpo
      rw [ho] at hpo
      obtain ⟨rfl,hg⟩:=hpo
      have HO : Hx (res = .inr m):=by show _ = _; rw [HRP.o,ho]; rfl
      have HG:=hide (grownBy_trans HD.o.gr hg)
      clear hg ho
      unfold gaveUpAt
      go_wp2_with fail
      refine ⟨rfl,?_⟩
      rw [HO.o]
      exact ⟨rfl,HG.o⟩
    replace hpo : PostC ts en (pBlock ts (fun n => pStmts ts en f [] n) (n2 + 1)) _ _ e w13:=hpo
    rw [ho] at hpo
    obtain ⟨ela,elc,rfl,hoff,hl6,hg,hs⟩:=hpo
    have hr:=HRP.o
    rw [ho,bindR_inl] at hr
    replace HRP:=hide hr
    have HOO:=hide ho
    clear hr ho
    obtain ⟨elk,helk⟩:=nm el.length
    rw [← helk,← hx] at hoff
    rw [← helk]
    have HOel:=hide hoff
    have HNn3:=hide (pBlock_lt (fun n l n1 h => pStmts_le f [] n l n1 h) HOO.o)
    clear hoff hl6 helk hx K5
    clear HOO
    replace HBa:=hide (HBa.o.keep hg (by have:=HD.o.rlt; have:=HLa.o; omega))
    replace HBs:=hide (HBs.o.keep hg (by have:=HD.o.rlt; have:=HLs.o; omega))
    replace HOFF:=hide (HOFF.o.keep hg (by have:=HD.o.rlt; have:=HWz.o; omega))
    replace HOth:=hide (HOth.o.keep hg (by have:=HD.o.rlt; have:=HWy.o; omega))
    replace HD : Hx (Rd rb tv ts en w (n3) w13):=HD.o.call hg hs
    clear hg hs
    obtain ⟨cs0,cs1,cs2,cs3,cs4,cs5,cs6,cs7,cs8,cs9,cs10,cs11⟩:=rc12 HBs.o.row
    have fs0:=HBs.o.fz 0
    have fs1:=HBs.o.fz 1
    have fs2:=HBs.o.fz 2
    have fs3:=HBs.o.fz 3
    have fs4:=HBs.o.fz 4
    have fs5:=HBs.o.fz 5
    have fs6:=HBs.o.fz 6
    have fs7:=HBs.o.fz 7
    have fs8:=HBs.o.fz 8
    have fs9:=HBs.o.fz 9
    have fs10:=HBs.o.fz 10
    have fs11:=HBs.o.fz 11
    obtain ⟨V14,hV14⟩:=nm (w13.setCell ⟨bs,11,none⟩ (.slice ela elk elc))
    replace HBs : Hx (Bx bs [.int .i64 7,.int .i64 p,.string ⟨#[]⟩,.string ⟨#[]⟩,.int .i64 e0,.int .i64 e1,.int .i64 e2,.string e3,.slice q0 q1 q2,.slice none 0 0,.slice tha thk thc,.slice ela elk elc] V14):=by show Bx _ _ _; rw [hV14]; exact HBs.o.set (j:=11) (by simp)
    replace HBa : Hx (Bx ba [.int .i64 0,.int .i64 0,.string ⟨#[]⟩,.string ⟨#[]⟩,.int .i64 0,.int .i64 0,.int .i64 0,.string ⟨#[]⟩,.slice none 0 0,.slice none 0 0,.slice none 0 0,.slice none 0 0] V14):=by show Bx _ _ _; rw [hV14]; exact HBa.o.far (by have:=HLas.o; omega)
    replace HD : Hx (Rd rb tv ts en w (n3) V14):=by show Rd _ _ _ _ _ _ _; rw [hV14]; exact HD.o.set (by exact HLs.o)
    replace HOFF : Hx (Off z none V14 (fun W => XE W 61 [.int .i64 e0,.int .i64 e1,.int .i64 e2,.string e3,.slice q0 q1 q2] ed)):=by show Off _ _ _ _; rw [hV14]; exact HOFF.o.set HZzs.o
    replace HOth : Hx (Off y none V14 (fun W => LS 12 (XC W f) W (.slice tha thk thc) th)):=by show Off _ _ _ _; rw [hV14]; exact HOth.o.set HZys.o
    replace HOel : Hx (Off x none V14 (fun W => LS 12 (XC W f) W (.slice ela elk elc) el)):=by show Off _ _ _ _; rw [hV14]; exact HOel.o.set HZxs.o
    go_upto_region 7 with fail
    rw [← hV14]
    clear fs11 fs10 fs9 fs8 fs7 fs6 fs5 fs4 fs3 fs2 fs1 fs0 cs11 cs10 cs9 cs8 cs7 cs6 cs5 cs4 cs3 cs2 cs1 cs0
    clear hV14
    have neas : ba≠bs:=by have:=HLas.o; omega
    have nesa : bs≠ba:=by have:=HLas.o; omega
    obtain ⟨ca0,ca1,ca2,ca3,ca4,ca5,ca6,ca7,ca8,ca9,ca10,ca11⟩:=rc12 HBa.o.row
    have fa0:=HBa.o.fz 0
    have fa1:=HBa.o.fz 1
    have fa2:=HBa.o.fz 2
    have fa3:=HBa.o.fz 3
    have fa4:=HBa.o.fz 4
    have fa5:=HBa.o.fz 5
    have fa6:=HBa.o.fz 6
    have fa7:=HBa.o.fz 7
    have fa8:=HBa.o.fz 8
    have fa9:=HBa.o.fz 9
    have fa10:=HBa.o.fz 10
    have fa11:=HBa.o.fz 11
    obtain ⟨cs0,cs1,cs2,cs3,cs4,cs5,cs6,cs7,cs8,cs9,cs10,cs11⟩:=rc12 HBs.o.row
    have fs0:=HBs.o.fz 0
    have fs1:=HBs.o.fz 1
    have fs2:=HBs.o.fz 2
    have fs3:=HBs.o.fz 3
    have fs4:=HBs.o.fz 4
    have fs5:=HBs.o.fz 5
    have fs6:=HBs.o.fz 6
    have fs7:=HBs.o.fz 7
    have fs8:=HBs.o.fz 8
    have fs9:=HBs.o.fz 9
    have fs10:=HBs.o.fz 10
    have fs11:=HBs.o.fz 11
    obtain ⟨V15,hV15⟩:=nm (V14.setCell ⟨ba,0,none⟩ (.int .i64 7))
    replace HBa : Hx (Bx ba [.int .i64 7,.int .i64 0,.string ⟨#[]⟩,.string ⟨#[]⟩,.int .i64 0,.int .i64 0,.int .i64 0,.string ⟨#[]⟩,.slice none 0 0,.slice none 0 0,.slice none 0 0,.slice none 0 0] V15):=by show Bx _ _ _; rw [hV15]; exact HBa.o.set (j:=0) (by simp)
    replace HBs : Hx (Bx bs [.int .i64 7,.int .i64 p,.string ⟨#[]⟩,.string ⟨#[]⟩,.int .i64 e0,.int .i64 e1,.int .i64 e2,.string e3,.slice q0 q1 q2,.slice none 0 0,.slice tha thk thc,.slice ela elk elc] V15):=by show Bx _ _ _; rw [hV15]; exact HBs.o.far (by have:=HLas.o; omega)
    replace HD : Hx (Rd rb tv ts en w (n3) V15):=by show Rd _ _ _ _ _ _ _; rw [hV15]; exact HD.o.set (by exact HLa.o)
    replace HOFF : Hx (Off z none V15 (fun W => XE W 61 [.int .i64 e0,.int .i64 e1,.int .i64 e2,.string e3,.slice q0 q1 q2] ed)):=by show Off _ _ _ _; rw [hV15]; exact HOFF.o.set HZza.o
    replace HOth : Hx (Off y none V15 (fun W => LS 12 (XC W f) W (.slice tha thk thc) th)):=by show Off _ _ _ _; rw [hV15]; exact HOth.o.set HZya.o
    replace HOel : Hx (Off x none V15 (fun W => LS 12 (XC W f) W (.slice ela elk elc) el)):=by show Off _ _ _ _; rw [hV15]; exact HOel.o.set HZxa.o
    obtain ⟨V16,hV16⟩:=nm (V15.setCell ⟨ba,1,none⟩ (.int .i64 p))
    replace HBa : Hx (Bx ba [.int .i64 7,.int .i64 p,.string ⟨#[]⟩,.string ⟨#[]⟩,.int .i64 0,.int .i64 0,.int .i64 0,.string ⟨#[]⟩,.slice none 0 0,.slice none 0 0,.slice none 0 0,.slice none 0 0] V16):=by show Bx _ _ _; rw [hV16]; exact HBa.o.set (j:=1) (by simp)
    replace HBs : Hx (Bx bs [.int .i64 7,.int .i64 p,.string ⟨#[]⟩,.string ⟨#[]⟩,.int .i64 e0,.int .i64 e1,.int .i64 e2,.string e3,.slice q0 q1 q2,.slice none 0 0,.slice tha thk thc,.slice ela elk elc] V16):=by show Bx _ _ _; rw [hV16]; exact HBs.o.far (by have:=HLas.o; omega)
    replace HD : Hx (Rd rb tv ts en w (n3) V16):=by show Rd _ _ _ _ _ _ _; rw [hV16]; exact HD.o.set (by exact HLa.o)
    replace HOFF : Hx (Off z none V16 (fun W => XE W 61 [.int .i64 e0,.int .i64 e1,.int .i64 e2,.string e3,.slice q0 q1 q2] ed)):=by show Off _ _ _ _; rw [hV16]; exact HOFF.o.set HZza.o
    replace HOth : Hx (Off y none V16 (fun W => LS 12 (XC W f) W (.slice tha thk thc) th)):=by show Off _ _ _ _; rw [hV16]; exact HOth.o.set HZya.o
    replace HOel : Hx (Off x none V16 (fun W => LS 12 (XC W f) W (.slice ela elk elc) el)):=by show Off _ _ _ _; rw [hV16]; exact HOel.o.set HZxa.o
    obtain ⟨V17,hV17⟩:=nm (V16.setCell ⟨ba,2,none⟩ (.string ⟨#[]⟩))
    replace HBa : Hx (Bx ba [.int .i64 7,.int .i64 p,.string ⟨#[]⟩,.string ⟨#[]⟩,.int .i64 0,.int .i64 0,.int .i64 0,.string ⟨#[]⟩,.slice none 0 0,.slice none 0 0,.slice none 0 0,.slice none 0 0] V17):=by show Bx _ _ _; rw [hV17]; exact HBa.o.set (j:=2) (by simp)
    replace HBs : Hx (Bx bs [.int .i64 7,.int .i64 p,.string ⟨#[]⟩,.string ⟨#[]⟩,.int .i64 e0,.int .i64 e1,.int .i64 e2,.string e3,.slice q0 q1 q2,.slice none 0 0,.slice tha thk thc,.slice ela elk elc] V17):=by show Bx _ _ _; rw [hV17]; exact HBs.o.far (by have:=HLas.o; omega)
    replace HD : Hx (Rd rb tv ts en w (n3) V17):=by show Rd _ _ _ _ _ _ _; rw [hV17]; exact HD.o.set (by exact HLa.o)
    replace HOFF : Hx (Off z none V17 (fun W => XE W 61 [.int .i64 e0,.int .i64 e1,.int .i64 e2,.string e3,.slice q0 q1 q2] ed)):=by show Off _ _ _ _; rw [hV17]; exact HOFF.o.set HZza.o
    replace HOth : Hx (Off y none V17 (fun W => LS 12 (XC W f) W (.slice tha thk thc) th)):=by show Off _ _ _ _; rw [hV17]; exact HOth.o.set HZya.o
    replace HOel : Hx (Off x none V17 (fun W => LS 12 (XC W f) W (.slice ela elk elc) el)):=by show Off _ _ _ _; rw [hV17]; exact HOel.o.set HZxa.o
    obtain ⟨V18,hV18⟩:=nm (V17.setCell ⟨ba,3,none⟩ (.string ⟨#[]⟩))
    replace HBa : Hx (Bx ba [.int .i64 7,.int .i64 p,.string ⟨#[]⟩,.string ⟨#[]⟩,.int .i64 0,.int .i64 0,.int .i64 0,.string ⟨#[]⟩,.slice none 0 0,.slice none 0 0,.slice none 0 0,.slice none 0 0] V18):=by show Bx _ _ _; rw [hV18]; exact HBa.o.set (j:=3) (by simp)
    replace HBs : Hx (Bx bs [.int .i64 7,.int .i64 p,.string ⟨#[]⟩,.string ⟨#[]⟩,.int .i64 e0,.int .i64 e1,.int .i64 e2,.string e3,.slice q0 q1 q2,.slice none 0 0,.slice tha thk thc,.slice ela elk elc] V18):=by show Bx _ _ _; rw [hV18]; exact HBs.o.far (by have:=HLas.o; omega)
    replace HD : Hx (Rd rb tv ts en w (n3) V18):=by show Rd _ _ _ _ _ _ _; rw [hV18]; exact HD.o.set (by exact HLa.o)
    replace HOFF : Hx (Off z none V18 (fun W => XE W 61 [.int .i64 e0,.int .i64 e1,.int .i64 e2,.string e3,.slice q0 q1 q2] ed)):=by show Off _ _ _ _; rw [hV18]; exact HOFF.o.set HZza.o
    replace HOth : Hx (Off y none V18 (fun W => LS 12 (XC W f) W (.slice tha thk thc) th)):=by show Off _ _ _ _; rw [hV18]; exact HOth.o.set HZya.o
    replace HOel : Hx (Off x none V18 (fun W => LS 12 (XC W f) W (.slice ela elk elc) el)):=by show Off _ _ _ _; rw [hV18]; exact HOel.o.set HZxa.o
    obtain ⟨V19,hV19⟩:=nm (V18.setCell ⟨ba,4,none⟩ (.int .i64 e0))
    replace HBa : Hx (Bx ba [.int .i64 7,.int .i64 p,.string ⟨#[]⟩,.string ⟨#[]⟩,.int .i64 e0,.int .i64 0,.int .i64 0,.string ⟨#[]⟩,.slice none 0 0,.slice none 0 0,.slice none 0 0,.slice none 0 0] V19):=by show Bx _ _ _; rw [hV19]; exact HBa.o.set (j:=4) (by simp)
    replace HBs : Hx (Bx bs [.int .i64 7,.int .i64 p,.string ⟨#[]⟩,.string ⟨#[]⟩,.int .i64 e0,.int .i64 e1,.int .i64 e2,.string e3,.slice q0 q1 q2,.slice none 0 0,.slice tha thk thc,.slice ela elk elc] V19):=by show Bx _ _ _; rw [hV19]; exact HBs.o.far (by have:=HLas.o; omega)
    replace HD : Hx (Rd rb tv ts en w (n3) V19):=by show Rd _ _ _ _ _ _ _; rw [hV19]; exact HD.o.set (by exact HLa.o)
    replace HOFF : Hx (Off z none V19 (fun W => XE W 61 [.int .i64 e0,.int .i64 e1,.int .i64 e2,.string e3,.slice q0 q1 q2] ed)):=by show Off _ _ _ _; rw [hV19]; exact HOFF.o.set HZza.o
    replace HOth : Hx (Off y none V19 (fun W => LS 12 (XC W f) W (.slice tha thk thc) th)):=by show Off _ _ _ _; rw [hV19]; exact HOth.o.set HZya.o
    replace HOel : Hx (Off x none V19 (fun W => LS 12 (XC W f) W (.slice ela elk elc) el)):=by show Off _ _ _ _; rw [hV19]; exact HOel.o.set HZxa.o
    obtain ⟨V20,hV20⟩:=nm (V19.setCell ⟨ba,5,none⟩ (.int .i64 e1))
    replace HBa : Hx (Bx ba [.int .i64 7,.int .i64 p,.string ⟨#[]⟩,.string ⟨#[]⟩,.int .i64 e0,.int .i64 e1,.int .i64 0,.string ⟨#[]⟩,.slice none 0 0,.slice none 0 0,.slice none 0 0,.slice none 0 0] V20):=by show Bx _ _ _; rw [hV20]; exact HBa.o.set (j:=5) (by simp)
    replace HBs : Hx (Bx bs [.int .i64 7,.int .i64 p,.string ⟨#[]⟩,.string ⟨#[]⟩,.int .i64 e0,.int .i64 e1,.int .i64 e2,.string e3,.slice q0 q1 q2,.slice none 0 0,.slice tha thk thc,.slice ela elk elc] V20):=by show Bx _ _ _; rw [hV20]; exact HBs.o.far (by have:=HLas.o; omega)
    replace HD : Hx (Rd rb tv ts en w (n3) V20):=by show Rd _ _ _ _ _ _ _; rw [hV20]; exact HD.o.set (by exact HLa.o)
    replace HOFF : Hx (Off z none V20 (fun W => XE W 61 [.int .i64 e0,.int .i64 e1,.int .i64 e2,.string e3,.slice q0 q1 q2] ed)):=by show Off _ _ _ _; rw [hV20]; exact HOFF.o.set HZza.o
    replace HOth : Hx (Off y none V20 (fun W => LS 12 (XC W f) W (.slice tha thk thc) th)):=by show Off _ _ _ _; rw [hV20]; exact HOth.o.set HZya.o
    replace HOel : Hx (Off x none V20 (fun W => LS 12 (XC W f) W (.slice ela elk elc) el)):=by show Off _ _ _ _; rw [hV20]; exact HOel.o.set HZxa.o
    obtain ⟨V21,hV21⟩:=nm (V20.setCell ⟨ba,6,none⟩ (.int .i64 e2))
    replace HBa : Hx (Bx ba [.int .i64 7,.int .i64 p,.string ⟨#[]⟩,.string ⟨#[]⟩,.int .i64 e0,.int .i64 e1,.int .i64 e2,.string ⟨#[]⟩,.slice none 0 0,.slice none 0 0,.slice none 0 0,.slice none 0 0] V21):=by show Bx _ _ _; rw [hV21]; exact HBa.o.set (j:=6) (by simp)
    replace HBs : Hx (Bx bs [.int .i64 7,.int .i64 p,.string ⟨#[]⟩,.string ⟨#[]⟩,.int .i64 e0,.int .i64 e1,.int .i64 e2,.string e3,.slice q0 q1 q2,.slice none 0 0,.slice tha thk thc,.slice ela elk elc] V21):=by show Bx _ _ _; rw [hV21]; exact HBs.o.far (by have:=HLas.o; omega)
    replace HD : Hx (Rd rb tv ts en w (n3) V21):=by show Rd _ _ _ _ _ _ _; rw [hV21]; exact HD.o.set (by exact HLa.o)
    replace HOFF : Hx (Off z none V21 (fun W => XE W 61 [.int .i64 e0,.int .i64 e1,.int .i64 e2,.string e3,.slice q0 q1 q2] ed)):=by show Off _ _ _ _; rw [hV21]; exact HOFF.o.set HZza.o
    replace HOth : Hx (Off y none V21 (fun W => LS 12 (XC W f) W (.slice tha thk thc) th)):=by show Off _ _ _ _; rw [hV21]; exact HOth.o.set HZya.o
    replace HOel : Hx (Off x none V21 (fun W => LS 12 (XC W f) W (.slice ela elk elc) el)):=by show Off _ _ _ _; rw [hV21]; exact HOel.o.set HZxa.o
    obtain ⟨V22,hV22⟩:=nm (V21.setCell ⟨ba,7,none⟩ (.string e3))
    replace HBa : Hx (Bx ba [.int .i64 7,.int .i64 p,.string ⟨#[]⟩,.string ⟨#[]⟩,.int .i64 e0,.int .i64 e1,.int .i64 e2,.string e3,.slice none 0 0,.slice none 0 0,.slice none 0 0,.slice none 0 0] V22):=by show Bx _ _ _; rw [hV22]; exact HBa.o.set (j:=7) (by simp)
    replace HBs : Hx (Bx bs [.int .i64 7,.int .i64 p,.string ⟨#[]⟩,.string ⟨#[]⟩,.int .i64 e0,.int .i64 e1,.int .i64 e2,.string e3,.slice q0 q1 q2,.slice none 0 0,.slice tha thk thc,.slice ela elk elc] V22):=by show Bx _ _ _; rw [hV22]; exact HBs.o.far (by have:=HLas.o; omega)
    replace HD : Hx (Rd rb tv ts en w (n3) V22):=by show Rd _ _ _ _ _ _ _; rw [hV22]; exact HD.o.set (by exact HLa.o)
    replace HOFF : Hx (Off z none V22 (fun W => XE W 61 [.int .i64 e0,.int .i64 e1,.int .i64 e2,.string e3,.slice q0 q1 q2] ed)):=by show Off _ _ _ _; rw [hV22]; exact HOFF.o.set HZza.o
    replace HOth : Hx (Off y none V22 (fun W => LS 12 (XC W f) W (.slice tha thk thc) th)):=by show Off _ _ _ _; rw [hV22]; exact HOth.o.set HZya.o
    replace HOel : Hx (Off x none V22 (fun W => LS 12 (XC W f) W (.slice ela elk elc) el)):=by show Off _ _ _ _; rw [hV22]; exact HOel.o.set HZxa.o
    obtain ⟨V23,hV23⟩:=nm (V22.setCell ⟨ba,8,none⟩ (.slice q0 q1 q2))
    replace HBa : Hx (Bx ba [.int .i64 7,.int .i64 p,.string ⟨#[]⟩,.string ⟨#[]⟩,.int .i64 e0,.int .i64 e1,.int .i64 e2,.string e3,.slice q0 q1 q2,.slice none 0 0,.slice none 0 0,.slice none 0 0] V23):=by show Bx _ _ _; rw [hV23]; exact HBa.o.set (j:=8) (by simp)
    replace HBs : Hx (Bx bs [.int .i64 7,.int .i64 p,.string ⟨#[]⟩,.string ⟨#[]⟩,.int .i64 e0,.int .i64 e1,.int .i64 e2,.string e3,.slice q0 q1 q2,.slice none 0 0,.slice tha thk thc,.slice ela elk elc] V23):=by show Bx _ _ _; rw [hV23]; exact HBs.o.far (by have:=HLas.o; omega)
    replace HD : Hx (Rd rb tv ts en w (n3) V23):=by show Rd _ _ _ _ _ _ _; rw [hV23]; exact HD.o.set (by exact HLa.o)
    replace HOFF : Hx (Off z none V23 (fun W => XE W 61 [.int .i64 e0,.int .i64 e1,.int .i64 e2,.string e3,.slice q0 q1 q2] ed)):=by show Off _ _ _ _; rw [hV23]; exact HOFF.o.set HZza.o
    replace HOth : Hx (Off y none V23 (fun W => LS 12 (XC W f) W (.slice tha thk thc) th)):=by show Off _ _ _ _; rw [hV23]; exact HOth.o.set HZya.o
    replace HOel : Hx (Off x none V23 (fun W => LS 12 (XC W f) W (.slice ela elk elc) el)):=by show Off _ _ _ _; rw [hV23]; exact HOel.o.set HZxa.o
    obtain ⟨V24,hV24⟩:=nm (V23.setCell ⟨ba,9,none⟩ (.slice none 0 0))
    replace HBa : Hx (Bx ba [.int .i64 7,.int .i64 p,.string ⟨#[]⟩,.string ⟨#[]⟩,.int .i64 e0,.int .i64 e1,.int .i64 e2,.string e3,.slice q0 q1 q2,.slice none 0 0,.slice none 0 0,.slice none 0 0] V24):=by show Bx _ _ _; rw [hV24]; exact HBa.o.set (j:=9) (by simp)
    replace HBs : Hx (Bx bs [.int .i64 7,.int .i64 p,.string ⟨#[]⟩,.string ⟨#[]⟩,.int .i64 e0,.int .i64 e1,.int .i64 e2,.string e3,.slice q0 q1 q2,.slice none 0 0,.slice tha thk thc,.slice ela elk elc] V24):=by show Bx _ _ _; rw [hV24]; exact HBs.o.far (by have:=HLas.o; omega)
    replace HD : Hx (Rd rb tv ts en w (n3) V24):=by show Rd _ _ _ _ _ _ _; rw [hV24]; exact HD.o.set (by exact HLa.o)
    replace HOFF : Hx (Off z none V24 (fun W => XE W 61 [.int .i64 e0,.int .i64 e1,.int .i64 e2,.string e3,.slice q0 q1 q2] ed)):=by show Off _ _ _ _; rw [hV24]; exact HOFF.o.set HZza.o
    replace HOth : Hx (Off y none V24 (fun W => LS 12 (XC W f) W (.slice tha thk thc) th)):=by show Off _ _ _ _; rw [hV24]; exact HOth.o.set HZya.o
    replace HOel : Hx (Off x none V24 (fun W => LS 12 (XC W f) W (.slice ela elk elc) el)):=by show Off _ _ _ _; rw [hV24]; exact HOel.o.set HZxa.o
    obtain ⟨V25,hV25⟩:=nm (V24.setCell ⟨ba,10,none⟩ (.slice tha thk thc))
    replace HBa : Hx (Bx ba [.int .i64 7,.int .i64 p,.string ⟨#[]⟩,.string ⟨#[]⟩,.int .i64 e0,.int .i64 e1,.int .i64 e2,.string e3,.slice q0 q1 q2,.slice none 0 0,.slice tha thk thc,.slice none 0 0] V25):=by show Bx _ _ _; rw [hV25]; exact HBa.o.set (j:=10) (by simp)
    replace HBs : Hx (Bx bs [.int .i64 7,.int .i64 p,.string ⟨#[]⟩,.string ⟨#[]⟩,.int .i64 e0,.int .i64 e1,.int .i64 e2,.string e3,.slice q0 q1 q2,.slice none 0 0,.slice tha thk thc,.slice ela elk elc] V25):=by show Bx _ _ _; rw [hV25]; exact HBs.o.far (by have:=HLas.o; omega)
    replace HD : Hx (Rd rb tv ts en w (n3) V25):=by show Rd _ _ _ _ _ _ _; rw [hV25]; exact HD.o.set (by exact HLa.o)
    replace HOFF : Hx (Off z none V25 (fun W => XE W 61 [.int .i64 e0,.int .i64 e1,.int .i64 e2,.string e3,.slice q0 q1 q2] ed)):=by show Off _ _ _ _; rw [hV25]; exact HOFF.o.set HZza.o
    replace HOth : Hx (Off y none V25 (fun W => LS 12 (XC W f) W (.slice tha thk thc) th)):=by show Off _ _ _ _; rw [hV25]; exact HOth.o.set HZya.o
    replace HOel : Hx (Off x none V25 (fun W => LS 12 (XC W f) W (.slice ela elk elc) el)):=by show Off _ _ _ _; rw [hV25]; exact HOel.o.set HZxa.o
    obtain ⟨V26,hV26⟩:=nm (V25.setCell ⟨ba,11,none⟩ (.slice ela elk elc))
    replace HBa : Hx (Bx ba [.int .i64 7,.int .i64 p,.string ⟨#[]⟩,.string ⟨#[]⟩,.int .i64 e0,.int .i64 e1,.int .i64 e2,.string e3,.slice q0 q1 q2,.slice none 0 0,.slice tha thk thc,.slice ela elk elc] V26):=by show Bx _ _ _; rw [hV26]; exact HBa.o.set (j:=11) (by simp)
    replace HBs : Hx (Bx bs [.int .i64 7,.int .i64 p,.string ⟨#[]⟩,.string ⟨#[]⟩,.int .i64 e0,.int .i64 e1,.int .i64 e2,.string e3,.slice q0 q1 q2,.slice none 0 0,.slice tha thk thc,.slice ela elk elc] V26):=by show Bx _ _ _; rw [hV26]; exact HBs.o.far (by have:=HLas.o; omega)
    replace HD : Hx (Rd rb tv ts en w (n3) V26):=by show Rd _ _ _ _ _ _ _; rw [hV26]; exact HD.o.set (by exact HLa.o)
    replace HOFF : Hx (Off z none V26 (fun W => XE W 61 [.int .i64 e0,.int .i64 e1,.int .i64 e2,.string e3,.slice q0 q1 q2] ed)):=by show Off _ _ _ _; rw [hV26]; exact HOFF.o.set HZza.o
    replace HOth : Hx (Off y none V26 (fun W => LS 12 (XC W f) W (.slice tha thk thc) th)):=by show Off _ _ _ _; rw [hV26]; exact HOth.o.set HZya.o
    replace HOel : Hx (Off x none V26 (fun W => LS 12 (XC W f) W (.slice ela elk elc) el)):=by show Off _ _ _ _; rw [hV26]; exact HOel.o.set HZxa.o
    go_wp2_with fail
    refine bodyPost_ret (v:=.agg #[.int .i64 7,.int .i64 p,.string ⟨#[]⟩,.string ⟨#[]⟩,.int .i64 e0,.int .i64 e1,.int .i64 e2,.string e3,.slice q0 q1 q2,.slice none 0 0,.slice tha thk thc,.slice ela elk elc]) (by simp [results,Tryz.results137,go_sem, *]) rfl ?_
    rw [← hV15,← hV16,← hV17,← hV18,← hV19,← hV20,← hV21,← hV22,← hV23,← hV24,← hV25,← hV26]
    have hlt:=HR0.o
    rw [HRP.o] at hlt
    have hlt2:=pStmt_lt hlt.symm
    rw [HRP.o]
    refine ⟨_,_,_,_,_,_,_,_,_,_,_,_,_,_,_,_,_,_,_,_,rfl,fun W hW => ?_,hlt2,HD.o.gr,HD.o.st⟩
    exact ⟨_,_,_,_,_,_,_,_,_,ed,_,[],_,th,_,el,rfl,rfl,(HOFF.o.base HWz.o) W hW,LS.nil,(HOth.o.base HWy.o) W hW,(HOel.o.base HWx.o) W hW⟩
set_option maxHeartbeats 8000000 in
set_option maxRecDepth 100000 in
theorem stmt_while (hall : ts.all isAlone = true) {f : Nat} (hB : StmtsOk rb tv ts en f) (n : Nat) (w : World) (h : St rb tv ts en n w) (hf : 2 * (ts.length - n) + 1≤f + 1) (hq0 : isT ts n [105,102] = false) (hq1 : isT ts n [119,104,105,108,101] = true) :
    Calls Tryz.prog 137 #[.pointer (some ⟨rb,0,none⟩)] w (PostC ts en (pStmt ts en (f + 1) n) (StmtPost rb tv ts en (f + 1) n w) (fun w' => w.grownBy w' (some rb))):=by
  obtain ⟨res,hres⟩:=nm (pStmt ts en (f + 1) n)
  rw [← hres]
  have HR0:=hide hres
  have HRP : Hx (res = bindR (pX ts en (n + 1)) fun e n1 => bindR (pBlock ts (fun n => pStmts ts en f [] n) n1) fun th n2 => .inl (stD 8 (posn ts en n) noS noS e [] th [],n2)):=by show _ = _; rw [hres,show pStmt ts en (f + 1) n = pStmt1 ts en (pBlock ts (fun n => pStmts ts en f [] n)) n from rfl]; unfold pStmt1; rw [if_neg (show ¬ isT ts n [105,102] = true by rw [hq0]; simp)]; rw [if_pos hq1]; try rfl
  obtain ⟨p,hp⟩:=nm (posn ts en n)
  rw [← hp] at HRP
  have HP:=hide hp
  have HD:=hide (Rd.start h)
  have HS:=hide hB
  have HF:=hide hf
  clear hres hp h hB hf
  obtain ⟨V1,hV1⟩:=nm (w.alloc (.cells #[.int .i64 0,.int .i64 0,.string ⟨#[]⟩,.string ⟨#[]⟩,.int .i64 0,.int .i64 0,.int .i64 0,.string ⟨#[]⟩,.slice none 0 0,.slice none 0 0,.slice none 0 0,.slice none 0 0] 55))
  obtain ⟨ba,hba⟩:=nm w.heap.size
  have hsba:=hba
  have HLa : Hx (w.heap.size≤ba):=by show _≤_; rw [hsba]; exact HD.o.size
  have HBa : Hx (Bx ba [.int .i64 0,.int .i64 0,.string ⟨#[]⟩,.string ⟨#[]⟩,.int .i64 0,.int .i64 0,.int .i64 0,.string ⟨#[]⟩,.slice none 0 0,.slice none 0 0,.slice none 0 0,.slice none 0 0] V1):=by show Bx _ _ _; rw [hV1,hsba]; exact Bx.new w [.int .i64 0,.int .i64 0,.string ⟨#[]⟩,.string ⟨#[]⟩,.int .i64 0,.int .i64 0,.int .i64 0,.string ⟨#[]⟩,.slice none 0 0,.slice none 0 0,.slice none 0 0,.slice none 0 0] 55
  replace HD : Hx (Rd rb tv ts en w (n) V1):=by show Rd _ _ _ _ _ _ _; rw [hV1]; exact HD.o.over (bA _ _)
  have K0:=hide (here_c n _ HD.o.st)
  go_enter Tryz.func137,Tryz.ntmps137
  go_wp2_with fail
  rw [← hV1,← hba]
  clear hsba
  clear hba hV1
  refine K0.o.mono ?_
  rintro e wh ⟨rfl,hg,hs⟩
  rw [← HP.o]
  replace HBa:=hide (HBa.o.keep hg (by have:=HD.o.rlt; have:=HLa.o; omega))
  replace HD : Hx (Rd rb tv ts en w (n) wh):=HD.o.call hg hs
  clear hg hs
  clear K0
  obtain ⟨V2,hV2⟩:=nm (wh.alloc (.cells #[.int .i64 0,.int .i64 p,.string ⟨#[]⟩,.string ⟨#[]⟩,.int .i64 0,.int .i64 0,.int .i64 0,.string ⟨#[]⟩,.slice none 0 0,.slice none 0 0,.slice none 0 0,.slice none 0 0] 55))
  obtain ⟨bs,hbs⟩:=nm wh.heap.size
  have hsbs:=hbs
  have HLs : Hx (w.heap.size≤bs):=by show _≤_; rw [hsbs]; exact HD.o.size
  have HLas : Hx (ba < bs):=by show _ < _; rw [hsbs]; exact HBa.o.lt
  have HBs : Hx (Bx bs [.int .i64 0,.int .i64 p,.string ⟨#[]⟩,.string ⟨#[]⟩,.int .i64 0,.int .i64 0,.int .i64 0,.string ⟨#[]⟩,.slice none 0 0,.slice none 0 0,.slice none 0 0,.slice none 0 0] V2):=by show Bx _ _ _; rw [hV2,hsbs]; exact Bx.new wh [.int .i64 0,.int .i64 p,.string ⟨#[]⟩,.string ⟨#[]⟩,.int .i64 0,.int .i64 0,.int .i64 0,.string ⟨#[]⟩,.slice none 0 0,.slice none 0 0,.slice none 0 0,.slice none 0 0] 55
  replace HBa : Hx (Bx ba [.int .i64 0,.int .i64 0,.string ⟨#[]⟩,.string ⟨#[]⟩,.int .i64 0,.int .i64 0,.int .i64 0,.string ⟨#[]⟩,.slice none 0 0,.slice none 0 0,.slice none 0 0,.slice none 0 0] V2):=by show Bx _ _ _; rw [hV2]; exact HBa.o.over (bA _ _)
  replace HD : Hx (Rd rb tv ts en w (n) V2):=by show Rd _ _ _ _ _ _ _; rw [hV2]; exact HD.o.over (bA _ _)
  have KT:=hide (takes_f (x:=⟨#[105,102]⟩) rfl _ HD.o.st hq0)
  go_wp2_with fail
  rw [← hV2,← hbs]
  clear hsbs
  clear hbs hV2
  refine KT.o.mono ?_
  rintro e w3 ⟨rfl,hg,hs⟩
  replace HBa:=hide (HBa.o.keep hg (by have:=HD.o.rlt; have:=HLa.o; omega))
  replace HBs:=hide (HBs.o.keep hg (by have:=HD.o.rlt; have:=HLs.o; omega))
  replace HD : Hx (Rd rb tv ts en w (n) w3):=HD.o.call hg hs
  clear hg hs
  clear KT
  have KT:=hide (takes_t (x:=⟨#[119,104,105,108,101]⟩) rfl (by decide) _ HD.o.st hq1)
  go_wp2_with fail
  refine KT.o.mono ?_
  rintro e w4 ⟨rfl,hg,hs⟩
  replace HBa:=hide (HBa.o.keep hg (by have:=HD.o.rlt; have:=HLa.o; omega))
  replace HBs:=hide (HBs.o.keep hg (by have:=HD.o.rlt; have:=HLs.o; omega))
  replace HD : Hx (Rd rb tv ts en w (n + 1) w4):=HD.o.call hg hs
  clear hg hs
  clear KT
  have K1:=hide (expr_c hall (n + 1) _ HD.o.st)
  go_wp2_with fail
  obtain ⟨z,hz⟩:=nm w4.heap.size
  have HWz : Hx (w.heap.size≤z):=by show _≤_; rw [hz]; exact HD.o.size
  have HZza : Hx (ba < z):=by show _ < _; rw [hz]; exact HBa.o.lt
  have HZzs : Hx (bs < z):=by show _ < _; rw [hz]; exact HBs.o.lt
  refine K1.o.mono ?_
  rintro e w5 hpo
  obtain ⟨m,ho⟩ | ⟨ed,n1,ho⟩:=res_cases (pX ts en (n + 1))
  · replace hpo : PostC ts en (pX ts en (n + 1)) _ _ e w5:=hpo
    rw [ho] at hpo
    obtain ⟨rfl,hg⟩:=hpo
    have HO : Hx (res = .inr m):=by show _ = _; rw [HRP.o,ho]; rfl
    have HG:=hide (grownBy_trans HD.o.gr hg)
    clear hg ho
    unfold gaveUpAt
    go_wp2_with fail
    refine ⟨rfl,?_⟩
    rw [HO.o]
    exact ⟨rfl,HG.o⟩
  replace hpo : PostC ts en (pX ts en (n + 1)) _ _ e w5:=hpo
  rw [ho] at hpo
  obtain ⟨e0,e1,e2,e3,q0,q1,q2,rfl,hoff,-,-,hg,hs⟩:=hpo
  have hr:=HRP.o
  rw [ho,bindR_inl] at hr
  replace HRP:=hide hr
  have HOO:=hide ho
  clear hr ho
  rw [← hz] at hoff
  have HOFF:=hide hoff
  have HNn1:=hide (pX_lt HOO.o)
  clear hoff hz K1
  clear HOO
  replace HBa:=hide (HBa.o.keep hg (by have:=HD.o.rlt; have:=HLa.o; omega))
  replace HBs:=hide (HBs.o.keep hg (by have:=HD.o.rlt; have:=HLs.o; omega))
  replace HD : Hx (Rd rb tv ts en w (n1) w5):=HD.o.call hg hs
  clear hg hs
  have K2:=hide (block_c f HS.o (n1) _ HD.o.st (by have:=HF.o; have:=HNn1.o; omega))
  go_wp2_with fail
  obtain ⟨y,hy⟩:=nm w5.heap.size
  have HWy : Hx (w.heap.size≤y):=by show _≤_; rw [hy]; exact HD.o.size
  have HZya : Hx (ba < y):=by show _ < _; rw [hy]; exact HBa.o.lt
  have HZys : Hx (bs < y):=by show _ < _; rw [hy]; exact HBs.o.lt
  refine K2.o.mono ?_
  rintro e w6 hpo
  obtain ⟨m,ho⟩ | ⟨th,n2,ho⟩:=res_cases (pBlock ts (fun n => pStmts ts en f [] n) (n1))
  · replace hpo : PostC ts en (pBlock ts (fun n => pStmts ts en f [] n) (n1)) _ _ e w6:=hpo
    rw [ho] at hpo
    obtain ⟨rfl,hg⟩:=hpo
    have HO : Hx (res = .inr m):=by show _ = _; rw [HRP.o,ho]; rfl
    have HG:=hide (grownBy_trans HD.o.gr hg)
    clear hg ho
    unfold gaveUpAt
    go_wp2_with fail
    refine ⟨rfl,?_⟩
    rw [HO.o]
    exact ⟨rfl,HG.o⟩
  replace hpo : PostC ts en (pBlock ts (fun n => pStmts ts en f [] n) (n1)) _ _ e w6:=hpo
  rw [ho] at hpo
  obtain ⟨tha,thc,rfl,hoff,hl6,hg,hs⟩:=hpo
  have hr:=HRP.o
  rw [ho,bindR_inl] at hr
  replace HRP:=hide hr
  have HOO:=hide ho
  clear hr ho
  obtain ⟨thk,hthk⟩:=nm th.length
  rw [← hthk,← hy] at hoff
  rw [← hthk]
  have HOth:=hide hoff
  have HNn2:=hide (pBlock_lt (fun n l n1 h => pStmts_le f [] n l n1 h) HOO.o)
  clear hoff hl6 hthk hy K2
  clear HOO
  replace HBa:=hide (HBa.o.keep hg (by have:=HD.o.rlt; have:=HLa.o; omega))
  replace HBs:=hide (HBs.o.keep hg (by have:=HD.o.rlt; have:=HLs.o; omega))
  replace HOFF:=hide (HOFF.o.keep hg (by have:=HD.o.rlt; have:=HWz.o; omega))
  replace HD : Hx (Rd rb tv ts en w (n2) w6):=HD.o.call hg hs
  clear hg hs
  obtain ⟨cs0,cs1,cs2,cs3,cs4,cs5,cs6,cs7,cs8,cs9,cs10,cs11⟩:=rc12 HBs.o.row
  have fs0:=HBs.o.fz 0
  have fs1:=HBs.o.fz 1
  have fs2:=HBs.o.fz 2
  have fs3:=HBs.o.fz 3
  have fs4:=HBs.o.fz 4
  have fs5:=HBs.o.fz 5
  have fs6:=HBs.o.fz 6
  have fs7:=HBs.o.fz 7
  have fs8:=HBs.o.fz 8
  have fs9:=HBs.o.fz 9
  have fs10:=HBs.o.fz 10
  have fs11:=HBs.o.fz 11
  obtain ⟨V7,hV7⟩:=nm (w6.setCell ⟨bs,0,none⟩ (.int .i64 8))
  replace HBs : Hx (Bx bs [.int .i64 8,.int .i64 p,.string ⟨#[]⟩,.string ⟨#[]⟩,.int .i64 0,.int .i64 0,.int .i64 0,.string ⟨#[]⟩,.slice none 0 0,.slice none 0 0,.slice none 0 0,.slice none 0 0] V7):=by show Bx _ _ _; rw [hV7]; exact HBs.o.set (j:=0) (by simp)
  replace HBa : Hx (Bx ba [.int .i64 0,.int .i64 0,.string ⟨#[]⟩,.string ⟨#[]⟩,.int .i64 0,.int .i64 0,.int .i64 0,.string ⟨#[]⟩,.slice none 0 0,.slice none 0 0,.slice none 0 0,.slice none 0 0] V7):=by show Bx _ _ _; rw [hV7]; exact HBa.o.far (by have:=HLas.o; omega)
  replace HD : Hx (Rd rb tv ts en w (n2) V7):=by show Rd _ _ _ _ _ _ _; rw [hV7]; exact HD.o.set (by exact HLs.o)
  replace HOFF : Hx (Off z none V7 (fun W => XE W 61 [.int .i64 e0,.int .i64 e1,.int .i64 e2,.string e3,.slice q0 q1 q2] ed)):=by show Off _ _ _ _; rw [hV7]; exact HOFF.o.set HZzs.o
  replace HOth : Hx (Off y none V7 (fun W => LS 12 (XC W f) W (.slice tha thk thc) th)):=by show Off _ _ _ _; rw [hV7]; exact HOth.o.set HZys.o
  obtain ⟨V8,hV8⟩:=nm (V7.setCell ⟨bs,4,none⟩ (.int .i64 e0))
  replace HBs : Hx (Bx bs [.int .i64 8,.int .i64 p,.string ⟨#[]⟩,.string ⟨#[]⟩,.int .i64 e0,.int .i64 0,.int .i64 0,.string ⟨#[]⟩,.slice none 0 0,.slice none 0 0,.slice none 0 0,.slice none 0 0] V8):=by show Bx _ _ _; rw [hV8]; exact HBs.o.set (j:=4) (by simp)
  replace HBa : Hx (Bx ba [.int .i64 0,.int .i64 0,.string ⟨#[]⟩,.string ⟨#[]⟩,.int .i64 0,.int .i64 0,.int .i64 0,.string ⟨#[]⟩,.slice none 0 0,.slice none 0 0,.slice none 0 0,.slice none 0 0] V8):=by show Bx _ _ _; rw [hV8]; exact HBa.o.far (by have:=HLas.o; omega)
  replace HD : Hx (Rd rb tv ts en w (n2) V8):=by show Rd _ _ _ _ _ _ _; rw [hV8]; exact HD.o.set (by exact HLs.o)
  replace HOFF : Hx (Off z none V8 (fun W => XE W 61 [.int .i64 e0,.int .i64 e1,.int .i64 e2,.string e3,.slice q0 q1 q2] ed)):=by show Off _ _ _ _; rw [hV8]; exact HOFF.o.set HZzs.o
  replace HOth : Hx (Off y none V8 (fun W => LS 12 (XC W f) W (.slice tha thk thc) th)):=by show Off _ _ _ _; rw [hV8]; exact HOth.o.set HZys.o
  obtain ⟨V9,hV9⟩:=nm (V8.setCell ⟨bs,5,none⟩ (.int .i64 e1))
  replace HBs : Hx (Bx bs [.int .i64 8,.int .i64 p,.string ⟨#[]⟩,.string ⟨#[]⟩,.int .i64 e0,.int .i64 e1,.int .i64 0,.string ⟨#[]⟩,.slice none 0 0,.slice none 0 0,.slice none 0 0,.slice none 0 0] V9):=by show Bx _ _ _; rw [hV9]; exact HBs.o.set (j:=5) (by simp)
  replace HBa : Hx (Bx ba [.int .i64 0,.int .i64 0,.string ⟨#[]⟩,.string ⟨#[]⟩,.int .i64 0,.int .i64 0,.int .i64 0,.string ⟨#[]⟩,.slice none 0 0,.slice none 0 0,.slice none 0 0,.slice none 0 0] V9):=by show Bx _ _ _; rw [hV9]; exact HBa.o.far (by have:=HLas.o; omega)
  replace HD : Hx (Rd rb tv ts en w (n2) V9):=by show Rd _ _ _ _ _ _ _; rw [hV9]; exact HD.o.set (by exact HLs.o)
  replace HOFF : Hx (Off z none V9 (fun W => XE W 61 [.int .i64 e0,.int .i64 e1,.int .i64 e2,.string e3,.slice q0 q1 q2] ed)):=by show Off _ _ _ _; rw [hV9]; exact HOFF.o.set HZzs.o
  replace HOth : Hx (Off y none V9 (fun W => LS 12 (XC W f) W (.slice tha thk thc) th)):=by show Off _ _ _ _; rw [hV9]; exact HOth.o.set HZys.o
  obtain ⟨V10,hV10⟩:=nm (V9.setCell ⟨bs,6,none⟩ (.int .i64 e2))
  replace HBs : Hx (Bx bs [.int .i64 8,.int .i64 p,.string ⟨#[]⟩,.string ⟨#[]⟩,.int .i64 e0,.int .i64 e1,.int .i64 e2,.string ⟨#[]⟩,.slice none 0 0,.slice none 0 0,.slice none 0 0,.slice none 0 0] V10):=by show Bx _ _ _; rw [hV10]; exact HBs.o.set (j:=6) (by simp)
  replace HBa : Hx (Bx ba [.int .i64 0,.int .i64 0,.string ⟨#[]⟩,.string ⟨#[]⟩,.int .i64 0,.int .i64 0,.int .i64 0,.string ⟨#[]⟩,.slice none 0 0,.slice none 0 0,.slice none 0 0,.slice none 0 0] V10):=by show Bx _ _ _; rw [hV10]; exact HBa.o.far (by have:=HLas.o; omega)
  replace HD : Hx (Rd rb tv ts en w (n2) V10):=by show Rd _ _ _ _ _ _ _; rw [hV10]; exact HD.o.set (by exact HLs.o)
  replace HOFF : Hx (Off z none V10 (fun W => XE W 61 [.int .i64 e0,.int .i64 e1,.int .i64 e2,.string e3,.slice q0 q1 q2] ed)):=by show Off _ _ _ _; rw [hV10]; exact HOFF.o.set HZzs.o
  replace HOth : Hx (Off y none V10 (fun W => LS 12 (XC W f) W (.slice tha thk thc) th)):=by show Off _ _ _ _; rw [hV10]; exact HOth.o.set HZys.o
  obtain ⟨V11,hV11⟩:=nm (V10.setCell ⟨bs,7,none⟩ (.string e3))
  replace HBs : Hx (Bx bs [.int .i64 8,.int .i64 p,.string ⟨#[]⟩,.string ⟨#[]⟩,.int .i64 e0,.int .i64 e1,.int .i64 e2,.string e3,.slice none 0 0,.slice none 0 0,.slice none 0 0,.slice none 0 0] V11):=by show Bx _ _ _; rw [hV11]; exact HBs.o.set (j:=7) (by simp)
  replace HBa : Hx (Bx ba [.int .i64 0,.int .i64 0,.string ⟨#[]⟩,.string ⟨#[]⟩,.int .i64 0,.int .i64 0,.int .i64 0,.string ⟨#[]⟩,.slice none 0 0,.slice none 0 0,.slice none 0 0,.slice none 0 0] V11):=by show Bx _ _ _; rw [hV11]; exact HBa.o.far (by have:=HLas.o; omega)
  replace HD : Hx (Rd rb tv ts en w (n2) V11):=by show Rd _ _ _ _ _ _ _; rw [hV11]; exact HD.o.set (by exact HLs.o)
  replace HOFF : Hx (Off z none V11 (fun W => XE W 61 [.int .i64 e0,.int .i64 e1,.int .i64 e2,.string e3,.slice q0 q1 q2] ed)):=by show Off _ _ _ _; rw [hV11]; exact HOFF.o.set HZzs.o
  replace HOth : Hx (Off y none V11 (fun W => LS 12 (XC W f) W (.slice tha thk thc) th)):=by show Off _ _ _ _; rw [hV11]; exact HOth.o.set HZys.o
  obtain ⟨V12,hV12⟩:=nm (V11.setCell ⟨bs,8,none⟩ (.slice q0 q1 q2))
  replace HBs : Hx (Bx bs [.int .i64 8,.int .i64 p,.string ⟨#[]⟩,.string ⟨#[]⟩,.int .i64 e0,.int .i64 e1,.int .i64 e2,.string e3,.slice q0 q1 q2,.slice none 0 0,.slice none 0 0,.slice none 0 0] V12):=by show Bx _ _ _; rw [hV12]; exact HBs.o.set (j:=8) (by simp)
  replace HBa : Hx (Bx ba [.int .i64 0,.int .i64 0,.string ⟨#[]⟩,.string ⟨#[]⟩,.int .i64 0,.int .i64 0,.int .i64 0,.string ⟨#[]⟩,.slice none 0 0,.slice none 0 0,.slice none 0 0,.slice none 0 0] V12):=by show Bx _ _ _; rw [hV12]; exact HBa.o.far (by have:=HLas.o; omega)
  replace HD : Hx (Rd rb tv ts en w (n2) V12):=by show Rd _ _ _ _ _ _ _; rw [hV12]; exact HD.o.set (by exact HLs.o)
  replace HOFF : Hx (Off z none V12 (fun W => XE W 61 [.int .i64 e0,.int .i64 e1,.int .i64 e2,.string e3,.slice q0 q1 q2] ed)):=by show Off _ _ _ _; rw [hV12]; exact HOFF.o.set HZzs.o
  replace HOth : Hx (Off y none V12 (fun W => LS 12 (XC W f) W (.slice tha thk thc) th)):=by show Off _ _ _ _; rw [hV12]; exact HOth.o.set HZys.o
  obtain ⟨V13,hV13⟩:=nm (V12.setCell ⟨bs,10,none⟩ (.slice tha thk thc))
  replace HBs : Hx (Bx bs [.int .i64 8,.int .i64 p,.string ⟨#[]⟩,.string ⟨#[]⟩,.int .i64 e0,.int .i64 e1,.int .i64 e2,.string e3,.slice q0 q1 q2,.slice none 0 0,.slice tha thk thc,.slice none 0 0] V13):=by show Bx _ _ _; rw [hV13]; exact HBs.o.set (j:=10) (by simp)
  replace HBa : Hx (Bx ba [.int .i64 0,.int .i64 0,.string ⟨#[]⟩,.string ⟨#[]⟩,.int .i64 0,.int .i64 0,.int .i64 0,.string ⟨#[]⟩,.slice none 0 0,.slice none 0 0,.slice none 0 0,.slice none 0 0] V13):=by show Bx _ _ _; rw [hV13]; exact HBa.o.far (by have:=HLas.o; omega)
  replace HD : Hx (Rd rb tv ts en w (n2) V13):=by show Rd _ _ _ _ _ _ _; rw [hV13]; exact HD.o.set (by exact HLs.o)
  replace HOFF : Hx (Off z none V13 (fun W => XE W 61 [.int .i64 e0,.int .i64 e1,.int .i64 e2,.string e3,.slice q0 q1 q2] ed)):=by show Off _ _ _ _; rw [hV13]; exact HOFF.o.set HZzs.o
  replace HOth : Hx (Off y none V13 (fun W => LS 12 (XC W f) W (.slice tha thk thc) th)):=by show Off _ _ _ _; rw [hV13]; exact HOth.o.set HZys.o
  go_upto_region 10 with fail
  rw [← hV7,← hV8,← hV9,← hV10,← hV11,← hV12,← hV13]
  clear fs11 fs10 fs9 fs8 fs7 fs6 fs5 fs4 fs3 fs2 fs1 fs0 cs11 cs10 cs9 cs8 cs7 cs6 cs5 cs4 cs3 cs2 cs1 cs0
  clear hV13 hV12 hV11 hV10 hV9 hV8 hV7
  have neas : ba≠bs:=by have:=HLas.o; omega
  have nesa : bs≠ba:=by have:=HLas.o; omega
  obtain ⟨ca0,ca1,ca2,ca3,ca4,ca5,ca6,ca7,ca8,ca9,ca10,ca11⟩:=rc12 HBa.o.row
  have fa0:=HBa.o.fz 0
  have fa1:=HBa.o.fz 1
  have fa2:=HBa.o.fz 2
  have fa3:=HBa.o.fz 3
  have fa4:=HBa.o.fz 4
  have fa5:=HBa.o.fz 5
  have fa6:=HBa.o.fz 6
  have fa7:=HBa.o.fz 7
  have fa8:=HBa.o.fz 8
  have fa9:=HBa.o.fz 9
  have fa10:=HBa.o.fz 10
  have fa11:=HBa.o.fz 11
  obtain ⟨cs0,cs1,cs2,cs3,cs4,cs5,cs6,cs7,cs8,cs9,cs10,cs11⟩:=rc12 HBs.o.row
  have fs0:=HBs.o.fz 0
  have fs1:=HBs.o.fz 1
  have fs2:=HBs.o.fz 2
  have fs3:=HBs.o.fz 3
  have fs4:=HBs.o.fz 4
  have fs5:=HBs.o.fz 5
  have fs6:=HBs.o.fz 6
  have fs7:=HBs.o.fz 7
  have fs8:=HBs.o.fz 8
  have fs9:=HBs.o.fz 9
  have fs10:=HBs.o.fz 10
  have fs11:=HBs.o.fz 11
  obtain ⟨V14,hV14⟩:=nm (V13.setCell ⟨ba,0,none⟩ (.int .i64 8))
  replace HBa : Hx (Bx ba [.int .i64 8,.int .i64 0,.string ⟨#[]⟩,.string ⟨#[]⟩,.int .i64 0,.int .i64 0,.int .i64 0,.string ⟨#[]⟩,.slice none 0 0,.slice none 0 0,.slice none 0 0,.slice none 0 0] V14):=by show Bx _ _ _; rw [hV14]; exact HBa.o.set (j:=0) (by simp)
  replace HBs : Hx (Bx bs [.int .i64 8,.int .i64 p,.string ⟨#[]⟩,.string ⟨#[]⟩,.int .i64 e0,.int .i64 e1,.int .i64 e2,.string e3,.slice q0 q1 q2,.slice none 0 0,.slice tha thk thc,.slice none 0 0] V14):=by show Bx _ _ _; rw [hV14]; exact HBs.o.far (by have:=HLas.o; omega)
  replace HD : Hx (Rd rb tv ts en w (n2) V14):=by show Rd _ _ _ _ _ _ _; rw [hV14]; exact HD.o.set (by exact HLa.o)
  replace HOFF : Hx (Off z none V14 (fun W => XE W 61 [.int .i64 e0,.int .i64 e1,.int .i64 e2,.string e3,.slice q0 q1 q2] ed)):=by show Off _ _ _ _; rw [hV14]; exact HOFF.o.set HZza.o
  replace HOth : Hx (Off y none V14 (fun W => LS 12 (XC W f) W (.slice tha thk thc) th)):=by show Off _ _ _ _; rw [hV14]; exact HOth.o.set HZya.o
  obtain ⟨V15,hV15⟩:=nm (V14.setCell ⟨ba,1,none⟩ (.int .i64 p))
  replace HBa : Hx (Bx ba [.int .i64 8,.int .i64 p,.string ⟨#[]⟩,.string ⟨#[]⟩,.int .i64 0,.int .i64 0,.int .i64 0,.string ⟨#[]⟩,.slice none 0 0,.slice none 0 0,.slice none 0 0,.slice none 0 0] V15):=by show Bx _ _ _; rw [hV15]; exact HBa.o.set (j:=1) (by simp)
  replace HBs : Hx (Bx bs [.int .i64 8,.int .i64 p,.string ⟨#[]⟩,.string ⟨#[]⟩,.int .i64 e0,.int .i64 e1,.int .i64 e2,.string e3,.slice q0 q1 q2,.slice none 0 0,.slice tha thk thc,.slice none 0 0] V15):=by show Bx _ _ _; rw [hV15]; exact HBs.o.far (by have:=HLas.o; omega)
  replace HD : Hx (Rd rb tv ts en w (n2) V15):=by show Rd _ _ _ _ _ _ _; rw [hV15]; exact HD.o.set (by exact HLa.o)
  replace HOFF : Hx (Off z none V15 (fun W => XE W 61 [.int .i64 e0,.int .i64 e1,.int .i64 e2,.string e3,.slice q0 q1 q2] ed)):=by show Off _ _ _ _; rw [hV15]; exact HOFF.o.set HZza.o
  replace HOth : Hx (Off y none V15 (fun W => LS 12 (XC W f) W (.slice tha thk thc) th)):=by show Off _ _ _ _; rw [hV15]; exact HOth.o.set HZya.o
  obtain ⟨V16,hV16⟩:=nm (V15.setCell ⟨ba,2,none⟩ (.string ⟨#[]⟩))
  replace HBa : Hx (Bx ba [.int .i64 8,.int .i64 p,.string ⟨#[]⟩,.string ⟨#[]⟩,.int .i64 0,.int .i64 0,.int .i64 0,.string ⟨#[]⟩,.slice none 0 0,.slice none 0 0,.slice none 0 0,.slice none 0 0] V16):=by show Bx _ _ _; rw [hV16]; exact HBa.o.set (j:=2) (by simp)
  replace HBs : Hx (Bx bs [.int .i64 8,.int .i64 p,.string ⟨#[]⟩,.string ⟨#[]⟩,.int .i64 e0,.int .i64 e1,.int .i64 e2,.string e3,.slice q0 q1 q2,.slice none 0 0,.slice tha thk thc,.slice none 0 0] V16):=by show Bx _ _ _; rw [hV16]; exact HBs.o.far (by have:=HLas.o; omega)
  replace HD : Hx (Rd rb tv ts en w (n2) V16):=by show Rd _ _ _ _ _ _ _; rw [hV16]; exact HD.o.set (by exact HLa.o)
  replace HOFF : Hx (Off z none V16 (fun W => XE W 61 [.int .i64 e0,.int .i64 e1,.int .i64 e2,.string e3,.slice q0 q1 q2] ed)):=by show Off _ _ _ _; rw [hV16]; exact HOFF.o.set HZza.o
  replace HOth : Hx (Off y none V16 (fun W => LS 12 (XC W f) W (.slice tha thk thc) th)):=by show Off _ _ _ _; rw [hV16]; exact HOth.o.set HZya.o
  obtain ⟨V17,hV17⟩:=nm (V16.setCell ⟨ba,3,none⟩ (.string ⟨#[]⟩))
  replace HBa : Hx (Bx ba [.int .i64 8,.int .i64 p,.string ⟨#[]⟩,.string ⟨#[]⟩,.int .i64 0,.int .i64 0,.int .i64 0,.string ⟨#[]⟩,.slice none 0 0,.slice none 0 0,.slice none 0 0,.slice none 0 0] V17):=by show Bx _ _ _; rw [hV17]; exact HBa.o.set (j:=3) (by simp)
  replace HBs : Hx (Bx bs [.int .i64 8,.int .i64 p,.string ⟨#[]⟩,.string ⟨#[]⟩,.int .i64 e0,.int .i64 e1,.int .i64 e2,.string e3,.slice q0 q1 q2,.slice none 0 0,.slice tha thk thc,.slice none 0 0] V17):=by show Bx _ _ _; rw [hV17]; exact HBs.o.far (by have:=HLas.o; omega)
  replace HD : Hx (Rd rb tv ts en w (n2) V17):=by show Rd _ _ _ _ _ _ _; rw [hV17]; exact HD.o.set (by exact HLa.o)
  replace HOFF : Hx (Off z none V17 (fun W => XE W 61 [.int .i64 e0,.int .i64 e1,.int .i64 e2,.string e3,.slice q0 q1 q2] ed)):=by show Off _ _ _ _; rw [hV17]; exact HOFF.o.set HZza.o
  replace HOth : Hx (Off y none V17 (fun W => LS 12 (XC W f) W (.slice tha thk thc) th)):=by show Off _ _ _ _; rw [hV17]; exact HOth.o.set HZya.o
  obtain ⟨V18,hV18⟩:=nm (V17.setCell ⟨ba,4,none⟩ (.int .i64 e0))
  replace HBa : Hx (Bx ba [.int .i64 8,.int .i64 p,.string ⟨#[]⟩,.string ⟨#[]⟩,.int .i64 e0,.int .i64 0,.int .i64 0,.string ⟨#[]⟩,.slice none 0 0,.slice none 0 0,.slice none 0 0,.slice none 0 0] V18):=by show Bx _ _ _; rw [hV18]; exact HBa.o.set (j:=4) (by simp)
  replace HBs : Hx (Bx bs [.int .i64 8,.int .i64 p,.string ⟨#[]⟩,.string ⟨#[]⟩,.int .i64 e0,.int .i64 e1,.int .i64 e2,.string e3,.slice q0 q1 q2,.slice none 0 0,.slice tha thk thc,.slice none 0 0] V18):=by show Bx _ _ _; rw [hV18]; exact HBs.o.far (by have:=HLas.o; omega)
  replace HD : Hx (Rd rb tv ts en w (n2) V18):=by show Rd _ _ _ _ _ _ _; rw [hV18]; exact HD.o.set (by exact HLa.o)
  replace HOFF : Hx (Off z none V18 (fun W => XE W 61 [.int .i64 e0,.int .i64 e1,.int .i64 e2,.string e3,.slice q0 q1 q2] ed)):=by show Off _ _ _ _; rw [hV18]; exact HOFF.o.set HZza.o
  replace HOth : Hx (Off y none V18 (fun W => LS 12 (XC W f) W (.slice tha thk thc) th)):=by show Off _ _ _ _; rw [hV18]; exact HOth.o.set HZya.o
  obtain ⟨V19,hV19⟩:=nm (V18.setCell ⟨ba,5,none⟩ (.int .i64 e1))
  replace HBa : Hx (Bx ba [.int .i64 8,.int .i64 p,.string ⟨#[]⟩,.string ⟨#[]⟩,.int .i64 e0,.int .i64 e1,.int .i64 0,.string ⟨#[]⟩,.slice none 0 0,.slice none 0 0,.slice none 0 0,.slice none 0 0] V19):=by show Bx _ _ _; rw [hV19]; exact HBa.o.set (j:=5) (by simp)
  replace HBs : Hx (Bx bs [.int .i64 8,.int .i64 p,.string ⟨#[]⟩,.string ⟨#[]⟩,.int .i64 e0,.int .i64 e1,.int .i64 e2,.string e3,.slice q0 q1 q2,.slice none 0 0,.slice tha thk thc,.slice none 0 0] V19):=by show Bx _ _ _; rw [hV19]; exact HBs.o.far (by have:=HLas.o; omega)
  replace HD : Hx (Rd rb tv ts en w (n2) V19):=by show Rd _ _ _ _ _ _ _; rw [hV19]; exact HD.o.set (by exact HLa.o)
  replace HOFF : Hx (Off z none V19 (fun W => XE W 61 [.int .i64 e0,.int .i64 e1,.int .i64 e2,.string e3,.slice q0 q1 q2] ed)):=by show Off _ _ _ _; rw [hV19]; exact HOFF.o.set HZza.o
  replace HOth : Hx (Off y none V19 (fun W => LS 12 (XC W f) W (.slice tha thk thc) th)):=by show Off _ _ _ _; rw [hV19]; exact HOth.o.set HZya.o
  obtain ⟨V20,hV20⟩:=nm (V19.setCell ⟨ba,6,none⟩ (.int .i64 e2))
  replace HBa : Hx (Bx ba [.int .i64 8,.int .i64 p,.string ⟨#[]⟩,.string ⟨#[]⟩,.int .i64 e0,.int .i64 e1,.int .i64 e2,.string ⟨#[]⟩,.slice none 0 0,.slice none 0 0,.slice none 0 0,.slice none 0 0] V20):=by show Bx _ _ _; rw [hV20]; exact HBa.o.set (j:=6) (by simp)
  replace HBs : Hx (Bx bs [.int .i64 8,.int .i64 p,.string ⟨#[]⟩,.string ⟨#[]⟩,.int .i64 e0,.int .i64 e1,.int .i64 e2,.string e3,.slice q0 q1 q2,.slice none 0 0,.slice tha thk thc,.slice none 0 0] V20):=by show Bx _ _ _; rw [hV20]; exact HBs.o.far (by have:=HLas.o; omega)
  replace HD : Hx (Rd rb tv ts en w (n2) V20):=by show Rd _ _ _ _ _ _ _; rw [hV20]; exact HD.o.set (by exact HLa.o)
  replace HOFF : Hx (Off z none V20 (fun W => XE W 61 [.int .i64 e0,.int .i64 e1,.int .i64 e2,.string e3,.slice q0 q1 q2] ed)):=by show Off _ _ _ _; rw [hV20]; exact HOFF.o.set HZza.o
  replace HOth : Hx (Off y none V20 (fun W => LS 12 (XC W f) W (.slice tha thk thc) th)):=by show Off _ _ _ _; rw [hV20]; exact HOth.o.set HZya.o
  obtain ⟨V21,hV21⟩:=nm (V20.setCell ⟨ba,7,none⟩ (.string e3))
  replace HBa : Hx (Bx ba [.int .i64 8,.int .i64 p,.string ⟨#[]⟩,.string ⟨#[]⟩,.int .i64 e0,.int .i64 e1,.int .i64 e2,.string e3,.slice none 0 0,.slice none 0 0,.slice none 0 0,.slice none 0 0] V21):=by show Bx _ _ _; rw [hV21]; exact HBa.o.set (j:=7) (by simp)
  replace HBs : Hx (Bx bs [.int .i64 8,.int .i64 p,.string ⟨#[]⟩,.string ⟨#[]⟩,.int .i64 e0,.int .i64 e1,.int .i64 e2,.string e3,.slice q0 q1 q2,.slice none 0 0,.slice tha thk thc,.slice none 0 0] V21):=by show Bx _ _ _; rw [hV21]; exact HBs.o.far (by have:=HLas.o; omega)
  replace HD : Hx (Rd rb tv ts en w (n2) V21):=by show Rd _ _ _ _ _ _ _; rw [hV21]; exact HD.o.set (by exact HLa.o)
  replace HOFF : Hx (Off z none V21 (fun W => XE W 61 [.int .i64 e0,.int .i64 e1,.int .i64 e2,.string e3,.slice q0 q1 q2] ed)):=by show Off _ _ _ _; rw [hV21]; exact HOFF.o.set HZza.o
  replace HOth : Hx (Off y none V21 (fun W => LS 12 (XC W f) W (.slice tha thk thc) th)):=by show Off _ _ _ _; rw [hV21]; exact HOth.o.set HZya.o
  obtain ⟨V22,hV22⟩:=nm (V21.setCell ⟨ba,8,none⟩ (.slice q0 q1 q2))
  replace HBa : Hx (Bx ba [.int .i64 8,.int .i64 p,.string ⟨#[]⟩,.string ⟨#[]⟩,.int .i64 e0,.int .i64 e1,.int .i64 e2,.string e3,.slice q0 q1 q2,.slice none 0 0,.slice none 0 0,.slice none 0 0] V22):=by show Bx _ _ _; rw [hV22]; exact HBa.o.set (j:=8) (by simp)
  replace HBs : Hx (Bx bs [.int .i64 8,.int .i64 p,.string ⟨#[]⟩,.string ⟨#[]⟩,.int .i64 e0,.int .i64 e1,.int .i64 e2,.string e3,.slice q0 q1 q2,.slice none 0 0,.slice tha thk thc,.slice none 0 0] V22):=by show Bx _ _ _; rw [hV22]; exact HBs.o.far (by have:=HLas.o; omega)
  replace HD : Hx (Rd rb tv ts en w (n2) V22):=by show Rd _ _ _ _ _ _ _; rw [hV22]; exact HD.o.set (by exact HLa.o)
  replace HOFF : Hx (Off z none V22 (fun W => XE W 61 [.int .i64 e0,.int .i64 e1,.int .i64 e2,.string e3,.slice q0 q1 q2] ed)):=by show Off _ _ _ _; rw [hV22]; exact HOFF.o.set HZza.o
  replace HOth : Hx (Off y none V22 (fun W => LS 12 (XC W f) W (.slice tha thk thc) th)):=by show Off _ _ _ _; rw [hV22]; exact HOth.o.set HZya.o
  obtain ⟨V23,hV23⟩:=nm (V22.setCell ⟨ba,9,none⟩ (.slice none 0 0))
  replace HBa : Hx (Bx ba [.int .i64 8,.int .i64 p,.string ⟨#[]⟩,.string ⟨#[]⟩,.int .i64 e0,.int .i64 e1,.int .i64 e2,.string e3,.slice q0 q1 q2,.slice none 0 0,.slice none 0 0,.slice none 0 0] V23):=by show Bx _ _ _; rw [hV23]; exact HBa.o.set (j:=9) (by simp)
  replace HBs : Hx (Bx bs [.int .i64 8,.int .i64 p,.string ⟨#[]⟩,.string ⟨#[]⟩,.int .i64 e0,.int .i64 e1,.int .i64 e2,.string e3,.slice q0 q1 q2,.slice none 0 0,.slice tha thk thc,.slice none 0 0] V23):=by show Bx _ _ _; rw [hV23]; exact HBs.o.far (by have:=HLas.o; omega)
  replace HD : Hx (Rd rb tv ts en w (n2) V23):=by show Rd _ _ _ _ _ _ _; rw [hV23]; exact HD.o.set (by exact HLa.o)
  replace HOFF : Hx (Off z none V23 (fun W => XE W 61 [.int .i64 e0,.int .i64 e1,.int .i64 e2,.string e3,.slice q0 q1 q2] ed)):=by show Off _ _ _ _; rw [hV23]; exact HOFF.o.set HZza.o
  replace HOth : Hx (Off y none V23 (fun W => LS 12 (XC W f) W (.slice tha thk thc) th)):=by show Off _ _ _ _; rw [hV23]; exact HOth.o.set HZya.o
  obtain ⟨V24,hV24⟩:=nm (V23.setCell ⟨ba,10,none⟩ (.slice tha thk thc))
  replace HBa : Hx (Bx ba [.int .i64 8,.int .i64 p,.string ⟨#[]⟩,.string ⟨#[]⟩,.int .i64 e0,.int .i64 e1,.int .i64 e2,.string e3,.slice q0 q1 q2,.slice none 0 0,.slice tha thk thc,.slice none 0 0] V24):=by show Bx _ _ _; rw [hV24]; exact HBa.o.set (j:=10) (by simp)
  replace HBs : Hx (Bx bs [.int .i64 8,.int .i64 p,.string ⟨#[]⟩,.string ⟨#[]⟩,.int .i64 e0,.int .i64 e1,.int .i64 e2,.string e3,.slice q0 q1 q2,.slice none 0 0,.slice tha thk thc,.slice none 0 0] V24):=by show Bx _ _ _; rw [hV24]; exact HBs.o.far (by have:=HLas.o; omega)
  replace HD : Hx (Rd rb tv ts en w (n2) V24):=by show Rd _ _ _ _ _ _ _; rw [hV24]; exact HD.o.set (by exact HLa.o)
  replace HOFF : Hx (Off z none V24 (fun W => XE W 61 [.int .i64 e0,.int .i64 e1,.int .i64 e2,.string e3,.slice q0 q1 q2] ed)):=by show Off _ _ _ _; rw [hV24]; exact HOFF.o.set HZza.o
  replace HOth : Hx (Off y none V24 (fun W => LS 12 (XC W f) W (.slice tha thk thc) th)):=by show Off _ _ _ _; rw [hV24]; exact HOth.o.set HZya.o
  obtain ⟨V25,hV25⟩:=nm (V24.setCell ⟨ba,11,none⟩ (.slice none 0 0))
  replace HBa : Hx (Bx ba [.int .i64 8,.int .i64 p,.string ⟨#[]⟩,.string ⟨#[]⟩,.int .i64 e0,.int .i64 e1,.int .i64 e2,.string e3,.slice q0 q1 q2,.slice none 0 0,.slice tha thk thc,.slice none 0 0] V25):=by show Bx _ _ _; rw [hV25]; exact HBa.o.set (j:=11) (by simp)
  replace HBs : Hx (Bx bs [.int .i64 8,.int .i64 p,.string ⟨#[]⟩,.string ⟨#[]⟩,.int .i64 e0,.int .i64 e1,.int .i64 e2,.string e3,.slice q0 q1 q2,.slice none 0 0,.slice tha thk thc,.slice none 0 0] V25):=by show Bx _ _ _; rw [hV25]; exact HBs.o.far (by have:=HLas.o; omega)
  replace HD : Hx (Rd rb tv ts en w (n2) V25):=by show Rd _ _ _ _ _ _ _; rw [hV25]; exact HD.o.set (by exact HLa.o)
  replace HOFF : Hx (Off z none V25 (fun W => XE W 61 [.int .i64 e0,.int .i64 e1,.int .i64 e2,.string e3,.slice q0 q1 q2] ed)):=by show Off _ _ _ _; rw [hV25]; exact HOFF.o.set HZza.o
  replace HOth : Hx (Off y none V25 (fun W => LS 12 (XC W f) W (.slice tha thk thc) th)):=by show Off _ _ _ _; rw [hV25]; exact HOth.o.set HZya.o
  go_wp2_with fail
  refine bodyPost_ret (v:=.agg #[.int .i64 8,.int .i64 p,.string ⟨#[]⟩,.string ⟨#[]⟩,.int .i64 e0,.int .i64 e1,.int .i64 e2,.string e3,.slice q0 q1 q2,.slice none 0 0,.slice tha thk thc,.slice none 0 0]) (by simp [results,Tryz.results137,go_sem, *]) rfl ?_
  rw [← hV14,← hV15,← hV16,← hV17,← hV18,← hV19,← hV20,← hV21,← hV22,← hV23,← hV24,← hV25]
  have hlt:=HR0.o
  rw [HRP.o] at hlt
  have hlt2:=pStmt_lt hlt.symm
  rw [HRP.o]
  refine ⟨_,_,_,_,_,_,_,_,_,_,_,_,_,_,_,_,_,_,_,_,rfl,fun W hW => ?_,hlt2,HD.o.gr,HD.o.st⟩
  exact ⟨_,_,_,_,_,_,_,_,_,ed,_,[],_,th,_,[],rfl,rfl,(HOFF.o.base HWz.o) W hW,LS.nil,(HOth.o.base HWy.o) W hW,LS.nil⟩
set_option maxHeartbeats 8000000 in
set_option maxRecDepth 100000 in
theorem stmt_get (hall : ts.all isAlone = true) {f : Nat} (hB : StmtsOk rb tv ts en f) (n : Nat) (w : World) (h : St rb tv ts en n w) (hf : 2 * (ts.length - n) + 1≤f + 1) (hq0 : isT ts n [105,102] = false) (hq1 : isT ts n [119,104,105,108,101] = false) (hq2 : isT ts n [103,101,116] = true) :
    Calls Tryz.prog 137 #[.pointer (some ⟨rb,0,none⟩)] w (PostC ts en (pStmt ts en (f + 1) n) (StmtPost rb tv ts en (f + 1) n w) (fun w' => w.grownBy w' (some rb))):=by
  obtain ⟨res,hres⟩:=nm (pStmt ts en (f + 1) n)
  rw [← hres]
  have HR0:=hide hres
  have HRP : Hx (res = bindR (pName ts (n + 1)) fun a n1 => bindR (pName ts n1) fun b n2 => bindR (pTake ts [59] n2) fun _ n3 => .inl (stD 3 (posn ts en n) a b noE [] [] [],n3)):=by show _ = _; rw [hres,show pStmt ts en (f + 1) n = pStmt1 ts en (pBlock ts (fun n => pStmts ts en f [] n)) n from rfl]; unfold pStmt1; rw [if_neg (show ¬ isT ts n [105,102] = true by rw [hq0]; simp)]; rw [if_neg (show ¬ isT ts n [119,104,105,108,101] = true by rw [hq1]; simp)]; rw [if_pos hq2]; try rfl
  obtain ⟨p,hp⟩:=nm (posn ts en n)
  rw [← hp] at HRP
  have HP:=hide hp
  have HD:=hide (Rd.start h)
  have HS:=hide hB
  have HF:=hide hf
  clear hres hp h hB hf
  obtain ⟨V1,hV1⟩:=nm (w.alloc (.cells #[.int .i64 0,.int .i64 0,.string ⟨#[]⟩,.string ⟨#[]⟩,.int .i64 0,.int .i64 0,.int .i64 0,.string ⟨#[]⟩,.slice none 0 0,.slice none 0 0,.slice none 0 0,.slice none 0 0] 55))
  obtain ⟨ba,hba⟩:=nm w.heap.size
  have hsba:=hba
  have HLa : Hx (w.heap.size≤ba):=by show _≤_; rw [hsba]; exact HD.o.size
  have HBa : Hx (Bx ba [.int .i64 0,.int .i64 0,.string ⟨#[]⟩,.string ⟨#[]⟩,.int .i64 0,.int .i64 0,.int .i64 0,.string ⟨#[]⟩,.slice none 0 0,.slice none 0 0,.slice none 0 0,.slice none 0 0] V1):=by show Bx _ _ _; rw [hV1,hsba]; exact Bx.new w [.int .i64 0,.int .i64 0,.string ⟨#[]⟩,.string ⟨#[]⟩,.int .i64 0,.int .i64 0,.int .i64 0,.string ⟨#[]⟩,.slice none 0 0,.slice none 0 0,.slice none 0 0,.slice none 0 0] 55
  replace HD : Hx (Rd rb tv ts en w (n) V1):=by show Rd _ _ _ _ _ _ _; rw [hV1]; exact HD.o.over (bA _ _)
  have K0:=hide (here_c n _ HD.o.st)
  go_enter Tryz.func137,Tryz.ntmps137
  go_wp2_with fail
  rw [← hV1,← hba]
  clear hsba
  clear hba hV1
  refine K0.o.mono ?_
  rintro e wh ⟨rfl,hg,hs⟩
  rw [← HP.o]
  replace HBa:=hide (HBa.o.keep hg (by have:=HD.o.rlt; have:=HLa.o; omega))
  replace HD : Hx (Rd rb tv ts en w (n) wh):=HD.o.call hg hs
  clear hg hs
  clear K0
  obtain ⟨V2,hV2⟩:=nm (wh.alloc (.cells #[.int .i64 0,.int .i64 p,.string ⟨#[]⟩,.string ⟨#[]⟩,.int .i64 0,.int .i64 0,.int .i64 0,.string ⟨#[]⟩,.slice none 0 0,.slice none 0 0,.slice none 0 0,.slice none 0 0] 55))
  obtain ⟨bs,hbs⟩:=nm wh.heap.size
  have hsbs:=hbs
  have HLs : Hx (w.heap.size≤bs):=by show _≤_; rw [hsbs]; exact HD.o.size
  have HLas : Hx (ba < bs):=by show _ < _; rw [hsbs]; exact HBa.o.lt
  have HBs : Hx (Bx bs [.int .i64 0,.int .i64 p,.string ⟨#[]⟩,.string ⟨#[]⟩,.int .i64 0,.int .i64 0,.int .i64 0,.string ⟨#[]⟩,.slice none 0 0,.slice none 0 0,.slice none 0 0,.slice none 0 0] V2):=by show Bx _ _ _; rw [hV2,hsbs]; exact Bx.new wh [.int .i64 0,.int .i64 p,.string ⟨#[]⟩,.string ⟨#[]⟩,.int .i64 0,.int .i64 0,.int .i64 0,.string ⟨#[]⟩,.slice none 0 0,.slice none 0 0,.slice none 0 0,.slice none 0 0] 55
  replace HBa : Hx (Bx ba [.int .i64 0,.int .i64 0,.string ⟨#[]⟩,.string ⟨#[]⟩,.int .i64 0,.int .i64 0,.int .i64 0,.string ⟨#[]⟩,.slice none 0 0,.slice none 0 0,.slice none 0 0,.slice none 0 0] V2):=by show Bx _ _ _; rw [hV2]; exact HBa.o.over (bA _ _)
  replace HD : Hx (Rd rb tv ts en w (n) V2):=by show Rd _ _ _ _ _ _ _; rw [hV2]; exact HD.o.over (bA _ _)
  have KT:=hide (takes_f (x:=⟨#[105,102]⟩) rfl _ HD.o.st hq0)
  go_wp2_with fail
  rw [← hV2,← hbs]
  clear hsbs
  clear hbs hV2
  refine KT.o.mono ?_
  rintro e w3 ⟨rfl,hg,hs⟩
  replace HBa:=hide (HBa.o.keep hg (by have:=HD.o.rlt; have:=HLa.o; omega))
  replace HBs:=hide (HBs.o.keep hg (by have:=HD.o.rlt; have:=HLs.o; omega))
  replace HD : Hx (Rd rb tv ts en w (n) w3):=HD.o.call hg hs
  clear hg hs
  clear KT
  have KT:=hide (takes_f (x:=⟨#[119,104,105,108,101]⟩) rfl _ HD.o.st hq1)
  go_wp2_with fail
  refine KT.o.mono ?_
  rintro e w4 ⟨rfl,hg,hs⟩
  replace HBa:=hide (HBa.o.keep hg (by have:=HD.o.rlt; have:=HLa.o; omega))
  replace HBs:=hide (HBs.o.keep hg (by have:=HD.o.rlt; have:=HLs.o; omega))
  replace HD : Hx (Rd rb tv ts en w (n) w4):=HD.o.call hg hs
  clear hg hs
  clear KT
  have KT:=hide (takes_t (x:=⟨#[103,101,116]⟩) rfl (by decide) _ HD.o.st hq2)
  go_wp2_with fail
  refine KT.o.mono ?_
  rintro e w5 ⟨rfl,hg,hs⟩
  replace HBa:=hide (HBa.o.keep hg (by have:=HD.o.rlt; have:=HLa.o; omega))
  replace HBs:=hide (HBs.o.keep hg (by have:=HD.o.rlt; have:=HLs.o; omega))
  replace HD : Hx (Rd rb tv ts en w (n + 1) w5):=HD.o.call hg hs
  clear hg hs
  clear KT
  have K1:=hide (name_c (n + 1) _ HD.o.st)
  go_wp2_with fail
  refine K1.o.mono ?_
  rintro e w6 hpo
  obtain ⟨m,ho⟩ | ⟨x,n1,ho⟩:=res_cases (pName ts (n + 1))
  · replace hpo : PostC ts en (pName ts (n + 1)) _ _ e w6:=hpo
    rw [ho] at hpo
    obtain ⟨rfl,hg⟩:=hpo
    have HO : Hx (res = .inr m):=by show _ = _; rw [HRP.o,ho]; rfl
    have HG:=hide (grownBy_trans HD.o.gr hg)
    clear hg ho
    unfold gaveUpAt
    go_wp2_with fail
    refine ⟨rfl,?_⟩
    rw [HO.o]
    exact ⟨rfl,HG.o⟩
  replace hpo : PostC ts en (pName ts (n + 1)) _ _ e w6:=hpo
  rw [ho] at hpo
  obtain ⟨rfl,hg,hs⟩:=hpo
  have hr:=HRP.o
  rw [ho,bindR_inl] at hr
  replace HRP:=hide hr
  have HOO:=hide ho
  clear hr ho
  have HNn1:=hide (pName_lt HOO.o)
  clear K1
  clear HOO
  replace HBa:=hide (HBa.o.keep hg (by have:=HD.o.rlt; have:=HLa.o; omega))
  replace HBs:=hide (HBs.o.keep hg (by have:=HD.o.rlt; have:=HLs.o; omega))
  replace HD : Hx (Rd rb tv ts en w (n1) w6):=HD.o.call hg hs
  clear hg hs
  have K2:=hide (name_c (n1) _ HD.o.st)
  go_wp2_with fail
  refine K2.o.mono ?_
  rintro e w7 hpo
  obtain ⟨m,ho⟩ | ⟨y,n2,ho⟩:=res_cases (pName ts (n1))
  · replace hpo : PostC ts en (pName ts (n1)) _ _ e w7:=hpo
    rw [ho] at hpo
    obtain ⟨rfl,hg⟩:=hpo
    have HO : Hx (res = .inr m):=by show _ = _; rw [HRP.o,ho]; rfl
    have HG:=hide (grownBy_trans HD.o.gr hg)
    clear hg ho
    unfold gaveUpAt
    go_wp2_with fail
    refine ⟨rfl,?_⟩
    rw [HO.o]
    exact ⟨rfl,HG.o⟩
  replace hpo : PostC ts en (pName ts (n1)) _ _ e w7:=hpo
  rw [ho] at hpo
  obtain ⟨rfl,hg,hs⟩:=hpo
  have hr:=HRP.o
  rw [ho,bindR_inl] at hr
  replace HRP:=hide hr
  have HOO:=hide ho
  clear hr ho
  have HNn2:=hide (pName_lt HOO.o)
  clear K2
  clear HOO
  replace HBa:=hide (HBa.o.keep hg (by have:=HD.o.rlt; have:=HLa.o; omega))
  replace HBs:=hide (HBs.o.keep hg (by have:=HD.o.rlt; have:=HLs.o; omega))
  replace HD : Hx (Rd rb tv ts en w (n2) w7):=HD.o.call hg hs
  clear hg hs
  obtain ⟨cs0,cs1,cs2,cs3,cs4,cs5,cs6,cs7,cs8,cs9,cs10,cs11⟩:=rc12 HBs.o.row
  have fs0:=HBs.o.fz 0
  have fs1:=HBs.o.fz 1
  have fs2:=HBs.o.fz 2
  have fs3:=HBs.o.fz 3
  have fs4:=HBs.o.fz 4
  have fs5:=HBs.o.fz 5
  have fs6:=HBs.o.fz 6
  have fs7:=HBs.o.fz 7
  have fs8:=HBs.o.fz 8
  have fs9:=HBs.o.fz 9
  have fs10:=HBs.o.fz 10
  have fs11:=HBs.o.fz 11
  obtain ⟨V8,hV8⟩:=nm (w7.setCell ⟨bs,0,none⟩ (.int .i64 3))
  replace HBs : Hx (Bx bs [.int .i64 3,.int .i64 p,.string ⟨#[]⟩,.string ⟨#[]⟩,.int .i64 0,.int .i64 0,.int .i64 0,.string ⟨#[]⟩,.slice none 0 0,.slice none 0 0,.slice none 0 0,.slice none 0 0] V8):=by show Bx _ _ _; rw [hV8]; exact HBs.o.set (j:=0) (by simp)
  replace HBa : Hx (Bx ba [.int .i64 0,.int .i64 0,.string ⟨#[]⟩,.string ⟨#[]⟩,.int .i64 0,.int .i64 0,.int .i64 0,.string ⟨#[]⟩,.slice none 0 0,.slice none 0 0,.slice none 0 0,.slice none 0 0] V8):=by show Bx _ _ _; rw [hV8]; exact HBa.o.far (by have:=HLas.o; omega)
  replace HD : Hx (Rd rb tv ts en w (n2) V8):=by show Rd _ _ _ _ _ _ _; rw [hV8]; exact HD.o.set (by exact HLs.o)
  obtain ⟨V9,hV9⟩:=nm (V8.setCell ⟨bs,2,none⟩ (.string x))
  replace HBs : Hx (Bx bs [.int .i64 3,.int .i64 p,.string x,.string ⟨#[]⟩,.int .i64 0,.int .i64 0,.int .i64 0,.string ⟨#[]⟩,.slice none 0 0,.slice none 0 0,.slice none 0 0,.slice none 0 0] V9):=by show Bx _ _ _; rw [hV9]; exact HBs.o.set (j:=2) (by simp)
  replace HBa : Hx (Bx ba [.int .i64 0,.int .i64 0,.string ⟨#[]⟩,.string ⟨#[]⟩,.int .i64 0,.int .i64 0,.int .i64 0,.string ⟨#[]⟩,.slice none 0 0,.slice none 0 0,.slice none 0 0,.slice none 0 0] V9):=by show Bx _ _ _; rw [hV9]; exact HBa.o.far (by have:=HLas.o; omega)
  replace HD : Hx (Rd rb tv ts en w (n2) V9):=by show Rd _ _ _ _ _ _ _; rw [hV9]; exact HD.o.set (by exact HLs.o)
  obtain ⟨V10,hV10⟩:=nm (V9.setCell ⟨bs,3,none⟩ (.string y))
  replace HBs : Hx (Bx bs [.int .i64 3,.int .i64 p,.string x,.string y,.int .i64 0,.int .i64 0,.int .i64 0,.string ⟨#[]⟩,.slice none 0 0,.slice none 0 0,.slice none 0 0,.slice none 0 0] V10):=by show Bx _ _ _; rw [hV10]; exact HBs.o.set (j:=3) (by simp)
  replace HBa : Hx (Bx ba [.int .i64 0,.int .i64 0,.string ⟨#[]⟩,.string ⟨#[]⟩,.int .i64 0,.int .i64 0,.int .i64 0,.string ⟨#[]⟩,.slice none 0 0,.slice none 0 0,.slice none 0 0,.slice none 0 0] V10):=by show Bx _ _ _; rw [hV10]; exact HBa.o.far (by have:=HLas.o; omega)
  replace HD : Hx (Rd rb tv ts en w (n2) V10):=by show Rd _ _ _ _ _ _ _; rw [hV10]; exact HD.o.set (by exact HLs.o)
  have K3:=hide (take_c ⟨#[59]⟩ (by decide) n2 _ HD.o.st)
  go_wp2_with fail
  rw [← hV8,← hV9,← hV10]
  clear fs11 fs10 fs9 fs8 fs7 fs6 fs5 fs4 fs3 fs2 fs1 fs0 cs11 cs10 cs9 cs8 cs7 cs6 cs5 cs4 cs3 cs2 cs1 cs0
  clear hV10 hV9 hV8
  refine K3.o.mono ?_
  rintro e w11 hpo
  obtain ⟨m,ho⟩ | ⟨_u,n3,ho⟩:=res_cases (pTake ts [59] n2)
  · replace hpo : PostC ts en (pTake ts [59] n2) _ _ e w11:=hpo
    rw [ho] at hpo
    obtain ⟨rfl,hg⟩:=hpo
    have HO : Hx (res = .inr m):=by show _ = _; rw [HRP.o,ho]; rfl
    have HG:=hide (grownBy_trans HD.o.gr hg)
    clear hg ho
    unfold gaveUpAt
    go_wp2_with fail
    refine ⟨rfl,?_⟩
    rw [HO.o]
    exact ⟨rfl,HG.o⟩
  replace hpo : PostC ts en (pTake ts [59] n2) _ _ e w11:=hpo
  rw [ho] at hpo
  obtain ⟨rfl,hg,hs⟩:=hpo
  have hr:=HRP.o
  rw [ho,bindR_inl] at hr
  replace HRP:=hide hr
  have HOO:=hide ho
  clear hr ho
  clear HOO
  replace HBa:=hide (HBa.o.keep hg (by have:=HD.o.rlt; have:=HLa.o; omega))
  replace HBs:=hide (HBs.o.keep hg (by have:=HD.o.rlt; have:=HLs.o; omega))
  replace HD : Hx (Rd rb tv ts en w (n3) w11):=HD.o.call hg hs
  clear hg hs
  have neas : ba≠bs:=by have:=HLas.o; omega
  have nesa : bs≠ba:=by have:=HLas.o; omega
  obtain ⟨ca0,ca1,ca2,ca3,ca4,ca5,ca6,ca7,ca8,ca9,ca10,ca11⟩:=rc12 HBa.o.row
  have fa0:=HBa.o.fz 0
  have fa1:=HBa.o.fz 1
  have fa2:=HBa.o.fz 2
  have fa3:=HBa.o.fz 3
  have fa4:=HBa.o.fz 4
  have fa5:=HBa.o.fz 5
  have fa6:=HBa.o.fz 6
  have fa7:=HBa.o.fz 7
  have fa8:=HBa.o.fz 8
  have fa9:=HBa.o.fz 9
  have fa10:=HBa.o.fz 10
  have fa11:=HBa.o.fz 11
  obtain ⟨cs0,cs1,cs2,cs3,cs4,cs5,cs6,cs7,cs8,cs9,cs10,cs11⟩:=rc12 HBs.o.row
  have fs0:=HBs.o.fz 0
  have fs1:=HBs.o.fz 1
  have fs2:=HBs.o.fz 2
  have fs3:=HBs.o.fz 3
  have fs4:=HBs.o.fz 4
  have fs5:=HBs.o.fz 5
  have fs6:=HBs.o.fz 6
  have fs7:=HBs.o.fz 7
  have fs8:=HBs.o.fz 8
  have fs9:=HBs.o.fz 9
  have fs10:=HBs.o.fz 10
  have fs11:=HBs.o.fz 11
  obtain ⟨V12,hV12⟩:=nm (w11.setCell ⟨ba,0,none⟩ (.int .i64 3))
  replace HBa : Hx (Bx ba [.int .i64 3,.int .i64 0,.string ⟨#[]⟩,.string ⟨#[]⟩,.int .i64 0,.int .i64 0,.int .i64 0,.string ⟨#[]⟩,.slice none 0 0,.slice none 0 0,.slice none 0 0,.slice none 0 0] V12):=by show Bx _ _ _; rw [hV12]; exact HBa.o.set (j:=0) (by simp)
  replace HBs : Hx (Bx bs [.int .i64 3,.int .i64 p,.string x,.string y,.int .i64 0,.int .i64 0,.int .i64 0,.string ⟨#[]⟩,.slice none 0 0,.slice none 0 0,.slice none 0 0,.slice none 0 0] V12):=by show Bx _ _ _; rw [hV12]; exact HBs.o.far (by have:=HLas.o; omega)
  replace HD : Hx (Rd rb tv ts en w (n3) V12):=by show Rd _ _ _ _ _ _ _; rw [hV12]; exact HD.o.set (by exact HLa.o)
  obtain ⟨V13,hV13⟩:=nm (V12.setCell ⟨ba,1,none⟩ (.int .i64 p))
  replace HBa : Hx (Bx ba [.int .i64 3,.int .i64 p,.string ⟨#[]⟩,.string ⟨#[]⟩,.int .i64 0,.int .i64 0,.int .i64 0,.string ⟨#[]⟩,.slice none 0 0,.slice none 0 0,.slice none 0 0,.slice none 0 0] V13):=by show Bx _ _ _; rw [hV13]; exact HBa.o.set (j:=1) (by simp)
  replace HBs : Hx (Bx bs [.int .i64 3,.int .i64 p,.string x,.string y,.int .i64 0,.int .i64 0,.int .i64 0,.string ⟨#[]⟩,.slice none 0 0,.slice none 0 0,.slice none 0 0,.slice none 0 0] V13):=by show Bx _ _ _; rw [hV13]; exact HBs.o.far (by have:=HLas.o; omega)
  replace HD : Hx (Rd rb tv ts en w (n3) V13):=by show Rd _ _ _ _ _ _ _; rw [hV13]; exact HD.o.set (by exact HLa.o)
  obtain ⟨V14,hV14⟩:=nm (V13.setCell ⟨ba,2,none⟩ (.string x))
  replace HBa : Hx (Bx ba [.int .i64 3,.int .i64 p,.string x,.string ⟨#[]⟩,.int .i64 0,.int .i64 0,.int .i64 0,.string ⟨#[]⟩,.slice none 0 0,.slice none 0 0,.slice none 0 0,.slice none 0 0] V14):=by show Bx _ _ _; rw [hV14]; exact HBa.o.set (j:=2) (by simp)
  replace HBs : Hx (Bx bs [.int .i64 3,.int .i64 p,.string x,.string y,.int .i64 0,.int .i64 0,.int .i64 0,.string ⟨#[]⟩,.slice none 0 0,.slice none 0 0,.slice none 0 0,.slice none 0 0] V14):=by show Bx _ _ _; rw [hV14]; exact HBs.o.far (by have:=HLas.o; omega)
  replace HD : Hx (Rd rb tv ts en w (n3) V14):=by show Rd _ _ _ _ _ _ _; rw [hV14]; exact HD.o.set (by exact HLa.o)
  obtain ⟨V15,hV15⟩:=nm (V14.setCell ⟨ba,3,none⟩ (.string y))
  replace HBa : Hx (Bx ba [.int .i64 3,.int .i64 p,.string x,.string y,.int .i64 0,.int .i64 0,.int .i64 0,.string ⟨#[]⟩,.slice none 0 0,.slice none 0 0,.slice none 0 0,.slice none 0 0] V15):=by show Bx _ _ _; rw [hV15]; exact HBa.o.set (j:=3) (by simp)
  replace HBs : Hx (Bx bs [.int .i64 3,.int .i64 p,.string x,.string y,.int .i64 0,.int .i64 0,.int .i64 0,.string ⟨#[]⟩,.slice none 0 0,.slice none 0 0,.slice none 0 0,.slice none 0 0] V15):=by show Bx _ _ _; rw [hV15]; exact HBs.o.far (by have:=HLas.o; omega)
  replace HD : Hx (Rd rb tv ts en w (n3) V15):=by show Rd _ _ _ _ _ _ _; rw [hV15]; exact HD.o.set (by exact HLa.o)
  obtain ⟨V16,hV16⟩:=nm (V15.setCell ⟨ba,4,none⟩ (.int .i64 0))
  replace HBa : Hx (Bx ba [.int .i64 3,.int .i64 p,.string x,.string y,.int .i64 0,.int .i64 0,.int .i64 0,.string ⟨#[]⟩,.slice none 0 0,.slice none 0 0,.slice none 0 0,.slice none 0 0] V16):=by show Bx _ _ _; rw [hV16]; exact HBa.o.set (j:=4) (by simp)
  replace HBs : Hx (Bx bs [.int .i64 3,.int .i64 p,.string x,.string y,.int .i64 0,.int .i64 0,.int .i64 0,.string ⟨#[]⟩,.slice none 0 0,.slice none 0 0,.slice none 0 0,.slice none 0 0] V16):=by show Bx _ _ _; rw [hV16]; exact HBs.o.far (by have:=HLas.o; omega)
  replace HD : Hx (Rd rb tv ts en w (n3) V16):=by show Rd _ _ _ _ _ _ _; rw [hV16]; exact HD.o.set (by exact HLa.o)
  obtain ⟨V17,hV17⟩:=nm (V16.setCell ⟨ba,5,none⟩ (.int .i64 0))
  replace HBa : Hx (Bx ba [.int .i64 3,.int .i64 p,.string x,.string y,.int .i64 0,.int .i64 0,.int .i64 0,.string ⟨#[]⟩,.slice none 0 0,.slice none 0 0,.slice none 0 0,.slice none 0 0] V17):=by show Bx _ _ _; rw [hV17]; exact HBa.o.set (j:=5) (by simp)
  replace HBs : Hx (Bx bs [.int .i64 3,.int .i64 p,.string x,.string y,.int .i64 0,.int .i64 0,.int .i64 0,.string ⟨#[]⟩,.slice none 0 0,.slice none 0 0,.slice none 0 0,.slice none 0 0] V17):=by show Bx _ _ _; rw [hV17]; exact HBs.o.far (by have:=HLas.o; omega)
  replace HD : Hx (Rd rb tv ts en w (n3) V17):=by show Rd _ _ _ _ _ _ _; rw [hV17]; exact HD.o.set (by exact HLa.o)
  obtain ⟨V18,hV18⟩:=nm (V17.setCell ⟨ba,6,none⟩ (.int .i64 0))
  replace HBa : Hx (Bx ba [.int .i64 3,.int .i64 p,.string x,.string y,.int .i64 0,.int .i64 0,.int .i64 0,.string ⟨#[]⟩,.slice none 0 0,.slice none 0 0,.slice none 0 0,.slice none 0 0] V18):=by show Bx _ _ _; rw [hV18]; exact HBa.o.set (j:=6) (by simp)
  replace HBs : Hx (Bx bs [.int .i64 3,.int .i64 p,.string x,.string y,.int .i64 0,.int .i64 0,.int .i64 0,.string ⟨#[]⟩,.slice none 0 0,.slice none 0 0,.slice none 0 0,.slice none 0 0] V18):=by show Bx _ _ _; rw [hV18]; exact HBs.o.far (by have:=HLas.o; omega)
  replace HD : Hx (Rd rb tv ts en w (n3) V18):=by show Rd _ _ _ _ _ _ _; rw [hV18]; exact HD.o.set (by exact HLa.o)
  obtain ⟨V19,hV19⟩:=nm (V18.setCell ⟨ba,7,none⟩ (.string ⟨#[]⟩))
  replace HBa : Hx (Bx ba [.int .i64 3,.int .i64 p,.string x,.string y,.int .i64 0,.int .i64 0,.int .i64 0,.string ⟨#[]⟩,.slice none 0 0,.slice none 0 0,.slice none 0 0,.slice none 0 0] V19):=by show Bx _ _ _; rw [hV19]; exact HBa.o.set (j:=7) (by simp)
  replace HBs : Hx (Bx bs [.int .i64 3,.int .i64 p,.string x,.string y,.int .i64 0,.int .i64 0,.int .i64 0,.string ⟨#[]⟩,.slice none 0 0,.slice none 0 0,.slice none 0 0,.slice none 0 0] V19):=by show Bx _ _ _; rw [hV19]; exact HBs.o.far (by have:=HLas.o; omega)
  replace HD : Hx (Rd rb tv ts en w (n3) V19):=by show Rd _ _ _ _ _ _ _; rw [hV19]; exact HD.o.set (by exact HLa.o)
  obtain ⟨V20,hV20⟩:=nm (V19.setCell ⟨ba,8,none⟩ (.slice none 0 0))
  replace HBa : Hx (Bx ba [.int .i64 3,.int .i64 p,.string x,.string y,.int .i64 0,.int .i64 0,.int .i64 0,.string ⟨#[]⟩,.slice none 0 0,.slice none 0 0,.slice none 0 0,.slice none 0 0] V20):=by show Bx _ _ _; rw [hV20]; exact HBa.o.set (j:=8) (by simp)
  replace HBs : Hx (Bx bs [.int .i64 3,.int .i64 p,.string x,.string y,.int .i64 0,.int .i64 0,.int .i64 0,.string ⟨#[]⟩,.slice none 0 0,.slice none 0 0,.slice none 0 0,.slice none 0 0] V20):=by show Bx _ _ _; rw [hV20]; exact HBs.o.far (by have:=HLas.o; omega)
  replace HD : Hx (Rd rb tv ts en w (n3) V20):=by show Rd _ _ _ _ _ _ _; rw [hV20]; exact HD.o.set (by exact HLa.o)
  obtain ⟨V21,hV21⟩:=nm (V20.setCell ⟨ba,9,none⟩ (.slice none 0 0))
  replace HBa : Hx (Bx ba [.int .i64 3,.int .i64 p,.string x,.string y,.int .i64 0,.int .i64 0,.int .i64 0,.string ⟨#[]⟩,.slice none 0 0,.slice none 0 0,.slice none 0 0,.slice none 0 0] V21):=by show Bx _ _ _; rw [hV21]; exact HBa.o.set (j:=9) (by simp)
  replace HBs : Hx (Bx bs [.int .i64 3,.int .i64 p,.string x,.string y,.int .i64 0,.int .i64 0,.int .i64 0,.string ⟨#[]⟩,.slice none 0 0,.slice none 0 0,.slice none 0 0,.slice none 0 0] V21):=by show Bx _ _ _; rw [hV21]; exact HBs.o.far (by have:=HLas.o; omega)
  replace HD : Hx (Rd rb tv ts en w (n3) V21):=by show Rd _ _ _ _ _ _ _; rw [hV21]; exact HD.o.set (by exact HLa.o)
  obtain ⟨V22,hV22⟩:=nm (V21.setCell ⟨ba,10,none⟩ (.slice none 0 0))
  replace HBa : Hx (Bx ba [.int .i64 3,.int .i64 p,.string x,.string y,.int .i64 0,.int .i64 0,.int .i64 0,.string ⟨#[]⟩,.slice none 0 0,.slice none 0 0,.slice none 0 0,.slice none 0 0] V22):=by show Bx _ _ _; rw [hV22]; exact HBa.o.set (j:=10) (by simp)
  replace HBs : Hx (Bx bs [.int .i64 3,.int .i64 p,.string x,.string y,.int .i64 0,.int .i64 0,.int .i64 0,.string ⟨#[]⟩,.slice none 0 0,.slice none 0 0,.slice none 0 0,.slice none 0 0] V22):=by show Bx _ _ _; rw [hV22]; exact HBs.o.far (by have:=HLas.o; omega)
  replace HD : Hx (Rd rb tv ts en w (n3) V22):=by show Rd _ _ _ _ _ _ _; rw [hV22]; exact HD.o.set (by exact HLa.o)
  obtain ⟨V23,hV23⟩:=nm (V22.setCell ⟨ba,11,none⟩ (.slice none 0 0))
  replace HBa : Hx (Bx ba [.int .i64 3,.int .i64 p,.string x,.string y,.int .i64 0,.int .i64 0,.int .i64 0,.string ⟨#[]⟩,.slice none 0 0,.slice none 0 0,.slice none 0 0,.slice none 0 0] V23):=by show Bx _ _ _; rw [hV23]; exact HBa.o.set (j:=11) (by simp)
  replace HBs : Hx (Bx bs [.int .i64 3,.int .i64 p,.string x,.string y,.int .i64 0,.int .i64 0,.int .i64 0,.string ⟨#[]⟩,.slice none 0 0,.slice none 0 0,.slice none 0 0,.slice none 0 0] V23):=by show Bx _ _ _; rw [hV23]; exact HBs.o.far (by have:=HLas.o; omega)
  replace HD : Hx (Rd rb tv ts en w (n3) V23):=by show Rd _ _ _ _ _ _ _; rw [hV23]; exact HD.o.set (by exact HLa.o)
  go_wp2_with fail
  refine bodyPost_ret (v:=.agg #[.int .i64 3,.int .i64 p,.string x,.string y,.int .i64 0,.int .i64 0,.int .i64 0,.string ⟨#[]⟩,.slice none 0 0,.slice none 0 0,.slice none 0 0,.slice none 0 0]) (by simp [results,Tryz.results137,go_sem, *]) rfl ?_
  rw [← hV12,← hV13,← hV14,← hV15,← hV16,← hV17,← hV18,← hV19,← hV20,← hV21,← hV22,← hV23]
  have hlt:=HR0.o
  rw [HRP.o] at hlt
  have hlt2:=pStmt_lt hlt.symm
  rw [HRP.o]
  refine ⟨_,_,_,_,_,_,_,_,_,_,_,_,_,_,_,_,_,_,_,_,rfl,fun W hW => ?_,hlt2,HD.o.gr,HD.o.st⟩
  exact ⟨_,_,_,_,_,_,_,_,_,noE,_,[],_,[],_,[],rfl,rfl,XE.none W,LS.nil,LS.nil,LS.nil⟩
set_option maxHeartbeats 8000000 in
set_option maxRecDepth 100000 in
theorem stmt_put (hall : ts.all isAlone = true) {f : Nat} (hB : StmtsOk rb tv ts en f) (n : Nat) (w : World) (h : St rb tv ts en n w) (hf : 2 * (ts.length - n) + 1≤f + 1) (hq0 : isT ts n [105,102] = false) (hq1 : isT ts n [119,104,105,108,101] = false) (hq2 : isT ts n [103,101,116] = false) (hq3 : isT ts n [112,117,116] = true) :
    Calls Tryz.prog 137 #[.pointer (some ⟨rb,0,none⟩)] w (PostC ts en (pStmt ts en (f + 1) n) (StmtPost rb tv ts en (f + 1) n w) (fun w' => w.grownBy w' (some rb))):=by
  obtain ⟨res,hres⟩:=nm (pStmt ts en (f + 1) n)
  rw [← hres]
  have HR0:=hide hres
  have HRP : Hx (res = bindR (pName ts (n + 1)) fun b n1 => bindR (pX ts en n1) fun e n2 => bindR (pTake ts [59] n2) fun _ n3 => .inl (stD 4 (posn ts en n) noS b e [] [] [],n3)):=by show _ = _; rw [hres,show pStmt ts en (f + 1) n = pStmt1 ts en (pBlock ts (fun n => pStmts ts en f [] n)) n from rfl]; unfold pStmt1; rw [if_neg (show ¬ isT ts n [105,102] = true by rw [hq0]; simp)]; rw [if_neg (show ¬ isT ts n [119,104,105,108,101] = true by rw [hq1]; simp)]; rw [if_neg (show ¬ isT ts n [103,101,116] = true by rw [hq2]; simp)]; rw [if_pos hq3]; try rfl
  obtain ⟨p,hp⟩:=nm (posn ts en n)
  rw [← hp] at HRP
  have HP:=hide hp
  have HD:=hide (Rd.start h)
  have HS:=hide hB
  have HF:=hide hf
  clear hres hp h hB hf
  obtain ⟨V1,hV1⟩:=nm (w.alloc (.cells #[.int .i64 0,.int .i64 0,.string ⟨#[]⟩,.string ⟨#[]⟩,.int .i64 0,.int .i64 0,.int .i64 0,.string ⟨#[]⟩,.slice none 0 0,.slice none 0 0,.slice none 0 0,.slice none 0 0] 55))
  obtain ⟨ba,hba⟩:=nm w.heap.size
  have hsba:=hba
  have HLa : Hx (w.heap.size≤ba):=by show _≤_; rw [hsba]; exact HD.o.size
  have HBa : Hx (Bx ba [.int .i64 0,.int .i64 0,.string ⟨#[]⟩,.string ⟨#[]⟩,.int .i64 0,.int .i64 0,.int .i64 0,.string ⟨#[]⟩,.slice none 0 0,.slice none 0 0,.slice none 0 0,.slice none 0 0] V1):=by show Bx _ _ _; rw [hV1,hsba]; exact Bx.new w [.int .i64 0,.int .i64 0,.string ⟨#[]⟩,.string ⟨#[]⟩,.int .i64 0,.int .i64 0,.int .i64 0,.string ⟨#[]⟩,.slice none 0 0,.slice none 0 0,.slice none 0 0,.slice none 0 0] 55
  replace HD : Hx (Rd rb tv ts en w (n) V1):=by show Rd _ _ _ _ _ _ _; rw [hV1]; exact HD.o.over (bA _ _)
  have K0:=hide (here_c n _ HD.o.st)
  go_enter Tryz.func137,Tryz.ntmps137
  go_wp2_with fail
  rw [← hV1,← hba]
  clear hsba
  clear hba hV1
  refine K0.o.mono ?_
  rintro e wh ⟨rfl,hg,hs⟩
  rw [← HP.o]
  replace HBa:=hide (HBa.o.keep hg (by have:=HD.o.rlt; have:=HLa.o; omega))
  replace HD : Hx (Rd rb tv ts en w (n) wh):=HD.o.call hg hs
  clear hg hs
  clear K0
  obtain ⟨V2,hV2⟩:=nm (wh.alloc (.cells #[.int .i64 0,.int .i64 p,.string ⟨#[]⟩,.string ⟨#[]⟩,.int .i64 0,.int .i64 0,.int .i64 0,.string ⟨#[]⟩,.slice none 0 0,.slice none 0 0,.slice none 0 0,.slice none 0 0] 55))
  obtain ⟨bs,hbs⟩:=nm wh.heap.size
  have hsbs:=hbs
  have HLs : Hx (w.heap.size≤bs):=by show _≤_; rw [hsbs]; exact HD.o.size
  have HLas : Hx (ba < bs):=by show _ < _; rw [hsbs]; exact HBa.o.lt
  have HBs : Hx (Bx bs [.int .i64 0,.int .i64 p,.string ⟨#[]⟩,.string ⟨#[]⟩,.int .i64 0,.int .i64 0,.int .i64 0,.string ⟨#[]⟩,.slice none 0 0,.slice none 0 0,.slice none 0 0,.slice none 0 0] V2):=by show Bx _ _ _; rw [hV2,hsbs]; exact Bx.new wh [.int .i64 0,.int .i64 p,.string ⟨#[]⟩,.string ⟨#[]⟩,.int .i64 0,.int .i64 0,.int .i64 0,.string ⟨#[]⟩,.slice none 0 0,.slice none 0 0,.slice none 0 0,.slice none 0 0] 55
  replace HBa : Hx (Bx ba [.int .i64 0,.int .i64 0,.string ⟨#[]⟩,.string ⟨#[]⟩,.int .i64 0,.int .i64 0,.int .i64 0,.string ⟨#[]⟩,.slice none 0 0,.slice none 0 0,.slice none 0 0,.slice none 0 0] V2):=by show Bx _ _ _; rw [hV2]; exact HBa.o.over (bA _ _)
  replace HD : Hx (Rd rb tv ts en w (n) V2):=by show Rd _ _ _ _ _ _ _; rw [hV2]; exact HD.o.over (bA _ _)
  have KT:=hide (takes_f (x:=⟨#[105,102]⟩) rfl _ HD.o.st hq0)
  go_wp2_with fail
  rw [← hV2,← hbs]
  clear hsbs
  clear hbs hV2
  refine KT.o.mono ?_
  rintro e w3 ⟨rfl,hg,hs⟩
  replace HBa:=hide (HBa.o.keep hg (by have:=HD.o.rlt; have:=HLa.o; omega))
  replace HBs:=hide (HBs.o.keep hg (by have:=HD.o.rlt; have:=HLs.o; omega))
  replace HD : Hx (Rd rb tv ts en w (n) w3):=HD.o.call hg hs
  clear hg hs
  clear KT
  have KT:=hide (takes_f (x:=⟨#[119,104,105,108,101]⟩) rfl _ HD.o.st hq1)
  go_wp2_with fail
  refine KT.o.mono ?_
  rintro e w4 ⟨rfl,hg,hs⟩
  replace HBa:=hide (HBa.o.keep hg (by have:=HD.o.rlt; have:=HLa.o; omega))
  replace HBs:=hide (HBs.o.keep hg (by have:=HD.o.rlt; have:=HLs.o; omega))
  replace HD : Hx (Rd rb tv ts en w (n) w4):=HD.o.call hg hs
  clear hg hs
  clear KT
  have KT:=hide (takes_f (x:=⟨#[103,101,116]⟩) rfl _ HD.o.st hq2)
  go_wp2_with fail
  refine KT.o.mono ?_
  rintro e w5 ⟨rfl,hg,hs⟩
  replace HBa:=hide (HBa.o.keep hg (by have:=HD.o.rlt; have:=HLa.o; omega))
  replace HBs:=hide (HBs.o.keep hg (by have:=HD.o.rlt; have:=HLs.o; omega))
  replace HD : Hx (Rd rb tv ts en w (n) w5):=HD.o.call hg hs
  clear hg hs
  clear KT
  have KT:=hide (takes_t (x:=⟨#[112,117,116]⟩) rfl (by decide) _ HD.o.st hq3)
  go_wp2_with fail
  refine KT.o.mono ?_
  rintro e w6 ⟨rfl,hg,hs⟩
  replace HBa:=hide (HBa.o.keep hg (by have:=HD.o.rlt; have:=HLa.o; omega))
  replace HBs:=hide (HBs.o.keep hg (by have:=HD.o.rlt; have:=HLs.o; omega))
  replace HD : Hx (Rd rb tv ts en w (n + 1) w6):=HD.o.call hg hs
  clear hg hs
  clear KT
  have K1:=hide (name_c (n + 1) _ HD.o.st)
  go_wp2_with fail
  refine K1.o.mono ?_
  rintro e w7 hpo
  obtain ⟨m,ho⟩ | ⟨x,n1,ho⟩:=res_cases (pName ts (n + 1))
  · replace hpo : PostC ts en (pName ts (n + 1)) _ _ e w7:=hpo
    rw [ho] at hpo
    obtain ⟨rfl,hg⟩:=hpo
    have HO : Hx (res = .inr m):=by show _ = _; rw [HRP.o,ho]; rfl
    have HG:=hide (grownBy_trans HD.o.gr hg)
    clear hg ho
    unfold gaveUpAt
    go_wp2_with fail
    refine ⟨rfl,?_⟩
    rw [HO.o]
    exact ⟨rfl,HG.o⟩
  replace hpo : PostC ts en (pName ts (n + 1)) _ _ e w7:=hpo
  rw [ho] at hpo
  obtain ⟨rfl,hg,hs⟩:=hpo
  have hr:=HRP.o
  rw [ho,bindR_inl] at hr
  replace HRP:=hide hr
  have HOO:=hide ho
  clear hr ho
  have HNn1:=hide (pName_lt HOO.o)
  clear K1
  clear HOO
  replace HBa:=hide (HBa.o.keep hg (by have:=HD.o.rlt; have:=HLa.o; omega))
  replace HBs:=hide (HBs.o.keep hg (by have:=HD.o.rlt; have:=HLs.o; omega))
  replace HD : Hx (Rd rb tv ts en w (n1) w7):=HD.o.call hg hs
  clear hg hs
  have K2:=hide (expr_c hall (n1) _ HD.o.st)
  go_wp2_with fail
  obtain ⟨z,hz⟩:=nm w7.heap.size
  have HWz : Hx (w.heap.size≤z):=by show _≤_; rw [hz]; exact HD.o.size
  have HZza : Hx (ba < z):=by show _ < _; rw [hz]; exact HBa.o.lt
  have HZzs : Hx (bs < z):=by show _ < _; rw [hz]; exact HBs.o.lt
  refine K2.o.mono ?_
  rintro e w8 hpo
  obtain ⟨m,ho⟩ | ⟨ed,n2,ho⟩:=res_cases (pX ts en (n1))
  · replace hpo : PostC ts en (pX ts en (n1)) _ _ e w8:=hpo
    rw [ho] at hpo
    obtain ⟨rfl,hg⟩:=hpo
    have HO : Hx (res = .inr m):=by show _ = _; rw [HRP.o,ho]; rfl
    have HG:=hide (grownBy_trans HD.o.gr hg)
    clear hg ho
    unfold gaveUpAt
    go_wp2_with fail
    refine ⟨rfl,?_⟩
    rw [HO.o]
    exact ⟨rfl,HG.o⟩
  replace hpo : PostC ts en (pX ts en (n1)) _ _ e w8:=hpo
  rw [ho] at hpo
  obtain ⟨e0,e1,e2,e3,q0,q1,q2,rfl,hoff,-,-,hg,hs⟩:=hpo
  have hr:=HRP.o
  rw [ho,bindR_inl] at hr
  replace HRP:=hide hr
  have HOO:=hide ho
  clear hr ho
  rw [← hz] at hoff
  have HOFF:=hide hoff
  have HNn2:=hide (pX_lt HOO.o)
  clear hoff hz K2
  clear HOO
  replace HBa:=hide (HBa.o.keep hg (by have:=HD.o.rlt; have:=HLa.o; omega))
  replace HBs:=hide (HBs.o.keep hg (by have:=HD.o.rlt; have:=HLs.o; omega))
  replace HD : Hx (Rd rb tv ts en w (n2) w8):=HD.o.call hg hs
  clear hg hs
  obtain ⟨cs0,cs1,cs2,cs3,cs4,cs5,cs6,cs7,cs8,cs9,cs10,cs11⟩:=rc12 HBs.o.row
  have fs0:=HBs.o.fz 0
  have fs1:=HBs.o.fz 1
  have fs2:=HBs.o.fz 2
  have fs3:=HBs.o.fz 3
  have fs4:=HBs.o.fz 4
  have fs5:=HBs.o.fz 5
  have fs6:=HBs.o.fz 6
  have fs7:=HBs.o.fz 7
  have fs8:=HBs.o.fz 8
  have fs9:=HBs.o.fz 9
  have fs10:=HBs.o.fz 10
  have fs11:=HBs.o.fz 11
  obtain ⟨V9,hV9⟩:=nm (w8.setCell ⟨bs,0,none⟩ (.int .i64 4))
  replace HBs : Hx (Bx bs [.int .i64 4,.int .i64 p,.string ⟨#[]⟩,.string ⟨#[]⟩,.int .i64 0,.int .i64 0,.int .i64 0,.string ⟨#[]⟩,.slice none 0 0,.slice none 0 0,.slice none 0 0,.slice none 0 0] V9):=by show Bx _ _ _; rw [hV9]; exact HBs.o.set (j:=0) (by simp)
  replace HBa : Hx (Bx ba [.int .i64 0,.int .i64 0,.string ⟨#[]⟩,.string ⟨#[]⟩,.int .i64 0,.int .i64 0,.int .i64 0,.string ⟨#[]⟩,.slice none 0 0,.slice none 0 0,.slice none 0 0,.slice none 0 0] V9):=by show Bx _ _ _; rw [hV9]; exact HBa.o.far (by have:=HLas.o; omega)
  replace HD : Hx (Rd rb tv ts en w (n2) V9):=by show Rd _ _ _ _ _ _ _; rw [hV9]; exact HD.o.set (by exact HLs.o)
  replace HOFF : Hx (Off z none V9 (fun W => XE W 61 [.int .i64 e0,.int .i64 e1,.int .i64 e2,.string e3,.slice q0 q1 q2] ed)):=by show Off _ _ _ _; rw [hV9]; exact HOFF.o.set HZzs.o
  obtain ⟨V10,hV10⟩:=nm (V9.setCell ⟨bs,3,none⟩ (.string x))
  replace HBs : Hx (Bx bs [.int .i64 4,.int .i64 p,.string ⟨#[]⟩,.string x,.int .i64 0,.int .i64 0,.int .i64 0,.string ⟨#[]⟩,.slice none 0 0,.slice none 0 0,.slice none 0 0,.slice none 0 0] V10):=by show Bx _ _ _; rw [hV10]; exact HBs.o.set (j:=3) (by simp)
  replace HBa : Hx (Bx ba [.int .i64 0,.int .i64 0,.string ⟨#[]⟩,.string ⟨#[]⟩,.int .i64 0,.int .i64 0,.int .i64 0,.string ⟨#[]⟩,.slice none 0 0,.slice none 0 0,.slice none 0 0,.slice none 0 0] V10):=by show Bx _ _ _; rw [hV10]; exact HBa.o.far (by have:=HLas.o; omega)
  replace HD : Hx (Rd rb tv ts en w (n2) V10):=by show Rd _ _ _ _ _ _ _; rw [hV10]; exact HD.o.set (by exact HLs.o)
  replace HOFF : Hx (Off z none V10 (fun W => XE W 61 [.int .i64 e0,.int .i64 e1,.int .i64 e2,.string e3,.slice q0 q1 q2] ed)):=by show Off _ _ _ _; rw [hV10]; exact HOFF.o.set HZzs.o
  obtain ⟨V11,hV11⟩:=nm (V10.setCell ⟨bs,4,none⟩ (.int .i64 e0))
  replace HBs : Hx (Bx bs [.int .i64 4,.int .i64 p,.string ⟨#[]⟩,.string x,.int .i64 e0,.int .i64 0,.int .i64 0,.string ⟨#[]⟩,.slice none 0 0,.slice none 0 0,.slice none 0 0,.slice none 0 0] V11):=by show Bx _ _ _; rw [hV11]; exact HBs.o.set (j:=4) (by simp)
  replace HBa : Hx (Bx ba [.int .i64 0,.int .i64 0,.string ⟨#[]⟩,.string ⟨#[]⟩,.int .i64 0,.int .i64 0,.int .i64 0,.string ⟨#[]⟩,.slice none 0 0,.slice none 0 0,.slice none 0 0,.slice none 0 0] V11):=by show Bx _ _ _; rw [hV11]; exact HBa.o.far (by have:=HLas.o; omega)
  replace HD : Hx (Rd rb tv ts en w (n2) V11):=by show Rd _ _ _ _ _ _ _; rw [hV11]; exact HD.o.set (by exact HLs.o)
  replace HOFF : Hx (Off z none V11 (fun W => XE W 61 [.int .i64 e0,.int .i64 e1,.int .i64 e2,.string e3,.slice q0 q1 q2] ed)):=by show Off _ _ _ _; rw [hV11]; exact HOFF.o.set HZzs.o
  obtain ⟨V12,hV12⟩:=nm (V11.setCell ⟨bs,5,none⟩ (.int .i64 e1))
  replace HBs : Hx (Bx bs [.int .i64 4,.int .i64 p,.string ⟨#[]⟩,.string x,.int .i64 e0,.int .i64 e1,.int .i64 0,.string ⟨#[]⟩,.slice none 0 0,.slice none 0 0,.slice none 0 0,.slice none 0 0] V12):=by show Bx _ _ _; rw [hV12]; exact HBs.o.set (j:=5) (by simp)
  replace HBa : Hx (Bx ba [.int .i64 0,.int .i64 0,.string ⟨#[]⟩,.string ⟨#[]⟩,.int .i64 0,.int .i64 0,.int .i64 0,.string ⟨#[]⟩,.slice none 0 0,.slice none 0 0,.slice none 0 0,.slice none 0 0] V12):=by show Bx _ _ _; rw [hV12]; exact HBa.o.far (by have:=HLas.o; omega)
  replace HD : Hx (Rd rb tv ts en w (n2) V12):=by show Rd _ _ _ _ _ _ _; rw [hV12]; exact HD.o.set (by exact HLs.o)
  replace HOFF : Hx (Off z none V12 (fun W => XE W 61 [.int .i64 e0,.int .i64 e1,.int .i64 e2,.string e3,.slice q0 q1 q2] ed)):=by show Off _ _ _ _; rw [hV12]; exact HOFF.o.set HZzs.o
  obtain ⟨V13,hV13⟩:=nm (V12.setCell ⟨bs,6,none⟩ (.int .i64 e2))
  replace HBs : Hx (Bx bs [.int .i64 4,.int .i64 p,.string ⟨#[]⟩,.string x,.int .i64 e0,.int .i64 e1,.int .i64 e2,.string ⟨#[]⟩,.slice none 0 0,.slice none 0 0,.slice none 0 0,.slice none 0 0] V13):=by show Bx _ _ _; rw [hV13]; exact HBs.o.set (j:=6) (by simp)
  replace HBa : Hx (Bx ba [.int .i64 0,.int .i64 0,.string ⟨#[]⟩,.string ⟨#[]⟩,.int .i64 0,.int .i64 0,.int .i64 0,.string ⟨#[]⟩,.slice none 0 0,.slice none 0 0,.slice none 0 0,.slice none 0 0] V13):=by show Bx _ _ _; rw [hV13]; exact HBa.o.far (by have:=HLas.o; omega)
  replace HD : Hx (Rd rb tv ts en w (n2) V13):=by show Rd _ _ _ _ _ _ _; rw [hV13]; exact HD.o.set (by exact HLs.o)
  replace HOFF : Hx (Off z none V13 (fun W => XE W 61 [.int .i64 e0,.int .i64 e1,.int .i64 e2,.string e3,.slice q0 q1 q2] ed)):=by show Off _ _ _ _; rw [hV13]; exact HOFF.o.set HZzs.o
  obtain ⟨V14,hV14⟩:=nm (V13.setCell ⟨bs,7,none⟩ (.string e3))
  replace HBs : Hx (Bx bs [.int .i64 4,.int .i64 p,.string ⟨#[]⟩,.string x,.int .i64 e0,.int .i64 e1,.int .i64 e2,.string e3,.slice none 0 0,.slice none 0 0,.slice none 0 0,.slice none 0 0] V14):=by show Bx _ _ _; rw [hV14]; exact HBs.o.set (j:=7) (by simp)
  replace HBa : Hx (Bx ba [.int .i64 0,.int .i64 0,.string ⟨#[]⟩,.string ⟨#[]⟩,.int .i64 0,.int .i64 0,.int .i64 0,.string ⟨#[]⟩,.slice none 0 0,.slice none 0 0,.slice none 0 0,.slice none 0 0] V14):=by show Bx _ _ _; rw [hV14]; exact HBa.o.far (by have:=HLas.o; omega)
  replace HD : Hx (Rd rb tv ts en w (n2) V14):=by show Rd _ _ _ _ _ _ _; rw [hV14]; exact HD.o.set (by exact HLs.o)
  replace HOFF : Hx (Off z none V14 (fun W => XE W 61 [.int .i64 e0,.int .i64 e1,.int .i64 e2,.string e3,.slice q0 q1 q2] ed)):=by show Off _ _ _ _; rw [hV14]; exact HOFF.o.set HZzs.o
  obtain ⟨V15,hV15⟩:=nm (V14.setCell ⟨bs,8,none⟩ (.slice q0 q1 q2))
  replace HBs : Hx (Bx bs [.int .i64 4,.int .i64 p,.string ⟨#[]⟩,.string x,.int .i64 e0,.int .i64 e1,.int .i64 e2,.string e3,.slice q0 q1 q2,.slice none 0 0,.slice none 0 0,.slice none 0 0] V15):=by show Bx _ _ _; rw [hV15]; exact HBs.o.set (j:=8) (by simp)
  replace HBa : Hx (Bx ba [.int .i64 0,.int .i64 0,.string ⟨#[]⟩,.string ⟨#[]⟩,.int .i64 0,.int .i64 0,.int .i64 0,.string ⟨#[]⟩,.slice none 0 0,.slice none 0 0,.slice none 0 0,.slice none 0 0] V15):=by show Bx _ _ _; rw [hV15]; exact HBa.o.far (by have:=HLas.o; omega)
  replace HD : Hx (Rd rb tv ts en w (n2) V15):=by show Rd _ _ _ _ _ _ _; rw [hV15]; exact HD.o.set (by exact HLs.o)
  replace HOFF : Hx (Off z none V15 (fun W => XE W 61 [.int .i64 e0,.int .i64 e1,.int .i64 e2,.string e3,.slice q0 q1 q2] ed)):=by show Off _ _ _ _; rw [hV15]; exact HOFF.o.set HZzs.o
  have K3:=hide (take_c ⟨#[59]⟩ (by decide) n2 _ HD.o.st)
  go_wp2_with fail
  rw [← hV9,← hV10,← hV11,← hV12,← hV13,← hV14,← hV15]
  clear fs11 fs10 fs9 fs8 fs7 fs6 fs5 fs4 fs3 fs2 fs1 fs0 cs11 cs10 cs9 cs8 cs7 cs6 cs5 cs4 cs3 cs2 cs1 cs0
  clear hV15 hV14 hV13 hV12 hV11 hV10 hV9
  refine K3.o.mono ?_
  rintro e w16 hpo
  obtain ⟨m,ho⟩ | ⟨_u,n3,ho⟩:=res_cases (pTake ts [59] n2)
  · replace hpo : PostC ts en (pTake ts [59] n2) _ _ e w16:=hpo
    rw [ho] at hpo
    obtain ⟨rfl,hg⟩:=hpo
    have HO : Hx (res = .inr m):=by show _ = _; rw [HRP.o,ho]; rfl
    have HG:=hide (grownBy_trans HD.o.gr hg)
    clear hg ho
    unfold gaveUpAt
    go_wp2_with fail
    refine ⟨rfl,?_⟩
    rw [HO.o]
    exact ⟨rfl,HG.o⟩
  replace hpo : PostC ts en (pTake ts [59] n2) _ _ e w16:=hpo
  rw [ho] at hpo
  obtain ⟨rfl,hg,hs⟩:=hpo
  have hr:=HRP.o
  rw [ho,bindR_inl] at hr
  replace HRP:=hide hr
  have HOO:=hide ho
  clear hr ho
  clear HOO
  replace HBa:=hide (HBa.o.keep hg (by have:=HD.o.rlt; have:=HLa.o; omega))
  replace HBs:=hide (HBs.o.keep hg (by have:=HD.o.rlt; have:=HLs.o; omega))
  replace HOFF:=hide (HOFF.o.keep hg (by have:=HD.o.rlt; have:=HWz.o; omega))
  replace HD : Hx (Rd rb tv ts en w (n3) w16):=HD.o.call hg hs
  clear hg hs
  have neas : ba≠bs:=by have:=HLas.o; omega
  have nesa : bs≠ba:=by have:=HLas.o; omega
  obtain ⟨ca0,ca1,ca2,ca3,ca4,ca5,ca6,ca7,ca8,ca9,ca10,ca11⟩:=rc12 HBa.o.row
  have fa0:=HBa.o.fz 0
  have fa1:=HBa.o.fz 1
  have fa2:=HBa.o.fz 2
  have fa3:=HBa.o.fz 3
  have fa4:=HBa.o.fz 4
  have fa5:=HBa.o.fz 5
  have fa6:=HBa.o.fz 6
  have fa7:=HBa.o.fz 7
  have fa8:=HBa.o.fz 8
  have fa9:=HBa.o.fz 9
  have fa10:=HBa.o.fz 10
  have fa11:=HBa.o.fz 11
  obtain ⟨cs0,cs1,cs2,cs3,cs4,cs5,cs6,cs7,cs8,cs9,cs10,cs11⟩:=rc12 HBs.o.row
  have fs0:=HBs.o.fz 0
  have fs1:=HBs.o.fz 1
  have fs2:=HBs.o.fz 2
  have fs3:=HBs.o.fz 3
  have fs4:=HBs.o.fz 4
  have fs5:=HBs.o.fz 5
  have fs6:=HBs.o.fz 6
  have fs7:=HBs.o.fz 7
  have fs8:=HBs.o.fz 8
  have fs9:=HBs.o.fz 9
  have fs10:=HBs.o.fz 10
  have fs11:=HBs.o.fz 11
  obtain ⟨V17,hV17⟩:=nm (w16.setCell ⟨ba,0,none⟩ (.int .i64 4))
  replace HBa : Hx (Bx ba [.int .i64 4,.int .i64 0,.string ⟨#[]⟩,.string ⟨#[]⟩,.int .i64 0,.int .i64 0,.int .i64 0,.string ⟨#[]⟩,.slice none 0 0,.slice none 0 0,.slice none 0 0,.slice none 0 0] V17):=by show Bx _ _ _; rw [hV17]; exact HBa.o.set (j:=0) (by simp)
  replace HBs : Hx (Bx bs [.int .i64 4,.int .i64 p,.string ⟨#[]⟩,.string x,.int .i64 e0,.int .i64 e1,.int .i64 e2,.string e3,.slice q0 q1 q2,.slice none 0 0,.slice none 0 0,.slice none 0 0] V17):=by show Bx _ _ _; rw [hV17]; exact HBs.o.far (by have:=HLas.o; omega)
  replace HD : Hx (Rd rb tv ts en w (n3) V17):=by show Rd _ _ _ _ _ _ _; rw [hV17]; exact HD.o.set (by exact HLa.o)
  replace HOFF : Hx (Off z none V17 (fun W => XE W 61 [.int .i64 e0,.int .i64 e1,.int .i64 e2,.string e3,.slice q0 q1 q2] ed)):=by show Off _ _ _ _; rw [hV17]; exact HOFF.o.set HZza.o
  obtain ⟨V18,hV18⟩:=nm (V17.setCell ⟨ba,1,none⟩ (.int .i64 p))
  replace HBa : Hx (Bx ba [.int .i64 4,.int .i64 p,.string ⟨#[]⟩,.string ⟨#[]⟩,.int .i64 0,.int .i64 0,.int .i64 0,.string ⟨#[]⟩,.slice none 0 0,.slice none 0 0,.slice none 0 0,.slice none 0 0] V18):=by show Bx _ _ _; rw [hV18]; exact HBa.o.set (j:=1) (by simp)
  replace HBs : Hx (Bx bs [.int .i64 4,.int .i64 p,.string ⟨#[]⟩,.string x,.int .i64 e0,.int .i64 e1,.int .i64 e2,.string e3,.slice q0 q1 q2,.slice none 0 0,.slice none 0 0,.slice none 0 0] V18):=by show Bx _ _ _; rw [hV18]; exact HBs.o.far (by have:=HLas.o; omega)
  replace HD : Hx (Rd rb tv ts en w (n3) V18):=by show Rd _ _ _ _ _ _ _; rw [hV18]; exact HD.o.set (by exact HLa.o)
  replace HOFF : Hx (Off z none V18 (fun W => XE W 61 [.int .i64 e0,.int .i64 e1,.int .i64 e2,.string e3,.slice q0 q1 q2] ed)):=by show Off _ _ _ _; rw [hV18]; exact HOFF.o.set HZza.o
  obtain ⟨V19,hV19⟩:=nm (V18.setCell ⟨ba,2,none⟩ (.string ⟨#[]⟩))
  replace HBa : Hx (Bx ba [.int .i64 4,.int .i64 p,.string ⟨#[]⟩,.string ⟨#[]⟩,.int .i64 0,.int .i64 0,.int .i64 0,.string ⟨#[]⟩,.slice none 0 0,.slice none 0 0,.slice none 0 0,.slice none 0 0] V19):=by show Bx _ _ _; rw [hV19]; exact HBa.o.set (j:=2) (by simp)
  replace HBs : Hx (Bx bs [.int .i64 4,.int .i64 p,.string ⟨#[]⟩,.string x,.int .i64 e0,.int .i64 e1,.int .i64 e2,.string e3,.slice q0 q1 q2,.slice none 0 0,.slice none 0 0,.slice none 0 0] V19):=by show Bx _ _ _; rw [hV19]; exact HBs.o.far (by have:=HLas.o; omega)
  replace HD : Hx (Rd rb tv ts en w (n3) V19):=by show Rd _ _ _ _ _ _ _; rw [hV19]; exact HD.o.set (by exact HLa.o)
  replace HOFF : Hx (Off z none V19 (fun W => XE W 61 [.int .i64 e0,.int .i64 e1,.int .i64 e2,.string e3,.slice q0 q1 q2] ed)):=by show Off _ _ _ _; rw [hV19]; exact HOFF.o.set HZza.o
  obtain ⟨V20,hV20⟩:=nm (V19.setCell ⟨ba,3,none⟩ (.string x))
  replace HBa : Hx (Bx ba [.int .i64 4,.int .i64 p,.string ⟨#[]⟩,.string x,.int .i64 0,.int .i64 0,.int .i64 0,.string ⟨#[]⟩,.slice none 0 0,.slice none 0 0,.slice none 0 0,.slice none 0 0] V20):=by show Bx _ _ _; rw [hV20]; exact HBa.o.set (j:=3) (by simp)
  replace HBs : Hx (Bx bs [.int .i64 4,.int .i64 p,.string ⟨#[]⟩,.string x,.int .i64 e0,.int .i64 e1,.int .i64 e2,.string e3,.slice q0 q1 q2,.slice none 0 0,.slice none 0 0,.slice none 0 0] V20):=by show Bx _ _ _; rw [hV20]; exact HBs.o.far (by have:=HLas.o; omega)
  replace HD : Hx (Rd rb tv ts en w (n3) V20):=by show Rd _ _ _ _ _ _ _; rw [hV20]; exact HD.o.set (by exact HLa.o)
  replace HOFF : Hx (Off z none V20 (fun W => XE W 61 [.int .i64 e0,.int .i64 e1,.int .i64 e2,.string e3,.slice q0 q1 q2] ed)):=by show Off _ _ _ _; rw [hV20]; exact HOFF.o.set HZza.o
  obtain ⟨V21,hV21⟩:=nm (V20.setCell ⟨ba,4,none⟩ (.int .i64 e0))
  replace HBa : Hx (Bx ba [.int .i64 4,.int .i64 p,.string ⟨#[]⟩,.string x,.int .i64 e0,.int .i64 0,.int .i64 0,.string ⟨#[]⟩,.slice none 0 0,.slice none 0 0,.slice none 0 0,.slice none 0 0] V21):=by show Bx _ _ _; rw [hV21]; exact HBa.o.set (j:=4) (by simp)
  replace HBs : Hx (Bx bs [.int .i64 4,.int .i64 p,.string ⟨#[]⟩,.string x,.int .i64 e0,.int .i64 e1,.int .i64 e2,.string e3,.slice q0 q1 q2,.slice none 0 0,.slice none 0 0,.slice none 0 0] V21):=by show Bx _ _ _; rw [hV21]; exact HBs.o.far (by have:=HLas.o; omega)
  replace HD : Hx (Rd rb tv ts en w (n3) V21):=by show Rd _ _ _ _ _ _ _; rw [hV21]; exact HD.o.set (by exact HLa.o)
  replace HOFF : Hx (Off z none V21 (fun W => XE W 61 [.int .i64 e0,.int .i64 e1,.int .i64 e2,.string e3,.slice q0 q1 q2] ed)):=by show Off _ _ _ _; rw [hV21]; exact HOFF.o.set HZza.o
  obtain ⟨V22,hV22⟩:=nm (V21.setCell ⟨ba,5,none⟩ (.int .i64 e1))
  replace HBa : Hx (Bx ba [.int .i64 4,.int .i64 p,.string ⟨#[]⟩,.string x,.int .i64 e0,.int .i64 e1,.int .i64 0,.string ⟨#[]⟩,.slice none 0 0,.slice none 0 0,.slice none 0 0,.slice none 0 0] V22):=by show Bx _ _ _; rw [hV22]; exact HBa.o.set (j:=5) (by simp)
  replace HBs : Hx (Bx bs [.int .i64 4,.int .i64 p,.string ⟨#[]⟩,.string x,.int .i64 e0,.int .i64 e1,.int .i64 e2,.string e3,.slice q0 q1 q2,.slice none 0 0,.slice none 0 0,.slice none 0 0] V22):=by show Bx _ _ _; rw [hV22]; exact HBs.o.far (by have:=HLas.o; omega)
  replace HD : Hx (Rd rb tv ts en w (n3) V22):=by show Rd _ _ _ _ _ _ _; rw [hV22]; exact HD.o.set (by exact HLa.o)
  replace HOFF : Hx (Off z none V22 (fun W => XE W 61 [.int .i64 e0,.int .i64 e1,.int .i64 e2,.string e3,.slice q0 q1 q2] ed)):=by show Off _ _ _ _; rw [hV22]; exact HOFF.o.set HZza.o
  obtain ⟨V23,hV23⟩:=nm (V22.setCell ⟨ba,6,none⟩ (.int .i64 e2))
  replace HBa : Hx (Bx ba [.int .i64 4,.int .i64 p,.string ⟨#[]⟩,.string x,.int .i64 e0,.int .i64 e1,.int .i64 e2,.string ⟨#[]⟩,.slice none 0 0,.slice none 0 0,.slice none 0 0,.slice none 0 0] V23):=by show Bx _ _ _; rw [hV23]; exact HBa.o.set (j:=6) (by simp)
  replace HBs : Hx (Bx bs [.int .i64 4,.int .i64 p,.string ⟨#[]⟩,.string x,.int .i64 e0,.int .i64 e1,.int .i64 e2,.string e3,.slice q0 q1 q2,.slice none 0 0,.slice none 0 0,.slice none 0 0] V23):=by show Bx _ _ _; rw [hV23]; exact HBs.o.far (by have:=HLas.o; omega)
  replace HD : Hx (Rd rb tv ts en w (n3) V23):=by show Rd _ _ _ _ _ _ _; rw [hV23]; exact HD.o.set (by exact HLa.o)
  replace HOFF : Hx (Off z none V23 (fun W => XE W 61 [.int .i64 e0,.int .i64 e1,.int .i64 e2,.string e3,.slice q0 q1 q2] ed)):=by show Off _ _ _ _; rw [hV23]; exact HOFF.o.set HZza.o
  obtain ⟨V24,hV24⟩:=nm (V23.setCell ⟨ba,7,none⟩ (.string e3))
  replace HBa : Hx (Bx ba [.int .i64 4,.int .i64 p,.string ⟨#[]⟩,.string x,.int .i64 e0,.int .i64 e1,.int .i64 e2,.string e3,.slice none 0 0,.slice none 0 0,.slice none 0 0,.slice none 0 0] V24):=by show Bx _ _ _; rw [hV24]; exact HBa.o.set (j:=7) (by simp)
  replace HBs : Hx (Bx bs [.int .i64 4,.int .i64 p,.string ⟨#[]⟩,.string x,.int .i64 e0,.int .i64 e1,.int .i64 e2,.string e3,.slice q0 q1 q2,.slice none 0 0,.slice none 0 0,.slice none 0 0] V24):=by show Bx _ _ _; rw [hV24]; exact HBs.o.far (by have:=HLas.o; omega)
  replace HD : Hx (Rd rb tv ts en w (n3) V24):=by show Rd _ _ _ _ _ _ _; rw [hV24]; exact HD.o.set (by exact HLa.o)
  replace HOFF : Hx (Off z none V24 (fun W => XE W 61 [.int .i64 e0,.int .i64 e1,.int .i64 e2,.string e3,.slice q0 q1 q2] ed)):=by show Off _ _ _ _; rw [hV24]; exact HOFF.o.set HZza.o
  obtain ⟨V25,hV25⟩:=nm (V24.setCell ⟨ba,8,none⟩ (.slice q0 q1 q2))
  replace HBa : Hx (Bx ba [.int .i64 4,.int .i64 p,.string ⟨#[]⟩,.string x,.int .i64 e0,.int .i64 e1,.int .i64 e2,.string e3,.slice q0 q1 q2,.slice none 0 0,.slice none 0 0,.slice none 0 0] V25):=by show Bx _ _ _; rw [hV25]; exact HBa.o.set (j:=8) (by simp)
  replace HBs : Hx (Bx bs [.int .i64 4,.int .i64 p,.string ⟨#[]⟩,.string x,.int .i64 e0,.int .i64 e1,.int .i64 e2,.string e3,.slice q0 q1 q2,.slice none 0 0,.slice none 0 0,.slice none 0 0] V25):=by show Bx _ _ _; rw [hV25]; exact HBs.o.far (by have:=HLas.o; omega)
  replace HD : Hx (Rd rb tv ts en w (n3) V25):=by show Rd _ _ _ _ _ _ _; rw [hV25]; exact HD.o.set (by exact HLa.o)
  replace HOFF : Hx (Off z none V25 (fun W => XE W 61 [.int .i64 e0,.int .i64 e1,.int .i64 e2,.string e3,.slice q0 q1 q2] ed)):=by show Off _ _ _ _; rw [hV25]; exact HOFF.o.set HZza.o
  obtain ⟨V26,hV26⟩:=nm (V25.setCell ⟨ba,9,none⟩ (.slice none 0 0))
  replace HBa : Hx (Bx ba [.int .i64 4,.int .i64 p,.string ⟨#[]⟩,.string x,.int .i64 e0,.int .i64 e1,.int .i64 e2,.string e3,.slice q0 q1 q2,.slice none 0 0,.slice none 0 0,.slice none 0 0] V26):=by show Bx _ _ _; rw [hV26]; exact HBa.o.set (j:=9) (by simp)
  replace HBs : Hx (Bx bs [.int .i64 4,.int .i64 p,.string ⟨#[]⟩,.string x,.int .i64 e0,.int .i64 e1,.int .i64 e2,.string e3,.slice q0 q1 q2,.slice none 0 0,.slice none 0 0,.slice none 0 0] V26):=by show Bx _ _ _; rw [hV26]; exact HBs.o.far (by have:=HLas.o; omega)
  replace HD : Hx (Rd rb tv ts en w (n3) V26):=by show Rd _ _ _ _ _ _ _; rw [hV26]; exact HD.o.set (by exact HLa.o)
  replace HOFF : Hx (Off z none V26 (fun W => XE W 61 [.int .i64 e0,.int .i64 e1,.int .i64 e2,.string e3,.slice q0 q1 q2] ed)):=by show Off _ _ _ _; rw [hV26]; exact HOFF.o.set HZza.o
  obtain ⟨V27,hV27⟩:=nm (V26.setCell ⟨ba,10,none⟩ (.slice none 0 0))
  replace HBa : Hx (Bx ba [.int .i64 4,.int .i64 p,.string ⟨#[]⟩,.string x,.int .i64 e0,.int .i64 e1,.int .i64 e2,.string e3,.slice q0 q1 q2,.slice none 0 0,.slice none 0 0,.slice none 0 0] V27):=by show Bx _ _ _; rw [hV27]; exact HBa.o.set (j:=10) (by simp)
  replace HBs : Hx (Bx bs [.int .i64 4,.int .i64 p,.string ⟨#[]⟩,.string x,.int .i64 e0,.int .i64 e1,.int .i64 e2,.string e3,.slice q0 q1 q2,.slice none 0 0,.slice none 0 0,.slice none 0 0] V27):=by show Bx _ _ _; rw [hV27]; exact HBs.o.far (by have:=HLas.o; omega)
  replace HD : Hx (Rd rb tv ts en w (n3) V27):=by show Rd _ _ _ _ _ _ _; rw [hV27]; exact HD.o.set (by exact HLa.o)
  replace HOFF : Hx (Off z none V27 (fun W => XE W 61 [.int .i64 e0,.int .i64 e1,.int .i64 e2,.string e3,.slice q0 q1 q2] ed)):=by show Off _ _ _ _; rw [hV27]; exact HOFF.o.set HZza.o
  obtain ⟨V28,hV28⟩:=nm (V27.setCell ⟨ba,11,none⟩ (.slice none 0 0))
  replace HBa : Hx (Bx ba [.int .i64 4,.int .i64 p,.string ⟨#[]⟩,.string x,.int .i64 e0,.int .i64 e1,.int .i64 e2,.string e3,.slice q0 q1 q2,.slice none 0 0,.slice none 0 0,.slice none 0 0] V28):=by show Bx _ _ _; rw [hV28]; exact HBa.o.set (j:=11) (by simp)
  replace HBs : Hx (Bx bs [.int .i64 4,.int .i64 p,.string ⟨#[]⟩,.string x,.int .i64 e0,.int .i64 e1,.int .i64 e2,.string e3,.slice q0 q1 q2,.slice none 0 0,.slice none 0 0,.slice none 0 0] V28):=by show Bx _ _ _; rw [hV28]; exact HBs.o.far (by have:=HLas.o; omega)
  replace HD : Hx (Rd rb tv ts en w (n3) V28):=by show Rd _ _ _ _ _ _ _; rw [hV28]; exact HD.o.set (by exact HLa.o)
  replace HOFF : Hx (Off z none V28 (fun W => XE W 61 [.int .i64 e0,.int .i64 e1,.int .i64 e2,.string e3,.slice q0 q1 q2] ed)):=by show Off _ _ _ _; rw [hV28]; exact HOFF.o.set HZza.o
  go_wp2_with fail
  refine bodyPost_ret (v:=.agg #[.int .i64 4,.int .i64 p,.string ⟨#[]⟩,.string x,.int .i64 e0,.int .i64 e1,.int .i64 e2,.string e3,.slice q0 q1 q2,.slice none 0 0,.slice none 0 0,.slice none 0 0]) (by simp [results,Tryz.results137,go_sem, *]) rfl ?_
  rw [← hV17,← hV18,← hV19,← hV20,← hV21,← hV22,← hV23,← hV24,← hV25,← hV26,← hV27,← hV28]
  have hlt:=HR0.o
  rw [HRP.o] at hlt
  have hlt2:=pStmt_lt hlt.symm
  rw [HRP.o]
  refine ⟨_,_,_,_,_,_,_,_,_,_,_,_,_,_,_,_,_,_,_,_,rfl,fun W hW => ?_,hlt2,HD.o.gr,HD.o.st⟩
  exact ⟨_,_,_,_,_,_,_,_,_,ed,_,[],_,[],_,[],rfl,rfl,(HOFF.o.base HWz.o) W hW,LS.nil,LS.nil,LS.nil⟩
set_option maxHeartbeats 8000000 in
set_option maxRecDepth 100000 in
theorem stmt_reveal (hall : ts.all isAlone = true) {f : Nat} (hB : StmtsOk rb tv ts en f) (n : Nat) (w : World) (h : St rb tv ts en n w) (hf : 2 * (ts.length - n) + 1≤f + 1) (hq0 : isT ts n [105,102] = false) (hq1 : isT ts n [119,104,105,108,101] = false) (hq2 : isT ts n [103,101,116] = false) (hq3 : isT ts n [112,117,116] = false) (hq4 : isT ts n [114,101,118,101,97,108] = true) :
    Calls Tryz.prog 137 #[.pointer (some ⟨rb,0,none⟩)] w (PostC ts en (pStmt ts en (f + 1) n) (StmtPost rb tv ts en (f + 1) n w) (fun w' => w.grownBy w' (some rb))):=by
  obtain ⟨res,hres⟩:=nm (pStmt ts en (f + 1) n)
  rw [← hres]
  have HR0:=hide hres
  have HRP : Hx (res = bindR (pName ts (n + 1)) fun a n1 => bindR (pX ts en n1) fun e n2 => bindR (pTake ts [59] n2) fun _ n3 => .inl (stD 5 (posn ts en n) a noS e [] [] [],n3)):=by show _ = _; rw [hres,show pStmt ts en (f + 1) n = pStmt1 ts en (pBlock ts (fun n => pStmts ts en f [] n)) n from rfl]; unfold pStmt1; rw [if_neg (show ¬ isT ts n [105,102] = true by rw [hq0]; simp)]; rw [if_neg (show ¬ isT ts n [119,104,105,108,101] = true by rw [hq1]; simp)]; rw [if_neg (show ¬ isT ts n [103,101,116] = true by rw [hq2]; simp)]; rw [if_neg (show ¬ isT ts n [112,117,116] = true by rw [hq3]; simp)]; rw [if_pos hq4]; try rfl
  obtain ⟨p,hp⟩:=nm (posn ts en n)
  rw [← hp] at HRP
  have HP:=hide hp
  have HD:=hide (Rd.start h)
  have HS:=hide hB
  have HF:=hide hf
  clear hres hp h hB hf
  obtain ⟨V1,hV1⟩:=nm (w.alloc (.cells #[.int .i64 0,.int .i64 0,.string ⟨#[]⟩,.string ⟨#[]⟩,.int .i64 0,.int .i64 0,.int .i64 0,.string ⟨#[]⟩,.slice none 0 0,.slice none 0 0,.slice none 0 0,.slice none 0 0] 55))
  obtain ⟨ba,hba⟩:=nm w.heap.size
  have hsba:=hba
  have HLa : Hx (w.heap.size≤ba):=by show _≤_; rw [hsba]; exact HD.o.size
  have HBa : Hx (Bx ba [.int .i64 0,.int .i64 0,.string ⟨#[]⟩,.string ⟨#[]⟩,.int .i64 0,.int .i64 0,.int .i64 0,.string ⟨#[]⟩,.slice none 0 0,.slice none 0 0,.slice none 0 0,.slice none 0 0] V1):=by show Bx _ _ _; rw [hV1,hsba]; exact Bx.new w [.int .i64 0,.int .i64 0,.string ⟨#[]⟩,.string ⟨#[]⟩,.int .i64 0,.int .i64 0,.int .i64 0,.string ⟨#[]⟩,.slice none 0 0,.slice none 0 0,.slice none 0 0,.slice none 0 0] 55
  replace HD : Hx (Rd rb tv ts en w (n) V1):=by show Rd _ _ _ _ _ _ _; rw [hV1]; exact HD.o.over (bA _ _)
  have K0:=hide (here_c n _ HD.o.st)
  go_enter Tryz.func137,Tryz.ntmps137
  go_wp2_with fail
  rw [← hV1,← hba]
  clear hsba
  clear hba hV1
  refine K0.o.mono ?_
  rintro e wh ⟨rfl,hg,hs⟩
  rw [← HP.o]
  replace HBa:=hide (HBa.o.keep hg (by have:=HD.o.rlt; have:=HLa.o; omega))
  replace HD : Hx (Rd rb tv ts en w (n) wh):=HD.o.call hg hs
  clear hg hs
  clear K0
  obtain ⟨V2,hV2⟩:=nm (wh.alloc (.cells #[.int .i64 0,.int .i64 p,.string ⟨#[]⟩,.string ⟨#[]⟩,.int .i64 0,.int .i64 0,.int .i64 0,.string ⟨#[]⟩,.slice none 0 0,.slice none 0 0,.slice none 0 0,.slice none 0 0] 55))
  obtain ⟨bs,hbs⟩:=nm wh.heap.size
  have hsbs:=hbs
  have HLs : Hx (w.heap.size≤bs):=by show _≤_; rw [hsbs]; exact HD.o.size
  have HLas : Hx (ba < bs):=by show _ < _; rw [hsbs]; exact HBa.o.lt
  have HBs : Hx (Bx bs [.int .i64 0,.int .i64 p,.string ⟨#[]⟩,.string ⟨#[]⟩,.int .i64 0,.int .i64 0,.int .i64 0,.string ⟨#[]⟩,.slice none 0 0,.slice none 0 0,.slice none 0 0,.slice none 0 0] V2):=by show Bx _ _ _; rw [hV2,hsbs]; exact Bx.new wh [.int .i64 0,.int .i64 p,.string ⟨#[]⟩,.string ⟨#[]⟩,.int .i64 0,.int .i64 0,.int .i64 0,.string ⟨#[]⟩,.slice none 0 0,.slice none 0 0,.slice none 0 0,.slice none 0 0] 55
  replace HBa : Hx (Bx ba [.int .i64 0,.int .i64 0,.string ⟨#[]⟩,.string ⟨#[]⟩,.int .i64 0,.int .i64 0,.int .i64 0,.string ⟨#[]⟩,.slice none 0 0,.slice none 0 0,.slice none 0 0,.slice none 0 0] V2):=by show Bx _ _ _; rw [hV2]; exact HBa.o.over (bA _ _)
  replace HD : Hx (Rd rb tv ts en w (n) V2):=by show Rd _ _ _ _ _ _ _; rw [hV2]; exact HD.o.over (bA _ _)
  have KT:=hide (takes_f (x:=⟨#[105,102]⟩) rfl _ HD.o.st hq0)
  go_wp2_with fail
  rw [← hV2,← hbs]
  clear hsbs
  clear hbs hV2
  refine KT.o.mono ?_
  rintro e w3 ⟨rfl,hg,hs⟩
  replace HBa:=hide (HBa.o.keep hg (by have:=HD.o.rlt; have:=HLa.o; omega))
  replace HBs:=hide (HBs.o.keep hg (by have:=HD.o.rlt; have:=HLs.o; omega))
  replace HD : Hx (Rd rb tv ts en w (n) w3):=HD.o.call hg hs
  clear hg hs
  clear KT
  have KT:=hide (takes_f (x:=⟨#[119,104,105,108,101]⟩) rfl _ HD.o.st hq1)
  go_wp2_with fail
  refine KT.o.mono ?_
  rintro e w4 ⟨rfl,hg,hs⟩
  replace HBa:=hide (HBa.o.keep hg (by have:=HD.o.rlt; have:=HLa.o; omega))
  replace HBs:=hide (HBs.o.keep hg (by have:=HD.o.rlt; have:=HLs.o; omega))
  replace HD : Hx (Rd rb tv ts en w (n) w4):=HD.o.call hg hs
  clear hg hs
  clear KT
  have KT:=hide (takes_f (x:=⟨#[103,101,116]⟩) rfl _ HD.o.st hq2)
  go_wp2_with fail
  refine KT.o.mono ?_
  rintro e w5 ⟨rfl,hg,hs⟩
  replace HBa:=hide (HBa.o.keep hg (by have:=HD.o.rlt; have:=HLa.o; omega))
  replace HBs:=hide (HBs.o.keep hg (by have:=HD.o.rlt; have:=HLs.o; omega))
  replace HD : Hx (Rd rb tv ts en w (n) w5):=HD.o.call hg hs
  clear hg hs
  clear KT
  have KT:=hide (takes_f (x:=⟨#[112,117,116]⟩) rfl _ HD.o.st hq3)
  go_wp2_with fail
  refine KT.o.mono ?_
  rintro e w6 ⟨rfl,hg,hs⟩
  replace HBa:=hide (HBa.o.keep hg (by have:=HD.o.rlt; have:=HLa.o; omega))
  replace HBs:=hide (HBs.o.keep hg (by have:=HD.o.rlt; have:=HLs.o; omega))
  replace HD : Hx (Rd rb tv ts en w (n) w6):=HD.o.call hg hs
  clear hg hs
  clear KT
  have KT:=hide (takes_t (x:=⟨#[114,101,118,101,97,108]⟩) rfl (by decide) _ HD.o.st hq4)
  go_wp2_with fail
  refine KT.o.mono ?_
  rintro e w7 ⟨rfl,hg,hs⟩
  replace HBa:=hide (HBa.o.keep hg (by have:=HD.o.rlt; have:=HLa.o; omega))
  replace HBs:=hide (HBs.o.keep hg (by have:=HD.o.rlt; have:=HLs.o; omega))
  replace HD : Hx (Rd rb tv ts en w (n + 1) w7):=HD.o.call hg hs
  clear hg hs
  clear KT
  have K1:=hide (name_c (n + 1) _ HD.o.st)
  go_wp2_with fail
  refine K1.o.mono ?_
  rintro e w8 hpo
  obtain ⟨m,ho⟩ | ⟨x,n1,ho⟩:=res_cases (pName ts (n + 1))
  · replace hpo : PostC ts en (pName ts (n + 1)) _ _ e w8:=hpo
    rw [ho] at hpo
    obtain ⟨rfl,hg⟩:=hpo
    have HO : Hx (res = .inr m):=by show _ = _; rw [HRP.o,ho]; rfl
    have HG:=hide (grownBy_trans HD.o.gr hg)
    clear hg ho
    unfold gaveUpAt
    go_wp2_with fail
    refine ⟨rfl,?_⟩
    rw [HO.o]
    exact ⟨rfl,HG.o⟩
  replace hpo : PostC ts en (pName ts (n + 1)) _ _ e w8:=hpo
  rw [ho] at hpo
  obtain ⟨rfl,hg,hs⟩:=hpo
  have hr:=HRP.o
  rw [ho,bindR_inl] at hr
  replace HRP:=hide hr
  have HOO:=hide ho
  clear hr ho
  have HNn1:=hide (pName_lt HOO.o)
  clear K1
  clear HOO
  replace HBa:=hide (HBa.o.keep hg (by have:=HD.o.rlt; have:=HLa.o; omega))
  replace HBs:=hide (HBs.o.keep hg (by have:=HD.o.rlt; have:=HLs.o; omega))
  replace HD : Hx (Rd rb tv ts en w (n1) w8):=HD.o.call hg hs
  clear hg hs
  have K2:=hide (expr_c hall (n1) _ HD.o.st)
  go_wp2_with fail
  obtain ⟨z,hz⟩:=nm w8.heap.size
  have HWz : Hx (w.heap.size≤z):=by show _≤_; rw [hz]; exact HD.o.size
  have HZza : Hx (ba < z):=by show _ < _; rw [hz]; exact HBa.o.lt
  have HZzs : Hx (bs < z):=by show _ < _; rw [hz]; exact HBs.o.lt
  refine K2.o.mono ?_
  rintro e w9 hpo
  obtain ⟨m,ho⟩ | ⟨ed,n2,ho⟩:=res_cases (pX ts en (n1))
  · replace hpo : PostC ts en (pX ts en (n1)) _ _ e w9:=hpo
    rw [ho] at hpo
    obtain ⟨rfl,hg⟩:=hpo
    have HO : Hx (res = .inr m):=by show _ = _; rw [HRP.o,ho]; rfl
    have HG:=hide (grownBy_trans HD.o.gr hg)
    clear hg ho
    unfold gaveUpAt
    go_wp2_with fail
    refine ⟨rfl,?_⟩
    rw [HO.o]
    exact ⟨rfl,HG.o⟩
  replace hpo : PostC ts en (pX ts en (n1)) _ _ e w9:=hpo
  rw [ho] at hpo
  obtain ⟨e0,e1,e2,e3,q0,q1,q2,rfl,hoff,-,-,hg,hs⟩:=hpo
  have hr:=HRP.o
  rw [ho,bindR_inl] at hr
  replace HRP:=hide hr
  have HOO:=hide ho
  clear hr ho
  rw [← hz] at hoff
  have HOFF:=hide hoff
  have HNn2:=hide (pX_lt HOO.o)
  clear hoff hz K2
  clear HOO
  replace HBa:=hide (HBa.o.keep hg (by have:=HD.o.rlt; have:=HLa.o; omega))
  replace HBs:=hide (HBs.o.keep hg (by have:=HD.o.rlt; have:=HLs.o; omega))
  replace HD : Hx (Rd rb tv ts en w (n2) w9):=HD.o.call hg hs
  clear hg hs
  obtain ⟨cs0,cs1,cs2,cs3,cs4,cs5,cs6,cs7,cs8,cs9,cs10,cs11⟩:=rc12 HBs.o.row
  have fs0:=HBs.o.fz 0
  have fs1:=HBs.o.fz 1
  have fs2:=HBs.o.fz 2
  have fs3:=HBs.o.fz 3
  have fs4:=HBs.o.fz 4
  have fs5:=HBs.o.fz 5
  have fs6:=HBs.o.fz 6
  have fs7:=HBs.o.fz 7
  have fs8:=HBs.o.fz 8
  have fs9:=HBs.o.fz 9
  have fs10:=HBs.o.fz 10
  have fs11:=HBs.o.fz 11
  obtain ⟨V10,hV10⟩:=nm (w9.setCell ⟨bs,0,none⟩ (.int .i64 5))
  replace HBs : Hx (Bx bs [.int .i64 5,.int .i64 p,.string ⟨#[]⟩,.string ⟨#[]⟩,.int .i64 0,.int .i64 0,.int .i64 0,.string ⟨#[]⟩,.slice none 0 0,.slice none 0 0,.slice none 0 0,.slice none 0 0] V10):=by show Bx _ _ _; rw [hV10]; exact HBs.o.set (j:=0) (by simp)
  replace HBa : Hx (Bx ba [.int .i64 0,.int .i64 0,.string ⟨#[]⟩,.string ⟨#[]⟩,.int .i64 0,.int .i64 0,.int .i64 0,.string ⟨#[]⟩,.slice none 0 0,.slice none 0 0,.slice none 0 0,.slice none 0 0] V10):=by show Bx _ _ _; rw [hV10]; exact HBa.o.far (by have:=HLas.o; omega)
  replace HD : Hx (Rd rb tv ts en w (n2) V10):=by show Rd _ _ _ _ _ _ _; rw [hV10]; exact HD.o.set (by exact HLs.o)
  replace HOFF : Hx (Off z none V10 (fun W => XE W 61 [.int .i64 e0,.int .i64 e1,.int .i64 e2,.string e3,.slice q0 q1 q2] ed)):=by show Off _ _ _ _; rw [hV10]; exact HOFF.o.set HZzs.o
  obtain ⟨V11,hV11⟩:=nm (V10.setCell ⟨bs,2,none⟩ (.string x))
  replace HBs : Hx (Bx bs [.int .i64 5,.int .i64 p,.string x,.string ⟨#[]⟩,.int .i64 0,.int .i64 0,.int .i64 0,.string ⟨#[]⟩,.slice none 0 0,.slice none 0 0,.slice none 0 0,.slice none 0 0] V11):=by show Bx _ _ _; rw [hV11]; exact HBs.o.set (j:=2) (by simp)
  replace HBa : Hx (Bx ba [.int .i64 0,.int .i64 0,.string ⟨#[]⟩,.string ⟨#[]⟩,.int .i64 0,.int .i64 0,.int .i64 0,.string ⟨#[]⟩,.slice none 0 0,.slice none 0 0,.slice none 0 0,.slice none 0 0] V11):=by show Bx _ _ _; rw [hV11]; exact HBa.o.far (by have:=HLas.o; omega)
  replace HD : Hx (Rd rb tv ts en w (n2) V11):=by show Rd _ _ _ _ _ _ _; rw [hV11]; exact HD.o.set (by exact HLs.o)
  replace HOFF : Hx (Off z none V11 (fun W => XE W 61 [.int .i64 e0,.int .i64 e1,.int .i64 e2,.string e3,.slice q0 q1 q2] ed)):=by show Off _ _ _ _; rw [hV11]; exact HOFF.o.set HZzs.o
  obtain ⟨V12,hV12⟩:=nm (V11.setCell ⟨bs,4,none⟩ (.int .i64 e0))
  replace HBs : Hx (Bx bs [.int .i64 5,.int .i64 p,.string x,.string ⟨#[]⟩,.int .i64 e0,.int .i64 0,.int .i64 0,.string ⟨#[]⟩,.slice none 0 0,.slice none 0 0,.slice none 0 0,.slice none 0 0] V12):=by show Bx _ _ _; rw [hV12]; exact HBs.o.set (j:=4) (by simp)
  replace HBa : Hx (Bx ba [.int .i64 0,.int .i64 0,.string ⟨#[]⟩,.string ⟨#[]⟩,.int .i64 0,.int .i64 0,.int .i64 0,.string ⟨#[]⟩,.slice none 0 0,.slice none 0 0,.slice none 0 0,.slice none 0 0] V12):=by show Bx _ _ _; rw [hV12]; exact HBa.o.far (by have:=HLas.o; omega)
  replace HD : Hx (Rd rb tv ts en w (n2) V12):=by show Rd _ _ _ _ _ _ _; rw [hV12]; exact HD.o.set (by exact HLs.o)
  replace HOFF : Hx (Off z none V12 (fun W => XE W 61 [.int .i64 e0,.int .i64 e1,.int .i64 e2,.string e3,.slice q0 q1 q2] ed)):=by show Off _ _ _ _; rw [hV12]; exact HOFF.o.set HZzs.o
  obtain ⟨V13,hV13⟩:=nm (V12.setCell ⟨bs,5,none⟩ (.int .i64 e1))
  replace HBs : Hx (Bx bs [.int .i64 5,.int .i64 p,.string x,.string ⟨#[]⟩,.int .i64 e0,.int .i64 e1,.int .i64 0,.string ⟨#[]⟩,.slice none 0 0,.slice none 0 0,.slice none 0 0,.slice none 0 0] V13):=by show Bx _ _ _; rw [hV13]; exact HBs.o.set (j:=5) (by simp)
  replace HBa : Hx (Bx ba [.int .i64 0,.int .i64 0,.string ⟨#[]⟩,.string ⟨#[]⟩,.int .i64 0,.int .i64 0,.int .i64 0,.string ⟨#[]⟩,.slice none 0 0,.slice none 0 0,.slice none 0 0,.slice none 0 0] V13):=by show Bx _ _ _; rw [hV13]; exact HBa.o.far (by have:=HLas.o; omega)
  replace HD : Hx (Rd rb tv ts en w (n2) V13):=by show Rd _ _ _ _ _ _ _; rw [hV13]; exact HD.o.set (by exact HLs.o)
  replace HOFF : Hx (Off z none V13 (fun W => XE W 61 [.int .i64 e0,.int .i64 e1,.int .i64 e2,.string e3,.slice q0 q1 q2] ed)):=by show Off _ _ _ _; rw [hV13]; exact HOFF.o.set HZzs.o
  obtain ⟨V14,hV14⟩:=nm (V13.setCell ⟨bs,6,none⟩ (.int .i64 e2))
  replace HBs : Hx (Bx bs [.int .i64 5,.int .i64 p,.string x,.string ⟨#[]⟩,.int .i64 e0,.int .i64 e1,.int .i64 e2,.string ⟨#[]⟩,.slice none 0 0,.slice none 0 0,.slice none 0 0,.slice none 0 0] V14):=by show Bx _ _ _; rw [hV14]; exact HBs.o.set (j:=6) (by simp)
  replace HBa : Hx (Bx ba [.int .i64 0,.int .i64 0,.string ⟨#[]⟩,.string ⟨#[]⟩,.int .i64 0,.int .i64 0,.int .i64 0,.string ⟨#[]⟩,.slice none 0 0,.slice none 0 0,.slice none 0 0,.slice none 0 0] V14):=by show Bx _ _ _; rw [hV14]; exact HBa.o.far (by have:=HLas.o; omega)
  replace HD : Hx (Rd rb tv ts en w (n2) V14):=by show Rd _ _ _ _ _ _ _; rw [hV14]; exact HD.o.set (by exact HLs.o)
  replace HOFF : Hx (Off z none V14 (fun W => XE W 61 [.int .i64 e0,.int .i64 e1,.int .i64 e2,.string e3,.slice q0 q1 q2] ed)):=by show Off _ _ _ _; rw [hV14]; exact HOFF.o.set HZzs.o
  obtain ⟨V15,hV15⟩:=nm (V14.setCell ⟨bs,7,none⟩ (.string e3))
  replace HBs : Hx (Bx bs [.int .i64 5,.int .i64 p,.string x,.string ⟨#[]⟩,.int .i64 e0,.int .i64 e1,.int .i64 e2,.string e3,.slice none 0 0,.slice none 0 0,.slice none 0 0,.slice none 0 0] V15):=by show Bx _ _ _; rw [hV15]; exact HBs.o.set (j:=7) (by simp)
  replace HBa : Hx (Bx ba [.int .i64 0,.int .i64 0,.string ⟨#[]⟩,.string ⟨#[]⟩,.int .i64 0,.int .i64 0,.int .i64 0,.string ⟨#[]⟩,.slice none 0 0,.slice none 0 0,.slice none 0 0,.slice none 0 0] V15):=by show Bx _ _ _; rw [hV15]; exact HBa.o.far (by have:=HLas.o; omega)
  replace HD : Hx (Rd rb tv ts en w (n2) V15):=by show Rd _ _ _ _ _ _ _; rw [hV15]; exact HD.o.set (by exact HLs.o)
  replace HOFF : Hx (Off z none V15 (fun W => XE W 61 [.int .i64 e0,.int .i64 e1,.int .i64 e2,.string e3,.slice q0 q1 q2] ed)):=by show Off _ _ _ _; rw [hV15]; exact HOFF.o.set HZzs.o
  obtain ⟨V16,hV16⟩:=nm (V15.setCell ⟨bs,8,none⟩ (.slice q0 q1 q2))
  replace HBs : Hx (Bx bs [.int .i64 5,.int .i64 p,.string x,.string ⟨#[]⟩,.int .i64 e0,.int .i64 e1,.int .i64 e2,.string e3,.slice q0 q1 q2,.slice none 0 0,.slice none 0 0,.slice none 0 0] V16):=by show Bx _ _ _; rw [hV16]; exact HBs.o.set (j:=8) (by simp)
  replace HBa : Hx (Bx ba [.int .i64 0,.int .i64 0,.string ⟨#[]⟩,.string ⟨#[]⟩,.int .i64 0,.int .i64 0,.int .i64 0,.string ⟨#[]⟩,.slice none 0 0,.slice none 0 0,.slice none 0 0,.slice none 0 0] V16):=by show Bx _ _ _; rw [hV16]; exact HBa.o.far (by have:=HLas.o; omega)
  replace HD : Hx (Rd rb tv ts en w (n2) V16):=by show Rd _ _ _ _ _ _ _; rw [hV16]; exact HD.o.set (by exact HLs.o)
  replace HOFF : Hx (Off z none V16 (fun W => XE W 61 [.int .i64 e0,.int .i64 e1,.int .i64 e2,.string e3,.slice q0 q1 q2] ed)):=by show Off _ _ _ _; rw [hV16]; exact HOFF.o.set HZzs.o
  have K3:=hide (take_c ⟨#[59]⟩ (by decide) n2 _ HD.o.st)
  go_wp2_with fail
  rw [← hV10,← hV11,← hV12,← hV13,← hV14,← hV15,← hV16]
  clear fs11 fs10 fs9 fs8 fs7 fs6 fs5 fs4 fs3 fs2 fs1 fs0 cs11 cs10 cs9 cs8 cs7 cs6 cs5 cs4 cs3 cs2 cs1 cs0
  clear hV16 hV15 hV14 hV13 hV12 hV11 hV10
  refine K3.o.mono ?_
  rintro e w17 hpo
  obtain ⟨m,ho⟩ | ⟨_u,n3,ho⟩:=res_cases (pTake ts [59] n2)
  · replace hpo : PostC ts en (pTake ts [59] n2) _ _ e w17:=hpo
    rw [ho] at hpo
    obtain ⟨rfl,hg⟩:=hpo
    have HO : Hx (res = .inr m):=by show _ = _; rw [HRP.o,ho]; rfl
    have HG:=hide (grownBy_trans HD.o.gr hg)
    clear hg ho
    unfold gaveUpAt
    go_wp2_with fail
    refine ⟨rfl,?_⟩
    rw [HO.o]
    exact ⟨rfl,HG.o⟩
  replace hpo : PostC ts en (pTake ts [59] n2) _ _ e w17:=hpo
  rw [ho] at hpo
  obtain ⟨rfl,hg,hs⟩:=hpo
  have hr:=HRP.o
  rw [ho,bindR_inl] at hr
  replace HRP:=hide hr
  have HOO:=hide ho
  clear hr ho
  clear HOO
  replace HBa:=hide (HBa.o.keep hg (by have:=HD.o.rlt; have:=HLa.o; omega))
  replace HBs:=hide (HBs.o.keep hg (by have:=HD.o.rlt; have:=HLs.o; omega))
  replace HOFF:=hide (HOFF.o.keep hg (by have:=HD.o.rlt; have:=HWz.o; omega))
  replace HD : Hx (Rd rb tv ts en w (n3) w17):=HD.o.call hg hs
  clear hg hs
  have neas : ba≠bs:=by have:=HLas.o; omega
  have nesa : bs≠ba:=by have:=HLas.o; omega
  obtain ⟨ca0,ca1,ca2,ca3,ca4,ca5,ca6,ca7,ca8,ca9,ca10,ca11⟩:=rc12 HBa.o.row
  have fa0:=HBa.o.fz 0
  have fa1:=HBa.o.fz 1
  have fa2:=HBa.o.fz 2
  have fa3:=HBa.o.fz 3
  have fa4:=HBa.o.fz 4
  have fa5:=HBa.o.fz 5
  have fa6:=HBa.o.fz 6
  have fa7:=HBa.o.fz 7
  have fa8:=HBa.o.fz 8
  have fa9:=HBa.o.fz 9
  have fa10:=HBa.o.fz 10
  have fa11:=HBa.o.fz 11
  obtain ⟨cs0,cs1,cs2,cs3,cs4,cs5,cs6,cs7,cs8,cs9,cs10,cs11⟩:=rc12 HBs.o.row
  have fs0:=HBs.o.fz 0
  have fs1:=HBs.o.fz 1
  have fs2:=HBs.o.fz 2
  have fs3:=HBs.o.fz 3
  have fs4:=HBs.o.fz 4
  have fs5:=HBs.o.fz 5
  have fs6:=HBs.o.fz 6
  have fs7:=HBs.o.fz 7
  have fs8:=HBs.o.fz 8
  have fs9:=HBs.o.fz 9
  have fs10:=HBs.o.fz 10
  have fs11:=HBs.o.fz 11
  obtain ⟨V18,hV18⟩:=nm (w17.setCell ⟨ba,0,none⟩ (.int .i64 5))
  replace HBa : Hx (Bx ba [.int .i64 5,.int .i64 0,.string ⟨#[]⟩,.string ⟨#[]⟩,.int .i64 0,.int .i64 0,.int .i64 0,.string ⟨#[]⟩,.slice none 0 0,.slice none 0 0,.slice none 0 0,.slice none 0 0] V18):=by show Bx _ _ _; rw [hV18]; exact HBa.o.set (j:=0) (by simp)
  replace HBs : Hx (Bx bs [.int .i64 5,.int .i64 p,.string x,.string ⟨#[]⟩,.int .i64 e0,.int .i64 e1,.int .i64 e2,.string e3,.slice q0 q1 q2,.slice none 0 0,.slice none 0 0,.slice none 0 0] V18):=by show Bx _ _ _; rw [hV18]; exact HBs.o.far (by have:=HLas.o; omega)
  replace HD : Hx (Rd rb tv ts en w (n3) V18):=by show Rd _ _ _ _ _ _ _; rw [hV18]; exact HD.o.set (by exact HLa.o)
  replace HOFF : Hx (Off z none V18 (fun W => XE W 61 [.int .i64 e0,.int .i64 e1,.int .i64 e2,.string e3,.slice q0 q1 q2] ed)):=by show Off _ _ _ _; rw [hV18]; exact HOFF.o.set HZza.o
  obtain ⟨V19,hV19⟩:=nm (V18.setCell ⟨ba,1,none⟩ (.int .i64 p))
  replace HBa : Hx (Bx ba [.int .i64 5,.int .i64 p,.string ⟨#[]⟩,.string ⟨#[]⟩,.int .i64 0,.int .i64 0,.int .i64 0,.string ⟨#[]⟩,.slice none 0 0,.slice none 0 0,.slice none 0 0,.slice none 0 0] V19):=by show Bx _ _ _; rw [hV19]; exact HBa.o.set (j:=1) (by simp)
  replace HBs : Hx (Bx bs [.int .i64 5,.int .i64 p,.string x,.string ⟨#[]⟩,.int .i64 e0,.int .i64 e1,.int .i64 e2,.string e3,.slice q0 q1 q2,.slice none 0 0,.slice none 0 0,.slice none 0 0] V19):=by show Bx _ _ _; rw [hV19]; exact HBs.o.far (by have:=HLas.o; omega)
  replace HD : Hx (Rd rb tv ts en w (n3) V19):=by show Rd _ _ _ _ _ _ _; rw [hV19]; exact HD.o.set (by exact HLa.o)
  replace HOFF : Hx (Off z none V19 (fun W => XE W 61 [.int .i64 e0,.int .i64 e1,.int .i64 e2,.string e3,.slice q0 q1 q2] ed)):=by show Off _ _ _ _; rw [hV19]; exact HOFF.o.set HZza.o
  obtain ⟨V20,hV20⟩:=nm (V19.setCell ⟨ba,2,none⟩ (.string x))
  replace HBa : Hx (Bx ba [.int .i64 5,.int .i64 p,.string x,.string ⟨#[]⟩,.int .i64 0,.int .i64 0,.int .i64 0,.string ⟨#[]⟩,.slice none 0 0,.slice none 0 0,.slice none 0 0,.slice none 0 0] V20):=by show Bx _ _ _; rw [hV20]; exact HBa.o.set (j:=2) (by simp)
  replace HBs : Hx (Bx bs [.int .i64 5,.int .i64 p,.string x,.string ⟨#[]⟩,.int .i64 e0,.int .i64 e1,.int .i64 e2,.string e3,.slice q0 q1 q2,.slice none 0 0,.slice none 0 0,.slice none 0 0] V20):=by show Bx _ _ _; rw [hV20]; exact HBs.o.far (by have:=HLas.o; omega)
  replace HD : Hx (Rd rb tv ts en w (n3) V20):=by show Rd _ _ _ _ _ _ _; rw [hV20]; exact HD.o.set (by exact HLa.o)
  replace HOFF : Hx (Off z none V20 (fun W => XE W 61 [.int .i64 e0,.int .i64 e1,.int .i64 e2,.string e3,.slice q0 q1 q2] ed)):=by show Off _ _ _ _; rw [hV20]; exact HOFF.o.set HZza.o
  obtain ⟨V21,hV21⟩:=nm (V20.setCell ⟨ba,3,none⟩ (.string ⟨#[]⟩))
  replace HBa : Hx (Bx ba [.int .i64 5,.int .i64 p,.string x,.string ⟨#[]⟩,.int .i64 0,.int .i64 0,.int .i64 0,.string ⟨#[]⟩,.slice none 0 0,.slice none 0 0,.slice none 0 0,.slice none 0 0] V21):=by show Bx _ _ _; rw [hV21]; exact HBa.o.set (j:=3) (by simp)
  replace HBs : Hx (Bx bs [.int .i64 5,.int .i64 p,.string x,.string ⟨#[]⟩,.int .i64 e0,.int .i64 e1,.int .i64 e2,.string e3,.slice q0 q1 q2,.slice none 0 0,.slice none 0 0,.slice none 0 0] V21):=by show Bx _ _ _; rw [hV21]; exact HBs.o.far (by have:=HLas.o; omega)
  replace HD : Hx (Rd rb tv ts en w (n3) V21):=by show Rd _ _ _ _ _ _ _; rw [hV21]; exact HD.o.set (by exact HLa.o)
  replace HOFF : Hx (Off z none V21 (fun W => XE W 61 [.int .i64 e0,.int .i64 e1,.int .i64 e2,.string e3,.slice q0 q1 q2] ed)):=by show Off _ _ _ _; rw [hV21]; exact HOFF.o.set HZza.o
  obtain ⟨V22,hV22⟩:=nm (V21.setCell ⟨ba,4,none⟩ (.int .i64 e0))
  replace HBa : Hx (Bx ba [.int .i64 5,.int .i64 p,.string x,.string ⟨#[]⟩,.int .i64 e0,.int .i64 0,.int .i64 0,.string ⟨#[]⟩,.slice none 0 0,.slice none 0 0,.slice none 0 0,.slice none 0 0] V22):=by show Bx _ _ _; rw [hV22]; exact HBa.o.set (j:=4) (by simp)
  replace HBs : Hx (Bx bs [.int .i64 5,.int .i64 p,.string x,.string ⟨#[]⟩,.int .i64 e0,.int .i64 e1,.int .i64 e2,.string e3,.slice q0 q1 q2,.slice none 0 0,.slice none 0 0,.slice none 0 0] V22):=by show Bx _ _ _; rw [hV22]; exact HBs.o.far (by have:=HLas.o; omega)
  replace HD : Hx (Rd rb tv ts en w (n3) V22):=by show Rd _ _ _ _ _ _ _; rw [hV22]; exact HD.o.set (by exact HLa.o)
  replace HOFF : Hx (Off z none V22 (fun W => XE W 61 [.int .i64 e0,.int .i64 e1,.int .i64 e2,.string e3,.slice q0 q1 q2] ed)):=by show Off _ _ _ _; rw [hV22]; exact HOFF.o.set HZza.o
  obtain ⟨V23,hV23⟩:=nm (V22.setCell ⟨ba,5,none⟩ (.int .i64 e1))
  replace HBa : Hx (Bx ba [.int .i64 5,.int .i64 p,.string x,.string ⟨#[]⟩,.int .i64 e0,.int .i64 e1,.int .i64 0,.string ⟨#[]⟩,.slice none 0 0,.slice none 0 0,.slice none 0 0,.slice none 0 0] V23):=by show Bx _ _ _; rw [hV23]; exact HBa.o.set (j:=5) (by simp)
  replace HBs : Hx (Bx bs [.int .i64 5,.int .i64 p,.string x,.string ⟨#[]⟩,.int .i64 e0,.int .i64 e1,.int .i64 e2,.string e3,.slice q0 q1 q2,.slice none 0 0,.slice none 0 0,.slice none 0 0] V23):=by show Bx _ _ _; rw [hV23]; exact HBs.o.far (by have:=HLas.o; omega)
  replace HD : Hx (Rd rb tv ts en w (n3) V23):=by show Rd _ _ _ _ _ _ _; rw [hV23]; exact HD.o.set (by exact HLa.o)
  replace HOFF : Hx (Off z none V23 (fun W => XE W 61 [.int .i64 e0,.int .i64 e1,.int .i64 e2,.string e3,.slice q0 q1 q2] ed)):=by show Off _ _ _ _; rw [hV23]; exact HOFF.o.set HZza.o
  obtain ⟨V24,hV24⟩:=nm (V23.setCell ⟨ba,6,none⟩ (.int .i64 e2))
  replace HBa : Hx (Bx ba [.int .i64 5,.int .i64 p,.string x,.string ⟨#[]⟩,.int .i64 e0,.int .i64 e1,.int .i64 e2,.string ⟨#[]⟩,.slice none 0 0,.slice none 0 0,.slice none 0 0,.slice none 0 0] V24):=by show Bx _ _ _; rw [hV24]; exact HBa.o.set (j:=6) (by simp)
  replace HBs : Hx (Bx bs [.int .i64 5,.int .i64 p,.string x,.string ⟨#[]⟩,.int .i64 e0,.int .i64 e1,.int .i64 e2,.string e3,.slice q0 q1 q2,.slice none 0 0,.slice none 0 0,.slice none 0 0] V24):=by show Bx _ _ _; rw [hV24]; exact HBs.o.far (by have:=HLas.o; omega)
  replace HD : Hx (Rd rb tv ts en w (n3) V24):=by show Rd _ _ _ _ _ _ _; rw [hV24]; exact HD.o.set (by exact HLa.o)
  replace HOFF : Hx (Off z none V24 (fun W => XE W 61 [.int .i64 e0,.int .i64 e1,.int .i64 e2,.string e3,.slice q0 q1 q2] ed)):=by show Off _ _ _ _; rw [hV24]; exact HOFF.o.set HZza.o
  obtain ⟨V25,hV25⟩:=nm (V24.setCell ⟨ba,7,none⟩ (.string e3))
  replace HBa : Hx (Bx ba [.int .i64 5,.int .i64 p,.string x,.string ⟨#[]⟩,.int .i64 e0,.int .i64 e1,.int .i64 e2,.string e3,.slice none 0 0,.slice none 0 0,.slice none 0 0,.slice none 0 0] V25):=by show Bx _ _ _; rw [hV25]; exact HBa.o.set (j:=7) (by simp)
  replace HBs : Hx (Bx bs [.int .i64 5,.int .i64 p,.string x,.string ⟨#[]⟩,.int .i64 e0,.int .i64 e1,.int .i64 e2,.string e3,.slice q0 q1 q2,.slice none 0 0,.slice none 0 0,.slice none 0 0] V25):=by show Bx _ _ _; rw [hV25]; exact HBs.o.far (by have:=HLas.o; omega)
  replace HD : Hx (Rd rb tv ts en w (n3) V25):=by show Rd _ _ _ _ _ _ _; rw [hV25]; exact HD.o.set (by exact HLa.o)
  replace HOFF : Hx (Off z none V25 (fun W => XE W 61 [.int .i64 e0,.int .i64 e1,.int .i64 e2,.string e3,.slice q0 q1 q2] ed)):=by show Off _ _ _ _; rw [hV25]; exact HOFF.o.set HZza.o
  obtain ⟨V26,hV26⟩:=nm (V25.setCell ⟨ba,8,none⟩ (.slice q0 q1 q2))
  replace HBa : Hx (Bx ba [.int .i64 5,.int .i64 p,.string x,.string ⟨#[]⟩,.int .i64 e0,.int .i64 e1,.int .i64 e2,.string e3,.slice q0 q1 q2,.slice none 0 0,.slice none 0 0,.slice none 0 0] V26):=by show Bx _ _ _; rw [hV26]; exact HBa.o.set (j:=8) (by simp)
  replace HBs : Hx (Bx bs [.int .i64 5,.int .i64 p,.string x,.string ⟨#[]⟩,.int .i64 e0,.int .i64 e1,.int .i64 e2,.string e3,.slice q0 q1 q2,.slice none 0 0,.slice none 0 0,.slice none 0 0] V26):=by show Bx _ _ _; rw [hV26]; exact HBs.o.far (by have:=HLas.o; omega)
  replace HD : Hx (Rd rb tv ts en w (n3) V26):=by show Rd _ _ _ _ _ _ _; rw [hV26]; exact HD.o.set (by exact HLa.o)
  replace HOFF : Hx (Off z none V26 (fun W => XE W 61 [.int .i64 e0,.int .i64 e1,.int .i64 e2,.string e3,.slice q0 q1 q2] ed)):=by show Off _ _ _ _; rw [hV26]; exact HOFF.o.set HZza.o
  obtain ⟨V27,hV27⟩:=nm (V26.setCell ⟨ba,9,none⟩ (.slice none 0 0))
  replace HBa : Hx (Bx ba [.int .i64 5,.int .i64 p,.string x,.string ⟨#[]⟩,.int .i64 e0,.int .i64 e1,.int .i64 e2,.string e3,.slice q0 q1 q2,.slice none 0 0,.slice none 0 0,.slice none 0 0] V27):=by show Bx _ _ _; rw [hV27]; exact HBa.o.set (j:=9) (by simp)
  replace HBs : Hx (Bx bs [.int .i64 5,.int .i64 p,.string x,.string ⟨#[]⟩,.int .i64 e0,.int .i64 e1,.int .i64 e2,.string e3,.slice q0 q1 q2,.slice none 0 0,.slice none 0 0,.slice none 0 0] V27):=by show Bx _ _ _; rw [hV27]; exact HBs.o.far (by have:=HLas.o; omega)
  replace HD : Hx (Rd rb tv ts en w (n3) V27):=by show Rd _ _ _ _ _ _ _; rw [hV27]; exact HD.o.set (by exact HLa.o)
  replace HOFF : Hx (Off z none V27 (fun W => XE W 61 [.int .i64 e0,.int .i64 e1,.int .i64 e2,.string e3,.slice q0 q1 q2] ed)):=by show Off _ _ _ _; rw [hV27]; exact HOFF.o.set HZza.o
  obtain ⟨V28,hV28⟩:=nm (V27.setCell ⟨ba,10,none⟩ (.slice none 0 0))
  replace HBa : Hx (Bx ba [.int .i64 5,.int .i64 p,.string x,.string ⟨#[]⟩,.int .i64 e0,.int .i64 e1,.int .i64 e2,.string e3,.slice q0 q1 q2,.slice none 0 0,.slice none 0 0,.slice none 0 0] V28):=by show Bx _ _ _; rw [hV28]; exact HBa.o.set (j:=10) (by simp)
  replace HBs : Hx (Bx bs [.int .i64 5,.int .i64 p,.string x,.string ⟨#[]⟩,.int .i64 e0,.int .i64 e1,.int .i64 e2,.string e3,.slice q0 q1 q2,.slice none 0 0,.slice none 0 0,.slice none 0 0] V28):=by show Bx _ _ _; rw [hV28]; exact HBs.o.far (by have:=HLas.o; omega)
  replace HD : Hx (Rd rb tv ts en w (n3) V28):=by show Rd _ _ _ _ _ _ _; rw [hV28]; exact HD.o.set (by exact HLa.o)
  replace HOFF : Hx (Off z none V28 (fun W => XE W 61 [.int .i64 e0,.int .i64 e1,.int .i64 e2,.string e3,.slice q0 q1 q2] ed)):=by show Off _ _ _ _; rw [hV28]; exact HOFF.o.set HZza.o
  obtain ⟨V29,hV29⟩:=nm (V28.setCell ⟨ba,11,none⟩ (.slice none 0 0))
  replace HBa : Hx (Bx ba [.int .i64 5,.int .i64 p,.string x,.string ⟨#[]⟩,.int .i64 e0,.int .i64 e1,.int .i64 e2,.string e3,.slice q0 q1 q2,.slice none 0 0,.slice none 0 0,.slice none 0 0] V29):=by show Bx _ _ _; rw [hV29]; exact HBa.o.set (j:=11) (by simp)
  replace HBs : Hx (Bx bs [.int .i64 5,.int .i64 p,.string x,.string ⟨#[]⟩,.int .i64 e0,.int .i64 e1,.int .i64 e2,.string e3,.slice q0 q1 q2,.slice none 0 0,.slice none 0 0,.slice none 0 0] V29):=by show Bx _ _ _; rw [hV29]; exact HBs.o.far (by have:=HLas.o; omega)
  replace HD : Hx (Rd rb tv ts en w (n3) V29):=by show Rd _ _ _ _ _ _ _; rw [hV29]; exact HD.o.set (by exact HLa.o)
  replace HOFF : Hx (Off z none V29 (fun W => XE W 61 [.int .i64 e0,.int .i64 e1,.int .i64 e2,.string e3,.slice q0 q1 q2] ed)):=by show Off _ _ _ _; rw [hV29]; exact HOFF.o.set HZza.o
  go_wp2_with fail
  refine bodyPost_ret (v:=.agg #[.int .i64 5,.int .i64 p,.string x,.string ⟨#[]⟩,.int .i64 e0,.int .i64 e1,.int .i64 e2,.string e3,.slice q0 q1 q2,.slice none 0 0,.slice none 0 0,.slice none 0 0]) (by simp [results,Tryz.results137,go_sem, *]) rfl ?_
  rw [← hV18,← hV19,← hV20,← hV21,← hV22,← hV23,← hV24,← hV25,← hV26,← hV27,← hV28,← hV29]
  have hlt:=HR0.o
  rw [HRP.o] at hlt
  have hlt2:=pStmt_lt hlt.symm
  rw [HRP.o]
  refine ⟨_,_,_,_,_,_,_,_,_,_,_,_,_,_,_,_,_,_,_,_,rfl,fun W hW => ?_,hlt2,HD.o.gr,HD.o.st⟩
  exact ⟨_,_,_,_,_,_,_,_,_,ed,_,[],_,[],_,[],rfl,rfl,(HOFF.o.base HWz.o) W hW,LS.nil,LS.nil,LS.nil⟩
set_option maxHeartbeats 8000000 in
set_option maxRecDepth 100000 in
theorem stmt_trust (hall : ts.all isAlone = true) {f : Nat} (hB : StmtsOk rb tv ts en f) (n : Nat) (w : World) (h : St rb tv ts en n w) (hf : 2 * (ts.length - n) + 1≤f + 1) (hq0 : isT ts n [105,102] = false) (hq1 : isT ts n [119,104,105,108,101] = false) (hq2 : isT ts n [103,101,116] = false) (hq3 : isT ts n [112,117,116] = false) (hq4 : isT ts n [114,101,118,101,97,108] = false) (hq5 : isT ts n [116,114,117,115,116] = true) :
    Calls Tryz.prog 137 #[.pointer (some ⟨rb,0,none⟩)] w (PostC ts en (pStmt ts en (f + 1) n) (StmtPost rb tv ts en (f + 1) n w) (fun w' => w.grownBy w' (some rb))):=by
  obtain ⟨res,hres⟩:=nm (pStmt ts en (f + 1) n)
  rw [← hres]
  have HR0:=hide hres
  have HRP : Hx (res = bindR (pName ts (n + 1)) fun a n1 => bindR (pX ts en n1) fun e n2 => bindR (pTake ts [59] n2) fun _ n3 => .inl (stD 6 (posn ts en n) a noS e [] [] [],n3)):=by show _ = _; rw [hres,show pStmt ts en (f + 1) n = pStmt1 ts en (pBlock ts (fun n => pStmts ts en f [] n)) n from rfl]; unfold pStmt1; rw [if_neg (show ¬ isT ts n [105,102] = true by rw [hq0]; simp)]; rw [if_neg (show ¬ isT ts n [119,104,105,108,101] = true by rw [hq1]; simp)]; rw [if_neg (show ¬ isT ts n [103,101,116] = true by rw [hq2]; simp)]; rw [if_neg (show ¬ isT ts n [112,117,116] = true by rw [hq3]; simp)]; rw [if_neg (show ¬ isT ts n [114,101,118,101,97,108] = true by rw [hq4]; simp)]; rw [if_pos hq5]; try rfl
  obtain ⟨p,hp⟩:=nm (posn ts en n)
  rw [← hp] at HRP
  have HP:=hide hp
  have HD:=hide (Rd.start h)
  have HS:=hide hB
  have HF:=hide hf
  clear hres hp h hB hf
  obtain ⟨V1,hV1⟩:=nm (w.alloc (.cells #[.int .i64 0,.int .i64 0,.string ⟨#[]⟩,.string ⟨#[]⟩,.int .i64 0,.int .i64 0,.int .i64 0,.string ⟨#[]⟩,.slice none 0 0,.slice none 0 0,.slice none 0 0,.slice none 0 0] 55))
  obtain ⟨ba,hba⟩:=nm w.heap.size
  have hsba:=hba
  have HLa : Hx (w.heap.size≤ba):=by show _≤_; rw [hsba]; exact HD.o.size
  have HBa : Hx (Bx ba [.int .i64 0,.int .i64 0,.string ⟨#[]⟩,.string ⟨#[]⟩,.int .i64 0,.int .i64 0,.int .i64 0,.string ⟨#[]⟩,.slice none 0 0,.slice none 0 0,.slice none 0 0,.slice none 0 0] V1):=by show Bx _ _ _; rw [hV1,hsba]; exact Bx.new w [.int .i64 0,.int .i64 0,.string ⟨#[]⟩,.string ⟨#[]⟩,.int .i64 0,.int .i64 0,.int .i64 0,.string ⟨#[]⟩,.slice none 0 0,.slice none 0 0,.slice none 0 0,.slice none 0 0] 55
  replace HD : Hx (Rd rb tv ts en w (n) V1):=by show Rd _ _ _ _ _ _ _; rw [hV1]; exact HD.o.over (bA _ _)
  have K0:=hide (here_c n _ HD.o.st)
  go_enter Tryz.func137,Tryz.ntmps137
  go_wp2_with fail
  rw [← hV1,← hba]
  clear hsba
  clear hba hV1
  refine K0.o.mono ?_
  rintro e wh ⟨rfl,hg,hs⟩
  rw [← HP.o]
  replace HBa:=hide (HBa.o.keep hg (by have:=HD.o.rlt; have:=HLa.o; omega))
  replace HD : Hx (Rd rb tv ts en w (n) wh):=HD.o.call hg hs
  clear hg hs
  clear K0
  obtain ⟨V2,hV2⟩:=nm (wh.alloc (.cells #[.int .i64 0,.int .i64 p,.string ⟨#[]⟩,.string ⟨#[]⟩,.int .i64 0,.int .i64 0,.int .i64 0,.string ⟨#[]⟩,.slice none 0 0,.slice none 0 0,.slice none 0 0,.slice none 0 0] 55))
  obtain ⟨bs,hbs⟩:=nm wh.heap.size
  have hsbs:=hbs
  have HLs : Hx (w.heap.size≤bs):=by show _≤_; rw [hsbs]; exact HD.o.size
  have HLas : Hx (ba < bs):=by show _ < _; rw [hsbs]; exact HBa.o.lt
  have HBs : Hx (Bx bs [.int .i64 0,.int .i64 p,.string ⟨#[]⟩,.string ⟨#[]⟩,.int .i64 0,.int .i64 0,.int .i64 0,.string ⟨#[]⟩,.slice none 0 0,.slice none 0 0,.slice none 0 0,.slice none 0 0] V2):=by show Bx _ _ _; rw [hV2,hsbs]; exact Bx.new wh [.int .i64 0,.int .i64 p,.string ⟨#[]⟩,.string ⟨#[]⟩,.int .i64 0,.int .i64 0,.int .i64 0,.string ⟨#[]⟩,.slice none 0 0,.slice none 0 0,.slice none 0 0,.slice none 0 0] 55
  replace HBa : Hx (Bx ba [.int .i64 0,.int .i64 0,.string ⟨#[]⟩,.string ⟨#[]⟩,.int .i64 0,.int .i64 0,.int .i64 0,.string ⟨#[]⟩,.slice none 0 0,.slice none 0 0,.slice none 0 0,.slice none 0 0] V2):=by show Bx _ _ _; rw [hV2]; exact HBa.o.over (bA _ _)
  replace HD : Hx (Rd rb tv ts en w (n) V2):=by show Rd _ _ _ _ _ _ _; rw [hV2]; exact HD.o.over (bA _ _)
  have KT:=hide (takes_f (x:=⟨#[105,102]⟩) rfl _ HD.o.st hq0)
  go_wp2_with fail
  rw [← hV2,← hbs]
  clear hsbs
  clear hbs hV2
  refine KT.o.mono ?_
  rintro e w3 ⟨rfl,hg,hs⟩
  replace HBa:=hide (HBa.o.keep hg (by have:=HD.o.rlt; have:=HLa.o; omega))
  replace HBs:=hide (HBs.o.keep hg (by have:=HD.o.rlt; have:=HLs.o; omega))
  replace HD : Hx (Rd rb tv ts en w (n) w3):=HD.o.call hg hs
  clear hg hs
  clear KT
  have KT:=hide (takes_f (x:=⟨#[119,104,105,108,101]⟩) rfl _ HD.o.st hq1)
  go_wp2_with fail
  refine KT.o.mono ?_
  rintro e w4 ⟨rfl,hg,hs⟩
  replace HBa:=hide (HBa.o.keep hg (by have:=HD.o.rlt; have:=HLa.o; omega))
  replace HBs:=hide (HBs.o.keep hg (by have:=HD.o.rlt; have:=HLs.o; omega))
  replace HD : Hx (Rd rb tv ts en w (n) w4):=HD.o.call hg hs
  clear hg hs
  clear KT
  have KT:=hide (takes_f (x:=⟨#[103,101,116]⟩) rfl _ HD.o.st hq2)
  go_wp2_with fail
  refine KT.o.mono ?_
  rintro e w5 ⟨rfl,hg,hs⟩
  replace HBa:=hide (HBa.o.keep hg (by have:=HD.o.rlt; have:=HLa.o; omega))
  replace HBs:=hide (HBs.o.keep hg (by have:=HD.o.rlt; have:=HLs.o; omega))
  replace HD : Hx (Rd rb tv ts en w (n) w5):=HD.o.call hg hs
  clear hg hs
  clear KT
  have KT:=hide (takes_f (x:=⟨#[112,117,116]⟩) rfl _ HD.o.st hq3)
  go_wp2_with fail
  refine KT.o.mono ?_
  rintro e w6 ⟨rfl,hg,hs⟩
  replace HBa:=hide (HBa.o.keep hg (by have:=HD.o.rlt; have:=HLa.o; omega))
  replace HBs:=hide (HBs.o.keep hg (by have:=HD.o.rlt; have:=HLs.o; omega))
  replace HD : Hx (Rd rb tv ts en w (n) w6):=HD.o.call hg hs
  clear hg hs
  clear KT
  have KT:=hide (takes_f (x:=⟨#[114,101,118,101,97,108]⟩) rfl _ HD.o.st hq4)
  go_wp2_with fail
  refine KT.o.mono ?_
  rintro e w7 ⟨rfl,hg,hs⟩
  replace HBa:=hide (HBa.o.keep hg (by have:=HD.o.rlt; have:=HLa.o; omega))
  replace HBs:=hide (HBs.o.keep hg (by have:=HD.o.rlt; have:=HLs.o; omega))
  replace HD : Hx (Rd rb tv ts en w (n) w7):=HD.o.call hg hs
  clear hg hs
  clear KT
  have KT:=hide (takes_t (x:=⟨#[116,114,117,115,116]⟩) rfl (by decide) _ HD.o.st hq5)
  go_wp2_with fail
  refine KT.o.mono ?_
  rintro e w8 ⟨rfl,hg,hs⟩
  replace HBa:=hide (HBa.o.keep hg (by have:=HD.o.rlt; have:=HLa.o; omega))
  replace HBs:=hide (HBs.o.keep hg (by have:=HD.o.rlt; have:=HLs.o; omega))
  replace HD : Hx (Rd rb tv ts en w (n + 1) w8):=HD.o.call hg hs
  clear hg hs
  clear KT
  have K1:=hide (name_c (n + 1) _ HD.o.st)
  go_wp2_with fail
  refine K1.o.mono ?_
  rintro e w9 hpo
  obtain ⟨m,ho⟩ | ⟨x,n1,ho⟩:=res_cases (pName ts (n + 1))
  · replace hpo : PostC ts en (pName ts (n + 1)) _ _ e w9:=hpo
    rw [ho] at hpo
    obtain ⟨rfl,hg⟩:=hpo
    have HO : Hx (res = .inr m):=by show _ = _; rw [HRP.o,ho]; rfl
    have HG:=hide (grownBy_trans HD.o.gr hg)
    clear hg ho
    unfold gaveUpAt
    go_wp2_with fail
    refine ⟨rfl,?_⟩
    rw [HO.o]
    exact ⟨rfl,HG.o⟩
  replace hpo : PostC ts en (pName ts (n + 1)) _ _ e w9:=hpo
  rw [ho] at hpo
  obtain ⟨rfl,hg,hs⟩:=hpo
  have hr:=HRP.o
  rw [ho,bindR_inl] at hr
  replace HRP:=hide hr
  have HOO:=hide ho
  clear hr ho
  have HNn1:=hide (pName_lt HOO.o)
  clear K1
  clear HOO
  replace HBa:=hide (HBa.o.keep hg (by have:=HD.o.rlt; have:=HLa.o; omega))
  replace HBs:=hide (HBs.o.keep hg (by have:=HD.o.rlt; have:=HLs.o; omega))
  replace HD : Hx (Rd rb tv ts en w (n1) w9):=HD.o.call hg hs
  clear hg hs
  have K2:=hide (expr_c hall (n1) _ HD.o.st)
  go_wp2_with fail
  obtain ⟨z,hz⟩:=nm w9.heap.size
  have HWz : Hx (w.heap.size≤z):=by show _≤_; rw [hz]; exact HD.o.size
  have HZza : Hx (ba < z):=by show _ < _; rw [hz]; exact HBa.o.lt
  have HZzs : Hx (bs < z):=by show _ < _; rw [hz]; exact HBs.o.lt
  refine K2.o.mono ?_
  rintro e w10 hpo
  obtain ⟨m,ho⟩ | ⟨ed,n2,ho⟩:=res_cases (pX ts en (n1))
  · replace hpo : PostC ts en (pX ts en (n1)) _ _ e w10:=hpo
    rw [ho] at hpo
    obtain ⟨rfl,hg⟩:=hpo
    have HO : Hx (res = .inr m):=by show _ = _; rw [HRP.o,ho]; rfl
    have HG:=hide (grownBy_trans HD.o.gr hg)
    clear hg ho
    unfold gaveUpAt
    go_wp2_with fail
    refine ⟨rfl,?_⟩
    rw [HO.o]
    exact ⟨rfl,HG.o⟩
  replace hpo : PostC ts en (pX ts en (n1)) _ _ e w10:=hpo
  rw [ho] at hpo
  obtain ⟨e0,e1,e2,e3,q0,q1,q2,rfl,hoff,-,-,hg,hs⟩:=hpo
  have hr:=HRP.o
  rw [ho,bindR_inl] at hr
  replace HRP:=hide hr
  have HOO:=hide ho
  clear hr ho
  rw [← hz] at hoff
  have HOFF:=hide hoff
  have HNn2:=hide (pX_lt HOO.o)
  clear hoff hz K2
  clear HOO
  replace HBa:=hide (HBa.o.keep hg (by have:=HD.o.rlt; have:=HLa.o; omega))
  replace HBs:=hide (HBs.o.keep hg (by have:=HD.o.rlt; have:=HLs.o; omega))
  replace HD : Hx (Rd rb tv ts en w (n2) w10):=HD.o.call hg hs
  clear hg hs
  obtain ⟨cs0,cs1,cs2,cs3,cs4,cs5,cs6,cs7,cs8,cs9,cs10,cs11⟩:=rc12 HBs.o.row
  have fs0:=HBs.o.fz 0
  have fs1:=HBs.o.fz 1
  have fs2:=HBs.o.fz 2
  have fs3:=HBs.o.fz 3
  have fs4:=HBs.o.fz 4
  have fs5:=HBs.o.fz 5
  have fs6:=HBs.o.fz 6
  have fs7:=HBs.o.fz 7
  have fs8:=HBs.o.fz 8
  have fs9:=HBs.o.fz 9
  have fs10:=HBs.o.fz 10
  have fs11:=HBs.o.fz 11
  obtain ⟨V11,hV11⟩:=nm (w10.setCell ⟨bs,0,none⟩ (.int .i64 6))
  replace HBs : Hx (Bx bs [.int .i64 6,.int .i64 p,.string ⟨#[]⟩,.string ⟨#[]⟩,.int .i64 0,.int .i64 0,.int .i64 0,.string ⟨#[]⟩,.slice none 0 0,.slice none 0 0,.slice none 0 0,.slice none 0 0] V11):=by show Bx _ _ _; rw [hV11]; exact HBs.o.set (j:=0) (by simp)
  replace HBa : Hx (Bx ba [.int .i64 0,.int .i64 0,.string ⟨#[]⟩,.string ⟨#[]⟩,.int .i64 0,.int .i64 0,.int .i64 0,.string ⟨#[]⟩,.slice none 0 0,.slice none 0 0,.slice none 0 0,.slice none 0 0] V11):=by show Bx _ _ _; rw [hV11]; exact HBa.o.far (by have:=HLas.o; omega)
  replace HD : Hx (Rd rb tv ts en w (n2) V11):=by show Rd _ _ _ _ _ _ _; rw [hV11]; exact HD.o.set (by exact HLs.o)
  replace HOFF : Hx (Off z none V11 (fun W => XE W 61 [.int .i64 e0,.int .i64 e1,.int .i64 e2,.string e3,.slice q0 q1 q2] ed)):=by show Off _ _ _ _; rw [hV11]; exact HOFF.o.set HZzs.o
  obtain ⟨V12,hV12⟩:=nm (V11.setCell ⟨bs,2,none⟩ (.string x))
  replace HBs : Hx (Bx bs [.int .i64 6,.int .i64 p,.string x,.string ⟨#[]⟩,.int .i64 0,.int .i64 0,.int .i64 0,.string ⟨#[]⟩,.slice none 0 0,.slice none 0 0,.slice none 0 0,.slice none 0 0] V12):=by show Bx _ _ _; rw [hV12]; exact HBs.o.set (j:=2) (by simp)
  replace HBa : Hx (Bx ba [.int .i64 0,.int .i64 0,.string ⟨#[]⟩,.string ⟨#[]⟩,.int .i64 0,.int .i64 0,.int .i64 0,.string ⟨#[]⟩,.slice none 0 0,.slice none 0 0,.slice none 0 0,.slice none 0 0] V12):=by show Bx _ _ _; rw [hV12]; exact HBa.o.far (by have:=HLas.o; omega)
  replace HD : Hx (Rd rb tv ts en w (n2) V12):=by show Rd _ _ _ _ _ _ _; rw [hV12]; exact HD.o.set (by exact HLs.o)
  replace HOFF : Hx (Off z none V12 (fun W => XE W 61 [.int .i64 e0,.int .i64 e1,.int .i64 e2,.string e3,.slice q0 q1 q2] ed)):=by show Off _ _ _ _; rw [hV12]; exact HOFF.o.set HZzs.o
  obtain ⟨V13,hV13⟩:=nm (V12.setCell ⟨bs,4,none⟩ (.int .i64 e0))
  replace HBs : Hx (Bx bs [.int .i64 6,.int .i64 p,.string x,.string ⟨#[]⟩,.int .i64 e0,.int .i64 0,.int .i64 0,.string ⟨#[]⟩,.slice none 0 0,.slice none 0 0,.slice none 0 0,.slice none 0 0] V13):=by show Bx _ _ _; rw [hV13]; exact HBs.o.set (j:=4) (by simp)
  replace HBa : Hx (Bx ba [.int .i64 0,.int .i64 0,.string ⟨#[]⟩,.string ⟨#[]⟩,.int .i64 0,.int .i64 0,.int .i64 0,.string ⟨#[]⟩,.slice none 0 0,.slice none 0 0,.slice none 0 0,.slice none 0 0] V13):=by show Bx _ _ _; rw [hV13]; exact HBa.o.far (by have:=HLas.o; omega)
  replace HD : Hx (Rd rb tv ts en w (n2) V13):=by show Rd _ _ _ _ _ _ _; rw [hV13]; exact HD.o.set (by exact HLs.o)
  replace HOFF : Hx (Off z none V13 (fun W => XE W 61 [.int .i64 e0,.int .i64 e1,.int .i64 e2,.string e3,.slice q0 q1 q2] ed)):=by show Off _ _ _ _; rw [hV13]; exact HOFF.o.set HZzs.o
  obtain ⟨V14,hV14⟩:=nm (V13.setCell ⟨bs,5,none⟩ (.int .i64 e1))
  replace HBs : Hx (Bx bs [.int .i64 6,.int .i64 p,.string x,.string ⟨#[]⟩,.int .i64 e0,.int .i64 e1,.int .i64 0,.string ⟨#[]⟩,.slice none 0 0,.slice none 0 0,.slice none 0 0,.slice none 0 0] V14):=by show Bx _ _ _; rw [hV14]; exact HBs.o.set (j:=5) (by simp)
  replace HBa : Hx (Bx ba [.int .i64 0,.int .i64 0,.string ⟨#[]⟩,.string ⟨#[]⟩,.int .i64 0,.int .i64 0,.int .i64 0,.string ⟨#[]⟩,.slice none 0 0,.slice none 0 0,.slice none 0 0,.slice none 0 0] V14):=by show Bx _ _ _; rw [hV14]; exact HBa.o.far (by have:=HLas.o; omega)
  replace HD : Hx (Rd rb tv ts en w (n2) V14):=by show Rd _ _ _ _ _ _ _; rw [hV14]; exact HD.o.set (by exact HLs.o)
  replace HOFF : Hx (Off z none V14 (fun W => XE W 61 [.int .i64 e0,.int .i64 e1,.int .i64 e2,.string e3,.slice q0 q1 q2] ed)):=by show Off _ _ _ _; rw [hV14]; exact HOFF.o.set HZzs.o
  obtain ⟨V15,hV15⟩:=nm (V14.setCell ⟨bs,6,none⟩ (.int .i64 e2))
  replace HBs : Hx (Bx bs [.int .i64 6,.int .i64 p,.string x,.string ⟨#[]⟩,.int .i64 e0,.int .i64 e1,.int .i64 e2,.string ⟨#[]⟩,.slice none 0 0,.slice none 0 0,.slice none 0 0,.slice none 0 0] V15):=by show Bx _ _ _; rw [hV15]; exact HBs.o.set (j:=6) (by simp)
  replace HBa : Hx (Bx ba [.int .i64 0,.int .i64 0,.string ⟨#[]⟩,.string ⟨#[]⟩,.int .i64 0,.int .i64 0,.int .i64 0,.string ⟨#[]⟩,.slice none 0 0,.slice none 0 0,.slice none 0 0,.slice none 0 0] V15):=by show Bx _ _ _; rw [hV15]; exact HBa.o.far (by have:=HLas.o; omega)
  replace HD : Hx (Rd rb tv ts en w (n2) V15):=by show Rd _ _ _ _ _ _ _; rw [hV15]; exact HD.o.set (by exact HLs.o)
  replace HOFF : Hx (Off z none V15 (fun W => XE W 61 [.int .i64 e0,.int .i64 e1,.int .i64 e2,.string e3,.slice q0 q1 q2] ed)):=by show Off _ _ _ _; rw [hV15]; exact HOFF.o.set HZzs.o
  obtain ⟨V16,hV16⟩:=nm (V15.setCell ⟨bs,7,none⟩ (.string e3))
  replace HBs : Hx (Bx bs [.int .i64 6,.int .i64 p,.string x,.string ⟨#[]⟩,.int .i64 e0,.int .i64 e1,.int .i64 e2,.string e3,.slice none 0 0,.slice none 0 0,.slice none 0 0,.slice none 0 0] V16):=by show Bx _ _ _; rw [hV16]; exact HBs.o.set (j:=7) (by simp)
  replace HBa : Hx (Bx ba [.int .i64 0,.int .i64 0,.string ⟨#[]⟩,.string ⟨#[]⟩,.int .i64 0,.int .i64 0,.int .i64 0,.string ⟨#[]⟩,.slice none 0 0,.slice none 0 0,.slice none 0 0,.slice none 0 0] V16):=by show Bx _ _ _; rw [hV16]; exact HBa.o.far (by have:=HLas.o; omega)
  replace HD : Hx (Rd rb tv ts en w (n2) V16):=by show Rd _ _ _ _ _ _ _; rw [hV16]; exact HD.o.set (by exact HLs.o)
  replace HOFF : Hx (Off z none V16 (fun W => XE W 61 [.int .i64 e0,.int .i64 e1,.int .i64 e2,.string e3,.slice q0 q1 q2] ed)):=by show Off _ _ _ _; rw [hV16]; exact HOFF.o.set HZzs.o
  obtain ⟨V17,hV17⟩:=nm (V16.setCell ⟨bs,8,none⟩ (.slice q0 q1 q2))
  replace HBs : Hx (Bx bs [.int .i64 6,.int .i64 p,.string x,.string ⟨#[]⟩,.int .i64 e0,.int .i64 e1,.int .i64 e2,.string e3,.slice q0 q1 q2,.slice none 0 0,.slice none 0 0,.slice none 0 0] V17):=by show Bx _ _ _; rw [hV17]; exact HBs.o.set (j:=8) (by simp)
  replace HBa : Hx (Bx ba [.int .i64 0,.int .i64 0,.string ⟨#[]⟩,.string ⟨#[]⟩,.int .i64 0,.int .i64 0,.int .i64 0,.string ⟨#[]⟩,.slice none 0 0,.slice none 0 0,.slice none 0 0,.slice none 0 0] V17):=by show Bx _ _ _; rw [hV17]; exact HBa.o.far (by have:=HLas.o; omega)
  replace HD : Hx (Rd rb tv ts en w (n2) V17):=by show Rd _ _ _ _ _ _ _; rw [hV17]; exact HD.o.set (by exact HLs.o)
  replace HOFF : Hx (Off z none V17 (fun W => XE W 61 [.int .i64 e0,.int .i64 e1,.int .i64 e2,.string e3,.slice q0 q1 q2] ed)):=by show Off _ _ _ _; rw [hV17]; exact HOFF.o.set HZzs.o
  have K3:=hide (take_c ⟨#[59]⟩ (by decide) n2 _ HD.o.st)
  go_wp2_with fail
  rw [← hV11,← hV12,← hV13,← hV14,← hV15,← hV16,← hV17]
  clear fs11 fs10 fs9 fs8 fs7 fs6 fs5 fs4 fs3 fs2 fs1 fs0 cs11 cs10 cs9 cs8 cs7 cs6 cs5 cs4 cs3 cs2 cs1 cs0
  clear hV17 hV16 hV15 hV14 hV13 hV12 hV11
  refine K3.o.mono ?_
  rintro e w18 hpo
  obtain ⟨m,ho⟩ | ⟨_u,n3,ho⟩:=res_cases (pTake ts [59] n2)
  · replace hpo : PostC ts en (pTake ts [59] n2) _ _ e w18:=hpo
    rw [ho] at hpo
    obtain ⟨rfl,hg⟩:=hpo
    have HO : Hx (res = .inr m):=by show _ = _; rw [HRP.o,ho]; rfl
    have HG:=hide (grownBy_trans HD.o.gr hg)
    clear hg ho
    unfold gaveUpAt
    go_wp2_with fail
    refine ⟨rfl,?_⟩
    rw [HO.o]
    exact ⟨rfl,HG.o⟩
  replace hpo : PostC ts en (pTake ts [59] n2) _ _ e w18:=hpo
  rw [ho] at hpo
  obtain ⟨rfl,hg,hs⟩:=hpo
  have hr:=HRP.o
  rw [ho,bindR_inl] at hr
  replace HRP:=hide hr
  have HOO:=hide ho
  clear hr ho
  clear HOO
  replace HBa:=hide (HBa.o.keep hg (by have:=HD.o.rlt; have:=HLa.o; omega))
  replace HBs:=hide (HBs.o.keep hg (by have:=HD.o.rlt; have:=HLs.o; omega))
  replace HOFF:=hide (HOFF.o.keep hg (by have:=HD.o.rlt; have:=HWz.o; omega))
  replace HD : Hx (Rd rb tv ts en w (n3) w18):=HD.o.call hg hs
  clear hg hs
  have neas : ba≠bs:=by have:=HLas.o; omega
  have nesa : bs≠ba:=by have:=HLas.o; omega
  obtain ⟨ca0,ca1,ca2,ca3,ca4,ca5,ca6,ca7,ca8,ca9,ca10,ca11⟩:=rc12 HBa.o.row
  have fa0:=HBa.o.fz 0
  have fa1:=HBa.o.fz 1
  have fa2:=HBa.o.fz 2
  have fa3:=HBa.o.fz 3
  have fa4:=HBa.o.fz 4
  have fa5:=HBa.o.fz 5
  have fa6:=HBa.o.fz 6
  have fa7:=HBa.o.fz 7
  have fa8:=HBa.o.fz 8
  have fa9:=HBa.o.fz 9
  have fa10:=HBa.o.fz 10
  have fa11:=HBa.o.fz 11
  obtain ⟨cs0,cs1,cs2,cs3,cs4,cs5,cs6,cs7,cs8,cs9,cs10,cs11⟩:=rc12 HBs.o.row
  have fs0:=HBs.o.fz 0
  have fs1:=HBs.o.fz 1
  have fs2:=HBs.o.fz 2
  have fs3:=HBs.o.fz 3
  have fs4:=HBs.o.fz 4
  have fs5:=HBs.o.fz 5
  have fs6:=HBs.o.fz 6
  have fs7:=HBs.o.fz 7
  have fs8:=HBs.o.fz 8
  have fs9:=HBs.o.fz 9
  have fs10:=HBs.o.fz 10
  have fs11:=HBs.o.fz 11
  obtain ⟨V19,hV19⟩:=nm (w18.setCell ⟨ba,0,none⟩ (.int .i64 6))
  replace HBa : Hx (Bx ba [.int .i64 6,.int .i64 0,.string ⟨#[]⟩,.string ⟨#[]⟩,.int .i64 0,.int .i64 0,.int .i64 0,.string ⟨#[]⟩,.slice none 0 0,.slice none 0 0,.slice none 0 0,.slice none 0 0] V19):=by show Bx _ _ _; rw [hV19]; exact HBa.o.set (j:=0) (by simp)
  replace HBs : Hx (Bx bs [.int .i64 6,.int .i64 p,.string x,.string ⟨#[]⟩,.int .i64 e0,.int .i64 e1,.int .i64 e2,.string e3,.slice q0 q1 q2,.slice none 0 0,.slice none 0 0,.slice none 0 0] V19):=by show Bx _ _ _; rw [hV19]; exact HBs.o.far (by have:=HLas.o; omega)
  replace HD : Hx (Rd rb tv ts en w (n3) V19):=by show Rd _ _ _ _ _ _ _; rw [hV19]; exact HD.o.set (by exact HLa.o)
  replace HOFF : Hx (Off z none V19 (fun W => XE W 61 [.int .i64 e0,.int .i64 e1,.int .i64 e2,.string e3,.slice q0 q1 q2] ed)):=by show Off _ _ _ _; rw [hV19]; exact HOFF.o.set HZza.o
  obtain ⟨V20,hV20⟩:=nm (V19.setCell ⟨ba,1,none⟩ (.int .i64 p))
  replace HBa : Hx (Bx ba [.int .i64 6,.int .i64 p,.string ⟨#[]⟩,.string ⟨#[]⟩,.int .i64 0,.int .i64 0,.int .i64 0,.string ⟨#[]⟩,.slice none 0 0,.slice none 0 0,.slice none 0 0,.slice none 0 0] V20):=by show Bx _ _ _; rw [hV20]; exact HBa.o.set (j:=1) (by simp)
  replace HBs : Hx (Bx bs [.int .i64 6,.int .i64 p,.string x,.string ⟨#[]⟩,.int .i64 e0,.int .i64 e1,.int .i64 e2,.string e3,.slice q0 q1 q2,.slice none 0 0,.slice none 0 0,.slice none 0 0] V20):=by show Bx _ _ _; rw [hV20]; exact HBs.o.far (by have:=HLas.o; omega)
  replace HD : Hx (Rd rb tv ts en w (n3) V20):=by show Rd _ _ _ _ _ _ _; rw [hV20]; exact HD.o.set (by exact HLa.o)
  replace HOFF : Hx (Off z none V20 (fun W => XE W 61 [.int .i64 e0,.int .i64 e1,.int .i64 e2,.string e3,.slice q0 q1 q2] ed)):=by show Off _ _ _ _; rw [hV20]; exact HOFF.o.set HZza.o
  obtain ⟨V21,hV21⟩:=nm (V20.setCell ⟨ba,2,none⟩ (.string x))
  replace HBa : Hx (Bx ba [.int .i64 6,.int .i64 p,.string x,.string ⟨#[]⟩,.int .i64 0,.int .i64 0,.int .i64 0,.string ⟨#[]⟩,.slice none 0 0,.slice none 0 0,.slice none 0 0,.slice none 0 0] V21):=by show Bx _ _ _; rw [hV21]; exact HBa.o.set (j:=2) (by simp)
  replace HBs : Hx (Bx bs [.int .i64 6,.int .i64 p,.string x,.string ⟨#[]⟩,.int .i64 e0,.int .i64 e1,.int .i64 e2,.string e3,.slice q0 q1 q2,.slice none 0 0,.slice none 0 0,.slice none 0 0] V21):=by show Bx _ _ _; rw [hV21]; exact HBs.o.far (by have:=HLas.o; omega)
  replace HD : Hx (Rd rb tv ts en w (n3) V21):=by show Rd _ _ _ _ _ _ _; rw [hV21]; exact HD.o.set (by exact HLa.o)
  replace HOFF : Hx (Off z none V21 (fun W => XE W 61 [.int .i64 e0,.int .i64 e1,.int .i64 e2,.string e3,.slice q0 q1 q2] ed)):=by show Off _ _ _ _; rw [hV21]; exact HOFF.o.set HZza.o
  obtain ⟨V22,hV22⟩:=nm (V21.setCell ⟨ba,3,none⟩ (.string ⟨#[]⟩))
  replace HBa : Hx (Bx ba [.int .i64 6,.int .i64 p,.string x,.string ⟨#[]⟩,.int .i64 0,.int .i64 0,.int .i64 0,.string ⟨#[]⟩,.slice none 0 0,.slice none 0 0,.slice none 0 0,.slice none 0 0] V22):=by show Bx _ _ _; rw [hV22]; exact HBa.o.set (j:=3) (by simp)
  replace HBs : Hx (Bx bs [.int .i64 6,.int .i64 p,.string x,.string ⟨#[]⟩,.int .i64 e0,.int .i64 e1,.int .i64 e2,.string e3,.slice q0 q1 q2,.slice none 0 0,.slice none 0 0,.slice none 0 0] V22):=by show Bx _ _ _; rw [hV22]; exact HBs.o.far (by have:=HLas.o; omega)
  replace HD : Hx (Rd rb tv ts en w (n3) V22):=by show Rd _ _ _ _ _ _ _; rw [hV22]; exact HD.o.set (by exact HLa.o)
  replace HOFF : Hx (Off z none V22 (fun W => XE W 61 [.int .i64 e0,.int .i64 e1,.int .i64 e2,.string e3,.slice q0 q1 q2] ed)):=by show Off _ _ _ _; rw [hV22]; exact HOFF.o.set HZza.o
  obtain ⟨V23,hV23⟩:=nm (V22.setCell ⟨ba,4,none⟩ (.int .i64 e0))
  replace HBa : Hx (Bx ba [.int .i64 6,.int .i64 p,.string x,.string ⟨#[]⟩,.int .i64 e0,.int .i64 0,.int .i64 0,.string ⟨#[]⟩,.slice none 0 0,.slice none 0 0,.slice none 0 0,.slice none 0 0] V23):=by show Bx _ _ _; rw [hV23]; exact HBa.o.set (j:=4) (by simp)
  replace HBs : Hx (Bx bs [.int .i64 6,.int .i64 p,.string x,.string ⟨#[]⟩,.int .i64 e0,.int .i64 e1,.int .i64 e2,.string e3,.slice q0 q1 q2,.slice none 0 0,.slice none 0 0,.slice none 0 0] V23):=by show Bx _ _ _; rw [hV23]; exact HBs.o.far (by have:=HLas.o; omega)
  replace HD : Hx (Rd rb tv ts en w (n3) V23):=by show Rd _ _ _ _ _ _ _; rw [hV23]; exact HD.o.set (by exact HLa.o)
  replace HOFF : Hx (Off z none V23 (fun W => XE W 61 [.int .i64 e0,.int .i64 e1,.int .i64 e2,.string e3,.slice q0 q1 q2] ed)):=by show Off _ _ _ _; rw [hV23]; exact HOFF.o.set HZza.o
  obtain ⟨V24,hV24⟩:=nm (V23.setCell ⟨ba,5,none⟩ (.int .i64 e1))
  replace HBa : Hx (Bx ba [.int .i64 6,.int .i64 p,.string x,.string ⟨#[]⟩,.int .i64 e0,.int .i64 e1,.int .i64 0,.string ⟨#[]⟩,.slice none 0 0,.slice none 0 0,.slice none 0 0,.slice none 0 0] V24):=by show Bx _ _ _; rw [hV24]; exact HBa.o.set (j:=5) (by simp)
  replace HBs : Hx (Bx bs [.int .i64 6,.int .i64 p,.string x,.string ⟨#[]⟩,.int .i64 e0,.int .i64 e1,.int .i64 e2,.string e3,.slice q0 q1 q2,.slice none 0 0,.slice none 0 0,.slice none 0 0] V24):=by show Bx _ _ _; rw [hV24]; exact HBs.o.far (by have:=HLas.o; omega)
  replace HD : Hx (Rd rb tv ts en w (n3) V24):=by show Rd _ _ _ _ _ _ _; rw [hV24]; exact HD.o.set (by exact HLa.o)
  replace HOFF : Hx (Off z none V24 (fun W => XE W 61 [.int .i64 e0,.int .i64 e1,.int .i64 e2,.string e3,.slice q0 q1 q2] ed)):=by show Off _ _ _ _; rw [hV24]; exact HOFF.o.set HZza.o
  obtain ⟨V25,hV25⟩:=nm (V24.setCell ⟨ba,6,none⟩ (.int .i64 e2))
  replace HBa : Hx (Bx ba [.int .i64 6,.int .i64 p,.string x,.string ⟨#[]⟩,.int .i64 e0,.int .i64 e1,.int .i64 e2,.string ⟨#[]⟩,.slice none 0 0,.slice none 0 0,.slice none 0 0,.slice none 0 0] V25):=by show Bx _ _ _; rw [hV25]; exact HBa.o.set (j:=6) (by simp)
  replace HBs : Hx (Bx bs [.int .i64 6,.int .i64 p,.string x,.string ⟨#[]⟩,.int .i64 e0,.int .i64 e1,.int .i64 e2,.string e3,.slice q0 q1 q2,.slice none 0 0,.slice none 0 0,.slice none 0 0] V25):=by show Bx _ _ _; rw [hV25]; exact HBs.o.far (by have:=HLas.o; omega)
  replace HD : Hx (Rd rb tv ts en w (n3) V25):=by show Rd _ _ _ _ _ _ _; rw [hV25]; exact HD.o.set (by exact HLa.o)
  replace HOFF : Hx (Off z none V25 (fun W => XE W 61 [.int .i64 e0,.int .i64 e1,.int .i64 e2,.string e3,.slice q0 q1 q2] ed)):=by show Off _ _ _ _; rw [hV25]; exact HOFF.o.set HZza.o
  obtain ⟨V26,hV26⟩:=nm (V25.setCell ⟨ba,7,none⟩ (.string e3))
  replace HBa : Hx (Bx ba [.int .i64 6,.int .i64 p,.string x,.string ⟨#[]⟩,.int .i64 e0,.int .i64 e1,.int .i64 e2,.string e3,.slice none 0 0,.slice none 0 0,.slice none 0 0,.slice none 0 0] V26):=by show Bx _ _ _; rw [hV26]; exact HBa.o.set (j:=7) (by simp)
  replace HBs : Hx (Bx bs [.int .i64 6,.int .i64 p,.string x,.string ⟨#[]⟩,.int .i64 e0,.int .i64 e1,.int .i64 e2,.string e3,.slice q0 q1 q2,.slice none 0 0,.slice none 0 0,.slice none 0 0] V26):=by show Bx _ _ _; rw [hV26]; exact HBs.o.far (by have:=HLas.o; omega)
  replace HD : Hx (Rd rb tv ts en w (n3) V26):=by show Rd _ _ _ _ _ _ _; rw [hV26]; exact HD.o.set (by exact HLa.o)
  replace HOFF : Hx (Off z none V26 (fun W => XE W 61 [.int .i64 e0,.int .i64 e1,.int .i64 e2,.string e3,.slice q0 q1 q2] ed)):=by show Off _ _ _ _; rw [hV26]; exact HOFF.o.set HZza.o
  obtain ⟨V27,hV27⟩:=nm (V26.setCell ⟨ba,8,none⟩ (.slice q0 q1 q2))
  replace HBa : Hx (Bx ba [.int .i64 6,.int .i64 p,.string x,.string ⟨#[]⟩,.int .i64 e0,.int .i64 e1,.int .i64 e2,.string e3,.slice q0 q1 q2,.slice none 0 0,.slice none 0 0,.slice none 0 0] V27):=by show Bx _ _ _; rw [hV27]; exact HBa.o.set (j:=8) (by simp)
  replace HBs : Hx (Bx bs [.int .i64 6,.int .i64 p,.string x,.string ⟨#[]⟩,.int .i64 e0,.int .i64 e1,.int .i64 e2,.string e3,.slice q0 q1 q2,.slice none 0 0,.slice none 0 0,.slice none 0 0] V27):=by show Bx _ _ _; rw [hV27]; exact HBs.o.far (by have:=HLas.o; omega)
  replace HD : Hx (Rd rb tv ts en w (n3) V27):=by show Rd _ _ _ _ _ _ _; rw [hV27]; exact HD.o.set (by exact HLa.o)
  replace HOFF : Hx (Off z none V27 (fun W => XE W 61 [.int .i64 e0,.int .i64 e1,.int .i64 e2,.string e3,.slice q0 q1 q2] ed)):=by show Off _ _ _ _; rw [hV27]; exact HOFF.o.set HZza.o
  obtain ⟨V28,hV28⟩:=nm (V27.setCell ⟨ba,9,none⟩ (.slice none 0 0))
  replace HBa : Hx (Bx ba [.int .i64 6,.int .i64 p,.string x,.string ⟨#[]⟩,.int .i64 e0,.int .i64 e1,.int .i64 e2,.string e3,.slice q0 q1 q2,.slice none 0 0,.slice none 0 0,.slice none 0 0] V28):=by show Bx _ _ _; rw [hV28]; exact HBa.o.set (j:=9) (by simp)
  replace HBs : Hx (Bx bs [.int .i64 6,.int .i64 p,.string x,.string ⟨#[]⟩,.int .i64 e0,.int .i64 e1,.int .i64 e2,.string e3,.slice q0 q1 q2,.slice none 0 0,.slice none 0 0,.slice none 0 0] V28):=by show Bx _ _ _; rw [hV28]; exact HBs.o.far (by have:=HLas.o; omega)
  replace HD : Hx (Rd rb tv ts en w (n3) V28):=by show Rd _ _ _ _ _ _ _; rw [hV28]; exact HD.o.set (by exact HLa.o)
  replace HOFF : Hx (Off z none V28 (fun W => XE W 61 [.int .i64 e0,.int .i64 e1,.int .i64 e2,.string e3,.slice q0 q1 q2] ed)):=by show Off _ _ _ _; rw [hV28]; exact HOFF.o.set HZza.o
  obtain ⟨V29,hV29⟩:=nm (V28.setCell ⟨ba,10,none⟩ (.slice none 0 0))
  replace HBa : Hx (Bx ba [.int .i64 6,.int .i64 p,.string x,.string ⟨#[]⟩,.int .i64 e0,.int .i64 e1,.int .i64 e2,.string e3,.slice q0 q1 q2,.slice none 0 0,.slice none 0 0,.slice none 0 0] V29):=by show Bx _ _ _; rw [hV29]; exact HBa.o.set (j:=10) (by simp)
  replace HBs : Hx (Bx bs [.int .i64 6,.int .i64 p,.string x,.string ⟨#[]⟩,.int .i64 e0,.int .i64 e1,.int .i64 e2,.string e3,.slice q0 q1 q2,.slice none 0 0,.slice none 0 0,.slice none 0 0] V29):=by show Bx _ _ _; rw [hV29]; exact HBs.o.far (by have:=HLas.o; omega)
  replace HD : Hx (Rd rb tv ts en w (n3) V29):=by show Rd _ _ _ _ _ _ _; rw [hV29]; exact HD.o.set (by exact HLa.o)
  replace HOFF : Hx (Off z none V29 (fun W => XE W 61 [.int .i64 e0,.int .i64 e1,.int .i64 e2,.string e3,.slice q0 q1 q2] ed)):=by show Off _ _ _ _; rw [hV29]; exact HOFF.o.set HZza.o
  obtain ⟨V30,hV30⟩:=nm (V29.setCell ⟨ba,11,none⟩ (.slice none 0 0))
  replace HBa : Hx (Bx ba [.int .i64 6,.int .i64 p,.string x,.string ⟨#[]⟩,.int .i64 e0,.int .i64 e1,.int .i64 e2,.string e3,.slice q0 q1 q2,.slice none 0 0,.slice none 0 0,.slice none 0 0] V30):=by show Bx _ _ _; rw [hV30]; exact HBa.o.set (j:=11) (by simp)
  replace HBs : Hx (Bx bs [.int .i64 6,.int .i64 p,.string x,.string ⟨#[]⟩,.int .i64 e0,.int .i64 e1,.int .i64 e2,.string e3,.slice q0 q1 q2,.slice none 0 0,.slice none 0 0,.slice none 0 0] V30):=by show Bx _ _ _; rw [hV30]; exact HBs.o.far (by have:=HLas.o; omega)
  replace HD : Hx (Rd rb tv ts en w (n3) V30):=by show Rd _ _ _ _ _ _ _; rw [hV30]; exact HD.o.set (by exact HLa.o)
  replace HOFF : Hx (Off z none V30 (fun W => XE W 61 [.int .i64 e0,.int .i64 e1,.int .i64 e2,.string e3,.slice q0 q1 q2] ed)):=by show Off _ _ _ _; rw [hV30]; exact HOFF.o.set HZza.o
  go_wp2_with fail
  refine bodyPost_ret (v:=.agg #[.int .i64 6,.int .i64 p,.string x,.string ⟨#[]⟩,.int .i64 e0,.int .i64 e1,.int .i64 e2,.string e3,.slice q0 q1 q2,.slice none 0 0,.slice none 0 0,.slice none 0 0]) (by simp [results,Tryz.results137,go_sem, *]) rfl ?_
  rw [← hV19,← hV20,← hV21,← hV22,← hV23,← hV24,← hV25,← hV26,← hV27,← hV28,← hV29,← hV30]
  have hlt:=HR0.o
  rw [HRP.o] at hlt
  have hlt2:=pStmt_lt hlt.symm
  rw [HRP.o]
  refine ⟨_,_,_,_,_,_,_,_,_,_,_,_,_,_,_,_,_,_,_,_,rfl,fun W hW => ?_,hlt2,HD.o.gr,HD.o.st⟩
  exact ⟨_,_,_,_,_,_,_,_,_,ed,_,[],_,[],_,[],rfl,rfl,(HOFF.o.base HWz.o) W hW,LS.nil,LS.nil,LS.nil⟩
set_option maxHeartbeats 8000000 in
set_option maxRecDepth 100000 in
theorem stmt_become (hall : ts.all isAlone = true) {f : Nat} (hB : StmtsOk rb tv ts en f) (n : Nat) (w : World) (h : St rb tv ts en n w) (hf : 2 * (ts.length - n) + 1≤f + 1) (hq0 : isT ts n [105,102] = false) (hq1 : isT ts n [119,104,105,108,101] = false) (hq2 : isT ts n [103,101,116] = false) (hq3 : isT ts n [112,117,116] = false) (hq4 : isT ts n [114,101,118,101,97,108] = false) (hq5 : isT ts n [116,114,117,115,116] = false) :
    Calls Tryz.prog 137 #[.pointer (some ⟨rb,0,none⟩)] w (PostC ts en (pStmt ts en (f + 1) n) (StmtPost rb tv ts en (f + 1) n w) (fun w' => w.grownBy w' (some rb))):=by
  obtain ⟨res,hres⟩:=nm (pStmt ts en (f + 1) n)
  rw [← hres]
  have HR0:=hide hres
  have HRP : Hx (res = bindR (pBecome ts en (posn ts en n) n) fun s n1 => bindR (pTake ts [59] n1) fun _ n2 => .inl (s,n2)):=by show _ = _; rw [hres,show pStmt ts en (f + 1) n = pStmt1 ts en (pBlock ts (fun n => pStmts ts en f [] n)) n from rfl]; unfold pStmt1; rw [if_neg (show ¬ isT ts n [105,102] = true by rw [hq0]; simp)]; rw [if_neg (show ¬ isT ts n [119,104,105,108,101] = true by rw [hq1]; simp)]; rw [if_neg (show ¬ isT ts n [103,101,116] = true by rw [hq2]; simp)]; rw [if_neg (show ¬ isT ts n [112,117,116] = true by rw [hq3]; simp)]; rw [if_neg (show ¬ isT ts n [114,101,118,101,97,108] = true by rw [hq4]; simp)]; rw [if_neg (show ¬ isT ts n [116,114,117,115,116] = true by rw [hq5]; simp)]; try rfl
  obtain ⟨p,hp⟩:=nm (posn ts en n)
  rw [← hp] at HRP
  have HP:=hide hp
  have HD:=hide (Rd.start h)
  have HS:=hide hB
  have HF:=hide hf
  clear hres hp h hB hf
  obtain ⟨V1,hV1⟩:=nm (w.alloc (.cells #[.int .i64 0,.int .i64 0,.string ⟨#[]⟩,.string ⟨#[]⟩,.int .i64 0,.int .i64 0,.int .i64 0,.string ⟨#[]⟩,.slice none 0 0,.slice none 0 0,.slice none 0 0,.slice none 0 0] 55))
  obtain ⟨ba,hba⟩:=nm w.heap.size
  have hsba:=hba
  have HLa : Hx (w.heap.size≤ba):=by show _≤_; rw [hsba]; exact HD.o.size
  have HBa : Hx (Bx ba [.int .i64 0,.int .i64 0,.string ⟨#[]⟩,.string ⟨#[]⟩,.int .i64 0,.int .i64 0,.int .i64 0,.string ⟨#[]⟩,.slice none 0 0,.slice none 0 0,.slice none 0 0,.slice none 0 0] V1):=by show Bx _ _ _; rw [hV1,hsba]; exact Bx.new w [.int .i64 0,.int .i64 0,.string ⟨#[]⟩,.string ⟨#[]⟩,.int .i64 0,.int .i64 0,.int .i64 0,.string ⟨#[]⟩,.slice none 0 0,.slice none 0 0,.slice none 0 0,.slice none 0 0] 55
  replace HD : Hx (Rd rb tv ts en w (n) V1):=by show Rd _ _ _ _ _ _ _; rw [hV1]; exact HD.o.over (bA _ _)
  have K0:=hide (here_c n _ HD.o.st)
  go_enter Tryz.func137,Tryz.ntmps137
  go_wp2_with fail
  rw [← hV1,← hba]
  clear hsba
  clear hba hV1
  refine K0.o.mono ?_
  rintro e wh ⟨rfl,hg,hs⟩
  rw [← HP.o]
  replace HBa:=hide (HBa.o.keep hg (by have:=HD.o.rlt; have:=HLa.o; omega))
  replace HD : Hx (Rd rb tv ts en w (n) wh):=HD.o.call hg hs
  clear hg hs
  clear K0
  obtain ⟨V2,hV2⟩:=nm (wh.alloc (.cells #[.int .i64 0,.int .i64 p,.string ⟨#[]⟩,.string ⟨#[]⟩,.int .i64 0,.int .i64 0,.int .i64 0,.string ⟨#[]⟩,.slice none 0 0,.slice none 0 0,.slice none 0 0,.slice none 0 0] 55))
  obtain ⟨bs,hbs⟩:=nm wh.heap.size
  have hsbs:=hbs
  have HLs : Hx (w.heap.size≤bs):=by show _≤_; rw [hsbs]; exact HD.o.size
  have HLas : Hx (ba < bs):=by show _ < _; rw [hsbs]; exact HBa.o.lt
  have HBs : Hx (Bx bs [.int .i64 0,.int .i64 p,.string ⟨#[]⟩,.string ⟨#[]⟩,.int .i64 0,.int .i64 0,.int .i64 0,.string ⟨#[]⟩,.slice none 0 0,.slice none 0 0,.slice none 0 0,.slice none 0 0] V2):=by show Bx _ _ _; rw [hV2,hsbs]; exact Bx.new wh [.int .i64 0,.int .i64 p,.string ⟨#[]⟩,.string ⟨#[]⟩,.int .i64 0,.int .i64 0,.int .i64 0,.string ⟨#[]⟩,.slice none 0 0,.slice none 0 0,.slice none 0 0,.slice none 0 0] 55
  replace HBa : Hx (Bx ba [.int .i64 0,.int .i64 0,.string ⟨#[]⟩,.string ⟨#[]⟩,.int .i64 0,.int .i64 0,.int .i64 0,.string ⟨#[]⟩,.slice none 0 0,.slice none 0 0,.slice none 0 0,.slice none 0 0] V2):=by show Bx _ _ _; rw [hV2]; exact HBa.o.over (bA _ _)
  replace HD : Hx (Rd rb tv ts en w (n) V2):=by show Rd _ _ _ _ _ _ _; rw [hV2]; exact HD.o.over (bA _ _)
  have KT:=hide (takes_f (x:=⟨#[105,102]⟩) rfl _ HD.o.st hq0)
  go_wp2_with fail
  rw [← hV2,← hbs]
  clear hsbs
  clear hbs hV2
  refine KT.o.mono ?_
  rintro e w3 ⟨rfl,hg,hs⟩
  replace HBa:=hide (HBa.o.keep hg (by have:=HD.o.rlt; have:=HLa.o; omega))
  replace HBs:=hide (HBs.o.keep hg (by have:=HD.o.rlt; have:=HLs.o; omega))
  replace HD : Hx (Rd rb tv ts en w (n) w3):=HD.o.call hg hs
  clear hg hs
  clear KT
  have KT:=hide (takes_f (x:=⟨#[119,104,105,108,101]⟩) rfl _ HD.o.st hq1)
  go_wp2_with fail
  refine KT.o.mono ?_
  rintro e w4 ⟨rfl,hg,hs⟩
  replace HBa:=hide (HBa.o.keep hg (by have:=HD.o.rlt; have:=HLa.o; omega))
  replace HBs:=hide (HBs.o.keep hg (by have:=HD.o.rlt; have:=HLs.o; omega))
  replace HD : Hx (Rd rb tv ts en w (n) w4):=HD.o.call hg hs
  clear hg hs
  clear KT
  have KT:=hide (takes_f (x:=⟨#[103,101,116]⟩) rfl _ HD.o.st hq2)
  go_wp2_with fail
  refine KT.o.mono ?_
  rintro e w5 ⟨rfl,hg,hs⟩
  replace HBa:=hide (HBa.o.keep hg (by have:=HD.o.rlt; have:=HLa.o; omega))
  replace HBs:=hide (HBs.o.keep hg (by have:=HD.o.rlt; have:=HLs.o; omega))
  replace HD : Hx (Rd rb tv ts en w (n) w5):=HD.o.call hg hs
  clear hg hs
  clear KT
  have KT:=hide (takes_f (x:=⟨#[112,117,116]⟩) rfl _ HD.o.st hq3)
  go_wp2_with fail
  refine KT.o.mono ?_
  rintro e w6 ⟨rfl,hg,hs⟩
  replace HBa:=hide (HBa.o.keep hg (by have:=HD.o.rlt; have:=HLa.o; omega))
  replace HBs:=hide (HBs.o.keep hg (by have:=HD.o.rlt; have:=HLs.o; omega))
  replace HD : Hx (Rd rb tv ts en w (n) w6):=HD.o.call hg hs
  clear hg hs
  clear KT
  have KT:=hide (takes_f (x:=⟨#[114,101,118,101,97,108]⟩) rfl _ HD.o.st hq4)
  go_wp2_with fail
  refine KT.o.mono ?_
  rintro e w7 ⟨rfl,hg,hs⟩
  replace HBa:=hide (HBa.o.keep hg (by have:=HD.o.rlt; have:=HLa.o; omega))
  replace HBs:=hide (HBs.o.keep hg (by have:=HD.o.rlt; have:=HLs.o; omega))
  replace HD : Hx (Rd rb tv ts en w (n) w7):=HD.o.call hg hs
  clear hg hs
  clear KT
  have KT:=hide (takes_f (x:=⟨#[116,114,117,115,116]⟩) rfl _ HD.o.st hq5)
  go_wp2_with fail
  refine KT.o.mono ?_
  rintro e w8 ⟨rfl,hg,hs⟩
  replace HBa:=hide (HBa.o.keep hg (by have:=HD.o.rlt; have:=HLa.o; omega))
  replace HBs:=hide (HBs.o.keep hg (by have:=HD.o.rlt; have:=HLs.o; omega))
  replace HD : Hx (Rd rb tv ts en w (n) w8):=HD.o.call hg hs
  clear hg hs
  clear KT
  have K1:=hide (become_c hall (bs:=bs) p n _ HD.o HLs.o HBs.o)
  go_wp2_with fail
  obtain ⟨z,hz⟩:=nm w8.heap.size
  have HWz : Hx (w.heap.size≤z):=by show _≤_; rw [hz]; exact HD.o.size
  have HZza : Hx (ba < z):=by show _ < _; rw [hz]; exact HBa.o.lt
  have HZzs : Hx (bs < z):=by show _ < _; rw [hz]; exact HBs.o.lt
  refine K1.o.mono ?_
  rintro e w9 hpo
  obtain ⟨m,ho⟩ | ⟨sd,n1,ho⟩:=res_cases (pBecome ts en p n)
  · rw [ho] at hpo
    obtain ⟨rfl,hg⟩:=hpo
    have HO : Hx (res = .inr m):=by show _ = _; rw [HRP.o,ho]; rfl
    have HG:=hide hg
    clear hg ho
    unfold gaveUpAt
    go_wp2_with fail
    refine ⟨rfl,?_⟩
    rw [HO.o]
    exact ⟨rfl,HG.o⟩
  rw [ho] at hpo
  obtain ⟨rfl,kd,x,y,e0,e1,e2,e3,q0,q1,q2,q3,q4,q5,hbx,hoff,hrd,hfz⟩:=hpo
  have hr:=HRP.o
  rw [ho,bindR_inl] at hr
  replace HRP:=hide hr
  rw [← hz] at hoff
  have HOFF:=hide hoff
  have HBa2 : Hx (Bx ba [.int .i64 0,.int .i64 0,.string ⟨#[]⟩,.string ⟨#[]⟩,.int .i64 0,.int .i64 0,.int .i64 0,.string ⟨#[]⟩,.slice none 0 0,.slice none 0 0,.slice none 0 0,.slice none 0 0] w9):=HBa.o.fz' hfz (by have:=HD.o.rlt; have:=HLa.o; omega) (by have:=HLas.o; omega)
  replace HBa:=HBa2
  replace HBs : Hx (Bx bs [.int .i64 kd,.int .i64 p,.string x,.string y,.int .i64 e0,.int .i64 e1,.int .i64 e2,.string e3,.slice q0 q1 q2,.slice q3 q4 q5,.slice none 0 0,.slice none 0 0] w9):=hbx
  replace HD : Hx (Rd rb tv ts en w n1 w9):=hrd
  clear hr ho hoff hbx hrd hfz hz HBa2 K1
  have K3:=hide (take_c ⟨#[59]⟩ (by decide) n1 _ HD.o.st)
  go_wp2_with fail
  refine K3.o.mono ?_
  rintro e w10 hpo
  obtain ⟨m,ho⟩ | ⟨_u,n3,ho⟩:=res_cases (pTake ts [59] n1)
  · replace hpo : PostC ts en (pTake ts [59] n1) _ _ e w10:=hpo
    rw [ho] at hpo
    obtain ⟨rfl,hg⟩:=hpo
    have HO : Hx (res = .inr m):=by show _ = _; rw [HRP.o,ho]; rfl
    have HG:=hide (grownBy_trans HD.o.gr hg)
    clear hg ho
    unfold gaveUpAt
    go_wp2_with fail
    refine ⟨rfl,?_⟩
    rw [HO.o]
    exact ⟨rfl,HG.o⟩
  replace hpo : PostC ts en (pTake ts [59] n1) _ _ e w10:=hpo
  rw [ho] at hpo
  obtain ⟨rfl,hg,hs⟩:=hpo
  have hr:=HRP.o
  rw [ho,bindR_inl] at hr
  replace HRP:=hide hr
  have HOO:=hide ho
  clear hr ho
  clear HOO
  replace HBa:=hide (HBa.o.keep hg (by have:=HD.o.rlt; have:=HLa.o; omega))
  replace HBs:=hide (HBs.o.keep hg (by have:=HD.o.rlt; have:=HLs.o; omega))
  replace HOFF:=hide (HOFF.o.keep hg (by have:=HD.o.rlt; have:=HWz.o; omega))
  replace HD : Hx (Rd rb tv ts en w (n3) w10):=HD.o.call hg hs
  clear hg hs
  have neas : ba≠bs:=by have:=HLas.o; omega
  have nesa : bs≠ba:=by have:=HLas.o; omega
  obtain ⟨ca0,ca1,ca2,ca3,ca4,ca5,ca6,ca7,ca8,ca9,ca10,ca11⟩:=rc12 HBa.o.row
  have fa0:=HBa.o.fz 0
  have fa1:=HBa.o.fz 1
  have fa2:=HBa.o.fz 2
  have fa3:=HBa.o.fz 3
  have fa4:=HBa.o.fz 4
  have fa5:=HBa.o.fz 5
  have fa6:=HBa.o.fz 6
  have fa7:=HBa.o.fz 7
  have fa8:=HBa.o.fz 8
  have fa9:=HBa.o.fz 9
  have fa10:=HBa.o.fz 10
  have fa11:=HBa.o.fz 11
  obtain ⟨cs0,cs1,cs2,cs3,cs4,cs5,cs6,cs7,cs8,cs9,cs10,cs11⟩:=rc12 HBs.o.row
  have fs0:=HBs.o.fz 0
  have fs1:=HBs.o.fz 1
  have fs2:=HBs.o.fz 2
  have fs3:=HBs.o.fz 3
  have fs4:=HBs.o.fz 4
  have fs5:=HBs.o.fz 5
  have fs6:=HBs.o.fz 6
  have fs7:=HBs.o.fz 7
  have fs8:=HBs.o.fz 8
  have fs9:=HBs.o.fz 9
  have fs10:=HBs.o.fz 10
  have fs11:=HBs.o.fz 11
  obtain ⟨V11,hV11⟩:=nm (w10.setCell ⟨ba,0,none⟩ (.int .i64 kd))
  replace HBa : Hx (Bx ba [.int .i64 kd,.int .i64 0,.string ⟨#[]⟩,.string ⟨#[]⟩,.int .i64 0,.int .i64 0,.int .i64 0,.string ⟨#[]⟩,.slice none 0 0,.slice none 0 0,.slice none 0 0,.slice none 0 0] V11):=by show Bx _ _ _; rw [hV11]; exact HBa.o.set (j:=0) (by simp)
  replace HBs : Hx (Bx bs [.int .i64 kd,.int .i64 p,.string x,.string y,.int .i64 e0,.int .i64 e1,.int .i64 e2,.string e3,.slice q0 q1 q2,.slice q3 q4 q5,.slice none 0 0,.slice none 0 0] V11):=by show Bx _ _ _; rw [hV11]; exact HBs.o.far (by have:=HLas.o; omega)
  replace HD : Hx (Rd rb tv ts en w (n3) V11):=by show Rd _ _ _ _ _ _ _; rw [hV11]; exact HD.o.set (by exact HLa.o)
  replace HOFF : Hx (Off z none V11 (fun W => XC W 1 [.int .i64 kd,.int .i64 p,.string x,.string y,.int .i64 e0,.int .i64 e1,.int .i64 e2,.string e3,.slice q0 q1 q2,.slice q3 q4 q5,.slice none 0 0,.slice none 0 0] sd)):=by show Off _ _ _ _; rw [hV11]; exact HOFF.o.set HZza.o
  obtain ⟨V12,hV12⟩:=nm (V11.setCell ⟨ba,1,none⟩ (.int .i64 p))
  replace HBa : Hx (Bx ba [.int .i64 kd,.int .i64 p,.string ⟨#[]⟩,.string ⟨#[]⟩,.int .i64 0,.int .i64 0,.int .i64 0,.string ⟨#[]⟩,.slice none 0 0,.slice none 0 0,.slice none 0 0,.slice none 0 0] V12):=by show Bx _ _ _; rw [hV12]; exact HBa.o.set (j:=1) (by simp)
  replace HBs : Hx (Bx bs [.int .i64 kd,.int .i64 p,.string x,.string y,.int .i64 e0,.int .i64 e1,.int .i64 e2,.string e3,.slice q0 q1 q2,.slice q3 q4 q5,.slice none 0 0,.slice none 0 0] V12):=by show Bx _ _ _; rw [hV12]; exact HBs.o.far (by have:=HLas.o; omega)
  replace HD : Hx (Rd rb tv ts en w (n3) V12):=by show Rd _ _ _ _ _ _ _; rw [hV12]; exact HD.o.set (by exact HLa.o)
  replace HOFF : Hx (Off z none V12 (fun W => XC W 1 [.int .i64 kd,.int .i64 p,.string x,.string y,.int .i64 e0,.int .i64 e1,.int .i64 e2,.string e3,.slice q0 q1 q2,.slice q3 q4 q5,.slice none 0 0,.slice none 0 0] sd)):=by show Off _ _ _ _; rw [hV12]; exact HOFF.o.set HZza.o
  obtain ⟨V13,hV13⟩:=nm (V12.setCell ⟨ba,2,none⟩ (.string x))
  replace HBa : Hx (Bx ba [.int .i64 kd,.int .i64 p,.string x,.string ⟨#[]⟩,.int .i64 0,.int .i64 0,.int .i64 0,.string ⟨#[]⟩,.slice none 0 0,.slice none 0 0,.slice none 0 0,.slice none 0 0] V13):=by show Bx _ _ _; rw [hV13]; exact HBa.o.set (j:=2) (by simp)
  replace HBs : Hx (Bx bs [.int .i64 kd,.int .i64 p,.string x,.string y,.int .i64 e0,.int .i64 e1,.int .i64 e2,.string e3,.slice q0 q1 q2,.slice q3 q4 q5,.slice none 0 0,.slice none 0 0] V13):=by show Bx _ _ _; rw [hV13]; exact HBs.o.far (by have:=HLas.o; omega)
  replace HD : Hx (Rd rb tv ts en w (n3) V13):=by show Rd _ _ _ _ _ _ _; rw [hV13]; exact HD.o.set (by exact HLa.o)
  replace HOFF : Hx (Off z none V13 (fun W => XC W 1 [.int .i64 kd,.int .i64 p,.string x,.string y,.int .i64 e0,.int .i64 e1,.int .i64 e2,.string e3,.slice q0 q1 q2,.slice q3 q4 q5,.slice none 0 0,.slice none 0 0] sd)):=by show Off _ _ _ _; rw [hV13]; exact HOFF.o.set HZza.o
  obtain ⟨V14,hV14⟩:=nm (V13.setCell ⟨ba,3,none⟩ (.string y))
  replace HBa : Hx (Bx ba [.int .i64 kd,.int .i64 p,.string x,.string y,.int .i64 0,.int .i64 0,.int .i64 0,.string ⟨#[]⟩,.slice none 0 0,.slice none 0 0,.slice none 0 0,.slice none 0 0] V14):=by show Bx _ _ _; rw [hV14]; exact HBa.o.set (j:=3) (by simp)
  replace HBs : Hx (Bx bs [.int .i64 kd,.int .i64 p,.string x,.string y,.int .i64 e0,.int .i64 e1,.int .i64 e2,.string e3,.slice q0 q1 q2,.slice q3 q4 q5,.slice none 0 0,.slice none 0 0] V14):=by show Bx _ _ _; rw [hV14]; exact HBs.o.far (by have:=HLas.o; omega)
  replace HD : Hx (Rd rb tv ts en w (n3) V14):=by show Rd _ _ _ _ _ _ _; rw [hV14]; exact HD.o.set (by exact HLa.o)
  replace HOFF : Hx (Off z none V14 (fun W => XC W 1 [.int .i64 kd,.int .i64 p,.string x,.string y,.int .i64 e0,.int .i64 e1,.int .i64 e2,.string e3,.slice q0 q1 q2,.slice q3 q4 q5,.slice none 0 0,.slice none 0 0] sd)):=by show Off _ _ _ _; rw [hV14]; exact HOFF.o.set HZza.o
  obtain ⟨V15,hV15⟩:=nm (V14.setCell ⟨ba,4,none⟩ (.int .i64 e0))
  replace HBa : Hx (Bx ba [.int .i64 kd,.int .i64 p,.string x,.string y,.int .i64 e0,.int .i64 0,.int .i64 0,.string ⟨#[]⟩,.slice none 0 0,.slice none 0 0,.slice none 0 0,.slice none 0 0] V15):=by show Bx _ _ _; rw [hV15]; exact HBa.o.set (j:=4) (by simp)
  replace HBs : Hx (Bx bs [.int .i64 kd,.int .i64 p,.string x,.string y,.int .i64 e0,.int .i64 e1,.int .i64 e2,.string e3,.slice q0 q1 q2,.slice q3 q4 q5,.slice none 0 0,.slice none 0 0] V15):=by show Bx _ _ _; rw [hV15]; exact HBs.o.far (by have:=HLas.o; omega)
  replace HD : Hx (Rd rb tv ts en w (n3) V15):=by show Rd _ _ _ _ _ _ _; rw [hV15]; exact HD.o.set (by exact HLa.o)
  replace HOFF : Hx (Off z none V15 (fun W => XC W 1 [.int .i64 kd,.int .i64 p,.string x,.string y,.int .i64 e0,.int .i64 e1,.int .i64 e2,.string e3,.slice q0 q1 q2,.slice q3 q4 q5,.slice none 0 0,.slice none 0 0] sd)):=by show Off _ _ _ _; rw [hV15]; exact HOFF.o.set HZza.o
  obtain ⟨V16,hV16⟩:=nm (V15.setCell ⟨ba,5,none⟩ (.int .i64 e1))
  replace HBa : Hx (Bx ba [.int .i64 kd,.int .i64 p,.string x,.string y,.int .i64 e0,.int .i64 e1,.int .i64 0,.string ⟨#[]⟩,.slice none 0 0,.slice none 0 0,.slice none 0 0,.slice none 0 0] V16):=by show Bx _ _ _; rw [hV16]; exact HBa.o.set (j:=5) (by simp)
  replace HBs : Hx (Bx bs [.int .i64 kd,.int .i64 p,.string x,.string y,.int .i64 e0,.int .i64 e1,.int .i64 e2,.string e3,.slice q0 q1 q2,.slice q3 q4 q5,.slice none 0 0,.slice none 0 0] V16):=by show Bx _ _ _; rw [hV16]; exact HBs.o.far (by have:=HLas.o; omega)
  replace HD : Hx (Rd rb tv ts en w (n3) V16):=by show Rd _ _ _ _ _ _ _; rw [hV16]; exact HD.o.set (by exact HLa.o)
  replace HOFF : Hx (Off z none V16 (fun W => XC W 1 [.int .i64 kd,.int .i64 p,.string x,.string y,.int .i64 e0,.int .i64 e1,.int .i64 e2,.string e3,.slice q0 q1 q2,.slice q3 q4 q5,.slice none 0 0,.slice none 0 0] sd)):=by show Off _ _ _ _; rw [hV16]; exact HOFF.o.set HZza.o
  obtain ⟨V17,hV17⟩:=nm (V16.setCell ⟨ba,6,none⟩ (.int .i64 e2))
  replace HBa : Hx (Bx ba [.int .i64 kd,.int .i64 p,.string x,.string y,.int .i64 e0,.int .i64 e1,.int .i64 e2,.string ⟨#[]⟩,.slice none 0 0,.slice none 0 0,.slice none 0 0,.slice none 0 0] V17):=by show Bx _ _ _; rw [hV17]; exact HBa.o.set (j:=6) (by simp)
  replace HBs : Hx (Bx bs [.int .i64 kd,.int .i64 p,.string x,.string y,.int .i64 e0,.int .i64 e1,.int .i64 e2,.string e3,.slice q0 q1 q2,.slice q3 q4 q5,.slice none 0 0,.slice none 0 0] V17):=by show Bx _ _ _; rw [hV17]; exact HBs.o.far (by have:=HLas.o; omega)
  replace HD : Hx (Rd rb tv ts en w (n3) V17):=by show Rd _ _ _ _ _ _ _; rw [hV17]; exact HD.o.set (by exact HLa.o)
  replace HOFF : Hx (Off z none V17 (fun W => XC W 1 [.int .i64 kd,.int .i64 p,.string x,.string y,.int .i64 e0,.int .i64 e1,.int .i64 e2,.string e3,.slice q0 q1 q2,.slice q3 q4 q5,.slice none 0 0,.slice none 0 0] sd)):=by show Off _ _ _ _; rw [hV17]; exact HOFF.o.set HZza.o
  obtain ⟨V18,hV18⟩:=nm (V17.setCell ⟨ba,7,none⟩ (.string e3))
  replace HBa : Hx (Bx ba [.int .i64 kd,.int .i64 p,.string x,.string y,.int .i64 e0,.int .i64 e1,.int .i64 e2,.string e3,.slice none 0 0,.slice none 0 0,.slice none 0 0,.slice none 0 0] V18):=by show Bx _ _ _; rw [hV18]; exact HBa.o.set (j:=7) (by simp)
  replace HBs : Hx (Bx bs [.int .i64 kd,.int .i64 p,.string x,.string y,.int .i64 e0,.int .i64 e1,.int .i64 e2,.string e3,.slice q0 q1 q2,.slice q3 q4 q5,.slice none 0 0,.slice none 0 0] V18):=by show Bx _ _ _; rw [hV18]; exact HBs.o.far (by have:=HLas.o; omega)
  replace HD : Hx (Rd rb tv ts en w (n3) V18):=by show Rd _ _ _ _ _ _ _; rw [hV18]; exact HD.o.set (by exact HLa.o)
  replace HOFF : Hx (Off z none V18 (fun W => XC W 1 [.int .i64 kd,.int .i64 p,.string x,.string y,.int .i64 e0,.int .i64 e1,.int .i64 e2,.string e3,.slice q0 q1 q2,.slice q3 q4 q5,.slice none 0 0,.slice none 0 0] sd)):=by show Off _ _ _ _; rw [hV18]; exact HOFF.o.set HZza.o
  obtain ⟨V19,hV19⟩:=nm (V18.setCell ⟨ba,8,none⟩ (.slice q0 q1 q2))
  replace HBa : Hx (Bx ba [.int .i64 kd,.int .i64 p,.string x,.string y,.int .i64 e0,.int .i64 e1,.int .i64 e2,.string e3,.slice q0 q1 q2,.slice none 0 0,.slice none 0 0,.slice none 0 0] V19):=by show Bx _ _ _; rw [hV19]; exact HBa.o.set (j:=8) (by simp)
  replace HBs : Hx (Bx bs [.int .i64 kd,.int .i64 p,.string x,.string y,.int .i64 e0,.int .i64 e1,.int .i64 e2,.string e3,.slice q0 q1 q2,.slice q3 q4 q5,.slice none 0 0,.slice none 0 0] V19):=by show Bx _ _ _; rw [hV19]; exact HBs.o.far (by have:=HLas.o; omega)
  replace HD : Hx (Rd rb tv ts en w (n3) V19):=by show Rd _ _ _ _ _ _ _; rw [hV19]; exact HD.o.set (by exact HLa.o)
  replace HOFF : Hx (Off z none V19 (fun W => XC W 1 [.int .i64 kd,.int .i64 p,.string x,.string y,.int .i64 e0,.int .i64 e1,.int .i64 e2,.string e3,.slice q0 q1 q2,.slice q3 q4 q5,.slice none 0 0,.slice none 0 0] sd)):=by show Off _ _ _ _; rw [hV19]; exact HOFF.o.set HZza.o
  obtain ⟨V20,hV20⟩:=nm (V19.setCell ⟨ba,9,none⟩ (.slice q3 q4 q5))
  replace HBa : Hx (Bx ba [.int .i64 kd,.int .i64 p,.string x,.string y,.int .i64 e0,.int .i64 e1,.int .i64 e2,.string e3,.slice q0 q1 q2,.slice q3 q4 q5,.slice none 0 0,.slice none 0 0] V20):=by show Bx _ _ _; rw [hV20]; exact HBa.o.set (j:=9) (by simp)
  replace HBs : Hx (Bx bs [.int .i64 kd,.int .i64 p,.string x,.string y,.int .i64 e0,.int .i64 e1,.int .i64 e2,.string e3,.slice q0 q1 q2,.slice q3 q4 q5,.slice none 0 0,.slice none 0 0] V20):=by show Bx _ _ _; rw [hV20]; exact HBs.o.far (by have:=HLas.o; omega)
  replace HD : Hx (Rd rb tv ts en w (n3) V20):=by show Rd _ _ _ _ _ _ _; rw [hV20]; exact HD.o.set (by exact HLa.o)
  replace HOFF : Hx (Off z none V20 (fun W => XC W 1 [.int .i64 kd,.int .i64 p,.string x,.string y,.int .i64 e0,.int .i64 e1,.int .i64 e2,.string e3,.slice q0 q1 q2,.slice q3 q4 q5,.slice none 0 0,.slice none 0 0] sd)):=by show Off _ _ _ _; rw [hV20]; exact HOFF.o.set HZza.o
  obtain ⟨V21,hV21⟩:=nm (V20.setCell ⟨ba,10,none⟩ (.slice none 0 0))
  replace HBa : Hx (Bx ba [.int .i64 kd,.int .i64 p,.string x,.string y,.int .i64 e0,.int .i64 e1,.int .i64 e2,.string e3,.slice q0 q1 q2,.slice q3 q4 q5,.slice none 0 0,.slice none 0 0] V21):=by show Bx _ _ _; rw [hV21]; exact HBa.o.set (j:=10) (by simp)
  replace HBs : Hx (Bx bs [.int .i64 kd,.int .i64 p,.string x,.string y,.int .i64 e0,.int .i64 e1,.int .i64 e2,.string e3,.slice q0 q1 q2,.slice q3 q4 q5,.slice none 0 0,.slice none 0 0] V21):=by show Bx _ _ _; rw [hV21]; exact HBs.o.far (by have:=HLas.o; omega)
  replace HD : Hx (Rd rb tv ts en w (n3) V21):=by show Rd _ _ _ _ _ _ _; rw [hV21]; exact HD.o.set (by exact HLa.o)
  replace HOFF : Hx (Off z none V21 (fun W => XC W 1 [.int .i64 kd,.int .i64 p,.string x,.string y,.int .i64 e0,.int .i64 e1,.int .i64 e2,.string e3,.slice q0 q1 q2,.slice q3 q4 q5,.slice none 0 0,.slice none 0 0] sd)):=by show Off _ _ _ _; rw [hV21]; exact HOFF.o.set HZza.o
  obtain ⟨V22,hV22⟩:=nm (V21.setCell ⟨ba,11,none⟩ (.slice none 0 0))
  replace HBa : Hx (Bx ba [.int .i64 kd,.int .i64 p,.string x,.string y,.int .i64 e0,.int .i64 e1,.int .i64 e2,.string e3,.slice q0 q1 q2,.slice q3 q4 q5,.slice none 0 0,.slice none 0 0] V22):=by show Bx _ _ _; rw [hV22]; exact HBa.o.set (j:=11) (by simp)
  replace HBs : Hx (Bx bs [.int .i64 kd,.int .i64 p,.string x,.string y,.int .i64 e0,.int .i64 e1,.int .i64 e2,.string e3,.slice q0 q1 q2,.slice q3 q4 q5,.slice none 0 0,.slice none 0 0] V22):=by show Bx _ _ _; rw [hV22]; exact HBs.o.far (by have:=HLas.o; omega)
  replace HD : Hx (Rd rb tv ts en w (n3) V22):=by show Rd _ _ _ _ _ _ _; rw [hV22]; exact HD.o.set (by exact HLa.o)
  replace HOFF : Hx (Off z none V22 (fun W => XC W 1 [.int .i64 kd,.int .i64 p,.string x,.string y,.int .i64 e0,.int .i64 e1,.int .i64 e2,.string e3,.slice q0 q1 q2,.slice q3 q4 q5,.slice none 0 0,.slice none 0 0] sd)):=by show Off _ _ _ _; rw [hV22]; exact HOFF.o.set HZza.o
  go_wp2_with fail
  refine bodyPost_ret (v:=.agg #[.int .i64 kd,.int .i64 p,.string x,.string y,.int .i64 e0,.int .i64 e1,.int .i64 e2,.string e3,.slice q0 q1 q2,.slice q3 q4 q5,.slice none 0 0,.slice none 0 0]) (by simp [results,Tryz.results137,go_sem, *]) rfl ?_
  rw [← hV11,← hV12,← hV13,← hV14,← hV15,← hV16,← hV17,← hV18,← hV19,← hV20,← hV21,← hV22]
  have hlt:=HR0.o
  rw [HRP.o] at hlt
  have hlt2:=pStmt_lt hlt.symm
  rw [HRP.o]
  refine ⟨_,_,_,_,_,_,_,_,_,_,_,_,_,_,_,_,_,_,_,_,rfl,fun W hW => ?_,hlt2,HD.o.gr,HD.o.st⟩
  exact XC.mono (by omega) ((HOFF.o.base HWz.o) W hW)
end
end Go.Proofs.YtipngnjffjajpaaGreatDoor.Tx
