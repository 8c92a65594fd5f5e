/- Package tree's reader: what a variable becomes. -/
import Derived.Test.YtipngnjffjajpaaGreatDoorG09
namespace Go.Proofs.YtipngnjffjajpaaGreatDoor.Tx
open Go.RowKit
set_option linter.unusedVariables false
/-- but for the reader and one more, what lay there is as it was. -/
def Fz (rb sb : Nat) (u V : World) : Prop:=u.heap.size≤V.heap.size∧∀ k,k < u.heap.size→k≠rb→k≠sb→V.heap[k]? = u.heap[k]?
section
variable {rb sb b j : Nat} {u V V' : World} {x : Value}
theorem Fz.refl (rb sb : Nat) (u : World) : Fz rb sb u u:=⟨Nat.le_refl _,fun _ _ _ _ => rfl⟩
theorem Fz.over (h : Fz rb sb u V) (hb : Ov V V') : Fz rb sb u V':=⟨Nat.le_trans h.1 hb.size,fun k h1 h2 h3 => (hb.block k (Nat.lt_of_lt_of_le h1 h.1)).trans (h.2 k h1 h2 h3)⟩
theorem Fz.call (h : Fz rb sb u V) (hg : V.grownBy V' (some rb)) : Fz rb sb u V':=⟨Nat.le_trans h.1 hg.size,fun k h1 h2 h3 => (hg.block k (Nat.lt_of_lt_of_le h1 h.1) (nsr h2)).trans (h.2 k h1 h2 h3)⟩
theorem Fz.set (h : Fz rb sb u V) (hb : b = sb∨u.heap.size≤b) : Fz rb sb u (V.setCell ⟨b,j,none⟩ x):=⟨by rw [(set_all _ _ _).2.2.2]; exact h.1,fun k h1 h2 h3 => by
  rw [Below.heap_setCell _ _ _ _ (by show k≠b; rcases hb with e | e <;> omega)]
  exact h.2 k h1 h2 h3⟩
end
theorem call169 (args : Array Value) (w : World) : (callFunc 169 args).run Tryz.prog w = .ok (.enter 169 args) w:=by simp [go_sem]
set_option maxHeartbeats 8000000 in
set_option maxRecDepth 100000 in
theorem become_c {rb : Nat} {tv : Value} {ts : List Tok} {en : Nat} (hall : ts.all isAlone = true) {w : World} {bs : Nat} (at_ : Int) (n : Nat) (u : World) (hd : Rd rb tv ts en w n u) (hsb : w.heap.size≤bs) (hb : Bx bs [.int .i64 0,.int .i64 at_,.string ⟨#[]⟩,.string ⟨#[]⟩,.int .i64 0,.int .i64 0,.int .i64 0,.string ⟨#[]⟩,.slice none 0 0,.slice none 0 0,.slice none 0 0,.slice none 0 0] u) :
    Calls Tryz.prog 157 #[.pointer (some ⟨rb,0,none⟩),.pointer (some ⟨bs,0,none⟩)] u (PostC ts en (pBecome ts en at_ n) (fun d n1 e w' => e = .returned (.tuple #[])∧∃ (kd : Int) (x y : ByteArray) (e0 e1 e2 : Int) (e3 : ByteArray) (q0 : Option Addr) (q1 q2 : Nat) (q3 : Option Addr) (q4 q5 : Nat),Bx bs [.int .i64 kd,.int .i64 at_,.string x,.string y,.int .i64 e0,.int .i64 e1,.int .i64 e2,.string e3,.slice q0 q1 q2,.slice q3 q4 q5,.slice none 0 0,.slice none 0 0] w'∧Off u.heap.size none w' (fun W => XC W 1 [.int .i64 kd,.int .i64 at_,.string x,.string y,.int .i64 e0,.int .i64 e1,.int .i64 e2,.string e3,.slice q0 q1 q2,.slice q3 q4 q5,.slice none 0 0,.slice none 0 0] d)∧Rd rb tv ts en w n1 w'∧Fz rb bs u w') (fun w' => w.grownBy w' (some rb))):=by
  obtain ⟨res,hres⟩:=nm (pBecome ts en at_ n)
  rw [← hres]
  have HRP : Hx (res = bindR (pName ts n) fun x n1 => bindR (pTake ts [61] n1) fun _ n2 => bindR (pX ts en n2) fun e n3 =>
      if eKind e = 2∧isT ts n3 [40] = true then
        bindR (pEach ts [44] (pX ts en) (ts.length + 1) (!isT ts (n3 + 1) [41]) [] (n3 + 1)) fun l n4 => bindR (pTake ts [41] n4) fun _ n5 => .inl (stD 2 at_ x ⟨(eName e).toArray⟩ noE l [] [],n5)
      else .inl (stD 1 at_ x noS e [] [] [],n3)):=hres
  have HD:=hide hd
  have HBs:=hide hb
  have HLs:=hide hsb
  have HFZ:=hide (Fz.refl rb bs u)
  clear hres hd hb hsb
  have HUL : Hx (u.heap.size≤u.heap.size):=HFZ.o.1
  obtain ⟨V1,hV1⟩:=nm (u.alloc (.cells #[.pointer (some ⟨rb,0,none⟩)] 91))
  obtain ⟨br,hbr⟩:=nm u.heap.size
  have hsbr:=hbr
  have HLr : Hx (w.heap.size≤br):=by show _≤_; rw [hsbr]; exact HD.o.size
  have HLsr : Hx (bs < br):=by show _ < _; rw [hsbr]; exact HBs.o.lt
  have HBr : Hx (Bx br [.pointer (some ⟨rb,0,none⟩)] V1):=by show Bx _ _ _; rw [hV1,hsbr]; exact Bx.new u [.pointer (some ⟨rb,0,none⟩)] 91
  replace HBs : Hx (Bx bs [.int .i64 0,.int .i64 at_,.string ⟨#[]⟩,.string ⟨#[]⟩,.int .i64 0,.int .i64 0,.int .i64 0,.string ⟨#[]⟩,.slice none 0 0,.slice none 0 0,.slice none 0 0,.slice none 0 0] V1):=by show Bx _ _ _; rw [hV1]; exact HBs.o.over (bA _ _)
  replace HD : Hx (Rd rb tv ts en w (n) V1):=by show Rd _ _ _ _ _ _ _; rw [hV1]; exact HD.o.over (bA _ _)
  replace HFZ : Hx (Fz rb bs u V1):=by show Fz _ _ _ _; rw [hV1]; exact HFZ.o.over (bA _ _)
  have HUr : Hx (u.heap.size≤br):=by show _≤_; rw [hsbr]; exact HUL.o
  clear HUL
  have HUL : Hx (u.heap.size≤V1.heap.size):=HFZ.o.1
  obtain ⟨V2,hV2⟩:=nm (V1.alloc (.cells #[.pointer (some ⟨bs,0,none⟩)] 164))
  obtain ⟨bq,hbq⟩:=nm (br + 1)
  have hsbq : bq = V1.heap.size:=by rw [hbq,hV1,alS,hsbr]
  have HLq : Hx (w.heap.size≤bq):=by show _≤_; rw [hsbq]; exact HD.o.size
  have HLsq : Hx (bs < bq):=by show _ < _; rw [hsbq]; exact HBs.o.lt
  have HLrq : Hx (br < bq):=by show _ < _; rw [hsbq]; exact HBr.o.lt
  have HBq : Hx (Bx bq [.pointer (some ⟨bs,0,none⟩)] V2):=by show Bx _ _ _; rw [hV2,hsbq]; exact Bx.new V1 [.pointer (some ⟨bs,0,none⟩)] 164
  replace HBs : Hx (Bx bs [.int .i64 0,.int .i64 at_,.string ⟨#[]⟩,.string ⟨#[]⟩,.int .i64 0,.int .i64 0,.int .i64 0,.string ⟨#[]⟩,.slice none 0 0,.slice none 0 0,.slice none 0 0,.slice none 0 0] V2):=by show Bx _ _ _; rw [hV2]; exact HBs.o.over (bA _ _)
  replace HBr : Hx (Bx br [.pointer (some ⟨rb,0,none⟩)] V2):=by show Bx _ _ _; rw [hV2]; exact HBr.o.over (bA _ _)
  replace HD : Hx (Rd rb tv ts en w (n) V2):=by show Rd _ _ _ _ _ _ _; rw [hV2]; exact HD.o.over (bA _ _)
  replace HFZ : Hx (Fz rb bs u V2):=by show Fz _ _ _ _; rw [hV2]; exact HFZ.o.over (bA _ _)
  have HUq : Hx (u.heap.size≤bq):=by show _≤_; rw [hsbq]; exact HUL.o
  clear HUL
  go_enter Tryz.func157,Tryz.ntmps157
  go_wp2_with fail
  rw [← hV1,← hbr,← hV2,← hbq]
  clear hsbq hsbr
  clear hbq hV2 hbr hV1
  have K1:=hide fun X hX => name_c (rb:=rb) (tv:=tv) (ts:=ts) (en:=en) n X hX
  obtain ⟨V3,hV3⟩:=nm V2.drew
  replace HBs : Hx (Bx bs [.int .i64 0,.int .i64 at_,.string ⟨#[]⟩,.string ⟨#[]⟩,.int .i64 0,.int .i64 0,.int .i64 0,.string ⟨#[]⟩,.slice none 0 0,.slice none 0 0,.slice none 0 0,.slice none 0 0] V3):=by show Bx _ _ _; rw [hV3]; exact HBs.o.over (bD _)
  replace HBr : Hx (Bx br [.pointer (some ⟨rb,0,none⟩)] V3):=by show Bx _ _ _; rw [hV3]; exact HBr.o.over (bD _)
  replace HBq : Hx (Bx bq [.pointer (some ⟨bs,0,none⟩)] V3):=by show Bx _ _ _; rw [hV3]; exact HBq.o.over (bD _)
  replace HD : Hx (Rd rb tv ts en w (n) V3):=by show Rd _ _ _ _ _ _ _; rw [hV3]; exact HD.o.over (bD _)
  replace HFZ : Hx (Fz rb bs u V3):=by show Fz _ _ _ _; rw [hV3]; exact HFZ.o.over (bD _)
  refine gS (fun Wz => Wz.cell? ⟨bq,0,none⟩ = some (.pointer (some ⟨bs,0,none⟩))∧Wz.cell? ⟨br,0,none⟩ = some (.pointer (some ⟨rb,0,none⟩))) (by rw [← hV3]; exact ⟨HBq.o.row 0 _ rfl,HBr.o.row 0 _ rfl⟩) fun hHeld => ?_
  rw [← hV3] at hHeld ⊢
  clear hV3
  refine kT 0 ?_
  refine kT 1 ?_
  refine rdA 2 rfl fun K hK => ?_
  go_simp
  refine (K1.o _ HD.o.st).mono ?_
  rintro e w4 hpo
  obtain ⟨m,ho⟩ | ⟨x,n1,ho⟩:=res_cases (pName ts n)
  · replace hpo : PostC ts en (pName ts n) _ _ e w4:=hpo
    rw [ho] at hpo
    obtain ⟨rfl,hg⟩:=hpo
    have HO : Hx (res = .inr m):=by show _ = _; rw [HRP.o,ho]; rfl
    have HG:=hide (grownBy_trans HD.o.gr hg)
    clear hg ho hK hHeld
    unfold gaveUpAt
    go_simp
    refine ⟨rfl,?_⟩
    rw [HO.o]
    exact ⟨rfl,HG.o⟩
  replace hpo : PostC ts en (pName ts n) _ _ e w4:=hpo
  rw [ho] at hpo
  obtain ⟨rfl,hg,hs⟩:=hpo
  have hr:=HRP.o
  rw [ho,bindR_inl] at hr
  replace HRP:=hide hr
  have HOO:=hide ho
  clear hr ho hHeld
  clear HOO
  replace HFZ:=hide (HFZ.o.call hg)
  replace HBs:=hide (HBs.o.keep hg (by have:=HD.o.rlt; have:=HLs.o; omega))
  replace HBr:=hide (HBr.o.keep hg (by have:=HD.o.rlt; have:=HLr.o; omega))
  replace HBq:=hide (HBq.o.keep hg (by have:=HD.o.rlt; have:=HLq.o; omega))
  replace HD : Hx (Rd rb tv ts en w (n1) w4):=HD.o.call hg hs
  clear hg hs
  go_simp
  refine xK hK (⟨HBq.o.row 0 _ rfl,HBr.o.row 0 _ rfl⟩) fun hHeld => ?_
  clear hK K
  refine kT 3 ?_
  refine kT 4 ?_
  refine rdA 5 rfl fun K hK => ?_
  have nesr : bs≠br:=by have:=HLsr.o; omega
  have ners : br≠bs:=by have:=HLsr.o; omega
  have nesq : bs≠bq:=by have:=HLsq.o; omega
  have neqs : bq≠bs:=by have:=HLsq.o; omega
  have nerq : br≠bq:=by have:=HLrq.o; omega
  have neqr : bq≠br:=by have:=HLrq.o; omega
  obtain ⟨cs0,cs1,cs2,cs3,cs4,cs5,cs6,cs7,cs8,cs9,cs10,cs11⟩:=rc12 HBs.o.row
  have fs0:=HBs.o.fz 0
  have fs1:=HBs.o.fz 1
  have fs2:=HBs.o.fz 2
  have fs3:=HBs.o.fz 3
  have fs4:=HBs.o.fz 4
  have fs5:=HBs.o.fz 5
  have fs6:=HBs.o.fz 6
  have fs7:=HBs.o.fz 7
  have fs8:=HBs.o.fz 8
  have fs9:=HBs.o.fz 9
  have fs10:=HBs.o.fz 10
  have fs11:=HBs.o.fz 11
  obtain ⟨V5,hV5⟩:=nm (w4.setCell ⟨bs,2,none⟩ (.string x))
  replace HBs : Hx (Bx bs [.int .i64 0,.int .i64 at_,.string x,.string ⟨#[]⟩,.int .i64 0,.int .i64 0,.int .i64 0,.string ⟨#[]⟩,.slice none 0 0,.slice none 0 0,.slice none 0 0,.slice none 0 0] V5):=by show Bx _ _ _; rw [hV5]; exact HBs.o.set (j:=2) (by simp)
  replace HBr : Hx (Bx br [.pointer (some ⟨rb,0,none⟩)] V5):=by show Bx _ _ _; rw [hV5]; exact HBr.o.far (by have:=HLsr.o; omega)
  replace HBq : Hx (Bx bq [.pointer (some ⟨bs,0,none⟩)] V5):=by show Bx _ _ _; rw [hV5]; exact HBq.o.far (by have:=HLsq.o; omega)
  replace HD : Hx (Rd rb tv ts en w (n1) V5):=by show Rd _ _ _ _ _ _ _; rw [hV5]; exact HD.o.set (by exact HLs.o)
  replace HFZ : Hx (Fz rb bs u V5):=by show Fz _ _ _ _; rw [hV5]; exact HFZ.o.set (Or.inl rfl)
  go_simp
  rw [← hV5]
  clear hV5 hHeld
  clear fs11 fs10 fs9 fs8 fs7 fs6 fs5 fs4 fs3 fs2 fs1 fs0 cs11 cs10 cs9 cs8 cs7 cs6 cs5 cs4 cs3 cs2 cs1 cs0 neqr nerq neqs nesq ners nesr
  refine xK hK (⟨HBq.o.row 0 _ rfl,HBr.o.row 0 _ rfl⟩) fun hHeld => ?_
  clear hK K
  refine gE ?_
  have K2:=hide (take_c ⟨#[61]⟩ (by decide) n1 _ HD.o.st)
  clear K1
  have cr0:=HBr.o.row 0 _ rfl
  go_wp2_with fail
  clear cr0
  refine K2.o.mono ?_
  rintro e w6 hpo
  obtain ⟨m,ho⟩ | ⟨_u,n2,ho⟩:=res_cases (pTake ts [61] n1)
  · replace hpo : PostC ts en (pTake ts [61] n1) _ _ e w6:=hpo
    rw [ho] at hpo
    obtain ⟨rfl,hg⟩:=hpo
    have HO : Hx (res = .inr m):=by show _ = _; rw [HRP.o,ho]; rfl
    have HG:=hide (grownBy_trans HD.o.gr hg)
    clear hg ho
    unfold gaveUpAt
    go_wp2_with fail
    refine ⟨rfl,?_⟩
    rw [HO.o]
    exact ⟨rfl,HG.o⟩
  replace hpo : PostC ts en (pTake ts [61] n1) _ _ e w6:=hpo
  rw [ho] at hpo
  obtain ⟨rfl,hg,hs⟩:=hpo
  have hr:=HRP.o
  rw [ho,bindR_inl] at hr
  replace HRP:=hide hr
  have HOO:=hide ho
  clear hr ho
  clear HOO
  replace HFZ:=hide (HFZ.o.call hg)
  replace HBs:=hide (HBs.o.keep hg (by have:=HD.o.rlt; have:=HLs.o; omega))
  replace HBr:=hide (HBr.o.keep hg (by have:=HD.o.rlt; have:=HLr.o; omega))
  replace HBq:=hide (HBq.o.keep hg (by have:=HD.o.rlt; have:=HLq.o; omega))
  replace HD : Hx (Rd rb tv ts en w (n2) w6):=HD.o.call hg hs
  clear hg hs
  have K3:=hide (expr_c hall n2 _ HD.o.st)
  clear K2
  have cr0:=HBr.o.row 0 _ rfl
  go_wp2_with fail
  clear cr0
  obtain ⟨z,hz⟩:=nm w6.heap.size
  have HUz : Hx (u.heap.size≤z):=by show _≤_; rw [hz]; exact HFZ.o.1
  have HWz : Hx (w.heap.size≤z):=by show _≤_; rw [hz]; exact HD.o.size
  have HZzs : Hx (bs < z):=by show _ < _; rw [hz]; exact HBs.o.lt
  have HZzr : Hx (br < z):=by show _ < _; rw [hz]; exact HBr.o.lt
  have HZzq : Hx (bq < z):=by show _ < _; rw [hz]; exact HBq.o.lt
  refine K3.o.mono ?_
  rintro e w7 hpo
  obtain ⟨m,ho⟩ | ⟨ed,n3,ho⟩:=res_cases (pX ts en n2)
  · replace hpo : PostC ts en (pX ts en n2) _ _ e w7:=hpo
    rw [ho] at hpo
    obtain ⟨rfl,hg⟩:=hpo
    have HO : Hx (res = .inr m):=by show _ = _; rw [HRP.o,ho]; rfl
    have HG:=hide (grownBy_trans HD.o.gr hg)
    clear hg ho
    unfold gaveUpAt
    go_wp2_with fail
    refine ⟨rfl,?_⟩
    rw [HO.o]
    exact ⟨rfl,HG.o⟩
  replace hpo : PostC ts en (pX ts en n2) _ _ e w7:=hpo
  rw [ho] at hpo
  obtain ⟨e0,e1,e2,e3,q0,q1,q2,rfl,hoff,hek,hen,hg,hs⟩:=hpo
  have hr:=HRP.o
  rw [ho,bindR_inl] at hr
  replace HRP:=hide hr
  have HOO:=hide ho
  clear hr ho
  rw [← hz] at hoff
  have HOFF:=hide hoff
  have HEK:=hide (And.intro hek hen)
  clear hoff hek hen hz
  clear HOO
  replace HFZ:=hide (HFZ.o.call hg)
  replace HBs:=hide (HBs.o.keep hg (by have:=HD.o.rlt; have:=HLs.o; omega))
  replace HBr:=hide (HBr.o.keep hg (by have:=HD.o.rlt; have:=HLr.o; omega))
  replace HBq:=hide (HBq.o.keep hg (by have:=HD.o.rlt; have:=HLq.o; omega))
  replace HD : Hx (Rd rb tv ts en w (n3) w7):=HD.o.call hg hs
  clear hg hs
  clear K3
  have cr0:=alUp (HBr.o.row 0 _ rfl) (.cells #[.int .i64 e0,.int .i64 e1,.int .i64 e2,.string e3,.slice q0 q1 q2] 49)
  have HUL : Hx (u.heap.size≤w7.heap.size):=HFZ.o.1
  obtain ⟨V8,hV8⟩:=nm (w7.alloc (.cells #[.int .i64 e0,.int .i64 e1,.int .i64 e2,.string e3,.slice q0 q1 q2] 49))
  obtain ⟨be,hbe⟩:=nm w7.heap.size
  have hsbe:=hbe
  have HLe : Hx (w.heap.size≤be):=by show _≤_; rw [hsbe]; exact HD.o.size
  have HLse : Hx (bs < be):=by show _ < _; rw [hsbe]; exact HBs.o.lt
  have HLre : Hx (br < be):=by show _ < _; rw [hsbe]; exact HBr.o.lt
  have HLqe : Hx (bq < be):=by show _ < _; rw [hsbe]; exact HBq.o.lt
  have HBe : Hx (Bx be [.int .i64 e0,.int .i64 e1,.int .i64 e2,.string e3,.slice q0 q1 q2] V8):=by show Bx _ _ _; rw [hV8,hsbe]; exact Bx.new w7 [.int .i64 e0,.int .i64 e1,.int .i64 e2,.string e3,.slice q0 q1 q2] 49
  replace HBs : Hx (Bx bs [.int .i64 0,.int .i64 at_,.string x,.string ⟨#[]⟩,.int .i64 0,.int .i64 0,.int .i64 0,.string ⟨#[]⟩,.slice none 0 0,.slice none 0 0,.slice none 0 0,.slice none 0 0] V8):=by show Bx _ _ _; rw [hV8]; exact HBs.o.over (bA _ _)
  replace HBr : Hx (Bx br [.pointer (some ⟨rb,0,none⟩)] V8):=by show Bx _ _ _; rw [hV8]; exact HBr.o.over (bA _ _)
  replace HBq : Hx (Bx bq [.pointer (some ⟨bs,0,none⟩)] V8):=by show Bx _ _ _; rw [hV8]; exact HBq.o.over (bA _ _)
  replace HD : Hx (Rd rb tv ts en w (n3) V8):=by show Rd _ _ _ _ _ _ _; rw [hV8]; exact HD.o.over (bA _ _)
  replace HOFF : Hx (Off z none V8 (fun W => XE W 61 [.int .i64 e0,.int .i64 e1,.int .i64 e2,.string e3,.slice q0 q1 q2] ed)):=by show Off _ _ _ _; rw [hV8]; exact HOFF.o.over (bA _ _)
  replace HFZ : Hx (Fz rb bs u V8):=by show Fz _ _ _ _; rw [hV8]; exact HFZ.o.over (bA _ _)
  have HUe : Hx (u.heap.size≤be):=by show _≤_; rw [hsbe]; exact HUL.o
  clear HUL
  by_cases hk2 : e0 = 2
  · have HK2:=hide hk2
    have K4:=hide (takes_c ⟨#[40]⟩ (by decide) n3 _ HD.o.st)
    have hk3 : (e0 != 2) = false:=by simpa using hk2
    have hk4 : (e0 == 2) = true:=by simpa using hk2
    clear hk2
    go_wp2_with fail
    rw [← hV8,← hbe]
    clear hsbe cr0
    clear hbe hV8
    clear hk3 hk4
    refine K4.o.mono ?_
    rintro e wt ⟨rfl,hg,hs⟩
    replace hs : St rb tv ts en (if isT ts n3 [40] = true then n3 + 1 else n3) wt:=hs
    cases hq : isT ts n3 [40] with
    | false =>
      rw [hq] at hs
      have hr:=HRP.o
      rw [if_neg (by rw [hq]; simp)] at hr
      replace HRP:=hide hr
      replace hs : St rb tv ts en n3 wt:=hs
      try rw [show isT ts n3 (ByteArray.mk #[40]).data.toList = false from hq]
      clear hr hq K4
      replace HFZ:=hide (HFZ.o.call hg)
      replace HBs:=hide (HBs.o.keep hg (by have:=HD.o.rlt; have:=HLs.o; omega))
      replace HBr:=hide (HBr.o.keep hg (by have:=HD.o.rlt; have:=HLr.o; omega))
      replace HBq:=hide (HBq.o.keep hg (by have:=HD.o.rlt; have:=HLq.o; omega))
      replace HBe:=hide (HBe.o.keep hg (by have:=HD.o.rlt; have:=HLe.o; omega))
      replace HOFF:=hide (HOFF.o.keep hg (by have:=HD.o.rlt; have:=HWz.o; omega))
      replace HD : Hx (Rd rb tv ts en w (n3) wt):=HD.o.call hg hs
      clear hg hs
      go_wp2_with fail
      obtain ⟨V9,hV9⟩:=nm wt.drew
      replace HBs : Hx (Bx bs [.int .i64 0,.int .i64 at_,.string x,.string ⟨#[]⟩,.int .i64 0,.int .i64 0,.int .i64 0,.string ⟨#[]⟩,.slice none 0 0,.slice none 0 0,.slice none 0 0,.slice none 0 0] V9):=by show Bx _ _ _; rw [hV9]; exact HBs.o.over (bD _)
      replace HBr : Hx (Bx br [.pointer (some ⟨rb,0,none⟩)] V9):=by show Bx _ _ _; rw [hV9]; exact HBr.o.over (bD _)
      replace HBq : Hx (Bx bq [.pointer (some ⟨bs,0,none⟩)] V9):=by show Bx _ _ _; rw [hV9]; exact HBq.o.over (bD _)
      replace HBe : Hx (Bx be [.int .i64 e0,.int .i64 e1,.int .i64 e2,.string e3,.slice q0 q1 q2] V9):=by show Bx _ _ _; rw [hV9]; exact HBe.o.over (bD _)
      replace HD : Hx (Rd rb tv ts en w (n3) V9):=by show Rd _ _ _ _ _ _ _; rw [hV9]; exact HD.o.over (bD _)
      replace HFZ : Hx (Fz rb bs u V9):=by show Fz _ _ _ _; rw [hV9]; exact HFZ.o.over (bD _)
      replace HOFF : Hx (Off z none V9 (fun W => XE W 61 [.int .i64 e0,.int .i64 e1,.int .i64 e2,.string e3,.slice q0 q1 q2] ed)):=by show Off _ _ _ _; rw [hV9]; exact HOFF.o.over (bD _)
      refine gS (fun Wz => Wz.cell? ⟨bq,0,none⟩ = some (.pointer (some ⟨bs,0,none⟩))∧Wz.cell? ⟨be,0,none⟩ = some (.int .i64 e0)∧Wz.cell? ⟨be,1,none⟩ = some (.int .i64 e1)∧Wz.cell? ⟨be,2,none⟩ = some (.int .i64 e2)∧Wz.cell? ⟨be,3,none⟩ = some (.string e3)∧Wz.cell? ⟨be,4,none⟩ = some (.slice q0 q1 q2)) (by rw [← hV9]; exact ⟨HBq.o.row 0 _ rfl,HBe.o.row 0 _ rfl,HBe.o.row 1 _ rfl,HBe.o.row 2 _ rfl,HBe.o.row 3 _ rfl,HBe.o.row 4 _ rfl⟩) fun hHeld => ?_
      rw [← hV9] at hHeld ⊢
      clear hV9
      refine kT 0 ?_
      refine kT 1 ?_
      refine kT 2 ?_
      refine kT 3 ?_
      refine kT 4 ?_
      refine rdA 5 rfl fun K hK => ?_
      have nesr : bs≠br:=by have:=HLsr.o; omega
      have ners : br≠bs:=by have:=HLsr.o; omega
      have nesq : bs≠bq:=by have:=HLsq.o; omega
      have neqs : bq≠bs:=by have:=HLsq.o; omega
      have nese : bs≠be:=by have:=HLse.o; omega
      have nees : be≠bs:=by have:=HLse.o; omega
      have nerq : br≠bq:=by have:=HLrq.o; omega
      have neqr : bq≠br:=by have:=HLrq.o; omega
      have nere : br≠be:=by have:=HLre.o; omega
      have neer : be≠br:=by have:=HLre.o; omega
      have neqe : bq≠be:=by have:=HLqe.o; omega
      have neeq : be≠bq:=by have:=HLqe.o; omega
      obtain ⟨cs0,cs1,cs2,cs3,cs4,cs5,cs6,cs7,cs8,cs9,cs10,cs11⟩:=rc12 HBs.o.row
      have fs0:=HBs.o.fz 0
      have fs1:=HBs.o.fz 1
      have fs2:=HBs.o.fz 2
      have fs3:=HBs.o.fz 3
      have fs4:=HBs.o.fz 4
      have fs5:=HBs.o.fz 5
      have fs6:=HBs.o.fz 6
      have fs7:=HBs.o.fz 7
      have fs8:=HBs.o.fz 8
      have fs9:=HBs.o.fz 9
      have fs10:=HBs.o.fz 10
      have fs11:=HBs.o.fz 11
      obtain ⟨V10,hV10⟩:=nm (V9.setCell ⟨bs,0,none⟩ (.int .i64 1))
      replace HBs : Hx (Bx bs [.int .i64 1,.int .i64 at_,.string x,.string ⟨#[]⟩,.int .i64 0,.int .i64 0,.int .i64 0,.string ⟨#[]⟩,.slice none 0 0,.slice none 0 0,.slice none 0 0,.slice none 0 0] V10):=by show Bx _ _ _; rw [hV10]; exact HBs.o.set (j:=0) (by simp)
      replace HBr : Hx (Bx br [.pointer (some ⟨rb,0,none⟩)] V10):=by show Bx _ _ _; rw [hV10]; exact HBr.o.far (by have:=HLsr.o; omega)
      replace HBq : Hx (Bx bq [.pointer (some ⟨bs,0,none⟩)] V10):=by show Bx _ _ _; rw [hV10]; exact HBq.o.far (by have:=HLsq.o; omega)
      replace HBe : Hx (Bx be [.int .i64 e0,.int .i64 e1,.int .i64 e2,.string e3,.slice q0 q1 q2] V10):=by show Bx _ _ _; rw [hV10]; exact HBe.o.far (by have:=HLse.o; omega)
      replace HD : Hx (Rd rb tv ts en w (n3) V10):=by show Rd _ _ _ _ _ _ _; rw [hV10]; exact HD.o.set (by exact HLs.o)
      replace HFZ : Hx (Fz rb bs u V10):=by show Fz _ _ _ _; rw [hV10]; exact HFZ.o.set (Or.inl rfl)
      replace HOFF : Hx (Off z none V10 (fun W => XE W 61 [.int .i64 e0,.int .i64 e1,.int .i64 e2,.string e3,.slice q0 q1 q2] ed)):=by show Off _ _ _ _; rw [hV10]; exact HOFF.o.set HZzs.o
      go_simp
      rw [← hV10]
      clear hV10 hHeld
      clear fs11 fs10 fs9 fs8 fs7 fs6 fs5 fs4 fs3 fs2 fs1 fs0 cs11 cs10 cs9 cs8 cs7 cs6 cs5 cs4 cs3 cs2 cs1 cs0 neeq neqe neer nere neqr nerq nees nese neqs nesq ners nesr
      refine xK hK (⟨HBq.o.row 0 _ rfl,HBe.o.row 0 _ rfl,HBe.o.row 1 _ rfl,HBe.o.row 2 _ rfl,HBe.o.row 3 _ rfl,HBe.o.row 4 _ rfl⟩) fun hHeld => ?_
      clear hK K
      refine kT 6 ?_
      refine kT 7 ?_
      refine rdA 8 rfl fun K hK => ?_
      have nesr : bs≠br:=by have:=HLsr.o; omega
      have ners : br≠bs:=by have:=HLsr.o; omega
      have nesq : bs≠bq:=by have:=HLsq.o; omega
      have neqs : bq≠bs:=by have:=HLsq.o; omega
      have nese : bs≠be:=by have:=HLse.o; omega
      have nees : be≠bs:=by have:=HLse.o; omega
      have nerq : br≠bq:=by have:=HLrq.o; omega
      have neqr : bq≠br:=by have:=HLrq.o; omega
      have nere : br≠be:=by have:=HLre.o; omega
      have neer : be≠br:=by have:=HLre.o; omega
      have neqe : bq≠be:=by have:=HLqe.o; omega
      have neeq : be≠bq:=by have:=HLqe.o; omega
      obtain ⟨cs0,cs1,cs2,cs3,cs4,cs5,cs6,cs7,cs8,cs9,cs10,cs11⟩:=rc12 HBs.o.row
      have fs0:=HBs.o.fz 0
      have fs1:=HBs.o.fz 1
      have fs2:=HBs.o.fz 2
      have fs3:=HBs.o.fz 3
      have fs4:=HBs.o.fz 4
      have fs5:=HBs.o.fz 5
      have fs6:=HBs.o.fz 6
      have fs7:=HBs.o.fz 7
      have fs8:=HBs.o.fz 8
      have fs9:=HBs.o.fz 9
      have fs10:=HBs.o.fz 10
      have fs11:=HBs.o.fz 11
      obtain ⟨V11,hV11⟩:=nm (V10.setCell ⟨bs,4,none⟩ (.int .i64 e0))
      replace HBs : Hx (Bx bs [.int .i64 1,.int .i64 at_,.string x,.string ⟨#[]⟩,.int .i64 e0,.int .i64 0,.int .i64 0,.string ⟨#[]⟩,.slice none 0 0,.slice none 0 0,.slice none 0 0,.slice none 0 0] V11):=by show Bx _ _ _; rw [hV11]; exact HBs.o.set (j:=4) (by simp)
      replace HBr : Hx (Bx br [.pointer (some ⟨rb,0,none⟩)] V11):=by show Bx _ _ _; rw [hV11]; exact HBr.o.far (by have:=HLsr.o; omega)
      replace HBq : Hx (Bx bq [.pointer (some ⟨bs,0,none⟩)] V11):=by show Bx _ _ _; rw [hV11]; exact HBq.o.far (by have:=HLsq.o; omega)
      replace HBe : Hx (Bx be [.int .i64 e0,.int .i64 e1,.int .i64 e2,.string e3,.slice q0 q1 q2] V11):=by show Bx _ _ _; rw [hV11]; exact HBe.o.far (by have:=HLse.o; omega)
      replace HD : Hx (Rd rb tv ts en w (n3) V11):=by show Rd _ _ _ _ _ _ _; rw [hV11]; exact HD.o.set (by exact HLs.o)
      replace HFZ : Hx (Fz rb bs u V11):=by show Fz _ _ _ _; rw [hV11]; exact HFZ.o.set (Or.inl rfl)
      replace HOFF : Hx (Off z none V11 (fun W => XE W 61 [.int .i64 e0,.int .i64 e1,.int .i64 e2,.string e3,.slice q0 q1 q2] ed)):=by show Off _ _ _ _; rw [hV11]; exact HOFF.o.set HZzs.o
      obtain ⟨V12,hV12⟩:=nm (V11.setCell ⟨bs,5,none⟩ (.int .i64 e1))
      replace HBs : Hx (Bx bs [.int .i64 1,.int .i64 at_,.string x,.string ⟨#[]⟩,.int .i64 e0,.int .i64 e1,.int .i64 0,.string ⟨#[]⟩,.slice none 0 0,.slice none 0 0,.slice none 0 0,.slice none 0 0] V12):=by show Bx _ _ _; rw [hV12]; exact HBs.o.set (j:=5) (by simp)
      replace HBr : Hx (Bx br [.pointer (some ⟨rb,0,none⟩)] V12):=by show Bx _ _ _; rw [hV12]; exact HBr.o.far (by have:=HLsr.o; omega)
      replace HBq : Hx (Bx bq [.pointer (some ⟨bs,0,none⟩)] V12):=by show Bx _ _ _; rw [hV12]; exact HBq.o.far (by have:=HLsq.o; omega)
      replace HBe : Hx (Bx be [.int .i64 e0,.int .i64 e1,.int .i64 e2,.string e3,.slice q0 q1 q2] V12):=by show Bx _ _ _; rw [hV12]; exact HBe.o.far (by have:=HLse.o; omega)
      replace HD : Hx (Rd rb tv ts en w (n3) V12):=by show Rd _ _ _ _ _ _ _; rw [hV12]; exact HD.o.set (by exact HLs.o)
      replace HFZ : Hx (Fz rb bs u V12):=by show Fz _ _ _ _; rw [hV12]; exact HFZ.o.set (Or.inl rfl)
      replace HOFF : Hx (Off z none V12 (fun W => XE W 61 [.int .i64 e0,.int .i64 e1,.int .i64 e2,.string e3,.slice q0 q1 q2] ed)):=by show Off _ _ _ _; rw [hV12]; exact HOFF.o.set HZzs.o
      obtain ⟨V13,hV13⟩:=nm (V12.setCell ⟨bs,6,none⟩ (.int .i64 e2))
      replace HBs : Hx (Bx bs [.int .i64 1,.int .i64 at_,.string x,.string ⟨#[]⟩,.int .i64 e0,.int .i64 e1,.int .i64 e2,.string ⟨#[]⟩,.slice none 0 0,.slice none 0 0,.slice none 0 0,.slice none 0 0] V13):=by show Bx _ _ _; rw [hV13]; exact HBs.o.set (j:=6) (by simp)
      replace HBr : Hx (Bx br [.pointer (some ⟨rb,0,none⟩)] V13):=by show Bx _ _ _; rw [hV13]; exact HBr.o.far (by have:=HLsr.o; omega)
      replace HBq : Hx (Bx bq [.pointer (some ⟨bs,0,none⟩)] V13):=by show Bx _ _ _; rw [hV13]; exact HBq.o.far (by have:=HLsq.o; omega)
      replace HBe : Hx (Bx be [.int .i64 e0,.int .i64 e1,.int .i64 e2,.string e3,.slice q0 q1 q2] V13):=by show Bx _ _ _; rw [hV13]; exact HBe.o.far (by have:=HLse.o; omega)
      replace HD : Hx (Rd rb tv ts en w (n3) V13):=by show Rd _ _ _ _ _ _ _; rw [hV13]; exact HD.o.set (by exact HLs.o)
      replace HFZ : Hx (Fz rb bs u V13):=by show Fz _ _ _ _; rw [hV13]; exact HFZ.o.set (Or.inl rfl)
      replace HOFF : Hx (Off z none V13 (fun W => XE W 61 [.int .i64 e0,.int .i64 e1,.int .i64 e2,.string e3,.slice q0 q1 q2] ed)):=by show Off _ _ _ _; rw [hV13]; exact HOFF.o.set HZzs.o
      obtain ⟨V14,hV14⟩:=nm (V13.setCell ⟨bs,7,none⟩ (.string e3))
      replace HBs : Hx (Bx bs [.int .i64 1,.int .i64 at_,.string x,.string ⟨#[]⟩,.int .i64 e0,.int .i64 e1,.int .i64 e2,.string e3,.slice none 0 0,.slice none 0 0,.slice none 0 0,.slice none 0 0] V14):=by show Bx _ _ _; rw [hV14]; exact HBs.o.set (j:=7) (by simp)
      replace HBr : Hx (Bx br [.pointer (some ⟨rb,0,none⟩)] V14):=by show Bx _ _ _; rw [hV14]; exact HBr.o.far (by have:=HLsr.o; omega)
      replace HBq : Hx (Bx bq [.pointer (some ⟨bs,0,none⟩)] V14):=by show Bx _ _ _; rw [hV14]; exact HBq.o.far (by have:=HLsq.o; omega)
      replace HBe : Hx (Bx be [.int .i64 e0,.int .i64 e1,.int .i64 e2,.string e3,.slice q0 q1 q2] V14):=by show Bx _ _ _; rw [hV14]; exact HBe.o.far (by have:=HLse.o; omega)
      replace HD : Hx (Rd rb tv ts en w (n3) V14):=by show Rd _ _ _ _ _ _ _; rw [hV14]; exact HD.o.set (by exact HLs.o)
      replace HFZ : Hx (Fz rb bs u V14):=by show Fz _ _ _ _; rw [hV14]; exact HFZ.o.set (Or.inl rfl)
      replace HOFF : Hx (Off z none V14 (fun W => XE W 61 [.int .i64 e0,.int .i64 e1,.int .i64 e2,.string e3,.slice q0 q1 q2] ed)):=by show Off _ _ _ _; rw [hV14]; exact HOFF.o.set HZzs.o
      obtain ⟨V15,hV15⟩:=nm (V14.setCell ⟨bs,8,none⟩ (.slice q0 q1 q2))
      replace HBs : Hx (Bx bs [.int .i64 1,.int .i64 at_,.string x,.string ⟨#[]⟩,.int .i64 e0,.int .i64 e1,.int .i64 e2,.string e3,.slice q0 q1 q2,.slice none 0 0,.slice none 0 0,.slice none 0 0] V15):=by show Bx _ _ _; rw [hV15]; exact HBs.o.set (j:=8) (by simp)
      replace HBr : Hx (Bx br [.pointer (some ⟨rb,0,none⟩)] V15):=by show Bx _ _ _; rw [hV15]; exact HBr.o.far (by have:=HLsr.o; omega)
      replace HBq : Hx (Bx bq [.pointer (some ⟨bs,0,none⟩)] V15):=by show Bx _ _ _; rw [hV15]; exact HBq.o.far (by have:=HLsq.o; omega)
      replace HBe : Hx (Bx be [.int .i64 e0,.int .i64 e1,.int .i64 e2,.string e3,.slice q0 q1 q2] V15):=by show Bx _ _ _; rw [hV15]; exact HBe.o.far (by have:=HLse.o; omega)
      replace HD : Hx (Rd rb tv ts en w (n3) V15):=by show Rd _ _ _ _ _ _ _; rw [hV15]; exact HD.o.set (by exact HLs.o)
      replace HFZ : Hx (Fz rb bs u V15):=by show Fz _ _ _ _; rw [hV15]; exact HFZ.o.set (Or.inl rfl)
      replace HOFF : Hx (Off z none V15 (fun W => XE W 61 [.int .i64 e0,.int .i64 e1,.int .i64 e2,.string e3,.slice q0 q1 q2] ed)):=by show Off _ _ _ _; rw [hV15]; exact HOFF.o.set HZzs.o
      go_simp
      rw [← hV11,← hV12,← hV13,← hV14,← hV15]
      clear hV15 hV14 hV13 hV12 hV11 hHeld
      clear fs11 fs10 fs9 fs8 fs7 fs6 fs5 fs4 fs3 fs2 fs1 fs0 cs11 cs10 cs9 cs8 cs7 cs6 cs5 cs4 cs3 cs2 cs1 cs0 neeq neqe neer nere neqr nerq nees nese neqs nesq ners nesr
      refine xK hK (⟨HBq.o.row 0 _ rfl,HBe.o.row 0 _ rfl,HBe.o.row 1 _ rfl,HBe.o.row 2 _ rfl,HBe.o.row 3 _ rfl,HBe.o.row 4 _ rfl⟩) fun hHeld => ?_
      clear hK K
      refine gE ?_
      go_wp2_with fail
      go_end0
      rw [HRP.o]
      exact ⟨rfl,1,x,⟨#[]⟩,e0,e1,e2,e3,q0,q1,q2,none,0,0,HBs.o,(HOFF.o.base HUz.o).imp (fun W hW => ⟨1,at_,x,⟨#[]⟩,_,_,_,_,_,ed,_,[],_,[],_,[],rfl,rfl,hW,LS.nil,LS.nil,LS.nil⟩),HD.o,HFZ.o⟩
    | true =>
      rw [hq] at hs
      have hr:=HRP.o
      rw [if_pos ⟨HEK.o.1.trans HK2.o,hq⟩] at hr
      replace HRP:=hide hr
      replace hs : St rb tv ts en (n3 + 1) wt:=hs
      try rw [show isT ts n3 (ByteArray.mk #[40]).data.toList = true from hq]
      clear hr hq K4
      replace HFZ:=hide (HFZ.o.call hg)
      replace HBs:=hide (HBs.o.keep hg (by have:=HD.o.rlt; have:=HLs.o; omega))
      replace HBr:=hide (HBr.o.keep hg (by have:=HD.o.rlt; have:=HLr.o; omega))
      replace HBq:=hide (HBq.o.keep hg (by have:=HD.o.rlt; have:=HLq.o; omega))
      replace HBe:=hide (HBe.o.keep hg (by have:=HD.o.rlt; have:=HLe.o; omega))
      replace HOFF:=hide (HOFF.o.keep hg (by have:=HD.o.rlt; have:=HWz.o; omega))
      replace HD : Hx (Rd rb tv ts en w (n3 + 1) wt):=HD.o.call hg hs
      clear hg hs
      go_wp2_with fail
      obtain ⟨V9,hV9⟩:=nm wt.drew
      replace HBs : Hx (Bx bs [.int .i64 0,.int .i64 at_,.string x,.string ⟨#[]⟩,.int .i64 0,.int .i64 0,.int .i64 0,.string ⟨#[]⟩,.slice none 0 0,.slice none 0 0,.slice none 0 0,.slice none 0 0] V9):=by show Bx _ _ _; rw [hV9]; exact HBs.o.over (bD _)
      replace HBr : Hx (Bx br [.pointer (some ⟨rb,0,none⟩)] V9):=by show Bx _ _ _; rw [hV9]; exact HBr.o.over (bD _)
      replace HBq : Hx (Bx bq [.pointer (some ⟨bs,0,none⟩)] V9):=by show Bx _ _ _; rw [hV9]; exact HBq.o.over (bD _)
      replace HBe : Hx (Bx be [.int .i64 e0,.int .i64 e1,.int .i64 e2,.string e3,.slice q0 q1 q2] V9):=by show Bx _ _ _; rw [hV9]; exact HBe.o.over (bD _)
      replace HD : Hx (Rd rb tv ts en w (n3 + 1) V9):=by show Rd _ _ _ _ _ _ _; rw [hV9]; exact HD.o.over (bD _)
      replace HFZ : Hx (Fz rb bs u V9):=by show Fz _ _ _ _; rw [hV9]; exact HFZ.o.over (bD _)
      replace HOFF : Hx (Off z none V9 (fun W => XE W 61 [.int .i64 e0,.int .i64 e1,.int .i64 e2,.string e3,.slice q0 q1 q2] ed)):=by show Off _ _ _ _; rw [hV9]; exact HOFF.o.over (bD _)
      refine gS (fun Wz => Wz.cell? ⟨bq,0,none⟩ = some (.pointer (some ⟨bs,0,none⟩))∧Wz.cell? ⟨be,0,none⟩ = some (.int .i64 e0)∧Wz.cell? ⟨be,1,none⟩ = some (.int .i64 e1)∧Wz.cell? ⟨be,2,none⟩ = some (.int .i64 e2)∧Wz.cell? ⟨be,3,none⟩ = some (.string e3)∧Wz.cell? ⟨be,4,none⟩ = some (.slice q0 q1 q2)) (by rw [← hV9]; exact ⟨HBq.o.row 0 _ rfl,HBe.o.row 0 _ rfl,HBe.o.row 1 _ rfl,HBe.o.row 2 _ rfl,HBe.o.row 3 _ rfl,HBe.o.row 4 _ rfl⟩) fun hHeld => ?_
      rw [← hV9] at hHeld ⊢
      clear hV9
      refine kT 0 ?_
      refine kT 1 ?_
      refine kT 2 ?_
      refine kT 3 ?_
      refine kT 4 ?_
      refine kT 5 ?_
      refine rdA 6 rfl fun K hK => ?_
      have nesr : bs≠br:=by have:=HLsr.o; omega
      have ners : br≠bs:=by have:=HLsr.o; omega
      have nesq : bs≠bq:=by have:=HLsq.o; omega
      have neqs : bq≠bs:=by have:=HLsq.o; omega
      have nese : bs≠be:=by have:=HLse.o; omega
      have nees : be≠bs:=by have:=HLse.o; omega
      have nerq : br≠bq:=by have:=HLrq.o; omega
      have neqr : bq≠br:=by have:=HLrq.o; omega
      have nere : br≠be:=by have:=HLre.o; omega
      have neer : be≠br:=by have:=HLre.o; omega
      have neqe : bq≠be:=by have:=HLqe.o; omega
      have neeq : be≠bq:=by have:=HLqe.o; omega
      obtain ⟨cs0,cs1,cs2,cs3,cs4,cs5,cs6,cs7,cs8,cs9,cs10,cs11⟩:=rc12 HBs.o.row
      have fs0:=HBs.o.fz 0
      have fs1:=HBs.o.fz 1
      have fs2:=HBs.o.fz 2
      have fs3:=HBs.o.fz 3
      have fs4:=HBs.o.fz 4
      have fs5:=HBs.o.fz 5
      have fs6:=HBs.o.fz 6
      have fs7:=HBs.o.fz 7
      have fs8:=HBs.o.fz 8
      have fs9:=HBs.o.fz 9
      have fs10:=HBs.o.fz 10
      have fs11:=HBs.o.fz 11
      obtain ⟨V10,hV10⟩:=nm (V9.setCell ⟨bs,0,none⟩ (.int .i64 2))
      replace HBs : Hx (Bx bs [.int .i64 2,.int .i64 at_,.string x,.string ⟨#[]⟩,.int .i64 0,.int .i64 0,.int .i64 0,.string ⟨#[]⟩,.slice none 0 0,.slice none 0 0,.slice none 0 0,.slice none 0 0] V10):=by show Bx _ _ _; rw [hV10]; exact HBs.o.set (j:=0) (by simp)
      replace HBr : Hx (Bx br [.pointer (some ⟨rb,0,none⟩)] V10):=by show Bx _ _ _; rw [hV10]; exact HBr.o.far (by have:=HLsr.o; omega)
      replace HBq : Hx (Bx bq [.pointer (some ⟨bs,0,none⟩)] V10):=by show Bx _ _ _; rw [hV10]; exact HBq.o.far (by have:=HLsq.o; omega)
      replace HBe : Hx (Bx be [.int .i64 e0,.int .i64 e1,.int .i64 e2,.string e3,.slice q0 q1 q2] V10):=by show Bx _ _ _; rw [hV10]; exact HBe.o.far (by have:=HLse.o; omega)
      replace HD : Hx (Rd rb tv ts en w (n3 + 1) V10):=by show Rd _ _ _ _ _ _ _; rw [hV10]; exact HD.o.set (by exact HLs.o)
      replace HFZ : Hx (Fz rb bs u V10):=by show Fz _ _ _ _; rw [hV10]; exact HFZ.o.set (Or.inl rfl)
      replace HOFF : Hx (Off z none V10 (fun W => XE W 61 [.int .i64 e0,.int .i64 e1,.int .i64 e2,.string e3,.slice q0 q1 q2] ed)):=by show Off _ _ _ _; rw [hV10]; exact HOFF.o.set HZzs.o
      go_simp
      rw [← hV10]
      clear hV10 hHeld
      clear fs11 fs10 fs9 fs8 fs7 fs6 fs5 fs4 fs3 fs2 fs1 fs0 cs11 cs10 cs9 cs8 cs7 cs6 cs5 cs4 cs3 cs2 cs1 cs0 neeq neqe neer nere neqr nerq nees nese neqs nesq ners nesr
      refine xK hK (⟨HBq.o.row 0 _ rfl,HBe.o.row 0 _ rfl,HBe.o.row 1 _ rfl,HBe.o.row 2 _ rfl,HBe.o.row 3 _ rfl,HBe.o.row 4 _ rfl⟩) fun hHeld => ?_
      clear hK K
      refine kT 7 ?_
      refine kT 8 ?_
      refine rdA 9 rfl fun K hK => ?_
      have nesr : bs≠br:=by have:=HLsr.o; omega
      have ners : br≠bs:=by have:=HLsr.o; omega
      have nesq : bs≠bq:=by have:=HLsq.o; omega
      have neqs : bq≠bs:=by have:=HLsq.o; omega
      have nese : bs≠be:=by have:=HLse.o; omega
      have nees : be≠bs:=by have:=HLse.o; omega
      have nerq : br≠bq:=by have:=HLrq.o; omega
      have neqr : bq≠br:=by have:=HLrq.o; omega
      have nere : br≠be:=by have:=HLre.o; omega
      have neer : be≠br:=by have:=HLre.o; omega
      have neqe : bq≠be:=by have:=HLqe.o; omega
      have neeq : be≠bq:=by have:=HLqe.o; omega
      obtain ⟨cs0,cs1,cs2,cs3,cs4,cs5,cs6,cs7,cs8,cs9,cs10,cs11⟩:=rc12 HBs.o.row
      have fs0:=HBs.o.fz 0
      have fs1:=HBs.o.fz 1
      have fs2:=HBs.o.fz 2
      have fs3:=HBs.o.fz 3
      have fs4:=HBs.o.fz 4
      have fs5:=HBs.o.fz 5
      have fs6:=HBs.o.fz 6
      have fs7:=HBs.o.fz 7
      have fs8:=HBs.o.fz 8
      have fs9:=HBs.o.fz 9
      have fs10:=HBs.o.fz 10
      have fs11:=HBs.o.fz 11
      obtain ⟨V11,hV11⟩:=nm (V10.setCell ⟨bs,3,none⟩ (.string e3))
      replace HBs : Hx (Bx bs [.int .i64 2,.int .i64 at_,.string x,.string e3,.int .i64 0,.int .i64 0,.int .i64 0,.string ⟨#[]⟩,.slice none 0 0,.slice none 0 0,.slice none 0 0,.slice none 0 0] V11):=by show Bx _ _ _; rw [hV11]; exact HBs.o.set (j:=3) (by simp)
      replace HBr : Hx (Bx br [.pointer (some ⟨rb,0,none⟩)] V11):=by show Bx _ _ _; rw [hV11]; exact HBr.o.far (by have:=HLsr.o; omega)
      replace HBq : Hx (Bx bq [.pointer (some ⟨bs,0,none⟩)] V11):=by show Bx _ _ _; rw [hV11]; exact HBq.o.far (by have:=HLsq.o; omega)
      replace HBe : Hx (Bx be [.int .i64 e0,.int .i64 e1,.int .i64 e2,.string e3,.slice q0 q1 q2] V11):=by show Bx _ _ _; rw [hV11]; exact HBe.o.far (by have:=HLse.o; omega)
      replace HD : Hx (Rd rb tv ts en w (n3 + 1) V11):=by show Rd _ _ _ _ _ _ _; rw [hV11]; exact HD.o.set (by exact HLs.o)
      replace HFZ : Hx (Fz rb bs u V11):=by show Fz _ _ _ _; rw [hV11]; exact HFZ.o.set (Or.inl rfl)
      replace HOFF : Hx (Off z none V11 (fun W => XE W 61 [.int .i64 e0,.int .i64 e1,.int .i64 e2,.string e3,.slice q0 q1 q2] ed)):=by show Off _ _ _ _; rw [hV11]; exact HOFF.o.set HZzs.o
      go_simp
      rw [← hV11]
      clear hV11 hHeld
      clear fs11 fs10 fs9 fs8 fs7 fs6 fs5 fs4 fs3 fs2 fs1 fs0 cs11 cs10 cs9 cs8 cs7 cs6 cs5 cs4 cs3 cs2 cs1 cs0 neeq neqe neer nere neqr nerq nees nese neqs nesq ners nesr
      refine xK hK (⟨HBq.o.row 0 _ rfl,HBe.o.row 0 _ rfl,HBe.o.row 1 _ rfl,HBe.o.row 2 _ rfl,HBe.o.row 3 _ rfl,HBe.o.row 4 _ rfl⟩) fun hHeld => ?_
      clear hK K
      refine gE ?_
      obtain ⟨B,hB⟩:=nm V11.heap.size
      have HBU : Hx (u.heap.size≤B):=by show _≤_; rw [hB]; exact HFZ.o.1
      have HG0 : Hx (GroB w V11 rb tv ts en bs br bq B (.int .i64 2) (.int .i64 at_) (.string x) (.string e3) (.int .i64 0) (.int .i64 0) (.int .i64 0) (.string ⟨#[]⟩) (.slice none 0 0) (.slice none 0 0) (.slice none 0 0) [] (n3 + 1) V11):=⟨HD.o,HLs.o,by rw [hB]; exact HBs.o.lt,HLr.o,by rw [hB]; exact HBr.o.lt,HLq.o,by rw [hB]; exact HBq.o.lt,by have:=HLsr.o; omega,by have:=HLsq.o; omega,by rw [hB]; exact Nat.le_refl _,HBr.o,HBq.o,Nat.zero_le _,fun _ _ _ _ => rfl,.slice none 0 0,HBs.o,Cop.nil⟩
      have HSB : Hx (bs < B∧rb < B):=⟨by rw [hB]; exact HBs.o.lt,by have:=HD.o.rlt; have:=HD.o.size; rw [hB]; omega⟩
      have K5 : Hx (∀ X,Ov V11 X→_):=fun X (hX : Ov V11 X) => is_q (rb:=rb) (tv:=tv) (ts:=ts) (en:=en) ⟨#[41]⟩ [41] rfl (n3 + 1) X (HG0.o.rd.st.below hX)
      have x0:=HG0.o.r1.row 0 _ rfl
      clear hB
      go_wp2_with fail
      refine gS (fun Wz => Wz.cell? ⟨br,0,none⟩ = some (.pointer (some ⟨rb,0,none⟩))) (ce1 (bD V11) x0) fun hHeld => ?_
      have HDW : Hx (Ov V11 V11.drew):=bD V11
      generalize V11.drew = W at hHeld HDW ⊢
      clear x0
      refine kT 0 ?_
      refine kT 1 ?_
      refine kT 4 ?_
      refine rdA 2 rfl fun K hK => ?_
      go_simp
      refine (K5.o _ HDW.o).mono ?_
      rintro e wq ⟨rfl,hg2,hs2⟩
      obtain ⟨q,hq⟩:=nm (isT ts (n3 + 1) [41])
      rw [← hq] at HRP ⊢
      have HG2:=hide (HG0.o.move (Nat.le_refl _) (grownBy_trans (grownBy_below HDW.o) hg2) hs2)
      clear hq hg2 hs2 hHeld
      go_simp
      refine xK hK (HG2.o.r1.row 0 _ rfl) fun hHeld => ?_
      clear hK K
      refine kT 3 ?_
      refine rdA 5 rfl fun K hK => ?_
      have KE:=hide (each_c (rb:=rb) (tv:=tv) (ts:=ts) (en:=en) 169 [.pointer (some ⟨bq,0,none⟩),.pointer (some ⟨br,0,none⟩)] call169 ⟨#[44]⟩ (by decide) (pX ts en) (fun acc n2 w' => GroB w V11 rb tv ts en bs br bq B (.int .i64 2) (.int .i64 at_) (.string x) (.string e3) (.int .i64 0) (.int .i64 0) (.int .i64 0) (.string ⟨#[]⟩) (.slice none 0 0) (.slice none 0 0) (.slice none 0 0) acc n2 w') (fun w' => w.grownBy w' (some rb)) (fun _ _ _ h => h.rd.st) (fun _ _ _ h => Nat.le_of_lt (pE_few 61 0 _ _ _ h).2) (fun _ _ _ _ _ h hn hg hs => h.move hn hg hs) (fun acc n w' h => becomeOne hall acc n w' h) (!q) (n3 + 1) wq HG2.o)
      go_simp
      refine KE.o.mono ?_
      rintro e we hpo
      obtain ⟨m,ho⟩ | ⟨l,n4,ho⟩:=res_cases (pEach ts [44] (pX ts en) (ts.length + 1) (!q) [] (n3 + 1))
      · replace hpo : PostC ts en (pEach ts [44] (pX ts en) (ts.length + 1) (!q) [] (n3 + 1)) _ _ e we:=hpo
        rw [ho] at hpo
        obtain ⟨rfl,hg⟩:=hpo
        have HO : Hx (res = .inr m):=by show _ = _; rw [HRP.o,ho]; rfl
        have HG:=hide hg
        clear hg ho hK hHeld
        unfold gaveUpAt
        go_simp
        refine ⟨rfl,?_⟩
        rw [HO.o]
        exact ⟨rfl,HG.o⟩
      replace hpo : PostC ts en (pEach ts [44] (pX ts en) (ts.length + 1) (!q) [] (n3 + 1)) _ _ e we:=hpo
      rw [ho] at hpo
      obtain ⟨rfl,hg3⟩:=hpo
      have hr:=HRP.o
      rw [ho,bindR_inl] at hr
      replace HRP:=hide hr
      have HG3:=hide hg3
      clear ho hg3 hr hHeld
      refine xK hK (HG3.o.r1.row 0 _ rfl) fun hHeld => ?_
      clear hK K
      refine gE ?_
      have K6:=hide (take_c ⟨#[41]⟩ (by decide) n4 we HG3.o.rd.st)
      have x3:=HG3.o.r1.row 0 _ rfl
      go_wp2_with fail
      clear x3
      refine K6.o.mono ?_
      rintro e wf hpo
      obtain ⟨m,ho⟩ | ⟨_u4,n5,ho⟩:=res_cases (pTake ts [41] n4)
      · replace hpo : PostC ts en (pTake ts [41] n4) _ _ e wf:=hpo
        rw [ho] at hpo
        obtain ⟨rfl,hg⟩:=hpo
        have HO : Hx (res = .inr m):=by show _ = _; rw [HRP.o,ho]; rfl
        have HG:=hide (grownBy_trans HG3.o.rd.gr hg)
        clear hg ho
        unfold gaveUpAt
        go_wp2_with fail
        refine ⟨rfl,?_⟩
        rw [HO.o]
        exact ⟨rfl,HG.o⟩
      replace hpo : PostC ts en (pTake ts [41] n4) _ _ e wf:=hpo
      rw [ho] at hpo
      obtain ⟨rfl,hg,hs⟩:=hpo
      have hr:=HRP.o
      rw [ho,bindR_inl] at hr
      replace HRP:=hide hr
      have hg4:=HG3.o.move (Nat.le_of_lt (pTake_lt ho)) hg hs
      obtain ⟨v,hbv,hc⟩:=hg4.row
      have hfw : l.length≤6000:=Nat.le_trans hg4.few (Nat.le_trans hg4.rd.st.2.1 hg4.rd.st.2.2.1)
      obtain ⟨av,ac,rfl,hoff⟩:=Cop.ls hc (by decide) (by omega)
      have HG4:=hide hg4
      have HOA:=hide (hoff.base HBU.o)
      have HBV:=hide hbv
      clear ho hg hs hg4 hc hoff hr hfw hbv
      go_wp2_with fail
      go_end0
      rw [HRP.o]
      refine ⟨rfl,2,x,e3,0,0,0,⟨#[]⟩,none,0,0,av,l.length,ac,HBV.o,HOA.o.imp (fun W hW => ⟨2,at_,x,e3,_,_,_,_,_,noE,_,l,_,[],_,[],rfl,?_,XE.none W,hW,LS.nil,LS.nil⟩),HG4.o.rd,?_,fun k k1 k2 k3 => ?_⟩
      · rw [HEK.o.2]
      · exact Nat.le_trans HBU.o HG4.o.sz
      · rw [HG4.o.fr k (Nat.lt_of_lt_of_le k1 HBU.o) k2 k3]
        exact HFZ.o.2 k k1 k2 k3
  · have hr:=HRP.o
    rw [if_neg (fun h => hk2 (HEK.o.1.symm.trans h.1))] at hr
    replace HRP:=hide hr
    clear hr
    have hk3 : (e0 != 2) = true:=by simpa using hk2
    have hk4 : (e0 == 2) = false:=by simpa using hk2
    go_wp2_with fail
    rw [← hV8,← hbe]
    clear hsbe cr0
    clear hbe hV8
    clear hk3 hk4
    obtain ⟨V9,hV9⟩:=nm V8.drew
    replace HBs : Hx (Bx bs [.int .i64 0,.int .i64 at_,.string x,.string ⟨#[]⟩,.int .i64 0,.int .i64 0,.int .i64 0,.string ⟨#[]⟩,.slice none 0 0,.slice none 0 0,.slice none 0 0,.slice none 0 0] V9):=by show Bx _ _ _; rw [hV9]; exact HBs.o.over (bD _)
    replace HBr : Hx (Bx br [.pointer (some ⟨rb,0,none⟩)] V9):=by show Bx _ _ _; rw [hV9]; exact HBr.o.over (bD _)
    replace HBq : Hx (Bx bq [.pointer (some ⟨bs,0,none⟩)] V9):=by show Bx _ _ _; rw [hV9]; exact HBq.o.over (bD _)
    replace HBe : Hx (Bx be [.int .i64 e0,.int .i64 e1,.int .i64 e2,.string e3,.slice q0 q1 q2] V9):=by show Bx _ _ _; rw [hV9]; exact HBe.o.over (bD _)
    replace HD : Hx (Rd rb tv ts en w (n3) V9):=by show Rd _ _ _ _ _ _ _; rw [hV9]; exact HD.o.over (bD _)
    replace HFZ : Hx (Fz rb bs u V9):=by show Fz _ _ _ _; rw [hV9]; exact HFZ.o.over (bD _)
    replace HOFF : Hx (Off z none V9 (fun W => XE W 61 [.int .i64 e0,.int .i64 e1,.int .i64 e2,.string e3,.slice q0 q1 q2] ed)):=by show Off _ _ _ _; rw [hV9]; exact HOFF.o.over (bD _)
    refine gS (fun Wz => Wz.cell? ⟨bq,0,none⟩ = some (.pointer (some ⟨bs,0,none⟩))∧Wz.cell? ⟨be,0,none⟩ = some (.int .i64 e0)∧Wz.cell? ⟨be,1,none⟩ = some (.int .i64 e1)∧Wz.cell? ⟨be,2,none⟩ = some (.int .i64 e2)∧Wz.cell? ⟨be,3,none⟩ = some (.string e3)∧Wz.cell? ⟨be,4,none⟩ = some (.slice q0 q1 q2)) (by rw [← hV9]; exact ⟨HBq.o.row 0 _ rfl,HBe.o.row 0 _ rfl,HBe.o.row 1 _ rfl,HBe.o.row 2 _ rfl,HBe.o.row 3 _ rfl,HBe.o.row 4 _ rfl⟩) fun hHeld => ?_
    rw [← hV9] at hHeld ⊢
    clear hV9
    refine kT 0 ?_
    refine kT 1 ?_
    refine kT 2 ?_
    refine kT 3 ?_
    refine kT 4 ?_
    refine rdA 5 rfl fun K hK => ?_
    have nesr : bs≠br:=by have:=HLsr.o; omega
    have ners : br≠bs:=by have:=HLsr.o; omega
    have nesq : bs≠bq:=by have:=HLsq.o; omega
    have neqs : bq≠bs:=by have:=HLsq.o; omega
    have nese : bs≠be:=by have:=HLse.o; omega
    have nees : be≠bs:=by have:=HLse.o; omega
    have nerq : br≠bq:=by have:=HLrq.o; omega
    have neqr : bq≠br:=by have:=HLrq.o; omega
    have nere : br≠be:=by have:=HLre.o; omega
    have neer : be≠br:=by have:=HLre.o; omega
    have neqe : bq≠be:=by have:=HLqe.o; omega
    have neeq : be≠bq:=by have:=HLqe.o; omega
    obtain ⟨cs0,cs1,cs2,cs3,cs4,cs5,cs6,cs7,cs8,cs9,cs10,cs11⟩:=rc12 HBs.o.row
    have fs0:=HBs.o.fz 0
    have fs1:=HBs.o.fz 1
    have fs2:=HBs.o.fz 2
    have fs3:=HBs.o.fz 3
    have fs4:=HBs.o.fz 4
    have fs5:=HBs.o.fz 5
    have fs6:=HBs.o.fz 6
    have fs7:=HBs.o.fz 7
    have fs8:=HBs.o.fz 8
    have fs9:=HBs.o.fz 9
    have fs10:=HBs.o.fz 10
    have fs11:=HBs.o.fz 11
    obtain ⟨V10,hV10⟩:=nm (V9.setCell ⟨bs,0,none⟩ (.int .i64 1))
    replace HBs : Hx (Bx bs [.int .i64 1,.int .i64 at_,.string x,.string ⟨#[]⟩,.int .i64 0,.int .i64 0,.int .i64 0,.string ⟨#[]⟩,.slice none 0 0,.slice none 0 0,.slice none 0 0,.slice none 0 0] V10):=by show Bx _ _ _; rw [hV10]; exact HBs.o.set (j:=0) (by simp)
    replace HBr : Hx (Bx br [.pointer (some ⟨rb,0,none⟩)] V10):=by show Bx _ _ _; rw [hV10]; exact HBr.o.far (by have:=HLsr.o; omega)
    replace HBq : Hx (Bx bq [.pointer (some ⟨bs,0,none⟩)] V10):=by show Bx _ _ _; rw [hV10]; exact HBq.o.far (by have:=HLsq.o; omega)
    replace HBe : Hx (Bx be [.int .i64 e0,.int .i64 e1,.int .i64 e2,.string e3,.slice q0 q1 q2] V10):=by show Bx _ _ _; rw [hV10]; exact HBe.o.far (by have:=HLse.o; omega)
    replace HD : Hx (Rd rb tv ts en w (n3) V10):=by show Rd _ _ _ _ _ _ _; rw [hV10]; exact HD.o.set (by exact HLs.o)
    replace HFZ : Hx (Fz rb bs u V10):=by show Fz _ _ _ _; rw [hV10]; exact HFZ.o.set (Or.inl rfl)
    replace HOFF : Hx (Off z none V10 (fun W => XE W 61 [.int .i64 e0,.int .i64 e1,.int .i64 e2,.string e3,.slice q0 q1 q2] ed)):=by show Off _ _ _ _; rw [hV10]; exact HOFF.o.set HZzs.o
    go_simp
    rw [← hV10]
    clear hV10 hHeld
    clear fs11 fs10 fs9 fs8 fs7 fs6 fs5 fs4 fs3 fs2 fs1 fs0 cs11 cs10 cs9 cs8 cs7 cs6 cs5 cs4 cs3 cs2 cs1 cs0 neeq neqe neer nere neqr nerq nees nese neqs nesq ners nesr
    refine xK hK (⟨HBq.o.row 0 _ rfl,HBe.o.row 0 _ rfl,HBe.o.row 1 _ rfl,HBe.o.row 2 _ rfl,HBe.o.row 3 _ rfl,HBe.o.row 4 _ rfl⟩) fun hHeld => ?_
    clear hK K
    refine kT 6 ?_
    refine kT 7 ?_
    refine rdA 8 rfl fun K hK => ?_
    have nesr : bs≠br:=by have:=HLsr.o; omega
    have ners : br≠bs:=by have:=HLsr.o; omega
    have nesq : bs≠bq:=by have:=HLsq.o; omega
    have neqs : bq≠bs:=by have:=HLsq.o; omega
    have nese : bs≠be:=by have:=HLse.o; omega
    have nees : be≠bs:=by have:=HLse.o; omega
    have nerq : br≠bq:=by have:=HLrq.o; omega
    have neqr : bq≠br:=by have:=HLrq.o; omega
    have nere : br≠be:=by have:=HLre.o; omega
    have neer : be≠br:=by have:=HLre.o; omega
    have neqe : bq≠be:=by have:=HLqe.o; omega
    have neeq : be≠bq:=by have:=HLqe.o; omega
    obtain ⟨cs0,cs1,cs2,cs3,cs4,cs5,cs6,cs7,cs8,cs9,cs10,cs11⟩:=rc12 HBs.o.row
    have fs0:=HBs.o.fz 0
    have fs1:=HBs.o.fz 1
    have fs2:=HBs.o.fz 2
    have fs3:=HBs.o.fz 3
    have fs4:=HBs.o.fz 4
    have fs5:=HBs.o.fz 5
    have fs6:=HBs.o.fz 6
    have fs7:=HBs.o.fz 7
    have fs8:=HBs.o.fz 8
    have fs9:=HBs.o.fz 9
    have fs10:=HBs.o.fz 10
    have fs11:=HBs.o.fz 11
    obtain ⟨V11,hV11⟩:=nm (V10.setCell ⟨bs,4,none⟩ (.int .i64 e0))
    replace HBs : Hx (Bx bs [.int .i64 1,.int .i64 at_,.string x,.string ⟨#[]⟩,.int .i64 e0,.int .i64 0,.int .i64 0,.string ⟨#[]⟩,.slice none 0 0,.slice none 0 0,.slice none 0 0,.slice none 0 0] V11):=by show Bx _ _ _; rw [hV11]; exact HBs.o.set (j:=4) (by simp)
    replace HBr : Hx (Bx br [.pointer (some ⟨rb,0,none⟩)] V11):=by show Bx _ _ _; rw [hV11]; exact HBr.o.far (by have:=HLsr.o; omega)
    replace HBq : Hx (Bx bq [.pointer (some ⟨bs,0,none⟩)] V11):=by show Bx _ _ _; rw [hV11]; exact HBq.o.far (by have:=HLsq.o; omega)
    replace HBe : Hx (Bx be [.int .i64 e0,.int .i64 e1,.int .i64 e2,.string e3,.slice q0 q1 q2] V11):=by show Bx _ _ _; rw [hV11]; exact HBe.o.far (by have:=HLse.o; omega)
    replace HD : Hx (Rd rb tv ts en w (n3) V11):=by show Rd _ _ _ _ _ _ _; rw [hV11]; exact HD.o.set (by exact HLs.o)
    replace HFZ : Hx (Fz rb bs u V11):=by show Fz _ _ _ _; rw [hV11]; exact HFZ.o.set (Or.inl rfl)
    replace HOFF : Hx (Off z none V11 (fun W => XE W 61 [.int .i64 e0,.int .i64 e1,.int .i64 e2,.string e3,.slice q0 q1 q2] ed)):=by show Off _ _ _ _; rw [hV11]; exact HOFF.o.set HZzs.o
    obtain ⟨V12,hV12⟩:=nm (V11.setCell ⟨bs,5,none⟩ (.int .i64 e1))
    replace HBs : Hx (Bx bs [.int .i64 1,.int .i64 at_,.string x,.string ⟨#[]⟩,.int .i64 e0,.int .i64 e1,.int .i64 0,.string ⟨#[]⟩,.slice none 0 0,.slice none 0 0,.slice none 0 0,.slice none 0 0] V12):=by show Bx _ _ _; rw [hV12]; exact HBs.o.set (j:=5) (by simp)
    replace HBr : Hx (Bx br [.pointer (some ⟨rb,0,none⟩)] V12):=by show Bx _ _ _; rw [hV12]; exact HBr.o.far (by have:=HLsr.o; omega)
    replace HBq : Hx (Bx bq [.pointer (some ⟨bs,0,none⟩)] V12):=by show Bx _ _ _; rw [hV12]; exact HBq.o.far (by have:=HLsq.o; omega)
    replace HBe : Hx (Bx be [.int .i64 e0,.int .i64 e1,.int .i64 e2,.string e3,.slice q0 q1 q2] V12):=by show Bx _ _ _; rw [hV12]; exact HBe.o.far (by have:=HLse.o; omega)
    replace HD : Hx (Rd rb tv ts en w (n3) V12):=by show Rd _ _ _ _ _ _ _; rw [hV12]; exact HD.o.set (by exact HLs.o)
    replace HFZ : Hx (Fz rb bs u V12):=by show Fz _ _ _ _; rw [hV12]; exact HFZ.o.set (Or.inl rfl)
    replace HOFF : Hx (Off z none V12 (fun W => XE W 61 [.int .i64 e0,.int .i64 e1,.int .i64 e2,.string e3,.slice q0 q1 q2] ed)):=by show Off _ _ _ _; rw [hV12]; exact HOFF.o.set HZzs.o
    obtain ⟨V13,hV13⟩:=nm (V12.setCell ⟨bs,6,none⟩ (.int .i64 e2))
    replace HBs : Hx (Bx bs [.int .i64 1,.int .i64 at_,.string x,.string ⟨#[]⟩,.int .i64 e0,.int .i64 e1,.int .i64 e2,.string ⟨#[]⟩,.slice none 0 0,.slice none 0 0,.slice none 0 0,.slice none 0 0] V13):=by show Bx _ _ _; rw [hV13]; exact HBs.o.set (j:=6) (by simp)
    replace HBr : Hx (Bx br [.pointer (some ⟨rb,0,none⟩)] V13):=by show Bx _ _ _; rw [hV13]; exact HBr.o.far (by have:=HLsr.o; omega)
    replace HBq : Hx (Bx bq [.pointer (some ⟨bs,0,none⟩)] V13):=by show Bx _ _ _; rw [hV13]; exact HBq.o.far (by have:=HLsq.o; omega)
    replace HBe : Hx (Bx be [.int .i64 e0,.int .i64 e1,.int .i64 e2,.string e3,.slice q0 q1 q2] V13):=by show Bx _ _ _; rw [hV13]; exact HBe.o.far (by have:=HLse.o; omega)
    replace HD : Hx (Rd rb tv ts en w (n3) V13):=by show Rd _ _ _ _ _ _ _; rw [hV13]; exact HD.o.set (by exact HLs.o)
    replace HFZ : Hx (Fz rb bs u V13):=by show Fz _ _ _ _; rw [hV13]; exact HFZ.o.set (Or.inl rfl)
    replace HOFF : Hx (Off z none V13 (fun W => XE W 61 [.int .i64 e0,.int .i64 e1,.int .i64 e2,.string e3,.slice q0 q1 q2] ed)):=by show Off _ _ _ _; rw [hV13]; exact HOFF.o.set HZzs.o
    obtain ⟨V14,hV14⟩:=nm (V13.setCell ⟨bs,7,none⟩ (.string e3))
    replace HBs : Hx (Bx bs [.int .i64 1,.int .i64 at_,.string x,.string ⟨#[]⟩,.int .i64 e0,.int .i64 e1,.int .i64 e2,.string e3,.slice none 0 0,.slice none 0 0,.slice none 0 0,.slice none 0 0] V14):=by show Bx _ _ _; rw [hV14]; exact HBs.o.set (j:=7) (by simp)
    replace HBr : Hx (Bx br [.pointer (some ⟨rb,0,none⟩)] V14):=by show Bx _ _ _; rw [hV14]; exact HBr.o.far (by have:=HLsr.o; omega)
    replace HBq : Hx (Bx bq [.pointer (some ⟨bs,0,none⟩)] V14):=by show Bx _ _ _; rw [hV14]; exact HBq.o.far (by have:=HLsq.o; omega)
    replace HBe : Hx (Bx be [.int .i64 e0,.int .i64 e1,.int .i64 e2,.string e3,.slice q0 q1 q2] V14):=by show Bx _ _ _; rw [hV14]; exact HBe.o.far (by have:=HLse.o; omega)
    replace HD : Hx (Rd rb tv ts en w (n3) V14):=by show Rd _ _ _ _ _ _ _; rw [hV14]; exact HD.o.set (by exact HLs.o)
    replace HFZ : Hx (Fz rb bs u V14):=by show Fz _ _ _ _; rw [hV14]; exact HFZ.o.set (Or.inl rfl)
    replace HOFF : Hx (Off z none V14 (fun W => XE W 61 [.int .i64 e0,.int .i64 e1,.int .i64 e2,.string e3,.slice q0 q1 q2] ed)):=by show Off _ _ _ _; rw [hV14]; exact HOFF.o.set HZzs.o
    obtain ⟨V15,hV15⟩:=nm (V14.setCell ⟨bs,8,none⟩ (.slice q0 q1 q2))
    replace HBs : Hx (Bx bs [.int .i64 1,.int .i64 at_,.string x,.string ⟨#[]⟩,.int .i64 e0,.int .i64 e1,.int .i64 e2,.string e3,.slice q0 q1 q2,.slice none 0 0,.slice none 0 0,.slice none 0 0] V15):=by show Bx _ _ _; rw [hV15]; exact HBs.o.set (j:=8) (by simp)
    replace HBr : Hx (Bx br [.pointer (some ⟨rb,0,none⟩)] V15):=by show Bx _ _ _; rw [hV15]; exact HBr.o.far (by have:=HLsr.o; omega)
    replace HBq : Hx (Bx bq [.pointer (some ⟨bs,0,none⟩)] V15):=by show Bx _ _ _; rw [hV15]; exact HBq.o.far (by have:=HLsq.o; omega)
    replace HBe : Hx (Bx be [.int .i64 e0,.int .i64 e1,.int .i64 e2,.string e3,.slice q0 q1 q2] V15):=by show Bx _ _ _; rw [hV15]; exact HBe.o.far (by have:=HLse.o; omega)
    replace HD : Hx (Rd rb tv ts en w (n3) V15):=by show Rd _ _ _ _ _ _ _; rw [hV15]; exact HD.o.set (by exact HLs.o)
    replace HFZ : Hx (Fz rb bs u V15):=by show Fz _ _ _ _; rw [hV15]; exact HFZ.o.set (Or.inl rfl)
    replace HOFF : Hx (Off z none V15 (fun W => XE W 61 [.int .i64 e0,.int .i64 e1,.int .i64 e2,.string e3,.slice q0 q1 q2] ed)):=by show Off _ _ _ _; rw [hV15]; exact HOFF.o.set HZzs.o
    go_simp
    rw [← hV11,← hV12,← hV13,← hV14,← hV15]
    clear hV15 hV14 hV13 hV12 hV11 hHeld
    clear fs11 fs10 fs9 fs8 fs7 fs6 fs5 fs4 fs3 fs2 fs1 fs0 cs11 cs10 cs9 cs8 cs7 cs6 cs5 cs4 cs3 cs2 cs1 cs0 neeq neqe neer nere neqr nerq nees nese neqs nesq ners nesr
    refine xK hK (⟨HBq.o.row 0 _ rfl,HBe.o.row 0 _ rfl,HBe.o.row 1 _ rfl,HBe.o.row 2 _ rfl,HBe.o.row 3 _ rfl,HBe.o.row 4 _ rfl⟩) fun hHeld => ?_
    clear hK K
    refine gE ?_
    go_wp2_with fail
    go_end0
    rw [HRP.o]
    exact ⟨rfl,1,x,⟨#[]⟩,e0,e1,e2,e3,q0,q1,q2,none,0,0,HBs.o,(HOFF.o.base HUz.o).imp (fun W hW => ⟨1,at_,x,⟨#[]⟩,_,_,_,_,_,ed,_,[],_,[],_,[],rfl,rfl,hW,LS.nil,LS.nil,LS.nil⟩),HD.o,HFZ.o⟩
end Go.Proofs.YtipngnjffjajpaaGreatDoor.Tx
