/- veilworklaw.RestTexts answers true, whatever text it is handed: trees and tokens that came, and were changed, change nothing that was handed in, nor what comes next. Conditions: what the row lists as laid (variables of the library) lies as the program's text lays it. -/
import Derived.Test.YtipngnjffjajpaaGreatDoorK39
import Derived.Test.YtipngnjffjajpaaGreatDoorCards
import Derived.Test.YtipngnjffjajpaaGreatDoorTie
import Derived.LaidMore
import Derived.Lib.LaidTab
import Derived.MakeChecks
import Derived.Stop.LaidErr
import Derived.ChangeOld
import Derived.Stop.Joined
import Derived.ChangeMaps5
import Derived.ShutString
import Derived.OpenShut
set_option linter.unusedVariables false
set_option maxHeartbeats 8000000
set_option maxRecDepth 100000
namespace Go.Proofs.YtipngnjffjajpaaGreatDoor
open Go.RowKit
open Go.Value renaming int -> O, slice -> zd, bool -> ze, agg -> zf, pointer -> zh, tuple -> zj
open Go.IntKind renaming i64 -> zc
open Go.Obj renaming cells -> zg
open Go.Ending renaming returned -> zi
section
open Go.ChangeShapes Go.WideShapes Go.ChangeAt
open Go.ChangeMaps (open_string shut_string)
theorem O1 (os:Os) (args:Array Value):laidMetH Tryz.prog Rows.restTextsRow.laid ((World.doorLaid Tryz.prog 400 os).forCall (fun _ _=>0) ⟨#[],args,[]⟩).memory:=
 laidMetH_of_parts3 (fuel:=8) (laidMet_of_run' 8 (by kernel_rfl) (by kernel_rfl)) (by kernel_rfl) (by kernel_rfl)
theorem Ps {W:World} (h:laidMetH Tryz.prog Rows.restTextsRow.laid W):Tx.HT W:=by
 rw [Go.MakeChecks.laidMetH_plain _ _ _ (by kernel_rfl)] at h;exact Lib.tabIs_of_head (g:=3) (t:=203) (e:=190) (n:=20) (by kernel_rfl) (by kernel_rfl) Tryz.underlying203 Tryz.underlying190 (by kernel_rfl) (by kernel_rfl) h.tail.tail
theorem F7 (os:Os) (started:os.Started) (H:Type) (enc:TypeId × Value->H) :
  ReturnsInHanded {} Tryz.checked os 9 .any (fun w args=>(Rows.restTextsSpec.pre enc Tryz.prog Tryz.f9 Rows.restTextsRow.domain false w args/\laidMetH Tryz.prog Rows.restTextsRow.laid w)/\sizedMet enc Tryz.prog Tryz.f9 (OpenSpec.ofChange Rows.restTextsSpec) false w args)
   (Rows.restTextsSpec.post enc Tryz.prog Tryz.f9 false true false false):=by
 refine returnsInHanded_of_change_and (C:=Tryz.checked) (X:=fun w _=>laidMetH Tryz.prog Rows.restTextsRow.laid w) (fun _ _ _ x h=>h.of_heap x) Tryz.own started (by kernel_rfl) Tryz.func9
  (ChangeSpec.witness_shaped (enc:=enc) (C:=Tryz.checked) (os:=os) (X:=fun w _=>laidMetH Tryz.prog Rows.restTextsRow.laid w) false (World.doorLaid Tryz.prog 400 os) #[.string ByteArray.empty] 8 rfl (World.shaped_of_RefB (by kernel_rfl) (by kernel_rfl)) (by kernel_rfl) (by kernel_rfl) (by kernel_rfl) (O1 os _)) ?_
 intro W base args G J f a hW l _ E _;have b:∀ (j:Nat) t v,Tryz.f9.params[j]? = some t->args[j]? = some v->Value.okWide Tryz.prog W .any base t v:=a;have g:=hW;obtain ⟨p,q,c,B,rfl,y,u⟩:=hW;have n:DataW.TrodAll enc Tryz.prog W 0 (fun _=>true) true Tryz.f9.params.toList args.toList G p:=c;rw [Tryz.params9] at n b;obtain ⟨r,K,rfl,rfl,F⟩:=trodAll_one n;obtain ⟨rfl,rfl⟩:=trodVars_none B;obtain ⟨I,rfl,rfl,rfl,i⟩:=open_string Tryz.underlying9 (b 0 9 r rfl rfl) F;clear c a;refine (Tx.restTexts_any I i W (Ps E)).mono fun e L ⟨A,bel⟩=>?_;subst A;exact ⟨_,rfl,_,_,_,[],_,[],g,trodAll_mk1 (shut_bool Tryz.underlying4 _),(trodAll_cons_mk (shut_string Tryz.underlying9 i) trodAll_mk0),rfl,bel.frame _,fun h=>by cases h⟩
theorem Ib:Rows.RestTextsSaid:=
 OpenClaim.holds_of_wide 9 Tryz.f9 rfl rfl rfl rfl rfl rfl rfl ⟨rfl,rfl,rfl,rfl,rfl⟩ rfl rfl rfl rfl rfl (by kernel_rfl) Tryz.func9 (by kernel_rfl)
  (of_decide_eq_true (by kernel_rfl)) (by unfold Func.isWrapper;first | (rw [if_pos (by decide +kernel)];kernel_rfl) | (rw [if_neg (by decide +kernel)];exact ⟨rfl,rfl⟩))
  (fun os started H enc _=>F7 os started H enc)
theorem restTexts_holds:Rows.RestTextsCardSaid:=
 Claim7.holds_tied_plain_at .later [] [.data,.data,.data,.sentinel,.sentinel] true (true,"cbb80f50bc75fb2508876009d3fc41b95d88cab2803027616a652294b2d0386a") true
  Ib (fun _ h=>by cases h) (by kernel_rfl) (fun _ h=>by cases h) restTexts_row_tie rfl ⟨rfl,rfl⟩ (by kernel_rfl) rfl
  (fun f fn hf hfn=>by
   obtain rfl:f=9:=Option.some.inj ((show Tryz.prog.funcNamed "veilwork/veilworklaw.RestTexts" = some 9 by kernel_rfl).symm.trans hf) |>.symm;obtain rfl:fn=Tryz.f9:=(Option.some.inj (Tryz.func9.symm.trans hfn)).symm;exact ⟨by kernel_rfl,fun j t ht=>by
    rw [Tryz.params9] at ht;have hm:t∈[9]:=by simpa using Array.mem_of_getElem? ht
    have a:([9].all fun u=>!Tryz.prog.wantsStandIn u)=true:=by kernel_rfl
    exact (show Tryz.prog.wantsStandIn t=false by simpa using List.all_eq_true.1 a t hm)⟩)
  (by kernel_rfl)
end
#print axioms restTexts_holds
end Go.Proofs.YtipngnjffjajpaaGreatDoor
