/- veilworklaw.ShowBack answers true, whatever tree and text it is handed: what is shown is parsed to the same tree, if it is not too long, and what is parsed is shown as a text with the same tree. Conditions: what the row lists as laid (variables of the library) lies as the program's text lays it. -/
import Derived.Test.YtipngnjffjajpaaGreatDoorJ37
import Derived.Test.YtipngnjffjajpaaGreatDoorJ38
import Derived.Test.YtipngnjffjajpaaGreatDoorCards
import Derived.Test.YtipngnjffjajpaaGreatDoorTie
import Derived.LaidMore
import Derived.Lib.LaidTab
import Derived.MakeChecks
import Derived.Stop.LaidErr
import Derived.ChangeMaps5
import Derived.ShutString
import Derived.OpenShut
import Derived.ChangeOld
import Derived.Stop.Joined
set_option linter.unusedVariables false
set_option maxHeartbeats 8000000
set_option maxRecDepth 100000
namespace Go.Proofs.YtipngnjffjajpaaGreatDoor
open Go.RowKit
open Go.Value renaming int -> I, slice -> zc, bool -> zd, pointer -> zf, agg -> zg, tuple -> zi
open Go.IntKind renaming i64 -> O
open Go.Obj renaming cells -> ze
open Go.Ending renaming returned -> zh
section
open Go.ChangeShapes Go.WideShapes Go.ChangeAt
open Go.ChangeMaps (open_string shut_string)
theorem Tryz.own:ownKnob Tryz.prog.godebug=none:=by kernel_rfl
theorem Tryz.laidOut:laidOutB Tryz.prog=true:=by kernel_rfl
theorem N7 (os:Os) (args:Array Value):laidMetH Tryz.prog Rows.showBackRow.laid ((World.doorLaid Tryz.prog 400 os).forCall (fun _ _=>0) ⟨#[],args,[]⟩).memory:=
 laidMetH_of_parts3 (fuel:=8) (laidMet_of_run' 8 (by kernel_rfl) (by kernel_rfl)) (by kernel_rfl) (by kernel_rfl)
theorem OD {W:World} (h:laidMetH Tryz.prog Rows.showBackRow.laid W):Tx.HT W:=by
 rw [Go.MakeChecks.laidMetH_plain _ _ _ (by kernel_rfl)] at h;exact Lib.tabIs_of_head (g:=3) (t:=203) (e:=190) (n:=20) (by kernel_rfl) (by kernel_rfl) Tryz.underlying203 Tryz.underlying190 (by kernel_rfl) (by kernel_rfl) h.tail.tail
theorem F8 (os:Os) (started:os.Started) (H:Type) (enc:TypeId × Value->H) :
  ReturnsInHanded {} Tryz.checked os 8 .any (fun w args=>(Rows.showBackSpec.pre enc Tryz.prog Tryz.f8 Rows.showBackRow.domain false w args/\laidMetH Tryz.prog Rows.showBackRow.laid w)/\sizedMet enc Tryz.prog Tryz.f8 (OpenSpec.ofChange Rows.showBackSpec) false w args)
   (Rows.showBackSpec.post enc Tryz.prog Tryz.f8 false true false false):=by
 refine returnsInHanded_of_change_and (C:=Tryz.checked) (X:=fun w _=>laidMetH Tryz.prog Rows.showBackRow.laid w) (fun _ _ _ N h=>h.of_heap N) Tryz.own started (by kernel_rfl) Tryz.func8
  (ChangeSpec.witness_shaped (enc:=enc) (C:=Tryz.checked) (os:=os) (X:=fun w _=>laidMetH Tryz.prog Rows.showBackRow.laid w) false (World.doorLaid Tryz.prog 400 os) #[zg #[zc none 0 0,zc none 0 0],.string ByteArray.empty] 8 rfl (World.shaped_of_RefB (by kernel_rfl) (by kernel_rfl)) (by kernel_rfl) (by kernel_rfl) (by kernel_rfl) (N7 os _)) ?_
 intro W base args S U g a hW F _ Q _;have c:∀ (j:Nat) t v,Tryz.f8.params[j]? = some t->args[j]? = some v->Value.okWide Tryz.prog W .any base t v:=a;have y:=hW;obtain ⟨p,q,f,P,rfl,u,M⟩:=hW;have G:DataW.TrodAll enc Tryz.prog W 0 (fun _=>true) true Tryz.f8.params.toList args.toList S p:=f;rw [Tryz.params8] at G c;obtain ⟨B,J,Y,V,p0,p1,rfl,rfl,rfl,I,R⟩:=trodAll_two G;obtain ⟨rfl,rfl⟩:=trodVars_none P;have E:=I;have n:∀ x∈p0,x.block < W.heap.size:=by obtain ⟨m,r⟩:=E;exact DataW.trod_lt m _ _ _ r
 obtain ⟨T,rfl,rfl,rfl,A⟩:=open_string Tryz.underlying9 (c 1 9 J rfl rfl) R;obtain ⟨K,i,tl,L⟩:=Tx.open_tree (c 0 25 B rfl rfl) I (fun b l r=>u b l (List.mem_append_left _ (List.mem_append_left _ r)));clear f a;refine (Tx.showBack_any (K+1) (K+1) (by omega) i tl B T A W (OD Q) (L.up (fun _ _ h=>h) (fun _ _ h=>h) (by omega) (by omega))).mono fun e Z ⟨he,bel⟩=>?_;subst he;exact ⟨_,rfl,_,_,_,[],_,[],y,trodAll_mk1 (shut_bool Tryz.underlying4 _),(trodAll_cons_mk (Below.trod Tryz.laidOut (by kernel_rfl) (of_decide_eq_true (by kernel_rfl)) E bel n) (trodAll_cons_mk (shut_string Tryz.underlying9 A) trodAll_mk0)),rfl,bel.frame _,fun h=>by cases h⟩
theorem Ik:Rows.ShowBackSaid:=
 OpenClaim.holds_of_wide 8 Tryz.f8 rfl rfl rfl rfl rfl rfl rfl ⟨rfl,rfl,rfl,rfl,rfl⟩ rfl rfl rfl rfl rfl (by kernel_rfl) Tryz.func8 (by kernel_rfl)
  (of_decide_eq_true (by kernel_rfl)) (by unfold Func.isWrapper;first | (rw [if_pos (by decide +kernel)];kernel_rfl) | (rw [if_neg (by decide +kernel)];exact ⟨rfl,rfl⟩))
  (fun os started H enc _=>F8 os started H enc)
theorem showBack_holds:Rows.ShowBackCardSaid:=
 Claim7.holds_tied_plain_at .later [] [.data,.data,.data,.sentinel,.sentinel] true (true,"cbb80f50bc75fb2508876009d3fc41b95d88cab2803027616a652294b2d0386a") true
  Ik (fun _ h=>by cases h) (by kernel_rfl) (fun _ h=>by cases h) showBack_row_tie rfl ⟨rfl,rfl⟩ (by kernel_rfl) rfl
  (fun f fn hf hfn=>by
   obtain rfl:f=8:=Option.some.inj ((show Tryz.prog.funcNamed "veilwork/veilworklaw.ShowBack" = some 8 by kernel_rfl).symm.trans hf) |>.symm;obtain rfl:fn=Tryz.f8:=(Option.some.inj (Tryz.func8.symm.trans hfn)).symm;exact ⟨by kernel_rfl,fun j t ht=>by
    rw [Tryz.params8] at ht;have hm:t∈[25,9]:=by simpa using Array.mem_of_getElem? ht
    have a:([25,9].all fun u=>!Tryz.prog.wantsStandIn u)=true:=by kernel_rfl
    exact (show Tryz.prog.wantsStandIn t=false by simpa using List.all_eq_true.1 a t hm)⟩)
  (by kernel_rfl)
end
#print axioms showBack_holds
end Go.Proofs.YtipngnjffjajpaaGreatDoor
