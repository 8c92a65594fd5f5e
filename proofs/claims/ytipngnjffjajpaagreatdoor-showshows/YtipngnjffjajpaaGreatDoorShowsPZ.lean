/- veilworklaw.ShowShows answers true, whatever tree it is handed: Show of package show answers just what the document says, errors too. Conditions: what the row lists as laid (tables of the library) lies as the program's text lays it. -/
import Derived.Test.YtipngnjffjajpaaGreatDoorI35
import Derived.Test.YtipngnjffjajpaaGreatDoorCards
import Derived.Test.YtipngnjffjajpaaGreatDoorTie
import Derived.LaidMore
import Derived.Lib.LaidTab
import Derived.MakeChecks
import Derived.Stop.LaidErr
import Derived.ChangeOld
import Derived.Stop.Joined
set_option linter.unusedVariables false
set_option maxHeartbeats 8000000
set_option maxRecDepth 100000
namespace Go.Proofs.YtipngnjffjajpaaGreatDoor
open Go.RowKit
open Go.Value renaming int -> A, slice -> O, bool -> zc, agg -> ze, pointer -> zf, tuple -> zh
open Go.IntKind renaming i64 -> J
open Go.Obj renaming cells -> zd
open Go.Ending renaming returned -> zg
section
open Go.ChangeShapes Go.WideShapes Go.ChangeAt
theorem Tryz.own:ownKnob Tryz.prog.godebug=none:=by kernel_rfl
theorem Tryz.laidOut:laidOutB Tryz.prog=true:=by kernel_rfl
theorem Lg (os:Os) (args:Array Value):laidMetH Tryz.prog Rows.showShowsRow.laid ((World.doorLaid Tryz.prog 400 os).forCall (fun _ _=>0) ⟨#[],args,[]⟩).memory:=
 laidMetH_of_parts3 (fuel:=8) (laidMet_of_run' 8 (by kernel_rfl) (by kernel_rfl)) (by kernel_rfl) (by kernel_rfl)
theorem Lz {W:World} (h:laidMetH Tryz.prog Rows.showShowsRow.laid W):Tx.HT W:=by
 rw [Go.MakeChecks.laidMetH_plain _ _ _ (by kernel_rfl)] at h;exact Lib.tabIs_of_head (g:=3) (t:=203) (e:=190) (n:=20) (by kernel_rfl) (by kernel_rfl) Tryz.underlying203 Tryz.underlying190 (by kernel_rfl) (by kernel_rfl) h.tail.tail
theorem E1 (os:Os) (started:os.Started) (H:Type) (enc:TypeId × Value->H) :
  ReturnsInHanded {} Tryz.checked os 6 .any (fun w args=>(Rows.showShowsSpec.pre enc Tryz.prog Tryz.f6 Rows.showShowsRow.domain false w args/\laidMetH Tryz.prog Rows.showShowsRow.laid w)/\sizedMet enc Tryz.prog Tryz.f6 (OpenSpec.ofChange Rows.showShowsSpec) false w args)
   (Rows.showShowsSpec.post enc Tryz.prog Tryz.f6 false true false false):=by
 refine returnsInHanded_of_change_and (C:=Tryz.checked) (X:=fun w _=>laidMetH Tryz.prog Rows.showShowsRow.laid w) (fun _ _ _ L h=>h.of_heap L) Tryz.own started (by kernel_rfl) Tryz.func6
  (ChangeSpec.witness_shaped (enc:=enc) (C:=Tryz.checked) (os:=os) (X:=fun w _=>laidMetH Tryz.prog Rows.showShowsRow.laid w) false (World.doorLaid Tryz.prog 400 os) #[ze #[O none 0 0,O none 0 0]] 8 rfl (World.shaped_of_RefB (by kernel_rfl) (by kernel_rfl)) (by kernel_rfl) (by kernel_rfl) (by kernel_rfl) (Lg os _)) ?_
 intro W base args Q R g a hW E _ P _;have c:∀ (j:Nat) t v,Tryz.f6.params[j]? = some t->args[j]? = some v->Value.okWide Tryz.prog W .any base t v:=a;have y:=hW;obtain ⟨p,q,f,N,rfl,u,J⟩:=hW;have F:DataW.TrodAll enc Tryz.prog W 0 (fun _=>true) true Tryz.f6.params.toList args.toList Q p:=f;rw [Tryz.params6] at F c;obtain ⟨A,S,rfl,rfl,G⟩:=trodAll_one F;obtain ⟨rfl,rfl⟩:=trodVars_none N;have B:=G;have n:∀ x∈p,x.block < W.heap.size:=by obtain ⟨m,r⟩:=B;exact DataW.trod_lt m _ _ _ r
 obtain ⟨K,i,tl,I⟩:=Tx.open_tree (c 0 25 A rfl rfl) G (fun b l r=>u b l (List.mem_append_left _ r));clear f a;refine (Tx.showShows_any K K i tl A W (Lz P) I).mono fun e T ⟨M,bel⟩=>?_;subst M;exact ⟨_,rfl,_,_,_,[],_,[],y,trodAll_mk1 (shut_bool Tryz.underlying4 _),(trodAll_cons_mk (Below.trod Tryz.laidOut (by kernel_rfl) (of_decide_eq_true (by kernel_rfl)) B bel n) trodAll_mk0),rfl,bel.frame _,fun h=>by cases h⟩
theorem Gh:Rows.ShowShowsSaid:=
 OpenClaim.holds_of_wide 6 Tryz.f6 rfl rfl rfl rfl rfl rfl rfl ⟨rfl,rfl,rfl,rfl,rfl⟩ rfl rfl rfl rfl rfl (by kernel_rfl) Tryz.func6 (by kernel_rfl)
  (of_decide_eq_true (by kernel_rfl)) (by unfold Func.isWrapper;first | (rw [if_pos (by decide +kernel)];kernel_rfl) | (rw [if_neg (by decide +kernel)];exact ⟨rfl,rfl⟩))
  (fun os started H enc _=>E1 os started H enc)
theorem showShows_holds:Rows.ShowShowsCardSaid:=
 Claim7.holds_tied_plain_at .later [] [.data,.data,.data] true (true,"cbb80f50bc75fb2508876009d3fc41b95d88cab2803027616a652294b2d0386a") true
  Gh (fun _ h=>by cases h) (by kernel_rfl) (fun _ h=>by cases h) showShows_row_tie rfl ⟨rfl,rfl⟩ (by kernel_rfl) rfl
  (fun f fn hf hfn=>by
   obtain rfl:f=6:=Option.some.inj ((show Tryz.prog.funcNamed "veilwork/veilworklaw.ShowShows" = some 6 by kernel_rfl).symm.trans hf) |>.symm;obtain rfl:fn=Tryz.f6:=(Option.some.inj (Tryz.func6.symm.trans hfn)).symm;exact ⟨by kernel_rfl,fun j t ht=>by
    rw [Tryz.params6] at ht;have hm:t∈[25]:=by simpa using Array.mem_of_getElem? ht
    have a:([25].all fun u=>!Tryz.prog.wantsStandIn u)=true:=by kernel_rfl
    exact (show Tryz.prog.wantsStandIn t=false by simpa using List.all_eq_true.1 a t hm)⟩)
  (by kernel_rfl)
end
#print axioms showShows_holds
end Go.Proofs.YtipngnjffjajpaaGreatDoor
