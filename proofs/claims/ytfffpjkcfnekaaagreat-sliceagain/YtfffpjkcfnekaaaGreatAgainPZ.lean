/- veilworklaw.SliceAgain answers true, whatever it is handed: what is sliced twice is sliced once; it passes Check, with no more faults. -/
import Derived.Test.YtfffpjkcfnekaaaGreatI15
import Derived.Test.YtfffpjkcfnekaaaGreatI38
import Derived.ChangeOld
set_option linter.unusedVariables false
set_option maxHeartbeats 8000000
set_option maxRecDepth 100000
namespace Go.Proofs.YtfffpjkcfnekaaaGreat
open Go.RowKit
open Go.Value renaming slice -> O, int -> zd, bool -> zg, agg -> zh, pointer -> zj, tuple -> zm
open Go.IntKind renaming i64 -> U
open Go.Obj renaming cells -> ze
open Go.Ending renaming returned -> zk
section
open Go.ChangeShapes Go.WideShapes Go.ChangeAt
theorem Tryz.own:ownKnob Tryz.prog.godebug=none:=by kernel_rfl
theorem Tryz.laidOut:laidOutB Tryz.prog=true:=by kernel_rfl
theorem Fm (os:Os) (started:os.Started) (H:Type) (enc:TypeId × Value->H) :
  ReturnsInHanded {} Tryz.checked os 9 .any (Rows.sliceAgainSpec.pre6 enc Tryz.prog Tryz.f9 Rows.sliceAgainRow.domain false) (Rows.sliceAgainSpec.post enc Tryz.prog Tryz.f9 false true false false):=by
 refine returnsInHanded_of_change (C:=Tryz.checked) Tryz.own started (by kernel_rfl) Tryz.func9
  (ChangeSpec.witness6 (enc:=enc) (C:=Tryz.checked) false ⟨#[],#[zh #[zd U 0,O none 0 0,O none 0 0,O none 0 0,O none 0 0,O none 0 0,O none 0 0,O none 0 0],zd U 0],[]⟩ 8 (by kernel_rfl) (by kernel_rfl) (by kernel_rfl) (by kernel_rfl)) ?_
 intro W base args ds gs g b hW G _;have c:∀ (j:Nat) t v,Tryz.f9.params[j]? = some t->args[j]? = some v->Value.okWide Tryz.prog W .any base t v:=b;have y:=hW;obtain ⟨p,q,f,hV,rfl,Z,Y⟩:=hW;have I:DataW.TrodAll enc Tryz.prog W 0 (fun _=>true) true Tryz.f9.params.toList args.toList ds p:=f;rw [Tryz.params9] at I c;obtain ⟨B,N,d0,ae,T,q0,u,rfl,rfl,L,R⟩:=trodAll_cons I;obtain ⟨A,M,d1,ad,S,q1,rfl,rfl,rfl,J,Q⟩:=trodAll_cons R;obtain ⟨rfl,rfl,rfl⟩:=trodAll_nil Q;obtain rfl:args=#[B,A]:=by cases args;simp_all
 obtain ⟨rfl,rfl⟩:=trodVars_none hV;have F:=L;have k:∀ x∈T,x.block < W.heap.size:=by obtain ⟨m,s⟩:=F;exact DataW.trod_lt m _ _ _ s
 have E:=J;have i:∀ x∈S,x.block < W.heap.size:=by obtain ⟨m,s⟩:=E;exact DataW.trod_lt m _ _ _ s
 obtain ⟨K,m,ga,gn,gc,sa,sn,sc,ya,yn,yc,oa,on,oc,va,vn,vc,fa,fn,fc,ba,bn,bc,z,P,X,V,vs,fs,l,rfl,hP⟩:=Ex.open_program (c 0 31 B rfl rfl) L;obtain ⟨ch,rfl,-,-,-⟩:=open_int Tryz.underlying3 (c 1 3 A rfl rfl) J;clear f b;refine (Ex.againLaw K K m ga gn gc sa sn sc ya yn yc oa on oc va vn vc fa fn fc ba bn bc z P X V vs fs l ch W hP).mono fun e W' ⟨he,d⟩=>?_;subst he;exact ⟨_,rfl,_,_,_,[],_,[],y,trodAll_mk1 (shut_bool Tryz.underlying4 _),(trodAll_cons_mk (Below.trod Tryz.laidOut (by kernel_rfl) (of_decide_eq_true (by kernel_rfl)) F d k) (trodAll_cons_mk (Below.trod Tryz.laidOut (by kernel_rfl) (of_decide_eq_true (by kernel_rfl)) E d i) trodAll_mk0)),rfl,d.frame _,fun h=>by cases h⟩
theorem sliceAgain_holds:Rows.SliceAgainSaid:=
 OpenClaim.holds_of_wide 9 Tryz.f9 rfl rfl rfl rfl rfl rfl rfl ⟨rfl,rfl,rfl,rfl,rfl⟩ rfl rfl rfl rfl rfl (by kernel_rfl) Tryz.func9 (by kernel_rfl)
  (of_decide_eq_true (by kernel_rfl)) (by unfold Func.isWrapper;first | (rw [if_pos (by decide +kernel)];kernel_rfl) | (rw [if_neg (by decide +kernel)];exact ⟨rfl,rfl⟩))
  (fun os started H enc _=>Fm os started H enc)
end
#print axioms sliceAgain_holds
end Go.Proofs.YtfffpjkcfnekaaaGreat
