/- veilworklaw.WatchReads answers true, whatever it is handed: of two runs that are watched, of whatever program, who sees the same coming in sees the same happen, as long as both have something there, but that the first difference may be what is revealed. -/
import Derived.Test.YtfffpjkcfnekaaaGreatE07
import Derived.Test.YtfffpjkcfnekaaaGreatE15
import Derived.ChangeOld
set_option linter.unusedVariables false
set_option maxHeartbeats 8000000
set_option maxRecDepth 100000
namespace Go.Proofs.YtfffpjkcfnekaaaGreat
open Go.RowKit
open Go.Value renaming slice -> O, int -> zd, bool -> zg, agg -> zh, pointer -> zi, tuple -> zk
open Go.IntKind renaming i64 -> U
open Go.Obj renaming cells -> ze
open Go.Ending renaming returned -> zj
section
open Go.ChangeShapes Go.WideShapes Go.ChangeAt
theorem Tryz.own:ownKnob Tryz.prog.godebug=none:=by kernel_rfl
theorem Tryz.laidOut:laidOutB Tryz.prog=true:=by kernel_rfl
theorem Fu (os:Os) (started:os.Started) (H:Type) (enc:TypeId × Value->H) :
  ReturnsInHanded {} Tryz.checked os 6 .any (Rows.watchReadsSpec.pre6 enc Tryz.prog Tryz.f6 Rows.watchReadsRow.domain false) (Rows.watchReadsSpec.post enc Tryz.prog Tryz.f6 false true false false):=by
 refine returnsInHanded_of_change (C:=Tryz.checked) Tryz.own started (by kernel_rfl) Tryz.func6
  (ChangeSpec.witness6 (enc:=enc) (C:=Tryz.checked) false ⟨#[],#[zh #[zd U 0,O none 0 0,O none 0 0,O none 0 0,O none 0 0,O none 0 0,O none 0 0,O none 0 0],zd U 0,O none 0 0,O none 0 0,zd U 0],[]⟩ 8 (by kernel_rfl) (by kernel_rfl) (by kernel_rfl) (by kernel_rfl)) ?_
 intro W u args ds gs y g hW ab _;have b:∀ (j:Nat) t v,Tryz.f6.params[j]? = some t->args[j]? = some v->Value.okWide Tryz.prog W .any u t v:=g;have J:=hW;obtain ⟨p,q,s,hV,rfl,a9,a8⟩:=hW;have hA:DataW.TrodAll enc Tryz.prog W 0 (fun _=>true) true Tryz.f6.params.toList args.toList ds p:=s;rw [Tryz.params6] at hA b;obtain ⟨R,aq,d0,bl,p0,q0,I,rfl,rfl,h0,r0⟩:=trodAll_cons hA;obtain ⟨Q,ao,d1,bk,p1,q1,rfl,rfl,rfl,h1,r1⟩:=trodAll_cons r0;obtain ⟨P,an,d2,bj,p2,q2,rfl,rfl,rfl,h2,r2⟩:=trodAll_cons r1;obtain ⟨N,am,d3,bi,p3,q3,rfl,rfl,rfl,h3,r3⟩:=trodAll_cons r2;obtain ⟨M,al,d4,bh,p4,q4,rfl,rfl,rfl,h4,r4⟩:=trodAll_cons r3;obtain ⟨rfl,rfl,rfl⟩:=trodAll_nil r4;obtain rfl:args=#[R,Q,P,N,M]:=by cases args;simp_all
 obtain ⟨rfl,rfl⟩:=trodVars_none hV;have k0:=h0;have G:∀ x∈p0,x.block < W.heap.size:=by obtain ⟨m,k⟩:=k0;exact DataW.trod_lt m _ _ _ k
 have Z:=h1;have F:∀ x∈p1,x.block < W.heap.size:=by obtain ⟨m,k⟩:=Z;exact DataW.trod_lt m _ _ _ k
 have V:=h2;have E:∀ x∈p2,x.block < W.heap.size:=by obtain ⟨m,k⟩:=V;exact DataW.trod_lt m _ _ _ k
 have T:=h3;have B:∀ x∈p3,x.block < W.heap.size:=by obtain ⟨m,k⟩:=T;exact DataW.trod_lt m _ _ _ k
 have S:=h4;have A:∀ x∈p4,x.block < W.heap.size:=by obtain ⟨m,k⟩:=S;exact DataW.trod_lt m _ _ _ k
 obtain ⟨K,m,ga,gn,gc,sa,sn,sc,ya,yn,yc,oa,on,oc,va,vn,vc,fa,fn,fc,ba,bn,bc,L,sp,ls,ms,vs,fs,l,rfl,hP⟩:=Ex.open_program (b 0 31 R rfl rfl) h0;obtain ⟨who,rfl,-,-,-⟩:=open_int Tryz.underlying3 (b 1 3 Q rfl rfl) h1;obtain ⟨xa,xn,xc,ins,rfl,hX,-⟩:=Ex.open_lists (b 2 52 P rfl rfl) h2;obtain ⟨qa,qn,qc,i,rfl,hQ,-⟩:=Ex.open_lists (b 3 52 N rfl rfl) h3;obtain ⟨fuel,rfl,-,-,-⟩:=open_int Tryz.underlying3 (b 4 3 M rfl rfl) h4;clear s g;refine (Ex.readsLaw K K m ga gn gc sa sn sc ya yn yc oa on oc va vn vc fa fn fc ba bn bc xa xn xc qa qn qc ins i who fuel L sp ls ms vs fs l W hP hX hQ).mono fun e W' ⟨he,f⟩=>?_;subst he;exact ⟨_,rfl,_,_,_,[],_,[],J,trodAll_mk1 (shut_bool Tryz.underlying4 _),(trodAll_cons_mk (Below.trod Tryz.laidOut (by kernel_rfl) (of_decide_eq_true (by kernel_rfl)) k0 f G) (trodAll_cons_mk (Below.trod Tryz.laidOut (by kernel_rfl) (of_decide_eq_true (by kernel_rfl)) Z f F) (trodAll_cons_mk (Below.trod Tryz.laidOut (by kernel_rfl) (of_decide_eq_true (by kernel_rfl)) V f E) (trodAll_cons_mk (Below.trod Tryz.laidOut (by kernel_rfl) (of_decide_eq_true (by kernel_rfl)) T f B) (trodAll_cons_mk (Below.trod Tryz.laidOut (by kernel_rfl) (of_decide_eq_true (by kernel_rfl)) S f A) trodAll_mk0))))),rfl,f.frame _,fun h=>by cases h⟩
theorem watchReads_holds:Rows.WatchReadsSaid:=
 OpenClaim.holds_of_wide 6 Tryz.f6 rfl rfl rfl rfl rfl rfl rfl ⟨rfl,rfl,rfl,rfl,rfl⟩ rfl rfl rfl rfl rfl (by kernel_rfl) Tryz.func6 (by kernel_rfl)
  (of_decide_eq_true (by kernel_rfl)) (by unfold Func.isWrapper;first | (rw [if_pos (by decide +kernel)];kernel_rfl) | (rw [if_neg (by decide +kernel)];exact ⟨rfl,rfl⟩))
  (fun os started H enc _=>Fu os started H enc)
end
#print axioms watchReads_holds
end Go.Proofs.YtfffpjkcfnekaaaGreat
