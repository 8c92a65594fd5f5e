/- veilworklaw.WatchReads answers true, whatever it is handed: of two runs that are watched, of whatever program, who sees the same coming in sees the same happen, as long as both have something there, but that the first difference may be what is revealed. -/
import Derived.Test.YtfffpjkcfnekaaaGreatE07
import Derived.Test.YtfffpjkcfnekaaaGreatE15
import Derived.ChangeOld
set_option linter.unusedVariables false
set_option maxHeartbeats 8000000
set_option maxRecDepth 100000
namespace Go.Proofs.YtfffpjkcfnekaaaGreat
open Go.RowKit
open Go.Value renaming slice -> O, int -> zd, bool -> zg, agg -> zh, pointer -> zi, tuple -> zk
open Go.IntKind renaming i64 -> U
open Go.Obj renaming cells -> ze
open Go.Ending renaming returned -> zj
section
open Go.ChangeShapes Go.WideShapes Go.ChangeAt
theorem Tryz.own:ownKnob Tryz.prog.godebug=none:=by kernel_rfl
theorem Tryz.laidOut:laidOutB Tryz.prog=true:=by kernel_rfl
theorem Fu (os:Os) (started:os.Started) (H:Type) (enc:TypeId × Value->H) :
  ReturnsInHanded {} Tryz.checked os 6 .any (Rows.watchReadsSpec.pre6 enc Tryz.prog Tryz.f6 Rows.watchReadsRow.domain false) (Rows.watchReadsSpec.post enc Tryz.prog Tryz.f6 false true false false):=by
 refine returnsInHanded_of_change (C:=Tryz.checked) Tryz.own started (by kernel_rfl) Tryz.func6
  (ChangeSpec.witness6 (enc:=enc) (C:=Tryz.checked) false ⟨#[],#[zh #[zd U 0,O none 0 0,O none 0 0,O none 0 0,O none 0 0,O none 0 0,O none 0 0,O none 0 0],zd U 0,O none 0 0,O none 0 0,zd U 0],[]⟩ 8 (by kernel_rfl) (by kernel_rfl) (by kernel_rfl) (by kernel_rfl)) ?_
 intro W n b ds gs o d hW S _;have a:∀ (j:Nat) t v,Tryz.f6.params[j]? = some t->b[j]? = some v->Value.okWide Tryz.prog W .any n t v:=d;have D:=hW;obtain ⟨p,q,i,hV,rfl,bg,bf⟩:=hW;have T:DataW.TrodAll enc Tryz.prog W 0 (fun _=>true) true Tryz.f6.params.toList b.toList ds p:=i;rw [Tryz.params6] at T a;obtain ⟨L,al,d0,bz,p0,q0,B,rfl,rfl,h0,r0⟩:=trodAll_cons T;obtain ⟨J,ak,d1,bx,p1,q1,rfl,rfl,rfl,Z,r1⟩:=trodAll_cons r0;obtain ⟨I,aj,d2,bw,p2,q2,rfl,rfl,rfl,Y,r2⟩:=trodAll_cons r1;obtain ⟨G,ai,d3,bv,p3,q3,rfl,rfl,rfl,X,r3⟩:=trodAll_cons r2;obtain ⟨F,ah,d4,bu,p4,q4,rfl,rfl,rfl,V,r4⟩:=trodAll_cons r3;obtain ⟨rfl,rfl,rfl⟩:=trodAll_nil r4;obtain rfl:b=#[L,J,I,G,F]:=by cases b;simp_all
 obtain ⟨rfl,rfl⟩:=trodVars_none hV;have R:=h0;have z:∀ x∈p0,x.block < W.heap.size:=by obtain ⟨m,g⟩:=R;exact DataW.trod_lt m _ _ _ g
 have Q:=Z;have y:∀ x∈p1,x.block < W.heap.size:=by obtain ⟨m,g⟩:=Q;exact DataW.trod_lt m _ _ _ g
 have P:=Y;have w:∀ x∈p2,x.block < W.heap.size:=by obtain ⟨m,g⟩:=P;exact DataW.trod_lt m _ _ _ g
 have N:=X;have u:∀ x∈p3,x.block < W.heap.size:=by obtain ⟨m,g⟩:=N;exact DataW.trod_lt m _ _ _ g
 have M:=V;have s:∀ x∈p4,x.block < W.heap.size:=by obtain ⟨m,g⟩:=M;exact DataW.trod_lt m _ _ _ g
 obtain ⟨K,m,ga,gn,gc,sa,sn,sc,ya,yn,yc,oa,on,oc,va,vn,vc,fa,fn,fc,ba,bn,bc,E,sp,ls,ms,vs,fs,l,rfl,hP⟩:=Ex.open_program (a 0 31 L rfl rfl) h0;obtain ⟨r,rfl,-,-,-⟩:=open_int Tryz.underlying3 (a 1 3 J rfl rfl) Z;obtain ⟨xa,xn,xc,A,rfl,hX,-⟩:=Ex.open_lists (a 2 52 I rfl rfl) Y;obtain ⟨qa,qn,qc,f,rfl,hQ,-⟩:=Ex.open_lists (a 3 52 G rfl rfl) X;obtain ⟨k,rfl,-,-,-⟩:=open_int Tryz.underlying3 (a 4 3 F rfl rfl) V;clear i d;refine (Ex.readsLaw K K m ga gn gc sa sn sc ya yn yc oa on oc va vn vc fa fn fc ba bn bc xa xn xc qa qn qc A f r k E sp ls ms vs fs l W hP hX hQ).mono fun e W' ⟨he,c⟩=>?_;subst he;exact ⟨_,rfl,_,_,_,[],_,[],D,trodAll_mk1 (shut_bool Tryz.underlying4 _),(trodAll_cons_mk (Below.trod Tryz.laidOut (by kernel_rfl) (of_decide_eq_true (by kernel_rfl)) R c z) (trodAll_cons_mk (Below.trod Tryz.laidOut (by kernel_rfl) (of_decide_eq_true (by kernel_rfl)) Q c y) (trodAll_cons_mk (Below.trod Tryz.laidOut (by kernel_rfl) (of_decide_eq_true (by kernel_rfl)) P c w) (trodAll_cons_mk (Below.trod Tryz.laidOut (by kernel_rfl) (of_decide_eq_true (by kernel_rfl)) N c u) (trodAll_cons_mk (Below.trod Tryz.laidOut (by kernel_rfl) (of_decide_eq_true (by kernel_rfl)) M c s) trodAll_mk0))))),rfl,c.frame _,fun h=>by cases h⟩
theorem watchReads_holds:Rows.WatchReadsSaid:=
 OpenClaim.holds_of_wide 6 Tryz.f6 rfl rfl rfl rfl rfl rfl rfl ⟨rfl,rfl,rfl,rfl,rfl⟩ rfl rfl rfl rfl rfl (by kernel_rfl) Tryz.func6 (by kernel_rfl)
  (of_decide_eq_true (by kernel_rfl)) (by unfold Func.isWrapper;first | (rw [if_pos (by decide +kernel)];kernel_rfl) | (rw [if_neg (by decide +kernel)];exact ⟨rfl,rfl⟩))
  (fun os started H enc _=>Fu os started H enc)
end
#print axioms watchReads_holds
end Go.Proofs.YtfffpjkcfnekaaaGreat
