/- Package label: Join and Meet keep their contracts. -/
import Derived.Deep.RegionHeld3
import Derived.Deep.DrawnRows
import Derived.RangeFuncNested
import Derived.RangeFuncBound
import Derived.RangeFuncCalls
import Derived.RangeFuncLeaves
import Derived.Shelf.Abstract
import Derived.Shelf.RegionOpen
import Derived.WalkKit
import Derived.OwnWalkIn
import Derived.TacticsInMore
import Derived.LoopNIn
import Derived.LoopIn
import Derived.OrdersHeld
import Derived.Test.YtfffpjkcfnekaaaGreatH05
import Derived.Laws.CopyOwn
set_option linter.unusedVariables false
set_option maxHeartbeats 8000000
set_option maxRecDepth 100000
namespace Go.Proofs.YtfffpjkcfnekaaaGreat
open Go.RowKit
open Go.Value renaming slice -> O, int -> zd, bool -> ze, agg -> zg, pointer -> zi, tuple -> zj
open Go.IntKind renaming i64 -> U
open Go.Obj renaming cells -> zf
open Go.Ending renaming returned -> zh
attribute [local go_sem ↓] Go.wp_at_zero Go.wp_at_succ
attribute [local go_sem ↓] Go.wp_at_zero Go.wp_at_succ
theorem Lg {m:Int} {gs:List (Int × Int)} {bl:Lab} (h:Co m gs bl=0):∃ n:Nat,m=n/\1<=n/\n<=6/\(Fj gs).map toI=gs/\(Fj gs).length<=20/\(∀ g∈Fj gs,g.1 < n/\g.2 < n)/\L1 n bl/\AX m gs=0:=by
 unfold Co at h
 split at h
 ·rename_i hc
  obtain ⟨n,hm,h1,h2,h3,h4,h5⟩:=Hk hc
  subst hm
  exact ⟨n,rfl,h1,h2,h3,h4,h5,I3 h,hc⟩
 ·rename_i hc
  exact absurd h hc
end Go.Proofs.YtfffpjkcfnekaaaGreat
namespace Go.Proofs.YtfffpjkcfnekaaaGreat.Ex
open Go.RowKit
open Go.Value renaming slice -> O, int -> zd, bool -> ze, agg -> zg, pointer -> zi, tuple -> zj
open Go.IntKind renaming i64 -> U
open Go.Obj renaming cells -> zf
open Go.Ending renaming returned -> zh
theorem AK {w:World} {B e s:Nat} {v:Value} {n:Nat} {xs:List Value} (h:w.ownsRow B e s v n xs):∃ a n c,v=O a n c:=by
 obtain ⟨h1,⟨h,_⟩ | ⟨g,cap,cur,h2,h3,h4⟩⟩:=h
 ·exact ⟨_,_,_,h⟩
 ·exact ⟨_,_,_,h2⟩
end Go.Proofs.YtfffpjkcfnekaaaGreat.Ex
namespace Go.Proofs.YtfffpjkcfnekaaaGreat.Ex
def AR:Nat->D->List Int
 | 0,_=>[]
 | k+1,d=>if Ap d=2 then [AA d] else (Ar d).flatMap (AR k)
section walk
variable {σ:Type} (n K:Nat) (lev:σ->List Lev) (step:Int->D->Lev->σ->σ)
end walk
section ask
variable {σ:Type} (n K:Nat) (lev:σ->List Lev) (known:List Bool) (ins:List Lev) (fs:List FnD) (flow:Lev->Bool × Nat->σ->σ)
end ask
end Go.Proofs.YtfffpjkcfnekaaaGreat.Ex
namespace Go.Proofs.YtfffpjkcfnekaaaGreat.Ex
open Go.RowKit Go.Shelf
open Go.Value renaming slice -> O, int -> zd, bool -> ze, agg -> zg, pointer -> zi, tuple -> zj
open Go.IntKind renaming i64 -> U
open Go.Obj renaming cells -> zf
open Go.Ending renaming returned -> zh
attribute [local go_sem] Oper.semAt_some
theorem Ml {F:Fence} (hd:F.depth=none) (k:Nat):F.room k:=fun d h=>by rw [hd] at h;cases h
theorem Kj {F:Fence} (hd:F.depth=none) {m m':Nat} {P:Program} {l:Nat} {f:FuncId} {tmps:Array Value} {assign body:Code} {w:World} {R:Ending->World->Prop}
  (h:RoundIn F m P l f tmps assign body w R):RoundIn F m' P l f tmps assign body w R:=⟨h.1,fun c cs _=>h.2 c cs (Ml hd _)⟩
theorem Ki {F:Fence} (hd:F.depth=none) {m:Nat} (m':Nat) {P:Program} {l:Nat} {args:Array Value} {W:World} {R:Ending->World->Prop} (h:YieldAt F m P l args W R):YieldAt F m' P l args W R:=by
 obtain ⟨fn,tmps,assign,body,hy,hR⟩:=h
 exact ⟨fn,tmps,assign,body,hy,Kj hd hR⟩
abbrev F5 (nv:Nat):={ x:Int // 0<=x/\x < nv }
theorem ED {k:Nat} {ds:List D} {j:Nat} (h:j < ds.length):(ds.take (j+1)).flatMap (AR k)=(ds.take j).flatMap (AR k)++AR k ds[j]:=by
 rw [List.take_succ_eq_append_getElem h,List.flatMap_append]
 simp
theorem LZ (nv:Nat):∀ (l:List Int),(∀ v∈l,0<=v/\v < (nv:Int))->∃ ys:List (F5 nv),ys.map Subtype.val=l
 | [],_=>⟨[],rfl⟩
 | v::l,h=>by
  obtain ⟨ys,hy⟩:=LZ nv l fun x hx=>h x (by simp [hx])
  exact ⟨⟨v,h v (by simp)⟩::ys,by simp [hy]⟩
theorem Hg (F:Fence) (hd:F.depth=none) (hf:F.fn 211) (hro:F.round=none) (l nv N:Nat) (w0:World) (J Jx:List (F5 nv)->World->Prop)
  (hJ:∀ s A B,J s A->Ov A B->J s B)
  (hY:∀ m pre x W,J pre W->pre.length < N->YieldAt F m Tryz.prog l #[zd U x.1] W fun e W'=>
   (e=zh (ze true)/\J (pre++[x]) W'/\Below w0.heap.size W W')\/(e=zh (ze false)/\Jx (pre++[x]) W')) :
  ∀ (k n:Nat) (cs:List Value) (d:D) (pre ys:List (F5 nv)) (W:World),RX w0 k cs d->Ov w0 W->J pre W->ys.map Subtype.val=AR k d->pre.length+ys.length<=N ->
   CallsIn F n Tryz.prog 211 #[.agg cs.toArray,.func (.yield l) #[] #[]] W fun e W'=>
    (e=zh (ze true)/\J (pre++ys) W'/\Below w0.heap.size W W')\/(e=zh (ze false)/\∃ q,q <+: ys/\Jx (pre++q) W'):=by
 intro k
 induction k with
 | zero=>intro n cs d pre ys W h;exact h.elim
 | succ k ih=>
  intro n cs d pre ys W h hW hj hys hN
  obtain ⟨kd,nn,v,ds,rfl,rfl,i1,i2,hm,ao,cap,rfl,hds⟩:=h
  have hdd:∀ k:Nat,(F.depth.isSome=true->1<=k):=fun k h=>by rw [hd] at h;cases h
  have hm2:ds.length<=9223372036854775807:=hm
  by_cases hk:kd=2
  ·subst hk
   have hys2:ys.map Subtype.val=[nn]:=by rw [hys];simp [AR,Ap,AA,xD]
   obtain ⟨y,rfl⟩:∃ y,ys=[y]:=by
    match ys,hys2 with
    | [y],_=>exact ⟨y,rfl⟩
   have hyv:y.1=nn:=by simpa using hys2
   subst hyv
   have hba:=bA W (zf #[zd U 2,zd U y.1,O ao ds.length cap] 94)
   obtain ⟨fn,tmps,assign,body,hy,hR⟩:=hY (n - 1) pre y _ (hJ _ _ _ hj hba) (by simp at hN;omega)
   have hB:Below w0.heap.size W (W.alloc (zf #[zd U 2,zd U y.1,O ao ds.length cap] 94)):=hba.mono hW.size
   have HB:=Aa hB
   clear hB hba hj hys hys2 hds
   refine callsIn_of_wp Tryz.func211 rfl hf ?_ hro
   simp only [Tryz.ntmps211,List.size_toArray,List.length_cons,List.length_nil,Nat.reduceAdd,Nat.reduceSub,Array.replicate_succ,Array.replicate_zero,List.push_toArray,List.append_toArray,List.nil_append,List.cons_append]
   gi_wp2_with ((try refine ⟨hdd _,?_⟩);refine hR.mono ?_;clear hR;rintro e W2 (⟨rfl,hJ2,hb2⟩ | ⟨rfl,hx2⟩))
   ·go_ret
    exact .inl ⟨rfl,hJ2,HB.o.trans hb2⟩
   ·go_ret
    exact .inr ⟨rfl,[y],List.prefix_refl _,hx2⟩
  ·have hv:AR (k+1) (xD kd nn ds)=ds.flatMap (AR k):=by simp [AR,Ap,Ar,xD,hk]
   rw [hv] at hys
   have hkb:(kd == 2)=false:=by simpa using hk
   have hba:=bA W (zf #[zd U kd,zd U nn,O ao ds.length cap] 94)
   have HB:Hx (Below w0.heap.size W (W.alloc (zf #[zd U kd,zd U nn,O ao ds.length cap] 94))):=hba.mono hW.size
   have HJ0:=Aa (hJ _ _ _ hj hba)
   have HDS:=Aa hds
   have HYS:=Aa hys
   have HW:=Aa hW
   have HN:=Aa hN
   clear hds hys hv hba hj hW hN hY
   refine callsIn_of_wp Tryz.func211 rfl hf ?_ hro
   simp only [Tryz.ntmps211,List.size_toArray,List.length_cons,List.length_nil,Nat.reduceAdd,Nat.reduceSub,Array.replicate_succ,Array.replicate_zero,List.push_toArray,List.append_toArray,List.nil_append,List.cons_append]
   gi_wp2
   gi_loopw [17] (fun i wr=>∃ (j:Nat) (q1 q2:List (F5 nv)),j<=ds.length/\i=zd U j/\ys=q1++q2/\q1.map Subtype.val=(ds.take j).flatMap (AR k)/\J (pre++q1) wr/\Below w0.heap.size W wr) (fun i _=>ds.length - (intOf i).toNat)
   case atStart=>exact ⟨0,[],ys,Nat.zero_le _,rfl,rfl,by simp,by simpa using HJ0.o,HB.o⟩
   case round=>
    obtain ⟨j,q1,q2,hj1,rfl,hq,hq1,hJ1,hB1⟩:=hrel
    have HQ:=Aa hq
    have HQ1:=Aa hq1
    have HJ1:=Aa hJ1
    clear hq hq1 hJ1
    by_cases hlt:j < ds.length
    ·obtain ⟨b,off,rfl,hcl⟩:=HDS.o (by rintro rfl;simp at hlt)
     obtain ⟨cs2,hl3,hcs,hr⟩:=hcl j ds[j] (List.getElem?_eq_getElem hlt)
     obtain ⟨xa,xc,rfl⟩:=hr.form
     have hBw:=HW.o.trans hB1
     have g0:wr.cell? ⟨b,off+j*3,none⟩=_:=Ab hBw _ _ (hcs 0 _ rfl)
     have g1:=Ab hBw _ _ (hcs 1 _ rfl)
     have g2:=Ab hBw _ _ (hcs 2 _ rfl)
     have hsp:∃ z q3,q2=z++q3/\z.map Subtype.val=AR k ds[j]:=by
      have h1:=HYS.o
      rw [HQ.o,List.map_append,HQ1.o] at h1
      have h2:ds.flatMap (AR k)=(ds.take j).flatMap (AR k)++(AR k ds[j]++(ds.drop (j+1)).flatMap (AR k)):=by
       rw [<-List.append_assoc,<-ED hlt,<-List.flatMap_append,List.take_append_drop]
      rw [h2] at h1
      have h3:=List.append_cancel_left h1
      obtain ⟨z,q3,e1,e2,-⟩:=List.map_eq_append_iff.1 h3
      exact ⟨z,q3,e1,e2⟩
     obtain ⟨z,q3,hq2,hz⟩:=hsp
     have hlen:(pre++q1).length+z.length<=N:=by
      have:=HN.o
      rw [HQ.o,hq2] at this
      simp at this ⊢
      omega
     obtain ⟨ek,hek⟩:=nm (Ap ds[j])
     obtain ⟨en,hen⟩:=nm (AA ds[j])
     obtain ⟨xl,hxl⟩:=nm ((Ar ds[j]).length)
     have hba:=bA wr (zf #[zd U ek,zd U en,O xa xl xc] 94)
     rw [<-hek,<-hen,<-hxl] at hr
     rw [<-hek] at g0
     rw [<-hen] at g1
     rw [<-hxl] at g2
     have KI:=Aa (ih (n - 1) _ ds[j] (pre++q1) z _ hr (hBw.trans (hba.mono hBw.size)) (hJ _ _ _ HJ1.o hba) hz hlen)
     have HB2:=Aa (hB1.trans (hba.mono hBw.size))
     have HX:Hx (ys=(q1++z)++q3/\(q1++z).map Subtype.val=(ds.take (j+1)).flatMap (AR k)):=by
      refine ⟨by rw [HQ.o,hq2,List.append_assoc],?_⟩
      rw [List.map_append,HQ1.o,hz,ED hlt]
     clear hcl hcs hr hl3 hek hen hxl hq2 hz hlen hba hBw HJ1 HQ HQ1
     gi_wp2_with ((try refine ⟨hdd _,?_⟩);gi_at_call 211;refine (KI.o).mono ?_;clear KI;rintro e W2 (⟨rfl,hJ2,hb2⟩ | ⟨rfl,q,hq,hx2⟩))
     ·have HJ2:=Aa hJ2
      have HB3:=Aa (HB2.o.trans hb2)
      clear hJ2 hb2
      gi_wp2
      go_roundw
      case rel=>exact ⟨j+1,q1++z,q3,by omega,by go_num,HX.o.1,HX.o.2,by rw [<-List.append_assoc];exact HJ2.o,HB3.o⟩
      case measure=>simp [intOf];omega
     ·gi_wp2
      go_ret
      refine .inr ⟨rfl,q1++q,?_,by rw [<-List.append_assoc];exact hx2⟩
      rw [HX.o.1,List.append_assoc]
      exact (List.prefix_append_right_inj _).2 (hq.trans (List.prefix_append _ _))
    ·gi_wp2
     go_ret
     refine .inl ⟨rfl,?_,hB1⟩
     have h1:=HYS.o
     have h2:=HQ1.o
     rw [List.take_of_length_le (by omega),<-h1,HQ.o] at h2
     have h3:q2=[]:=by
      have:=congrArg List.length h2
      simp at this
      exact this
     rw [HQ.o,h3,List.append_nil]
     exact HJ1.o
attribute [local go_sem] Oper.semAt_some
theorem Kp (F:Fence) (n:Nat) (hf:F.fn 164) (hro:F.round=none) (ek en:Int) (xa xl xc) (w:World) :
  CallsIn F n Tryz.prog 164 #[zg #[zd U ek,zd U en,O xa xl xc]] w fun e w'=>e=zh (.func (.func 210) #[] #[zi (some ⟨w.heap.size,0,none⟩)])/\w'=w.alloc (zf #[zd U ek,zd U en,O xa xl xc] 94):=by
 refine callsIn_of_wp Tryz.func164 rfl hf ?_ hro
 simp only [Tryz.ntmps164,List.size_toArray,List.length_cons,List.length_nil,Nat.reduceAdd,Nat.reduceSub,Array.replicate_succ,Array.replicate_zero,List.push_toArray,List.append_toArray,List.nil_append,List.cons_append]
 gi_wp2
 go_ret
 exact ⟨rfl,rfl⟩
theorem Jn (F:Fence) (hd:F.depth=none) (n:Nat) (hf:F.fn 210) (hf2:F.fn 211) (hro:F.round=none) (l nv Bt K:Nat) (w0:World) (ek en:Int) (xa xl xc d) (ys:List (F5 nv)) (J Jx:List (F5 nv)->World->Prop)
  (hJ:∀ s A B,J s A->Ov A B->J s B)
  (hY:∀ pre x W,J pre W->pre.length < ys.length->YieldAt F (n - 1) Tryz.prog l #[zd U x.1] W fun e W'=>
   (e=zh (ze true)/\J (pre++[x]) W'/\Below w0.heap.size W W')\/(e=zh (ze false)/\Jx (pre++[x]) W'))
  (W:World) (c0:W.cell? ⟨Bt,0,none⟩=some (zd U ek)) (c1:W.cell? ⟨Bt,1,none⟩=some (zd U en)) (c2:W.cell? ⟨Bt,2,none⟩=some (O xa xl xc)) (hx:RX w0 K [zd U ek,zd U en,O xa xl xc] d) (hW:Ov w0 W) (hys:ys.map Subtype.val=AR K d) (h0:J [] W) :
  CallsIn F n Tryz.prog 210 #[.func (.yield l) #[] #[],zi (some ⟨Bt,0,none⟩)] W fun e W'=>(∃ v,e=zh v) /\
   ((∃ zs,zs=ys/\J zs W')\/(∃ pre,pre <+: ys/\Jx pre W')):=by
 have hdd:∀ k:Nat,(F.depth.isSome=true->1<=k):=fun k h=>by rw [hd] at h;cases h
 have hp:=Aa (Hg F hd hf2 hro l nv ys.length w0 J Jx hJ (fun m pre x W hj hl=>Ki hd m (hY pre x W hj hl)) K (n - 1) _ d [] ys W hx hW h0 hys (by simp))
 clear hx hys hY h0 hW
 refine callsIn_of_wp Tryz.func210 rfl hf ?_ hro
 simp only [Tryz.ntmps210,List.size_toArray,List.length_cons,List.length_nil,Nat.reduceAdd,Nat.reduceSub,Array.replicate_succ,Array.replicate_zero,List.push_toArray,List.append_toArray,List.nil_append,List.cons_append]
 gi_wp2_with ((try refine ⟨hdd _,?_⟩);gi_at_call 211;refine hp.o.mono ?_;clear hp;rintro e W1 (⟨rfl,hJ1,_⟩ | ⟨rfl,q,hq,hx⟩))
 ·go_end0
  exact ⟨⟨_,rfl⟩,.inl ⟨_,rfl,by simpa using hJ1⟩⟩
 ·go_end0
  exact ⟨⟨_,rfl⟩,.inr ⟨q,hq,by simpa using hx⟩⟩
theorem GS (F:Fence) (hd:F.depth=none) (n:Nat) (hf:F.fn 210) (hf2:F.fn 211) (hro:F.round=none) (nv Bt K:Nat) (w0:World) (ek en:Int) (xa xl xc d) (ys:List (F5 nv)) (w:World) (hBt:Bt < w.heap.size) (hw:Ov w0 w)
  (c0:w.cell? ⟨Bt,0,none⟩=some (zd U ek)) (c1:w.cell? ⟨Bt,1,none⟩=some (zd U en)) (c2:w.cell? ⟨Bt,2,none⟩=some (O xa xl xc)) (hx:RX w0 K [zd U ek,zd U en,O xa xl xc] d) (hys:ys.map Subtype.val=AR K d) :
  SeqStopsK F n Tryz.prog 210 #[zi (some ⟨Bt,0,none⟩)] (fun x:F5 nv=>#[Value.int U x.1]) (Below w0.heap.size) (fun zs=>zs=ys) (fun pre=>pre <+: ys) ys.length w:=fun l J Jx W hW hJ _ hY h0=>
 Jn F hd n hf hf2 hro l nv Bt K w0 ek en xa xl xc d ys J Jx (fun s A B hj hb=>hJ s A B none hj ⟨hb.os,hb.tape,hb.output,hb.size,fun k hk _=>hb.block k hk⟩ (fun r e=>by cases e)) hY W
  ((hW.cell (p:=⟨Bt,0,none⟩) hBt).trans c0) ((hW.cell (p:=⟨Bt,1,none⟩) hBt).trans c1) ((hW.cell (p:=⟨Bt,2,none⟩) hBt).trans c2) hx (hw.trans (hW.mono hw.size)) hys h0
end Go.Proofs.YtfffpjkcfnekaaaGreat.Ex
namespace Go.Proofs.YtfffpjkcfnekaaaGreat.Ex
open Go.RowKit
open Go.Value renaming slice -> O, int -> zd, bool -> ze, agg -> zg, pointer -> zi, tuple -> zj
open Go.IntKind renaming i64 -> U
open Go.Obj renaming cells -> zf
open Go.Ending renaming returned -> zh
theorem tk {P:Program} {ops:Array Oper} {Q:Exit->Act->World->Prop} {md:Region.Mode} {S:World->Prop} {i:Nat} {oi:Oper} {v:Value} {fuel:Nat} {listed:Array Bool} {a:Act} {w:World} (hy:YieldsIf P ops S oi v a) (hS:S w)
  (h:wpAnyH P md ops Q S fuel (listed.setIfInBounds i true) (a.put oi.dst v) w) (hi:ops[i]? = some oi:=by rfl)
  (hs:Region.noSelect ops=true:=by kernel_rfl) (hf:Region.free md ops listed i=true:=by kernel_rfl) (hr:(Region.ready md ops listed).contains i=true:=by kernel_rfl)
  (hQ:∀ c a w,Q (.panic c) (a.put oi.dst v) w->Q (.panic c) a w:=by exact fun _ _ _ h=>h):wpAnyH P md ops Q S (fuel+1) listed a w:=
 wpAnyH_take hi hs hf hr hQ hy hS h
def BR (Qn:Act->World->Prop):Exit->Act->World->Prop
 | .normal,a,w=>Qn a w
 | _,_,_=>False
theorem JD {Qn:Act->World->Prop}:¬ LetsOut (BR Qn):=fun ⟨_,_,h⟩=>h
theorem Kr {lo n:Nat} {P:Program} {o:Oper} {a:Act} {K K':Act->World->Prop} {Qn:Act->World->Prop} (hK:∀ a w,K a w->K' a w) :
  ∀ x:Result Next,o.upon P a K (BR Qn) x->o.uponIn (Fence.wide.inRound lo) n P a K' (BR Qn) x:=by
 intro x h
 unfold Oper.upon at h
 split at h
 ·exact hK _ _ h
 ·exact hK _ _ h
 ·exact hK _ _ h
 ·refine ⟨fun h=>(by cases h),CallsIn.inRound lo (callsIn_wide.2 (h.mono ?_))⟩
  intro e w' h
  cases e with
  | returned v=>exact hK _ _ h
  | panicked c=>exact h
  | outgrown=>exact h
 ·exact ⟨fun h=>(by cases h),fun c cs _=>by obtain ⟨v,w2,r,s⟩:=h c cs;exact ⟨v,w2,hK _ _ r,stepsIn_wide.2 s⟩⟩
 ·exact h
 ·exact h.elim
theorem MR {lo n:Nat} {P:Program} {ops:Array Oper} (hdf:∀ (i:Nat) o,ops[i]? = some o->∀ c,o.op≠.defer c) {Qn:Act->World->Prop} {i:Nat} {K K':Act->World->Prop} (hK:∀ a w,K a w->K' a w) (a:Act) (w:World)
  (h:wpOp P ops (BR Qn) i K a w):wpOpIn (Fence.wide.inRound lo) n P ops (BR Qn) i K' a w:=by
 unfold wpOp at h
 unfold wpOpIn
 split at h
 ·rename_i he;simp only [he];exact hK _ _ h
 ·rename_i o he
  simp only [he]
  split at h
  ·rename_i hw
   rw [if_pos hw]
   rcases h with h | ⟨-,h⟩
   ·refine ⟨fun _ _=>trivial,?_⟩
    rw [Oper.semAt_plain _ _ _ (hdf i o he)]
    exact Kr hK _ h
   ·exact (JD h).elim
  ·rename_i hw
   rw [if_neg hw]
   exact ⟨fun _ _=>trivial,hK _ _ h⟩
theorem Kh {lo n:Nat} {P:Program} {md:Region.Mode} {ops:Array Oper} (hdf:∀ (i:Nat) o,ops[i]? = some o->∀ c,o.op≠.defer c) {Qn:Act->World->Prop} :
  ∀ (fuel:Nat) (listed:Array Bool) (a:Act) (w:World),wpAny P md ops (BR Qn) fuel listed a w->wpAnyIn (Fence.wide.inRound lo) n P md ops (BR Qn) fuel listed a w
 | 0,_,_,_,h=>h
 | fuel+1,listed,a,w,h=>⟨h.1,fun i hi=>MR hdf (fun a w h=>Kh hdf fuel _ a w h) a w (h.2 i hi)⟩
theorem FH {lo n:Nat} {P:Program} {id:Nat} {ops:Array Oper} {Q:Exit->Act->World->Prop} {S:World->Prop} {a:Act} {w:World} (hm:P.follows .mixedOrders=true) (hdf:∀ (i:Nat) o,ops[i]? = some o->∀ c,o.op≠.defer c)
  (h:wpAnyH P .any ops (BR (Q .normal)) S ops.size (Array.replicate ops.size false) a w.drew):(Code.region id ops true).wpIn (Fence.wide.inRound lo) n P Q a w:=
 wpIn_mono (wpIn_region_any hm (Kh hdf _ _ _ _ (wpAny_of_held _ _ _ _ h))) fun e a w h=>by
  cases e <;> first | exact h | exact h.elim
end Go.Proofs.YtfffpjkcfnekaaaGreat.Ex
namespace Go.Proofs.YtfffpjkcfnekaaaGreat.Ex
open Go.RowKit Go.Shelf
open Go.Value renaming slice -> O, int -> zd, bool -> ze, agg -> zg, pointer -> zi, tuple -> zj
open Go.IntKind renaming i64 -> U
open Go.Obj renaming cells -> zf
open Go.Ending renaming returned -> zh
attribute [local go_sem] Oper.semAt_some
theorem GC {W W':World} (h:Ov W W'):KeepsOthers W W':=KeepsOthers.of_grownBy (row:=none) ⟨h.os,h.tape,h.output,h.size,fun k hk _=>h.block k hk⟩ (fun _ _ e=>by cases e)
end Go.Proofs.YtfffpjkcfnekaaaGreat.Ex
namespace Go.Proofs.YtfffpjkcfnekaaaGreat.Ex
open Go.RowKit
open Go.Value renaming slice -> O, int -> zd, bool -> ze, agg -> zg, pointer -> zi, tuple -> zj
open Go.IntKind renaming i64 -> U
open Go.Obj renaming cells -> zf
open Go.Ending renaming returned -> zh
structure FrW (X:World->Nat->Prop) (W W':World):Prop where
 os:W'.os=W.os
 tape:W'.tape=W.tape
 output:W'.output=W.output
 size:W.heap.size<=W'.heap.size
 block:∀ k,k < W.heap.size->¬ X W k->W'.heap[k]? = W.heap[k]?
 mov:∀ k,k < W.heap.size->X W' k->X W k
theorem FrW.trans {X:World->Nat->Prop} {A B C:World} (h:FrW X A B) (k:FrW X B C):FrW X A C:=
 ⟨k.os.trans h.os,k.tape.trans h.tape,k.output.trans h.output,Nat.le_trans h.size k.size,fun i hi hx=>(k.block i (Nat.lt_of_lt_of_le hi h.size) (fun hh=>hx (h.mov i hi hh))).trans (h.block i hi hx),fun i hi hx=>h.mov i hi (k.mov i (Nat.lt_of_lt_of_le hi h.size) hx)⟩
structure XOk (X:World->Nat->Prop):Prop where
 below:∀ W W',Ov W W'->∀ k,X W' k->X W k
theorem FrW.of_below {X:World->Nat->Prop} (hX:XOk X) {A B:World} (h:Ov A B):FrW X A B:=⟨h.os,h.tape,h.output,h.size,fun k hk _=>h.block k hk,fun k _ hx=>hX.below A B h k hx⟩
theorem FrW.refl {X:World->Nat->Prop} (A:World):FrW X A A:=⟨rfl,rfl,rfl,Nat.le_refl _,fun _ _ _=>rfl,fun _ _ h=>h⟩
theorem FrW.cell {X:World->Nat->Prop} {A B:World} (h:FrW X A B) {b j:Nat} {u:Value} (hc:A.cell? ⟨b,j,none⟩=some u) (hx:¬ X A b):B.cell? ⟨b,j,none⟩=some u:=
 (World.cell?_of_block (h.block b (bL hc) hx)).trans hc
theorem FrW.frozen {X:World->Nat->Prop} {A B:World} (h:FrW X A B) {b j:Nat} (hb:b < A.heap.size) (hx:¬ X A b):B.frozen? ⟨b,j,none⟩=A.frozen? ⟨b,j,none⟩:=World.frozen?_of_block (h.block b hb hx)
theorem FrW.row {X:World->Nat->Prop} {A B:World} (h:FrW X A B) {b:Nat} {cs:List Value} (hc:Ad cs A b) (hx:¬ X A b):Ad cs B b:=fun j u hu=>h.cell (hc j u hu) hx
theorem Fm {m:Int}:∀ (k:Nat) (d:D),(∀ x∈AB k d,Be m (Ap x) (AA x) (Ar x).length=0)->∀ v∈AR k d,0<=v/\v < m
 | 0,_,_,v,hv=>by simp [AR] at hv
 | k+1,d,h,v,hv=>by
  unfold AR at hv
  have h0:=Dv (h d (by simp [AB]))
  by_cases h2:Ap d=2
  ·rw [if_pos h2] at hv
   simp at hv
   subst hv
   omega
  ·rw [if_neg h2] at hv
   obtain ⟨a,ha,hv⟩:=List.mem_flatMap.1 hv
   exact Fm k a (fun x hx=>h x (by simp only [AB,List.mem_cons,List.mem_flatMap];exact Or.inr ⟨a,ha,hx⟩)) v hv
theorem BZ {m:Int} {k:Nat} {d:D} (h:Am m k d=0):∀ v∈AR k d,0<=v/\v < m:=by
 unfold Am at h
 split at h
 ·omega
 ·exact Fm k d (CG h)
theorem Iu {k:Nat} {d:D} (h0:Ap d=0) (ha:Ar d=[]):AR k d=[]:=by
 cases k with
 | zero=>rfl
 | succ k=>unfold AR;rw [if_neg (by omega),ha];rfl
theorem GT {K nv ni no:Nat} {funcs:Int} {fs:List FnD} {d:D} (h:Dz K nv ni no funcs fs d):∀ v∈AR K (Ai d),0<=v/\v < (nv:Int):=by
 obtain ⟨h1,-,-,-,h5,h6,-⟩:=h
 by_cases hk:Ae d=2\/Ae d=3
 ·rw [Iu (h6 hk).1 (h6 hk).2]
  intro v hv
  cases hv
 ·exact BZ (h5 (by omega))
end Go.Proofs.YtfffpjkcfnekaaaGreat.Ex
