/- The small program passes its check. -/
import Derived.Test.YtfffpjkcfnekaaaGreatF02
import Derived.Defers
import Derived.Recover
import Derived.OwnWalkIn
import Derived.OrdersHeld
import Derived.RangeFuncNested
import Derived.RangeFuncCalls
import Derived.Deep.RegionHeld3
import Derived.Laws.AppendOwnNone
import Derived.Laws.CopyOwn
set_option linter.unusedVariables false
set_option maxHeartbeats 8000000
set_option maxRecDepth 100000
namespace Go.Proofs.YtfffpjkcfnekaaaGreat.Ex
open Go.RowKit
open Go.Value renaming slice -> O, int -> U, bool -> zg, agg -> zh, pointer -> zj, tuple -> zm
open Go.IntKind renaming i64 -> zd
open Go.Obj renaming cells -> ze
open Go.Ending renaming returned -> zk
structure DS (bi bo bv bm:Nat) (w:World):Prop where
 ins:Ae [O none 0 0,O none 0 0] w bi
 outs:Ae [O none 0 0,O none 0 0] w bo
 vars:Ae [zg false,O none 0 0,O none 0 0] w bv
 main:Ae CB w bm
theorem DS.over {bi bo bv bm:Nat} {w w':World} (h:DS bi bo bv bm w) (hB:Ov w w'):DS bi bo bv bm w':=
 ⟨h.ins.over hB,h.outs.over hB,h.vars.over hB,h.main.over hB⟩
end Go.Proofs.YtfffpjkcfnekaaaGreat.Ex
namespace Go.Proofs.YtfffpjkcfnekaaaGreat.Ex
open Go.RowKit Go.Shelf
open Go.Value renaming slice -> O, int -> U, bool -> zg, agg -> zh, pointer -> zj, tuple -> zm
open Go.IntKind renaming i64 -> zd
open Go.Obj renaming cells -> ze
open Go.Ending renaming returned -> zk
attribute [local go_sem] Oper.semAt_some
def Oz (B:Nat) (v:Value):Prop:=∀ a n c,v=O (some a) n c->B<=a.block
def Kp (B:Nat) (v:Value):Prop:=∃ x y,v=zh #[x,y]/\Oz B x/\Oz B y
theorem Hy {W:World} {B e s n:Nat} {v:Value} {xs:List Value} (h:W.ownsRow B e s v n xs):Oz B v:=by
 intro a m c hv
 rcases h.2 with ⟨h,-⟩ | ⟨g,cap,cur,h,hb,-⟩
 ·rw [hv] at h;cases h
 ·rw [hv] at h;injection h with h1 h2 h3;injection h1 with h1;rw [h1];exact hb
theorem BN {w w':World} {v:Value} {l:Lev} (h:Bh w w' v l):Kp w.heap.size v:=by
 obtain ⟨x,y,hv,hx,hy,-⟩:=h
 exact ⟨x,y,hv,Hy hx,Hy hy⟩
theorem Ao {w w':World} {v:Value} {l:Lev} (h:Bh w w' v l):A7 w' v l:=by
 obtain ⟨x,y,hv,hx,hy,-⟩:=h
 exact ⟨x,y,hv,C7 hx,C7 hy⟩
theorem D8 {W W':World} {v:Value} {l:List Bool} (h:AP W v l) (hc:∀ a u,W.cell? a=some u->W'.cell? a=some u):AP W' v l:=by
 obtain ⟨ao,cap,hv,hel⟩:=h
 refine ⟨ao,cap,hv,fun hne=>?_⟩
 obtain ⟨b,off,hao,hel⟩:=hel hne
 exact ⟨b,off,hao,fun i hi=>hc _ _ (hel i hi)⟩
theorem Fa {W W':World} {v:Value} {l:Lev} (h:A7 W v l) (hc:∀ a u,W.cell? a=some u->W'.cell? a=some u):A7 W' v l:=by
 obtain ⟨x,y,hv,hx,hy⟩:=h
 exact ⟨x,y,hv,D8 hx hc,D8 hy hc⟩
theorem Jy (F:Fence) (n:Nat) (hf:F.fn 164) (hro:F.round=none) (ek en:Int) (xa xl xc) (w:World) :
  CallsIn F n Tryz.prog 164 #[zh #[U zd ek,U zd en,O xa xl xc]] w fun e w'=>e=zk (.func (.func 210) #[] #[zj (some ⟨w.heap.size,0,none⟩)])/\w'=w.alloc (ze #[U zd ek,U zd en,O xa xl xc] 94):=by
 refine callsIn_of_wp Tryz.func164 rfl hf ?_ hro
 simp only [Tryz.ntmps164,List.size_toArray,List.length_cons,List.length_nil,Nat.reduceAdd,Nat.reduceSub,Array.replicate_succ,Array.replicate_zero,List.push_toArray,List.append_toArray,List.nil_append,List.cons_append]
 gi_wp2
 go_ret
 exact ⟨rfl,rfl⟩
theorem K8 (F:Fence) (hd:F.depth=none) (n:Nat) (hf:F.fn 210) (hf2:F.fn 211) (hro:F.round=none) (l nv Bt K:Nat) (w0:World) (ek en:Int) (xa xl xc d) (ys:List (D4 nv)) (J Jx:List (D4 nv)->World->Prop)
  (hJ:∀ s A B,J s A->Ov A B->J s B)
  (hY:∀ pre x W,J pre W->pre.length < ys.length->YieldAt F (n - 1) Tryz.prog l #[U zd x.1] W fun e W'=>
   (e=zk (zg true)/\J (pre++[x]) W'/\Below w0.heap.size W W')\/(e=zk (zg false)/\Jx (pre++[x]) W'))
  (W:World) (c0:W.cell? ⟨Bt,0,none⟩=some (U zd ek)) (c1:W.cell? ⟨Bt,1,none⟩=some (U zd en)) (c2:W.cell? ⟨Bt,2,none⟩=some (O xa xl xc)) (hx:RX w0 K [U zd ek,U zd en,O xa xl xc] d) (hW:Ov w0 W) (hys:ys.map Subtype.val=AC K d) (h0:J [] W) :
  CallsIn F n Tryz.prog 210 #[.func (.yield l) #[] #[],zj (some ⟨Bt,0,none⟩)] W fun e W'=>(∃ v,e=zk v) /\
   ((∃ zs,zs=ys/\J zs W')\/(∃ pre,pre <+: ys/\Jx pre W')):=by
 have hdd:∀ k:Nat,(F.depth.isSome=true->1<=k):=fun k h=>by rw [hd] at h;cases h
 have hp:=Aa (Ja F hd hf2 hro l nv ys.length w0 J Jx hJ (fun m pre x W hj hl=>LZ hd m (hY pre x W hj hl)) K (n - 1) _ d [] ys W hx hW h0 hys (by simp))
 clear hx hys hY h0 hW
 refine callsIn_of_wp Tryz.func210 rfl hf ?_ hro
 simp only [Tryz.ntmps210,List.size_toArray,List.length_cons,List.length_nil,Nat.reduceAdd,Nat.reduceSub,Array.replicate_succ,Array.replicate_zero,List.push_toArray,List.append_toArray,List.nil_append,List.cons_append]
 gi_wp2_with ((try refine ⟨hdd _,?_⟩);gi_at_call 211;refine hp.o.mono ?_;clear hp;rintro e W1 (⟨rfl,hJ1,_⟩ | ⟨rfl,q,hq,hx⟩))
 ·go_end0
  exact ⟨⟨_,rfl⟩,.inl ⟨_,rfl,by simpa using hJ1⟩⟩
 ·go_end0
  exact ⟨⟨_,rfl⟩,.inr ⟨q,hq,by simpa using hx⟩⟩
theorem Fr (F:Fence) (hd:F.depth=none) (n:Nat) (hf:F.fn 210) (hf2:F.fn 211) (hro:F.round=none) (nv Bt K:Nat) (w0:World) (ek en:Int) (xa xl xc d) (ys:List (D4 nv)) (w:World) (hBt:Bt < w.heap.size) (hw:Ov w0 w)
  (c0:w.cell? ⟨Bt,0,none⟩=some (U zd ek)) (c1:w.cell? ⟨Bt,1,none⟩=some (U zd en)) (c2:w.cell? ⟨Bt,2,none⟩=some (O xa xl xc)) (hx:RX w0 K [U zd ek,U zd en,O xa xl xc] d) (hys:ys.map Subtype.val=AC K d) :
  SeqStopsK F n Tryz.prog 210 #[zj (some ⟨Bt,0,none⟩)] (fun x:D4 nv=>#[Value.int zd x.1]) (Below w0.heap.size) (fun zs=>zs=ys) (fun pre=>pre <+: ys) ys.length w:=fun l J Jx W hW hJ _ hY h0=>
 K8 F hd n hf hf2 hro l nv Bt K w0 ek en xa xl xc d ys J Jx (fun s A B hj hb=>hJ s A B none hj ⟨hb.os,hb.tape,hb.output,hb.size,fun k hk _=>hb.block k hk⟩ (fun r e=>by cases e)) hY W
  ((hW.cell (p:=⟨Bt,0,none⟩) hBt).trans c0) ((hW.cell (p:=⟨Bt,1,none⟩) hBt).trans c1) ((hW.cell (p:=⟨Bt,2,none⟩) hBt).trans c2) hx (hw.trans (hW.mono hw.size)) hys h0
end Go.Proofs.YtfffpjkcfnekaaaGreat.Ex
namespace Go.Proofs.YtfffpjkcfnekaaaGreat.Ex
open Go.RowKit
open Go.Value renaming slice -> O, int -> U, bool -> zg, agg -> zh, pointer -> zj, tuple -> zm
open Go.IntKind renaming i64 -> zd
open Go.Obj renaming cells -> ze
open Go.Ending renaming returned -> zk
def DL (Qn:Act->World->Prop):Exit->Act->World->Prop
 | .normal,a,w=>Qn a w
 | _,_,_=>False
theorem LB {Qn:Act->World->Prop}:¬ LetsOut (DL Qn):=fun ⟨_,_,h⟩=>h
theorem Mb {lo n:Nat} {P:Program} {o:Oper} {a:Act} {K K':Act->World->Prop} {Qn:Act->World->Prop} (hK:∀ a w,K a w->K' a w) :
  ∀ x:Result Next,o.upon P a K (DL Qn) x->o.uponIn (Fence.wide.inRound lo) n P a K' (DL Qn) x:=by
 intro x h
 unfold Oper.upon at h
 split at h
 ·exact hK _ _ h
 ·exact hK _ _ h
 ·exact hK _ _ h
 ·refine ⟨fun h=>(by cases h),CallsIn.inRound lo (callsIn_wide.2 (h.mono ?_))⟩
  intro e w' h
  cases e with
  | returned v=>exact hK _ _ h
  | panicked c=>exact h
  | outgrown=>exact h
 ·exact ⟨fun h=>(by cases h),fun c cs _=>by obtain ⟨v,w2,r,s⟩:=h c cs;exact ⟨v,w2,hK _ _ r,stepsIn_wide.2 s⟩⟩
 ·exact h
 ·exact h.elim
theorem OX {lo n:Nat} {P:Program} {ops:Array Oper} (hdf:∀ (i:Nat) o,ops[i]? = some o->∀ c,o.op≠.defer c) {Qn:Act->World->Prop} {i:Nat} {K K':Act->World->Prop} (hK:∀ a w,K a w->K' a w) (a:Act) (w:World)
  (h:wpOp P ops (DL Qn) i K a w):wpOpIn (Fence.wide.inRound lo) n P ops (DL Qn) i K' a w:=by
 unfold wpOp at h
 unfold wpOpIn
 split at h
 ·rename_i he;simp only [he];exact hK _ _ h
 ·rename_i o he
  simp only [he]
  split at h
  ·rename_i hw
   rw [if_pos hw]
   rcases h with h | ⟨-,h⟩
   ·refine ⟨fun _ _=>trivial,?_⟩
    rw [Oper.semAt_plain _ _ _ (hdf i o he)]
    exact Mb hK _ h
   ·exact (LB h).elim
  ·rename_i hw
   rw [if_neg hw]
   exact ⟨fun _ _=>trivial,hK _ _ h⟩
theorem LY {lo n:Nat} {P:Program} {md:Region.Mode} {ops:Array Oper} (hdf:∀ (i:Nat) o,ops[i]? = some o->∀ c,o.op≠.defer c) {Qn:Act->World->Prop} :
  ∀ (fuel:Nat) (listed:Array Bool) (a:Act) (w:World),wpAny P md ops (DL Qn) fuel listed a w->wpAnyIn (Fence.wide.inRound lo) n P md ops (DL Qn) fuel listed a w
 | 0,_,_,_,h=>h
 | fuel+1,listed,a,w,h=>⟨h.1,fun i hi=>OX hdf (fun a w h=>LY hdf fuel _ a w h) a w (h.2 i hi)⟩
theorem Dn {lo n:Nat} {P:Program} {id:Nat} {ops:Array Oper} {Q:Exit->Act->World->Prop} {S:World->Prop} {a:Act} {w:World} (hm:P.follows .mixedOrders=true) (hdf:∀ (i:Nat) o,ops[i]? = some o->∀ c,o.op≠.defer c)
  (h:wpAnyH P .any ops (DL (Q .normal)) S ops.size (Array.replicate ops.size false) a w.drew):(Code.region id ops true).wpIn (Fence.wide.inRound lo) n P Q a w:=
 wpIn_mono (wpIn_region_any hm (LY hdf _ _ _ _ (wpAny_of_held _ _ _ _ h))) fun e a w h=>by
  cases e <;> first | exact h | exact h.elim
end Go.Proofs.YtfffpjkcfnekaaaGreat.Ex
namespace Go.Proofs.YtfffpjkcfnekaaaGreat.Ex
open Go.RowKit Go.Shelf
open Go.Value renaming slice -> O, int -> U, bool -> zg, agg -> zh, pointer -> zj, tuple -> zm
open Go.IntKind renaming i64 -> zd
open Go.Obj renaming cells -> ze
open Go.Ending renaming returned -> zk
attribute [local go_sem] Oper.semAt_some
theorem C6 {n:Nat} {gs:List (Int × Int)} {l k:Lev} (h:AQ n gs=0) (hl:l.len n) (hk:k.len n):Ei n gs l k=0:=by
 have e1:Cl (n:Int) l=0:=by unfold Cl;rw [if_pos ⟨by rw [hl.1],by rw [hl.2]⟩]
 have e2:Cl (n:Int) k=0:=by unfold Cl;rw [if_pos ⟨by rw [hk.1],by rw [hk.2]⟩]
 simp [Ei,Br,h,e1,e2]
theorem AN {w:World} {x y:Value} {l:Lev} (h:A7 w (zh #[x,y]) l):∃ p1 q1 r1 p2 q2 r2,x=O p1 q1 r1/\y=O p2 q2 r2:=by
 obtain ⟨u,v,e,⟨a,c,e2,-⟩,⟨a',c',e3,-⟩⟩:=h
 simp at e
 obtain ⟨rfl,rfl⟩:=e
 exact ⟨_,_,_,_,_,_,e2,e3⟩
theorem Fc {W W':World} (h:Ov W W'):KeepsOthers W W':=KeepsOthers.of_grownBy (row:=none) ⟨h.os,h.tape,h.output,h.size,fun k hk _=>h.block k hk⟩ (fun _ _ e=>by cases e)
theorem Ez {W:World} {p:Addr} {a:Option Addr} {m c:Nat} {v:Value} {l:List Bool} (hp:W.cell? p=some (O a m c)) (h:AP W v l) (u:Value):AP (W.setCell p u) v l:=by
 obtain ⟨ao,cap,hv,hel⟩:=h
 refine ⟨ao,cap,hv,fun hne=>?_⟩
 obtain ⟨b,off,hao,hel⟩:=hel hne
 refine ⟨b,off,hao,fun i hi=>?_⟩
 have hc:=hel i hi
 have hne:p≠⟨b,off+i,none⟩:=by
  rintro rfl
  rw [hp] at hc
  cases hc
 rw [World.cell?_setCell_other _ _ _ _ hne]
 exact hc
theorem Dr {W:World} {p:Addr} {a:Option Addr} {m c:Nat} {v:Value} {l:Lev} (hp:W.cell? p=some (O a m c)) (h:A7 W v l) (u:Value):A7 (W.setCell p u) v l:=by
 obtain ⟨x,y,hv,hx,hy⟩:=h
 exact ⟨x,y,hv,Ez hp hx u,Ez hp hy u⟩
theorem JP (n:Nat) (L l) (vs:List Int) (v:Int):AX n L l (vs++[v])=Bp (AX n L l vs) (L.getD v.toNat AE) n:=by simp [AX]
def Iv (n:Nat) (s:Nat) (wc:List Value) (lr lw:Value) (Ls:List Lev) (l:Lev) (nv:Nat) (pre:List (D4 nv)) (W:World):Prop:=
 ∃ xr xw,W.cell? ⟨s+1,0,none⟩=some xr/\W.cell? ⟨s+1,1,none⟩=some xw/\W.frozen? ⟨s+1,0,none⟩=false/\W.frozen? ⟨s+1,1,none⟩=false/\A7 W (zh #[xr,xw]) (AX n Ls l (pre.map Subtype.val))/\((xr=lr/\xw=lw)\/Kp s (zh #[xr,xw]))/\Ae wc W s /\
  W.cell? ⟨s+1+1+1,0,none⟩=some (O none 0 0)/\W.cell? ⟨s+1+1+1,1,none⟩=some (O none 0 0)/\W.frozen? ⟨s+1+1+1,0,none⟩=false/\W.frozen? ⟨s+1+1+1,1,none⟩=false
theorem JQ (n:Nat) (s:Nat) (wc:List Value) (lr lw:Value) (Ls l) (nv:Nat):Own (Iv n s wc lr lw Ls l nv):=by
 rintro pre A B row ⟨xr,xw,c0,c1,f0,f1,hl,hd,hrow,r0,r1,g0,g1⟩ hg hr
 exact ⟨xr,xw,cell_kept c0 hg hr,cell_kept c1 hg hr,(frozen_kept c0 hg hr).trans f0,(frozen_kept c1 hg hr).trans f1,Fa hl (fun a u h=>cell_kept h hg hr),hd,fun j u h=>cell_kept (hrow j u h) hg hr,cell_kept r0 hg hr,cell_kept r1 hg hr,(frozen_kept r0 hg hr).trans g0,(frozen_kept r1 hg hr).trans g1⟩
theorem JO {n nv:Nat} {wc:List Value} {lr lw:Value} {Ls:List Lev} {l:Lev} {pre:List (D4 nv)} {x:D4 nv} {w W W2:World} {v1 v2:Value} (hI:Iv n w.heap.size wc lr lw Ls l nv pre W) (hB:Ov w W) (hb2:Ov W W2)
  (hf:Bh W W2 (zh #[v1,v2]) (Bp (AX n Ls l (pre.map Subtype.val)) (Ls.getD x.1.toNat AE) n)) :
  KeepsOthers W ((W2.setCell ⟨w.heap.size+1,0,none⟩ v1).setCell ⟨w.heap.size+1,1,none⟩ v2)/\Below w.heap.size W ((W2.setCell ⟨w.heap.size+1,0,none⟩ v1).setCell ⟨w.heap.size+1,1,none⟩ v2)/\Iv n w.heap.size wc lr lw Ls l nv (pre++[x]) ((W2.setCell ⟨w.heap.size+1,0,none⟩ v1).setCell ⟨w.heap.size+1,1,none⟩ v2)/\Ov w ((W2.setCell ⟨w.heap.size+1,0,none⟩ v1).setCell ⟨w.heap.size+1,1,none⟩ v2):=by
 obtain ⟨xr,xw,c0,c1,f0,f1,hl,hd,hrow,s0,s1,g0,g1⟩:=hI
 have hbs:w.heap.size+1+1+1 < W.heap.size:=bL s0
 have hBW:Below w.heap.size W ((W2.setCell ⟨w.heap.size+1,0,none⟩ v1).setCell ⟨w.heap.size+1,1,none⟩ v2):=((hb2.mono (by omega)).setCell (by simp) _).setCell (by simp) _
 have hc2:∀ b o u,b≠w.heap.size+1->W.cell? ⟨b,o,none⟩=some u->((W2.setCell ⟨w.heap.size+1,0,none⟩ v1).setCell ⟨w.heap.size+1,1,none⟩ v2).cell? ⟨b,o,none⟩=some u:=fun b o u hb h=>by
  have e:=Ab hb2 _ _ h
  simp [go_sem,e]
 refine ⟨(Fc hb2).trans ((KeepsOthers.setCell _ _ _).trans (KeepsOthers.setCell _ _ _)),hBW,?_,hB.trans hBW⟩
 have hof:=BN hf
 obtain ⟨u1,u2,hu,ho1,ho2,-⟩:=hf
 simp at hu
 obtain ⟨rfl,rfl⟩:=hu
 refine ⟨v1,v2,?_,?_,?_,?_,?_,Or.inr ?_,fun j u h=>hc2 _ _ _ (by omega) (hrow j u h),hc2 _ _ _ (by omega) s0,hc2 _ _ _ (by omega) s1,?_,?_⟩
 ·simp [go_sem,Ab hb2 _ _ c0]
 ·have h0:=Ab hb2 _ _ c1
  simp [go_sem,h0]
 ·simp [go_sem,((Ap hb2).2 _ _ (by omega:w.heap.size+1 < W.heap.size)).trans f0]
 ·simp [go_sem,((Ap hb2).2 _ _ (by omega:w.heap.size+1 < W.heap.size)).trans f1]
 ·rw [List.map_append,List.map_singleton,JP]
  refine ⟨v1,v2,rfl,C7 (Bl (Bl ho1 (by simp;omega) _) (by simp;omega) _),C7 (Bl (Bl ho2 (by simp;omega) _) (by simp;omega) _)⟩
 ·obtain ⟨a,b,e,h1,h2⟩:=hof
  exact ⟨a,b,e,fun a n c h=>Nat.le_trans hB.size (h1 a n c h),fun a n c h=>Nat.le_trans hB.size (h2 a n c h)⟩
 ·simp [go_sem,((Ap hb2).2 _ _ hbs).trans g0]
 ·simp [go_sem,((Ap hb2).2 _ _ hbs).trans g1]
abbrev Kw (w:World) (n:Nat) (ga:Option Addr) (gn gc:Nat) (sa:Option Addr) (sn sc:Nat) (ya:Option Addr) (yn yc:Nat) (oa:Option Addr) (on oc:Nat) (va:Option Addr) (vn vc:Nat) (fa:Option Addr) (fn fc:Nat) (ba:Option Addr) (bn bc b off ln lc:Nat) (ka:Option Addr) (kn kc j:Nat) (b1:Option Addr) (b2 b3:Nat) (b4:Option Addr) (b5 b6:Nat) (Wz:World):Prop:=Wz.cell? ⟨w.heap.size,0,none⟩=some (U zd (n:Int))/\Wz.cell? ⟨w.heap.size,1,none⟩=some (O ga gn gc)/\Wz.cell? ⟨w.heap.size,2,none⟩=some (O sa sn sc)/\Wz.cell? ⟨w.heap.size,3,none⟩=some (O ya yn yc)/\Wz.cell? ⟨w.heap.size,4,none⟩=some (O oa on oc)/\Wz.cell? ⟨w.heap.size,5,none⟩=some (O va vn vc)/\Wz.cell? ⟨w.heap.size,6,none⟩=some (O fa fn fc)/\Wz.cell? ⟨w.heap.size,7,none⟩=some (O ba bn bc)/\Wz.cell? ⟨w.heap.size,8,none⟩=some (O (some ⟨b,off,none⟩) ln lc)/\Wz.cell? ⟨w.heap.size,9,none⟩=some (O ka kn kc)/\Wz.cell? ⟨b,off+j*2,none⟩=some (O b1 b2 b3)/\Wz.cell? ⟨b,off+j*2+1,none⟩=some (O b4 b5 b6)
theorem Nq (n:Nat) (h1:1<=n) (h6:n<=6) (ga gn gc sa sn sc ya yn yc oa on oc va vn vc fa fn fc ba bn bc la ln lc ka kn kc gs) (Ls:List Lev) (p1 q1 r1 p2 q2 r2 l) (K:Nat) (ek en:Int) (xa xl xc d) (ys:List (D4 Ls.length)) (w:World)
  (hg:AG w (O ga gn gc) gs) (hE:AQ n gs=0) (hL:Bd w (O la ln lc) Ls) (hLl:∀ x∈Ls,x.len n) (hl:A7 w (zh #[O p1 q1 r1,O p2 q2 r2]) l) (hll:l.len n) (hlm:Ls.length<=9223372036854775807)
  (hx:RX w K [U zd ek,U zd en,O xa xl xc] d) (hys:ys.map Subtype.val=AC K d) :
  Calls Tryz.prog 103 #[zh #[U zd (n:Int),O ga gn gc,O sa sn sc,O ya yn yc,O oa on oc,O va vn vc,O fa fn fc,O ba bn bc,O la ln lc,O ka kn kc],zh #[O p1 q1 r1,O p2 q2 r2],zh #[U zd ek,U zd en,O xa xl xc]] w fun e w'=>
   (∃ v,e=zk v/\A7 w' v (AX n Ls l (AC K d))/\(v=zh #[O p1 q1 r1,O p2 q2 r2]\/Kp w.heap.size v))/\Ov w w':=by
 have hbel:Ov w (((((w.alloc (ze #[U zd (n:Int),O ga gn gc,O sa sn sc,O ya yn yc,O oa on oc,O va vn vc,O fa fn fc,O ba bn bc,O la ln lc,O ka kn kc] 108)).alloc (ze #[O p1 q1 r1,O p2 q2 r2] 50)).alloc (ze #[U zd ek,U zd en,O xa xl xc] 94)).alloc (ze #[O none 0 0,O none 0 0] 50)).alloc (ze #[U zd ek,U zd en,O xa xl xc] 94)):=by
  refine Below.alloc ?_ (by simp <;> omega) _
  refine Below.alloc ?_ (by simp <;> omega) _
  refine Below.alloc ?_ (by simp <;> omega) _
  refine Below.alloc ?_ (by simp <;> omega) _
  exact bA w _
 have hI0:Iv n w.heap.size [U zd (n:Int),O ga gn gc,O sa sn sc,O ya yn yc,O oa on oc,O va vn vc,O fa fn fc,O ba bn bc,O la ln lc,O ka kn kc] (O p1 q1 r1) (O p2 q2 r2) Ls l Ls.length [] (((((w.alloc (ze #[U zd (n:Int),O ga gn gc,O sa sn sc,O ya yn yc,O oa on oc,O va vn vc,O fa fn fc,O ba bn bc,O la ln lc,O ka kn kc] 108)).alloc (ze #[O p1 q1 r1,O p2 q2 r2] 50)).alloc (ze #[U zd ek,U zd en,O xa xl xc] 94)).alloc (ze #[O none 0 0,O none 0 0] 50)).alloc (ze #[U zd ek,U zd en,O xa xl xc] 94)):=by
  refine ⟨O p1 q1 r1,O p2 q2 r2,by simp [go_sem],by simp [go_sem],by simp [go_sem],by simp [go_sem],Aw hl hbel,Or.inl ⟨rfl,rfl⟩,?_,by simp [go_sem],by simp [go_sem],by simp [go_sem],by simp [go_sem]⟩
  intro j u hu
  have hj:j < 10:=by have:=(List.getElem?_eq_some_iff.1 hu).1;simpa using this
  rcases (by omega:j=0\/j=1\/j=2\/j=3\/j=4\/j=5\/j=6\/j=7\/j=8\/j=9) with h | h | h | h | h | h | h | h | h | h <;> subst h <;> simp at hu <;> subst hu <;> simp [go_sem]
 obtain ⟨k0,k1,k2⟩:=rc3 (Pn w (ze #[U zd (n:Int),O ga gn gc,O sa sn sc,O ya yn yc,O oa on oc,O va vn vc,O fa fn fc,O ba bn bc,O la ln lc,O ka kn kc] 108) (ze #[O p1 q1 r1,O p2 q2 r2] 50) (ze #[U zd ek,U zd en,O xa xl xc] 94) (ze #[O none 0 0,O none 0 0] 50) [U zd ek,U zd en,O xa xl xc] 94)
 have HST:=Aa (Fr Fence.wide rfl 2 trivial trivial rfl Ls.length (w.heap.size+1+1+1+1) K w ek en xa xl xc d ys _ (by simp) hbel k0 k1 k2 hx hys)
 have KJ:=Aa fun (W:World) (hB:Ov w W) (xr xw kr kw:Value) (a b:Lev) (ha:A7 W (zh #[xr,xw]) a) (hb:A7 W (zh #[kr,kw]) b) (la':a.len n) (lb:b.len n)=>JD (n:Int) ga gn gc sa sn sc ya yn yc oa on oc va vn vc fa fn fc ba bn bc la ln lc ka kn kc gs xr xw kr kw a b W (Af hg hB) ha hb (C6 hE la' lb)
 have HL:=Aa fun (W:World) (hB:Ov w W)=>Au hL hB
 have HBEL:=Aa hbel
 have HI0:=Aa hI0
 have hln:ln=Ls.length:=by obtain ⟨ao,cap,he,-⟩:=hL;injection he
 have HYS:=Aa hys
 have HLN:=Aa hln
 have hln2:ln<=9223372036854775807:=by rw [hln];exact hlm
 clear hln
 clear hbel hI0 k0 k1 k2 hx hL hg hE hl hys
 refine (callsIn_wide (n:=3)).1 ?_
 refine callsIn_of_wp_marks Tryz.func103 rfl trivial ?_ rfl
 simp only [Tryz.ntmps103,List.size_toArray,List.length_cons,List.length_nil,Nat.reduceAdd,Nat.reduceSub,Array.replicate_succ,Array.replicate_zero,List.push_toArray,List.append_toArray,List.nil_append,List.cons_append]
 gi_wp2_with (refine ⟨trivial,?_⟩;gi_at_call 164;refine (Jy Fence.wide _ trivial rfl _ _ _ _ _ _).mono ?_;rintro e w' ⟨rfl,rfl⟩)
 refine wpIn_rangeFunc_ownF (F:=Fence.wide) rfl (by omega) (gf:=210) (lb:=#[zj (some ⟨w.heap.size+1+1+1+1,0,none⟩)]) rfl trivial (enters_of Tryz.func210 (by kernel_rfl) rfl)
  HST.o belowK_t (belowK_b (by simp <;> omega)) (Below.refl _ _) (fun _=>rfl)
  (fun pre W=>Iv n w.heap.size [U zd (n:Int),O ga gn gc,O sa sn sc,O ya yn yc,O oa on oc,O va vn vc,O fa fn fc,O ba bn bc,O la ln lc,O ka kn kc] (O p1 q1 r1) (O p2 q2 r2) Ls l Ls.length pre W/\Ov w W)
  (fun _ _ _=>False)
  (OwnFrom.and (Own.from (JQ n w.heap.size [U zd (n:Int),O ga gn gc,O sa sn sc,O ya yn yc,O oa on oc,O va vn vc,O fa fn fc,O ba bn bc,O la ln lc,O ka kn kc] (O p1 q1 r1) (O p2 q2 r2) Ls l Ls.length) _) (ownFrom_below (Nat.le_refl _) (by simp <;> omega)))
  (fun _ _ _ _ _ hs _ _=>hs)
  ⟨HI0.o,HBEL.o⟩
  (fun x=>{ tmps:=#[zh #[U zd (n:Int),O ga gn gc,O sa sn sc,O ya yn yc,O oa on oc,O va vn vc,O fa fn fc,O ba bn bc,O la ln lc,O ka kn kc],zh #[O p1 q1 r1,O p2 q2 r2],zh #[U zd ek,U zd en,O xa xl xc],zj (some ⟨w.heap.size,0,none⟩),zj (some ⟨w.heap.size+1,0,none⟩),zj (some ⟨w.heap.size+1+1,0,none⟩),zj (some ⟨w.heap.size+1+1+1,0,none⟩),U zd x.1,zh #[U zd ek,U zd en,O xa xl xc],.func (.func 210) #[] #[zj (some ⟨w.heap.size+1+1+1+1,0,none⟩)],U zd x.1,undef,undef,undef,undef,undef,undef,undef,undef,undef,undef],defers:=[] }) ?assign ?body ?done ?stop
 case assign=>
  intro l x W K hK
  gi_wp2
  exact hK
 case body=>
  clear HST HI0 HBEL HYS
  rintro lo pre x W ⟨⟨xr,xw,c0,c1,f0,f1,hl,hd,hrow,s0,s1,g0,g1⟩,hB⟩ _
  have HSTEP:=Aa fun (v1 v2:Value) (W2:World)=>JO (x:=x) (v1:=v1) (v2:=v2) (W2:=W2) ⟨xr,xw,c0,c1,f0,f1,hl,hd,hrow,s0,s1,g0,g1⟩ hB
  obtain ⟨a1,a2,a3,a4,a5,a6,rfl,rfl⟩:=AN hl
  obtain ⟨x,hx0,hx1⟩:=x
  obtain ⟨j,rfl⟩:∃ j:Nat,x=(j:Int):=⟨x.toNat,by omega⟩
  have hj:j < Ls.length:=by omega
  obtain ⟨b,off,cap,rv,wv,hv,e0w,e1w,hlevw⟩:=Gu (HL.o w (Below.refl _ _)) hj
  have hbb:b < w.heap.size:=bL e0w
  obtain ⟨e0,e1⟩:=co2 hB e0w e1w
  have hlev:=Aw hlevw hB
  clear e0w e1w hlevw
  injection hv with hv1 hv2 hv3
  subst hv1 hv3
  have hj2:j < ln:=by rw [HLN.o];exact hj
  clear hv2
  obtain ⟨b1,b2,b3,b4,b5,b6,rfl,rfl⟩:=AN hlev
  obtain ⟨w0,w1,w2,w3,w4,w5,w6,w7,w8,w9⟩:=B9 hrow
  have KJ2:=Aa (fun W2 (hb:Ov W W2)=>KJ.o W2 (hB.trans (hb.mono hB.size)) _ _ _ _ _ _ (Aw hl hb) (Aw hlev hb) (Fq _ _ hll) (hLl _ (List.getElem_mem hj)))
  have hlj:Ls.getD (j:Int).toNat AE=Ls[j]:=by simp [List.getD_eq_getElem?_getD,hj]
  have HLJ:=Aa hlj
  clear hlj
  clear KJ HL hl hlev hd hrow hB hLl hll
  have hj3:(j:Int) < (ln:Int):=by omega
  have hmx:Tryz.prog.follows .mixedOrders=true:=by kernel_rfl
  have hd1:1<=3 - 1 - 1:=by omega
  gi_wp2
  have hSS:(fun W2:World=>Kw w n ga gn gc sa sn sc ya yn yc oa on oc va vn vc fa fn fc ba bn bc b off ln lc ka kn kc j b1 b2 b3 b4 b5 b6 W2) W.drew:=⟨w0,w1,w2,w3,w4,w5,w6,w7,w8,w9,e0,e1⟩
  refine Dn (S:=fun W2=>Kw w n ga gn gc sa sn sc ya yn yc oa on oc va vn vc fa fn fc ba bn bc b off ln lc ka kn kc j b1 b2 b3 b4 b5 b6 W2) hmx ?_ ?_
  ·intro i o ho c hc
   match i with
   | 0 | 1 | 2 | 3 | 4 | 5 | 6 | 7 | 8 | 9=>simp at ho;subst ho;cases hc
   | i+10=>simp at ho
  refine kT 0 ?_
  refine kT 2 ?_
  refine kT 3 ?_
  refine kT 4 ?_
  refine kT 5 ?_
  refine kT 6 ?_
  refine kT 7 ?_
  refine rdA 1 rfl fun K hK=>?_
  go_simp
  refine xK hK hSS fun hHeld=>?_
  clear hK K hHeld
  refine rdA 8 rfl fun K hK=>?_
  go_simp
  refine (KJ2.o _ (bD W)).mono ?_
  rintro e wj ⟨vj,rfl,hf,hb⟩
  have HF:=Aa hf
  obtain ⟨v1,v2,rfl,ho1,ho2,-⟩:=hf
  obtain ⟨o1,o2,o3,rfl⟩:=Aj ho1
  obtain ⟨o4,o5,o6,rfl⟩:=Aj ho2
  have HBJ:Hx (Ov W wj):=(bD W).trans (hb.mono (Nat.le_refl _))
  have hbs:w.heap.size+1+1+1 < W.heap.size:=bL s0
  obtain ⟨c0j,c1j⟩:=co2 HBJ.o c0 c1
  have f0j:wj.frozen? ⟨w.heap.size+1,0,none⟩=false:=((Ap HBJ.o).2 _ _ (by omega)).trans f0
  have f1j:wj.frozen? ⟨w.heap.size+1,1,none⟩=false:=((Ap HBJ.o).2 _ _ (by omega)).trans f1
  have hSj:(fun W2:World=>Kw w n ga gn gc sa sn sc ya yn yc oa on oc va vn vc fa fn fc ba bn bc b off ln lc ka kn kc j b1 b2 b3 b4 b5 b6 W2) wj:=by
   have hh:=Ab HBJ.o
   exact ⟨hh _ _ w0,hh _ _ w1,hh _ _ w2,hh _ _ w3,hh _ _ w4,hh _ _ w5,hh _ _ w6,hh _ _ w7,hh _ _ w8,hh _ _ w9,hh _ _ e0,hh _ _ e1⟩
  go_simp
  refine xK hK hSj fun hHeld=>?_
  clear hK K hHeld
  refine rdA 9 rfl fun K hK=>?_
  go_simp
  refine hK.out _ _ ?_ (fun hHeld=>?_)
  ·obtain ⟨t0,t1,t2,t3,t4,t5,t6,t7,t8,t9,t10,t11⟩:=hSj
   have hne:b≠w.heap.size+1:=by omega
   have ho:∀ b' o' u,b'≠w.heap.size+1->wj.cell? ⟨b',o',none⟩=some u->((wj.setCell ⟨w.heap.size+1,0,none⟩ (O o1 o2 o3)).setCell ⟨w.heap.size+1,1,none⟩ (O o4 o5 o6)).cell? ⟨b',o',none⟩=some u:=fun b' o' u hb' h=>by
    have:=hb'.symm
    simp [go_sem,h]
   exact ⟨ho _ _ _ (by omega) t0,ho _ _ _ (by omega) t1,ho _ _ _ (by omega) t2,ho _ _ _ (by omega) t3,ho _ _ _ (by omega) t4,ho _ _ _ (by omega) t5,ho _ _ _ (by omega) t6,ho _ _ _ (by omega) t7,ho _ _ _ (by omega) t8,ho _ _ _ (by omega) t9,ho _ _ _ hne t10,ho _ _ _ hne t11⟩
  clear hK K hHeld
  refine gE ?_
  have hfin:=HSTEP.o (O o1 o2 o3) (O o4 o5 o6) wj HBJ.o (by rw [HLJ.o];exact HF.o)
  exact hfin
 case done=>
  rintro D zs W hD rfl ⟨⟨xr,xw,c0,c1,f0,f1,hl,hd,hrow,s0,s1,g0,g1⟩,hB⟩ hK
  obtain ⟨a1,a2,a3,a4,a5,a6,rfl,rfl⟩:=AN hl
  gi_wp2
  have hbs:w.heap.size+1+1+1 < W.heap.size:=bL s0
  have hK2:=(KeepsOthers.setCell W ⟨w.heap.size+1+1+1,0,none⟩ (O a1 a2 a3)).same D _ hK rfl
  have hK3:=(KeepsOthers.setCell (W.setCell ⟨w.heap.size+1+1+1,0,none⟩ (O a1 a2 a3)) ⟨w.heap.size+1+1+1,1,none⟩ (O a4 a5 a6)).same D _ hK2 rfl
  have x0:((W.setCell ⟨w.heap.size+1+1+1,0,none⟩ (O a1 a2 a3)).setCell ⟨w.heap.size+1+1+1,1,none⟩ (O a4 a5 a6)).cell? ⟨w.heap.size+1+1+1,0,none⟩=some (O a1 a2 a3):=by simp [go_sem,s0]
  have x1:((W.setCell ⟨w.heap.size+1+1+1,0,none⟩ (O a1 a2 a3)).setCell ⟨w.heap.size+1+1+1,1,none⟩ (O a4 a5 a6)).cell? ⟨w.heap.size+1+1+1,1,none⟩=some (O a4 a5 a6):=by simp [go_sem,s1]
  have hkc:∀ a u,((W.setCell ⟨w.heap.size+1+1+1,0,none⟩ (O a1 a2 a3)).setCell ⟨w.heap.size+1+1+1,1,none⟩ (O a4 a5 a6)).cell? a=some u->(((W.setCell ⟨w.heap.size+1+1+1,0,none⟩ (O a1 a2 a3)).setCell ⟨w.heap.size+1+1+1,1,none⟩ (O a4 a5 a6)).putObj D (.deferred none)).cell? a=some u:=fun a u h=>cell_kept h (grownBy_putObj' _ D (.deferred none)) (fun r e=>by cases e;exact ⟨_,hK3,rfl⟩)
  have y0:=hkc _ _ x0
  have y1:=hkc _ _ x1
  have s1':(W.setCell ⟨w.heap.size+1+1+1,0,none⟩ (O a1 a2 a3)).cell? ⟨w.heap.size+1+1+1,1,none⟩=some (O none 0 0):=by simp [go_sem,s1]
  refine ⟨by simp,.inl ⟨_,_,rfl,run_takeDeferred hK3,?_⟩⟩
  refine ⟨zh #[O a1 a2 a3,O a4 a5 a6],by simp [results,Tryz.f103,go_sem,y0,y1],⟨_,rfl,?_,?_⟩,?_⟩
  ·rw [<-HYS.o]
   exact Fa (Dr s1' (Dr s0 hl _) _) hkc
  ·rcases hd with ⟨h1,h2⟩ | h
   ·exact Or.inl (by rw [h1,h2])
   ·exact Or.inr h
  ·exact ((hB.setCell (by simp;omega) _).setCell (by simp;omega) _).trans (belowK_b (w:=w) (Nat.le_refl _) _ D _ _ (by simp at hD;omega) hK3 rfl rfl)
 case stop=>
  rintro D c pre W _ _ h _
  exact h.elim
end Go.Proofs.YtfffpjkcfnekaaaGreat.Ex
namespace Go.Proofs.YtfffpjkcfnekaaaGreat.Ex
open Go.RowKit
open Go.Value renaming slice -> O, int -> U, bool -> zg, agg -> zh, pointer -> zj, tuple -> zm
open Go.IntKind renaming i64 -> zd
open Go.Obj renaming cells -> ze
open Go.Ending renaming returned -> zk
theorem Jh (p q:Addr) (w:World) :
  CallsD Tryz.prog 170 #[zj (some p),zj (some q)] .returning w fun e u' w'=>e=zk (zm #[])/\u'=.returning/\w'=w:=by
 refine callsD_of_wpS Tryz.func170 rfl fun c₀ cs hu=>?_
 apply wpS_seq
 apply wpS_region
 simp [wpOpsS,go_sem,recoverD,hu,Tryz.ntmps170,Exit.thenS]
 refine wpS_of_wp ?_
 change Code.wp Tryz.prog _ _ { tmps:=#[zj (some p),zj (some q),.nilIface,undef,.nilIface,undef,undef,undef,undef,undef,undef,undef,undef],defers:=[] } w
 go_wp2
 cases c₀
 simp_all [bodyPostS,results,Tryz.results170]
def Bv (w:World):List Lab->List Value->Prop
 | [],xs=>xs=[]
 | l::r,xs=>∃ (pr pw:Value) (ys:List Value),xs=pr::pw::ys/\AI w pr l.r/\AI w pw l.w/\Bv w r ys
theorem Bv.over {w w':World} (hb:Ov w w'):∀ {l:List Lab} {xs:List Value},Bv w l xs->Bv w' l xs
 | [],_,h=>h
 | a::l,_,h=>by
  obtain ⟨pr,pw,ys,rfl,h1,h2,h3⟩:=h
  exact ⟨pr,pw,ys,rfl,Ah h1 hb,Ah h2 hb,h3.over hb⟩
theorem Bv.append {w:World}:∀ {l m:List Lab} {xs ys:List Value},Bv w l xs->Bv w m ys->Bv w (l++m) (xs++ys)
 | [],_,_,_,h,h'=>by have e:_=_:=h;subst e;exact h'
 | a::l,_,_,_,h,h'=>by
  obtain ⟨pr,pw,zs,rfl,h1,h2,h3⟩:=h
  exact ⟨pr,pw,zs++_,rfl,h1,h2,h3.append h'⟩
theorem Bv.length {w:World}:∀ {l:List Lab} {xs:List Value},Bv w l xs->xs.length=l.length*2
 | [],_,h=>by have e:_=_:=h;subst e;rfl
 | a::l,_,h=>by
  obtain ⟨pr,pw,zs,rfl,h1,h2,h3⟩:=h
  have:=h3.length
  simp
  omega
theorem Bv.one {w:World}:∀ {l:List Lab} {xs:List Value},Bv w l xs->∀ u∈xs,u.oneCell'=true
 | [],_,h,u,hu=>by have e:_=_:=h;subst e;cases hu
 | a::l,_,h,u,hu=>by
  obtain ⟨pr,pw,zs,rfl,h1,h2,h3⟩:=h
  obtain ⟨x,n,c,rfl⟩:=AM h1
  obtain ⟨y,n',c',rfl⟩:=AM h2
  simp only [List.mem_cons] at hu
  rcases hu with rfl | rfl | hu
  ·rfl
  ·rfl
  ·exact h3.one u hu
theorem Bv.at {w:World}:∀ {l:List Lab} {xs:List Value},Bv w l xs->∀ (j:Nat) (hj:j < l.length),∃ pr pw,xs[j*2]? = some pr/\xs[j*2+1]? = some pw/\AI w pr l[j].r/\AI w pw l[j].w
 | a::l,_,h,0,hj=>by
  obtain ⟨pr,pw,zs,rfl,h1,h2,h3⟩:=h
  exact ⟨pr,pw,rfl,rfl,h1,h2⟩
 | a::l,_,h,j+1,hj=>by
  obtain ⟨pr,pw,zs,rfl,h1,h2,h3⟩:=h
  obtain ⟨pr',pw',e1,e2,e3,e4⟩:=h3.at j (by simpa using hj)
  exact ⟨pr',pw',by rw [Nat.succ_mul];exact e1,by rw [Nat.succ_mul];exact e2,e3,e4⟩
theorem FF {w:World} {b off:Nat}:∀ (ls:List Lab) (o:Nat),(∀ i (h:i < ls.length),∃ (pr pw:Value),w.cell? ⟨b,o+i*2,none⟩=some pr/\w.cell? ⟨b,o+i*2+1,none⟩=some pw/\AI w pr ls[i].r/\AI w pw ls[i].w) ->
  ∃ xs,Bv w ls xs/\∀ j u,xs[j]? = some u->w.cell? ⟨b,o+j,none⟩=some u
 | [],o,_=>⟨[],rfl,fun j u hu=>by simp at hu⟩
 | l::ls,o,h=>by
  obtain ⟨pr,pw,h0,h1,h2,h3⟩:=h 0 (by simp)
  obtain ⟨xs,hx,hc⟩:=FF (w:=w) (b:=b) (off:=off) ls (o+2) (fun i hi=>by
   obtain ⟨pr',pw',e0,e1,e2,e3⟩:=h (i+1) (by simpa using hi)
   refine ⟨pr',pw',?_,?_,e2,e3⟩
   ·rw [<-e0];congr 2;omega
   ·rw [<-e1];congr 2;omega)
  refine ⟨pr::pw::xs,⟨pr,pw,xs,rfl,h2,h3,hx⟩,fun j u hu=>?_⟩
  match j,hu with
  | 0,hu=>simp at hu;subst hu;simpa using h0
  | 1,hu=>simp at hu;subst hu;simpa using h1
  | j+2,hu=>
   have:=hc j u (by simpa using hu)
   rw [<-this]
   congr 2
   omega
theorem MF (w:World):Calls Tryz.prog 241 #[O none 0 0,U zd 0] w fun e w'=>∃ v,e=zk v/\w'.ownsRow w.heap.size 39 2 v 0 []/\Ov w w':=by
 go_enter Tryz.func241,Tryz.ntmps241
 go_wp2_with fail
 go_ret
 exact ⟨_,rfl,World.ownsRow_nil _ _ _ _,Below.refl _ _⟩
theorem ME (w:World):Calls Tryz.prog 241 #[O none 0 0,U zd 1] w fun e w'=>∃ v,e=zk v/\w'.ownsRow w.heap.size 39 2 v 0 []/\Ov w w':=by
 go_enter Tryz.func241,Tryz.ntmps241
 go_wp2_with fail
 go_ret
 refine ⟨_,rfl,⟨rfl,Or.inr ⟨w.heap.size,grownCap w 1 0 39,_,rfl,Nat.le_refl _,heap_alloc_new w _,Nat.zero_le _,grownCap_le_maxLen _ _ _ _ (by decide),?_,rfl⟩⟩,(bA w _).drew⟩
 have:=grownCap_ge w 1 0 39
 simp [Builtin.zeroCells]
 unfold grownCap at this ⊢
 omega
theorem MD (w:World):Calls Tryz.prog 241 #[O none 0 0,U zd 2] w fun e w'=>∃ v,e=zk v/\w'.ownsRow w.heap.size 39 2 v 0 []/\Ov w w':=by
 go_enter Tryz.func241,Tryz.ntmps241
 go_wp2_with fail
 go_ret
 refine ⟨_,rfl,⟨rfl,Or.inr ⟨w.heap.size,grownCap w 2 0 39,_,rfl,Nat.le_refl _,heap_alloc_new w _,Nat.zero_le _,grownCap_le_maxLen _ _ _ _ (by decide),?_,rfl⟩⟩,(bA w _).drew⟩
 have:=grownCap_ge w 2 0 39
 simp [Builtin.zeroCells]
 unfold grownCap at this ⊢
 omega
theorem MC (w:World):Calls Tryz.prog 241 #[O none 0 0,U zd 3] w fun e w'=>∃ v,e=zk v/\w'.ownsRow w.heap.size 39 2 v 0 []/\Ov w w':=by
 go_enter Tryz.func241,Tryz.ntmps241
 go_wp2_with fail
 go_ret
 refine ⟨_,rfl,⟨rfl,Or.inr ⟨w.heap.size,grownCap w 3 0 39,_,rfl,Nat.le_refl _,heap_alloc_new w _,Nat.zero_le _,grownCap_le_maxLen _ _ _ _ (by decide),?_,rfl⟩⟩,(bA w _).drew⟩
 have:=grownCap_ge w 3 0 39
 simp [Builtin.zeroCells]
 unfold grownCap at this ⊢
 omega
theorem MB (w:World):Calls Tryz.prog 241 #[O none 0 0,U zd 4] w fun e w'=>∃ v,e=zk v/\w'.ownsRow w.heap.size 39 2 v 0 []/\Ov w w':=by
 go_enter Tryz.func241,Tryz.ntmps241
 go_wp2_with fail
 go_ret
 refine ⟨_,rfl,⟨rfl,Or.inr ⟨w.heap.size,grownCap w 4 0 39,_,rfl,Nat.le_refl _,heap_alloc_new w _,Nat.zero_le _,grownCap_le_maxLen _ _ _ _ (by decide),?_,rfl⟩⟩,(bA w _).drew⟩
 have:=grownCap_ge w 4 0 39
 simp [Builtin.zeroCells]
 unfold grownCap at this ⊢
 omega
theorem MA (w:World):Calls Tryz.prog 241 #[O none 0 0,U zd 5] w fun e w'=>∃ v,e=zk v/\w'.ownsRow w.heap.size 39 2 v 0 []/\Ov w w':=by
 go_enter Tryz.func241,Tryz.ntmps241
 go_wp2_with fail
 go_ret
 refine ⟨_,rfl,⟨rfl,Or.inr ⟨w.heap.size,grownCap w 5 0 39,_,rfl,Nat.le_refl _,heap_alloc_new w _,Nat.zero_le _,grownCap_le_maxLen _ _ _ _ (by decide),?_,rfl⟩⟩,(bA w _).drew⟩
 have:=grownCap_ge w 5 0 39
 simp [Builtin.zeroCells]
 unfold grownCap at this ⊢
 omega
theorem Mz (w:World):Calls Tryz.prog 241 #[O none 0 0,U zd 6] w fun e w'=>∃ v,e=zk v/\w'.ownsRow w.heap.size 39 2 v 0 []/\Ov w w':=by
 go_enter Tryz.func241,Tryz.ntmps241
 go_wp2_with fail
 go_ret
 refine ⟨_,rfl,⟨rfl,Or.inr ⟨w.heap.size,grownCap w 6 0 39,_,rfl,Nat.le_refl _,heap_alloc_new w _,Nat.zero_le _,grownCap_le_maxLen _ _ _ _ (by decide),?_,rfl⟩⟩,(bA w _).drew⟩
 have:=grownCap_ge w 6 0 39
 simp [Builtin.zeroCells]
 unfold grownCap at this ⊢
 omega
theorem My (w:World):Calls Tryz.prog 241 #[O none 0 0,U zd 7] w fun e w'=>∃ v,e=zk v/\w'.ownsRow w.heap.size 39 2 v 0 []/\Ov w w':=by
 go_enter Tryz.func241,Tryz.ntmps241
 go_wp2_with fail
 go_ret
 refine ⟨_,rfl,⟨rfl,Or.inr ⟨w.heap.size,grownCap w 7 0 39,_,rfl,Nat.le_refl _,heap_alloc_new w _,Nat.zero_le _,grownCap_le_maxLen _ _ _ _ (by decide),?_,rfl⟩⟩,(bA w _).drew⟩
 have:=grownCap_ge w 7 0 39
 simp [Builtin.zeroCells]
 unfold grownCap at this ⊢
 omega
theorem Mx (w:World):Calls Tryz.prog 241 #[O none 0 0,U zd 8] w fun e w'=>∃ v,e=zk v/\w'.ownsRow w.heap.size 39 2 v 0 []/\Ov w w':=by
 go_enter Tryz.func241,Tryz.ntmps241
 go_wp2_with fail
 go_ret
 refine ⟨_,rfl,⟨rfl,Or.inr ⟨w.heap.size,grownCap w 8 0 39,_,rfl,Nat.le_refl _,heap_alloc_new w _,Nat.zero_le _,grownCap_le_maxLen _ _ _ _ (by decide),?_,rfl⟩⟩,(bA w _).drew⟩
 have:=grownCap_ge w 8 0 39
 simp [Builtin.zeroCells]
 unfold grownCap at this ⊢
 omega
theorem Mw (w:World):Calls Tryz.prog 241 #[O none 0 0,U zd 9] w fun e w'=>∃ v,e=zk v/\w'.ownsRow w.heap.size 39 2 v 0 []/\Ov w w':=by
 go_enter Tryz.func241,Tryz.ntmps241
 go_wp2_with fail
 go_ret
 refine ⟨_,rfl,⟨rfl,Or.inr ⟨w.heap.size,grownCap w 9 0 39,_,rfl,Nat.le_refl _,heap_alloc_new w _,Nat.zero_le _,grownCap_le_maxLen _ _ _ _ (by decide),?_,rfl⟩⟩,(bA w _).drew⟩
 have:=grownCap_ge w 9 0 39
 simp [Builtin.zeroCells]
 unfold grownCap at this ⊢
 omega
theorem LM (w:World):Calls Tryz.prog 241 #[O none 0 0,U zd 10] w fun e w'=>∃ v,e=zk v/\w'.ownsRow w.heap.size 39 2 v 0 []/\Ov w w':=by
 go_enter Tryz.func241,Tryz.ntmps241
 go_wp2_with fail
 go_ret
 refine ⟨_,rfl,⟨rfl,Or.inr ⟨w.heap.size,grownCap w 10 0 39,_,rfl,Nat.le_refl _,heap_alloc_new w _,Nat.zero_le _,grownCap_le_maxLen _ _ _ _ (by decide),?_,rfl⟩⟩,(bA w _).drew⟩
 have:=grownCap_ge w 10 0 39
 simp [Builtin.zeroCells]
 unfold grownCap at this ⊢
 omega
theorem N7 (n:Nat) (hn:n<=10) (w:World):Calls Tryz.prog 241 #[O none 0 0,U zd n] w fun e w'=>∃ v,e=zk v/\w'.ownsRow w.heap.size 39 2 v 0 []/\Ov w w':=by
 match n,hn with
 | 0,_=>exact MF w
 | 1,_=>exact ME w
 | 2,_=>exact MD w
 | 3,_=>exact MC w
 | 4,_=>exact MB w
 | 5,_=>exact MA w
 | 6,_=>exact Mz w
 | 7,_=>exact My w
 | 8,_=>exact Mx w
 | 9,_=>exact Mw w
 | 10,_=>exact LM w
theorem A9.src2 {w:World} {ad:Addr} {n cap:Nat} {ls:List Lab} (h:A9 w (O (some ad) n cap) ls):∃ xs,Bv w ls xs/\∀ j u,xs[j]? = some u->w.cell? (ad.add j)=some u:=by
 obtain ⟨-,ao,cap',he,hc⟩:=h
 injection he with e1 e2 e3
 rcases hl:ls with _ | ⟨a,l⟩
 ·exact ⟨[],rfl,fun j u hu=>by simp at hu⟩
 ·obtain ⟨b,off,hbo,hel⟩:=hc (by rw [hl];simp)
  rw [<-e1] at hbo
  have hbo2:=Option.some.inj hbo
  subst hbo2
  obtain ⟨xs,hx,hxc⟩:=FF (w:=w) (b:=b) (off:=off) ls off (fun i hi=>hel i hi)
  refine ⟨xs,hl ▸ hx,fun j u hu=>?_⟩
  rw [Addr.add_lit]
  exact hxc j u hu
theorem Jc (g:Nat) (ya yn yc oa on oc) (ls ms) (w:World) (hg:Ae [O ya yn yc,O oa on oc] w g) (h1:A9 w (O ya yn yc) ls) (h2:A9 w (O oa on oc) ms) (hy:yn<=5) (ho:on<=5) (hyc:ya=none->yc=0) (hoc:oa=none->oc=0) :
  Calls Tryz.prog 216 #[O (some ⟨g,0,none⟩) 2 2] w fun e w'=>∃ v xs,e=zk v/\w'.ownsRow w.heap.size 39 2 v (ls++ms).length xs/\Bv w' (ls++ms) xs/\Ov w w':=by
 obtain ⟨i0,hi,hz0,hz1,hz2⟩:=info_parts Tryz.infoL
 have K1:=Aa (N7 (yn+on) (by omega) w)
 have HG:=Aa hg
 have H1:=Aa h1
 have H2:=Aa h2
 have hyn:yn=ls.length:=by obtain ⟨-,a,c,he,-⟩:=h1;injection he
 have hon:on=ms.length:=by obtain ⟨-,a,c,he,-⟩:=h2;injection he
 have HYN:=Aa hyn
 have HON:=Aa hon
 clear hg h1 h2 hyn hon
 go_enter Tryz.func216,Tryz.ntmps216
 go_wp2_with fail
 go_loopw [3,11] (fun s i wr=>∃ j:Int,0<=j/\j<=2/\i=U zd j/\s=U zd (if j=0 then 0 else if j=1 then (yn:Int) else (yn:Int)+on)/\wr=w) (fun _ i _=>2 - (intOf i).toNat)
 case atStart=>exact ⟨0,by omega,by omega,rfl,rfl,rfl⟩
 case round=>
  obtain ⟨j,hj0,hj,rfl,rfl,hw⟩:=hrel
  have hw':=hw.symm
  subst hw'
  clear hw
  rcases (by omega:j=0\/j=1\/j=2) with rfl | rfl | rfl
  ·have q:=HG.o 0 _ rfl
   rw [if_pos rfl]
   go_wp2_with fail
   exact ⟨⟨1,by omega,by omega,by first | rfl | go_num,by first | rfl | simp,by first | rfl | trivial⟩,by simp [intOf]⟩
  ·have q:=HG.o 1 _ rfl
   rw [if_neg (by omega),if_pos rfl]
   go_wp2_with fail
   exact ⟨⟨2,by omega,by omega,by first | rfl | go_num,by first | rfl | simp,by first | rfl | trivial⟩,by simp [intOf]⟩
  ·rw [if_neg (by omega),if_neg (by omega)]
   have K1':Hx (Calls Tryz.prog 241 #[O none 0 0,U zd ((yn:Int)+on)] w fun e w'=>∃ v,e=zk v/\w'.ownsRow w.heap.size 39 2 v 0 []/\Ov w w'):=by
    have:=K1.o
    rw [Int.natCast_add] at this
    exact this
   obtain ⟨T,hT⟩:=nm ((yn:Int)+on)
   rw [<-hT] at K1' ⊢
   have hT0:0<=T:=by omega
   have hT1:T<=10:=by omega
   clear hT
   go_wp2_with fail
   refine (K1'.o).mono ?_
   rintro e w1 ⟨v,rfl,hown,hb1⟩
   clear K1 K1'
   obtain ⟨va,vn,vc,hvf⟩:∃ a n c,v=O a n c:=by
    rcases hown.2 with ⟨h,_⟩ | ⟨g,cap,cur,h,_⟩
    ·exact ⟨_,_,_,h⟩
    ·exact ⟨_,_,_,h⟩
   subst hvf
   go_wp2_with fail
   go_loopw [6,27] (fun nv i wq=>∃ (j:Int) (xs:List Value),0<=j/\j<=2/\i=U zd j/\wq.ownsRow w.heap.size 39 2 nv (if j=0 then [] else if j=1 then ls else ls++ms).length xs/\Bv w (if j=0 then [] else if j=1 then ls else ls++ms) xs/\Ov w wq) (fun _ i _=>2 - (intOf i).toNat)
   case atStart=>exact ⟨0,[],by omega,by omega,rfl,hown,rfl,hb1⟩
   case round=>
    clear hown hb1
    obtain ⟨j,xs,hj0,hj,rfl,hown,hcl,hB⟩:=hrel
    rcases (by omega:j=0\/j=1\/j=2) with rfl | rfl | rfl
    ·rw [if_pos rfl] at hown hcl
     have q:=HG.o.over hB 0 _ rfl
     have hs1:w.heap.size<=wr.heap.size:=hB.size
     cases ya with
     | none=>
      have hc0:=hyc rfl
      have hl0:ls=[]:=by
       obtain ⟨-,a0,c0,he,hcc⟩:=H1.o
       injection he with e1 e2 e3
       rcases h:ls with _ | ⟨x,r⟩
       ·rfl
       ·obtain ⟨b,off,hbo,-⟩:=hcc (by rw [h];simp)
        rw [<-e1] at hbo
        cases hbo
      have hn0:yn=0:=by rw [HYN.o,hl0];rfl
      subst hc0 hn0
      go_wp2_with (at_builtin;refine wpList_append_own_none rfl _ _ 26 rfl w.heap.size 39 i0 2 Tryz.underlying26 hi _ _ _ rfl hown rfl ?_)
      go_wp2_with fail
      refine ⟨⟨1,xs,by omega,by omega,by first | rfl | go_num,?_,?_,hB⟩,by simp [intOf]⟩
      ·rw [if_neg (by omega),if_pos rfl]
       rw [hl0]
       simpa using hown
      ·rw [if_neg (by omega),if_pos rfl]
       rw [hl0]
       simpa using hcl
     | some ad=>
      obtain ⟨ys,hys,hyc0⟩:=H1.o.src2
      have hyc2:=fun j u hu=>Ab hB _ _ (hyc0 j u hu)
      have hb0:([]:List Lab).length+yn<=10:=by simp;omega
      go_wp2_with (at_builtin;refine wpList_append_own _ rfl _ _ 26 rfl w.heap.size 39 i0 (zh #[O none 0 0,O none 0 0]) 2 48 Tryz.underlying26 hi hz0 hz1 hz2 rfl (by decide) _ _ _ rfl hown ad yn yc ys rfl (by rw [hys.length,HYN.o]) hyc2 hys.one (by unfold maxLen;omega) (by omega) hs1 ?_)
      intro v2 w3 hown2 hgr2 _
      have hbl2:=Aq hown hgr2 hs1
      have HO2:=Aa hown2
      have hcl2:=(hcl.append hys)
      go_wp2_with fail
      refine ⟨⟨1,xs++ys,by omega,by omega,by first | rfl | go_num,?_,?_,hB.trans hbl2⟩,by simp [intOf]⟩
      ·rw [if_neg (by omega),if_pos rfl]
       have h3:=HO2.o
       rw [HYN.o] at h3
       simpa using h3
      ·rw [if_neg (by omega),if_pos rfl]
       simpa using hcl2
    ·rw [if_neg (by omega),if_pos rfl] at hown hcl
     have q:=HG.o.over hB 1 _ rfl
     have hs1:w.heap.size<=wr.heap.size:=hB.size
     cases oa with
     | none=>
      have hc0:=hoc rfl
      have hl0:ms=[]:=by
       obtain ⟨-,a0,c0,he,hcc⟩:=H2.o
       injection he with e1 e2 e3
       rcases h:ms with _ | ⟨x,r⟩
       ·rfl
       ·obtain ⟨b,off,hbo,-⟩:=hcc (by rw [h];simp)
        rw [<-e1] at hbo
        cases hbo
      have hn0:on=0:=by rw [HON.o,hl0];rfl
      subst hc0 hn0
      go_wp2_with (at_builtin;refine wpList_append_own_none rfl _ _ 26 rfl w.heap.size 39 i0 2 Tryz.underlying26 hi _ _ _ rfl hown rfl ?_)
      go_wp2_with fail
      refine ⟨⟨2,xs,by omega,by omega,by first | rfl | go_num,?_,?_,hB⟩,by simp [intOf]⟩
      ·rw [if_neg (by omega),if_neg (by omega)]
       rw [hl0]
       simpa using hown
      ·rw [if_neg (by omega),if_neg (by omega)]
       rw [hl0]
       simpa using hcl
     | some ad=>
      obtain ⟨ys,hys,hyc0⟩:=H2.o.src2
      have hyc2:=fun j u hu=>Ab hB _ _ (hyc0 j u hu)
      have hb0:ls.length+on<=10:=by have:=HYN.o;omega
      go_wp2_with (at_builtin;refine wpList_append_own _ rfl _ _ 26 rfl w.heap.size 39 i0 (zh #[O none 0 0,O none 0 0]) 2 48 Tryz.underlying26 hi hz0 hz1 hz2 rfl (by decide) _ _ _ rfl hown ad on oc ys rfl (by rw [hys.length,HON.o]) hyc2 hys.one (by unfold maxLen;omega) (by omega) hs1 ?_)
      intro v2 w3 hown2 hgr2 _
      have hbl2:=Aq hown hgr2 hs1
      have HO2:=Aa hown2
      have hcl2:=(hcl.append hys)
      go_wp2_with fail
      refine ⟨⟨2,xs++ys,by omega,by omega,by first | rfl | go_num,?_,?_,hB.trans hbl2⟩,by simp [intOf]⟩
      ·rw [if_neg (by omega),if_neg (by omega)]
       have h3:=HO2.o
       rw [HON.o] at h3
       simpa using h3
      ·rw [if_neg (by omega),if_neg (by omega)]
       simpa using hcl2
    ·rw [if_neg (by omega),if_neg (by omega)] at hown hcl
     go_wp2_with fail
     go_ret
     exact ⟨_,xs,rfl,hown,hcl.over hB,hB⟩
theorem IL {W:World} {B e:Nat} {v:Value} {n:Nat} {xs:List Value} (h:W.ownsRow B e 2 v n xs) (hn:0 < n):∃ g cap,v=O (some ⟨g,0,none⟩) n cap/\B<=g/\g < W.heap.size/\∀ j u,xs[j]? = some u->W.cell? ((⟨g,0,none⟩:Addr).add j)=some u:=by
 rcases h.2 with ⟨_,h0⟩ | ⟨g,cap,cur,hv,hb,hg,h1,h2,h3,h4⟩
 ·omega
 ·refine ⟨g,cap,hv,hb,(Array.getElem?_eq_some_iff.1 hg).1,fun j u hu=>?_⟩
  rw [Addr.add_lit,Lib.cell_of_heap hg]
  rw [<-h4,List.getElem?_take] at hu
  split at hu
  ·simpa using hu
  ·cases hu
def Eh (m:Int) (gs:List (Int × Int)) (ls:List Lab) (vs:List (Bool × Lab)):Prop:=
 (∀ b∈ls,Bq m gs b=0)/\(∀ v∈vs,Bq m gs v.2=0)/\∀ v∈vs,v.1=false->v.2.r=[]/\v.2.w=[]
theorem DX {α:Type} {P:α->Prop} {l:List α} {n:Nat} (h:n < l.length) (h1:∀ b∈l.take n,P b) (h2:P l[n]):∀ b∈l.take (n+1),P b:=fun b hb=>by
 rw [List.take_succ_eq_append_getElem h,List.mem_append,List.mem_singleton] at hb
 rcases hb with hb | rfl
 ·exact h1 b hb
 ·exact h2
theorem CO {α:Type} {P:α->Prop} {l:List α} {n:Nat} (h:l.length<=n) (h1:∀ b∈l.take n,P b):∀ b∈l,P b:=by
 rw [List.take_of_length_le h] at h1
 exact h1
theorem Hq {w:World} {a:Option Addr} {n c:Nat} {ps:List Pol} (h:AI w (O a n c) ps):n=ps.length:=by
 obtain ⟨ao,cap,he,-⟩:=h
 injection he
structure BC (K kf:Nat) (m:Int) (ga:Option Addr) (gn gc:Nat) (sa:Option Addr) (sn sc:Nat) (ya:Option Addr) (yn yc:Nat) (oa:Option Addr) (on oc:Nat) (va:Option Addr) (vn vc:Nat) (fa:Option Addr) (fn fc:Nat) (ba:Option Addr) (bn bc:Nat) (gs:List (Int × Int)) (sp:List Int) (ls ms:List Lab) (vs:List (Bool × Lab)) (fs:List FnD) (l:List D) (w:World):Prop where
 m64:Ch m
 grants:AG w (O ga gn gc) gs
 speak:AL w (O sa sn sc) sp
 speakL:sp.length<=9223372036854775807
 ins:A9 w (O ya yn yc) ls
 outs:A9 w (O oa on oc) ms
 vars:Bo w (O va vn vc) vs
 funcs:BA w K kf (O fa fn fc) fs
 main:Bc w K kf (O ba bn bc) l
 insN:ya=none->yc=0
 outsN:oa=none->oc=0
theorem BC.over {K kf:Nat} {m:Int} {ga:Option Addr} {gn gc:Nat} {sa:Option Addr} {sn sc:Nat} {ya:Option Addr} {yn yc:Nat} {oa:Option Addr} {on oc:Nat} {va:Option Addr} {vn vc:Nat} {fa:Option Addr} {fn fc:Nat} {ba:Option Addr} {bn bc:Nat} {gs:List (Int × Int)} {sp:List Int} {ls ms:List Lab} {vs:List (Bool × Lab)} {fs:List FnD} {l:List D} {w w':World} (h:BC K kf m ga gn gc sa sn sc ya yn yc oa on oc va vn vc fa fn fc ba bn bc gs sp ls ms vs fs l w) (hb:Ov w w'):BC K kf m ga gn gc sa sn sc ya yn yc oa on oc va vn vc fa fn fc ba bn bc gs sp ls ms vs fs l w':=
 ⟨h.m64,Af h.grants hb,h.speak.over hb,h.speakL,h.ins.over hb,h.outs.over hb,h.vars.over hb,h.funcs.over hb,h.main.over hb,h.insN,h.outsN⟩
structure okP (K kf:Nat) (m:Int) (vn yn on:Nat) (gs:List (Int × Int)) (sp:List Int) (ls ms:List Lab) (vs:List (Bool × Lab)) (fs:List FnD) (l:List D):Prop where
 chk:AQ m gs=0
 speak:∀ x∈sp,0<=x/\x < m
 labs:Eh m gs (ls++ms) vs
 outs:on<=5
 vars:vn<=16
 ins:yn<=5
 funcs:fs.length<=5
 many:B5 kf fs+A4 kf l<=50
 body:∀ i (h:i < fs.length),okF K vn yn on (i:Int) fs kf fs[i]
 main:∀ s∈l,okS K vn yn on (fs.length:Int) fs kf s
theorem MN (v:Value) (w:World):(Instr.typeAssert (.iface 230 v) 20 230 false).run Tryz.prog w=.ok v w:=by
 simp [Instr.typeAssert,run_underlying Tryz.underlying230,go_sem,Result.andThen]
theorem Ji (B:Nat) (x y a e:Int) (older:List PanicEntry) (w:World) (hB:B+2<=w.heap.size)
  (c0:w.cell? ⟨B,0,none⟩=some (U zd x)) (c1:w.cell? ⟨B+1,0,none⟩=some (U zd y))
  (f0:w.frozen? ⟨B,0,none⟩=false) (f1:w.frozen? ⟨B+1,0,none⟩=false) :
  CallsD Tryz.prog 170 #[zj (some ⟨B,0,none⟩),zj (some ⟨B+1,0,none⟩)] (.panicking ({ v:=.iface 230 (zh #[U zd a,U zd e]),recovered:=false }::older)) w fun en u' w'=>
   en=zk (zm #[])/\u'=.panicking ({ v:=.iface 230 (zh #[U zd a,U zd e]),recovered:=true }::older) /\
   w'.cell? ⟨B,0,none⟩=some (U zd a)/\w'.cell? ⟨B+1,0,none⟩=some (U zd e)/\Below B w w':=by
 have hta:=MN
 refine callsD_of_wpS Tryz.func170 rfl fun c₀ cs hu=>?_
 apply wpS_seq
 apply wpS_region
 simp [wpOpsS,go_sem,recoverD,hu,Tryz.ntmps170,Exit.thenS]
 refine wpS_of_wp ?_
 change Code.wp Tryz.prog _ _ { tmps:=#[zj (some ⟨B,0,none⟩),zj (some ⟨B+1,0,none⟩),.iface 230 (zh #[U zd a,U zd e]),undef,.iface 230 (zh #[U zd a,U zd e]),undef,undef,undef,undef,undef,undef,undef,undef],defers:=[] } w
 go_wp2
 have k1:B < w.heap.size:=by omega
 have k2:B+1 < w.heap.size:=by omega
 go_region
 go_wp2
 refine ⟨rfl,_,by cases c₀;simp_all,zm #[],by simp [results,Tryz.results170],rfl,rfl,?_⟩
 refine ⟨by simp [go_sem,k1,c0],by simp [go_sem,k2,c1],?_⟩
 exact (((((Below.refl B w).setCell (by simp) _).setCell (by simp) _)).alloc (by simp [World.setCell];omega) _).drew
structure WC where
 n:Nat
 ga:Option Addr
 gn:Nat
 gc:Nat
 sa:Option Addr
 sn:Nat
 sc:Nat
 ya:Option Addr
 yn:Nat
 yc:Nat
 oa:Option Addr
 on:Nat
 oc:Nat
 va:Option Addr
 vn:Nat
 vc:Nat
 fa:Option Addr
 fn:Nat
 fc:Nat
 ba:Option Addr
 bn:Nat
 bc:Nat
 la:Option Addr
 ln:Nat
 lc:Nat
 ka:Option Addr
 kn:Nat
 kc:Nat
abbrev WC.v (c:WC):Value:=zh #[U zd (c.n:Int),O c.ga c.gn c.gc,O c.sa c.sn c.sc,O c.ya c.yn c.yc,O c.oa c.on c.oc,O c.va c.vn c.vc,O c.fa c.fn c.fc,O c.ba c.bn c.bc,O c.la c.ln c.lc,O c.ka c.kn c.kc]
abbrev WC.cs (c:WC):List Value:=[U zd (c.n:Int),O c.ga c.gn c.gc,O c.sa c.sn c.sc,O c.ya c.yn c.yc,O c.oa c.on c.oc,O c.va c.vn c.vc,O c.fa c.fn c.fc,O c.ba c.bn c.bc,O c.la c.ln c.lc,O c.ka c.kn c.kc]
structure FrW (X:World->Nat->Prop) (W W':World):Prop where
 os:W'.os=W.os
 tape:W'.tape=W.tape
 output:W'.output=W.output
 size:W.heap.size<=W'.heap.size
 block:∀ k,k < W.heap.size->¬ X W k->W'.heap[k]? = W.heap[k]?
 mov:∀ k,k < W.heap.size->X W' k->X W k
theorem FrW.trans {X:World->Nat->Prop} {A B C:World} (h:FrW X A B) (k:FrW X B C):FrW X A C:=
 ⟨k.os.trans h.os,k.tape.trans h.tape,k.output.trans h.output,Nat.le_trans h.size k.size,fun i hi hx=>(k.block i (Nat.lt_of_lt_of_le hi h.size) (fun hh=>hx (h.mov i hi hh))).trans (h.block i hi hx),fun i hi hx=>h.mov i hi (k.mov i (Nat.lt_of_lt_of_le hi h.size) hx)⟩
structure XOk (X:World->Nat->Prop):Prop where
 below:∀ W W',Ov W W'->∀ k,X W' k->X W k
theorem FrW.of_below {X:World->Nat->Prop} (hX:XOk X) {A B:World} (h:Ov A B):FrW X A B:=⟨h.os,h.tape,h.output,h.size,fun k hk _=>h.block k hk,fun k _ hx=>hX.below A B h k hx⟩
theorem FrW.refl {X:World->Nat->Prop} (A:World):FrW X A A:=⟨rfl,rfl,rfl,Nat.le_refl _,fun _ _ _=>rfl,fun _ _ h=>h⟩
theorem FrW.cell {X:World->Nat->Prop} {A B:World} (h:FrW X A B) {b j:Nat} {u:Value} (hc:A.cell? ⟨b,j,none⟩=some u) (hx:¬ X A b):B.cell? ⟨b,j,none⟩=some u:=
 (World.cell?_of_block (h.block b (bL hc) hx)).trans hc
theorem FrW.row {X:World->Nat->Prop} {A B:World} (h:FrW X A B) {b:Nat} {cs:List Value} (hc:Ae cs A b) (hx:¬ X A b):Ae cs B b:=fun j u hu=>h.cell (hc j u hu) hx
def Oy (P:Nat->Prop) (v:Value):Prop:=∃ x y,v=zh #[x,y]/\(∀ a n c,x=O (some a) n c->¬ P a.block)/\∀ a n c,y=O (some a) n c->¬ P a.block
structure AW (n:Nat) (X:World->Nat->Prop) (W:World) (v:Value) (l:Lev):Prop where
 at_:A7 W v l
 len:l.len n
 off:Oy (X W) v
theorem Dt {X:World->Nat->Prop} {A B:World} {v:Value} {l:List Bool} (h:AP A v l) (hf:FrW X A B) (hx:∀ a n c,v=O (some a) n c->¬ X A a.block):AP B v l:=by
 obtain ⟨ao,cap,hv,hel⟩:=h
 refine ⟨ao,cap,hv,fun hne=>?_⟩
 obtain ⟨b,off,hao,hel⟩:=hel hne
 refine ⟨b,off,hao,fun i hi=>hf.cell (hel i hi) ?_⟩
 exact hx ⟨b,off,none⟩ l.length cap (by rw [hv,hao])
theorem AW.keep {n:Nat} {X:World->Nat->Prop} {A B:World} {v:Value} {l:Lev} (h1:1<=n) (h:AW n X A v l) (hf:FrW X A B):AW n X B v l:=by
 obtain ⟨x,y,hv,hx,hy⟩:=h.off
 obtain ⟨x',y',hv',bx,by'⟩:=h.at_
 rw [hv] at hv'
 simp at hv'
 obtain ⟨rfl,rfl⟩:=hv'
 have lt:∀ (v:Value) (l:List Bool),AP A v l->l.length=n->∀ a m c,v=O (some a) m c->a.block < A.heap.size:=by
  intro v l hb hl a m c e
  obtain ⟨ao,cap,hv,hel⟩:=hb
  obtain ⟨b,off,hao,hel⟩:=hel (by rintro rfl;simp at hl;omega)
  rw [hv,hao] at e
  injection e with e1
  injection e1 with e1
  rw [<-e1]
  exact bL (hel 0 (by omega))
 refine ⟨⟨x,y,hv,Dt bx hf hx,Dt by' hf hy⟩,h.len,x,y,hv,fun a m c e hh=>hx a m c e (hf.mov _ (lt _ _ bx h.len.1 a m c e) hh),fun a m c e hh=>hy a m c e (hf.mov _ (lt _ _ by' h.len.2 a m c e) hh)⟩
theorem AW.over {n:Nat} {X:World->Nat->Prop} (hX:XOk X) {A B:World} {v:Value} {l:Lev} (h:AW n X A v l) (hb:Ov A B):AW n X B v l:=by
 obtain ⟨x,y,hv,hx,hy⟩:=h.off
 exact ⟨Aw h.at_ hb,h.len,x,y,hv,fun a m c e hh=>hx a m c e (hX.below A B hb _ hh),fun a m c e hh=>hy a m c e (hX.below A B hb _ hh)⟩
theorem Cs {X:World->Nat->Prop} (hX:XOk X) {A B:World} (hb:Ov A B) (hlt:∀ k,X A k->k < A.heap.size) {v:Value} (h:Kp A.heap.size v):Oy (X B) v:=by
 obtain ⟨x,y,hv,hx,hy⟩:=h
 refine ⟨x,y,hv,fun a m c e hh=>?_,fun a m c e hh=>?_⟩
 ·have:=hx a m c e
  have:=hlt _ (hX.below A B hb _ hh)
  omega
 ·have:=hy a m c e
  have:=hlt _ (hX.below A B hb _ hh)
  omega
def Bb (n:Nat) (X:World->Nat->Prop) (w:World) (v:Value) (ls:List Lev):Prop:=
 ∃ ao cap,v=O ao ls.length cap/\(ls≠[]->∃ b off,ao=some ⟨b,off,none⟩/\∀ i (h:i < ls.length),∃ rv wv,w.cell? ⟨b,off+i*2,none⟩=some rv/\w.cell? ⟨b,off+i*2+1,none⟩=some wv/\AW n X w (zh #[rv,wv]) ls[i])
theorem Bb.levs {n:Nat} {X:World->Nat->Prop} {w:World} {v:Value} {ls:List Lev} (h:Bb n X w v ls):Bd w v ls:=by
 obtain ⟨ao,cap,hv,hel⟩:=h
 refine ⟨ao,cap,hv,fun hne=>?_⟩
 obtain ⟨b,off,hao,hel⟩:=hel hne
 refine ⟨b,off,hao,fun i hi=>?_⟩
 obtain ⟨rv,wv,h1,h2,h3⟩:=hel i hi
 exact ⟨rv,wv,h1,h2,h3.at_⟩
theorem Bb.len {n:Nat} {X:World->Nat->Prop} {w:World} {v:Value} {ls:List Lev} (h:Bb n X w v ls):∀ x∈ls,x.len n:=by
 intro x hx
 obtain ⟨i,hi,rfl⟩:=List.getElem_of_mem hx
 obtain ⟨ao,cap,hv,hel⟩:=h
 obtain ⟨b,off,hao,hel⟩:=hel (by rintro rfl;simp at hi)
 obtain ⟨rv,wv,-,-,h3⟩:=hel i hi
 exact h3.len
theorem Bb.over {n:Nat} {X:World->Nat->Prop} (hX:XOk X) {w w':World} {v:Value} {ls:List Lev} (h:Bb n X w v ls) (hb:Ov w w'):Bb n X w' v ls:=by
 obtain ⟨ao,cap,hv,hel⟩:=h
 refine ⟨ao,cap,hv,fun hne=>?_⟩
 obtain ⟨b,off,hao,hel⟩:=hel hne
 refine ⟨b,off,hao,fun i hi=>?_⟩
 obtain ⟨rv,wv,h1,h2,h3⟩:=hel i hi
 exact ⟨rv,wv,Ab hb _ _ h1,Ab hb _ _ h2,h3.over hX hb⟩
theorem DE (c:WC) (h1:1<=c.n) (h6:c.n<=6) (gs Ls) (X:World->Nat->Prop) (hX:XOk X) (v:Value) (l) (K:Nat) (cs:List Value) (d) (w:World)
  (hg:AG w (O c.ga c.gn c.gc) gs) (hE:AQ c.n gs=0) (hL:Bb c.n X w (O c.la c.ln c.lc) Ls) (hl:AW c.n X w v l) (hlm:Ls.length<=16) (hlt:∀ k,X w k->k < w.heap.size)
  (hx:RX w K cs d) (hv:∀ x∈AC K d,0<=x/\x < (Ls.length:Int)) :
  Calls Tryz.prog 103 #[c.v,v,.agg cs.toArray] w fun e w'=>
   (∃ p1 q1 r1 p2 q2 r2,e=zk (zh #[O p1 q1 r1,O p2 q2 r2])/\AW c.n X w' (zh #[O p1 q1 r1,O p2 q2 r2]) (AX c.n Ls l (AC K d)))/\Ov w w':=by
 obtain ⟨ys,hys⟩:=K9 Ls.length _ hv
 obtain ⟨xa,xc,rfl⟩:=hx.form
 obtain ⟨x,y,rfl,-⟩:=hl.at_
 obtain ⟨p1,q1,r1,p2,q2,r2,rfl,rfl⟩:=AN hl.at_
 refine (Nq c.n h1 h6 c.ga c.gn c.gc c.sa c.sn c.sc c.ya c.yn c.yc c.oa c.on c.oc c.va c.vn c.vc c.fa c.fn c.fc c.ba c.bn c.bc c.la c.ln c.lc c.ka c.kn c.kc gs Ls p1 q1 r1 p2 q2 r2 l K _ _ xa _ xc d ys w hg hE hL.levs hL.len hl.at_ hl.len (by omega) hx hys).mono ?_
 rintro e w' ⟨⟨v,rfl,hv2,hd⟩,hb⟩
 refine ⟨?_,hb⟩
 have hv3:=hv2
 have ho:Oy (X w') v:=by
  rcases hd with rfl | hd
  ·exact (hl.over hX hb).off
  ·exact Cs hX hb hlt hd
 have hlen:=Fq (L:=Ls) (AC K d) l hl.len
 obtain ⟨x,y,rfl,-⟩:=hv2
 obtain ⟨a1,a2,a3,a4,a5,a6,rfl,rfl⟩:=AN hv3
 exact ⟨_,_,_,_,_,_,rfl,hv3,hlen,ho⟩
theorem Gj {m:Int}:∀ (k:Nat) (d:D),(∀ x∈Bm k d,CI m (AH x) (Ba x) (AF x).length=0)->∀ v∈AC k d,0<=v/\v < m
 | 0,_,_,v,hv=>by simp [AC] at hv
 | k+1,d,h,v,hv=>by
  unfold AC at hv
  have h0:=EX (h d (by simp [Bm]))
  by_cases h2:AH d=2
  ·rw [if_pos h2] at hv
   simp at hv
   subst hv
   omega
  ·rw [if_neg h2] at hv
   obtain ⟨a,ha,hv⟩:=List.mem_flatMap.1 hv
   exact Gj k a (fun x hx=>h x (by simp only [Bm,List.mem_cons,List.mem_flatMap];exact Or.inr ⟨a,ha,hx⟩)) v hv
theorem CF {m:Int} {k:Nat} {d:D} (h:AZ m k d=0):∀ v∈AC k d,0<=v/\v < m:=by
 unfold AZ at h
 split at h
 ·omega
 ·exact Gj k d (Fe h)
theorem JR {k:Nat} {d:D} (h0:AH d=0) (ha:AF d=[]):AC k d=[]:=by
 cases k with
 | zero=>rfl
 | succ k=>unfold AC;rw [if_neg (by omega),ha];rfl
theorem BB {K nv ni no:Nat} {funcs:Int} {fs:List FnD} {d:D} (h:CA K nv ni no funcs fs d):∀ v∈AC K (AR d),0<=v/\v < (nv:Int):=by
 obtain ⟨h1,-,-,-,h5,h6,-⟩:=h
 by_cases hk:Ak d=2\/Ak d=3
 ·rw [JR (h6 hk).1 (h6 hk).2]
  intro v hv
  cases hv
 ·exact CF (h5 (by omega))
section
variable {σ:Type} (c:WC) (w0:World) (K nv ni no:Nat) (fs:List FnD) (gs:List (Int × Int)) (lev flev:σ->List Lev) (Inv:σ->World->Prop) (X:World->Nat->Prop)
structure D3:Prop where
 n1:1<=c.n
 n6:c.n<=6
 gr:AG w0 (O c.ga c.gn c.gc) gs
 chk:AQ c.n gs=0
 nv16:nv<=16
 below:∀ st W,Inv st W->Ov w0 W
 levs:∀ st W,Inv st W->Bb c.n X W (O c.la c.ln c.lc) (lev st)/\(lev st).length=nv
 flevs:∀ st W,Inv st W->Bb c.n X W (O c.ka c.kn c.kc) (flev st)/\(flev st).length=fs.length
 over:∀ st W W',Inv st W->Ov W W'->Inv st W'
 xok:XOk X
 xlt:∀ st W,Inv st W->∀ k,X W k->k < W.heap.size
def MY (step:Int->D->Lev->σ->σ) (F:FuncId) (fre cap:List Value) (Pm:Int->σ->Prop):Prop:=
 ∀ (st:σ) (W:World) (a:Int) (k:Nat) (cs:List Value) (d:D) (v:Value) (p:Lev) (funcs:Int),Inv st W->RS w0 K (k+1) cs d->funcs<=fs.length->CA K nv ni no funcs fs d->AW c.n X W v p->0<=a->a<=100->Pm a st ->
  Calls Tryz.prog F (fre++U zd a::.agg cs.toArray::v::cap).toArray W fun e W'=>e=zk (zm #[])/\Inv (step a d p st) W'/\FrW X W W'
end
section
variable {σ:Type} {c:WC} {w0:World} {K nv ni no:Nat} {fs:List FnD} {gs:List (Int × Int)} {lev flev:σ->List Lev} {Inv:σ->World->Prop} {X:World->Nat->Prop}
theorem EV {n K:Nat} {lev:σ->List Lev} {step:Int->D->Lev->σ->σ} {cnt1:List D->Nat} {rec:List D->Int->Lev->σ->σ} {p:Lev} {k:Nat}:∀ (l:List D) (q:Int × σ),(l.foldl (Ea n K lev step (CM k) cnt1 rec p) q).1=q.1+(A4 k l:Nat)
 | [],q=>by simp [A4]
 | d::l,q=>by
  rw [List.foldl_cons,EV l]
  simp [Ea,A4]
  omega
theorem G7 {k:Nat} {l:List D} {j:Nat} (hj:j < l.length):A4 k (l.take j)+CM k l[j]<=A4 k l:=by
 rw [<-Gy hj]
 unfold A4
 conv=>rhs;rw [<-List.take_append_drop (j+1) l]
 rw [List.map_append,List.sum_append]
 omega
theorem AW.form {n:Nat} {W:World} {v:Value} {l:Lev} (h:AW n X W v l):∃ p1 q1 r1 p2 q2 r2,v=zh #[O p1 q1 r1,O p2 q2 r2]:=by
 obtain ⟨x,y,hv,-⟩:=h.at_
 have h2:=h.at_
 rw [hv] at h2
 obtain ⟨p1,q1,r1,p2,q2,r2,rfl,rfl⟩:=AN h2
 exact ⟨_,_,_,_,_,_,hv⟩
structure Jr (Pm:Int->σ->Prop) (step:Int->D->Lev->σ->σ):Prop where
 step:∀ a d p st,Pm a st->Pm (a+1) (step a d p st)
 mono:∀ a b st,a<=b->Pm a st->Pm b st
theorem Mj (step:Int->D->Lev->σ->σ):Jr (fun _ _=>True) step:=⟨fun _ _ _ _ _=>trivial,fun _ _ _ _ _=>trivial⟩
theorem Fm {n K:Nat} {lev:σ->List Lev} {step:Int->D->Lev->σ->σ} {Pm:Int->σ->Prop} (h:Jr Pm step) {k:Nat} (ih:∀ (l:List D) (a:Int) (p:Lev) (st:σ),Pm a st->Pm (a+(A4 k l:Nat)) (goS n K lev step k l a p st)) {p:Lev}:∀ (l:List D) (q:Int × σ),Pm q.1 q.2->Pm (l.foldl (Ea n K lev step (CM (k+1)) (A4 k) (goS n K lev step k) p) q).1 (l.foldl (Ea n K lev step (CM (k+1)) (A4 k) (goS n K lev step k) p) q).2
 | [],q,hq=>hq
 | d::l,q,hq=>by
  rw [List.foldl_cons]
  refine Fm h ih l _ ?_
  have h3:=ih (Av d) _ (AX n (lev (step q.1 d p q.2)) p (AC K (AR d))) _ (ih (Ar d) _ (AX n (lev (step q.1 d p q.2)) p (AC K (AR d))) _ (h.step _ d p _ hq))
  have he:q.1+((CM (k+1) d:Nat):Int)=q.1+1+(A4 k (Ar d):Nat)+(A4 k (Av d):Nat):=by
   have:CM (k+1) d=1+A4 k (Ar d)+A4 k (Av d):=rfl
   rw [this];push_cast;omega
  show Pm (q.1+((CM (k+1) d:Nat):Int)) _
  rw [he]
  exact h3
theorem Ib {n K:Nat} {lev:σ->List Lev} {step:Int->D->Lev->σ->σ} {Pm:Int->σ->Prop} (h:Jr Pm step):∀ (k:Nat) (l:List D) (a:Int) (p:Lev) (st:σ),Pm a st->Pm (a+(A4 k l:Nat)) (goS n K lev step k l a p st)
 | 0,l,a,p,st,hp=>h.mono _ _ _ (by omega) hp
 | k+1,l,a,p,st,hp=>by
  have h1:=Fm (n:=n) (K:=K) (lev:=lev) h (Ib h k) (p:=p) l (a,st) hp
  rw [EV] at h1
  exact h1
theorem Nt (I:D3 c w0 nv fs gs lev flev Inv X) (step:Int->D->Lev->σ->σ) (F:FuncId) (fre cap:List Value) (Pm:Int->σ->Prop) (hPm:Hx (Jr Pm step)) (hC:∀ (args:Array Value) (w:World),(callFunc F args).run Tryz.prog w=.ok (.enter F args) w) (hdo:Hx (MY c w0 K nv ni no fs Inv X step F fre cap Pm)) (funcs:Int) (hfn:funcs<=fs.length) :
  ∀ (k:Nat) (vl:Value) (l:List D) (a:Int) (v:Value) (p:Lev) (st:σ) (W:World),Bc w0 K k vl l->(∀ s∈l,okS K nv ni no funcs fs k s)->Inv st W->AW c.n X W v p->0<=a->a+(A4 k l:Nat)<=50->Pm a st ->
   Calls Tryz.prog 148 #[c.v,vl,U zd a,v,.func (.func F) fre.toArray cap.toArray] W fun e W'=>e=zk (U zd (a+(A4 k l:Nat)))/\Inv (goS c.n K lev step k l a p st) W'/\FrW X W W':=by
 intro k
 induction k with
 | zero=>
  intro vl l a v p st W hs _ hI hp h0 h50 _
  obtain rfl:=hs.zero
  obtain ⟨-,ao,cap,rfl,-⟩:=hs
  obtain ⟨p1,q1,r1,p2,q2,r2,rfl⟩:=hp.form
  have hb:Ov W ((W.alloc (ze #[U zd (c.n:Int),O c.ga c.gn c.gc,O c.sa c.sn c.sc,O c.ya c.yn c.yc,O c.oa c.on c.oc,O c.va c.vn c.vc,O c.fa c.fn c.fc,O c.ba c.bn c.bc,O c.la c.ln c.lc,O c.ka c.kn c.kc] 108)).alloc (ze #[O p1 q1 r1,O p2 q2 r2] 50)):=(bA W _).alloc (by simp) _
  have HI:=Aa (I.over _ _ _ hI hb)
  have HF:=Aa (FrW.of_below I.xok hb)
  clear hdo hb
  go_enter Tryz.func148,Tryz.ntmps148
  go_wp2_with fail
  go_loopw [16,2] (fun i x wr=>i=U zd 0/\x=U zd a/\wr=((W.alloc (ze #[U zd (c.n:Int),O c.ga c.gn c.gc,O c.sa c.sn c.sc,O c.ya c.yn c.yc,O c.oa c.on c.oc,O c.va c.vn c.vc,O c.fa c.fn c.fc,O c.ba c.bn c.bc,O c.la c.ln c.lc,O c.ka c.kn c.kc] 108)).alloc (ze #[O p1 q1 r1,O p2 q2 r2] 50))) (fun _ _ _=>0)
  case atStart=>exact ⟨rfl,rfl,rfl⟩
  case round=>
   obtain ⟨rfl,rfl,rfl⟩:=hrel
   go_wp2_with fail
   go_ret
   exact ⟨by simp [A4],HI.o,HF.o⟩
 | succ k ih=>
  intro vl l a v p st W hs hok hI hp h0 h50 hpm
  have HPM:=Aa hpm
  clear hpm
  obtain ⟨p1,q1,r1,p2,q2,r2,rfl⟩:=hp.form
  have hb:Ov W ((W.alloc (ze #[U zd (c.n:Int),O c.ga c.gn c.gc,O c.sa c.sn c.sc,O c.ya c.yn c.yc,O c.oa c.on c.oc,O c.va c.vn c.vc,O c.fa c.fn c.fc,O c.ba c.bn c.bc,O c.la c.ln c.lc,O c.ka c.kn c.kc] 108)).alloc (ze #[O p1 q1 r1,O p2 q2 r2] 50)):=(bA W _).alloc (by simp) _
  obtain ⟨hlm,ao,cap,rfl,hel⟩:=hs
  have hlm2:l.length<=9223372036854775807:=hlm
  have xs0:¬ X ((W.alloc (ze #[U zd (c.n:Int),O c.ga c.gn c.gc,O c.sa c.sn c.sc,O c.ya c.yn c.yc,O c.oa c.on c.oc,O c.va c.vn c.vc,O c.fa c.fn c.fc,O c.ba c.bn c.bc,O c.la c.ln c.lc,O c.ka c.kn c.kc] 108)).alloc (ze #[O p1 q1 r1,O p2 q2 r2] 50)) W.heap.size:=fun h=>by have:=I.xlt _ _ hI _ (I.xok.below _ _ hb _ h);omega
  have xs1:¬ X ((W.alloc (ze #[U zd (c.n:Int),O c.ga c.gn c.gc,O c.sa c.sn c.sc,O c.ya c.yn c.yc,O c.oa c.on c.oc,O c.va c.vn c.vc,O c.fa c.fn c.fc,O c.ba c.bn c.bc,O c.la c.ln c.lc,O c.ka c.kn c.kc] 108)).alloc (ze #[O p1 q1 r1,O p2 q2 r2] 50)) (W.heap.size+1):=fun h=>by have:=I.xlt _ _ hI _ (I.xok.below _ _ hb _ h);omega
  have row0:Ae c.cs ((W.alloc (ze #[U zd (c.n:Int),O c.ga c.gn c.gc,O c.sa c.sn c.sc,O c.ya c.yn c.yc,O c.oa c.on c.oc,O c.va c.vn c.vc,O c.fa c.fn c.fc,O c.ba c.bn c.bc,O c.la c.ln c.lc,O c.ka c.kn c.kc] 108)).alloc (ze #[O p1 q1 r1,O p2 q2 r2] 50)) W.heap.size:=(Ae.new c.cs 108 W).over (bA _ _)
  have row1:Ae [O p1 q1 r1,O p2 q2 r2] ((W.alloc (ze #[U zd (c.n:Int),O c.ga c.gn c.gc,O c.sa c.sn c.sc,O c.ya c.yn c.yc,O c.oa c.on c.oc,O c.va c.vn c.vc,O c.fa c.fn c.fc,O c.ba c.bn c.bc,O c.la c.ln c.lc,O c.ka c.kn c.kc] 108)).alloc (ze #[O p1 q1 r1,O p2 q2 r2] 50)) (W.heap.size+1):=by
   have r:=Ae.new [O p1 q1 r1,O p2 q2 r2] 50 (W.alloc (ze #[U zd (c.n:Int),O c.ga c.gn c.gc,O c.sa c.sn c.sc,O c.ya c.yn c.yc,O c.oa c.on c.oc,O c.va c.vn c.vc,O c.fa c.fn c.fc,O c.ba c.bn c.bc,O c.la c.ln c.lc,O c.ka c.kn c.kc] 108))
   simpa using r
  have HP0:=Aa (hp.over I.xok hb)
  have HX0:=Aa xs0
  have HX1:=Aa xs1
  have HR0:=Aa row0
  have HR1:=Aa row1
  have HI0:=Aa (I.over _ _ _ hI hb)
  have HF0:=Aa (FrW.of_below I.xok hb)
  have HEL:=Aa hel
  have HOK:=Aa hok
  have IH:=Aa ih
  have HI:=Aa I
  obtain ⟨Q,hQ⟩:∃ Q:Nat->Int × σ,Q=fun j=>(l.take j).foldl (Ea c.n K lev step (CM (k+1)) (A4 k) (goS c.n K lev step k) p) (a,st):=⟨_,rfl⟩
  have HQ:=Aa hQ
  have hQ1:∀ j,(Q j).1=a+(A4 (k+1) (l.take j):Nat):=fun j=>by rw [hQ];exact EV _ _
  have HQ1:=Aa hQ1
  obtain ⟨W0,hW0⟩:=nm (((W.alloc (ze #[U zd (c.n:Int),O c.ga c.gn c.gc,O c.sa c.sn c.sc,O c.ya c.yn c.yc,O c.oa c.on c.oc,O c.va c.vn c.vc,O c.fa c.fn c.fc,O c.ba c.bn c.bc,O c.la c.ln c.lc,O c.ka c.kn c.kc] 108)).alloc (ze #[O p1 q1 r1,O p2 q2 r2] 50)))
  have hq0:Q 0=(a,st):=by rw [hQ];rfl
  have HQ0:=Aa hq0
  have H50:=Aa h50
  rw [<-hW0] at HP0 HX0 HX1 HR0 HR1 HI0 HF0
  clear hb xs0 xs1 row0 row1 hel hok ih I hI hp hQ1 hq0 hQ h50
  go_enter Tryz.func148,Tryz.ntmps148
  go_wp2_with fail
  go_loopw [16,2] (fun i x wr=>∃ j:Nat,j<=l.length/\i=U zd j/\x=U zd (Q j).1/\Inv (Q j).2 wr/\FrW X W0 wr) (fun i _ _=>l.length - (intOf i).toNat)
  case atStart=>exact ⟨0,Nat.zero_le _,rfl,by rw [HQ0.o],by rw [HQ0.o,<-hW0];exact HI0.o,by rw [<-hW0];exact FrW.refl _⟩
  case round=>
   obtain ⟨j,hj,rfl,rfl,hI,hF⟩:=hrel
   clear hW0
   obtain ⟨at_,hat⟩:=nm ((Q j).1)
   have hatv:at_=a+(A4 (k+1) (l.take j):Nat):=hat.trans (HQ1.o j)
   rw [<-hat]
   have HAT:=Aa hat
   by_cases hlt:j < l.length
   ·have hcl:=G7 (k:=k+1) hlt
    have h50':=H50.o
    have hc1:CM (k+1) l[j]=1+A4 k (Ar l[j])+A4 k (Av l[j]):=rfl
    have ha0:0<=at_:=by omega
    have ha1:at_+(1+A4 k (Ar l[j])+A4 k (Av l[j]):Nat)<=50:=by omega
    have hcell:=Ab (HI.o.below _ _ hI)
    obtain ⟨b,off,rfl,hcs⟩:=HEL.o (by rintro rfl;simp at hlt)
    obtain ⟨cs,hl9,hcc,hrs⟩:=hcs j l[j] (List.getElem?_eq_getElem hlt)
    obtain ⟨hok1,hokT,hokE⟩:=HOK.o l[j] (List.getElem_mem hlt)
    obtain ⟨d,hd⟩:=nm (l[j])
    rw [<-hd] at hrs hok1 hokT hokE ha1
    have HD:=Aa hd
    have HRS:=Aa hrs
    obtain ⟨ek,en,xa,xl,xc,aa,ac,ta,tc,ea,ec,rfl,i0,i1,i2,hX,-,hT,hE,-,-,-⟩:=hrs.form
    obtain ⟨kd,hkd⟩:=nm (Ak d)
    obtain ⟨vr,hvr⟩:=nm (AJ d)
    obtain ⟨ot,hot⟩:=nm (Ag d)
    obtain ⟨al,hal⟩:=nm ((An d).length)
    obtain ⟨tl,htl⟩:=nm ((Ar d).length)
    obtain ⟨el,hel⟩:=nm ((Av d).length)
    rw [<-hkd,<-hvr,<-hot,<-hal,<-htl,<-hel] at hcc HRS
    rw [<-htl] at hT
    rw [<-hel] at hE
    have g0:wr.cell? ⟨b,off+j*9,none⟩=_:=hcell _ _ (hcc 0 _ rfl)
    have g1:=hcell _ _ (hcc 1 _ rfl)
    have g2:=hcell _ _ (hcc 2 _ rfl)
    have g3:=hcell _ _ (hcc 3 _ rfl)
    have g4:=hcell _ _ (hcc 4 _ rfl)
    have g5:=hcell _ _ (hcc 5 _ rfl)
    have g6:=hcell _ _ (hcc 6 _ rfl)
    have g7:=hcell _ _ (hcc 7 _ rfl)
    have g8:=hcell _ _ (hcc 8 _ rfl)
    have hba:=bA wr (ze #[U zd kd,U zd vr,U zd ot,U zd ek,U zd en,O xa xl xc,O aa al ac,O ta tl tc,O ea el ec] 130)
    have rowS:=Ae.new [U zd kd,U zd vr,U zd ot,U zd ek,U zd en,O xa xl xc,O aa al ac,O ta tl tc,O ea el ec] 130 wr
    have hF1:=hF.trans (FrW.of_below HI.o.xok hba)
    have hI1:=HI.o.over _ _ _ hI hba
    have xsS:¬ X (wr.alloc (ze #[U zd kd,U zd vr,U zd ot,U zd ek,U zd en,O xa xl xc,O aa al ac,O ta tl tc,O ea el ec] 130)) wr.heap.size:=fun h=>by have:=HI.o.xlt _ _ hI _ (HI.o.xok.below _ _ hba _ h);omega
    have hP1:=HP0.o.keep HI.o.n1 hF1
    have K1:=Aa (hdo.o (Q j).2 _ at_ k _ d _ p funcs hI1 HRS.o hfn hok1 hP1 ha0 (by omega) (by rw [hat,HQ.o];exact Fm hPm.o (Ib hPm.o k) _ (a,st) HPM.o))
    have row0:=hF1.row HR0.o HX0.o
    have row1:=hF1.row HR1.o HX1.o
    have x0:¬ X (wr.alloc (ze #[U zd kd,U zd vr,U zd ot,U zd ek,U zd en,O xa xl xc,O aa al ac,O ta tl tc,O ea el ec] 130)) W.heap.size:=fun h=>HX0.o (hF1.mov _ (bL (HR0.o 0 _ rfl)) h)
    have x1:¬ X (wr.alloc (ze #[U zd kd,U zd vr,U zd ot,U zd ek,U zd en,O xa xl xc,O aa al ac,O ta tl tc,O ea el ec] 130)) (W.heap.size+1):=fun h=>HX1.o (hF1.mov _ (bL (HR1.o 0 _ rfl)) h)
    have HQS:Hx (Q (j+1)=(at_+(1+A4 k (Ar d)+A4 k (Av d):Nat),goS c.n K lev step k (Av d) (at_+1+(A4 k (Ar d):Nat)) (AX c.n (lev (step at_ d p (Q j).2)) p (AC K (AR d))) (goS c.n K lev step k (Ar d) (at_+1) (AX c.n (lev (step at_ d p (Q j).2)) p (AC K (AR d))) (step at_ d p (Q j).2)))):=by
     have e1:Q (j+1)=Ea c.n K lev step (CM (k+1)) (A4 k) (goS c.n K lev step k) p (Q j) l[j]:=by
      rw [HQ.o]
      dsimp only
      rw [List.take_succ_eq_append_getElem hlt,List.foldl_append]
      rfl
     rw [e1,<-HD.o]
     unfold Ea
     rw [<-HAT.o]
     rfl
    have HP1s:Hx (Pm (at_+1) (step at_ d p (Q j).2)):=hPm.o.step _ _ _ _ (by rw [hat,HQ.o];exact Fm hPm.o (Ib hPm.o k) _ (a,st) HPM.o)
    obtain ⟨st1,hst1⟩:=nm (step at_ d p (Q j).2)
    rw [<-hst1] at K1 HQS HP1s
    have HOK1:=Aa hok1
    have HOKT:=Aa hokT
    have HOKE:=Aa hokE
    have HXX:=Aa hX
    have HT:=Aa hT
    have HE:=Aa hE
    have HP1:=Aa hP1
    have HF1:=Aa hF1
    have HX0':=Aa x0
    have HX1':=Aa x1
    have HXS:=Aa xsS
    have HRW0:=Aa row0
    have HRW1:=Aa row1
    have HRWS:=Aa rowS
    have hlt2:(j:Int) < (l.length:Int):=by omega
    clear hst1 hok1 hokT hokE hX hT hE hP1 hF1 x0 x1 xsS row0 row1 rowS hI1 hI hF hba hcell hcs hcc hl9 hkd hvr hot hal htl hel hd hat hatv hc1 h50' hcl HAT HOK HRS hrs
    obtain ⟨t0,t1,t2,t3,t4,t5,t6,t7,t8,t9⟩:=B9 HRW0.o
    obtain ⟨u0,u1⟩:=rc2 HRW1.o
    obtain ⟨s0,s1,s2,s3,s4,s5,s6,s7,s8⟩:=rc9 HRWS.o
    go_wp2_with fail
    refine (K1.o).mono ?_
    rintro e W2 ⟨rfl,hI2,hF2⟩
    have HI2:=Aa hI2
    have hB2:=HI.o.below _ _ hI2
    have hF12:=HF1.o.trans hF2
    have lt0:=bL (HRW0.o 0 _ rfl)
    have lt1:=bL (HRW1.o 0 _ rfl)
    have ltS:=bL (HRWS.o 0 _ rfl)
    have row0:=hF2.row HRW0.o HX0'.o
    have row1:=hF2.row HRW1.o HX1'.o
    have rowS:=hF2.row HRWS.o HXS.o
    have x0:¬ X W2 W.heap.size:=fun h=>HX0'.o (hF2.mov _ lt0 h)
    have x1:¬ X W2 (W.heap.size+1):=fun h=>HX1'.o (hF2.mov _ lt1 h)
    have xS:¬ X W2 wr.heap.size:=fun h=>HXS.o (hF2.mov _ ltS h)
    have hP2:=HP1.o.keep HI.o.n1 hF2
    have hlv:=HI.o.levs _ _ hI2
    have KW:=Aa (DE c HI.o.n1 HI.o.n6 gs (lev st1) X HI.o.xok _ p K [U zd ek,U zd en,O xa xl xc] (AR d) W2 (Af HI.o.gr hB2) HI.o.chk hlv.1 hP2 (by rw [hlv.2];exact HI.o.nv16) (HI.o.xlt _ _ hI2) (HXX.o.over hB2) (by rw [hlv.2];exact BB HOK1.o))
    have HX02:=Aa x0
    have HX12:=Aa x1
    have HXS2:=Aa xS
    have HRW02:=Aa row0
    have HRW12:=Aa row1
    have HRWS2:=Aa rowS
    have HF12:=Aa hF12
    clear K1 hI2 hF2 hF12 lt0 lt1 ltS row0 row1 rowS x0 x1 xS hP2 hlv hB2 t0 t1 t2 t3 t4 t5 t6 t7 t8 t9 u0 u1 s0 s1 s2 s3 s4 s5 s6 s7 s8 g0 g1 g2 g3 g4 g5 g6 g7 g8 HRW0 HRW1 HRWS HX0' HX1' HXS HP1 HF1
    obtain ⟨t0,t1,t2,t3,t4,t5,t6,t7,t8,t9⟩:=B9 HRW02.o
    obtain ⟨u0,u1⟩:=rc2 HRW12.o
    obtain ⟨s0,s1,s2,s3,s4,s5,s6,s7,s8⟩:=rc9 HRWS2.o
    go_wp2_with fail
    refine (KW.o).mono ?_
    rintro e W3 ⟨⟨o1,o2,o3,o4,o5,o6,rfl,hL3⟩,hb3⟩
    have hb34:=bA W3 (ze #[O o1 o2 o3,O o4 o5 o6] 50)
    have hb24:=Ac hb3 hb34
    have hI4:=HI.o.over _ _ _ HI2.o hb24
    have hI3:=HI.o.over _ _ _ HI2.o hb3
    have hL4:=hL3.over HI.o.xok hb34
    have rowI:=Ae.new [O o1 o2 o3,O o4 o5 o6] 50 W3
    have xI:¬ X (W3.alloc (ze #[O o1 o2 o3,O o4 o5 o6] 50)) W3.heap.size:=fun h=>by have:=HI.o.xlt _ _ hI3 _ (HI.o.xok.below _ _ hb34 _ h);omega
    have row0:=HRW02.o.over hb24
    have rowS:=HRWS2.o.over hb24
    have x0:¬ X (W3.alloc (ze #[O o1 o2 o3,O o4 o5 o6] 50)) W.heap.size:=fun h=>HX02.o (HI.o.xok.below _ _ hb24 _ h)
    have xS:¬ X (W3.alloc (ze #[O o1 o2 o3,O o4 o5 o6] 50)) wr.heap.size:=fun h=>HXS2.o (HI.o.xok.below _ _ hb24 _ h)
    have hF14:=HF12.o.trans (FrW.of_below HI.o.xok hb24)
    have KT:=Aa (IH.o (O ta tl tc) (Ar d) (at_+1) _ _ st1 _ HT.o HOKT.o hI4 hL4 (by omega) (by omega) HP1s.o)
    have HRW04:=Aa row0
    have HRWS4:=Aa rowS
    have HRWI4:=Aa rowI
    have HX04:=Aa x0
    have HXS4:=Aa xS
    have HXI4:=Aa xI
    have HL4:=Aa hL4
    have HF14:=Aa hF14
    clear KW hL3 hb3 hb34 hb24 hI4 hI3 hL4 rowI xI row0 rowS x0 xS hF14 t0 t1 t2 t3 t4 t5 t6 t7 t8 t9 u0 u1 s0 s1 s2 s3 s4 s5 s6 s7 s8 HRW02 HRW12 HRWS2 HX02 HX12 HXS2 HI2 HF12
    obtain ⟨t0,t1,t2,t3,t4,t5,t6,t7,t8,t9⟩:=B9 HRW04.o
    obtain ⟨u0,u1⟩:=rc2 HRWI4.o
    obtain ⟨s0,s1,s2,s3,s4,s5,s6,s7,s8⟩:=rc9 HRWS4.o
    go_wp2_with fail
    refine (KT.o).mono ?_
    rintro e W5 ⟨rfl,hI5,hF5⟩
    have row0:=hF5.row HRW04.o HX04.o
    have rowS:=hF5.row HRWS4.o HXS4.o
    have rowI:=hF5.row HRWI4.o HXI4.o
    have hL5:=HL4.o.keep HI.o.n1 hF5
    have KE:=Aa (IH.o (O ea el ec) (Av d) (at_+1+(A4 k (Ar d):Nat)) _ _ _ _ HE.o HOKE.o hI5 hL5 (by omega) (by omega) (Ib hPm.o k _ _ _ _ HP1s.o))
    have HF15:=Aa (HF14.o.trans hF5)
    have hw1:0<=at_+1+(A4 k (Ar d):Nat):=by omega
    have hw2:at_+1+(A4 k (Ar d):Nat)<=50:=by omega
    clear KT hI5 hF5 hL5 t0 t1 t2 t3 t4 t5 t6 t7 t8 t9 u0 u1 s0 s1 s2 s3 s4 s5 s6 s7 s8 HRW04 HRWS4 HRWI4 HX04 HXS4 HXI4 HL4 HF14
    obtain ⟨t0,t1,t2,t3,t4,t5,t6,t7,t8,t9⟩:=B9 row0
    obtain ⟨u0,u1⟩:=rc2 rowI
    obtain ⟨s0,s1,s2,s3,s4,s5,s6,s7,s8⟩:=rc9 rowS
    clear row0 rowS rowI
    go_wp2_with fail
    refine (KE.o).mono ?_
    rintro e W6 ⟨rfl,hI6,hF6⟩
    have HI6:=Aa hI6
    have HF6:=Aa (HF15.o.trans hF6)
    clear KE hI6 hF6 t0 t1 t2 t3 t4 t5 t6 t7 t8 t9 u0 u1 s0 s1 s2 s3 s4 s5 s6 s7 s8 HF15
    go_wp2_with fail
    refine ⟨⟨j+1,by omega,by go_num,?_,by rw [HQS.o];exact HI6.o,HF6.o⟩,by simp [intOf];omega⟩
    rw [HQS.o]
    congr 1
    push_cast
    omega
   ·have hat2:(Q j).1=a+(A4 (k+1) l:Nat):=by rw [HQ1.o j,List.take_of_length_le (by omega)]
    have hst:(Q j).2=goS c.n K lev step (k+1) l a p st:=by rw [HQ.o];dsimp only;rw [List.take_of_length_le (by omega)];rfl
    have HE2:=Aa (show Inv (goS c.n K lev step (k+1) l a p st) wr by rw [<-hst];exact hI)
    have HF2:=Aa (HF0.o.trans hF)
    have hav:at_=a+(A4 (k+1) l:Nat):=hat.trans hat2
    have HAV:=Aa hav
    clear hat2 hst hI hF hav hat hatv
    go_wp2_with fail
    go_ret
    exact ⟨by rw [HAV.o];rfl,HE2.o,HF2.o⟩
end
theorem Mn (z:Int) (hz:z=1\/z=2\/z=3\/z=4\/z=5\/z=6) (w:World):Calls Tryz.prog 240 #[U .u64 1,U .u64 z] w fun e w'=>e=zk (zm #[U .u64 0,U .u64 z])/\Ov w w':=by
 rcases hz with rfl | rfl | rfl | rfl | rfl | rfl
 all_goals
  go_enter Tryz.func240,Tryz.ntmps240
  go_wp2_with fail
  exact bodyPost_ret (v:=_) (by simp [results,Tryz.results240,go_sem];decide) rfl ⟨rfl,Below.refl _ _⟩
theorem ER (z:Int) (hz:z=1\/z=2\/z=3\/z=4\/z=5\/z=6) (w:World):Calls Tryz.prog 212 #[U .u64 1,U .u64 z] w fun e w'=>e=zk (zm #[U .u64 0,U .u64 z])/\Ov w w':=by
 have K:=Aa (Mn z hz)
 rcases hz with rfl | rfl | rfl | rfl | rfl | rfl
 all_goals
  go_enter Tryz.func212,Tryz.ntmps212
  go_wp2_with fail
  refine (K.o _).mono ?_
  rintro e w1 ⟨rfl,hb1⟩
  go_wp2_with fail
  exact bodyPost_ret (v:=_) (by simp [results,Tryz.results212,go_sem]) rfl ⟨rfl,hb1⟩
theorem sz4:(Tryz.prog.info? 4).map (·.size)=some 1:=by kernel_rfl
theorem DP (W:World) (b j m k:Nat) (l l' cs:List Value) (z:Int) (hrow:W.heap[b]? = some (.cells l.toArray 4 (0,0))) (hn:cs.length=Nat.min j m:=by decide) (hp:l.take cs.length=cs:=by rfl) (hf:j+cs.length<=l.length:=by decide) (h1:∀ v∈cs,v=zg true:=by simp) (hz:goInt cs.length=U zd z:=by rfl) (hl:l.take j++cs++l.drop (j+cs.length)=l':=by rfl) :
  (Builtin.copy_ #[48,48] 3 #[O (some ⟨b,j,none⟩) m m,O (some ⟨b,0,none⟩) j k]).run Tryz.prog W=.ok (U zd z) (W.setRow b l'.toArray):=by
 have h:=run_copy_row (P:=Tryz.prog) W 48 48 3 4 b j m m ⟨b,0,none⟩ j k l.toArray 4 cs Tryz.underlying48 sz4 hrow hn (fun i v hv=>?_) (by simpa using hf) (fun v hv=>by rw [h1 v hv];rfl)
 ·rw [hz] at h
  rw [h,<-hl]
 ·have hb:=Lib.cell_of_heap hrow i
  rw [<-hp,List.getElem?_take] at hv
  split at hv
  ·have e:(⟨b,0,none⟩:Addr).add i=⟨b,i,none⟩:=by simp [Addr.add];omega
   rw [e,hb]
   simpa using hv
  ·simp at hv
theorem JS {W:World} {g:Nat} (h:W.cell? ⟨g,0,none⟩=some (zg true)):∀ (j:Nat) (v:Value),([zg true]:List Value)[j]? = some v->W.cell? ((⟨g,0,none⟩:Addr).add j)=some v:=fun j v hj=>by
 rcases j with _ | j
 ·simp at hj;subst hj;simpa [Addr.add] using h
 ·simp at hj
theorem OT (g:Nat) (w:World) (hlt:g < w.heap.size) (hg:w.cell? ⟨g,0,none⟩=some (zg true)):Calls Tryz.prog 165 #[O (some ⟨g,0,none⟩) 1 1,U zd 1] w fun e w'=>∃ v,e=zk v/\w'.ownsRow w.heap.size 4 1 v 1 [zg true]/\Ov w w':=by
 have K:=Aa (ER 1 (by decide))
 go_enter Tryz.func165,Tryz.ntmps165
 go_wp2_with fail
 refine (K.o _).mono ?_
 rintro e w1 ⟨rfl,hb1⟩
 have hs1:=hb1.size
 have hmk:(Instr.makeSlice 48 (U zd 1) (U zd 1)).run Tryz.prog w1=.ok (O (some ⟨w1.heap.size,0,none⟩) 1 1) (w1.alloc (ze #[zg false] 4)):=Dp 1 (by decide) w1
 have hbz:=bA w1 (ze #[zg false] 4)
 have hcp:=JS (Ab hbz _ _ (Ab hb1 _ _ hg))
 clear hg
 go_wp2_with (refine wpList_copy_splice rfl (.tmp 31) (.tmp 32) 48 48 rfl 4 Tryz.underlying48 sz4 (some ⟨w1.heap.size,0,none⟩) (some ⟨g,0,none⟩) 1 1 1 1 rfl rfl w1.heap.size 0 [zg false] 4 (heap_alloc_new w1 _) [zg true] (by decide) (fun _=>⟨rfl,_,rfl,hcp⟩) (by simp) (by simp [Value.oneCell']) w1.heap.size w1 hbz (Nat.le_refl _) ?_)
 intro w2 hrow hb2
 have hrow:=hrow.out
 simp [splice] at hrow
 clear hbz hmk hcp
 go_wp2_with fail
 go_loopw [8] (fun i wq=>((i=U zd 1/\wq.heap[w1.heap.size]? = some (ze #[zg true] 4 (0,0))))/\Ov w1 wq) (fun i _=>1 - (intOf i).toNat)
 case atStart=>exact ⟨⟨rfl,hrow⟩,hb2⟩
 case round=>
  clear hrow hb2
  obtain ⟨hh,hB⟩:=hrel
  rcases hh with ⟨rfl,hrow⟩
  ·have HROW:=Aa hrow
   clear hrow
   go_wp2_with fail
   exact bodyPost_ret (v:=O (some ⟨w1.heap.size,0,none⟩) 1 1) (by simp [results,Tryz.results165,go_sem]) rfl ⟨_,rfl,⟨rfl,Or.inr ⟨w1.heap.size,1,_,rfl,hs1,HROW.o,Nat.le_refl _,by decide,rfl,rfl⟩⟩,hb1.trans (hB.mono hs1)⟩
theorem OS (g:Nat) (w:World) (hlt:g < w.heap.size) (hg:w.cell? ⟨g,0,none⟩=some (zg true)):Calls Tryz.prog 165 #[O (some ⟨g,0,none⟩) 1 1,U zd 2] w fun e w'=>∃ v,e=zk v/\w'.ownsRow w.heap.size 4 1 v 2 [zg true,zg true]/\Ov w w':=by
 have K:=Aa (ER 2 (by decide))
 go_enter Tryz.func165,Tryz.ntmps165
 go_wp2_with fail
 refine (K.o _).mono ?_
 rintro e w1 ⟨rfl,hb1⟩
 have hs1:=hb1.size
 have hmk:(Instr.makeSlice 48 (U zd 2) (U zd 2)).run Tryz.prog w1=.ok (O (some ⟨w1.heap.size,0,none⟩) 2 2) (w1.alloc (ze #[zg false,zg false] 4)):=Dp 2 (by decide) w1
 have hbz:=bA w1 (ze #[zg false,zg false] 4)
 have hcp:=JS (Ab hbz _ _ (Ab hb1 _ _ hg))
 clear hg
 go_wp2_with (refine wpList_copy_splice rfl (.tmp 31) (.tmp 32) 48 48 rfl 4 Tryz.underlying48 sz4 (some ⟨w1.heap.size,0,none⟩) (some ⟨g,0,none⟩) 2 2 1 1 rfl rfl w1.heap.size 0 [zg false,zg false] 4 (heap_alloc_new w1 _) [zg true] (by decide) (fun _=>⟨rfl,_,rfl,hcp⟩) (by simp) (by simp [Value.oneCell']) w1.heap.size w1 hbz (Nat.le_refl _) ?_)
 intro w2 hrow hb2
 have hrow:=hrow.out
 simp [splice] at hrow
 clear hbz hmk hcp
 go_wp2_with fail
 go_loopw [8] (fun i wq=>((i=U zd 1/\wq.heap[w1.heap.size]? = some (ze #[zg true,zg false] 4 (0,0)))\/(i=U zd 2/\wq.heap[w1.heap.size]? = some (ze #[zg true,zg true] 4 (0,0))))/\Ov w1 wq) (fun i _=>2 - (intOf i).toNat)
 case atStart=>exact ⟨Or.inl ⟨rfl,hrow⟩,hb2⟩
 case round=>
  clear hrow hb2
  obtain ⟨hh,hB⟩:=hrel
  rcases hh with ⟨rfl,hrow⟩ | ⟨rfl,hrow⟩
  ·have hcopy:=DP wr.drew w1.heap.size 1 1 2 [zg true,zg false] [zg true,zg true] [zg true] 1 hrow
   have HROW:=Aa hrow
   clear hrow
   go_wp2_with fail
   go_region_with fail
   simp [Act.put]
   go_wp2_with fail
   refine ⟨⟨Or.inr (⟨by first | rfl | go_num,setRow_heap _ _ _ _ _ _ HROW.o⟩),below_setRow hB.drew (Nat.le_refl _) _⟩,by simp [intOf];decide⟩
  ·have HROW:=Aa hrow
   clear hrow
   go_wp2_with fail
   exact bodyPost_ret (v:=O (some ⟨w1.heap.size,0,none⟩) 2 2) (by simp [results,Tryz.results165,go_sem]) rfl ⟨_,rfl,⟨rfl,Or.inr ⟨w1.heap.size,2,_,rfl,hs1,HROW.o,Nat.le_refl _,by decide,rfl,rfl⟩⟩,hb1.trans (hB.mono hs1)⟩
theorem OQ (g:Nat) (w:World) (hlt:g < w.heap.size) (hg:w.cell? ⟨g,0,none⟩=some (zg true)):Calls Tryz.prog 165 #[O (some ⟨g,0,none⟩) 1 1,U zd 3] w fun e w'=>∃ v,e=zk v/\w'.ownsRow w.heap.size 4 1 v 3 [zg true,zg true,zg true]/\Ov w w':=by
 have K:=Aa (ER 3 (by decide))
 go_enter Tryz.func165,Tryz.ntmps165
 go_wp2_with fail
 refine (K.o _).mono ?_
 rintro e w1 ⟨rfl,hb1⟩
 have hs1:=hb1.size
 have hmk:(Instr.makeSlice 48 (U zd 3) (U zd 3)).run Tryz.prog w1=.ok (O (some ⟨w1.heap.size,0,none⟩) 3 3) (w1.alloc (ze #[zg false,zg false,zg false] 4)):=Dp 3 (by decide) w1
 have hbz:=bA w1 (ze #[zg false,zg false,zg false] 4)
 have hcp:=JS (Ab hbz _ _ (Ab hb1 _ _ hg))
 clear hg
 go_wp2_with (refine wpList_copy_splice rfl (.tmp 31) (.tmp 32) 48 48 rfl 4 Tryz.underlying48 sz4 (some ⟨w1.heap.size,0,none⟩) (some ⟨g,0,none⟩) 3 3 1 1 rfl rfl w1.heap.size 0 [zg false,zg false,zg false] 4 (heap_alloc_new w1 _) [zg true] (by decide) (fun _=>⟨rfl,_,rfl,hcp⟩) (by simp) (by simp [Value.oneCell']) w1.heap.size w1 hbz (Nat.le_refl _) ?_)
 intro w2 hrow hb2
 have hrow:=hrow.out
 simp [splice] at hrow
 clear hbz hmk hcp
 go_wp2_with fail
 go_loopw [8] (fun i wq=>((i=U zd 1/\wq.heap[w1.heap.size]? = some (ze #[zg true,zg false,zg false] 4 (0,0)))\/(i=U zd 2/\wq.heap[w1.heap.size]? = some (ze #[zg true,zg true,zg false] 4 (0,0)))\/(i=U zd 3/\wq.heap[w1.heap.size]? = some (ze #[zg true,zg true,zg true] 4 (0,0))))/\Ov w1 wq) (fun i _=>3 - (intOf i).toNat)
 case atStart=>exact ⟨Or.inl ⟨rfl,hrow⟩,hb2⟩
 case round=>
  clear hrow hb2
  obtain ⟨hh,hB⟩:=hrel
  rcases hh with ⟨rfl,hrow⟩ | ⟨rfl,hrow⟩ | ⟨rfl,hrow⟩
  ·have hcopy:=DP wr.drew w1.heap.size 1 2 3 [zg true,zg false,zg false] [zg true,zg true,zg false] [zg true] 1 hrow
   have HROW:=Aa hrow
   clear hrow
   go_wp2_with fail
   go_region_with fail
   simp [Act.put]
   go_wp2_with fail
   refine ⟨⟨Or.inr (Or.inl (⟨by first | rfl | go_num,setRow_heap _ _ _ _ _ _ HROW.o⟩)),below_setRow hB.drew (Nat.le_refl _) _⟩,by simp [intOf];decide⟩
  ·have hcopy:=DP wr.drew w1.heap.size 2 1 3 [zg true,zg true,zg false] [zg true,zg true,zg true] [zg true] 1 hrow
   have HROW:=Aa hrow
   clear hrow
   go_wp2_with fail
   go_region_with fail
   simp [Act.put]
   go_wp2_with fail
   refine ⟨⟨Or.inr (Or.inr (⟨by first | rfl | go_num,setRow_heap _ _ _ _ _ _ HROW.o⟩)),below_setRow hB.drew (Nat.le_refl _) _⟩,by simp [intOf];decide⟩
  ·have HROW:=Aa hrow
   clear hrow
   go_wp2_with fail
   exact bodyPost_ret (v:=O (some ⟨w1.heap.size,0,none⟩) 3 3) (by simp [results,Tryz.results165,go_sem]) rfl ⟨_,rfl,⟨rfl,Or.inr ⟨w1.heap.size,3,_,rfl,hs1,HROW.o,Nat.le_refl _,by decide,rfl,rfl⟩⟩,hb1.trans (hB.mono hs1)⟩
theorem OP (g:Nat) (w:World) (hlt:g < w.heap.size) (hg:w.cell? ⟨g,0,none⟩=some (zg true)):Calls Tryz.prog 165 #[O (some ⟨g,0,none⟩) 1 1,U zd 4] w fun e w'=>∃ v,e=zk v/\w'.ownsRow w.heap.size 4 1 v 4 [zg true,zg true,zg true,zg true]/\Ov w w':=by
 have K:=Aa (ER 4 (by decide))
 go_enter Tryz.func165,Tryz.ntmps165
 go_wp2_with fail
 refine (K.o _).mono ?_
 rintro e w1 ⟨rfl,hb1⟩
 have hs1:=hb1.size
 have hmk:(Instr.makeSlice 48 (U zd 4) (U zd 4)).run Tryz.prog w1=.ok (O (some ⟨w1.heap.size,0,none⟩) 4 4) (w1.alloc (ze #[zg false,zg false,zg false,zg false] 4)):=Dp 4 (by decide) w1
 have hbz:=bA w1 (ze #[zg false,zg false,zg false,zg false] 4)
 have hcp:=JS (Ab hbz _ _ (Ab hb1 _ _ hg))
 clear hg
 go_wp2_with (refine wpList_copy_splice rfl (.tmp 31) (.tmp 32) 48 48 rfl 4 Tryz.underlying48 sz4 (some ⟨w1.heap.size,0,none⟩) (some ⟨g,0,none⟩) 4 4 1 1 rfl rfl w1.heap.size 0 [zg false,zg false,zg false,zg false] 4 (heap_alloc_new w1 _) [zg true] (by decide) (fun _=>⟨rfl,_,rfl,hcp⟩) (by simp) (by simp [Value.oneCell']) w1.heap.size w1 hbz (Nat.le_refl _) ?_)
 intro w2 hrow hb2
 have hrow:=hrow.out
 simp [splice] at hrow
 clear hbz hmk hcp
 go_wp2_with fail
 go_loopw [8] (fun i wq=>((i=U zd 1/\wq.heap[w1.heap.size]? = some (ze #[zg true,zg false,zg false,zg false] 4 (0,0)))\/(i=U zd 2/\wq.heap[w1.heap.size]? = some (ze #[zg true,zg true,zg false,zg false] 4 (0,0)))\/(i=U zd 4/\wq.heap[w1.heap.size]? = some (ze #[zg true,zg true,zg true,zg true] 4 (0,0))))/\Ov w1 wq) (fun i _=>4 - (intOf i).toNat)
 case atStart=>exact ⟨Or.inl ⟨rfl,hrow⟩,hb2⟩
 case round=>
  clear hrow hb2
  obtain ⟨hh,hB⟩:=hrel
  rcases hh with ⟨rfl,hrow⟩ | ⟨rfl,hrow⟩ | ⟨rfl,hrow⟩
  ·have hcopy:=DP wr.drew w1.heap.size 1 3 4 [zg true,zg false,zg false,zg false] [zg true,zg true,zg false,zg false] [zg true] 1 hrow
   have HROW:=Aa hrow
   clear hrow
   go_wp2_with fail
   go_region_with fail
   simp [Act.put]
   go_wp2_with fail
   refine ⟨⟨Or.inr (Or.inl (⟨by first | rfl | go_num,setRow_heap _ _ _ _ _ _ HROW.o⟩)),below_setRow hB.drew (Nat.le_refl _) _⟩,by simp [intOf];decide⟩
  ·have hcopy:=DP wr.drew w1.heap.size 2 2 4 [zg true,zg true,zg false,zg false] [zg true,zg true,zg true,zg true] [zg true,zg true] 2 hrow
   have HROW:=Aa hrow
   clear hrow
   go_wp2_with fail
   go_region_with fail
   simp [Act.put]
   go_wp2_with fail
   refine ⟨⟨Or.inr (Or.inr (⟨by first | rfl | go_num,setRow_heap _ _ _ _ _ _ HROW.o⟩)),below_setRow hB.drew (Nat.le_refl _) _⟩,by simp [intOf];decide⟩
  ·have HROW:=Aa hrow
   clear hrow
   go_wp2_with fail
   exact bodyPost_ret (v:=O (some ⟨w1.heap.size,0,none⟩) 4 4) (by simp [results,Tryz.results165,go_sem]) rfl ⟨_,rfl,⟨rfl,Or.inr ⟨w1.heap.size,4,_,rfl,hs1,HROW.o,Nat.le_refl _,by decide,rfl,rfl⟩⟩,hb1.trans (hB.mono hs1)⟩
theorem OO (g:Nat) (w:World) (hlt:g < w.heap.size) (hg:w.cell? ⟨g,0,none⟩=some (zg true)):Calls Tryz.prog 165 #[O (some ⟨g,0,none⟩) 1 1,U zd 5] w fun e w'=>∃ v,e=zk v/\w'.ownsRow w.heap.size 4 1 v 5 [zg true,zg true,zg true,zg true,zg true]/\Ov w w':=by
 have K:=Aa (ER 5 (by decide))
 go_enter Tryz.func165,Tryz.ntmps165
 go_wp2_with fail
 refine (K.o _).mono ?_
 rintro e w1 ⟨rfl,hb1⟩
 have hs1:=hb1.size
 have hmk:(Instr.makeSlice 48 (U zd 5) (U zd 5)).run Tryz.prog w1=.ok (O (some ⟨w1.heap.size,0,none⟩) 5 5) (w1.alloc (ze #[zg false,zg false,zg false,zg false,zg false] 4)):=Dp 5 (by decide) w1
 have hbz:=bA w1 (ze #[zg false,zg false,zg false,zg false,zg false] 4)
 have hcp:=JS (Ab hbz _ _ (Ab hb1 _ _ hg))
 clear hg
 go_wp2_with (refine wpList_copy_splice rfl (.tmp 31) (.tmp 32) 48 48 rfl 4 Tryz.underlying48 sz4 (some ⟨w1.heap.size,0,none⟩) (some ⟨g,0,none⟩) 5 5 1 1 rfl rfl w1.heap.size 0 [zg false,zg false,zg false,zg false,zg false] 4 (heap_alloc_new w1 _) [zg true] (by decide) (fun _=>⟨rfl,_,rfl,hcp⟩) (by simp) (by simp [Value.oneCell']) w1.heap.size w1 hbz (Nat.le_refl _) ?_)
 intro w2 hrow hb2
 have hrow:=hrow.out
 simp [splice] at hrow
 clear hbz hmk hcp
 go_wp2_with fail
 go_loopw [8] (fun i wq=>((i=U zd 1/\wq.heap[w1.heap.size]? = some (ze #[zg true,zg false,zg false,zg false,zg false] 4 (0,0)))\/(i=U zd 2/\wq.heap[w1.heap.size]? = some (ze #[zg true,zg true,zg false,zg false,zg false] 4 (0,0)))\/(i=U zd 4/\wq.heap[w1.heap.size]? = some (ze #[zg true,zg true,zg true,zg true,zg false] 4 (0,0)))\/(i=U zd 5/\wq.heap[w1.heap.size]? = some (ze #[zg true,zg true,zg true,zg true,zg true] 4 (0,0))))/\Ov w1 wq) (fun i _=>5 - (intOf i).toNat)
 case atStart=>exact ⟨Or.inl ⟨rfl,hrow⟩,hb2⟩
 case round=>
  clear hrow hb2
  obtain ⟨hh,hB⟩:=hrel
  rcases hh with ⟨rfl,hrow⟩ | ⟨rfl,hrow⟩ | ⟨rfl,hrow⟩ | ⟨rfl,hrow⟩
  ·have hcopy:=DP wr.drew w1.heap.size 1 4 5 [zg true,zg false,zg false,zg false,zg false] [zg true,zg true,zg false,zg false,zg false] [zg true] 1 hrow
   have HROW:=Aa hrow
   clear hrow
   go_wp2_with fail
   go_region_with fail
   simp [Act.put]
   go_wp2_with fail
   refine ⟨⟨Or.inr (Or.inl (⟨by first | rfl | go_num,setRow_heap _ _ _ _ _ _ HROW.o⟩)),below_setRow hB.drew (Nat.le_refl _) _⟩,by simp [intOf];decide⟩
  ·have hcopy:=DP wr.drew w1.heap.size 2 3 5 [zg true,zg true,zg false,zg false,zg false] [zg true,zg true,zg true,zg true,zg false] [zg true,zg true] 2 hrow
   have HROW:=Aa hrow
   clear hrow
   go_wp2_with fail
   go_region_with fail
   simp [Act.put]
   go_wp2_with fail
   refine ⟨⟨Or.inr (Or.inr (Or.inl (⟨by first | rfl | go_num,setRow_heap _ _ _ _ _ _ HROW.o⟩))),below_setRow hB.drew (Nat.le_refl _) _⟩,by simp [intOf];decide⟩
  ·have hcopy:=DP wr.drew w1.heap.size 4 1 5 [zg true,zg true,zg true,zg true,zg false] [zg true,zg true,zg true,zg true,zg true] [zg true] 1 hrow
   have HROW:=Aa hrow
   clear hrow
   go_wp2_with fail
   go_region_with fail
   simp [Act.put]
   go_wp2_with fail
   refine ⟨⟨Or.inr (Or.inr (Or.inr (⟨by first | rfl | go_num,setRow_heap _ _ _ _ _ _ HROW.o⟩))),below_setRow hB.drew (Nat.le_refl _) _⟩,by simp [intOf];decide⟩
  ·have HROW:=Aa hrow
   clear hrow
   go_wp2_with fail
   exact bodyPost_ret (v:=O (some ⟨w1.heap.size,0,none⟩) 5 5) (by simp [results,Tryz.results165,go_sem]) rfl ⟨_,rfl,⟨rfl,Or.inr ⟨w1.heap.size,5,_,rfl,hs1,HROW.o,Nat.le_refl _,by decide,rfl,rfl⟩⟩,hb1.trans (hB.mono hs1)⟩
theorem OM (g:Nat) (w:World) (hlt:g < w.heap.size) (hg:w.cell? ⟨g,0,none⟩=some (zg true)):Calls Tryz.prog 165 #[O (some ⟨g,0,none⟩) 1 1,U zd 6] w fun e w'=>∃ v,e=zk v/\w'.ownsRow w.heap.size 4 1 v 6 [zg true,zg true,zg true,zg true,zg true,zg true]/\Ov w w':=by
 have K:=Aa (ER 6 (by decide))
 go_enter Tryz.func165,Tryz.ntmps165
 go_wp2_with fail
 refine (K.o _).mono ?_
 rintro e w1 ⟨rfl,hb1⟩
 have hs1:=hb1.size
 have hmk:(Instr.makeSlice 48 (U zd 6) (U zd 6)).run Tryz.prog w1=.ok (O (some ⟨w1.heap.size,0,none⟩) 6 6) (w1.alloc (ze #[zg false,zg false,zg false,zg false,zg false,zg false] 4)):=Dp 6 (by decide) w1
 have hbz:=bA w1 (ze #[zg false,zg false,zg false,zg false,zg false,zg false] 4)
 have hcp:=JS (Ab hbz _ _ (Ab hb1 _ _ hg))
 clear hg
 go_wp2_with (refine wpList_copy_splice rfl (.tmp 31) (.tmp 32) 48 48 rfl 4 Tryz.underlying48 sz4 (some ⟨w1.heap.size,0,none⟩) (some ⟨g,0,none⟩) 6 6 1 1 rfl rfl w1.heap.size 0 [zg false,zg false,zg false,zg false,zg false,zg false] 4 (heap_alloc_new w1 _) [zg true] (by decide) (fun _=>⟨rfl,_,rfl,hcp⟩) (by simp) (by simp [Value.oneCell']) w1.heap.size w1 hbz (Nat.le_refl _) ?_)
 intro w2 hrow hb2
 have hrow:=hrow.out
 simp [splice] at hrow
 clear hbz hmk hcp
 go_wp2_with fail
 go_loopw [8] (fun i wq=>((i=U zd 1/\wq.heap[w1.heap.size]? = some (ze #[zg true,zg false,zg false,zg false,zg false,zg false] 4 (0,0)))\/(i=U zd 2/\wq.heap[w1.heap.size]? = some (ze #[zg true,zg true,zg false,zg false,zg false,zg false] 4 (0,0)))\/(i=U zd 4/\wq.heap[w1.heap.size]? = some (ze #[zg true,zg true,zg true,zg true,zg false,zg false] 4 (0,0)))\/(i=U zd 6/\wq.heap[w1.heap.size]? = some (ze #[zg true,zg true,zg true,zg true,zg true,zg true] 4 (0,0))))/\Ov w1 wq) (fun i _=>6 - (intOf i).toNat)
 case atStart=>exact ⟨Or.inl ⟨rfl,hrow⟩,hb2⟩
 case round=>
  clear hrow hb2
  obtain ⟨hh,hB⟩:=hrel
  rcases hh with ⟨rfl,hrow⟩ | ⟨rfl,hrow⟩ | ⟨rfl,hrow⟩ | ⟨rfl,hrow⟩
  ·have hcopy:=DP wr.drew w1.heap.size 1 5 6 [zg true,zg false,zg false,zg false,zg false,zg false] [zg true,zg true,zg false,zg false,zg false,zg false] [zg true] 1 hrow
   have HROW:=Aa hrow
   clear hrow
   go_wp2_with fail
   go_region_with fail
   simp [Act.put]
   go_wp2_with fail
   refine ⟨⟨Or.inr (Or.inl (⟨by first | rfl | go_num,setRow_heap _ _ _ _ _ _ HROW.o⟩)),below_setRow hB.drew (Nat.le_refl _) _⟩,by simp [intOf];decide⟩
  ·have hcopy:=DP wr.drew w1.heap.size 2 4 6 [zg true,zg true,zg false,zg false,zg false,zg false] [zg true,zg true,zg true,zg true,zg false,zg false] [zg true,zg true] 2 hrow
   have HROW:=Aa hrow
   clear hrow
   go_wp2_with fail
   go_region_with fail
   simp [Act.put]
   go_wp2_with fail
   refine ⟨⟨Or.inr (Or.inr (Or.inl (⟨by first | rfl | go_num,setRow_heap _ _ _ _ _ _ HROW.o⟩))),below_setRow hB.drew (Nat.le_refl _) _⟩,by simp [intOf];decide⟩
  ·have hcopy:=DP wr.drew w1.heap.size 4 2 6 [zg true,zg true,zg true,zg true,zg false,zg false] [zg true,zg true,zg true,zg true,zg true,zg true] [zg true,zg true] 2 hrow
   have HROW:=Aa hrow
   clear hrow
   go_wp2_with fail
   go_region_with fail
   simp [Act.put]
   go_wp2_with fail
   refine ⟨⟨Or.inr (Or.inr (Or.inr (⟨by first | rfl | go_num,setRow_heap _ _ _ _ _ _ HROW.o⟩))),below_setRow hB.drew (Nat.le_refl _) _⟩,by simp [intOf];decide⟩
  ·have HROW:=Aa hrow
   clear hrow
   go_wp2_with fail
   exact bodyPost_ret (v:=O (some ⟨w1.heap.size,0,none⟩) 6 6) (by simp [results,Tryz.results165,go_sem]) rfl ⟨_,rfl,⟨rfl,Or.inr ⟨w1.heap.size,6,_,rfl,hs1,HROW.o,Nat.le_refl _,by decide,rfl,rfl⟩⟩,hb1.trans (hB.mono hs1)⟩
theorem Mi (n:Nat) (h1:1<=n) (h6:n<=6) (g:Nat) (w:World) (hlt:g < w.heap.size) (hg:w.cell? ⟨g,0,none⟩=some (zg true)):Calls Tryz.prog 165 #[O (some ⟨g,0,none⟩) 1 1,U zd n] w fun e w'=>∃ v,e=zk v/\w'.ownsRow w.heap.size 4 1 v n (List.replicate n (zg true))/\Ov w w':=by
 rcases (by omega:n=1\/n=2\/n=3\/n=4\/n=5\/n=6) with rfl | rfl | rfl | rfl | rfl | rfl
 ·exact OT g w hlt hg
 ·exact OS g w hlt hg
 ·exact OQ g w hlt hg
 ·exact OP g w hlt hg
 ·exact OO g w hlt hg
 ·exact OM g w hlt hg
theorem Bi {W:World} {b g o:Nat} (h:b≠g) (u:Value):(W.setCell ⟨b,o,none⟩ u).heap[g]? = W.heap[g]?:=by
 simp [World.setCell,Array.getElem?_modify,h]
theorem Ir {W:World} {B:Nat} {v:Value} {k g n c:Nat} {xs:List Value} (h:W.ownsRow B 4 1 v k xs) (hg:g < B\/W.heap.size<=g):Np v (O (some ⟨g,0,none⟩) n c):=by
 cases hv:v.ownBlock with
 | none=>exact Or.inl hv
 | some x=>
  have h2:=Mm h hv
  refine Or.inr ?_
  rw [hv]
  simp [Value.ownBlock]
  omega
theorem Pl {w wp:World} {n:Nat} {v:Value} (h6:n<=6) (hw:w.heap.size+1+1<=wp.heap.size) (hor:wp.ownsRow (w.heap.size+1+1) 4 1 v n (List.replicate n (zg true))) (u0 u1:Value) :
  Bh w (((wp.setCell ⟨w.heap.size+1,0,none⟩ u0).setCell ⟨w.heap.size+1,1,none⟩ u1).alloc (.cells (Array.replicate n (zg false)) 4)) (zh #[v,O (some ⟨wp.heap.size,0,none⟩) n n]) (Bu n):=by
 refine ⟨_,_,rfl,?_,?_,Ir hor (Or.inr (Nat.le_refl _))⟩
 ·simp only [Bu,List.length_replicate,Bf,List.map_replicate]
  exact B4 (IM (Bl (Bl hor (by simp) _) (by simp) _) _) (by omega)
 ·simp only [Bu,List.length_replicate,Bf,List.map_replicate]
  refine ⟨by simp,Or.inr ⟨wp.heap.size,n,Array.replicate n (zg false),rfl,by omega,?_,Nat.le_refl _,by unfold maxLen;omega,by simp,by simp⟩⟩
  have:=BG ((wp.setCell ⟨w.heap.size+1,0,none⟩ u0).setCell ⟨w.heap.size+1,1,none⟩ u1) (.cells (Array.replicate n (zg false)) 4)
  simpa [World.setCell] using this
theorem O4 {w wp:World} {n g:Nat} {v:Value} (h6:n<=6) (hg:w.heap.size+1+1<=g) (hor:wp.ownsRow (g+1) 4 1 v n (List.replicate n (zg true))) (hrow:wp.heap[g]? = some (.cells (Array.replicate n (zg false)) 4 (0,0))) (u0 u1:Value) :
  Bh w ((wp.setCell ⟨w.heap.size+1,0,none⟩ u0).setCell ⟨w.heap.size+1,1,none⟩ u1) (zh #[v,O (some ⟨g,0,none⟩) n n]) (Bu n):=by
 refine ⟨_,_,rfl,?_,?_,Ir hor (Or.inl (Nat.lt_succ_self _))⟩
 ·simp only [Bu,List.length_replicate,Bf,List.map_replicate]
  exact B4 (Bl (Bl hor (by simp;omega) _) (by simp;omega) _) (by omega)
 ·simp only [Bu,List.length_replicate,Bf,List.map_replicate]
  refine ⟨by simp,Or.inr ⟨g,n,Array.replicate n (zg false),rfl,by omega,?_,Nat.le_refl _,by unfold maxLen;omega,by simp,by simp⟩⟩
  rw [Bi (by omega),Bi (by omega)]
  exact hrow
theorem Nd {w wp:World} {o1 o2 o3 o4:Obj} {B:Nat} (h:Below B ((((w.alloc o1).alloc o2).alloc o3).alloc o4).drew wp) (hB:w.heap.size+1+1+1 < B):wp.heap[w.heap.size+1+1]? = some o3/\wp.heap[w.heap.size+1+1+1]? = some o4:=by
 have h5:=h.block
 refine ⟨?_,?_⟩
 ·rw [h5 _ (by omega)]
  show ((((w.heap.push o1).push o2).push o3).push o4)[_]? = _
  simp [Array.getElem_push]
 ·rw [h5 _ (by omega)]
  show ((((w.heap.push o1).push o2).push o3).push o4)[_]? = _
  simp [Array.getElem_push]
theorem EE (n:Nat) (h1:1<=n) (h6:n<=6) (ga gn gc sa sn sc ya yn yc oa on oc va vn vc fa fn fc ba bn bc la ln lc ka kn kc) (w:World) :
  Calls Tryz.prog 104 #[zh #[U zd n,O ga gn gc,O sa sn sc,O ya yn yc,O oa on oc,O va vn vc,O fa fn fc,O ba bn bc,O la ln lc,O ka kn kc]] w fun e w'=>∃ vj,e=zk vj/\Bh w w' vj (Bu n)/\Ov w w':=by
 have hmk:=fun w=>Dp n h6 w
 go_enter Tryz.func104,Tryz.ntmps104
 go_wp2_with fail
 go_region_with (go_at_call 165;refine (Mi n h1 h6 _ _ (by simp <;> omega) (by simp [go_sem])).mono ?_;rintro e wp ⟨vr,rfl,hor,hbp⟩;obtain ⟨xa,xn,xc,rfl⟩:=Aj hor;have hbw:Ov w wp:=(by refine Below.trans ?_ (hbp.mono (by simp <;> omega));repeat (first | exact Below.refl _ _ | refine Below.drew ?_ | refine Below.alloc ?_ (by simp <;> omega) _));have ec:wp.cell? ⟨w.heap.size,0,none⟩=some (U zd n):=(by rw [(Ap hbp).1 _ _ (by simp <;> omega)];simp [go_sem]);have e0:wp.cell? ⟨w.heap.size+1,0,none⟩=some (O none 0 0):=(by rw [(Ap hbp).1 _ _ (by simp <;> omega)];simp [go_sem]);have e1:wp.cell? ⟨w.heap.size+1,1,none⟩=some (O none 0 0):=(by rw [(Ap hbp).1 _ _ (by simp <;> omega)];simp [go_sem]);have f0:wp.frozen? ⟨w.heap.size+1,0,none⟩=false:=(by rw [(Ap hbp).2 _ _ (by simp <;> omega)];simp [go_sem]);have f1:wp.frozen? ⟨w.heap.size+1,1,none⟩=false:=(by rw [(Ap hbp).2 _ _ (by simp <;> omega)];simp [go_sem]);have ltp:w.heap.size+1 < wp.heap.size:=(bL e0);have e0a:∀ o,(wp.alloc o).cell? ⟨w.heap.size+1,0,none⟩=some (O none 0 0):=(fun o=>Ab (bA wp o) _ _ e0);have e1a:∀ o,(wp.alloc o).cell? ⟨w.heap.size+1,1,none⟩=some (O none 0 0):=(fun o=>Ab (bA wp o) _ _ e1);have f0a:∀ o,(wp.alloc o).frozen? ⟨w.heap.size+1,0,none⟩=false:=(fun o=>by rw [(Ap (bA wp o)).2 _ _ ltp];exact f0);have f1a:∀ o,(wp.alloc o).frozen? ⟨w.heap.size+1,1,none⟩=false:=(fun o=>by rw [(Ap (bA wp o)).2 _ _ ltp];exact f1);have HOR:=Aa hor;have HBP:=Aa hbp;have HBW:=Aa hbw;clear hor hbp hbw)
 all_goals go_wp2_with fail
 all_goals first
  | exact bodyPost_ret (v:=zh #[O xa xn xc,O (some ⟨wp.heap.size,0,none⟩) n n]) (by simp [results,Tryz.results104,go_sem,e0,e1,ltp]) rfl ⟨_,rfl,Pl h6 (by omega) (B4 HOR.o (by simp <;> omega)) _ _,((HBW.o.setCell (by simp <;> omega) _).setCell (by simp <;> omega) _).alloc (by simp [World.setCell] <;> omega) _⟩
  | exact bodyPost_ret (v:=zh #[O xa xn xc,O (some ⟨w.heap.size+1+1,0,none⟩) n n]) (by simp [results,Tryz.results104,go_sem,e0,e1]) rfl ⟨_,rfl,O4 h6 (by omega) (B4 HOR.o (by simp <;> omega)) (Nd HBP.o (by simp <;> omega)).1 _ _,(HBW.o.setCell (by simp <;> omega) _).setCell (by simp <;> omega) _⟩
  | exact bodyPost_ret (v:=zh #[O xa xn xc,O (some ⟨w.heap.size+1+1+1,0,none⟩) n n]) (by simp [results,Tryz.results104,go_sem,e0,e1]) rfl ⟨_,rfl,O4 h6 (by omega) (B4 HOR.o (by simp <;> omega)) (Nd HBP.o (by simp <;> omega)).2 _ _,(HBW.o.setCell (by simp <;> omega) _).setCell (by simp <;> omega) _⟩
section
variable {σ:Type} {c:WC} {w0:World} {K kf nv ni no:Nat} {fs:List FnD} {gs:List (Int × Int)} {lev flev:σ->List Lev} {Inv:σ->World->Prop} {X:World->Nat->Prop}
theorem Hg {fs:List FnD} {j:Nat} (h:j < fs.length):((List.range fs.length).zip fs).take (j+1)=((List.range fs.length).zip fs).take j++[(j,fs[j])]:=by
 rw [List.take_succ_eq_append_getElem (by simpa using h)]
 simp
theorem JH {n K kf:Nat} {lev flev:σ->List Lev} {step:Int->D->Lev->σ->σ} (st:σ):∀ (j:Nat),j<=fs.length->((((List.range fs.length).zip fs).take j).foldl (goF n K lev step flev kf) (0,st)).1=(B5 kf (fs.take j):Nat)
 | 0,_=>by simp [B5]
 | j+1,h=>by
  rw [Hg (by omega),List.foldl_append,List.foldl_cons,List.foldl_nil,EZ (by omega)]
  simp only [goF]
  rw [JH st j (by omega)]
  push_cast
  rfl
theorem Nj {n K kf:Nat} {lev flev:σ->List Lev} {step:Int->D->Lev->σ->σ} {Pm:Int->σ->Prop} (h:Jr Pm step):∀ (xs:List (Nat × FnD)) (q:Int × σ),Pm q.1 q.2->Pm (xs.foldl (goF n K lev step flev kf) q).1 (xs.foldl (goF n K lev step flev kf) q).2
 | [],q,hq=>hq
 | x::xs,q,hq=>by
  rw [List.foldl_cons]
  exact Nj h xs _ (Ib h kf x.2.body q.1 _ q.2 hq)
theorem G8 {k:Nat} {l:List FnD} {j:Nat} (hj:j < l.length):B5 k (l.take j)+A4 k l[j].body<=B5 k l:=by
 rw [<-EZ hj]
 unfold B5
 conv=>rhs;rw [<-List.take_append_drop (j+1) l]
 rw [List.map_append,List.sum_append]
 omega
abbrev Kv (W:World) (c:WC) (b off b4 off4:Nat) (wr:World) (pa:Option Addr) (pn pc:Nat) (za:Option Addr) (zn zc:Nat) (ek en:Int) (xa:Option Addr) (xl xc:Nat) (Wz:World):Prop:=Wz.cell? ⟨W.heap.size,0,none⟩=some (U zd (c.n:Int))/\CE Wz W.heap.size 1 (O c.ga c.gn c.gc)/\CE Wz W.heap.size 2 (O c.sa c.sn c.sc)/\CE Wz W.heap.size 3 (O c.ya c.yn c.yc)/\CE Wz W.heap.size 4 (O c.oa c.on c.oc)/\CE Wz W.heap.size 5 (O c.va c.vn c.vc)/\CE Wz W.heap.size 6 (O (some ⟨b,off,none⟩) c.fn c.fc)/\CE Wz W.heap.size 7 (O c.ba c.bn c.bc)/\CE Wz W.heap.size 8 (O c.la c.ln c.lc)/\CE Wz W.heap.size 9 (O (some ⟨b4,off4,none⟩) c.kn c.kc)/\CE Wz wr.heap.size 0 (O pa pn pc)/\CE Wz wr.heap.size 1 (O za zn zc)/\CE Wz wr.heap.size 2 (U zd ek)/\CE Wz wr.heap.size 3 (U zd en)/\CE Wz wr.heap.size 4 (O xa xl xc)
abbrev Jv (W:World) (c:WC) (Wz:World):Prop:=Wz.cell? ⟨W.heap.size,0,none⟩=some (U zd (c.n:Int))/\CE Wz W.heap.size 1 (O c.ga c.gn c.gc)/\CE Wz W.heap.size 2 (O c.sa c.sn c.sc)/\CE Wz W.heap.size 3 (O c.ya c.yn c.yc)/\CE Wz W.heap.size 4 (O c.oa c.on c.oc)/\CE Wz W.heap.size 5 (O c.va c.vn c.vc)/\CE Wz W.heap.size 6 (O c.fa c.fn c.fc)/\CE Wz W.heap.size 7 (O c.ba c.bn c.bc)/\CE Wz W.heap.size 8 (O c.la c.ln c.lc)/\CE Wz W.heap.size 9 (O c.ka c.kn c.kc)
theorem Nl (I:D3 c w0 nv fs gs lev flev Inv X) (step:Int->D->Lev->σ->σ) (F:FuncId) (fre cap:List Value) (Pm:Int->σ->Prop) (hPm:Hx (Jr Pm step)) (hC:∀ (args:Array Value) (w:World),(callFunc F args).run Tryz.prog w=.ok (.enter F args) w) (hdo:Hx (MY c w0 K nv ni no fs Inv X step F fre cap Pm))
  (l:List D) (hfs:BA w0 K kf (O c.fa c.fn c.fc) fs) (hm:Bc w0 K kf (O c.ba c.bn c.bc) l) (hof:∀ i (h:i < fs.length),okF K nv ni no (i:Int) fs kf fs[i]) (hom:∀ s∈l,okS K nv ni no (fs.length:Int) fs kf s) (h50:B5 kf fs+A4 kf l<=50) (hf5:fs.length<=5)
  (st:σ) (W:World) (hI:Inv st W) (hpm:Pm 0 st) :
  Calls Tryz.prog 87 #[c.v,.func (.func F) fre.toArray cap.toArray] W fun e W'=>e=zk (zm #[])/\Inv (Ct c.n K lev step flev kf fs l st) W'/\FrW X W W':=by
 have hb:Ov W (W.alloc (ze #[U zd (c.n:Int),O c.ga c.gn c.gc,O c.sa c.sn c.sc,O c.ya c.yn c.yc,O c.oa c.on c.oc,O c.va c.vn c.vc,O c.fa c.fn c.fc,O c.ba c.bn c.bc,O c.la c.ln c.lc,O c.ka c.kn c.kc] 108)):=bA W _
 have xs0:¬ X (W.alloc (ze #[U zd (c.n:Int),O c.ga c.gn c.gc,O c.sa c.sn c.sc,O c.ya c.yn c.yc,O c.oa c.on c.oc,O c.va c.vn c.vc,O c.fa c.fn c.fc,O c.ba c.bn c.bc,O c.la c.ln c.lc,O c.ka c.kn c.kc] 108)) W.heap.size:=fun h=>by have:=I.xlt _ _ hI _ (I.xok.below _ _ hb _ h);omega
 have row0:Ae c.cs (W.alloc (ze #[U zd (c.n:Int),O c.ga c.gn c.gc,O c.sa c.sn c.sc,O c.ya c.yn c.yc,O c.oa c.on c.oc,O c.va c.vn c.vc,O c.fa c.fn c.fc,O c.ba c.bn c.bc,O c.la c.ln c.lc,O c.ka c.kn c.kc] 108)) W.heap.size:=Ae.new c.cs 108 W
 have KS:=Aa (Nt (K:=K) (ni:=ni) (no:=no) I step F fre cap Pm hPm hC hdo)
 have HX0:=Aa xs0
 have HR0:=Aa row0
 have HI0:=Aa (I.over _ _ _ hI hb)
 have HF0:=Aa (FrW.of_below I.xok hb)
 have HI:=Aa I
 have HOF:=Aa hof
 have HOM:=Aa hom
 have HM:=Aa hm
 have H50:=Aa h50
 obtain ⟨hfl,fa',fc',hfe,hfc⟩:=hfs
 injection hfe with f1 f2 f3
 have hfn:c.fn<=5:=by omega
 have HFN:=Aa f2
 have HFC:=Aa hfc
 have HFA:=Aa f1
 obtain ⟨Q,hQ⟩:∃ Q:Nat->Int × σ,Q=fun j=>(((List.range fs.length).zip fs).take j).foldl (goF c.n K lev step flev kf) (0,st):=⟨_,rfl⟩
 have HQ:=Aa hQ
 have HQ1:Hx (∀ j,j<=fs.length->(Q j).1=(B5 kf (fs.take j):Nat)):=fun j hj=>by rw [hQ];exact JH st j hj
 have HQ0:Hx (Q 0=(0,st)):=by rw [hQ];rfl
 have HPQ:Hx (∀ j,Pm (Q j).1 (Q j).2):=fun j=>by rw [hQ];exact Nj hPm.o _ (0,st) hpm
 obtain ⟨W0,hW0⟩:=nm ((W.alloc (ze #[U zd (c.n:Int),O c.ga c.gn c.gc,O c.sa c.sn c.sc,O c.ya c.yn c.yc,O c.oa c.on c.oc,O c.va c.vn c.vc,O c.fa c.fn c.fc,O c.ba c.bn c.bc,O c.la c.ln c.lc,O c.ka c.kn c.kc] 108)))
 rw [<-hW0] at HX0 HR0 HI0 HF0
 clear hb xs0 row0 hdo hof hom hm h50 hfc f1 f2 f3 hQ hI I hfl hf5
 go_enter Tryz.func87,Tryz.ntmps87
 go_wp2_with fail
 go_loopw [4,11] (fun x i wr=>∃ j:Nat,j<=c.fn/\i=U zd j/\x=U zd (Q j).1/\Inv (Q j).2 wr/\FrW X W0 wr) (fun _ i _=>c.fn - (intOf i).toNat)
 case atStart=>exact ⟨0,Nat.zero_le _,rfl,by rw [HQ0.o],by rw [HQ0.o,<-hW0];exact HI0.o,by rw [<-hW0];exact FrW.refl _⟩
 case round=>
  obtain ⟨j,hj,rfl,rfl,hI,hF⟩:=hrel
  clear hW0
  have hj2:j<=fs.length:=by rw [<-HFN.o];exact hj
  obtain ⟨at_,hat⟩:=nm ((Q j).1)
  have hatv:at_=(B5 kf (fs.take j):Nat):=hat.trans (HQ1.o j hj2)
  rw [<-hat]
  have HAT:=Aa hat
  by_cases hlt:j < c.fn
  ·have hlt2:j < fs.length:=by rw [<-HFN.o];exact hlt
   have hcl:=G8 (k:=kf) hlt2
   have h50':=H50.o
   have ha0:0<=at_:=by omega
   have ha1:at_+(A4 kf fs[j].body:Nat)<=50:=by omega
   have hcell:=Ab (HI.o.below _ _ hI)
   obtain ⟨b,off,hao,hcs⟩:=HFC.o (by intro h;rw [h] at hlt2;simp at hlt2)
   obtain ⟨vP,vB,y0,y1,y2,g0,g1,g2,g3,g4,hps,-,hbody,hres⟩:=hcs j hlt2
   have hfa:c.fa=some ⟨b,off,none⟩:=HFA.o.trans hao
   obtain ⟨pa,pc,rfl,-⟩:=hps
   have hb0:=hbody
   obtain ⟨-,za,zc,rfl,-⟩:=hb0
   obtain ⟨xa,xc,hxf⟩:=hres.form
   simp only [List.cons.injEq,and_true] at hxf
   obtain ⟨rfl,rfl,rfl⟩:=hxf
   have g0:=hcell _ _ g0
   have g1:=hcell _ _ g1
   have g2:=hcell _ _ g2
   have g3:=hcell _ _ g3
   have g4:=hcell _ _ g4
   obtain ⟨pn,hpn⟩:=nm (fs[j].ps.length)
   obtain ⟨zn,hzn⟩:=nm (fs[j].body.length)
   obtain ⟨ek,hek⟩:=nm (AH fs[j].res)
   obtain ⟨en,hen⟩:=nm (Ba fs[j].res)
   obtain ⟨xl,hxl⟩:=nm ((AF fs[j].res).length)
   rw [<-hpn] at g0
   rw [<-hzn] at g1 hbody
   rw [<-hek] at g2
   rw [<-hen] at g3
   rw [<-hxl] at g4
   have hba:=bA wr (ze #[O pa pn pc,O za zn zc,U zd ek,U zd en,O xa xl xc] 105)
   have hI1:=HI.o.over _ _ _ hI hba
   have hF1:=hF.trans (FrW.of_below HI.o.xok hba)
   have rowS:=Ae.new [O pa pn pc,O za zn zc,U zd ek,U zd en,O xa xl xc] 105 wr
   have xsS:¬ X (wr.alloc (ze #[O pa pn pc,O za zn zc,U zd ek,U zd en,O xa xl xc] 105)) wr.heap.size:=fun h=>by have:=HI.o.xlt _ _ hI _ (HI.o.xok.below _ _ hba _ h);omega
   have row0:=hF1.row HR0.o HX0.o
   have x0:¬ X (wr.alloc (ze #[O pa pn pc,O za zn zc,U zd ek,U zd en,O xa xl xc] 105)) W.heap.size:=fun h=>HX0.o (hF1.mov _ (bL (HR0.o 0 _ rfl)) h)
   obtain ⟨hfl1,hfl2⟩:=HI.o.flevs _ _ hI1
   have hjf:j < (flev (Q j).2).length:=by rw [hfl2];exact hlt2
   obtain ⟨ao4,cap4,hk1,hk2⟩:=hfl1
   obtain ⟨b4,off4,hk3,hk4⟩:=hk2 (by intro h;rw [h] at hjf;simp at hjf)
   obtain ⟨rv,wv,m0,m1,hlv⟩:=hk4 j hjf
   injection hk1 with n1 n2 n3
   have hka:c.ka=some ⟨b4,off4,none⟩:=n1.trans hk3
   have hkn:j < c.kn:=by omega
   have hkn5:c.kn<=5:=by have:=HFN.o;omega
   obtain ⟨p1,q1,r1,p2,q2,r2,hform⟩:=hlv.form
   simp at hform
   obtain ⟨rfl,rfl⟩:=hform
   have hgd:(flev (Q j).2).getD j AE=(flev (Q j).2)[j]:=by simp [List.getD_eq_getElem?_getD,hjf]
   have HQS:Hx (Q (j+1)=(at_+(A4 kf fs[j].body:Nat),goS c.n K lev step kf fs[j].body at_ (flev (Q j).2)[j] (Q j).2)):=by
    have e1:Q (j+1)=goF c.n K lev step flev kf (Q j) (j,fs[j]):=by
     rw [HQ.o]
     dsimp only
     rw [Hg hlt2,List.foldl_append]
     rfl
    rw [e1]
    unfold goF
    rw [<-HAT.o]
    dsimp only
    rw [hgd]
    exact rfl
   have K1:=Aa (fun (W1:World) (hb1:Ov (wr.alloc (ze #[O pa pn pc,O za zn zc,U zd ek,U zd en,O xa xl xc] 105)) W1)=>KS.o (j:Int) (by omega) kf (O za zn zc) fs[j].body at_ (zh #[O p1 q1 r1,O p2 q2 r2]) _ (Q j).2 W1 hbody (HOF.o j hlt2).2.2.1 (HI.o.over _ _ _ hI1 hb1) (hlv.over HI.o.xok hb1) ha0 ha1 (by rw [HAT.o];exact HPQ.o j))
   have HRW0:=Aa row0
   have HRWS:=Aa rowS
   have HX0':=Aa x0
   have HXS:=Aa xsS
   have HF1:=Aa hF1
   have hj3:(j:Int) < (c.fn:Int):=by omega
   have hk5:(j:Int) < (c.kn:Int):=by omega
   obtain ⟨t0,t1,t2,t3,t4,t5,t6,t7,t8,t9⟩:=B9 HRW0.o
   obtain ⟨s0,s1,s2,s3,s4⟩:=rc5 HRWS.o
   have lt0:=bL (HRW0.o 0 _ rfl)
   have ltS:=bL (HRWS.o 0 _ rfl)
   have HLT:=Aa (And.intro lt0 ltS)
   rw [hka] at t9
   rw [hfa] at t6
   clear hatv hat hcl h50' hcell hcs hao hbody hres hpn hzn hek hen hxl hI1 hF1 hI hF rowS xsS row0 x0 hfl2 hk2 hk3 hk4 hlv n1 n2 n3 hgd lt0 ltS hba ha1 HAT
   simp only [WC.v,hka,hfa] at K1
   rw [hfa]
   go_wp2_with fail
   have hS0:Kv W c b off b4 off4 wr pa pn pc za zn zc ek en xa xl xc (wr.alloc (ze #[O pa pn pc,O za zn zc,U zd ek,U zd en,O xa xl xc] 105)):=⟨t0,t1,t2,t3,t4,t5,t6,t7,t8,t9,s0,s1,s2,s3,s4⟩
   refine gS (Kv W c b off b4 off4 wr pa pn pc za zn zc ek en xa xl xc) (hS0) fun hHeld=>?_
   refine kT 0 ?_
   refine kT 1 ?_
   refine kT 2 ?_
   refine kT 3 ?_
   refine kT 4 ?_
   refine kT 5 ?_
   refine kT 6 ?_
   refine kT 7 ?_
   refine kT 8 ?_
   refine kT 10 ?_
   refine rdA 9 rfl fun K hK=>?_
   go_simp
   refine xK hK (hHeld) fun hHeld=>?_
   refine rdA 11 rfl fun K hK=>?_
   go_simp
   refine (K1.o _ (bD _)).mono ?_
   rintro e W2 ⟨rfl,hI2,hF2⟩
   have hr0:=hF2.row (show Ae c.cs _ W.heap.size from HRW0.o) (fun h=>HX0'.o (HI.o.xok.below _ _ (bD _) _ h))
   have hrS:=hF2.row (show Ae [O pa pn pc,O za zn zc,U zd ek,U zd en,O xa xl xc] _ wr.heap.size from HRWS.o) (fun h=>HXS.o (HI.o.xok.below _ _ (bD _) _ h))
   have hS2:Kv W c b off b4 off4 wr pa pn pc za zn zc ek en xa xl xc W2:=⟨hr0 0 _ rfl,hr0 1 _ rfl,hr0 2 _ rfl,hr0 3 _ rfl,hr0 4 _ rfl,hr0 5 _ rfl,by rw [<-hfa];exact hr0 6 _ rfl,hr0 7 _ rfl,hr0 8 _ rfl,by rw [<-hka];exact hr0 9 _ rfl,hrS 0 _ rfl,hrS 1 _ rfl,hrS 2 _ rfl,hrS 3 _ rfl,hrS 4 _ rfl⟩
   clear hr0 hrS
   go_simp
   refine xK hK (hS2) fun hHeld=>?_
   refine rdA 12 rfl fun K hK=>?_
   go_simp
   refine xK hK (hS2) fun hHeld=>?_
   refine gE ?_
   have HI2:=Aa hI2
   have HF2:=Aa ((HF1.o.trans (FrW.of_below HI.o.xok (bD _))).trans hF2)
   clear hS2 hI2 hF2 hS0 K1 t0 t1 t2 t3 t4 t5 t6 t7 t8 t9 s0 s1 s2 s3 s4 g0 g1 g2 g3 g4 m0 m1
   go_wp2_with fail
   refine ⟨⟨j+1,by omega,by go_num,by rw [HQS.o],by rw [HQS.o];exact HI2.o,HF2.o⟩,by simp [intOf];omega⟩
  ·have hjf:j=fs.length:=by rw [<-HFN.o];omega
   have h50':=H50.o
   have htk:fs.take j=fs:=List.take_of_length_le (by omega)
   rw [htk] at hatv
   have ha0:0<=at_:=by omega
   have ha1:at_+(A4 kf l:Nat)<=50:=by omega
   have hrx:=hF.row HR0.o HX0.o
   have HRWx:=Aa hrx
   have HIW:=Aa hI
   have HFW:=Aa hF
   have HXW:Hx (¬ X wr W.heap.size):=fun h=>HX0.o (hF.mov _ (bL (HR0.o 0 _ rfl)) h)
   have KB:=Aa fun W=>EE c.n HI.o.n1 HI.o.n6 c.ga c.gn c.gc c.sa c.sn c.sc c.ya c.yn c.yc c.oa c.on c.oc c.va c.vn c.vc c.fa c.fn c.fc c.ba c.bn c.bc c.la c.ln c.lc c.ka c.kn c.kc W
   obtain ⟨t0,t1,t2,t3,t4,t5,t6,t7,t8,t9⟩:=B9 hrx
   have hS0:Jv W c wr:=⟨t0,t1,t2,t3,t4,t5,t6,t7,t8,t9⟩
   have HALL:Hx (Ct c.n K lev step flev kf fs l st=goS c.n K lev step kf l at_ (Bu c.n) (Q j).2):=by
    unfold Ct
    dsimp only
    have e1:Q j=((List.range fs.length).zip fs).foldl (goF c.n K lev step flev kf) (0,st):=by
     rw [HQ.o]
     dsimp only
     rw [List.take_of_length_le (by simp;omega)]
    rw [<-e1,<-hat]
    rfl
   have HPA:Hx (Pm at_ (Q j).2):=by rw [HAT.o];exact HPQ.o j
   clear hatv hat h50' htk hrx hI hF hjf HAT
   go_wp2_with fail
   refine gS (Jv W c) (hS0) fun hHeld=>?_
   refine kT 0 ?_
   refine kT 1 ?_
   refine kT 2 ?_
   refine kT 3 ?_
   refine kT 4 ?_
   refine kT 5 ?_
   refine kT 7 ?_
   refine rdA 6 rfl fun K hK=>?_
   go_simp
   refine (KB.o _).mono ?_
   rintro e W2 ⟨vj,rfl,hfr,hb2⟩
   have hbz:=Ac (bD wr) hb2
   have hnew:=BN hfr
   have hlA:=Ao hfr
   obtain ⟨o1,o2,o3,o4,o5,o6,hvj⟩:∃ o1 o2 o3 o4 o5 o6,vj=zh #[O o1 o2 o3,O o4 o5 o6]:=by
    obtain ⟨x,y,rfl,-⟩:=hlA
    obtain ⟨a1,a2,a3,a4,a5,a6,rfl,rfl⟩:=AN (Ao hfr)
    exact ⟨_,_,_,_,_,_,rfl⟩
   subst hvj
   have hL2:AW c.n X W2 (zh #[O o1 o2 o3,O o4 o5 o6]) (Bu c.n):=⟨hlA,⟨by simp [Bu],by simp [Bu]⟩,Cs HI.o.xok hbz (HI.o.xlt _ _ HIW.o) hnew⟩
   have hr0:=HRWx.o.over hbz
   have hS2:Jv W c W2:=⟨hr0 0 _ rfl,hr0 1 _ rfl,hr0 2 _ rfl,hr0 3 _ rfl,hr0 4 _ rfl,hr0 5 _ rfl,hr0 6 _ rfl,hr0 7 _ rfl,hr0 8 _ rfl,hr0 9 _ rfl⟩
   have KM:=Aa (KS.o (fs.length:Int) (Int.le_refl _) kf (O c.ba c.bn c.bc) l at_ _ _ _ W2 HM.o HOM.o (HI.o.over _ _ _ HIW.o hbz) hL2 ha0 ha1 HPA.o)
   have HR2:=Aa hr0
   have HXW2:Hx (¬ X W2 W.heap.size):=fun h=>HXW.o (HI.o.xok.below _ _ hbz _ h)
   have HFZ:=Aa (HFW.o.trans (FrW.of_below HI.o.xok hbz))
   clear hfr hb2 hbz hnew hlA hL2 hr0
   go_simp
   refine xK hK (hS2) fun hHeld=>?_
   refine rdA 8 rfl fun K hK=>?_
   go_simp
   refine (KM.o).mono ?_
   rintro e W3 ⟨rfl,hI3,hF3⟩
   have hr3:=hF3.row HR2.o HXW2.o
   have hS3:Jv W c W3:=⟨hr3 0 _ rfl,hr3 1 _ rfl,hr3 2 _ rfl,hr3 3 _ rfl,hr3 4 _ rfl,hr3 5 _ rfl,hr3 6 _ rfl,hr3 7 _ rfl,hr3 8 _ rfl,hr3 9 _ rfl⟩
   clear hr3
   go_simp
   refine xK hK (hS3) fun hHeld=>?_
   refine gE ?_
   go_end0
   refine ⟨rfl,by rw [HALL.o];exact hI3,?_⟩
   exact (HF0.o.trans HFZ.o).trans hF3
end
section
variable {σ:Type} (c:WC) (w0:World) (nv:Nat) (fs:List FnD) (Inv:σ->World->Prop) (X:World->Nat->Prop)
def C3 (flow:Lev->Bool × Nat->σ->σ) (G:FuncId) (d1 d2:Value):Prop:=
 ∀ (st:σ) (W:World) (v:Value) (l:Lev) (i:Bool × Nat) (b off:Nat),Inv st W->AW c.n X W v l->(i.1=true->i.2 < nv)->(i.1=false->i.2 < fs.length)->(if i.1=true then c.la else c.ka)=some ⟨b,off,none⟩ ->
  Calls Tryz.prog G #[v,zj (some ⟨b,off+i.2*2,none⟩),d1,d2] W fun e W'=>e=zk (zm #[])/\Inv (flow l i st) W'/\FrW X W W'
structure BI (s:Nat) (G:FuncId) (d1 d2:Value) (W:World):Prop where
 row:Ae c.cs W s
 flow:W.cell? ⟨s+1,0,none⟩=some (.func (.func G) #[] #[d1,d2])
 toVar:W.cell? ⟨s+1+1,0,none⟩=some (.func (.func 115) #[] #[zj (some ⟨s,0,none⟩),zj (some ⟨s+1,0,none⟩)])
 x0:¬ X W s
 x1:¬ X W (s+1)
 x2:¬ X W (s+1+1)
end
section
variable {σ:Type} {c:WC} {w0:World} {K nv ni no:Nat} {fs:List FnD} {gs:List (Int × Int)} {lev flev:σ->List Lev} {Inv:σ->World->Prop} {X:World->Nat->Prop} {s:Nat} {G:FuncId} {d1 d2:Value}
theorem BI.over (hX:XOk X) {W W':World} (h:BI c X s G d1 d2 W) (hb:Ov W W'):BI c X s G d1 d2 W':=
 ⟨h.row.over hb,Ab hb _ _ h.flow,Ab hb _ _ h.toVar,fun x=>h.x0 (hX.below _ _ hb _ x),fun x=>h.x1 (hX.below _ _ hb _ x),fun x=>h.x2 (hX.below _ _ hb _ x)⟩
theorem BI.keep {W W':World} (h:BI c X s G d1 d2 W) (hf:FrW X W W'):BI c X s G d1 d2 W':=
 ⟨hf.row h.row h.x0,hf.cell h.flow h.x1,hf.cell h.toVar h.x2,fun x=>h.x0 (hf.mov _ (bL (h.row 0 _ rfl)) x),fun x=>h.x1 (hf.mov _ (bL h.flow) x),fun x=>h.x2 (hf.mov _ (bL h.toVar) x)⟩
abbrev Ku (s:Nat) (c:WC) (bv ov bl ol:Nat) (G:FuncId) (d1 d2:Value) (W:World) (p1:Option Addr) (q1 r1:Nat) (p2:Option Addr) (q2 r2:Nat) (Wz:World):Prop:=Wz.cell? ⟨s,0,none⟩=some (U zd (c.n:Int))/\CE Wz s 1 (O c.ga c.gn c.gc)/\CE Wz s 2 (O c.sa c.sn c.sc)/\CE Wz s 3 (O c.ya c.yn c.yc)/\CE Wz s 4 (O c.oa c.on c.oc)/\CE Wz s 5 (O (some ⟨bv,ov,none⟩) c.vn c.vc)/\CE Wz s 6 (O c.fa c.fn c.fc)/\CE Wz s 7 (O c.ba c.bn c.bc)/\CE Wz s 8 (O (some ⟨bl,ol,none⟩) c.ln c.lc)/\CE Wz s 9 (O c.ka c.kn c.kc)/\CE Wz (s+1) 0 (.func (.func G) #[] #[d1,d2])/\CE Wz W.heap.size 0 (O p1 q1 r1)/\CE Wz W.heap.size 1 (O p2 q2 r2)
theorem EK (I:D3 c w0 nv fs gs lev flev Inv X) (flow:Lev->Bool × Nat->σ->σ) (hC:∀ (args:Array Value) (w:World),(callFunc G args).run Tryz.prog w=.ok (.enter G args) w) (hfl:Hx (C3 c nv fs Inv X flow G d1 d2)) (vs) (hvs:Bo w0 (O c.va c.vn c.vc) vs) (hnv:vs.length=nv)
  (st:σ) (W:World) (v:Value) (l:Lev) (i:Int) (hI:Inv st W) (hB:BI c X s G d1 d2 W) (hl:AW c.n X W v l) (h0:0<=i) (hi:i < nv) :
  Calls Tryz.prog 115 #[v,U zd i,zj (some ⟨s,0,none⟩),zj (some ⟨s+1,0,none⟩)] W fun e W'=>e=zk (zm #[])/\Inv (toVar (vs.map Prod.fst) flow l i st) W'/\FrW X W W':=by
 obtain ⟨p1,q1,r1,p2,q2,r2,rfl⟩:=hl.form
 obtain ⟨j,rfl⟩:∃ j:Nat,i=(j:Int):=⟨i.toNat,by omega⟩
 have hj:j < vs.length:=by omega
 obtain ⟨hvm,va',vc',hve,hvc⟩:=hvs
 injection hve with v1 v2 v3
 obtain ⟨bv,ov,hvo,hvel⟩:=hvc (by intro h;rw [h] at hj;simp at hj)
 obtain ⟨pr,pw,k0,-,-,-,-⟩:=hvel j hj
 have hva:c.va=some ⟨bv,ov,none⟩:=v1.trans hvo
 have k0:=Ab (I.below _ _ hI) _ _ k0
 have hb:Ov W (W.alloc (ze #[O p1 q1 r1,O p2 q2 r2] 50)):=bA W _
 have k0b:=Ab hb _ _ k0
 have hI1:=I.over _ _ _ hI hb
 have hB1:=hB.over I.xok hb
 have hl1:=hl.over I.xok hb
 have hF1:=FrW.of_below I.xok hb
 have hvn:j < c.vn:=by omega
 have hvn16:c.vn<=16:=by have:=I.nv16;omega
 have hgd:(vs.map Prod.fst).getD (j:Int).toNat false=vs[j].1:=by simp [List.getD_eq_getElem?_getD,hj]
 obtain ⟨kn,hkn⟩:=nm (vs[j].1)
 rw [<-hkn] at k0b hgd
 obtain ⟨t0,t1,t2,t3,t4,t5,t6,t7,t8,t9⟩:=B9 hB1.row
 rw [hva] at t5
 cases kn with
 | true=>
  have HR:Hx (toVar (vs.map Prod.fst) flow l (j:Int) st=st):=by unfold toVar;rw [if_pos hgd];rfl
  have HI1:=Aa hI1
  have HF1:=Aa hF1
  clear hfl hgd hkn hI1 hF1 hB1 hl1 hB hl hI hb k0 hvel hvc hvo v1 v2 v3
  go_enter Tryz.func115,Tryz.ntmps115
  go_wp2_with fail
  go_end0
  exact ⟨rfl,by rw [HR.o];exact HI1.o,HF1.o⟩
 | false=>
  have HR:Hx (toVar (vs.map Prod.fst) flow l (j:Int) st=flow l (true,j) st):=by unfold toVar;rw [if_neg (by rw [hgd];simp)];rfl
  obtain ⟨hlv,hll⟩:=I.levs _ _ hI1
  obtain ⟨ao,cap,hle,hlc⟩:=hlv
  injection hle with l1 l2 l3
  obtain ⟨bl,ol,hlo,-⟩:=hlc (by intro h;rw [h] at hll;simp at hll;omega)
  have hla:c.la=some ⟨bl,ol,none⟩:=l1.trans hlo
  have hln:j < c.ln:=by omega
  have hln16:c.ln<=16:=by have:=I.nv16;omega
  have KF:=Aa fun (W1:World) (hb1:Ov (W.alloc (ze #[O p1 q1 r1,O p2 q2 r2] 50)) W1)=>hfl.o st W1 _ l (true,j) bl ol (I.over _ _ _ hI1 hb1) (hl1.over I.xok hb1) (fun _=>by omega) (fun h=>by cases h) (by rw [if_pos rfl];exact hla)
  rw [hla] at t8
  have f0:=hB1.flow
  have HR0:=Aa hB1.row
  have HX0:=Aa hB1.x0
  have HX1:=Aa hB1.x1
  have rowB:=Ae.new [O p1 q1 r1,O p2 q2 r2] 50 W
  have xB:¬ X (W.alloc (ze #[O p1 q1 r1,O p2 q2 r2] 50)) W.heap.size:=fun h=>by have:=I.xlt _ _ hI _ (I.xok.below _ _ hb _ h);omega
  have HRB:=Aa rowB
  have HXB:=Aa xB
  obtain ⟨b0,b1⟩:=rc2 rowB
  have hS0:Ku s c bv ov bl ol G d1 d2 W p1 q1 r1 p2 q2 r2 (W.alloc (ze #[O p1 q1 r1,O p2 q2 r2] 50)):=⟨t0,t1,t2,t3,t4,t5,t6,t7,t8,t9,f0,b0,b1⟩
  have HI:=Aa I
  have HF1:=Aa hF1
  have hj1:(j:Int) < (c.vn:Int):=by omega
  have hj2:(j:Int) < (c.ln:Int):=by omega
  clear hfl hgd hkn hI1 hF1 hB1 hl1 hB hl hI hb k0 hvel hvc hvo v1 v2 v3 hlc hlo l1 l2 l3 hll rowB xB I
  go_enter Tryz.func115,Tryz.ntmps115
  go_wp2_with fail
  refine gS (Ku s c bv ov bl ol G d1 d2 W p1 q1 r1 p2 q2 r2) (hS0) fun hHeld=>?_
  refine kT 0 ?_
  refine kT 1 ?_
  refine kT 2 ?_
  refine kT 3 ?_
  refine kT 4 ?_
  refine kT 5 ?_
  refine kT 6 ?_
  refine kT 7 ?_
  refine rdA 8 rfl fun K hK=>?_
  go_simp
  refine (KF.o _ (bD _)).mono ?_
  rintro e W2 ⟨rfl,hI2,hF2⟩
  have hr0:=hF2.row (show Ae c.cs _ s from HR0.o) (fun h=>HX0.o (HI.o.xok.below _ _ (bD _) _ h))
  have hr1:=hF2.cell (show (W.alloc (ze #[O p1 q1 r1,O p2 q2 r2] 50)).drew.cell? ⟨s+1,0,none⟩=some (.func (.func G) #[] #[d1,d2]) from f0) (fun h=>HX1.o (HI.o.xok.below _ _ (bD _) _ h))
  have hr2:=hF2.row (show Ae [O p1 q1 r1,O p2 q2 r2] _ W.heap.size from HRB.o) (fun h=>HXB.o (HI.o.xok.below _ _ (bD _) _ h))
  have hS2:Ku s c bv ov bl ol G d1 d2 W p1 q1 r1 p2 q2 r2 W2:=⟨hr0 0 _ rfl,hr0 1 _ rfl,hr0 2 _ rfl,hr0 3 _ rfl,hr0 4 _ rfl,by rw [<-hva];exact hr0 5 _ rfl,hr0 6 _ rfl,hr0 7 _ rfl,by rw [<-hla];exact hr0 8 _ rfl,hr0 9 _ rfl,hr1,hr2 0 _ rfl,hr2 1 _ rfl⟩
  go_simp
  refine xK hK (hS2) fun hHeld=>?_
  refine gE ?_
  go_end0
  exact ⟨rfl,by rw [HR.o];exact hI2,HF1.o.trans ((FrW.of_below HI.o.xok (bD _)).trans hF2)⟩
end
end Go.Proofs.YtfffpjkcfnekaaaGreat.Ex
