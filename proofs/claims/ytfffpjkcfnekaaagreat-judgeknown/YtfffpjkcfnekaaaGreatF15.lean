/- A region in a round of a loop over a function: what is held elsewhere is held there, too. -/
import Derived.OwnWalkIn
import Derived.OrdersHeld
import Derived.RangeFuncNested
import Derived.RangeFuncCalls
import Derived.Test.YtfffpjkcfnekaaaGreatF14
import Derived.Deep.RegionHeld3
import Derived.Test.YtfffpjkcfnekaaaGreatF08
set_option linter.unusedVariables false
set_option maxHeartbeats 8000000
set_option maxRecDepth 100000
namespace Go.Proofs.YtfffpjkcfnekaaaGreat.Ex
open Go.RowKit
open Go.Value renaming slice -> O, int -> U, bool -> zg, agg -> zh, pointer -> zj, tuple -> zm
open Go.IntKind renaming i64 -> zd
open Go.Obj renaming cells -> ze
open Go.Ending renaming returned -> zk
def D1 (Qn:Act->World->Prop):Exit->Act->World->Prop
 | .normal,a,w=>Qn a w
 | _,_,_=>False
theorem Ma {Qn:Act->World->Prop}:¬ LetsOut (D1 Qn):=fun ⟨_,_,h⟩=>h
theorem MH {lo n:Nat} {P:Program} {o:Oper} {a:Act} {K K':Act->World->Prop} {Qn:Act->World->Prop} (hK:∀ a w,K a w->K' a w) :
  ∀ x:Result Next,o.upon P a K (D1 Qn) x->o.uponIn (Fence.wide.inRound lo) n P a K' (D1 Qn) x:=by
 intro x h
 unfold Oper.upon at h
 split at h
 ·exact hK _ _ h
 ·exact hK _ _ h
 ·exact hK _ _ h
 ·refine ⟨fun h=>(by cases h),CallsIn.inRound lo (callsIn_wide.2 (h.mono ?_))⟩
  intro e w' h
  cases e with
  | returned v=>exact hK _ _ h
  | panicked c=>exact h
  | outgrown=>exact h
 ·exact ⟨fun h=>(by cases h),fun c cs _=>by obtain ⟨v,w2,r,s⟩:=h c cs;exact ⟨v,w2,hK _ _ r,stepsIn_wide.2 s⟩⟩
 ·exact h
 ·exact h.elim
theorem Pp {lo n:Nat} {P:Program} {ops:Array Oper} (hdf:∀ (i:Nat) o,ops[i]? = some o->∀ c,o.op≠.defer c) {Qn:Act->World->Prop} {i:Nat} {K K':Act->World->Prop} (hK:∀ a w,K a w->K' a w) (a:Act) (w:World)
  (h:wpOp P ops (D1 Qn) i K a w):wpOpIn (Fence.wide.inRound lo) n P ops (D1 Qn) i K' a w:=by
 unfold wpOp at h
 unfold wpOpIn
 split at h
 ·rename_i he;simp only [he];exact hK _ _ h
 ·rename_i o he
  simp only [he]
  split at h
  ·rename_i hw
   rw [if_pos hw]
   rcases h with h | ⟨-,h⟩
   ·refine ⟨fun _ _=>trivial,?_⟩
    rw [Oper.semAt_plain _ _ _ (hdf i o he)]
    exact MH hK _ h
   ·exact (Ma h).elim
  ·rename_i hw
   rw [if_neg hw]
   exact ⟨fun _ _=>trivial,hK _ _ h⟩
theorem My {lo n:Nat} {P:Program} {md:Region.Mode} {ops:Array Oper} (hdf:∀ (i:Nat) o,ops[i]? = some o->∀ c,o.op≠.defer c) {Qn:Act->World->Prop} :
  ∀ (fuel:Nat) (listed:Array Bool) (a:Act) (w:World),wpAny P md ops (D1 Qn) fuel listed a w->wpAnyIn (Fence.wide.inRound lo) n P md ops (D1 Qn) fuel listed a w
 | 0,_,_,_,h=>h
 | fuel+1,listed,a,w,h=>⟨h.1,fun i hi=>Pp hdf (fun a w h=>My hdf fuel _ a w h) a w (h.2 i hi)⟩
theorem DC {lo n:Nat} {P:Program} {id:Nat} {ops:Array Oper} {Q:Exit->Act->World->Prop} {S:World->Prop} {a:Act} {w:World} (hm:P.follows .mixedOrders=true) (hdf:∀ (i:Nat) o,ops[i]? = some o->∀ c,o.op≠.defer c)
  (h:wpAnyH P .any ops (D1 (Q .normal)) S ops.size (Array.replicate ops.size false) a w.drew):(Code.region id ops true).wpIn (Fence.wide.inRound lo) n P Q a w:=
 wpIn_mono (wpIn_region_any hm (My hdf _ _ _ _ (wpAny_of_held _ _ _ _ h))) fun e a w h=>by
  cases e <;> first | exact h | exact h.elim
end Go.Proofs.YtfffpjkcfnekaaaGreat.Ex
namespace Go.Proofs.YtfffpjkcfnekaaaGreat.Ex
open Go.RowKit Go.Shelf
open Go.Value renaming slice -> O, int -> U, bool -> zg, agg -> zh, pointer -> zj, tuple -> zm
open Go.IntKind renaming i64 -> zd
open Go.Obj renaming cells -> ze
open Go.Ending renaming returned -> zk
attribute [local go_sem] Oper.semAt_some
theorem Di {n:Nat} {gs:List (Int × Int)} {l k:Lev} (h:AU n gs=0) (hl:l.len n) (hk:k.len n):Dp n gs l k=0:=by
 have e1:Ct (n:Int) l=0:=by unfold Ct;rw [if_pos ⟨by rw [hl.1],by rw [hl.2]⟩]
 have e2:Ct (n:Int) k=0:=by unfold Ct;rw [if_pos ⟨by rw [hk.1],by rw [hk.2]⟩]
 simp [Dp,Bq,h,e1,e2]
theorem AP {w:World} {x y:Value} {l:Lev} (h:AQ w (zh #[x,y]) l):∃ p1 q1 r1 p2 q2 r2,x=O p1 q1 r1/\y=O p2 q2 r2:=by
 obtain ⟨u,v,e,⟨a,c,e2,-⟩,⟨a',c',e3,-⟩⟩:=h
 simp at e
 obtain ⟨rfl,rfl⟩:=e
 exact ⟨_,_,_,_,_,_,e2,e3⟩
theorem Fq {W W':World} (h:Ov W W'):KeepsOthers W W':=KeepsOthers.of_grownBy (row:=none) ⟨h.os,h.tape,h.output,h.size,fun k hk _=>h.block k hk⟩ (fun _ _ e=>by cases e)
theorem EN {W:World} {p:Addr} {a:Option Addr} {m c:Nat} {v:Value} {l:List Bool} (hp:W.cell? p=some (O a m c)) (h:AN W v l) (u:Value):AN (W.setCell p u) v l:=by
 obtain ⟨ao,cap,hv,hel⟩:=h
 refine ⟨ao,cap,hv,fun hne=>?_⟩
 obtain ⟨b,off,hao,hel⟩:=hel hne
 refine ⟨b,off,hao,fun i hi=>?_⟩
 have hc:=hel i hi
 have hne:p≠⟨b,off+i,none⟩:=by
  rintro rfl
  rw [hp] at hc
  cases hc
 rw [World.cell?_setCell_other _ _ _ _ hne]
 exact hc
theorem DF {W:World} {p:Addr} {a:Option Addr} {m c:Nat} {v:Value} {l:Lev} (hp:W.cell? p=some (O a m c)) (h:AQ W v l) (u:Value):AQ (W.setCell p u) v l:=by
 obtain ⟨x,y,hv,hx,hy⟩:=h
 exact ⟨x,y,hv,EN hp hx u,EN hp hy u⟩
theorem Kh (n:Nat) (L l) (vs:List Int) (v:Int):AZ n L l (vs++[v])=Bs (AZ n L l vs) (L.getD v.toNat AE) n:=by simp [AZ]
def IX (n:Nat) (s:Nat) (wc:List Value) (lr lw:Value) (Ls:List Lev) (l:Lev) (nv:Nat) (pre:List (Eh nv)) (W:World):Prop:=
 ∃ xr xw,W.cell? ⟨s+1,0,none⟩=some xr/\W.cell? ⟨s+1,1,none⟩=some xw/\W.frozen? ⟨s+1,0,none⟩=false/\W.frozen? ⟨s+1,1,none⟩=false/\AQ W (zh #[xr,xw]) (AZ n Ls l (pre.map Subtype.val))/\((xr=lr/\xw=lw)\/Lk s (zh #[xr,xw]))/\Ae wc W s /\
  W.cell? ⟨s+1+1+1,0,none⟩=some (O none 0 0)/\W.cell? ⟨s+1+1+1,1,none⟩=some (O none 0 0)/\W.frozen? ⟨s+1+1+1,0,none⟩=false/\W.frozen? ⟨s+1+1+1,1,none⟩=false
theorem Ki (n:Nat) (s:Nat) (wc:List Value) (lr lw:Value) (Ls l) (nv:Nat):Own (IX n s wc lr lw Ls l nv):=by
 rintro pre A B row ⟨xr,xw,c0,c1,f0,f1,hl,hd,hrow,r0,r1,g0,g1⟩ hg hr
 exact ⟨xr,xw,cell_kept c0 hg hr,cell_kept c1 hg hr,(frozen_kept c0 hg hr).trans f0,(frozen_kept c1 hg hr).trans f1,Fo hl (fun a u h=>cell_kept h hg hr),hd,fun j u h=>cell_kept (hrow j u h) hg hr,cell_kept r0 hg hr,cell_kept r1 hg hr,(frozen_kept r0 hg hr).trans g0,(frozen_kept r1 hg hr).trans g1⟩
theorem Kg {n nv:Nat} {wc:List Value} {lr lw:Value} {Ls:List Lev} {l:Lev} {pre:List (Eh nv)} {x:Eh nv} {w W W2:World} {v1 v2:Value} (hI:IX n w.heap.size wc lr lw Ls l nv pre W) (hB:Ov w W) (hb2:Ov W W2)
  (hf:Be W W2 (zh #[v1,v2]) (Bs (AZ n Ls l (pre.map Subtype.val)) (Ls.getD x.1.toNat AE) n)) :
  KeepsOthers W ((W2.setCell ⟨w.heap.size+1,0,none⟩ v1).setCell ⟨w.heap.size+1,1,none⟩ v2)/\Below w.heap.size W ((W2.setCell ⟨w.heap.size+1,0,none⟩ v1).setCell ⟨w.heap.size+1,1,none⟩ v2)/\IX n w.heap.size wc lr lw Ls l nv (pre++[x]) ((W2.setCell ⟨w.heap.size+1,0,none⟩ v1).setCell ⟨w.heap.size+1,1,none⟩ v2)/\Ov w ((W2.setCell ⟨w.heap.size+1,0,none⟩ v1).setCell ⟨w.heap.size+1,1,none⟩ v2):=by
 obtain ⟨xr,xw,c0,c1,f0,f1,hl,hd,hrow,s0,s1,g0,g1⟩:=hI
 have hbs:w.heap.size+1+1+1 < W.heap.size:=bL s0
 have hBW:Below w.heap.size W ((W2.setCell ⟨w.heap.size+1,0,none⟩ v1).setCell ⟨w.heap.size+1,1,none⟩ v2):=((hb2.mono (by omega)).setCell (by simp) _).setCell (by simp) _
 have hc2:∀ b o u,b≠w.heap.size+1->W.cell? ⟨b,o,none⟩=some u->((W2.setCell ⟨w.heap.size+1,0,none⟩ v1).setCell ⟨w.heap.size+1,1,none⟩ v2).cell? ⟨b,o,none⟩=some u:=fun b o u hb h=>by
  have e:=Ab hb2 _ _ h
  simp [go_sem,e]
 refine ⟨(Fq hb2).trans ((KeepsOthers.setCell _ _ _).trans (KeepsOthers.setCell _ _ _)),hBW,?_,hB.trans hBW⟩
 have hof:=BP hf
 obtain ⟨u1,u2,hu,ho1,ho2,-⟩:=hf
 simp at hu
 obtain ⟨rfl,rfl⟩:=hu
 refine ⟨v1,v2,?_,?_,?_,?_,?_,Or.inr ?_,fun j u h=>hc2 _ _ _ (by omega) (hrow j u h),hc2 _ _ _ (by omega) s0,hc2 _ _ _ (by omega) s1,?_,?_⟩
 ·simp [go_sem,Ab hb2 _ _ c0]
 ·have h0:=Ab hb2 _ _ c1
  simp [go_sem,h0]
 ·simp [go_sem,((Al hb2).2 _ _ (by omega:w.heap.size+1 < W.heap.size)).trans f0]
 ·simp [go_sem,((Al hb2).2 _ _ (by omega:w.heap.size+1 < W.heap.size)).trans f1]
 ·rw [List.map_append,List.map_singleton,Kh]
  refine ⟨v1,v2,rfl,Cg (Bm (Bm ho1 (by simp;omega) _) (by simp;omega) _),Cg (Bm (Bm ho2 (by simp;omega) _) (by simp;omega) _)⟩
 ·obtain ⟨a,b,e,h1,h2⟩:=hof
  exact ⟨a,b,e,fun a n c h=>Nat.le_trans hB.size (h1 a n c h),fun a n c h=>Nat.le_trans hB.size (h2 a n c h)⟩
 ·simp [go_sem,((Al hb2).2 _ _ hbs).trans g0]
 ·simp [go_sem,((Al hb2).2 _ _ hbs).trans g1]
abbrev Lr (w:World) (n:Nat) (ga:Option Addr) (gn gc:Nat) (sa:Option Addr) (sn sc:Nat) (ya:Option Addr) (yn yc:Nat) (oa:Option Addr) (on oc:Nat) (va:Option Addr) (vn vc:Nat) (fa:Option Addr) (fn fc:Nat) (ba:Option Addr) (bn bc b off ln lc:Nat) (ka:Option Addr) (kn kc j:Nat) (b1:Option Addr) (b2 b3:Nat) (b4:Option Addr) (b5 b6:Nat) (Wz:World):Prop:=Wz.cell? ⟨w.heap.size,0,none⟩=some (U zd (n:Int))/\Wz.cell? ⟨w.heap.size,1,none⟩=some (O ga gn gc)/\Wz.cell? ⟨w.heap.size,2,none⟩=some (O sa sn sc)/\Wz.cell? ⟨w.heap.size,3,none⟩=some (O ya yn yc)/\Wz.cell? ⟨w.heap.size,4,none⟩=some (O oa on oc)/\Wz.cell? ⟨w.heap.size,5,none⟩=some (O va vn vc)/\Wz.cell? ⟨w.heap.size,6,none⟩=some (O fa fn fc)/\Wz.cell? ⟨w.heap.size,7,none⟩=some (O ba bn bc)/\Wz.cell? ⟨w.heap.size,8,none⟩=some (O (some ⟨b,off,none⟩) ln lc)/\Wz.cell? ⟨w.heap.size,9,none⟩=some (O ka kn kc)/\Wz.cell? ⟨b,off+j*2,none⟩=some (O b1 b2 b3)/\Wz.cell? ⟨b,off+j*2+1,none⟩=some (O b4 b5 b6)
theorem NS (n:Nat) (h1:1<=n) (h6:n<=6) (ga gn gc sa sn sc ya yn yc oa on oc va vn vc fa fn fc ba bn bc la ln lc ka kn kc gs) (Ls:List Lev) (p1 q1 r1 p2 q2 r2 l) (K:Nat) (ek en:Int) (xa xl xc d) (ys:List (Eh Ls.length)) (w:World)
  (hg:Az w (O ga gn gc) gs) (hE:AU n gs=0) (hL:Bg w (O la ln lc) Ls) (hLl:∀ x∈Ls,x.len n) (hl:AQ w (zh #[O p1 q1 r1,O p2 q2 r2]) l) (hll:l.len n) (hlm:Ls.length<=9223372036854775807)
  (hx:RX w K [U zd ek,U zd en,O xa xl xc] d) (hys:ys.map Subtype.val=AF K d) :
  Calls Tryz.prog 103 #[zh #[U zd (n:Int),O ga gn gc,O sa sn sc,O ya yn yc,O oa on oc,O va vn vc,O fa fn fc,O ba bn bc,O la ln lc,O ka kn kc],zh #[O p1 q1 r1,O p2 q2 r2],zh #[U zd ek,U zd en,O xa xl xc]] w fun e w'=>
   (∃ v,e=zk v/\AQ w' v (AZ n Ls l (AF K d))/\(v=zh #[O p1 q1 r1,O p2 q2 r2]\/Lk w.heap.size v))/\Ov w w':=by
 have hbel:Ov w (((((w.alloc (ze #[U zd (n:Int),O ga gn gc,O sa sn sc,O ya yn yc,O oa on oc,O va vn vc,O fa fn fc,O ba bn bc,O la ln lc,O ka kn kc] 108)).alloc (ze #[O p1 q1 r1,O p2 q2 r2] 50)).alloc (ze #[U zd ek,U zd en,O xa xl xc] 94)).alloc (ze #[O none 0 0,O none 0 0] 50)).alloc (ze #[U zd ek,U zd en,O xa xl xc] 94)):=by
  refine Below.alloc ?_ (by simp <;> omega) _
  refine Below.alloc ?_ (by simp <;> omega) _
  refine Below.alloc ?_ (by simp <;> omega) _
  refine Below.alloc ?_ (by simp <;> omega) _
  exact bA w _
 have hI0:IX n w.heap.size [U zd (n:Int),O ga gn gc,O sa sn sc,O ya yn yc,O oa on oc,O va vn vc,O fa fn fc,O ba bn bc,O la ln lc,O ka kn kc] (O p1 q1 r1) (O p2 q2 r2) Ls l Ls.length [] (((((w.alloc (ze #[U zd (n:Int),O ga gn gc,O sa sn sc,O ya yn yc,O oa on oc,O va vn vc,O fa fn fc,O ba bn bc,O la ln lc,O ka kn kc] 108)).alloc (ze #[O p1 q1 r1,O p2 q2 r2] 50)).alloc (ze #[U zd ek,U zd en,O xa xl xc] 94)).alloc (ze #[O none 0 0,O none 0 0] 50)).alloc (ze #[U zd ek,U zd en,O xa xl xc] 94)):=by
  refine ⟨O p1 q1 r1,O p2 q2 r2,by simp [go_sem],by simp [go_sem],by simp [go_sem],by simp [go_sem],Ag hl hbel,Or.inl ⟨rfl,rfl⟩,?_,by simp [go_sem],by simp [go_sem],by simp [go_sem],by simp [go_sem]⟩
  intro j u hu
  have hj:j < 10:=by have:=(List.getElem?_eq_some_iff.1 hu).1;simpa using this
  rcases (by omega:j=0\/j=1\/j=2\/j=3\/j=4\/j=5\/j=6\/j=7\/j=8\/j=9) with h | h | h | h | h | h | h | h | h | h <;> subst h <;> simp at hu <;> subst hu <;> simp [go_sem]
 obtain ⟨k0,k1,k2⟩:=rc3 (PW w (ze #[U zd (n:Int),O ga gn gc,O sa sn sc,O ya yn yc,O oa on oc,O va vn vc,O fa fn fc,O ba bn bc,O la ln lc,O ka kn kc] 108) (ze #[O p1 q1 r1,O p2 q2 r2] 50) (ze #[U zd ek,U zd en,O xa xl xc] 94) (ze #[O none 0 0,O none 0 0] 50) [U zd ek,U zd en,O xa xl xc] 94)
 have HST:=Aa (FI Fence.wide rfl 2 trivial trivial rfl Ls.length (w.heap.size+1+1+1+1) K w ek en xa xl xc d ys _ (by simp) hbel k0 k1 k2 hx hys)
 have KJ:=Aa fun (W:World) (hB:Ov w W) (xr xw kr kw:Value) (a b:Lev) (ha:AQ W (zh #[xr,xw]) a) (hb:AQ W (zh #[kr,kw]) b) (la':a.len n) (lb:b.len n)=>J3 (n:Int) ga gn gc sa sn sc ya yn yc oa on oc va vn vc fa fn fc ba bn bc la ln lc ka kn kc gs xr xw kr kw a b W (Af hg hB) ha hb (Di hE la' lb)
 have HL:=Aa fun (W:World) (hB:Ov w W)=>Aw hL hB
 have HBEL:=Aa hbel
 have HI0:=Aa hI0
 have hln:ln=Ls.length:=by obtain ⟨ao,cap,he,-⟩:=hL;injection he
 have HYS:=Aa hys
 have HLN:=Aa hln
 have hln2:ln<=9223372036854775807:=by rw [hln];exact hlm
 clear hln
 clear hbel hI0 k0 k1 k2 hx hL hg hE hl hys
 refine (callsIn_wide (n:=3)).1 ?_
 refine callsIn_of_wp_marks Tryz.func103 rfl trivial ?_ rfl
 simp only [Tryz.ntmps103,List.size_toArray,List.length_cons,List.length_nil,Nat.reduceAdd,Nat.reduceSub,Array.replicate_succ,Array.replicate_zero,List.push_toArray,List.append_toArray,List.nil_append,List.cons_append]
 gi_wp2_with (refine ⟨trivial,?_⟩;gi_at_call 164;refine (JW Fence.wide _ trivial rfl _ _ _ _ _ _).mono ?_;rintro e w' ⟨rfl,rfl⟩)
 refine wpIn_rangeFunc_ownF (F:=Fence.wide) rfl (by omega) (gf:=210) (lb:=#[zj (some ⟨w.heap.size+1+1+1+1,0,none⟩)]) rfl trivial (enters_of Tryz.func210 (by kernel_rfl) rfl)
  HST.o belowK_t (belowK_b (by simp <;> omega)) (Below.refl _ _) (fun _=>rfl)
  (fun pre W=>IX n w.heap.size [U zd (n:Int),O ga gn gc,O sa sn sc,O ya yn yc,O oa on oc,O va vn vc,O fa fn fc,O ba bn bc,O la ln lc,O ka kn kc] (O p1 q1 r1) (O p2 q2 r2) Ls l Ls.length pre W/\Ov w W)
  (fun _ _ _=>False)
  (OwnFrom.and (Own.from (Ki n w.heap.size [U zd (n:Int),O ga gn gc,O sa sn sc,O ya yn yc,O oa on oc,O va vn vc,O fa fn fc,O ba bn bc,O la ln lc,O ka kn kc] (O p1 q1 r1) (O p2 q2 r2) Ls l Ls.length) _) (ownFrom_below (Nat.le_refl _) (by simp <;> omega)))
  (fun _ _ _ _ _ hs _ _=>hs)
  ⟨HI0.o,HBEL.o⟩
  (fun x=>{ tmps:=#[zh #[U zd (n:Int),O ga gn gc,O sa sn sc,O ya yn yc,O oa on oc,O va vn vc,O fa fn fc,O ba bn bc,O la ln lc,O ka kn kc],zh #[O p1 q1 r1,O p2 q2 r2],zh #[U zd ek,U zd en,O xa xl xc],zj (some ⟨w.heap.size,0,none⟩),zj (some ⟨w.heap.size+1,0,none⟩),zj (some ⟨w.heap.size+1+1,0,none⟩),zj (some ⟨w.heap.size+1+1+1,0,none⟩),U zd x.1,zh #[U zd ek,U zd en,O xa xl xc],.func (.func 210) #[] #[zj (some ⟨w.heap.size+1+1+1+1,0,none⟩)],U zd x.1,undef,undef,undef,undef,undef,undef,undef,undef,undef,undef],defers:=[] }) ?assign ?body ?done ?stop
 case assign=>
  intro l x W K hK
  gi_wp2
  exact hK
 case body=>
  clear HST HI0 HBEL HYS
  rintro lo pre x W ⟨⟨xr,xw,c0,c1,f0,f1,hl,hd,hrow,s0,s1,g0,g1⟩,hB⟩ _
  have HSTEP:=Aa fun (v1 v2:Value) (W2:World)=>Kg (x:=x) (v1:=v1) (v2:=v2) (W2:=W2) ⟨xr,xw,c0,c1,f0,f1,hl,hd,hrow,s0,s1,g0,g1⟩ hB
  obtain ⟨a1,a2,a3,a4,a5,a6,rfl,rfl⟩:=AP hl
  obtain ⟨x,hx0,hx1⟩:=x
  obtain ⟨j,rfl⟩:∃ j:Nat,x=(j:Int):=⟨x.toNat,by omega⟩
  have hj:j < Ls.length:=by omega
  obtain ⟨b,off,cap,rv,wv,hv,e0w,e1w,hlevw⟩:=GJ (HL.o w (Below.refl _ _)) hj
  have hbb:b < w.heap.size:=bL e0w
  obtain ⟨e0,e1⟩:=co2 hB e0w e1w
  have hlev:=Ag hlevw hB
  clear e0w e1w hlevw
  injection hv with hv1 hv2 hv3
  subst hv1 hv3
  have hj2:j < ln:=by rw [HLN.o];exact hj
  clear hv2
  obtain ⟨b1,b2,b3,b4,b5,b6,rfl,rfl⟩:=AP hlev
  obtain ⟨w0,w1,w2,w3,w4,w5,w6,w7,w8,w9⟩:=Cd hrow
  have KJ2:=Aa (fun W2 (hb:Ov W W2)=>KJ.o W2 (hB.trans (hb.mono hB.size)) _ _ _ _ _ _ (Ag hl hb) (Ag hlev hb) (FH _ _ hll) (hLl _ (List.getElem_mem hj)))
  have hlj:Ls.getD (j:Int).toNat AE=Ls[j]:=by simp [List.getD_eq_getElem?_getD,hj]
  have HLJ:=Aa hlj
  clear hlj
  clear KJ HL hl hlev hd hrow hB hLl hll
  have hj3:(j:Int) < (ln:Int):=by omega
  have hmx:Tryz.prog.follows .mixedOrders=true:=by kernel_rfl
  have hd1:1<=3 - 1 - 1:=by omega
  gi_wp2
  have hSS:(fun W2:World=>Lr w n ga gn gc sa sn sc ya yn yc oa on oc va vn vc fa fn fc ba bn bc b off ln lc ka kn kc j b1 b2 b3 b4 b5 b6 W2) W.drew:=⟨w0,w1,w2,w3,w4,w5,w6,w7,w8,w9,e0,e1⟩
  refine DC (S:=fun W2=>Lr w n ga gn gc sa sn sc ya yn yc oa on oc va vn vc fa fn fc ba bn bc b off ln lc ka kn kc j b1 b2 b3 b4 b5 b6 W2) hmx ?_ ?_
  ·intro i o ho c hc
   match i with
   | 0 | 1 | 2 | 3 | 4 | 5 | 6 | 7 | 8 | 9=>simp at ho;subst ho;cases hc
   | i+10=>simp at ho
  refine kT 0 ?_
  refine kT 2 ?_
  refine kT 3 ?_
  refine kT 4 ?_
  refine kT 5 ?_
  refine kT 6 ?_
  refine kT 7 ?_
  refine rdA 1 rfl fun K hK=>?_
  go_simp
  refine xK hK hSS fun hHeld=>?_
  clear hK K hHeld
  refine rdA 8 rfl fun K hK=>?_
  go_simp
  refine (KJ2.o _ (bD W)).mono ?_
  rintro e wj ⟨vj,rfl,hf,hb⟩
  have HF:=Aa hf
  obtain ⟨v1,v2,rfl,ho1,ho2,-⟩:=hf
  obtain ⟨o1,o2,o3,rfl⟩:=Ak ho1
  obtain ⟨o4,o5,o6,rfl⟩:=Ak ho2
  have HBJ:Hx (Ov W wj):=(bD W).trans (hb.mono (Nat.le_refl _))
  have hbs:w.heap.size+1+1+1 < W.heap.size:=bL s0
  obtain ⟨c0j,c1j⟩:=co2 HBJ.o c0 c1
  have f0j:wj.frozen? ⟨w.heap.size+1,0,none⟩=false:=((Al HBJ.o).2 _ _ (by omega)).trans f0
  have f1j:wj.frozen? ⟨w.heap.size+1,1,none⟩=false:=((Al HBJ.o).2 _ _ (by omega)).trans f1
  have hSj:(fun W2:World=>Lr w n ga gn gc sa sn sc ya yn yc oa on oc va vn vc fa fn fc ba bn bc b off ln lc ka kn kc j b1 b2 b3 b4 b5 b6 W2) wj:=by
   have hh:=Ab HBJ.o
   exact ⟨hh _ _ w0,hh _ _ w1,hh _ _ w2,hh _ _ w3,hh _ _ w4,hh _ _ w5,hh _ _ w6,hh _ _ w7,hh _ _ w8,hh _ _ w9,hh _ _ e0,hh _ _ e1⟩
  go_simp
  refine xK hK hSj fun hHeld=>?_
  clear hK K hHeld
  refine rdA 9 rfl fun K hK=>?_
  go_simp
  refine hK.out _ _ ?_ (fun hHeld=>?_)
  ·obtain ⟨t0,t1,t2,t3,t4,t5,t6,t7,t8,t9,t10,t11⟩:=hSj
   have hne:b≠w.heap.size+1:=by omega
   have ho:∀ b' o' u,b'≠w.heap.size+1->wj.cell? ⟨b',o',none⟩=some u->((wj.setCell ⟨w.heap.size+1,0,none⟩ (O o1 o2 o3)).setCell ⟨w.heap.size+1,1,none⟩ (O o4 o5 o6)).cell? ⟨b',o',none⟩=some u:=fun b' o' u hb' h=>by
    have:=hb'.symm
    simp [go_sem,h]
   exact ⟨ho _ _ _ (by omega) t0,ho _ _ _ (by omega) t1,ho _ _ _ (by omega) t2,ho _ _ _ (by omega) t3,ho _ _ _ (by omega) t4,ho _ _ _ (by omega) t5,ho _ _ _ (by omega) t6,ho _ _ _ (by omega) t7,ho _ _ _ (by omega) t8,ho _ _ _ (by omega) t9,ho _ _ _ hne t10,ho _ _ _ hne t11⟩
  clear hK K hHeld
  refine gE ?_
  have hfin:=HSTEP.o (O o1 o2 o3) (O o4 o5 o6) wj HBJ.o (by rw [HLJ.o];exact HF.o)
  exact hfin
 case done=>
  rintro D zs W hD rfl ⟨⟨xr,xw,c0,c1,f0,f1,hl,hd,hrow,s0,s1,g0,g1⟩,hB⟩ hK
  obtain ⟨a1,a2,a3,a4,a5,a6,rfl,rfl⟩:=AP hl
  gi_wp2
  have hbs:w.heap.size+1+1+1 < W.heap.size:=bL s0
  have hK2:=(KeepsOthers.setCell W ⟨w.heap.size+1+1+1,0,none⟩ (O a1 a2 a3)).same D _ hK rfl
  have hK3:=(KeepsOthers.setCell (W.setCell ⟨w.heap.size+1+1+1,0,none⟩ (O a1 a2 a3)) ⟨w.heap.size+1+1+1,1,none⟩ (O a4 a5 a6)).same D _ hK2 rfl
  have x0:((W.setCell ⟨w.heap.size+1+1+1,0,none⟩ (O a1 a2 a3)).setCell ⟨w.heap.size+1+1+1,1,none⟩ (O a4 a5 a6)).cell? ⟨w.heap.size+1+1+1,0,none⟩=some (O a1 a2 a3):=by simp [go_sem,s0]
  have x1:((W.setCell ⟨w.heap.size+1+1+1,0,none⟩ (O a1 a2 a3)).setCell ⟨w.heap.size+1+1+1,1,none⟩ (O a4 a5 a6)).cell? ⟨w.heap.size+1+1+1,1,none⟩=some (O a4 a5 a6):=by simp [go_sem,s1]
  have hkc:∀ a u,((W.setCell ⟨w.heap.size+1+1+1,0,none⟩ (O a1 a2 a3)).setCell ⟨w.heap.size+1+1+1,1,none⟩ (O a4 a5 a6)).cell? a=some u->(((W.setCell ⟨w.heap.size+1+1+1,0,none⟩ (O a1 a2 a3)).setCell ⟨w.heap.size+1+1+1,1,none⟩ (O a4 a5 a6)).putObj D (.deferred none)).cell? a=some u:=fun a u h=>cell_kept h (grownBy_putObj' _ D (.deferred none)) (fun r e=>by cases e;exact ⟨_,hK3,rfl⟩)
  have y0:=hkc _ _ x0
  have y1:=hkc _ _ x1
  have s1':(W.setCell ⟨w.heap.size+1+1+1,0,none⟩ (O a1 a2 a3)).cell? ⟨w.heap.size+1+1+1,1,none⟩=some (O none 0 0):=by simp [go_sem,s1]
  refine ⟨by simp,.inl ⟨_,_,rfl,run_takeDeferred hK3,?_⟩⟩
  refine ⟨zh #[O a1 a2 a3,O a4 a5 a6],by simp [results,Tryz.f103,go_sem,y0,y1],⟨_,rfl,?_,?_⟩,?_⟩
  ·rw [<-HYS.o]
   exact Fo (DF s1' (DF s0 hl _) _) hkc
  ·rcases hd with ⟨h1,h2⟩ | h
   ·exact Or.inl (by rw [h1,h2])
   ·exact Or.inr h
  ·exact ((hB.setCell (by simp;omega) _).setCell (by simp;omega) _).trans (belowK_b (w:=w) (Nat.le_refl _) _ D _ _ (by simp at hD;omega) hK3 rfl rfl)
 case stop=>
  rintro D c pre W _ _ h _
  exact h.elim
end Go.Proofs.YtfffpjkcfnekaaaGreat.Ex
namespace Go.Proofs.YtfffpjkcfnekaaaGreat.Ex
open Go.RowKit
open Go.Value renaming slice -> O, int -> U, bool -> zg, agg -> zh, pointer -> zj, tuple -> zm
open Go.IntKind renaming i64 -> zd
open Go.Obj renaming cells -> ze
open Go.Ending renaming returned -> zk
structure WC where
 n:Nat
 ga:Option Addr
 gn:Nat
 gc:Nat
 sa:Option Addr
 sn:Nat
 sc:Nat
 ya:Option Addr
 yn:Nat
 yc:Nat
 oa:Option Addr
 on:Nat
 oc:Nat
 va:Option Addr
 vn:Nat
 vc:Nat
 fa:Option Addr
 fn:Nat
 fc:Nat
 ba:Option Addr
 bn:Nat
 bc:Nat
 la:Option Addr
 ln:Nat
 lc:Nat
 ka:Option Addr
 kn:Nat
 kc:Nat
abbrev WC.v (c:WC):Value:=zh #[U zd (c.n:Int),O c.ga c.gn c.gc,O c.sa c.sn c.sc,O c.ya c.yn c.yc,O c.oa c.on c.oc,O c.va c.vn c.vc,O c.fa c.fn c.fc,O c.ba c.bn c.bc,O c.la c.ln c.lc,O c.ka c.kn c.kc]
abbrev WC.cs (c:WC):List Value:=[U zd (c.n:Int),O c.ga c.gn c.gc,O c.sa c.sn c.sc,O c.ya c.yn c.yc,O c.oa c.on c.oc,O c.va c.vn c.vc,O c.fa c.fn c.fc,O c.ba c.bn c.bc,O c.la c.ln c.lc,O c.ka c.kn c.kc]
structure FrW (X:World->Nat->Prop) (W W':World):Prop where
 os:W'.os=W.os
 tape:W'.tape=W.tape
 output:W'.output=W.output
 size:W.heap.size<=W'.heap.size
 block:∀ k,k < W.heap.size->¬ X W k->W'.heap[k]? = W.heap[k]?
 mov:∀ k,k < W.heap.size->X W' k->X W k
theorem FrW.trans {X:World->Nat->Prop} {A B C:World} (h:FrW X A B) (k:FrW X B C):FrW X A C:=
 ⟨k.os.trans h.os,k.tape.trans h.tape,k.output.trans h.output,Nat.le_trans h.size k.size,fun i hi hx=>(k.block i (Nat.lt_of_lt_of_le hi h.size) (fun hh=>hx (h.mov i hi hh))).trans (h.block i hi hx),fun i hi hx=>h.mov i hi (k.mov i (Nat.lt_of_lt_of_le hi h.size) hx)⟩
structure XOk (X:World->Nat->Prop):Prop where
 below:∀ W W',Ov W W'->∀ k,X W' k->X W k
theorem FrW.of_below {X:World->Nat->Prop} (hX:XOk X) {A B:World} (h:Ov A B):FrW X A B:=⟨h.os,h.tape,h.output,h.size,fun k hk _=>h.block k hk,fun k _ hx=>hX.below A B h k hx⟩
theorem FrW.refl {X:World->Nat->Prop} (A:World):FrW X A A:=⟨rfl,rfl,rfl,Nat.le_refl _,fun _ _ _=>rfl,fun _ _ h=>h⟩
theorem FrW.cell {X:World->Nat->Prop} {A B:World} (h:FrW X A B) {b j:Nat} {u:Value} (hc:A.cell? ⟨b,j,none⟩=some u) (hx:¬ X A b):B.cell? ⟨b,j,none⟩=some u:=
 (World.cell?_of_block (h.block b (bL hc) hx)).trans hc
theorem FrW.row {X:World->Nat->Prop} {A B:World} (h:FrW X A B) {b:Nat} {cs:List Value} (hc:Ae cs A b) (hx:¬ X A b):Ae cs B b:=fun j u hu=>h.cell (hc j u hu) hx
def O4 (P:Nat->Prop) (v:Value):Prop:=∃ x y,v=zh #[x,y]/\(∀ a n c,x=O (some a) n c->¬ P a.block)/\∀ a n c,y=O (some a) n c->¬ P a.block
structure AY (n:Nat) (X:World->Nat->Prop) (W:World) (v:Value) (l:Lev):Prop where
 at_:AQ W v l
 len:l.len n
 off:O4 (X W) v
theorem DH {X:World->Nat->Prop} {A B:World} {v:Value} {l:List Bool} (h:AN A v l) (hf:FrW X A B) (hx:∀ a n c,v=O (some a) n c->¬ X A a.block):AN B v l:=by
 obtain ⟨ao,cap,hv,hel⟩:=h
 refine ⟨ao,cap,hv,fun hne=>?_⟩
 obtain ⟨b,off,hao,hel⟩:=hel hne
 refine ⟨b,off,hao,fun i hi=>hf.cell (hel i hi) ?_⟩
 exact hx ⟨b,off,none⟩ l.length cap (by rw [hv,hao])
theorem AY.keep {n:Nat} {X:World->Nat->Prop} {A B:World} {v:Value} {l:Lev} (h1:1<=n) (h:AY n X A v l) (hf:FrW X A B):AY n X B v l:=by
 obtain ⟨x,y,hv,hx,hy⟩:=h.off
 obtain ⟨x',y',hv',bx,by'⟩:=h.at_
 rw [hv] at hv'
 simp at hv'
 obtain ⟨rfl,rfl⟩:=hv'
 have lt:∀ (v:Value) (l:List Bool),AN A v l->l.length=n->∀ a m c,v=O (some a) m c->a.block < A.heap.size:=by
  intro v l hb hl a m c e
  obtain ⟨ao,cap,hv,hel⟩:=hb
  obtain ⟨b,off,hao,hel⟩:=hel (by rintro rfl;simp at hl;omega)
  rw [hv,hao] at e
  injection e with e1
  injection e1 with e1
  rw [<-e1]
  exact bL (hel 0 (by omega))
 refine ⟨⟨x,y,hv,DH bx hf hx,DH by' hf hy⟩,h.len,x,y,hv,fun a m c e hh=>hx a m c e (hf.mov _ (lt _ _ bx h.len.1 a m c e) hh),fun a m c e hh=>hy a m c e (hf.mov _ (lt _ _ by' h.len.2 a m c e) hh)⟩
theorem AY.over {n:Nat} {X:World->Nat->Prop} (hX:XOk X) {A B:World} {v:Value} {l:Lev} (h:AY n X A v l) (hb:Ov A B):AY n X B v l:=by
 obtain ⟨x,y,hv,hx,hy⟩:=h.off
 exact ⟨Ag h.at_ hb,h.len,x,y,hv,fun a m c e hh=>hx a m c e (hX.below A B hb _ hh),fun a m c e hh=>hy a m c e (hX.below A B hb _ hh)⟩
theorem Cz {X:World->Nat->Prop} (hX:XOk X) {A B:World} (hb:Ov A B) (hlt:∀ k,X A k->k < A.heap.size) {v:Value} (h:Lk A.heap.size v):O4 (X B) v:=by
 obtain ⟨x,y,hv,hx,hy⟩:=h
 refine ⟨x,y,hv,fun a m c e hh=>?_,fun a m c e hh=>?_⟩
 ·have:=hx a m c e
  have:=hlt _ (hX.below A B hb _ hh)
  omega
 ·have:=hy a m c e
  have:=hlt _ (hX.below A B hb _ hh)
  omega
def Bd (n:Nat) (X:World->Nat->Prop) (w:World) (v:Value) (ls:List Lev):Prop:=
 ∃ ao cap,v=O ao ls.length cap/\(ls≠[]->∃ b off,ao=some ⟨b,off,none⟩/\∀ i (h:i < ls.length),∃ rv wv,w.cell? ⟨b,off+i*2,none⟩=some rv/\w.cell? ⟨b,off+i*2+1,none⟩=some wv/\AY n X w (zh #[rv,wv]) ls[i])
theorem Bd.levs {n:Nat} {X:World->Nat->Prop} {w:World} {v:Value} {ls:List Lev} (h:Bd n X w v ls):Bg w v ls:=by
 obtain ⟨ao,cap,hv,hel⟩:=h
 refine ⟨ao,cap,hv,fun hne=>?_⟩
 obtain ⟨b,off,hao,hel⟩:=hel hne
 refine ⟨b,off,hao,fun i hi=>?_⟩
 obtain ⟨rv,wv,h1,h2,h3⟩:=hel i hi
 exact ⟨rv,wv,h1,h2,h3.at_⟩
theorem Bd.len {n:Nat} {X:World->Nat->Prop} {w:World} {v:Value} {ls:List Lev} (h:Bd n X w v ls):∀ x∈ls,x.len n:=by
 intro x hx
 obtain ⟨i,hi,rfl⟩:=List.getElem_of_mem hx
 obtain ⟨ao,cap,hv,hel⟩:=h
 obtain ⟨b,off,hao,hel⟩:=hel (by rintro rfl;simp at hi)
 obtain ⟨rv,wv,-,-,h3⟩:=hel i hi
 exact h3.len
theorem Bd.over {n:Nat} {X:World->Nat->Prop} (hX:XOk X) {w w':World} {v:Value} {ls:List Lev} (h:Bd n X w v ls) (hb:Ov w w'):Bd n X w' v ls:=by
 obtain ⟨ao,cap,hv,hel⟩:=h
 refine ⟨ao,cap,hv,fun hne=>?_⟩
 obtain ⟨b,off,hao,hel⟩:=hel hne
 refine ⟨b,off,hao,fun i hi=>?_⟩
 obtain ⟨rv,wv,h1,h2,h3⟩:=hel i hi
 exact ⟨rv,wv,Ab hb _ _ h1,Ab hb _ _ h2,h3.over hX hb⟩
theorem DU (c:WC) (h1:1<=c.n) (h6:c.n<=6) (gs Ls) (X:World->Nat->Prop) (hX:XOk X) (v:Value) (l) (K:Nat) (cs:List Value) (d) (w:World)
  (hg:Az w (O c.ga c.gn c.gc) gs) (hE:AU c.n gs=0) (hL:Bd c.n X w (O c.la c.ln c.lc) Ls) (hl:AY c.n X w v l) (hlm:Ls.length<=16) (hlt:∀ k,X w k->k < w.heap.size)
  (hx:RX w K cs d) (hv:∀ x∈AF K d,0<=x/\x < (Ls.length:Int)) :
  Calls Tryz.prog 103 #[c.v,v,.agg cs.toArray] w fun e w'=>
   (∃ p1 q1 r1 p2 q2 r2,e=zk (zh #[O p1 q1 r1,O p2 q2 r2])/\AY c.n X w' (zh #[O p1 q1 r1,O p2 q2 r2]) (AZ c.n Ls l (AF K d)))/\Ov w w':=by
 obtain ⟨ys,hys⟩:=LE Ls.length _ hv
 obtain ⟨xa,xc,rfl⟩:=hx.form
 obtain ⟨x,y,rfl,-⟩:=hl.at_
 obtain ⟨p1,q1,r1,p2,q2,r2,rfl,rfl⟩:=AP hl.at_
 refine (NS c.n h1 h6 c.ga c.gn c.gc c.sa c.sn c.sc c.ya c.yn c.yc c.oa c.on c.oc c.va c.vn c.vc c.fa c.fn c.fc c.ba c.bn c.bc c.la c.ln c.lc c.ka c.kn c.kc gs Ls p1 q1 r1 p2 q2 r2 l K _ _ xa _ xc d ys w hg hE hL.levs hL.len hl.at_ hl.len (by omega) hx hys).mono ?_
 rintro e w' ⟨⟨v,rfl,hv2,hd⟩,hb⟩
 refine ⟨?_,hb⟩
 have hv3:=hv2
 have ho:O4 (X w') v:=by
  rcases hd with rfl | hd
  ·exact (hl.over hX hb).off
  ·exact Cz hX hb hlt hd
 have hlen:=FH (L:=Ls) (AF K d) l hl.len
 obtain ⟨x,y,rfl,-⟩:=hv2
 obtain ⟨a1,a2,a3,a4,a5,a6,rfl,rfl⟩:=AP hv3
 exact ⟨_,_,_,_,_,_,rfl,hv3,hlen,ho⟩
theorem Gz {m:Int}:∀ (k:Nat) (d:D),(∀ x∈Bn k d,CS m (AI x) (Bc x) (AH x).length=0)->∀ v∈AF k d,0<=v/\v < m
 | 0,_,_,v,hv=>by simp [AF] at hv
 | k+1,d,h,v,hv=>by
  unfold AF at hv
  have h0:=Fc (h d (by simp [Bn]))
  by_cases h2:AI d=2
  ·rw [if_pos h2] at hv
   simp at hv
   subst hv
   omega
  ·rw [if_neg h2] at hv
   obtain ⟨a,ha,hv⟩:=List.mem_flatMap.1 hv
   exact Gz k a (fun x hx=>h x (by simp only [Bn,List.mem_cons,List.mem_flatMap];exact Or.inr ⟨a,ha,hx⟩)) v hv
theorem CO {m:Int} {k:Nat} {d:D} (h:A2 m k d=0):∀ v∈AF k d,0<=v/\v < m:=by
 unfold A2 at h
 split at h
 ·omega
 ·exact Gz k d (Fu h)
theorem Kj {k:Nat} {d:D} (h0:AI d=0) (ha:AH d=[]):AF k d=[]:=by
 cases k with
 | zero=>rfl
 | succ k=>unfold AF;rw [if_neg (by omega),ha];rfl
theorem BD {K nv ni no:Nat} {funcs:Int} {fs:List FnD} {d:D} (h:CJ K nv ni no funcs fs d):∀ v∈AF K (AV d),0<=v/\v < (nv:Int):=by
 obtain ⟨h1,-,-,-,h5,h6,-⟩:=h
 by_cases hk:Am d=2\/Am d=3
 ·rw [Kj (h6 hk).1 (h6 hk).2]
  intro v hv
  cases hv
 ·exact CO (h5 (by omega))
section
variable {σ:Type} (c:WC) (w0:World) (K nv ni no:Nat) (fs:List FnD) (gs:List (Int × Int)) (lev flev:σ->List Lev) (Inv:σ->World->Prop) (X:World->Nat->Prop)
structure Eg:Prop where
 n1:1<=c.n
 n6:c.n<=6
 gr:Az w0 (O c.ga c.gn c.gc) gs
 chk:AU c.n gs=0
 nv16:nv<=16
 below:∀ st W,Inv st W->Ov w0 W
 levs:∀ st W,Inv st W->Bd c.n X W (O c.la c.ln c.lc) (lev st)/\(lev st).length=nv
 flevs:∀ st W,Inv st W->Bd c.n X W (O c.ka c.kn c.kc) (flev st)/\(flev st).length=fs.length
 over:∀ st W W',Inv st W->Ov W W'->Inv st W'
 xok:XOk X
 xlt:∀ st W,Inv st W->∀ k,X W k->k < W.heap.size
def Nu (step:Int->D->Lev->σ->σ) (F:FuncId) (fre cap:List Value) (Pm:Int->σ->Prop):Prop:=
 ∀ (st:σ) (W:World) (a:Int) (k:Nat) (cs:List Value) (d:D) (v:Value) (p:Lev) (funcs:Int),Inv st W->RS w0 K (k+1) cs d->funcs<=fs.length->CJ K nv ni no funcs fs d->AY c.n X W v p->0<=a->a<=100->Pm a st ->
  Calls Tryz.prog F (fre++U zd a::.agg cs.toArray::v::cap).toArray W fun e W'=>e=zk (zm #[])/\Inv (step a d p st) W'/\FrW X W W'
end
section
variable {σ:Type} {c:WC} {w0:World} {K nv ni no:Nat} {fs:List FnD} {gs:List (Int × Int)} {lev flev:σ->List Lev} {Inv:σ->World->Prop} {X:World->Nat->Prop}
theorem Fa {n K:Nat} {lev:σ->List Lev} {step:Int->D->Lev->σ->σ} {cnt1:List D->Nat} {rec:List D->Int->Lev->σ->σ} {p:Lev} {k:Nat}:∀ (l:List D) (q:Int × σ),(l.foldl (En n K lev step (CW k) cnt1 rec p) q).1=q.1+(A7 k l:Nat)
 | [],q=>by simp [A7]
 | d::l,q=>by
  rw [List.foldl_cons,Fa l]
  simp [En,A7]
  omega
theorem Hq {k:Nat} {l:List D} {j:Nat} (hj:j < l.length):A7 k (l.take j)+CW k l[j]<=A7 k l:=by
 rw [<-GN hj]
 unfold A7
 conv=>rhs;rw [<-List.take_append_drop (j+1) l]
 rw [List.map_append,List.sum_append]
 omega
theorem AY.form {n:Nat} {W:World} {v:Value} {l:Lev} (h:AY n X W v l):∃ p1 q1 r1 p2 q2 r2,v=zh #[O p1 q1 r1,O p2 q2 r2]:=by
 obtain ⟨x,y,hv,-⟩:=h.at_
 have h2:=h.at_
 rw [hv] at h2
 obtain ⟨p1,q1,r1,p2,q2,r2,rfl,rfl⟩:=AP h2
 exact ⟨_,_,_,_,_,_,hv⟩
structure JQ (Pm:Int->σ->Prop) (step:Int->D->Lev->σ->σ):Prop where
 step:∀ a d p st,Pm a st->Pm (a+1) (step a d p st)
 mono:∀ a b st,a<=b->Pm a st->Pm b st
theorem MP (step:Int->D->Lev->σ->σ):JQ (fun _ _=>True) step:=⟨fun _ _ _ _ _=>trivial,fun _ _ _ _ _=>trivial⟩
theorem FD {n K:Nat} {lev:σ->List Lev} {step:Int->D->Lev->σ->σ} {Pm:Int->σ->Prop} (h:JQ Pm step) {k:Nat} (ih:∀ (l:List D) (a:Int) (p:Lev) (st:σ),Pm a st->Pm (a+(A7 k l:Nat)) (goS n K lev step k l a p st)) {p:Lev}:∀ (l:List D) (q:Int × σ),Pm q.1 q.2->Pm (l.foldl (En n K lev step (CW (k+1)) (A7 k) (goS n K lev step k) p) q).1 (l.foldl (En n K lev step (CW (k+1)) (A7 k) (goS n K lev step k) p) q).2
 | [],q,hq=>hq
 | d::l,q,hq=>by
  rw [List.foldl_cons]
  refine FD h ih l _ ?_
  have h3:=ih (Ax d) _ (AZ n (lev (step q.1 d p q.2)) p (AF K (AV d))) _ (ih (Av d) _ (AZ n (lev (step q.1 d p q.2)) p (AF K (AV d))) _ (h.step _ d p _ hq))
  have he:q.1+((CW (k+1) d:Nat):Int)=q.1+1+(A7 k (Av d):Nat)+(A7 k (Ax d):Nat):=by
   have:CW (k+1) d=1+A7 k (Av d)+A7 k (Ax d):=rfl
   rw [this];push_cast;omega
  show Pm (q.1+((CW (k+1) d:Nat):Int)) _
  rw [he]
  exact h3
theorem IB {n K:Nat} {lev:σ->List Lev} {step:Int->D->Lev->σ->σ} {Pm:Int->σ->Prop} (h:JQ Pm step):∀ (k:Nat) (l:List D) (a:Int) (p:Lev) (st:σ),Pm a st->Pm (a+(A7 k l:Nat)) (goS n K lev step k l a p st)
 | 0,l,a,p,st,hp=>h.mono _ _ _ (by omega) hp
 | k+1,l,a,p,st,hp=>by
  have h1:=FD (n:=n) (K:=K) (lev:=lev) h (IB h k) (p:=p) l (a,st) hp
  rw [Fa] at h1
  exact h1
theorem NV (I:Eg c w0 nv fs gs lev flev Inv X) (step:Int->D->Lev->σ->σ) (F:FuncId) (fre cap:List Value) (Pm:Int->σ->Prop) (hPm:Hx (JQ Pm step)) (hC:∀ (args:Array Value) (w:World),(callFunc F args).run Tryz.prog w=.ok (.enter F args) w) (hdo:Hx (Nu c w0 K nv ni no fs Inv X step F fre cap Pm)) (funcs:Int) (hfn:funcs<=fs.length) :
  ∀ (k:Nat) (vl:Value) (l:List D) (a:Int) (v:Value) (p:Lev) (st:σ) (W:World),Bf w0 K k vl l->(∀ s∈l,okS K nv ni no funcs fs k s)->Inv st W->AY c.n X W v p->0<=a->a+(A7 k l:Nat)<=50->Pm a st ->
   Calls Tryz.prog 148 #[c.v,vl,U zd a,v,.func (.func F) fre.toArray cap.toArray] W fun e W'=>e=zk (U zd (a+(A7 k l:Nat)))/\Inv (goS c.n K lev step k l a p st) W'/\FrW X W W':=by
 intro k
 induction k with
 | zero=>
  intro vl l a v p st W hs _ hI hp h0 h50 _
  obtain rfl:=hs.zero
  obtain ⟨-,ao,cap,rfl,-⟩:=hs
  obtain ⟨p1,q1,r1,p2,q2,r2,rfl⟩:=hp.form
  have hb:Ov W ((W.alloc (ze #[U zd (c.n:Int),O c.ga c.gn c.gc,O c.sa c.sn c.sc,O c.ya c.yn c.yc,O c.oa c.on c.oc,O c.va c.vn c.vc,O c.fa c.fn c.fc,O c.ba c.bn c.bc,O c.la c.ln c.lc,O c.ka c.kn c.kc] 108)).alloc (ze #[O p1 q1 r1,O p2 q2 r2] 50)):=(bA W _).alloc (by simp) _
  have HI:=Aa (I.over _ _ _ hI hb)
  have HF:=Aa (FrW.of_below I.xok hb)
  clear hdo hb
  go_enter Tryz.func148,Tryz.ntmps148
  go_wp2_with fail
  go_loopw [16,2] (fun i x wr=>i=U zd 0/\x=U zd a/\wr=((W.alloc (ze #[U zd (c.n:Int),O c.ga c.gn c.gc,O c.sa c.sn c.sc,O c.ya c.yn c.yc,O c.oa c.on c.oc,O c.va c.vn c.vc,O c.fa c.fn c.fc,O c.ba c.bn c.bc,O c.la c.ln c.lc,O c.ka c.kn c.kc] 108)).alloc (ze #[O p1 q1 r1,O p2 q2 r2] 50))) (fun _ _ _=>0)
  case atStart=>exact ⟨rfl,rfl,rfl⟩
  case round=>
   obtain ⟨rfl,rfl,rfl⟩:=hrel
   go_wp2_with fail
   go_ret
   exact ⟨by simp [A7],HI.o,HF.o⟩
 | succ k ih=>
  intro vl l a v p st W hs hok hI hp h0 h50 hpm
  have HPM:=Aa hpm
  clear hpm
  obtain ⟨p1,q1,r1,p2,q2,r2,rfl⟩:=hp.form
  have hb:Ov W ((W.alloc (ze #[U zd (c.n:Int),O c.ga c.gn c.gc,O c.sa c.sn c.sc,O c.ya c.yn c.yc,O c.oa c.on c.oc,O c.va c.vn c.vc,O c.fa c.fn c.fc,O c.ba c.bn c.bc,O c.la c.ln c.lc,O c.ka c.kn c.kc] 108)).alloc (ze #[O p1 q1 r1,O p2 q2 r2] 50)):=(bA W _).alloc (by simp) _
  obtain ⟨hlm,ao,cap,rfl,hel⟩:=hs
  have hlm2:l.length<=9223372036854775807:=hlm
  have xs0:¬ X ((W.alloc (ze #[U zd (c.n:Int),O c.ga c.gn c.gc,O c.sa c.sn c.sc,O c.ya c.yn c.yc,O c.oa c.on c.oc,O c.va c.vn c.vc,O c.fa c.fn c.fc,O c.ba c.bn c.bc,O c.la c.ln c.lc,O c.ka c.kn c.kc] 108)).alloc (ze #[O p1 q1 r1,O p2 q2 r2] 50)) W.heap.size:=fun h=>by have:=I.xlt _ _ hI _ (I.xok.below _ _ hb _ h);omega
  have xs1:¬ X ((W.alloc (ze #[U zd (c.n:Int),O c.ga c.gn c.gc,O c.sa c.sn c.sc,O c.ya c.yn c.yc,O c.oa c.on c.oc,O c.va c.vn c.vc,O c.fa c.fn c.fc,O c.ba c.bn c.bc,O c.la c.ln c.lc,O c.ka c.kn c.kc] 108)).alloc (ze #[O p1 q1 r1,O p2 q2 r2] 50)) (W.heap.size+1):=fun h=>by have:=I.xlt _ _ hI _ (I.xok.below _ _ hb _ h);omega
  have row0:Ae c.cs ((W.alloc (ze #[U zd (c.n:Int),O c.ga c.gn c.gc,O c.sa c.sn c.sc,O c.ya c.yn c.yc,O c.oa c.on c.oc,O c.va c.vn c.vc,O c.fa c.fn c.fc,O c.ba c.bn c.bc,O c.la c.ln c.lc,O c.ka c.kn c.kc] 108)).alloc (ze #[O p1 q1 r1,O p2 q2 r2] 50)) W.heap.size:=(Ae.new c.cs 108 W).over (bA _ _)
  have row1:Ae [O p1 q1 r1,O p2 q2 r2] ((W.alloc (ze #[U zd (c.n:Int),O c.ga c.gn c.gc,O c.sa c.sn c.sc,O c.ya c.yn c.yc,O c.oa c.on c.oc,O c.va c.vn c.vc,O c.fa c.fn c.fc,O c.ba c.bn c.bc,O c.la c.ln c.lc,O c.ka c.kn c.kc] 108)).alloc (ze #[O p1 q1 r1,O p2 q2 r2] 50)) (W.heap.size+1):=by
   have r:=Ae.new [O p1 q1 r1,O p2 q2 r2] 50 (W.alloc (ze #[U zd (c.n:Int),O c.ga c.gn c.gc,O c.sa c.sn c.sc,O c.ya c.yn c.yc,O c.oa c.on c.oc,O c.va c.vn c.vc,O c.fa c.fn c.fc,O c.ba c.bn c.bc,O c.la c.ln c.lc,O c.ka c.kn c.kc] 108))
   simpa using r
  have HP0:=Aa (hp.over I.xok hb)
  have HX0:=Aa xs0
  have HX1:=Aa xs1
  have HR0:=Aa row0
  have HR1:=Aa row1
  have HI0:=Aa (I.over _ _ _ hI hb)
  have HF0:=Aa (FrW.of_below I.xok hb)
  have HEL:=Aa hel
  have HOK:=Aa hok
  have IH:=Aa ih
  have HI:=Aa I
  obtain ⟨Q,hQ⟩:∃ Q:Nat->Int × σ,Q=fun j=>(l.take j).foldl (En c.n K lev step (CW (k+1)) (A7 k) (goS c.n K lev step k) p) (a,st):=⟨_,rfl⟩
  have HQ:=Aa hQ
  have hQ1:∀ j,(Q j).1=a+(A7 (k+1) (l.take j):Nat):=fun j=>by rw [hQ];exact Fa _ _
  have HQ1:=Aa hQ1
  obtain ⟨W0,hW0⟩:=nm (((W.alloc (ze #[U zd (c.n:Int),O c.ga c.gn c.gc,O c.sa c.sn c.sc,O c.ya c.yn c.yc,O c.oa c.on c.oc,O c.va c.vn c.vc,O c.fa c.fn c.fc,O c.ba c.bn c.bc,O c.la c.ln c.lc,O c.ka c.kn c.kc] 108)).alloc (ze #[O p1 q1 r1,O p2 q2 r2] 50)))
  have hq0:Q 0=(a,st):=by rw [hQ];rfl
  have HQ0:=Aa hq0
  have H50:=Aa h50
  rw [<-hW0] at HP0 HX0 HX1 HR0 HR1 HI0 HF0
  clear hb xs0 xs1 row0 row1 hel hok ih I hI hp hQ1 hq0 hQ h50
  go_enter Tryz.func148,Tryz.ntmps148
  go_wp2_with fail
  go_loopw [16,2] (fun i x wr=>∃ j:Nat,j<=l.length/\i=U zd j/\x=U zd (Q j).1/\Inv (Q j).2 wr/\FrW X W0 wr) (fun i _ _=>l.length - (intOf i).toNat)
  case atStart=>exact ⟨0,Nat.zero_le _,rfl,by rw [HQ0.o],by rw [HQ0.o,<-hW0];exact HI0.o,by rw [<-hW0];exact FrW.refl _⟩
  case round=>
   obtain ⟨j,hj,rfl,rfl,hI,hF⟩:=hrel
   clear hW0
   obtain ⟨at_,hat⟩:=nm ((Q j).1)
   have hatv:at_=a+(A7 (k+1) (l.take j):Nat):=hat.trans (HQ1.o j)
   rw [<-hat]
   have HAT:=Aa hat
   by_cases hlt:j < l.length
   ·have hcl:=Hq (k:=k+1) hlt
    have h50':=H50.o
    have hc1:CW (k+1) l[j]=1+A7 k (Av l[j])+A7 k (Ax l[j]):=rfl
    have ha0:0<=at_:=by omega
    have ha1:at_+(1+A7 k (Av l[j])+A7 k (Ax l[j]):Nat)<=50:=by omega
    have hcell:=Ab (HI.o.below _ _ hI)
    obtain ⟨b,off,rfl,hcs⟩:=HEL.o (by rintro rfl;simp at hlt)
    obtain ⟨cs,hl9,hcc,hrs⟩:=hcs j l[j] (List.getElem?_eq_getElem hlt)
    obtain ⟨hok1,hokT,hokE⟩:=HOK.o l[j] (List.getElem_mem hlt)
    obtain ⟨d,hd⟩:=nm (l[j])
    rw [<-hd] at hrs hok1 hokT hokE ha1
    have HD:=Aa hd
    have HRS:=Aa hrs
    obtain ⟨ek,en,xa,xl,xc,aa,ac,ta,tc,ea,ec,rfl,i0,i1,i2,hX,-,hT,hE,-,-,-⟩:=hrs.form
    obtain ⟨kd,hkd⟩:=nm (Am d)
    obtain ⟨vr,hvr⟩:=nm (AK d)
    obtain ⟨ot,hot⟩:=nm (Ah d)
    obtain ⟨al,hal⟩:=nm ((Ap d).length)
    obtain ⟨tl,htl⟩:=nm ((Av d).length)
    obtain ⟨el,hel⟩:=nm ((Ax d).length)
    rw [<-hkd,<-hvr,<-hot,<-hal,<-htl,<-hel] at hcc HRS
    rw [<-htl] at hT
    rw [<-hel] at hE
    have g0:wr.cell? ⟨b,off+j*9,none⟩=_:=hcell _ _ (hcc 0 _ rfl)
    have g1:=hcell _ _ (hcc 1 _ rfl)
    have g2:=hcell _ _ (hcc 2 _ rfl)
    have g3:=hcell _ _ (hcc 3 _ rfl)
    have g4:=hcell _ _ (hcc 4 _ rfl)
    have g5:=hcell _ _ (hcc 5 _ rfl)
    have g6:=hcell _ _ (hcc 6 _ rfl)
    have g7:=hcell _ _ (hcc 7 _ rfl)
    have g8:=hcell _ _ (hcc 8 _ rfl)
    have hba:=bA wr (ze #[U zd kd,U zd vr,U zd ot,U zd ek,U zd en,O xa xl xc,O aa al ac,O ta tl tc,O ea el ec] 130)
    have rowS:=Ae.new [U zd kd,U zd vr,U zd ot,U zd ek,U zd en,O xa xl xc,O aa al ac,O ta tl tc,O ea el ec] 130 wr
    have hF1:=hF.trans (FrW.of_below HI.o.xok hba)
    have hI1:=HI.o.over _ _ _ hI hba
    have xsS:¬ X (wr.alloc (ze #[U zd kd,U zd vr,U zd ot,U zd ek,U zd en,O xa xl xc,O aa al ac,O ta tl tc,O ea el ec] 130)) wr.heap.size:=fun h=>by have:=HI.o.xlt _ _ hI _ (HI.o.xok.below _ _ hba _ h);omega
    have hP1:=HP0.o.keep HI.o.n1 hF1
    have K1:=Aa (hdo.o (Q j).2 _ at_ k _ d _ p funcs hI1 HRS.o hfn hok1 hP1 ha0 (by omega) (by rw [hat,HQ.o];exact FD hPm.o (IB hPm.o k) _ (a,st) HPM.o))
    have row0:=hF1.row HR0.o HX0.o
    have row1:=hF1.row HR1.o HX1.o
    have x0:¬ X (wr.alloc (ze #[U zd kd,U zd vr,U zd ot,U zd ek,U zd en,O xa xl xc,O aa al ac,O ta tl tc,O ea el ec] 130)) W.heap.size:=fun h=>HX0.o (hF1.mov _ (bL (HR0.o 0 _ rfl)) h)
    have x1:¬ X (wr.alloc (ze #[U zd kd,U zd vr,U zd ot,U zd ek,U zd en,O xa xl xc,O aa al ac,O ta tl tc,O ea el ec] 130)) (W.heap.size+1):=fun h=>HX1.o (hF1.mov _ (bL (HR1.o 0 _ rfl)) h)
    have HQS:Hx (Q (j+1)=(at_+(1+A7 k (Av d)+A7 k (Ax d):Nat),goS c.n K lev step k (Ax d) (at_+1+(A7 k (Av d):Nat)) (AZ c.n (lev (step at_ d p (Q j).2)) p (AF K (AV d))) (goS c.n K lev step k (Av d) (at_+1) (AZ c.n (lev (step at_ d p (Q j).2)) p (AF K (AV d))) (step at_ d p (Q j).2)))):=by
     have e1:Q (j+1)=En c.n K lev step (CW (k+1)) (A7 k) (goS c.n K lev step k) p (Q j) l[j]:=by
      rw [HQ.o]
      dsimp only
      rw [List.take_succ_eq_append_getElem hlt,List.foldl_append]
      rfl
     rw [e1,<-HD.o]
     unfold En
     rw [<-HAT.o]
     rfl
    have HP1s:Hx (Pm (at_+1) (step at_ d p (Q j).2)):=hPm.o.step _ _ _ _ (by rw [hat,HQ.o];exact FD hPm.o (IB hPm.o k) _ (a,st) HPM.o)
    obtain ⟨st1,hst1⟩:=nm (step at_ d p (Q j).2)
    rw [<-hst1] at K1 HQS HP1s
    have HOK1:=Aa hok1
    have HOKT:=Aa hokT
    have HOKE:=Aa hokE
    have HXX:=Aa hX
    have HT:=Aa hT
    have HE:=Aa hE
    have HP1:=Aa hP1
    have HF1:=Aa hF1
    have HX0':=Aa x0
    have HX1':=Aa x1
    have HXS:=Aa xsS
    have HRW0:=Aa row0
    have HRW1:=Aa row1
    have HRWS:=Aa rowS
    have hlt2:(j:Int) < (l.length:Int):=by omega
    clear hst1 hok1 hokT hokE hX hT hE hP1 hF1 x0 x1 xsS row0 row1 rowS hI1 hI hF hba hcell hcs hcc hl9 hkd hvr hot hal htl hel hd hat hatv hc1 h50' hcl HAT HOK HRS hrs
    obtain ⟨t0,t1,t2,t3,t4,t5,t6,t7,t8,t9⟩:=Cd HRW0.o
    obtain ⟨u0,u1⟩:=rc2 HRW1.o
    obtain ⟨s0,s1,s2,s3,s4,s5,s6,s7,s8⟩:=rc9 HRWS.o
    go_wp2_with fail
    refine (K1.o).mono ?_
    rintro e W2 ⟨rfl,hI2,hF2⟩
    have HI2:=Aa hI2
    have hB2:=HI.o.below _ _ hI2
    have hF12:=HF1.o.trans hF2
    have lt0:=bL (HRW0.o 0 _ rfl)
    have lt1:=bL (HRW1.o 0 _ rfl)
    have ltS:=bL (HRWS.o 0 _ rfl)
    have row0:=hF2.row HRW0.o HX0'.o
    have row1:=hF2.row HRW1.o HX1'.o
    have rowS:=hF2.row HRWS.o HXS.o
    have x0:¬ X W2 W.heap.size:=fun h=>HX0'.o (hF2.mov _ lt0 h)
    have x1:¬ X W2 (W.heap.size+1):=fun h=>HX1'.o (hF2.mov _ lt1 h)
    have xS:¬ X W2 wr.heap.size:=fun h=>HXS.o (hF2.mov _ ltS h)
    have hP2:=HP1.o.keep HI.o.n1 hF2
    have hlv:=HI.o.levs _ _ hI2
    have KW:=Aa (DU c HI.o.n1 HI.o.n6 gs (lev st1) X HI.o.xok _ p K [U zd ek,U zd en,O xa xl xc] (AV d) W2 (Af HI.o.gr hB2) HI.o.chk hlv.1 hP2 (by rw [hlv.2];exact HI.o.nv16) (HI.o.xlt _ _ hI2) (HXX.o.over hB2) (by rw [hlv.2];exact BD HOK1.o))
    have HX02:=Aa x0
    have HX12:=Aa x1
    have HXS2:=Aa xS
    have HRW02:=Aa row0
    have HRW12:=Aa row1
    have HRWS2:=Aa rowS
    have HF12:=Aa hF12
    clear K1 hI2 hF2 hF12 lt0 lt1 ltS row0 row1 rowS x0 x1 xS hP2 hlv hB2 t0 t1 t2 t3 t4 t5 t6 t7 t8 t9 u0 u1 s0 s1 s2 s3 s4 s5 s6 s7 s8 g0 g1 g2 g3 g4 g5 g6 g7 g8 HRW0 HRW1 HRWS HX0' HX1' HXS HP1 HF1
    obtain ⟨t0,t1,t2,t3,t4,t5,t6,t7,t8,t9⟩:=Cd HRW02.o
    obtain ⟨u0,u1⟩:=rc2 HRW12.o
    obtain ⟨s0,s1,s2,s3,s4,s5,s6,s7,s8⟩:=rc9 HRWS2.o
    go_wp2_with fail
    refine (KW.o).mono ?_
    rintro e W3 ⟨⟨o1,o2,o3,o4,o5,o6,rfl,hL3⟩,hb3⟩
    have hb34:=bA W3 (ze #[O o1 o2 o3,O o4 o5 o6] 50)
    have hb24:=Ac hb3 hb34
    have hI4:=HI.o.over _ _ _ HI2.o hb24
    have hI3:=HI.o.over _ _ _ HI2.o hb3
    have hL4:=hL3.over HI.o.xok hb34
    have rowI:=Ae.new [O o1 o2 o3,O o4 o5 o6] 50 W3
    have xI:¬ X (W3.alloc (ze #[O o1 o2 o3,O o4 o5 o6] 50)) W3.heap.size:=fun h=>by have:=HI.o.xlt _ _ hI3 _ (HI.o.xok.below _ _ hb34 _ h);omega
    have row0:=HRW02.o.over hb24
    have rowS:=HRWS2.o.over hb24
    have x0:¬ X (W3.alloc (ze #[O o1 o2 o3,O o4 o5 o6] 50)) W.heap.size:=fun h=>HX02.o (HI.o.xok.below _ _ hb24 _ h)
    have xS:¬ X (W3.alloc (ze #[O o1 o2 o3,O o4 o5 o6] 50)) wr.heap.size:=fun h=>HXS2.o (HI.o.xok.below _ _ hb24 _ h)
    have hF14:=HF12.o.trans (FrW.of_below HI.o.xok hb24)
    have KT:=Aa (IH.o (O ta tl tc) (Av d) (at_+1) _ _ st1 _ HT.o HOKT.o hI4 hL4 (by omega) (by omega) HP1s.o)
    have HRW04:=Aa row0
    have HRWS4:=Aa rowS
    have HRWI4:=Aa rowI
    have HX04:=Aa x0
    have HXS4:=Aa xS
    have HXI4:=Aa xI
    have HL4:=Aa hL4
    have HF14:=Aa hF14
    clear KW hL3 hb3 hb34 hb24 hI4 hI3 hL4 rowI xI row0 rowS x0 xS hF14 t0 t1 t2 t3 t4 t5 t6 t7 t8 t9 u0 u1 s0 s1 s2 s3 s4 s5 s6 s7 s8 HRW02 HRW12 HRWS2 HX02 HX12 HXS2 HI2 HF12
    obtain ⟨t0,t1,t2,t3,t4,t5,t6,t7,t8,t9⟩:=Cd HRW04.o
    obtain ⟨u0,u1⟩:=rc2 HRWI4.o
    obtain ⟨s0,s1,s2,s3,s4,s5,s6,s7,s8⟩:=rc9 HRWS4.o
    go_wp2_with fail
    refine (KT.o).mono ?_
    rintro e W5 ⟨rfl,hI5,hF5⟩
    have row0:=hF5.row HRW04.o HX04.o
    have rowS:=hF5.row HRWS4.o HXS4.o
    have rowI:=hF5.row HRWI4.o HXI4.o
    have hL5:=HL4.o.keep HI.o.n1 hF5
    have KE:=Aa (IH.o (O ea el ec) (Ax d) (at_+1+(A7 k (Av d):Nat)) _ _ _ _ HE.o HOKE.o hI5 hL5 (by omega) (by omega) (IB hPm.o k _ _ _ _ HP1s.o))
    have HF15:=Aa (HF14.o.trans hF5)
    have hw1:0<=at_+1+(A7 k (Av d):Nat):=by omega
    have hw2:at_+1+(A7 k (Av d):Nat)<=50:=by omega
    clear KT hI5 hF5 hL5 t0 t1 t2 t3 t4 t5 t6 t7 t8 t9 u0 u1 s0 s1 s2 s3 s4 s5 s6 s7 s8 HRW04 HRWS4 HRWI4 HX04 HXS4 HXI4 HL4 HF14
    obtain ⟨t0,t1,t2,t3,t4,t5,t6,t7,t8,t9⟩:=Cd row0
    obtain ⟨u0,u1⟩:=rc2 rowI
    obtain ⟨s0,s1,s2,s3,s4,s5,s6,s7,s8⟩:=rc9 rowS
    clear row0 rowS rowI
    go_wp2_with fail
    refine (KE.o).mono ?_
    rintro e W6 ⟨rfl,hI6,hF6⟩
    have HI6:=Aa hI6
    have HF6:=Aa (HF15.o.trans hF6)
    clear KE hI6 hF6 t0 t1 t2 t3 t4 t5 t6 t7 t8 t9 u0 u1 s0 s1 s2 s3 s4 s5 s6 s7 s8 HF15
    go_wp2_with fail
    refine ⟨⟨j+1,by omega,by go_num,?_,by rw [HQS.o];exact HI6.o,HF6.o⟩,by simp [intOf];omega⟩
    rw [HQS.o]
    congr 1
    push_cast
    omega
   ·have hat2:(Q j).1=a+(A7 (k+1) l:Nat):=by rw [HQ1.o j,List.take_of_length_le (by omega)]
    have hst:(Q j).2=goS c.n K lev step (k+1) l a p st:=by rw [HQ.o];dsimp only;rw [List.take_of_length_le (by omega)];rfl
    have HE2:=Aa (show Inv (goS c.n K lev step (k+1) l a p st) wr by rw [<-hst];exact hI)
    have HF2:=Aa (HF0.o.trans hF)
    have hav:at_=a+(A7 (k+1) l:Nat):=hat.trans hat2
    have HAV:=Aa hav
    clear hat2 hst hI hF hav hat hatv
    go_wp2_with fail
    go_ret
    exact ⟨by rw [HAV.o];rfl,HE2.o,HF2.o⟩
end
end Go.Proofs.YtfffpjkcfnekaaaGreat.Ex
