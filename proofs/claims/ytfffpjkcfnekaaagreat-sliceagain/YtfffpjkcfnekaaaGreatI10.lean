/- A region in a round of a loop over a function: what is held elsewhere is held there, too. -/
import Derived.OwnWalkIn
import Derived.OrdersHeld
import Derived.RangeFuncNested
import Derived.RangeFuncCalls
import Derived.Test.YtfffpjkcfnekaaaGreatI09
import Derived.Deep.RegionHeld3
set_option linter.unusedVariables false
set_option maxHeartbeats 8000000
set_option maxRecDepth 100000
namespace Go.Proofs.YtfffpjkcfnekaaaGreat.Ex
open Go.RowKit
open Go.Value renaming slice -> O, int -> zd, bool -> zg, agg -> zh, pointer -> zj, tuple -> zm
open Go.IntKind renaming i64 -> U
open Go.Obj renaming cells -> ze
open Go.Ending renaming returned -> zk
def Dw (Qn:Act->World->Prop):Exit->Act->World->Prop
 | .normal,a,w=>Qn a w
 | _,_,_=>False
theorem OK {Qn:Act->World->Prop}:¬ LetsOut (Dw Qn):=fun ⟨_,_,h⟩=>h
theorem Pz {lo n:Nat} {P:Program} {o:Oper} {a:Act} {K K':Act->World->Prop} {Qn:Act->World->Prop} (hK:∀ a w,K a w->K' a w) :
  ∀ x:Result Next,o.upon P a K (Dw Qn) x->o.uponIn (Fence.wide.inRound lo) n P a K' (Dw Qn) x:=by
 intro x h;unfold Oper.upon at h;split at h
 ·exact hK _ _ h
 ·exact hK _ _ h
 ·exact hK _ _ h
 ·refine ⟨fun h=>(by cases h),CallsIn.inRound lo (callsIn_wide.2 (h.mono ?_))⟩
  intro e d h
  cases e with
  | returned v=>exact hK _ _ h
  | panicked c=>exact h
  | outgrown=>exact h
 ·exact ⟨fun h=>(by cases h),fun c cs _=>by obtain ⟨v,b,r,s⟩:=h c cs;exact ⟨v,b,hK _ _ r,stepsIn_wide.2 s⟩⟩
 ·exact h
 ·exact h.elim
theorem Sy {lo n:Nat} {P:Program} {ops:Array Oper} (hdf:∀ (i:Nat) o,ops[i]? = some o->∀ c,o.op≠.defer c) {Qn:Act->World->Prop} {i:Nat} {K K':Act->World->Prop} (hK:∀ a w,K a w->K' a w) (a:Act) (w:World)
  (h:wpOp P ops (Dw Qn) i K a w):wpOpIn (Fence.wide.inRound lo) n P ops (Dw Qn) i K' a w:=by
 unfold wpOp at h;unfold wpOpIn;split at h
 ·rename_i b;simp only [b];exact hK _ _ h
 ·rename_i o b
  simp only [b];split at h
  ·rename_i hw
   rw [if_pos hw];rcases h with h | ⟨-,h⟩
   ·refine ⟨fun _ _=>trivial,?_⟩
    rw [Oper.semAt_plain _ _ _ (hdf i o b)];exact Pz hK _ h
   ·exact (OK h).elim
  ·rename_i hw
   rw [if_neg hw];exact ⟨fun _ _=>trivial,hK _ _ h⟩
theorem Ps {lo n:Nat} {P:Program} {md:Region.Mode} {ops:Array Oper} (hdf:∀ (i:Nat) o,ops[i]? = some o->∀ c,o.op≠.defer c) {Qn:Act->World->Prop} :
  ∀ (fuel:Nat) (listed:Array Bool) (a:Act) (w:World),wpAny P md ops (Dw Qn) fuel listed a w->wpAnyIn (Fence.wide.inRound lo) n P md ops (Dw Qn) fuel listed a w
 | 0,_,_,_,h=>h
 | fuel+1,listed,a,w,h=>⟨h.1,fun i hi=>Sy hdf (fun a w h=>Ps hdf fuel _ a w h) a w (h.2 i hi)⟩
theorem Df {lo n:Nat} {P:Program} {id:Nat} {ops:Array Oper} {Q:Exit->Act->World->Prop} {S:World->Prop} {a:Act} {w:World} (hm:P.follows .mixedOrders=true) (hdf:∀ (i:Nat) o,ops[i]? = some o->∀ c,o.op≠.defer c)
  (h:wpAnyH P .any ops (Dw (Q .normal)) S ops.size (Array.replicate ops.size false) a w.drew):(Code.region id ops true).wpIn (Fence.wide.inRound lo) n P Q a w:=
 wpIn_mono (wpIn_region_any hm (Ps hdf _ _ _ _ (wpAny_of_held _ _ _ _ h))) fun e a w h=>by
  cases e <;> first | exact h | exact h.elim
end Go.Proofs.YtfffpjkcfnekaaaGreat.Ex
namespace Go.Proofs.YtfffpjkcfnekaaaGreat.Ex
open Go.RowKit Go.Shelf
open Go.Value renaming slice -> O, int -> zd, bool -> zg, agg -> zh, pointer -> zj, tuple -> zm
open Go.IntKind renaming i64 -> U
open Go.Obj renaming cells -> ze
open Go.Ending renaming returned -> zk
attribute [local go_sem] Oper.semAt_some
theorem EN {n:Nat} {gs:List (Int × Int)} {l k:Lev} (h:AN n gs=0) (hl:l.len n) (hk:k.len n):Ff n gs l k=0:=by
 have c:CV (n:Int) l=0:=by unfold CV;rw [if_pos ⟨by rw [hl.1],by rw [hl.2]⟩]
 have b:CV (n:Int) k=0:=by unfold CV;rw [if_pos ⟨by rw [hk.1],by rw [hk.2]⟩]
 simp [Ff,Dp,h,c,b]
theorem A8 {w:World} {x y:Value} {l:Lev} (h:Bn w (zh #[x,y]) l):∃ p1 q1 r1 p2 q2 r2,x=O p1 q1 r1/\y=O p2 q2 r2:=by
 obtain ⟨u,v,e,⟨a,c,d,-⟩,⟨g,f,b,-⟩⟩:=h;simp at e;obtain ⟨rfl,rfl⟩:=e;exact ⟨_,_,_,_,_,_,d,b⟩
theorem Em {W W':World} (h:Ov W W'):KeepsOthers W W':=KeepsOthers.of_grownBy (row:=none) ⟨h.os,h.tape,h.output,h.size,fun k hk _=>h.block k hk⟩ (fun _ _ e=>by cases e)
theorem FC {W:World} {p:Addr} {a:Option Addr} {m c:Nat} {v:Value} {l:List Bool} (hp:W.cell? p=some (O a m c)) (h:A3 W v l) (u:Value):A3 (W.setCell p u) v l:=by
 obtain ⟨y,q,s,f⟩:=h;refine ⟨y,q,s,fun d=>?_⟩;obtain ⟨b,off,k,f⟩:=f d;refine ⟨b,off,k,fun i t=>?_⟩;have g:=f i t;have d:p≠⟨b,off+i,none⟩:=by
  rintro rfl;rw [hp] at g;cases g
 rw [World.cell?_setCell_other _ _ _ _ d];exact g
theorem DX {W:World} {p:Addr} {a:Option Addr} {m c:Nat} {v:Value} {l:Lev} (hp:W.cell? p=some (O a m c)) (h:Bn W v l) (u:Value):Bn (W.setCell p u) v l:=by
 obtain ⟨x,y,f,d,b⟩:=h;exact ⟨x,y,f,FC hp d u,FC hp b u⟩
theorem MO (n:Nat) (L l) (vs:List Int) (v:Int):AY n L l (vs++[v])=BH (AY n L l vs) (L.getD v.toNat AL) n:=by simp [AY]
def Kw (n:Nat) (s:Nat) (wc:List Value) (lr lw:Value) (Ls:List Lev) (l:Lev) (nv:Nat) (pre:List (Eu nv)) (W:World):Prop:=
 ∃ xr xw,W.cell? ⟨s+1,0,none⟩=some xr/\W.cell? ⟨s+1,1,none⟩=some xw/\W.frozen? ⟨s+1,0,none⟩=false/\W.frozen? ⟨s+1,1,none⟩=false/\Bn W (zh #[xr,xw]) (AY n Ls l (pre.map Subtype.val))/\((xr=lr/\xw=lw)\/NB s (zh #[xr,xw]))/\Ad wc W s /\
  W.cell? ⟨s+1+1+1,0,none⟩=some (O none 0 0)/\W.cell? ⟨s+1+1+1,1,none⟩=some (O none 0 0)/\W.frozen? ⟨s+1+1+1,0,none⟩=false/\W.frozen? ⟨s+1+1+1,1,none⟩=false
theorem MP (n:Nat) (s:Nat) (wc:List Value) (lr lw:Value) (Ls l) (nv:Nat):Own (Kw n s wc lr lw Ls l nv):=by
 rintro p A B row ⟨k,i,c0,c1,C,z,hl,q,d,g,f,y,t⟩ c b;exact ⟨k,i,cell_kept c0 c b,cell_kept c1 c b,(frozen_kept c0 c b).trans C,(frozen_kept c1 c b).trans z,Gh hl (fun a u h=>cell_kept h c b),q,fun j u h=>cell_kept (d j u h) c b,cell_kept g c b,cell_kept f c b,(frozen_kept g c b).trans y,(frozen_kept f c b).trans t⟩
theorem MN {n nv:Nat} {wc:List Value} {lr lw:Value} {Ls:List Lev} {l:Lev} {pre:List (Eu nv)} {x:Eu nv} {w W W2:World} {v1 v2:Value} (hI:Kw n w.heap.size wc lr lw Ls l nv pre W) (hB:Ov w W) (hb2:Ov W W2)
  (hf:Bh W W2 (zh #[v1,v2]) (BH (AY n Ls l (pre.map Subtype.val)) (Ls.getD x.1.toNat AL) n)) :
  KeepsOthers W ((W2.setCell ⟨w.heap.size+1,0,none⟩ v1).setCell ⟨w.heap.size+1,1,none⟩ v2)/\Below w.heap.size W ((W2.setCell ⟨w.heap.size+1,0,none⟩ v1).setCell ⟨w.heap.size+1,1,none⟩ v2)/\Kw n w.heap.size wc lr lw Ls l nv (pre++[x]) ((W2.setCell ⟨w.heap.size+1,0,none⟩ v1).setCell ⟨w.heap.size+1,1,none⟩ v2)/\Ov w ((W2.setCell ⟨w.heap.size+1,0,none⟩ v1).setCell ⟨w.heap.size+1,1,none⟩ v2):=by
 obtain ⟨I,H,c0,c1,G,F,hl,J,f,s,y,E,C⟩:=hI;have g:w.heap.size+1+1+1 < W.heap.size:=bL s;have i:Below w.heap.size W ((W2.setCell ⟨w.heap.size+1,0,none⟩ v1).setCell ⟨w.heap.size+1,1,none⟩ v2):=((hb2.mono (by omega)).setCell (by simp) _).setCell (by simp) _;have d:∀ b o u,b≠w.heap.size+1->W.cell? ⟨b,o,none⟩=some u->((W2.setCell ⟨w.heap.size+1,0,none⟩ v1).setCell ⟨w.heap.size+1,1,none⟩ v2).cell? ⟨b,o,none⟩=some u:=fun b o u K h=>by
  have e:=Ab hb2 _ _ h;simp [go_sem,e]
 refine ⟨(Em hb2).trans ((KeepsOthers.setCell _ _ _).trans (KeepsOthers.setCell _ _ _)),i,?_,hB.trans i⟩;have k:=BX hf;obtain ⟨u1,u2,t,q,p,-⟩:=hf;simp at t;obtain ⟨rfl,rfl⟩:=t;refine ⟨v1,v2,?_,?_,?_,?_,?_,Or.inr ?_,fun j u h=>d _ _ _ (by omega) (f j u h),d _ _ _ (by omega) s,d _ _ _ (by omega) y,?_,?_⟩
 ·simp [go_sem,Ab hb2 _ _ c0]
 ·have B:=Ab hb2 _ _ c1
  simp [go_sem,B]
 ·simp [go_sem,((Am hb2).2 _ _ (by omega:w.heap.size+1 < W.heap.size)).trans G]
 ·simp [go_sem,((Am hb2).2 _ _ (by omega:w.heap.size+1 < W.heap.size)).trans F]
 ·rw [List.map_append,List.map_singleton,MO]
  refine ⟨v1,v2,rfl,Dx (Bp (Bp q (by simp;omega) _) (by simp;omega) _),Dx (Bp (Bp p (by simp;omega) _) (by simp;omega) _)⟩
 ·obtain ⟨a,b,e,A,z⟩:=k
  exact ⟨a,b,e,fun a n c h=>Nat.le_trans hB.size (A a n c h),fun a n c h=>Nat.le_trans hB.size (z a n c h)⟩
 ·simp [go_sem,((Am hb2).2 _ _ g).trans E]
 ·simp [go_sem,((Am hb2).2 _ _ g).trans C]
abbrev NK (w:World) (n:Nat) (ga:Option Addr) (gn gc:Nat) (sa:Option Addr) (sn sc:Nat) (ya:Option Addr) (yn yc:Nat) (oa:Option Addr) (on oc:Nat) (va:Option Addr) (vn vc:Nat) (fa:Option Addr) (fn fc:Nat) (ba:Option Addr) (bn bc b off ln lc:Nat) (ka:Option Addr) (kn kc j:Nat) (b1:Option Addr) (b2 b3:Nat) (b4:Option Addr) (b5 b6:Nat) (Wz:World):Prop:=Wz.cell? ⟨w.heap.size,0,none⟩=some (zd U (n:Int))/\Wz.cell? ⟨w.heap.size,1,none⟩=some (O ga gn gc)/\Wz.cell? ⟨w.heap.size,2,none⟩=some (O sa sn sc)/\Wz.cell? ⟨w.heap.size,3,none⟩=some (O ya yn yc)/\Wz.cell? ⟨w.heap.size,4,none⟩=some (O oa on oc)/\Wz.cell? ⟨w.heap.size,5,none⟩=some (O va vn vc)/\Wz.cell? ⟨w.heap.size,6,none⟩=some (O fa fn fc)/\Wz.cell? ⟨w.heap.size,7,none⟩=some (O ba bn bc)/\Wz.cell? ⟨w.heap.size,8,none⟩=some (O (some ⟨b,off,none⟩) ln lc)/\Wz.cell? ⟨w.heap.size,9,none⟩=some (O ka kn kc)/\Wz.cell? ⟨b,off+j*2,none⟩=some (O b1 b2 b3)/\Wz.cell? ⟨b,off+j*2+1,none⟩=some (O b4 b5 b6)
theorem Q6 (n:Nat) (h1:1<=n) (h6:n<=6) (ga gn gc sa sn sc ya yn yc oa on oc va vn vc fa fn fc ba bn bc la ln lc ka kn kc gs) (Ls:List Lev) (p1 q1 r1 p2 q2 r2 l) (K:Nat) (ek en:Int) (xa xl xc d) (ys:List (Eu Ls.length)) (w:World)
  (hg:AB w (O ga gn gc) gs) (hE:AN n gs=0) (hL:Cp w (O la ln lc) Ls) (hLl:∀ x∈Ls,x.len n) (hl:Bn w (zh #[O p1 q1 r1,O p2 q2 r2]) l) (hll:l.len n) (hlm:Ls.length<=9223372036854775807)
  (hx:RX w K [zd U ek,zd U en,O xa xl xc] d) (hys:ys.map Subtype.val=Ar K d) :
  Calls Tryz.prog 103 #[zh #[zd U (n:Int),O ga gn gc,O sa sn sc,O ya yn yc,O oa on oc,O va vn vc,O fa fn fc,O ba bn bc,O la ln lc,O ka kn kc],zh #[O p1 q1 r1,O p2 q2 r2],zh #[zd U ek,zd U en,O xa xl xc]] w fun e w'=>
   (∃ v,e=zk v/\Bn w' v (AY n Ls l (Ar K d))/\(v=zh #[O p1 q1 r1,O p2 q2 r2]\/NB w.heap.size v))/\Ov w w':=by
 have p:Ov w (((((w.alloc (ze #[zd U (n:Int),O ga gn gc,O sa sn sc,O ya yn yc,O oa on oc,O va vn vc,O fa fn fc,O ba bn bc,O la ln lc,O ka kn kc] 108)).alloc (ze #[O p1 q1 r1,O p2 q2 r2] 50)).alloc (ze #[zd U ek,zd U en,O xa xl xc] 94)).alloc (ze #[O none 0 0,O none 0 0] 50)).alloc (ze #[zd U ek,zd U en,O xa xl xc] 94)):=by
  refine Below.alloc ?_ (by simp <;> omega) _
  refine Below.alloc ?_ (by simp <;> omega) _
  refine Below.alloc ?_ (by simp <;> omega) _
  refine Below.alloc ?_ (by simp <;> omega) _
  exact bA w _
 have af:Kw n w.heap.size [zd U (n:Int),O ga gn gc,O sa sn sc,O ya yn yc,O oa on oc,O va vn vc,O fa fn fc,O ba bn bc,O la ln lc,O ka kn kc] (O p1 q1 r1) (O p2 q2 r2) Ls l Ls.length [] (((((w.alloc (ze #[zd U (n:Int),O ga gn gc,O sa sn sc,O ya yn yc,O oa on oc,O va vn vc,O fa fn fc,O ba bn bc,O la ln lc,O ka kn kc] 108)).alloc (ze #[O p1 q1 r1,O p2 q2 r2] 50)).alloc (ze #[zd U ek,zd U en,O xa xl xc] 94)).alloc (ze #[O none 0 0,O none 0 0] 50)).alloc (ze #[zd U ek,zd U en,O xa xl xc] 94)):=by
  refine ⟨O p1 q1 r1,O p2 q2 r2,by simp [go_sem],by simp [go_sem],by simp [go_sem],by simp [go_sem],AW hl p,Or.inl ⟨rfl,rfl⟩,?_,by simp [go_sem],by simp [go_sem],by simp [go_sem],by simp [go_sem]⟩;intro j u hu;have hj:j < 10:=by have:=(List.getElem?_eq_some_iff.1 hu).1;simpa using this
  rcases (by omega:j=0\/j=1\/j=2\/j=3\/j=4\/j=5\/j=6\/j=7\/j=8\/j=9) with h | h | h | h | h | h | h | h | h | h <;> subst h <;> simp at hu <;> subst hu <;> simp [go_sem]
 obtain ⟨k0,k1,k2⟩:=rc3 (Tg w (ze #[zd U (n:Int),O ga gn gc,O sa sn sc,O ya yn yc,O oa on oc,O va vn vc,O fa fn fc,O ba bn bc,O la ln lc,O ka kn kc] 108) (ze #[O p1 q1 r1,O p2 q2 r2] 50) (ze #[zd U ek,zd U en,O xa xl xc] 94) (ze #[O none 0 0,O none 0 0] 50) [zd U ek,zd U en,O xa xl xc] 94);have ai:=Aa (E5 Fence.wide rfl 2 trivial trivial rfl Ls.length (w.heap.size+1+1+1+1) K w ek en xa xl xc d ys _ (by simp) p k0 k1 k2 hx hys);have KJ:=Aa fun (W:World) (t:Ov w W) (Z Y kr kw:Value) (a b:Lev) (ha:Bn W (zh #[Z,Y]) a) (Q:Bn W (zh #[kr,kw]) b) (ar:a.len n) (lb:b.len n)=>Mv (n:Int) ga gn gc sa sn sc ya yn yc oa on oc va vn vc fa fn fc ba bn bc la ln lc ka kn kc gs Z Y kr kw a b W (Aj hg t) ha Q (EN hE ar lb);have HL:=Aa fun (W:World) (t:Ov w W)=>CK hL t;have J:=Aa p;have aj:=Aa af;have N:ln=Ls.length:=by obtain ⟨ao,bf,he,-⟩:=hL;injection he
 have ah:=Aa hys;have bo:=Aa N;have cm:ln<=9223372036854775807:=by rw [N];exact hlm
 clear N;clear p af k0 k1 k2 hx hL hg hE hl hys;refine (callsIn_wide (n:=3)).1 ?_;refine callsIn_of_wp_marks Tryz.func103 rfl trivial ?_ rfl;simp only [Tryz.ntmps103,List.size_toArray,List.length_cons,List.length_nil,Nat.reduceAdd,Nat.reduceSub,Array.replicate_succ,Array.replicate_zero,List.push_toArray,List.append_toArray,List.nil_append,List.cons_append]
 gi_wp2_with (refine ⟨trivial,?_⟩;gi_at_call 164;refine (IW Fence.wide _ trivial rfl _ _ _ _ _ _).mono ?_;rintro e w' ⟨rfl,rfl⟩)
 refine wpIn_rangeFunc_ownF (F:=Fence.wide) rfl (by omega) (gf:=210) (lb:=#[zj (some ⟨w.heap.size+1+1+1+1,0,none⟩)]) rfl trivial (enters_of Tryz.func210 (by kernel_rfl) rfl)
  ai.o belowK_t (belowK_b (by simp <;> omega)) (Below.refl _ _) (fun _=>rfl)
  (fun M W=>Kw n w.heap.size [zd U (n:Int),O ga gn gc,O sa sn sc,O ya yn yc,O oa on oc,O va vn vc,O fa fn fc,O ba bn bc,O la ln lc,O ka kn kc] (O p1 q1 r1) (O p2 q2 r2) Ls l Ls.length M W/\Ov w W)
  (fun _ _ _=>False)
  (OwnFrom.and (Own.from (MP n w.heap.size [zd U (n:Int),O ga gn gc,O sa sn sc,O ya yn yc,O oa on oc,O va vn vc,O fa fn fc,O ba bn bc,O la ln lc,O ka kn kc] (O p1 q1 r1) (O p2 q2 r2) Ls l Ls.length) _) (ownFrom_below (Nat.le_refl _) (by simp <;> omega)))
  (fun _ _ _ _ _ hs _ _=>hs)
  ⟨aj.o,J.o⟩
  (fun x=>{ tmps:=#[zh #[zd U (n:Int),O ga gn gc,O sa sn sc,O ya yn yc,O oa on oc,O va vn vc,O fa fn fc,O ba bn bc,O la ln lc,O ka kn kc],zh #[O p1 q1 r1,O p2 q2 r2],zh #[zd U ek,zd U en,O xa xl xc],zj (some ⟨w.heap.size,0,none⟩),zj (some ⟨w.heap.size+1,0,none⟩),zj (some ⟨w.heap.size+1+1,0,none⟩),zj (some ⟨w.heap.size+1+1+1,0,none⟩),zd U x.1,zh #[zd U ek,zd U en,O xa xl xc],.func (.func 210) #[] #[zj (some ⟨w.heap.size+1+1+1+1,0,none⟩)],zd U x.1,undef,undef,undef,undef,undef,undef,undef,undef,undef,undef],defers:=[] }) ?assign ?body ?done ?stop
 case assign=>
  intro l x W K s
  gi_wp2
  exact s
 case body=>
  clear ai aj J ah;rintro lo M x W ⟨⟨Z,Y,c0,c1,f0,f1,hl,hd,k,X,s1,g0,g1⟩,t⟩ _;have V:=Aa fun (v1 v2:Value) (W2:World)=>MN (x:=x) (v1:=v1) (v2:=v2) (W2:=W2) ⟨Z,Y,c0,c1,f0,f1,hl,hd,k,X,s1,g0,g1⟩ t;obtain ⟨E,C,B,I,H,G,rfl,rfl⟩:=A8 hl;obtain ⟨x,dc,db⟩:=x;obtain ⟨j,rfl⟩:∃ j:Nat,x=(j:Int):=⟨x.toNat,by omega⟩;have hj:j < Ls.length:=by omega
  obtain ⟨b,off,bf,rv,wv,hv,T,ag,y⟩:=Ix (HL.o w (Below.refl _ _)) hj;have dk:b < w.heap.size:=bL T;obtain ⟨e0,e1⟩:=co2 t T ag;have z:=AW y t;clear T ag y;injection hv with aw av au;subst aw au;have dg:j < ln:=by rw [bo.o];exact hj
  clear av;obtain ⟨b1,b2,b3,b4,b5,b6,rfl,rfl⟩:=A8 z;obtain ⟨w0,w1,w2,w3,w4,w5,w6,w7,w8,w9⟩:=CA k;have bm:=Aa (fun W2 (Q:Ov W W2)=>KJ.o W2 (t.trans (Q.mono t.size)) _ _ _ _ _ _ (AW hl Q) (AW z Q) (GE _ _ hll) (hLl _ (List.getElem_mem hj)));have ab:Ls.getD (j:Int).toNat AL=Ls[j]:=by simp [List.getD_eq_getElem?_getD,hj]
  have bp:=Aa ab;clear ab;clear KJ HL hl z hd k t hLl hll;have df:(j:Int) < (ln:Int):=by omega
  have a0:Tryz.prog.follows .mixedOrders=true:=by kernel_rfl
  have di:1<=3 - 1 - 1:=by omega
  gi_wp2
  have a9:(fun W2:World=>NK w n ga gn gc sa sn sc ya yn yc oa on oc va vn vc fa fn fc ba bn bc b off ln lc ka kn kc j b1 b2 b3 b4 b5 b6 W2) W.drew:=⟨w0,w1,w2,w3,w4,w5,w6,w7,w8,w9,e0,e1⟩;refine Df (S:=fun W2=>NK w n ga gn gc sa sn sc ya yn yc oa on oc va vn vc fa fn fc ba bn bc b off ln lc ka kn kc j b1 b2 b3 b4 b5 b6 W2) a0 ?_ ?_
  ·intro i o g c hc
   match i with
   | 0 | 1 | 2 | 3 | 4 | 5 | 6 | 7 | 8 | 9=>simp at g;subst g;cases hc
   | i+10=>simp at g
  refine kT 0 ?_;refine kT 2 ?_;refine kT 3 ?_;refine kT 4 ?_;refine kT 5 ?_;refine kT 6 ?_;refine kT 7 ?_;refine rdA 1 rfl fun K s=>?_;go_simp;refine xK s a9 fun f=>?_;clear s K f;refine rdA 8 rfl fun K s=>?_;go_simp;refine (bm.o _ (bD W)).mono ?_;rintro e L ⟨vj,rfl,hf,Q⟩;have HF:=Aa hf;obtain ⟨v1,v2,rfl,az,ay,-⟩:=hf;obtain ⟨o1,o2,o3,rfl⟩:=AG az;obtain ⟨o4,o5,o6,rfl⟩:=AG ay;have A:Hx (Ov W L):=(bD W).trans (Q.mono (Nat.le_refl _));have a7:w.heap.size+1+1+1 < W.heap.size:=bL X;obtain ⟨dt,ds⟩:=co2 A.o c0 c1;have dr:L.frozen? ⟨w.heap.size+1,0,none⟩=false:=((Am A.o).2 _ _ (by omega)).trans f0;have dq:L.frozen? ⟨w.heap.size+1,1,none⟩=false:=((Am A.o).2 _ _ (by omega)).trans f1;have ae:(fun W2:World=>NK w n ga gn gc sa sn sc ya yn yc oa on oc va vn vc fa fn fc ba bn bc b off ln lc ka kn kc j b1 b2 b3 b4 b5 b6 W2) L:=by
   have q:=Ab A.o;exact ⟨q _ _ w0,q _ _ w1,q _ _ w2,q _ _ w3,q _ _ w4,q _ _ w5,q _ _ w6,q _ _ w7,q _ _ w8,q _ _ w9,q _ _ e0,q _ _ e1⟩
  go_simp;refine xK s ae fun f=>?_;clear s K f;refine rdA 9 rfl fun K s=>?_;go_simp;refine s.out _ _ ?_ (fun f=>?_)
  ·obtain ⟨t0,t1,t2,t3,t4,t5,t6,t7,t8,t9,an,am⟩:=ae
   have aa:b≠w.heap.size+1:=by omega
   have g:∀ b' o' u,b'≠w.heap.size+1->L.cell? ⟨b',o',none⟩=some u->((L.setCell ⟨w.heap.size+1,0,none⟩ (O o1 o2 o3)).setCell ⟨w.heap.size+1,1,none⟩ (O o4 o5 o6)).cell? ⟨b',o',none⟩=some u:=fun b' o' u a8 h=>by
    have:=a8.symm;simp [go_sem,h]
   exact ⟨g _ _ _ (by omega) t0,g _ _ _ (by omega) t1,g _ _ _ (by omega) t2,g _ _ _ (by omega) t3,g _ _ _ (by omega) t4,g _ _ _ (by omega) t5,g _ _ _ (by omega) t6,g _ _ _ (by omega) t7,g _ _ _ (by omega) t8,g _ _ _ (by omega) t9,g _ _ _ aa an,g _ _ _ aa am⟩
  clear s K f;refine gE ?_;have ad:=V.o (O o1 o2 o3) (O o4 o5 o6) L A.o (by rw [bp.o];exact HF.o);exact ad
 case done=>
  rintro D zs W hD rfl ⟨⟨Z,Y,c0,c1,f0,f1,hl,hd,k,X,s1,g0,g1⟩,t⟩ s;obtain ⟨E,C,B,I,H,G,rfl,rfl⟩:=A8 hl
  gi_wp2
  have a7:w.heap.size+1+1+1 < W.heap.size:=bL X;have bb:=(KeepsOthers.setCell W ⟨w.heap.size+1+1+1,0,none⟩ (O E C B)).same D _ s rfl;have R:=(KeepsOthers.setCell (W.setCell ⟨w.heap.size+1+1+1,0,none⟩ (O E C B)) ⟨w.heap.size+1+1+1,1,none⟩ (O I H G)).same D _ bb rfl;have x0:((W.setCell ⟨w.heap.size+1+1+1,0,none⟩ (O E C B)).setCell ⟨w.heap.size+1+1+1,1,none⟩ (O I H G)).cell? ⟨w.heap.size+1+1+1,0,none⟩=some (O E C B):=by simp [go_sem,X]
  have x1:((W.setCell ⟨w.heap.size+1+1+1,0,none⟩ (O E C B)).setCell ⟨w.heap.size+1+1+1,1,none⟩ (O I H G)).cell? ⟨w.heap.size+1+1+1,1,none⟩=some (O I H G):=by simp [go_sem,s1]
  have P:∀ a u,((W.setCell ⟨w.heap.size+1+1+1,0,none⟩ (O E C B)).setCell ⟨w.heap.size+1+1+1,1,none⟩ (O I H G)).cell? a=some u->(((W.setCell ⟨w.heap.size+1+1+1,0,none⟩ (O E C B)).setCell ⟨w.heap.size+1+1+1,1,none⟩ (O I H G)).putObj D (.deferred none)).cell? a=some u:=fun a u h=>cell_kept h (grownBy_putObj' _ D (.deferred none)) (fun r e=>by cases e;exact ⟨_,R,rfl⟩);have y0:=P _ _ x0;have y1:=P _ _ x1;have aq:(W.setCell ⟨w.heap.size+1+1+1,0,none⟩ (O E C B)).cell? ⟨w.heap.size+1+1+1,1,none⟩=some (O none 0 0):=by simp [go_sem,s1]
  refine ⟨by simp,.inl ⟨_,_,rfl,run_takeDeferred R,?_⟩⟩;refine ⟨zh #[O E C B,O I H G],by simp [results,Tryz.f103,go_sem,y0,y1],⟨_,rfl,?_,?_⟩,?_⟩
  ·rw [<-ah.o]
   exact Gh (DX aq (DX X hl _) _) P
  ·rcases hd with ⟨h1,h2⟩ | h
   ·exact Or.inl (by rw [h1,h2])
   ·exact Or.inr h
  ·exact ((t.setCell (by simp;omega) _).setCell (by simp;omega) _).trans (belowK_b (w:=w) (Nat.le_refl _) _ D _ _ (by simp at hD;omega) R rfl rfl)
 case stop=>
  rintro D c M W _ _ h _;exact h.elim
end Go.Proofs.YtfffpjkcfnekaaaGreat.Ex
namespace Go.Proofs.YtfffpjkcfnekaaaGreat.Ex
open Go.RowKit
open Go.Value renaming slice -> O, int -> zd, bool -> zg, agg -> zh, pointer -> zj, tuple -> zm
open Go.IntKind renaming i64 -> U
open Go.Obj renaming cells -> ze
open Go.Ending renaming returned -> zk
structure WC where
 n:Nat
 ga:Option Addr
 gn:Nat
 gc:Nat
 sa:Option Addr
 sn:Nat
 sc:Nat
 ya:Option Addr
 yn:Nat
 yc:Nat
 oa:Option Addr
 on:Nat
 oc:Nat
 va:Option Addr
 vn:Nat
 vc:Nat
 fa:Option Addr
 fn:Nat
 fc:Nat
 ba:Option Addr
 bn:Nat
 bc:Nat
 la:Option Addr
 ln:Nat
 lc:Nat
 ka:Option Addr
 kn:Nat
 kc:Nat
abbrev WC.v (c:WC):Value:=zh #[zd U (c.n:Int),O c.ga c.gn c.gc,O c.sa c.sn c.sc,O c.ya c.yn c.yc,O c.oa c.on c.oc,O c.va c.vn c.vc,O c.fa c.fn c.fc,O c.ba c.bn c.bc,O c.la c.ln c.lc,O c.ka c.kn c.kc]
abbrev WC.cs (c:WC):List Value:=[zd U (c.n:Int),O c.ga c.gn c.gc,O c.sa c.sn c.sc,O c.ya c.yn c.yc,O c.oa c.on c.oc,O c.va c.vn c.vc,O c.fa c.fn c.fc,O c.ba c.bn c.bc,O c.la c.ln c.lc,O c.ka c.kn c.kc]
structure FrW (X:World->Nat->Prop) (W W':World):Prop where
 os:W'.os=W.os
 tape:W'.tape=W.tape
 output:W'.output=W.output
 size:W.heap.size<=W'.heap.size
 block:∀ k,k < W.heap.size->¬ X W k->W'.heap[k]? = W.heap[k]?
 mov:∀ k,k < W.heap.size->X W' k->X W k
theorem FrW.trans {X:World->Nat->Prop} {A B C:World} (h:FrW X A B) (k:FrW X B C):FrW X A C:=
 ⟨k.os.trans h.os,k.tape.trans h.tape,k.output.trans h.output,Nat.le_trans h.size k.size,fun i hi hx=>(k.block i (Nat.lt_of_lt_of_le hi h.size) (fun hh=>hx (h.mov i hi hh))).trans (h.block i hi hx),fun i hi hx=>h.mov i hi (k.mov i (Nat.lt_of_lt_of_le hi h.size) hx)⟩
structure XOk (X:World->Nat->Prop):Prop where
 below:∀ W W',Ov W W'->∀ k,X W' k->X W k
theorem FrW.of_below {X:World->Nat->Prop} (hX:XOk X) {A B:World} (h:Ov A B):FrW X A B:=⟨h.os,h.tape,h.output,h.size,fun k hk _=>h.block k hk,fun k _ hx=>hX.below A B h k hx⟩
theorem FrW.refl {X:World->Nat->Prop} (A:World):FrW X A A:=⟨rfl,rfl,rfl,Nat.le_refl _,fun _ _ _=>rfl,fun _ _ h=>h⟩
theorem FrW.cell {X:World->Nat->Prop} {A B:World} (h:FrW X A B) {b j:Nat} {u:Value} (hc:A.cell? ⟨b,j,none⟩=some u) (hx:¬ X A b):B.cell? ⟨b,j,none⟩=some u:=
 (World.cell?_of_block (h.block b (bL hc) hx)).trans hc
theorem FrW.frozen {X:World->Nat->Prop} {A B:World} (h:FrW X A B) {b j:Nat} (hb:b < A.heap.size) (hx:¬ X A b):B.frozen? ⟨b,j,none⟩=A.frozen? ⟨b,j,none⟩:=World.frozen?_of_block (h.block b hb hx)
theorem FrW.row {X:World->Nat->Prop} {A B:World} (h:FrW X A B) {b:Nat} {cs:List Value} (hc:Ad cs A b) (hx:¬ X A b):Ad cs B b:=fun j u hu=>h.cell (hc j u hu) hx
def Sc (P:Nat->Prop) (v:Value):Prop:=∃ x y,v=zh #[x,y]/\(∀ a n c,x=O (some a) n c->¬ P a.block)/\∀ a n c,y=O (some a) n c->¬ P a.block
structure A0 (n:Nat) (X:World->Nat->Prop) (W:World) (v:Value) (l:Lev):Prop where
 at_:Bn W v l
 len:l.len n
 off:Sc (X W) v
theorem DZ {X:World->Nat->Prop} {A B:World} {v:Value} {l:List Bool} (h:A3 A v l) (hf:FrW X A B) (hx:∀ a n c,v=O (some a) n c->¬ X A a.block):A3 B v l:=by
 obtain ⟨s,g,p,d⟩:=h;refine ⟨s,g,p,fun k=>?_⟩;obtain ⟨b,off,f,d⟩:=d k;refine ⟨b,off,f,fun i q=>hf.cell (d i q) ?_⟩;exact hx ⟨b,off,none⟩ l.length g (by rw [p,f])
theorem A0.keep {n:Nat} {X:World->Nat->Prop} {A B:World} {v:Value} {l:Lev} (h1:1<=n) (h:A0 n X A v l) (hf:FrW X A B):A0 n X B v l:=by
 obtain ⟨x,y,g,t,s⟩:=h.off;obtain ⟨E,C,d,bx,i⟩:=h.at_;rw [g] at d;simp at d;obtain ⟨rfl,rfl⟩:=d;have lt:∀ (v:Value) (l:List Bool),A3 A v l->l.length=n->∀ a m c,v=O (some a) m c->a.block < A.heap.size:=by
  intro v l u hl a m c e;obtain ⟨F,z,g,f⟩:=u;obtain ⟨b,off,p,f⟩:=f (by rintro rfl;simp at hl;omega);rw [g,p] at e;injection e with q;injection q with q;rw [<-q];exact bL (f 0 (by omega))
 refine ⟨⟨x,y,g,DZ bx hf t,DZ i hf s⟩,h.len,x,y,g,fun a m c e k=>t a m c e (hf.mov _ (lt _ _ bx h.len.1 a m c e) k),fun a m c e k=>s a m c e (hf.mov _ (lt _ _ i h.len.2 a m c e) k)⟩
theorem A0.over {n:Nat} {X:World->Nat->Prop} (hX:XOk X) {A B:World} {v:Value} {l:Lev} (h:A0 n X A v l) (hb:Ov A B):A0 n X B v l:=by
 obtain ⟨x,y,g,f,d⟩:=h.off;exact ⟨AW h.at_ hb,h.len,x,y,g,fun a m c e b=>f a m c e (hX.below A B hb _ b),fun a m c e b=>d a m c e (hX.below A B hb _ b)⟩
theorem CT {X:World->Nat->Prop} (hX:XOk X) {A B:World} (hb:Ov A B) (hlt:∀ k,X A k->k < A.heap.size) {v:Value} (h:NB A.heap.size v):Sc (X B) v:=by
 obtain ⟨x,y,g,f,d⟩:=h;refine ⟨x,y,g,fun a m c e b=>?_,fun a m c e b=>?_⟩
 ·have:=f a m c e
  have:=hlt _ (hX.below A B hb _ b);omega
 ·have:=d a m c e
  have:=hlt _ (hX.below A B hb _ b);omega
def Bk (n:Nat) (X:World->Nat->Prop) (w:World) (v:Value) (ls:List Lev):Prop:=
 ∃ ao cap,v=O ao ls.length cap/\(ls≠[]->∃ b off,ao=some ⟨b,off,none⟩/\∀ i (h:i < ls.length),∃ rv wv,w.cell? ⟨b,off+i*2,none⟩=some rv/\w.cell? ⟨b,off+i*2+1,none⟩=some wv/\A0 n X w (zh #[rv,wv]) ls[i])
theorem Bk.levs {n:Nat} {X:World->Nat->Prop} {w:World} {v:Value} {ls:List Lev} (h:Bk n X w v ls):Cp w v ls:=by
 obtain ⟨u,g,l,c⟩:=h;refine ⟨u,g,l,fun d=>?_⟩;obtain ⟨b,off,f,c⟩:=c d;refine ⟨b,off,f,fun i p=>?_⟩;obtain ⟨rv,k,t,s,q⟩:=c i p;exact ⟨rv,k,t,s,q.at_⟩
theorem Bk.len {n:Nat} {X:World->Nat->Prop} {w:World} {v:Value} {ls:List Lev} (h:Bk n X w v ls):∀ x∈ls,x.len n:=by
 intro x f;obtain ⟨i,d,rfl⟩:=List.getElem_of_mem f;obtain ⟨s,l,q,c⟩:=h;obtain ⟨b,off,g,c⟩:=c (by rintro rfl;simp at d);obtain ⟨rv,p,-,-,k⟩:=c i d;exact k.len
theorem Bk.over {n:Nat} {X:World->Nat->Prop} (hX:XOk X) {w w':World} {v:Value} {ls:List Lev} (h:Bk n X w v ls) (hb:Ov w w'):Bk n X w' v ls:=by
 obtain ⟨u,g,l,c⟩:=h;refine ⟨u,g,l,fun d=>?_⟩;obtain ⟨b,off,f,c⟩:=c d;refine ⟨b,off,f,fun i p=>?_⟩;obtain ⟨rv,k,t,s,q⟩:=c i p;exact ⟨rv,k,Ab hb _ _ t,Ab hb _ _ s,q.over hX hb⟩
theorem EU (c:WC) (h1:1<=c.n) (h6:c.n<=6) (gs Ls) (X:World->Nat->Prop) (hX:XOk X) (v:Value) (l) (K:Nat) (cs:List Value) (d) (w:World)
  (hg:AB w (O c.ga c.gn c.gc) gs) (hE:AN c.n gs=0) (hL:Bk c.n X w (O c.la c.ln c.lc) Ls) (hl:A0 c.n X w v l) (hlm:Ls.length<=16) (hlt:∀ k,X w k->k < w.heap.size)
  (hx:RX w K cs d) (hv:∀ x∈Ar K d,0<=x/\x < (Ls.length:Int)) :
  Calls Tryz.prog 103 #[c.v,v,.agg cs.toArray] w fun e w'=>
   (∃ p1 q1 r1 p2 q2 r2,e=zk (zh #[O p1 q1 r1,O p2 q2 r2])/\A0 c.n X w' (zh #[O p1 q1 r1,O p2 q2 r2]) (AY c.n Ls l (Ar K d)))/\Ov w w':=by
 obtain ⟨q,i⟩:=Mj Ls.length _ hv;obtain ⟨t,s,rfl⟩:=hx.form;obtain ⟨x,y,rfl,-⟩:=hl.at_;obtain ⟨p1,q1,r1,p2,q2,r2,rfl,rfl⟩:=A8 hl.at_;refine (Q6 c.n h1 h6 c.ga c.gn c.gc c.sa c.sn c.sc c.ya c.yn c.yc c.oa c.on c.oc c.va c.vn c.vc c.fa c.fn c.fc c.ba c.bn c.bc c.la c.ln c.lc c.ka c.kn c.kc gs Ls p1 q1 r1 p2 q2 r2 l K _ _ t _ s d q w hg hE hL.levs hL.len hl.at_ hl.len (by omega) hx i).mono ?_;rintro e w' ⟨⟨v,rfl,f,hd⟩,p⟩;refine ⟨?_,p⟩;have b:=f;have u:Sc (X w') v:=by
  rcases hd with rfl | hd
  ·exact (hl.over hX p).off
  ·exact CT hX p hlt hd
 have g:=GE (L:=Ls) (Ar K d) l hl.len;obtain ⟨x,y,rfl,-⟩:=f;obtain ⟨F,E,C,B,A,z,rfl,rfl⟩:=A8 b;exact ⟨_,_,_,_,_,_,rfl,b,g,u⟩
theorem Ib {m:Int}:∀ (k:Nat) (d:D),(∀ x∈AO k d,BC m (AD x) (A5 x) (AC x).length=0)->∀ v∈Ar k d,0<=v/\v < m
 | 0,_,_,v,hv=>by simp [Ar] at hv
 | k+1,d,h,v,hv=>by
  unfold Ar at hv;have h0:=F7 (h d (by simp [AO]));by_cases h2:AD d=2
  ·rw [if_pos h2] at hv
   simp at hv;subst hv;omega
  ·rw [if_neg h2] at hv
   obtain ⟨a,ha,hv⟩:=List.mem_flatMap.1 hv;exact Ib k a (fun x hx=>h x (by simp only [AO,List.mem_cons,List.mem_flatMap];exact Or.inr ⟨a,ha,hx⟩)) v hv
theorem BK {m:Int} {k:Nat} {d:D} (h:AF m k d=0):∀ v∈Ar k d,0<=v/\v < m:=by
 unfold AF at h;split at h
 ·omega
 ·exact Ib k d (Gk h)
theorem MQ {k:Nat} {d:D} (h0:AD d=0) (ha:AC d=[]):Ar k d=[]:=by
 cases k with
 | zero=>rfl
 | succ k=>unfold Ar;rw [if_neg (by omega),ha];rfl
theorem BF {K nv ni no:Nat} {funcs:Int} {fs:List FnD} {d:D} (h:Cs K nv ni no funcs fs d):∀ v∈Ar K (Ao d),0<=v/\v < (nv:Int):=by
 obtain ⟨g,-,-,-,f,b,-⟩:=h;by_cases hk:Af d=2\/Af d=3
 ·rw [MQ (b hk).1 (b hk).2]
  intro v c;cases c
 ·exact BK (f (by omega))
section
variable {σ:Type} (c:WC) (w0:World) (K nv ni no:Nat) (fs:List FnD) (gs:List (Int × Int)) (lev flev:σ->List Lev) (Inv:σ->World->Prop) (X:World->Nat->Prop)
structure Fi:Prop where
 n1:1<=c.n
 n6:c.n<=6
 gr:AB w0 (O c.ga c.gn c.gc) gs
 chk:AN c.n gs=0
 nv16:nv<=16
 below:∀ st W,Inv st W->Ov w0 W
 levs:∀ st W,Inv st W->Bk c.n X W (O c.la c.ln c.lc) (lev st)/\(lev st).length=nv
 flevs:∀ st W,Inv st W->Bk c.n X W (O c.ka c.kn c.kc) (flev st)/\(flev st).length=fs.length
 over:∀ st W W',Inv st W->Ov W W'->Inv st W'
 xok:XOk X
 xlt:∀ st W,Inv st W->∀ k,X W k->k < W.heap.size
def QH (step:Int->D->Lev->σ->σ) (F:FuncId) (fre cap:List Value) (Pm:Int->σ->Prop):Prop:=
 ∀ (st:σ) (W:World) (a:Int) (k:Nat) (cs:List Value) (d:D) (v:Value) (p:Lev) (funcs:Int),Inv st W->RS w0 K (k+1) cs d->funcs<=fs.length->Cs K nv ni no funcs fs d->A0 c.n X W v p->0<=a->a<=100->Pm a st ->
  Calls Tryz.prog F (fre++zd U a::.agg cs.toArray::v::cap).toArray W fun e W'=>e=zk (zm #[])/\Inv (step a d p st) W'/\FrW X W W'
end
section
variable {σ:Type} {c:WC} {w0:World} {K nv ni no:Nat} {fs:List FnD} {gs:List (Int × Int)} {lev flev:σ->List Lev} {Inv:σ->World->Prop} {X:World->Nat->Prop}
theorem F5 {n K:Nat} {lev:σ->List Lev} {step:Int->D->Lev->σ->σ} {cnt1:List D->Nat} {rec:List D->Int->Lev->σ->σ} {p:Lev} {k:Nat}:∀ (l:List D) (q:Int × σ),(l.foldl (Eo n K lev step (BD k) cnt1 rec p) q).1=q.1+(Ai k l:Nat)
 | [],q=>by simp [Ai]
 | d::l,q=>by
  rw [List.foldl_cons,F5 l];simp [Eo,Ai];omega
theorem Jk {k:Nat} {l:List D} {j:Nat} (hj:j < l.length):Ai k (l.take j)+BD k l[j]<=Ai k l:=by
 rw [<-DP hj];unfold Ai
 conv=>rhs;rw [<-List.take_append_drop (j+1) l]
 rw [List.map_append,List.sum_append];omega
theorem A0.form {n:Nat} {W:World} {v:Value} {l:Lev} (h:A0 n X W v l):∃ p1 q1 r1 p2 q2 r2,v=zh #[O p1 q1 r1,O p2 q2 r2]:=by
 obtain ⟨x,y,b,-⟩:=h.at_;have c:=h.at_;rw [b] at c;obtain ⟨p1,q1,r1,p2,q2,r2,rfl,rfl⟩:=A8 c;exact ⟨_,_,_,_,_,_,b⟩
structure Md (Pm:Int->σ->Prop) (step:Int->D->Lev->σ->σ):Prop where
 step:∀ a d p st,Pm a st->Pm (a+1) (step a d p st)
 mono:∀ a b st,a<=b->Pm a st->Pm b st
theorem PU (step:Int->D->Lev->σ->σ):Md (fun _ _=>True) step:=⟨fun _ _ _ _ _=>trivial,fun _ _ _ _ _=>trivial⟩
theorem GA {n K:Nat} {lev:σ->List Lev} {step:Int->D->Lev->σ->σ} {Pm:Int->σ->Prop} (h:Md Pm step) {k:Nat} (ih:∀ (l:List D) (a:Int) (p:Lev) (st:σ),Pm a st->Pm (a+(Ai k l:Nat)) (goS n K lev step k l a p st)) {p:Lev}:∀ (l:List D) (q:Int × σ),Pm q.1 q.2->Pm (l.foldl (Eo n K lev step (BD (k+1)) (Ai k) (goS n K lev step k) p) q).1 (l.foldl (Eo n K lev step (BD (k+1)) (Ai k) (goS n K lev step k) p) q).2
 | [],q,hq=>hq
 | d::l,q,hq=>by
  rw [List.foldl_cons];refine GA h ih l _ ?_;have h3:=ih (Ak d) _ (AY n (lev (step q.1 d p q.2)) p (Ar K (Ao d))) _ (ih (Ag d) _ (AY n (lev (step q.1 d p q.2)) p (Ar K (Ao d))) _ (h.step _ d p _ hq));have he:q.1+((BD (k+1) d:Nat):Int)=q.1+1+(Ai k (Ag d):Nat)+(Ai k (Ak d):Nat):=by
   have:BD (k+1) d=1+Ai k (Ag d)+Ai k (Ak d):=rfl;rw [this];push_cast;omega
  show Pm (q.1+((BD (k+1) d:Nat):Int)) _;rw [he];exact h3
theorem J9 {n K:Nat} {lev:σ->List Lev} {step:Int->D->Lev->σ->σ} {Pm:Int->σ->Prop} (h:Md Pm step):∀ (k:Nat) (l:List D) (a:Int) (p:Lev) (st:σ),Pm a st->Pm (a+(Ai k l:Nat)) (goS n K lev step k l a p st)
 | 0,l,a,p,st,hp=>h.mono _ _ _ (by omega) hp
 | k+1,l,a,p,st,hp=>by
  have h1:=GA (n:=n) (K:=K) (lev:=lev) h (J9 h k) (p:=p) l (a,st) hp;rw [F5] at h1;exact h1
theorem Q9 (I:Fi c w0 nv fs gs lev flev Inv X) (step:Int->D->Lev->σ->σ) (F:FuncId) (fre cap:List Value) (Pm:Int->σ->Prop) (hPm:Hx (Md Pm step)) (hC:∀ (args:Array Value) (w:World),(callFunc F args).run Tryz.prog w=.ok (.enter F args) w) (hdo:Hx (QH c w0 K nv ni no fs Inv X step F fre cap Pm)) (funcs:Int) (hfn:funcs<=fs.length) :
  ∀ (k:Nat) (vl:Value) (l:List D) (a:Int) (v:Value) (p:Lev) (st:σ) (W:World),AI w0 K k vl l->(∀ s∈l,okS K nv ni no funcs fs k s)->Inv st W->A0 c.n X W v p->0<=a->a+(Ai k l:Nat)<=50->Pm a st ->
   Calls Tryz.prog 148 #[c.v,vl,zd U a,v,.func (.func F) fre.toArray cap.toArray] W fun e W'=>e=zk (zd U (a+(Ai k l:Nat)))/\Inv (goS c.n K lev step k l a p st) W'/\FrW X W W':=by
 intro k
 induction k with
 | zero=>
  intro vl l a v p st W hs _ Y hp h0 b5 _;obtain rfl:=hs.zero;obtain ⟨-,ao,cap,rfl,-⟩:=hs;obtain ⟨p1,q1,r1,p2,q2,r2,rfl⟩:=hp.form;have hb:Ov W ((W.alloc (ze #[zd U (c.n:Int),O c.ga c.gn c.gc,O c.sa c.sn c.sc,O c.ya c.yn c.yc,O c.oa c.on c.oc,O c.va c.vn c.vc,O c.fa c.fn c.fc,O c.ba c.bn c.bc,O c.la c.ln c.lc,O c.ka c.kn c.kc] 108)).alloc (ze #[O p1 q1 r1,O p2 q2 r2] 50)):=(bA W _).alloc (by simp) _;have t:=Aa (I.over _ _ _ Y hb);have HF:=Aa (FrW.of_below I.xok hb);clear hdo hb;go_enter Tryz.func148,Tryz.ntmps148;go_wp2_with fail;go_loopw [16,2] (fun i x wr=>i=zd U 0/\x=zd U a/\wr=((W.alloc (ze #[zd U (c.n:Int),O c.ga c.gn c.gc,O c.sa c.sn c.sc,O c.ya c.yn c.yc,O c.oa c.on c.oc,O c.va c.vn c.vc,O c.fa c.fn c.fc,O c.ba c.bn c.bc,O c.la c.ln c.lc,O c.ka c.kn c.kc] 108)).alloc (ze #[O p1 q1 r1,O p2 q2 r2] 50))) (fun _ _ _=>0)
  case atStart=>exact ⟨rfl,rfl,rfl⟩
  case round=>
   obtain ⟨rfl,rfl,rfl⟩:=hrel;go_wp2_with fail;go_ret;exact ⟨by simp [Ai],t.o,HF.o⟩
 | succ k ih=>
  intro vl l a v p st W hs dj Y hp h0 b5 dg;have d7:=Aa dg;clear dg;obtain ⟨p1,q1,r1,p2,q2,r2,rfl⟩:=hp.form;have hb:Ov W ((W.alloc (ze #[zd U (c.n:Int),O c.ga c.gn c.gc,O c.sa c.sn c.sc,O c.ya c.yn c.yc,O c.oa c.on c.oc,O c.va c.vn c.vc,O c.fa c.fn c.fc,O c.ba c.bn c.bc,O c.la c.ln c.lc,O c.ka c.kn c.kc] 108)).alloc (ze #[O p1 q1 r1,O p2 q2 r2] 50)):=(bA W _).alloc (by simp) _;obtain ⟨et,ao,cap,rfl,V⟩:=hs;have fg:l.length<=9223372036854775807:=et;have cv:¬ X ((W.alloc (ze #[zd U (c.n:Int),O c.ga c.gn c.gc,O c.sa c.sn c.sc,O c.ya c.yn c.yc,O c.oa c.on c.oc,O c.va c.vn c.vc,O c.fa c.fn c.fc,O c.ba c.bn c.bc,O c.la c.ln c.lc,O c.ka c.kn c.kc] 108)).alloc (ze #[O p1 q1 r1,O p2 q2 r2] 50)) W.heap.size:=fun h=>by have:=I.xlt _ _ Y _ (I.xok.below _ _ hb _ h);omega
  have cu:¬ X ((W.alloc (ze #[zd U (c.n:Int),O c.ga c.gn c.gc,O c.sa c.sn c.sc,O c.ya c.yn c.yc,O c.oa c.on c.oc,O c.va c.vn c.vc,O c.fa c.fn c.fc,O c.ba c.bn c.bc,O c.la c.ln c.lc,O c.ka c.kn c.kc] 108)).alloc (ze #[O p1 q1 r1,O p2 q2 r2] 50)) (W.heap.size+1):=fun h=>by have:=I.xlt _ _ Y _ (I.xok.below _ _ hb _ h);omega
  have f:Ad c.cs ((W.alloc (ze #[zd U (c.n:Int),O c.ga c.gn c.gc,O c.sa c.sn c.sc,O c.ya c.yn c.yc,O c.oa c.on c.oc,O c.va c.vn c.vc,O c.fa c.fn c.fc,O c.ba c.bn c.bc,O c.la c.ln c.lc,O c.ka c.kn c.kc] 108)).alloc (ze #[O p1 q1 r1,O p2 q2 r2] 50)) W.heap.size:=(Ad.new c.cs 108 W).over (bA _ _);have u:Ad [O p1 q1 r1,O p2 q2 r2] ((W.alloc (ze #[zd U (c.n:Int),O c.ga c.gn c.gc,O c.sa c.sn c.sc,O c.ya c.yn c.yc,O c.oa c.on c.oc,O c.va c.vn c.vc,O c.fa c.fn c.fc,O c.ba c.bn c.bc,O c.la c.ln c.lc,O c.ka c.kn c.kc] 108)).alloc (ze #[O p1 q1 r1,O p2 q2 r2] 50)) (W.heap.size+1):=by
   have r:=Ad.new [O p1 q1 r1,O p2 q2 r2] 50 (W.alloc (ze #[zd U (c.n:Int),O c.ga c.gn c.gc,O c.sa c.sn c.sc,O c.ya c.yn c.yc,O c.oa c.on c.oc,O c.va c.vn c.vc,O c.fa c.fn c.fc,O c.ba c.bn c.bc,O c.la c.ln c.lc,O c.ka c.kn c.kc] 108));simpa using r
  have d9:=Aa (hp.over I.xok hb);have b8:=Aa cv;have b7:=Aa cu;have cb:=Aa f;have ca:=Aa u;have eh:=Aa (I.over _ _ _ Y hb);have ej:=Aa (FrW.of_below I.xok hb);have e8:=Aa V;have ef:=Aa dj;have IH:=Aa ih;have t:=Aa I;obtain ⟨Q,hQ⟩:∃ Q:Nat->Int × σ,Q=fun j=>(l.take j).foldl (Eo c.n K lev step (BD (k+1)) (Ai k) (goS c.n K lev step k) p) (a,st):=⟨_,rfl⟩;have HQ:=Aa hQ;have dq:∀ j,(Q j).1=a+(Ai (k+1) (l.take j):Nat):=fun j=>by rw [hQ];exact F5 _ _
  have d5:=Aa dq;obtain ⟨W0,ay⟩:=nm (((W.alloc (ze #[zd U (c.n:Int),O c.ga c.gn c.gc,O c.sa c.sn c.sc,O c.ya c.yn c.yc,O c.oa c.on c.oc,O c.va c.vn c.vc,O c.fa c.fn c.fc,O c.ba c.bn c.bc,O c.la c.ln c.lc,O c.ka c.kn c.kc] 108)).alloc (ze #[O p1 q1 r1,O p2 q2 r2] 50)));have df:Q 0=(a,st):=by rw [hQ];rfl
  have d6:=Aa df;have fd:=Aa b5;rw [<-ay] at d9 b8 b7 cb ca eh ej;clear hb cv cu f u V dj ih I Y hp dq df hQ b5;go_enter Tryz.func148,Tryz.ntmps148;go_wp2_with fail;go_loopw [16,2] (fun i x wr=>∃ j:Nat,j<=l.length/\i=zd U j/\x=zd U (Q j).1/\Inv (Q j).2 wr/\FrW X W0 wr) (fun i _ _=>l.length - (intOf i).toNat)
  case atStart=>exact ⟨0,Nat.zero_le _,rfl,by rw [d6.o],by rw [d6.o,<-ay];exact eh.o,by rw [<-ay];exact FrW.refl _⟩
  case round=>
   obtain ⟨j,hj,rfl,rfl,Y,hF⟩:=hrel;clear ay;obtain ⟨at_,C⟩:=nm ((Q j).1);have a0:at_=a+(Ai (k+1) (l.take j):Nat):=C.trans (d5.o j);rw [<-C];have em:=Aa C;by_cases hlt:j < l.length
   ·have ew:=Jk (k:=k+1) hlt
    have d0:=fd.o;have ex:BD (k+1) l[j]=1+Ai k (Ag l[j])+Ai k (Ak l[j]):=rfl;have ez:0<=at_:=by omega
    have ey:at_+(1+Ai k (Ag l[j])+Ai k (Ak l[j]):Nat)<=50:=by omega
    have g:=Ab (t.o.below _ _ Y);obtain ⟨b,off,rfl,dl⟩:=e8.o (by rintro rfl;simp at hlt);obtain ⟨cs,eu,y,av⟩:=dl j l[j] (List.getElem?_eq_getElem hlt);obtain ⟨N,ai,aj⟩:=ef.o l[j] (List.getElem_mem hlt);obtain ⟨d,hd⟩:=nm (l[j]);rw [<-hd] at av N ai aj ey;have HD:=Aa hd;have b9:=Aa av;obtain ⟨ek,en,xa,xl,xc,aa,ac,ta,tc,ea,ec,rfl,i0,i1,i2,hX,-,hT,hE,-,-,-⟩:=av.form;obtain ⟨kd,dk⟩:=nm (Af d);obtain ⟨vr,dd⟩:=nm (Ax d);obtain ⟨ot,di⟩:=nm (Ae d);obtain ⟨al,dn⟩:=nm ((Al d).length);obtain ⟨tl,b0⟩:=nm ((Ag d).length);obtain ⟨el,V⟩:=nm ((Ak d).length);rw [<-dk,<-dd,<-di,<-dn,<-b0,<-V] at y b9;rw [<-b0] at hT;rw [<-V] at hE;have g0:wr.cell? ⟨b,off+j*9,none⟩=_:=g _ _ (y 0 _ rfl);have g1:=g _ _ (y 1 _ rfl);have g2:=g _ _ (y 2 _ rfl);have g3:=g _ _ (y 3 _ rfl);have g4:=g _ _ (y 4 _ rfl);have g5:=g _ _ (y 5 _ rfl);have g6:=g _ _ (y 6 _ rfl);have g7:=g _ _ (y 7 _ rfl);have g8:=g _ _ (y 8 _ rfl);have ax:=bA wr (ze #[zd U kd,zd U vr,zd U ot,zd U ek,zd U en,O xa xl xc,O aa al ac,O ta tl tc,O ea el ec] 130);have q:=Ad.new [zd U kd,zd U vr,zd U ot,zd U ek,zd U en,O xa xl xc,O aa al ac,O ta tl tc,O ea el ec] 130 wr;have E:=hF.trans (FrW.of_below t.o.xok ax);have dy:=t.o.over _ _ _ Y ax;have ct:¬ X (wr.alloc (ze #[zd U kd,zd U vr,zd U ot,zd U ek,zd U en,O xa xl xc,O aa al ac,O ta tl tc,O ea el ec] 130)) wr.heap.size:=fun h=>by have:=t.o.xlt _ _ Y _ (t.o.xok.below _ _ ax _ h);omega
    have b2:=d9.o.keep t.o.n1 E;have K1:=Aa (hdo.o (Q j).2 _ at_ k _ d _ p funcs dy b9.o hfn N b2 ez (by omega) (by rw [C,HQ.o];exact GA hPm.o (J9 hPm.o k) _ (a,st) d7.o));have f:=E.row cb.o b8.o;have u:=E.row ca.o b7.o;have x0:¬ X (wr.alloc (ze #[zd U kd,zd U vr,zd U ot,zd U ek,zd U en,O xa xl xc,O aa al ac,O ta tl tc,O ea el ec] 130)) W.heap.size:=fun h=>b8.o (E.mov _ (bL (cb.o 0 _ rfl)) h);have x1:¬ X (wr.alloc (ze #[zd U kd,zd U vr,zd U ot,zd U ek,zd U en,O xa xl xc,O aa al ac,O ta tl tc,O ea el ec] 130)) (W.heap.size+1):=fun h=>b7.o (E.mov _ (bL (ca.o 0 _ rfl)) h);have cc:Hx (Q (j+1)=(at_+(1+Ai k (Ag d)+Ai k (Ak d):Nat),goS c.n K lev step k (Ak d) (at_+1+(Ai k (Ag d):Nat)) (AY c.n (lev (step at_ d p (Q j).2)) p (Ar K (Ao d))) (goS c.n K lev step k (Ag d) (at_+1) (AY c.n (lev (step at_ d p (Q j).2)) p (Ar K (Ao d))) (step at_ d p (Q j).2)))):=by
     have e1:Q (j+1)=Eo c.n K lev step (BD (k+1)) (Ai k) (goS c.n K lev step k) p (Q j) l[j]:=by
      rw [HQ.o];dsimp only;rw [List.take_succ_eq_append_getElem hlt,List.foldl_append];rfl
     rw [e1,<-HD.o];unfold Eo;rw [<-em.o];rfl
    have ar:Hx (Pm (at_+1) (step at_ d p (Q j).2)):=hPm.o.step _ _ _ _ (by rw [C,HQ.o];exact GA hPm.o (J9 hPm.o k) _ (a,st) d7.o);obtain ⟨cy,az⟩:=nm (step at_ d p (Q j).2);rw [<-az] at K1 cc ar;have ee:=Aa N;have eb:=Aa ai;have ed:=Aa aj;have e4:=Aa hX;have HT:=Aa hT;have HE:=Aa hE;have d8:=Aa b2;have ei:=Aa E;have an:=Aa x0;have am:=Aa x1;have b6:=Aa ct;have T:=Aa f;have S:=Aa u;have R:=Aa q;have ff:(j:Int) < (l.length:Int):=by omega
    clear az N ai aj hX hT hE b2 E x0 x1 ct f u q dy Y hF ax g dl y eu dk dd di dn b0 V hd C a0 ex d0 ew em ef b9 av;obtain ⟨t0,t1,t2,t3,t4,t5,t6,t7,t8,t9⟩:=CA T.o;obtain ⟨u0,u1⟩:=rc2 S.o;obtain ⟨s0,s1,s2,s3,s4,s5,s6,s7,s8⟩:=rc9 R.o;go_wp2_with fail;refine (K1.o).mono ?_;rintro e W2 ⟨rfl,ak,A⟩;have cd:=Aa ak;have b4:=t.o.below _ _ ak;have a3:=ei.o.trans A;have db:=bL (T.o 0 _ rfl);have da:=bL (S.o 0 _ rfl);have c8:=bL (R.o 0 _ rfl);have f:=A.row T.o an.o;have u:=A.row S.o am.o;have q:=A.row R.o b6.o;have x0:¬ X W2 W.heap.size:=fun h=>an.o (A.mov _ db h);have x1:¬ X W2 (W.heap.size+1):=fun h=>am.o (A.mov _ da h);have xS:¬ X W2 wr.heap.size:=fun h=>b6.o (A.mov _ c8 h);have dr:=d8.o.keep t.o.n1 A;have aw:=t.o.levs _ _ ak;have KW:=Aa (EU c t.o.n1 t.o.n6 gs (lev cy) X t.o.xok _ p K [zd U ek,zd U en,O xa xl xc] (Ao d) W2 (Aj t.o.gr b4) t.o.chk aw.1 dr (by rw [aw.2];exact t.o.nv16) (t.o.xlt _ _ ak) (e4.o.over b4) (by rw [aw.2];exact BF ee.o));have a8:=Aa x0;have d4:=Aa x1;have a5:=Aa xS;have M:=Aa f;have aq:=Aa u;have H:=Aa q;have bd:=Aa a3;clear K1 ak A a3 db da c8 f u q x0 x1 xS dr aw b4 t0 t1 t2 t3 t4 t5 t6 t7 t8 t9 u0 u1 s0 s1 s2 s3 s4 s5 s6 s7 s8 g0 g1 g2 g3 g4 g5 g6 g7 g8 T S R an am b6 d8 ei;obtain ⟨t0,t1,t2,t3,t4,t5,t6,t7,t8,t9⟩:=CA M.o;obtain ⟨u0,u1⟩:=rc2 aq.o;obtain ⟨s0,s1,s2,s3,s4,s5,s6,s7,s8⟩:=rc9 H.o;go_wp2_with fail;refine (KW.o).mono ?_;rintro e W3 ⟨⟨o1,o2,o3,o4,o5,o6,rfl,dt⟩,b1⟩;have P:=bA W3 (ze #[O o1 o2 o3,O o4 o5 o6] 50);have z:=Ac b1 P;have dw:=t.o.over _ _ _ cd.o z;have dx:=t.o.over _ _ _ cd.o b1;have b3:=dt.over t.o.xok P;have B:=Ad.new [O o1 o2 o3,O o4 o5 o6] 50 W3;have xI:¬ X (W3.alloc (ze #[O o1 o2 o3,O o4 o5 o6] 50)) W3.heap.size:=fun h=>by have:=t.o.xlt _ _ dx _ (t.o.xok.below _ _ P _ h);omega
    have f:=M.o.over z;have q:=H.o.over z;have x0:¬ X (W3.alloc (ze #[O o1 o2 o3,O o4 o5 o6] 50)) W.heap.size:=fun h=>a8.o (t.o.xok.below _ _ z _ h);have xS:¬ X (W3.alloc (ze #[O o1 o2 o3,O o4 o5 o6] 50)) wr.heap.size:=fun h=>a5.o (t.o.xok.below _ _ z _ h);have a2:=bd.o.trans (FrW.of_below t.o.xok z);have KT:=Aa (IH.o (O ta tl tc) (Ag d) (at_+1) _ _ cy _ HT.o eb.o dw b3 (by omega) (by omega) ar.o);have L:=Aa f;have G:=Aa q;have J:=Aa B;have a7:=Aa x0;have a4:=Aa xS;have a6:=Aa xI;have eg:=Aa b3;have bb:=Aa a2;clear KW dt b1 P z dw dx b3 B xI f q x0 xS a2 t0 t1 t2 t3 t4 t5 t6 t7 t8 t9 u0 u1 s0 s1 s2 s3 s4 s5 s6 s7 s8 M aq H a8 d4 a5 cd bd;obtain ⟨t0,t1,t2,t3,t4,t5,t6,t7,t8,t9⟩:=CA L.o;obtain ⟨u0,u1⟩:=rc2 J.o;obtain ⟨s0,s1,s2,s3,s4,s5,s6,s7,s8⟩:=rc9 G.o;go_wp2_with fail;refine (KT.o).mono ?_;rintro e W5 ⟨rfl,dv,Z⟩;have f:=Z.row L.o a7.o;have q:=Z.row G.o a4.o;have B:=Z.row J.o a6.o;have ds:=eg.o.keep t.o.n1 Z;have KE:=Aa (IH.o (O ea el ec) (Ak d) (at_+1+(Ai k (Ag d):Nat)) _ _ _ _ HE.o ed.o dv ds (by omega) (by omega) (J9 hPm.o k _ _ _ _ ar.o));have a9:=Aa (bb.o.trans Z);have fo:0<=at_+1+(Ai k (Ag d):Nat):=by omega
    have fm:at_+1+(Ai k (Ag d):Nat)<=50:=by omega
    clear KT dv Z ds t0 t1 t2 t3 t4 t5 t6 t7 t8 t9 u0 u1 s0 s1 s2 s3 s4 s5 s6 s7 s8 L G J a7 a4 a6 eg bb;obtain ⟨t0,t1,t2,t3,t4,t5,t6,t7,t8,t9⟩:=CA f;obtain ⟨u0,u1⟩:=rc2 B;obtain ⟨s0,s1,s2,s3,s4,s5,s6,s7,s8⟩:=rc9 q;clear f q B;go_wp2_with fail;refine (KE.o).mono ?_;rintro e W6 ⟨rfl,du,dz⟩;have e5:=Aa du;have e6:=Aa (a9.o.trans dz);clear KE du dz t0 t1 t2 t3 t4 t5 t6 t7 t8 t9 u0 u1 s0 s1 s2 s3 s4 s5 s6 s7 s8 a9;go_wp2_with fail;refine ⟨⟨j+1,by omega,by go_num,?_,by rw [cc.o];exact e5.o,e6.o⟩,by simp [intOf];omega⟩;rw [cc.o];congr 1
    push_cast
    omega
   ·have a1:(Q j).1=a+(Ai (k+1) l:Nat):=by rw [d5.o j,List.take_of_length_le (by omega)]
    have de:(Q j).2=goS c.n K lev step (k+1) l a p st:=by rw [HQ.o];dsimp only;rw [List.take_of_length_le (by omega)];rfl
    have e9:=Aa (show Inv (goS c.n K lev step (k+1) l a p st) wr by rw [<-de];exact Y);have e7:=Aa (ej.o.trans hF);have dm:at_=a+(Ai (k+1) l:Nat):=C.trans a1;have fb:=Aa dm;clear a1 de Y hF dm C a0;go_wp2_with fail;go_ret;exact ⟨by rw [fb.o];rfl,e9.o,e7.o⟩
end
end Go.Proofs.YtfffpjkcfnekaaaGreat.Ex
