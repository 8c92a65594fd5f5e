/- scope.Check of any program: just when all is right. -/
import Derived.Test.YtfffpjkcfnekaaaGreatG21
import Derived.Maps.AppendAt
set_option linter.unusedVariables false
set_option maxHeartbeats 8000000
set_option maxRecDepth 100000
namespace Go.Proofs.YtfffpjkcfnekaaaGreat.Ex.Ez
open Go.RowKit
open Go.Value renaming slice -> O, int -> zd, bool -> ze, agg -> zg, pointer -> zi, tuple -> zj
open Go.IntKind renaming i64 -> U
open Go.Obj renaming cells -> zf
open Go.Ending renaming returned -> zh
def JI (E:Int) (w:World) (f:Int->Value) (e:Ending) (w':World):Prop:=e=zh (f E)/\Ov w w'
open Classical in
theorem Dv (K kf:Nat) (m:Int) (ga gn gc sa sn sc ya yn yc oa on oc va vn vc fa fn fc ba bn bc gs sp ls ms vs fs l) (w:World) (h:A1 K kf m ga gn gc sa sn sc ya yn yc oa on oc va vn vc fa fn fc ba bn bc gs sp ls ms vs fs l w) :
  Calls Tryz.prog 112 #[.func (.func 113) #[zg #[zd U m,O ga gn gc,O sa sn sc,O ya yn yc,O oa on oc,O va vn vc,O fa fn fc,O ba bn bc]] #[]] w (JI (eP K kf m vn yn on sn gs sp ls ms vs fs l) w fun why=>zj #[zd U 0,zd U why]):=by
 have hmf:∀ (fn:Fn) (first cap:Array Value) (w:World),(Instr.makeFunc fn first cap).run Tryz.prog w=.ok (.func fn first cap) w:=fun _ _ _ _=>rfl
 have HC:∀ (args:Array Value) (w:World),(callFunc 113 args).run Tryz.prog w=.ok (.enter 113 args) w:=fun args w=>by simp [go_sem]
 have hbel:Ov w ((w.alloc (zf #[zd U 0] 3)).alloc (zf #[zd U 0] 32)):=(bA w _).alloc (by simp) _
 have K:=Aa (Du K kf m ga gn gc sa sn sc ya yn yc oa on oc va vn vc fa fn fc ba bn bc gs sp ls ms vs fs l _ (h.over hbel))
 have q0:=Cn w [zd U 0] 3 (zf #[zd U 0] 32) 0 _ rfl
 have q1:=CJ w (zf #[zd U 0] 3) [zd U 0] 32 0 _ rfl
 have z0:((w.alloc (zf #[zd U 0] 3)).alloc (zf #[zd U 0] 32)).frozen? ⟨w.heap.size,0,none⟩=false:=by simp [go_sem]
 have z1:((w.alloc (zf #[zd U 0] 3)).alloc (zf #[zd U 0] 32)).frozen? ⟨w.heap.size+1,0,none⟩=false:=by simp [go_sem]
 clear h
 go_enter_defers Tryz.func112,Tryz.ntmps112
 go_wp2_with fail
 refine (K.o).mono ?_
 rintro e w1 ⟨he,hb1⟩
 obtain ⟨hc,hf⟩:=AM hb1
 have hB1:=hbel.trans (hb1.mono hbel.size)
 obtain ⟨p0,p1⟩:=co2 hb1 q0 q1
 have y0:=(hf w.heap.size 0 (by simp;omega)).trans z0
 have y1:=(hf (w.heap.size+1) 0 (by simp)).trans z1
 have g1:w.heap.size+1 < w1.heap.size:=bL p1
 have g0:w.heap.size < w1.heap.size:=by omega
 clear hc hf q0 q1 z0 z1 hb1 K hbel
 rcases he with ⟨hok,rfl⟩ | ⟨hng,rfl⟩
 ·have HOK:=Aa hok
  clear hok
  go_wp2_with fail
  refine leaves_cons (f:=170) (args:=#[zi (some ⟨w.heap.size,0,none⟩),zi (some ⟨w.heap.size+1,0,none⟩)]) (by simp) (by simp [go_sem]) ?_
  refine (EG _ _ _).mono ?_
  rintro e u' w2 ⟨rfl,rfl,rfl⟩
  have d0:((w1.setCell ⟨w.heap.size,0,none⟩ (zd U 0)).setCell ⟨w.heap.size+1,0,none⟩ (zd U 0)).cell? ⟨w.heap.size,0,none⟩=some (zd U 0):=by simp [go_sem,p0]
  have d1:((w1.setCell ⟨w.heap.size,0,none⟩ (zd U 0)).setCell ⟨w.heap.size+1,0,none⟩ (zd U 0)).cell? ⟨w.heap.size+1,0,none⟩=some (zd U 0):=by simp [go_sem,p1]
  have hbb:Ov w ((w1.setCell ⟨w.heap.size,0,none⟩ (zd U 0)).setCell ⟨w.heap.size+1,0,none⟩ (zd U 0)):=(hB1.setCell (by simp) _).setCell (by simp) _
  generalize ((w1.setCell ⟨w.heap.size,0,none⟩ (zd U 0)).setCell ⟨w.heap.size+1,0,none⟩ (zd U 0))=wF at d0 d1 hbb ⊢
  simp [Leaves,settle,results,Tryz.results112,go_sem,d0,d1]
  exact ⟨by rw [HOK.o],hbb⟩
 ·have HNG:=Aa hng
  clear hng
  unfold Ah
  go_wp2_with fail
  refine leaves_cons (f:=170) (args:=#[zi (some ⟨w.heap.size,0,none⟩),zi (some ⟨w.heap.size+1,0,none⟩)]) (by simp) (by simp [go_sem]) ?_
  refine (EH w.heap.size 0 0 _ _ [] _ (by omega) p0 p1 y0 y1).mono ?_
  rintro e u' w2 ⟨rfl,rfl,d0,d1,hb2⟩
  have hbb:Ov w w2:=hB1.trans hb2
  simp [Leaves,settle,results,Tryz.results112,go_sem,d0,d1]
  exact ⟨rfl,hbb⟩
open Classical in
theorem scopeCheck_any (K kf:Nat) (m:Int) (ga gn gc sa sn sc ya yn yc oa on oc va vn vc fa fn fc ba bn bc gs sp ls ms vs fs l) (w:World) (h:A1 K kf m ga gn gc sa sn sc ya yn yc oa on oc va vn vc fa fn fc ba bn bc gs sp ls ms vs fs l w) :
  Calls Tryz.prog 53 #[zg #[zd U m,O ga gn gc,O sa sn sc,O ya yn yc,O oa on oc,O va vn vc,O fa fn fc,O ba bn bc]] w (JI (eP K kf m vn yn on sn gs sp ls ms vs fs l) w fun why=>zd U why):=by
 have hbel:Ov w ((w.alloc (zf #[zd U m,O ga gn gc,O sa sn sc,O ya yn yc,O oa on oc,O va vn vc,O fa fn fc,O ba bn bc] 31)).alloc (zf #[zd U m,O ga gn gc,O sa sn sc,O ya yn yc,O oa on oc,O va vn vc,O fa fn fc,O ba bn bc] 184)):=(bA w _).alloc (by simp) _
 have K:=Aa (Dv K kf m ga gn gc sa sn sc ya yn yc oa on oc va vn vc fa fn fc ba bn bc gs sp ls ms vs fs l _ (h.over hbel))
 clear h
 go_enter Tryz.func53,Tryz.ntmps53
 go_wp2_with fail
 refine (K.o).mono ?_
 rintro e w1 ⟨rfl,hb1⟩
 have hB1:=hbel.trans (hb1.mono hbel.size)
 clear hbel hb1 K
 go_wp2_with fail
 go_ret
 exact ⟨rfl,hB1⟩
theorem e3 {A B:Prop} [Decidable A] [Decidable B] {X:Int}:(if A then if B then X else 1 else 5)=0 ↔ A/\B/\X=0:=by
 by_cases hA:A
 ·by_cases hB:B
  ·rw [if_pos hA,if_pos hB];exact ⟨fun h=>⟨hA,hB,h⟩,fun h=>h.2.2⟩
  ·rw [if_pos hA,if_neg hB];exact ⟨fun h=>absurd h (by decide),fun h=>absurd h.2.1 hB⟩
 ·rw [if_neg hA];exact ⟨fun h=>absurd h (by decide),fun h=>absurd h.1 hA⟩
theorem e2 {B:Prop} [Decidable B] {X:Int}:(if B then X else 1)=0 ↔ B/\X=0:=by
 by_cases hB:B
 ·rw [if_pos hB];exact ⟨fun h=>⟨hB,h⟩,fun h=>h.2⟩
 ·rw [if_neg hB];exact ⟨fun h=>absurd h (by decide),fun h=>absurd h.1 hB⟩
theorem Cd {α:Type} {f:α->Int} {l:List α}:Bl (l.map f)=0 ↔ ∀ a∈l,f a=0:=
 ⟨fun h a ha=>Cx.1 h _ (List.mem_map_of_mem ha),BU⟩
theorem Js {a b c:Int}:Bl [a,b,c]=0 ↔ a=0/\b=0/\c=0:=by
 rw [Cx];simp
theorem Jt {a b:Int}:Bl [a,b]=0 ↔ a=0/\b=0:=by
 rw [Cx];simp
theorem Km (K nv ni no:Nat) (funcs:Int) (fs) (d:D):eS1 K nv ni no funcs fs d=0 ↔ Ey.xS1 K nv ni no funcs fs d:=by
 unfold eS1 Ey.xS1 Dh Ey.zerS
 by_cases hk:1<=Ad d/\Ad d<=8
 ·rcases (by omega:Ad d=1\/Ad d=2\/Ad d=3\/Ad d=4\/Ad d=5\/Ad d=6\/Ad d=7\/Ad d=8) with h | h | h | h | h | h | h | h
  all_goals
   simp only [h,Int.reduceEq,if_true,if_false]
   first | rw [e3] | rw [e2]
   try rw [Cd]
   simp only [Ey.len0]
   constructor <;> (intro hp;simp at hp ⊢;simp_all)
 ·rw [if_neg (by omega),if_neg (by omega),if_neg (by omega),if_neg (by omega),if_neg (by omega),if_neg (by omega),if_neg (by omega),if_neg (by omega)]
  exact ⟨fun h=>absurd h (by decide),fun h=>absurd h.1.1 hk⟩
theorem C4 (K nv ni no:Nat) (funcs:Int) (fs):∀ (k:Nat) (d:D),eS K nv ni no funcs fs k d=0 ↔ Ey.xS K nv ni no funcs fs k d
 | 0,d=>⟨fun h=>absurd h (by show ¬ (7:Int)=0;decide),fun h=>h.elim⟩
 | k+1,d=>by
  show Bl [_,_,_]=0 ↔ _/\_/\_
  rw [Js,Cd,Cd,Km]
  exact ⟨fun h=>⟨h.1,fun s hs=>(C4 K nv ni no funcs fs k s).1 (h.2.1 s hs),fun s hs=>(C4 K nv ni no funcs fs k s).1 (h.2.2 s hs)⟩,fun h=>⟨h.1,fun s hs=>(C4 K nv ni no funcs fs k s).2 (h.2.1 s hs),fun s hs=>(C4 K nv ni no funcs fs k s).2 (h.2.2 s hs)⟩⟩
theorem Jw (K nv ni no:Nat) (ahead:Int) (fs) (k:Nat) (f:FnD):eF K nv ni no ahead fs k f=0 ↔ Ey.xF K nv ni no ahead fs k f:=by
 unfold eF Ey.xF
 by_cases h1:f.ps.length<=4
 ·rw [if_pos h1]
  by_cases h2:∀ p∈f.ps,0<=p/\p < (nv:Int)
  ·rw [if_pos h2]
   by_cases h3:∀ i (h:i < f.ps.length),f.ps[i] ∉ f.ps.take i
   ·rw [if_pos h3,Jt,Cd]
    exact ⟨fun h=>⟨h1,h2,h3,fun s hs=>(C4 K nv ni no ahead fs k s).1 (h.1 s hs),h.2⟩,fun h=>⟨fun s hs=>(C4 K nv ni no ahead fs k s).2 (h.2.2.2.1 s hs),h.2.2.2.2⟩⟩
   ·rw [if_neg h3];exact ⟨fun h=>absurd h (by decide),fun h=>absurd h.2.2.1 h3⟩
  ·rw [if_neg h2];exact ⟨fun h=>absurd h (by decide),fun h=>absurd h.2.1 h2⟩
 ·rw [if_neg h1];exact ⟨fun h=>absurd h (by decide),fun h=>absurd h.1 h1⟩
theorem Jj {v:Bool × Lab}:kE v=0 ↔ (v.1=false->v.2.r=[]/\v.2.w=[]):=by
 by_cases h:(v.1=false->v.2.r=[]/\v.2.w=[])
 ·exact ⟨fun _=>h,fun _=>Fp h⟩
 ·rw [Ji h];exact ⟨fun h=>absurd h (by decide),fun h'=>absurd h' h⟩
theorem Jv (m:Int) (gs L) (vs:List (Bool × Lab)):eL m gs L vs=0 ↔ CR m gs L vs:=by
 unfold eL CR
 rw [Js,Cd,Cd,Cd]
 exact ⟨fun h=>⟨h.1,h.2.1,fun v hv=>Jj.1 (h.2.2 v hv)⟩,fun h=>⟨h.1,h.2.1,fun v hv=>Jj.2 (h.2.2 v hv)⟩⟩
open Classical in
theorem eP_iff (K kf:Nat) (m:Int) (vn yn on sn:Nat) (gs sp ls ms vs fs) (l:List D):eP K kf m vn yn on sn gs sp ls ms vs fs l=0 ↔ Ey.xP K kf m vn yn on sn gs sp ls ms vs fs l:=by
 unfold eP
 by_cases h1:Ba m gs=0
 ·rw [if_pos h1]
  by_cases h2:((vn:Int)<=16/\(yn:Int)<=5/\(on:Int)<=5/\(fs.length:Int)<=5/\(sn:Int)<=m)
  ·rw [if_pos h2]
   by_cases h3:∀ x∈sp,0<=x/\x < m
   ·rw [if_pos h3]
    by_cases h4:eL m gs (ls++ms) vs=0
    ·rw [if_pos h4]
     by_cases h5:(((Am kf fs:Nat):Int)+(Ai kf l:Nat)<=50/\Ey.dpF kf fs/\Ey.dps kf 1 l)
     ·rw [if_pos h5,Jt,Cd,Cd]
      refine ⟨fun h=>⟨h1,h2,h3,(Jv m gs _ vs).1 h4,h5,fun i hi=>(Jw K vn yn on i fs kf fs[i]).1 ?_,fun s hs=>(C4 K vn yn on _ fs kf s).1 (h.2 s hs)⟩,fun h=>⟨fun i hi=>?_,fun s hs=>(C4 K vn yn on _ fs kf s).2 (h.main s hs)⟩⟩
      ·have:=h.1 i (by simpa using hi)
       rwa [Dt hi] at this
      ·have hi':i < fs.length:=by simpa using hi
       rw [Dt hi']
       exact (Jw K vn yn on i fs kf fs[i]).2 (h.body i hi')
     ·rw [if_neg h5];exact ⟨fun h=>absurd h (by decide),fun h=>absurd h.many h5⟩
    ·rw [if_neg h4];exact ⟨fun h=>absurd h h4,fun h=>absurd ((Jv m gs _ vs).2 h.labs) h4⟩
   ·rw [if_neg h3];exact ⟨fun h=>absurd h (by decide),fun h=>absurd h.speak h3⟩
  ·rw [if_neg h2];exact ⟨fun h=>absurd h (by decide),fun h=>absurd h.lim h2⟩
 ·rw [if_neg h1];exact ⟨fun h=>absurd h h1,fun h=>absurd h.chk h1⟩
end Go.Proofs.YtfffpjkcfnekaaaGreat.Ex.Ez
namespace Go.Proofs.YtfffpjkcfnekaaaGreat.Ex
open Go.RowKit
open Go.Value renaming slice -> O, int -> zd, bool -> ze, agg -> zg, pointer -> zi, tuple -> zj
open Go.IntKind renaming i64 -> U
open Go.Obj renaming cells -> zf
open Go.Ending renaming returned -> zh
theorem LV (args:Array Value) (w:World):(callFunc 178 args).run Tryz.prog w=.ok (.enter 178 args) w:=by simp [go_sem]
theorem LU (args:Array Value) (w:World):(callFunc 179 args).run Tryz.prog w=.ok (.enter 179 args) w:=by simp [go_sem]
theorem Af.set {cs:List Value} {w:World} {b j:Nat} {v:Value} (h:Af cs w b) (hj:j < cs.length):Af (cs.set j v) (w.setCell ⟨b,j,none⟩ v) b:=by
 have hc:=h j _ (List.getElem?_eq_getElem hj)
 have hb:=bL hc
 intro k u hu
 by_cases hk:k=j
 ·subst hk
  rw [List.getElem?_set_self hj] at hu
  simp at hu
  subst hu
  simp [go_sem,hc]
 ·rw [List.getElem?_set_ne (by omega)] at hu
  have:=h k u hu
  simp [go_sem,this]
theorem Af.other {cs:List Value} {w:World} {b b' j:Nat} {v:Value} (h:Af cs w b) (hb:b≠b'):Af cs (w.setCell ⟨b',j,none⟩ v) b:=fun k u hu=>by
 have:=h k u hu
 simp [go_sem,this]
theorem Af.drew {cs:List Value} {w:World} {b:Nat} (h:Af cs w b):Af cs w.drew b:=fun k u hu=>h k u hu
theorem Jo {w w0 w1:World} {a0 a1 a2 a3 a4 a5 a6 a7:Addr} {v0 v1 v2 v3 v4 v5 v6 v7:Value}
  (h:w0.cell? a0=some v0/\w0.cell? a1=some v1/\w0.cell? a2=some v2/\w0.cell? a3=some v3/\w0.cell? a4=some v4/\w0.cell? a5=some v5/\w0.cell? a6=some v6/\w0.cell? a7=some v7/\Ov w w0) (hb:Ov w0 w1) :
  w1.cell? a0=some v0/\w1.cell? a1=some v1/\w1.cell? a2=some v2/\w1.cell? a3=some v3/\w1.cell? a4=some v4/\w1.cell? a5=some v5/\w1.cell? a6=some v6/\w1.cell? a7=some v7/\Ov w w1:=by
 obtain ⟨h0,h1,h2,h3,h4,h5,h6,h7,hB⟩:=h
 exact ⟨Ab hb _ _ h0,Ab hb _ _ h1,Ab hb _ _ h2,Ab hb _ _ h3,Ab hb _ _ h4,Ab hb _ _ h5,Ab hb _ _ h6,Ab hb _ _ h7,hB.trans (hb.mono hB.size)⟩
theorem A0 {w w':World} {r b j:Nat} {u:Value} (hg:w.grownBy w' (some r)) (h:w.cell? ⟨b,j,none⟩=some u) (hne:b≠r):w'.cell? ⟨b,j,none⟩=some u:=by
 have hb:=bL h
 rw [World.cell?_of_block (w:=w) (hg.block b hb (fun e=>hne (Option.some.inj e)))]
 exact h
theorem Ca {w:World} {r n j:Nat} {u:Value}:w.grownBy ((w.drewN n).setCell ⟨r,j,none⟩ u) (some r):=by
 have h:=Below.heap_setCell (w.drewN n) ⟨r,j,none⟩ u
 refine ⟨rfl,rfl,rfl,by simp [World.setCell],fun k hk hne=>?_⟩
 rw [h k (fun e=>hne (by rw [e]))]
 rfl
theorem Mi {w w0 w1:World} {a0 a1 a2 a3:Addr} {v0 v1 v2 v3:Value}
  (h:w0.cell? a0=some v0/\w0.cell? a1=some v1/\w0.cell? a2=some v2/\w0.cell? a3=some v3/\Ov w w0) (hb:Ov w0 w1) :
  w1.cell? a0=some v0/\w1.cell? a1=some v1/\w1.cell? a2=some v2/\w1.cell? a3=some v3/\Ov w w1:=by
 obtain ⟨h0,h1,h2,h3,hB⟩:=h
 exact ⟨Ab hb _ _ h0,Ab hb _ _ h1,Ab hb _ _ h2,Ab hb _ _ h3,hB.trans (hb.mono hB.size)⟩
theorem Tryz.infoE:(Tryz.prog.info? 136).map (fun i=>(i.zero,i.size,i.bytes))=some (some (zg #[zd U 0,zd U 0,zd U 0,zd U 0]),4,32):=by kernel_rfl
theorem Af.newA (cs:Array Value) (t:Nat) (w:World):Af cs.toList (w.alloc (.cells cs t)) w.heap.size:=fun j u hu=>by
 rw [Lib.cell_of_heap (heap_alloc_new w _)]
 simpa using hu
theorem Jh {w w':World} {r a b j k l:Nat} {x y z:Value} (h:w.cell? ⟨a,j,none⟩=some x/\w.cell? ⟨b,k,none⟩=some y/\w.cell? ⟨b,l,none⟩=some z) (hg:w.grownBy w' (some r)) (ha:a≠r) (hb:b≠r) :
  w'.cell? ⟨a,j,none⟩=some x/\w'.cell? ⟨b,k,none⟩=some y/\w'.cell? ⟨b,l,none⟩=some z:=⟨A0 hg h.1 ha,A0 hg h.2.1 hb,A0 hg h.2.2 hb⟩
theorem LJ {w w':World} {b j k l m:Nat} {x y z u:Value} (h:w.cell? ⟨b,j,none⟩=some x/\w.cell? ⟨b,k,none⟩=some y/\w.cell? ⟨b,l,none⟩=some z/\w.cell? ⟨b,m,none⟩=some u) (hg:Ov w w') :
  w'.cell? ⟨b,j,none⟩=some x/\w'.cell? ⟨b,k,none⟩=some y/\w'.cell? ⟨b,l,none⟩=some z/\w'.cell? ⟨b,m,none⟩=some u:=⟨Ab hg _ _ h.1,Ab hg _ _ h.2.1,Ab hg _ _ h.2.2.1,Ab hg _ _ h.2.2.2⟩
def Bo (w:World) (v:Value) (ls:List (List Int)):Prop:=
 ls.length<=maxLen/\∃ ao cap,v=O ao ls.length cap/\(ls≠[]->∃ b off,ao=some ⟨b,off,none⟩/\∀ i (h:i < ls.length),∃ u,w.cell? ⟨b,off+i,none⟩=some u/\Ar w u ls[i]/\ls[i].length<=9223372036854775807)
theorem Bo.over {w w':World} {v:Value} {ls:List (List Int)} (h:Bo w v ls) (hb:Ov w w'):Bo w' v ls:=by
 obtain ⟨hm,ao,cap,hv,hc⟩:=h
 refine ⟨hm,ao,cap,hv,fun hne=>?_⟩
 obtain ⟨b,off,hao,hel⟩:=hc hne
 refine ⟨b,off,hao,fun i hi=>?_⟩
 obtain ⟨u,h0,h1,h2⟩:=hel i hi
 exact ⟨u,Ab hb _ _ h0,h1.over hb,h2⟩
theorem GJ (a n c) (w:World):Calls Tryz.prog 178 #[O a n c] w fun e w'=>e=zh (ze (decide (100 < n)))/\w'=w:=by
 by_cases h:100 < n
 ·go_enter Tryz.func178,Tryz.ntmps178
  go_wp2_with fail
  go_ret
  exact ⟨by simp;omega,rfl⟩
 ·go_enter Tryz.func178,Tryz.ntmps178
  go_wp2_with fail
  go_ret
  exact ⟨by simp;omega,rfl⟩
theorem ER (l) (v:Value) (w:World) (h:Ar w v l) (hl:l.length<=9223372036854775807):Calls Tryz.prog 179 #[v] w fun e w'=>e=zh (ze (!l.all Co))/\w'=w:=by
 have K:=Aa (CH l _ w h hl)
 obtain ⟨a,c,rfl,-⟩:=h
 go_enter Tryz.func179,Tryz.ntmps179
 go_wp2_with fail
 refine (K.o).mono ?_
 rintro e w1 ⟨rfl,rfl⟩
 go_wp2_with fail
 go_ret
 exact ⟨rfl,rfl⟩
theorem EA (F:FuncId) (p:List Int->Bool) (ls) (v:Value) (w:World) (h:Bo w v ls)
  (hF:Hx (∀ (l:List Int) (u:Value),Ar w u l->l.length<=9223372036854775807->Calls Tryz.prog F #[u] w fun e w'=>e=zh (ze (p l))/\w'=w)) (hC:∀ (args:Array Value) (w:World),(callFunc F args).run Tryz.prog w=.ok (.enter F args) w) :
  Calls Tryz.prog 221 #[v,.func (.func F) #[] #[]] w fun e w'=>∃ r:Int,e=zh (zd U r)/\decide (0<=r)=ls.any p/\w'=w:=by
 obtain ⟨hm,ao,cap,rfl,hcc⟩:=h
 have hm2:ls.length<=9223372036854775807:=hm
 have HCC:=Aa hcc
 clear hcc hm
 go_enter Tryz.func221,Tryz.ntmps221
 go_wp2_with fail
 go_loopw [8] (fun i wr=>∃ k:Nat,k<=ls.length/\i=zd U k/\(ls.take k).any p=false/\wr=w) (fun i _=>ls.length - (intOf i).toNat)
 case atStart=>exact ⟨0,Nat.zero_le _,rfl,rfl,rfl⟩
 case round=>
  obtain ⟨k,hk,rfl,hall,rfl⟩:=hrel
  have HA:=Aa hall
  clear hall
  by_cases hkl:k < ls.length
  ·obtain ⟨b,off,rfl,hcl⟩:=HCC.o (by rintro rfl;simp at hkl)
   obtain ⟨u,q0,hu,hul⟩:=hcl k hkl
   have hst:p ls[k]=true->ls.any p=true:=fun h=>by rw [List.any_eq_true];exact ⟨ls[k],List.getElem_mem hkl,h⟩
   have hnx:p ls[k]=false->(ls.take (k+1)).any p=false:=fun h=>by rw [List.take_succ_eq_append_getElem hkl,List.any_append,HA.o];simp [h]
   have hcall:=hF.o ls[k] u hu hul
   obtain ⟨r,hr⟩:=nm (p ls[k])
   rw [<-hr] at hcall hst hnx
   have HCALL:=Aa hcall
   have HST:=Aa hst
   have HNX:=Aa hnx
   obtain ⟨a2,c2,rfl,-⟩:=hu
   clear hcall hst hnx hr hcl HA hF
   cases r with
   | false=>
    go_wp2_with fail
    refine (HCALL.o).mono ?_
    rintro e w2 ⟨rfl,rfl⟩
    go_wp2_with fail
    exact ⟨⟨k+1,by omega,by go_num,HNX.o (by first | rfl | trivial),by first | rfl | trivial⟩,by simp [intOf];omega⟩
   | true=>
    go_wp2_with fail
    refine (HCALL.o).mono ?_
    rintro e w2 ⟨rfl,rfl⟩
    go_wp2_with fail
    go_ret
    refine ⟨(k:Int),by first | rfl | trivial,?_,by first | rfl | trivial⟩
    rw [HST.o (by first | rfl | trivial)]
    simp
  ·have ha:=HA.o
   rw [List.take_of_length_le (by omega)] at ha
   have HD:=Aa ha
   clear ha HA hF
   go_wp2_with fail
   go_ret
   refine ⟨-1,by first | rfl | trivial,?_,by first | rfl | trivial⟩
   rw [HD.o]
   rfl
theorem Ct (F:FuncId) (p:List Int->Bool) (ls) (v:Value) (w:World) (h:Bo w v ls)
  (hF:Hx (∀ (l:List Int) (u:Value),Ar w u l->l.length<=9223372036854775807->Calls Tryz.prog F #[u] w fun e w'=>e=zh (ze (p l))/\w'=w)) (hC:∀ (args:Array Value) (w:World),(callFunc F args).run Tryz.prog w=.ok (.enter F args) w) :
  Calls Tryz.prog 180 #[v,.func (.func F) #[] #[]] w fun e w'=>e=zh (ze (ls.any p))/\w'=w:=by
 have K:=Aa (EA F p ls v w h hF hC)
 obtain ⟨hm,ao,cap,rfl,hcc⟩:=h
 obtain ⟨q,hq⟩:=nm (ls.any p)
 rw [<-hq] at K ⊢
 clear hcc hq hF
 go_enter Tryz.func180,Tryz.ntmps180
 go_wp2_with fail
 refine (K.o).mono ?_
 rintro e w1 ⟨r,rfl,hr,rfl⟩
 have HR:=Aa hr
 clear hr
 go_wp2_with fail
 go_ret
 exact ⟨by rw [<-HR.o];simp,rfl⟩
structure okR (K kf:Nat) (m:Int) (vn yn on sn:Nat) (gs:List (Int × Int)) (sp:List Int) (ls ms:List Lab) (vs:List (Bool × Lab)) (fs:List FnD) (l:List D) (ins:List (List Int)) (fuel:Int):Prop where
 prog:Ey.xP K kf m vn yn on sn gs sp ls ms vs fs l
 many:ins.length=yn
 long:∀ x∈ins,x.length<=100
 num:∀ x∈ins,∀ y∈x,I32 y
 f0:0<=fuel
 f1:fuel<=2000
def eRz (z:Int) (yn:Nat) (ins:List (List Int)) (fuel:Int):Int:=
 if z=0 then if ins.length=yn then if ins.any (fun l=>decide (100 < l.length))=true then 2 else if ins.any (fun l=>!l.all Co)=true then 3 else if fuel < 0\/2000 < fuel then 3 else 0 else 1 else z
def eR [dc:∀ p:Prop,Decidable p] (K kf:Nat) (m:Int) (vn yn on sn:Nat) (gs:List (Int × Int)) (sp:List Int) (ls ms:List Lab) (vs:List (Bool × Lab)) (fs:List FnD) (l:List D) (ins:List (List Int)) (fuel:Int):Int:=eRz (Ez.eP K kf m vn yn on sn gs sp ls ms vs fs l) yn ins fuel
open Classical in
structure L0 (why:Int) (K kf:Nat) (m:Int) (vn yn on sn:Nat) (gs:List (Int × Int)) (sp:List Int) (ls ms:List Lab) (vs:List (Bool × Lab)) (fs:List FnD) (l:List D) (ins:List (List Int)) (fuel:Int):Prop where
 mp:why=0->okR K kf m vn yn on sn gs sp ls ms vs fs l ins fuel
 mpr:okR K kf m vn yn on sn gs sp ls ms vs fs l ins fuel->why=0
 eq:why=eR K kf m vn yn on sn gs sp ls ms vs fs l ins fuel
open Classical in
theorem Fg (K kf:Nat) (m:Int) (ga gn gc sa sn sc ya yn yc oa on oc va vn vc fa fn fc ba bn bc) (xa xn xc) (ins) (fuel:Int) (gs sp ls ms vs fs l) (w:World) (h:A1 K kf m ga gn gc sa sn sc ya yn yc oa on oc va vn vc fa fn fc ba bn bc gs sp ls ms vs fs l w) (hx:Bo w (O xa xn xc) ins) :
  Calls Tryz.prog 117 #[zg #[zd U m,O ga gn gc,O sa sn sc,O ya yn yc,O oa on oc,O va vn vc,O fa fn fc,O ba bn bc],O xa xn xc,zd U fuel] w fun e w'=>∃ why:Int,e=zh (zd U why)/\L0 why K kf m vn yn on sn gs sp ls ms vs fs l ins fuel/\Ov w w':=by
 have hmf:∀ (fn:Fn) (first cap:Array Value) (w:World),(Instr.makeFunc fn first cap).run Tryz.prog w=.ok (.func fn first cap) w:=fun _ _ _ _=>rfl
 have hbel:Ov w (w.alloc (zf #[zd U m,O ga gn gc,O sa sn sc,O ya yn yc,O oa on oc,O va vn vc,O fa fn fc,O ba bn bc] 31)):=bA w _
 have K1:=Aa (Ez.scopeCheck_any K kf m ga gn gc sa sn sc ya yn yc oa on oc va vn vc fa fn fc ba bn bc gs sp ls ms vs fs l _ (h.over hbel))
 have HX:=Aa (hx.over hbel)
 have hxn:xn=ins.length:=by obtain ⟨-,a,c,he,-⟩:=hx;injection he
 have hxl:xn<=9223372036854775807:=by rw [hxn];exact hx.1
 have hyl:yn<=9223372036854775807:=by obtain ⟨hm,a,c,he,-⟩:=h.ins;injection he with e1 e2 e3;rw [e2];exact hm
 have HXN:=Aa hxn
 have K2:=Aa fun W (hw:Bo W (O xa xn xc) ins)=>Ct 178 (fun l=>decide (100 < l.length)) ins (O xa xn xc) W hw (Aa fun l u hu _=>by
  obtain ⟨a,c,rfl,-⟩:=hu
  exact GJ a l.length c W) LV
 have K3:=Aa fun W (hw:Bo W (O xa xn xc) ins)=>Ct 179 (fun l=>!l.all Co) ins (O xa xn xc) W hw (Aa fun l u hu hl=>ER l u W hu hl) LU
 obtain ⟨q2,hq2⟩:=nm (ins.any (fun l=>decide (100 < l.length)))
 obtain ⟨q3,hq3⟩:=nm (ins.any (fun l=>!l.all Co))
 rw [<-hq2] at K2
 rw [<-hq3] at K3
 have HQ2:=Aa hq2
 have HQ3:=Aa hq3
 have c3:(w.alloc (zf #[zd U m,O ga gn gc,O sa sn sc,O ya yn yc,O oa on oc,O va vn vc,O fa fn fc,O ba bn bc] 31)).cell? ⟨w.heap.size,3,none⟩=some (O ya yn yc):=by simp [go_sem]
 clear h hx hxn hq2 hq3
 go_enter Tryz.func117,Tryz.ntmps117
 go_wp2_with fail
 refine (K1.o).mono ?_
 rintro e w1 ⟨rfl,hb1⟩
 have hok:=Ez.eP_iff K kf m vn yn on sn gs sp ls ms vs fs l
 obtain ⟨E,hE⟩:=nm (Ez.eP K kf m vn yn on sn gs sp ls ms vs fs l)
 rw [<-hE] at hok ⊢
 have HE:=Aa hE
 clear hE
 have d3:=Ab hb1 _ _ c3
 have HX1:=Aa (HX.o.over hb1)
 have hB1:=hbel.trans (hb1.mono hbel.size)
 have HOK:=Aa hok
 clear hbel hb1 K1 HX c3 hok
 by_cases hw:E=0
 rotate_left
 ·have hwb:(E == 0)=false:=by simpa using hw
  go_wp2_with fail
  go_ret
  exact ⟨E,rfl,⟨fun h=>absurd h hw,fun h=>absurd (HOK.o.2 h.prog) hw,by unfold eR eRz;rw [<-HE.o,if_neg hw]⟩,hB1⟩
 subst hw
 by_cases hxy:xn=yn
 rotate_left
 ·have hb:((xn:Int) == (yn:Int))=false:=by simp;omega
  go_wp2_with fail
  go_ret
  exact ⟨1,rfl,⟨fun h=>absurd h (by decide),fun h=>absurd (HXN.o.trans h.many) hxy,by unfold eR eRz;rw [<-HE.o,if_pos rfl,if_neg (fun h=>hxy (HXN.o.trans h))]⟩,hB1⟩
 have hb:((xn:Int) == (yn:Int))=true:=by simp;omega
 have HXY:=Aa hxy
 clear hxy
 go_wp2_with fail
 refine (K2.o _ HX1.o).mono ?_
 rintro e w2 ⟨rfl,rfl⟩
 cases q2 with
 | true=>
  go_wp2_with fail
  go_ret
  refine ⟨2,rfl,⟨fun h=>absurd h (by decide),fun h=>?_,by unfold eR eRz;rw [<-HE.o,if_pos rfl,if_pos (HXN.o.symm.trans HXY.o),if_pos HQ2.o.symm]⟩,hB1⟩
  obtain ⟨x,hx,hl⟩:=List.any_eq_true.1 HQ2.o.symm
  exact absurd (h.long x hx) (by simpa using hl)
 | false=>
 go_wp2_with fail
 refine (K3.o _ HX1.o).mono ?_
 rintro e w3 ⟨rfl,rfl⟩
 cases q3 with
 | true=>
  go_wp2_with fail
  go_ret
  refine ⟨3,rfl,⟨fun h=>absurd h (by decide),fun h=>?_,by unfold eR eRz;rw [<-HE.o,if_pos rfl,if_pos (HXN.o.symm.trans HXY.o),if_neg (by rw [<-HQ2.o];decide),if_pos HQ3.o.symm]⟩,hB1⟩
  obtain ⟨x,hx,hl⟩:=List.any_eq_true.1 HQ3.o.symm
  have ha:x.all Co=true:=List.all_eq_true.2 fun y hy=>by simpa [Co,I32] using h.num x hx y hy
  simp [ha] at hl
 | false=>
 by_cases hf0:fuel < 0
 ·go_wp2_with fail
  go_ret
  exact ⟨3,rfl,⟨fun h=>absurd h (by decide),fun h=>by have:=h.f0;omega,by unfold eR eRz;rw [<-HE.o,if_pos rfl,if_pos (HXN.o.symm.trans HXY.o),if_neg (by rw [<-HQ2.o];decide),if_neg (by rw [<-HQ3.o];decide),if_pos (Or.inl hf0)]⟩,hB1⟩
 by_cases hf1:2000 < fuel
 ·go_wp2_with fail
  go_ret
  exact ⟨3,rfl,⟨fun h=>absurd h (by decide),fun h=>by have:=h.f1;omega,by unfold eR eRz;rw [<-HE.o,if_pos rfl,if_pos (HXN.o.symm.trans HXY.o),if_neg (by rw [<-HQ2.o];decide),if_neg (by rw [<-HQ3.o];decide),if_pos (Or.inr hf1)]⟩,hB1⟩
 go_wp2_with fail
 go_ret
 refine ⟨0,rfl,⟨fun _=>⟨HOK.o.1 (by first | rfl | trivial),by rw [<-HXN.o];exact HXY.o,fun x hx=>?_,fun x hx y hy=>?_,by omega,by omega⟩,fun _=>rfl,by unfold eR eRz;rw [<-HE.o,if_pos rfl,if_pos (HXN.o.symm.trans HXY.o),if_neg (by rw [<-HQ2.o];decide),if_neg (by rw [<-HQ3.o];decide),if_neg (by omega)]⟩,hB1⟩
 ·have:=List.any_eq_false.1 HQ2.o.symm x hx
  simpa using this
 ·have:=List.any_eq_false.1 HQ3.o.symm x hx
  simp only [Bool.not_eq_true,Bool.not_eq_false'] at this
  have:=List.all_eq_true.1 this y hy
  simpa [Co,I32] using this
end Go.Proofs.YtfffpjkcfnekaaaGreat.Ex
namespace Go.Proofs.YtfffpjkcfnekaaaGreat.Ex
open Go.RowKit
open Go.Value renaming slice -> O, int -> zd, bool -> ze, agg -> zg, pointer -> zi, tuple -> zj
open Go.IntKind renaming i64 -> U
open Go.Obj renaming cells -> zf
open Go.Ending renaming returned -> zh
open Go.ChangeShapes Go.WideShapes Go.ChangeAt
section
variable {H:Type} {enc:TypeId × Value->H} {W:World}
theorem FW {fuel:Nat} {v:Value} {x:DataW H × List MemPlace} (h:DataW.trod enc Tryz.prog W 0 (fun _=>true) true fuel 52 [v]=some x):∃ l:List (List Int),Bo W v l/\LAt 1 (fun cs x=>∃ u,cs=[u]/\LAt 1 (fun cs x=>cs=[zd U x]) W u x) W v l:=by
 obtain ⟨l,hl⟩:=Bu Tryz.underlying52 Tryz.cells25 (by omega) h [] (fun cs (x:List Int)=>∃ u,cs=[u]/\LAt 1 (fun cs x=>cs=[zd U x]) W u x) fun m cs y _ hy=>by
  have hlen:cs.length=1:=by
   rcases DataW.trod_slice Tryz.underlying25 hy with ⟨hcs,-⟩ | ⟨ad,len,cap,elems,rest,m,rfl,hcs,-⟩
   ·rw [hcs];rfl
   ·rw [hcs];rfl
  match cs,hlen with
  | [u],_=>
   obtain ⟨l,hl⟩:=CO hy
   exact ⟨l,u,rfl,hl⟩
 refine ⟨l,?_,hl⟩
 obtain ⟨hm,ao,cap,hv,-,-,-,hc⟩:=hl
 refine ⟨hm,ao,cap,hv,fun hne=>?_⟩
 obtain ⟨b,off,hb,hel⟩:=hc hne
 refine ⟨b,off,hb,fun i hi=>?_⟩
 obtain ⟨cs,-,hcs,u,rfl,hu⟩:=hel i l[i] (List.getElem?_eq_getElem hi)
 refine ⟨u,by have:=hcs 0 _ rfl;simpa using this,Fu hu,?_⟩
 have:=hu.1
 unfold maxLen at this
 omega
theorem open_lists {r:Go.Reach} {b0:Nat} {v:Value} {d:DataW H} {p:List MemPlace} (hv:Value.okWide Tryz.prog W r b0 52 v) (h:DataW.Trod enc Tryz.prog W 0 (fun _=>true) true 52 v d p) :
  ∃ (a:Option Addr) (n c:Nat) (l:List (List Int)),v=O a n c/\Bo W (O a n c) l/\LAt 1 (fun cs x=>∃ u,cs=[u]/\LAt 1 (fun cs x=>cs=[zd U x]) W u x) W (O a n c) l:=by
 obtain ⟨a,n,c,rfl⟩:=okWide_slice Tryz.underlying52 hv
 obtain ⟨fuel,hf⟩:=h
 have hf2:DataW.trod enc Tryz.prog W 0 (fun _=>true) true fuel 52 [O a n c]=some (d,p):=by simpa [Value.cells] using hf
 obtain ⟨l,h1,h2⟩:=FW hf2
 exact ⟨a,n,c,l,rfl,h1,h2⟩
end
end Go.Proofs.YtfffpjkcfnekaaaGreat.Ex
