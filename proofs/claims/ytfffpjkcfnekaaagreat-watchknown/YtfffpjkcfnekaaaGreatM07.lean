/- scope.Check of any program: just when all is right. -/
import Derived.Test.YtfffpjkcfnekaaaGreatM06
import Derived.Deep.CutRange
import Derived.Deep.SlicePairs
import Derived.Maps.AppendAt
set_option linter.unusedVariables false
set_option maxHeartbeats 8000000
set_option maxRecDepth 100000
namespace Go.Proofs.YtfffpjkcfnekaaaGreat.Ex.Ey
open Go.RowKit
open Go.Value renaming slice -> O, int -> U, bool -> zg, agg -> zh, pointer -> zi, tuple -> zk
open Go.IntKind renaming i64 -> zd
open Go.Obj renaming cells -> ze
open Go.Ending renaming returned -> zj
def Said (ok:Prop) (w:World) (f:Int->Value) (e:Ending) (w':World):Prop:=∃ why:Int,e=zj (f why)/\(why=0 ↔ ok)/\Ov w w'
theorem J6 (K kf:Nat) (m:Int) (ga gn gc sa sn sc ya yn yc oa on oc va vn vc fa fn fc ba bn bc gs sp ls ms vs fs l) (w:World) (h:BK K kf m ga gn gc sa sn sc ya yn yc oa on oc va vn vc fa fn fc ba bn bc gs sp ls ms vs fs l w) :
  Calls Tryz.prog 112 #[.func (.func 113) #[zh #[U zd m,O ga gn gc,O sa sn sc,O ya yn yc,O oa on oc,O va vn vc,O fa fn fc,O ba bn bc]] #[]] w (Said (xP K kf m vn yn on sn gs sp ls ms vs fs l) w fun why=>zk #[U zd 0,U zd why]):=by
 have hmf:∀ (fn:Fn) (first cap:Array Value) (w:World),(Instr.makeFunc fn first cap).run Tryz.prog w=.ok (.func fn first cap) w:=fun _ _ _ _=>rfl
 have HC:∀ (args:Array Value) (w:World),(callFunc 113 args).run Tryz.prog w=.ok (.enter 113 args) w:=fun args w=>by simp [go_sem]
 have hbel:Ov w ((w.alloc (ze #[U zd 0] 3)).alloc (ze #[U zd 0] 32)):=(bA w _).alloc (by simp) _
 have K:=Aa (J5 K kf m ga gn gc sa sn sc ya yn yc oa on oc va vn vc fa fn fc ba bn bc gs sp ls ms vs fs l _ (h.over hbel))
 have q0:=FL w [U zd 0] 3 (ze #[U zd 0] 32) 0 _ rfl
 have q1:=GE w (ze #[U zd 0] 3) [U zd 0] 32 0 _ rfl
 have z0:((w.alloc (ze #[U zd 0] 3)).alloc (ze #[U zd 0] 32)).frozen? ⟨w.heap.size,0,none⟩=false:=by simp [go_sem]
 have z1:((w.alloc (ze #[U zd 0] 3)).alloc (ze #[U zd 0] 32)).frozen? ⟨w.heap.size+1,0,none⟩=false:=by simp [go_sem]
 clear h
 go_enter_defers Tryz.func112,Tryz.ntmps112
 go_wp2_with fail
 refine (K.o).mono ?_
 rintro e w1 ⟨he,hb1⟩
 obtain ⟨hc,hf⟩:=Ak hb1
 have hB1:=hbel.trans (hb1.mono hbel.size)
 obtain ⟨p0,p1⟩:=co2 hb1 q0 q1
 have y0:=(hf w.heap.size 0 (by simp;omega)).trans z0
 have y1:=(hf (w.heap.size+1) 0 (by simp)).trans z1
 have g1:w.heap.size+1 < w1.heap.size:=bL p1
 have g0:w.heap.size < w1.heap.size:=by omega
 clear hc hf q0 q1 z0 z1 hb1 K hbel
 rcases he with ⟨hok,rfl⟩ | ⟨hng,why,hne,rfl⟩
 ·have HOK:=Aa hok
  clear hok
  go_wp2_with fail
  refine leaves_cons (f:=170) (args:=#[zi (some ⟨w.heap.size,0,none⟩),zi (some ⟨w.heap.size+1,0,none⟩)]) (by simp) (by simp [go_sem]) ?_
  refine (J7 _ _ _).mono ?_
  rintro e u' w2 ⟨rfl,rfl,rfl⟩
  have d0:((w1.setCell ⟨w.heap.size,0,none⟩ (U zd 0)).setCell ⟨w.heap.size+1,0,none⟩ (U zd 0)).cell? ⟨w.heap.size,0,none⟩=some (U zd 0):=by simp [go_sem,p0]
  have d1:((w1.setCell ⟨w.heap.size,0,none⟩ (U zd 0)).setCell ⟨w.heap.size+1,0,none⟩ (U zd 0)).cell? ⟨w.heap.size+1,0,none⟩=some (U zd 0):=by simp [go_sem,p1]
  have hbb:Ov w ((w1.setCell ⟨w.heap.size,0,none⟩ (U zd 0)).setCell ⟨w.heap.size+1,0,none⟩ (U zd 0)):=(hB1.setCell (by simp) _).setCell (by simp) _
  generalize ((w1.setCell ⟨w.heap.size,0,none⟩ (U zd 0)).setCell ⟨w.heap.size+1,0,none⟩ (U zd 0))=wF at d0 d1 hbb ⊢
  simp [Leaves,settle,results,Tryz.results112,go_sem,d0,d1]
  exact ⟨0,rfl,⟨fun _=>HOK.o,fun _=>rfl⟩,hbb⟩
 ·have HNG:=Aa hng
  clear hng
  unfold Az
  go_wp2_with fail
  refine leaves_cons (f:=170) (args:=#[zi (some ⟨w.heap.size,0,none⟩),zi (some ⟨w.heap.size+1,0,none⟩)]) (by simp) (by simp [go_sem]) ?_
  refine (J8 w.heap.size 0 0 _ _ [] _ (by omega) p0 p1 y0 y1).mono ?_
  rintro e u' w2 ⟨rfl,rfl,d0,d1,hb2⟩
  have hbb:Ov w w2:=hB1.trans hb2
  simp [Leaves,settle,results,Tryz.results112,go_sem,d0,d1]
  exact ⟨why,rfl,⟨fun h=>absurd h hne,fun h=>absurd h HNG.o⟩,hbb⟩
theorem scopeCheck_any (K kf:Nat) (m:Int) (ga gn gc sa sn sc ya yn yc oa on oc va vn vc fa fn fc ba bn bc gs sp ls ms vs fs l) (w:World) (h:BK K kf m ga gn gc sa sn sc ya yn yc oa on oc va vn vc fa fn fc ba bn bc gs sp ls ms vs fs l w) :
  Calls Tryz.prog 53 #[zh #[U zd m,O ga gn gc,O sa sn sc,O ya yn yc,O oa on oc,O va vn vc,O fa fn fc,O ba bn bc]] w (Said (xP K kf m vn yn on sn gs sp ls ms vs fs l) w fun why=>U zd why):=by
 have hbel:Ov w ((w.alloc (ze #[U zd m,O ga gn gc,O sa sn sc,O ya yn yc,O oa on oc,O va vn vc,O fa fn fc,O ba bn bc] 31)).alloc (ze #[U zd m,O ga gn gc,O sa sn sc,O ya yn yc,O oa on oc,O va vn vc,O fa fn fc,O ba bn bc] 184)):=(bA w _).alloc (by simp) _
 have K:=Aa (J6 K kf m ga gn gc sa sn sc ya yn yc oa on oc va vn vc fa fn fc ba bn bc gs sp ls ms vs fs l _ (h.over hbel))
 clear h
 go_enter Tryz.func53,Tryz.ntmps53
 go_wp2_with fail
 refine (K.o).mono ?_
 rintro e w1 ⟨why,rfl,hok,hb1⟩
 have hB1:=hbel.trans (hb1.mono hbel.size)
 have HOK:=Aa hok
 clear hbel hb1 K hok
 go_wp2_with fail
 go_ret
 exact ⟨why,rfl,HOK.o,hB1⟩
end Go.Proofs.YtfffpjkcfnekaaaGreat.Ex.Ey
namespace Go.Proofs.YtfffpjkcfnekaaaGreat.Ex
open Go.RowKit
open Go.Value renaming slice -> O, int -> U, bool -> zg, agg -> zh, pointer -> zi, tuple -> zk
open Go.IntKind renaming i64 -> zd
open Go.Obj renaming cells -> ze
open Go.Ending renaming returned -> zj
def XF (bm:Nat):World->Nat->Prop:=fun _ k=>k=bm
theorem QP (bm:Nat):XOk (XF bm):=⟨fun _ _ _ _ h=>h⟩
structure Js (c:WC) (w0:World) (L:ISt) (nv nf bw bm:Nat) (b:Bool) (W:World):Prop where
 below:Ov w0 W
 vs:AZ c.n (XF bm) W (O c.la c.ln c.lc) L.vs
 fs:AZ c.n (XF bm) W (O c.ka c.kn c.kc) L.fs
 lv:L.vs.length=nv
 lf:L.fs.length=nf
 more:W.cell? ⟨bm,0,none⟩=some (zg b)
 mz:W.frozen? ⟨bm,0,none⟩=false
 row:Ad c.cs W bw
theorem Js.over {c:WC} {w0:World} {L:ISt} {nv nf bw bm:Nat} {b:Bool} {W W':World} (h:Js c w0 L nv nf bw bm b W) (hb:Ov W W'):Js c w0 L nv nf bw bm b W':=
 ⟨Ac h.below hb,h.vs.over (QP bm) hb,h.fs.over (QP bm) hb,h.lv,h.lf,Ab hb _ _ h.more,((Ak hb).2 _ _ (bL h.more)).trans h.mz,h.row.over hb⟩
theorem Js.lev {c:WC} {w0:World} {L:ISt} {nv nf bw bm b off:Nat} {f:Bool} {W:World} {i:Bool × Nat} (h:Js c w0 L nv nf bw bm f W) (hib:(if i.1=true then c.la else c.ka)=some ⟨b,off,none⟩) (h1:i.1=true->i.2 < nv) (h2:i.1=false->i.2 < nf) :
  ∃ rv wv,W.cell? ⟨b,off+i.2*2,none⟩=some rv/\W.cell? ⟨b,off+i.2*2+1,none⟩=some wv/\Au c.n (XF bm) W (zh #[rv,wv]) (L.at i):=by
 unfold ISt.at
 by_cases hi:i.1=true
 ·rw [if_pos hi] at hib ⊢
  have hlt:=h1 hi
  obtain ⟨ao,cap,hv,hel⟩:=h.vs
  injection hv with v1 v2 v3
  obtain ⟨b',o',hb',hel⟩:=hel (by intro e;have:=h.lv;rw [e] at this;simp at this;omega)
  rw [<-v1,hib] at hb'
  injection hb' with hb'
  injection hb' with hb1 hb2
  subst hb1 hb2
  have hlt2:i.2 < L.vs.length:=by have:=h.lv;omega
  obtain ⟨rv,wv,c0,c1,hl⟩:=hel i.2 hlt2
  refine ⟨rv,wv,c0,c1,?_⟩
  have e:L.vs.getD i.2 AF=L.vs[i.2]:=by simp [List.getD_eq_getElem?_getD,hlt2]
  rw [e]
  exact hl
 ·rw [if_neg hi] at hib ⊢
  have hlt:=h2 (by simpa using hi)
  obtain ⟨ao,cap,hv,hel⟩:=h.fs
  injection hv with v1 v2 v3
  obtain ⟨b',o',hb',hel⟩:=hel (by intro e;have:=h.lf;rw [e] at this;simp at this;omega)
  rw [<-v1,hib] at hb'
  injection hb' with hb'
  injection hb' with hb1 hb2
  subst hb1 hb2
  have hlt2:i.2 < L.fs.length:=by have:=h.lf;omega
  obtain ⟨rv,wv,c0,c1,hl⟩:=hel i.2 hlt2
  refine ⟨rv,wv,c0,c1,?_⟩
  have e:L.fs.getD i.2 AF=L.fs[i.2]:=by simp [List.getD_eq_getElem?_getD,hlt2]
  rw [e]
  exact hl
theorem AZ.keep' {n:Nat} {X:World->Nat->Prop} {W W3:World} {v:Value} {Ls:List Lev} (n1:1<=n) (h:AZ n X W v Ls) (hF:FrW X W W3) (hc:Ls≠[]->∀ b o ln cp,v=O (some ⟨b,o,none⟩) ln cp->∀ j u,W.cell? ⟨b,j,none⟩=some u->W3.cell? ⟨b,j,none⟩=some u):AZ n X W3 v Ls:=by
 by_cases hne:Ls=[]
 ·subst hne
  obtain ⟨ao,cap,hv,-⟩:=h
  exact ⟨ao,cap,hv,fun h=>absurd rfl h⟩
 ·exact h.keep n1 hF (hc hne)
theorem Js.setM {c:WC} {w0:World} {L:ISt} {nv nf bw bm:Nat} {f f':Bool} {W:World} (n1:1<=c.n) (hm:w0.heap.size<=bm) (hw:bw≠bm) (hlk:(L.vs≠[]->∀ a,c.la=some a->a.block≠bm)/\(L.fs≠[]->∀ a,c.ka=some a->a.block≠bm)) (h:Js c w0 L nv nf bw bm f W):Js c w0 L nv nf bw bm f' (W.setCell ⟨bm,0,none⟩ (zg f'))/\FrW (XF bm) W (W.setCell ⟨bm,0,none⟩ (zg f')):=by
 have hsz:(W.setCell ⟨bm,0,none⟩ (zg f')).heap.size=W.heap.size:=by simp [World.setCell]
 have hblk:∀ k,k≠bm->(W.setCell ⟨bm,0,none⟩ (zg f')).heap[k]? = W.heap[k]?:=fun k hk=>A6 (Ne.symm hk) _
 have hF:FrW (XF bm) W (W.setCell ⟨bm,0,none⟩ (zg f')):=⟨rfl,rfl,rfl,by omega,fun k _ hx=>hblk k hx,fun k _ hx=>hx⟩
 have cne:∀ b' o' u,b'≠bm->W.cell? ⟨b',o',none⟩=some u->(W.setCell ⟨bm,0,none⟩ (zg f')).cell? ⟨b',o',none⟩=some u:=fun b' o' u hm hc=>(World.cell?_of_block (a:=⟨b',o',none⟩) (hblk b' hm)).trans hc
 refine ⟨⟨h.below.setCell (p:=⟨bm,0,none⟩) hm _,h.vs.keep' n1 hF (fun hne b' o' ln cp hv j u hc=>?_),h.fs.keep' n1 hF (fun hne b' o' ln cp hv j u hc=>?_),h.lv,h.lf,World.cell?_setCell_same _ _ _ h.more,?_,fun j u hu=>cne _ _ _ hw (h.row j u hu)⟩,hF⟩
 ·injection hv with v1
  exact cne _ _ _ (hlk.1 hne ⟨b',o',none⟩ v1) hc
 ·injection hv with v1
  exact cne _ _ _ (hlk.2 hne ⟨b',o',none⟩ v1) hc
 ·have:=h.mz
  simpa [go_sem] using this
def sm1:D:=sD 3 0 0 (xD 0 0 []) [] [] []
def sm2:D:=sD 4 0 0 (xD 2 0 []) [] [] []
theorem BG (n:Int) (h:0<=n) (h2:n<=100):Cl n:=⟨by omega,by omega⟩
theorem DN {s:Nat} {R:List Value->D->Prop} {w:World}:XS s R w (O none 0 0) []:=⟨Nat.zero_le _,none,0,rfl,fun h=>absurd rfl h⟩
theorem CN {w:World}:AJ w (O none 0 0) []:=⟨none,0,rfl,fun h=>absurd rfl h⟩
theorem GZ {bi bo bv bm:Nat} {w:World} (h:GG bi bo bv bm w):BK 1 1 1 none 0 0 none 0 0 (some ⟨bi,0,none⟩) 1 1 (some ⟨bo,0,none⟩) 1 1 (some ⟨bv,0,none⟩) 1 1 none 0 0 (some ⟨bm,0,none⟩) 2 2 [] [] [⟨[],[]⟩] [⟨[],[]⟩] [(false,⟨[],[]⟩)] [] [sm1,sm2] w:=by
 have hlab:∀ b,Ad [O none 0 0,O none 0 0] w b->AY w (O (some ⟨b,0,none⟩) 1 1) [⟨[],[]⟩]:=fun b hr=>by
  refine ⟨by simp [maxLen],some ⟨b,0,none⟩,1,rfl,fun _=>⟨b,0,rfl,fun i hi=>?_⟩⟩
  have:i=0:=by simp at hi;omega
  subst this
  exact ⟨_,_,hr 0 _ rfl,hr 1 _ rfl,CN,CN⟩
 refine ⟨BG 1 (by omega) (by omega),⟨none,0,rfl,fun h=>absurd rfl h⟩,⟨none,0,rfl,fun h=>absurd rfl h⟩,by simp,hlab _ h.ins,hlab _ h.outs,?_,?_,?_,fun h=>absurd h (by simp),fun h=>absurd h (by simp)⟩
 ·refine ⟨by simp [maxLen],some ⟨bv,0,none⟩,1,rfl,fun _=>⟨bv,0,rfl,fun i hi=>?_⟩⟩
  have:i=0:=by simp at hi;omega
  subst this
  exact ⟨_,_,h.vars 0 _ rfl,h.vars 1 _ rfl,h.vars 2 _ rfl,CN,CN⟩
 ·exact ⟨by simp,none,0,rfl,fun h=>absurd rfl h⟩
 ·refine ⟨by simp [maxLen],some ⟨bm,0,none⟩,2,rfl,fun _=>⟨bm,0,rfl,fun i d hd=>?_⟩⟩
  match i,hd with
  | 0,hd=>
   simp at hd
   subst hd
   refine ⟨Eg.take 9,rfl,fun j u hu=>?_,3,0,0,_,_,_,xD 0 0 [],_,[],_,[],_,[],rfl,rfl,BG _ (by omega) (by omega),BG _ (by omega) (by omega),BG _ (by omega) (by omega),⟨0,0,_,[],rfl,rfl,BG _ (by omega) (by omega),BG _ (by omega) (by omega),DN⟩,DN,DN,DN⟩
   rw [List.getElem?_take] at hu
   split at hu
   ·have:=h.main j u hu
    simpa using this
   ·cases hu
  | 1,hd=>
   simp at hd
   subst hd
   refine ⟨Eg.drop 9,rfl,fun j u hu=>?_,4,0,0,_,_,_,xD 2 0 [],_,[],_,[],_,[],rfl,rfl,BG _ (by omega) (by omega),BG _ (by omega) (by omega),BG _ (by omega) (by omega),⟨2,0,_,[],rfl,rfl,BG _ (by omega) (by omega),BG _ (by omega) (by omega),DN⟩,DN,DN,DN⟩
   rw [List.getElem?_drop] at hu
   have:=h.main (9+j) u hu
   simpa [Nat.add_assoc] using this
  | i+2,hd=>simp at hd
theorem PT:AV ((1:Nat):Int) 1 (Aw sm2)=0:=by
 simp [AV,sm2,CI,Cq,Ch,Bx,BF,xD,AM,A8,A0]
theorem MF:Ct 1 1 1 1 (([]:List FnD).length:Int) [] sm1:=by
 unfold Ct
 simp [sm1,xD,AM,A0]
theorem ME:Ct 1 1 1 1 (([]:List FnD).length:Int) [] sm2:=by
 have h:=PT
 unfold Ct
 have e:Ag sm2=4:=rfl
 have e2:Ae sm2=0:=rfl
 rw [e,e2]
 exact ⟨by decide,fun h=>absurd h (by decide),fun h=>absurd h (by decide),fun h=>absurd h (by decide),fun _=>h,fun h=>absurd h (by decide),fun _=>by decide⟩
theorem FN:okP 1 1 1 1 1 1 [] [] [⟨[],[]⟩] [⟨[],[]⟩] [(false,⟨[],[]⟩)] [] [sm1,sm2]:=by
 refine ⟨rfl,by simp,⟨?_,?_,?_⟩,by omega,by omega,by omega,by simp,by decide,fun i h=>absurd h (by simp),?_⟩
 ·intro b hb
  simp at hb
  subst hb
  rfl
 ·intro v hv
  simp at hv
  subst hv
  rfl
 ·intro v hv _
  simp at hv
  subst hv
  exact ⟨rfl,rfl⟩
 ·intro s hs
  simp at hs
  rcases hs with rfl | rfl
  ·exact ⟨MF,fun s hs=>absurd hs (by simp [sm1]),fun s hs=>absurd hs (by simp [sm1])⟩
  ·exact ⟨ME,fun s hs=>absurd hs (by simp [sm2]),fun s hs=>absurd hs (by simp [sm2])⟩
theorem F3:Ey.xP 1 1 1 1 1 1 0 [] [] [⟨[],[]⟩] [⟨[],[]⟩] [(false,⟨[],[]⟩)] [] [sm1,sm2]:=by
 refine ⟨FN.chk,by simp,FN.speak,FN.labs,⟨by have:=FN.many;omega,fun f hf=>absurd hf (by simp),?_⟩,fun i h=>absurd h (by simp),?_⟩
 ·intro s hs
  simp at hs
  rcases hs with rfl | rfl
  ·exact ⟨by omega,fun s hs=>absurd hs (by simp [sm1]),fun s hs=>absurd hs (by simp [sm1])⟩
  ·exact ⟨by omega,fun s hs=>absurd hs (by simp [sm2]),fun s hs=>absurd hs (by simp [sm2])⟩
 ·intro s hs
  simp at hs
  rcases hs with rfl | rfl
  ·exact ⟨⟨MF,fun _=>rfl,fun _=>rfl,fun _=>rfl,fun _=>rfl,fun _=>rfl,fun _=>rfl⟩,fun s hs=>absurd hs (by simp [sm1]),fun s hs=>absurd hs (by simp [sm1])⟩
  ·exact ⟨⟨ME,fun _=>rfl,fun _=>rfl,fun h=>absurd h (by decide),fun _=>rfl,fun _=>rfl,fun _=>rfl⟩,fun s hs=>absurd hs (by simp [sm2]),fun s hs=>absurd hs (by simp [sm2])⟩
theorem GH.more {n nv nf:Nat} {known:List Bool} {L:List Lev} {st:ISt} (h:GH n nv nf known L st) (b:Bool):GH n nv nf known L ⟨st.vs,st.fs,b⟩:=⟨h.lv,h.lf,h.rv,h.rf,h.kn⟩
end Go.Proofs.YtfffpjkcfnekaaaGreat.Ex
namespace Go.Proofs.YtfffpjkcfnekaaaGreat
open Go.RowKit
open Go.Value renaming slice -> O, int -> U, bool -> zg, agg -> zh, pointer -> zi, tuple -> zk
open Go.IntKind renaming i64 -> zd
open Go.Obj renaming cells -> ze
open Go.Ending renaming returned -> zj
attribute [local go_sem ↓] Go.wp_at_zero Go.wp_at_succ
def lv:Lev:=⟨[false,true],[true,true]⟩
def mv:Lev:=⟨[true,true],[true,true]⟩
theorem Re:Bd 2 CF Cw=0:=by decide
theorem RC:Bd 2 CF ⟨[],[]⟩=0:=by decide
theorem RB:Av (Ay CF) 2 Cw=lv:=by kernel_rfl
theorem RA:Av (Ay CF) 2 ⟨[],[]⟩=mv:=by kernel_rfl
theorem OB:Dj 2 CF lv mv=0/\Dj 2 CF mv lv=0/\CS 2 CF lv=0:=by decide
theorem II:lv.small/\mv.small:=by unfold Lev.small lv mv;decide
theorem Bq {W W':World} {p:Nat} {o:Obj} (h:W.heap[p]? = some o) (hb:Ov W W'):W'.heap[p]? = some o:=by
 rw [hb.block p (Array.getElem?_eq_some_iff.1 h).1]
 exact h
theorem CO {wB W:World} {b0 o0 o1 b2 o2 o3:Nat} {v0 v1 v2 v3:Value} {p:Addr} {u:Value} (h:W.cell? ⟨b0,o0,none⟩=some v0/\W.cell? ⟨b0,o1,none⟩=some v1/\W.cell? ⟨b2,o2,none⟩=some v2/\W.cell? ⟨b2,o3,none⟩=some v3/\Ov wB W)
  (h0:b0 < wB.heap.size) (h2:b2 < wB.heap.size) (hp:wB.heap.size<=p.block):(W.setCell p u).cell? ⟨b0,o0,none⟩=some v0/\(W.setCell p u).cell? ⟨b0,o1,none⟩=some v1/\(W.setCell p u).cell? ⟨b2,o2,none⟩=some v2/\(W.setCell p u).cell? ⟨b2,o3,none⟩=some v3/\Ov wB (W.setCell p u):=by
 obtain ⟨k0,k1,k2,k3,hB⟩:=h
 have hne:∀ b o,b < wB.heap.size->(W.setCell p u).cell? ⟨b,o,none⟩=W.cell? ⟨b,o,none⟩:=fun b o hb=>World.cell?_setCell_other _ _ _ _ (by rintro rfl;simp at hp;omega)
 exact ⟨by rw [hne _ _ h0];exact k0,by rw [hne _ _ h0];exact k1,by rw [hne _ _ h2];exact k2,by rw [hne _ _ h2];exact k3,hB.setCell hp u⟩
def Rl (w3 w5 wB:World) (a1:Option Addr) (k1:Nat) (a2:Option Addr) (k2:Nat) (a3:Option Addr) (k3:Nat) (a4:Option Addr) (k4:Nat) (l:Lev) (s9 s10:Value) (wc:World):Prop:=
 ∃ p va vb,s9=zi (some ⟨p,0,none⟩)/\s10=U zd 0/\wc.heap[p]? = some (ze #[va,vb] 50 (0,0))/\AP wc (zh #[va,vb]) l /\
  wc.cell? ⟨w3.heap.size,0,none⟩=some (O a1 lv.r.length k1)/\wc.cell? ⟨w3.heap.size,1,none⟩=some (O a2 lv.w.length k2)/\wc.cell? ⟨w5.heap.size,0,none⟩=some (O a3 mv.r.length k3)/\wc.cell? ⟨w5.heap.size,1,none⟩=some (O a4 mv.w.length k4)/\Ov wB wc
theorem FT {W:World} {p:Nat} {x y a b:Value} (h:W.heap[p]? = some (ze #[x,y] 50 (0,0))):((W.setCell ⟨p,0,none⟩ a).setCell ⟨p,1,none⟩ b).heap[p]? = some (ze #[a,b] 50 (0,0)):=by
 have h1:=heap_setCell_same W _ 0 _ _ a h
 have h2:=heap_setCell_same _ _ 1 _ _ b h1
 simpa using h2
theorem Hm {W:World} {p:Nat} {x y a b v:Value} {B:Nat} {l:List Bool} (h:W.ownsRow B 4 1 v l.length (AL l)) (hp:W.heap[p]? = some (ze #[x,y] 50 (0,0))):AE ((W.setCell ⟨p,0,none⟩ a).setCell ⟨p,1,none⟩ b) v l:=by
 have hne:∀ g cap,v=O (some ⟨g,0,none⟩) l.length cap->g≠p:=fun g cap e hh=>by
  subst e hh
  rcases h.2 with ⟨h,_⟩ | ⟨g',cap',cur,hv,_,hh,_⟩
  ·cases h
  ·injection hv with e1
   injection e1 with e1
   injection e1 with e1
   subst e1
   rw [hh] at hp
   simp at hp
 have key:∀ (X:World) (o:Nat) (u:Value),X.ownsRow B 4 1 v l.length (AL l)->(X.setCell ⟨p,o,none⟩ u).ownsRow B 4 1 v l.length (AL l):=fun X o u hX=>by
  obtain ⟨h1,h2⟩:=hX
  refine ⟨h1,?_⟩
  rcases h2 with h2 | ⟨g,cap,cur,hv,hg,hh,r⟩
  ·exact Or.inl h2
  ·refine Or.inr ⟨g,cap,cur,hv,hg,?_,r⟩
   rw [heap_setCell_other]
   ·exact hh
   ·exact fun e=>hne g cap hv (by first | exact e | exact e.symm)
 exact Cb (key _ _ _ (key _ _ _ h))
theorem FQ {w W:World} {p:Nat} {x y a b v:Value} {L:Lev} (h:AO w W v L) (hp:W.heap[p]? = some (ze #[x,y] 50 (0,0))):AP ((W.setCell ⟨p,0,none⟩ a).setCell ⟨p,1,none⟩ b) v L:=by
 obtain ⟨vr,vw,rfl,h1,h2,_⟩:=h
 exact ⟨vr,vw,rfl,Hm h1 hp,Hm h2 hp⟩
theorem CN (W:World):AJ W (O none 0 0) []:=⟨none,0,rfl,fun h=>absurd rfl h⟩
theorem Ew {wB W W':World} {b0 o0 b1 o1 b2 o2 b3 o3 b4 o4 b5 o5 b6 o6 b7 o7:Nat} {v0 v1 v2 v3 v4 v5 v6 v7:Value} (h:W.cell? ⟨b0,o0,none⟩=some v0/\W.cell? ⟨b1,o1,none⟩=some v1/\W.cell? ⟨b2,o2,none⟩=some v2/\W.cell? ⟨b3,o3,none⟩=some v3/\W.cell? ⟨b4,o4,none⟩=some v4/\W.cell? ⟨b5,o5,none⟩=some v5/\W.cell? ⟨b6,o6,none⟩=some v6/\W.cell? ⟨b7,o7,none⟩=some v7/\Ov wB W) (hb:Ov W W'):W'.cell? ⟨b0,o0,none⟩=some v0/\W'.cell? ⟨b1,o1,none⟩=some v1/\W'.cell? ⟨b2,o2,none⟩=some v2/\W'.cell? ⟨b3,o3,none⟩=some v3/\W'.cell? ⟨b4,o4,none⟩=some v4/\W'.cell? ⟨b5,o5,none⟩=some v5/\W'.cell? ⟨b6,o6,none⟩=some v6/\W'.cell? ⟨b7,o7,none⟩=some v7/\Ov wB W':=by
 obtain ⟨h0,h1,h2,h3,h4,h5,h6,h7,hB⟩:=h
 have up:∀ b o v,W.cell? ⟨b,o,none⟩=some v->W'.cell? ⟨b,o,none⟩=some v:=fun b o v h=>by rw [(Ak hb).1 _ _ (bL h)];exact h
 exact ⟨up _ _ _ h0,up _ _ _ h1,up _ _ _ h2,up _ _ _ h3,up _ _ _ h4,up _ _ _ h5,up _ _ _ h6,up _ _ _ h7,hB.trans (hb.mono hB.size)⟩
theorem JZ {wB W:World} {b0 o0 b1 o1 b2 o2 b3 o3 b4 o4 b5 o5 b6 o6 b7 o7:Nat} {v0 v1 v2 v3 v4 v5 v6 v7:Value} (h:W.cell? ⟨b0,o0,none⟩=some v0/\W.cell? ⟨b1,o1,none⟩=some v1/\W.cell? ⟨b2,o2,none⟩=some v2/\W.cell? ⟨b3,o3,none⟩=some v3/\W.cell? ⟨b4,o4,none⟩=some v4/\W.cell? ⟨b5,o5,none⟩=some v5/\W.cell? ⟨b6,o6,none⟩=some v6/\W.cell? ⟨b7,o7,none⟩=some v7/\Ov wB W) (n:Nat):(W.drewN n).cell? ⟨b0,o0,none⟩=some v0/\(W.drewN n).cell? ⟨b1,o1,none⟩=some v1/\(W.drewN n).cell? ⟨b2,o2,none⟩=some v2/\(W.drewN n).cell? ⟨b3,o3,none⟩=some v3/\(W.drewN n).cell? ⟨b4,o4,none⟩=some v4/\(W.drewN n).cell? ⟨b5,o5,none⟩=some v5/\(W.drewN n).cell? ⟨b6,o6,none⟩=some v6/\(W.drewN n).cell? ⟨b7,o7,none⟩=some v7/\Ov wB (W.drewN n):=by
 obtain ⟨h0,h1,h2,h3,h4,h5,h6,h7,hB⟩:=h
 exact ⟨h0,h1,h2,h3,h4,h5,h6,h7,below_drewN hB n⟩
theorem Ra {W:World} {x y:Value} {l:Lev} (h:AP W (zh #[x,y]) l):AE W x l.r:=by
 obtain ⟨a,b,e,h1,h2⟩:=h
 obtain ⟨rfl,rfl⟩:x=a/\y=b:=by simpa using e
 exact h1
theorem Q9 {W:World} {x y:Value} {l:Lev} (h:AP W (zh #[x,y]) l):AE W y l.w:=by
 obtain ⟨a,b,e,h1,h2⟩:=h
 obtain ⟨rfl,rfl⟩:x=a/\y=b:=by simpa using e
 exact h2
theorem Hl {W:World} {g:Nat} {x y:Bool} (h0:W.cell? ⟨g,0,none⟩=some (zg x)) (h1:W.cell? ⟨g,1,none⟩=some (zg y)):AE W (O (some ⟨g,0,none⟩) 2 2) [x,y]:=by
 refine ⟨_,2,rfl,fun _=>⟨g,0,rfl,fun i hi=>?_⟩⟩
 have:i=0\/i=1:=by simp at hi;omega
 rcases this with rfl | rfl
 ·simpa using h0
 ·simpa using h1
theorem Gi (hC:Ld) (hL:Lb) (hR:K9) (hF:Lc) (hJ:Nz) (hM:Nx) (w:World) :
  Calls Tryz.prog 13 #[] w fun e w'=>e=zj (zg true)/\Ov w w':=by
 have KC:=Aa hC
 have KL:=Aa hL
 have KR:=Aa hR
 have KF:=Aa hF
 have KJ:=Aa hJ
 have KM:=Aa hM
 clear hC hL hR hF hJ hM
 go_enter Tryz.func13,Tryz.ntmps13
 go_wp2_with fail
 refine (Dq _).mono ?_
 rintro e w1 ⟨v1,rfl,hv1,hb1⟩
 have H1:=Aa hv1
 clear hv1
 go_wp2_with fail
 refine (F4 _).mono ?_
 rintro e w2 ⟨pr,pw,rfl,hp,hq,hb2⟩
 have hB2:=hb1.trans (hb2.mono hb1.size)
 have hl2:=KL.o 2 v1 CF pr pw Cw w2 (Af H1.o hb2) hp hq
 rw [Re,if_pos rfl] at hl2
 have HL2:=Aa hl2
 clear hp hq hl2 hb1 hb2 H1
 go_wp2_with fail
 refine (HL2.o).mono ?_
 rintro e w3 ⟨vl,rfl,hlf,hb3⟩
 have hB3:=hB2.trans (hb3.mono hB2.size)
 have hla:=BS hlf
 have e3:Av (Ay CF) (2:Int).toNat Cw=lv:=RB
 rw [e3] at hla
 clear hlf HL2 hB2 hb3 e3
 have HLA:=Aa hla
 obtain ⟨la,lb,rfl,⟨a1,k1,rfl,-⟩,⟨a2,k2,rfl,-⟩⟩:=hla
 go_wp2_with fail
 have hal:=AN w3 (ze #[O a1 lv.r.length k1,O a2 lv.w.length k2] 50)
 have hBa:Ov w (w3.alloc (ze #[O a1 lv.r.length k1,O a2 lv.w.length k2] 50)):=hB3.trans ((Below.refl _ w3).alloc hB3.size _)
 have HLA2:=Aa (Ai HLA.o (bA w3 (ze #[O a1 lv.r.length k1,O a2 lv.w.length k2] 50)))
 clear HLA hB3
 refine (Dq _).mono ?_
 rintro e w4 ⟨v4,rfl,hv4,hb4⟩
 have hx4:=Bq hal hb4
 have hB4:=hBa.trans (hb4.mono hBa.size)
 have HLA4:=Aa (Ai HLA2.o hb4)
 have hl4:=KL.o 2 v4 CF (O none 0 0) (O none 0 0) ⟨[],[]⟩ w4 hv4 (CN _) (CN _)
 rw [RC,if_pos rfl] at hl4
 have HL4:=Aa hl4
 clear hl4 hv4 hb4 hal hBa HLA2
 go_wp2_with fail
 refine (HL4.o).mono ?_
 rintro e w5 ⟨vm,rfl,hmf,hb5⟩
 have hx5:=Bq hx4 hb5
 have hB5:=hB4.trans (hb5.mono hB4.size)
 have HLA5:=Aa (Ai HLA4.o hb5)
 have hma:=BS hmf
 have e4:Av (Ay CF) (2:Int).toNat ⟨[],[]⟩=mv:=RA
 rw [e4] at hma
 clear hmf HL4 hB4 hb5 e4 HLA4 hx4
 have HMA:=Aa hma
 obtain ⟨ma,mb,rfl,⟨a3,k3,rfl,-⟩,⟨a4,k4,rfl,-⟩⟩:=hma
 go_wp2_with fail
 obtain ⟨wB,hwB⟩:=nm (w5.alloc (ze #[O a3 mv.r.length k3,O a4 mv.w.length k4] 50))
 have hba:Ov w5 wB:=by rw [hwB];exact bA w5 _
 have x1:=Bq hx5 hba
 have x3:wB.heap[w5.heap.size]? = some (ze #[O a3 mv.r.length k3,O a4 mv.w.length k4] 50 (0,0)):=by rw [hwB];exact AN _ _
 have hBB:=hB5.trans (hba.mono hB5.size)
 have HLB:=Aa (Ai HLA5.o hba)
 have HMB:=Aa (Ai HMA.o hba)
 have hlen:lv.r.length=2/\lv.w.length=2/\mv.r.length=2/\mv.w.length=2:=⟨rfl,rfl,rfl,rfl⟩
 rw [<-hwB]
 clear hwB hba hx5 hB5 HLA5 HMA hlen
 obtain ⟨s0,s1,-,-⟩:=CM x1
 obtain ⟨s2,s3,-,-⟩:=CM x3
 have hf1:=fun (v:Value) (W:World) (hv:AA W v CF) (hW:Ov wB W)=>KF.o 2 v CF _ _ mv lv W hv (Ai HMB.o hW) (Ai HLB.o hW)
 have hf2:=fun (v:Value) (W:World) (hv:AA W v CF) (hW:Ov wB W)=>KF.o 2 v CF _ _ lv mv W hv (Ai HLB.o hW) (Ai HMB.o hW)
 rw [OB.2.1] at hf1
 rw [OB.1] at hf2
 have e5:(decide ((0:Int)=0) && Ax mv lv (2:Int).toNat)=true:=by decide
 have e6:(decide ((0:Int)=0) && Ax lv mv (2:Int).toNat)=false:=by decide
 rw [e5] at hf1
 rw [e6] at hf2
 have HF1:=Aa hf1
 have HF2:=Aa hf2
 clear hf1 hf2 e5 e6
 have L1:=Aa (bL s0)
 have L2:=Aa (bL s2)
 first | go_region_held3 (fun W=>W.cell? ⟨w3.heap.size,0,none⟩=some (O a1 lv.r.length k1)/\W.cell? ⟨w3.heap.size,1,none⟩=some (O a2 lv.w.length k2)/\W.cell? ⟨w5.heap.size,0,none⟩=some (O a3 mv.r.length k3)/\W.cell? ⟨w5.heap.size,1,none⟩=some (O a4 mv.w.length k4)/\Ov wB W) (first | assumption | exact ⟨s0,s1,s2,s3,below_drewN (Below.refl _ _) 1⟩ | exact CU (by assumption) hbq | exact CU (by assumption) hbp) (first | (go_at_call 44;refine (Dq _).mono ?_;rintro e wq ⟨vq,rfl,hvq,hbq⟩) | (go_at_call 16;refine (HF1.o vq _ hvq (by assumption:_/\_/\_/\_/\_).2.2.2.2).mono ?_;rintro e wp ⟨rfl,hbp⟩)) | fail
 obtain ⟨s0,s1,s2,s3,hBw⟩:=(by assumption:wp.cell? _=_/\_/\_/\_/\_)
 clear hvq hbq hbp HF1
 go_wp2_with fail
 first | go_region_held3 (fun W=>W.cell? ⟨w3.heap.size,0,none⟩=some (O a1 lv.r.length k1)/\W.cell? ⟨w3.heap.size,1,none⟩=some (O a2 lv.w.length k2)/\W.cell? ⟨w5.heap.size,0,none⟩=some (O a3 mv.r.length k3)/\W.cell? ⟨w5.heap.size,1,none⟩=some (O a4 mv.w.length k4)/\Ov wB W) (first | assumption | exact ⟨s0,s1,s2,s3,below_drewN hBw 1⟩ | exact CU (by assumption) hbr | exact CU (by assumption) hbt) (first | (go_at_call 44;refine (Dq _).mono ?_;rintro e wr ⟨vr,rfl,hvr,hbr⟩) | (go_at_call 16;refine (HF2.o vr _ hvr (by assumption:_/\_/\_/\_/\_).2.2.2.2).mono ?_;rintro e wt ⟨rfl,hbt⟩)) | fail
 clear s0 s1 s2 s3 hBw
 obtain ⟨s0,s1,s2,s3,hBw⟩:=(by assumption:wt.cell? _=_/\_/\_/\_/\_)
 have hj1:=fun (v:Value) (W:World) (hv:AA W v CF) (hW:Ov wB W)=>KJ.o 2 v CF _ _ lv mv W hv (Ai HLB.o hW) (Ai HMB.o hW)
 have hm1:=fun (v:Value) (W:World) (hv:AA W v CF) (hW:Ov wB W)=>KM.o 2 v CF _ _ lv mv W hv (Ai HLB.o hW) (Ai HMB.o hW)
 rw [OB.1,if_pos rfl] at hj1 hm1
 have HJ1:=Aa hj1
 have HM1:=Aa hm1
 clear hj1 hm1 hvr hbr hbt HF2
 go_wp2_with fail
 have hzt:=hBw.size
 go_cut [9,10] from 39 to 45 (fun s9 s10 wc=>Rl w3 w5 wB a1 k1 a2 k2 a3 k3 a4 k4 lv s9 s10 wc)
 case first=>
  first | go_region_held3 (fun W=>W.cell? ⟨w3.heap.size,0,none⟩=some (O a1 lv.r.length k1)/\W.cell? ⟨w3.heap.size,1,none⟩=some (O a2 lv.w.length k2)/\W.cell? ⟨w5.heap.size,0,none⟩=some (O a3 mv.r.length k3)/\W.cell? ⟨w5.heap.size,1,none⟩=some (O a4 mv.w.length k4)/\Ov wB W) (first | assumption | exact ⟨s0,s1,s2,s3,below_drewN hBw 1⟩ | exact CU (by assumption) hbq | exact CU (by assumption) hbp | exact CU (by assumption) (bA _ _) | exact CU HSP.o (bA _ _) | exact CO (CO (by assumption) L1.o L2.o hzq) L1.o L2.o hzq | exact CO (CO (by assumption) L1.o L2.o hzt) L1.o L2.o hzt | fail) (first | (go_at_call 44;refine (Dq _).mono ?_;rintro e wq ⟨vq,rfl,hvq,hbq⟩;have hzq:wB.heap.size<=wq.heap.size:=Nat.le_trans (by assumption:_/\_/\_/\_/\Ov wB _).2.2.2.2.size hbq.size;have hzz:=hbq.size;(try simp at hzz);(try have hzy:=Nat.lt_of_succ_le hzz);obtain ⟨hcq,hfq⟩:=Ak hbq) | (go_at_call 46;refine (HJ1.o vq _ (by first | exact hvq | exact Af hvq (bA _ _)) (by assumption:_/\_/\_/\_/\_).2.2.2.2).mono ?_;rintro e wp ⟨vj,rfl,hjf,hbp⟩;have HJF:=Aa hjf;obtain ⟨ja,jb,rfl,⟨a5,k5,rfl,-⟩,⟨a6,k6,rfl,-⟩⟩:=BS hjf;have HSP:=Aa (CU (by assumption:_/\_/\_/\_/\_) hbp);obtain ⟨hcp,hfp⟩:=Ak hbp)) | fail
  all_goals obtain ⟨f0,f1,f2,f3,fB⟩:=(by assumption:_/\_/\_/\_/\_)
  all_goals go_wp2_with fail
  all_goals go_meet
  all_goals first
   | exact ⟨_,_,_,rfl,rfl,AN _ _,Ai (BS HJF.o) (bA _ _),f0,f1,f2,f3,fB⟩
   | exact ⟨_,_,_,rfl,rfl,FT (Bq (AN _ _) hbp),FQ HJF.o (Bq (AN _ _) hbp),f0,f1,f2,f3,fB⟩
   | exact ⟨_,_,_,rfl,rfl,FT (Bq (Bq (W:=(wt.alloc (ze #[O none 0 0,O none 0 0] 50)).drew) (AN wt _) hbq) hbp),FQ HJF.o (Bq (Bq (W:=(wt.alloc (ze #[O none 0 0,O none 0 0] 50)).drew) (AN wt _) hbq) hbp),f0,f1,f2,f3,fB⟩
 case rest=>
  clear s0 s1 s2 s3 hBw hzt HJ1
  obtain ⟨p9,ja,jb,rfl,rfl,x9,hj9,s0,s1,s2,s3,hBw⟩:=hcut
  have N1:=Aa (bL s0)
  have N2:=Aa (bL s2)
  have hm2:=fun (v:Value) (W:World) (hv:AA W v CF) (hW:Ov wc W)=>HM1.o v W hv (hBw.trans (hW.mono hBw.size))
  have HM2:=Aa hm2
  have HX9:=Aa x9
  have HJ9:=Aa hj9
  clear hm2 HM1 x9 hj9
  go_wp2_with fail
  go_cut [11,12] from 46 to 52 (fun s11 s12 wd=>Rl w3 w5 wc a1 k1 a2 k2 a3 k3 a4 k4 mv s11 s12 wd)
  case first=>
   first | go_region_held3 (fun W=>W.cell? ⟨w3.heap.size,0,none⟩=some (O a1 lv.r.length k1)/\W.cell? ⟨w3.heap.size,1,none⟩=some (O a2 lv.w.length k2)/\W.cell? ⟨w5.heap.size,0,none⟩=some (O a3 mv.r.length k3)/\W.cell? ⟨w5.heap.size,1,none⟩=some (O a4 mv.w.length k4)/\Ov wc W) (first | assumption | exact ⟨s0,s1,s2,s3,below_drewN (Below.refl _ _) 1⟩ | exact CU (by assumption) hbq | exact CU (by assumption) hbp | exact CU (by assumption) (bA _ _) | exact CU HSP.o (bA _ _) | exact CO (CO (by assumption) N1.o N2.o hzq) N1.o N2.o hzq | exact CO (CO (by assumption) N1.o N2.o (Nat.le_refl _)) N1.o N2.o (Nat.le_refl _) | fail) (first | (go_at_call 44;refine (Dq _).mono ?_;rintro e wq ⟨vq,rfl,hvq,hbq⟩;have hzq:wc.heap.size<=wq.heap.size:=Nat.le_trans (by assumption:_/\_/\_/\_/\Ov wc _).2.2.2.2.size hbq.size;have hzz:=hbq.size;(try simp at hzz);(try have hzy:=Nat.lt_of_succ_le hzz);obtain ⟨hcq,hfq⟩:=Ak hbq) | (go_at_call 47;refine (HM2.o vq _ (by first | exact hvq | exact Af hvq (bA _ _)) (by assumption:_/\_/\_/\_/\_).2.2.2.2).mono ?_;rintro e wp ⟨vj,rfl,hjf,hbp⟩;have HJF:=Aa hjf;obtain ⟨ja,jb,rfl,⟨a5,k5,rfl,-⟩,⟨a6,k6,rfl,-⟩⟩:=BS hjf;have HSP:=Aa (CU (by assumption:_/\_/\_/\_/\_) hbp);obtain ⟨hcp,hfp⟩:=Ak hbp)) | fail
   all_goals obtain ⟨f0,f1,f2,f3,fB⟩:=(by assumption:_/\_/\_/\_/\_)
   all_goals go_wp2_with fail
   all_goals go_meet
   all_goals first
    | exact ⟨_,_,_,rfl,rfl,AN _ _,Ai (BS HJF.o) (bA _ _),f0,f1,f2,f3,fB⟩
    | exact ⟨_,_,_,rfl,rfl,FT (Bq (AN _ _) hbp),FQ HJF.o (Bq (AN _ _) hbp),f0,f1,f2,f3,fB⟩
    | exact ⟨_,_,_,rfl,rfl,FT (Bq (Bq (W:=(wc.alloc (ze #[O none 0 0,O none 0 0] 50)).drew) (AN wc _) hbq) hbp),FQ HJF.o (Bq (Bq (W:=(wc.alloc (ze #[O none 0 0,O none 0 0] 50)).drew) (AN wc _) hbq) hbp),f0,f1,f2,f3,fB⟩
  case rest=>
   obtain ⟨p11,ka,kb,rfl,rfl,x11,hk11,t0,t1,t2,t3,hBd⟩:=hcut
   have hBe:=hBw.trans (hBd.mono hBw.size)
   have hBf:=hBB.trans (hBe.mono hBB.size)
   obtain ⟨j0,j1,-,-⟩:=CM (Bq HX9.o hBd)
   obtain ⟨m0,m1,-,-⟩:=CM x11
   obtain ⟨a5,k5,a6,k6,hje⟩:=Cx HJ9.o
   obtain ⟨rfl,rfl⟩:ja=O a5 lv.r.length k5/\jb=O a6 lv.w.length k6:=by simpa using hje
   obtain ⟨a7,k7,a8,k8,hke⟩:=Cx hk11
   obtain ⟨rfl,rfl⟩:ka=O a7 mv.r.length k7/\kb=O a8 mv.w.length k8:=by simpa using hke
   have hC1:=fun (v pr pw:Value) (W:World) (hv:AA W v CF) (hp:AJ W pr Cw.r) (hq:AJ W pw Cw.w)=>KC.o 2 v CF pr pw Cw W hv hp hq
   rw [Re] at hC1
   have hR1:=fun (v:Value) (W:World) (hv:AA W v CF) (hW:Ov wc W)=>KR.o 2 v CF _ lv W hv (Ai (Ai HLB.o hBe) hW)
   rw [OB.2.2] at hR1
   have hS1:=fun (W:World) (hW:Ov wc W)=>Er _ _ lv lv W (Ai (Ai HJ9.o hBd) hW) (Ai (Ai HLB.o hBe) hW) II.1
   rw [show FO lv lv=true from by decide] at hS1
   have hS2:=fun (W:World) (hW:Ov wc W)=>Er _ _ mv mv W (Ai hk11 hW) (Ai (Ai HMB.o hBe) hW) II.2
   rw [show FO mv mv=true from by decide] at hS2
   have hB1:=fun (W:World) (g:Nat) (h0:W.cell? ⟨g,0,none⟩=some (zg false)) (h1:W.cell? ⟨g,1,none⟩=some (zg true)) (hW:Ov wc W)=>Ci (O a1 lv.r.length k1) (O (some ⟨g,0,none⟩) 2 2) lv.r [false,true] W (Ra (Ai (Ai HLB.o hBe) hW)) (Hl h0 h1) (by decide)
   rw [show decide (lv.r=[false,true])=true from by decide] at hB1
   have hB2:=fun (W:World) (g:Nat) (h0:W.cell? ⟨g,0,none⟩=some (zg true)) (h1:W.cell? ⟨g,1,none⟩=some (zg true)) (hW:Ov wc W)=>Ci (O a2 lv.w.length k2) (O (some ⟨g,0,none⟩) 2 2) lv.w [true,true] W (Q9 (Ai (Ai HLB.o hBe) hW)) (Hl h0 h1) (by decide)
   rw [show decide (lv.w=[true,true])=true from by decide] at hB2
   have C1:=Aa hC1
   have R1:=Aa hR1
   have S1:=Aa hS1
   have S2:=Aa hS2
   have B1:=Aa hB1
   have B2:=Aa hB2
   have HX:=Aa (show wc.cell? ⟨w3.heap.size,0,none⟩=some (O a1 lv.r.length k1)/\wc.cell? ⟨w3.heap.size,1,none⟩=some (O a2 lv.w.length k2)/\wc.cell? ⟨w5.heap.size,0,none⟩=some (O a3 mv.r.length k3)/\wc.cell? ⟨w5.heap.size,1,none⟩=some (O a4 mv.w.length k4)/\wc.cell? ⟨p9,0,none⟩=some (O a5 lv.r.length k5)/\wc.cell? ⟨p9,1,none⟩=some (O a6 lv.w.length k6)/\wc.cell? ⟨p11,0,none⟩=some (O a7 mv.r.length k7)/\wc.cell? ⟨p11,1,none⟩=some (O a8 mv.w.length k8)/\Ov wc wc from ⟨t0,t1,t2,t3,j0,j1,m0,m1,Below.refl _ _⟩)
   clear hC1 hR1 hS1 hS2 hB1 hB2 hje hke hk11 x11 HX9 HJ9 HLB HMB KC KL KR KF KJ KM HM2 hBB hBw hBd hBe x1 x3 t0 t1 t2 t3 j0 j1 m0 m1 s0 s1 s2 s3 N1 N2 L1 L2
   go_wp2_with fail
   first | go_region_held3 (fun W=>W.cell? ⟨w3.heap.size,0,none⟩=some (O a1 lv.r.length k1)/\W.cell? ⟨w3.heap.size,1,none⟩=some (O a2 lv.w.length k2)/\W.cell? ⟨w5.heap.size,0,none⟩=some (O a3 mv.r.length k3)/\W.cell? ⟨w5.heap.size,1,none⟩=some (O a4 mv.w.length k4)/\W.cell? ⟨p9,0,none⟩=some (O a5 lv.r.length k5)/\W.cell? ⟨p9,1,none⟩=some (O a6 lv.w.length k6)/\W.cell? ⟨p11,0,none⟩=some (O a7 mv.r.length k7)/\W.cell? ⟨p11,1,none⟩=some (O a8 mv.w.length k8)/\Ov wc W) (first | assumption | exact JZ HX.o 1 | exact Ew (by assumption) hbq | exact Ew (by assumption) hbs | exact Ew (by assumption) hbk | exact Ew (by assumption) hbr | exact Ew (by assumption) hbs1 | exact Ew (by assumption) hbs2 | exact Ew (by assumption) (bA _ _) | exact JZ (by assumption) n1 | exact JZ (by assumption) n2 | fail) (first | (go_at_call 44;refine (Dq _).mono ?_;rintro e wq ⟨vq,rfl,hvq,hbq⟩) | (go_at_call 45;refine (F4 _).mono ?_;rintro e ws ⟨prs,pws,rfl,hps,hqs,hbs⟩) | (go_at_call 48;refine (C1.o vq _ _ _ (Af hvq hbs) hps hqs).mono ?_;rintro e wk ⟨rfl,hbk⟩) | (go_at_call 49;refine (R1.o vq _ hvq (by assumption:_/\_/\_/\_/\_/\_/\_/\_/\_).2.2.2.2.2.2.2.2).mono ?_;rintro e wr ⟨rfl,hbr⟩) | (go_at_call 42;have hsec:=hbs1;refine (S2.o _ (by assumption:_/\_/\_/\_/\_/\_/\_/\_/\_).2.2.2.2.2.2.2.2).mono ?_;rintro e wt ⟨rfl,hbs2⟩) | (go_at_call 42;refine (S1.o _ (by assumption:_/\_/\_/\_/\_/\_/\_/\_/\_).2.2.2.2.2.2.2.2).mono ?_;rintro e wt ⟨rfl,hbs1⟩) | (go_at_call 43;have hsec:=hbb1;refine (B2.o _ _ (by simp [go_sem]) (by simp [go_sem]) (by assumption:_/\_/\_/\_/\_/\_/\_/\_/\_).2.2.2.2.2.2.2.2).mono ?_;rintro e wv ⟨rfl,n2,rfl⟩) | (go_at_call 43;refine (B1.o _ _ (by simp [go_sem]) (by simp [go_sem]) (by assumption:_/\_/\_/\_/\_/\_/\_/\_/\_).2.2.2.2.2.2.2.2).mono ?_;rintro e wv ⟨rfl,n1,rfl⟩;have hbb1:n1=n1:=rfl)) | fail
   all_goals go_wp2_with fail
   all_goals go_ret
   all_goals have hfin:=(by assumption:_/\_/\_/\_/\_/\_/\_/\_/\Ov wc _).2.2.2.2.2.2.2.2
   all_goals exact ⟨rfl,hBf.trans (hfin.mono hBf.size)⟩
theorem labBegun_any (w:World):Calls Tryz.prog 13 #[] w fun e w'=>e=zj (zg true)/\Ov w w':=Gi Il H5 NJ Ih M8 Qa w
end Go.Proofs.YtfffpjkcfnekaaaGreat
namespace Go.Proofs.YtfffpjkcfnekaaaGreat.Ex
open Go.RowKit
open Go.Value renaming slice -> O, int -> U, bool -> zg, agg -> zh, pointer -> zi, tuple -> zk
open Go.IntKind renaming i64 -> zd
open Go.Obj renaming cells -> ze
open Go.Ending renaming returned -> zj
def ApL (W0 W:World) (v:Value) (Ls:List Lev):Prop:=
 ∃ us:List Value,W.ownsRow W0.heap.size 50 2 v Ls.length us/\∀ i (h:i < Ls.length),∃ x y,us[i*2]? = some x/\us[i*2+1]? = some y/\AP W0 (zh #[x,y]) Ls[i]
theorem ApL.keep {W0 W W':World} {v:Value} {Ls:List Lev} {row:Option Nat} (h:ApL W0 W v Ls) (hg:W.grownBy W' row) (ha:v.ownBlock=none\/v.ownBlock≠row):ApL W0 W' v Ls:=by
 obtain ⟨us,ho,hel⟩:=h
 exact ⟨us,ho.kept hg ha,hel⟩
theorem ApL.levs {W0 W:World} {v:Value} {Ls:List Lev} (h:ApL W0 W v Ls) (hb:Ov W0 W):Bz W v Ls:=by
 obtain ⟨us,ho,hel⟩:=h
 rcases ho.2 with ⟨h,h0⟩ | ⟨g,cap,cur,h,hb',hg,hc1,hc2,hc3,hc4⟩
 ·have:Ls=[]:=List.eq_nil_of_length_eq_zero h0
  subst this
  exact ⟨none,0,h,fun h=>absurd rfl h⟩
 ·refine ⟨some ⟨g,0,none⟩,cap,h,fun hne=>⟨g,0,rfl,fun i hi=>?_⟩⟩
  obtain ⟨x,y,e0,e1,hl⟩:=hel i hi
  have hcell:∀ j u,us[j]? = some u->W.cell? ⟨g,0+j,none⟩=some u:=fun j u hu=>by
   rw [Nat.zero_add,Lib.cell_of_heap hg]
   rw [<-hc4,List.getElem?_take] at hu
   split at hu
   ·simpa using hu
   ·cases hu
  exact ⟨x,y,hcell _ _ e0,by have:=hcell _ _ e1;simpa [Nat.add_assoc] using this,Ai hl hb⟩
theorem ApL.over {W0 W W':World} {v:Value} {Ls:List Lev} (h:ApL W0 W v Ls) (hb:Ov W W'):ApL W0 W' v Ls:=
 h.keep (row:=none) ⟨hb.os,hb.tape,hb.output,hb.size,fun k hk _=>hb.block k hk⟩ (by cases v.ownBlock <;> simp)
end Go.Proofs.YtfffpjkcfnekaaaGreat.Ex
namespace Go.Proofs.YtfffpjkcfnekaaaGreat.Ex
open Go.RowKit Go.ChangeShapes Go.WideShapes
open Go.Value renaming slice -> O, int -> U, bool -> zg, agg -> zh, pointer -> zi, tuple -> zk
open Go.IntKind renaming i64 -> zd
open Go.Obj renaming cells -> ze
open Go.Ending renaming returned -> zj
theorem Tryz.cells25:Tryz.prog.cellsOf 25=1:=by kernel_rfl
theorem Tryz.cells26:Tryz.prog.cellsOf 26=1:=by kernel_rfl
theorem Tryz.cells27:Tryz.prog.cellsOf 27=1:=by kernel_rfl
theorem Tryz.cells28:Tryz.prog.cellsOf 28=1:=by kernel_rfl
theorem Tryz.cells29:Tryz.prog.cellsOf 29=1:=by kernel_rfl
theorem Tryz.cells22:Tryz.prog.cellsOf 22=1:=by kernel_rfl
theorem Tryz.cells52:Tryz.prog.cellsOf 92=1:=by kernel_rfl
theorem Tryz.cells65:Tryz.prog.cellsOf 37=1:=by kernel_rfl
theorem Tryz.cells4:Tryz.prog.cellsOf 4=1:=by kernel_rfl
theorem Tryz.cells3':Tryz.prog.cellsOf 3=1:=by kernel_rfl
theorem Tryz.cells24:Tryz.prog.cellsOf 24=2:=by kernel_rfl
theorem Tryz.cells54:Tryz.prog.cellsOf 94=3:=by kernel_rfl
theorem Tryz.cells67:Tryz.prog.cellsOf 39=2:=by kernel_rfl
theorem Tryz.cells122:Tryz.prog.cellsOf 87=2:=by kernel_rfl
theorem Tryz.cells71:Tryz.prog.cellsOf 130=9:=by kernel_rfl
theorem Tryz.cells80:Tryz.prog.cellsOf 105=5:=by kernel_rfl
theorem Tryz.cells69:Tryz.prog.cellsOf 41=3:=by kernel_rfl
theorem Tryz.cells101:Tryz.prog.cellsOf 169=2:=by kernel_rfl
theorem Tryz.cells31:Tryz.prog.cellsOf 31=8:=by kernel_rfl
def LAt {α:Type} (s:Nat) (R:List Value->α->Prop) (W:World) (v:Value) (ds:List α):Prop:=
 ds.length<=maxLen/\∃ ao cap,v=O ao ds.length cap/\ds.length<=cap/\cap<=maxLen/\(ao=none->cap=0)/\(ds≠[]->∃ b off,ao=some ⟨b,off,none⟩ /\
  ∀ (i:Nat) (d:α),ds[i]? = some d->∃ cs:List Value,cs.length=s/\(∀ (j:Nat) (u:Value),cs[j]? = some u->W.cell? ⟨b,off+i*s+j,none⟩=some u)/\R cs d)
section
variable {H:Type} {enc:TypeId × Value->H} {W:World}
theorem BM {α:Type} {TS E s:Nat} (hU:Tryz.prog.underlying TS=some (.slice E)) (hc:Tryz.prog.cellsOf E=s) (hs:0 < s) {fuel:Nat} {v:Value} {x:DataW H × List MemPlace} (h:DataW.trod enc Tryz.prog W 0 (fun _=>true) true fuel TS [v]=some x)
  (d0:α) (R:List Value->α->Prop) (hel:∀ (m:Nat) (cs:List Value) (y:DataW H × List MemPlace),m < fuel->DataW.trod enc Tryz.prog W 0 (fun _=>true) true m E cs=some y->∃ d,R cs d):∃ ds:List α,LAt s R W v ds:=by
 haveI:Inhabited α:=⟨d0⟩
 rcases DataW.trod_slice hU h with ⟨hcs,-⟩ | ⟨ad,len,cap,elems,rest,m,rfl,hcs,-,-,hlc,hcm,hen,hat,-,-⟩
 ·simp at hcs
  subst hcs
  exact ⟨[],by simp,none,0,rfl,by simp,by unfold maxLen;omega,fun _=>rfl,fun h=>absurd rfl h⟩
 ·simp at hcs
  subst hcs
  rw [hc] at hat
  have hget:∀ i,i < len->∃ d:α,∃ cs:List Value,cs.length=s/\(∀ (j:Nat) (u:Value),cs[j]? = some u->W.cell? (ad.add (i*s+j))=some u)/\R cs d:=fun i hi=>by
   have hi2:=hat i hi
   rw [List.getElem?_eq_getElem (by omega),Option.bind_eq_some_iff] at hi2
   obtain ⟨cs,hcc,ht⟩:=hi2
   obtain ⟨-,hlen,hcell⟩:=World.cells?_some hcc
   obtain ⟨d,hd⟩:=hel m cs _ (Nat.lt_succ_self _) ht
   refine ⟨d,cs,hlen,fun j u hu=>?_,hd⟩
   have hj:j < s:=by have:=(List.getElem?_eq_some_iff.1 hu).1;omega
   have hk:=hcell j hj
   rw [hu] at hk
   rw [Addr.add_add] at hk
   exact hk
  obtain ⟨f,hf⟩:=Deep.choose_lt hget
  refine ⟨(List.range len).map f,by simp;omega,some ad,cap,by simp,by simpa using hlc,hcm,fun h=>absurd h (by simp),fun hne=>?_⟩
  have h0:0 < len:=by
   rcases Nat.eq_zero_or_pos len with h | h
   ·subst h;simp at hne
   ·exact h
  have hp:∃ b off,ad=⟨b,off,none⟩:=by
   obtain ⟨cs,hl,hcl,-⟩:=hf 0 h0
   obtain ⟨u,hu⟩:∃ u,cs[0]? = some u:=⟨cs[0]'(by omega),List.getElem?_eq_getElem (by omega)⟩
   have hk:=hcl 0 u hu
   have hsp:ad.spot=none:=by simpa [Addr.add] using World.cell?_spot hk
   obtain ⟨b,off,sp⟩:=ad
   simp only at hsp
   subst hsp
   exact ⟨b,off,rfl⟩
  obtain ⟨bb,off,rfl⟩:=hp
  refine ⟨bb,off,rfl,fun i d hd=>?_⟩
  have hi:i < len:=by
   have:=(List.getElem?_eq_some_iff.1 hd).1
   simpa using this
  have hd':d=f i:=by
   rw [List.getElem?_map,List.getElem?_range hi] at hd
   simpa using hd.symm
  subst hd'
  obtain ⟨cs,hl,hcl,hr⟩:=hf i hi
  exact ⟨cs,hl,fun j u hu=>by have:=hcl j u hu;rw [Addr.add_lit] at this;simpa [Nat.add_assoc] using this,hr⟩
theorem Ia {v:Value} {l:List Int} (h:LAt 1 (fun cs x=>cs=[U zd x]) W v l):A1 W v l:=by
 obtain ⟨-,ao,cap,hv,-,-,-,hc⟩:=h
 refine ⟨ao,cap,hv,fun hne=>?_⟩
 obtain ⟨b,off,hb,hel⟩:=hc hne
 refine ⟨b,off,hb,fun i hi=>?_⟩
 obtain ⟨cs,-,hcs,rfl⟩:=hel i l[i] (List.getElem?_eq_getElem hi)
 have:=hcs 0 _ rfl
 simpa using this
theorem Cp {m:Nat} {cs:List Value} {y:DataW H × List MemPlace} (h:DataW.trod enc Tryz.prog W 0 (fun _=>true) true m 3 cs=some y):∃ n:Int,cs=[U zd n]/\Cl n:=by
 obtain ⟨n,e,-,hw⟩:=DataW.trod_int Tryz.underlying3 h
 exact ⟨n,e,Pq hw⟩
theorem Dt {fuel:Nat} {v:Value} {x:DataW H × List MemPlace} (h:DataW.trod enc Tryz.prog W 0 (fun _=>true) true fuel 25 [v]=some x):∃ l:List Int,LAt 1 (fun cs x=>cs=[U zd x]) W v l:=
 BM Tryz.underlying25 Tryz.cells3' (by omega) h 0 _ fun m cs y _ hy=>by obtain ⟨n,e,-⟩:=Cp hy;exact ⟨n,e⟩
theorem H4 {fuel:Nat} {v:Value} {x:DataW H × List MemPlace} (h:DataW.trod enc Tryz.prog W 0 (fun _=>true) true fuel 22 [v]=some x):∃ l:List (Int × Int),AA W v l:=by
 obtain ⟨l,hl⟩:=BM Tryz.underlying22 Tryz.cells101 (by omega) h (0,0) (fun cs (x:Int × Int)=>cs=[U zd x.1,U zd x.2]) fun m cs y _ hy=>by
  obtain ⟨xs,n,rfl,-,hl,hxl,hf⟩:=DataW.trod_struct Tryz.underlying169 hy
  rw [Tryz.cells101] at hl
  match cs,hl,xs,hxl with
  | [c0,c1],_,[y0,y1],_=>
   have h0:=hf 0 _ rfl
   have h1:=hf 1 _ rfl
   simp [Tryz.cells3'] at h0 h1
   obtain ⟨a,e0,-⟩:=Cp h0
   obtain ⟨b,e1,-⟩:=Cp h1
   simp at e0 e1
   subst e0
   subst e1
   exact ⟨(a,b),rfl⟩
 obtain ⟨-,ao,cap,hv,-,-,-,hc⟩:=hl
 refine ⟨l,ao,cap,hv,fun hne=>?_⟩
 obtain ⟨b,off,hb,hel⟩:=hc hne
 refine ⟨b,off,hb,fun i hi=>?_⟩
 obtain ⟨cs,-,hcs,rfl⟩:=hel i l[i] (List.getElem?_eq_getElem hi)
 exact ⟨hcs 0 _ rfl,hcs 1 _ rfl⟩
theorem Gb {fuel:Nat} {v:Value} {x:DataW H × List MemPlace} (h:DataW.trod enc Tryz.prog W 0 (fun _=>true) true fuel 37 [v]=some x):∃ l:List Pol,AJ W v l:=by
 obtain ⟨l,hl⟩:=BM Tryz.underlying37 Tryz.cells122 (by omega) h ⟨0,[]⟩ (fun cs (x:Pol)=>∃ u,cs=[U zd x.owner,u]/\A1 W u x.names) fun m cs y _ hy=>by
  obtain ⟨xs,n,rfl,-,hl,hxl,hf⟩:=DataW.trod_struct Tryz.underlying87 hy
  rw [Tryz.cells122] at hl
  match cs,hl,xs,hxl with
  | [c0,c1],_,[y0,y1],_=>
   have h0:=hf 0 _ rfl
   have h1:=hf 1 _ rfl
   simp [Tryz.cells3',Tryz.cells25] at h0 h1
   obtain ⟨a,e0,-⟩:=Cp h0
   simp at e0
   subst e0
   obtain ⟨ns,hns⟩:=Dt h1
   exact ⟨⟨a,ns⟩,c1,rfl,Ia hns⟩
 obtain ⟨-,ao,cap,hv,-,-,-,hc⟩:=hl
 refine ⟨l,ao,cap,hv,fun hne=>?_⟩
 obtain ⟨b,off,hb,hel⟩:=hc hne
 refine ⟨b,off,hb,fun i hi=>?_⟩
 obtain ⟨cs,-,hcs,u,rfl,hu⟩:=hel i l[i] (List.getElem?_eq_getElem hi)
 exact ⟨hcs 0 _ rfl,u,hcs 1 _ rfl,hu⟩
theorem IV {m:Nat} {cs:List Value} {y:DataW H × List MemPlace} (h:DataW.trod enc Tryz.prog W 0 (fun _=>true) true m 39 cs=some y):∃ (l:Lab) (pr pw:Value),cs=[pr,pw]/\AJ W pr l.r/\AJ W pw l.w:=by
 obtain ⟨xs,n,rfl,-,hl,hxl,hf⟩:=DataW.trod_struct Tryz.underlying39 h
 rw [Tryz.cells67] at hl
 match cs,hl,xs,hxl with
 | [c0,c1],_,[y0,y1],_=>
  have h0:=hf 0 _ rfl
  have h1:=hf 1 _ rfl
  simp [Tryz.cells65] at h0 h1
  obtain ⟨a,ha⟩:=Gb h0
  obtain ⟨b,hb⟩:=Gb h1
  exact ⟨⟨a,b⟩,c0,c1,rfl,ha,hb⟩
theorem Gc {fuel:Nat} {ao:Option Addr} {n cap:Nat} {x:DataW H × List MemPlace} (h:DataW.trod enc Tryz.prog W 0 (fun _=>true) true fuel 26 [O ao n cap]=some x):∃ l:List Lab,AY W (O ao n cap) l/\(ao=none->cap=0):=by
 obtain ⟨l,hl⟩:=BM Tryz.underlying26 Tryz.cells67 (by omega) h ⟨[],[]⟩ (fun cs (l:Lab)=>∃ pr pw,cs=[pr,pw]/\AJ W pr l.r/\AJ W pw l.w) fun m cs y _ hy=>IV hy
 obtain ⟨hm,ao',cap',hv,-,-,hz,hc⟩:=hl
 injection hv with e1 e2 e3
 subst e1 e2 e3
 refine ⟨l,⟨hm,ao,cap,rfl,fun hne=>?_⟩,hz⟩
 obtain ⟨b,off,hb,hel⟩:=hc hne
 refine ⟨b,off,hb,fun i hi=>?_⟩
 obtain ⟨cs,-,hcs,pr,pw,rfl,h1,h2⟩:=hel i l[i] (List.getElem?_eq_getElem hi)
 exact ⟨pr,pw,hcs 0 _ rfl,hcs 1 _ rfl,h1,h2⟩
theorem JF {fuel:Nat} {v:Value} {x:DataW H × List MemPlace} (h:DataW.trod enc Tryz.prog W 0 (fun _=>true) true fuel 27 [v]=some x):∃ l:List (Bool × Lab),Bk W v l:=by
 obtain ⟨l,hl⟩:=BM Tryz.underlying27 Tryz.cells69 (by omega) h (false,⟨[],[]⟩) (fun cs (l:Bool × Lab)=>∃ pr pw,cs=[zg l.1,pr,pw]/\AJ W pr l.2.r/\AJ W pw l.2.w) fun m cs y _ hy=>by
  obtain ⟨xs,n,rfl,-,hl,hxl,hf⟩:=DataW.trod_struct Tryz.underlying41 hy
  rw [Tryz.cells69] at hl
  match cs,hl,xs,hxl with
  | [c0,c1,c2],_,[y0,y1],_=>
   have h0:=hf 0 _ rfl
   have h1:=hf 1 _ rfl
   simp [Tryz.cells4,Tryz.cells67] at h0 h1
   obtain ⟨b,e0,-⟩:=DataW.trod_bool Tryz.underlying4 h0
   simp at e0
   subst e0
   obtain ⟨lb,pr,pw,e1,h2,h3⟩:=IV h1
   simp at e1
   obtain ⟨rfl,rfl⟩:=e1
   exact ⟨(b,lb),c1,c2,rfl,h2,h3⟩
 obtain ⟨hm,ao,cap,hv,-,-,-,hc⟩:=hl
 refine ⟨l,hm,ao,cap,hv,fun hne=>?_⟩
 obtain ⟨b,off,hb,hel⟩:=hc hne
 refine ⟨b,off,hb,fun i hi=>?_⟩
 obtain ⟨cs,-,hcs,pr,pw,rfl,h1,h2⟩:=hel i l[i] (List.getElem?_eq_getElem hi)
 exact ⟨pr,pw,hcs 0 _ rfl,hcs 1 _ rfl,hcs 2 _ rfl,h1,h2⟩
theorem NC {s:Nat} {R:List Value->D->Prop} {v:Value} {l:List D} (h:LAt s R W v l):XS s R W v l:=by
 obtain ⟨hm,ao,cap,hv,-,-,-,hc⟩:=h
 exact ⟨hm,ao,cap,hv,hc⟩
theorem Lz (K:Nat):∀ (fuel:Nat) (cs:List Value) (x:DataW H × List MemPlace),fuel<=K->DataW.trod enc Tryz.prog W 0 (fun _=>true) true fuel 130 cs=some x->∃ d,RS W K fuel cs d:=by
 intro fuel
 induction fuel using Nat.strongRecOn with
 | ind fuel ih=>
  intro cs x hK h
  obtain ⟨xs,n,rfl,-,hl,hxl,hf⟩:=DataW.trod_struct Tryz.underlying130 h
  rw [Tryz.cells71] at hl
  match cs,hl,xs,hxl with
  | [c0,c1,c2,c3,c4,c5,c6,c7,c8],_,[y0,y1,y2,y3,y4,y5,y6],_=>
   have h0:=hf 0 _ rfl
   have h1:=hf 1 _ rfl
   have h2:=hf 2 _ rfl
   have h3:=hf 3 _ rfl
   have h4:=hf 4 _ rfl
   have h5:=hf 5 _ rfl
   have h6:=hf 6 _ rfl
   simp [Tryz.cells3',Tryz.cells54,Tryz.cells52,Tryz.cells29] at h0 h1 h2 h3 h4 h5 h6
   obtain ⟨kd,e0,w0⟩:=Cp h0
   obtain ⟨va,e1,w1⟩:=Cp h1
   obtain ⟨ot,e2,w2⟩:=Cp h2
   simp at e0 e1 e2
   subst e0
   subst e1
   subst e2
   obtain ⟨e,he⟩:=Fd n _ _ h3
   obtain ⟨ags,hA⟩:=BM Tryz.underlying92 Tryz.cells54 (by omega) h4 (.agg []) (RX W K) fun m cs y hm hy=>by
    obtain ⟨d,hd⟩:=Fd m _ _ hy
    exact ⟨d,RX.mono (fun _ _ h=>h) m K _ _ (by omega) hd⟩
   obtain ⟨ts,hT⟩:=BM Tryz.underlying29 Tryz.cells71 (by omega) h5 (.agg []) (RS W K n) fun m cs y hm hy=>by
    obtain ⟨d,hd⟩:=ih m (by omega) cs y (by omega) hy
    exact ⟨d,RS.mono (fun _ _ h=>h) m n _ _ (by omega) hd⟩
   obtain ⟨es,hE⟩:=BM Tryz.underlying29 Tryz.cells71 (by omega) h6 (.agg []) (RS W K n) fun m cs y hm hy=>by
    obtain ⟨d,hd⟩:=ih m (by omega) cs y (by omega) hy
    exact ⟨d,RS.mono (fun _ _ h=>h) m n _ _ (by omega) hd⟩
   exact ⟨sD kd va ot e ags ts es,kd,va,ot,c3,c4,c5,e,c6,ags,c7,ts,c8,es,rfl,rfl,w0,w1,w2,RX.mono (fun _ _ h=>h) n K _ _ (by omega) he,NC hA,NC hT,NC hE⟩
theorem FA (K:Nat) {fuel:Nat} {v:Value} {x:DataW H × List MemPlace} (hK:fuel<=K) (h:DataW.trod enc Tryz.prog W 0 (fun _=>true) true fuel 29 [v]=some x):∃ l,Bf W K K v l:=by
 obtain ⟨l,hl⟩:=BM Tryz.underlying29 Tryz.cells71 (by omega) h (.agg []) (RS W K K) fun m cs y hm hy=>by
  obtain ⟨d,hd⟩:=Lz K m cs y (by omega) hy
  exact ⟨d,RS.mono (fun _ _ h=>h) m K _ _ (by omega) hd⟩
 exact ⟨l,NC hl⟩
theorem IW (K:Nat) {fuel:Nat} {v:Value} {x:DataW H × List MemPlace} (hK:fuel<=K) (h:DataW.trod enc Tryz.prog W 0 (fun _=>true) true fuel 28 [v]=some x):∃ l,Bm W K K v l:=by
 obtain ⟨l,hl⟩:=BM Tryz.underlying28 Tryz.cells80 (by omega) h ⟨[],[],.agg []⟩ (fun cs (f:FnD)=>∃ vP vB x0 x1 x2,cs=[vP,vB,x0,x1,x2]/\A1 W vP f.ps/\Rh vP f.ps/\Bf W K K vB f.body/\RX W K [x0,x1,x2] f.res) fun m cs y hm hy=>by
  obtain ⟨xs,n,rfl,-,hl,hxl,hf⟩:=DataW.trod_struct Tryz.underlying105 hy
  rw [Tryz.cells80] at hl
  match cs,hl,xs,hxl with
  | [c0,c1,c2,c3,c4],_,[y0,y1,y2],_=>
   have h0:=hf 0 _ rfl
   have h1:=hf 1 _ rfl
   have h2:=hf 2 _ rfl
   simp [Tryz.cells25,Tryz.cells29,Tryz.cells54] at h0 h1 h2
   obtain ⟨ps,hps⟩:=Dt h0
   obtain ⟨bd,hbd⟩:=FA K (by omega) h1
   obtain ⟨e,he⟩:=Fd n _ _ h2
   refine ⟨⟨ps,bd,e⟩,c0,c1,c2,c3,c4,rfl,Ia hps,?_,hbd,RX.mono (fun _ _ h=>h) n K _ _ (by omega) he⟩
   obtain ⟨hm2,ao,cap,hv,h5,h6,-⟩:=hps
   exact ⟨hm2,ao,cap,hv,h5,h6⟩
 obtain ⟨hm,ao,cap,hv,-,-,-,hc⟩:=hl
 refine ⟨l,hm,ao,cap,hv,fun hne=>?_⟩
 obtain ⟨b,off,hb,hel⟩:=hc hne
 refine ⟨b,off,hb,fun i hi=>?_⟩
 obtain ⟨cs,-,hcs,vP,vB,x0,x1,x2,rfl,h1,h2,h3,h4⟩:=hel i l[i] (List.getElem?_eq_getElem hi)
 exact ⟨vP,vB,x0,x1,x2,hcs 0 _ rfl,hcs 1 _ rfl,hcs 2 _ rfl,hcs 3 _ rfl,hcs 4 _ rfl,h1,h2,h3,h4⟩
end
section
variable {H:Type} {enc:TypeId × Value->H} {W:World}
theorem B9 {TS E:Nat} (hU:Tryz.prog.underlying TS=some (.slice E)) {fuel:Nat} {v:Value} {x:DataW H × List MemPlace} (h:DataW.trod enc Tryz.prog W 0 (fun _=>true) true fuel TS [v]=some x):∃ a n c,v=O a n c:=by
 rcases DataW.trod_slice hU h with ⟨hcs,-⟩ | ⟨ad,len,cap,elems,rest,m,rfl,hcs,-⟩
 ·simp at hcs
  exact ⟨_,_,_,hcs⟩
 ·simp at hcs
  exact ⟨_,_,_,hcs⟩
theorem LA {fuel:Nat} {cs:List Value} {x:DataW H × List MemPlace} (h:DataW.trod enc Tryz.prog W 0 (fun _=>true) true fuel 31 cs=some x) :
  ∃ (m:Int) (ga:Option Addr) (gn gc:Nat) (sa:Option Addr) (sn sc:Nat) (ya:Option Addr) (yn yc:Nat) (oa:Option Addr) (on oc:Nat) (va:Option Addr) (vn vc:Nat) (fa:Option Addr) (fn fc:Nat) (ba:Option Addr) (bn bc:Nat) (gs:List (Int × Int)) (sp:List Int) (ls ms:List Lab) (vs:List (Bool × Lab)) (fs:List FnD) (l:List D),cs=[U zd m,O ga gn gc,O sa sn sc,O ya yn yc,O oa on oc,O va vn vc,O fa fn fc,O ba bn bc]/\BK fuel fuel m ga gn gc sa sn sc ya yn yc oa on oc va vn vc fa fn fc ba bn bc gs sp ls ms vs fs l W:=by
 obtain ⟨xs,n,rfl,-,hl,hxl,hf⟩:=DataW.trod_struct Tryz.underlying31 h
 rw [Tryz.cells31] at hl
 match cs,hl,xs,hxl with
 | [c0,c1,c2,c3,c4,c5,c6,c7],_,[y0,y1,y2,y3,y4,y5,y6],_=>
  have h0:=hf 0 _ rfl
  have h1:=hf 1 _ rfl
  have h2:=hf 2 _ rfl
  have h3:=hf 3 _ rfl
  have h4:=hf 4 _ rfl
  have h5:=hf 5 _ rfl
  have h6:=hf 6 _ rfl
  simp [Tryz.cells24,Tryz.cells25,Tryz.cells26,Tryz.cells27,Tryz.cells28,Tryz.cells29] at h0 h1 h2 h3 h4 h5 h6
  obtain ⟨zs,n2,rfl,-,hl2,hzl,hf2⟩:=DataW.trod_struct Tryz.underlying24 h0
  match zs,hzl with
  | [z0,z1],_=>
   have g0:=hf2 0 _ rfl
   have g1:=hf2 1 _ rfl
   simp [Tryz.cells3',Tryz.cells22] at g0 g1
   obtain ⟨m,e0,hm⟩:=Cp g0
   simp at e0
   subst e0
   obtain ⟨ga,gn,gc,rfl⟩:=B9 Tryz.underlying22 g1
   obtain ⟨sa,sn,sc,rfl⟩:=B9 Tryz.underlying25 h1
   obtain ⟨ya,yn,yc,rfl⟩:=B9 Tryz.underlying26 h2
   obtain ⟨oa,on,oc,rfl⟩:=B9 Tryz.underlying26 h3
   obtain ⟨va,vn,vc,rfl⟩:=B9 Tryz.underlying27 h4
   obtain ⟨fa,fn,fc,rfl⟩:=B9 Tryz.underlying28 h5
   obtain ⟨ba,bn,bc,rfl⟩:=B9 Tryz.underlying29 h6
   obtain ⟨gs,hgs⟩:=H4 g1
   obtain ⟨sp,hsp⟩:=Dt h1
   obtain ⟨ls,hls,hln⟩:=Gc h2
   obtain ⟨ms,hms,hmn⟩:=Gc h3
   obtain ⟨vs,hvs⟩:=JF h4
   obtain ⟨fs,hfs⟩:=IW (n2+1+1) (by omega) h5
   obtain ⟨l,hl⟩:=FA (n2+1+1) (by omega) h6
   exact ⟨m,ga,gn,gc,sa,sn,sc,ya,yn,yc,oa,on,oc,va,vn,vc,fa,fn,fc,ba,bn,bc,gs,sp,ls,ms,vs,fs,l,rfl,hm,hgs,Ia hsp,by have:=hsp.1;unfold maxLen at this;omega,hls,hms,hvs,hfs,hl,hln,hmn⟩
theorem open_program {r:Go.Reach} {b0:Nat} {v:Value} {d:DataW H} {p:List MemPlace} (hv:Value.okWide Tryz.prog W r b0 31 v) (h:DataW.Trod enc Tryz.prog W 0 (fun _=>true) true 31 v d p) :
  ∃ (K:Nat) (m:Int) (ga:Option Addr) (gn gc:Nat) (sa:Option Addr) (sn sc:Nat) (ya:Option Addr) (yn yc:Nat) (oa:Option Addr) (on oc:Nat) (va:Option Addr) (vn vc:Nat) (fa:Option Addr) (fn fc:Nat) (ba:Option Addr) (bn bc:Nat) (gs:List (Int × Int)) (sp:List Int) (ls ms:List Lab) (vs:List (Bool × Lab)) (fs:List FnD) (l:List D),v=zh #[U zd m,O ga gn gc,O sa sn sc,O ya yn yc,O oa on oc,O va vn vc,O fa fn fc,O ba bn bc]/\BK K K m ga gn gc sa sn sc ya yn yc oa on oc va vn vc fa fn fc ba bn bc gs sp ls ms vs fs l W:=by
 obtain ⟨cs,rfl,hsz⟩:=okWide_struct Tryz.underlying31 hv
 obtain ⟨fuel,hf⟩:=h
 have hf2:DataW.trod enc Tryz.prog W 0 (fun _=>true) true fuel 31 cs.toList=some (d,p):=by simpa [Value.cells] using hf
 obtain ⟨m,ga,gn,gc,sa,sn,sc,ya,yn,yc,oa,on,oc,va,vn,vc,fa,fn,fc,ba,bn,bc,gs,sp,ls,ms,vs,fs,l,hcs,hp⟩:=LA hf2
 refine ⟨fuel,m,ga,gn,gc,sa,sn,sc,ya,yn,yc,oa,on,oc,va,vn,vc,fa,fn,fc,ba,bn,bc,gs,sp,ls,ms,vs,fs,l,?_,hp⟩
 have:cs=#[U zd m,O ga gn gc,O sa sn sc,O ya yn yc,O oa on oc,O va vn vc,O fa fn fc,O ba bn bc]:=by
  cases cs
  simp_all
 rw [this]
end
end Go.Proofs.YtfffpjkcfnekaaaGreat.Ex
namespace Go.Proofs.YtfffpjkcfnekaaaGreat.Ex
open Go.RowKit
open Go.Value renaming slice -> O, int -> U, bool -> zg, agg -> zh, pointer -> zi, tuple -> zk
open Go.IntKind renaming i64 -> zd
open Go.Obj renaming cells -> ze
open Go.Ending renaming returned -> zj
theorem Qt (args:Array Value) (w:World):(callFunc 178 args).run Tryz.prog w=.ok (.enter 178 args) w:=by simp [go_sem]
theorem Kc (args:Array Value) (w:World):(callFunc 179 args).run Tryz.prog w=.ok (.enter 179 args) w:=by simp [go_sem]
theorem Ad.set {cs:List Value} {w:World} {b j:Nat} {v:Value} (h:Ad cs w b) (hj:j < cs.length):Ad (cs.set j v) (w.setCell ⟨b,j,none⟩ v) b:=by
 have hc:=h j _ (List.getElem?_eq_getElem hj)
 have hb:=bL hc
 intro k u hu
 by_cases hk:k=j
 ·subst hk
  rw [List.getElem?_set_self hj] at hu
  simp at hu
  subst hu
  simp [go_sem,hc]
 ·rw [List.getElem?_set_ne (by omega)] at hu
  have:=h k u hu
  simp [go_sem,this]
theorem Ad.other {cs:List Value} {w:World} {b b' j:Nat} {v:Value} (h:Ad cs w b) (hb:b≠b'):Ad cs (w.setCell ⟨b',j,none⟩ v) b:=fun k u hu=>by
 have:=h k u hu
 simp [go_sem,this]
theorem Ad.drew {cs:List Value} {w:World} {b:Nat} (h:Ad cs w b):Ad cs w.drew b:=fun k u hu=>h k u hu
theorem Nf {w w0 w1:World} {a0 a1 a2 a3 a4 a5 a6 a7:Addr} {v0 v1 v2 v3 v4 v5 v6 v7:Value}
  (h:w0.cell? a0=some v0/\w0.cell? a1=some v1/\w0.cell? a2=some v2/\w0.cell? a3=some v3/\w0.cell? a4=some v4/\w0.cell? a5=some v5/\w0.cell? a6=some v6/\w0.cell? a7=some v7/\Ov w w0) (hb:Ov w0 w1) :
  w1.cell? a0=some v0/\w1.cell? a1=some v1/\w1.cell? a2=some v2/\w1.cell? a3=some v3/\w1.cell? a4=some v4/\w1.cell? a5=some v5/\w1.cell? a6=some v6/\w1.cell? a7=some v7/\Ov w w1:=by
 obtain ⟨h0,h1,h2,h3,h4,h5,h6,h7,hB⟩:=h
 exact ⟨Ab hb _ _ h0,Ab hb _ _ h1,Ab hb _ _ h2,Ab hb _ _ h3,Ab hb _ _ h4,Ab hb _ _ h5,Ab hb _ _ h6,Ab hb _ _ h7,hB.trans (hb.mono hB.size)⟩
theorem Bi {w w':World} {r b j:Nat} {u:Value} (hg:w.grownBy w' (some r)) (h:w.cell? ⟨b,j,none⟩=some u) (hne:b≠r):w'.cell? ⟨b,j,none⟩=some u:=by
 have hb:=bL h
 rw [World.cell?_of_block (w:=w) (hg.block b hb (fun e=>hne (Option.some.inj e)))]
 exact h
theorem CP {w:World} {r n j:Nat} {u:Value}:w.grownBy ((w.drewN n).setCell ⟨r,j,none⟩ u) (some r):=by
 have h:=Below.heap_setCell (w.drewN n) ⟨r,j,none⟩ u
 refine ⟨rfl,rfl,rfl,by simp [World.setCell],fun k hk hne=>?_⟩
 rw [h k (fun e=>hne (by rw [e]))]
 rfl
theorem CU {w w0 w1:World} {a0 a1 a2 a3:Addr} {v0 v1 v2 v3:Value}
  (h:w0.cell? a0=some v0/\w0.cell? a1=some v1/\w0.cell? a2=some v2/\w0.cell? a3=some v3/\Ov w w0) (hb:Ov w0 w1) :
  w1.cell? a0=some v0/\w1.cell? a1=some v1/\w1.cell? a2=some v2/\w1.cell? a3=some v3/\Ov w w1:=by
 obtain ⟨h0,h1,h2,h3,hB⟩:=h
 exact ⟨Ab hb _ _ h0,Ab hb _ _ h1,Ab hb _ _ h2,Ab hb _ _ h3,hB.trans (hb.mono hB.size)⟩
theorem Tryz.infoE:(Tryz.prog.info? 136).map (fun i=>(i.zero,i.size,i.bytes))=some (some (zh #[U zd 0,U zd 0,U zd 0,U zd 0]),4,32):=by kernel_rfl
theorem Ad.newA (cs:Array Value) (t:Nat) (w:World):Ad cs.toList (w.alloc (.cells cs t)) w.heap.size:=fun j u hu=>by
 rw [Lib.cell_of_heap (heap_alloc_new w _)]
 simpa using hu
theorem Ad.more {cs rest:List Value} {w:World} {b:Nat} (h:Ad (cs++rest) w b):Ad cs w b:=fun j u hu=>h j u (by rw [List.getElem?_append_left (List.getElem?_eq_some_iff.1 hu).1];exact hu)
theorem M7 {w w':World} {r a b j k l:Nat} {x y z:Value} (h:w.cell? ⟨a,j,none⟩=some x/\w.cell? ⟨b,k,none⟩=some y/\w.cell? ⟨b,l,none⟩=some z) (hg:w.grownBy w' (some r)) (ha:a≠r) (hb:b≠r) :
  w'.cell? ⟨a,j,none⟩=some x/\w'.cell? ⟨b,k,none⟩=some y/\w'.cell? ⟨b,l,none⟩=some z:=⟨Bi hg h.1 ha,Bi hg h.2.1 hb,Bi hg h.2.2 hb⟩
theorem Qg {w w':World} {b j k l m:Nat} {x y z u:Value} (h:w.cell? ⟨b,j,none⟩=some x/\w.cell? ⟨b,k,none⟩=some y/\w.cell? ⟨b,l,none⟩=some z/\w.cell? ⟨b,m,none⟩=some u) (hg:Ov w w') :
  w'.cell? ⟨b,j,none⟩=some x/\w'.cell? ⟨b,k,none⟩=some y/\w'.cell? ⟨b,l,none⟩=some z/\w'.cell? ⟨b,m,none⟩=some u:=⟨Ab hg _ _ h.1,Ab hg _ _ h.2.1,Ab hg _ _ h.2.2.1,Ab hg _ _ h.2.2.2⟩
def BC (w:World) (v:Value) (ls:List (List Int)):Prop:=
 ls.length<=maxLen/\∃ ao cap,v=O ao ls.length cap/\(ls≠[]->∃ b off,ao=some ⟨b,off,none⟩/\∀ i (h:i < ls.length),∃ u,w.cell? ⟨b,off+i,none⟩=some u/\A1 w u ls[i]/\ls[i].length<=9223372036854775807)
theorem BC.over {w w':World} {v:Value} {ls:List (List Int)} (h:BC w v ls) (hb:Ov w w'):BC w' v ls:=by
 obtain ⟨hm,ao,cap,hv,hc⟩:=h
 refine ⟨hm,ao,cap,hv,fun hne=>?_⟩
 obtain ⟨b,off,hao,hel⟩:=hc hne
 refine ⟨b,off,hao,fun i hi=>?_⟩
 obtain ⟨u,h0,h1,h2⟩:=hel i hi
 exact ⟨u,Ab hb _ _ h0,h1.over hb,h2⟩
theorem JN (a n c) (w:World):Calls Tryz.prog 178 #[O a n c] w fun e w'=>e=zj (zg (decide (100 < n)))/\w'=w:=by
 by_cases h:100 < n
 ·go_enter Tryz.func178,Tryz.ntmps178
  go_wp2_with fail
  go_ret
  exact ⟨by simp;omega,rfl⟩
 ·go_enter Tryz.func178,Tryz.ntmps178
  go_wp2_with fail
  go_ret
  exact ⟨by simp;omega,rfl⟩
theorem GN (l) (v:Value) (w:World) (h:A1 w v l) (hl:l.length<=9223372036854775807):Calls Tryz.prog 179 #[v] w fun e w'=>e=zj (zg (!l.all DL))/\w'=w:=by
 have K:=Aa (Fl l _ w h hl)
 obtain ⟨a,c,rfl,-⟩:=h
 go_enter Tryz.func179,Tryz.ntmps179
 go_wp2_with fail
 refine (K.o).mono ?_
 rintro e w1 ⟨rfl,rfl⟩
 go_wp2_with fail
 go_ret
 exact ⟨rfl,rfl⟩
theorem Gp (F:FuncId) (p:List Int->Bool) (ls) (v:Value) (w:World) (h:BC w v ls)
  (hF:Hx (∀ (l:List Int) (u:Value),A1 w u l->l.length<=9223372036854775807->Calls Tryz.prog F #[u] w fun e w'=>e=zj (zg (p l))/\w'=w)) (hC:∀ (args:Array Value) (w:World),(callFunc F args).run Tryz.prog w=.ok (.enter F args) w) :
  Calls Tryz.prog 221 #[v,.func (.func F) #[] #[]] w fun e w'=>∃ r:Int,e=zj (U zd r)/\decide (0<=r)=ls.any p/\w'=w:=by
 obtain ⟨hm,ao,cap,rfl,hcc⟩:=h
 have hm2:ls.length<=9223372036854775807:=hm
 have HCC:=Aa hcc
 clear hcc hm
 go_enter Tryz.func221,Tryz.ntmps221
 go_wp2_with fail
 go_loopw [8] (fun i wr=>∃ k:Nat,k<=ls.length/\i=U zd k/\(ls.take k).any p=false/\wr=w) (fun i _=>ls.length - (intOf i).toNat)
 case atStart=>exact ⟨0,Nat.zero_le _,rfl,rfl,rfl⟩
 case round=>
  obtain ⟨k,hk,rfl,hall,rfl⟩:=hrel
  have HA:=Aa hall
  clear hall
  by_cases hkl:k < ls.length
  ·obtain ⟨b,off,rfl,hcl⟩:=HCC.o (by rintro rfl;simp at hkl)
   obtain ⟨u,q0,hu,hul⟩:=hcl k hkl
   have hst:p ls[k]=true->ls.any p=true:=fun h=>by rw [List.any_eq_true];exact ⟨ls[k],List.getElem_mem hkl,h⟩
   have hnx:p ls[k]=false->(ls.take (k+1)).any p=false:=fun h=>by rw [List.take_succ_eq_append_getElem hkl,List.any_append,HA.o];simp [h]
   have hcall:=hF.o ls[k] u hu hul
   obtain ⟨r,hr⟩:=nm (p ls[k])
   rw [<-hr] at hcall hst hnx
   have HCALL:=Aa hcall
   have HST:=Aa hst
   have HNX:=Aa hnx
   obtain ⟨a2,c2,rfl,-⟩:=hu
   clear hcall hst hnx hr hcl HA hF
   cases r with
   | false=>
    go_wp2_with fail
    refine (HCALL.o).mono ?_
    rintro e w2 ⟨rfl,rfl⟩
    go_wp2_with fail
    exact ⟨⟨k+1,by omega,by go_num,HNX.o (by first | rfl | trivial),by first | rfl | trivial⟩,by simp [intOf];omega⟩
   | true=>
    go_wp2_with fail
    refine (HCALL.o).mono ?_
    rintro e w2 ⟨rfl,rfl⟩
    go_wp2_with fail
    go_ret
    refine ⟨(k:Int),by first | rfl | trivial,?_,by first | rfl | trivial⟩
    rw [HST.o (by first | rfl | trivial)]
    simp
  ·have ha:=HA.o
   rw [List.take_of_length_le (by omega)] at ha
   have HD:=Aa ha
   clear ha HA hF
   go_wp2_with fail
   go_ret
   refine ⟨-1,by first | rfl | trivial,?_,by first | rfl | trivial⟩
   rw [HD.o]
   rfl
theorem Da (F:FuncId) (p:List Int->Bool) (ls) (v:Value) (w:World) (h:BC w v ls)
  (hF:Hx (∀ (l:List Int) (u:Value),A1 w u l->l.length<=9223372036854775807->Calls Tryz.prog F #[u] w fun e w'=>e=zj (zg (p l))/\w'=w)) (hC:∀ (args:Array Value) (w:World),(callFunc F args).run Tryz.prog w=.ok (.enter F args) w) :
  Calls Tryz.prog 180 #[v,.func (.func F) #[] #[]] w fun e w'=>e=zj (zg (ls.any p))/\w'=w:=by
 have K:=Aa (Gp F p ls v w h hF hC)
 obtain ⟨hm,ao,cap,rfl,hcc⟩:=h
 obtain ⟨q,hq⟩:=nm (ls.any p)
 rw [<-hq] at K ⊢
 clear hcc hq hF
 go_enter Tryz.func180,Tryz.ntmps180
 go_wp2_with fail
 refine (K.o).mono ?_
 rintro e w1 ⟨r,rfl,hr,rfl⟩
 have HR:=Aa hr
 clear hr
 go_wp2_with fail
 go_ret
 exact ⟨by rw [<-HR.o];simp,rfl⟩
structure okR (K kf:Nat) (m:Int) (vn yn on sn:Nat) (gs:List (Int × Int)) (sp:List Int) (ls ms:List Lab) (vs:List (Bool × Lab)) (fs:List FnD) (l:List D) (ins:List (List Int)) (fuel:Int):Prop where
 prog:Ey.xP K kf m vn yn on sn gs sp ls ms vs fs l
 many:ins.length=yn
 long:∀ x∈ins,x.length<=100
 num:∀ x∈ins,∀ y∈x,I32 y
 f0:0<=fuel
 f1:fuel<=2000
theorem Hz (K kf:Nat) (m:Int) (ga gn gc sa sn sc ya yn yc oa on oc va vn vc fa fn fc ba bn bc) (xa xn xc) (ins) (fuel:Int) (gs sp ls ms vs fs l) (w:World) (h:BK K kf m ga gn gc sa sn sc ya yn yc oa on oc va vn vc fa fn fc ba bn bc gs sp ls ms vs fs l w) (hx:BC w (O xa xn xc) ins) :
  Calls Tryz.prog 117 #[zh #[U zd m,O ga gn gc,O sa sn sc,O ya yn yc,O oa on oc,O va vn vc,O fa fn fc,O ba bn bc],O xa xn xc,U zd fuel] w (Ey.Said (okR K kf m vn yn on sn gs sp ls ms vs fs l ins fuel) w fun why=>U zd why):=by
 have hmf:∀ (fn:Fn) (first cap:Array Value) (w:World),(Instr.makeFunc fn first cap).run Tryz.prog w=.ok (.func fn first cap) w:=fun _ _ _ _=>rfl
 have hbel:Ov w (w.alloc (ze #[U zd m,O ga gn gc,O sa sn sc,O ya yn yc,O oa on oc,O va vn vc,O fa fn fc,O ba bn bc] 31)):=bA w _
 have K1:=Aa (Ey.scopeCheck_any K kf m ga gn gc sa sn sc ya yn yc oa on oc va vn vc fa fn fc ba bn bc gs sp ls ms vs fs l _ (h.over hbel))
 have HX:=Aa (hx.over hbel)
 have hxn:xn=ins.length:=by obtain ⟨-,a,c,he,-⟩:=hx;injection he
 have hxl:xn<=9223372036854775807:=by rw [hxn];exact hx.1
 have hyl:yn<=9223372036854775807:=by obtain ⟨hm,a,c,he,-⟩:=h.ins;injection he with e1 e2 e3;rw [e2];exact hm
 have HXN:=Aa hxn
 have K2:=Aa fun W (hw:BC W (O xa xn xc) ins)=>Da 178 (fun l=>decide (100 < l.length)) ins (O xa xn xc) W hw (Aa fun l u hu _=>by
  obtain ⟨a,c,rfl,-⟩:=hu
  exact JN a l.length c W) Qt
 have K3:=Aa fun W (hw:BC W (O xa xn xc) ins)=>Da 179 (fun l=>!l.all DL) ins (O xa xn xc) W hw (Aa fun l u hu hl=>GN l u W hu hl) Kc
 obtain ⟨q2,hq2⟩:=nm (ins.any (fun l=>decide (100 < l.length)))
 obtain ⟨q3,hq3⟩:=nm (ins.any (fun l=>!l.all DL))
 rw [<-hq2] at K2
 rw [<-hq3] at K3
 have HQ2:=Aa hq2
 have HQ3:=Aa hq3
 have c3:(w.alloc (ze #[U zd m,O ga gn gc,O sa sn sc,O ya yn yc,O oa on oc,O va vn vc,O fa fn fc,O ba bn bc] 31)).cell? ⟨w.heap.size,3,none⟩=some (O ya yn yc):=by simp [go_sem]
 clear h hx hxn hq2 hq3
 go_enter Tryz.func117,Tryz.ntmps117
 go_wp2_with fail
 refine (K1.o).mono ?_
 rintro e w1 ⟨why,rfl,hok,hb1⟩
 have d3:=Ab hb1 _ _ c3
 have HX1:=Aa (HX.o.over hb1)
 have hB1:=hbel.trans (hb1.mono hbel.size)
 have HOK:=Aa hok
 clear hbel hb1 K1 HX c3 hok
 by_cases hw:why=0
 rotate_left
 ·have hwb:(why == 0)=false:=by simpa using hw
  go_wp2_with fail
  go_ret
  exact ⟨why,rfl,⟨fun h=>absurd h hw,fun h=>absurd (HOK.o.2 h.prog) hw⟩,hB1⟩
 subst hw
 by_cases hxy:xn=yn
 rotate_left
 ·have hb:((xn:Int) == (yn:Int))=false:=by simp;omega
  go_wp2_with fail
  go_ret
  exact ⟨1,rfl,⟨fun h=>absurd h (by decide),fun h=>absurd (HXN.o.trans h.many) hxy⟩,hB1⟩
 have hb:((xn:Int) == (yn:Int))=true:=by simp;omega
 have HXY:=Aa hxy
 clear hxy
 go_wp2_with fail
 refine (K2.o _ HX1.o).mono ?_
 rintro e w2 ⟨rfl,rfl⟩
 cases q2 with
 | true=>
  go_wp2_with fail
  go_ret
  refine ⟨2,rfl,⟨fun h=>absurd h (by decide),fun h=>?_⟩,hB1⟩
  obtain ⟨x,hx,hl⟩:=List.any_eq_true.1 HQ2.o.symm
  exact absurd (h.long x hx) (by simpa using hl)
 | false=>
 go_wp2_with fail
 refine (K3.o _ HX1.o).mono ?_
 rintro e w3 ⟨rfl,rfl⟩
 cases q3 with
 | true=>
  go_wp2_with fail
  go_ret
  refine ⟨3,rfl,⟨fun h=>absurd h (by decide),fun h=>?_⟩,hB1⟩
  obtain ⟨x,hx,hl⟩:=List.any_eq_true.1 HQ3.o.symm
  have ha:x.all DL=true:=List.all_eq_true.2 fun y hy=>by simpa [DL,I32] using h.num x hx y hy
  simp [ha] at hl
 | false=>
 by_cases hf0:fuel < 0
 ·go_wp2_with fail
  go_ret
  exact ⟨3,rfl,⟨fun h=>absurd h (by decide),fun h=>by have:=h.f0;omega⟩,hB1⟩
 by_cases hf1:2000 < fuel
 ·go_wp2_with fail
  go_ret
  exact ⟨3,rfl,⟨fun h=>absurd h (by decide),fun h=>by have:=h.f1;omega⟩,hB1⟩
 go_wp2_with fail
 go_ret
 refine ⟨0,rfl,⟨fun _=>⟨HOK.o.1 (by first | rfl | trivial),by rw [<-HXN.o];exact HXY.o,fun x hx=>?_,fun x hx y hy=>?_,by omega,by omega⟩,fun _=>rfl⟩,hB1⟩
 ·have:=List.any_eq_false.1 HQ2.o.symm x hx
  simpa using this
 ·have:=List.any_eq_false.1 HQ3.o.symm x hx
  simp only [Bool.not_eq_true,Bool.not_eq_false'] at this
  have:=List.all_eq_true.1 this y hy
  simpa [DL,I32] using this
end Go.Proofs.YtfffpjkcfnekaaaGreat.Ex
namespace Go.Proofs.YtfffpjkcfnekaaaGreat.Ex
open Go.RowKit
open Go.Value renaming slice -> O, int -> U, bool -> zg, agg -> zh, pointer -> zi, tuple -> zk
open Go.IntKind renaming i64 -> zd
open Go.Obj renaming cells -> ze
open Go.Ending renaming returned -> zj
open Go.ChangeShapes Go.WideShapes Go.ChangeAt
section
variable {H:Type} {enc:TypeId × Value->H} {W:World}
theorem IU {fuel:Nat} {v:Value} {x:DataW H × List MemPlace} (h:DataW.trod enc Tryz.prog W 0 (fun _=>true) true fuel 52 [v]=some x):∃ l:List (List Int),BC W v l/\LAt 1 (fun cs x=>∃ u,cs=[u]/\LAt 1 (fun cs x=>cs=[U zd x]) W u x) W v l:=by
 obtain ⟨l,hl⟩:=BM Tryz.underlying52 Tryz.cells25 (by omega) h [] (fun cs (x:List Int)=>∃ u,cs=[u]/\LAt 1 (fun cs x=>cs=[U zd x]) W u x) fun m cs y _ hy=>by
  have hlen:cs.length=1:=by
   rcases DataW.trod_slice Tryz.underlying25 hy with ⟨hcs,-⟩ | ⟨ad,len,cap,elems,rest,m,rfl,hcs,-⟩
   ·rw [hcs];rfl
   ·rw [hcs];rfl
  match cs,hlen with
  | [u],_=>
   obtain ⟨l,hl⟩:=Dt hy
   exact ⟨l,u,rfl,hl⟩
 refine ⟨l,?_,hl⟩
 obtain ⟨hm,ao,cap,hv,-,-,-,hc⟩:=hl
 refine ⟨hm,ao,cap,hv,fun hne=>?_⟩
 obtain ⟨b,off,hb,hel⟩:=hc hne
 refine ⟨b,off,hb,fun i hi=>?_⟩
 obtain ⟨cs,-,hcs,u,rfl,hu⟩:=hel i l[i] (List.getElem?_eq_getElem hi)
 refine ⟨u,by have:=hcs 0 _ rfl;simpa using this,Ia hu,?_⟩
 have:=hu.1
 unfold maxLen at this
 omega
theorem open_lists {r:Go.Reach} {b0:Nat} {v:Value} {d:DataW H} {p:List MemPlace} (hv:Value.okWide Tryz.prog W r b0 52 v) (h:DataW.Trod enc Tryz.prog W 0 (fun _=>true) true 52 v d p) :
  ∃ (a:Option Addr) (n c:Nat) (l:List (List Int)),v=O a n c/\BC W (O a n c) l/\LAt 1 (fun cs x=>∃ u,cs=[u]/\LAt 1 (fun cs x=>cs=[U zd x]) W u x) W (O a n c) l:=by
 obtain ⟨a,n,c,rfl⟩:=okWide_slice Tryz.underlying52 hv
 obtain ⟨fuel,hf⟩:=h
 have hf2:DataW.trod enc Tryz.prog W 0 (fun _=>true) true fuel 52 [O a n c]=some (d,p):=by simpa [Value.cells] using hf
 obtain ⟨l,h1,h2⟩:=IU hf2
 exact ⟨a,n,c,l,rfl,h1,h2⟩
end
end Go.Proofs.YtfffpjkcfnekaaaGreat.Ex
namespace Go.Proofs.YtfffpjkcfnekaaaGreat.Ex
open Go.RowKit
open Go.Value renaming slice -> O, int -> U, bool -> zg, agg -> zh, pointer -> zi, tuple -> zk
open Go.IntKind renaming i64 -> zd
open Go.Obj renaming cells -> ze
open Go.Ending renaming returned -> zj
theorem Tryz.infoFt:(Tryz.prog.info? 89).map (fun i=>(i.zero,i.size,i.bytes))=some (some (zh #[U zd 0,U zd 0]),2,16):=by kernel_rfl
theorem CX {ops:Array Oper} {o:Oper} {a:Act} {W:World} {K:Act->World->Prop} {Q:Exit->Act->World->Prop} {E:Prop} (hg:o.guard=none) (s x:Operand) (t:TypeId) (hop:o.op=Op.call { callee:=Callee.builtin Builtin.append,args:=#[s,x],argTypes:=#[t,t] }) (v u v':Value) (W':World) (hs:a.eval s=v) (hx:a.eval x=u)
  (hr:(Builtin.append_ #[t,t] o.type #[v,u]).run Tryz.prog W=.ok v' W') (h:K (a.put o.dst v') W'):if Region.wanted o (yielded ops a.tmps)=true then Oper.wp Tryz.prog o a W K Q else E:=by
 have hw:Region.wanted o (yielded ops a.tmps)=true:=by simp [Region.wanted,hg]
 rw [if_pos hw]
 unfold Oper.wp execOp
 simp only [hop,resolve,invoke,builtin,Sem.run_bind,Sem.run_pure,Result.andThen_ok,List.map_toArray,List.map_cons,List.map_nil,hs,hx,hr]
 exact h
theorem Bs {cs:List Value} {w:World} {b j:Nat} {v:Value} (h:Ad cs w b) (hj:j < cs.length):Ad (cs.set j v) (w.setCell ⟨b,j,none⟩ v) b:=by
 intro i u hu
 by_cases hij:j=i
 ·subst hij
  rw [List.getElem?_set_self hj] at hu
  injection hu with hu
  subst hu
  exact World.cell?_setCell_same _ _ _ (h j _ (List.getElem?_eq_getElem hj))
 ·rw [List.getElem?_set_ne hij] at hu
  rw [World.cell?_setCell_other _ _ _ _ (by intro e;injection e with e1 e2;exact hij e2)]
  exact h i u hu
theorem Ap {w:World} {b i k:Nat} (h:b≠k) (u:Value):(w.setCell ⟨b,i,none⟩ u).heap[k]? = w.heap[k]?:=by
 simp [World.setCell,Array.getElem?_modify,h]
theorem JR {w:World} {b j:Nat} {u:Value}:w.grownBy (w.setCell ⟨b,j,none⟩ u) (some b):=
 ⟨rfl,rfl,rfl,by simp [World.setCell],fun k hk hne=>Ap (fun e=>hne (by rw [e])) u⟩
theorem DV {w w':World} {v:Value} {B:Nat} (h:w.grownBy w' v.ownBlock) (hv:∀ g,v.ownBlock=some g->B<=g) (hB:B<=w.heap.size):Below B w w':=
 ⟨h.os,h.tape,h.output,h.size,fun k hk=>h.block k (by omega) (fun e=>by have:=hv k e.symm;omega)⟩
def B6 (l:List (Int × Int)):List Value:=l.flatMap fun x=>[U zd x.1,U zd x.2]
theorem Jd (l:List (Int × Int)) (a k:Int):B6 (l++[(a,k)])=B6 l++[U zd a,U zd k]:=by simp [B6]
def addF (a k:Int) (fl:List (Int × Int)):Bool->List (Int × Int)
 | true=>fl++[(a,k)]
 | false=>fl
def XJ (bj:Nat) (W:World) (k:Nat):Prop:=W.heap.size<=bj\/k=bj\/∃ v,W.cell? ⟨bj,11,none⟩=some v/\v.ownBlock=some k
theorem Al (bj:Nat):XOk (XJ bj):=⟨fun W W' hb k h=>by
 by_cases hlt:W.heap.size<=bj
 ·exact Or.inl hlt
 ·rcases h with h | h | ⟨v,hv,ho⟩
  ·exact absurd (Nat.le_trans hb.size h) hlt
  ·exact Or.inr (Or.inl h)
  ·refine Or.inr (Or.inr ⟨v,?_,ho⟩)
   rw [<-hv]
   exact (World.cell?_of_block (a:=⟨bj,11,none⟩) (hb.block bj (by omega))).symm⟩
structure AK (cs:List Value) (w0:World) (bj:Nat) (av:Value) (fl:List (Int × Int)) (fv:Value) (W:World):Prop where
 below:Ov w0 W
 row:Ad (cs++[av,fv]) W bj
 fz:∀ j,W.frozen? ⟨bj,j,none⟩=false
 own:W.ownsRow w0.heap.size 89 2 fv fl.length (B6 fl)
 ap:fv.ownBlock≠some bj
 lo:w0.heap.size<=bj/\bj < W.heap.size
 len:cs.length=10
theorem AK.c11 {cs:List Value} {w0:World} {bj:Nat} {av:Value} {fl:List (Int × Int)} {fv:Value} {W:World} (h:AK cs w0 bj av fl fv W):W.cell? ⟨bj,11,none⟩=some fv:=h.row 11 _ (by rw [List.getElem?_append_right (by rw [h.len];omega),h.len];rfl)
theorem AK.c10 {cs:List Value} {w0:World} {bj:Nat} {av:Value} {fl:List (Int × Int)} {fv:Value} {W:World} (h:AK cs w0 bj av fl fv W):W.cell? ⟨bj,10,none⟩=some av:=h.row 10 _ (by rw [List.getElem?_append_right (by rw [h.len];omega),h.len];rfl)
theorem AK.cw {cs:List Value} {w0:World} {bj:Nat} {av:Value} {fl:List (Int × Int)} {fv:Value} {W:World} (h:AK cs w0 bj av fl fv W):Ad cs W bj:=fun j u hu=>h.row j u (by rw [List.getElem?_append_left (List.getElem?_eq_some_iff.1 hu).1];exact hu)
theorem AK.over {cs:List Value} {w0:World} {bj:Nat} {av:Value} {fl:List (Int × Int)} {fv:Value} {W W':World} (h:AK cs w0 bj av fl fv W) (hb:Ov W W'):AK cs w0 bj av fl fv W':=
 ⟨h.below.trans (hb.mono h.below.size),h.row.over hb,fun j=>((Ak hb).2 _ _ h.lo.2).trans (h.fz j),h.own.kept (row:=none) ⟨hb.os,hb.tape,hb.output,hb.size,fun k hk _=>hb.block k hk⟩ (by cases fv.ownBlock <;> simp),h.ap,⟨h.lo.1,Nat.lt_of_lt_of_le h.lo.2 hb.size⟩,h.len⟩
theorem MX {W:World} {B e s n:Nat} {v:Value} {xs:List Value} (h:W.ownsRow B e s v n xs):∀ g,v.ownBlock=some g->B<=g/\g < W.heap.size:=by
 intro g hg
 rcases h.2 with ⟨h,-⟩ | ⟨g',cap,cur,h,hb,hh,-⟩
 ·rw [h] at hg;cases hg
 ·rw [h] at hg
  simp [Value.ownBlock] at hg
  subst hg
  exact ⟨hb,(Array.getElem?_eq_some_iff.1 hh).1⟩
theorem AK.xlt {cs:List Value} {w0:World} {bj:Nat} {av:Value} {fl:List (Int × Int)} {fv:Value} {W:World} (h:AK cs w0 bj av fl fv W):∀ k,XJ bj W k->w0.heap.size<=k/\k < W.heap.size:=by
 rintro k (hk | rfl | ⟨v,hv,ho⟩)
 ·have:=h.lo.2;omega
 ·exact h.lo
 ·rw [h.c11] at hv
  injection hv with hv
  subst hv
  exact MX h.own k ho
theorem AK.add {cs:List Value} {w0:World} {bj:Nat} {av:Value} {fl:List (Int × Int)} {fv v':Value} {W W':World} {a k:Int} (h:AK cs w0 bj av fl fv W) (ho':W'.ownsRow w0.heap.size 89 2 v' (fl.length+1) (B6 fl++[U zd a,U zd k])) (hg:W.grownBy W' fv.ownBlock) (hat:v'.ownBlock=fv.ownBlock\/v'.ownBlock=some W.heap.size) :
  AK cs w0 bj av (fl++[(a,k)]) v' (W'.setCell ⟨bj,11,none⟩ v')/\FrW (XJ bj) W (W'.setCell ⟨bj,11,none⟩ v'):=by
 have hbw:W'.heap[bj]? = W.heap[bj]?:=hg.block bj h.lo.2 (fun e=>h.ap e.symm)
 have hrow':Ad (cs++[av,fv]) W' bj:=fun j u hu=>(World.cell?_of_block (a:=⟨bj,j,none⟩) hbw).trans (h.row j u hu)
 have hBl:Below w0.heap.size W W':=DV hg (fun g e=>(MX h.own g e).1) h.below.size
 have hv':v'.ownBlock≠some bj:=by
  rcases hat with e | e
  ·rw [e];exact h.ap
  ·rw [e];intro e;injection e with e;have:=h.lo.2;omega
 have hsz:(W'.setCell ⟨bj,11,none⟩ v').heap.size=W'.heap.size:=by simp [World.setCell]
 have hrow2:Ad (cs++[av,v']) (W'.setCell ⟨bj,11,none⟩ v') bj:=by
  have:=Bs (j:=11) (v:=v') hrow' (by simp [h.len])
  rw [List.set_append,if_neg (by rw [h.len];omega),h.len] at this
  simpa using this
 have hc2:CE (W'.setCell ⟨bj,11,none⟩ v') bj 11 v':=hrow2 11 _ (by rw [List.getElem?_append_right (by rw [h.len];omega),h.len];rfl)
 refine ⟨⟨(h.below.trans hBl).setCell h.lo.1 _,hrow2,fun j=>?_,?_,hv',⟨h.lo.1,?_⟩,h.len⟩,⟨?_,?_,?_,?_,?_,?_⟩⟩
 ·have e1:(W'.setCell ⟨bj,11,none⟩ v').frozen? ⟨bj,j,none⟩=W'.frozen? ⟨bj,j,none⟩:=by simp [go_sem]
  rw [e1,World.frozen?_of_block (a:=⟨bj,j,none⟩) hbw]
  exact h.fz j
 ·rw [Jd,List.length_append]
  exact ho'.kept (row:=some bj) JR (Or.inr hv')
 ·rw [hsz];exact Nat.lt_of_lt_of_le h.lo.2 hg.size
 ·exact hg.os
 ·exact hg.tape
 ·exact hg.output
 ·rw [hsz];exact hg.size
 ·intro k hk hx
  have hne:k≠bj:=fun e=>hx (Or.inr (Or.inl e))
  rw [Ap (Ne.symm hne) v']
  exact hg.block k hk (fun e=>hx (Or.inr (Or.inr ⟨fv,h.c11,e.symm⟩)))
 ·rintro k hk (hx | rfl | ⟨v,hv,ho⟩)
  ·rw [hsz] at hx;have:=hg.size;have:=h.lo.2;omega
  ·exact Or.inr (Or.inl rfl)
  ·rw [hc2] at hv
   injection hv with hv
   subst hv
   rcases hat with e | e
   ·exact Or.inr (Or.inr ⟨fv,h.c11,by rw [<-e];exact ho⟩)
   ·rw [e] at ho;injection ho with ho;omega
theorem Fp (cs:List Value) (w0:World) (bj:Nat) (av:Value) (fl) (fv:Value) (a k:Int) (is:Bool) (bx ba:Nat) (W:World) (h:AK cs w0 bj av fl fv W) (hx:W.cell? ⟨bx,0,none⟩=some (zi (some ⟨bj,0,none⟩))) (ha:W.cell? ⟨ba,0,none⟩=some (U zd a)) (nx:¬ XJ bj W bx) (na:¬ XJ bj W ba) (hl:fl.length<=1000) :
  Calls Tryz.prog 149 #[U zd k,zg is,zi (some ⟨bx,0,none⟩),zi (some ⟨ba,0,none⟩)] W fun e W'=>e=zj (zk #[])/\(∃ fv',AK cs w0 bj av (addF a k fl is) fv' W')/\FrW (XJ bj) W W':=by
 cases is with
 | false=>
  go_enter Tryz.func149,Tryz.ntmps149
  go_wp2_with fail
  go_end0
  exact ⟨rfl,⟨fv,h⟩,FrW.refl _⟩
 | true=>
  obtain ⟨i0,hi,hz0,hz1,hz2⟩:=info_parts Tryz.infoFt
  obtain ⟨fa,fn,fc,rfl⟩:=AD h.own
  have hb1:Ov W (W.drew.alloc (ze #[U zd a,U zd k] 89)):=(bD W).alloc (Nat.le_refl _) _
  have hJ1:=h.over hb1
  have hN:=Ad.new [U zd a,U zd k] 89 W.drew
  have hBW:w0.heap.size<=(W.drew.alloc (ze #[U zd a,U zd k] 89)).heap.size:=hJ1.below.size
  obtain ⟨v2,w2,hrun,hown2,hgr2,-,hat⟩:=run_append_own_at (P:=Tryz.prog) (w:=W.drew.alloc (ze #[U zd a,U zd k] 89)) w0.heap.size 79 79 89 i0 (zh #[U zd 0,U zd 0]) 2 16 Tryz.underlying79 hi hz0 hz1 hz2 rfl (by decide) _ _ _ hJ1.own ⟨W.drew.heap.size,0,none⟩ 1 1 [U zd a,U zd k] rfl (fun jj u hu=>by rw [Addr.add_lit,Nat.zero_add];exact hN jj u hu) (by simp [Value.oneCell']) (by unfold maxLen;omega) (by omega) hBW
  obtain ⟨va2,vn2,vc2,rfl⟩:=AD hown2
  have hfin:=hJ1.add hown2 hgr2 hat
  have x11:=h.c11
  have y11:=hJ1.c11
  have z11:=Ab (bA W (ze #[U zd a,U zd k] 89)) _ _ x11
  have d2:=hgr2.cell y11 (fun hx=>hJ1.ap hx.symm)
  have f2:w2.frozen? ⟨bj,11,none⟩=false:=(World.frozen?_of_block (a:=⟨bj,11,none⟩) (hgr2.block bj hJ1.lo.2 (fun hx=>hJ1.ap hx.symm))).trans (hJ1.fz 11)
  have nx1:¬ XJ bj (W.drew.alloc (ze #[U zd a,U zd k] 89)) bx:=fun e=>nx ((Al bj).below _ _ hb1 _ e)
  have na1:¬ XJ bj (W.drew.alloc (ze #[U zd a,U zd k] 89)) ba:=fun e=>na ((Al bj).below _ _ hb1 _ e)
  have hS0:CE W.drew bx 0 (zi (some ⟨bj,0,none⟩))/\CE W.drew ba 0 (U zd a):=⟨hx,ha⟩
  have hS1:CE (W.drew.alloc (ze #[U zd a,U zd k] 89)) bx 0 (zi (some ⟨bj,0,none⟩))/\CE (W.drew.alloc (ze #[U zd a,U zd k] 89)) ba 0 (U zd a):=⟨Ab hb1 _ _ hx,Ab hb1 _ _ ha⟩
  have hS2:CE w2 bx 0 (zi (some ⟨bj,0,none⟩))/\CE w2 ba 0 (U zd a):=⟨hgr2.cell hS1.1 (fun e=>nx1 (Or.inr (Or.inr ⟨_,hJ1.c11,e.symm⟩))),hgr2.cell hS1.2 (fun e=>na1 (Or.inr (Or.inr ⟨_,hJ1.c11,e.symm⟩)))⟩
  have hS3:CE (w2.setCell ⟨bj,11,none⟩ (O va2 vn2 vc2)) bx 0 (zi (some ⟨bj,0,none⟩))/\CE (w2.setCell ⟨bj,11,none⟩ (O va2 vn2 vc2)) ba 0 (U zd a):=⟨hfin.2.cell hS1.1 nx1,hfin.2.cell hS1.2 na1⟩
  have HFIN:Hx (AK cs w0 bj av (fl++[(a,k)]) (O va2 vn2 vc2) (w2.setCell ⟨bj,11,none⟩ (O va2 vn2 vc2))/\FrW (XJ bj) W (w2.setCell ⟨bj,11,none⟩ (O va2 vn2 vc2))):=⟨hfin.1,(FrW.of_below (Al bj) hb1).trans hfin.2⟩
  clear hfin hown2 hgr2 hat hN hBW hJ1 h nx na nx1 na1 hb1 hi hz0 hz1 hz2
  go_enter Tryz.func149,Tryz.ntmps149
  go_wp2_with fail
  refine gS (fun Wz=>CE Wz bx 0 (zi (some ⟨bj,0,none⟩))/\CE Wz ba 0 (U zd a)) (hS0) fun hHeld=>?_
  refine kT 0 ?_
  refine kT 1 ?_
  refine kT 2 ?_
  refine kT 3 ?_
  refine kT 5 ?_
  refine kT 6 ?_
  refine kT 7 ?_
  refine rdB 4 8 rfl (fun K hK=>?_) rfl fun K hK=>?_
  ·go_simp
   refine xK hK (hS0) fun hHeld=>?_
   refine rdA 8 rfl fun K hK=>?_
   go_simp
   refine xK hK (hS1) fun hHeld=>?_
   refine rdA 9 rfl fun K hK=>?_
   refine CX rfl _ _ _ rfl _ _ _ _ rfl rfl hrun ?_
   refine xK hK (hS2) fun hHeld=>?_
   refine rdA 10 rfl fun K hK=>?_
   go_simp
   refine xK hK (hS2) fun hHeld=>?_
   refine rdA 11 rfl fun K hK=>?_
   go_simp
   refine xK hK (hS2) fun hHeld=>?_
   refine rdA 12 rfl fun K hK=>?_
   go_simp
   refine xK hK (hS3) fun hHeld=>?_
   refine gE ?_
   go_end0
   exact ⟨rfl,⟨_,HFIN.o.1⟩,HFIN.o.2⟩
  ·go_simp
   refine xK hK (hS1) fun hHeld=>?_
   refine rdA 4 rfl fun K hK=>?_
   go_simp
   refine xK hK (hS1) fun hHeld=>?_
   refine rdA 9 rfl fun K hK=>?_
   refine CX rfl _ _ _ rfl _ _ _ _ rfl rfl hrun ?_
   refine xK hK (hS2) fun hHeld=>?_
   refine rdA 10 rfl fun K hK=>?_
   go_simp
   refine xK hK (hS2) fun hHeld=>?_
   refine rdA 11 rfl fun K hK=>?_
   go_simp
   refine xK hK (hS2) fun hHeld=>?_
   refine rdA 12 rfl fun K hK=>?_
   go_simp
   refine xK hK (hS3) fun hHeld=>?_
   refine gE ?_
   go_end0
   exact ⟨rfl,⟨_,HFIN.o.1⟩,HFIN.o.2⟩
structure JSt (c:WC) (w0:World) (gs:List (Int × Int)) (Ls Fs:List Lev):Prop where
 n1:1<=c.n
 n6:c.n<=6
 gr:AA w0 (O c.ga c.gn c.gc) gs
 chk:AR c.n gs=0
 levs:Bz w0 (O c.la c.ln c.lc) Ls
 lens:∀ x∈Ls,x.len c.n
 flevs:Bz w0 (O c.ka c.kn c.kc) Fs
 flens:∀ x∈Fs,x.len c.n
 l16:Ls.length<=16
theorem DB (c:WC) (gs) (v u:Value) (l k) (w:World) (hg:AA w (O c.ga c.gn c.gc) gs) (hE:AR c.n gs=0) (hl:AP w v l) (hll:l.len c.n) (hk:AP w u k) (hkl:k.len c.n) :
  Calls Tryz.prog 57 #[c.v,v,u] w fun e w'=>e=zj (zg (Ax l k c.n))/\Ov w w':=by
 obtain ⟨x,y,rfl,-⟩:=id hl
 obtain ⟨x',y',rfl,-⟩:=id hk
 exact Nl (c.n:Int) c.ga c.gn c.gc c.sa c.sn c.sc c.ya c.yn c.yc c.oa c.on c.oc c.va c.vn c.vc c.fa c.fn c.fc c.ba c.bn c.bc c.la c.ln c.lc c.ka c.kn c.kc gs x y x' y' l k w hg hl hk (Dy hE hll hkl)
theorem Pi (c:WC) (gs) (v u:Value) (l k) (w:World) (hg:AA w (O c.ga c.gn c.gc) gs) (hE:AR c.n gs=0) (hl:AP w v l) (hll:l.len c.n) (hk:AP w u k) (hkl:k.len c.n) :
  Calls Tryz.prog 58 #[c.v,v,u] w fun e w'=>∃ vj,e=zj vj/\AO w w' vj (BH l k c.n)/\Ov w w':=by
 obtain ⟨x,y,rfl,-⟩:=id hl
 obtain ⟨x',y',rfl,-⟩:=id hk
 exact K0 (c.n:Int) c.ga c.gn c.gc c.sa c.sn c.sc c.ya c.yn c.yc c.oa c.on c.oc c.va c.vn c.vc c.fa c.fn c.fc c.ba c.bn c.bc c.la c.ln c.lc c.ka c.kn c.kc gs x y x' y' l k w hg hl hk (Dy hE hll hkl)
theorem Ge (c:WC) (gs) (pr pw:Value) (b:Lab) (w:World) (hg:AA w (O c.ga c.gn c.gc) gs) (hl:AJ w pr b.r) (hk:AJ w pw b.w) (h2:Bd c.n gs b=0) :
  Calls Tryz.prog 114 #[c.v,zh #[pr,pw]] w fun e w'=>∃ vj,e=zj vj/\AO w w' vj (Av (Ay gs) c.n b)/\Ov w w':=
 JI (c.n:Int) c.ga c.gn c.gc c.sa c.sn c.sc c.ya c.yn c.yc c.oa c.on c.oc c.va c.vn c.vc c.fa c.fn c.fc c.ba c.bn c.bc c.la c.ln c.lc c.ka c.kn c.kc gs pr pw b w hg hl hk h2
theorem Dw {w0:World} {ao:Option Addr} {an ac:Nat} {Ls:List Lev} {i:Nat} (h:Bz w0 (O ao an ac) Ls) (hi:i < Ls.length):∃ b o a1 a2 a3 a4 a5 a6,ao=some ⟨b,o,none⟩/\an=Ls.length/\w0.cell? ⟨b,o+i*2,none⟩=some (O a1 a2 a3)/\w0.cell? ⟨b,o+i*2+1,none⟩=some (O a4 a5 a6)/\AP w0 (zh #[O a1 a2 a3,O a4 a5 a6]) Ls[i]:=by
 obtain ⟨ao',cap,hv,hel⟩:=h
 injection hv with e1 e2 e3
 obtain ⟨b,o,hao,hel⟩:=hel (by rintro rfl;simp at hi)
 obtain ⟨rv,wv,c0,c1,hl⟩:=hel i hi
 obtain ⟨a1,a2,a3,a4,a5,a6,rfl,rfl⟩:=AX hl
 exact ⟨b,o,a1,a2,a3,a4,a5,a6,e1.trans hao,e2,c0,c1,hl⟩
abbrev Mt (bj:Nat) (c:WC) (bl ol:Nat) (W:World) (p1:Option Addr) (q1 r1:Nat) (p2:Option Addr) (q2 r2 i:Nat) (a1:Option Addr) (a2 a3:Nat) (a4:Option Addr) (a5 a6:Nat) (Wz:World):Prop:=Wz.cell? ⟨bj,0,none⟩=some (U zd (c.n:Int))/\CE Wz bj 1 (O c.ga c.gn c.gc)/\CE Wz bj 2 (O c.sa c.sn c.sc)/\CE Wz bj 3 (O c.ya c.yn c.yc)/\CE Wz bj 4 (O c.oa c.on c.oc)/\CE Wz bj 5 (O c.va c.vn c.vc)/\CE Wz bj 6 (O c.fa c.fn c.fc)/\CE Wz bj 7 (O c.ba c.bn c.bc)/\CE Wz bj 8 (O (some ⟨bl,ol,none⟩) c.ln c.lc)/\CE Wz bj 9 (O c.ka c.kn c.kc)/\CE Wz W.heap.size 0 (O p1 q1 r1)/\CE Wz W.heap.size 1 (O p2 q2 r2)/\CE Wz bl (ol+i*2) (O a1 a2 a3)/\CE Wz bl (ol+i*2+1) (O a4 a5 a6)
theorem ES (c) (w0:World) (bj:Nat) (av:Value) (fl) (fv:Value) (gs Ls Fs) (J:JSt c w0 gs Ls Fs) (v:Value) (l) (i:Nat) (W:World) (h:AK c.cs w0 bj av fl fv W) (hl:AP W v l) (hll:l.len c.n) (hi:i < Ls.length) :
  Calls Tryz.prog 150 #[zi (some ⟨bj,0,none⟩),v,U zd (i:Int)] W fun e W'=>e=zj (zg (Ax l Ls[i] c.n))/\Ov W W':=by
 obtain ⟨bl,ol,a1,a2,a3,a4,a5,a6,hla,hln,k0,k1,hk⟩:=Dw J.levs hi
 obtain ⟨p1,q1,r1,p2,q2,r2,rfl⟩:∃ p1 q1 r1 p2 q2 r2,v=zh #[O p1 q1 r1,O p2 q2 r2]:=by
  obtain ⟨x,y,rfl,-⟩:=id hl
  obtain ⟨p1,q1,r1,p2,q2,r2,rfl,rfl⟩:=AX hl
  exact ⟨_,_,_,_,_,_,rfl⟩
 have hb1:Ov W (W.alloc (ze #[O p1 q1 r1,O p2 q2 r2] 50)):=bA W _
 have hJ1:=h.over hb1
 have rowB:=Ad.new [O p1 q1 r1,O p2 q2 r2] 50 W
 have hB1:=hJ1.below
 have hcv:c.v=zh #[U zd (c.n:Int),O c.ga c.gn c.gc,O c.sa c.sn c.sc,O c.ya c.yn c.yc,O c.oa c.on c.oc,O c.va c.vn c.vc,O c.fa c.fn c.fc,O c.ba c.bn c.bc,O (some ⟨bl,ol,none⟩) c.ln c.lc,O c.ka c.kn c.kc]:=by show Value.agg #[U zd (c.n:Int),O c.ga c.gn c.gc,O c.sa c.sn c.sc,O c.ya c.yn c.yc,O c.oa c.on c.oc,O c.va c.vn c.vc,O c.fa c.fn c.fc,O c.ba c.bn c.bc,O c.la c.ln c.lc,O c.ka c.kn c.kc]=_;rw [hla]
 have KF:Hx (∀ (W2:World),Ov (W.alloc (ze #[O p1 q1 r1,O p2 q2 r2] 50)) W2->Calls Tryz.prog 57 #[zh #[U zd (c.n:Int),O c.ga c.gn c.gc,O c.sa c.sn c.sc,O c.ya c.yn c.yc,O c.oa c.on c.oc,O c.va c.vn c.vc,O c.fa c.fn c.fc,O c.ba c.bn c.bc,O (some ⟨bl,ol,none⟩) c.ln c.lc,O c.ka c.kn c.kc],zh #[O p1 q1 r1,O p2 q2 r2],zh #[O a1 a2 a3,O a4 a5 a6]] W2 fun e w'=>e=zj (zg (Ax l Ls[i] c.n))/\Ov W2 w'):=fun W2 hb2=>by
  have:=DB c gs _ _ l Ls[i] W2 (Af J.gr (hB1.trans (hb2.mono hB1.size))) J.chk (Ai (Ai hl hb1) hb2) hll (Ai hk (hB1.trans (hb2.mono hB1.size))) (J.lens _ (List.getElem_mem hi))
  rw [hcv] at this
  exact this
 have hS0:Mt bj c bl ol W p1 q1 r1 p2 q2 r2 i a1 a2 a3 a4 a5 a6 (W.alloc (ze #[O p1 q1 r1,O p2 q2 r2] 50)):=⟨hJ1.cw 0 _ rfl,hJ1.cw 1 _ rfl,hJ1.cw 2 _ rfl,hJ1.cw 3 _ rfl,hJ1.cw 4 _ rfl,hJ1.cw 5 _ rfl,hJ1.cw 6 _ rfl,hJ1.cw 7 _ rfl,by rw [<-hla];exact hJ1.cw 8 _ rfl,hJ1.cw 9 _ rfl,rowB 0 _ rfl,rowB 1 _ rfl,Ab hB1 _ _ k0,Ab hB1 _ _ k1⟩
 have HS:Hx (∀ W2,Ov (W.alloc (ze #[O p1 q1 r1,O p2 q2 r2] 50)) W2->Mt bj c bl ol W p1 q1 r1 p2 q2 r2 i a1 a2 a3 a4 a5 a6 W2):=fun W2 hb2=>by
  obtain ⟨s0,s1,s2,s3,s4,s5,s6,s7,s8,s9,s10,s11,s12,s13⟩:=hS0
  exact ⟨Ab hb2 _ _ s0,Ab hb2 _ _ s1,Ab hb2 _ _ s2,Ab hb2 _ _ s3,Ab hb2 _ _ s4,Ab hb2 _ _ s5,Ab hb2 _ _ s6,Ab hb2 _ _ s7,Ab hb2 _ _ s8,Ab hb2 _ _ s9,Ab hb2 _ _ s10,Ab hb2 _ _ s11,Ab hb2 _ _ s12,Ab hb2 _ _ s13⟩
 have hi1:(i:Int) < (c.ln:Int):=by rw [hln];omega
 have hi2:c.ln<=16:=by rw [hln];exact J.l16
 obtain ⟨t0,t1,t2,t3,t4,t5,t6,t7,t8,t9,t10,t11,t12,t13⟩:=id hS0
 generalize hfb:Ax l Ls[i] c.n=fb at KF ⊢
 clear J h hJ1 hl hll rowB hB1 hk k0 k1 hfb hcv hla hln
 go_enter Tryz.func150,Tryz.ntmps150
 go_wp2_with fail
 refine gS (Mt bj c bl ol W p1 q1 r1 p2 q2 r2 i a1 a2 a3 a4 a5 a6) (hS0) fun hHeld=>?_
 refine kT 0 ?_
 refine kT 1 ?_
 refine kT 2 ?_
 refine kT 3 ?_
 refine kT 4 ?_
 refine kT 5 ?_
 refine kT 6 ?_
 refine kT 7 ?_
 refine kT 8 ?_
 refine kT 9 ?_
 refine kT 10 ?_
 refine kT 11 ?_
 refine kT 12 ?_
 refine kT 13 ?_
 refine rdA 14 rfl fun K hK=>?_
 go_simp
 refine (KF.o _ (bD _)).mono ?_
 rintro e W2 ⟨rfl,hb2⟩
 have hS2:=HS.o W2 (Ac (bD _) hb2)
 go_simp
 refine xK hK (hS2) fun hHeld=>?_
 refine rdA 15 rfl fun K hK=>?_
 go_simp
 refine xK hK (hS2) fun hHeld=>?_
 refine gE ?_
 go_wp2_with fail
 go_ret
 exact ⟨rfl,Ac hb1 (Ac (bD _) hb2)⟩
section
variable {α:Type}
def FH (p:α->Bool) (l:List α):Int:=match l.findIdx? p with | some i=>i | none=>-1
theorem Ie {p:α->Bool} {l:List α} {k:Nat} (hk:k < l.length) (h:(l.take k).all (fun g=>!p g)=true) (hp:p l[k]=true):FH p l=k:=by
 have:l.findIdx? p=some k:=by
  rw [List.findIdx?_eq_some_iff_getElem]
  refine ⟨hk,hp,fun j hj=>?_⟩
  have:=List.all_eq_true.1 h l[j] (List.mem_take_iff_getElem.2 ⟨j,by omega,rfl⟩)
  simpa using this
 simp [FH,this]
theorem Fh {p:α->Bool} {l:List α} (h:l.all (fun g=>!p g)=true):FH p l=-1:=by
 have:l.findIdx? p=none:=by
  rw [List.findIdx?_eq_none_iff]
  intro x hx
  have:=List.all_eq_true.1 h x hx
  simpa using this
 simp [FH,this]
theorem Gq (p:α->Bool) (l:List α):decide (0<=FH p l)=l.any p:=by
 unfold FH
 cases h:l.findIdx? p with
 | none=>
  have:l.any p=false:=by rw [List.any_eq_false];intro x hx;have:=(List.findIdx?_eq_none_iff.1 h) x hx;simpa using this
  rw [this];rfl
 | some i=>
  obtain ⟨hi,hp,_⟩:=List.findIdx?_eq_some_iff_getElem.1 h
  have:l.any p=true:=List.any_eq_true.2 ⟨_,List.getElem_mem hi,hp⟩
  rw [this];simp
end
theorem N0 (F:FuncId) (cap:List Value) (p:Int->Bool) (v:Value) (l) (w:World) (hv:A1 w v l) (hn:l.length<=6)
  (hF:Hx (∀ (i:Nat) (h:i < l.length) (w1:World),Ov w w1->Calls Tryz.prog F (U zd l[i]::cap).toArray w1 fun e w2=>e=zj (zg (p l[i]))/\Ov w1 w2))
  (hC:∀ (args:Array Value) (w:World),(callFunc F args).run Tryz.prog w=.ok (.enter F args) w) :
  Calls Tryz.prog 190 #[v,.func (.func F) #[] cap.toArray] w fun e w'=>e=zj (U zd (FH p l))/\Ov w w':=by
 obtain ⟨ao,cp,rfl,hcc⟩:=hv
 go_enter Tryz.func190,Tryz.ntmps190
 go_wp2_with fail
 go_loopw [8] (fun i wr=>∃ k:Nat,k<=l.length/\i=U zd k/\(l.take k).all (fun g=>!p g)=true/\Ov w wr) (fun i _=>l.length - (intOf i).toNat)
 case atStart=>exact ⟨0,Nat.zero_le _,rfl,rfl,Below.refl _ w⟩
 case round=>
  obtain ⟨k,hk,rfl,hall,hbel⟩:=hrel
  by_cases hkl:k < l.length
  ·obtain ⟨b,off,rfl,hcl⟩:=hcc (by rintro rfl;simp at hkl)
   have q0:=hcl k hkl
   have hlt:=bL q0
   rw [<-(Ak hbel).1 _ _ hlt] at q0
   have hcall:=hF.o k hkl
   have hat:=fun (hp:p l[k]=true)=>Ie hkl hall hp
   have htk:p l[k]=false->(l.take (k+1)).all (fun g=>!p g)=true:=fun hp=>by
    rw [List.take_succ_eq_append_getElem hkl,List.all_append,hall]
    simp [hp]
   obtain ⟨r,hr⟩:=nm (p l[k])
   rw [<-hr] at hcall hat htk
   obtain ⟨g0,hg0⟩:=nm (l[k])
   rw [<-hg0] at q0 hcall
   clear hg0
   have HC:=Aa hcall
   have HA:=Aa hat
   have HT:=Aa htk
   clear hr hcall hat htk hcl hcc hF
   cases r with
   | true=>
    go_wp2_with fail
    refine (HC.o _ hbel).mono ?_
    rintro e w2 ⟨rfl,hb2⟩
    have hbel2:Ov w w2:=hbel.trans (hb2.mono hbel.size)
    go_wp2_with fail
    go_ret
    exact ⟨by rw [HA.o (by first | rfl | trivial)];rfl,hbel2⟩
   | false=>
    go_wp2_with fail
    refine (HC.o _ hbel).mono ?_
    rintro e w2 ⟨rfl,hb2⟩
    have hbel2:Ov w w2:=hbel.trans (hb2.mono hbel.size)
    go_wp2_with fail
    exact ⟨⟨k+1,by omega,by go_num,HT.o (by first | rfl | trivial),hbel2⟩,by simp [intOf];omega⟩
  ·have hke:k=l.length:=by omega
   rw [hke,List.take_length] at hall
   have hx:=Fh hall
   clear hall hcc hF
   go_wp2_with fail
   go_ret
   exact ⟨by rw [hx];rfl,hbel⟩
theorem Gw (F:FuncId) (cap:List Value) (p:Int->Bool) (v:Value) (l) (w:World) (hv:A1 w v l) (hn:l.length<=6)
  (hF:Hx (∀ (i:Nat) (h:i < l.length) (w1:World),Ov w w1->Calls Tryz.prog F (U zd l[i]::cap).toArray w1 fun e w2=>e=zj (zg (p l[i]))/\Ov w1 w2))
  (hC:∀ (args:Array Value) (w:World),(callFunc F args).run Tryz.prog w=.ok (.enter F args) w) :
  Calls Tryz.prog 124 #[v,.func (.func F) #[] cap.toArray] w fun e w'=>e=zj (zg (l.any p))/\Ov w w':=by
 have hI:=N0 F cap p v l w hv hn hF hC
 have hx:=Gq p l
 obtain ⟨r,hr⟩:=nm (FH p l)
 rw [<-hr] at hI hx
 rw [<-hx]
 have HI:=Aa hI
 clear hI hx hr hv hC hF
 go_enter Tryz.func124,Tryz.ntmps124
 go_wp2_with fail
 refine (HI.o).mono ?_
 rintro e w1 ⟨rfl,hb1⟩
 go_wp2_with fail
 go_ret
 exact ⟨by simp,hb1⟩
theorem NZ (F:FuncId) (cap:List Value) (p:Pol->Bool) (v:Value) (l:List Pol) (w:World) (hv:AJ w v l) (hn:l.length<=6)
  (hF:Hx (∀ (i:Nat) (h:i < l.length) (w1:World),Ov w w1->∀ nv,A1 w1 nv l[i].names->Calls Tryz.prog F (zh #[U zd l[i].owner,nv]::cap).toArray w1 fun e w2=>e=zj (zg (p l[i]))/\Ov w1 w2))
  (hC:∀ (args:Array Value) (w:World),(callFunc F args).run Tryz.prog w=.ok (.enter F args) w) :
  Calls Tryz.prog 247 #[v,.func (.func F) #[] cap.toArray] w fun e w'=>e=zj (U zd (FH p l))/\Ov w w':=by
 obtain ⟨ao,cp,rfl,hcc⟩:=hv
 go_enter Tryz.func247,Tryz.ntmps247
 go_wp2_with fail
 go_loopw [8] (fun i wr=>∃ k:Nat,k<=l.length/\i=U zd k/\(l.take k).all (fun g=>!p g)=true/\Ov w wr) (fun i _=>l.length - (intOf i).toNat)
 case atStart=>exact ⟨0,Nat.zero_le _,rfl,rfl,Below.refl _ w⟩
 case round=>
  obtain ⟨k,hk,rfl,hall,hbel⟩:=hrel
  by_cases hkl:k < l.length
  ·obtain ⟨b,off,rfl,hcl⟩:=hcc (by rintro rfl;simp at hkl)
   obtain ⟨q0,nv,q1,hnv⟩:=hcl k hkl
   obtain ⟨q0,q1⟩:=co2 hbel q0 q1
   obtain ⟨n1,n2,hnf,-⟩:=id hnv
   subst hnf
   have hcall:=fun (w1:World) (hb:Ov w w1)=>hF.o k hkl w1 hb _ (BI hnv hb)
   have hat:=fun (hp:p l[k]=true)=>Ie hkl hall hp
   have htk:p l[k]=false->(l.take (k+1)).all (fun g=>!p g)=true:=fun hp=>by
    rw [List.take_succ_eq_append_getElem hkl,List.all_append,hall]
    simp [hp]
   obtain ⟨r,hr⟩:=nm (p l[k])
   rw [<-hr] at hcall hat htk
   obtain ⟨g0,hg0⟩:=nm (l[k].owner)
   rw [<-hg0] at q0 hcall
   clear hg0
   have HC:=Aa hcall
   have HA:=Aa hat
   have HT:=Aa htk
   clear hr hcall hat htk hcl hcc hF
   cases r with
   | true=>
    go_wp2_with fail
    refine (HC.o _ hbel).mono ?_
    rintro e w2 ⟨rfl,hb2⟩
    have hbel2:Ov w w2:=hbel.trans (hb2.mono hbel.size)
    go_wp2_with fail
    go_ret
    exact ⟨by rw [HA.o (by first | rfl | trivial)];rfl,hbel2⟩
   | false=>
    go_wp2_with fail
    refine (HC.o _ hbel).mono ?_
    rintro e w2 ⟨rfl,hb2⟩
    have hbel2:Ov w w2:=hbel.trans (hb2.mono hbel.size)
    go_wp2_with fail
    exact ⟨⟨k+1,by omega,by go_num,HT.o (by first | rfl | trivial),hbel2⟩,by simp [intOf];omega⟩
  ·have hke:k=l.length:=by omega
   rw [hke,List.take_length] at hall
   have hx:=Fh hall
   clear hall hcc hF
   go_wp2_with fail
   go_ret
   exact ⟨by rw [hx];rfl,hbel⟩
theorem J0 (F:FuncId) (cap:List Value) (p:Pol->Bool) (v:Value) (l:List Pol) (w:World) (hv:AJ w v l) (hn:l.length<=6)
  (hF:Hx (∀ (i:Nat) (h:i < l.length) (w1:World),Ov w w1->∀ nv,A1 w1 nv l[i].names->Calls Tryz.prog F (zh #[U zd l[i].owner,nv]::cap).toArray w1 fun e w2=>e=zj (zg (p l[i]))/\Ov w1 w2))
  (hC:∀ (args:Array Value) (w:World),(callFunc F args).run Tryz.prog w=.ok (.enter F args) w) :
  Calls Tryz.prog 235 #[v,.func (.func F) #[] cap.toArray] w fun e w'=>e=zj (zg (l.any p))/\Ov w w':=by
 have hI:=NZ F cap p v l w hv hn hF hC
 have hx:=Gq p l
 obtain ⟨r,hr⟩:=nm (FH p l)
 rw [<-hr] at hI hx
 rw [<-hx]
 have HI:=Aa hI
 clear hI hx hr hv hC hF
 go_enter Tryz.func235,Tryz.ntmps235
 go_wp2_with fail
 refine (HI.o).mono ?_
 rintro e w1 ⟨rfl,hb1⟩
 go_wp2_with fail
 go_ret
 exact ⟨by simp,hb1⟩
def DM (gn:List (Nat × Nat)) (n i j:Nat):Bool:=(acts gn n i)[j]?.getD false
structure JAc (c:WC) (w0:World) (av:Value) (gn:List (Nat × Nat)) (sp:List Int):Prop where
 acts:∃ ob,av=O (some ⟨ob,0,none⟩) c.n c.n/\CK w0 ob c.n gn c.n
 speak:A1 w0 (O c.sa c.sn c.sc) sp
 s6:sp.length<=6
 sIn:∀ x∈sp,0<=x/\x < (c.n:Int)
abbrev O7 (bx bj bw who ob:Nat) (c:WC) (kb other:Nat) (r:Bool) (Wz:World):Prop:=Wz.cell? ⟨bx,0,none⟩=some (zi (some ⟨bj,0,none⟩))/\CE Wz bw 0 (U zd (who:Int))/\CE Wz bj 10 (O (some ⟨ob,0,none⟩) c.n c.n)/\CE Wz ob who (O (some ⟨kb,0,none⟩) c.n c.n)/\CE Wz kb other (zg r)
theorem RF (c) (w0:World) (bj:Nat) (av:Value) (fl) (fv:Value) (gn:List (Nat × Nat)) (sp) (A:JAc c w0 av gn sp) (bx bw who other:Nat) (W:World) (h:AK c.cs w0 bj av fl fv W) (n6:c.n<=6) (hx:W.cell? ⟨bx,0,none⟩=some (zi (some ⟨bj,0,none⟩))) (hw:W.cell? ⟨bw,0,none⟩=some (U zd (who:Int))) (h1:who < c.n) (h2:other < c.n) :
  Calls Tryz.prog 238 #[U zd (other:Int),zi (some ⟨bx,0,none⟩),zi (some ⟨bw,0,none⟩)] W fun e W'=>e=zj (zg (DM gn c.n who other))/\Ov W W':=by
 obtain ⟨ob,rfl,hR⟩:=A.acts
 obtain ⟨kb,-,k0,hK⟩:=hR who h1
 have k1:=(hK other (by rw [BJ];exact h2)).1
 have hr:(acts gn c.n who)[other]'(by rw [BJ];exact h2)=DM gn c.n who other:=by unfold DM;rw [List.getElem?_eq_getElem (by rw [BJ];exact h2)];rfl
 rw [hr] at k1
 generalize DM gn c.n who other=r at k1 ⊢
 have hS0:O7 bx bj bw who ob c kb other r W:=⟨hx,hw,h.c10,Ab h.below _ _ k0,Ab h.below _ _ k1⟩
 obtain ⟨s0,s1,s2,s3,s4⟩:=id hS0
 have g1:(who:Int) < (c.n:Int):=by omega
 have g2:(other:Int) < (c.n:Int):=by omega
 clear h A hR hK k0 k1 hr hx hw
 go_enter Tryz.func238,Tryz.ntmps238
 go_wp2_with fail
 refine gS (O7 bx bj bw who ob c kb other r) (hS0) fun hHeld=>?_
 refine kT 0 ?_
 refine kT 1 ?_
 refine kT 2 ?_
 refine kT 3 ?_
 refine kT 4 ?_
 refine kT 5 ?_
 refine kT 6 ?_
 refine kT 7 ?_
 refine kT 8 ?_
 refine kT 9 ?_
 refine kT 10 ?_
 refine gE ?_
 go_wp2_with fail
 go_ret
 exact ⟨rfl,(bD _)⟩
theorem LY (args:Array Value) (w:World):(callFunc 238 args).run Tryz.prog w=.ok (.enter 238 args) w:=by simp [go_sem]
abbrev O6 (bx bj bw other ob:Nat) (c:WC) (who kb:Nat) (r:Bool) (Wz:World):Prop:=Wz.cell? ⟨bx,0,none⟩=some (zi (some ⟨bj,0,none⟩))/\CE Wz bw 0 (U zd (other:Int))/\CE Wz bj 10 (O (some ⟨ob,0,none⟩) c.n c.n)/\CE Wz ob who (O (some ⟨kb,0,none⟩) c.n c.n)/\CE Wz kb other (zg r)
theorem P9 (c) (w0:World) (bj:Nat) (av:Value) (fl) (fv:Value) (gn:List (Nat × Nat)) (sp) (A:JAc c w0 av gn sp) (bx bw who other:Nat) (W:World) (h:AK c.cs w0 bj av fl fv W) (n6:c.n<=6) (hx:W.cell? ⟨bx,0,none⟩=some (zi (some ⟨bj,0,none⟩))) (hw:W.cell? ⟨bw,0,none⟩=some (U zd (other:Int))) (h1:who < c.n) (h2:other < c.n) :
  Calls Tryz.prog 237 #[U zd (who:Int),zi (some ⟨bx,0,none⟩),zi (some ⟨bw,0,none⟩)] W fun e W'=>e=zj (zg (DM gn c.n who other))/\Ov W W':=by
 obtain ⟨ob,rfl,hR⟩:=A.acts
 obtain ⟨kb,-,k0,hK⟩:=hR who h1
 have k1:=(hK other (by rw [BJ];exact h2)).1
 have hr:(acts gn c.n who)[other]'(by rw [BJ];exact h2)=DM gn c.n who other:=by unfold DM;rw [List.getElem?_eq_getElem (by rw [BJ];exact h2)];rfl
 rw [hr] at k1
 generalize DM gn c.n who other=r at k1 ⊢
 have hS0:O6 bx bj bw other ob c who kb r W:=⟨hx,hw,h.c10,Ab h.below _ _ k0,Ab h.below _ _ k1⟩
 obtain ⟨s0,s1,s2,s3,s4⟩:=id hS0
 have g1:(who:Int) < (c.n:Int):=by omega
 have g2:(other:Int) < (c.n:Int):=by omega
 clear h A hR hK k0 k1 hr hx hw
 go_enter Tryz.func237,Tryz.ntmps237
 go_wp2_with fail
 refine gS (O6 bx bj bw other ob c who kb r) (hS0) fun hHeld=>?_
 refine kT 0 ?_
 refine kT 1 ?_
 refine kT 2 ?_
 refine kT 3 ?_
 refine kT 4 ?_
 refine kT 5 ?_
 refine kT 6 ?_
 refine kT 7 ?_
 refine kT 8 ?_
 refine kT 9 ?_
 refine kT 10 ?_
 refine kT 11 ?_
 refine gE ?_
 go_wp2_with fail
 go_ret
 exact ⟨rfl,(bD _)⟩
theorem Jk (args:Array Value) (w:World):(callFunc 237 args).run Tryz.prog w=.ok (.enter 237 args) w:=by simp [go_sem]
def Je (gn:List (Nat × Nat)) (n:Nat) (sp:List Int) (who:Nat):Bool:=sp.any fun x=>DM gn n who x.toNat
def EU (gn:List (Nat × Nat)) (n:Nat) (sp:List Int) (o:Nat):Bool:=!(sp.any fun x=>DM gn n x.toNat o)
theorem Qk (c) (w0:World) (bj:Nat) (av:Value) (fl) (fv:Value) (gn:List (Nat × Nat)) (sp) (A:JAc c w0 av gn sp) (who:Nat) (W:World) (h:AK c.cs w0 bj av fl fv W) (n6:c.n<=6) (h1:who < c.n) :
  Calls Tryz.prog 206 #[zi (some ⟨bj,0,none⟩),U zd (who:Int)] W fun e W'=>e=zj (zg (Je gn c.n sp who))/\Ov W W':=by
 have hb:Ov W ((W.alloc (ze #[zi (some ⟨bj,0,none⟩)] 161)).alloc (ze #[U zd (who:Int)] 3)):=(bA W _).alloc (by simp) _
 have hJ:=h.over hb
 have e0:=FL W [zi (some ⟨bj,0,none⟩)] 161 (ze #[U zd (who:Int)] 3) 0 _ rfl
 have e1:=GE W (ze #[zi (some ⟨bj,0,none⟩)] 161) [U zd (who:Int)] 3 0 _ rfl
 have t2:=hJ.cw 2 _ rfl
 have K:=Aa (Gw 238 [zi (some ⟨W.heap.size,0,none⟩),zi (some ⟨W.heap.size+1,0,none⟩)] (fun x=>DM gn c.n who x.toNat) (O c.sa c.sn c.sc) sp _ (BI A.speak hJ.below) A.s6
  (Aa fun i hi w1 hb1=>by
   obtain ⟨x0,x1⟩:=A.sIn _ (List.getElem_mem hi)
   have:=RF c w0 bj av fl fv gn sp A W.heap.size (W.heap.size+1) who (sp[i].toNat) w1 (hJ.over hb1) n6 (Ab hb1 _ _ e0) (Ab hb1 _ _ e1) h1 (by omega)
   rwa [Int.toNat_of_nonneg x0] at this) LY)
 have hfs:(sp.any fun x=>DM gn c.n who x.toNat)=Je gn c.n sp who:=rfl
 rw [hfs] at K
 clear hJ h A hfs
 go_enter Tryz.func206,Tryz.ntmps206
 go_wp2_with fail
 refine (K.o).mono ?_
 rintro e w1 ⟨rfl,hb1⟩
 go_wp2_with fail
 go_ret
 exact ⟨rfl,Ac hb hb1⟩
theorem Q5 (c) (w0:World) (bj:Nat) (av:Value) (fl) (fv:Value) (gn:List (Nat × Nat)) (sp) (A:JAc c w0 av gn sp) (bx:Nat) (o:Nat) (na nn nc) (W:World) (h:AK c.cs w0 bj av fl fv W) (n6:c.n<=6) (hx:W.cell? ⟨bx,0,none⟩=some (zi (some ⟨bj,0,none⟩))) (h1:o < c.n) :
  Calls Tryz.prog 236 #[zh #[U zd (o:Int),O na nn nc],zi (some ⟨bx,0,none⟩)] W fun e W'=>e=zj (zg (EU gn c.n sp o))/\Ov W W':=by
 have hb:Ov W (W.alloc (ze #[U zd (o:Int),O na nn nc] 87)):=bA W _
 have hJ:=h.over hb
 have e0:=Ab hb _ _ hx
 have e1:=BR W [U zd (o:Int),O na nn nc] 87 0 _ rfl
 have t2:=hJ.cw 2 _ rfl
 have K:=Aa (Gw 237 [zi (some ⟨bx,0,none⟩),zi (some ⟨W.heap.size,0,none⟩)] (fun x=>DM gn c.n x.toNat o) (O c.sa c.sn c.sc) sp _ (BI A.speak hJ.below) A.s6
  (Aa fun i hi w1 hb1=>by
   obtain ⟨x0,x1⟩:=A.sIn _ (List.getElem_mem hi)
   have:=P9 c w0 bj av fl fv gn sp A bx W.heap.size (sp[i].toNat) o w1 (hJ.over hb1) n6 (Ab hb1 _ _ e0) (Ab hb1 _ _ e1) (by omega) h1
   rwa [Int.toNat_of_nonneg x0] at this) Jk)
 have hfs:(!(sp.any fun x=>DM gn c.n x.toNat o))=EU gn c.n sp o:=rfl
 rw [<-hfs]
 generalize (sp.any fun x=>DM gn c.n x.toNat o)=r at K ⊢
 clear hJ h A hfs hx
 go_enter Tryz.func236,Tryz.ntmps236
 go_wp2_with fail
 refine (K.o).mono ?_
 rintro e w1 ⟨rfl,hb1⟩
 go_wp2_with fail
 go_ret
 exact ⟨rfl,Ac hb hb1⟩
theorem J9 (args:Array Value) (w:World):(callFunc 236 args).run Tryz.prog w=.ok (.enter 236 args) w:=by simp [go_sem]
theorem Pe (c) (w0:World) (bj:Nat) (av:Value) (fl) (fv:Value) (gn:List (Nat × Nat)) (sp) (A:JAc c w0 av gn sp) (v:Value) (ps:List Pol) (W:World) (h:AK c.cs w0 bj av fl fv W) (n6:c.n<=6) (hp:AJ W v ps) (hp6:ps.length<=6) (hin:∀ q∈ps,0<=q.owner/\q.owner < (c.n:Int)) :
  Calls Tryz.prog 202 #[zi (some ⟨bj,0,none⟩),v] W fun e W'=>e=zj (zg (ps.any fun q=>EU gn c.n sp q.owner.toNat))/\Ov W W':=by
 have hb:Ov W (W.alloc (ze #[zi (some ⟨bj,0,none⟩)] 161)):=bA W _
 have hJ:=h.over hb
 have e0:=BR W [zi (some ⟨bj,0,none⟩)] 161 0 _ rfl
 have K:=Aa (J0 236 [zi (some ⟨W.heap.size,0,none⟩)] (fun q=>EU gn c.n sp q.owner.toNat) v ps _ (Aj hp hb) hp6
  (Aa fun i hi w1 hb1 nv hnv=>by
   obtain ⟨x0,x1⟩:=hin _ (List.getElem_mem hi)
   obtain ⟨n1,n2,rfl,-⟩:=hnv
   have:=Q5 c w0 bj av fl fv gn sp A W.heap.size (ps[i].owner.toNat) n1 ps[i].names.length n2 w1 (hJ.over hb1) n6 (Ab hb1 _ _ e0) (by omega)
   rwa [Int.toNat_of_nonneg x0] at this) J9)
 obtain ⟨pa,pn,pc,rfl⟩:∃ a n c,v=O a n c:=by obtain ⟨a,c,e,-⟩:=hp;exact ⟨_,_,_,e⟩
 generalize (ps.any fun q=>EU gn c.n sp q.owner.toNat)=r at K ⊢
 clear hJ h A hp hin
 go_enter Tryz.func202,Tryz.ntmps202
 go_wp2_with fail
 refine (K.o).mono ?_
 rintro e w1 ⟨rfl,hb1⟩
 go_wp2_with fail
 go_ret
 exact ⟨rfl,Ac hb hb1⟩
theorem Fa (c:WC) (w0:World) (bj:Nat) (av:Value) (fl) (fv:Value) (F:FuncId) (cap:List Value) (p:Nat->Bool) (W:World) (h:AK c.cs w0 bj av fl fv W) (n6:c.n<=6)
  (hF:Hx (∀ (i:Nat),i < c.n->∀ (w1:World),Ov W w1->Calls Tryz.prog F (U zd (i:Int)::cap).toArray w1 fun e w2=>e=zj (zg (p i))/\Ov w1 w2))
  (hC:∀ (args:Array Value) (w:World),(callFunc F args).run Tryz.prog w=.ok (.enter F args) w) :
  Calls Tryz.prog 203 #[zi (some ⟨bj,0,none⟩),.func (.func F) #[] cap.toArray] W fun e W'=>e=zj (zg ((List.range c.n).any p))/\Ov W W':=by
 have t0:=h.cw 0 _ rfl
 clear h
 go_enter Tryz.func203,Tryz.ntmps203
 go_wp2_with fail
 go_loopw [13] (fun i wr=>∃ k:Nat,k<=c.n/\i=U zd k/\(∀ j,j < k->p j=false)/\Ov W wr) (fun i _=>c.n - (intOf i).toNat)
 case atStart=>exact ⟨0,Nat.zero_le _,rfl,fun j hj=>absurd hj (by omega),Below.refl _ W⟩
 case round=>
  obtain ⟨k,hk,rfl,hall,hbel⟩:=hrel
  by_cases hkl:k < c.n
  ·have hcall:=hF.o k hkl
   have hat:p k=true->(List.range c.n).any p=true:=fun hp=>List.any_eq_true.2 ⟨k,List.mem_range.2 hkl,hp⟩
   have htk:p k=false->∀ j,j < k+1->p j=false:=fun hp j hj=>by
    by_cases hjk:j=k
    ·rw [hjk];exact hp
    ·exact hall j (by omega)
   generalize p k=r at hcall hat htk
   have HC:=Aa hcall
   have HA:=Aa hat
   have HT:=Aa htk
   clear hcall hat htk hF hall
   have hk2:(k:Int) < (c.n:Int):=by omega
   cases r with
   | true=>
    go_wp2_with fail
    refine (HC.o _ hbel).mono ?_
    rintro e w2 ⟨rfl,hb2⟩
    have hbel2:Ov W w2:=hbel.trans (hb2.mono hbel.size)
    go_wp2_with fail
    go_ret
    exact ⟨by rw [HA.o (by first | rfl | trivial)];rfl,hbel2⟩
   | false=>
    go_wp2_with fail
    refine (HC.o _ hbel).mono ?_
    rintro e w2 ⟨rfl,hb2⟩
    have hbel2:Ov W w2:=hbel.trans (hb2.mono hbel.size)
    go_wp2_with fail
    exact ⟨⟨k+1,by omega,by go_num,HT.o (by first | rfl | trivial),hbel2⟩,by simp [intOf];omega⟩
  ·have hx:(List.range c.n).any p=false:=by
    rw [List.any_eq_false]
    intro j hj
    rw [hall j (by have:=List.mem_range.1 hj;omega)]
    simp
   clear hall hF
   go_wp2_with fail
   go_ret
   exact ⟨by rw [hx];rfl,hbel⟩
section
variable {c:WC} {w0 W W':World} {bj:Nat} {av:Value} {fl:List (Int × Int)} {fv:Value} {gs:List (Int × Int)} {Ls Fs:List Lev}
theorem AK.xold (h:AK c.cs w0 bj av fl fv W) {k:Nat} (hk:k < w0.heap.size):¬ XJ bj W k:=fun e=>by have:=(h.xlt k e).1;omega
theorem Gg {n:Nat} (h1:1<=n) (h:AK c.cs w0 bj av fl fv W) {v:Value} {l:Lev} (hl:AP w0 v l) (hll:l.len n):Au n (XJ bj) W v l:=by
 have lt:∀ (v:Value) (l:List Bool),AE w0 v l->l.length=n->∀ a m c,v=O (some a) m c->a.block < w0.heap.size:=by
  intro v l hb hl a m c e
  obtain ⟨ao,cap,hv,hel⟩:=hb
  obtain ⟨b,off,hao,hel⟩:=hel (by rintro rfl;simp at hl;omega)
  rw [hv,hao] at e
  injection e with e1
  injection e1 with e1
  rw [<-e1]
  exact bL (hel 0 (by omega))
 obtain ⟨x,y,hv,bx,by'⟩:=id hl
 exact ⟨Ai hl h.below,hll,x,y,hv,fun a m c e=>h.xold (lt _ _ bx hll.1 a m c e),fun a m c e=>h.xold (lt _ _ by' hll.2 a m c e)⟩
theorem Fg {n:Nat} (h1:1<=n) (h:AK c.cs w0 bj av fl fv W) {v:Value} {Ls:List Lev} (hl:Bz w0 v Ls) (hll:∀ x∈Ls,x.len n):AZ n (XJ bj) W v Ls:=by
 obtain ⟨ao,cap,hv,hel⟩:=hl
 refine ⟨ao,cap,hv,fun hne=>?_⟩
 obtain ⟨b,off,hao,hel⟩:=hel hne
 refine ⟨b,off,hao,fun i hi=>?_⟩
 obtain ⟨rv,wv,c0,c1,hl⟩:=hel i hi
 exact ⟨rv,wv,Ab h.below _ _ c0,Ab h.below _ _ c1,Gg h1 h hl (hll _ (List.getElem_mem hi))⟩
theorem Rb (J:JSt c w0 gs Ls Fs) (fs:List FnD) (hF:Fs.length=fs.length):EL c w0 Ls.length fs gs (fun _:List (Int × Int)=>Ls) (fun _=>Fs) (fun fl W=>∃ fv,AK c.cs w0 bj av fl fv W) (XJ bj) where
 n1:=J.n1
 n6:=J.n6
 gr:=J.gr
 chk:=J.chk
 nv16:=J.l16
 below:=fun _ _ ⟨_,h⟩=>h.below
 levs:=fun _ _ ⟨_,h⟩=>⟨Fg J.n1 h J.levs J.lens,rfl⟩
 flevs:=fun _ _ ⟨_,h⟩=>⟨Fg J.n1 h J.flevs J.flens,hF⟩
 over:=fun _ _ _ ⟨fv,h⟩ hb=>⟨fv,h.over hb⟩
 xok:=Al bj
 xlt:=fun _ _ ⟨_,h⟩ k hk=>(h.xlt k hk).2
theorem Iy (J:JSt c w0 gs Ls Fs) (h:AK c.cs w0 bj av fl fv W) (v:Value) (l) (K:Nat) (cs:List Value) (d) (hl:Au c.n (XJ bj) W v l) (hx:RX w0 K cs d) (hv:∀ x∈AG K d,0<=x/\x < (Ls.length:Int)) :
  Calls Tryz.prog 103 #[c.v,v,.agg cs.toArray] W fun e w'=>
   (∃ p1 q1 r1 p2 q2 r2,e=zj (zh #[O p1 q1 r1,O p2 q2 r2])/\Au c.n (XJ bj) w' (zh #[O p1 q1 r1,O p2 q2 r2]) (A4 c.n Ls l (AG K d)))/\Ov W w':=
 C0 c J.n1 J.n6 gs Ls (XJ bj) (Al bj) v l K cs d W (Af J.gr h.below) J.chk (Fg J.n1 h J.levs J.lens) hl J.l16 (fun k hk=>(h.xlt k hk).2) (hx.over h.below) hv
end
structure D4 (bj s:Nat) (a:Int) (st lv:List Value) (W:World):Prop where
 j:W.cell? ⟨s,0,none⟩=some (zi (some ⟨bj,0,none⟩))
 a:W.cell? ⟨s+1,0,none⟩=some (U zd a)
 st:Ad st W (s+1+1)
 lv:Ad lv W (s+1+1+1)
 x:∀ i,s<=i->i<=s+3->¬ XJ bj W i
 lt:s+3 < W.heap.size
theorem D4.keep {bj s:Nat} {a:Int} {st lv:List Value} {W W':World} (h:D4 bj s a st lv W) (hf:FrW (XJ bj) W W'):D4 bj s a st lv W':=
 ⟨hf.cell h.j (h.x s (Nat.le_refl _) (by omega)),hf.cell h.a (h.x _ (by omega) (by omega)),hf.row h.st (h.x _ (by omega) (by omega)),hf.row h.lv (h.x _ (by omega) (by omega)),fun i h0 h1 e=>h.x i h0 h1 (hf.mov i (by have:=h.lt;omega) e),Nat.lt_of_lt_of_le h.lt hf.size⟩
theorem C6 (bj:Nat) (a:Int) (st lv:List Value) (W:World) (hx:∀ k,XJ bj W k->k < W.heap.size) :
  D4 bj W.heap.size a st lv ((((W.alloc (ze #[zi (some ⟨bj,0,none⟩)] 161)).alloc (ze #[U zd a] 3)).alloc (.cells st.toArray 130)).alloc (.cells lv.toArray 50)) /\
  Ov W ((((W.alloc (ze #[zi (some ⟨bj,0,none⟩)] 161)).alloc (ze #[U zd a] 3)).alloc (.cells st.toArray 130)).alloc (.cells lv.toArray 50)):=by
 have hb:Ov W ((((W.alloc (ze #[zi (some ⟨bj,0,none⟩)] 161)).alloc (ze #[U zd a] 3)).alloc (.cells st.toArray 130)).alloc (.cells lv.toArray 50)):=(((bA W _).alloc (by simp) _).alloc (by simp <;> omega) _).alloc (by simp <;> omega) _
 refine ⟨⟨by simp [go_sem],by simp [go_sem],?_,?_,fun i h0 h1 e=>?_,by simp <;> omega⟩,hb⟩
 ·have r:=(Ad.new st 130 ((W.alloc (ze #[zi (some ⟨bj,0,none⟩)] 161)).alloc (ze #[U zd a] 3))).over (bA _ (.cells lv.toArray 50))
  simpa using r
 ·have r:=Ad.new lv 50 (((W.alloc (ze #[zi (some ⟨bj,0,none⟩)] 161)).alloc (ze #[U zd a] 3)).alloc (.cells st.toArray 130))
  simpa using r
 ·have:=hx i ((Al bj).below _ _ hb i e)
  omega
abbrev O5 (W:World) (bj:Nat) (c:WC) (vr ek en:Int) (xa:Option Addr) (xl xc:Nat) (p1:Option Addr) (q1 r1:Nat) (p2:Option Addr) (q2 r2:Nat) (Wz:World):Prop:=Wz.cell? ⟨W.heap.size,0,none⟩=some (zi (some ⟨bj,0,none⟩))/\CE Wz bj 0 (U zd (c.n:Int))/\CE Wz bj 1 (O c.ga c.gn c.gc)/\CE Wz bj 2 (O c.sa c.sn c.sc)/\CE Wz bj 3 (O c.ya c.yn c.yc)/\CE Wz bj 4 (O c.oa c.on c.oc)/\CE Wz bj 5 (O c.va c.vn c.vc)/\CE Wz bj 6 (O c.fa c.fn c.fc)/\CE Wz bj 7 (O c.ba c.bn c.bc)/\CE Wz bj 8 (O c.la c.ln c.lc)/\CE Wz bj 9 (O c.ka c.kn c.kc)/\CE Wz (W.heap.size+1+1) 1 (U zd vr)/\CE Wz (W.heap.size+1+1) 3 (U zd ek)/\CE Wz (W.heap.size+1+1) 4 (U zd en)/\CE Wz (W.heap.size+1+1) 5 (O xa xl xc)/\CE Wz (W.heap.size+1+1+1) 0 (O p1 q1 r1)/\CE Wz (W.heap.size+1+1+1) 1 (O p2 q2 r2)
theorem PH (c) (w0:World) (bj:Nat) (av:Value) (gs Ls Fs) (J:JSt c w0 gs Ls Fs) (sp) (A:JAc c w0 av (Ay gs) sp) (K ni no:Nat) (fs vs) (hvs:Bk w0 (O c.va c.vn c.vc) vs) (hvn:vs.length=Ls.length) (hvc:∀ v∈vs,Bd c.n gs v.2=0) (ls) (hls:AY w0 (O c.ya c.yn c.yc) ls) (hlc:∀ b∈ls,Bd c.n gs b=0) (hni:ls.length=ni) (hni5:ni<=5) (os) (hos:AY w0 (O c.oa c.on c.oc) os) (hoc:∀ b∈os,Bd c.n gs b=0) (hno:os.length=no) (hno5:no<=5)
  (fl:List (Int × Int)) (hfl:fl.length<=900) (fv:Value) (W:World) (a:Int) (k:Nat) (cs:List Value) (d:D) (v:Value) (p:Lev) (funcs:Int) (h:AK c.cs w0 bj av fl fv W) (hrs:RS w0 K (k+1) cs d) (hok:Ct K Ls.length ni no funcs fs d) (hl:Au c.n (XJ bj) W v p) (hk:Ag d=1) :
  Calls Tryz.prog 88 #[zi (some ⟨bj,0,none⟩),U zd a,.agg cs.toArray,v] W fun e W'=>e=zj (zk #[])/\(∃ fv',AK c.cs w0 bj av (addF a 1 fl (!Ax (A4 c.n Ls p (AG K (Aw d))) (Ls.getD (Ar d).toNat AF) c.n)) fv' W')/\FrW (XJ bj) W W':=by
 obtain ⟨p1,q1,r1,p2,q2,r2,rfl⟩:=hl.form
 obtain ⟨ek,en,xa,xl,xc,aa,ac,ta,tc,ea,ec,rfl,i0,i1,i2,hX,hA,hT,hE,-,-,-⟩:=hrs.form
 have hkd:sC (Ag d) (Ar d) (Ae d) ek en xa xl xc aa (Ah d).length ac ta (Am d).length tc ea (An d).length ec=sC 1 (Ar d) (Ae d) ek en xa xl xc aa (Ah d).length ac ta (Am d).length tc ea (An d).length ec:=by rw [hk]
 rw [hkd]
 clear hkd
 have hv2:=hok.2.1 (by omega)
 obtain ⟨jv,hjv⟩:∃ j:Nat,Ar d=(j:Int):=⟨(Ar d).toNat,by omega⟩
 have hjl:jv < Ls.length:=by omega
 have hgd:Ls.getD (Ar d).toNat AF=Ls[jv]:=by rw [hjv];simp [List.getD_eq_getElem?_getD,hjl]
 rw [hgd]
 obtain ⟨vr,hvr⟩:=nm (Ar d)
 obtain ⟨ot,hot⟩:=nm (Ae d)
 obtain ⟨al,hal⟩:=nm ((Ah d).length)
 obtain ⟨tl,htl⟩:=nm ((Am d).length)
 obtain ⟨el,hel⟩:=nm ((An d).length)
 rw [<-hvr,<-hot,<-hal,<-htl,<-hel]
 obtain ⟨hbox,hb⟩:=C6 bj a [U zd 1,U zd vr,U zd ot,U zd ek,U zd en,O xa xl xc,O aa al ac,O ta tl tc,O ea el ec] [O p1 q1 r1,O p2 q2 r2] W (fun k hk=>(h.xlt k hk).2)
 have hF1:=FrW.of_below (Al bj) hb
 have hFD:=hF1.trans (FrW.of_below (Al bj) (bD _))
 have HF1:=Aa hF1
 have HJ1:=Aa (h.over hb)
 have HBX1:=Aa hbox
 have HL1:=Aa (hl.keep J.n1 hF1)
 have HJD:=Aa (HJ1.o.over (bD _))
 have HBXD:=Aa (hbox.keep (FrW.of_below (Al bj) (bD _)))
 have HLD:=Aa (hl.keep J.n1 hFD)
 have HFD:=Aa hFD
 have KW:=Aa (fun (W2:World) (h2:AK c.cs w0 bj av fl fv W2) (hl2:Au c.n (XJ bj) W2 (zh #[O p1 q1 r1,O p2 q2 r2]) p)=>Iy J h2 _ p K [U zd ek,U zd en,O xa xl xc] (Aw d) hl2 hX (Ba hok))
 obtain ⟨r,hr⟩:=nm (Ax (A4 c.n Ls p (AG K (Aw d))) Ls[jv] c.n)
 have KR:Hx (∀ (W2:World),AK c.cs w0 bj av fl fv W2->∀ (x:Value),Au c.n (XJ bj) W2 x (A4 c.n Ls p (AG K (Aw d)))->Calls Tryz.prog 150 #[zi (some ⟨bj,0,none⟩),x,U zd vr] W2 fun e W'=>e=zj (zg r)/\Ov W2 W'):=fun W2 h2 x hx=>by
  rw [hr,hvr,hjv]
  exact ES c w0 bj av fl fv gs Ls Fs J x _ jv W2 h2 hx.at_ hx.len hjl
 rw [<-hr]
 have KB:=Aa (fun (W2:World) (h2:AK c.cs w0 bj av fl fv W2) (hb2:D4 bj W.heap.size a [U zd 1,U zd vr,U zd ot,U zd ek,U zd en,O xa xl xc,O aa al ac,O ta tl tc,O ea el ec] [O p1 q1 r1,O p2 q2 r2] W2) (is:Bool)=>Fp c.cs w0 bj av fl fv a 1 is W.heap.size (W.heap.size+1) W2 h2 hb2.j hb2.a (hb2.x _ (Nat.le_refl _) (by omega)) (hb2.x _ (by omega) (by omega)) (by omega))
 have HS:Hx (∀ (W2:World) (fl2:List (Int × Int)) (fv2:Value),AK c.cs w0 bj av fl2 fv2 W2->D4 bj W.heap.size a [U zd 1,U zd vr,U zd ot,U zd ek,U zd en,O xa xl xc,O aa al ac,O ta tl tc,O ea el ec] [O p1 q1 r1,O p2 q2 r2] W2->O5 W bj c vr ek en xa xl xc p1 q1 r1 p2 q2 r2 W2):=fun W2 fl2 fv2 h2 hb2=>⟨hb2.j,h2.cw 0 _ rfl,h2.cw 1 _ rfl,h2.cw 2 _ rfl,h2.cw 3 _ rfl,h2.cw 4 _ rfl,h2.cw 5 _ rfl,h2.cw 6 _ rfl,h2.cw 7 _ rfl,h2.cw 8 _ rfl,h2.cw 9 _ rfl,hb2.st 1 _ rfl,hb2.st 3 _ rfl,hb2.st 4 _ rfl,hb2.st 5 _ rfl,hb2.lv 0 _ rfl,hb2.lv 1 _ rfl⟩
 have HSD:=Aa (HS.o _ _ _ HJD.o HBXD.o)
 obtain ⟨t0,t1,t2,t3,t4,t5,t6,t7,t8,t9,t10,t11,t12,t13,t14,t15,t16⟩:=HS.o _ _ _ HJ1.o HBX1.o
 have g0:=hbox.st 0 _ rfl
 clear hr hgd hjv hv2 hvr hot hal htl hel hbox hb hF1 hFD h hl hrs hX hA hT hE hok J A hvs hvc hls hlc hos hoc hfl hk i0 i1 i2 hjl
 go_enter Tryz.func88,Tryz.ntmps88
 go_wp2_with fail
 refine gS (O5 W bj c vr ek en xa xl xc p1 q1 r1 p2 q2 r2) (HSD.o) fun hHeld=>?_
 refine kT 0 ?_
 refine kT 1 ?_
 refine kT 2 ?_
 refine kT 3 ?_
 refine kT 4 ?_
 refine kT 5 ?_
 refine kT 6 ?_
 refine kT 7 ?_
 refine kT 8 ?_
 refine kT 10 ?_
 refine kT 11 ?_
 refine rdA 9 rfl fun K hK=>?_
 go_simp
 refine (KW.o _ HJD.o HLD.o).mono ?_
 rintro e W3 ⟨⟨o1,o2,o3,o4,o5,o6,rfl,hL3⟩,hb3⟩
 have HL3:=Aa hL3
 have HJ3:=Aa (HJD.o.over hb3)
 have HB3:=Aa (HBXD.o.keep (FrW.of_below (Al bj) hb3))
 have HS3:=Aa (HS.o W3 _ _ HJ3.o HB3.o)
 have HF3:=Aa (HFD.o.trans (FrW.of_below (Al bj) hb3))
 clear hL3 hb3
 go_simp
 refine xK hK (HS3.o) fun hHeld=>?_
 refine rdA 12 rfl fun K hK=>?_
 go_simp
 refine (KR.o _ HJ3.o _ HL3.o).mono ?_
 rintro e W4 ⟨rfl,hb4⟩
 have HJ4:=Aa (HJ3.o.over hb4)
 have HB4:=Aa (HB3.o.keep (FrW.of_below (Al bj) hb4))
 have HS4:=Aa (HS.o W4 _ _ HJ4.o HB4.o)
 have HF4:=Aa (HF3.o.trans (FrW.of_below (Al bj) hb4))
 clear hb4
 go_simp
 refine xK hK (HS4.o) fun hHeld=>?_
 refine kT 13 ?_
 refine rdA 14 rfl fun K hK=>?_
 go_simp
 refine (KB.o _ HJ4.o HB4.o _).mono ?_
 rintro e W5 ⟨rfl,⟨fv5,hJ5⟩,hF5⟩
 have HJ5:=Aa hJ5
 have HS5:=Aa (HS.o W5 _ _ hJ5 (HB4.o.keep hF5))
 have HF5:=Aa (HF4.o.trans hF5)
 clear hJ5 hF5
 go_simp
 refine xK hK (HS5.o) fun hHeld=>?_
 refine gE ?_
 go_end0
 exact ⟨rfl,⟨fv5,HJ5.o⟩,HF5.o⟩
end Go.Proofs.YtfffpjkcfnekaaaGreat.Ex
