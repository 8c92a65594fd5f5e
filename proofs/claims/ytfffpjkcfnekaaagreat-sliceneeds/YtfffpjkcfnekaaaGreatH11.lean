/- What a command asks of levels: a call. -/
import Derived.Test.YtfffpjkcfnekaaaGreatH10
import Derived.Laws.EntriesVeiled
import Derived.Maps.AppendAt
import Derived.Test.YtfffpjkcfnekaaaGreatH09
import Derived.Deep.CutRange
import Derived.Deep.SlicePairs
set_option linter.unusedVariables false
set_option maxHeartbeats 8000000
set_option maxRecDepth 100000
namespace Go.Proofs.YtfffpjkcfnekaaaGreat.Ex
open Go.RowKit
open Go.Value renaming slice -> O, int -> zd, bool -> ze, agg -> zg, pointer -> zi, tuple -> zj
open Go.IntKind renaming i64 -> U
open Go.Obj renaming cells -> zf
open Go.Ending renaming returned -> zh
theorem JT {P:Nat->Prop}:∀ n,P n->∃ m,P m/\∀ k,P k->m<=k:=by
 intro n
 induction n using Nat.strongRecOn with
 | ind n ih=>
  intro h
  by_cases hx:∃ k,k < n/\P k
  ·obtain ⟨k,hk,hp⟩:=hx
   exact ih k hk hp
  ·exact ⟨n,h,fun k hk=>Nat.le_of_not_lt fun hlt=>hx ⟨k,hlt,hk⟩⟩
theorem I2 {α:Type} (P:α->Nat->Prop):∃ μ:α->Nat,∀ a n,P a n->P a (μ a)/\∀ k,P a k->μ a<=k:=by
 have h:∀ a,∃ m,∀ n,P a n->P a m/\∀ k,P a k->m<=k:=fun a=>by
  by_cases hx:∃ n,P a n
  ·obtain ⟨n,hn⟩:=hx
   obtain ⟨m,h1,h2⟩:=JT n hn
   exact ⟨m,fun _ _=>⟨h1,h2⟩⟩
  ·exact ⟨0,fun n hn=>absurd ⟨n,hn⟩ hx⟩
 exact ⟨fun a=>Classical.choose (h a),fun a=>Classical.choose_spec (h a)⟩
def sm1:D:=sD 3 0 0 (xD 0 0 []) [] [] []
def sm2:D:=sD 4 0 0 (xD 2 0 []) [] [] []
theorem AE (n:Int) (h:0<=n) (h2:n<=100):Bn n:=⟨by omega,by omega⟩
theorem Bx {s:Nat} {R:List Value->D->Prop} {w:World}:XS s R w (O none 0 0) []:=⟨Nat.zero_le _,none,0,rfl,fun h=>absurd rfl h⟩
theorem BQ {w:World}:Az w (O none 0 0) []:=⟨none,0,rfl,fun h=>absurd rfl h⟩
theorem IA {bi bo bv bm:Nat} {w:World} (h:Fb bi bo bv bm w):Bf 1 1 1 none 0 0 none 0 0 (some ⟨bi,0,none⟩) 1 1 (some ⟨bo,0,none⟩) 1 1 (some ⟨bv,0,none⟩) 1 1 none 0 0 (some ⟨bm,0,none⟩) 2 2 [] [] [⟨[],[]⟩] [⟨[],[]⟩] [(false,⟨[],[]⟩)] [] [sm1,sm2] w:=by
 have hlab:∀ b,Ad [O none 0 0,O none 0 0] w b->BC w (O (some ⟨b,0,none⟩) 1 1) [⟨[],[]⟩]:=fun b hr=>by
  refine ⟨by simp [maxLen],some ⟨b,0,none⟩,1,rfl,fun _=>⟨b,0,rfl,fun i hi=>?_⟩⟩
  have:i=0:=by simp at hi;omega
  subst this
  exact ⟨_,_,hr 0 _ rfl,hr 1 _ rfl,BQ,BQ⟩
 refine ⟨AE 1 (by omega) (by omega),⟨none,0,rfl,fun h=>absurd rfl h⟩,⟨none,0,rfl,fun h=>absurd rfl h⟩,by simp,hlab _ h.ins,hlab _ h.outs,?_,?_,?_,fun h=>absurd h (by simp),fun h=>absurd h (by simp)⟩
 ·refine ⟨by simp [maxLen],some ⟨bv,0,none⟩,1,rfl,fun _=>⟨bv,0,rfl,fun i hi=>?_⟩⟩
  have:i=0:=by simp at hi;omega
  subst this
  exact ⟨_,_,h.vars 0 _ rfl,h.vars 1 _ rfl,h.vars 2 _ rfl,BQ,BQ⟩
 ·exact ⟨by simp,none,0,rfl,fun h=>absurd rfl h⟩
 ·refine ⟨by simp [maxLen],some ⟨bm,0,none⟩,2,rfl,fun _=>⟨bm,0,rfl,fun i d hd=>?_⟩⟩
  match i,hd with
  | 0,hd=>
   simp at hd
   subst hd
   refine ⟨Ci.take 9,rfl,fun j u hu=>?_,3,0,0,_,_,_,xD 0 0 [],_,[],_,[],_,[],rfl,rfl,AE _ (by omega) (by omega),AE _ (by omega) (by omega),AE _ (by omega) (by omega),⟨0,0,_,[],rfl,rfl,AE _ (by omega) (by omega),AE _ (by omega) (by omega),Bx⟩,Bx,Bx,Bx⟩
   rw [List.getElem?_take] at hu
   split at hu
   ·have:=h.main j u hu
    simpa using this
   ·cases hu
  | 1,hd=>
   simp at hd
   subst hd
   refine ⟨Ci.drop 9,rfl,fun j u hu=>?_,4,0,0,_,_,_,xD 2 0 [],_,[],_,[],_,[],rfl,rfl,AE _ (by omega) (by omega),AE _ (by omega) (by omega),AE _ (by omega) (by omega),⟨2,0,_,[],rfl,rfl,AE _ (by omega) (by omega),AE _ (by omega) (by omega),Bx⟩,Bx,Bx,Bx⟩
   rw [List.getElem?_drop] at hu
   have:=h.main (9+j) u hu
   simpa [Nat.add_assoc] using this
  | i+2,hd=>simp at hd
theorem Mj:Am ((1:Nat):Int) 1 (Ai sm2)=0:=by
 simp [Am,sm2,Be,AB,A4,AO,AW,xD,Ap,AA,Ar]
theorem Jt:Dz 1 1 1 1 (([]:List FnD).length:Int) [] sm1:=by
 unfold Dz
 simp [sm1,xD,Ap,Ar]
theorem Js:Dz 1 1 1 1 (([]:List FnD).length:Int) [] sm2:=by
 have h:=Mj
 unfold Dz
 have e:Ae sm2=4:=rfl
 have e2:Ac sm2=0:=rfl
 rw [e,e2]
 exact ⟨by decide,fun h=>absurd h (by decide),fun h=>absurd h (by decide),fun h=>absurd h (by decide),fun _=>h,fun h=>absurd h (by decide),fun _=>by decide⟩
theorem EA:okP 1 1 1 1 1 1 [] [] [⟨[],[]⟩] [⟨[],[]⟩] [(false,⟨[],[]⟩)] [] [sm1,sm2]:=by
 refine ⟨rfl,by simp,⟨?_,?_,?_⟩,by omega,by omega,by omega,by simp,by decide,fun i h=>absurd h (by simp),?_⟩
 ·intro b hb
  simp at hb
  subst hb
  rfl
 ·intro v hv
  simp at hv
  subst hv
  rfl
 ·intro v hv _
  simp at hv
  subst hv
  exact ⟨rfl,rfl⟩
 ·intro s hs
  simp at hs
  rcases hs with rfl | rfl
  ·exact ⟨Jt,fun s hs=>absurd hs (by simp [sm1]),fun s hs=>absurd hs (by simp [sm1])⟩
  ·exact ⟨Js,fun s hs=>absurd hs (by simp [sm2]),fun s hs=>absurd hs (by simp [sm2])⟩
theorem Mh:Ey.xP 1 1 1 1 1 1 0 [] [] [⟨[],[]⟩] [⟨[],[]⟩] [(false,⟨[],[]⟩)] [] [sm1,sm2]:=by
 refine ⟨EA.chk,by simp,EA.speak,EA.labs,⟨by have:=EA.many;omega,fun f hf=>absurd hf (by simp),?_⟩,fun i h=>absurd h (by simp),?_⟩
 ·intro s hs
  simp at hs
  rcases hs with rfl | rfl
  ·exact ⟨by omega,fun s hs=>absurd hs (by simp [sm1]),fun s hs=>absurd hs (by simp [sm1])⟩
  ·exact ⟨by omega,fun s hs=>absurd hs (by simp [sm2]),fun s hs=>absurd hs (by simp [sm2])⟩
 ·intro s hs
  simp at hs
  rcases hs with rfl | rfl
  ·exact ⟨⟨Jt,fun _=>rfl,fun _=>rfl,fun _=>rfl,fun _=>rfl,fun _=>rfl,fun _=>rfl⟩,fun s hs=>absurd hs (by simp [sm1]),fun s hs=>absurd hs (by simp [sm1])⟩
  ·exact ⟨⟨Js,fun _=>rfl,fun _=>rfl,fun h=>absurd h (by decide),fun _=>rfl,fun _=>rfl,fun _=>rfl⟩,fun s hs=>absurd hs (by simp [sm2]),fun s hs=>absurd hs (by simp [sm2])⟩
end Go.Proofs.YtfffpjkcfnekaaaGreat.Ex
namespace Go.Proofs.YtfffpjkcfnekaaaGreat
open Go.RowKit
open Go.Value renaming slice -> O, int -> zd, bool -> ze, agg -> zg, pointer -> zi, tuple -> zj
open Go.IntKind renaming i64 -> U
open Go.Obj renaming cells -> zf
open Go.Ending renaming returned -> zh
attribute [local go_sem ↓] Go.wp_at_zero Go.wp_at_succ
end Go.Proofs.YtfffpjkcfnekaaaGreat
namespace Go.Proofs.YtfffpjkcfnekaaaGreat.Ex
open Go.RowKit Go.ChangeShapes Go.WideShapes
open Go.Value renaming slice -> O, int -> zd, bool -> ze, agg -> zg, pointer -> zi, tuple -> zj
open Go.IntKind renaming i64 -> U
open Go.Obj renaming cells -> zf
open Go.Ending renaming returned -> zh
theorem Tryz.cells25:Tryz.prog.cellsOf 25=1:=by kernel_rfl
theorem Tryz.cells26:Tryz.prog.cellsOf 26=1:=by kernel_rfl
theorem Tryz.cells27:Tryz.prog.cellsOf 27=1:=by kernel_rfl
theorem Tryz.cells28:Tryz.prog.cellsOf 28=1:=by kernel_rfl
theorem Tryz.cells29:Tryz.prog.cellsOf 29=1:=by kernel_rfl
theorem Tryz.cells22:Tryz.prog.cellsOf 22=1:=by kernel_rfl
theorem Tryz.cells52:Tryz.prog.cellsOf 92=1:=by kernel_rfl
theorem Tryz.cells65:Tryz.prog.cellsOf 37=1:=by kernel_rfl
theorem Tryz.cells4:Tryz.prog.cellsOf 4=1:=by kernel_rfl
theorem Tryz.cells3':Tryz.prog.cellsOf 3=1:=by kernel_rfl
theorem Tryz.cells24:Tryz.prog.cellsOf 24=2:=by kernel_rfl
theorem Tryz.cells54:Tryz.prog.cellsOf 94=3:=by kernel_rfl
theorem Tryz.cells67:Tryz.prog.cellsOf 39=2:=by kernel_rfl
theorem Tryz.cells122:Tryz.prog.cellsOf 87=2:=by kernel_rfl
theorem Tryz.cells71:Tryz.prog.cellsOf 130=9:=by kernel_rfl
theorem Tryz.cells80:Tryz.prog.cellsOf 105=5:=by kernel_rfl
theorem Tryz.cells69:Tryz.prog.cellsOf 41=3:=by kernel_rfl
theorem Tryz.cells101:Tryz.prog.cellsOf 169=2:=by kernel_rfl
theorem Tryz.cells31:Tryz.prog.cellsOf 31=8:=by kernel_rfl
def LAt {α:Type} (s:Nat) (R:List Value->α->Prop) (W:World) (v:Value) (ds:List α):Prop:=
 ds.length<=maxLen/\∃ ao cap,v=O ao ds.length cap/\ds.length<=cap/\cap<=maxLen/\(ao=none->cap=0)/\(ds≠[]->∃ b off,ao=some ⟨b,off,none⟩ /\
  ∀ (i:Nat) (d:α),ds[i]? = some d->∃ cs:List Value,cs.length=s/\(∀ (j:Nat) (u:Value),cs[j]? = some u->W.cell? ⟨b,off+i*s+j,none⟩=some u)/\R cs d)
section
variable {H:Type} {enc:TypeId × Value->H} {W:World}
theorem Bz {α:Type} {TS E s:Nat} (hU:Tryz.prog.underlying TS=some (.slice E)) (hc:Tryz.prog.cellsOf E=s) (hs:0 < s) {fuel:Nat} {v:Value} {x:DataW H × List MemPlace} (h:DataW.trod enc Tryz.prog W 0 (fun _=>true) true fuel TS [v]=some x)
  (d0:α) (R:List Value->α->Prop) (hel:∀ (m:Nat) (cs:List Value) (y:DataW H × List MemPlace),m < fuel->DataW.trod enc Tryz.prog W 0 (fun _=>true) true m E cs=some y->∃ d,R cs d):∃ ds:List α,LAt s R W v ds:=by
 haveI:Inhabited α:=⟨d0⟩
 rcases DataW.trod_slice hU h with ⟨hcs,-⟩ | ⟨ad,len,cap,elems,rest,m,rfl,hcs,-,-,hlc,hcm,hen,hat,-,-⟩
 ·simp at hcs
  subst hcs
  exact ⟨[],by simp,none,0,rfl,by simp,by unfold maxLen;omega,fun _=>rfl,fun h=>absurd rfl h⟩
 ·simp at hcs
  subst hcs
  rw [hc] at hat
  have hget:∀ i,i < len->∃ d:α,∃ cs:List Value,cs.length=s/\(∀ (j:Nat) (u:Value),cs[j]? = some u->W.cell? (ad.add (i*s+j))=some u)/\R cs d:=fun i hi=>by
   have hi2:=hat i hi
   rw [List.getElem?_eq_getElem (by omega),Option.bind_eq_some_iff] at hi2
   obtain ⟨cs,hcc,ht⟩:=hi2
   obtain ⟨-,hlen,hcell⟩:=World.cells?_some hcc
   obtain ⟨d,hd⟩:=hel m cs _ (Nat.lt_succ_self _) ht
   refine ⟨d,cs,hlen,fun j u hu=>?_,hd⟩
   have hj:j < s:=by have:=(List.getElem?_eq_some_iff.1 hu).1;omega
   have hk:=hcell j hj
   rw [hu] at hk
   rw [Addr.add_add] at hk
   exact hk
  obtain ⟨f,hf⟩:=Deep.choose_lt hget
  refine ⟨(List.range len).map f,by simp;omega,some ad,cap,by simp,by simpa using hlc,hcm,fun h=>absurd h (by simp),fun hne=>?_⟩
  have h0:0 < len:=by
   rcases Nat.eq_zero_or_pos len with h | h
   ·subst h;simp at hne
   ·exact h
  have hp:∃ b off,ad=⟨b,off,none⟩:=by
   obtain ⟨cs,hl,hcl,-⟩:=hf 0 h0
   obtain ⟨u,hu⟩:∃ u,cs[0]? = some u:=⟨cs[0]'(by omega),List.getElem?_eq_getElem (by omega)⟩
   have hk:=hcl 0 u hu
   have hsp:ad.spot=none:=by simpa [Addr.add] using World.cell?_spot hk
   obtain ⟨b,off,sp⟩:=ad
   simp only at hsp
   subst hsp
   exact ⟨b,off,rfl⟩
  obtain ⟨bb,off,rfl⟩:=hp
  refine ⟨bb,off,rfl,fun i d hd=>?_⟩
  have hi:i < len:=by
   have:=(List.getElem?_eq_some_iff.1 hd).1
   simpa using this
  have hd':d=f i:=by
   rw [List.getElem?_map,List.getElem?_range hi] at hd
   simpa using hd.symm
  subst hd'
  obtain ⟨cs,hl,hcl,hr⟩:=hf i hi
  exact ⟨cs,hl,fun j u hu=>by have:=hcl j u hu;rw [Addr.add_lit] at this;simpa [Nat.add_assoc] using this,hr⟩
theorem FV {v:Value} {l:List Int} (h:LAt 1 (fun cs x=>cs=[zd U x]) W v l):Aq W v l:=by
 obtain ⟨-,ao,cap,hv,-,-,-,hc⟩:=h
 refine ⟨ao,cap,hv,fun hne=>?_⟩
 obtain ⟨b,off,hb,hel⟩:=hc hne
 refine ⟨b,off,hb,fun i hi=>?_⟩
 obtain ⟨cs,-,hcs,rfl⟩:=hel i l[i] (List.getElem?_eq_getElem hi)
 have:=hcs 0 _ rfl
 simpa using this
theorem B6 {m:Nat} {cs:List Value} {y:DataW H × List MemPlace} (h:DataW.trod enc Tryz.prog W 0 (fun _=>true) true m 3 cs=some y):∃ n:Int,cs=[zd U n]/\Bn n:=by
 obtain ⟨n,e,-,hw⟩:=DataW.trod_int Tryz.underlying3 h
 exact ⟨n,e,L6 hw⟩
theorem C3 {fuel:Nat} {v:Value} {x:DataW H × List MemPlace} (h:DataW.trod enc Tryz.prog W 0 (fun _=>true) true fuel 25 [v]=some x):∃ l:List Int,LAt 1 (fun cs x=>cs=[zd U x]) W v l:=
 Bz Tryz.underlying25 Tryz.cells3' (by omega) h 0 _ fun m cs y _ hy=>by obtain ⟨n,e,-⟩:=B6 hy;exact ⟨n,e⟩
theorem FL {fuel:Nat} {v:Value} {x:DataW H × List MemPlace} (h:DataW.trod enc Tryz.prog W 0 (fun _=>true) true fuel 22 [v]=some x):∃ l:List (Int × Int),Bk W v l:=by
 obtain ⟨l,hl⟩:=Bz Tryz.underlying22 Tryz.cells101 (by omega) h (0,0) (fun cs (x:Int × Int)=>cs=[zd U x.1,zd U x.2]) fun m cs y _ hy=>by
  obtain ⟨xs,n,rfl,-,hl,hxl,hf⟩:=DataW.trod_struct Tryz.underlying169 hy
  rw [Tryz.cells101] at hl
  match cs,hl,xs,hxl with
  | [c0,c1],_,[y0,y1],_=>
   have h0:=hf 0 _ rfl
   have h1:=hf 1 _ rfl
   simp [Tryz.cells3'] at h0 h1
   obtain ⟨a,e0,-⟩:=B6 h0
   obtain ⟨b,e1,-⟩:=B6 h1
   simp at e0 e1
   subst e0
   subst e1
   exact ⟨(a,b),rfl⟩
 obtain ⟨-,ao,cap,hv,-,-,-,hc⟩:=hl
 refine ⟨l,ao,cap,hv,fun hne=>?_⟩
 obtain ⟨b,off,hb,hel⟩:=hc hne
 refine ⟨b,off,hb,fun i hi=>?_⟩
 obtain ⟨cs,-,hcs,rfl⟩:=hel i l[i] (List.getElem?_eq_getElem hi)
 exact ⟨hcs 0 _ rfl,hcs 1 _ rfl⟩
theorem EO {fuel:Nat} {v:Value} {x:DataW H × List MemPlace} (h:DataW.trod enc Tryz.prog W 0 (fun _=>true) true fuel 37 [v]=some x):∃ l:List Pol,Az W v l:=by
 obtain ⟨l,hl⟩:=Bz Tryz.underlying37 Tryz.cells122 (by omega) h ⟨0,[]⟩ (fun cs (x:Pol)=>∃ u,cs=[zd U x.owner,u]/\Aq W u x.names) fun m cs y _ hy=>by
  obtain ⟨xs,n,rfl,-,hl,hxl,hf⟩:=DataW.trod_struct Tryz.underlying87 hy
  rw [Tryz.cells122] at hl
  match cs,hl,xs,hxl with
  | [c0,c1],_,[y0,y1],_=>
   have h0:=hf 0 _ rfl
   have h1:=hf 1 _ rfl
   simp [Tryz.cells3',Tryz.cells25] at h0 h1
   obtain ⟨a,e0,-⟩:=B6 h0
   simp at e0
   subst e0
   obtain ⟨ns,hns⟩:=C3 h1
   exact ⟨⟨a,ns⟩,c1,rfl,FV hns⟩
 obtain ⟨-,ao,cap,hv,-,-,-,hc⟩:=hl
 refine ⟨l,ao,cap,hv,fun hne=>?_⟩
 obtain ⟨b,off,hb,hel⟩:=hc hne
 refine ⟨b,off,hb,fun i hi=>?_⟩
 obtain ⟨cs,-,hcs,u,rfl,hu⟩:=hel i l[i] (List.getElem?_eq_getElem hi)
 exact ⟨hcs 0 _ rfl,u,hcs 1 _ rfl,hu⟩
theorem Gn {m:Nat} {cs:List Value} {y:DataW H × List MemPlace} (h:DataW.trod enc Tryz.prog W 0 (fun _=>true) true m 39 cs=some y):∃ (l:Lab) (pr pw:Value),cs=[pr,pw]/\Az W pr l.r/\Az W pw l.w:=by
 obtain ⟨xs,n,rfl,-,hl,hxl,hf⟩:=DataW.trod_struct Tryz.underlying39 h
 rw [Tryz.cells67] at hl
 match cs,hl,xs,hxl with
 | [c0,c1],_,[y0,y1],_=>
  have h0:=hf 0 _ rfl
  have h1:=hf 1 _ rfl
  simp [Tryz.cells65] at h0 h1
  obtain ⟨a,ha⟩:=EO h0
  obtain ⟨b,hb⟩:=EO h1
  exact ⟨⟨a,b⟩,c0,c1,rfl,ha,hb⟩
theorem EP {fuel:Nat} {ao:Option Addr} {n cap:Nat} {x:DataW H × List MemPlace} (h:DataW.trod enc Tryz.prog W 0 (fun _=>true) true fuel 26 [O ao n cap]=some x):∃ l:List Lab,BC W (O ao n cap) l/\(ao=none->cap=0):=by
 obtain ⟨l,hl⟩:=Bz Tryz.underlying26 Tryz.cells67 (by omega) h ⟨[],[]⟩ (fun cs (l:Lab)=>∃ pr pw,cs=[pr,pw]/\Az W pr l.r/\Az W pw l.w) fun m cs y _ hy=>Gn hy
 obtain ⟨hm,ao',cap',hv,-,-,hz,hc⟩:=hl
 injection hv with e1 e2 e3
 subst e1 e2 e3
 refine ⟨l,⟨hm,ao,cap,rfl,fun hne=>?_⟩,hz⟩
 obtain ⟨b,off,hb,hel⟩:=hc hne
 refine ⟨b,off,hb,fun i hi=>?_⟩
 obtain ⟨cs,-,hcs,pr,pw,rfl,h1,h2⟩:=hel i l[i] (List.getElem?_eq_getElem hi)
 exact ⟨pr,pw,hcs 0 _ rfl,hcs 1 _ rfl,h1,h2⟩
theorem G7 {fuel:Nat} {v:Value} {x:DataW H × List MemPlace} (h:DataW.trod enc Tryz.prog W 0 (fun _=>true) true fuel 27 [v]=some x):∃ l:List (Bool × Lab),C7 W v l:=by
 obtain ⟨l,hl⟩:=Bz Tryz.underlying27 Tryz.cells69 (by omega) h (false,⟨[],[]⟩) (fun cs (l:Bool × Lab)=>∃ pr pw,cs=[ze l.1,pr,pw]/\Az W pr l.2.r/\Az W pw l.2.w) fun m cs y _ hy=>by
  obtain ⟨xs,n,rfl,-,hl,hxl,hf⟩:=DataW.trod_struct Tryz.underlying41 hy
  rw [Tryz.cells69] at hl
  match cs,hl,xs,hxl with
  | [c0,c1,c2],_,[y0,y1],_=>
   have h0:=hf 0 _ rfl
   have h1:=hf 1 _ rfl
   simp [Tryz.cells4,Tryz.cells67] at h0 h1
   obtain ⟨b,e0,-⟩:=DataW.trod_bool Tryz.underlying4 h0
   simp at e0
   subst e0
   obtain ⟨lb,pr,pw,e1,h2,h3⟩:=Gn h1
   simp at e1
   obtain ⟨rfl,rfl⟩:=e1
   exact ⟨(b,lb),c1,c2,rfl,h2,h3⟩
 obtain ⟨hm,ao,cap,hv,-,-,-,hc⟩:=hl
 refine ⟨l,hm,ao,cap,hv,fun hne=>?_⟩
 obtain ⟨b,off,hb,hel⟩:=hc hne
 refine ⟨b,off,hb,fun i hi=>?_⟩
 obtain ⟨cs,-,hcs,pr,pw,rfl,h1,h2⟩:=hel i l[i] (List.getElem?_eq_getElem hi)
 exact ⟨pr,pw,hcs 0 _ rfl,hcs 1 _ rfl,hcs 2 _ rfl,h1,h2⟩
theorem Ko {s:Nat} {R:List Value->D->Prop} {v:Value} {l:List D} (h:LAt s R W v l):XS s R W v l:=by
 obtain ⟨hm,ao,cap,hv,-,-,-,hc⟩:=h
 exact ⟨hm,ao,cap,hv,hc⟩
theorem IR (K:Nat):∀ (fuel:Nat) (cs:List Value) (x:DataW H × List MemPlace),fuel<=K->DataW.trod enc Tryz.prog W 0 (fun _=>true) true fuel 130 cs=some x->∃ d,RS W K fuel cs d:=by
 intro fuel
 induction fuel using Nat.strongRecOn with
 | ind fuel ih=>
  intro cs x hK h
  obtain ⟨xs,n,rfl,-,hl,hxl,hf⟩:=DataW.trod_struct Tryz.underlying130 h
  rw [Tryz.cells71] at hl
  match cs,hl,xs,hxl with
  | [c0,c1,c2,c3,c4,c5,c6,c7,c8],_,[y0,y1,y2,y3,y4,y5,y6],_=>
   have h0:=hf 0 _ rfl
   have h1:=hf 1 _ rfl
   have h2:=hf 2 _ rfl
   have h3:=hf 3 _ rfl
   have h4:=hf 4 _ rfl
   have h5:=hf 5 _ rfl
   have h6:=hf 6 _ rfl
   simp [Tryz.cells3',Tryz.cells54,Tryz.cells52,Tryz.cells29] at h0 h1 h2 h3 h4 h5 h6
   obtain ⟨kd,e0,w0⟩:=B6 h0
   obtain ⟨va,e1,w1⟩:=B6 h1
   obtain ⟨ot,e2,w2⟩:=B6 h2
   simp at e0 e1 e2
   subst e0
   subst e1
   subst e2
   obtain ⟨e,he⟩:=Ea n _ _ h3
   obtain ⟨ags,hA⟩:=Bz Tryz.underlying92 Tryz.cells54 (by omega) h4 (.agg []) (RX W K) fun m cs y hm hy=>by
    obtain ⟨d,hd⟩:=Ea m _ _ hy
    exact ⟨d,RX.mono (fun _ _ h=>h) m K _ _ (by omega) hd⟩
   obtain ⟨ts,hT⟩:=Bz Tryz.underlying29 Tryz.cells71 (by omega) h5 (.agg []) (RS W K n) fun m cs y hm hy=>by
    obtain ⟨d,hd⟩:=ih m (by omega) cs y (by omega) hy
    exact ⟨d,RS.mono (fun _ _ h=>h) m n _ _ (by omega) hd⟩
   obtain ⟨es,hE⟩:=Bz Tryz.underlying29 Tryz.cells71 (by omega) h6 (.agg []) (RS W K n) fun m cs y hm hy=>by
    obtain ⟨d,hd⟩:=ih m (by omega) cs y (by omega) hy
    exact ⟨d,RS.mono (fun _ _ h=>h) m n _ _ (by omega) hd⟩
   exact ⟨sD kd va ot e ags ts es,kd,va,ot,c3,c4,c5,e,c6,ags,c7,ts,c8,es,rfl,rfl,w0,w1,w2,RX.mono (fun _ _ h=>h) n K _ _ (by omega) he,Ko hA,Ko hT,Ko hE⟩
theorem En (K:Nat) {fuel:Nat} {v:Value} {x:DataW H × List MemPlace} (hK:fuel<=K) (h:DataW.trod enc Tryz.prog W 0 (fun _=>true) true fuel 29 [v]=some x):∃ l,AD W K K v l:=by
 obtain ⟨l,hl⟩:=Bz Tryz.underlying29 Tryz.cells71 (by omega) h (.agg []) (RS W K K) fun m cs y hm hy=>by
  obtain ⟨d,hd⟩:=IR K m cs y (by omega) hy
  exact ⟨d,RS.mono (fun _ _ h=>h) m K _ _ (by omega) hd⟩
 exact ⟨l,Ko hl⟩
theorem Gp (K:Nat) {fuel:Nat} {v:Value} {x:DataW H × List MemPlace} (hK:fuel<=K) (h:DataW.trod enc Tryz.prog W 0 (fun _=>true) true fuel 28 [v]=some x):∃ l,AL W K K v l:=by
 obtain ⟨l,hl⟩:=Bz Tryz.underlying28 Tryz.cells80 (by omega) h ⟨[],[],.agg []⟩ (fun cs (f:FnD)=>∃ vP vB x0 x1 x2,cs=[vP,vB,x0,x1,x2]/\Aq W vP f.ps/\LO vP f.ps/\AD W K K vB f.body/\RX W K [x0,x1,x2] f.res) fun m cs y hm hy=>by
  obtain ⟨xs,n,rfl,-,hl,hxl,hf⟩:=DataW.trod_struct Tryz.underlying105 hy
  rw [Tryz.cells80] at hl
  match cs,hl,xs,hxl with
  | [c0,c1,c2,c3,c4],_,[y0,y1,y2],_=>
   have h0:=hf 0 _ rfl
   have h1:=hf 1 _ rfl
   have h2:=hf 2 _ rfl
   simp [Tryz.cells25,Tryz.cells29,Tryz.cells54] at h0 h1 h2
   obtain ⟨ps,hps⟩:=C3 h0
   obtain ⟨bd,hbd⟩:=En K (by omega) h1
   obtain ⟨e,he⟩:=Ea n _ _ h2
   refine ⟨⟨ps,bd,e⟩,c0,c1,c2,c3,c4,rfl,FV hps,?_,hbd,RX.mono (fun _ _ h=>h) n K _ _ (by omega) he⟩
   obtain ⟨hm2,ao,cap,hv,h5,h6,-⟩:=hps
   exact ⟨hm2,ao,cap,hv,h5,h6⟩
 obtain ⟨hm,ao,cap,hv,-,-,-,hc⟩:=hl
 refine ⟨l,hm,ao,cap,hv,fun hne=>?_⟩
 obtain ⟨b,off,hb,hel⟩:=hc hne
 refine ⟨b,off,hb,fun i hi=>?_⟩
 obtain ⟨cs,-,hcs,vP,vB,x0,x1,x2,rfl,h1,h2,h3,h4⟩:=hel i l[i] (List.getElem?_eq_getElem hi)
 exact ⟨vP,vB,x0,x1,x2,hcs 0 _ rfl,hcs 1 _ rfl,hcs 2 _ rfl,hcs 3 _ rfl,hcs 4 _ rfl,h1,h2,h3,h4⟩
end
section
variable {H:Type} {enc:TypeId × Value->H} {W:World}
theorem BG {TS E:Nat} (hU:Tryz.prog.underlying TS=some (.slice E)) {fuel:Nat} {v:Value} {x:DataW H × List MemPlace} (h:DataW.trod enc Tryz.prog W 0 (fun _=>true) true fuel TS [v]=some x):∃ a n c,v=O a n c:=by
 rcases DataW.trod_slice hU h with ⟨hcs,-⟩ | ⟨ad,len,cap,elems,rest,m,rfl,hcs,-⟩
 ·simp at hcs
  exact ⟨_,_,_,hcs⟩
 ·simp at hcs
  exact ⟨_,_,_,hcs⟩
theorem IT {fuel:Nat} {cs:List Value} {x:DataW H × List MemPlace} (h:DataW.trod enc Tryz.prog W 0 (fun _=>true) true fuel 31 cs=some x) :
  ∃ (m:Int) (ga:Option Addr) (gn gc:Nat) (sa:Option Addr) (sn sc:Nat) (ya:Option Addr) (yn yc:Nat) (oa:Option Addr) (on oc:Nat) (va:Option Addr) (vn vc:Nat) (fa:Option Addr) (fn fc:Nat) (ba:Option Addr) (bn bc:Nat) (gs:List (Int × Int)) (sp:List Int) (ls ms:List Lab) (vs:List (Bool × Lab)) (fs:List FnD) (l:List D),cs=[zd U m,O ga gn gc,O sa sn sc,O ya yn yc,O oa on oc,O va vn vc,O fa fn fc,O ba bn bc]/\Bf fuel fuel m ga gn gc sa sn sc ya yn yc oa on oc va vn vc fa fn fc ba bn bc gs sp ls ms vs fs l W:=by
 obtain ⟨xs,n,rfl,-,hl,hxl,hf⟩:=DataW.trod_struct Tryz.underlying31 h
 rw [Tryz.cells31] at hl
 match cs,hl,xs,hxl with
 | [c0,c1,c2,c3,c4,c5,c6,c7],_,[y0,y1,y2,y3,y4,y5,y6],_=>
  have h0:=hf 0 _ rfl
  have h1:=hf 1 _ rfl
  have h2:=hf 2 _ rfl
  have h3:=hf 3 _ rfl
  have h4:=hf 4 _ rfl
  have h5:=hf 5 _ rfl
  have h6:=hf 6 _ rfl
  simp [Tryz.cells24,Tryz.cells25,Tryz.cells26,Tryz.cells27,Tryz.cells28,Tryz.cells29] at h0 h1 h2 h3 h4 h5 h6
  obtain ⟨zs,n2,rfl,-,hl2,hzl,hf2⟩:=DataW.trod_struct Tryz.underlying24 h0
  match zs,hzl with
  | [z0,z1],_=>
   have g0:=hf2 0 _ rfl
   have g1:=hf2 1 _ rfl
   simp [Tryz.cells3',Tryz.cells22] at g0 g1
   obtain ⟨m,e0,hm⟩:=B6 g0
   simp at e0
   subst e0
   obtain ⟨ga,gn,gc,rfl⟩:=BG Tryz.underlying22 g1
   obtain ⟨sa,sn,sc,rfl⟩:=BG Tryz.underlying25 h1
   obtain ⟨ya,yn,yc,rfl⟩:=BG Tryz.underlying26 h2
   obtain ⟨oa,on,oc,rfl⟩:=BG Tryz.underlying26 h3
   obtain ⟨va,vn,vc,rfl⟩:=BG Tryz.underlying27 h4
   obtain ⟨fa,fn,fc,rfl⟩:=BG Tryz.underlying28 h5
   obtain ⟨ba,bn,bc,rfl⟩:=BG Tryz.underlying29 h6
   obtain ⟨gs,hgs⟩:=FL g1
   obtain ⟨sp,hsp⟩:=C3 h1
   obtain ⟨ls,hls,hln⟩:=EP h2
   obtain ⟨ms,hms,hmn⟩:=EP h3
   obtain ⟨vs,hvs⟩:=G7 h4
   obtain ⟨fs,hfs⟩:=Gp (n2+1+1) (by omega) h5
   obtain ⟨l,hl⟩:=En (n2+1+1) (by omega) h6
   exact ⟨m,ga,gn,gc,sa,sn,sc,ya,yn,yc,oa,on,oc,va,vn,vc,fa,fn,fc,ba,bn,bc,gs,sp,ls,ms,vs,fs,l,rfl,hm,hgs,FV hsp,by have:=hsp.1;unfold maxLen at this;omega,hls,hms,hvs,hfs,hl,hln,hmn⟩
theorem open_program {r:Go.Reach} {b0:Nat} {v:Value} {d:DataW H} {p:List MemPlace} (hv:Value.okWide Tryz.prog W r b0 31 v) (h:DataW.Trod enc Tryz.prog W 0 (fun _=>true) true 31 v d p) :
  ∃ (K:Nat) (m:Int) (ga:Option Addr) (gn gc:Nat) (sa:Option Addr) (sn sc:Nat) (ya:Option Addr) (yn yc:Nat) (oa:Option Addr) (on oc:Nat) (va:Option Addr) (vn vc:Nat) (fa:Option Addr) (fn fc:Nat) (ba:Option Addr) (bn bc:Nat) (gs:List (Int × Int)) (sp:List Int) (ls ms:List Lab) (vs:List (Bool × Lab)) (fs:List FnD) (l:List D),v=zg #[zd U m,O ga gn gc,O sa sn sc,O ya yn yc,O oa on oc,O va vn vc,O fa fn fc,O ba bn bc]/\Bf K K m ga gn gc sa sn sc ya yn yc oa on oc va vn vc fa fn fc ba bn bc gs sp ls ms vs fs l W:=by
 obtain ⟨cs,rfl,hsz⟩:=okWide_struct Tryz.underlying31 hv
 obtain ⟨fuel,hf⟩:=h
 have hf2:DataW.trod enc Tryz.prog W 0 (fun _=>true) true fuel 31 cs.toList=some (d,p):=by simpa [Value.cells] using hf
 obtain ⟨m,ga,gn,gc,sa,sn,sc,ya,yn,yc,oa,on,oc,va,vn,vc,fa,fn,fc,ba,bn,bc,gs,sp,ls,ms,vs,fs,l,hcs,hp⟩:=IT hf2
 refine ⟨fuel,m,ga,gn,gc,sa,sn,sc,ya,yn,yc,oa,on,oc,va,vn,vc,fa,fn,fc,ba,bn,bc,gs,sp,ls,ms,vs,fs,l,?_,hp⟩
 have:cs=#[zd U m,O ga gn gc,O sa sn sc,O ya yn yc,O oa on oc,O va vn vc,O fa fn fc,O ba bn bc]:=by
  cases cs
  simp_all
 rw [this]
end
end Go.Proofs.YtfffpjkcfnekaaaGreat.Ex
