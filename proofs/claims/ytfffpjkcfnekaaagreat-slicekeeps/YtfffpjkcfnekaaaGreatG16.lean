/- A program that was handed in lies in memory as such. -/
import Derived.Test.YtfffpjkcfnekaaaGreatG14
import Derived.Test.YtfffpjkcfnekaaaGreatG15
import Derived.Deep.SlicePairs
set_option linter.unusedVariables false
set_option maxHeartbeats 8000000
set_option maxRecDepth 100000
namespace Go.Proofs.YtfffpjkcfnekaaaGreat.Ex
open Go.RowKit Go.ChangeShapes Go.WideShapes
open Go.Value renaming slice -> O, int -> zd, bool -> ze, agg -> zg, pointer -> zi, tuple -> zj
open Go.IntKind renaming i64 -> U
open Go.Obj renaming cells -> zf
open Go.Ending renaming returned -> zh
theorem Tryz.cells25:Tryz.prog.cellsOf 25=1:=by kernel_rfl
theorem Tryz.cells26:Tryz.prog.cellsOf 26=1:=by kernel_rfl
theorem Tryz.cells27:Tryz.prog.cellsOf 27=1:=by kernel_rfl
theorem Tryz.cells28:Tryz.prog.cellsOf 28=1:=by kernel_rfl
theorem Tryz.cells29:Tryz.prog.cellsOf 29=1:=by kernel_rfl
theorem Tryz.cells22:Tryz.prog.cellsOf 22=1:=by kernel_rfl
theorem Tryz.cells52:Tryz.prog.cellsOf 92=1:=by kernel_rfl
theorem Tryz.cells65:Tryz.prog.cellsOf 37=1:=by kernel_rfl
theorem Tryz.cells4:Tryz.prog.cellsOf 4=1:=by kernel_rfl
theorem Tryz.cells3':Tryz.prog.cellsOf 3=1:=by kernel_rfl
theorem Tryz.cells24:Tryz.prog.cellsOf 24=2:=by kernel_rfl
theorem Tryz.cells54:Tryz.prog.cellsOf 94=3:=by kernel_rfl
theorem Tryz.cells67:Tryz.prog.cellsOf 39=2:=by kernel_rfl
theorem Tryz.cells122:Tryz.prog.cellsOf 87=2:=by kernel_rfl
theorem Tryz.cells71:Tryz.prog.cellsOf 130=9:=by kernel_rfl
theorem Tryz.cells80:Tryz.prog.cellsOf 105=5:=by kernel_rfl
theorem Tryz.cells69:Tryz.prog.cellsOf 41=3:=by kernel_rfl
theorem Tryz.cells101:Tryz.prog.cellsOf 169=2:=by kernel_rfl
theorem Tryz.cells31:Tryz.prog.cellsOf 31=8:=by kernel_rfl
def LAt {α:Type} (s:Nat) (R:List Value->α->Prop) (W:World) (v:Value) (ds:List α):Prop:=
 ds.length<=maxLen/\∃ ao cap,v=O ao ds.length cap/\ds.length<=cap/\cap<=maxLen/\(ao=none->cap=0)/\(ds≠[]->∃ b off,ao=some ⟨b,off,none⟩ /\
  ∀ (i:Nat) (d:α),ds[i]? = some d->∃ cs:List Value,cs.length=s/\(∀ (j:Nat) (u:Value),cs[j]? = some u->W.cell? ⟨b,off+i*s+j,none⟩=some u)/\R cs d)
section
variable {H:Type} {enc:TypeId × Value->H} {W:World}
theorem Bu {α:Type} {TS E s:Nat} (hU:Tryz.prog.underlying TS=some (.slice E)) (hc:Tryz.prog.cellsOf E=s) (hs:0 < s) {fuel:Nat} {v:Value} {x:DataW H × List MemPlace} (h:DataW.trod enc Tryz.prog W 0 (fun _=>true) true fuel TS [v]=some x)
  (d0:α) (R:List Value->α->Prop) (hel:∀ (m:Nat) (cs:List Value) (y:DataW H × List MemPlace),m < fuel->DataW.trod enc Tryz.prog W 0 (fun _=>true) true m E cs=some y->∃ d,R cs d):∃ ds:List α,LAt s R W v ds:=by
 haveI:Inhabited α:=⟨d0⟩
 rcases DataW.trod_slice hU h with ⟨hcs,-⟩ | ⟨ad,len,cap,elems,rest,m,rfl,hcs,-,-,hlc,hcm,hen,hat,-,-⟩
 ·simp at hcs
  subst hcs
  exact ⟨[],by simp,none,0,rfl,by simp,by unfold maxLen;omega,fun _=>rfl,fun h=>absurd rfl h⟩
 ·simp at hcs
  subst hcs
  rw [hc] at hat
  have hget:∀ i,i < len->∃ d:α,∃ cs:List Value,cs.length=s/\(∀ (j:Nat) (u:Value),cs[j]? = some u->W.cell? (ad.add (i*s+j))=some u)/\R cs d:=fun i hi=>by
   have hi2:=hat i hi
   rw [List.getElem?_eq_getElem (by omega),Option.bind_eq_some_iff] at hi2
   obtain ⟨cs,hcc,ht⟩:=hi2
   obtain ⟨-,hlen,hcell⟩:=World.cells?_some hcc
   obtain ⟨d,hd⟩:=hel m cs _ (Nat.lt_succ_self _) ht
   refine ⟨d,cs,hlen,fun j u hu=>?_,hd⟩
   have hj:j < s:=by have:=(List.getElem?_eq_some_iff.1 hu).1;omega
   have hk:=hcell j hj
   rw [hu] at hk
   rw [Addr.add_add] at hk
   exact hk
  obtain ⟨f,hf⟩:=Deep.choose_lt hget
  refine ⟨(List.range len).map f,by simp;omega,some ad,cap,by simp,by simpa using hlc,hcm,fun h=>absurd h (by simp),fun hne=>?_⟩
  have h0:0 < len:=by
   rcases Nat.eq_zero_or_pos len with h | h
   ·subst h;simp at hne
   ·exact h
  have hp:∃ b off,ad=⟨b,off,none⟩:=by
   obtain ⟨cs,hl,hcl,-⟩:=hf 0 h0
   obtain ⟨u,hu⟩:∃ u,cs[0]? = some u:=⟨cs[0]'(by omega),List.getElem?_eq_getElem (by omega)⟩
   have hk:=hcl 0 u hu
   have hsp:ad.spot=none:=by simpa [Addr.add] using World.cell?_spot hk
   obtain ⟨b,off,sp⟩:=ad
   simp only at hsp
   subst hsp
   exact ⟨b,off,rfl⟩
  obtain ⟨bb,off,rfl⟩:=hp
  refine ⟨bb,off,rfl,fun i d hd=>?_⟩
  have hi:i < len:=by
   have:=(List.getElem?_eq_some_iff.1 hd).1
   simpa using this
  have hd':d=f i:=by
   rw [List.getElem?_map,List.getElem?_range hi] at hd
   simpa using hd.symm
  subst hd'
  obtain ⟨cs,hl,hcl,hr⟩:=hf i hi
  exact ⟨cs,hl,fun j u hu=>by have:=hcl j u hu;rw [Addr.add_lit] at this;simpa [Nat.add_assoc] using this,hr⟩
theorem Fu {v:Value} {l:List Int} (h:LAt 1 (fun cs x=>cs=[zd U x]) W v l):Ar W v l:=by
 obtain ⟨-,ao,cap,hv,-,-,-,hc⟩:=h
 refine ⟨ao,cap,hv,fun hne=>?_⟩
 obtain ⟨b,off,hb,hel⟩:=hc hne
 refine ⟨b,off,hb,fun i hi=>?_⟩
 obtain ⟨cs,-,hcs,rfl⟩:=hel i l[i] (List.getElem?_eq_getElem hi)
 have:=hcs 0 _ rfl
 simpa using this
theorem BT {m:Nat} {cs:List Value} {y:DataW H × List MemPlace} (h:DataW.trod enc Tryz.prog W 0 (fun _=>true) true m 3 cs=some y):∃ n:Int,cs=[zd U n]/\Bd n:=by
 obtain ⟨n,e,-,hw⟩:=DataW.trod_int Tryz.underlying3 h
 exact ⟨n,e,Lh hw⟩
theorem CO {fuel:Nat} {v:Value} {x:DataW H × List MemPlace} (h:DataW.trod enc Tryz.prog W 0 (fun _=>true) true fuel 25 [v]=some x):∃ l:List Int,LAt 1 (fun cs x=>cs=[zd U x]) W v l:=
 Bu Tryz.underlying25 Tryz.cells3' (by omega) h 0 _ fun m cs y _ hy=>by obtain ⟨n,e,-⟩:=BT hy;exact ⟨n,e⟩
theorem Fk {fuel:Nat} {v:Value} {x:DataW H × List MemPlace} (h:DataW.trod enc Tryz.prog W 0 (fun _=>true) true fuel 22 [v]=some x):∃ l:List (Int × Int),Bf W v l:=by
 obtain ⟨l,hl⟩:=Bu Tryz.underlying22 Tryz.cells101 (by omega) h (0,0) (fun cs (x:Int × Int)=>cs=[zd U x.1,zd U x.2]) fun m cs y _ hy=>by
  obtain ⟨xs,n,rfl,-,hl,hxl,hf⟩:=DataW.trod_struct Tryz.underlying169 hy
  rw [Tryz.cells101] at hl
  match cs,hl,xs,hxl with
  | [c0,c1],_,[y0,y1],_=>
   have h0:=hf 0 _ rfl
   have h1:=hf 1 _ rfl
   simp [Tryz.cells3'] at h0 h1
   obtain ⟨a,e0,-⟩:=BT h0
   obtain ⟨b,e1,-⟩:=BT h1
   simp at e0 e1
   subst e0
   subst e1
   exact ⟨(a,b),rfl⟩
 obtain ⟨-,ao,cap,hv,-,-,-,hc⟩:=hl
 refine ⟨l,ao,cap,hv,fun hne=>?_⟩
 obtain ⟨b,off,hb,hel⟩:=hc hne
 refine ⟨b,off,hb,fun i hi=>?_⟩
 obtain ⟨cs,-,hcs,rfl⟩:=hel i l[i] (List.getElem?_eq_getElem hi)
 exact ⟨hcs 0 _ rfl,hcs 1 _ rfl⟩
theorem En {fuel:Nat} {v:Value} {x:DataW H × List MemPlace} (h:DataW.trod enc Tryz.prog W 0 (fun _=>true) true fuel 37 [v]=some x):∃ l:List Pol,AD W v l:=by
 obtain ⟨l,hl⟩:=Bu Tryz.underlying37 Tryz.cells122 (by omega) h ⟨0,[]⟩ (fun cs (x:Pol)=>∃ u,cs=[zd U x.owner,u]/\Ar W u x.names) fun m cs y _ hy=>by
  obtain ⟨xs,n,rfl,-,hl,hxl,hf⟩:=DataW.trod_struct Tryz.underlying87 hy
  rw [Tryz.cells122] at hl
  match cs,hl,xs,hxl with
  | [c0,c1],_,[y0,y1],_=>
   have h0:=hf 0 _ rfl
   have h1:=hf 1 _ rfl
   simp [Tryz.cells3',Tryz.cells25] at h0 h1
   obtain ⟨a,e0,-⟩:=BT h0
   simp at e0
   subst e0
   obtain ⟨ns,hns⟩:=CO h1
   exact ⟨⟨a,ns⟩,c1,rfl,Fu hns⟩
 obtain ⟨-,ao,cap,hv,-,-,-,hc⟩:=hl
 refine ⟨l,ao,cap,hv,fun hne=>?_⟩
 obtain ⟨b,off,hb,hel⟩:=hc hne
 refine ⟨b,off,hb,fun i hi=>?_⟩
 obtain ⟨cs,-,hcs,u,rfl,hu⟩:=hel i l[i] (List.getElem?_eq_getElem hi)
 exact ⟨hcs 0 _ rfl,u,hcs 1 _ rfl,hu⟩
theorem FX {m:Nat} {cs:List Value} {y:DataW H × List MemPlace} (h:DataW.trod enc Tryz.prog W 0 (fun _=>true) true m 39 cs=some y):∃ (l:Lab) (pr pw:Value),cs=[pr,pw]/\AD W pr l.r/\AD W pw l.w:=by
 obtain ⟨xs,n,rfl,-,hl,hxl,hf⟩:=DataW.trod_struct Tryz.underlying39 h
 rw [Tryz.cells67] at hl
 match cs,hl,xs,hxl with
 | [c0,c1],_,[y0,y1],_=>
  have h0:=hf 0 _ rfl
  have h1:=hf 1 _ rfl
  simp [Tryz.cells65] at h0 h1
  obtain ⟨a,ha⟩:=En h0
  obtain ⟨b,hb⟩:=En h1
  exact ⟨⟨a,b⟩,c0,c1,rfl,ha,hb⟩
theorem Eo {fuel:Nat} {ao:Option Addr} {n cap:Nat} {x:DataW H × List MemPlace} (h:DataW.trod enc Tryz.prog W 0 (fun _=>true) true fuel 26 [O ao n cap]=some x):∃ l:List Lab,BB W (O ao n cap) l/\(ao=none->cap=0):=by
 obtain ⟨l,hl⟩:=Bu Tryz.underlying26 Tryz.cells67 (by omega) h ⟨[],[]⟩ (fun cs (l:Lab)=>∃ pr pw,cs=[pr,pw]/\AD W pr l.r/\AD W pw l.w) fun m cs y _ hy=>FX hy
 obtain ⟨hm,ao',cap',hv,-,-,hz,hc⟩:=hl
 injection hv with e1 e2 e3
 subst e1 e2 e3
 refine ⟨l,⟨hm,ao,cap,rfl,fun hne=>?_⟩,hz⟩
 obtain ⟨b,off,hb,hel⟩:=hc hne
 refine ⟨b,off,hb,fun i hi=>?_⟩
 obtain ⟨cs,-,hcs,pr,pw,rfl,h1,h2⟩:=hel i l[i] (List.getElem?_eq_getElem hi)
 exact ⟨pr,pw,hcs 0 _ rfl,hcs 1 _ rfl,h1,h2⟩
theorem GE {fuel:Nat} {v:Value} {x:DataW H × List MemPlace} (h:DataW.trod enc Tryz.prog W 0 (fun _=>true) true fuel 27 [v]=some x):∃ l:List (Bool × Lab),CT W v l:=by
 obtain ⟨l,hl⟩:=Bu Tryz.underlying27 Tryz.cells69 (by omega) h (false,⟨[],[]⟩) (fun cs (l:Bool × Lab)=>∃ pr pw,cs=[ze l.1,pr,pw]/\AD W pr l.2.r/\AD W pw l.2.w) fun m cs y _ hy=>by
  obtain ⟨xs,n,rfl,-,hl,hxl,hf⟩:=DataW.trod_struct Tryz.underlying41 hy
  rw [Tryz.cells69] at hl
  match cs,hl,xs,hxl with
  | [c0,c1,c2],_,[y0,y1],_=>
   have h0:=hf 0 _ rfl
   have h1:=hf 1 _ rfl
   simp [Tryz.cells4,Tryz.cells67] at h0 h1
   obtain ⟨b,e0,-⟩:=DataW.trod_bool Tryz.underlying4 h0
   simp at e0
   subst e0
   obtain ⟨lb,pr,pw,e1,h2,h3⟩:=FX h1
   simp at e1
   obtain ⟨rfl,rfl⟩:=e1
   exact ⟨(b,lb),c1,c2,rfl,h2,h3⟩
 obtain ⟨hm,ao,cap,hv,-,-,-,hc⟩:=hl
 refine ⟨l,hm,ao,cap,hv,fun hne=>?_⟩
 obtain ⟨b,off,hb,hel⟩:=hc hne
 refine ⟨b,off,hb,fun i hi=>?_⟩
 obtain ⟨cs,-,hcs,pr,pw,rfl,h1,h2⟩:=hel i l[i] (List.getElem?_eq_getElem hi)
 exact ⟨pr,pw,hcs 0 _ rfl,hcs 1 _ rfl,hcs 2 _ rfl,h1,h2⟩
theorem JL {s:Nat} {R:List Value->D->Prop} {v:Value} {l:List D} (h:LAt s R W v l):XS s R W v l:=by
 obtain ⟨hm,ao,cap,hv,-,-,-,hc⟩:=h
 exact ⟨hm,ao,cap,hv,hc⟩
theorem H8 (K:Nat):∀ (fuel:Nat) (cs:List Value) (x:DataW H × List MemPlace),fuel<=K->DataW.trod enc Tryz.prog W 0 (fun _=>true) true fuel 130 cs=some x->∃ d,RS W K fuel cs d:=by
 intro fuel
 induction fuel using Nat.strongRecOn with
 | ind fuel ih=>
  intro cs x hK h
  obtain ⟨xs,n,rfl,-,hl,hxl,hf⟩:=DataW.trod_struct Tryz.underlying130 h
  rw [Tryz.cells71] at hl
  match cs,hl,xs,hxl with
  | [c0,c1,c2,c3,c4,c5,c6,c7,c8],_,[y0,y1,y2,y3,y4,y5,y6],_=>
   have h0:=hf 0 _ rfl
   have h1:=hf 1 _ rfl
   have h2:=hf 2 _ rfl
   have h3:=hf 3 _ rfl
   have h4:=hf 4 _ rfl
   have h5:=hf 5 _ rfl
   have h6:=hf 6 _ rfl
   simp [Tryz.cells3',Tryz.cells54,Tryz.cells52,Tryz.cells29] at h0 h1 h2 h3 h4 h5 h6
   obtain ⟨kd,e0,w0⟩:=BT h0
   obtain ⟨va,e1,w1⟩:=BT h1
   obtain ⟨ot,e2,w2⟩:=BT h2
   simp at e0 e1 e2
   subst e0
   subst e1
   subst e2
   obtain ⟨e,he⟩:=DS n _ _ h3
   obtain ⟨ags,hA⟩:=Bu Tryz.underlying92 Tryz.cells54 (by omega) h4 (.agg []) (RX W K) fun m cs y hm hy=>by
    obtain ⟨d,hd⟩:=DS m _ _ hy
    exact ⟨d,RX.mono (fun _ _ h=>h) m K _ _ (by omega) hd⟩
   obtain ⟨ts,hT⟩:=Bu Tryz.underlying29 Tryz.cells71 (by omega) h5 (.agg []) (RS W K n) fun m cs y hm hy=>by
    obtain ⟨d,hd⟩:=ih m (by omega) cs y (by omega) hy
    exact ⟨d,RS.mono (fun _ _ h=>h) m n _ _ (by omega) hd⟩
   obtain ⟨es,hE⟩:=Bu Tryz.underlying29 Tryz.cells71 (by omega) h6 (.agg []) (RS W K n) fun m cs y hm hy=>by
    obtain ⟨d,hd⟩:=ih m (by omega) cs y (by omega) hy
    exact ⟨d,RS.mono (fun _ _ h=>h) m n _ _ (by omega) hd⟩
   exact ⟨sD kd va ot e ags ts es,kd,va,ot,c3,c4,c5,e,c6,ags,c7,ts,c8,es,rfl,rfl,w0,w1,w2,RX.mono (fun _ _ h=>h) n K _ _ (by omega) he,JL hA,JL hT,JL hE⟩
theorem D1 (K:Nat) {fuel:Nat} {v:Value} {x:DataW H × List MemPlace} (hK:fuel<=K) (h:DataW.trod enc Tryz.prog W 0 (fun _=>true) true fuel 29 [v]=some x):∃ l,AC W K K v l:=by
 obtain ⟨l,hl⟩:=Bu Tryz.underlying29 Tryz.cells71 (by omega) h (.agg []) (RS W K K) fun m cs y hm hy=>by
  obtain ⟨d,hd⟩:=H8 K m cs y (by omega) hy
  exact ⟨d,RS.mono (fun _ _ h=>h) m K _ _ (by omega) hd⟩
 exact ⟨l,JL hl⟩
theorem FY (K:Nat) {fuel:Nat} {v:Value} {x:DataW H × List MemPlace} (hK:fuel<=K) (h:DataW.trod enc Tryz.prog W 0 (fun _=>true) true fuel 28 [v]=some x):∃ l,AP W K K v l:=by
 obtain ⟨l,hl⟩:=Bu Tryz.underlying28 Tryz.cells80 (by omega) h ⟨[],[],.agg []⟩ (fun cs (f:FnD)=>∃ vP vB x0 x1 x2,cs=[vP,vB,x0,x1,x2]/\Ar W vP f.ps/\Kw vP f.ps/\AC W K K vB f.body/\RX W K [x0,x1,x2] f.res) fun m cs y hm hy=>by
  obtain ⟨xs,n,rfl,-,hl,hxl,hf⟩:=DataW.trod_struct Tryz.underlying105 hy
  rw [Tryz.cells80] at hl
  match cs,hl,xs,hxl with
  | [c0,c1,c2,c3,c4],_,[y0,y1,y2],_=>
   have h0:=hf 0 _ rfl
   have h1:=hf 1 _ rfl
   have h2:=hf 2 _ rfl
   simp [Tryz.cells25,Tryz.cells29,Tryz.cells54] at h0 h1 h2
   obtain ⟨ps,hps⟩:=CO h0
   obtain ⟨bd,hbd⟩:=D1 K (by omega) h1
   obtain ⟨e,he⟩:=DS n _ _ h2
   refine ⟨⟨ps,bd,e⟩,c0,c1,c2,c3,c4,rfl,Fu hps,?_,hbd,RX.mono (fun _ _ h=>h) n K _ _ (by omega) he⟩
   obtain ⟨hm2,ao,cap,hv,h5,h6,-⟩:=hps
   exact ⟨hm2,ao,cap,hv,h5,h6⟩
 obtain ⟨hm,ao,cap,hv,-,-,-,hc⟩:=hl
 refine ⟨l,hm,ao,cap,hv,fun hne=>?_⟩
 obtain ⟨b,off,hb,hel⟩:=hc hne
 refine ⟨b,off,hb,fun i hi=>?_⟩
 obtain ⟨cs,-,hcs,vP,vB,x0,x1,x2,rfl,h1,h2,h3,h4⟩:=hel i l[i] (List.getElem?_eq_getElem hi)
 exact ⟨vP,vB,x0,x1,x2,hcs 0 _ rfl,hcs 1 _ rfl,hcs 2 _ rfl,hcs 3 _ rfl,hcs 4 _ rfl,h1,h2,h3,h4⟩
end
section
variable {H:Type} {enc:TypeId × Value->H} {W:World}
theorem BD {TS E:Nat} (hU:Tryz.prog.underlying TS=some (.slice E)) {fuel:Nat} {v:Value} {x:DataW H × List MemPlace} (h:DataW.trod enc Tryz.prog W 0 (fun _=>true) true fuel TS [v]=some x):∃ a n c,v=O a n c:=by
 rcases DataW.trod_slice hU h with ⟨hcs,-⟩ | ⟨ad,len,cap,elems,rest,m,rfl,hcs,-⟩
 ·simp at hcs
  exact ⟨_,_,_,hcs⟩
 ·simp at hcs
  exact ⟨_,_,_,hcs⟩
theorem H9 {fuel:Nat} {cs:List Value} {x:DataW H × List MemPlace} (h:DataW.trod enc Tryz.prog W 0 (fun _=>true) true fuel 31 cs=some x) :
  ∃ (m:Int) (ga:Option Addr) (gn gc:Nat) (sa:Option Addr) (sn sc:Nat) (ya:Option Addr) (yn yc:Nat) (oa:Option Addr) (on oc:Nat) (va:Option Addr) (vn vc:Nat) (fa:Option Addr) (fn fc:Nat) (ba:Option Addr) (bn bc:Nat) (gs:List (Int × Int)) (sp:List Int) (ls ms:List Lab) (vs:List (Bool × Lab)) (fs:List FnD) (l:List D),cs=[zd U m,O ga gn gc,O sa sn sc,O ya yn yc,O oa on oc,O va vn vc,O fa fn fc,O ba bn bc]/\A1 fuel fuel m ga gn gc sa sn sc ya yn yc oa on oc va vn vc fa fn fc ba bn bc gs sp ls ms vs fs l W:=by
 obtain ⟨xs,n,rfl,-,hl,hxl,hf⟩:=DataW.trod_struct Tryz.underlying31 h
 rw [Tryz.cells31] at hl
 match cs,hl,xs,hxl with
 | [c0,c1,c2,c3,c4,c5,c6,c7],_,[y0,y1,y2,y3,y4,y5,y6],_=>
  have h0:=hf 0 _ rfl
  have h1:=hf 1 _ rfl
  have h2:=hf 2 _ rfl
  have h3:=hf 3 _ rfl
  have h4:=hf 4 _ rfl
  have h5:=hf 5 _ rfl
  have h6:=hf 6 _ rfl
  simp [Tryz.cells24,Tryz.cells25,Tryz.cells26,Tryz.cells27,Tryz.cells28,Tryz.cells29] at h0 h1 h2 h3 h4 h5 h6
  obtain ⟨zs,n2,rfl,-,hl2,hzl,hf2⟩:=DataW.trod_struct Tryz.underlying24 h0
  match zs,hzl with
  | [z0,z1],_=>
   have g0:=hf2 0 _ rfl
   have g1:=hf2 1 _ rfl
   simp [Tryz.cells3',Tryz.cells22] at g0 g1
   obtain ⟨m,e0,hm⟩:=BT g0
   simp at e0
   subst e0
   obtain ⟨ga,gn,gc,rfl⟩:=BD Tryz.underlying22 g1
   obtain ⟨sa,sn,sc,rfl⟩:=BD Tryz.underlying25 h1
   obtain ⟨ya,yn,yc,rfl⟩:=BD Tryz.underlying26 h2
   obtain ⟨oa,on,oc,rfl⟩:=BD Tryz.underlying26 h3
   obtain ⟨va,vn,vc,rfl⟩:=BD Tryz.underlying27 h4
   obtain ⟨fa,fn,fc,rfl⟩:=BD Tryz.underlying28 h5
   obtain ⟨ba,bn,bc,rfl⟩:=BD Tryz.underlying29 h6
   obtain ⟨gs,hgs⟩:=Fk g1
   obtain ⟨sp,hsp⟩:=CO h1
   obtain ⟨ls,hls,hln⟩:=Eo h2
   obtain ⟨ms,hms,hmn⟩:=Eo h3
   obtain ⟨vs,hvs⟩:=GE h4
   obtain ⟨fs,hfs⟩:=FY (n2+1+1) (by omega) h5
   obtain ⟨l,hl⟩:=D1 (n2+1+1) (by omega) h6
   exact ⟨m,ga,gn,gc,sa,sn,sc,ya,yn,yc,oa,on,oc,va,vn,vc,fa,fn,fc,ba,bn,bc,gs,sp,ls,ms,vs,fs,l,rfl,hm,hgs,Fu hsp,by have:=hsp.1;unfold maxLen at this;omega,hls,hms,hvs,hfs,hl,hln,hmn⟩
theorem open_program {r:Go.Reach} {b0:Nat} {v:Value} {d:DataW H} {p:List MemPlace} (hv:Value.okWide Tryz.prog W r b0 31 v) (h:DataW.Trod enc Tryz.prog W 0 (fun _=>true) true 31 v d p) :
  ∃ (K:Nat) (m:Int) (ga:Option Addr) (gn gc:Nat) (sa:Option Addr) (sn sc:Nat) (ya:Option Addr) (yn yc:Nat) (oa:Option Addr) (on oc:Nat) (va:Option Addr) (vn vc:Nat) (fa:Option Addr) (fn fc:Nat) (ba:Option Addr) (bn bc:Nat) (gs:List (Int × Int)) (sp:List Int) (ls ms:List Lab) (vs:List (Bool × Lab)) (fs:List FnD) (l:List D),v=zg #[zd U m,O ga gn gc,O sa sn sc,O ya yn yc,O oa on oc,O va vn vc,O fa fn fc,O ba bn bc]/\A1 K K m ga gn gc sa sn sc ya yn yc oa on oc va vn vc fa fn fc ba bn bc gs sp ls ms vs fs l W:=by
 obtain ⟨cs,rfl,hsz⟩:=okWide_struct Tryz.underlying31 hv
 obtain ⟨fuel,hf⟩:=h
 have hf2:DataW.trod enc Tryz.prog W 0 (fun _=>true) true fuel 31 cs.toList=some (d,p):=by simpa [Value.cells] using hf
 obtain ⟨m,ga,gn,gc,sa,sn,sc,ya,yn,yc,oa,on,oc,va,vn,vc,fa,fn,fc,ba,bn,bc,gs,sp,ls,ms,vs,fs,l,hcs,hp⟩:=H9 hf2
 refine ⟨fuel,m,ga,gn,gc,sa,sn,sc,ya,yn,yc,oa,on,oc,va,vn,vc,fa,fn,fc,ba,bn,bc,gs,sp,ls,ms,vs,fs,l,?_,hp⟩
 have:cs=#[zd U m,O ga gn gc,O sa sn sc,O ya yn yc,O oa on oc,O va vn vc,O fa fn fc,O ba bn bc]:=by
  cases cs
  simp_all
 rw [this]
end
end Go.Proofs.YtfffpjkcfnekaaaGreat.Ex
namespace Go.Proofs.YtfffpjkcfnekaaaGreat.Ex.Ez
open Go.RowKit
open Go.Value renaming slice -> O, int -> zd, bool -> ze, agg -> zg, pointer -> zi, tuple -> zj
open Go.IntKind renaming i64 -> U
open Go.Obj renaming cells -> zf
open Go.Ending renaming returned -> zh
def Bw (E:Int) (w:World) (e:Ending) (w':World):Prop:=((E=0/\e=zh (zj #[]))\/(E≠0/\e=Ah E))/\Ov w w'
theorem Bw.imp {p q:Int} {w:World} {e:Ending} {w':World} (h:Bw p w e w') (hpq:p=q):Bw q w e w':=by
 subst hpq
 exact h
def Bl (l:List Int):Int:=(l.find? (fun x=>decide (x≠0))).getD 0
theorem CD {l:List Int} (h:∀ x∈l,x=0):Bl l=0:=by
 unfold Bl
 rw [List.find?_eq_none.2 (fun x hx=>by simp [h x hx])]
 rfl
theorem BK (l m:List Int):Bl (l++m)=if Bl l=0 then Bl m else Bl l:=by
 unfold Bl
 rw [List.find?_append]
 cases h:l.find? (fun x=>decide (x≠0)) with
 | none=>simp
 | some v=>
  have:=List.find?_some h
  have hv:v≠0:=by simpa using this
  simp [hv]
theorem BE (x:Int):Bl [x]=x:=by
 unfold Bl
 by_cases h:x=0
 ·simp [h]
 ·simp [h]
theorem Cx {l:List Int}:Bl l=0 ↔ ∀ x∈l,x=0:=by
 refine ⟨fun h x hx=>?_,CD⟩
 induction l with
 | nil=>simp at hx
 | cons a l ih=>
  have e:a::l=[a]++l:=rfl
  rw [e,BK,BE] at h
  by_cases ha:a=0
  ·rw [if_pos ha] at h
   rcases List.mem_cons.1 hx with rfl | hx
   ·exact ha
   ·exact ih h hx
  ·rw [if_neg ha] at h
   exact absurd h ha
theorem Da {α:Type} {f:α->Int} {das:List α} {n:Nat} (hn:n < das.length) (h0:∀ a∈das.take n,f a=0) (h1:f das[n]≠0):Bl (das.map f)=f das[n]:=by
 have e:das.map f=(das.take n).map f++([f das[n]]++(das.drop (n+1)).map f):=by
  have h:=List.take_append_drop n das
  rw [List.drop_eq_getElem_cons hn] at h
  have h2:=congrArg (List.map f) h
  simp only [List.map_append,List.map_cons] at h2
  exact h2.symm
 rw [e,BK,if_pos (CD (by intro x hx;obtain ⟨a,ha,rfl⟩:=List.mem_map.1 hx;exact h0 a ha)),BK,BE,if_neg h1]
theorem AI (K:Nat) (m:Int) (ga gn gc sa sn sc ya yn yc oa on oc va vn vc fa fn fc ba bn bc) (cs:List Value) (d) (w:World) (h:RX w K cs d) (hv:vn<=9223372036854775807):Calls Tryz.prog 219 #[zg #[zd U m,O ga gn gc,O sa sn sc,O ya yn yc,O oa on oc,O va vn vc,O fa fn fc,O ba bn bc],.agg cs.toArray] w (Bw (Al vn K d) w):=by
 have K1:=Aa fun W hB=>check_any K cs d W (vn:Int) (by omega) (by omega) (h.over hB)
 have K2:=Aa Cy
 obtain ⟨xa,xc,rfl⟩:=h.form
 obtain ⟨ek,hek⟩:=nm (Au d)
 obtain ⟨en,hen⟩:=nm (AG d)
 obtain ⟨xl,hxl⟩:=nm ((Ax d).length)
 rw [<-hek,<-hen,<-hxl] at K1 ⊢
 clear hek hen hxl h
 obtain ⟨r,hr⟩:=nm (Al vn K d)
 rw [<-hr] at K1 ⊢
 clear hr
 have hbel:Ov w ((w.alloc (zf #[zd U m,O ga gn gc,O sa sn sc,O ya yn yc,O oa on oc,O va vn vc,O fa fn fc,O ba bn bc] 184)).alloc (zf #[zd U ek,zd U en,O xa xl xc] 94)):=(bA w _).alloc (by simp) _
 show Calls Tryz.prog 219 #[zg #[zd U m,O ga gn gc,O sa sn sc,O ya yn yc,O oa on oc,O va vn vc,O fa fn fc,O ba bn bc],zg #[zd U ek,zd U en,O xa xl xc]] w _
 go_enter Tryz.func219,Tryz.ntmps219
 go_wp2_with fail
 refine (K1.o _ hbel).mono ?_
 rintro e w1 ⟨rfl,hb1⟩
 have hB1:=hbel.trans (hb1.mono hbel.size)
 go_wp2_with fail
 refine (K2.o _ _).mono ?_
 rintro e wz ⟨he,rfl⟩
 rcases he with ⟨h0,rfl⟩ | ⟨h0,rfl⟩
 ·have h1:r=0:=by simpa using h0
  clear h0
  subst h1
  go_wp2_with fail
  go_end0
  exact ⟨Or.inl ⟨by first | rfl | trivial,rfl⟩,hB1⟩
 ·have h1:r≠0:=by simpa using h0
  unfold Ah
  go_wp2_with fail
  exact ⟨rfl,Or.inr ⟨h1,rfl⟩,hB1⟩
end Go.Proofs.YtfffpjkcfnekaaaGreat.Ex.Ez
