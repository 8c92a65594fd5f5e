/- A program that was handed in lies in memory as such. -/
import Derived.Test.YtfffpjkcfnekaaaGreatB05
import Derived.Deep.SlicePairs
import Derived.Deep.RegionHeld2
set_option linter.unusedVariables false
set_option maxHeartbeats 8000000
set_option maxRecDepth 100000
namespace Go.Proofs.YtfffpjkcfnekaaaGreat.Ex
open Go.RowKit Go.ChangeShapes Go.WideShapes
open Go.Value renaming slice -> O, int -> U, bool -> zg, agg -> zh, pointer -> zi, tuple -> zk
open Go.IntKind renaming i64 -> zd
open Go.Obj renaming cells -> ze
open Go.Ending renaming returned -> zj
theorem Tryz.cells25:Tryz.prog.cellsOf 25=1:=by kernel_rfl
theorem Tryz.cells26:Tryz.prog.cellsOf 26=1:=by kernel_rfl
theorem Tryz.cells27:Tryz.prog.cellsOf 27=1:=by kernel_rfl
theorem Tryz.cells28:Tryz.prog.cellsOf 28=1:=by kernel_rfl
theorem Tryz.cells29:Tryz.prog.cellsOf 29=1:=by kernel_rfl
theorem Tryz.cells22:Tryz.prog.cellsOf 22=1:=by kernel_rfl
theorem Tryz.cells52:Tryz.prog.cellsOf 92=1:=by kernel_rfl
theorem Tryz.cells65:Tryz.prog.cellsOf 37=1:=by kernel_rfl
theorem Tryz.cells4:Tryz.prog.cellsOf 4=1:=by kernel_rfl
theorem Tryz.cells3':Tryz.prog.cellsOf 3=1:=by kernel_rfl
theorem Tryz.cells24:Tryz.prog.cellsOf 24=2:=by kernel_rfl
theorem Tryz.cells54:Tryz.prog.cellsOf 94=3:=by kernel_rfl
theorem Tryz.cells67:Tryz.prog.cellsOf 39=2:=by kernel_rfl
theorem Tryz.cells122:Tryz.prog.cellsOf 87=2:=by kernel_rfl
theorem Tryz.cells71:Tryz.prog.cellsOf 130=9:=by kernel_rfl
theorem Tryz.cells80:Tryz.prog.cellsOf 105=5:=by kernel_rfl
theorem Tryz.cells69:Tryz.prog.cellsOf 41=3:=by kernel_rfl
theorem Tryz.cells101:Tryz.prog.cellsOf 169=2:=by kernel_rfl
theorem Tryz.cells31:Tryz.prog.cellsOf 31=8:=by kernel_rfl
def LAt {α:Type} (s:Nat) (R:List Value->α->Prop) (W:World) (v:Value) (ds:List α):Prop:=
 ds.length<=maxLen/\∃ ao cap,v=O ao ds.length cap/\ds.length<=cap/\cap<=maxLen/\(ao=none->cap=0)/\(ds≠[]->∃ b off,ao=some ⟨b,off,none⟩ /\
  ∀ (i:Nat) (d:α),ds[i]? = some d->∃ cs:List Value,cs.length=s/\(∀ (j:Nat) (u:Value),cs[j]? = some u->W.cell? ⟨b,off+i*s+j,none⟩=some u)/\R cs d)
section
variable {H:Type} {enc:TypeId × Value->H} {W:World}
theorem BK {α:Type} {TS E s:Nat} (hU:Tryz.prog.underlying TS=some (.slice E)) (hc:Tryz.prog.cellsOf E=s) (hs:0 < s) {fuel:Nat} {v:Value} {x:DataW H × List MemPlace} (h:DataW.trod enc Tryz.prog W 0 (fun _=>true) true fuel TS [v]=some x)
  (d0:α) (R:List Value->α->Prop) (hel:∀ (m:Nat) (cs:List Value) (y:DataW H × List MemPlace),m < fuel->DataW.trod enc Tryz.prog W 0 (fun _=>true) true m E cs=some y->∃ d,R cs d):∃ ds:List α,LAt s R W v ds:=by
 haveI:Inhabited α:=⟨d0⟩
 rcases DataW.trod_slice hU h with ⟨hcs,-⟩ | ⟨ad,len,cap,elems,rest,m,rfl,hcs,-,-,hlc,hcm,hen,hat,-,-⟩
 ·simp at hcs
  subst hcs
  exact ⟨[],by simp,none,0,rfl,by simp,by unfold maxLen;omega,fun _=>rfl,fun h=>absurd rfl h⟩
 ·simp at hcs
  subst hcs
  rw [hc] at hat
  have hget:∀ i,i < len->∃ d:α,∃ cs:List Value,cs.length=s/\(∀ (j:Nat) (u:Value),cs[j]? = some u->W.cell? (ad.add (i*s+j))=some u)/\R cs d:=fun i hi=>by
   have hi2:=hat i hi
   rw [List.getElem?_eq_getElem (by omega),Option.bind_eq_some_iff] at hi2
   obtain ⟨cs,hcc,ht⟩:=hi2
   obtain ⟨-,hlen,hcell⟩:=World.cells?_some hcc
   obtain ⟨d,hd⟩:=hel m cs _ (Nat.lt_succ_self _) ht
   refine ⟨d,cs,hlen,fun j u hu=>?_,hd⟩
   have hj:j < s:=by have:=(List.getElem?_eq_some_iff.1 hu).1;omega
   have hk:=hcell j hj
   rw [hu] at hk
   rw [Addr.add_add] at hk
   exact hk
  obtain ⟨f,hf⟩:=Deep.choose_lt hget
  refine ⟨(List.range len).map f,by simp;omega,some ad,cap,by simp,by simpa using hlc,hcm,fun h=>absurd h (by simp),fun hne=>?_⟩
  have h0:0 < len:=by
   rcases Nat.eq_zero_or_pos len with h | h
   ·subst h;simp at hne
   ·exact h
  have hp:∃ b off,ad=⟨b,off,none⟩:=by
   obtain ⟨cs,hl,hcl,-⟩:=hf 0 h0
   obtain ⟨u,hu⟩:∃ u,cs[0]? = some u:=⟨cs[0]'(by omega),List.getElem?_eq_getElem (by omega)⟩
   have hk:=hcl 0 u hu
   have hsp:ad.spot=none:=by simpa [Addr.add] using World.cell?_spot hk
   obtain ⟨b,off,sp⟩:=ad
   simp only at hsp
   subst hsp
   exact ⟨b,off,rfl⟩
  obtain ⟨bb,off,rfl⟩:=hp
  refine ⟨bb,off,rfl,fun i d hd=>?_⟩
  have hi:i < len:=by
   have:=(List.getElem?_eq_some_iff.1 hd).1
   simpa using this
  have hd':d=f i:=by
   rw [List.getElem?_map,List.getElem?_range hi] at hd
   simpa using hd.symm
  subst hd'
  obtain ⟨cs,hl,hcl,hr⟩:=hf i hi
  exact ⟨cs,hl,fun j u hu=>by have:=hcl j u hu;rw [Addr.add_lit] at this;simpa [Nat.add_assoc] using this,hr⟩
theorem Ib {v:Value} {l:List Int} (h:LAt 1 (fun cs x=>cs=[U zd x]) W v l):AQ W v l:=by
 obtain ⟨-,ao,cap,hv,-,-,-,hc⟩:=h
 refine ⟨ao,cap,hv,fun hne=>?_⟩
 obtain ⟨b,off,hb,hel⟩:=hc hne
 refine ⟨b,off,hb,fun i hi=>?_⟩
 obtain ⟨cs,-,hcs,rfl⟩:=hel i l[i] (List.getElem?_eq_getElem hi)
 have:=hcs 0 _ rfl
 simpa using this
theorem Cj {m:Nat} {cs:List Value} {y:DataW H × List MemPlace} (h:DataW.trod enc Tryz.prog W 0 (fun _=>true) true m 3 cs=some y):∃ n:Int,cs=[U zd n]/\Ce n:=by
 obtain ⟨n,e,-,hw⟩:=DataW.trod_int Tryz.underlying3 h
 exact ⟨n,e,Pu hw⟩
theorem Du {fuel:Nat} {v:Value} {x:DataW H × List MemPlace} (h:DataW.trod enc Tryz.prog W 0 (fun _=>true) true fuel 25 [v]=some x):∃ l:List Int,LAt 1 (fun cs x=>cs=[U zd x]) W v l:=
 BK Tryz.underlying25 Tryz.cells3' (by omega) h 0 _ fun m cs y _ hy=>by obtain ⟨n,e,-⟩:=Cj hy;exact ⟨n,e⟩
theorem H4 {fuel:Nat} {v:Value} {x:DataW H × List MemPlace} (h:DataW.trod enc Tryz.prog W 0 (fun _=>true) true fuel 22 [v]=some x):∃ l:List (Int × Int),AF W v l:=by
 obtain ⟨l,hl⟩:=BK Tryz.underlying22 Tryz.cells101 (by omega) h (0,0) (fun cs (x:Int × Int)=>cs=[U zd x.1,U zd x.2]) fun m cs y _ hy=>by
  obtain ⟨xs,n,rfl,-,hl,hxl,hf⟩:=DataW.trod_struct Tryz.underlying169 hy
  rw [Tryz.cells101] at hl
  match cs,hl,xs,hxl with
  | [c0,c1],_,[y0,y1],_=>
   have h0:=hf 0 _ rfl
   have h1:=hf 1 _ rfl
   simp [Tryz.cells3'] at h0 h1
   obtain ⟨a,e0,-⟩:=Cj h0
   obtain ⟨b,e1,-⟩:=Cj h1
   simp at e0 e1
   subst e0
   subst e1
   exact ⟨(a,b),rfl⟩
 obtain ⟨-,ao,cap,hv,-,-,-,hc⟩:=hl
 refine ⟨l,ao,cap,hv,fun hne=>?_⟩
 obtain ⟨b,off,hb,hel⟩:=hc hne
 refine ⟨b,off,hb,fun i hi=>?_⟩
 obtain ⟨cs,-,hcs,rfl⟩:=hel i l[i] (List.getElem?_eq_getElem hi)
 exact ⟨hcs 0 _ rfl,hcs 1 _ rfl⟩
theorem F8 {fuel:Nat} {v:Value} {x:DataW H × List MemPlace} (h:DataW.trod enc Tryz.prog W 0 (fun _=>true) true fuel 37 [v]=some x):∃ l:List Pol,AN W v l:=by
 obtain ⟨l,hl⟩:=BK Tryz.underlying37 Tryz.cells122 (by omega) h ⟨0,[]⟩ (fun cs (x:Pol)=>∃ u,cs=[U zd x.owner,u]/\AQ W u x.names) fun m cs y _ hy=>by
  obtain ⟨xs,n,rfl,-,hl,hxl,hf⟩:=DataW.trod_struct Tryz.underlying87 hy
  rw [Tryz.cells122] at hl
  match cs,hl,xs,hxl with
  | [c0,c1],_,[y0,y1],_=>
   have h0:=hf 0 _ rfl
   have h1:=hf 1 _ rfl
   simp [Tryz.cells3',Tryz.cells25] at h0 h1
   obtain ⟨a,e0,-⟩:=Cj h0
   simp at e0
   subst e0
   obtain ⟨ns,hns⟩:=Du h1
   exact ⟨⟨a,ns⟩,c1,rfl,Ib hns⟩
 obtain ⟨-,ao,cap,hv,-,-,-,hc⟩:=hl
 refine ⟨l,ao,cap,hv,fun hne=>?_⟩
 obtain ⟨b,off,hb,hel⟩:=hc hne
 refine ⟨b,off,hb,fun i hi=>?_⟩
 obtain ⟨cs,-,hcs,u,rfl,hu⟩:=hel i l[i] (List.getElem?_eq_getElem hi)
 exact ⟨hcs 0 _ rfl,u,hcs 1 _ rfl,hu⟩
theorem IR {m:Nat} {cs:List Value} {y:DataW H × List MemPlace} (h:DataW.trod enc Tryz.prog W 0 (fun _=>true) true m 39 cs=some y):∃ (l:Lab) (pr pw:Value),cs=[pr,pw]/\AN W pr l.r/\AN W pw l.w:=by
 obtain ⟨xs,n,rfl,-,hl,hxl,hf⟩:=DataW.trod_struct Tryz.underlying39 h
 rw [Tryz.cells67] at hl
 match cs,hl,xs,hxl with
 | [c0,c1],_,[y0,y1],_=>
  have h0:=hf 0 _ rfl
  have h1:=hf 1 _ rfl
  simp [Tryz.cells65] at h0 h1
  obtain ⟨a,ha⟩:=F8 h0
  obtain ⟨b,hb⟩:=F8 h1
  exact ⟨⟨a,b⟩,c0,c1,rfl,ha,hb⟩
theorem F9 {fuel:Nat} {ao:Option Addr} {n cap:Nat} {x:DataW H × List MemPlace} (h:DataW.trod enc Tryz.prog W 0 (fun _=>true) true fuel 26 [O ao n cap]=some x):∃ l:List Lab,AW W (O ao n cap) l/\(ao=none->cap=0):=by
 obtain ⟨l,hl⟩:=BK Tryz.underlying26 Tryz.cells67 (by omega) h ⟨[],[]⟩ (fun cs (l:Lab)=>∃ pr pw,cs=[pr,pw]/\AN W pr l.r/\AN W pw l.w) fun m cs y _ hy=>IR hy
 obtain ⟨hm,ao',cap',hv,-,-,hz,hc⟩:=hl
 injection hv with e1 e2 e3
 subst e1 e2 e3
 refine ⟨l,⟨hm,ao,cap,rfl,fun hne=>?_⟩,hz⟩
 obtain ⟨b,off,hb,hel⟩:=hc hne
 refine ⟨b,off,hb,fun i hi=>?_⟩
 obtain ⟨cs,-,hcs,pr,pw,rfl,h1,h2⟩:=hel i l[i] (List.getElem?_eq_getElem hi)
 exact ⟨pr,pw,hcs 0 _ rfl,hcs 1 _ rfl,h1,h2⟩
theorem Jz {fuel:Nat} {v:Value} {x:DataW H × List MemPlace} (h:DataW.trod enc Tryz.prog W 0 (fun _=>true) true fuel 27 [v]=some x):∃ l:List (Bool × Lab),Bh W v l:=by
 obtain ⟨l,hl⟩:=BK Tryz.underlying27 Tryz.cells69 (by omega) h (false,⟨[],[]⟩) (fun cs (l:Bool × Lab)=>∃ pr pw,cs=[zg l.1,pr,pw]/\AN W pr l.2.r/\AN W pw l.2.w) fun m cs y _ hy=>by
  obtain ⟨xs,n,rfl,-,hl,hxl,hf⟩:=DataW.trod_struct Tryz.underlying41 hy
  rw [Tryz.cells69] at hl
  match cs,hl,xs,hxl with
  | [c0,c1,c2],_,[y0,y1],_=>
   have h0:=hf 0 _ rfl
   have h1:=hf 1 _ rfl
   simp [Tryz.cells4,Tryz.cells67] at h0 h1
   obtain ⟨b,e0,-⟩:=DataW.trod_bool Tryz.underlying4 h0
   simp at e0
   subst e0
   obtain ⟨lb,pr,pw,e1,h2,h3⟩:=IR h1
   simp at e1
   obtain ⟨rfl,rfl⟩:=e1
   exact ⟨(b,lb),c1,c2,rfl,h2,h3⟩
 obtain ⟨hm,ao,cap,hv,-,-,-,hc⟩:=hl
 refine ⟨l,hm,ao,cap,hv,fun hne=>?_⟩
 obtain ⟨b,off,hb,hel⟩:=hc hne
 refine ⟨b,off,hb,fun i hi=>?_⟩
 obtain ⟨cs,-,hcs,pr,pw,rfl,h1,h2⟩:=hel i l[i] (List.getElem?_eq_getElem hi)
 exact ⟨pr,pw,hcs 0 _ rfl,hcs 1 _ rfl,hcs 2 _ rfl,h1,h2⟩
theorem ND {s:Nat} {R:List Value->D->Prop} {v:Value} {l:List D} (h:LAt s R W v l):XS s R W v l:=by
 obtain ⟨hm,ao,cap,hv,-,-,-,hc⟩:=h
 exact ⟨hm,ao,cap,hv,hc⟩
theorem Lt (K:Nat):∀ (fuel:Nat) (cs:List Value) (x:DataW H × List MemPlace),fuel<=K->DataW.trod enc Tryz.prog W 0 (fun _=>true) true fuel 130 cs=some x->∃ d,RS W K fuel cs d:=by
 intro fuel
 induction fuel using Nat.strongRecOn with
 | ind fuel ih=>
  intro cs x hK h
  obtain ⟨xs,n,rfl,-,hl,hxl,hf⟩:=DataW.trod_struct Tryz.underlying130 h
  rw [Tryz.cells71] at hl
  match cs,hl,xs,hxl with
  | [c0,c1,c2,c3,c4,c5,c6,c7,c8],_,[y0,y1,y2,y3,y4,y5,y6],_=>
   have h0:=hf 0 _ rfl
   have h1:=hf 1 _ rfl
   have h2:=hf 2 _ rfl
   have h3:=hf 3 _ rfl
   have h4:=hf 4 _ rfl
   have h5:=hf 5 _ rfl
   have h6:=hf 6 _ rfl
   simp [Tryz.cells3',Tryz.cells54,Tryz.cells52,Tryz.cells29] at h0 h1 h2 h3 h4 h5 h6
   obtain ⟨kd,e0,w0⟩:=Cj h0
   obtain ⟨va,e1,w1⟩:=Cj h1
   obtain ⟨ot,e2,w2⟩:=Cj h2
   simp at e0 e1 e2
   subst e0
   subst e1
   subst e2
   obtain ⟨e,he⟩:=Fe n _ _ h3
   obtain ⟨ags,hA⟩:=BK Tryz.underlying92 Tryz.cells54 (by omega) h4 (.agg []) (RX W K) fun m cs y hm hy=>by
    obtain ⟨d,hd⟩:=Fe m _ _ hy
    exact ⟨d,RX.mono (fun _ _ h=>h) m K _ _ (by omega) hd⟩
   obtain ⟨ts,hT⟩:=BK Tryz.underlying29 Tryz.cells71 (by omega) h5 (.agg []) (RS W K n) fun m cs y hm hy=>by
    obtain ⟨d,hd⟩:=ih m (by omega) cs y (by omega) hy
    exact ⟨d,RS.mono (fun _ _ h=>h) m n _ _ (by omega) hd⟩
   obtain ⟨es,hE⟩:=BK Tryz.underlying29 Tryz.cells71 (by omega) h6 (.agg []) (RS W K n) fun m cs y hm hy=>by
    obtain ⟨d,hd⟩:=ih m (by omega) cs y (by omega) hy
    exact ⟨d,RS.mono (fun _ _ h=>h) m n _ _ (by omega) hd⟩
   exact ⟨sD kd va ot e ags ts es,kd,va,ot,c3,c4,c5,e,c6,ags,c7,ts,c8,es,rfl,rfl,w0,w1,w2,RX.mono (fun _ _ h=>h) n K _ _ (by omega) he,ND hA,ND hT,ND hE⟩
theorem FB (K:Nat) {fuel:Nat} {v:Value} {x:DataW H × List MemPlace} (hK:fuel<=K) (h:DataW.trod enc Tryz.prog W 0 (fun _=>true) true fuel 29 [v]=some x):∃ l,Bd W K K v l:=by
 obtain ⟨l,hl⟩:=BK Tryz.underlying29 Tryz.cells71 (by omega) h (.agg []) (RS W K K) fun m cs y hm hy=>by
  obtain ⟨d,hd⟩:=Lt K m cs y (by omega) hy
  exact ⟨d,RS.mono (fun _ _ h=>h) m K _ _ (by omega) hd⟩
 exact ⟨l,ND hl⟩
theorem IT (K:Nat) {fuel:Nat} {v:Value} {x:DataW H × List MemPlace} (hK:fuel<=K) (h:DataW.trod enc Tryz.prog W 0 (fun _=>true) true fuel 28 [v]=some x):∃ l,Bk W K K v l:=by
 obtain ⟨l,hl⟩:=BK Tryz.underlying28 Tryz.cells80 (by omega) h ⟨[],[],.agg []⟩ (fun cs (f:FnD)=>∃ vP vB x0 x1 x2,cs=[vP,vB,x0,x1,x2]/\AQ W vP f.ps/\Re vP f.ps/\Bd W K K vB f.body/\RX W K [x0,x1,x2] f.res) fun m cs y hm hy=>by
  obtain ⟨xs,n,rfl,-,hl,hxl,hf⟩:=DataW.trod_struct Tryz.underlying105 hy
  rw [Tryz.cells80] at hl
  match cs,hl,xs,hxl with
  | [c0,c1,c2,c3,c4],_,[y0,y1,y2],_=>
   have h0:=hf 0 _ rfl
   have h1:=hf 1 _ rfl
   have h2:=hf 2 _ rfl
   simp [Tryz.cells25,Tryz.cells29,Tryz.cells54] at h0 h1 h2
   obtain ⟨ps,hps⟩:=Du h0
   obtain ⟨bd,hbd⟩:=FB K (by omega) h1
   obtain ⟨e,he⟩:=Fe n _ _ h2
   refine ⟨⟨ps,bd,e⟩,c0,c1,c2,c3,c4,rfl,Ib hps,?_,hbd,RX.mono (fun _ _ h=>h) n K _ _ (by omega) he⟩
   obtain ⟨hm2,ao,cap,hv,h5,h6,-⟩:=hps
   exact ⟨hm2,ao,cap,hv,h5,h6⟩
 obtain ⟨hm,ao,cap,hv,-,-,-,hc⟩:=hl
 refine ⟨l,hm,ao,cap,hv,fun hne=>?_⟩
 obtain ⟨b,off,hb,hel⟩:=hc hne
 refine ⟨b,off,hb,fun i hi=>?_⟩
 obtain ⟨cs,-,hcs,vP,vB,x0,x1,x2,rfl,h1,h2,h3,h4⟩:=hel i l[i] (List.getElem?_eq_getElem hi)
 exact ⟨vP,vB,x0,x1,x2,hcs 0 _ rfl,hcs 1 _ rfl,hcs 2 _ rfl,hcs 3 _ rfl,hcs 4 _ rfl,h1,h2,h3,h4⟩
end
section
variable {H:Type} {enc:TypeId × Value->H} {W:World}
theorem B2 {TS E:Nat} (hU:Tryz.prog.underlying TS=some (.slice E)) {fuel:Nat} {v:Value} {x:DataW H × List MemPlace} (h:DataW.trod enc Tryz.prog W 0 (fun _=>true) true fuel TS [v]=some x):∃ a n c,v=O a n c:=by
 rcases DataW.trod_slice hU h with ⟨hcs,-⟩ | ⟨ad,len,cap,elems,rest,m,rfl,hcs,-⟩
 ·simp at hcs
  exact ⟨_,_,_,hcs⟩
 ·simp at hcs
  exact ⟨_,_,_,hcs⟩
theorem Lu {fuel:Nat} {cs:List Value} {x:DataW H × List MemPlace} (h:DataW.trod enc Tryz.prog W 0 (fun _=>true) true fuel 31 cs=some x) :
  ∃ (m:Int) (ga:Option Addr) (gn gc:Nat) (sa:Option Addr) (sn sc:Nat) (ya:Option Addr) (yn yc:Nat) (oa:Option Addr) (on oc:Nat) (va:Option Addr) (vn vc:Nat) (fa:Option Addr) (fn fc:Nat) (ba:Option Addr) (bn bc:Nat) (gs:List (Int × Int)) (sp:List Int) (ls ms:List Lab) (vs:List (Bool × Lab)) (fs:List FnD) (l:List D),cs=[U zd m,O ga gn gc,O sa sn sc,O ya yn yc,O oa on oc,O va vn vc,O fa fn fc,O ba bn bc]/\Br fuel fuel m ga gn gc sa sn sc ya yn yc oa on oc va vn vc fa fn fc ba bn bc gs sp ls ms vs fs l W:=by
 obtain ⟨xs,n,rfl,-,hl,hxl,hf⟩:=DataW.trod_struct Tryz.underlying31 h
 rw [Tryz.cells31] at hl
 match cs,hl,xs,hxl with
 | [c0,c1,c2,c3,c4,c5,c6,c7],_,[y0,y1,y2,y3,y4,y5,y6],_=>
  have h0:=hf 0 _ rfl
  have h1:=hf 1 _ rfl
  have h2:=hf 2 _ rfl
  have h3:=hf 3 _ rfl
  have h4:=hf 4 _ rfl
  have h5:=hf 5 _ rfl
  have h6:=hf 6 _ rfl
  simp [Tryz.cells24,Tryz.cells25,Tryz.cells26,Tryz.cells27,Tryz.cells28,Tryz.cells29] at h0 h1 h2 h3 h4 h5 h6
  obtain ⟨zs,n2,rfl,-,hl2,hzl,hf2⟩:=DataW.trod_struct Tryz.underlying24 h0
  match zs,hzl with
  | [z0,z1],_=>
   have g0:=hf2 0 _ rfl
   have g1:=hf2 1 _ rfl
   simp [Tryz.cells3',Tryz.cells22] at g0 g1
   obtain ⟨m,e0,hm⟩:=Cj g0
   simp at e0
   subst e0
   obtain ⟨ga,gn,gc,rfl⟩:=B2 Tryz.underlying22 g1
   obtain ⟨sa,sn,sc,rfl⟩:=B2 Tryz.underlying25 h1
   obtain ⟨ya,yn,yc,rfl⟩:=B2 Tryz.underlying26 h2
   obtain ⟨oa,on,oc,rfl⟩:=B2 Tryz.underlying26 h3
   obtain ⟨va,vn,vc,rfl⟩:=B2 Tryz.underlying27 h4
   obtain ⟨fa,fn,fc,rfl⟩:=B2 Tryz.underlying28 h5
   obtain ⟨ba,bn,bc,rfl⟩:=B2 Tryz.underlying29 h6
   obtain ⟨gs,hgs⟩:=H4 g1
   obtain ⟨sp,hsp⟩:=Du h1
   obtain ⟨ls,hls,hln⟩:=F9 h2
   obtain ⟨ms,hms,hmn⟩:=F9 h3
   obtain ⟨vs,hvs⟩:=Jz h4
   obtain ⟨fs,hfs⟩:=IT (n2+1+1) (by omega) h5
   obtain ⟨l,hl⟩:=FB (n2+1+1) (by omega) h6
   exact ⟨m,ga,gn,gc,sa,sn,sc,ya,yn,yc,oa,on,oc,va,vn,vc,fa,fn,fc,ba,bn,bc,gs,sp,ls,ms,vs,fs,l,rfl,hm,hgs,Ib hsp,by have:=hsp.1;unfold maxLen at this;omega,hls,hms,hvs,hfs,hl,hln,hmn⟩
theorem open_program {r:Go.Reach} {b0:Nat} {v:Value} {d:DataW H} {p:List MemPlace} (hv:Value.okWide Tryz.prog W r b0 31 v) (h:DataW.Trod enc Tryz.prog W 0 (fun _=>true) true 31 v d p) :
  ∃ (K:Nat) (m:Int) (ga:Option Addr) (gn gc:Nat) (sa:Option Addr) (sn sc:Nat) (ya:Option Addr) (yn yc:Nat) (oa:Option Addr) (on oc:Nat) (va:Option Addr) (vn vc:Nat) (fa:Option Addr) (fn fc:Nat) (ba:Option Addr) (bn bc:Nat) (gs:List (Int × Int)) (sp:List Int) (ls ms:List Lab) (vs:List (Bool × Lab)) (fs:List FnD) (l:List D),v=zh #[U zd m,O ga gn gc,O sa sn sc,O ya yn yc,O oa on oc,O va vn vc,O fa fn fc,O ba bn bc]/\Br K K m ga gn gc sa sn sc ya yn yc oa on oc va vn vc fa fn fc ba bn bc gs sp ls ms vs fs l W:=by
 obtain ⟨cs,rfl,hsz⟩:=okWide_struct Tryz.underlying31 hv
 obtain ⟨fuel,hf⟩:=h
 have hf2:DataW.trod enc Tryz.prog W 0 (fun _=>true) true fuel 31 cs.toList=some (d,p):=by simpa [Value.cells] using hf
 obtain ⟨m,ga,gn,gc,sa,sn,sc,ya,yn,yc,oa,on,oc,va,vn,vc,fa,fn,fc,ba,bn,bc,gs,sp,ls,ms,vs,fs,l,hcs,hp⟩:=Lu hf2
 refine ⟨fuel,m,ga,gn,gc,sa,sn,sc,ya,yn,yc,oa,on,oc,va,vn,vc,fa,fn,fc,ba,bn,bc,gs,sp,ls,ms,vs,fs,l,?_,hp⟩
 have:cs=#[U zd m,O ga gn gc,O sa sn sc,O ya yn yc,O oa on oc,O va vn vc,O fa fn fc,O ba bn bc]:=by
  cases cs
  simp_all
 rw [this]
end
end Go.Proofs.YtfffpjkcfnekaaaGreat.Ex
namespace Go.Proofs.YtfffpjkcfnekaaaGreat.Ex.Ez
open Go.RowKit
open Go.Value renaming slice -> O, int -> U, bool -> zg, agg -> zh, pointer -> zi, tuple -> zk
open Go.IntKind renaming i64 -> zd
open Go.Obj renaming cells -> ze
open Go.Ending renaming returned -> zj
def CL (E:Int) (w:World) (e:Ending) (w':World):Prop:=((E=0/\e=zj (zk #[]))\/(E≠0/\e=Au E))/\Ov w w'
theorem CL.imp {p q:Int} {w:World} {e:Ending} {w':World} (h:CL p w e w') (hpq:p=q):CL q w e w':=by
 subst hpq
 exact h
def Bu (l:List Int):Int:=(l.find? (fun x=>decide (x≠0))).getD 0
theorem Dj {l:List Int} (h:∀ x∈l,x=0):Bu l=0:=by
 unfold Bu
 rw [List.find?_eq_none.2 (fun x hx=>by simp [h x hx])]
 rfl
theorem Cb (l m:List Int):Bu (l++m)=if Bu l=0 then Bu m else Bu l:=by
 unfold Bu
 rw [List.find?_append]
 cases h:l.find? (fun x=>decide (x≠0)) with
 | none=>simp
 | some v=>
  have:=List.find?_some h
  have hv:v≠0:=by simpa using this
  simp [hv]
theorem B5 (x:Int):Bu [x]=x:=by
 unfold Bu
 by_cases h:x=0
 ·simp [h]
 ·simp [h]
theorem Db {l:List Int}:Bu l=0 ↔ ∀ x∈l,x=0:=by
 refine ⟨fun h x hx=>?_,Dj⟩
 induction l with
 | nil=>simp at hx
 | cons a l ih=>
  have e:a::l=[a]++l:=rfl
  rw [e,Cb,B5] at h
  by_cases ha:a=0
  ·rw [if_pos ha] at h
   rcases List.mem_cons.1 hx with rfl | hx
   ·exact ha
   ·exact ih h hx
  ·rw [if_neg ha] at h
   exact absurd h ha
theorem Eh {α:Type} {f:α->Int} {das:List α} {n:Nat} (hn:n < das.length) (h0:∀ a∈das.take n,f a=0) (h1:f das[n]≠0):Bu (das.map f)=f das[n]:=by
 have e:das.map f=(das.take n).map f++([f das[n]]++(das.drop (n+1)).map f):=by
  have h:=List.take_append_drop n das
  rw [List.drop_eq_getElem_cons hn] at h
  have h2:=congrArg (List.map f) h
  simp only [List.map_append,List.map_cons] at h2
  exact h2.symm
 rw [e,Cb,if_pos (Dj (by intro x hx;obtain ⟨a,ha,rfl⟩:=List.mem_map.1 hx;exact h0 a ha)),Cb,B5,if_neg h1]
theorem BT (K:Nat) (m:Int) (ga gn gc sa sn sc ya yn yc oa on oc va vn vc fa fn fc ba bn bc) (cs:List Value) (d) (w:World) (h:RX w K cs d) (hv:vn<=9223372036854775807):Calls Tryz.prog 219 #[zh #[U zd m,O ga gn gc,O sa sn sc,O ya yn yc,O oa on oc,O va vn vc,O fa fn fc,O ba bn bc],.agg cs.toArray] w (CL (Az vn K d) w):=by
 have K1:=Aa fun W hB=>check_any K cs d W (vn:Int) (by omega) (by omega) (h.over hB)
 have K2:=Aa F6
 obtain ⟨xa,xc,rfl⟩:=h.form
 obtain ⟨ek,hek⟩:=nm (AK d)
 obtain ⟨en,hen⟩:=nm (A6 d)
 obtain ⟨xl,hxl⟩:=nm ((AX d).length)
 rw [<-hek,<-hen,<-hxl] at K1 ⊢
 clear hek hen hxl h
 obtain ⟨r,hr⟩:=nm (Az vn K d)
 rw [<-hr] at K1 ⊢
 clear hr
 have hbel:Ov w ((w.alloc (ze #[U zd m,O ga gn gc,O sa sn sc,O ya yn yc,O oa on oc,O va vn vc,O fa fn fc,O ba bn bc] 184)).alloc (ze #[U zd ek,U zd en,O xa xl xc] 94)):=(bA w _).alloc (by simp) _
 show Calls Tryz.prog 219 #[zh #[U zd m,O ga gn gc,O sa sn sc,O ya yn yc,O oa on oc,O va vn vc,O fa fn fc,O ba bn bc],zh #[U zd ek,U zd en,O xa xl xc]] w _
 go_enter Tryz.func219,Tryz.ntmps219
 go_wp2_with fail
 refine (K1.o _ hbel).mono ?_
 rintro e w1 ⟨rfl,hb1⟩
 have hB1:=hbel.trans (hb1.mono hbel.size)
 go_wp2_with fail
 refine (K2.o _ _).mono ?_
 rintro e wz ⟨he,rfl⟩
 rcases he with ⟨h0,rfl⟩ | ⟨h0,rfl⟩
 ·have h1:r=0:=by simpa using h0
  clear h0
  subst h1
  go_wp2_with fail
  go_end0
  exact ⟨Or.inl ⟨by first | rfl | trivial,rfl⟩,hB1⟩
 ·have h1:r≠0:=by simpa using h0
  unfold Au
  go_wp2_with fail
  exact ⟨rfl,Or.inr ⟨h1,rfl⟩,hB1⟩
theorem Fj {w w0 w1:World} {a0 a1 a2 a3 a4 a5 a6 a7 a8 a9 a10:Addr} {v0 v1 v2 v3 v4 v5 v6 v7 v8 v9 v10:Value}
  (h:w0.cell? a0=some v0/\w0.cell? a1=some v1/\w0.cell? a2=some v2/\w0.cell? a3=some v3/\w0.cell? a4=some v4/\w0.cell? a5=some v5/\w0.cell? a6=some v6/\w0.cell? a7=some v7/\w0.cell? a8=some v8/\w0.cell? a9=some v9/\w0.cell? a10=some v10/\Ov w w0) (hb:Ov w0 w1) :
  w1.cell? a0=some v0/\w1.cell? a1=some v1/\w1.cell? a2=some v2/\w1.cell? a3=some v3/\w1.cell? a4=some v4/\w1.cell? a5=some v5/\w1.cell? a6=some v6/\w1.cell? a7=some v7/\w1.cell? a8=some v8/\w1.cell? a9=some v9/\w1.cell? a10=some v10/\Ov w w1:=by
 obtain ⟨h0,h1,h2,h3,h4,h5,h6,h7,h8,h9,h10,hB⟩:=h
 exact ⟨Ab hb _ _ h0,Ab hb _ _ h1,Ab hb _ _ h2,Ab hb _ _ h3,Ab hb _ _ h4,Ab hb _ _ h5,Ab hb _ _ h6,Ab hb _ _ h7,Ab hb _ _ h8,Ab hb _ _ h9,Ab hb _ _ h10,hB.trans (hb.mono hB.size)⟩
theorem RD {w:World} {n:Nat} {a:Addr} {v:Value} (h:w.cell? a=some v):(w.drewN n).cell? a=some v:=h
theorem PT (K k:Nat) (fs de das) (funcs:Int) (m:Int) (ga gn gc sa sn sc) (ya:Option Addr) (yn yc:Nat) (oa:Option Addr) (on oc:Nat) (va:Option Addr) (vn vc:Nat) (fa fn fc ba bn bc) (vr ot ek en:Int) (xa xl xc aa al ac ta tl tc ea el ec) (w:World) (hv:vn<=9223372036854775807) (i1:Ce vr) (i2:Ce ot) (h0f:0<=funcs) (h1f:funcs<=9223372036854775807) (hyl:yn<=9223372036854775807) (hol:on<=9223372036854775807)
  (hde:RX w K [U zd ek,U zd en,O xa xl xc] de) (hda:XS 3 (RX w K) w (O aa al ac) das) (hfs:Bk w K k (O fa fn fc) fs) (hff:funcs<=fs.length) :
  Calls Tryz.prog 220 #[zh #[U zd m,O ga gn gc,O sa sn sc,O ya yn yc,O oa on oc,O va vn vc,O fa fn fc,O ba bn bc],zh #[U zd 3,U zd vr,U zd ot,U zd ek,U zd en,O xa xl xc,O aa al ac,O ta tl tc,O ea el ec],U zd funcs] w (CL (if (0<=vr/\vr < vn)/\(0<=ot/\ot < (yn:Int)) then if (ek=0/\en=0/\xl=0)/\(al=0)/\(tl=0)/\(el=0) then 0 else 1 else 5) w):=by
 obtain ⟨E,hE⟩:∃ E:Int,E=(if (0<=vr/\vr < vn)/\(0<=ot/\ot < (yn:Int)) then if (ek=0/\en=0/\xl=0)/\(al=0)/\(tl=0)/\(el=0) then 0 else 1 else 5):=⟨_,rfl⟩
 rw [<-hE]
 have HQ:Hx (((0<=vr/\vr < vn)/\(0<=ot/\ot < (yn:Int))/\(ek=0/\en=0/\xl=0)/\(al=0)/\(tl=0)/\(el=0))->E=0):=Aa (fun q=>by rw [hE,if_pos (⟨q.1,q.2.1⟩),if_pos (⟨q.2.2.1,q.2.2.2.1,q.2.2.2.2.1,q.2.2.2.2.2⟩)];try exact rfl)
 have N5:Hx (¬ ((0<=vr/\vr < vn)/\(0<=ot/\ot < (yn:Int)))->E=5):=Aa (fun h=>by rw [hE,if_neg h])
 have N1:Hx (((0<=vr/\vr < vn)/\(0<=ot/\ot < (yn:Int)))->¬ ((ek=0/\en=0/\xl=0)/\(al=0)/\(tl=0)/\(el=0))->E=1):=Aa (fun h h2=>by rw [hE,if_pos h,if_neg h2])
 have NX:Hx (((0<=vr/\vr < vn)/\(0<=ot/\ot < (yn:Int)))->((ek=0/\en=0/\xl=0)/\(al=0)/\(tl=0)/\(el=0))->E=0):=Aa (fun h h2=>by rw [hE,if_pos h,if_pos h2])
 clear hE
 have K1:=Aa MH
 have K2:=Aa BL
 have K3:=Aa Bb
 have K4:=Aa fun W=>B4 3 funcs m ga gn gc sa sn sc ya yn yc oa on oc va vn vc fa fn fc ba bn bc W
 simp only [Int.reduceEq,if_true,if_false] at K4
 have K5:=Aa fun W (hB:Ov w W)=>BT K m ga gn gc sa sn sc ya yn yc oa on oc va vn vc fa fn fc ba bn bc _ _ W (hde.over hB) hv
 have hal:al<=9223372036854775807/\al=das.length:=⟨by obtain ⟨hm,ao,cap,he,-⟩:=hda;injection he with e1 e2 e3;rw [e2];exact hm,by obtain ⟨hm,ao,cap,he,-⟩:=hda;injection he⟩
 obtain ⟨hal,hale⟩:=hal
 have HAL:=Aa hale
 obtain ⟨i1,i1'⟩:=i1
 obtain ⟨i2,i2'⟩:=i2
 clear hde hda hfs hale
 obtain ⟨c0,c1,c2,c3,c4,c5,c6,c7⟩:=rc8 (E6 w [U zd m,O ga gn gc,O sa sn sc,O ya yn yc,O oa on oc,O va vn vc,O fa fn fc,O ba bn bc] 184 (ze #[U zd 3,U zd vr,U zd ot,U zd ek,U zd en,O xa xl xc,O aa al ac,O ta tl tc,O ea el ec] 130))
 obtain ⟨s0,s1,s2,s3,s4,s5,s6,s7,s8⟩:=rc9 (FM w (ze #[U zd m,O ga gn gc,O sa sn sc,O ya yn yc,O oa on oc,O va vn vc,O fa fn fc,O ba bn bc] 184) [U zd 3,U zd vr,U zd ot,U zd ek,U zd en,O xa xl xc,O aa al ac,O ta tl tc,O ea el ec] 130)
 have hbel:Ov w ((w.alloc (ze #[U zd m,O ga gn gc,O sa sn sc,O ya yn yc,O oa on oc,O va vn vc,O fa fn fc,O ba bn bc] 184)).alloc (ze #[U zd 3,U zd vr,U zd ot,U zd ek,U zd en,O xa xl xc,O aa al ac,O ta tl tc,O ea el ec] 130)):=(bA w _).alloc (by simp) _
 go_enter Tryz.func220,Tryz.ntmps220
 go_wp2_with fail
 refine (K1.o _).mono ?_
 rintro e w1 ⟨rfl,hb1⟩
 have hB1:=hbel.trans (hb1.mono hbel.size)
 have hb2:=Ac hb1 (bA w1 (ze #[zg true,zg true,zg false,zg false,zg false,zg false] 288))
 have hB2:=hbel.trans (hb2.mono hbel.size)
 obtain ⟨c0a,c1a,c2a,c3a,c4a,c5a,c6a,c7a,s0a,s1a⟩:=Cy hb2 c0 c1 c2 c3 c4 c5 c6 c7 s0 s1
 obtain ⟨s2a,s3a,s4a,s5a,s6a,s7a,s8a⟩:=co7 hb2 s2 s3 s4 s5 s6 s7 s8
 obtain ⟨h0a,h1a,h2a,h3a,h4a,h5a⟩:=rc6 (BC w1 [zg true,zg true,zg false,zg false,zg false,zg false] 288)
 clear hb1 hb2 hbel hB1 c0 c1 c2 c3 c4 c5 c6 c7 s0 s1 s2 s3 s4 s5 s6 s7 s8
 go_wp2_with fail
 refine (K2.o _ _ _).mono ?_
 rintro e wz ⟨he,rfl⟩
 have he2:=orT he
 subst he2
 clear he
 go_wp2_with fail
 refine (K3.o _ _ _).mono ?_
 rintro e wz ⟨rfl,rfl⟩
 go_wp2_with fail
 refine (K2.o _ _ _).mono ?_
 rintro e wz ⟨he,rfl⟩
 rcases he with ⟨hvar,rfl⟩ | ⟨hz,rfl⟩
 rotate_left
 ·have HN:E=5:=N5.o (by intro hA;(try simp at hz);(try simp at hA);omega)
  subst HN
  clear hz
  unfold Au
  go_wp2_with fail
  exact ⟨rfl,Or.inr ⟨by decide,rfl⟩,hB2⟩
 have hvar2:0<=vr/\vr < vn:=by simpa using hvar
 have HVAR:=Aa hvar2
 clear hvar hvar2
 go_wp2_with fail
 have hr0:=Below.refl (w1.alloc (ze #[zg true,zg true,zg false,zg false,zg false,zg false] 288)).heap.size (w1.alloc (ze #[zg true,zg true,zg false,zg false,zg false,zg false] 288))
 obtain ⟨ob,hob⟩:=nm (decide (0<=ot/\ot < (yn:Int)))
 have K3o:=Aa fun W=>Bb ot (yn:Int) W
 rw [<-hob] at K3o
 have HOB:=Aa hob
 clear hob
 cases ob with
 | false=>
  have HNO:E=5:=N5.o (by intro hA;have hq:=HOB.o;simp at hq;omega)
  subst HNO
  go_region_held2 (fun W=>W.cell? ⟨w.heap.size,0,none⟩=some (U zd m)/\W.cell? ⟨w.heap.size,1,none⟩=some (O ga gn gc)/\W.cell? ⟨w.heap.size,2,none⟩=some (O sa sn sc)/\W.cell? ⟨w.heap.size,3,none⟩=some (O ya yn yc)/\W.cell? ⟨w.heap.size,4,none⟩=some (O oa on oc)/\W.cell? ⟨w.heap.size,5,none⟩=some (O va vn vc)/\W.cell? ⟨w.heap.size,6,none⟩=some (O fa fn fc)/\W.cell? ⟨w.heap.size,7,none⟩=some (O ba bn bc)/\W.cell? ⟨w.heap.size+1,0,none⟩=some (U zd 3)/\W.cell? ⟨w.heap.size+1,2,none⟩=some (U zd ot)/\W.cell? ⟨w1.heap.size,1,none⟩=some (zg true)/\Ov (w1.alloc (ze #[zg true,zg true,zg false,zg false,zg false,zg false] 288)) W) (first | assumption | exact ⟨c0a,c1a,c2a,c3a,c4a,c5a,c6a,c7a,s0a,s2a,h1a,below_drewN hr0 1⟩ | exact Fj (by assumption) hbp | fail) (first | (go_at_call 244;refine (K4.o _).mono ?_;rintro e wp ⟨rfl,hbp⟩) | (go_at_call 173;refine (K3o.o _).mono ?_;rintro e wq ⟨rfl,rfl⟩) | (go_at_call 172;refine (K2.o false 5 _).mono ?_;rintro e wq ⟨he,rfl⟩;rcases he with ⟨hb,rfl⟩ | ⟨hb,rfl⟩;rotate_left;exact ⟨rfl,Or.inr ⟨by decide,rfl⟩,hB2.trans ((by assumption:_/\_/\_/\_/\_/\_/\_/\_/\_/\_/\_/\Below _ _ _).2.2.2.2.2.2.2.2.2.2.2.mono hB2.size)⟩;have hbad:=Aa hb;clear hb))
  exact absurd hbad.o (by simp)
 | true=>
  have hot:0<=ot/\ot < (yn:Int):=by simpa using HOB.o.symm
  have HOT:=Aa hot
  clear hot
  go_region_held3 (fun W=>W.cell? ⟨w.heap.size,0,none⟩=some (U zd m)/\W.cell? ⟨w.heap.size,1,none⟩=some (O ga gn gc)/\W.cell? ⟨w.heap.size,2,none⟩=some (O sa sn sc)/\W.cell? ⟨w.heap.size,3,none⟩=some (O ya yn yc)/\W.cell? ⟨w.heap.size,4,none⟩=some (O oa on oc)/\W.cell? ⟨w.heap.size,5,none⟩=some (O va vn vc)/\W.cell? ⟨w.heap.size,6,none⟩=some (O fa fn fc)/\W.cell? ⟨w.heap.size,7,none⟩=some (O ba bn bc)/\W.cell? ⟨w.heap.size+1,0,none⟩=some (U zd 3)/\W.cell? ⟨w.heap.size+1,2,none⟩=some (U zd ot)/\W.cell? ⟨w1.heap.size,1,none⟩=some (zg true)/\Ov (w1.alloc (ze #[zg true,zg true,zg false,zg false,zg false,zg false] 288)) W) (first | assumption | exact ⟨c0a,c1a,c2a,c3a,c4a,c5a,c6a,c7a,s0a,s2a,h1a,below_drewN hr0 1⟩ | exact Fj (by assumption) hbp | fail) (first | (go_at_call 244;refine (K4.o _).mono ?_;rintro e wp ⟨rfl,hbp⟩) | (go_at_call 173;refine (K3o.o _).mono ?_;rintro e wq ⟨rfl,rfl⟩) | (go_at_call 172;refine (BA 5 _).mono ?_;rintro e wq ⟨rfl,rfl⟩))
  have hb2:=(by assumption:_/\_/\_/\_/\_/\_/\_/\_/\_/\_/\_/\Below _ _ _).2.2.2.2.2.2.2.2.2.2.2
  have hB3:=hB2.trans (hb2.mono hB2.size)
  obtain ⟨c0b,c1b,c2b,c3b,c4b,c5b,c6b,c7b,s0b,s1b⟩:=Cy hb2 c0a c1a c2a c3a c4a c5a c6a c7a s0a s1a
  obtain ⟨s2b,s3b,s4b,s5b,s6b,s7b,s8b,h0b,h1b,h2b⟩:=Cy hb2 s2a s3a s4a s5a s6a s7a s8a h0a h1a h2a
  obtain ⟨h3b,h4b,h5b⟩:=co3 hb2 h3a h4a h5a
  clear hb2 hB2 hr0 c0a c1a c2a c3a c4a c5a c6a c7a s0a s1a s2a s3a s4a s5a s6a s7a s8a h0a h1a h2a h3a h4a h5a
  go_wp2_with fail
  refine (K2.o _ _ _).mono ?_
  rintro e wz ⟨he,rfl⟩
  have he2:=orT he
  subst he2
  clear he
  go_wp2_with fail
  refine (K2.o _ _ _).mono ?_
  rintro e wz ⟨he,rfl⟩
  have he2:=orT he
  subst he2
  clear he
  by_cases z1:ek=0
  rotate_left
  ·have zb:(ek == 0)=false:=by simpa using z1
   have HN:E=1:=N1.o (by first | exact ⟨HVAR.o,HOT.o⟩ | exact HVAR.o | exact HOT.o | trivial) (by intro hA;omega)
   subst HN
   go_wp2_with fail
   refine (K2.o _ _ _).mono ?_
   rintro e wz ⟨he,rfl⟩
   have he2:e=Au 1:=by
    rcases he with ⟨he,_⟩ | ⟨_,he⟩
    ·cases he
    ·exact he
   subst he2
   clear he
   unfold Au
   go_wp2_with fail
   exact ⟨rfl,Or.inr ⟨by decide,rfl⟩,hB3⟩
  have zb1:(ek == 0)=true:=by simpa using z1
  have HZ1:=Aa z1
  clear z1
  by_cases z2:en=0
  rotate_left
  ·have zb:(en == 0)=false:=by simpa using z2
   have HN:E=1:=N1.o (by first | exact ⟨HVAR.o,HOT.o⟩ | exact HVAR.o | exact HOT.o | trivial) (by intro hA;omega)
   subst HN
   go_wp2_with fail
   refine (K2.o _ _ _).mono ?_
   rintro e wz ⟨he,rfl⟩
   have he2:e=Au 1:=by
    rcases he with ⟨he,_⟩ | ⟨_,he⟩
    ·cases he
    ·exact he
   subst he2
   clear he
   unfold Au
   go_wp2_with fail
   exact ⟨rfl,Or.inr ⟨by decide,rfl⟩,hB3⟩
  have zb2:(en == 0)=true:=by simpa using z2
  have HZ2:=Aa z2
  clear z2
  go_wp2_with fail
  refine (K2.o _ _ _).mono ?_
  rintro e wz ⟨he,rfl⟩
  rcases he with ⟨hz,rfl⟩ | ⟨hz,rfl⟩
  rotate_left
  ·have HN:E=1:=N1.o (by first | exact ⟨HVAR.o,HOT.o⟩ | exact HVAR.o | exact HOT.o | trivial) (by intro hA;(try simp at hz);(try simp at hA);omega)
   subst HN
   clear hz
   unfold Au
   go_wp2_with fail
   exact ⟨rfl,Or.inr ⟨by decide,rfl⟩,hB3⟩
  have hxl0:xl=0:=by simp at hz;omega
  have HXL:=Aa hxl0
  clear hz hxl0
  go_wp2_with fail
  refine (K2.o _ _ _).mono ?_
  rintro e wz ⟨he,rfl⟩
  rcases he with ⟨hargs,rfl⟩ | ⟨hz,rfl⟩
  rotate_left
  ·have HN:E=1:=N1.o (by first | exact ⟨HVAR.o,HOT.o⟩ | exact HVAR.o | exact HOT.o | trivial) (by intro hA;(try simp at hz);(try simp at hA);omega)
   subst HN
   clear hz
   unfold Au
   go_wp2_with fail
   exact ⟨rfl,Or.inr ⟨by decide,rfl⟩,hB3⟩
  have hal0:al=0:=by simp at hargs;omega
  subst hal0
  clear hargs
  go_wp2_with fail
  refine (K2.o _ _ _).mono ?_
  rintro e wz ⟨he,rfl⟩
  rcases he with ⟨hz,rfl⟩ | ⟨hz,rfl⟩
  rotate_left
  ·have HN:E=1:=N1.o (by first | exact ⟨HVAR.o,HOT.o⟩ | exact HVAR.o | exact HOT.o | trivial) (by intro hA;(try simp at hz);(try simp at hA);omega)
   subst HN
   clear hz
   unfold Au
   go_wp2_with fail
   exact ⟨rfl,Or.inr ⟨by decide,rfl⟩,hB3⟩
  have HZ_1:=Aa hz
  clear hz
  go_wp2_with fail
  refine (K2.o _ _ _).mono ?_
  rintro e wz ⟨he,rfl⟩
  rcases he with ⟨hz,rfl⟩ | ⟨hz,rfl⟩
  rotate_left
  ·have HN:E=1:=N1.o (by first | exact ⟨HVAR.o,HOT.o⟩ | exact HVAR.o | exact HOT.o | trivial) (by intro hA;(try simp at hz);(try simp at hA);omega)
   subst HN
   clear hz
   unfold Au
   go_wp2_with fail
   exact ⟨rfl,Or.inr ⟨by decide,rfl⟩,hB3⟩
  have HZ_2:=Aa hz
  clear hz
  go_wp2_with fail
  go_quiet ((go_at_call 172;exact Calls.quiet_of_same (BA _ _)))
  obtain ⟨c0q,c1q,c2q,c3q,c4q,c5q,c6q,c7q,s0q,s1q⟩:=CK (n:=nq) c0b c1b c2b c3b c4b c5b c6b c7b s0b s1b
  obtain ⟨s2q,s3q,s4q,s5q,s6q,s7q,s8q,h0q,h1q,h2q⟩:=CK (n:=nq) s2b s3b s4b s5b s6b s7b s8b h0b h1b h2b
  obtain ⟨h3q,h4q,h5q⟩:=cn3 (n:=nq) h3b h4b h5b
  have hBq:=below_drewN hB3 nq
  clear c0b c1b c2b c3b c4b c5b c6b c7b s0b s1b s2b s3b s4b s5b s6b s7b s8b h0b h1b h2b h3b h4b h5b
  go_wp2_with fail
  go_loopw [138] (fun i wr=>i=U zd 0/\Ov w wr) (fun _ _=>0)
  case atStart=>exact ⟨rfl,hBq⟩
  case round=>
   obtain ⟨rfl,hB⟩:=hrel
   go_wp2_with fail
   go_end0
   refine ⟨Or.inl ⟨HQ.o ⟨?_,?_,?_,?_,?_,?_⟩,rfl⟩,hB⟩
   all_goals first | trivial | exact HVAR.o | exact HOT.o | exact HEX.o | exact ⟨HZ1.o,HZ2.o,HXL.o⟩ | (have hq:=HZ_1.o;simp at hq;omega) | (have hq:=HZ_2.o;simp at hq;omega) | omega
theorem PS (K k:Nat) (fs de das) (funcs:Int) (m:Int) (ga gn gc sa sn sc) (ya:Option Addr) (yn yc:Nat) (oa:Option Addr) (on oc:Nat) (va:Option Addr) (vn vc:Nat) (fa fn fc ba bn bc) (vr ot ek en:Int) (xa xl xc aa al ac ta tl tc ea el ec) (w:World) (hv:vn<=9223372036854775807) (i1:Ce vr) (i2:Ce ot) (h0f:0<=funcs) (h1f:funcs<=9223372036854775807) (hyl:yn<=9223372036854775807) (hol:on<=9223372036854775807)
  (hde:RX w K [U zd ek,U zd en,O xa xl xc] de) (hda:XS 3 (RX w K) w (O aa al ac) das) (hfs:Bk w K k (O fa fn fc) fs) (hff:funcs<=fs.length) :
  Calls Tryz.prog 220 #[zh #[U zd m,O ga gn gc,O sa sn sc,O ya yn yc,O oa on oc,O va vn vc,O fa fn fc,O ba bn bc],zh #[U zd 4,U zd vr,U zd ot,U zd ek,U zd en,O xa xl xc,O aa al ac,O ta tl tc,O ea el ec],U zd funcs] w (CL (if (0<=ot/\ot < (on:Int)) then if (vr=0)/\(al=0)/\(tl=0)/\(el=0) then Az vn K de else 1 else 5) w):=by
 obtain ⟨E,hE⟩:∃ E:Int,E=(if (0<=ot/\ot < (on:Int)) then if (vr=0)/\(al=0)/\(tl=0)/\(el=0) then Az vn K de else 1 else 5):=⟨_,rfl⟩
 rw [<-hE]
 have HQ:Hx (((vr=0)/\(0<=ot/\ot < (on:Int))/\(Az vn K de=0)/\(al=0)/\(tl=0)/\(el=0))->E=0):=Aa (fun q=>by rw [hE,if_pos (q.2.1),if_pos (⟨q.1,q.2.2.2.1,q.2.2.2.2.1,q.2.2.2.2.2⟩)];try exact q.2.2.1)
 have N5:Hx (¬ ((0<=ot/\ot < (on:Int)))->E=5):=Aa (fun h=>by rw [hE,if_neg h])
 have N1:Hx (((0<=ot/\ot < (on:Int)))->¬ ((vr=0)/\(al=0)/\(tl=0)/\(el=0))->E=1):=Aa (fun h h2=>by rw [hE,if_pos h,if_neg h2])
 have NX:Hx (((0<=ot/\ot < (on:Int)))->((vr=0)/\(al=0)/\(tl=0)/\(el=0))->E=Az vn K de):=Aa (fun h h2=>by rw [hE,if_pos h,if_pos h2])
 clear hE
 have K1:=Aa MG
 have K2:=Aa BL
 have K3:=Aa Bb
 have K4:=Aa fun W=>B4 4 funcs m ga gn gc sa sn sc ya yn yc oa on oc va vn vc fa fn fc ba bn bc W
 simp only [Int.reduceEq,if_false] at K4
 have K5:=Aa fun W (hB:Ov w W)=>BT K m ga gn gc sa sn sc ya yn yc oa on oc va vn vc fa fn fc ba bn bc _ _ W (hde.over hB) hv
 have hal:al<=9223372036854775807/\al=das.length:=⟨by obtain ⟨hm,ao,cap,he,-⟩:=hda;injection he with e1 e2 e3;rw [e2];exact hm,by obtain ⟨hm,ao,cap,he,-⟩:=hda;injection he⟩
 obtain ⟨hal,hale⟩:=hal
 have HAL:=Aa hale
 obtain ⟨i1,i1'⟩:=i1
 obtain ⟨i2,i2'⟩:=i2
 clear hde hda hfs hale
 obtain ⟨c0,c1,c2,c3,c4,c5,c6,c7⟩:=rc8 (E6 w [U zd m,O ga gn gc,O sa sn sc,O ya yn yc,O oa on oc,O va vn vc,O fa fn fc,O ba bn bc] 184 (ze #[U zd 4,U zd vr,U zd ot,U zd ek,U zd en,O xa xl xc,O aa al ac,O ta tl tc,O ea el ec] 130))
 obtain ⟨s0,s1,s2,s3,s4,s5,s6,s7,s8⟩:=rc9 (FM w (ze #[U zd m,O ga gn gc,O sa sn sc,O ya yn yc,O oa on oc,O va vn vc,O fa fn fc,O ba bn bc] 184) [U zd 4,U zd vr,U zd ot,U zd ek,U zd en,O xa xl xc,O aa al ac,O ta tl tc,O ea el ec] 130)
 have hbel:Ov w ((w.alloc (ze #[U zd m,O ga gn gc,O sa sn sc,O ya yn yc,O oa on oc,O va vn vc,O fa fn fc,O ba bn bc] 184)).alloc (ze #[U zd 4,U zd vr,U zd ot,U zd ek,U zd en,O xa xl xc,O aa al ac,O ta tl tc,O ea el ec] 130)):=(bA w _).alloc (by simp) _
 go_enter Tryz.func220,Tryz.ntmps220
 go_wp2_with fail
 refine (K1.o _).mono ?_
 rintro e w1 ⟨rfl,hb1⟩
 have hB1:=hbel.trans (hb1.mono hbel.size)
 have hb2:=Ac hb1 (bA w1 (ze #[zg false,zg true,zg true,zg false,zg false,zg false] 288))
 have hB2:=hbel.trans (hb2.mono hbel.size)
 obtain ⟨c0a,c1a,c2a,c3a,c4a,c5a,c6a,c7a,s0a,s1a⟩:=Cy hb2 c0 c1 c2 c3 c4 c5 c6 c7 s0 s1
 obtain ⟨s2a,s3a,s4a,s5a,s6a,s7a,s8a⟩:=co7 hb2 s2 s3 s4 s5 s6 s7 s8
 obtain ⟨h0a,h1a,h2a,h3a,h4a,h5a⟩:=rc6 (BC w1 [zg false,zg true,zg true,zg false,zg false,zg false] 288)
 clear hb1 hb2 hbel hB1 c0 c1 c2 c3 c4 c5 c6 c7 s0 s1 s2 s3 s4 s5 s6 s7 s8
 go_wp2_with fail
 refine (K2.o _ _ _).mono ?_
 rintro e wz ⟨he,rfl⟩
 have he2:=orT he
 subst he2
 clear he
 go_wp2_with fail
 refine (K2.o _ _ _).mono ?_
 rintro e wz ⟨he,rfl⟩
 have he2:=orT he
 subst he2
 clear he
 go_wp2_with fail
 have hr0:=Below.refl (w1.alloc (ze #[zg false,zg true,zg true,zg false,zg false,zg false] 288)).heap.size (w1.alloc (ze #[zg false,zg true,zg true,zg false,zg false,zg false] 288))
 obtain ⟨ob,hob⟩:=nm (decide (0<=ot/\ot < (on:Int)))
 have K3o:=Aa fun W=>Bb ot (on:Int) W
 rw [<-hob] at K3o
 have HOB:=Aa hob
 clear hob
 cases ob with
 | false=>
  have HNO:E=5:=N5.o (by intro hA;have hq:=HOB.o;simp at hq;omega)
  subst HNO
  go_region_held2 (fun W=>W.cell? ⟨w.heap.size,0,none⟩=some (U zd m)/\W.cell? ⟨w.heap.size,1,none⟩=some (O ga gn gc)/\W.cell? ⟨w.heap.size,2,none⟩=some (O sa sn sc)/\W.cell? ⟨w.heap.size,3,none⟩=some (O ya yn yc)/\W.cell? ⟨w.heap.size,4,none⟩=some (O oa on oc)/\W.cell? ⟨w.heap.size,5,none⟩=some (O va vn vc)/\W.cell? ⟨w.heap.size,6,none⟩=some (O fa fn fc)/\W.cell? ⟨w.heap.size,7,none⟩=some (O ba bn bc)/\W.cell? ⟨w.heap.size+1,0,none⟩=some (U zd 4)/\W.cell? ⟨w.heap.size+1,2,none⟩=some (U zd ot)/\W.cell? ⟨w1.heap.size,1,none⟩=some (zg true)/\Ov (w1.alloc (ze #[zg false,zg true,zg true,zg false,zg false,zg false] 288)) W) (first | assumption | exact ⟨c0a,c1a,c2a,c3a,c4a,c5a,c6a,c7a,s0a,s2a,h1a,below_drewN hr0 1⟩ | exact Fj (by assumption) hbp | fail) (first | (go_at_call 244;refine (K4.o _).mono ?_;rintro e wp ⟨rfl,hbp⟩) | (go_at_call 173;refine (K3o.o _).mono ?_;rintro e wq ⟨rfl,rfl⟩) | (go_at_call 172;refine (K2.o false 5 _).mono ?_;rintro e wq ⟨he,rfl⟩;rcases he with ⟨hb,rfl⟩ | ⟨hb,rfl⟩;rotate_left;exact ⟨rfl,Or.inr ⟨by decide,rfl⟩,hB2.trans ((by assumption:_/\_/\_/\_/\_/\_/\_/\_/\_/\_/\_/\Below _ _ _).2.2.2.2.2.2.2.2.2.2.2.mono hB2.size)⟩;have hbad:=Aa hb;clear hb))
  exact absurd hbad.o (by simp)
 | true=>
  have hot:0<=ot/\ot < (on:Int):=by simpa using HOB.o.symm
  have HOT:=Aa hot
  clear hot
  go_region_held3 (fun W=>W.cell? ⟨w.heap.size,0,none⟩=some (U zd m)/\W.cell? ⟨w.heap.size,1,none⟩=some (O ga gn gc)/\W.cell? ⟨w.heap.size,2,none⟩=some (O sa sn sc)/\W.cell? ⟨w.heap.size,3,none⟩=some (O ya yn yc)/\W.cell? ⟨w.heap.size,4,none⟩=some (O oa on oc)/\W.cell? ⟨w.heap.size,5,none⟩=some (O va vn vc)/\W.cell? ⟨w.heap.size,6,none⟩=some (O fa fn fc)/\W.cell? ⟨w.heap.size,7,none⟩=some (O ba bn bc)/\W.cell? ⟨w.heap.size+1,0,none⟩=some (U zd 4)/\W.cell? ⟨w.heap.size+1,2,none⟩=some (U zd ot)/\W.cell? ⟨w1.heap.size,1,none⟩=some (zg true)/\Ov (w1.alloc (ze #[zg false,zg true,zg true,zg false,zg false,zg false] 288)) W) (first | assumption | exact ⟨c0a,c1a,c2a,c3a,c4a,c5a,c6a,c7a,s0a,s2a,h1a,below_drewN hr0 1⟩ | exact Fj (by assumption) hbp | fail) (first | (go_at_call 244;refine (K4.o _).mono ?_;rintro e wp ⟨rfl,hbp⟩) | (go_at_call 173;refine (K3o.o _).mono ?_;rintro e wq ⟨rfl,rfl⟩) | (go_at_call 172;refine (BA 5 _).mono ?_;rintro e wq ⟨rfl,rfl⟩))
  have hb2:=(by assumption:_/\_/\_/\_/\_/\_/\_/\_/\_/\_/\_/\Below _ _ _).2.2.2.2.2.2.2.2.2.2.2
  have hB3:=hB2.trans (hb2.mono hB2.size)
  obtain ⟨c0b,c1b,c2b,c3b,c4b,c5b,c6b,c7b,s0b,s1b⟩:=Cy hb2 c0a c1a c2a c3a c4a c5a c6a c7a s0a s1a
  obtain ⟨s2b,s3b,s4b,s5b,s6b,s7b,s8b,h0b,h1b,h2b⟩:=Cy hb2 s2a s3a s4a s5a s6a s7a s8a h0a h1a h2a
  obtain ⟨h3b,h4b,h5b⟩:=co3 hb2 h3a h4a h5a
  clear hb2 hB2 hr0 c0a c1a c2a c3a c4a c5a c6a c7a s0a s1a s2a s3a s4a s5a s6a s7a s8a h0a h1a h2a h3a h4a h5a
  go_wp2_with fail
  refine (K2.o _ _ _).mono ?_
  rintro e wz ⟨he,rfl⟩
  rcases he with ⟨hz,rfl⟩ | ⟨hz,rfl⟩
  rotate_left
  ·have HN:E=1:=N1.o (by first | exact ⟨HVAR.o,HOT.o⟩ | exact HVAR.o | exact HOT.o | trivial) (by intro hA;(try simp at hz);(try simp at hA);omega)
   subst HN
   clear hz
   unfold Au
   go_wp2_with fail
   exact ⟨rfl,Or.inr ⟨by decide,rfl⟩,hB3⟩
  have HZ_1:=Aa hz
  clear hz
  go_wp2_with fail
  refine (K2.o _ _ _).mono ?_
  rintro e wz ⟨he,rfl⟩
  have he2:=orT he
  subst he2
  clear he
  go_wp2_with fail
  refine (K2.o _ _ _).mono ?_
  rintro e wz ⟨he,rfl⟩
  have he2:=orT he
  subst he2
  clear he
  go_wp2_with fail
  refine (K2.o _ _ _).mono ?_
  rintro e wz ⟨he,rfl⟩
  rcases he with ⟨hargs,rfl⟩ | ⟨hz,rfl⟩
  rotate_left
  ·have HN:E=1:=N1.o (by first | exact ⟨HVAR.o,HOT.o⟩ | exact HVAR.o | exact HOT.o | trivial) (by intro hA;(try simp at hz);(try simp at hA);omega)
   subst HN
   clear hz
   unfold Au
   go_wp2_with fail
   exact ⟨rfl,Or.inr ⟨by decide,rfl⟩,hB3⟩
  have hal0:al=0:=by simp at hargs;omega
  subst hal0
  clear hargs
  go_wp2_with fail
  refine (K2.o _ _ _).mono ?_
  rintro e wz ⟨he,rfl⟩
  rcases he with ⟨hz,rfl⟩ | ⟨hz,rfl⟩
  rotate_left
  ·have HN:E=1:=N1.o (by first | exact ⟨HVAR.o,HOT.o⟩ | exact HVAR.o | exact HOT.o | trivial) (by intro hA;(try simp at hz);(try simp at hA);omega)
   subst HN
   clear hz
   unfold Au
   go_wp2_with fail
   exact ⟨rfl,Or.inr ⟨by decide,rfl⟩,hB3⟩
  have HZ_2:=Aa hz
  clear hz
  go_wp2_with fail
  refine (K2.o _ _ _).mono ?_
  rintro e wz ⟨he,rfl⟩
  rcases he with ⟨hz,rfl⟩ | ⟨hz,rfl⟩
  rotate_left
  ·have HN:E=1:=N1.o (by first | exact ⟨HVAR.o,HOT.o⟩ | exact HVAR.o | exact HOT.o | trivial) (by intro hA;(try simp at hz);(try simp at hA);omega)
   subst HN
   clear hz
   unfold Au
   go_wp2_with fail
   exact ⟨rfl,Or.inr ⟨by decide,rfl⟩,hB3⟩
  have HZ_3:=Aa hz
  clear hz
  go_wp2_with fail
  go_quiet ((go_at_call 172;exact Calls.quiet_of_same (BA _ _)))
  obtain ⟨c0q,c1q,c2q,c3q,c4q,c5q,c6q,c7q,s0q,s1q⟩:=CK (n:=nq) c0b c1b c2b c3b c4b c5b c6b c7b s0b s1b
  obtain ⟨s2q,s3q,s4q,s5q,s6q,s7q,s8q,h0q,h1q,h2q⟩:=CK (n:=nq) s2b s3b s4b s5b s6b s7b s8b h0b h1b h2b
  obtain ⟨h3q,h4q,h5q⟩:=cn3 (n:=nq) h3b h4b h5b
  have hBq:=below_drewN hB3 nq
  clear c0b c1b c2b c3b c4b c5b c6b c7b s0b s1b s2b s3b s4b s5b s6b s7b s8b h0b h1b h2b h3b h4b h5b
  go_wp2_with fail
  refine (K5.o _ hBq).mono ?_
  rintro e w5 ⟨he,hb5⟩
  have hB5:=hBq.trans (hb5.mono hBq.size)
  rcases he with ⟨hex,rfl⟩ | ⟨hnex,rfl⟩
  rotate_left
  ·have HN:=NX.o (by first | exact ⟨HVAR.o,HOT.o⟩ | exact HVAR.o | exact HOT.o | trivial) (by refine ⟨?_,?_,?_,?_⟩ <;> first | trivial | exact HVAR.o | exact HOT.o | exact ⟨HZ1.o,HZ2.o,HXL.o⟩ | (have hq:=HZ_1.o;simp at hq;omega) | (have hq:=HZ_2.o;simp at hq;omega) | (have hq:=HZ_3.o;simp at hq;omega) | omega)
   subst HN
   have HNX:=Aa hnex
   clear hnex
   unfold Au
   go_wp2_with fail
   exact ⟨rfl,Or.inr ⟨HNX.o,rfl⟩,hB5⟩
  obtain ⟨c05,c15,c25,c35,c45,c55,c65,c75,s05,s15⟩:=Cy hb5 c0q c1q c2q c3q c4q c5q c6q c7q s0q s1q
  obtain ⟨s25,s35,s45,s55,s65,s75,s85,h05,h15,h25⟩:=Cy hb5 s2q s3q s4q s5q s6q s7q s8q h0q h1q h2q
  obtain ⟨h35,h45,h55⟩:=co3 hb5 h3q h4q h5q
  have HEX:=Aa hex
  clear hex hb5 c0q c1q c2q c3q c4q c5q c6q c7q s0q s1q s2q s3q s4q s5q s6q s7q s8q h0q h1q h2q h3q h4q h5q
  go_wp2_with fail
  go_loopw [138] (fun i wr=>i=U zd 0/\Ov w wr) (fun _ _=>0)
  case atStart=>exact ⟨rfl,hB5⟩
  case round=>
   obtain ⟨rfl,hB⟩:=hrel
   go_wp2_with fail
   go_end0
   refine ⟨Or.inl ⟨HQ.o ⟨?_,?_,?_,?_,?_,?_⟩,rfl⟩,hB⟩
   all_goals first | trivial | exact HVAR.o | exact HOT.o | exact HEX.o | exact ⟨HZ1.o,HZ2.o,HXL.o⟩ | (have hq:=HZ_1.o;simp at hq;omega) | (have hq:=HZ_2.o;simp at hq;omega) | (have hq:=HZ_3.o;simp at hq;omega) | omega
theorem PV (K k:Nat) (fs de das) (funcs:Int) (m:Int) (ga gn gc sa sn sc) (ya:Option Addr) (yn yc:Nat) (oa:Option Addr) (on oc:Nat) (va:Option Addr) (vn vc:Nat) (fa fn fc ba bn bc) (vr ot ek en:Int) (xa xl xc aa al ac ta tl tc ea el ec) (w:World) (hv:vn<=9223372036854775807) (i1:Ce vr) (i2:Ce ot) (h0f:0<=funcs) (h1f:funcs<=9223372036854775807) (hyl:yn<=9223372036854775807) (hol:on<=9223372036854775807)
  (hde:RX w K [U zd ek,U zd en,O xa xl xc] de) (hda:XS 3 (RX w K) w (O aa al ac) das) (hfs:Bk w K k (O fa fn fc) fs) (hff:funcs<=fs.length) :
  Calls Tryz.prog 220 #[zh #[U zd m,O ga gn gc,O sa sn sc,O ya yn yc,O oa on oc,O va vn vc,O fa fn fc,O ba bn bc],zh #[U zd 1,U zd vr,U zd ot,U zd ek,U zd en,O xa xl xc,O aa al ac,O ta tl tc,O ea el ec],U zd funcs] w (CL (if (0<=vr/\vr < vn) then if (ot=0)/\(al=0)/\(tl=0)/\(el=0) then Az vn K de else 1 else 5) w):=by
 obtain ⟨E,hE⟩:∃ E:Int,E=(if (0<=vr/\vr < vn) then if (ot=0)/\(al=0)/\(tl=0)/\(el=0) then Az vn K de else 1 else 5):=⟨_,rfl⟩
 rw [<-hE]
 have HQ:Hx (((0<=vr/\vr < vn)/\(ot=0)/\(Az vn K de=0)/\(al=0)/\(tl=0)/\(el=0))->E=0):=Aa (fun q=>by rw [hE,if_pos (q.1),if_pos (⟨q.2.1,q.2.2.2.1,q.2.2.2.2.1,q.2.2.2.2.2⟩)];try exact q.2.2.1)
 have N5:Hx (¬ ((0<=vr/\vr < vn))->E=5):=Aa (fun h=>by rw [hE,if_neg h])
 have N1:Hx (((0<=vr/\vr < vn))->¬ ((ot=0)/\(al=0)/\(tl=0)/\(el=0))->E=1):=Aa (fun h h2=>by rw [hE,if_pos h,if_neg h2])
 have NX:Hx (((0<=vr/\vr < vn))->((ot=0)/\(al=0)/\(tl=0)/\(el=0))->E=Az vn K de):=Aa (fun h h2=>by rw [hE,if_pos h,if_pos h2])
 clear hE
 have K1:=Aa MJ
 have K2:=Aa BL
 have K3:=Aa Bb
 have K4:=Aa fun W=>B4 1 funcs m ga gn gc sa sn sc ya yn yc oa on oc va vn vc fa fn fc ba bn bc W
 have K5:=Aa fun W (hB:Ov w W)=>BT K m ga gn gc sa sn sc ya yn yc oa on oc va vn vc fa fn fc ba bn bc _ _ W (hde.over hB) hv
 have hal:al<=9223372036854775807/\al=das.length:=⟨by obtain ⟨hm,ao,cap,he,-⟩:=hda;injection he with e1 e2 e3;rw [e2];exact hm,by obtain ⟨hm,ao,cap,he,-⟩:=hda;injection he⟩
 obtain ⟨hal,hale⟩:=hal
 have HAL:=Aa hale
 obtain ⟨i1,i1'⟩:=i1
 obtain ⟨i2,i2'⟩:=i2
 clear hde hda hfs hale
 obtain ⟨c0,c1,c2,c3,c4,c5,c6,c7⟩:=rc8 (E6 w [U zd m,O ga gn gc,O sa sn sc,O ya yn yc,O oa on oc,O va vn vc,O fa fn fc,O ba bn bc] 184 (ze #[U zd 1,U zd vr,U zd ot,U zd ek,U zd en,O xa xl xc,O aa al ac,O ta tl tc,O ea el ec] 130))
 obtain ⟨s0,s1,s2,s3,s4,s5,s6,s7,s8⟩:=rc9 (FM w (ze #[U zd m,O ga gn gc,O sa sn sc,O ya yn yc,O oa on oc,O va vn vc,O fa fn fc,O ba bn bc] 184) [U zd 1,U zd vr,U zd ot,U zd ek,U zd en,O xa xl xc,O aa al ac,O ta tl tc,O ea el ec] 130)
 have hbel:Ov w ((w.alloc (ze #[U zd m,O ga gn gc,O sa sn sc,O ya yn yc,O oa on oc,O va vn vc,O fa fn fc,O ba bn bc] 184)).alloc (ze #[U zd 1,U zd vr,U zd ot,U zd ek,U zd en,O xa xl xc,O aa al ac,O ta tl tc,O ea el ec] 130)):=(bA w _).alloc (by simp) _
 go_enter Tryz.func220,Tryz.ntmps220
 go_wp2_with fail
 refine (K1.o _).mono ?_
 rintro e w1 ⟨rfl,hb1⟩
 have hB1:=hbel.trans (hb1.mono hbel.size)
 have hb2:=Ac hb1 (bA w1 (ze #[zg true,zg false,zg true,zg false,zg false,zg false] 288))
 have hB2:=hbel.trans (hb2.mono hbel.size)
 obtain ⟨c0a,c1a,c2a,c3a,c4a,c5a,c6a,c7a,s0a,s1a⟩:=Cy hb2 c0 c1 c2 c3 c4 c5 c6 c7 s0 s1
 obtain ⟨s2a,s3a,s4a,s5a,s6a,s7a,s8a⟩:=co7 hb2 s2 s3 s4 s5 s6 s7 s8
 obtain ⟨h0a,h1a,h2a,h3a,h4a,h5a⟩:=rc6 (BC w1 [zg true,zg false,zg true,zg false,zg false,zg false] 288)
 clear hb1 hb2 hbel hB1 c0 c1 c2 c3 c4 c5 c6 c7 s0 s1 s2 s3 s4 s5 s6 s7 s8
 go_wp2_with fail
 refine (K2.o _ _ _).mono ?_
 rintro e wz ⟨he,rfl⟩
 have he2:=orT he
 subst he2
 clear he
 go_wp2_with fail
 refine (K3.o _ _ _).mono ?_
 rintro e wz ⟨rfl,rfl⟩
 go_wp2_with fail
 refine (K2.o _ _ _).mono ?_
 rintro e wz ⟨he,rfl⟩
 rcases he with ⟨hvar,rfl⟩ | ⟨hz,rfl⟩
 rotate_left
 ·have HN:E=5:=N5.o (by intro hA;(try simp at hz);(try simp at hA);omega)
  subst HN
  clear hz
  unfold Au
  go_wp2_with fail
  exact ⟨rfl,Or.inr ⟨by decide,rfl⟩,hB2⟩
 have hvar2:0<=vr/\vr < vn:=by simpa using hvar
 have HVAR:=Aa hvar2
 clear hvar hvar2
 go_wp2_with fail
 go_quiet ((go_at_call 172;exact Calls.quiet_of_same (BA _ _)))
 obtain ⟨c0r,c1r,c2r,c3r,c4r,c5r,c6r,c7r,s0r,s1r⟩:=CK (n:=nq) c0a c1a c2a c3a c4a c5a c6a c7a s0a s1a
 obtain ⟨s2r,s3r,s4r,s5r,s6r,s7r,s8r,h0r,h1r,h2r⟩:=CK (n:=nq) s2a s3a s4a s5a s6a s7a s8a h0a h1a h2a
 obtain ⟨h3r,h4r,h5r⟩:=cn3 (n:=nq) h3a h4a h5a
 have hBr:=below_drewN hB2 nq
 clear hB2 c0a c1a c2a c3a c4a c5a c6a c7a s0a s1a s2a s3a s4a s5a s6a s7a s8a h0a h1a h2a h3a h4a h5a
 generalize (w1.alloc (ze #[zg true,zg false,zg true,zg false,zg false,zg false] 288)).drewN nq=wr at hBr c0r c1r c2r c3r c4r c5r c6r c7r s0r s1r s2r s3r s4r s5r s6r s7r s8r h0r h1r h2r h3r h4r h5r ⊢
 go_wp2_with fail
 refine (K2.o _ _ _).mono ?_
 rintro e wz ⟨he,rfl⟩
 have he2:=orT he
 subst he2
 clear he
 go_wp2_with fail
 refine (K2.o _ _ _).mono ?_
 rintro e wz ⟨he,rfl⟩
 rcases he with ⟨hz,rfl⟩ | ⟨hz,rfl⟩
 rotate_left
 ·have HN:E=1:=N1.o (by first | exact ⟨HVAR.o,HOT.o⟩ | exact HVAR.o | exact HOT.o | trivial) (by intro hA;(try simp at hz);(try simp at hA);omega)
  subst HN
  clear hz
  unfold Au
  go_wp2_with fail
  exact ⟨rfl,Or.inr ⟨by decide,rfl⟩,hBr⟩
 have HZ_1:=Aa hz
 clear hz
 go_wp2_with fail
 refine (K2.o _ _ _).mono ?_
 rintro e wz ⟨he,rfl⟩
 have he2:=orT he
 subst he2
 clear he
 go_wp2_with fail
 refine (K2.o _ _ _).mono ?_
 rintro e wz ⟨he,rfl⟩
 rcases he with ⟨hargs,rfl⟩ | ⟨hz,rfl⟩
 rotate_left
 ·have HN:E=1:=N1.o (by first | exact ⟨HVAR.o,HOT.o⟩ | exact HVAR.o | exact HOT.o | trivial) (by intro hA;(try simp at hz);(try simp at hA);omega)
  subst HN
  clear hz
  unfold Au
  go_wp2_with fail
  exact ⟨rfl,Or.inr ⟨by decide,rfl⟩,hBr⟩
 have hal0:al=0:=by simp at hargs;omega
 subst hal0
 clear hargs
 go_wp2_with fail
 refine (K2.o _ _ _).mono ?_
 rintro e wz ⟨he,rfl⟩
 rcases he with ⟨hz,rfl⟩ | ⟨hz,rfl⟩
 rotate_left
 ·have HN:E=1:=N1.o (by first | exact ⟨HVAR.o,HOT.o⟩ | exact HVAR.o | exact HOT.o | trivial) (by intro hA;(try simp at hz);(try simp at hA);omega)
  subst HN
  clear hz
  unfold Au
  go_wp2_with fail
  exact ⟨rfl,Or.inr ⟨by decide,rfl⟩,hBr⟩
 have HZ_2:=Aa hz
 clear hz
 go_wp2_with fail
 refine (K2.o _ _ _).mono ?_
 rintro e wz ⟨he,rfl⟩
 rcases he with ⟨hz,rfl⟩ | ⟨hz,rfl⟩
 rotate_left
 ·have HN:E=1:=N1.o (by first | exact ⟨HVAR.o,HOT.o⟩ | exact HVAR.o | exact HOT.o | trivial) (by intro hA;(try simp at hz);(try simp at hA);omega)
  subst HN
  clear hz
  unfold Au
  go_wp2_with fail
  exact ⟨rfl,Or.inr ⟨by decide,rfl⟩,hBr⟩
 have HZ_3:=Aa hz
 clear hz
 go_wp2_with fail
 go_quiet ((go_at_call 172;exact Calls.quiet_of_same (BA _ _)))
 obtain ⟨c0q,c1q,c2q,c3q,c4q,c5q,c6q,c7q,s0q,s1q⟩:=CK (n:=nq) c0r c1r c2r c3r c4r c5r c6r c7r s0r s1r
 obtain ⟨s2q,s3q,s4q,s5q,s6q,s7q,s8q,h0q,h1q,h2q⟩:=CK (n:=nq) s2r s3r s4r s5r s6r s7r s8r h0r h1r h2r
 obtain ⟨h3q,h4q,h5q⟩:=cn3 (n:=nq) h3r h4r h5r
 have hBq:=below_drewN hBr nq
 clear c0r c1r c2r c3r c4r c5r c6r c7r s0r s1r s2r s3r s4r s5r s6r s7r s8r h0r h1r h2r h3r h4r h5r
 go_wp2_with fail
 refine (K5.o _ hBq).mono ?_
 rintro e w5 ⟨he,hb5⟩
 have hB5:=hBq.trans (hb5.mono hBq.size)
 rcases he with ⟨hex,rfl⟩ | ⟨hnex,rfl⟩
 rotate_left
 ·have HN:=NX.o (by first | exact ⟨HVAR.o,HOT.o⟩ | exact HVAR.o | exact HOT.o | trivial) (by refine ⟨?_,?_,?_,?_⟩ <;> first | trivial | exact HVAR.o | exact HOT.o | exact ⟨HZ1.o,HZ2.o,HXL.o⟩ | (have hq:=HZ_1.o;simp at hq;omega) | (have hq:=HZ_2.o;simp at hq;omega) | (have hq:=HZ_3.o;simp at hq;omega) | omega)
  subst HN
  have HNX:=Aa hnex
  clear hnex
  unfold Au
  go_wp2_with fail
  exact ⟨rfl,Or.inr ⟨HNX.o,rfl⟩,hB5⟩
 obtain ⟨c05,c15,c25,c35,c45,c55,c65,c75,s05,s15⟩:=Cy hb5 c0q c1q c2q c3q c4q c5q c6q c7q s0q s1q
 obtain ⟨s25,s35,s45,s55,s65,s75,s85,h05,h15,h25⟩:=Cy hb5 s2q s3q s4q s5q s6q s7q s8q h0q h1q h2q
 obtain ⟨h35,h45,h55⟩:=co3 hb5 h3q h4q h5q
 have HEX:=Aa hex
 clear hex hb5 c0q c1q c2q c3q c4q c5q c6q c7q s0q s1q s2q s3q s4q s5q s6q s7q s8q h0q h1q h2q h3q h4q h5q
 go_wp2_with fail
 go_loopw [138] (fun i wr=>i=U zd 0/\Ov w wr) (fun _ _=>0)
 case atStart=>exact ⟨rfl,hB5⟩
 case round=>
  obtain ⟨rfl,hB⟩:=hrel
  go_wp2_with fail
  go_end0
  refine ⟨Or.inl ⟨HQ.o ⟨?_,?_,?_,?_,?_,?_⟩,rfl⟩,hB⟩
  all_goals first | trivial | exact HVAR.o | exact HOT.o | exact HEX.o | exact ⟨HZ1.o,HZ2.o,HXL.o⟩ | (have hq:=HZ_1.o;simp at hq;omega) | (have hq:=HZ_2.o;simp at hq;omega) | (have hq:=HZ_3.o;simp at hq;omega) | omega
theorem PR (K k:Nat) (fs de das) (funcs:Int) (m:Int) (ga gn gc sa sn sc) (ya:Option Addr) (yn yc:Nat) (oa:Option Addr) (on oc:Nat) (va:Option Addr) (vn vc:Nat) (fa fn fc ba bn bc) (vr ot ek en:Int) (xa xl xc aa al ac ta tl tc ea el ec) (w:World) (hv:vn<=9223372036854775807) (i1:Ce vr) (i2:Ce ot) (h0f:0<=funcs) (h1f:funcs<=9223372036854775807) (hyl:yn<=9223372036854775807) (hol:on<=9223372036854775807)
  (hde:RX w K [U zd ek,U zd en,O xa xl xc] de) (hda:XS 3 (RX w K) w (O aa al ac) das) (hfs:Bk w K k (O fa fn fc) fs) (hff:funcs<=fs.length) :
  Calls Tryz.prog 220 #[zh #[U zd m,O ga gn gc,O sa sn sc,O ya yn yc,O oa on oc,O va vn vc,O fa fn fc,O ba bn bc],zh #[U zd 5,U zd vr,U zd ot,U zd ek,U zd en,O xa xl xc,O aa al ac,O ta tl tc,O ea el ec],U zd funcs] w (CL (if (0<=vr/\vr < vn) then if (ot=0)/\(al=0)/\(tl=0)/\(el=0) then Az vn K de else 1 else 5) w):=by
 obtain ⟨E,hE⟩:∃ E:Int,E=(if (0<=vr/\vr < vn) then if (ot=0)/\(al=0)/\(tl=0)/\(el=0) then Az vn K de else 1 else 5):=⟨_,rfl⟩
 rw [<-hE]
 have HQ:Hx (((0<=vr/\vr < vn)/\(ot=0)/\(Az vn K de=0)/\(al=0)/\(tl=0)/\(el=0))->E=0):=Aa (fun q=>by rw [hE,if_pos (q.1),if_pos (⟨q.2.1,q.2.2.2.1,q.2.2.2.2.1,q.2.2.2.2.2⟩)];try exact q.2.2.1)
 have N5:Hx (¬ ((0<=vr/\vr < vn))->E=5):=Aa (fun h=>by rw [hE,if_neg h])
 have N1:Hx (((0<=vr/\vr < vn))->¬ ((ot=0)/\(al=0)/\(tl=0)/\(el=0))->E=1):=Aa (fun h h2=>by rw [hE,if_pos h,if_neg h2])
 have NX:Hx (((0<=vr/\vr < vn))->((ot=0)/\(al=0)/\(tl=0)/\(el=0))->E=Az vn K de):=Aa (fun h h2=>by rw [hE,if_pos h,if_pos h2])
 clear hE
 have K1:=Aa MF
 have K2:=Aa BL
 have K3:=Aa Bb
 have K4:=Aa fun W=>B4 5 funcs m ga gn gc sa sn sc ya yn yc oa on oc va vn vc fa fn fc ba bn bc W
 have K5:=Aa fun W (hB:Ov w W)=>BT K m ga gn gc sa sn sc ya yn yc oa on oc va vn vc fa fn fc ba bn bc _ _ W (hde.over hB) hv
 have hal:al<=9223372036854775807/\al=das.length:=⟨by obtain ⟨hm,ao,cap,he,-⟩:=hda;injection he with e1 e2 e3;rw [e2];exact hm,by obtain ⟨hm,ao,cap,he,-⟩:=hda;injection he⟩
 obtain ⟨hal,hale⟩:=hal
 have HAL:=Aa hale
 obtain ⟨i1,i1'⟩:=i1
 obtain ⟨i2,i2'⟩:=i2
 clear hde hda hfs hale
 obtain ⟨c0,c1,c2,c3,c4,c5,c6,c7⟩:=rc8 (E6 w [U zd m,O ga gn gc,O sa sn sc,O ya yn yc,O oa on oc,O va vn vc,O fa fn fc,O ba bn bc] 184 (ze #[U zd 5,U zd vr,U zd ot,U zd ek,U zd en,O xa xl xc,O aa al ac,O ta tl tc,O ea el ec] 130))
 obtain ⟨s0,s1,s2,s3,s4,s5,s6,s7,s8⟩:=rc9 (FM w (ze #[U zd m,O ga gn gc,O sa sn sc,O ya yn yc,O oa on oc,O va vn vc,O fa fn fc,O ba bn bc] 184) [U zd 5,U zd vr,U zd ot,U zd ek,U zd en,O xa xl xc,O aa al ac,O ta tl tc,O ea el ec] 130)
 have hbel:Ov w ((w.alloc (ze #[U zd m,O ga gn gc,O sa sn sc,O ya yn yc,O oa on oc,O va vn vc,O fa fn fc,O ba bn bc] 184)).alloc (ze #[U zd 5,U zd vr,U zd ot,U zd ek,U zd en,O xa xl xc,O aa al ac,O ta tl tc,O ea el ec] 130)):=(bA w _).alloc (by simp) _
 go_enter Tryz.func220,Tryz.ntmps220
 go_wp2_with fail
 refine (K1.o _).mono ?_
 rintro e w1 ⟨rfl,hb1⟩
 have hB1:=hbel.trans (hb1.mono hbel.size)
 have hb2:=Ac hb1 (bA w1 (ze #[zg true,zg false,zg true,zg false,zg false,zg false] 288))
 have hB2:=hbel.trans (hb2.mono hbel.size)
 obtain ⟨c0a,c1a,c2a,c3a,c4a,c5a,c6a,c7a,s0a,s1a⟩:=Cy hb2 c0 c1 c2 c3 c4 c5 c6 c7 s0 s1
 obtain ⟨s2a,s3a,s4a,s5a,s6a,s7a,s8a⟩:=co7 hb2 s2 s3 s4 s5 s6 s7 s8
 obtain ⟨h0a,h1a,h2a,h3a,h4a,h5a⟩:=rc6 (BC w1 [zg true,zg false,zg true,zg false,zg false,zg false] 288)
 clear hb1 hb2 hbel hB1 c0 c1 c2 c3 c4 c5 c6 c7 s0 s1 s2 s3 s4 s5 s6 s7 s8
 go_wp2_with fail
 refine (K2.o _ _ _).mono ?_
 rintro e wz ⟨he,rfl⟩
 have he2:=orT he
 subst he2
 clear he
 go_wp2_with fail
 refine (K3.o _ _ _).mono ?_
 rintro e wz ⟨rfl,rfl⟩
 go_wp2_with fail
 refine (K2.o _ _ _).mono ?_
 rintro e wz ⟨he,rfl⟩
 rcases he with ⟨hvar,rfl⟩ | ⟨hz,rfl⟩
 rotate_left
 ·have HN:E=5:=N5.o (by intro hA;(try simp at hz);(try simp at hA);omega)
  subst HN
  clear hz
  unfold Au
  go_wp2_with fail
  exact ⟨rfl,Or.inr ⟨by decide,rfl⟩,hB2⟩
 have hvar2:0<=vr/\vr < vn:=by simpa using hvar
 have HVAR:=Aa hvar2
 clear hvar hvar2
 go_wp2_with fail
 go_quiet ((go_at_call 172;exact Calls.quiet_of_same (BA _ _)))
 obtain ⟨c0r,c1r,c2r,c3r,c4r,c5r,c6r,c7r,s0r,s1r⟩:=CK (n:=nq) c0a c1a c2a c3a c4a c5a c6a c7a s0a s1a
 obtain ⟨s2r,s3r,s4r,s5r,s6r,s7r,s8r,h0r,h1r,h2r⟩:=CK (n:=nq) s2a s3a s4a s5a s6a s7a s8a h0a h1a h2a
 obtain ⟨h3r,h4r,h5r⟩:=cn3 (n:=nq) h3a h4a h5a
 have hBr:=below_drewN hB2 nq
 clear hB2 c0a c1a c2a c3a c4a c5a c6a c7a s0a s1a s2a s3a s4a s5a s6a s7a s8a h0a h1a h2a h3a h4a h5a
 generalize (w1.alloc (ze #[zg true,zg false,zg true,zg false,zg false,zg false] 288)).drewN nq=wr at hBr c0r c1r c2r c3r c4r c5r c6r c7r s0r s1r s2r s3r s4r s5r s6r s7r s8r h0r h1r h2r h3r h4r h5r ⊢
 go_wp2_with fail
 refine (K2.o _ _ _).mono ?_
 rintro e wz ⟨he,rfl⟩
 have he2:=orT he
 subst he2
 clear he
 go_wp2_with fail
 refine (K2.o _ _ _).mono ?_
 rintro e wz ⟨he,rfl⟩
 rcases he with ⟨hz,rfl⟩ | ⟨hz,rfl⟩
 rotate_left
 ·have HN:E=1:=N1.o (by first | exact ⟨HVAR.o,HOT.o⟩ | exact HVAR.o | exact HOT.o | trivial) (by intro hA;(try simp at hz);(try simp at hA);omega)
  subst HN
  clear hz
  unfold Au
  go_wp2_with fail
  exact ⟨rfl,Or.inr ⟨by decide,rfl⟩,hBr⟩
 have HZ_1:=Aa hz
 clear hz
 go_wp2_with fail
 refine (K2.o _ _ _).mono ?_
 rintro e wz ⟨he,rfl⟩
 have he2:=orT he
 subst he2
 clear he
 go_wp2_with fail
 refine (K2.o _ _ _).mono ?_
 rintro e wz ⟨he,rfl⟩
 rcases he with ⟨hargs,rfl⟩ | ⟨hz,rfl⟩
 rotate_left
 ·have HN:E=1:=N1.o (by first | exact ⟨HVAR.o,HOT.o⟩ | exact HVAR.o | exact HOT.o | trivial) (by intro hA;(try simp at hz);(try simp at hA);omega)
  subst HN
  clear hz
  unfold Au
  go_wp2_with fail
  exact ⟨rfl,Or.inr ⟨by decide,rfl⟩,hBr⟩
 have hal0:al=0:=by simp at hargs;omega
 subst hal0
 clear hargs
 go_wp2_with fail
 refine (K2.o _ _ _).mono ?_
 rintro e wz ⟨he,rfl⟩
 rcases he with ⟨hz,rfl⟩ | ⟨hz,rfl⟩
 rotate_left
 ·have HN:E=1:=N1.o (by first | exact ⟨HVAR.o,HOT.o⟩ | exact HVAR.o | exact HOT.o | trivial) (by intro hA;(try simp at hz);(try simp at hA);omega)
  subst HN
  clear hz
  unfold Au
  go_wp2_with fail
  exact ⟨rfl,Or.inr ⟨by decide,rfl⟩,hBr⟩
 have HZ_2:=Aa hz
 clear hz
 go_wp2_with fail
 refine (K2.o _ _ _).mono ?_
 rintro e wz ⟨he,rfl⟩
 rcases he with ⟨hz,rfl⟩ | ⟨hz,rfl⟩
 rotate_left
 ·have HN:E=1:=N1.o (by first | exact ⟨HVAR.o,HOT.o⟩ | exact HVAR.o | exact HOT.o | trivial) (by intro hA;(try simp at hz);(try simp at hA);omega)
  subst HN
  clear hz
  unfold Au
  go_wp2_with fail
  exact ⟨rfl,Or.inr ⟨by decide,rfl⟩,hBr⟩
 have HZ_3:=Aa hz
 clear hz
 go_wp2_with fail
 go_quiet ((go_at_call 172;exact Calls.quiet_of_same (BA _ _)))
 obtain ⟨c0q,c1q,c2q,c3q,c4q,c5q,c6q,c7q,s0q,s1q⟩:=CK (n:=nq) c0r c1r c2r c3r c4r c5r c6r c7r s0r s1r
 obtain ⟨s2q,s3q,s4q,s5q,s6q,s7q,s8q,h0q,h1q,h2q⟩:=CK (n:=nq) s2r s3r s4r s5r s6r s7r s8r h0r h1r h2r
 obtain ⟨h3q,h4q,h5q⟩:=cn3 (n:=nq) h3r h4r h5r
 have hBq:=below_drewN hBr nq
 clear c0r c1r c2r c3r c4r c5r c6r c7r s0r s1r s2r s3r s4r s5r s6r s7r s8r h0r h1r h2r h3r h4r h5r
 go_wp2_with fail
 refine (K5.o _ hBq).mono ?_
 rintro e w5 ⟨he,hb5⟩
 have hB5:=hBq.trans (hb5.mono hBq.size)
 rcases he with ⟨hex,rfl⟩ | ⟨hnex,rfl⟩
 rotate_left
 ·have HN:=NX.o (by first | exact ⟨HVAR.o,HOT.o⟩ | exact HVAR.o | exact HOT.o | trivial) (by refine ⟨?_,?_,?_,?_⟩ <;> first | trivial | exact HVAR.o | exact HOT.o | exact ⟨HZ1.o,HZ2.o,HXL.o⟩ | (have hq:=HZ_1.o;simp at hq;omega) | (have hq:=HZ_2.o;simp at hq;omega) | (have hq:=HZ_3.o;simp at hq;omega) | omega)
  subst HN
  have HNX:=Aa hnex
  clear hnex
  unfold Au
  go_wp2_with fail
  exact ⟨rfl,Or.inr ⟨HNX.o,rfl⟩,hB5⟩
 obtain ⟨c05,c15,c25,c35,c45,c55,c65,c75,s05,s15⟩:=Cy hb5 c0q c1q c2q c3q c4q c5q c6q c7q s0q s1q
 obtain ⟨s25,s35,s45,s55,s65,s75,s85,h05,h15,h25⟩:=Cy hb5 s2q s3q s4q s5q s6q s7q s8q h0q h1q h2q
 obtain ⟨h35,h45,h55⟩:=co3 hb5 h3q h4q h5q
 have HEX:=Aa hex
 clear hex hb5 c0q c1q c2q c3q c4q c5q c6q c7q s0q s1q s2q s3q s4q s5q s6q s7q s8q h0q h1q h2q h3q h4q h5q
 go_wp2_with fail
 go_loopw [138] (fun i wr=>i=U zd 0/\Ov w wr) (fun _ _=>0)
 case atStart=>exact ⟨rfl,hB5⟩
 case round=>
  obtain ⟨rfl,hB⟩:=hrel
  go_wp2_with fail
  go_end0
  refine ⟨Or.inl ⟨HQ.o ⟨?_,?_,?_,?_,?_,?_⟩,rfl⟩,hB⟩
  all_goals first | trivial | exact HVAR.o | exact HOT.o | exact HEX.o | exact ⟨HZ1.o,HZ2.o,HXL.o⟩ | (have hq:=HZ_1.o;simp at hq;omega) | (have hq:=HZ_2.o;simp at hq;omega) | (have hq:=HZ_3.o;simp at hq;omega) | omega
theorem PQ (K k:Nat) (fs de das) (funcs:Int) (m:Int) (ga gn gc sa sn sc) (ya:Option Addr) (yn yc:Nat) (oa:Option Addr) (on oc:Nat) (va:Option Addr) (vn vc:Nat) (fa fn fc ba bn bc) (vr ot ek en:Int) (xa xl xc aa al ac ta tl tc ea el ec) (w:World) (hv:vn<=9223372036854775807) (i1:Ce vr) (i2:Ce ot) (h0f:0<=funcs) (h1f:funcs<=9223372036854775807) (hyl:yn<=9223372036854775807) (hol:on<=9223372036854775807)
  (hde:RX w K [U zd ek,U zd en,O xa xl xc] de) (hda:XS 3 (RX w K) w (O aa al ac) das) (hfs:Bk w K k (O fa fn fc) fs) (hff:funcs<=fs.length) :
  Calls Tryz.prog 220 #[zh #[U zd m,O ga gn gc,O sa sn sc,O ya yn yc,O oa on oc,O va vn vc,O fa fn fc,O ba bn bc],zh #[U zd 6,U zd vr,U zd ot,U zd ek,U zd en,O xa xl xc,O aa al ac,O ta tl tc,O ea el ec],U zd funcs] w (CL (if (0<=vr/\vr < vn) then if (ot=0)/\(al=0)/\(tl=0)/\(el=0) then Az vn K de else 1 else 5) w):=by
 obtain ⟨E,hE⟩:∃ E:Int,E=(if (0<=vr/\vr < vn) then if (ot=0)/\(al=0)/\(tl=0)/\(el=0) then Az vn K de else 1 else 5):=⟨_,rfl⟩
 rw [<-hE]
 have HQ:Hx (((0<=vr/\vr < vn)/\(ot=0)/\(Az vn K de=0)/\(al=0)/\(tl=0)/\(el=0))->E=0):=Aa (fun q=>by rw [hE,if_pos (q.1),if_pos (⟨q.2.1,q.2.2.2.1,q.2.2.2.2.1,q.2.2.2.2.2⟩)];try exact q.2.2.1)
 have N5:Hx (¬ ((0<=vr/\vr < vn))->E=5):=Aa (fun h=>by rw [hE,if_neg h])
 have N1:Hx (((0<=vr/\vr < vn))->¬ ((ot=0)/\(al=0)/\(tl=0)/\(el=0))->E=1):=Aa (fun h h2=>by rw [hE,if_pos h,if_neg h2])
 have NX:Hx (((0<=vr/\vr < vn))->((ot=0)/\(al=0)/\(tl=0)/\(el=0))->E=Az vn K de):=Aa (fun h h2=>by rw [hE,if_pos h,if_pos h2])
 clear hE
 have K1:=Aa ME
 have K2:=Aa BL
 have K3:=Aa Bb
 have K4:=Aa fun W=>B4 6 funcs m ga gn gc sa sn sc ya yn yc oa on oc va vn vc fa fn fc ba bn bc W
 have K5:=Aa fun W (hB:Ov w W)=>BT K m ga gn gc sa sn sc ya yn yc oa on oc va vn vc fa fn fc ba bn bc _ _ W (hde.over hB) hv
 have hal:al<=9223372036854775807/\al=das.length:=⟨by obtain ⟨hm,ao,cap,he,-⟩:=hda;injection he with e1 e2 e3;rw [e2];exact hm,by obtain ⟨hm,ao,cap,he,-⟩:=hda;injection he⟩
 obtain ⟨hal,hale⟩:=hal
 have HAL:=Aa hale
 obtain ⟨i1,i1'⟩:=i1
 obtain ⟨i2,i2'⟩:=i2
 clear hde hda hfs hale
 obtain ⟨c0,c1,c2,c3,c4,c5,c6,c7⟩:=rc8 (E6 w [U zd m,O ga gn gc,O sa sn sc,O ya yn yc,O oa on oc,O va vn vc,O fa fn fc,O ba bn bc] 184 (ze #[U zd 6,U zd vr,U zd ot,U zd ek,U zd en,O xa xl xc,O aa al ac,O ta tl tc,O ea el ec] 130))
 obtain ⟨s0,s1,s2,s3,s4,s5,s6,s7,s8⟩:=rc9 (FM w (ze #[U zd m,O ga gn gc,O sa sn sc,O ya yn yc,O oa on oc,O va vn vc,O fa fn fc,O ba bn bc] 184) [U zd 6,U zd vr,U zd ot,U zd ek,U zd en,O xa xl xc,O aa al ac,O ta tl tc,O ea el ec] 130)
 have hbel:Ov w ((w.alloc (ze #[U zd m,O ga gn gc,O sa sn sc,O ya yn yc,O oa on oc,O va vn vc,O fa fn fc,O ba bn bc] 184)).alloc (ze #[U zd 6,U zd vr,U zd ot,U zd ek,U zd en,O xa xl xc,O aa al ac,O ta tl tc,O ea el ec] 130)):=(bA w _).alloc (by simp) _
 go_enter Tryz.func220,Tryz.ntmps220
 go_wp2_with fail
 refine (K1.o _).mono ?_
 rintro e w1 ⟨rfl,hb1⟩
 have hB1:=hbel.trans (hb1.mono hbel.size)
 have hb2:=Ac hb1 (bA w1 (ze #[zg true,zg false,zg true,zg false,zg false,zg false] 288))
 have hB2:=hbel.trans (hb2.mono hbel.size)
 obtain ⟨c0a,c1a,c2a,c3a,c4a,c5a,c6a,c7a,s0a,s1a⟩:=Cy hb2 c0 c1 c2 c3 c4 c5 c6 c7 s0 s1
 obtain ⟨s2a,s3a,s4a,s5a,s6a,s7a,s8a⟩:=co7 hb2 s2 s3 s4 s5 s6 s7 s8
 obtain ⟨h0a,h1a,h2a,h3a,h4a,h5a⟩:=rc6 (BC w1 [zg true,zg false,zg true,zg false,zg false,zg false] 288)
 clear hb1 hb2 hbel hB1 c0 c1 c2 c3 c4 c5 c6 c7 s0 s1 s2 s3 s4 s5 s6 s7 s8
 go_wp2_with fail
 refine (K2.o _ _ _).mono ?_
 rintro e wz ⟨he,rfl⟩
 have he2:=orT he
 subst he2
 clear he
 go_wp2_with fail
 refine (K3.o _ _ _).mono ?_
 rintro e wz ⟨rfl,rfl⟩
 go_wp2_with fail
 refine (K2.o _ _ _).mono ?_
 rintro e wz ⟨he,rfl⟩
 rcases he with ⟨hvar,rfl⟩ | ⟨hz,rfl⟩
 rotate_left
 ·have HN:E=5:=N5.o (by intro hA;(try simp at hz);(try simp at hA);omega)
  subst HN
  clear hz
  unfold Au
  go_wp2_with fail
  exact ⟨rfl,Or.inr ⟨by decide,rfl⟩,hB2⟩
 have hvar2:0<=vr/\vr < vn:=by simpa using hvar
 have HVAR:=Aa hvar2
 clear hvar hvar2
 go_wp2_with fail
 go_quiet ((go_at_call 172;exact Calls.quiet_of_same (BA _ _)))
 obtain ⟨c0r,c1r,c2r,c3r,c4r,c5r,c6r,c7r,s0r,s1r⟩:=CK (n:=nq) c0a c1a c2a c3a c4a c5a c6a c7a s0a s1a
 obtain ⟨s2r,s3r,s4r,s5r,s6r,s7r,s8r,h0r,h1r,h2r⟩:=CK (n:=nq) s2a s3a s4a s5a s6a s7a s8a h0a h1a h2a
 obtain ⟨h3r,h4r,h5r⟩:=cn3 (n:=nq) h3a h4a h5a
 have hBr:=below_drewN hB2 nq
 clear hB2 c0a c1a c2a c3a c4a c5a c6a c7a s0a s1a s2a s3a s4a s5a s6a s7a s8a h0a h1a h2a h3a h4a h5a
 generalize (w1.alloc (ze #[zg true,zg false,zg true,zg false,zg false,zg false] 288)).drewN nq=wr at hBr c0r c1r c2r c3r c4r c5r c6r c7r s0r s1r s2r s3r s4r s5r s6r s7r s8r h0r h1r h2r h3r h4r h5r ⊢
 go_wp2_with fail
 refine (K2.o _ _ _).mono ?_
 rintro e wz ⟨he,rfl⟩
 have he2:=orT he
 subst he2
 clear he
 go_wp2_with fail
 refine (K2.o _ _ _).mono ?_
 rintro e wz ⟨he,rfl⟩
 rcases he with ⟨hz,rfl⟩ | ⟨hz,rfl⟩
 rotate_left
 ·have HN:E=1:=N1.o (by first | exact ⟨HVAR.o,HOT.o⟩ | exact HVAR.o | exact HOT.o | trivial) (by intro hA;(try simp at hz);(try simp at hA);omega)
  subst HN
  clear hz
  unfold Au
  go_wp2_with fail
  exact ⟨rfl,Or.inr ⟨by decide,rfl⟩,hBr⟩
 have HZ_1:=Aa hz
 clear hz
 go_wp2_with fail
 refine (K2.o _ _ _).mono ?_
 rintro e wz ⟨he,rfl⟩
 have he2:=orT he
 subst he2
 clear he
 go_wp2_with fail
 refine (K2.o _ _ _).mono ?_
 rintro e wz ⟨he,rfl⟩
 rcases he with ⟨hargs,rfl⟩ | ⟨hz,rfl⟩
 rotate_left
 ·have HN:E=1:=N1.o (by first | exact ⟨HVAR.o,HOT.o⟩ | exact HVAR.o | exact HOT.o | trivial) (by intro hA;(try simp at hz);(try simp at hA);omega)
  subst HN
  clear hz
  unfold Au
  go_wp2_with fail
  exact ⟨rfl,Or.inr ⟨by decide,rfl⟩,hBr⟩
 have hal0:al=0:=by simp at hargs;omega
 subst hal0
 clear hargs
 go_wp2_with fail
 refine (K2.o _ _ _).mono ?_
 rintro e wz ⟨he,rfl⟩
 rcases he with ⟨hz,rfl⟩ | ⟨hz,rfl⟩
 rotate_left
 ·have HN:E=1:=N1.o (by first | exact ⟨HVAR.o,HOT.o⟩ | exact HVAR.o | exact HOT.o | trivial) (by intro hA;(try simp at hz);(try simp at hA);omega)
  subst HN
  clear hz
  unfold Au
  go_wp2_with fail
  exact ⟨rfl,Or.inr ⟨by decide,rfl⟩,hBr⟩
 have HZ_2:=Aa hz
 clear hz
 go_wp2_with fail
 refine (K2.o _ _ _).mono ?_
 rintro e wz ⟨he,rfl⟩
 rcases he with ⟨hz,rfl⟩ | ⟨hz,rfl⟩
 rotate_left
 ·have HN:E=1:=N1.o (by first | exact ⟨HVAR.o,HOT.o⟩ | exact HVAR.o | exact HOT.o | trivial) (by intro hA;(try simp at hz);(try simp at hA);omega)
  subst HN
  clear hz
  unfold Au
  go_wp2_with fail
  exact ⟨rfl,Or.inr ⟨by decide,rfl⟩,hBr⟩
 have HZ_3:=Aa hz
 clear hz
 go_wp2_with fail
 go_quiet ((go_at_call 172;exact Calls.quiet_of_same (BA _ _)))
 obtain ⟨c0q,c1q,c2q,c3q,c4q,c5q,c6q,c7q,s0q,s1q⟩:=CK (n:=nq) c0r c1r c2r c3r c4r c5r c6r c7r s0r s1r
 obtain ⟨s2q,s3q,s4q,s5q,s6q,s7q,s8q,h0q,h1q,h2q⟩:=CK (n:=nq) s2r s3r s4r s5r s6r s7r s8r h0r h1r h2r
 obtain ⟨h3q,h4q,h5q⟩:=cn3 (n:=nq) h3r h4r h5r
 have hBq:=below_drewN hBr nq
 clear c0r c1r c2r c3r c4r c5r c6r c7r s0r s1r s2r s3r s4r s5r s6r s7r s8r h0r h1r h2r h3r h4r h5r
 go_wp2_with fail
 refine (K5.o _ hBq).mono ?_
 rintro e w5 ⟨he,hb5⟩
 have hB5:=hBq.trans (hb5.mono hBq.size)
 rcases he with ⟨hex,rfl⟩ | ⟨hnex,rfl⟩
 rotate_left
 ·have HN:=NX.o (by first | exact ⟨HVAR.o,HOT.o⟩ | exact HVAR.o | exact HOT.o | trivial) (by refine ⟨?_,?_,?_,?_⟩ <;> first | trivial | exact HVAR.o | exact HOT.o | exact ⟨HZ1.o,HZ2.o,HXL.o⟩ | (have hq:=HZ_1.o;simp at hq;omega) | (have hq:=HZ_2.o;simp at hq;omega) | (have hq:=HZ_3.o;simp at hq;omega) | omega)
  subst HN
  have HNX:=Aa hnex
  clear hnex
  unfold Au
  go_wp2_with fail
  exact ⟨rfl,Or.inr ⟨HNX.o,rfl⟩,hB5⟩
 obtain ⟨c05,c15,c25,c35,c45,c55,c65,c75,s05,s15⟩:=Cy hb5 c0q c1q c2q c3q c4q c5q c6q c7q s0q s1q
 obtain ⟨s25,s35,s45,s55,s65,s75,s85,h05,h15,h25⟩:=Cy hb5 s2q s3q s4q s5q s6q s7q s8q h0q h1q h2q
 obtain ⟨h35,h45,h55⟩:=co3 hb5 h3q h4q h5q
 have HEX:=Aa hex
 clear hex hb5 c0q c1q c2q c3q c4q c5q c6q c7q s0q s1q s2q s3q s4q s5q s6q s7q s8q h0q h1q h2q h3q h4q h5q
 go_wp2_with fail
 go_loopw [138] (fun i wr=>i=U zd 0/\Ov w wr) (fun _ _=>0)
 case atStart=>exact ⟨rfl,hB5⟩
 case round=>
  obtain ⟨rfl,hB⟩:=hrel
  go_wp2_with fail
  go_end0
  refine ⟨Or.inl ⟨HQ.o ⟨?_,?_,?_,?_,?_,?_⟩,rfl⟩,hB⟩
  all_goals first | trivial | exact HVAR.o | exact HOT.o | exact HEX.o | exact ⟨HZ1.o,HZ2.o,HXL.o⟩ | (have hq:=HZ_1.o;simp at hq;omega) | (have hq:=HZ_2.o;simp at hq;omega) | (have hq:=HZ_3.o;simp at hq;omega) | omega
theorem PO (K k:Nat) (fs de das) (funcs:Int) (m:Int) (ga gn gc sa sn sc) (ya:Option Addr) (yn yc:Nat) (oa:Option Addr) (on oc:Nat) (va:Option Addr) (vn vc:Nat) (fa fn fc ba bn bc) (vr ot ek en:Int) (xa xl xc aa al ac ta tl tc ea el ec) (w:World) (hv:vn<=9223372036854775807) (i1:Ce vr) (i2:Ce ot) (h0f:0<=funcs) (h1f:funcs<=9223372036854775807) (hyl:yn<=9223372036854775807) (hol:on<=9223372036854775807)
  (hde:RX w K [U zd ek,U zd en,O xa xl xc] de) (hda:XS 3 (RX w K) w (O aa al ac) das) (hfs:Bk w K k (O fa fn fc) fs) (hff:funcs<=fs.length) :
  Calls Tryz.prog 220 #[zh #[U zd m,O ga gn gc,O sa sn sc,O ya yn yc,O oa on oc,O va vn vc,O fa fn fc,O ba bn bc],zh #[U zd 8,U zd vr,U zd ot,U zd ek,U zd en,O xa xl xc,O aa al ac,O ta tl tc,O ea el ec],U zd funcs] w (CL (if True then if (vr=0)/\(ot=0)/\(al=0)/\(el=0) then Az vn K de else 1 else 5) w):=by
 obtain ⟨E,hE⟩:∃ E:Int,E=(if True then if (vr=0)/\(ot=0)/\(al=0)/\(el=0) then Az vn K de else 1 else 5):=⟨_,rfl⟩
 rw [<-hE]
 have HQ:Hx (((vr=0)/\(ot=0)/\(Az vn K de=0)/\(al=0)/\(True)/\(el=0))->E=0):=Aa (fun q=>by rw [hE,if_pos (trivial),if_pos (⟨q.1,q.2.1,q.2.2.2.1,q.2.2.2.2.2⟩)];try exact q.2.2.1)
 have N5:Hx (¬ (True)->E=5):=Aa (fun h=>by rw [hE,if_neg h])
 have N1:Hx ((True)->¬ ((vr=0)/\(ot=0)/\(al=0)/\(el=0))->E=1):=Aa (fun h h2=>by rw [hE,if_pos h,if_neg h2])
 have NX:Hx ((True)->((vr=0)/\(ot=0)/\(al=0)/\(el=0))->E=Az vn K de):=Aa (fun h h2=>by rw [hE,if_pos h,if_pos h2])
 clear hE
 have K1:=Aa MC
 have K2:=Aa BL
 have K3:=Aa Bb
 have K4:=Aa fun W=>B4 8 funcs m ga gn gc sa sn sc ya yn yc oa on oc va vn vc fa fn fc ba bn bc W
 have K5:=Aa fun W (hB:Ov w W)=>BT K m ga gn gc sa sn sc ya yn yc oa on oc va vn vc fa fn fc ba bn bc _ _ W (hde.over hB) hv
 have hal:al<=9223372036854775807/\al=das.length:=⟨by obtain ⟨hm,ao,cap,he,-⟩:=hda;injection he with e1 e2 e3;rw [e2];exact hm,by obtain ⟨hm,ao,cap,he,-⟩:=hda;injection he⟩
 obtain ⟨hal,hale⟩:=hal
 have HAL:=Aa hale
 obtain ⟨i1,i1'⟩:=i1
 obtain ⟨i2,i2'⟩:=i2
 clear hde hda hfs hale
 obtain ⟨c0,c1,c2,c3,c4,c5,c6,c7⟩:=rc8 (E6 w [U zd m,O ga gn gc,O sa sn sc,O ya yn yc,O oa on oc,O va vn vc,O fa fn fc,O ba bn bc] 184 (ze #[U zd 8,U zd vr,U zd ot,U zd ek,U zd en,O xa xl xc,O aa al ac,O ta tl tc,O ea el ec] 130))
 obtain ⟨s0,s1,s2,s3,s4,s5,s6,s7,s8⟩:=rc9 (FM w (ze #[U zd m,O ga gn gc,O sa sn sc,O ya yn yc,O oa on oc,O va vn vc,O fa fn fc,O ba bn bc] 184) [U zd 8,U zd vr,U zd ot,U zd ek,U zd en,O xa xl xc,O aa al ac,O ta tl tc,O ea el ec] 130)
 have hbel:Ov w ((w.alloc (ze #[U zd m,O ga gn gc,O sa sn sc,O ya yn yc,O oa on oc,O va vn vc,O fa fn fc,O ba bn bc] 184)).alloc (ze #[U zd 8,U zd vr,U zd ot,U zd ek,U zd en,O xa xl xc,O aa al ac,O ta tl tc,O ea el ec] 130)):=(bA w _).alloc (by simp) _
 go_enter Tryz.func220,Tryz.ntmps220
 go_wp2_with fail
 refine (K1.o _).mono ?_
 rintro e w1 ⟨rfl,hb1⟩
 have hB1:=hbel.trans (hb1.mono hbel.size)
 have hb2:=Ac hb1 (bA w1 (ze #[zg false,zg false,zg true,zg false,zg true,zg false] 288))
 have hB2:=hbel.trans (hb2.mono hbel.size)
 obtain ⟨c0a,c1a,c2a,c3a,c4a,c5a,c6a,c7a,s0a,s1a⟩:=Cy hb2 c0 c1 c2 c3 c4 c5 c6 c7 s0 s1
 obtain ⟨s2a,s3a,s4a,s5a,s6a,s7a,s8a⟩:=co7 hb2 s2 s3 s4 s5 s6 s7 s8
 obtain ⟨h0a,h1a,h2a,h3a,h4a,h5a⟩:=rc6 (BC w1 [zg false,zg false,zg true,zg false,zg true,zg false] 288)
 clear hb1 hb2 hbel hB1 c0 c1 c2 c3 c4 c5 c6 c7 s0 s1 s2 s3 s4 s5 s6 s7 s8
 go_wp2_with fail
 refine (K2.o _ _ _).mono ?_
 rintro e wz ⟨he,rfl⟩
 have he2:=orT he
 subst he2
 clear he
 go_wp2_with fail
 refine (K2.o _ _ _).mono ?_
 rintro e wz ⟨he,rfl⟩
 have he2:=orT he
 subst he2
 clear he
 go_wp2_with fail
 go_quiet ((go_at_call 172;exact Calls.quiet_of_same (BA _ _)))
 obtain ⟨c0r,c1r,c2r,c3r,c4r,c5r,c6r,c7r,s0r,s1r⟩:=CK (n:=nq) c0a c1a c2a c3a c4a c5a c6a c7a s0a s1a
 obtain ⟨s2r,s3r,s4r,s5r,s6r,s7r,s8r,h0r,h1r,h2r⟩:=CK (n:=nq) s2a s3a s4a s5a s6a s7a s8a h0a h1a h2a
 obtain ⟨h3r,h4r,h5r⟩:=cn3 (n:=nq) h3a h4a h5a
 have hBr:=below_drewN hB2 nq
 clear hB2 c0a c1a c2a c3a c4a c5a c6a c7a s0a s1a s2a s3a s4a s5a s6a s7a s8a h0a h1a h2a h3a h4a h5a
 generalize (w1.alloc (ze #[zg false,zg false,zg true,zg false,zg true,zg false] 288)).drewN nq=wr at hBr c0r c1r c2r c3r c4r c5r c6r c7r s0r s1r s2r s3r s4r s5r s6r s7r s8r h0r h1r h2r h3r h4r h5r ⊢
 go_wp2_with fail
 refine (K2.o _ _ _).mono ?_
 rintro e wz ⟨he,rfl⟩
 rcases he with ⟨hz,rfl⟩ | ⟨hz,rfl⟩
 rotate_left
 ·have HN:E=1:=N1.o (by first | exact ⟨HVAR.o,HOT.o⟩ | exact HVAR.o | exact HOT.o | trivial) (by intro hA;(try simp at hz);(try simp at hA);omega)
  subst HN
  clear hz
  unfold Au
  go_wp2_with fail
  exact ⟨rfl,Or.inr ⟨by decide,rfl⟩,hBr⟩
 have HZ_1:=Aa hz
 clear hz
 go_wp2_with fail
 refine (K2.o _ _ _).mono ?_
 rintro e wz ⟨he,rfl⟩
 rcases he with ⟨hz,rfl⟩ | ⟨hz,rfl⟩
 rotate_left
 ·have HN:E=1:=N1.o (by first | exact ⟨HVAR.o,HOT.o⟩ | exact HVAR.o | exact HOT.o | trivial) (by intro hA;(try simp at hz);(try simp at hA);omega)
  subst HN
  clear hz
  unfold Au
  go_wp2_with fail
  exact ⟨rfl,Or.inr ⟨by decide,rfl⟩,hBr⟩
 have HZ_2:=Aa hz
 clear hz
 go_wp2_with fail
 refine (K2.o _ _ _).mono ?_
 rintro e wz ⟨he,rfl⟩
 have he2:=orT he
 subst he2
 clear he
 go_wp2_with fail
 refine (K2.o _ _ _).mono ?_
 rintro e wz ⟨he,rfl⟩
 rcases he with ⟨hargs,rfl⟩ | ⟨hz,rfl⟩
 rotate_left
 ·have HN:E=1:=N1.o (by first | exact ⟨HVAR.o,HOT.o⟩ | exact HVAR.o | exact HOT.o | trivial) (by intro hA;(try simp at hz);(try simp at hA);omega)
  subst HN
  clear hz
  unfold Au
  go_wp2_with fail
  exact ⟨rfl,Or.inr ⟨by decide,rfl⟩,hBr⟩
 have hal0:al=0:=by simp at hargs;omega
 subst hal0
 clear hargs
 go_wp2_with fail
 refine (K2.o _ _ _).mono ?_
 rintro e wz ⟨he,rfl⟩
 have he2:=orT he
 subst he2
 clear he
 go_wp2_with fail
 refine (K2.o _ _ _).mono ?_
 rintro e wz ⟨he,rfl⟩
 rcases he with ⟨hz,rfl⟩ | ⟨hz,rfl⟩
 rotate_left
 ·have HN:E=1:=N1.o (by first | exact ⟨HVAR.o,HOT.o⟩ | exact HVAR.o | exact HOT.o | trivial) (by intro hA;(try simp at hz);(try simp at hA);omega)
  subst HN
  clear hz
  unfold Au
  go_wp2_with fail
  exact ⟨rfl,Or.inr ⟨by decide,rfl⟩,hBr⟩
 have HZ_3:=Aa hz
 clear hz
 go_wp2_with fail
 go_quiet ((go_at_call 172;exact Calls.quiet_of_same (BA _ _)))
 obtain ⟨c0q,c1q,c2q,c3q,c4q,c5q,c6q,c7q,s0q,s1q⟩:=CK (n:=nq) c0r c1r c2r c3r c4r c5r c6r c7r s0r s1r
 obtain ⟨s2q,s3q,s4q,s5q,s6q,s7q,s8q,h0q,h1q,h2q⟩:=CK (n:=nq) s2r s3r s4r s5r s6r s7r s8r h0r h1r h2r
 obtain ⟨h3q,h4q,h5q⟩:=cn3 (n:=nq) h3r h4r h5r
 have hBq:=below_drewN hBr nq
 clear c0r c1r c2r c3r c4r c5r c6r c7r s0r s1r s2r s3r s4r s5r s6r s7r s8r h0r h1r h2r h3r h4r h5r
 go_wp2_with fail
 refine (K5.o _ hBq).mono ?_
 rintro e w5 ⟨he,hb5⟩
 have hB5:=hBq.trans (hb5.mono hBq.size)
 rcases he with ⟨hex,rfl⟩ | ⟨hnex,rfl⟩
 rotate_left
 ·have HN:=NX.o (by first | exact ⟨HVAR.o,HOT.o⟩ | exact HVAR.o | exact HOT.o | trivial) (by refine ⟨?_,?_,?_,?_⟩ <;> first | trivial | exact HVAR.o | exact HOT.o | exact ⟨HZ1.o,HZ2.o,HXL.o⟩ | (have hq:=HZ_1.o;simp at hq;omega) | (have hq:=HZ_2.o;simp at hq;omega) | (have hq:=HZ_3.o;simp at hq;omega) | omega)
  subst HN
  have HNX:=Aa hnex
  clear hnex
  unfold Au
  go_wp2_with fail
  exact ⟨rfl,Or.inr ⟨HNX.o,rfl⟩,hB5⟩
 obtain ⟨c05,c15,c25,c35,c45,c55,c65,c75,s05,s15⟩:=Cy hb5 c0q c1q c2q c3q c4q c5q c6q c7q s0q s1q
 obtain ⟨s25,s35,s45,s55,s65,s75,s85,h05,h15,h25⟩:=Cy hb5 s2q s3q s4q s5q s6q s7q s8q h0q h1q h2q
 obtain ⟨h35,h45,h55⟩:=co3 hb5 h3q h4q h5q
 have HEX:=Aa hex
 clear hex hb5 c0q c1q c2q c3q c4q c5q c6q c7q s0q s1q s2q s3q s4q s5q s6q s7q s8q h0q h1q h2q h3q h4q h5q
 go_wp2_with fail
 go_loopw [138] (fun i wr=>i=U zd 0/\Ov w wr) (fun _ _=>0)
 case atStart=>exact ⟨rfl,hB5⟩
 case round=>
  obtain ⟨rfl,hB⟩:=hrel
  go_wp2_with fail
  go_end0
  refine ⟨Or.inl ⟨HQ.o ⟨?_,?_,?_,?_,?_,?_⟩,rfl⟩,hB⟩
  all_goals first | trivial | exact HVAR.o | exact HOT.o | exact HEX.o | exact ⟨HZ1.o,HZ2.o,HXL.o⟩ | (have hq:=HZ_1.o;simp at hq;omega) | (have hq:=HZ_2.o;simp at hq;omega) | (have hq:=HZ_3.o;simp at hq;omega) | omega
theorem PP (K k:Nat) (fs de das) (funcs:Int) (m:Int) (ga gn gc sa sn sc) (ya:Option Addr) (yn yc:Nat) (oa:Option Addr) (on oc:Nat) (va:Option Addr) (vn vc:Nat) (fa fn fc ba bn bc) (vr ot ek en:Int) (xa xl xc aa al ac ta tl tc ea el ec) (w:World) (hv:vn<=9223372036854775807) (i1:Ce vr) (i2:Ce ot) (h0f:0<=funcs) (h1f:funcs<=9223372036854775807) (hyl:yn<=9223372036854775807) (hol:on<=9223372036854775807)
  (hde:RX w K [U zd ek,U zd en,O xa xl xc] de) (hda:XS 3 (RX w K) w (O aa al ac) das) (hfs:Bk w K k (O fa fn fc) fs) (hff:funcs<=fs.length) :
  Calls Tryz.prog 220 #[zh #[U zd m,O ga gn gc,O sa sn sc,O ya yn yc,O oa on oc,O va vn vc,O fa fn fc,O ba bn bc],zh #[U zd 7,U zd vr,U zd ot,U zd ek,U zd en,O xa xl xc,O aa al ac,O ta tl tc,O ea el ec],U zd funcs] w (CL (if True then if (vr=0)/\(ot=0)/\(al=0) then Az vn K de else 1 else 5) w):=by
 obtain ⟨E,hE⟩:∃ E:Int,E=(if True then if (vr=0)/\(ot=0)/\(al=0) then Az vn K de else 1 else 5):=⟨_,rfl⟩
 rw [<-hE]
 have HQ:Hx (((vr=0)/\(ot=0)/\(Az vn K de=0)/\(al=0)/\(True)/\(True))->E=0):=Aa (fun q=>by rw [hE,if_pos (trivial),if_pos (⟨q.1,q.2.1,q.2.2.2.1⟩)];try exact q.2.2.1)
 have N5:Hx (¬ (True)->E=5):=Aa (fun h=>by rw [hE,if_neg h])
 have N1:Hx ((True)->¬ ((vr=0)/\(ot=0)/\(al=0))->E=1):=Aa (fun h h2=>by rw [hE,if_pos h,if_neg h2])
 have NX:Hx ((True)->((vr=0)/\(ot=0)/\(al=0))->E=Az vn K de):=Aa (fun h h2=>by rw [hE,if_pos h,if_pos h2])
 clear hE
 have K1:=Aa MD
 have K2:=Aa BL
 have K3:=Aa Bb
 have K4:=Aa fun W=>B4 7 funcs m ga gn gc sa sn sc ya yn yc oa on oc va vn vc fa fn fc ba bn bc W
 have K5:=Aa fun W (hB:Ov w W)=>BT K m ga gn gc sa sn sc ya yn yc oa on oc va vn vc fa fn fc ba bn bc _ _ W (hde.over hB) hv
 have hal:al<=9223372036854775807/\al=das.length:=⟨by obtain ⟨hm,ao,cap,he,-⟩:=hda;injection he with e1 e2 e3;rw [e2];exact hm,by obtain ⟨hm,ao,cap,he,-⟩:=hda;injection he⟩
 obtain ⟨hal,hale⟩:=hal
 have HAL:=Aa hale
 obtain ⟨i1,i1'⟩:=i1
 obtain ⟨i2,i2'⟩:=i2
 clear hde hda hfs hale
 obtain ⟨c0,c1,c2,c3,c4,c5,c6,c7⟩:=rc8 (E6 w [U zd m,O ga gn gc,O sa sn sc,O ya yn yc,O oa on oc,O va vn vc,O fa fn fc,O ba bn bc] 184 (ze #[U zd 7,U zd vr,U zd ot,U zd ek,U zd en,O xa xl xc,O aa al ac,O ta tl tc,O ea el ec] 130))
 obtain ⟨s0,s1,s2,s3,s4,s5,s6,s7,s8⟩:=rc9 (FM w (ze #[U zd m,O ga gn gc,O sa sn sc,O ya yn yc,O oa on oc,O va vn vc,O fa fn fc,O ba bn bc] 184) [U zd 7,U zd vr,U zd ot,U zd ek,U zd en,O xa xl xc,O aa al ac,O ta tl tc,O ea el ec] 130)
 have hbel:Ov w ((w.alloc (ze #[U zd m,O ga gn gc,O sa sn sc,O ya yn yc,O oa on oc,O va vn vc,O fa fn fc,O ba bn bc] 184)).alloc (ze #[U zd 7,U zd vr,U zd ot,U zd ek,U zd en,O xa xl xc,O aa al ac,O ta tl tc,O ea el ec] 130)):=(bA w _).alloc (by simp) _
 go_enter Tryz.func220,Tryz.ntmps220
 go_wp2_with fail
 refine (K1.o _).mono ?_
 rintro e w1 ⟨rfl,hb1⟩
 have hB1:=hbel.trans (hb1.mono hbel.size)
 have hb2:=Ac hb1 (bA w1 (ze #[zg false,zg false,zg true,zg false,zg true,zg true] 288))
 have hB2:=hbel.trans (hb2.mono hbel.size)
 obtain ⟨c0a,c1a,c2a,c3a,c4a,c5a,c6a,c7a,s0a,s1a⟩:=Cy hb2 c0 c1 c2 c3 c4 c5 c6 c7 s0 s1
 obtain ⟨s2a,s3a,s4a,s5a,s6a,s7a,s8a⟩:=co7 hb2 s2 s3 s4 s5 s6 s7 s8
 obtain ⟨h0a,h1a,h2a,h3a,h4a,h5a⟩:=rc6 (BC w1 [zg false,zg false,zg true,zg false,zg true,zg true] 288)
 clear hb1 hb2 hbel hB1 c0 c1 c2 c3 c4 c5 c6 c7 s0 s1 s2 s3 s4 s5 s6 s7 s8
 go_wp2_with fail
 refine (K2.o _ _ _).mono ?_
 rintro e wz ⟨he,rfl⟩
 have he2:=orT he
 subst he2
 clear he
 go_wp2_with fail
 refine (K2.o _ _ _).mono ?_
 rintro e wz ⟨he,rfl⟩
 have he2:=orT he
 subst he2
 clear he
 go_wp2_with fail
 go_quiet ((go_at_call 172;exact Calls.quiet_of_same (BA _ _)))
 obtain ⟨c0r,c1r,c2r,c3r,c4r,c5r,c6r,c7r,s0r,s1r⟩:=CK (n:=nq) c0a c1a c2a c3a c4a c5a c6a c7a s0a s1a
 obtain ⟨s2r,s3r,s4r,s5r,s6r,s7r,s8r,h0r,h1r,h2r⟩:=CK (n:=nq) s2a s3a s4a s5a s6a s7a s8a h0a h1a h2a
 obtain ⟨h3r,h4r,h5r⟩:=cn3 (n:=nq) h3a h4a h5a
 have hBr:=below_drewN hB2 nq
 clear hB2 c0a c1a c2a c3a c4a c5a c6a c7a s0a s1a s2a s3a s4a s5a s6a s7a s8a h0a h1a h2a h3a h4a h5a
 generalize (w1.alloc (ze #[zg false,zg false,zg true,zg false,zg true,zg true] 288)).drewN nq=wr at hBr c0r c1r c2r c3r c4r c5r c6r c7r s0r s1r s2r s3r s4r s5r s6r s7r s8r h0r h1r h2r h3r h4r h5r ⊢
 go_wp2_with fail
 refine (K2.o _ _ _).mono ?_
 rintro e wz ⟨he,rfl⟩
 rcases he with ⟨hz,rfl⟩ | ⟨hz,rfl⟩
 rotate_left
 ·have HN:E=1:=N1.o (by first | exact ⟨HVAR.o,HOT.o⟩ | exact HVAR.o | exact HOT.o | trivial) (by intro hA;(try simp at hz);(try simp at hA);omega)
  subst HN
  clear hz
  unfold Au
  go_wp2_with fail
  exact ⟨rfl,Or.inr ⟨by decide,rfl⟩,hBr⟩
 have HZ_1:=Aa hz
 clear hz
 go_wp2_with fail
 refine (K2.o _ _ _).mono ?_
 rintro e wz ⟨he,rfl⟩
 rcases he with ⟨hz,rfl⟩ | ⟨hz,rfl⟩
 rotate_left
 ·have HN:E=1:=N1.o (by first | exact ⟨HVAR.o,HOT.o⟩ | exact HVAR.o | exact HOT.o | trivial) (by intro hA;(try simp at hz);(try simp at hA);omega)
  subst HN
  clear hz
  unfold Au
  go_wp2_with fail
  exact ⟨rfl,Or.inr ⟨by decide,rfl⟩,hBr⟩
 have HZ_2:=Aa hz
 clear hz
 go_wp2_with fail
 refine (K2.o _ _ _).mono ?_
 rintro e wz ⟨he,rfl⟩
 have he2:=orT he
 subst he2
 clear he
 go_wp2_with fail
 refine (K2.o _ _ _).mono ?_
 rintro e wz ⟨he,rfl⟩
 rcases he with ⟨hargs,rfl⟩ | ⟨hz,rfl⟩
 rotate_left
 ·have HN:E=1:=N1.o (by first | exact ⟨HVAR.o,HOT.o⟩ | exact HVAR.o | exact HOT.o | trivial) (by intro hA;(try simp at hz);(try simp at hA);omega)
  subst HN
  clear hz
  unfold Au
  go_wp2_with fail
  exact ⟨rfl,Or.inr ⟨by decide,rfl⟩,hBr⟩
 have hal0:al=0:=by simp at hargs;omega
 subst hal0
 clear hargs
 go_wp2_with fail
 refine (K2.o _ _ _).mono ?_
 rintro e wz ⟨he,rfl⟩
 have he2:=orT he
 subst he2
 clear he
 go_wp2_with fail
 refine (K2.o _ _ _).mono ?_
 rintro e wz ⟨he,rfl⟩
 have he2:=orT he
 subst he2
 clear he
 go_wp2_with fail
 go_quiet ((go_at_call 172;exact Calls.quiet_of_same (BA _ _)))
 obtain ⟨c0q,c1q,c2q,c3q,c4q,c5q,c6q,c7q,s0q,s1q⟩:=CK (n:=nq) c0r c1r c2r c3r c4r c5r c6r c7r s0r s1r
 obtain ⟨s2q,s3q,s4q,s5q,s6q,s7q,s8q,h0q,h1q,h2q⟩:=CK (n:=nq) s2r s3r s4r s5r s6r s7r s8r h0r h1r h2r
 obtain ⟨h3q,h4q,h5q⟩:=cn3 (n:=nq) h3r h4r h5r
 have hBq:=below_drewN hBr nq
 clear c0r c1r c2r c3r c4r c5r c6r c7r s0r s1r s2r s3r s4r s5r s6r s7r s8r h0r h1r h2r h3r h4r h5r
 go_wp2_with fail
 refine (K5.o _ hBq).mono ?_
 rintro e w5 ⟨he,hb5⟩
 have hB5:=hBq.trans (hb5.mono hBq.size)
 rcases he with ⟨hex,rfl⟩ | ⟨hnex,rfl⟩
 rotate_left
 ·have HN:=NX.o (by first | exact ⟨HVAR.o,HOT.o⟩ | exact HVAR.o | exact HOT.o | trivial) (by refine ⟨?_,?_,?_⟩ <;> first | trivial | exact HVAR.o | exact HOT.o | exact ⟨HZ1.o,HZ2.o,HXL.o⟩ | (have hq:=HZ_1.o;simp at hq;omega) | (have hq:=HZ_2.o;simp at hq;omega) | omega)
  subst HN
  have HNX:=Aa hnex
  clear hnex
  unfold Au
  go_wp2_with fail
  exact ⟨rfl,Or.inr ⟨HNX.o,rfl⟩,hB5⟩
 obtain ⟨c05,c15,c25,c35,c45,c55,c65,c75,s05,s15⟩:=Cy hb5 c0q c1q c2q c3q c4q c5q c6q c7q s0q s1q
 obtain ⟨s25,s35,s45,s55,s65,s75,s85,h05,h15,h25⟩:=Cy hb5 s2q s3q s4q s5q s6q s7q s8q h0q h1q h2q
 obtain ⟨h35,h45,h55⟩:=co3 hb5 h3q h4q h5q
 have HEX:=Aa hex
 clear hex hb5 c0q c1q c2q c3q c4q c5q c6q c7q s0q s1q s2q s3q s4q s5q s6q s7q s8q h0q h1q h2q h3q h4q h5q
 go_wp2_with fail
 go_loopw [138] (fun i wr=>i=U zd 0/\Ov w wr) (fun _ _=>0)
 case atStart=>exact ⟨rfl,hB5⟩
 case round=>
  obtain ⟨rfl,hB⟩:=hrel
  go_wp2_with fail
  go_end0
  refine ⟨Or.inl ⟨HQ.o ⟨?_,?_,?_,?_,?_,?_⟩,rfl⟩,hB⟩
  all_goals first | trivial | exact HVAR.o | exact HOT.o | exact HEX.o | exact ⟨HZ1.o,HZ2.o,HXL.o⟩ | (have hq:=HZ_1.o;simp at hq;omega) | (have hq:=HZ_2.o;simp at hq;omega) | omega
theorem PU (K k:Nat) (fs de das) (funcs:Int) (m:Int) (ga gn gc sa sn sc) (ya:Option Addr) (yn yc:Nat) (oa:Option Addr) (on oc:Nat) (va:Option Addr) (vn vc:Nat) (fa fn fc ba bn bc) (vr ot ek en:Int) (xa xl xc aa al ac ta tl tc ea el ec) (w:World) (hv:vn<=9223372036854775807) (i1:Ce vr) (i2:Ce ot) (h0f:0<=funcs) (h1f:funcs<=9223372036854775807) (hyl:yn<=9223372036854775807) (hol:on<=9223372036854775807)
  (hde:RX w K [U zd ek,U zd en,O xa xl xc] de) (hda:XS 3 (RX w K) w (O aa al ac) das) (hfs:Bk w K k (O fa fn fc) fs) (hff:funcs<=fs.length) :
  Calls Tryz.prog 220 #[zh #[U zd m,O ga gn gc,O sa sn sc,O ya yn yc,O oa on oc,O va vn vc,O fa fn fc,O ba bn bc],zh #[U zd 2,U zd vr,U zd ot,U zd ek,U zd en,O xa xl xc,O aa al ac,O ta tl tc,O ea el ec],U zd funcs] w (CL (if (0<=vr/\vr < vn)/\(0<=ot/\ot < funcs) then if (ek=0/\en=0/\xl=0)/\(∀ f,fs[ot.toNat]? = some f->f.ps.length=al)/\(tl=0)/\(el=0) then Bu (das.map fun a=>Az vn K a) else 1 else 5) w):=by
 obtain ⟨E,hE⟩:∃ E:Int,E=(if (0<=vr/\vr < vn)/\(0<=ot/\ot < funcs) then if (ek=0/\en=0/\xl=0)/\(∀ f,fs[ot.toNat]? = some f->f.ps.length=al)/\(tl=0)/\(el=0) then Bu (das.map fun a=>Az vn K a) else 1 else 5):=⟨_,rfl⟩
 rw [<-hE]
 have HQ:Hx (((0<=vr/\vr < vn)/\(0<=ot/\ot < funcs)/\(ek=0/\en=0/\xl=0)/\((∀ f,fs[ot.toNat]? = some f->f.ps.length=al)/\∀ a∈das,Az vn K a=0)/\(tl=0)/\(el=0))->E=0):=Aa (fun q=>by rw [hE,if_pos (⟨q.1,q.2.1⟩),if_pos (⟨q.2.2.1,q.2.2.2.1.1,q.2.2.2.2.1,q.2.2.2.2.2⟩)];try exact Dj (by intro x hx;obtain ⟨a,ha,rfl⟩:=List.mem_map.1 hx;exact q.2.2.2.1.2 a ha))
 have N5:Hx (¬ ((0<=vr/\vr < vn)/\(0<=ot/\ot < funcs))->E=5):=Aa (fun h=>by rw [hE,if_neg h])
 have N1:Hx (((0<=vr/\vr < vn)/\(0<=ot/\ot < funcs))->¬ ((ek=0/\en=0/\xl=0)/\(∀ f,fs[ot.toNat]? = some f->f.ps.length=al)/\(tl=0)/\(el=0))->E=1):=Aa (fun h h2=>by rw [hE,if_pos h,if_neg h2])
 have NX:Hx (((0<=vr/\vr < vn)/\(0<=ot/\ot < funcs))->((ek=0/\en=0/\xl=0)/\(∀ f,fs[ot.toNat]? = some f->f.ps.length=al)/\(tl=0)/\(el=0))->E=Bu (das.map fun a=>Az vn K a)):=Aa (fun h h2=>by rw [hE,if_pos h,if_pos h2])
 clear hE
 have K1:=Aa MI
 have K2:=Aa BL
 have K3:=Aa Bb
 have K4:=Aa fun W=>B4 2 funcs m ga gn gc sa sn sc ya yn yc oa on oc va vn vc fa fn fc ba bn bc W
 simp only [Int.reduceEq,if_true,if_false] at K4
 have K5:=Aa fun W (hB:Ov w W)=>BT K m ga gn gc sa sn sc ya yn yc oa on oc va vn vc fa fn fc ba bn bc _ _ W (hde.over hB) hv
 have HF:=Aa hfs
 have HA:=Aa hda
 have hal:al<=9223372036854775807/\al=das.length:=⟨by obtain ⟨hm,ao,cap,he,-⟩:=hda;injection he with e1 e2 e3;rw [e2];exact hm,by obtain ⟨hm,ao,cap,he,-⟩:=hda;injection he⟩
 obtain ⟨hal,hale⟩:=hal
 have HAL:=Aa hale
 obtain ⟨i1,i1'⟩:=i1
 obtain ⟨i2,i2'⟩:=i2
 clear hde hda hfs hale
 obtain ⟨c0,c1,c2,c3,c4,c5,c6,c7⟩:=rc8 (E6 w [U zd m,O ga gn gc,O sa sn sc,O ya yn yc,O oa on oc,O va vn vc,O fa fn fc,O ba bn bc] 184 (ze #[U zd 2,U zd vr,U zd ot,U zd ek,U zd en,O xa xl xc,O aa al ac,O ta tl tc,O ea el ec] 130))
 obtain ⟨s0,s1,s2,s3,s4,s5,s6,s7,s8⟩:=rc9 (FM w (ze #[U zd m,O ga gn gc,O sa sn sc,O ya yn yc,O oa on oc,O va vn vc,O fa fn fc,O ba bn bc] 184) [U zd 2,U zd vr,U zd ot,U zd ek,U zd en,O xa xl xc,O aa al ac,O ta tl tc,O ea el ec] 130)
 have hbel:Ov w ((w.alloc (ze #[U zd m,O ga gn gc,O sa sn sc,O ya yn yc,O oa on oc,O va vn vc,O fa fn fc,O ba bn bc] 184)).alloc (ze #[U zd 2,U zd vr,U zd ot,U zd ek,U zd en,O xa xl xc,O aa al ac,O ta tl tc,O ea el ec] 130)):=(bA w _).alloc (by simp) _
 go_enter Tryz.func220,Tryz.ntmps220
 go_wp2_with fail
 refine (K1.o _).mono ?_
 rintro e w1 ⟨rfl,hb1⟩
 have hB1:=hbel.trans (hb1.mono hbel.size)
 have hb2:=Ac hb1 (bA w1 (ze #[zg true,zg true,zg false,zg true,zg false,zg false] 288))
 have hB2:=hbel.trans (hb2.mono hbel.size)
 obtain ⟨c0a,c1a,c2a,c3a,c4a,c5a,c6a,c7a,s0a,s1a⟩:=Cy hb2 c0 c1 c2 c3 c4 c5 c6 c7 s0 s1
 obtain ⟨s2a,s3a,s4a,s5a,s6a,s7a,s8a⟩:=co7 hb2 s2 s3 s4 s5 s6 s7 s8
 obtain ⟨h0a,h1a,h2a,h3a,h4a,h5a⟩:=rc6 (BC w1 [zg true,zg true,zg false,zg true,zg false,zg false] 288)
 clear hb1 hb2 hbel hB1 c0 c1 c2 c3 c4 c5 c6 c7 s0 s1 s2 s3 s4 s5 s6 s7 s8
 go_wp2_with fail
 refine (K2.o _ _ _).mono ?_
 rintro e wz ⟨he,rfl⟩
 have he2:=orT he
 subst he2
 clear he
 go_wp2_with fail
 refine (K3.o _ _ _).mono ?_
 rintro e wz ⟨rfl,rfl⟩
 go_wp2_with fail
 refine (K2.o _ _ _).mono ?_
 rintro e wz ⟨he,rfl⟩
 rcases he with ⟨hvar,rfl⟩ | ⟨hz,rfl⟩
 rotate_left
 ·have HN:E=5:=N5.o (by intro hA;(try simp at hz);(try simp at hA);omega)
  subst HN
  clear hz
  unfold Au
  go_wp2_with fail
  exact ⟨rfl,Or.inr ⟨by decide,rfl⟩,hB2⟩
 have hvar2:0<=vr/\vr < vn:=by simpa using hvar
 have HVAR:=Aa hvar2
 clear hvar hvar2
 go_wp2_with fail
 have hr0:=Below.refl (w1.alloc (ze #[zg true,zg true,zg false,zg true,zg false,zg false] 288)).heap.size (w1.alloc (ze #[zg true,zg true,zg false,zg true,zg false,zg false] 288))
 obtain ⟨ob,hob⟩:=nm (decide (0<=ot/\ot < funcs))
 have K3o:=Aa fun W=>Bb ot funcs W
 rw [<-hob] at K3o
 have HOB:=Aa hob
 clear hob
 cases ob with
 | false=>
  have HNO:E=5:=N5.o (by intro hA;have hq:=HOB.o;simp at hq;omega)
  subst HNO
  go_region_held2 (fun W=>W.cell? ⟨w.heap.size,0,none⟩=some (U zd m)/\W.cell? ⟨w.heap.size,1,none⟩=some (O ga gn gc)/\W.cell? ⟨w.heap.size,2,none⟩=some (O sa sn sc)/\W.cell? ⟨w.heap.size,3,none⟩=some (O ya yn yc)/\W.cell? ⟨w.heap.size,4,none⟩=some (O oa on oc)/\W.cell? ⟨w.heap.size,5,none⟩=some (O va vn vc)/\W.cell? ⟨w.heap.size,6,none⟩=some (O fa fn fc)/\W.cell? ⟨w.heap.size,7,none⟩=some (O ba bn bc)/\W.cell? ⟨w.heap.size+1,0,none⟩=some (U zd 2)/\W.cell? ⟨w.heap.size+1,2,none⟩=some (U zd ot)/\W.cell? ⟨w1.heap.size,1,none⟩=some (zg true)/\Ov (w1.alloc (ze #[zg true,zg true,zg false,zg true,zg false,zg false] 288)) W) (first | assumption | exact ⟨c0a,c1a,c2a,c3a,c4a,c5a,c6a,c7a,s0a,s2a,h1a,below_drewN hr0 1⟩ | exact Fj (by assumption) hbp | fail) (first | (go_at_call 244;refine (K4.o _).mono ?_;rintro e wp ⟨rfl,hbp⟩) | (go_at_call 173;refine (K3o.o _).mono ?_;rintro e wq ⟨rfl,rfl⟩) | (go_at_call 172;refine (K2.o false 5 _).mono ?_;rintro e wq ⟨he,rfl⟩;rcases he with ⟨hb,rfl⟩ | ⟨hb,rfl⟩;rotate_left;exact ⟨rfl,Or.inr ⟨by decide,rfl⟩,hB2.trans ((by assumption:_/\_/\_/\_/\_/\_/\_/\_/\_/\_/\_/\Below _ _ _).2.2.2.2.2.2.2.2.2.2.2.mono hB2.size)⟩;have hbad:=Aa hb;clear hb))
  exact absurd hbad.o (by simp)
 | true=>
  have hot:0<=ot/\ot < funcs:=by simpa using HOB.o.symm
  have HOT:=Aa hot
  clear hot
  go_region_held3 (fun W=>W.cell? ⟨w.heap.size,0,none⟩=some (U zd m)/\W.cell? ⟨w.heap.size,1,none⟩=some (O ga gn gc)/\W.cell? ⟨w.heap.size,2,none⟩=some (O sa sn sc)/\W.cell? ⟨w.heap.size,3,none⟩=some (O ya yn yc)/\W.cell? ⟨w.heap.size,4,none⟩=some (O oa on oc)/\W.cell? ⟨w.heap.size,5,none⟩=some (O va vn vc)/\W.cell? ⟨w.heap.size,6,none⟩=some (O fa fn fc)/\W.cell? ⟨w.heap.size,7,none⟩=some (O ba bn bc)/\W.cell? ⟨w.heap.size+1,0,none⟩=some (U zd 2)/\W.cell? ⟨w.heap.size+1,2,none⟩=some (U zd ot)/\W.cell? ⟨w1.heap.size,1,none⟩=some (zg true)/\Ov (w1.alloc (ze #[zg true,zg true,zg false,zg true,zg false,zg false] 288)) W) (first | assumption | exact ⟨c0a,c1a,c2a,c3a,c4a,c5a,c6a,c7a,s0a,s2a,h1a,below_drewN hr0 1⟩ | exact Fj (by assumption) hbp | fail) (first | (go_at_call 244;refine (K4.o _).mono ?_;rintro e wp ⟨rfl,hbp⟩) | (go_at_call 173;refine (K3o.o _).mono ?_;rintro e wq ⟨rfl,rfl⟩) | (go_at_call 172;refine (BA 5 _).mono ?_;rintro e wq ⟨rfl,rfl⟩))
  have hb2:=(by assumption:_/\_/\_/\_/\_/\_/\_/\_/\_/\_/\_/\Below _ _ _).2.2.2.2.2.2.2.2.2.2.2
  have hB3:=hB2.trans (hb2.mono hB2.size)
  obtain ⟨c0b,c1b,c2b,c3b,c4b,c5b,c6b,c7b,s0b,s1b⟩:=Cy hb2 c0a c1a c2a c3a c4a c5a c6a c7a s0a s1a
  obtain ⟨s2b,s3b,s4b,s5b,s6b,s7b,s8b,h0b,h1b,h2b⟩:=Cy hb2 s2a s3a s4a s5a s6a s7a s8a h0a h1a h2a
  obtain ⟨h3b,h4b,h5b⟩:=co3 hb2 h3a h4a h5a
  clear hb2 hB2 hr0 c0a c1a c2a c3a c4a c5a c6a c7a s0a s1a s2a s3a s4a s5a s6a s7a s8a h0a h1a h2a h3a h4a h5a
  go_wp2_with fail
  refine (K2.o _ _ _).mono ?_
  rintro e wz ⟨he,rfl⟩
  have he2:=orT he
  subst he2
  clear he
  go_wp2_with fail
  refine (K2.o _ _ _).mono ?_
  rintro e wz ⟨he,rfl⟩
  have he2:=orT he
  subst he2
  clear he
  by_cases z1:ek=0
  rotate_left
  ·have zb:(ek == 0)=false:=by simpa using z1
   have HN:E=1:=N1.o (by first | exact ⟨HVAR.o,HOT.o⟩ | exact HVAR.o | exact HOT.o | trivial) (by intro hA;omega)
   subst HN
   go_wp2_with fail
   refine (K2.o _ _ _).mono ?_
   rintro e wz ⟨he,rfl⟩
   have he2:e=Au 1:=by
    rcases he with ⟨he,_⟩ | ⟨_,he⟩
    ·cases he
    ·exact he
   subst he2
   clear he
   unfold Au
   go_wp2_with fail
   exact ⟨rfl,Or.inr ⟨by decide,rfl⟩,hB3⟩
  have zb1:(ek == 0)=true:=by simpa using z1
  have HZ1:=Aa z1
  clear z1
  by_cases z2:en=0
  rotate_left
  ·have zb:(en == 0)=false:=by simpa using z2
   have HN:E=1:=N1.o (by first | exact ⟨HVAR.o,HOT.o⟩ | exact HVAR.o | exact HOT.o | trivial) (by intro hA;omega)
   subst HN
   go_wp2_with fail
   refine (K2.o _ _ _).mono ?_
   rintro e wz ⟨he,rfl⟩
   have he2:e=Au 1:=by
    rcases he with ⟨he,_⟩ | ⟨_,he⟩
    ·cases he
    ·exact he
   subst he2
   clear he
   unfold Au
   go_wp2_with fail
   exact ⟨rfl,Or.inr ⟨by decide,rfl⟩,hB3⟩
  have zb2:(en == 0)=true:=by simpa using z2
  have HZ2:=Aa z2
  clear z2
  go_wp2_with fail
  refine (K2.o _ _ _).mono ?_
  rintro e wz ⟨he,rfl⟩
  rcases he with ⟨hz,rfl⟩ | ⟨hz,rfl⟩
  rotate_left
  ·have HN:E=1:=N1.o (by first | exact ⟨HVAR.o,HOT.o⟩ | exact HVAR.o | exact HOT.o | trivial) (by intro hA;(try simp at hz);(try simp at hA);omega)
   subst HN
   clear hz
   unfold Au
   go_wp2_with fail
   exact ⟨rfl,Or.inr ⟨by decide,rfl⟩,hB3⟩
  have hxl0:xl=0:=by simp at hz;omega
  have HXL:=Aa hxl0
  clear hz hxl0
  go_wp2_with fail
  refine (K2.o _ _ _).mono ?_
  rintro e wz ⟨he,rfl⟩
  have he2:=orT he
  subst he2
  clear he
  go_wp2_with fail
  refine (K2.o _ _ _).mono ?_
  rintro e wz ⟨he,rfl⟩
  rcases he with ⟨hz,rfl⟩ | ⟨hz,rfl⟩
  rotate_left
  ·have HN:E=1:=N1.o (by first | exact ⟨HVAR.o,HOT.o⟩ | exact HVAR.o | exact HOT.o | trivial) (by intro hA;(try simp at hz);(try simp at hA);omega)
   subst HN
   clear hz
   unfold Au
   go_wp2_with fail
   exact ⟨rfl,Or.inr ⟨by decide,rfl⟩,hB3⟩
  have HZ_1:=Aa hz
  clear hz
  go_wp2_with fail
  refine (K2.o _ _ _).mono ?_
  rintro e wz ⟨he,rfl⟩
  rcases he with ⟨hz,rfl⟩ | ⟨hz,rfl⟩
  rotate_left
  ·have HN:E=1:=N1.o (by first | exact ⟨HVAR.o,HOT.o⟩ | exact HVAR.o | exact HOT.o | trivial) (by intro hA;(try simp at hz);(try simp at hA);omega)
   subst HN
   clear hz
   unfold Au
   go_wp2_with fail
   exact ⟨rfl,Or.inr ⟨by decide,rfl⟩,hB3⟩
  have HZ_2:=Aa hz
  clear hz
  go_wp2_with fail
  obtain ⟨hot0,hot1⟩:=HOT.o
  obtain ⟨hfl,fa',fc',hfe,hfc⟩:=HF.o
  injection hfe with e1 e2 e3
  subst e1 e2 e3
  obtain ⟨j,rfl⟩:∃ j:Nat,ot=(j:Int):=⟨ot.toNat,by omega⟩
  have hj:j < fs.length:=by omega
  have hfl':fs.length<=9223372036854775807:=hfl
  obtain ⟨b,off,rfl,hcl⟩:=hfc (by rintro rfl;simp at hj)
  obtain ⟨vP,vB,x0,x1,x2,p0,p1,p2,p3,p4,hps,hpl,-,-⟩:=hcl j hj
  obtain ⟨pa,pc,rfl,-⟩:=hps
  have hget:fs[j]? = some fs[j]:=List.getElem?_eq_getElem hj
  obtain ⟨fd,hfd⟩:=nm (fs[j])
  rw [<-hfd] at p0 hpl hget
  obtain ⟨pn,hpn⟩:=nm fd.ps.length
  rw [<-hpn] at p0
  have p0c:=Ab hB3 _ _ p0
  have hpl':pn<=9223372036854775807:=by rw [hpn];exact hpl.1
  have HPN:=Aa hpn
  have HGET:=Aa hget
  clear hfc hcl p0 p1 p2 p3 p4 hget hfd hpn hot0 hot1 hfl hpl
  by_cases hpe:al=pn
  rotate_left
  ·have HNP:E=1:=N1.o ⟨HVAR.o,HOT.o⟩ (fun hd=>hpe ((hd.2.1 fd (by simpa using HGET.o)).symm.trans HPN.o.symm))
   subst HNP
   have hpb:((al:Int) == (pn:Int))=false:=by simp;omega
   go_region_held2 (fun W=>W.cell? ⟨w.heap.size+1,0,none⟩=some (U zd 2)/\W.cell? ⟨w.heap.size+1,6,none⟩=some (O aa al ac)/\W.cell? ⟨w.heap.size,6,none⟩=some (O (some ⟨b,off,none⟩) fs.length fc)/\W.cell? ⟨w.heap.size+1,2,none⟩=some (U zd (j:Int))/\W.cell? ⟨b,off+j*5,none⟩=some (O pa pn pc)/\Ov w W) (first | assumption | exact ⟨s0b,s6b,c6b,s2b,p0c,below_drewN hB3 1⟩ | fail) (first | (go_at_call 172;refine (K2.o false 1 _).mono ?_;rintro e wq ⟨he,rfl⟩;rcases he with ⟨hb,rfl⟩ | ⟨hb,rfl⟩;rotate_left;exact ⟨rfl,Or.inr ⟨by decide,rfl⟩,(by assumption:_/\_/\_/\_/\_/\Below _ _ _).2.2.2.2.2⟩;have hbad:=Aa hb;clear hb))
   exact absurd hbad.o (by simp)
  subst hpe
  go_quiet ((go_at_call 172;exact Calls.quiet_of_same (BA _ _)))
  obtain ⟨c0q,c1q,c2q,c3q,c4q,c5q,c6q,c7q,s0q,s1q⟩:=CK (n:=nq) c0b c1b c2b c3b c4b c5b c6b c7b s0b s1b
  obtain ⟨s2q,s3q,s4q,s5q,s6q,s7q,s8q,h0q,h1q,h2q⟩:=CK (n:=nq) s2b s3b s4b s5b s6b s7b s8b h0b h1b h2b
  obtain ⟨h3q,h4q,h5q⟩:=cn3 (n:=nq) h3b h4b h5b
  have hBq:=below_drewN hB3 nq
  clear c0b c1b c2b c3b c4b c5b c6b c7b s0b s1b s2b s3b s4b s5b s6b s7b s8b h0b h1b h2b h3b h4b h5b p0c
  go_wp2_with fail
  have hda2:=HA.o
  obtain ⟨hdl,aa',ac',hde2,hdc⟩:=hda2
  injection hde2 with a1 a2 a3
  subst a1 a3
  have HDC:=Aa hdc
  clear hdc a2
  have hBB:=hBq
  have HBB:Hx ((ek=0/\en=0/\xl=0)/\(∀ f,fs[((j:Nat):Int).toNat]? = some f->f.ps.length=al)/\(tl=0)/\(el=0)):=by
   refine Aa ⟨⟨HZ1.o,HZ2.o,HXL.o⟩,fun f hf=>?_,?_,?_⟩
   ·have h1:=HGET.o
    simp only [Int.toNat_natCast] at hf
    rw [h1] at hf
    rw [<-Option.some.inj hf]
    exact HPN.o.symm
   ·have hq:=HZ_1.o;simp at hq;omega
   ·have hq:=HZ_2.o;simp at hq;omega
  go_loopw [138] (fun i wr=>∃ n:Nat,n<=al/\i=U zd n/\(∀ a∈das.take n,Az vn K a=0)/\(wr.cell? ⟨w.heap.size,0,none⟩=some (U zd m)/\wr.cell? ⟨w.heap.size,1,none⟩=some (O ga gn gc)/\wr.cell? ⟨w.heap.size,2,none⟩=some (O sa sn sc)/\wr.cell? ⟨w.heap.size,3,none⟩=some (O ya yn yc)/\wr.cell? ⟨w.heap.size,4,none⟩=some (O oa on oc)/\wr.cell? ⟨w.heap.size,5,none⟩=some (O va vn vc)/\wr.cell? ⟨w.heap.size,6,none⟩=some (O (some ⟨b,off,none⟩) fs.length fc)/\wr.cell? ⟨w.heap.size,7,none⟩=some (O ba bn bc))/\Ov w wr) (fun i _=>al - (intOf i).toNat)
  case atStart=>exact ⟨0,Nat.zero_le _,rfl,by simp,⟨c0q,c1q,c2q,c3q,c4q,c5q,c6q,c7q⟩,hBB⟩
  case round=>
   clear hBq hBB c0q c1q c2q c3q c4q c5q c6q c7q s0q s1q s2q s3q s4q s5q s6q s7q s8q h0q h1q h2q h3q h4q h5q
   obtain ⟨n,hn,rfl,hok,⟨d0,d1,d2,d3,d4,d5,d6,d7⟩,hB⟩:=hrel
   have HOK:=Aa hok
   clear hok
   by_cases hnl:n < al
   ·have hnd:n < das.length:=by have:=HAL.o;omega
    obtain ⟨bb,oo,rfl,hdcl⟩:=HDC.o (by rintro rfl;simp at hnd)
    obtain ⟨acs,hal3,hacs,har⟩:=hdcl n das[n] (List.getElem?_eq_getElem hnd)
    have htk:das.take (n+1)=das.take n++[das[n]]:=List.take_succ_eq_append_getElem hnd
    have HTK:=Aa htk
    have HMD:=Aa (List.getElem_mem hnd)
    have HFE:Hx (Az vn K das[n]≠0->Bu (das.map fun a=>Az vn K a)=Az vn K das[n]):=Aa (fun h=>Eh hnd HOK.o h)
    obtain ⟨xa2,xc2,hxf⟩:=har.form
    obtain ⟨dn,hdn⟩:=nm (das[n])
    rw [<-hdn] at har hxf HTK HMD HFE
    subst hxf
    obtain ⟨ek2,hek2⟩:=nm (AK dn)
    obtain ⟨en2,hen2⟩:=nm (A6 dn)
    obtain ⟨xl2,hxl2⟩:=nm ((AX dn).length)
    rw [<-hek2,<-hen2,<-hxl2] at har hacs
    have g0:wr.cell? ⟨bb,oo+n*3,none⟩=_:=Ab hB _ _ (hacs 0 _ rfl)
    have g1:=Ab hB _ _ (hacs 1 _ rfl)
    have g2:=Ab hB _ _ (hacs 2 _ rfl)
    have hba:=bA wr (ze #[U zd ek2,U zd en2,O xa2 xl2 xc2] 94)
    have hBa:=hB.trans (hba.mono hB.size)
    have K6:=Aa (BT K m ga gn gc sa sn sc ya yn yc oa on oc va vn vc (some ⟨b,off,none⟩) fs.length fc ba bn bc _ dn _ (har.over hBa) hv)
    obtain ⟨f0,f1,f2,f3,f4,f5,f6,f7⟩:=co8 hba d0 d1 d2 d3 d4 d5 d6 d7
    clear hacs hdcl hal3 htk hdn hek2 hen2 hxl2 har
    go_wp2_with fail
    refine (K6.o).mono ?_
    rintro e w6 ⟨he,hb6⟩
    have hB6:=hBa.trans (hb6.mono hBa.size)
    rcases he with ⟨hex,rfl⟩ | ⟨hnex,rfl⟩
    rotate_left
    ·have HN:=NX.o ⟨HVAR.o,HOT.o⟩ HBB.o
     rw [HFE.o hnex] at HN
     subst HN
     have HNX:=Aa hnex
     clear hnex
     unfold Au
     go_wp2_with fail
     exact ⟨rfl,Or.inr ⟨HNX.o,rfl⟩,hB6⟩
    obtain ⟨t0,t1,t2,t3,t4,t5,t6,t7⟩:=co8 hb6 f0 f1 f2 f3 f4 f5 f6 f7
    have hnext:∀ a∈das.take (n+1),Az vn K a=0:=fun a ha=>by
     rw [HTK.o,List.mem_append,List.mem_singleton] at ha
     rcases ha with ha | rfl
     ·exact HOK.o a ha
     ·exact hex
    have HNX:=Aa hnext
    clear hnext hex hb6 hBa hba hB K6 d0 f0 d1 f1 d2 f2 d3 f3 d4 f4 d5 f5 d6 f6 d7 f7 g0 g1 g2
    go_wp2_with fail
    exact ⟨⟨n+1,by omega,by go_num,HNX.o,⟨t0,t1,t2,t3,t4,t5,t6,t7⟩,hB6⟩,by simp [intOf];omega⟩
   ·have hall:das.take n=das:=List.take_of_length_le (by have:=HAL.o;omega)
    have hok2:=HOK.o
    rw [hall] at hok2
    have HOK2:=Aa hok2
    clear hok2 hall
    go_wp2_with fail
    go_end0
    refine ⟨Or.inl ⟨HQ.o ⟨HVAR.o,HOT.o,⟨HZ1.o,HZ2.o,HXL.o⟩,⟨fun f hf=>?_,HOK2.o⟩,?_,?_⟩,rfl⟩,hB⟩
    rotate_left
    ·have hq:=HZ_1.o;simp at hq;omega
    ·have hq:=HZ_2.o;simp at hq;omega
    have h1:=HGET.o
    simp only [Int.toNat_natCast] at hf
    rw [h1] at hf
    rw [<-Option.some.inj hf]
    exact HPN.o.symm
def eS1 (K:Nat) (nv ni no:Nat) (funcs:Int) (fs:List FnD) (d:D):Int:=
 if Ag d=1 then (if (0<=(Ao d)/\(Ao d) < nv) then if ((Ae d)=0)/\(((Ah d).length)=0)/\(((Ai d).length)=0)/\(((Al d).length)=0) then Az nv K (Ap d) else 1 else 5)
 else if Ag d=2 then (if (0<=(Ao d)/\(Ao d) < nv)/\(0<=(Ae d)/\(Ae d) < funcs) then if ((AK (Ap d))=0/\(A6 (Ap d))=0/\((AX (Ap d)).length)=0)/\(∀ f,fs[(Ae d).toNat]? = some f->f.ps.length=((Ah d).length))/\(((Ai d).length)=0)/\(((Al d).length)=0) then Bu ((Ah d).map fun a=>Az nv K a) else 1 else 5)
 else if Ag d=3 then (if (0<=(Ao d)/\(Ao d) < nv)/\(0<=(Ae d)/\(Ae d) < (ni:Int)) then if ((AK (Ap d))=0/\(A6 (Ap d))=0/\((AX (Ap d)).length)=0)/\(((Ah d).length)=0)/\(((Ai d).length)=0)/\(((Al d).length)=0) then 0 else 1 else 5)
 else if Ag d=4 then (if (0<=(Ae d)/\(Ae d) < (no:Int)) then if ((Ao d)=0)/\(((Ah d).length)=0)/\(((Ai d).length)=0)/\(((Al d).length)=0) then Az nv K (Ap d) else 1 else 5)
 else if Ag d=5 then (if (0<=(Ao d)/\(Ao d) < nv) then if ((Ae d)=0)/\(((Ah d).length)=0)/\(((Ai d).length)=0)/\(((Al d).length)=0) then Az nv K (Ap d) else 1 else 5)
 else if Ag d=6 then (if (0<=(Ao d)/\(Ao d) < nv) then if ((Ae d)=0)/\(((Ah d).length)=0)/\(((Ai d).length)=0)/\(((Al d).length)=0) then Az nv K (Ap d) else 1 else 5)
 else if Ag d=7 then (if True then if ((Ao d)=0)/\((Ae d)=0)/\(((Ah d).length)=0) then Az nv K (Ap d) else 1 else 5)
 else if Ag d=8 then (if True then if ((Ao d)=0)/\((Ae d)=0)/\(((Ah d).length)=0)/\(((Al d).length)=0) then Az nv K (Ap d) else 1 else 5)
 else 7
def eS (K:Nat) (nv ni no:Nat) (funcs:Int) (fs:List FnD):Nat->D->Int
 | 0,_=>7
 | k+1,d=>Bu [eS1 K nv ni no funcs fs d,Bu ((Ai d).map (eS K nv ni no funcs fs k)),Bu ((Al d).map (eS K nv ni no funcs fs k))]
theorem f3a {a b c:Int} (h:a≠0):Bu [a,b,c]=a:=by
 have e:[a,b,c]=[a]++[b,c]:=rfl
 rw [e,Cb,B5,if_neg h]
theorem f3b {a b c:Int} (h:a=0) (h2:b≠0):Bu [a,b,c]=b:=by
 have e:[a,b,c]=[a]++([b]++[c]):=rfl
 rw [e,Cb,B5,if_pos h,Cb,B5,if_neg h2]
theorem f3c {a b c:Int} (h:a=0) (h2:b=0):Bu [a,b,c]=c:=by
 have e:[a,b,c]=[a]++([b]++[c]):=rfl
 rw [e,Cb,B5,if_pos h,Cb,B5,if_pos h2,B5]
theorem Mx (kd:Int) (hk:¬ (1<=kd/\kd<=8)) (funcs:Int) (m:Int) (ga gn gc sa sn sc ya yn yc oa on oc va vn vc fa fn fc ba bn bc) (vr ot ek en:Int) (xa xl xc aa al ac ta tl tc ea el ec) (w:World) :
  Calls Tryz.prog 220 #[zh #[U zd m,O ga gn gc,O sa sn sc,O ya yn yc,O oa on oc,O va vn vc,O fa fn fc,O ba bn bc],zh #[U zd kd,U zd vr,U zd ot,U zd ek,U zd en,O xa xl xc,O aa al ac,O ta tl tc,O ea el ec],U zd funcs] w (CL 7 w):=by
 have K1:=Aa (IC kd hk)
 have K2:=Aa BL
 have hbel:Ov w ((w.alloc (ze #[U zd m,O ga gn gc,O sa sn sc,O ya yn yc,O oa on oc,O va vn vc,O fa fn fc,O ba bn bc] 184)).alloc (ze #[U zd kd,U zd vr,U zd ot,U zd ek,U zd en,O xa xl xc,O aa al ac,O ta tl tc,O ea el ec] 130)):=(bA w _).alloc (by simp) _
 clear hk
 go_enter Tryz.func220,Tryz.ntmps220
 go_wp2_with fail
 refine (K1.o _).mono ?_
 rintro e w1 ⟨rfl,hb1⟩
 have hB1:=hbel.trans (hb1.mono hbel.size)
 have hB2:=hB1.trans ((bA w1 (ze #[zg false,zg false,zg false,zg false,zg false,zg false] 288)).mono hB1.size)
 clear hb1 hbel
 go_wp2_with fail
 refine (K2.o _ _ _).mono ?_
 rintro e wz ⟨he,rfl⟩
 have he2:e=Au 7:=by
  rcases he with ⟨he,_⟩ | ⟨_,he⟩
  ·cases he
  ·exact he
 subst he2
 clear he
 unfold Au
 go_wp2_with fail
 exact ⟨rfl,Or.inr ⟨by decide,rfl⟩,hB2⟩
theorem Jm (K k kf:Nat) (fs) (funcs:Int) (m:Int) (ga gn gc sa sn sc) (ya:Option Addr) (yn yc:Nat) (oa:Option Addr) (on oc:Nat) (va:Option Addr) (vn vc:Nat) (fa fn fc ba bn bc) (cs:List Value) (d) (w:World) (hv:vn<=9223372036854775807) (h0f:0<=funcs) (h1f:funcs<=9223372036854775807) (hyl:yn<=9223372036854775807) (hol:on<=9223372036854775807)
  (hs:RS w K (k+1) cs d) (hfs:Bk w K kf (O fa fn fc) fs) (hff:funcs<=fs.length) :
  Calls Tryz.prog 220 #[zh #[U zd m,O ga gn gc,O sa sn sc,O ya yn yc,O oa on oc,O va vn vc,O fa fn fc,O ba bn bc],.agg cs.toArray,U zd funcs] w (CL (eS1 K vn yn on funcs fs d) w):=by
 obtain ⟨ek,en,xa,xl,xc,aa,ac,ta,tc,ea,ec,rfl,i0,i1,i2,hde,hda,-,-,hek,hen,hxl⟩:=hs.form
 unfold eS1
 by_cases hk:1<=Ag d/\Ag d<=8
 ·rcases (by omega:Ag d=1\/Ag d=2\/Ag d=3\/Ag d=4\/Ag d=5\/Ag d=6\/Ag d=7\/Ag d=8) with h | h | h | h | h | h | h | h
  ·have H:=PV K kf fs (Ap d) (Ah d) funcs m ga gn gc sa sn sc ya yn yc oa on oc va vn vc fa fn fc ba bn bc (Ao d) (Ae d) ek en xa xl xc aa (Ah d).length ac ta (Ai d).length tc ea (Al d).length ec w hv i1 i2 h0f h1f hyl hol hde hda hfs hff
   have e:(sC (Ag d) (Ao d) (Ae d) ek en xa xl xc aa (Ah d).length ac ta (Ai d).length tc ea (Al d).length ec).toArray=#[U zd 1,U zd (Ao d),U zd (Ae d),U zd ek,U zd en,O xa xl xc,O aa (Ah d).length ac,O ta (Ai d).length tc,O ea (Al d).length ec]:=by rw [h]
   rw [e]
   exact H.mono fun e w' hg=>hg.imp (by rw [h];(try rw [hek,hen,hxl]);rfl)
  ·have H:=PU K kf fs (Ap d) (Ah d) funcs m ga gn gc sa sn sc ya yn yc oa on oc va vn vc fa fn fc ba bn bc (Ao d) (Ae d) ek en xa xl xc aa (Ah d).length ac ta (Ai d).length tc ea (Al d).length ec w hv i1 i2 h0f h1f hyl hol hde hda hfs hff
   have e:(sC (Ag d) (Ao d) (Ae d) ek en xa xl xc aa (Ah d).length ac ta (Ai d).length tc ea (Al d).length ec).toArray=#[U zd 2,U zd (Ao d),U zd (Ae d),U zd ek,U zd en,O xa xl xc,O aa (Ah d).length ac,O ta (Ai d).length tc,O ea (Al d).length ec]:=by rw [h]
   rw [e]
   exact H.mono fun e w' hg=>hg.imp (by rw [h];(try rw [hek,hen,hxl]);rfl)
  ·have H:=PT K kf fs (Ap d) (Ah d) funcs m ga gn gc sa sn sc ya yn yc oa on oc va vn vc fa fn fc ba bn bc (Ao d) (Ae d) ek en xa xl xc aa (Ah d).length ac ta (Ai d).length tc ea (Al d).length ec w hv i1 i2 h0f h1f hyl hol hde hda hfs hff
   have e:(sC (Ag d) (Ao d) (Ae d) ek en xa xl xc aa (Ah d).length ac ta (Ai d).length tc ea (Al d).length ec).toArray=#[U zd 3,U zd (Ao d),U zd (Ae d),U zd ek,U zd en,O xa xl xc,O aa (Ah d).length ac,O ta (Ai d).length tc,O ea (Al d).length ec]:=by rw [h]
   rw [e]
   exact H.mono fun e w' hg=>hg.imp (by rw [h];(try rw [hek,hen,hxl]);rfl)
  ·have H:=PS K kf fs (Ap d) (Ah d) funcs m ga gn gc sa sn sc ya yn yc oa on oc va vn vc fa fn fc ba bn bc (Ao d) (Ae d) ek en xa xl xc aa (Ah d).length ac ta (Ai d).length tc ea (Al d).length ec w hv i1 i2 h0f h1f hyl hol hde hda hfs hff
   have e:(sC (Ag d) (Ao d) (Ae d) ek en xa xl xc aa (Ah d).length ac ta (Ai d).length tc ea (Al d).length ec).toArray=#[U zd 4,U zd (Ao d),U zd (Ae d),U zd ek,U zd en,O xa xl xc,O aa (Ah d).length ac,O ta (Ai d).length tc,O ea (Al d).length ec]:=by rw [h]
   rw [e]
   exact H.mono fun e w' hg=>hg.imp (by rw [h];(try rw [hek,hen,hxl]);rfl)
  ·have H:=PR K kf fs (Ap d) (Ah d) funcs m ga gn gc sa sn sc ya yn yc oa on oc va vn vc fa fn fc ba bn bc (Ao d) (Ae d) ek en xa xl xc aa (Ah d).length ac ta (Ai d).length tc ea (Al d).length ec w hv i1 i2 h0f h1f hyl hol hde hda hfs hff
   have e:(sC (Ag d) (Ao d) (Ae d) ek en xa xl xc aa (Ah d).length ac ta (Ai d).length tc ea (Al d).length ec).toArray=#[U zd 5,U zd (Ao d),U zd (Ae d),U zd ek,U zd en,O xa xl xc,O aa (Ah d).length ac,O ta (Ai d).length tc,O ea (Al d).length ec]:=by rw [h]
   rw [e]
   exact H.mono fun e w' hg=>hg.imp (by rw [h];(try rw [hek,hen,hxl]);rfl)
  ·have H:=PQ K kf fs (Ap d) (Ah d) funcs m ga gn gc sa sn sc ya yn yc oa on oc va vn vc fa fn fc ba bn bc (Ao d) (Ae d) ek en xa xl xc aa (Ah d).length ac ta (Ai d).length tc ea (Al d).length ec w hv i1 i2 h0f h1f hyl hol hde hda hfs hff
   have e:(sC (Ag d) (Ao d) (Ae d) ek en xa xl xc aa (Ah d).length ac ta (Ai d).length tc ea (Al d).length ec).toArray=#[U zd 6,U zd (Ao d),U zd (Ae d),U zd ek,U zd en,O xa xl xc,O aa (Ah d).length ac,O ta (Ai d).length tc,O ea (Al d).length ec]:=by rw [h]
   rw [e]
   exact H.mono fun e w' hg=>hg.imp (by rw [h];(try rw [hek,hen,hxl]);rfl)
  ·have H:=PP K kf fs (Ap d) (Ah d) funcs m ga gn gc sa sn sc ya yn yc oa on oc va vn vc fa fn fc ba bn bc (Ao d) (Ae d) ek en xa xl xc aa (Ah d).length ac ta (Ai d).length tc ea (Al d).length ec w hv i1 i2 h0f h1f hyl hol hde hda hfs hff
   have e:(sC (Ag d) (Ao d) (Ae d) ek en xa xl xc aa (Ah d).length ac ta (Ai d).length tc ea (Al d).length ec).toArray=#[U zd 7,U zd (Ao d),U zd (Ae d),U zd ek,U zd en,O xa xl xc,O aa (Ah d).length ac,O ta (Ai d).length tc,O ea (Al d).length ec]:=by rw [h]
   rw [e]
   exact H.mono fun e w' hg=>hg.imp (by rw [h];(try rw [hek,hen,hxl]);rfl)
  ·have H:=PO K kf fs (Ap d) (Ah d) funcs m ga gn gc sa sn sc ya yn yc oa on oc va vn vc fa fn fc ba bn bc (Ao d) (Ae d) ek en xa xl xc aa (Ah d).length ac ta (Ai d).length tc ea (Al d).length ec w hv i1 i2 h0f h1f hyl hol hde hda hfs hff
   have e:(sC (Ag d) (Ao d) (Ae d) ek en xa xl xc aa (Ah d).length ac ta (Ai d).length tc ea (Al d).length ec).toArray=#[U zd 8,U zd (Ao d),U zd (Ae d),U zd ek,U zd en,O xa xl xc,O aa (Ah d).length ac,O ta (Ai d).length tc,O ea (Al d).length ec]:=by rw [h]
   rw [e]
   exact H.mono fun e w' hg=>hg.imp (by rw [h];(try rw [hek,hen,hxl]);rfl)
 ·exact (Mx (Ag d) hk funcs m ga gn gc sa sn sc ya yn yc oa on oc va vn vc fa fn fc ba bn bc (Ao d) (Ae d) ek en xa xl xc aa (Ah d).length ac ta (Ai d).length tc ea (Al d).length ec w).mono fun e w' hg=>hg.imp (by rw [if_neg (by omega),if_neg (by omega),if_neg (by omega),if_neg (by omega),if_neg (by omega),if_neg (by omega),if_neg (by omega),if_neg (by omega)])
theorem FY (K kf:Nat) (fs:List FnD) (funcs:Int) (m:Int) (ga gn gc sa sn sc) (ya:Option Addr) (yn yc:Nat) (oa:Option Addr) (on oc:Nat) (va:Option Addr) (vn vc:Nat) (fa fn fc) (ba bn bc) (hv:vn<=9223372036854775807) (h0f:0<=funcs) (h1f:funcs<=9223372036854775807) (hyl:yn<=9223372036854775807) (hol:on<=9223372036854775807) (hff:funcs<=fs.length):∀ (k:Nat) (v:Value) (l:List D) (w:World),Bd w K k v l->Bk w K kf (O fa fn fc) fs ->
  Calls Tryz.prog 177 #[zh #[U zd m,O ga gn gc,O sa sn sc,O ya yn yc,O oa on oc,O va vn vc,O fa fn fc,O ba bn bc],v,U zd funcs] w (CL (Bu (l.map (eS K vn yn on funcs fs k))) w):=by
 intro k
 induction k with
 | zero=>
  intro v l w h hf
  obtain rfl:=h.zero
  obtain ⟨-,ao,cap,rfl,-⟩:=h
  have hbel:Ov w (w.alloc (ze #[U zd m,O ga gn gc,O sa sn sc,O ya yn yc,O oa on oc,O va vn vc,O fa fn fc,O ba bn bc] 184)):=bA w _
  show Calls Tryz.prog 177 #[zh #[U zd m,O ga gn gc,O sa sn sc,O ya yn yc,O oa on oc,O va vn vc,O fa fn fc,O ba bn bc],O ao 0 cap,U zd funcs] w _
  clear hf
  go_enter Tryz.func177,Tryz.ntmps177
  go_wp2_with fail
  go_loopw [10] (fun i wr=>i=U zd 0/\Ov w wr) (fun _ _=>0)
  case atStart=>exact ⟨rfl,hbel⟩
  case round=>
   obtain ⟨rfl,hB⟩:=hrel
   go_wp2_with fail
   go_end0
   exact ⟨Or.inl ⟨rfl,rfl⟩,hB⟩
 | succ k ih=>
  intro v l w h hf
  have hlen:l.length<=9223372036854775807:=h.1
  obtain ⟨ao,cap,rfl,hc⟩:=h.2
  obtain ⟨E,hE⟩:∃ E:Int,E=Bu (l.map (eS K vn yn on funcs fs (k+1))):=⟨_,rfl⟩
  rw [<-hE]
  have HE:=Aa hE
  clear hE
  have HC:=Aa hc
  have HF:=Aa hf
  have IH:=Aa ih
  have KS:=Aa fun cs d W (hs:RS W K (k+1) cs d) (hfs:Bk W K (max kf (k+1)) (O fa fn fc) fs)=>Jm K k (max kf (k+1)) fs funcs m ga gn gc sa sn sc ya yn yc oa on oc va vn vc fa fn fc ba bn bc cs d W hv h0f h1f hyl hol hs hfs hff
  clear hc ih h hf
  have hbel:Ov w (w.alloc (ze #[U zd m,O ga gn gc,O sa sn sc,O ya yn yc,O oa on oc,O va vn vc,O fa fn fc,O ba bn bc] 184)):=bA w _
  obtain ⟨c0,c1,c2,c3,c4,c5,c6,c7⟩:=rc8 (BC w [U zd m,O ga gn gc,O sa sn sc,O ya yn yc,O oa on oc,O va vn vc,O fa fn fc,O ba bn bc] 184)
  go_enter Tryz.func177,Tryz.ntmps177
  go_wp2_with fail
  go_loopw [10] (fun i wr=>∃ j:Nat,j<=l.length/\i=U zd j/\(∀ s∈l.take j,eS K vn yn on funcs fs (k+1) s=0)/\(wr.cell? ⟨w.heap.size,0,none⟩=some (U zd m)/\wr.cell? ⟨w.heap.size,1,none⟩=some (O ga gn gc)/\wr.cell? ⟨w.heap.size,2,none⟩=some (O sa sn sc)/\wr.cell? ⟨w.heap.size,3,none⟩=some (O ya yn yc)/\wr.cell? ⟨w.heap.size,4,none⟩=some (O oa on oc)/\wr.cell? ⟨w.heap.size,5,none⟩=some (O va vn vc)/\wr.cell? ⟨w.heap.size,6,none⟩=some (O fa fn fc)/\wr.cell? ⟨w.heap.size,7,none⟩=some (O ba bn bc))/\Ov w wr) (fun i _=>l.length - (intOf i).toNat)
  case atStart=>exact ⟨0,Nat.zero_le _,rfl,by simp,⟨c0,c1,c2,c3,c4,c5,c6,c7⟩,hbel⟩
  case round=>
   clear c0 c1 c2 c3 c4 c5 c6 c7 hbel
   obtain ⟨j,hj,rfl,hok,⟨c0,c1,c2,c3,c4,c5,c6,c7⟩,hB⟩:=hrel
   have HOK:=Aa hok
   clear hok
   by_cases hjl:j < l.length
   ·obtain ⟨b,off,rfl,hcl⟩:=HC.o (by rintro rfl;simp at hjl)
    obtain ⟨cs,hl9,hcs,hr⟩:=hcl j l[j] (List.getElem?_eq_getElem hjl)
    have htk:l.take (j+1)=l.take j++[l[j]]:=List.take_succ_eq_append_getElem hjl
    obtain ⟨d,hd⟩:=nm (l[j])
    have hmd:eS K vn yn on funcs fs (k+1) l[j]≠0->E=eS K vn yn on funcs fs (k+1) l[j]:=fun h=>by
     rw [HE.o]
     exact Eh hjl HOK.o h
    rw [<-hd] at hr htk hmd
    have HMD:=Aa hmd
    clear hmd
    have HTK:=Aa htk
    obtain ⟨ek,en,xa,xl,xc,aa,ac,ta,tc,ea,ec,hcse,-,-,-,-,-,hT,hE,-,-,-⟩:=hr.form
    subst hcse
    obtain ⟨kd,hkd⟩:=nm (Ag d)
    obtain ⟨vr,hvr⟩:=nm (Ao d)
    obtain ⟨ot,hot⟩:=nm (Ae d)
    obtain ⟨al,hal⟩:=nm ((Ah d).length)
    obtain ⟨tl,htl⟩:=nm ((Ai d).length)
    obtain ⟨el,hel⟩:=nm ((Al d).length)
    rw [<-hkd,<-hvr,<-hot,<-hal,<-htl,<-hel] at hcs hr
    rw [<-htl] at hT
    rw [<-hel] at hE
    have q0:wr.cell? ⟨b,off+j*9,none⟩=_:=Ab hB _ _ (hcs 0 _ rfl)
    have q1:=Ab hB _ _ (hcs 1 _ rfl)
    have q2:=Ab hB _ _ (hcs 2 _ rfl)
    have q3:=Ab hB _ _ (hcs 3 _ rfl)
    have q4:=Ab hB _ _ (hcs 4 _ rfl)
    have q5:=Ab hB _ _ (hcs 5 _ rfl)
    have q6:=Ab hB _ _ (hcs 6 _ rfl)
    have q7:=Ab hB _ _ (hcs 7 _ rfl)
    have q8:=Ab hB _ _ (hcs 8 _ rfl)
    have hba:Ov wr (wr.alloc (ze #[U zd kd,U zd vr,U zd ot,U zd ek,U zd en,O xa xl xc,O aa al ac,O ta tl tc,O ea el ec] 130)):=bA wr _
    have hBa:=hB.trans (hba.mono hB.size)
    obtain ⟨f0,f1,f2,f3,f4,f5,f6,f7⟩:=co8 hba c0 c1 c2 c3 c4 c5 c6 c7
    obtain ⟨s0,s1,s2,s3,s4,s5,s6,s7,s8⟩:=rc9 (BC wr [U zd kd,U zd vr,U zd ot,U zd ek,U zd en,O xa xl xc,O aa al ac,O ta tl tc,O ea el ec] 130)
    have K1:=Aa (KS.o _ d _ (RS.mono (Ab hBa) (k+1) (k+1) _ d (Nat.le_refl _) hr) ((HF.o.over hBa).mono (Nat.le_max_left _ _)))
    have K2:=Aa fun W (hW:Ov w W)=>IH.o (O ta tl tc) (Ai d) W (hT.over hW) (HF.o.over hW)
    have K3:=Aa fun W (hW:Ov w W)=>IH.o (O ea el ec) (Al d) W (hE.over hW) (HF.o.over hW)
    clear hT hE hcs hcl hr hl9 hkd hvr hot hal htl hel hd htk
    go_wp2_with fail
    refine (K1.o).mono ?_
    rintro e w1 ⟨he,hb1⟩
    have hB1:=hBa.trans (hb1.mono hBa.size)
    rcases he with ⟨hp1,rfl⟩ | ⟨hnp,rfl⟩
    rotate_left
    ·have he3:eS K vn yn on funcs fs (k+1) d=_:=f3a hnp
     have HN:=(HMD.o (by rw [he3];exact hnp)).trans he3
     subst HN
     have HNX:=Aa hnp
     clear hnp he3
     unfold Au
     go_wp2_with fail
     exact ⟨rfl,Or.inr ⟨HNX.o,rfl⟩,hB1⟩
    have HP1:=Aa hp1
    obtain ⟨t7,t8,g0,g1,g2,g3,g4,g5,g6,g7⟩:=Cy hb1 s7 s8 f0 f1 f2 f3 f4 f5 f6 f7
    have K2':=Aa (K2.o w1 hB1)
    clear K1 K2 hp1 hb1 hBa hba hB c0 c1 c2 c3 c4 c5 c6 c7 f0 f1 f2 f3 f4 f5 f6 f7 q0 q1 q2 q3 q4 q5 q6 q7 q8 s0 s1 s2 s3 s4 s5 s6 s7 s8
    go_wp2_with fail
    refine (K2'.o).mono ?_
    rintro e w2 ⟨he,hb2⟩
    have hB2:=hB1.trans (hb2.mono hB1.size)
    rcases he with ⟨hp2,rfl⟩ | ⟨hnp,rfl⟩
    rotate_left
    ·have he3:eS K vn yn on funcs fs (k+1) d=_:=f3b HP1.o hnp
     have HN:=(HMD.o (by rw [he3];exact hnp)).trans he3
     subst HN
     have HNX:=Aa hnp
     clear hnp he3
     unfold Au
     go_wp2_with fail
     exact ⟨rfl,Or.inr ⟨HNX.o,rfl⟩,hB2⟩
    have HP2:=Aa hp2
    obtain ⟨u8,r0,r1,r2,r3,r4,r5,r6,r7⟩:=co9 hb2 t8 g0 g1 g2 g3 g4 g5 g6 g7
    have K3':=Aa (K3.o w2 hB2)
    clear K2' K3 hp2 hb2 hB1 g0 g1 g2 g3 g4 g5 g6 g7 t7 t8
    go_wp2_with fail
    refine (K3'.o).mono ?_
    rintro e w3 ⟨he,hb3⟩
    have hB3:=hB2.trans (hb3.mono hB2.size)
    rcases he with ⟨hp3,rfl⟩ | ⟨hnp,rfl⟩
    rotate_left
    ·have he3:eS K vn yn on funcs fs (k+1) d=_:=f3c HP1.o HP2.o
     have HN:=(HMD.o (by rw [he3];exact hnp)).trans he3
     subst HN
     have HNX:=Aa hnp
     clear hnp he3
     unfold Au
     go_wp2_with fail
     exact ⟨rfl,Or.inr ⟨HNX.o,rfl⟩,hB3⟩
    obtain ⟨z0,z1,z2,z3,z4,z5,z6,z7⟩:=co8 hb3 r0 r1 r2 r3 r4 r5 r6 r7
    have hnext:∀ s∈l.take (j+1),eS K vn yn on funcs fs (k+1) s=0:=fun s hs=>by
     rw [HTK.o,List.mem_append,List.mem_singleton] at hs
     rcases hs with hs | rfl
     ·exact HOK.o s hs
     ·exact (f3c HP1.o HP2.o).trans hp3
    have HNX:=Aa hnext
    clear hnext hp3 K3' hb3 hB2 r0 r1 r2 r3 r4 r5 r6 r7 u8
    go_wp2_with fail
    exact ⟨⟨j+1,by omega,by go_num,HNX.o,⟨z0,z1,z2,z3,z4,z5,z6,z7⟩,hB3⟩,by simp [intOf];omega⟩
   ·have hall:l.take j=l:=List.take_of_length_le (by omega)
    have hok2:=HOK.o
    rw [hall] at hok2
    have HOK2:=Aa hok2
    clear hok2 hall
    go_wp2_with fail
    go_end0
    exact ⟨Or.inl ⟨by rw [HE.o];exact Dj (by intro x hx;obtain ⟨s,hs,rfl⟩:=List.mem_map.1 hx;exact HOK2.o s hs),rfl⟩,hB⟩
end Go.Proofs.YtfffpjkcfnekaaaGreat.Ex.Ez
