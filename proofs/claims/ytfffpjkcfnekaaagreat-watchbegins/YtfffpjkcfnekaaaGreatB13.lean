/- run.Run, whatever it is handed. -/
import Derived.Test.YtfffpjkcfnekaaaGreatB12
set_option linter.unusedVariables false
set_option maxHeartbeats 8000000
set_option maxRecDepth 100000
namespace Go.Proofs.YtfffpjkcfnekaaaGreat.Ex
open Go.RowKit
open Go.Value renaming slice -> O, int -> U, bool -> zg, agg -> zh, pointer -> zi, tuple -> zk
open Go.IntKind renaming i64 -> zd
open Go.Obj renaming cells -> ze
open Go.Ending renaming returned -> zj
def IU:BS where
 fn:=66
 fre:=[]
 cap:=[]
 ent:=fun args w=>by simp [go_sem]
 ob:=BJ
 In:=fun _ _ X _=>∀ k,¬ X k
 ok:=fun _ _=>True
 lt:=fun h k hk=>absurd hk (h k)
 kept:=fun h _ _ _ _ _ _ _=>h
 less:=fun _=>trivial
theorem MV (w0:World) (K nv ni no:Nat) (fs):KU IU w0 K nv ni no fs:=by
 intro Y s X W kind a dp k cs d funcs hI hB hrs hf ho ha0 ha1 hdp hok hk
 obtain ⟨k',rfl⟩:∃ k',k=k' + 1:=by
  cases k with
  | zero=>exact hrs.elim
  | succ k=>exact ⟨k,rfl⟩
 obtain ⟨ek,ex,pa,pl,pc,aa,ac,ta,tc,ea,ec,rfl,-,-,-,-,-,-,-,-,-,-⟩:=hrs.form
 show Calls Tryz.prog 66 #[zh #[U zd kind,U zd a,U zd dp,U zd (Ag d),U zd (Ao d),U zd (Ae d),U zd ek,U zd ex,O pa pl pc,O aa (Ah d).length ac,O ta (Ai d).length tc,O ea (Al d).length ec]] W fun e W'=>e=zj (zg true)/\∃ X':Nat->Prop,(∀ k,¬ X' k)/\(∀ k,X' k->X k\/W.heap.size<=k)/\FrX X W W'/\True/\(true=true->(kind=1/\(Ag d=7\/Ag d=8))\/kind=2->True)
 have hI':∀ k,¬ X k:=hI
 have HI:=Aa hI'
 clear hI hI' hrs ho hok hk hB
 go_enter Tryz.func66,Tryz.ntmps66
 go_wp2_with fail
 go_ret
 exact ⟨rfl,X,HI.o,fun k hk=>Or.inl hk,⟨rfl,rfl,rfl,by simp,fun k hk _=>heap_alloc_old W _ hk⟩,trivial,fun _ _=>trivial⟩
abbrev MK (ev:Value) (b1 b2 vn yn:Nat) (r:RSt):Value:=zh #[ev,O (some ⟨b1,0,none⟩) vn vn,O (some ⟨b2,0,none⟩) yn yn,U zd (r.steps:Int),U zd r.en,U zd r.sp]
structure Cd (B:Nat) (vn yn F:Nat) (r:RSt) (ev:Value) (b1 b2:Nat) (w:World):Prop where
 own:w.ownsRow B 136 4 ev r.ev.length (Bn r.ev)
 vars:Ad (BW r.vars) w b1
 taken:Ad (BW r.taken) w b2
 num:Bc vn yn F r
theorem Cd.over {B vn yn F:Nat} {r:RSt} {ev:Value} {b1 b2:Nat} {w w':World} (h:Cd B vn yn F r ev b1 b2 w) (hb:Ov w w'):Cd B vn yn F r ev b1 b2 w':=
 ⟨Df h.own hb,h.vars.over hb,h.taken.over hb,h.num⟩
theorem Cd.other {B vn yn F:Nat} {r:RSt} {ev:Value} {b1 b2:Nat} {w:World} (h:Cd B vn yn F r ev b1 b2 w) {b:Nat} (h1:b1≠b) (h2:b2≠b) (h3:ev.ownBlock≠some b) (j:Nat) (v:Value):Cd B vn yn F r ev b1 b2 (w.setCell ⟨b,j,none⟩ v):=
 ⟨h.own.kept BM (Or.inr h3),h.vars.other h1,h.taken.other h2,h.num⟩
def o0:WSt:=⟨[],[]⟩
def Ky (K kf:Nat) (m:Int) (vn yn on sn:Nat) (gs:List (Int × Int)) (sp:List Int) (ls ms:List Lab) (vs:List (Bool × Lab)) (fs:List FnD) (l:List D) (ins:List (List Int)) (fuel:Int) (w:World) (e:Ending) (w':World):Prop:=
 ∃ why:Int,OG why K kf m vn yn on sn gs sp ls ms vs fs l ins fuel/\Ov w w'/\((why≠0/\e=zj (zk #[zh #[O none 0 0,O none 0 0,O none 0 0,U zd 0,U zd 0,U zd 0],U zd why])) \/
  (why=0/\∃ ev b1 b2,e=zj (zk #[MK ev b1 b2 vn yn (CP K kf fs fuel.toNat ins BJ l vn yn o0),U zd 0])/\Cd w.heap.size vn yn fuel.toNat (CP K kf fs fuel.toNat ins BJ l vn yn o0) ev b1 b2 w'))
theorem Kx (K kf:Nat) (m:Int) (ga gn gc sa sn sc ya yn yc oa on oc va vn vc fa fn fc ba bn bc) (xa xn xc) (ins) (fuel:Int) (gs sp ls ms vs fs l) (w:World) (h:Br K kf m ga gn gc sa sn sc ya yn yc oa on oc va vn vc fa fn fc ba bn bc gs sp ls ms vs fs l w) (hx:Bi w (O xa xn xc) ins) :
  Calls Tryz.prog 18 #[zh #[U zd m,O ga gn gc,O sa sn sc,O ya yn yc,O oa on oc,O va vn vc,O fa fn fc,O ba bn bc],O xa xn xc,U zd fuel] w (Ky K kf m vn yn on sn gs sp ls ms vs fs l ins fuel w):=by
 have hbel:Ov w ((w.alloc (ze #[U zd m,O ga gn gc,O sa sn sc,O ya yn yc,O oa on oc,O va vn vc,O fa fn fc,O ba bn bc] 31)).alloc (ze #[O none 0 0,O none 0 0,O none 0 0,U zd 0,U zd 0,U zd 0] 55)):=(bA w _).alloc (by simp) _
 have HP:=Aa (h.over hbel)
 have HX:=Aa (hx.over hbel)
 have K1:=Aa (KH K kf m ga gn gc sa sn sc ya yn yc oa on oc va vn vc fa fn fc ba bn bc xa xn xc ins fuel gs sp ls ms vs fs l _ HP.o HX.o)
 obtain ⟨c0,c1,c2,c3,c4,c5,c6,c7⟩:=rc8 (E6 w [U zd m,O ga gn gc,O sa sn sc,O ya yn yc,O oa on oc,O va vn vc,O fa fn fc,O ba bn bc] 31 (ze #[O none 0 0,O none 0 0,O none 0 0,U zd 0,U zd 0,U zd 0] 55))
 have HO0:Hx (Ad [O none 0 0,O none 0 0,O none 0 0,U zd 0,U zd 0,U zd 0] ((w.alloc (ze #[U zd m,O ga gn gc,O sa sn sc,O ya yn yc,O oa on oc,O va vn vc,O fa fn fc,O ba bn bc] 31)).alloc (ze #[O none 0 0,O none 0 0,O none 0 0,U zd 0,U zd 0,U zd 0] 55)) (w.heap.size+1)/\∀ j,((w.alloc (ze #[U zd m,O ga gn gc,O sa sn sc,O ya yn yc,O oa on oc,O va vn vc,O fa fn fc,O ba bn bc] 31)).alloc (ze #[O none 0 0,O none 0 0,O none 0 0,U zd 0,U zd 0,U zd 0] 55)).frozen? ⟨w.heap.size+1,j,none⟩=false):=by
  refine ⟨?_,fun j=>by simp [go_sem]⟩
  have:=Ad.newA #[O none 0 0,O none 0 0,O none 0 0,U zd 0,U zd 0,U zd 0] 55 (w.alloc (ze #[U zd m,O ga gn gc,O sa sn sc,O ya yn yc,O oa on oc,O va vn vc,O fa fn fc,O ba bn bc] 31))
  simpa using this
 have hfl:fn=fs.length:=by obtain ⟨-,a,c,he,-⟩:=h.funcs;injection he
 have HFL:=Aa hfl
 have hszA:((w.alloc (ze #[U zd m,O ga gn gc,O sa sn sc,O ya yn yc,O oa on oc,O va vn vc,O fa fn fc,O ba bn bc] 31)).alloc (ze #[O none 0 0,O none 0 0,O none 0 0,U zd 0,U zd 0,U zd 0] 55)).heap.size=w.heap.size+2:=by simp
 clear h hx hfl
 go_enter Tryz.func18,Tryz.ntmps18
 go_wp2_with fail
 refine (K1.o).mono ?_
 obtain ⟨WA,hWA⟩:=nm (((w.alloc (ze #[U zd m,O ga gn gc,O sa sn sc,O ya yn yc,O oa on oc,O va vn vc,O fa fn fc,O ba bn bc] 31)).alloc (ze #[O none 0 0,O none 0 0,O none 0 0,U zd 0,U zd 0,U zd 0] 55)))
 rw [<-hWA] at HP HX HO0 hbel hszA ⊢
 rintro e w1 ⟨why,hok,hb1,hnew⟩
 have hB1:=hbel.trans (hb1.mono hbel.size)
 have HO:=Aa (And.intro (HO0.o.1.over hb1) (fun j=>((Am hb1).2 (w.heap.size+1) j (by rw [hszA];omega)).trans (HO0.o.2 j)))
 have hl1:w.heap.size+1 < w1.heap.size:=by have:=hb1.size;omega
 have HOK:=Aa hok
 have HB1:=Aa hB1
 have HB01:=Aa hb1
 have HSZ:=Aa hszA
 have HBW:=Aa hbel
 clear K1 c0 c1 c2 c3 c4 c5 c6 c7 hb1 hok hbel hWA hszA hB1 HO0
 rcases hnew with ⟨hw,rfl⟩ | ⟨rfl,br,b1,b2,b3,c3,rfl,hr2⟩
 ·have hwb:(why == 0)=false:=by simpa using hw
  have o0:=HO.o.1 0 _ rfl
  have y0:=HO.o.2 0
  have o1:=HO.o.1 1 _ rfl
  have y1:=HO.o.2 1
  have o2:=HO.o.1 2 _ rfl
  have y2:=HO.o.2 2
  have o3:=HO.o.1 3 _ rfl
  have y3:=HO.o.2 3
  have o4:=HO.o.1 4 _ rfl
  have y4:=HO.o.2 4
  have o5:=HO.o.1 5 _ rfl
  have y5:=HO.o.2 5
  go_wp2_with fail
  have hF:=((((((HO.o.1.set (j:=0) (v:=O none 0 0) (by simp)).set (j:=1) (v:=O none 0 0) (by simp)).set (j:=2) (v:=O none 0 0) (by simp)).set (j:=3) (v:=U zd 0) (by simp)).set (j:=4) (v:=U zd 0) (by simp)).set (j:=5) (v:=U zd 0) (by simp))
  obtain ⟨e0,e1,e2,e3,e4,e5⟩:=rc6 hF
  have hBf:Ov w ((((((w1.setCell ⟨w.heap.size+1,0,none⟩ (O none 0 0)).setCell ⟨w.heap.size+1,1,none⟩ (O none 0 0)).setCell ⟨w.heap.size+1,2,none⟩ (O none 0 0)).setCell ⟨w.heap.size+1,3,none⟩ (U zd 0)).setCell ⟨w.heap.size+1,4,none⟩ (U zd 0)).setCell ⟨w.heap.size+1,5,none⟩ (U zd 0)):=((((((((((((HB1.o).setCell (by simp) _)).setCell (by simp) _)).setCell (by simp) _)).setCell (by simp) _)).setCell (by simp) _)).setCell (by simp) _)
  refine bodyPost_ret (v:=zk #[zh #[O none 0 0,O none 0 0,O none 0 0,U zd 0,U zd 0,U zd 0],U zd why]) ?_ rfl ⟨why,HOK.o,hBf,Or.inl ⟨hw,rfl⟩⟩
  generalize ((((((w1.setCell ⟨w.heap.size+1,0,none⟩ (O none 0 0)).setCell ⟨w.heap.size+1,1,none⟩ (O none 0 0)).setCell ⟨w.heap.size+1,2,none⟩ (O none 0 0)).setCell ⟨w.heap.size+1,3,none⟩ (U zd 0)).setCell ⟨w.heap.size+1,4,none⟩ (U zd 0)).setCell ⟨w.heap.size+1,5,none⟩ (U zd 0))=WF at e0 e1 e2 e3 e4 e5 ⊢
  simp [results,Tryz.results18,go_sem,e0,e1,e2,e3,e4,e5]
 have hok:=HOK.o.1 rfl
 have hpk:=hok.prog.ok
 obtain ⟨F,hF⟩:=Int.eq_ofNat_of_zero_le hok.f0
 subst hF
 have hf1:=hok.f1
 have hX:L5 IU K kf m ga gn gc sa sn sc ya yn yc oa on oc va vn vc fa fn fc ba bn bc xa xn xc F (fs.length+1) c3 br b1 b2 b3 (Dc kf fs fs.length) fs ins WA:=
  ⟨HP.o.funcs,HX.o,hok.many,hok.long,hok.num,by omega,hpk.vars,HFL.o,hpk.funcs,rfl,rfl,by have:=hpk.many;omega,MV WA K vn yn on fs,hpk.body⟩
 have hx0:IU.In (Yb br b1 b2 (O none 0 0)) o0 (fun _=>False) w1:=fun k hk=>hk
 have KR:=Aa (doR IU K kf m ga gn gc sa sn sc ya yn yc oa on oc va vn vc fa fn fc ba bn bc xa xn xc F (fs.length+1) c3 br b1 b2 b3 (Dc kf fs fs.length) fs ins l o0 (fun _=>False) WA w1 hX HP.o.main hpk.main hpk.many hr2 HB01.o hx0 (fun k hk=>hk.elim) (fun hk=>hk) trivial)
 have hKR:IU.ob=BJ:=rfl
 rw [hKR] at KR
 obtain ⟨T,hT⟩:=nm (CP K kf fs F ins BJ l vn yn o0)
 rw [<-hT] at KR
 have HT:=Aa hT
 have HR2:=Aa hr2
 clear hT hok hpk hX hr2 hx0 hKR HP HX
 change Hx (Calls Tryz.prog 63 #[zi (some ⟨br,0,none⟩),.func (.func 66) #[] #[]] w1 _) at KR
 go_wp2_with fail
 refine (KR.o).mono ?_
 rintro e w3 ⟨rfl,ev,hr3,hf3,hno3⟩
 have hb13:Below WA.heap.size w1 w3:=⟨hf3.os,hf3.tape,hf3.output,hf3.size,fun k hk=>hf3.block k (by have:=HB01.o.size;omega) (by have:=HR2.o.lo;omega) (by have:=HR2.o.lo;omega) (by have:=HR2.o.lo;omega) (fun hx=>by rcases hx with hx | hx;simp [Value.ownBlock] at hx;exact hx)⟩
 have hB3:Ov w w3:=HB1.o.trans (hb13.mono HBW.o.size)
 obtain ⟨x0,x1,x2,x3,x4,x5⟩:=rc6 hr3.row
 rw [hno3.vl] at x1
 rw [hno3.tl] at x2
 have hla:=hr3.hi.1
 have HF:Hx (Cd w.heap.size vn yn F T ev.ev b1 b2 w3):=⟨Dg hr3.own HBW.o.size,hr3.vars,hr3.taken,hno3⟩
 obtain ⟨stp,hsp⟩:=nm ((T.steps:Int))
 obtain ⟨en,hen⟩:=nm T.en
 obtain ⟨tsp,htsp⟩:=nm T.sp
 rw [<-hsp] at x3
 rw [<-hen] at x4
 rw [<-htsp] at x5
 have HSP:=Aa hsp
 have HEN:=Aa hen
 have HTS:=Aa htsp
 have hsz:=HSZ.o
 have hlo:=hr3.lo
 have n1:b1≠w.heap.size+1:=by omega
 have n2:b2≠w.heap.size+1:=by omega
 have n3:ev.ev.ownBlock≠some (w.heap.size+1):=fun hx=>by have:=(hr3.ev' _ (Or.inl hx)).1;omega
 obtain ⟨evv,evX⟩:=ev
 dsimp only at x0 HF n3 hr3
 obtain ⟨ea,el,ec,hev⟩:∃ a n c,evv=O a n c:=by
  rcases hr3.own.2 with ⟨h,_⟩ | ⟨g,cap,cur,h,_⟩
  ·exact ⟨_,_,_,h⟩
  ·exact ⟨_,_,_,h⟩
 subst hev
 have HO3:Hx (Ad [O none 0 0,O none 0 0,O none 0 0,U zd 0,U zd 0,U zd 0] w3 (w.heap.size+1)/\∀ j,w3.frozen? ⟨w.heap.size+1,j,none⟩=false):=by
  have hk:w3.heap[w.heap.size+1]? = w1.heap[w.heap.size+1]?:=hb13.block _ (by omega)
  exact ⟨fun j u hu=>(World.cell?_of_block hk).trans (HO.o.1 j u hu),fun j=>(World.frozen?_of_block hk).trans (HO.o.2 j)⟩
 have o0:=HO3.o.1 0 _ rfl
 have y0:=HO3.o.2 0
 have o1:=HO3.o.1 1 _ rfl
 have y1:=HO3.o.2 1
 have o2:=HO3.o.1 2 _ rfl
 have y2:=HO3.o.2 2
 have o3:=HO3.o.1 3 _ rfl
 have y3:=HO3.o.2 3
 have o4:=HO3.o.1 4 _ rfl
 have y4:=HO3.o.2 4
 have o5:=HO3.o.1 5 _ rfl
 have y5:=HO3.o.2 5
 have hl3:w.heap.size+1 < w3.heap.size:=Nat.lt_of_lt_of_le hl1 hb13.size
 clear KR hr3 hf3 hno3 hsp hen htsp hlo hsz
 go_wp2_with fail
 have hF:=((((((HO3.o.1.set (j:=0) (v:=O ea el ec) (by simp)).set (j:=1) (v:=O (some ⟨b1,0,none⟩) vn vn) (by simp)).set (j:=2) (v:=O (some ⟨b2,0,none⟩) yn yn) (by simp)).set (j:=3) (v:=U zd stp) (by simp)).set (j:=4) (v:=U zd en) (by simp)).set (j:=5) (v:=U zd tsp) (by simp))
 obtain ⟨e0,e1,e2,e3,e4,e5⟩:=rc6 hF
 have hBf:Ov w ((((((w3.setCell ⟨w.heap.size+1,0,none⟩ (O ea el ec)).setCell ⟨w.heap.size+1,1,none⟩ (O (some ⟨b1,0,none⟩) vn vn)).setCell ⟨w.heap.size+1,2,none⟩ (O (some ⟨b2,0,none⟩) yn yn)).setCell ⟨w.heap.size+1,3,none⟩ (U zd stp)).setCell ⟨w.heap.size+1,4,none⟩ (U zd en)).setCell ⟨w.heap.size+1,5,none⟩ (U zd tsp)):=((((((((((((hB3).setCell (by simp) _)).setCell (by simp) _)).setCell (by simp) _)).setCell (by simp) _)).setCell (by simp) _)).setCell (by simp) _)
 have hRA:=((((((HF.o.other n1 n2 n3 0 (O ea el ec)).other n1 n2 n3 1 (O (some ⟨b1,0,none⟩) vn vn)).other n1 n2 n3 2 (O (some ⟨b2,0,none⟩) yn yn)).other n1 n2 n3 3 (U zd stp)).other n1 n2 n3 4 (U zd en)).other n1 n2 n3 5 (U zd tsp))
 refine bodyPost_ret (v:=zk #[zh #[O ea el ec,O (some ⟨b1,0,none⟩) vn vn,O (some ⟨b2,0,none⟩) yn yn,U zd stp,U zd en,U zd tsp],U zd 0]) ?_ rfl ?_
 rotate_left
 ·have hT:=HT.o
  have h1:=HSP.o
  have h2:=HEN.o
  have h3:=HTS.o
  subst h1 h2 h3
  subst hT
  exact ⟨0,by simpa using HOK.o,hBf,Or.inr ⟨rfl,_,b1,b2,rfl,hRA⟩⟩
 generalize ((((((w3.setCell ⟨w.heap.size+1,0,none⟩ (O ea el ec)).setCell ⟨w.heap.size+1,1,none⟩ (O (some ⟨b1,0,none⟩) vn vn)).setCell ⟨w.heap.size+1,2,none⟩ (O (some ⟨b2,0,none⟩) yn yn)).setCell ⟨w.heap.size+1,3,none⟩ (U zd stp)).setCell ⟨w.heap.size+1,4,none⟩ (U zd en)).setCell ⟨w.heap.size+1,5,none⟩ (U zd tsp))=WF at e0 e1 e2 e3 e4 e5 ⊢
 simp [results,Tryz.results18,go_sem,e0,e1,e2,e3,e4,e5]
theorem Li (K kf:Nat) (m:Int) (ga gn gc sa sn sc ya yn yc oa on oc va vn vc fa fn fc ba bn bc gs sp ls ms vs fs l) (w:World) (h:Br K kf m ga gn gc sa sn sc ya yn yc oa on oc va vn vc fa fn fc ba bn bc gs sp ls ms vs fs l w) :
  Calls Tryz.prog 53 #[zh #[U zd m,O ga gn gc,O sa sn sc,O ya yn yc,O oa on oc,O va vn vc,O fa fn fc,O ba bn bc]] w fun e w'=>∃ why:Int,e=zj (U zd why)/\(why=0 ↔ Ey.xP K kf m vn yn on sn gs sp ls ms vs fs l)/\Ov w w':=
 (Ez.scopeCheck_any K kf m ga gn gc sa sn sc ya yn yc oa on oc va vn vc fa fn fc ba bn bc gs sp ls ms vs fs l w h).mono fun e w' q=>⟨_,q.1,Ez.eP_iff K kf m vn yn on sn gs sp ls ms vs fs l,q.2⟩
theorem Nf {σ:Type} {n K:Nat} {lev flev:σ->List Lev} {step:Int->D->Lev->σ->σ} {Pm:Int->σ->Prop} (h:Iq Pm step) (kf:Nat):∀ (xs:List (Nat × FnD)) (q:Int × σ),Pm q.1 q.2->Pm (q.1+(AV kf (xs.map Prod.snd):Nat)) (xs.foldl (goF n K lev step flev kf) q).2/\(xs.foldl (goF n K lev step flev kf) q).1=q.1+(AV kf (xs.map Prod.snd):Nat)
 | [],q,hq=>⟨h.mono _ _ _ (by omega) hq,by simp [AV]⟩
 | x::xs,q,hq=>by
  have h1:=Nf (n:=n) (K:=K) (lev:=lev) (flev:=flev) h kf xs (goF n K lev step flev kf q x) (Gn h kf x.2.body q.1 _ q.2 hq)
  have he:(goF n K lev step flev kf q x).1+(AV kf (xs.map Prod.snd):Nat)=q.1+(AV kf ((x::xs).map Prod.snd):Nat):=by
   simp [AV,goF]
   omega
  rw [he] at h1
  exact h1
theorem Oj {σ:Type} {n K:Nat} {lev flev:σ->List Lev} {step:Int->D->Lev->σ->σ} {Pm:Int->σ->Prop} (h:Iq Pm step) (kf:Nat) (fs main) (st:σ) (h0:Pm 0 st):Pm ((AV kf fs:Nat)+(AC kf main:Nat)) (Ev n K lev step flev kf fs main st):=by
 have h1:=Nf (n:=n) (K:=K) (lev:=lev) (flev:=flev) h kf ((List.range fs.length).zip fs) (0,st) h0
 rw [List.map_snd_zip (by simp)] at h1
 have h2:=Gn (n:=n) (K:=K) (lev:=lev) h kf main _ (Bs n) _ h1.1
 simp only [Int.zero_add] at h2
 unfold Ev
 dsimp only
 rw [h1.2]
 simpa using h2
theorem Jd (n K kf:Nat) (gs sp Ls Fs vs ls ms) (fs:List FnD) (l) (h:AV kf fs+AC kf l<=50):(BZ n K kf gs sp Ls Fs vs ls ms fs l).length<=1000:=by
 have h1:=Oj (n:=n) (K:=K) (lev:=fun _=>Ls) (flev:=fun _=>Fs) (MP n K (Ay gs) sp Ls vs ls ms fs) kf fs l [] (by unfold pmJ;simp)
 unfold pmJ at h1
 unfold BZ
 omega
def Ch (n K kf F:Nat) (ins:List (List Int)) (gs:List (Int × Int)) (ls ms:List Lab) (vs:List (Bool × Lab)) (fs:List FnD) (l:List D) (fl:List (Int × Int)) (vn yn:Nat):RSt:=
 CP K kf fs F ins (obW ⟨n,K,ls.map (Av (Ay gs) n),ms.map (Av (Ay gs) n),vs.map Prod.fst,vs.map (fun v=>Av (Ay gs) n v.2),fs,fl⟩) l vn yn ⟨List.replicate vn (Bs n),[Bs n]⟩
theorem MY {n B:Nat} {Ls:List Lev} {v:Value} {W:World} (n1:1<=n) (h:∃ us:List Value,W.ownsRow B 50 2 v Ls.length us/\∀ i (h:i < Ls.length),∃ x y,us[i*2]? = some x/\us[i*2+1]? = some y/\FN n B W x y Ls[i]):BI W v Ls:=by
 obtain ⟨us,ho,hel⟩:=h
 rcases id ho.2 with ⟨hv,h0⟩ | ⟨g,cap,cur,hv,-⟩
 ·have:Ls=[]:=List.length_eq_zero_iff.1 h0
  subst this
  exact ⟨none,0,hv,fun h=>absurd rfl h⟩
 ·rw [hv] at ho
  refine ⟨some ⟨g,0,none⟩,cap,hv,fun _=>⟨g,0,rfl,fun i hi=>?_⟩⟩
  obtain ⟨x,y,e0,e1,hl⟩:=hel i hi
  exact ⟨x,y,by rw [Nat.zero_add,ho.cellAt _ (by omega)];exact e0,by rw [Nat.zero_add,ho.cellAt _ (by omega)];exact e1,hl.at_ n1⟩
theorem EK.moved {n:Nat} {w W W':World} {Ls:List Lev} {v:Value} (h:EK n w Ls v W) (n1:1<=n) (hk:∀ k,w.heap.size<=k->W'.heap[k]? = W.heap[k]?):BI W' v Ls:=by
 obtain ⟨us,ho,hel⟩:=h.row
 refine MY (B:=w.heap.size) n1 ⟨us,Ax ho (fun g e=>hk g (ho.lt g e).1),fun i hi=>?_⟩
 obtain ⟨x,y,e0,e1,hl⟩:=hel i hi
 exact ⟨x,y,e0,e1,Ax hl.r (fun g e=>hk g (hl.r.lt g e).1),Ax hl.w (fun g e=>hk g (hl.w.lt g e).1),hl.len⟩
theorem EK.lens {n:Nat} {w W:World} {Ls:List Lev} {v:Value} (h:EK n w Ls v W):∀ x∈Ls,x.len n:=by
 obtain ⟨us,ho,hel⟩:=h.row
 intro x hx
 obtain ⟨i,hi,rfl⟩:=List.getElem_of_mem hx
 obtain ⟨a,b,-,-,hl⟩:=hel i hi
 exact hl.len
theorem Lg {W:World} {b k:Nat} {v0 v1 v2 v3 v4 v5:Value} (h:b≠k):((((((W.setCell ⟨b,0,none⟩ v0).setCell ⟨b,1,none⟩ v1).setCell ⟨b,2,none⟩ v2).setCell ⟨b,3,none⟩ v3).setCell ⟨b,4,none⟩ v4).setCell ⟨b,5,none⟩ v5).heap[k]? = W.heap[k]?:=by
 rw [Aq h,Aq h,Aq h,Aq h,Aq h,Aq h]
theorem NG {B vn yn F:Nat} {r:RSt} {ev:Value} {b1 b2 b:Nat} {W:World} (h:Cd B vn yn F r ev b1 b2 W) (h1:b1≠b) (h2:b2≠b) (h3:ev.ownBlock≠some b) (v0:Value) (v1:Value) (v2:Value) (v3:Value) (v4:Value) (v5:Value):Cd B vn yn F r ev b1 b2 ((((((W.setCell ⟨b,0,none⟩ v0).setCell ⟨b,1,none⟩ v1).setCell ⟨b,2,none⟩ v2).setCell ⟨b,3,none⟩ v3).setCell ⟨b,4,none⟩ v4).setCell ⟨b,5,none⟩ v5):=
 (((((h.other h1 h2 h3 0 v0).other h1 h2 h3 1 v1).other h1 h2 h3 2 v2).other h1 h2 h3 3 v3).other h1 h2 h3 4 v4).other h1 h2 h3 5 v5
theorem Ox (K kf n:Nat) (ga gn gc sa sn sc ya yn yc oa on oc va vn vc fa fn fc ba bn bc xa xn xc) (ins) (F:Nat) (gs sp ls ms vs fs l) (WA w1 w2:World) (h:Br K kf (n:Int) ga gn gc sa sn sc ya yn yc oa on oc va vn vc fa fn fc ba bn bc gs sp ls ms vs fs l WA) (hx:Bi WA (O xa xn xc) ins) (hok:okR K kf (n:Int) vn yn on sn gs sp ls ms vs fs l ins (F:Int)) (br b1 b2 b3 c3:Nat) (hr:GH WA.heap.size [U zd (n:Int),O ga gn gc,O sa sn sc,O ya yn yc,O oa on oc,O va vn vc,O fa fn fc,O ba bn bc,O xa xn xc,U zd (F:Int),O (some ⟨b3,0,none⟩) (fs.length+1) c3] br b1 b2 b3 (Dc kf fs fs.length) vn yn w1) (hB1:Ov WA w1) (hB2:Ov w1 w2) (la:Option Addr) (ln lc bw:Nat) (fv pv:Value) (fl:List (Int × Int)) (hfl:fl.length<=1000) (hI:∀ Y:Nat->Prop,(∀ k,Y k->WA.heap.size<=k/\k < w1.heap.size)->WtI ⟨⟨n,ga,gn,gc,sa,sn,sc,ya,yn,yc,oa,on,oc,va,vn,vc,fa,fn,fc,ba,bn,bc,la,ln,lc,none,0,0⟩,bw,zi (some ⟨br,0,none⟩),fv,fl,Y⟩ WA ⟨List.replicate vn (Bs n),[Bs n]⟩ pv w2) :
  Calls Tryz.prog 63 #[zi (some ⟨br,0,none⟩),.func (.func 64) #[zi (some ⟨bw,0,none⟩)] #[]] w2 fun e w'=>e=zj (zk #[])/\∃ (ev pv':Value) (Y:Nat->Prop),(w'.cell? ⟨br,0,none⟩=some ev/\w'.cell? ⟨br,1,none⟩=some (O (some ⟨b1,0,none⟩) vn vn)/\w'.cell? ⟨br,2,none⟩=some (O (some ⟨b2,0,none⟩) yn yn)/\w'.cell? ⟨br,3,none⟩=some (U zd ((Ch n K kf F ins gs ls ms vs fs l fl vn yn).steps:Int))/\w'.cell? ⟨br,4,none⟩=some (U zd (Ch n K kf F ins gs ls ms vs fs l fl vn yn).en)/\w'.cell? ⟨br,5,none⟩=some (U zd (Ch n K kf F ins gs ls ms vs fs l fl vn yn).sp))/\Cd WA.heap.size vn yn F (Ch n K kf F ins gs ls ms vs fs l fl vn yn) ev b1 b2 w'/\WtI ⟨⟨n,ga,gn,gc,sa,sn,sc,ya,yn,yc,oa,on,oc,va,vn,vc,fa,fn,fc,ba,bn,bc,la,ln,lc,none,0,0⟩,bw,zi (some ⟨br,0,none⟩),fv,fl,Y⟩ WA (Ch n K kf F ins gs ls ms vs fs l fl vn yn).o pv' w'/\(Ch n K kf F ins gs ls ms vs fs l fl vn yn).o.vs.length=vn/\Below WA.heap.size w2 w':=by
 have hpk:=hok.prog.ok
 obtain ⟨n',hn,h1,h6,-⟩:=EI hpk.chk
 obtain rfl:n'=n:=by omega
 obtain rfl:vn=vs.length:=by obtain ⟨-,a,c,he,-⟩:=h.vars;injection he
 obtain rfl:yn=ls.length:=by obtain ⟨-,a,c,he,-⟩:=h.ins;injection he
 obtain rfl:on=ms.length:=by obtain ⟨-,a,c,he,-⟩:=h.outs;injection he
 have hfn:fn=fs.length:=by obtain ⟨-,a,c,he,-⟩:=h.funcs;injection he
 obtain ⟨x,hxe⟩:∃ x:WX,x=⟨⟨n',ga,gn,gc,sa,sn,sc,ya,ls.length,yc,oa,ms.length,oc,va,vs.length,vc,fa,fn,fc,ba,bn,bc,la,ln,lc,none,0,0⟩,bw,zi (some ⟨br,0,none⟩),fv,fl,Yb br b1 b2 (O none 0 0)⟩:=⟨_,rfl⟩
 have S:WtS x WA K kf gs ls ms vs fs:=by
  subst hxe
  exact ⟨h1,h6,h.grants,hpk.chk,h.vars,h.ins,h.outs,h.funcs,hpk.labs.2.1,fun b hb=>hpk.labs.1 b (List.mem_append.2 (Or.inl hb)),fun b hb=>hpk.labs.1 b (List.mem_append.2 (Or.inr hb)),hpk.vars,hpk.ins,hpk.outs,hpk.funcs,hfl,hpk.body⟩
 have hX:L5 (Dv x WA S.n1 vs.length (A7 x K gs ls ms vs fs)) K kf (n':Int) ga gn gc sa sn sc ya ls.length yc oa ms.length oc va vs.length vc fa fn fc ba bn bc xa xn xc F (fs.length+1) c3 br b1 b2 b3 (Dc kf fs fs.length) fs ins WA:=
  ⟨h.funcs,hx,hok.many,hok.long,hok.num,by have:=hok.f1;omega,hpk.vars,hfn,hpk.funcs,rfl,rfl,by have:=hpk.many;omega,JA x WA K kf gs ls ms vs fs S,hpk.body⟩
 have hY:=hI (fun k=>WA.heap.size<=k/\k < w1.heap.size) (fun k hk=>hk)
 have hlo:=hr.lo
 have hhi:=hr.hi
 have hY1:=hI (Yb br b1 b2 (O none 0 0)) (fun k hk=>by
  rcases hk with e | e | e | e
  ·rw [e];exact ⟨hlo.1,hhi.1⟩
  ·rw [e];exact ⟨hlo.2.1,hhi.2.1⟩
  ·rw [e];exact ⟨hlo.2.2.1,hhi.2.2.1⟩
  ·simp [Value.ownBlock] at e)
 have hx0:(Dv x WA S.n1 vs.length (A7 x K gs ls ms vs fs)).In (Yb br b1 b2 (O none 0 0)) ⟨List.replicate vs.length (Bs n'),[Bs n']⟩ (fun k=>k=x.bw\/x.lv.ownBlock=some k\/pv.ownBlock=some k) w2:=by
  refine ⟨⟨pv,?_,fun k=>Iff.rfl⟩,by simp,by simp⟩
  subst hxe
  exact hY1
 have hB3:Ov WA w2:=hB1.trans (hB2.mono hB1.size)
 have KR:=doR (Dv x WA S.n1 vs.length (A7 x K gs ls ms vs fs)) K kf (n':Int) ga gn gc sa sn sc ya ls.length yc oa ms.length oc va vs.length vc fa fn fc ba bn bc xa xn xc F (fs.length+1) c3 br b1 b2 b3 (Dc kf fs fs.length) fs ins l ⟨List.replicate vs.length (Bs n'),[Bs n']⟩ (fun k=>k=x.bw\/x.lv.ownBlock=some k\/pv.ownBlock=some k) WA w2 hX h.main hpk.main hpk.many (hr.over hB2) hB3 hx0 (fun k hk=>by
   subst hxe
   rcases hk with e | e | e
   ·rw [e];exact hY1.lo.1
   ·exact (hY1.lev.lt k e).1
   ·exact (hY1.pls.lt k e).1) (fun hk=>by
   subst hxe
   rcases hk with e | e | e
   ·exact hY.yb (by rw [<-e];exact ⟨hlo.2.2.2,hhi.2.2.2.1⟩)
   ·exact hY.yL _ e ⟨hlo.2.2.2,hhi.2.2.2.1⟩
   ·exact hY.yP _ e ⟨hlo.2.2.2,hhi.2.2.2.1⟩) (by show 0 < [Bs n'].length;simp)
 have hfre:(Dv x WA S.n1 vs.length (A7 x K gs ls ms vs fs)).fre.toArray=#[zi (some ⟨bw,0,none⟩)]:=by subst hxe;rfl
 have hcap:(Dv x WA S.n1 vs.length (A7 x K gs ls ms vs fs)).cap.toArray=#[]:=rfl
 rw [hfre,hcap] at KR
 refine KR.mono fun e w' hh=>?_
 obtain ⟨rfl,ev,hr3,hf3,hno⟩:=hh
 have hT:CP K kf fs F ins (Dv x WA S.n1 vs.length (A7 x K gs ls ms vs fs)).ob l vs.length ls.length ⟨List.replicate vs.length (Bs n'),[Bs n']⟩=Ch n' K kf F ins gs ls ms vs fs l fl vs.length ls.length:=by subst hxe;rfl
 rw [hT] at hr3 hno
 obtain ⟨⟨pv',hW,hXk⟩,hvl,-⟩:=hr3.ob
 have x1:=hr3.row 1 _ rfl
 have x2:=hr3.row 2 _ rfl
 rw [hno.vl] at x1
 rw [hno.tl] at x2
 refine ⟨rfl,ev.ev,pv',_,⟨hr3.row 0 _ rfl,x1,x2,hr3.row 3 _ rfl,hr3.row 4 _ rfl,hr3.row 5 _ rfl⟩,⟨hr3.own,hr3.vars,hr3.taken,hno⟩,by subst hxe;exact hW,hvl,⟨hf3.os,hf3.tape,hf3.output,hf3.size,fun k hk=>hf3.block k (by have:=hB3.size;omega) (by omega) (by omega) (by omega) (fun hx=>?_)⟩⟩
 rcases hx with hx | hx
 ·simp [Value.ownBlock] at hx
 ·have:WA.heap.size<=k:=by
   subst hxe
   rcases hx with e | e | e
   ·rw [e];exact hY1.lo.1
   ·exact (hY1.lev.lt k e).1
   ·exact (hY1.pls.lt k e).1
  omega
def Hm (K kf:Nat) (m:Int) (vn yn on sn:Nat) (gs:List (Int × Int)) (sp:List Int) (ls ms:List Lab) (vs:List (Bool × Lab)) (fs:List FnD) (l:List D) (ins:List (List Int)) (fuel:Int) (w:World) (e:Ending) (w':World):Prop:=
 ∃ why:Int,OG why K kf m vn yn on sn gs sp ls ms vs fs l ins fuel/\Ov w w'/\((why≠0/\e=zj (zk #[zh #[O none 0 0,O none 0 0,O none 0 0,U zd 0,U zd 0,U zd 0],O none 0 0,U zd why])) \/
  (why=0/\∃ (n:Nat) (st:ISt) (ev:Value) (b1 b2:Nat) (va4:Option Addr) (vk4 vc4:Nat),m=n/\(D1 n K kf gs vs ls fs l st/\(∀ x∈st.vs,x.len n)/\(∀ x∈st.fs,x.len n)/\st.vs.length=vn/\st.fs.length=fs.length)/\e=zj (zk #[MK ev b1 b2 vn yn (Ch n K kf fuel.toNat ins gs ls ms vs fs l (BZ n K kf gs sp st.vs st.fs vs ls ms fs l) vn yn),O va4 vk4 vc4,U zd 0])/\Cd w.heap.size vn yn fuel.toNat (Ch n K kf fuel.toNat ins gs ls ms vs fs l (BZ n K kf gs sp st.vs st.fs vs ls ms fs l) vn yn) ev b1 b2 w'/\BI w' (O va4 vk4 vc4) (Ch n K kf fuel.toNat ins gs ls ms vs fs l (BZ n K kf gs sp st.vs st.fs vs ls ms fs l) vn yn).o.vs/\(∀ x∈(Ch n K kf fuel.toNat ins gs ls ms vs fs l (BZ n K kf gs sp st.vs st.fs vs ls ms fs l) vn yn).o.vs,x.len n)/\(Ch n K kf fuel.toNat ins gs ls ms vs fs l (BZ n K kf gs sp st.vs st.fs vs ls ms fs l) vn yn).o.vs.length=vn))
abbrev Mc (bw br:Nat) (ea:Option Addr) (el ec b1 vn b2 yn:Nat) (stp en tsp:Int) (Wz:World):Prop:=Wz.cell? ⟨bw,0,none⟩=some (zi (some ⟨br,0,none⟩))/\CE Wz br 0 (O ea el ec)/\CE Wz br 1 (O (some ⟨b1,0,none⟩) vn vn)/\CE Wz br 2 (O (some ⟨b2,0,none⟩) yn yn)/\CE Wz br 3 (U zd stp)/\CE Wz br 4 (U zd en)/\CE Wz br 5 (U zd tsp)
theorem Ft (K kf:Nat) (m:Int) (ga gn gc sa sn sc ya yn yc oa on oc va vn vc fa fn fc ba bn bc) (xa xn xc) (ins) (fuel:Int) (gs sp ls ms vs fs l) (w:World) (h:Br K kf m ga gn gc sa sn sc ya yn yc oa on oc va vn vc fa fn fc ba bn bc gs sp ls ms vs fs l w) (hx:Bi w (O xa xn xc) ins) :
  Calls Tryz.prog 17 #[zh #[U zd m,O ga gn gc,O sa sn sc,O ya yn yc,O oa on oc,O va vn vc,O fa fn fc,O ba bn bc],O xa xn xc,U zd fuel] w (Hm K kf m vn yn on sn gs sp ls ms vs fs l ins fuel w):=by
 have hbel:Ov w ((w.alloc (ze #[U zd m,O ga gn gc,O sa sn sc,O ya yn yc,O oa on oc,O va vn vc,O fa fn fc,O ba bn bc] 31)).alloc (ze #[O none 0 0,O none 0 0,O none 0 0,U zd 0,U zd 0,U zd 0] 55)):=(bA w _).alloc (by simp) _
 have HP:=Aa (h.over hbel)
 have HX:=Aa (hx.over hbel)
 have K1:=Aa (KH K kf m ga gn gc sa sn sc ya yn yc oa on oc va vn vc fa fn fc ba bn bc xa xn xc ins fuel gs sp ls ms vs fs l _ HP.o HX.o)
 have hrp:Ad [U zd m,O ga gn gc,O sa sn sc,O ya yn yc,O oa on oc,O va vn vc,O fa fn fc,O ba bn bc] ((w.alloc (ze #[U zd m,O ga gn gc,O sa sn sc,O ya yn yc,O oa on oc,O va vn vc,O fa fn fc,O ba bn bc] 31)).alloc (ze #[O none 0 0,O none 0 0,O none 0 0,U zd 0,U zd 0,U zd 0] 55)) w.heap.size:=(Ad.new [U zd m,O ga gn gc,O sa sn sc,O ya yn yc,O oa on oc,O va vn vc,O fa fn fc,O ba bn bc] 31 w).over (bA _ _)
 obtain ⟨c0,c1,c2,c3,c4,c5,c6,c7⟩:=rc8 hrp
 have HRP:=Aa hrp
 have HO0:Hx (Ad [O none 0 0,O none 0 0,O none 0 0,U zd 0,U zd 0,U zd 0] ((w.alloc (ze #[U zd m,O ga gn gc,O sa sn sc,O ya yn yc,O oa on oc,O va vn vc,O fa fn fc,O ba bn bc] 31)).alloc (ze #[O none 0 0,O none 0 0,O none 0 0,U zd 0,U zd 0,U zd 0] 55)) (w.heap.size+1)/\∀ j,((w.alloc (ze #[U zd m,O ga gn gc,O sa sn sc,O ya yn yc,O oa on oc,O va vn vc,O fa fn fc,O ba bn bc] 31)).alloc (ze #[O none 0 0,O none 0 0,O none 0 0,U zd 0,U zd 0,U zd 0] 55)).frozen? ⟨w.heap.size+1,j,none⟩=false):=by
  refine ⟨?_,fun j=>by simp [go_sem]⟩
  have:=Ad.newA #[O none 0 0,O none 0 0,O none 0 0,U zd 0,U zd 0,U zd 0] 55 (w.alloc (ze #[U zd m,O ga gn gc,O sa sn sc,O ya yn yc,O oa on oc,O va vn vc,O fa fn fc,O ba bn bc] 31))
  simpa using this
 have hszA:((w.alloc (ze #[U zd m,O ga gn gc,O sa sn sc,O ya yn yc,O oa on oc,O va vn vc,O fa fn fc,O ba bn bc] 31)).alloc (ze #[O none 0 0,O none 0 0,O none 0 0,U zd 0,U zd 0,U zd 0] 55)).heap.size=w.heap.size+2:=by simp
 clear h hx hrp
 go_enter Tryz.func17,Tryz.ntmps17
 go_wp2_with fail
 refine (K1.o).mono ?_
 obtain ⟨WA,hWA⟩:=nm (((w.alloc (ze #[U zd m,O ga gn gc,O sa sn sc,O ya yn yc,O oa on oc,O va vn vc,O fa fn fc,O ba bn bc] 31)).alloc (ze #[O none 0 0,O none 0 0,O none 0 0,U zd 0,U zd 0,U zd 0] 55)))
 rw [<-hWA] at HP HX HO0 HRP hbel hszA ⊢
 rintro e w1 ⟨why,hok,hb1,hnew⟩
 have hB1:=hbel.trans (hb1.mono hbel.size)
 have HO:=Aa (And.intro (HO0.o.1.over hb1) (fun j=>((Am hb1).2 (w.heap.size+1) j (by rw [hszA];omega)).trans (HO0.o.2 j)))
 have hl1:w.heap.size+1 < w1.heap.size:=by have:=hb1.size;omega
 have HOK:=Aa hok
 have HB1:=Aa hB1
 have HB01:=Aa hb1
 have HSZ:=Aa hszA
 have HBW:=Aa hbel
 have HR1:=Aa (HRP.o.over hb1)
 clear K1 c0 c1 c2 c3 c4 c5 c6 c7 hb1 hok hbel hWA hszA hB1 HO0 HRP
 rcases hnew with ⟨hw,rfl⟩ | ⟨rfl,br,b1,b2,b3,c3,rfl,hr2⟩
 ·have hwb:(why == 0)=false:=by simpa using hw
  have o0:=HO.o.1 0 _ rfl
  have y0:=HO.o.2 0
  have o1:=HO.o.1 1 _ rfl
  have y1:=HO.o.2 1
  have o2:=HO.o.1 2 _ rfl
  have y2:=HO.o.2 2
  have o3:=HO.o.1 3 _ rfl
  have y3:=HO.o.2 3
  have o4:=HO.o.1 4 _ rfl
  have y4:=HO.o.2 4
  have o5:=HO.o.1 5 _ rfl
  have y5:=HO.o.2 5
  go_wp2_with fail
  have hF:=((((((HO.o.1.set (j:=0) (v:=O none 0 0) (by simp)).set (j:=1) (v:=O none 0 0) (by simp)).set (j:=2) (v:=O none 0 0) (by simp)).set (j:=3) (v:=U zd 0) (by simp)).set (j:=4) (v:=U zd 0) (by simp)).set (j:=5) (v:=U zd 0) (by simp))
  obtain ⟨e0,e1,e2,e3,e4,e5⟩:=rc6 hF
  have hBf:Ov w ((((((w1.setCell ⟨w.heap.size+1,0,none⟩ (O none 0 0)).setCell ⟨w.heap.size+1,1,none⟩ (O none 0 0)).setCell ⟨w.heap.size+1,2,none⟩ (O none 0 0)).setCell ⟨w.heap.size+1,3,none⟩ (U zd 0)).setCell ⟨w.heap.size+1,4,none⟩ (U zd 0)).setCell ⟨w.heap.size+1,5,none⟩ (U zd 0)):=((((((((((((HB1.o).setCell (by simp) _)).setCell (by simp) _)).setCell (by simp) _)).setCell (by simp) _)).setCell (by simp) _)).setCell (by simp) _)
  refine bodyPost_ret (v:=zk #[zh #[O none 0 0,O none 0 0,O none 0 0,U zd 0,U zd 0,U zd 0],O none 0 0,U zd why]) ?_ rfl ⟨why,HOK.o,hBf,Or.inl ⟨hw,rfl⟩⟩
  generalize ((((((w1.setCell ⟨w.heap.size+1,0,none⟩ (O none 0 0)).setCell ⟨w.heap.size+1,1,none⟩ (O none 0 0)).setCell ⟨w.heap.size+1,2,none⟩ (O none 0 0)).setCell ⟨w.heap.size+1,3,none⟩ (U zd 0)).setCell ⟨w.heap.size+1,4,none⟩ (U zd 0)).setCell ⟨w.heap.size+1,5,none⟩ (U zd 0))=WF at e0 e1 e2 e3 e4 e5 ⊢
  simp [results,Tryz.results17,go_sem,e0,e1,e2,e3,e4,e5]
 have hok:=HOK.o.1 rfl
 have hpk:=hok.prog.ok
 obtain ⟨F,hF⟩:=Int.eq_ofNat_of_zero_le hok.f0
 subst hF
 obtain ⟨n,rfl,n1,n6,-⟩:=EI hpk.chk
 have HN1:=Aa (And.intro n1 n6)
 have hP1:Br K kf (n:Int) ga gn gc sa sn sc ya yn yc oa on oc va vn vc fa fn fc ba bn bc gs sp ls ms vs fs l w1:=HP.o.over HB01.o
 have hsn:Ey.xP K kf (n:Int) vn yn on sn gs sp ls ms vs fs l->(sp.length:Int)<=n:=fun hp=>by
  have h1:=hp.lim.2.2.2.2
  have h2:sn=sp.length:=by obtain ⟨a,c,he,-⟩:=HP.o.speak;injection he
  rw [h2] at h1
  exact h1
 have KN:=Aa (IW K kf n ga gn gc sa sn sc ya yn yc oa on oc va vn vc fa fn fc ba bn bc gs sp ls ms vs fs l br WA w1 hP1 n1 n6 hpk.vars HB01.o (fun st=>BZ n K kf gs sp st.vs st.fs vs ls ms fs l) (fun st=>D1 n K kf gs vs ls fs l st/\(∀ x∈st.vs,x.len n)/\(∀ x∈st.fs,x.len n)/\st.vs.length=vn/\st.fs.length=fs.length) (fun W hW=>by
  have hfw:=Ot K kf (n:Int) ga gn gc sa sn sc ya yn yc oa on oc va vn vc fa fn fc ba bn bc gs sp ls ms vs fs l W (hP1.over hW) (fun why=>(why=0 ↔ Ey.xP K kf (n:Int) vn yn on sn gs sp ls ms vs fs l)) (fun W2 hW2=>Li K kf (n:Int) ga gn gc sa sn sc ya yn yc oa on oc va vn vc fa fn fc ba bn bc gs sp ls ms vs fs l W2 (hP1.over (Ac hW hW2))) (fun hp=>(hp.1 rfl).ok) (fun hp=>hsn (hp.1 rfl))
  refine hfw.mono fun e w' hh=>?_
  obtain ⟨why,hwhy,hbb,hh⟩:=hh
  have hw0:why=0:=hwhy.2 hok.prog
  rcases hh with ⟨hne,-⟩ | ⟨-,-,n',st,fv,B,hnn,he,hi,h1,h2,h3,h4,hBB,ho⟩
  ·exact absurd hw0 hne
  ·obtain rfl:n=n':=by omega
   exact ⟨st,fv,B,⟨hi,h1,h2,h3,h4⟩,he,hBB,ho,hbb⟩))
 have HR2:=Aa hr2
 have HPK:=Aa hok
 obtain ⟨p0,p1,p2,p3,p4,p5,p6,p7⟩:=rc8 HR1.o
 clear hok hpk hr2 hP1 n1 n6 hsn
 go_wp2_with fail
 refine (KN.o).mono ?_
 rintro e w2 ⟨st,fv,pv,la,ln,lc,hq,rfl,hb2,hI⟩
 have hKD:=Ox K kf n ga gn gc sa sn sc ya yn yc oa on oc va vn vc fa fn fc ba bn bc xa xn xc ins F gs sp ls ms vs fs l WA w1 w2 HP.o HX.o HPK.o br b1 b2 b3 c3 HR2.o HB01.o hb2 la ln lc (w1.heap.size+1) fv pv (BZ n K kf gs sp st.vs st.fs vs ls ms fs l) (Jd _ _ _ _ _ _ _ _ _ _ _ _ HPK.o.prog.ok.many) hI
 have g0:CE w2 (w1.heap.size+1) 0 (zi (some ⟨br,0,none⟩)):=(hI (fun _=>False) (fun k hk=>hk.elim)).row 0 _ rfl
 obtain ⟨bw,hbw⟩:=nm (w1.heap.size+1)
 rw [<-hbw] at hKD g0 ⊢
 obtain ⟨T,hT⟩:=nm (Ch n K kf F ins gs ls ms vs fs l (BZ n K kf gs sp st.vs st.fs vs ls ms fs l) vn yn)
 rw [<-hT] at hKD
 have HKD:=Aa hKD
 have HT:=Aa hT
 have HQ:=Aa hq
 have HB2:=Aa hb2
 have HBWE:=Aa hbw
 have HV:=Aa HPK.o.prog.ok.vars
 clear KN hI hT hq hb2 hKD hbw p0 p1 p2 p3 p4 p5 p6 p7
 go_wp2_with fail
 refine (HKD.o).mono ?_
 rintro e w3 ⟨rfl,ev,pv3,Y3,⟨x0,x1,x2,x3,x4,x5⟩,hRA,hW3,hvl,hb3⟩
 have hB12:Below WA.heap.size w1 w2:=HB2.o.mono HB01.o.size
 have hb13:Below WA.heap.size w1 w3:=hB12.trans hb3
 have hB3:Ov w w3:=HB1.o.trans (hb13.mono HBW.o.size)
 have HB3:=Aa hB3
 have hsz:=HSZ.o
 have HF:Hx (Cd w.heap.size vn yn F T ev b1 b2 w3):=⟨Dg hRA.own HBW.o.size,hRA.vars,hRA.taken,hRA.num⟩
 obtain ⟨ea,el,ec,rfl⟩:=AG hRA.own
 have hlo:=HR2.o.lo
 have hl1:=hb13.size
 have HN:Hx (b1≠w.heap.size+1/\b2≠w.heap.size+1/\(Value.slice ea el ec).ownBlock≠some (w.heap.size+1)/\bw≠w.heap.size+1/\br≠w.heap.size+1):=⟨by omega,by omega,fun e=>by have:=(hRA.own.lt _ e).1;omega,by have:=HBWE.o;have:=HB01.o.size;omega,by omega⟩
 have HL3:Hx (w.heap.size+1 < w3.heap.size):=by have:=HB01.o.size;unfold Hx;omega
 have HO3:Hx (Ad [O none 0 0,O none 0 0,O none 0 0,U zd 0,U zd 0,U zd 0] w3 (w.heap.size+1)/\∀ j,w3.frozen? ⟨w.heap.size+1,j,none⟩=false):=by
  have hk:w3.heap[w.heap.size+1]? = w1.heap[w.heap.size+1]?:=hb13.block _ (by omega)
  exact ⟨fun j u hu=>(World.cell?_of_block hk).trans (HO.o.1 j u hu),fun j=>(World.frozen?_of_block hk).trans (HO.o.2 j)⟩
 have x6:CE w3 bw 0 (zi (some ⟨br,0,none⟩)):=hW3.row 0 _ rfl
 have KL:Hx (∀ W2,Ov w3 W2->Calls Tryz.prog 65 #[zi (some ⟨bw,0,none⟩)] W2 fun e w'=>∃ a k c,e=zj (O a k c)/\EK n W2 T.o.vs (O a k c) w'):=fun W2 hb=>NT ⟨⟨n,ga,gn,gc,sa,sn,sc,ya,yn,yc,oa,on,oc,va,vn,vc,fa,fn,fc,ba,bn,bc,la,ln,lc,none,0,0⟩,bw,zi (some ⟨br,0,none⟩),fv,BZ n K kf gs sp st.vs st.fs vs ls ms fs l,Y3⟩ WA n rfl HN1.o.1 HN1.o.2 T.o pv3 W2 (WtI.over hW3 hb) (by rw [hvl];exact HV.o)
 obtain ⟨stp,hsp⟩:=nm ((T.steps:Int))
 obtain ⟨en,hen⟩:=nm T.en
 obtain ⟨tsp,htsp⟩:=nm T.sp
 rw [<-hsp] at x3
 rw [<-hen] at x4
 rw [<-htsp] at x5
 have HSP:=Aa hsp
 have HEN:=Aa hen
 have HTS:=Aa htsp
 have HS:Hx (∀ W2,Ov w3 W2->Mc bw br ea el ec b1 vn b2 yn stp en tsp W2):=fun W2 hb=>⟨Ab hb _ _ x6,Ab hb _ _ x0,Ab hb _ _ x1,Ab hb _ _ x2,Ab hb _ _ x3,Ab hb _ _ x4,Ab hb _ _ x5⟩
 have HBD:Hx (Ov w3 w3.drew):=(bD _)
 have HVL:=Aa hvl
 clear HKD hRA hW3 hvl hb3 hB12 hb13 hB3 hsz hlo hl1 x0 x1 x2 x3 x4 x5 x6 hsp hen htsp HP HX g0 HR1 HR2 HB2
 go_wp2_with fail
 refine gS (Mc bw br ea el ec b1 vn b2 yn stp en tsp) (HS.o _ HBD.o) fun hHeld=>?_
 refine kT 0 ?_
 refine kT 1 ?_
 refine kT 2 ?_
 refine kT 3 ?_
 refine kT 4 ?_
 refine kT 5 ?_
 refine kT 6 ?_
 refine kT 7 ?_
 refine rdA 8 rfl fun K hK=>?_
 go_simp
 refine (KL.o _ HBD.o).mono ?_
 rintro e W4 ⟨va4,vk4,vc4,rfl,hO4⟩
 have HB4:=Aa (Ac HBD.o hO4.below)
 have HO4:=Aa hO4
 clear hO4
 go_simp
 refine xK hK (HS.o _ HB4.o) fun hHeld=>?_
 clear hK K
 refine rdA 9 rfl fun K hK=>?_
 have r4:=HO3.o.1.over HB4.o
 have z4:∀ j,W4.frozen? ⟨w.heap.size+1,j,none⟩=false:=fun j=>((Am HB4.o).2 _ _ HL3.o).trans (HO3.o.2 j)
 have o0:=r4 0 _ rfl
 have y0:=z4 0
 have o1:=r4 1 _ rfl
 have y1:=z4 1
 have o2:=r4 2 _ rfl
 have y2:=z4 2
 have o3:=r4 3 _ rfl
 have y3:=z4 3
 have o4:=r4 4 _ rfl
 have y4:=z4 4
 have o5:=r4 5 _ rfl
 have y5:=z4 5
 obtain ⟨W5,hW5⟩:=nm (((((((W4.setCell ⟨w.heap.size+1,0,none⟩ (O ea el ec)).setCell ⟨w.heap.size+1,1,none⟩ (O (some ⟨b1,0,none⟩) vn vn)).setCell ⟨w.heap.size+1,2,none⟩ (O (some ⟨b2,0,none⟩) yn yn)).setCell ⟨w.heap.size+1,3,none⟩ (U zd stp)).setCell ⟨w.heap.size+1,4,none⟩ (U zd en)).setCell ⟨w.heap.size+1,5,none⟩ (U zd tsp)))
 have hF5:Ad [O ea el ec,O (some ⟨b1,0,none⟩) vn vn,O (some ⟨b2,0,none⟩) yn yn,U zd stp,U zd en,U zd tsp] W5 (w.heap.size+1):=by rw [hW5];exact ((((((r4.set (j:=0) (v:=O ea el ec) (by simp)).set (j:=1) (v:=O (some ⟨b1,0,none⟩) vn vn) (by simp)).set (j:=2) (v:=O (some ⟨b2,0,none⟩) yn yn) (by simp)).set (j:=3) (v:=U zd stp) (by simp)).set (j:=4) (v:=U zd en) (by simp)).set (j:=5) (v:=U zd tsp) (by simp))
 have hB5:Ov w W5:=by rw [hW5];exact ((((((((((((HB3.o.trans (HB4.o.mono HB3.o.size)).setCell (by simp) _)).setCell (by simp) _)).setCell (by simp) _)).setCell (by simp) _)).setCell (by simp) _)).setCell (by simp) _)
 have hk5:∀ k,k≠w.heap.size+1->W5.heap[k]? = W4.heap[k]?:=fun k hk=>by rw [hW5];exact Lg hk.symm
 have hRA:Cd w.heap.size vn yn F T (O ea el ec) b1 b2 W5:=by rw [hW5];exact NG (HF.o.over HB4.o) HN.o.1 HN.o.2.1 HN.o.2.2.1 _ _ _ _ _ _
 have hLV:BI W5 (O va4 vk4 vc4) T.o.vs:=HO4.o.moved HN1.o.1 (fun k h1=>hk5 k (by have:=HL3.o;have:=HBD.o.size;omega))
 have s4:=HS.o _ HB4.o
 have HS5:Hx (Mc bw br ea el ec b1 vn b2 yn stp en tsp W5):=⟨(World.cell?_of_block (a:=⟨bw,0,none⟩) (hk5 bw HN.o.2.2.2.1)).trans s4.1,(World.cell?_of_block (a:=⟨br,0,none⟩) (hk5 br HN.o.2.2.2.2)).trans s4.2.1,(World.cell?_of_block (a:=⟨br,1,none⟩) (hk5 br HN.o.2.2.2.2)).trans s4.2.2.1,(World.cell?_of_block (a:=⟨br,2,none⟩) (hk5 br HN.o.2.2.2.2)).trans s4.2.2.2.1,(World.cell?_of_block (a:=⟨br,3,none⟩) (hk5 br HN.o.2.2.2.2)).trans s4.2.2.2.2.1,(World.cell?_of_block (a:=⟨br,4,none⟩) (hk5 br HN.o.2.2.2.2)).trans s4.2.2.2.2.2.1,(World.cell?_of_block (a:=⟨br,5,none⟩) (hk5 br HN.o.2.2.2.2)).trans s4.2.2.2.2.2.2⟩
 have HF5:=Aa hF5
 have HB5:=Aa hB5
 have HRA:=Aa hRA
 have HLV:=Aa hLV
 clear r4 z4 hF5 hB5 hk5 hRA hLV s4
 go_simp
 rw [<-hW5]
 clear hW5
 refine xK hK (HS5.o) fun hHeld=>?_
 clear hK K
 refine kT 10 ?_
 refine kT 11 ?_
 refine gE ?_
 clear o0 y0
 clear o1 y1
 clear o2 y2
 clear o3 y3
 clear o4 y4
 clear o5 y5
 go_wp2_with fail
 obtain ⟨e0,e1,e2,e3,e4,e5⟩:=rc6 HF5.o
 refine bodyPost_ret (v:=zk #[zh #[O ea el ec,O (some ⟨b1,0,none⟩) vn vn,O (some ⟨b2,0,none⟩) yn yn,U zd stp,U zd en,U zd tsp],O va4 vk4 vc4,U zd 0]) ?_ rfl ?_
 rotate_left
 ·have hT:=HT.o
  have h1:=HSP.o
  have h2:=HEN.o
  have h3:=HTS.o
  subst h1 h2 h3
  subst hT
  exact ⟨0,by simpa using HOK.o,HB5.o,Or.inr ⟨rfl,n,st,_,b1,b2,va4,vk4,vc4,rfl,HQ.o,rfl,HRA.o,HLV.o,HO4.o.lens,HVL.o⟩⟩
 simp [results,Tryz.results17,go_sem,e0,e1,e2,e3,e4,e5]
theorem EP {cs:List Value} {w w':World} {b:Nat} {a:Array Value} {t:Nat} (ha:a.toList=cs) (hb:b=w.heap.size) (hw:Ov (w.alloc (.cells a t)) w'):Ad cs w' b:=by
 subst hb
 rw [<-ha]
 exact (Ad.newA a t w).over hw
theorem PX (w:World):Calls Tryz.prog 38 #[] w fun e w'=>∃ bi bo bv bm,e=zj (Dr bi bo bv bm)/\GG bi bo bv bm w'/\Ov w w'/\(w.heap.size < bi/\bi < bo/\bo < bv/\bv < bm/\bm < w'.heap.size)/\∀ j,w'.frozen? ⟨bi,j,none⟩=false:=by
 go_enter Tryz.func38,Tryz.ntmps38
 go_wp2_with fail
 have hbr:=fun (W:World) (o:Obj)=>bA W o
 refine bodyPost_ret (v:=Dr (w.heap.size+1) (w.heap.size+1+1) (w.heap.size+1+1+1) (w.heap.size+1+1+1+1)) (by simp [results,Tryz.results38,go_sem]) rfl ⟨_,_,_,_,rfl,⟨?_,?_,?_,?_⟩,?_,?_,?_⟩
 ·exact EP rfl (by simp) (Ac (Ac (hbr _ _) (hbr _ _)) (hbr _ _))
 ·exact EP rfl (by simp) (Ac (hbr _ _) (hbr _ _))
 ·exact EP rfl (by simp) (hbr _ _)
 ·exact EP rfl (by simp) (Below.refl _ _)
 ·exact Ac (Ac (Ac (Ac (hbr _ _) (hbr _ _)) (hbr _ _)) (hbr _ _)) (hbr _ _)
 ·refine ⟨by omega,by omega,by omega,by omega,by simp⟩
 ·intro j
  simp [go_sem]
structure Bad (bi bo bv bm bp:Nat) (w:World):Prop where
 ins:Ad [O (some ⟨bp,0,none⟩) 1 1,O none 0 0] w bi
 pol:Ad [U zd 0,O none 0 0] w bp
 outs:Ad [O none 0 0,O none 0 0] w bo
 vars:Ad [zg false,O none 0 0,O none 0 0] w bv
 main:Ad Ee w bm
abbrev OB (bi bo bv bm:Nat):Value:=zh #[U zd 2,O none 0 0,O none 0 0,O (some ⟨bi,0,none⟩) 1 1,O (some ⟨bo,0,none⟩) 1 1,O (some ⟨bv,0,none⟩) 1 1,O none 0 0,O (some ⟨bm,0,none⟩) 2 2]
def Rh (w:World) (e:Ending) (w':World):Prop:=∃ bi bo bv bm bp,e=zj (OB bi bo bv bm)/\Bad bi bo bv bm bp w'/\Ov w w'
theorem J7 (w:World):Calls Tryz.prog 39 #[] w (Rh w):=by
 have hbel:Ov w (w.alloc (ze #[U zd 0,O none 0 0,O none 0 0,O none 0 0,O none 0 0,O none 0 0,O none 0 0,O none 0 0] 31)):=bA w _
 have hrow:=Ad.newA #[U zd 0,O none 0 0,O none 0 0,O none 0 0,O none 0 0,O none 0 0,O none 0 0,O none 0 0] 31 w
 have hz:∀ j,(w.alloc (ze #[U zd 0,O none 0 0,O none 0 0,O none 0 0,O none 0 0,O none 0 0,O none 0 0,O none 0 0] 31)).frozen? ⟨w.heap.size,j,none⟩=false:=fun j=>by simp [go_sem]
 have K1:=Aa (PX (w.alloc (ze #[U zd 0,O none 0 0,O none 0 0,O none 0 0,O none 0 0,O none 0 0,O none 0 0,O none 0 0] 31)))
 have HB:=Aa hbel
 have HR:=Aa hrow
 have HZ:=Aa hz
 clear hbel hrow hz
 unfold Rh
 go_enter Tryz.func39,Tryz.ntmps39
 go_wp2_with fail
 refine (K1.o).mono ?_
 rintro e w2 ⟨bi,bo,bv,bm,rfl,hS,hb2,⟨l0,l1,l2,l3,l4⟩,hzi⟩
 have hsz:(w.alloc (ze #[U zd 0,O none 0 0,O none 0 0,O none 0 0,O none 0 0,O none 0 0,O none 0 0,O none 0 0] 31)).heap.size=w.heap.size+1:=by simp
 have hB2:=HB.o.trans (hb2.mono HB.o.size)
 have hr2:=HR.o.over hb2
 have hz2:∀ j,w2.frozen? ⟨w.heap.size,j,none⟩=false:=fun j=>((Am hb2).2 _ _ (by rw [hsz];omega)).trans (HZ.o j)
 have n1:bi≠w2.heap.size:=by omega
 have n2:w.heap.size≠w2.heap.size:=by omega
 have n3:w.heap.size≠bi:=by omega
 have n4:bi≠w2.heap.size+1:=by omega
 have n5:w.heap.size≠w2.heap.size+1:=by omega
 have b1:bi < w2.heap.size:=by omega
 have b2:w.heap.size < w2.heap.size:=by omega
 obtain ⟨c0,c1⟩:=rc2 hS.ins
 have z0:=hzi 0
 have z1:=hzi 1
 have r0:=hr2 0 _ rfl
 have y0:=hz2 0
 have r1:=hr2 1 _ rfl
 have y1:=hz2 1
 have r2:=hr2 2 _ rfl
 have y2:=hz2 2
 have r3:=hr2 3 _ rfl
 have y3:=hz2 3
 have r4:=hr2 4 _ rfl
 have y4:=hz2 4
 have r5:=hr2 5 _ rfl
 have y5:=hz2 5
 have r6:=hr2 6 _ rfl
 have y6:=hz2 6
 have r7:=hr2 7 _ rfl
 have y7:=hz2 7
 have HS:=Aa hS
 have HB2:=Aa hB2
 have HR2:=Aa hr2
 have L0:=Aa l0
 have L1:=Aa l1
 have L2:=Aa l2
 have L3:=Aa l3
 have L4:=Aa l4
 clear hS hB2 hr2 hz2 hzi hb2 K1 l0 l1 l2 l3 l4 hsz
 unfold Dr
 go_wp2_with fail
 have hbr:=fun (W:World) (o:Obj)=>bA W o
 have l0:=L0.o
 have l1:=L1.o
 have l2:=L2.o
 have l3:=L3.o
 have l4:=L4.o
 simp at l0
 have hsz:(((((((((w2.setCell ⟨bi,0,none⟩ (O (some ⟨w2.heap.size+1,0,none⟩) 1 1)).setCell ⟨w.heap.size,0,none⟩ (U zd 2)).setCell ⟨w.heap.size,1,none⟩ (O none 0 0)).setCell ⟨w.heap.size,2,none⟩ (O none 0 0)).setCell ⟨w.heap.size,3,none⟩ (O (some ⟨bi,0,none⟩) 1 1)).setCell ⟨w.heap.size,4,none⟩ (O (some ⟨bo,0,none⟩) 1 1)).setCell ⟨w.heap.size,5,none⟩ (O (some ⟨bv,0,none⟩) 1 1)).setCell ⟨w.heap.size,6,none⟩ (O none 0 0)).setCell ⟨w.heap.size,7,none⟩ (O (some ⟨bm,0,none⟩) 2 2)).heap.size=w2.heap.size:=by simp [World.setCell]
 have hF:=(((((((((((HR2.o.other (b':=bi) (j:=0) (v:=O (some ⟨w2.heap.size+1,0,none⟩) 1 1) n3).set (j:=0) (v:=U zd 2) (by simp)).set (j:=1) (v:=O none 0 0) (by simp)).set (j:=2) (v:=O none 0 0) (by simp)).set (j:=3) (v:=O (some ⟨bi,0,none⟩) 1 1) (by simp)).set (j:=4) (v:=O (some ⟨bo,0,none⟩) 1 1) (by simp)).set (j:=5) (v:=O (some ⟨bv,0,none⟩) 1 1) (by simp)).set (j:=6) (v:=O none 0 0) (by simp)).set (j:=7) (v:=O (some ⟨bm,0,none⟩) 2 2) (by simp)).over (hbr _ (ze #[U zd 2,O none 0 0,O none 0 0,O (some ⟨bi,0,none⟩) 1 1,O (some ⟨bo,0,none⟩) 1 1,O (some ⟨bv,0,none⟩) 1 1,O none 0 0,O (some ⟨bm,0,none⟩) 2 2] 31))).over (hbr _ (ze #[U zd 0,O none 0 0] 87)))
 have hin:=(((((((((((HS.o.ins.set (j:=0) (v:=O (some ⟨w2.heap.size+1,0,none⟩) 1 1) (by simp)).other (b':=w.heap.size) (j:=0) (v:=U zd 2) (by omega)).other (b':=w.heap.size) (j:=1) (v:=O none 0 0) (by omega)).other (b':=w.heap.size) (j:=2) (v:=O none 0 0) (by omega)).other (b':=w.heap.size) (j:=3) (v:=O (some ⟨bi,0,none⟩) 1 1) (by omega)).other (b':=w.heap.size) (j:=4) (v:=O (some ⟨bo,0,none⟩) 1 1) (by omega)).other (b':=w.heap.size) (j:=5) (v:=O (some ⟨bv,0,none⟩) 1 1) (by omega)).other (b':=w.heap.size) (j:=6) (v:=O none 0 0) (by omega)).other (b':=w.heap.size) (j:=7) (v:=O (some ⟨bm,0,none⟩) 2 2) (by omega)).over (hbr _ (ze #[U zd 2,O none 0 0,O none 0 0,O (some ⟨bi,0,none⟩) 1 1,O (some ⟨bo,0,none⟩) 1 1,O (some ⟨bv,0,none⟩) 1 1,O none 0 0,O (some ⟨bm,0,none⟩) 2 2] 31))).over (hbr _ (ze #[U zd 0,O none 0 0] 87)))
 have hpl:Ad [U zd 0,O none 0 0] (((((((((((w2.setCell ⟨bi,0,none⟩ (O (some ⟨w2.heap.size+1,0,none⟩) 1 1)).setCell ⟨w.heap.size,0,none⟩ (U zd 2)).setCell ⟨w.heap.size,1,none⟩ (O none 0 0)).setCell ⟨w.heap.size,2,none⟩ (O none 0 0)).setCell ⟨w.heap.size,3,none⟩ (O (some ⟨bi,0,none⟩) 1 1)).setCell ⟨w.heap.size,4,none⟩ (O (some ⟨bo,0,none⟩) 1 1)).setCell ⟨w.heap.size,5,none⟩ (O (some ⟨bv,0,none⟩) 1 1)).setCell ⟨w.heap.size,6,none⟩ (O none 0 0)).setCell ⟨w.heap.size,7,none⟩ (O (some ⟨bm,0,none⟩) 2 2)).alloc (ze #[U zd 2,O none 0 0,O none 0 0,O (some ⟨bi,0,none⟩) 1 1,O (some ⟨bo,0,none⟩) 1 1,O (some ⟨bv,0,none⟩) 1 1,O none 0 0,O (some ⟨bm,0,none⟩) 2 2] 31)).alloc (ze #[U zd 0,O none 0 0] 87)) (w2.heap.size+1):=by
  have:=Ad.newA #[U zd 0,O none 0 0] 87 ((((((((((w2.setCell ⟨bi,0,none⟩ (O (some ⟨w2.heap.size+1,0,none⟩) 1 1)).setCell ⟨w.heap.size,0,none⟩ (U zd 2)).setCell ⟨w.heap.size,1,none⟩ (O none 0 0)).setCell ⟨w.heap.size,2,none⟩ (O none 0 0)).setCell ⟨w.heap.size,3,none⟩ (O (some ⟨bi,0,none⟩) 1 1)).setCell ⟨w.heap.size,4,none⟩ (O (some ⟨bo,0,none⟩) 1 1)).setCell ⟨w.heap.size,5,none⟩ (O (some ⟨bv,0,none⟩) 1 1)).setCell ⟨w.heap.size,6,none⟩ (O none 0 0)).setCell ⟨w.heap.size,7,none⟩ (O (some ⟨bm,0,none⟩) 2 2)).alloc (ze #[U zd 2,O none 0 0,O none 0 0,O (some ⟨bi,0,none⟩) 1 1,O (some ⟨bo,0,none⟩) 1 1,O (some ⟨bv,0,none⟩) 1 1,O none 0 0,O (some ⟨bm,0,none⟩) 2 2] 31))
  simpa [World.setCell] using this
 have hou:=(((((((((((HS.o.outs.other (b':=bi) (j:=0) (v:=O (some ⟨w2.heap.size+1,0,none⟩) 1 1) (by omega)).other (b':=w.heap.size) (j:=0) (v:=U zd 2) (by omega)).other (b':=w.heap.size) (j:=1) (v:=O none 0 0) (by omega)).other (b':=w.heap.size) (j:=2) (v:=O none 0 0) (by omega)).other (b':=w.heap.size) (j:=3) (v:=O (some ⟨bi,0,none⟩) 1 1) (by omega)).other (b':=w.heap.size) (j:=4) (v:=O (some ⟨bo,0,none⟩) 1 1) (by omega)).other (b':=w.heap.size) (j:=5) (v:=O (some ⟨bv,0,none⟩) 1 1) (by omega)).other (b':=w.heap.size) (j:=6) (v:=O none 0 0) (by omega)).other (b':=w.heap.size) (j:=7) (v:=O (some ⟨bm,0,none⟩) 2 2) (by omega)).over (hbr _ (ze #[U zd 2,O none 0 0,O none 0 0,O (some ⟨bi,0,none⟩) 1 1,O (some ⟨bo,0,none⟩) 1 1,O (some ⟨bv,0,none⟩) 1 1,O none 0 0,O (some ⟨bm,0,none⟩) 2 2] 31))).over (hbr _ (ze #[U zd 0,O none 0 0] 87)))
 have hva:=(((((((((((HS.o.vars.other (b':=bi) (j:=0) (v:=O (some ⟨w2.heap.size+1,0,none⟩) 1 1) (by omega)).other (b':=w.heap.size) (j:=0) (v:=U zd 2) (by omega)).other (b':=w.heap.size) (j:=1) (v:=O none 0 0) (by omega)).other (b':=w.heap.size) (j:=2) (v:=O none 0 0) (by omega)).other (b':=w.heap.size) (j:=3) (v:=O (some ⟨bi,0,none⟩) 1 1) (by omega)).other (b':=w.heap.size) (j:=4) (v:=O (some ⟨bo,0,none⟩) 1 1) (by omega)).other (b':=w.heap.size) (j:=5) (v:=O (some ⟨bv,0,none⟩) 1 1) (by omega)).other (b':=w.heap.size) (j:=6) (v:=O none 0 0) (by omega)).other (b':=w.heap.size) (j:=7) (v:=O (some ⟨bm,0,none⟩) 2 2) (by omega)).over (hbr _ (ze #[U zd 2,O none 0 0,O none 0 0,O (some ⟨bi,0,none⟩) 1 1,O (some ⟨bo,0,none⟩) 1 1,O (some ⟨bv,0,none⟩) 1 1,O none 0 0,O (some ⟨bm,0,none⟩) 2 2] 31))).over (hbr _ (ze #[U zd 0,O none 0 0] 87)))
 have hma:=(((((((((((HS.o.main.other (b':=bi) (j:=0) (v:=O (some ⟨w2.heap.size+1,0,none⟩) 1 1) (by omega)).other (b':=w.heap.size) (j:=0) (v:=U zd 2) (by omega)).other (b':=w.heap.size) (j:=1) (v:=O none 0 0) (by omega)).other (b':=w.heap.size) (j:=2) (v:=O none 0 0) (by omega)).other (b':=w.heap.size) (j:=3) (v:=O (some ⟨bi,0,none⟩) 1 1) (by omega)).other (b':=w.heap.size) (j:=4) (v:=O (some ⟨bo,0,none⟩) 1 1) (by omega)).other (b':=w.heap.size) (j:=5) (v:=O (some ⟨bv,0,none⟩) 1 1) (by omega)).other (b':=w.heap.size) (j:=6) (v:=O none 0 0) (by omega)).other (b':=w.heap.size) (j:=7) (v:=O (some ⟨bm,0,none⟩) 2 2) (by omega)).over (hbr _ (ze #[U zd 2,O none 0 0,O none 0 0,O (some ⟨bi,0,none⟩) 1 1,O (some ⟨bo,0,none⟩) 1 1,O (some ⟨bv,0,none⟩) 1 1,O none 0 0,O (some ⟨bm,0,none⟩) 2 2] 31))).over (hbr _ (ze #[U zd 0,O none 0 0] 87)))
 obtain ⟨e0,e1,e2,e3,e4,e5,e6,e7⟩:=rc8 hF
 have hBf:Ov w (((((((((((w2.setCell ⟨bi,0,none⟩ (O (some ⟨w2.heap.size+1,0,none⟩) 1 1)).setCell ⟨w.heap.size,0,none⟩ (U zd 2)).setCell ⟨w.heap.size,1,none⟩ (O none 0 0)).setCell ⟨w.heap.size,2,none⟩ (O none 0 0)).setCell ⟨w.heap.size,3,none⟩ (O (some ⟨bi,0,none⟩) 1 1)).setCell ⟨w.heap.size,4,none⟩ (O (some ⟨bo,0,none⟩) 1 1)).setCell ⟨w.heap.size,5,none⟩ (O (some ⟨bv,0,none⟩) 1 1)).setCell ⟨w.heap.size,6,none⟩ (O none 0 0)).setCell ⟨w.heap.size,7,none⟩ (O (some ⟨bm,0,none⟩) 2 2)).alloc (ze #[U zd 2,O none 0 0,O none 0 0,O (some ⟨bi,0,none⟩) 1 1,O (some ⟨bo,0,none⟩) 1 1,O (some ⟨bv,0,none⟩) 1 1,O none 0 0,O (some ⟨bm,0,none⟩) 2 2] 31)).alloc (ze #[U zd 0,O none 0 0] 87)):=(((((((((((HB2.o.setCell (p:=⟨bi,0,none⟩) (by simp;omega) (O (some ⟨w2.heap.size+1,0,none⟩) 1 1)).setCell (p:=⟨w.heap.size,0,none⟩) (by simp) (U zd 2)).setCell (p:=⟨w.heap.size,1,none⟩) (by simp) (O none 0 0)).setCell (p:=⟨w.heap.size,2,none⟩) (by simp) (O none 0 0)).setCell (p:=⟨w.heap.size,3,none⟩) (by simp) (O (some ⟨bi,0,none⟩) 1 1)).setCell (p:=⟨w.heap.size,4,none⟩) (by simp) (O (some ⟨bo,0,none⟩) 1 1)).setCell (p:=⟨w.heap.size,5,none⟩) (by simp) (O (some ⟨bv,0,none⟩) 1 1)).setCell (p:=⟨w.heap.size,6,none⟩) (by simp) (O none 0 0)).setCell (p:=⟨w.heap.size,7,none⟩) (by simp) (O (some ⟨bm,0,none⟩) 2 2)).alloc (by rw [hsz];omega) (ze #[U zd 2,O none 0 0,O none 0 0,O (some ⟨bi,0,none⟩) 1 1,O (some ⟨bo,0,none⟩) 1 1,O (some ⟨bv,0,none⟩) 1 1,O none 0 0,O (some ⟨bm,0,none⟩) 2 2] 31)).alloc (by simp [World.setCell];omega) (ze #[U zd 0,O none 0 0] 87))
 refine bodyPost_ret (v:=OB bi bo bv bm) ?_ rfl ⟨bi,bo,bv,bm,w2.heap.size+1,rfl,⟨hin,hpl,hou,hva,hma⟩,hBf⟩
 generalize (((((((((((w2.setCell ⟨bi,0,none⟩ (O (some ⟨w2.heap.size+1,0,none⟩) 1 1)).setCell ⟨w.heap.size,0,none⟩ (U zd 2)).setCell ⟨w.heap.size,1,none⟩ (O none 0 0)).setCell ⟨w.heap.size,2,none⟩ (O none 0 0)).setCell ⟨w.heap.size,3,none⟩ (O (some ⟨bi,0,none⟩) 1 1)).setCell ⟨w.heap.size,4,none⟩ (O (some ⟨bo,0,none⟩) 1 1)).setCell ⟨w.heap.size,5,none⟩ (O (some ⟨bv,0,none⟩) 1 1)).setCell ⟨w.heap.size,6,none⟩ (O none 0 0)).setCell ⟨w.heap.size,7,none⟩ (O (some ⟨bm,0,none⟩) 2 2)).alloc (ze #[U zd 2,O none 0 0,O none 0 0,O (some ⟨bi,0,none⟩) 1 1,O (some ⟨bo,0,none⟩) 1 1,O (some ⟨bv,0,none⟩) 1 1,O none 0 0,O (some ⟨bm,0,none⟩) 2 2] 31)).alloc (ze #[U zd 0,O none 0 0] 87))=WZ at e0 e1 e2 e3 e4 e5 e6 e7 ⊢
 simp [results,Tryz.results39,go_sem,e0,e1,e2,e3,e4,e5,e6,e7]
def LV:Lab:=⟨[⟨0,[]⟩],[]⟩
theorem OC {bi bo bv bm bp:Nat} {w:World} (h:Bad bi bo bv bm bp w):Br 1 1 2 none 0 0 none 0 0 (some ⟨bi,0,none⟩) 1 1 (some ⟨bo,0,none⟩) 1 1 (some ⟨bv,0,none⟩) 1 1 none 0 0 (some ⟨bm,0,none⟩) 2 2 [] [] [LV] [⟨[],[]⟩] [(false,⟨[],[]⟩)] [] [sm1,sm2] w:=by
 have h0:=Fc (bi:=bo) (bo:=bo) (bv:=bv) (bm:=bm) (w:=w) ⟨h.outs,h.outs,h.vars,h.main⟩
 refine ⟨BD 2 (by omega) (by omega),h0.grants,h0.speak,h0.speakL,?_,h0.outs,h0.vars,h0.funcs,h0.main,fun h=>absurd h (by simp),fun h=>absurd h (by simp)⟩
 refine ⟨by simp [maxLen],some ⟨bi,0,none⟩,1,rfl,fun _=>⟨bi,0,rfl,fun i hi=>?_⟩⟩
 have:i=0:=by simp at hi;omega
 subst this
 refine ⟨_,_,h.ins 0 _ rfl,h.ins 1 _ rfl,⟨_,_,rfl,fun _=>⟨bp,0,rfl,fun k hk=>?_⟩⟩,DP⟩
 have:k=0:=by simp [LV] at hk;omega
 subst this
 exact ⟨h.pol 0 _ rfl,_,h.pol 1 _ rfl,⟨none,0,rfl,fun h=>absurd rfl h⟩⟩
theorem Rx:Ey.xP 1 1 2 1 1 1 0 [] [] [LV] [⟨[],[]⟩] [(false,⟨[],[]⟩)] [] [sm1,sm2]:=by
 refine ⟨rfl,by simp,fun x hx=>absurd hx (by simp),⟨?_,?_,FZ.labs.2.2⟩,FZ.many,FZ.body,FZ.main⟩
 ·intro b hb
  simp at hb
  rcases hb with rfl | rfl
  ·rfl
  ·rfl
 ·intro v hv
  simp at hv
  subst hv
  rfl
theorem Ld:CP 1 1 [] (9:Int).toNat [[7]] BJ [sm1,sm2] 1 1 o0=⟨[(1,1,0,7)],[7],[1],2,1,0,o0⟩:=by kernel_rfl
structure Em (bi bo bv bm bx by':Nat) (w:World):Prop where
 small:GG bi bo bv bm w
 xs:w.cell? ⟨bx,0,none⟩=some (O (some ⟨by',0,none⟩) 1 1)
 ys:w.cell? ⟨by',0,none⟩=some (U zd 7)
def Ran (w:World) (e:Ending) (w':World):Prop:=
 ∃ g c b1 b2,e=zj (zk #[zh #[O (some ⟨g,0,none⟩) 1 c,O (some ⟨b1,0,none⟩) 1 1,O (some ⟨b2,0,none⟩) 1 1,U zd 2,U zd 1,U zd 0],U zd 0])/\Ad [U zd 1,U zd 1,U zd 0,U zd 7] w' g/\w'.cell? ⟨b2,0,none⟩=some (U zd 1)/\Ov w w'
theorem D9:okR 1 1 1 1 1 1 0 [] [] [⟨[],[]⟩] [⟨[],[]⟩] [(false,⟨[],[]⟩)] [] [sm1,sm2] [[7]] 9:=
 ⟨FZ,rfl,fun x hx=>by simp at hx;subst hx;simp,fun x hx y hy=>by simp at hx;subst hx;simp at hy;subst hy;exact ⟨by omega,by omega⟩,by omega,by omega⟩
theorem LY (bi bo bv bm bx by':Nat) (w:World) (hS:Em bi bo bv bm bx by' w) :
  Calls Tryz.prog 18 #[Dr bi bo bv bm,O (some ⟨bx,0,none⟩) 1 1,U zd 9] w (Ran w):=by
 have hx:Bi w (O (some ⟨bx,0,none⟩) 1 1) [[7]]:=by
  refine ⟨by simp [maxLen],some ⟨bx,0,none⟩,1,rfl,fun _=>⟨bx,0,rfl,fun i hi=>?_⟩⟩
  have:i=0:=by simp at hi;omega
  subst this
  refine ⟨_,hS.xs,⟨some ⟨by',0,none⟩,1,rfl,fun _=>⟨by',0,rfl,fun j hj=>?_⟩⟩,by simp⟩
  have:j=0:=by simp at hj;omega
  subst this
  exact hS.ys
 refine (Kx 1 1 1 none 0 0 none 0 0 (some ⟨bi,0,none⟩) 1 1 (some ⟨bo,0,none⟩) 1 1 (some ⟨bv,0,none⟩) 1 1 none 0 0 (some ⟨bm,0,none⟩) 2 2 (some ⟨bx,0,none⟩) 1 1 [[7]] 9 [] [] [⟨[],[]⟩] [⟨[],[]⟩] [(false,⟨[],[]⟩)] [] [sm1,sm2] w (Fc hS.small) hx).mono ?_
 rintro e w' ⟨why,hw,hB,⟨hne,-⟩ | ⟨-,ev,b1,b2,rfl,hr⟩⟩
 ·exact absurd (hw.2 D9) hne
 ·rw [Ld] at hr ⊢
  have ho:=hr.own
  rcases ho.2 with ⟨-,h⟩ | ⟨g,cap,cur,rfl,-⟩
  ·exact absurd h (by simp)
  ·refine ⟨g,cap,b1,b2,rfl,fun j u hu=>?_,hr.taken 0 _ rfl,hB⟩
   have:=ho.cells (g:=g) rfl j u hu
   rwa [Addr.add_lit,Nat.zero_add] at this
def QK (w:World) (e:Ending) (w':World):Prop:=∃ bi bo bv bm,e=zj (Dr bi bo bv bm)/\GG bi bo bv bm w'/\Ov w w'
theorem Ad.at {cs:List Value} {w w':World} {b:Nat} {a:Array Value} {t:Nat} (ha:a.toList=cs) (hb:b=w.heap.size) (hw:Ov (w.alloc (.cells a t)) w'):Ad cs w' b:=by
 subst hb
 rw [<-ha]
 exact (Ad.newA a t w).over hw
theorem GY (w:World):Calls Tryz.prog 38 #[] w (QK w):=by
 go_enter Tryz.func38,Tryz.ntmps38
 go_wp2_with fail
 have hbr:=fun (W:World) (o:Obj)=>bA W o
 refine bodyPost_ret (v:=Dr (w.heap.size+1) (w.heap.size+1+1) (w.heap.size+1+1+1) (w.heap.size+1+1+1+1)) (by simp [results,Tryz.results38,go_sem]) rfl ⟨_,_,_,_,rfl,⟨?_,?_,?_,?_⟩,?_⟩
 ·exact Ad.at rfl (by simp) (Ac (Ac (hbr _ _) (hbr _ _)) (hbr _ _))
 ·exact Ad.at rfl (by simp) (Ac (hbr _ _) (hbr _ _))
 ·exact Ad.at rfl (by simp) (hbr _ _)
 ·exact Ad.at rfl (by simp) (Below.refl _ _)
 ·exact Ac (Ac (Ac (Ac (hbr _ _) (hbr _ _)) (hbr _ _)) (hbr _ _)) (hbr _ _)
theorem Hw (a b:Nat) (w:World) (ha:w.cell? ⟨a,0,none⟩=some (U zd 1)) (hb:w.cell? ⟨b,0,none⟩=some (U zd 1)) :
  Calls Tryz.prog 32 #[O (some ⟨a,0,none⟩) 1 1,O (some ⟨b,0,none⟩) 1 1] w fun e w'=>e=zj (zg true)/\∃ n,w'=w.drewN n:=by
 go_enter Tryz.func32,Tryz.ntmps32
 go_wp2_with fail
 go_loopw [5] (fun i wr=>∃ j:Int,0<=j/\j<=1/\i=U zd j/\∃ n,wr=w.drewN n) (fun i _=>1 - (intOf i).toNat)
 case atStart=>exact ⟨0,by omega,by omega,rfl,0,rfl⟩
 case round=>
  obtain ⟨j,hj0,hj,rfl,n,rfl⟩:=hrel
  rcases (by omega:j=0\/j=1) with rfl | rfl
  ·go_wp2_with fail
   go_quiet ((fail))
   go_wp2_with fail
   exact ⟨⟨1,by omega,by omega,by first | rfl | go_num,_,by first | rfl | exact World.drewN_drewN _ _ _⟩,by simp [intOf]⟩
  ·go_wp2_with fail
   go_ret
   exact ⟨rfl,n,by first | rfl | trivial⟩
theorem Rt (w:World):RX w 1 [U zd 1,U zd 4,O none 0 0] (xD 1 4 []):=⟨1,4,_,[],rfl,rfl,⟨by omega,by omega⟩,⟨by omega,by omega⟩,by simp,none,0,rfl,fun h=>absurd rfl h⟩
theorem Qd (w:World):AQ w (O none 0 0) []:=⟨none,0,rfl,fun h=>absurd rfl h⟩
theorem LS (w:World):Calls Tryz.prog 20 #[] w fun e w'=>e=zj (zg true)/\Ov w w':=by
 have K1:=Aa GY
 have K2:=Aa fun bi bo bv bm bx by' W (hS:Em bi bo bv bm bx by' W)=>LY bi bo bv bm bx by' W hS
 have K3:=Aa fun W=>Nn 1 _ _ W _ [] (Rt W) (Qd W) (by simp)
 have he:Cw [] 1 (xD 1 4 [])=0:=by decide
 have hv:Ii [] 1 (xD 1 4 [])=4:=by decide
 rw [he,hv] at K3
 clear he hv
 go_enter Tryz.func20,Tryz.ntmps20
 go_wp2_with fail
 refine (K1.o _).mono ?_
 rintro e w1 ⟨bi,bo,bv,bm,rfl,hSm,hb1⟩
 have hS:Em bi bo bv bm (w1.heap.size+1) w1.heap.size ((w1.alloc (ze #[U zd 7] 3)).alloc (ze #[O (some ⟨w1.heap.size,0,none⟩) 1 1] 25)):=
  ⟨hSm.over ((bA w1 _).alloc (by simp) _),by simp [go_sem],by simp [go_sem]⟩
 have hB1:Ov w ((w1.alloc (ze #[U zd 7] 3)).alloc (ze #[O (some ⟨w1.heap.size,0,none⟩) 1 1] 25)):=(hb1.alloc hb1.size _).alloc (by have:=hb1.size;simp;omega) _
 have K2':=Aa (K2.o _ _ _ _ _ _ _ hS)
 clear K1 K2 hSm hb1 hS
 unfold Dr at K2' ⊢
 go_wp2_with fail
 refine (K2'.o).mono ?_
 rintro e w2 ⟨g,c,b1,b2,rfl,hrow,ht,hb2⟩
 have hB2:=hB1.trans (hb2.mono hB1.size)
 clear K2' hb2 hB1
 go_wp2_with fail
 refine (K3.o _).mono ?_
 rintro e w3 ⟨rfl,hb3⟩
 have hba:=bA w2 (ze #[O (some ⟨g,0,none⟩) 1 c,O (some ⟨b1,0,none⟩) 1 1,O (some ⟨b2,0,none⟩) 1 1,U zd 2,U zd 1,U zd 0] 55)
 have hb3':=Ac hba hb3
 have hB3:=hB2.trans (hb3'.mono hB2.size)
 have hr:=(Ad.newA #[O (some ⟨g,0,none⟩) 1 c,O (some ⟨b1,0,none⟩) 1 1,O (some ⟨b2,0,none⟩) 1 1,U zd 2,U zd 1,U zd 0] 55 w2).over hb3
 have r0:=hr 0 _ rfl
 have r2:=hr 2 _ rfl
 have r3:=hr 3 _ rfl
 have r4:=hr 4 _ rfl
 have hrow3:=hrow.over hb3'
 obtain ⟨g0,g1,g2,g3⟩:=rc4 hrow3
 have t3:=Ab hb3' _ _ ht
 clear hrow hrow3 ht hr hba hb3 hb3' hB2 K3
 have q3:=BC w3 [U zd 1] 3 0 _ rfl
 have K4:=Aa (Hw b2 w3.heap.size _ (Ab (bA w3 _) _ _ t3) q3)
 have hB4:Ov w (w3.alloc (ze #[U zd 1] 3)):=hB3.alloc hB3.size _
 go_wp2_with fail
 refine (K4.o).mono ?_
 rintro e w4 ⟨rfl,n,rfl⟩
 have hB5:=below_drewN hB4 n
 go_wp2_with fail
 go_ret
 exact ⟨rfl,hB5⟩
theorem IB (fl):Ch 1 1 1 (9:Int).toNat [[7]] [] [⟨[],[]⟩] [⟨[],[]⟩] [(false,⟨[],[]⟩)] [] [sm1,sm2] fl 1 1=⟨[(1,1,0,7)],[7],[1],2,1,0,⟨[⟨[true],[true]⟩],[⟨[true],[false]⟩]⟩⟩:=by kernel_rfl
theorem LU (fl):Ch 2 1 1 (9:Int).toNat [[7]] [] [LV] [⟨[],[]⟩] [(false,⟨[],[]⟩)] [] [sm1,sm2] fl 1 1=⟨[],[7],[1],2,3,1,⟨[⟨[true,false],[true,true]⟩],[⟨[true,true],[false,false]⟩]⟩⟩:=by kernel_rfl
theorem I1 {bx by':Nat} {w:World} (xs:w.cell? ⟨bx,0,none⟩=some (O (some ⟨by',0,none⟩) 1 1)) (ys:w.cell? ⟨by',0,none⟩=some (U zd 7)):Bi w (O (some ⟨bx,0,none⟩) 1 1) [[7]]:=by
 refine ⟨by simp [maxLen],some ⟨bx,0,none⟩,1,rfl,fun _=>⟨bx,0,rfl,fun i hi=>?_⟩⟩
 have:i=0:=by simp at hi;omega
 subst this
 refine ⟨_,xs,⟨some ⟨by',0,none⟩,1,rfl,fun _=>⟨by',0,rfl,fun j hj=>?_⟩⟩,by simp⟩
 have:j=0:=by simp at hj;omega
 subst this
 exact ys
theorem OA:okR 1 1 2 1 1 1 0 [] [] [LV] [⟨[],[]⟩] [(false,⟨[],[]⟩)] [] [sm1,sm2] [[7]] 9:=
 ⟨Rx,rfl,D9.long,D9.num,by omega,by omega⟩
def RB (w:World) (e:Ending) (w':World):Prop:=
 ∃ g c b1 b2 lb lo lc rv wa wc,e=zj (zk #[zh #[O (some ⟨g,0,none⟩) 1 c,O (some ⟨b1,0,none⟩) 1 1,O (some ⟨b2,0,none⟩) 1 1,U zd 2,U zd 1,U zd 0],O (some ⟨lb,lo,none⟩) 1 lc,U zd 0])/\w'.cell? ⟨lb,lo,none⟩=some rv/\w'.cell? ⟨lb,lo+1,none⟩=some (O wa 1 wc)/\AH w' (O wa 1 wc) [true]/\Ov w w'
theorem Jk (bi bo bv bm bx by':Nat) (w:World) (hS:Em bi bo bv bm bx by' w) :
  Calls Tryz.prog 17 #[Dr bi bo bv bm,O (some ⟨bx,0,none⟩) 1 1,U zd 9] w (RB w):=by
 refine (Ft 1 1 1 none 0 0 none 0 0 (some ⟨bi,0,none⟩) 1 1 (some ⟨bo,0,none⟩) 1 1 (some ⟨bv,0,none⟩) 1 1 none 0 0 (some ⟨bm,0,none⟩) 2 2 (some ⟨bx,0,none⟩) 1 1 [[7]] 9 [] [] [⟨[],[]⟩] [⟨[],[]⟩] [(false,⟨[],[]⟩)] [] [sm1,sm2] w (Fc hS.small) (I1 hS.xs hS.ys)).mono ?_
 rintro e w' ⟨why,hw,hB,⟨hne,-⟩ | ⟨-,n,st,ev,b1,b2,a4,k4,c4,hn,-,rfl,hr,hl,-,-⟩⟩
 ·exact absurd (hw.2 D9) hne
 ·obtain rfl:n=1:=by omega
  rw [IB] at hr hl ⊢
  have ho:=hr.own
  rcases ho.2 with ⟨-,h⟩ | ⟨g,cap,cur,rfl,-⟩
  ·exact absurd h (by simp)
  ·obtain ⟨ao,cap',hv,hel⟩:=hl
   injection hv with h1 h2 h3
   obtain ⟨lb,lo,hao,hel⟩:=hel (by simp)
   obtain ⟨rv,wv,hrv,hwv,u1,u2,he,hb1,hb2⟩:=hel 0 (by simp)
   simp at he
   obtain ⟨rfl,rfl⟩:=he
   have hb2':=hb2
   obtain ⟨wa,wc,rfl,-⟩:=hb2'
   rw [h1,h2,h3,hao]
   exact ⟨g,cap,b1,b2,lb,lo,cap',rv,wa,wc,rfl,hrv,hwv,hb2,hB⟩
def RA (w:World) (e:Ending) (w':World):Prop:=
 ∃ g c b1 b2 la lk lc,e=zj (zk #[zh #[O g 0 c,O (some ⟨b1,0,none⟩) 1 1,O (some ⟨b2,0,none⟩) 1 1,U zd 2,U zd 3,U zd 1],O la lk lc,U zd 0])/\Ov w w'
theorem LW (bi bo bv bm bp bx by':Nat) (w:World) (hS:Bad bi bo bv bm bp w) (xs:w.cell? ⟨bx,0,none⟩=some (O (some ⟨by',0,none⟩) 1 1)) (ys:w.cell? ⟨by',0,none⟩=some (U zd 7)) :
  Calls Tryz.prog 17 #[OB bi bo bv bm,O (some ⟨bx,0,none⟩) 1 1,U zd 9] w (RA w):=by
 refine (Ft 1 1 2 none 0 0 none 0 0 (some ⟨bi,0,none⟩) 1 1 (some ⟨bo,0,none⟩) 1 1 (some ⟨bv,0,none⟩) 1 1 none 0 0 (some ⟨bm,0,none⟩) 2 2 (some ⟨bx,0,none⟩) 1 1 [[7]] 9 [] [] [LV] [⟨[],[]⟩] [(false,⟨[],[]⟩)] [] [sm1,sm2] w (OC hS) (I1 xs ys)).mono ?_
 rintro e w' ⟨why,hw,hB,⟨hne,-⟩ | ⟨-,n,st,ev,b1,b2,a4,k4,c4,hn,-,rfl,hr,hl,-,-⟩⟩
 ·exact absurd (hw.2 OA) hne
 ·obtain rfl:n=2:=by omega
  rw [LU] at hr ⊢
  have ho:=hr.own
  rcases ho.2 with ⟨rfl,h⟩ | ⟨g,cap,cur,rfl,-⟩
  ·exact ⟨none,0,b1,b2,a4,k4,c4,rfl,hB⟩
  ·exact ⟨some ⟨g,0,none⟩,cap,b1,b2,a4,k4,c4,rfl,hB⟩
theorem Bad.over {bi bo bv bm bp:Nat} {w w':World} (h:Bad bi bo bv bm bp w) (hb:Ov w w'):Bad bi bo bv bm bp w':=⟨h.ins.over hb,h.pol.over hb,h.outs.over hb,h.vars.over hb,h.main.over hb⟩
theorem FU (w:World):Calls Tryz.prog 19 #[] w fun e w'=>e=zj (zg true)/\Ov w w':=by
 have K1:=Aa GY
 have K2:=Aa fun bi bo bv bm bx by' W (hS:Em bi bo bv bm bx by' W)=>Jk bi bo bv bm bx by' W hS
 have K3:=Aa J7
 go_enter Tryz.func19,Tryz.ntmps19
 go_wp2_with fail
 refine (K1.o _).mono ?_
 rintro e w1 ⟨bi,bo,bv,bm,rfl,hSm,hb1⟩
 have hS:Em bi bo bv bm (w1.heap.size+1) w1.heap.size ((w1.alloc (ze #[U zd 7] 3)).alloc (ze #[O (some ⟨w1.heap.size,0,none⟩) 1 1] 25)):=
  ⟨hSm.over ((bA w1 _).alloc (by simp) _),by simp [go_sem],by simp [go_sem]⟩
 have hB1:Ov w ((w1.alloc (ze #[U zd 7] 3)).alloc (ze #[O (some ⟨w1.heap.size,0,none⟩) 1 1] 25)):=(hb1.alloc hb1.size _).alloc (by have:=hb1.size;simp;omega) _
 have K2':=Aa (K2.o _ _ _ _ _ _ _ hS)
 clear K1 K2 hSm hb1 hS
 unfold Dr at K2' ⊢
 go_wp2_with fail
 refine (K2'.o).mono ?_
 rintro e w2 ⟨g,c,b1,b2,lb,lo,lc,rv,wa,wc,rfl,hrv,hwv,hbo,hb2⟩
 have hB2:=hB1.trans (hb2.mono hB1.size)
 have hba:=bA w2 (ze #[O (some ⟨g,0,none⟩) 1 c,O (some ⟨b1,0,none⟩) 1 1,O (some ⟨b2,0,none⟩) 1 1,U zd 2,U zd 1,U zd 0] 55)
 have hr1:=Ad.newA #[O (some ⟨g,0,none⟩) 1 c,O (some ⟨b1,0,none⟩) 1 1,O (some ⟨b2,0,none⟩) 1 1,U zd 2,U zd 1,U zd 0] 55 w2
 have HB2:Hx (Ov w (w2.alloc (ze #[O (some ⟨g,0,none⟩) 1 c,O (some ⟨b1,0,none⟩) 1 1,O (some ⟨b2,0,none⟩) 1 1,U zd 2,U zd 1,U zd 0] 55))):=hB2.alloc hB2.size _
 have HR1:=Aa hr1
 have HLV:=Aa (And.intro (Ab hba _ _ hrv) (And.intro (Ab hba _ _ hwv) (AA hbo hba)))
 clear K2' hb2 hB1 hB2 hba hr1 hrv hwv hbo
 go_wp2_with fail
 refine (K3.o _).mono ?_
 obtain ⟨v2,hv2⟩:=nm ((w2.alloc (ze #[O (some ⟨g,0,none⟩) 1 c,O (some ⟨b1,0,none⟩) 1 1,O (some ⟨b2,0,none⟩) 1 1,U zd 2,U zd 1,U zd 0] 55)))
 have hg2:v2.heap.size=w2.heap.size+1:=by rw [hv2];simp
 rw [<-hv2] at HB2 HR1 HLV ⊢
 clear hv2 hg2
 rintro e w3 ⟨ci,co,cv,cm,cp,rfl,hBa,hb3⟩
 have hB3:=HB2.o.trans (hb3.mono HB2.o.size)
 have hbi:Ov w3 ((w3.alloc (ze #[U zd 7] 3)).alloc (ze #[O (some ⟨w3.heap.size,0,none⟩) 1 1] 25)):=(bA w3 _).alloc (by simp) _
 have K4:=Aa (LW ci co cv cm cp (w3.heap.size+1) w3.heap.size ((w3.alloc (ze #[U zd 7] 3)).alloc (ze #[O (some ⟨w3.heap.size,0,none⟩) 1 1] 25)) (hBa.over hbi) (by simp [go_sem]) (by simp [go_sem]))
 have HB3:=Aa (hB3.trans (hbi.mono hB3.size))
 have HBI:=Aa (Ac hb3 hbi)
 clear K3 hBa hb3 hB3 hbi
 unfold OB at K4 ⊢
 go_wp2_with fail
 refine (K4.o).mono ?_
 rintro e w4 ⟨h,d,d1,d2,la,lk,ld,rfl,hb4⟩
 have hb24:=Ac HBI.o hb4
 have hba:=bA w4 (ze #[O h 0 d,O (some ⟨d1,0,none⟩) 1 1,O (some ⟨d2,0,none⟩) 1 1,U zd 2,U zd 3,U zd 1] 55)
 have HB4:Hx (Ov w (w4.alloc (ze #[O h 0 d,O (some ⟨d1,0,none⟩) 1 1,O (some ⟨d2,0,none⟩) 1 1,U zd 2,U zd 3,U zd 1] 55))):=by
  have:=HB3.o.trans (hb4.mono HB3.o.size)
  exact this.alloc this.size _
 have hb25:=Ac hb24 hba
 have rA:=HR1.o.over hb25
 have rB:=Ad.newA #[O h 0 d,O (some ⟨d1,0,none⟩) 1 1,O (some ⟨d2,0,none⟩) 1 1,U zd 2,U zd 3,U zd 1] 55 w4
 have a0:=rA 0 _ rfl
 have a4:=rA 4 _ rfl
 have q0:=rB 0 _ rfl
 have q4:=rB 4 _ rfl
 have q5:=rB 5 _ rfl
 have l0:=Ab hb25 _ _ HLV.o.1
 have l1:=Ab hb25 _ _ HLV.o.2.1
 have lb1:=AA HLV.o.2.2 hb25
 have hbb:Ov (w4.alloc (ze #[O h 0 d,O (some ⟨d1,0,none⟩) 1 1,O (some ⟨d2,0,none⟩) 1 1,U zd 2,U zd 3,U zd 1] 55)) ((w4.alloc (ze #[O h 0 d,O (some ⟨d1,0,none⟩) 1 1,O (some ⟨d2,0,none⟩) 1 1,U zd 2,U zd 3,U zd 1] 55)).alloc (ze #[zg true] 4)):=bA _ _
 have hbt:AH ((w4.alloc (ze #[O h 0 d,O (some ⟨d1,0,none⟩) 1 1,O (some ⟨d2,0,none⟩) 1 1,U zd 2,U zd 3,U zd 1] 55)).alloc (ze #[zg true] 4)) (O (some ⟨(w4.alloc (ze #[O h 0 d,O (some ⟨d1,0,none⟩) 1 1,O (some ⟨d2,0,none⟩) 1 1,U zd 2,U zd 3,U zd 1] 55)).heap.size,0,none⟩) 1 1) [true]:=by
  refine ⟨some ⟨(w4.alloc (ze #[O h 0 d,O (some ⟨d1,0,none⟩) 1 1,O (some ⟨d2,0,none⟩) 1 1,U zd 2,U zd 3,U zd 1] 55)).heap.size,0,none⟩,1,rfl,fun _=>⟨_,0,rfl,fun i hi=>?_⟩⟩
  have:i=0:=by simp at hi;omega
  subst this
  exact (Ad.newA #[zg true] 4 (w4.alloc (ze #[O h 0 d,O (some ⟨d1,0,none⟩) 1 1,O (some ⟨d2,0,none⟩) 1 1,U zd 2,U zd 3,U zd 1] 55))) 0 _ rfl
 have K5:=Aa (GJ _ _ [true] [true] _ (AA lb1 hbb) hbt (by simp))
 have HB5:Hx (Ov w ((w4.alloc (ze #[O h 0 d,O (some ⟨d1,0,none⟩) 1 1,O (some ⟨d2,0,none⟩) 1 1,U zd 2,U zd 3,U zd 1] 55)).alloc (ze #[zg true] 4))):=HB4.o.alloc HB4.o.size _
 have hsz:(w4.alloc (ze #[O h 0 d,O (some ⟨d1,0,none⟩) 1 1,O (some ⟨d2,0,none⟩) 1 1,U zd 2,U zd 3,U zd 1] 55)).heap.size=w4.heap.size+1:=by simp
 rw [hsz] at K5
 clear K4 hb4 hb24 hba hb25 rA rB lb1 hbb hbt hsz
 go_wp2_with fail
 refine (K5.o).mono ?_
 rintro e w5 ⟨rfl,n,rfl⟩
 have hB5:=below_drewN HB5.o n
 go_wp2_with fail
 go_ret
 exact ⟨rfl,hB5⟩
theorem FG:∀ (l:List Ev4) (i:Nat) (h:i < l.length),(Bn l)[i*4]? = some (U zd l[i].1)/\(Bn l)[i*4+1]? = some (U zd l[i].2.1)/\(Bn l)[i*4+2]? = some (U zd l[i].2.2.1)/\(Bn l)[i*4+3]? = some (U zd l[i].2.2.2)
 | [],i,h=>by simp at h
 | e::r,0,h=>⟨rfl,rfl,rfl,rfl⟩
 | e::r,i+1,h=>by
  have:=FG r i (by simpa using h)
  rw [Nat.succ_mul]
  simpa [Bn] using this
def EM (w:World) (v:Value) (l:List Ev4):Prop:=∃ ao cap,v=O ao l.length cap/\l.length<=cap/\cap<=maxLen/\(l≠[]->∃ b,ao=some ⟨b,0,none⟩/\Ad (Bn l) w b)
theorem EM.over {w w':World} {v:Value} {l:List Ev4} (h:EM w v l) (hb:Below w.heap.size w w'):EM w' v l:=by
 obtain ⟨ao,cap,hv,hc,hm,hr⟩:=h
 exact ⟨ao,cap,hv,hc,hm,fun hne=>by obtain ⟨b,h1,h2⟩:=hr hne;exact ⟨b,h1,h2.over hb⟩⟩
theorem EM.of_own {w:World} {B:Nat} {v:Value} {l:List Ev4} (h:w.ownsRow B 136 4 v l.length (Bn l)):EM w v l:=by
 rcases h.2 with ⟨h1,h2⟩ | ⟨g,cap,cur,hv,hb,hg,h1,h2,h3,h4⟩
 ·exact ⟨none,0,by rw [h1,h2],by omega,by unfold maxLen;omega,fun hne=>absurd (List.length_eq_zero_iff.1 h2) hne⟩
 ·refine ⟨_,cap,hv,h1,h2,fun _=>⟨g,rfl,fun j u hu=>?_⟩⟩
  have:=h.cells (g:=g) (by rw [hv];rfl) j u hu
  rwa [Addr.add_lit,Nat.zero_add] at this
theorem Gv {l m:List Ev4} (h:l <+: m) {w:World} {b:Nat} (hr:Ad (Bn m) w b):Ad (Bn l) w b:=by
 obtain ⟨t,rfl⟩:=h
 rw [C1] at hr
 exact hr.more
theorem Fy (l:List Int) (va vb:Value) (w:World) (ha:AQ w va l) (hb:AQ w vb l) (hl:l.length<=9223372036854775807) :
  Calls Tryz.prog 32 #[va,vb] w fun e w'=>e=zj (zg true)/\∃ n,w'=w.drewN n:=by
 obtain ⟨ao,ac,rfl,hac⟩:=ha
 obtain ⟨bo,bc,rfl,hbc⟩:=hb
 have HA:=Aa hac
 have HB:=Aa hbc
 clear hac hbc
 go_enter Tryz.func32,Tryz.ntmps32
 go_wp2_with fail
 go_loopw [5] (fun i wr=>∃ j:Nat,j<=l.length/\i=U zd j/\∃ n,wr=w.drewN n) (fun i _=>l.length - (intOf i).toNat)
 case atStart=>exact ⟨0,Nat.zero_le _,rfl,0,rfl⟩
 case round=>
  obtain ⟨j,hj,rfl,n,rfl⟩:=hrel
  by_cases hjl:j < l.length
  ·obtain ⟨b,off,rfl,hel⟩:=HA.o (by intro hz;rw [hz] at hjl;simp at hjl)
   obtain ⟨b',off',rfl,hel'⟩:=HB.o (by intro hz;rw [hz] at hjl;simp at hjl)
   have q0:=hel j hjl
   have q1:=hel' j hjl
   have hji:(j:Int) < (l.length:Int):=by omega
   obtain ⟨x,hx⟩:∃ x,x=l[j]:=⟨_,rfl⟩
   rw [<-hx] at q0 q1
   obtain ⟨n0,hn0⟩:∃ q,q=l.length:=⟨_,rfl⟩
   rw [<-hn0] at hji ⊢
   have HN0:=Aa hn0
   clear hel hel' hx hn0
   go_wp2_with fail
   go_quiet ((fail))
   go_wp2_with fail
   have hn0:=HN0.o
   subst hn0
   exact ⟨⟨j+1,by omega,by go_num,_,by first | rfl | exact World.drewN_drewN _ _ _⟩,by simp [intOf];omega⟩
  ·go_wp2_with fail
   go_ret
   exact ⟨rfl,n,by first | rfl | trivial⟩
theorem Er (l:List Ev4) (va vb:Value) (w:World) (ha:EM w va l) (hb:EM w vb l) (hl:l.length<=9223372036854775807) :
  Calls Tryz.prog 68 #[va,vb] w fun e w'=>e=zj (zg true)/\Below w.heap.size w w':=by
 obtain ⟨ao,ac,rfl,-,-,hac⟩:=ha
 obtain ⟨bo,bc,rfl,-,-,hbc⟩:=hb
 have HA:=Aa hac
 have HB:=Aa hbc
 clear hac hbc
 go_enter Tryz.func68,Tryz.ntmps68
 go_wp2_with fail
 go_loopw [5] (fun i wr=>∃ j:Nat,j<=l.length/\i=U zd j/\Below w.heap.size w wr) (fun i _=>l.length - (intOf i).toNat)
 case atStart=>exact ⟨0,Nat.zero_le _,rfl,Below.refl _ _⟩
 case round=>
  obtain ⟨j,hj,rfl,hBr⟩:=hrel
  by_cases hjl:j < l.length
  ·obtain ⟨b,rfl,hel⟩:=HA.o (by intro hz;rw [hz] at hjl;simp at hjl)
   obtain ⟨b',rfl,hel'⟩:=HB.o (by intro hz;rw [hz] at hjl;simp at hjl)
   obtain ⟨g0,g1,g2,g3⟩:=FG l j hjl
   have q0:=Ab hBr _ _ (hel _ _ g0)
   have q1:=Ab hBr _ _ (hel _ _ g1)
   have q2:=Ab hBr _ _ (hel _ _ g2)
   have q3:=Ab hBr _ _ (hel _ _ g3)
   have r0:=Ab hBr _ _ (hel' _ _ g0)
   have r1:=Ab hBr _ _ (hel' _ _ g1)
   have r2:=Ab hBr _ _ (hel' _ _ g2)
   have r3:=Ab hBr _ _ (hel' _ _ g3)
   have hji:(j:Int) < (l.length:Int):=by omega
   obtain ⟨x0,hx0⟩:∃ x,x=l[j].1:=⟨_,rfl⟩
   obtain ⟨x1,hx1⟩:∃ x,x=l[j].2.1:=⟨_,rfl⟩
   obtain ⟨x2,hx2⟩:∃ x,x=l[j].2.2.1:=⟨_,rfl⟩
   obtain ⟨x3,hx3⟩:∃ x,x=l[j].2.2.2:=⟨_,rfl⟩
   rw [<-hx0] at q0 r0
   rw [<-hx1] at q1 r1
   rw [<-hx2] at q2 r2
   rw [<-hx3] at q3 r3
   obtain ⟨n0,hn0⟩:∃ q,q=l.length:=⟨_,rfl⟩
   rw [<-hn0] at hji ⊢
   have HN0:=Aa hn0
   clear hel hel' hx0 hx1 hx2 hx3 hn0 g0 g1 g2 g3
   go_wp2_with fail
   go_quiet ((fail))
   go_wp2_with fail
   have hn0:=HN0.o
   subst hn0
   exact ⟨⟨j+1,by omega,by go_num,below_drewN hBr _⟩,by simp [intOf];omega⟩
  ·go_wp2_with fail
   go_ret
   exact ⟨rfl,hBr⟩
theorem Ql {w w0 w1:World} {a0 a1 a2 a3 a4 a5 a6 a7 a8 a9 a10 a11:Addr} {v0 v1 v2 v3 v4 v5 v6 v7 v8 v9 v10 v11:Value} (h:w0.cell? a0=some v0/\w0.cell? a1=some v1/\w0.cell? a2=some v2/\w0.cell? a3=some v3/\w0.cell? a4=some v4/\w0.cell? a5=some v5/\w0.cell? a6=some v6/\w0.cell? a7=some v7/\w0.cell? a8=some v8/\w0.cell? a9=some v9/\w0.cell? a10=some v10/\w0.cell? a11=some v11/\Below w.heap.size w w0) (hb:Below w0.heap.size w0 w1) :
  w1.cell? a0=some v0/\w1.cell? a1=some v1/\w1.cell? a2=some v2/\w1.cell? a3=some v3/\w1.cell? a4=some v4/\w1.cell? a5=some v5/\w1.cell? a6=some v6/\w1.cell? a7=some v7/\w1.cell? a8=some v8/\w1.cell? a9=some v9/\w1.cell? a10=some v10/\w1.cell? a11=some v11/\Below w.heap.size w w1:=by
 obtain ⟨h0,h1,h2,h3,h4,h5,h6,h7,h8,h9,h10,h11,hB⟩:=h
 exact ⟨Ab hb _ _ h0,Ab hb _ _ h1,Ab hb _ _ h2,Ab hb _ _ h3,Ab hb _ _ h4,Ab hb _ _ h5,Ab hb _ _ h6,Ab hb _ _ h7,Ab hb _ _ h8,Ab hb _ _ h9,Ab hb _ _ h10,Ab hb _ _ h11,Ac hB hb⟩
theorem Hv (ea:Option Addr) (el ec:Nat) (fa:Option Addr) (fc:Nat) (b1 b2 c1 c2 vn yn:Nat) (s en tp:Int) (w:World)
  (KE:Hx (∀ W,Below w.heap.size w W->Calls Tryz.prog 68 #[O ea el ec,O fa el fc] W fun e w'=>e=zj (zg true)/\Below W.heap.size W w'))
  (KV:Hx (∀ W,Below w.heap.size w W->Calls Tryz.prog 32 #[O (some ⟨b1,0,none⟩) vn vn,O (some ⟨c1,0,none⟩) vn vn] W fun e w'=>e=zj (zg true)/\∃ n,w'=W.drewN n))
  (KT:Hx (∀ W,Below w.heap.size w W->Calls Tryz.prog 32 #[O (some ⟨b2,0,none⟩) yn yn,O (some ⟨c2,0,none⟩) yn yn] W fun e w'=>e=zj (zg true)/\∃ n,w'=W.drewN n)) :
  Calls Tryz.prog 21 #[zh #[O ea el ec,O (some ⟨b1,0,none⟩) vn vn,O (some ⟨b2,0,none⟩) yn yn,U zd s,U zd en,U zd tp],zh #[O fa el fc,O (some ⟨c1,0,none⟩) vn vn,O (some ⟨c2,0,none⟩) yn yn,U zd s,U zd en,U zd tp]] w fun e w'=>e=zj (zg true)/\Below w.heap.size w w':=by
 have hbel:Below w.heap.size w ((w.alloc (ze #[O ea el ec,O (some ⟨b1,0,none⟩) vn vn,O (some ⟨b2,0,none⟩) yn yn,U zd s,U zd en,U zd tp] 55)).alloc (ze #[O fa el fc,O (some ⟨c1,0,none⟩) vn vn,O (some ⟨c2,0,none⟩) yn yn,U zd s,U zd en,U zd tp] 55)):=((Below.refl _ w).alloc (Nat.le_refl _) _).alloc (by simp) _
 obtain ⟨p0,p1,p2,p3,p4,p5⟩:=rc6 (E6 w [O ea el ec,O (some ⟨b1,0,none⟩) vn vn,O (some ⟨b2,0,none⟩) yn yn,U zd s,U zd en,U zd tp] 55 (ze #[O fa el fc,O (some ⟨c1,0,none⟩) vn vn,O (some ⟨c2,0,none⟩) yn yn,U zd s,U zd en,U zd tp] 55))
 obtain ⟨q0,q1,q2,q3,q4,q5⟩:=rc6 (FM w (ze #[O ea el ec,O (some ⟨b1,0,none⟩) vn vn,O (some ⟨b2,0,none⟩) yn yn,U zd s,U zd en,U zd tp] 55) [O fa el fc,O (some ⟨c1,0,none⟩) vn vn,O (some ⟨c2,0,none⟩) yn yn,U zd s,U zd en,U zd tp] 55)
 go_enter Tryz.func21,Tryz.ntmps21
 go_wp2_with fail
 refine (KE.o _ hbel).mono ?_
 rintro e w1 ⟨rfl,hb1⟩
 obtain ⟨p0,p1,p2,p3,p4,p5,q0,q1,q2,q3,q4,q5,hB1⟩:=Ql (w:=w) ⟨p0,p1,p2,p3,p4,p5,q0,q1,q2,q3,q4,q5,hbel⟩ hb1
 clear hb1 hbel KE
 go_wp2_with fail
 refine (KV.o _ hB1).mono ?_
 rintro e w2 ⟨rfl,n2,rfl⟩
 have hB2:=below_drewN hB1 n2
 go_wp2_with fail
 refine (KT.o _ hB2).mono ?_
 rintro e w3 ⟨rfl,n3,rfl⟩
 have hB3:=below_drewN hB2 n3
 go_wp2_with fail
 go_ret
 exact ⟨by first | rfl | simp,by first | exact hB3 | exact below_drewN hB1 _⟩
theorem FP {l:List Int} {w:World} {b:Nat} (h:Ad (BW l) w b):AQ w (O (some ⟨b,0,none⟩) l.length l.length) l:=by
 refine ⟨_,_,rfl,fun _=>⟨b,0,rfl,fun i hi=>?_⟩⟩
 rw [Nat.zero_add]
 exact h i _ (by simp [hi])
theorem Jo (B B' F F' vn yn:Nat) (r:RSt) (ev ev':Value) (b1 b2 c1 c2:Nat) (w:World) (h:Cd B vn yn F r ev b1 b2 w) (h':Cd B' vn yn F' r ev' c1 c2 w) (hv:vn<=100) (hy:yn<=100) (hl:r.ev.length<=2000) :
  Calls Tryz.prog 21 #[MK ev b1 b2 vn yn r,MK ev' c1 c2 vn yn r] w fun e w'=>e=zj (zg true)/\Below w.heap.size w w':=by
 have e1:=EM.of_own h.own
 have e2:=EM.of_own h'.own
 have v1:=FP h.vars
 have v2:=FP h'.vars
 have t1:=FP h.taken
 have t2:=FP h'.taken
 rw [h.num.vl] at v1 v2
 rw [h.num.tl] at t1 t2
 obtain ⟨ea,ec,he,-⟩:=id e1
 obtain ⟨fa,fc,he',-⟩:=id e2
 subst he
 subst he'
 exact Hv ea _ ec fa fc b1 b2 c1 c2 vn yn _ _ _ w (Aa fun W hW=>Er r.ev _ _ W (e1.over hW) (e2.over hW) (by omega))
  (Aa fun W hW=>Fy r.vars _ _ W (v1.over hW) (v2.over hW) (by rw [h.num.vl];omega)) (Aa fun W hW=>Fy r.taken _ _ W (t1.over hW) (t2.over hW) (by rw [h.num.tl];omega))
theorem LT (l m:List Ev4) (va vb:Value) (w:World) (ha:EM w va l) (hb:EM w vb m) (hp:l <+: m) (hl:m.length<=2000) :
  Calls Tryz.prog 22 #[va,vb] w fun e w'=>e=zj (zg true)/\Below w.heap.size w w':=by
 have hlm:l.length<=m.length:=hp.length_le
 obtain ⟨ao,ac,rfl,ha1,ha2,hac⟩:=id ha
 obtain ⟨bo,bc,rfl,hb1,hb2,hbc⟩:=hb
 have hb2':bc<=9223372036854775807:=hb2
 have K:=Aa (Er l (O ao l.length ac) (O bo l.length bc) w ha ⟨bo,bc,rfl,by omega,hb2,fun hne=>by
  obtain ⟨b,h1,h2⟩:=hbc (by intro hz;rw [hz] at hp;exact hne (List.prefix_nil.1 hp))
  exact ⟨b,h1,Gv hp h2⟩⟩ (by omega))
 obtain ⟨n1,hn1⟩:∃ q,q=l.length:=⟨_,rfl⟩
 obtain ⟨n2,hn2⟩:∃ q,q=m.length:=⟨_,rfl⟩
 rw [<-hn1,<-hn2] at hlm
 rw [<-hn1] at K
 have hle:(n1:Int)<=(n2:Int):=by omega
 have hlb:(n1:Int)<=(bc:Int):=by omega
 rw [<-hn1,<-hn2]
 clear ha hac hbc hp hn1 hn2 ha1 ha2
 go_enter Tryz.func22,Tryz.ntmps22
 go_wp2_with fail
 refine (K.o).mono ?_
 rintro e w1 ⟨rfl,hb⟩
 go_wp2_with fail
 go_ret
 exact ⟨by first | rfl | simp,hb⟩
theorem Cd.obs {B vn yn F:Nat} {r:RSt} {ev:Value} {b1 b2:Nat} {w:World} (h:Cd B vn yn F r ev b1 b2 w) (u:WSt):Cd B vn yn F { r with o:=u } ev b1 b2 w:=
 ⟨h.own,h.vars,h.taken,⟨h.num.vl,h.num.tl,h.num.i32,h.num.tk,h.num.el,h.num.sb⟩⟩
def RC (r s:RSt):Prop:=(r.en≠3->∃ u,s={ r with o:=u })/\r.ev <+: s.ev/\r.steps<=s.steps
open Classical in
theorem Rq {K kf:Nat} {m:Int} {vn yn on sn:Nat} {gs:List (Int × Int)} {sp:List Int} {ls ms:List Lab} {vs:List (Bool × Lab)} {fs:List FnD} {l:List D} {ins:List (List Int)} {fuel:Int} {w:World} {e:Ending} {w':World} (h:Ky K kf m vn yn on sn gs sp ls ms vs fs l ins fuel w e w') :
  ∃ (qa:Option Addr) (ql qc:Nat) (qva:Option Addr) (qvl qvc:Nat) (qta:Option Addr) (qtl qtc:Nat) (qs qen qtp:Int),e=zj (zk #[zh #[O qa ql qc,O qva qvl qvc,O qta qtl qtc,U zd qs,U zd qen,U zd qtp],U zd (eR K kf m vn yn on sn gs sp ls ms vs fs l ins fuel)])/\Ov w w'/\(eR K kf m vn yn on sn gs sp ls ms vs fs l ins fuel=0->okR K kf m vn yn on sn gs sp ls ms vs fs l ins fuel/\∃ b1 b2,Cd w.heap.size vn yn fuel.toNat (CP K kf fs fuel.toNat ins BJ l vn yn o0) (O qa ql qc) b1 b2 w'/\(CP K kf fs fuel.toNat ins BJ l vn yn o0).ev.length=ql/\(some ⟨b1,0,none⟩=qva/\vn=qvl/\vn=qvc)/\(some ⟨b2,0,none⟩=qta/\yn=qtl/\yn=qtc)/\((CP K kf fs fuel.toNat ins BJ l vn yn o0).steps:Int)=qs/\(CP K kf fs fuel.toNat ins BJ l vn yn o0).en=qen/\(CP K kf fs fuel.toNat ins BJ l vn yn o0).sp=qtp):=by
 obtain ⟨why,hw,hb,⟨hne,rfl⟩ | ⟨h0,ev,b1,b2,rfl,hr⟩⟩:=h
 ·rw [hw.eq]
  exact ⟨none,0,0,none,0,0,none,0,0,0,0,0,rfl,hb,fun h=>absurd (hw.eq.trans h) hne⟩
 ·subst h0
  obtain ⟨ea,ec,he,-⟩:=EM.of_own hr.own
  subst he
  rw [<-hw.eq]
  exact ⟨ea,_,ec,_,_,_,_,_,_,_,_,_,rfl,hb,fun _=>⟨hw.1 rfl,b1,b2,hr,rfl,⟨rfl,rfl,rfl⟩,⟨rfl,rfl,rfl⟩,rfl,rfl,rfl⟩⟩
open Classical in
theorem Pv {K kf:Nat} {m:Int} {vn yn on sn:Nat} {gs:List (Int × Int)} {sp:List Int} {ls ms:List Lab} {vs:List (Bool × Lab)} {fs:List FnD} {l:List D} {ins:List (List Int)} {fuel:Int} {w:World} {e:Ending} {w':World} (h:Hm K kf m vn yn on sn gs sp ls ms vs fs l ins fuel w e w') :
  ∃ (qa:Option Addr) (ql qc:Nat) (qva:Option Addr) (qvl qvc:Nat) (qta:Option Addr) (qtl qtc:Nat) (qs qen qtp:Int) (la:Option Addr) (ln lc:Nat),e=zj (zk #[zh #[O qa ql qc,O qva qvl qvc,O qta qtl qtc,U zd qs,U zd qen,U zd qtp],O la ln lc,U zd (eR K kf m vn yn on sn gs sp ls ms vs fs l ins fuel)])/\Ov w w'/\(eR K kf m vn yn on sn gs sp ls ms vs fs l ins fuel=0->okR K kf m vn yn on sn gs sp ls ms vs fs l ins fuel/\∃ r b1 b2,RC r (CP K kf fs fuel.toNat ins BJ l vn yn o0)/\Cd w.heap.size vn yn fuel.toNat r (O qa ql qc) b1 b2 w'/\r.ev.length=ql/\(some ⟨b1,0,none⟩=qva/\vn=qvl/\vn=qvc)/\(some ⟨b2,0,none⟩=qta/\yn=qtl/\yn=qtc)/\(r.steps:Int)=qs/\r.en=qen/\r.sp=qtp)/\(eR K kf m vn yn on sn gs sp ls ms vs fs l ins fuel≠0->ql=0):=by
 obtain ⟨why,hw,hb,⟨hne,rfl⟩ | ⟨h0,n,st,ev,b1,b2,va4,vk4,vc4,-,-,rfl,hr,-,-⟩⟩:=h
 ·rw [hw.eq]
  exact ⟨none,0,0,none,0,0,none,0,0,0,0,0,none,0,0,rfl,hb,fun h=>absurd (hw.eq.trans h) hne,fun _=>rfl⟩
 ·subst h0
  obtain ⟨ea,ec,he,-⟩:=EM.of_own hr.own
  subst he
  rw [<-hw.eq]
  have hF:fuel.toNat<=2000:=by have:=(hw.1 rfl).f1;omega
  exact ⟨ea,_,ec,_,_,_,_,_,_,_,_,_,_,_,_,rfl,hb,fun _=>⟨hw.1 rfl,_,b1,b2,IG K kf fs fuel.toNat ins _ l vn yn _ o0 hF,hr,rfl,⟨rfl,rfl,rfl⟩,⟨rfl,rfl,rfl⟩,rfl,rfl,rfl⟩,fun h=>absurd rfl h⟩
open Classical in
theorem beginsLaw (K kf:Nat) (m:Int) (ga gn gc sa sn sc ya yn yc oa on oc va vn vc fa fn fc ba bn bc) (xa xn xc) (ins) (fuel:Int) (gs sp ls ms vs fs l) (w:World) (h:Br K kf m ga gn gc sa sn sc ya yn yc oa on oc va vn vc fa fn fc ba bn bc gs sp ls ms vs fs l w) (hx:Bi w (O xa xn xc) ins) :
  Calls Tryz.prog 4 #[zh #[U zd m,O ga gn gc,O sa sn sc,O ya yn yc,O oa on oc,O va vn vc,O fa fn fc,O ba bn bc],O xa xn xc,U zd fuel] w fun e w'=>e=zj (zg true)/\Ov w w':=by
 have KB:=Aa FU
 have KC:=Aa LS
 have KW:=Aa fun W (hP:Br K kf m ga gn gc sa sn sc ya yn yc oa on oc va vn vc fa fn fc ba bn bc gs sp ls ms vs fs l W) (hX:Bi W (O xa xn xc) ins)=>Ft K kf m ga gn gc sa sn sc ya yn yc oa on oc va vn vc fa fn fc ba bn bc xa xn xc ins fuel gs sp ls ms vs fs l W hP hX
 have KR:=Aa fun W (hP:Br K kf m ga gn gc sa sn sc ya yn yc oa on oc va vn vc fa fn fc ba bn bc gs sp ls ms vs fs l W) (hX:Bi W (O xa xn xc) ins)=>Kx K kf m ga gn gc sa sn sc ya yn yc oa on oc va vn vc fa fn fc ba bn bc xa xn xc ins fuel gs sp ls ms vs fs l W hP hX
 have H0:=Aa h
 have HX0:=Aa hx
 have hbel:Ov w (w.alloc (ze #[U zd m,O ga gn gc,O sa sn sc,O ya yn yc,O oa on oc,O va vn vc,O fa fn fc,O ba bn bc] 31)):=bA w _
 obtain ⟨c0,c1,c2,c3,c4,c5,c6,c7⟩:=rc8 (BC w [U zd m,O ga gn gc,O sa sn sc,O ya yn yc,O oa on oc,O va vn vc,O fa fn fc,O ba bn bc] 31)
 clear h hx
 go_enter Tryz.func4,Tryz.ntmps4
 go_wp2_with fail
 refine (KW.o _ (H0.o.over hbel) (HX0.o.over hbel)).mono ?_
 rintro e w1 h1
 obtain ⟨qa,ql,qc,qva,qvl,qvc,qta,qtl,qtc,qs,qen,qtp,la,ln,lc,rfl,hb1,hq1,hz1⟩:=Pv h1
 have HQ1:=Aa hq1
 have HZ1:=Aa hz1
 obtain ⟨E,hE⟩:=nm (eR K kf m vn yn on sn gs sp ls ms vs fs l ins fuel)
 rw [<-hE] at HQ1 HZ1 ⊢
 have HE:=Aa hE
 obtain ⟨d0,d1,d2,d3,d4,d5,d6,d7⟩:=co8 hb1 c0 c1 c2 c3 c4 c5 c6 c7
 have hB1:=hbel.trans (hb1.mono hbel.size)
 have hba:=bA w1 (ze #[O qa ql qc,O qva qvl qvc,O qta qtl qtc,U zd qs,U zd qen,U zd qtp] 55)
 have hB1a:=hB1.trans (hba.mono hB1.size)
 obtain ⟨f0,f1,f2,f3,f4,f5,f6,f7⟩:=co8 hba d0 d1 d2 d3 d4 d5 d6 d7
 obtain ⟨g0,g1,g2,g3,g4,g5⟩:=rc6 (BC w1 [O qa ql qc,O qva qvl qvc,O qta qtl qtc,U zd qs,U zd qen,U zd qtp] 55)
 clear h1 hq1 hz1 c0 c1 c2 c3 c4 c5 c6 c7 d0 d1 d2 d3 d4 d5 d6 d7 hb1 hE
 go_wp2_with fail
 refine (KR.o _ (H0.o.over hB1a) (HX0.o.over hB1a)).mono ?_
 rintro e w2 h2
 obtain ⟨pa,pl,pc,pva,pvl,pvc,pta,ptl,ptc,ps,pen,ptp,rfl,hb2,hq2⟩:=Rq h2
 have HQ2:=Aa hq2
 rw [<-HE.o] at HQ2 ⊢
 have hB2:=hB1a.trans (hb2.mono hB1a.size)
 have hbb:=bA w2 (ze #[O pa pl pc,O pva pvl pvc,O pta ptl ptc,U zd ps,U zd pen,U zd ptp] 55)
 have hB2b:=hB2.trans (hbb.mono hB2.size)
 have HB12:=Aa (Ac (Ac hba hb2) hbb)
 have HB2X:=Aa hbb
 obtain ⟨k0,k1,k2,k3,k4,k5⟩:=co6 (Ac hb2 hbb) g0 g1 g2 g3 g4 g5
 obtain ⟨n0,n1,n2,n3,n4,n5⟩:=rc6 (BC w2 [O pa pl pc,O pva pvl pvc,O pta ptl ptc,U zd ps,U zd pen,U zd ptp] 55)
 clear h2 hq2 g0 g1 g2 g3 g4 g5 f0 f1 f2 f3 f4 f5 f6 f7 hb2 KR KW
 go_wp2_with fail
 refine (KB.o _).mono ?_
 rintro e w3 ⟨rfl,hb3⟩
 go_wp2_with fail
 refine (KC.o _).mono ?_
 rintro e w4 ⟨rfl,hb4⟩
 have hb34:=Ac hb3 hb4
 have hB3:=hB2b.trans (hb34.mono hB2b.size)
 have HB3:=Aa hb34
 obtain ⟨x0,x1,x2,x3,x4,x5⟩:=co6 hb34 k0 k1 k2 k3 k4 k5
 obtain ⟨y0,y1,y2,y3,y4,y5⟩:=co6 hb34 n0 n1 n2 n3 n4 n5
 have hl12:w1.heap.size < w4.heap.size:=World.block_lt_of_cell? w4 _ x0
 clear k0 n0 k1 n1 k2 n2 k3 n3 k4 n4 k5 n5 hb3 hb4 hb34 KB KC hB2b hB2 hB1a hB1 hba hbb hbel
 by_cases z1:E=0
 rotate_left
 ·have zb:(E == 0)=false:=by simpa using z1
  have hl0:=HZ1.o z1
  subst hl0
  go_wp2_with fail
  go_ret
  exact ⟨rfl,hB3⟩
 subst z1
 obtain ⟨hok,r,b1,b2,hM,hr1,he1,⟨hv1,hv1b,hv1c⟩,⟨ht1,ht1b,ht1c⟩,hs1,hen1,htp1⟩:=HQ1.o rfl
 obtain ⟨-,c1,c2,hr2,he2,⟨hv2,hv2b,hv2c⟩,⟨ht2,ht2b,ht2c⟩,hs2,hen2,htp2⟩:=HQ2.o rfl
 have hvn:=hok.prog.ok.vars
 have hyn:=hok.prog.ok.ins
 have hF:fuel.toNat<=2000:=by have:=hok.f1;omega
 have hr1':=(hr1.over HB12.o).over HB3.o
 have hr2':=(hr2.over HB2X.o).over HB3.o
 subst hv1 hv1b hv1c ht1 ht1b ht1c hv2 hv2b hv2c ht2 ht2b ht2c
 obtain ⟨r2,hr2e⟩:=nm (CP K kf fs fuel.toNat ins BJ l vn yn o0)
 rw [<-hr2e] at hM hr2' he2 hs2 hen2 htp2
 clear hr2e hr1 hr2 hok HQ1 HQ2 HB12 HB2X HB3 H0 HX0 HZ1 HE
 have hse:r.ev.length<=2000:=by have:=hr1'.num.el;have:=hr1'.num.sb;omega
 have hse2:r2.ev.length<=2000:=by have:=hr2'.num.el;have:=hr2'.num.sb;omega
 obtain ⟨hM1,hM2,hM3⟩:=hM
 by_cases z3:qen=3
 ·have KS:=Aa (LT r.ev r2.ev _ _ w4 (EM.of_own hr1'.own) (EM.of_own hr2'.own) hM2 hse2)
  have hle:qs<=ps:=by omega
  subst z3
  clear hM1 hM2 hM3 hse hse2 hr1' hr2' he1 he2 hs1 hs2 hen1 hen2 htp1 htp2
  go_wp2_with fail
  refine (KS.o).mono ?_
  rintro e w5 ⟨rfl,hb5⟩
  have hB5:=hB3.trans (hb5.mono hB3.size)
  obtain ⟨u3⟩:CE w5 w1.heap.size 3 (U zd qs)/\True:=⟨Ab hb5 _ _ x3,trivial⟩
  obtain ⟨v3⟩:CE w5 w2.heap.size 3 (U zd ps)/\True:=⟨Ab hb5 _ _ y3,trivial⟩
  clear x0 x1 x2 x3 x4 x5 y0 y1 y2 y3 y4 y5 hb5
  go_wp2_with fail
  go_ret
  exact ⟨by first | rfl | simp [hle],hB5⟩
 obtain ⟨u,hu⟩:=hM1 (fun h=>z3 (hen1.symm.trans h))
 have z3b:(qen == 3)=false:=by simpa using z3
 subst hu
 have KS:=Aa (Jo _ _ fuel.toNat fuel.toNat vn yn _ _ _ b1 b2 c1 c2 w4 (hr1'.obs u) hr2' (by omega) (by omega) hse)
 have e1:=he1.symm.trans he2
 have e2:=hs1.symm.trans hs2
 have e3:=hen1.symm.trans hen2
 have e4:=htp1.symm.trans htp2
 subst e1 e2 e3 e4
 have KS':Hx (Calls Tryz.prog 21 #[zh #[O qa ql qc,O (some ⟨b1,0,none⟩) vn vn,O (some ⟨b2,0,none⟩) yn yn,U zd qs,U zd qen,U zd qtp],zh #[O pa ql pc,O (some ⟨c1,0,none⟩) vn vn,O (some ⟨c2,0,none⟩) yn yn,U zd qs,U zd qen,U zd qtp]] w4 fun e w'=>e=zj (zg true)/\Ov w4 w'):=by
  have:=KS.o
  unfold MK at this
  simp only [hs1,hen1,htp1] at this
  exact this
 clear KS hM1 hM2 hM3 hse hse2 hr1' hr2' he1 he2 hs1 hs2 hen1 hen2 htp1 htp2
 go_wp2_with fail
 refine (KS'.o).mono ?_
 rintro e w5 ⟨rfl,hb5⟩
 have hB5:=hB3.trans (hb5.mono hB3.size)
 go_wp2_with fail
 go_ret
 exact ⟨rfl,hB5⟩
end Go.Proofs.YtfffpjkcfnekaaaGreat.Ex
