/- What a channel needs. -/
import Derived.Test.YtfffpjkcfnekaaaGreatH34
import Derived.ArgAppend
set_option linter.unusedVariables false
set_option maxHeartbeats 8000000
set_option maxRecDepth 100000
namespace Go.Proofs.YtfffpjkcfnekaaaGreat.Ex
open Go.RowKit
open Go.Value renaming slice -> O, int -> zd, bool -> ze, agg -> zg, pointer -> zi, tuple -> zj
open Go.IntKind renaming i64 -> U
open Go.Obj renaming cells -> zf
open Go.Ending renaming returned -> zh
theorem H7 (K kf:Nat) (m:Int) (ga gn gc sa sn sc ya yn yc oa on oc va vn vc fa fn fc ba bn bd gs sp ls ms vs fs l) (ch:Int) (w:World) (h:Bf K kf m ga gn gc sa sn sc ya yn yc oa on oc va vn vc fa fn fc ba bn bd gs sp ls ms vs fs l w) :
  Calls Tryz.prog 33 #[zg #[zd U m,O ga gn gc,O sa sn sc,O ya yn yc,O oa on oc,O va vn vc,O fa fn fc,O ba bn bd],zd U ch] w fun e w'=>Ov w w'/\∃ why:Int,(why=0 ↔ Ey.xP K kf m vn yn on sn gs sp ls ms vs fs l/\0<=ch/\ch < on)/\((why≠0/\e=zh (zj #[O none 0 0,O none 0 0,O none 0 0,zd U why]))\/(why=0/\∃ bv bi bs,e=zh (zj #[O (some ⟨bv,0,none⟩) (AZ ch K kf fs l vn yn).vs.length (AZ ch K kf fs l vn yn).vs.length,O (some ⟨bi,0,none⟩) (AZ ch K kf fs l vn yn).cs.length (AZ ch K kf fs l vn yn).cs.length,O (some ⟨bs,0,none⟩) (AZ ch K kf fs l vn yn).nd.length (AZ ch K kf fs l vn yn).nd.length,zd U 0])/\Ad ((AZ ch K kf fs l vn yn).vs.map Value.bool) w' bv/\Ad ((AZ ch K kf fs l vn yn).cs.map Value.bool) w' bi/\Ad ((AZ ch K kf fs l vn yn).nd.map Value.bool) w' bs)):=by
 have hb1:Ov w (w.alloc (zf #[zd U m,O ga gn gc,O sa sn sc,O ya yn yc,O oa on oc,O va vn vc,O fa fn fc,O ba bn bd] 31)):=bA w _
 obtain ⟨V,hV⟩:=nm (w.alloc (zf #[zd U m,O ga gn gc,O sa sn sc,O ya yn yc,O oa on oc,O va vn vc,O fa fn fc,O ba bn bd] 31))
 have hrV:Ad [zd U m,O ga gn gc,O sa sn sc,O ya yn yc,O oa on oc,O va vn vc,O fa fn fc,O ba bn bd] V w.heap.size:=by rw [hV];exact Ay w [zd U m,O ga gn gc,O sa sn sc,O ya yn yc,O oa on oc,O va vn vc,O fa fn fc,O ba bn bd] 31
 rw [<-hV] at hb1
 have K1:=Aa (Im K kf m ga gn gc sa sn sc ya yn yc oa on oc va vn vc fa fn fc ba bn bd gs sp ls ms vs fs l ch V (h.over hb1))
 obtain ⟨c0,c1,c2,c3,c4,c5,c6,c7⟩:=rc8 hrV
 have HP:=Aa h
 have HB1:=Aa hb1
 have HRV:=Aa hrV
 clear h hb1 hrV
 go_enter Tryz.func33,Tryz.ntmps33
 go_wp2_with fail
 rw [<-hV]
 clear hV
 refine K1.o.mono ?_
 rintro e W1 ⟨why,rfl,hwhy,hb2⟩
 have hB:Ov w W1:=HB1.o.trans (hb2.mono HB1.o.size)
 obtain ⟨d0,d1,d2,d3,d4,d5,d6,d7⟩:=rc8 (HRV.o.over hb2)
 have HB:=Aa hB
 have HWH:=Aa hwhy
 clear c0 c1 c2 c3 c4 c5 c6 c7 hb2 K1 hB hwhy
 by_cases z:why=0
 rotate_left
 ·have zb:(why == 0)=false:=by simpa using z
  have HZN:Hx (why≠0):=z
  clear z
  go_wp2_with fail
  refine bodyPost_ret (v:=zj #[O none 0 0,O none 0 0,O none 0 0,zd U why]) (by simp [results,Tryz.results33,go_sem]) rfl ?_
  exact ⟨HB.o,why,HWH.o,Or.inl ⟨HZN.o,rfl⟩⟩
 subst z
 have KN:=Aa (Fv K kf m ga gn gc sa sn sc ya yn yc oa on oc va vn vc fa fn fc ba bn bd gs sp ls ms vs fs l ch W1 (HP.o.over HB.o) (HWH.o.1 rfl).1)
 go_wp2_with fail
 refine KN.o.mono ?_
 rintro e W2 ⟨b,bv,bi,bs,cv,fv,wn,rfl,hNI,hsz,hb3⟩
 obtain ⟨n1,hn1⟩:=nm (AZ ch K kf fs l vn yn).vs.length
 obtain ⟨n2,hn2⟩:=nm (AZ ch K kf fs l vn yn).cs.length
 obtain ⟨n3,hn3⟩:=nm (AZ ch K kf fs l vn yn).nd.length
 have k1:W2.cell? ⟨b,11,none⟩=some (O (some ⟨bv,0,none⟩) n1 n1):=by rw [hn1];exact hNI.row 11 _ rfl
 have k2:W2.cell? ⟨b,12,none⟩=some (O (some ⟨bi,0,none⟩) n2 n2):=by rw [hn2];exact hNI.row 12 _ rfl
 have k3:W2.cell? ⟨b,13,none⟩=some (O (some ⟨bs,0,none⟩) n3 n3):=by rw [hn3];exact hNI.row 13 _ rfl
 have HNI:=Aa hNI
 have HB3:=Aa hb3
 have HNL:=Aa (And.intro hn1 (And.intro hn2 hn3))
 clear hNI hsz hb3 hn1 hn2 hn3 d0 d1 d2 d3 d4 d5 d6 d7 KN
 go_wp2_with fail
 refine gS (fun Wz=>Below W2.heap.size W2 Wz) (Below.refl _ _).drew fun hHeld=>?_
 generalize W2.drew=W at hHeld ⊢
 refine kO 0 ?_
 refine kO 1 ?_
 refine kO 2 ?_
 refine kO 3 ?_
 refine kO 4 ?_
 refine kO 5 ?_
 refine kO 6 ?_
 refine kO 7 ?_
 refine kO 8 ?_
 refine kO 9 ?_
 refine kO 10 ?_
 refine kO 11 ?_
 refine kO 12 ?_
 refine kO 13 ?_
 refine kO 14 ?_
 refine kO 15 ?_
 refine gE ?_
 go_wp2_with fail
 refine bodyPost_ret (v:=zj #[O (some ⟨bv,0,none⟩) n1 n1,O (some ⟨bi,0,none⟩) n2 n2,O (some ⟨bs,0,none⟩) n3 n3,zd U 0]) (by simp [results,Tryz.results33,go_sem]) rfl ?_
 exact ⟨HB.o.trans ((HB3.o.trans (hHeld.mono HB3.o.size)).mono HB.o.size),0,⟨fun _=>HWH.o.1 trivial,fun _=>rfl⟩,Or.inr ⟨rfl,bv,bi,bs,by rw [HNL.o.1,HNL.o.2.1,HNL.o.2.2],HNI.o.vs.over hHeld,HNI.o.cs.over hHeld,HNI.o.nd.over hHeld⟩⟩
def Gs:BE where
 fn:=66
 fre:=[]
 cap:=[]
 ent:=fun args w=>by simp [go_sem]
 ob:=AF
 In:=fun _ _ X _=>∀ k,¬ X k
 ok:=fun _ _=>True
 lt:=fun h k hk=>absurd hk (h k)
 kept:=fun h _ _ _ _ _ _ _=>h
 less:=fun _=>trivial
theorem JC (w0:World) (K nv ni no:Nat) (fs):Km Gs w0 K nv ni no fs:=by
 intro Y s X W kind a dp k cs d funcs hI hB hrs hf ho ha0 ha1 hdp hok hk
 obtain ⟨k',rfl⟩:∃ k',k=k' + 1:=by
  cases k with
  | zero=>exact hrs.elim
  | succ k=>exact ⟨k,rfl⟩
 obtain ⟨ek,ex,pa,pl,pc,aa,ac,ta,tc,ea,ec,rfl,-,-,-,-,-,-,-,-,-,-⟩:=hrs.form
 show Calls Tryz.prog 66 #[zg #[zd U kind,zd U a,zd U dp,zd U (Ae d),zd U (Av d),zd U (Ac d),zd U ek,zd U ex,O pa pl pc,O aa (Ah d).length ac,O ta (Af d).length tc,O ea (Al d).length ec]] W fun e W'=>e=zh (ze true)/\∃ X':Nat->Prop,(∀ k,¬ X' k)/\(∀ k,X' k->X k\/W.heap.size<=k)/\FrX X W W'/\True/\(true=true->(kind=1/\(Ae d=7\/Ae d=8))\/kind=2->True)
 have hI':∀ k,¬ X k:=hI
 have HI:=Aa hI'
 clear hI hI' hrs ho hok hk hB
 go_enter Tryz.func66,Tryz.ntmps66
 go_wp2_with fail
 go_ret
 exact ⟨rfl,X,HI.o,fun k hk=>Or.inl hk,⟨rfl,rfl,rfl,by simp,fun k hk _=>heap_alloc_old W _ hk⟩,trivial,fun _ _=>trivial⟩
abbrev Nl (ev:Value) (b1 b2 vn yn:Nat) (r:RSt):Value:=zg #[ev,O (some ⟨b1,0,none⟩) vn vn,O (some ⟨b2,0,none⟩) yn yn,zd U (r.steps:Int),zd U r.en,zd U r.sp]
structure GR (B:Nat) (vn yn F:Nat) (r:RSt) (ev:Value) (b1 b2:Nat) (w:World):Prop where
 own:w.ownsRow B 136 4 ev r.ev.length (Bp r.ev)
 vars:Ad (Ba r.vars) w b1
 taken:Ad (Ba r.taken) w b2
 num:A9 vn yn F r
theorem GR.other {B vn yn F:Nat} {r:RSt} {ev:Value} {b1 b2:Nat} {w:World} (h:GR B vn yn F r ev b1 b2 w) {b:Nat} (h1:b1≠b) (h2:b2≠b) (h3:ev.ownBlock≠some b) (j:Nat) (v:Value):GR B vn yn F r ev b1 b2 (w.setCell ⟨b,j,none⟩ v):=
 ⟨h.own.kept Bw (Or.inr h3),h.vars.other h1,h.taken.other h2,h.num⟩
def o0:WSt:=⟨[],[]⟩
def Ir (K kf:Nat) (m:Int) (vn yn on sn:Nat) (gs:List (Int × Int)) (sp:List Int) (ls ms:List Lab) (vs:List (Bool × Lab)) (fs:List FnD) (l:List D) (ins:List (List Int)) (fuel:Int) (w:World) (e:Ending) (w':World):Prop:=
 ∃ why:Int,MK why K kf m vn yn on sn gs sp ls ms vs fs l ins fuel/\Ov w w'/\((why≠0/\e=zh (zj #[zg #[O none 0 0,O none 0 0,O none 0 0,zd U 0,zd U 0,zd U 0],zd U why])) \/
  (why=0/\∃ ev b1 b2,e=zh (zj #[Nl ev b1 b2 vn yn (Ce K kf fs fuel.toNat ins AF l vn yn o0),zd U 0])/\GR w.heap.size vn yn fuel.toNat (Ce K kf fs fuel.toNat ins AF l vn yn o0) ev b1 b2 w'))
theorem F7 (K kf:Nat) (m:Int) (ga gn gc sa sn sc ya yn yc oa on oc va vn vc fa fn fc ba bn bc) (xa xn xc) (ins) (fuel:Int) (gs sp ls ms vs fs l) (w:World) (h:Bf K kf m ga gn gc sa sn sc ya yn yc oa on oc va vn vc fa fn fc ba bn bc gs sp ls ms vs fs l w) (hx:Bm w (O xa xn xc) ins) :
  Calls Tryz.prog 18 #[zg #[zd U m,O ga gn gc,O sa sn sc,O ya yn yc,O oa on oc,O va vn vc,O fa fn fc,O ba bn bc],O xa xn xc,zd U fuel] w (Ir K kf m vn yn on sn gs sp ls ms vs fs l ins fuel w):=by
 have hbel:Ov w ((w.alloc (zf #[zd U m,O ga gn gc,O sa sn sc,O ya yn yc,O oa on oc,O va vn vc,O fa fn fc,O ba bn bc] 31)).alloc (zf #[O none 0 0,O none 0 0,O none 0 0,zd U 0,zd U 0,zd U 0] 55)):=(bA w _).alloc (by simp) _
 have HP:=Aa (h.over hbel)
 have HX:=Aa (hx.over hbel)
 have K1:=Aa (LP K kf m ga gn gc sa sn sc ya yn yc oa on oc va vn vc fa fn fc ba bn bc xa xn xc ins fuel gs sp ls ms vs fs l _ HP.o HX.o)
 obtain ⟨c0,c1,c2,c3,c4,c5,c6,c7⟩:=rc8 (CB w [zd U m,O ga gn gc,O sa sn sc,O ya yn yc,O oa on oc,O va vn vc,O fa fn fc,O ba bn bc] 31 (zf #[O none 0 0,O none 0 0,O none 0 0,zd U 0,zd U 0,zd U 0] 55))
 have HO0:Hx (Ad [O none 0 0,O none 0 0,O none 0 0,zd U 0,zd U 0,zd U 0] ((w.alloc (zf #[zd U m,O ga gn gc,O sa sn sc,O ya yn yc,O oa on oc,O va vn vc,O fa fn fc,O ba bn bc] 31)).alloc (zf #[O none 0 0,O none 0 0,O none 0 0,zd U 0,zd U 0,zd U 0] 55)) (w.heap.size+1)/\∀ j,((w.alloc (zf #[zd U m,O ga gn gc,O sa sn sc,O ya yn yc,O oa on oc,O va vn vc,O fa fn fc,O ba bn bc] 31)).alloc (zf #[O none 0 0,O none 0 0,O none 0 0,zd U 0,zd U 0,zd U 0] 55)).frozen? ⟨w.heap.size+1,j,none⟩=false):=by
  refine ⟨?_,fun j=>by simp [go_sem]⟩
  have:=Ad.newA #[O none 0 0,O none 0 0,O none 0 0,zd U 0,zd U 0,zd U 0] 55 (w.alloc (zf #[zd U m,O ga gn gc,O sa sn sc,O ya yn yc,O oa on oc,O va vn vc,O fa fn fc,O ba bn bc] 31))
  simpa using this
 have hfl:fn=fs.length:=by obtain ⟨-,a,c,he,-⟩:=h.funcs;injection he
 have HFL:=Aa hfl
 have hszA:((w.alloc (zf #[zd U m,O ga gn gc,O sa sn sc,O ya yn yc,O oa on oc,O va vn vc,O fa fn fc,O ba bn bc] 31)).alloc (zf #[O none 0 0,O none 0 0,O none 0 0,zd U 0,zd U 0,zd U 0] 55)).heap.size=w.heap.size+2:=by simp
 clear h hx hfl
 go_enter Tryz.func18,Tryz.ntmps18
 go_wp2_with fail
 refine (K1.o).mono ?_
 obtain ⟨WA,hWA⟩:=nm (((w.alloc (zf #[zd U m,O ga gn gc,O sa sn sc,O ya yn yc,O oa on oc,O va vn vc,O fa fn fc,O ba bn bc] 31)).alloc (zf #[O none 0 0,O none 0 0,O none 0 0,zd U 0,zd U 0,zd U 0] 55)))
 rw [<-hWA] at HP HX HO0 hbel hszA ⊢
 rintro e w1 ⟨why,hok,hb1,hnew⟩
 have hB1:=hbel.trans (hb1.mono hbel.size)
 have HO:=Aa (And.intro (HO0.o.1.over hb1) (fun j=>((AI hb1).2 (w.heap.size+1) j (by rw [hszA];omega)).trans (HO0.o.2 j)))
 have hl1:w.heap.size+1 < w1.heap.size:=by have:=hb1.size;omega
 have HOK:=Aa hok
 have HB1:=Aa hB1
 have HB01:=Aa hb1
 have HSZ:=Aa hszA
 have HBW:=Aa hbel
 clear K1 c0 c1 c2 c3 c4 c5 c6 c7 hb1 hok hbel hWA hszA hB1 HO0
 rcases hnew with ⟨hw,rfl⟩ | ⟨rfl,br,b1,b2,b3,c3,rfl,hr2⟩
 ·have hwb:(why == 0)=false:=by simpa using hw
  have o0:=HO.o.1 0 _ rfl
  have y0:=HO.o.2 0
  have o1:=HO.o.1 1 _ rfl
  have y1:=HO.o.2 1
  have o2:=HO.o.1 2 _ rfl
  have y2:=HO.o.2 2
  have o3:=HO.o.1 3 _ rfl
  have y3:=HO.o.2 3
  have o4:=HO.o.1 4 _ rfl
  have y4:=HO.o.2 4
  have o5:=HO.o.1 5 _ rfl
  have y5:=HO.o.2 5
  go_wp2_with fail
  have hF:=((((((HO.o.1.set (j:=0) (v:=O none 0 0) (by simp)).set (j:=1) (v:=O none 0 0) (by simp)).set (j:=2) (v:=O none 0 0) (by simp)).set (j:=3) (v:=zd U 0) (by simp)).set (j:=4) (v:=zd U 0) (by simp)).set (j:=5) (v:=zd U 0) (by simp))
  obtain ⟨e0,e1,e2,e3,e4,e5⟩:=rc6 hF
  have hBf:Ov w ((((((w1.setCell ⟨w.heap.size+1,0,none⟩ (O none 0 0)).setCell ⟨w.heap.size+1,1,none⟩ (O none 0 0)).setCell ⟨w.heap.size+1,2,none⟩ (O none 0 0)).setCell ⟨w.heap.size+1,3,none⟩ (zd U 0)).setCell ⟨w.heap.size+1,4,none⟩ (zd U 0)).setCell ⟨w.heap.size+1,5,none⟩ (zd U 0)):=((((((((((((HB1.o).setCell (by simp) _)).setCell (by simp) _)).setCell (by simp) _)).setCell (by simp) _)).setCell (by simp) _)).setCell (by simp) _)
  refine bodyPost_ret (v:=zj #[zg #[O none 0 0,O none 0 0,O none 0 0,zd U 0,zd U 0,zd U 0],zd U why]) ?_ rfl ⟨why,HOK.o,hBf,Or.inl ⟨hw,rfl⟩⟩
  generalize ((((((w1.setCell ⟨w.heap.size+1,0,none⟩ (O none 0 0)).setCell ⟨w.heap.size+1,1,none⟩ (O none 0 0)).setCell ⟨w.heap.size+1,2,none⟩ (O none 0 0)).setCell ⟨w.heap.size+1,3,none⟩ (zd U 0)).setCell ⟨w.heap.size+1,4,none⟩ (zd U 0)).setCell ⟨w.heap.size+1,5,none⟩ (zd U 0))=WF at e0 e1 e2 e3 e4 e5 ⊢
  simp [results,Tryz.results18,go_sem,e0,e1,e2,e3,e4,e5]
 have hok:=HOK.o.1 rfl
 have hpk:=hok.prog.ok
 obtain ⟨F,hF⟩:=Int.eq_ofNat_of_zero_le hok.f0
 subst hF
 have hf1:=hok.f1
 have hX:Kn Gs K kf m ga gn gc sa sn sc ya yn yc oa on oc va vn vc fa fn fc ba bn bc xa xn xc F (fs.length+1) c3 br b1 b2 b3 (Da kf fs fs.length) fs ins WA:=
  ⟨HP.o.funcs,HX.o,hok.many,hok.long,hok.num,by omega,hpk.vars,HFL.o,hpk.funcs,rfl,rfl,by have:=hpk.many;omega,JC WA K vn yn on fs,hpk.body⟩
 have hx0:Gs.In (Yb br b1 b2 (O none 0 0)) o0 (fun _=>False) w1:=fun k hk=>hk
 have KR:=Aa (doR Gs K kf m ga gn gc sa sn sc ya yn yc oa on oc va vn vc fa fn fc ba bn bc xa xn xc F (fs.length+1) c3 br b1 b2 b3 (Da kf fs fs.length) fs ins l o0 (fun _=>False) WA w1 hX HP.o.main hpk.main hpk.many hr2 HB01.o hx0 (fun k hk=>hk.elim) (fun hk=>hk) trivial)
 have hKR:Gs.ob=AF:=rfl
 rw [hKR] at KR
 obtain ⟨T,hT⟩:=nm (Ce K kf fs F ins AF l vn yn o0)
 rw [<-hT] at KR
 have HT:=Aa hT
 have HR2:=Aa hr2
 clear hT hok hpk hX hr2 hx0 hKR HP HX
 change Hx (Calls Tryz.prog 63 #[zi (some ⟨br,0,none⟩),.func (.func 66) #[] #[]] w1 _) at KR
 go_wp2_with fail
 refine (KR.o).mono ?_
 rintro e w3 ⟨rfl,ev,hr3,hf3,hno3⟩
 have hb13:Below WA.heap.size w1 w3:=⟨hf3.os,hf3.tape,hf3.output,hf3.size,fun k hk=>hf3.block k (by have:=HB01.o.size;omega) (by have:=HR2.o.lo;omega) (by have:=HR2.o.lo;omega) (by have:=HR2.o.lo;omega) (fun hx=>by rcases hx with hx | hx;simp [Value.ownBlock] at hx;exact hx)⟩
 have hB3:Ov w w3:=HB1.o.trans (hb13.mono HBW.o.size)
 obtain ⟨x0,x1,x2,x3,x4,x5⟩:=rc6 hr3.row
 rw [hno3.vl] at x1
 rw [hno3.tl] at x2
 have hla:=hr3.hi.1
 have HF:Hx (GR w.heap.size vn yn F T ev.ev b1 b2 w3):=⟨Gl hr3.own HBW.o.size,hr3.vars,hr3.taken,hno3⟩
 obtain ⟨stp,hsp⟩:=nm ((T.steps:Int))
 obtain ⟨en,hen⟩:=nm T.en
 obtain ⟨tsp,htsp⟩:=nm T.sp
 rw [<-hsp] at x3
 rw [<-hen] at x4
 rw [<-htsp] at x5
 have HSP:=Aa hsp
 have HEN:=Aa hen
 have HTS:=Aa htsp
 have hsz:=HSZ.o
 have hlo:=hr3.lo
 have n1:b1≠w.heap.size+1:=by omega
 have n2:b2≠w.heap.size+1:=by omega
 have n3:ev.ev.ownBlock≠some (w.heap.size+1):=fun hx=>by have:=(hr3.ev' _ (Or.inl hx)).1;omega
 obtain ⟨evv,evX⟩:=ev
 dsimp only at x0 HF n3 hr3
 obtain ⟨ea,el,ec,hev⟩:∃ a n c,evv=O a n c:=by
  rcases hr3.own.2 with ⟨h,_⟩ | ⟨g,cap,cur,h,_⟩
  ·exact ⟨_,_,_,h⟩
  ·exact ⟨_,_,_,h⟩
 subst hev
 have HO3:Hx (Ad [O none 0 0,O none 0 0,O none 0 0,zd U 0,zd U 0,zd U 0] w3 (w.heap.size+1)/\∀ j,w3.frozen? ⟨w.heap.size+1,j,none⟩=false):=by
  have hk:w3.heap[w.heap.size+1]? = w1.heap[w.heap.size+1]?:=hb13.block _ (by omega)
  exact ⟨fun j u hu=>(World.cell?_of_block hk).trans (HO.o.1 j u hu),fun j=>(World.frozen?_of_block hk).trans (HO.o.2 j)⟩
 have o0:=HO3.o.1 0 _ rfl
 have y0:=HO3.o.2 0
 have o1:=HO3.o.1 1 _ rfl
 have y1:=HO3.o.2 1
 have o2:=HO3.o.1 2 _ rfl
 have y2:=HO3.o.2 2
 have o3:=HO3.o.1 3 _ rfl
 have y3:=HO3.o.2 3
 have o4:=HO3.o.1 4 _ rfl
 have y4:=HO3.o.2 4
 have o5:=HO3.o.1 5 _ rfl
 have y5:=HO3.o.2 5
 have hl3:w.heap.size+1 < w3.heap.size:=Nat.lt_of_lt_of_le hl1 hb13.size
 clear KR hr3 hf3 hno3 hsp hen htsp hlo hsz
 go_wp2_with fail
 have hF:=((((((HO3.o.1.set (j:=0) (v:=O ea el ec) (by simp)).set (j:=1) (v:=O (some ⟨b1,0,none⟩) vn vn) (by simp)).set (j:=2) (v:=O (some ⟨b2,0,none⟩) yn yn) (by simp)).set (j:=3) (v:=zd U stp) (by simp)).set (j:=4) (v:=zd U en) (by simp)).set (j:=5) (v:=zd U tsp) (by simp))
 obtain ⟨e0,e1,e2,e3,e4,e5⟩:=rc6 hF
 have hBf:Ov w ((((((w3.setCell ⟨w.heap.size+1,0,none⟩ (O ea el ec)).setCell ⟨w.heap.size+1,1,none⟩ (O (some ⟨b1,0,none⟩) vn vn)).setCell ⟨w.heap.size+1,2,none⟩ (O (some ⟨b2,0,none⟩) yn yn)).setCell ⟨w.heap.size+1,3,none⟩ (zd U stp)).setCell ⟨w.heap.size+1,4,none⟩ (zd U en)).setCell ⟨w.heap.size+1,5,none⟩ (zd U tsp)):=((((((((((((hB3).setCell (by simp) _)).setCell (by simp) _)).setCell (by simp) _)).setCell (by simp) _)).setCell (by simp) _)).setCell (by simp) _)
 have hRA:=((((((HF.o.other n1 n2 n3 0 (O ea el ec)).other n1 n2 n3 1 (O (some ⟨b1,0,none⟩) vn vn)).other n1 n2 n3 2 (O (some ⟨b2,0,none⟩) yn yn)).other n1 n2 n3 3 (zd U stp)).other n1 n2 n3 4 (zd U en)).other n1 n2 n3 5 (zd U tsp))
 refine bodyPost_ret (v:=zj #[zg #[O ea el ec,O (some ⟨b1,0,none⟩) vn vn,O (some ⟨b2,0,none⟩) yn yn,zd U stp,zd U en,zd U tsp],zd U 0]) ?_ rfl ?_
 rotate_left
 ·have hT:=HT.o
  have h1:=HSP.o
  have h2:=HEN.o
  have h3:=HTS.o
  subst h1 h2 h3
  subst hT
  exact ⟨0,by simpa using HOK.o,hBf,Or.inr ⟨rfl,_,b1,b2,rfl,hRA⟩⟩
 generalize ((((((w3.setCell ⟨w.heap.size+1,0,none⟩ (O ea el ec)).setCell ⟨w.heap.size+1,1,none⟩ (O (some ⟨b1,0,none⟩) vn vn)).setCell ⟨w.heap.size+1,2,none⟩ (O (some ⟨b2,0,none⟩) yn yn)).setCell ⟨w.heap.size+1,3,none⟩ (zd U stp)).setCell ⟨w.heap.size+1,4,none⟩ (zd U en)).setCell ⟨w.heap.size+1,5,none⟩ (zd U tsp))=WF at e0 e1 e2 e3 e4 e5 ⊢
 simp [results,Tryz.results18,go_sem,e0,e1,e2,e3,e4,e5]
theorem DT {cs:List Value} {w w':World} {b:Nat} {a:Array Value} {t:Nat} (ha:a.toList=cs) (hb:b=w.heap.size) (hw:Ov (w.alloc (.cells a t)) w'):Ad cs w' b:=by
 subst hb
 rw [<-ha]
 exact (Ad.newA a t w).over hw
theorem Mi (w:World):Calls Tryz.prog 38 #[] w fun e w'=>∃ bi bo bv bm,e=zh (D8 bi bo bv bm)/\Fb bi bo bv bm w'/\Ov w w'/\(w.heap.size < bi/\bi < bo/\bo < bv/\bv < bm/\bm < w'.heap.size)/\∀ j,w'.frozen? ⟨bi,j,none⟩=false:=by
 go_enter Tryz.func38,Tryz.ntmps38
 go_wp2_with fail
 have hbr:=fun (W:World) (o:Obj)=>bA W o
 refine bodyPost_ret (v:=D8 (w.heap.size+1) (w.heap.size+1+1) (w.heap.size+1+1+1) (w.heap.size+1+1+1+1)) (by simp [results,Tryz.results38,go_sem]) rfl ⟨_,_,_,_,rfl,⟨?_,?_,?_,?_⟩,?_,?_,?_⟩
 ·exact DT rfl (by simp) (Ag (Ag (hbr _ _) (hbr _ _)) (hbr _ _))
 ·exact DT rfl (by simp) (Ag (hbr _ _) (hbr _ _))
 ·exact DT rfl (by simp) (hbr _ _)
 ·exact DT rfl (by simp) (Below.refl _ _)
 ·exact Ag (Ag (Ag (Ag (hbr _ _) (hbr _ _)) (hbr _ _)) (hbr _ _)) (hbr _ _)
 ·refine ⟨by omega,by omega,by omega,by omega,by simp⟩
 ·intro j
  simp [go_sem]
def sm3:D:=sD 1 1 0 (xD 1 3 []) [] [] []
structure Sm3 (bi bo bv bm:Nat) (w:World):Prop where
 ins:Ad [O none 0 0,O none 0 0] w bi
 outs:Ad [O none 0 0,O none 0 0] w bo
 vars:Ad [ze false,O none 0 0,O none 0 0,ze false,O none 0 0,O none 0 0] w bv
 main:Ad (Ci++[zd U 1,zd U 1,zd U 0,zd U 1,zd U 3,O none 0 0,O none 0 0,O none 0 0,O none 0 0]) w bm
theorem Hz {bi bo bv bm vc mc:Nat} {w:World} (h:Sm3 bi bo bv bm w):Bf 1 1 1 none 0 0 none 0 0 (some ⟨bi,0,none⟩) 1 1 (some ⟨bo,0,none⟩) 1 1 (some ⟨bv,0,none⟩) 2 vc none 0 0 (some ⟨bm,0,none⟩) 3 mc [] [] [⟨[],[]⟩] [⟨[],[]⟩] [(false,⟨[],[]⟩),(false,⟨[],[]⟩)] [] [sm1,sm2,sm3] w:=by
 have hlab:∀ b,Ad [O none 0 0,O none 0 0] w b->BC w (O (some ⟨b,0,none⟩) 1 1) [⟨[],[]⟩]:=fun b hr=>by
  refine ⟨by simp [maxLen],some ⟨b,0,none⟩,1,rfl,fun _=>⟨b,0,rfl,fun i hi=>?_⟩⟩
  have:i=0:=by simp at hi;omega
  subst this
  exact ⟨_,_,hr 0 _ rfl,hr 1 _ rfl,BQ,BQ⟩
 refine ⟨AE 1 (by omega) (by omega),⟨none,0,rfl,fun h=>absurd rfl h⟩,⟨none,0,rfl,fun h=>absurd rfl h⟩,by simp,hlab _ h.ins,hlab _ h.outs,?_,?_,?_,fun h=>absurd h (by simp),fun h=>absurd h (by simp)⟩
 ·refine ⟨by simp [maxLen],some ⟨bv,0,none⟩,vc,rfl,fun _=>⟨bv,0,rfl,fun i hi=>?_⟩⟩
  match i,hi with
  | 0,hi=>exact ⟨_,_,h.vars 0 _ rfl,h.vars 1 _ rfl,h.vars 2 _ rfl,BQ,BQ⟩
  | 1,hi=>exact ⟨_,_,h.vars 3 _ rfl,h.vars 4 _ rfl,h.vars 5 _ rfl,BQ,BQ⟩
  | i+2,hi=>simp at hi;omega
 ·exact ⟨by simp,none,0,rfl,fun h=>absurd rfl h⟩
 ·refine ⟨by simp [maxLen],some ⟨bm,0,none⟩,mc,rfl,fun _=>⟨bm,0,rfl,fun i d hd=>?_⟩⟩
  have hM:=h.main
  unfold Ci at hM
  match i,hd with
  | 0,hd=>
   simp at hd
   subst hd
   refine ⟨[zd U 3,zd U 0,zd U 0,zd U 0,zd U 0,O none 0 0,O none 0 0,O none 0 0,O none 0 0],rfl,fun j u hu=>?_,3,0,0,_,_,_,xD 0 0 [],_,[],_,[],_,[],rfl,rfl,AE _ (by omega) (by omega),AE _ (by omega) (by omega),AE _ (by omega) (by omega),⟨0,0,_,[],rfl,rfl,AE _ (by omega) (by omega),AE _ (by omega) (by omega),Bx⟩,Bx,Bx,Bx⟩
   have hj:j < 9:=(List.getElem?_eq_some_iff.1 hu).1
   have:=hM j u (by rw [<-hu];match j,hj with | 0,_=>rfl | 1,_=>rfl | 2,_=>rfl | 3,_=>rfl | 4,_=>rfl | 5,_=>rfl | 6,_=>rfl | 7,_=>rfl | 8,_=>rfl)
   simpa using this
  | 1,hd=>
   simp at hd
   subst hd
   refine ⟨[zd U 4,zd U 0,zd U 0,zd U 2,zd U 0,O none 0 0,O none 0 0,O none 0 0,O none 0 0],rfl,fun j u hu=>?_,4,0,0,_,_,_,xD 2 0 [],_,[],_,[],_,[],rfl,rfl,AE _ (by omega) (by omega),AE _ (by omega) (by omega),AE _ (by omega) (by omega),⟨2,0,_,[],rfl,rfl,AE _ (by omega) (by omega),AE _ (by omega) (by omega),Bx⟩,Bx,Bx,Bx⟩
   have hj:j < 9:=(List.getElem?_eq_some_iff.1 hu).1
   have:=hM (9+j) u (by rw [<-hu];match j,hj with | 0,_=>rfl | 1,_=>rfl | 2,_=>rfl | 3,_=>rfl | 4,_=>rfl | 5,_=>rfl | 6,_=>rfl | 7,_=>rfl | 8,_=>rfl)
   simpa [Nat.add_assoc] using this
  | 2,hd=>
   simp at hd
   subst hd
   refine ⟨[zd U 1,zd U 1,zd U 0,zd U 1,zd U 3,O none 0 0,O none 0 0,O none 0 0,O none 0 0],rfl,fun j u hu=>?_,1,1,0,_,_,_,xD 1 3 [],_,[],_,[],_,[],rfl,rfl,AE _ (by omega) (by omega),AE _ (by omega) (by omega),AE _ (by omega) (by omega),⟨1,3,_,[],rfl,rfl,AE _ (by omega) (by omega),AE _ (by omega) (by omega),Bx⟩,Bx,Bx,Bx⟩
   have hj:j < 9:=(List.getElem?_eq_some_iff.1 hu).1
   have:=hM (18+j) u (by rw [<-hu];match j,hj with | 0,_=>rfl | 1,_=>rfl | 2,_=>rfl | 3,_=>rfl | 4,_=>rfl | 5,_=>rfl | 6,_=>rfl | 7,_=>rfl | 8,_=>rfl)
   simpa [Nat.add_assoc] using this
  | i+3,hd=>simp at hd
theorem Jr:Am ((2:Nat):Int) 1 (Ai sm2)=0:=by
 simp [Am,sm2,Be,AB,A4,AO,AW,xD,Ap,AA,Ar]
theorem Jq:Am ((2:Nat):Int) 1 (Ai sm3)=0:=by
 simp [Am,sm3,Be,AB,A4,AO,AW,xD,Ap,AA,Ar]
theorem Kv:Dz 1 2 1 1 (([]:List FnD).length:Int) [] sm1:=by
 unfold Dz
 simp [sm1,xD,Ap,Ar]
theorem Ku:Dz 1 2 1 1 (([]:List FnD).length:Int) [] sm2:=by
 have h:=Jr
 unfold Dz
 have e:Ae sm2=4:=rfl
 have e2:Ac sm2=0:=rfl
 rw [e,e2]
 exact ⟨by decide,fun h=>absurd h (by decide),fun h=>absurd h (by decide),fun h=>absurd h (by decide),fun _=>h,fun h=>absurd h (by decide),fun _=>by decide⟩
theorem Kt:Dz 1 2 1 1 (([]:List FnD).length:Int) [] sm3:=by
 have h:=Jq
 unfold Dz
 have e:Ae sm3=1:=rfl
 have e2:Av sm3=1:=rfl
 rw [e,e2]
 exact ⟨by decide,fun _=>by decide,fun h=>absurd h (by decide),fun h=>absurd h (by decide),fun _=>h,fun h=>absurd h (by decide),fun h=>absurd h (by decide)⟩
theorem MN:Ey.xP 1 1 1 2 1 1 0 [] [] [⟨[],[]⟩] [⟨[],[]⟩] [(false,⟨[],[]⟩),(false,⟨[],[]⟩)] [] [sm1,sm2,sm3]:=by
 refine ⟨rfl,by simp,by simp,⟨?_,?_,?_⟩,⟨by decide,fun f hf=>absurd hf (by simp),?_⟩,fun i h=>absurd h (by simp),?_⟩
 ·intro b hb
  simp at hb
  subst hb
  rfl
 ·intro v hv
  simp at hv
  subst hv
  rfl
 ·intro v hv _
  simp at hv
  subst hv
  exact ⟨rfl,rfl⟩
 ·intro s hs
  simp at hs
  rcases hs with rfl | rfl | rfl
  ·exact ⟨by omega,fun s hs=>absurd hs (by simp [sm1]),fun s hs=>absurd hs (by simp [sm1])⟩
  ·exact ⟨by omega,fun s hs=>absurd hs (by simp [sm2]),fun s hs=>absurd hs (by simp [sm2])⟩
  ·exact ⟨by omega,fun s hs=>absurd hs (by simp [sm3]),fun s hs=>absurd hs (by simp [sm3])⟩
 ·intro s hs
  simp at hs
  rcases hs with rfl | rfl | rfl
  ·exact ⟨⟨Kv,fun _=>rfl,fun _=>rfl,fun _=>rfl,fun _=>rfl,fun _=>rfl,fun _=>rfl⟩,fun s hs=>absurd hs (by simp [sm1]),fun s hs=>absurd hs (by simp [sm1])⟩
  ·exact ⟨⟨Ku,fun _=>rfl,fun _=>rfl,fun h=>absurd h (by decide),fun _=>rfl,fun _=>rfl,fun _=>rfl⟩,fun s hs=>absurd hs (by simp [sm2]),fun s hs=>absurd hs (by simp [sm2])⟩
  ·exact ⟨⟨Kt,fun h=>absurd h (by decide),fun _=>rfl,fun h=>absurd h (by decide),fun _=>rfl,fun _=>rfl,fun _=>rfl⟩,fun s hs=>absurd hs (by simp [sm3]),fun s hs=>absurd hs (by simp [sm3])⟩
theorem Fo:AZ 0 1 1 [] [sm1,sm2,sm3] 2 1=⟨[true,false],[true],[true,true,false],false⟩:=by kernel_rfl
theorem Ks:(A5 [true,true,false] 1 [sm1,sm2,sm3] (An 1 [])).length=2:=by kernel_rfl
theorem Cx {w:World} {b:Nat} {l:List Bool} (h:Ad (l.map Value.bool) w b) (hl:l.length<=100):Dy w (O (some ⟨b,0,none⟩) l.length l.length) l:=
 ⟨some ⟨b,0,none⟩,l.length,rfl,fun _=>⟨b,0,rfl,fun i hi=>by rw [Nat.zero_add];exact h i _ (by rw [List.getElem?_map,List.getElem?_eq_getElem hi];rfl)⟩⟩
theorem H5 {W:World} {B T s n:Nat} {v:Value} {xs:List Value} (h:W.ownsRow B T s v n xs) (hn:n≠0):∃ g c,v=O (some ⟨g,0,none⟩) n c/\B<=g/\g < W.heap.size/\Ad xs W g:=by
 rcases h.2 with ⟨-,h0⟩ | ⟨g,cap,cur,hv,hb,hg,-⟩
 ·exact absurd h0 hn
 ·refine ⟨g,cap,hv,hb,(Array.getElem?_eq_some_iff.1 hg).1,fun j u hu=>?_⟩
  have:=h.cells (g:=g) (by rw [hv];rfl) j u hu
  rwa [Addr.add_lit,Nat.zero_add] at this
theorem Ep {W W':World} (h:W.grownBy W' none):Ov W W':=⟨h.os,h.tape,h.output,h.size,fun k hk=>h.block k hk (by simp)⟩
theorem EH (l:List Bool) (va vb:Value) (w:World) (ha:Dy w va l) (hb:Dy w vb l) (hl:l.length<=100):Calls Tryz.prog 43 #[va,vb] w fun e w'=>e=zh (ze true)/\Ov w w':=by
 refine (Fd va vb l l w ha hb (by omega)).mono ?_
 rintro e w' ⟨rfl,n,rfl⟩
 exact ⟨by simp,below_drewN (Below.refl _ _) n⟩
theorem Mr (bi bo bv bm vc mc:Nat) (W:World) (h:Sm3 bi bo bv bm W):Calls Tryz.prog 33 #[zg #[zd U 1,O none 0 0,O none 0 0,O (some ⟨bi,0,none⟩) 1 1,O (some ⟨bo,0,none⟩) 1 1,O (some ⟨bv,0,none⟩) 2 vc,O none 0 0,O (some ⟨bm,0,none⟩) 3 mc],zd U 0] W fun e w'=>∃ b1 b2 b3,e=zh (zj #[O (some ⟨b1,0,none⟩) 2 2,O (some ⟨b2,0,none⟩) 1 1,O (some ⟨b3,0,none⟩) 3 3,zd U 0])/\Ad ([true,false].map Value.bool) w' b1/\Ad ([true].map Value.bool) w' b2/\Ad ([true,true,false].map Value.bool) w' b3/\Ov W w':=by
 refine (H7 1 1 1 none 0 0 none 0 0 (some ⟨bi,0,none⟩) 1 1 (some ⟨bo,0,none⟩) 1 1 (some ⟨bv,0,none⟩) 2 vc none 0 0 (some ⟨bm,0,none⟩) 3 mc [] [] [⟨[],[]⟩] [⟨[],[]⟩] [(false,⟨[],[]⟩),(false,⟨[],[]⟩)] [] [sm1,sm2,sm3] 0 W (Hz h)).mono ?_
 rintro e w' ⟨hb,why,hwhy,hor⟩
 have h0:why=0:=hwhy.2 ⟨MN,by decide,by decide⟩
 rcases hor with ⟨hne,-⟩ | ⟨-,b1,b2,b3,he,r1,r2,r3⟩
 ·exact absurd h0 hne
 ·rw [Fo] at he r1 r2 r3
  exact ⟨b1,b2,b3,he,r1,r2,r3,hb⟩
theorem Mk (bi bo bv bm vc mc:Nat) (W:World) (h:Sm3 bi bo bv bm W):Calls Tryz.prog 29 #[zg #[zd U 1,O none 0 0,O none 0 0,O (some ⟨bi,0,none⟩) 1 1,O (some ⟨bo,0,none⟩) 1 1,O (some ⟨bv,0,none⟩) 2 vc,O none 0 0,O (some ⟨bm,0,none⟩) 3 mc],zd U 0] W fun e w'=>∃ a1 n1 c1 a2 n2 c2 a3 n3 c3 a4 n4 c4 a5 n5 c5 a6 n6 c6 a7 c7,e=zh (zj #[zg #[zd U 1,O a1 n1 c1,O a2 n2 c2,O a3 n3 c3,O a4 n4 c4,O a5 n5 c5,O a6 n6 c6,O a7 2 c7],zd U 0])/\Ov W w':=by
 refine (Kw 1 1 1 none 0 0 none 0 0 (some ⟨bi,0,none⟩) 1 1 (some ⟨bo,0,none⟩) 1 1 (some ⟨bv,0,none⟩) 2 vc none 0 0 (some ⟨bm,0,none⟩) 3 mc [] [] [⟨[],[]⟩] [⟨[],[]⟩] [(false,⟨[],[]⟩),(false,⟨[],[]⟩)] [] [sm1,sm2,sm3] 0 W (Hz h) [true,true,false] (by rw [Fo])).mono ?_
 rintro e w' ⟨hb,why,hwhy,hor⟩
 have h0:why=0:=hwhy.2 ⟨MN,by decide,by decide⟩
 rcases hor with ⟨hne,-⟩ | ⟨-,ga2,gc2,sa2,sc2,ya2,yc2,oa2,oc2,va2,vc2,fa2,fc2,ba2,bd2,he,-⟩
 ·exact absurd h0 hne
 ·rw [Ks] at he
  exact ⟨_,_,_,_,_,_,_,_,_,_,_,_,_,_,_,_,_,_,_,_,he,hb⟩
theorem EF (w:World):Calls Tryz.prog 30 #[] w fun e w'=>e=zh (ze true)/\Ov w w':=by
 have KS:=Aa (Mi w)
 obtain ⟨i0,hi,hz0,hz1,hz2⟩:=info_parts Tryz.infoVaN
 obtain ⟨i1,hj,hy0,hy1,hy2⟩:=info_parts Tryz.infoSt
 go_enter Tryz.func30,Tryz.ntmps30
 go_wp2_with fail
 refine KS.o.mono ?_
 rintro e W1 ⟨bi,bo,bv,bm,rfl,hS,hb1,hlt,-⟩
 have hbX:Ov W1 ((W1.alloc (CZ bi bo bv bm 31)).alloc (zf #[ze false,O none 0 0,O none 0 0] 41)):=(bA W1 _).alloc (by simp) _
 have hv1:Ad [ze false,O none 0 0,O none 0 0] ((W1.alloc (CZ bi bo bv bm 31)).alloc (zf #[ze false,O none 0 0,O none 0 0] 41)) bv:=hS.vars.over hbX
 have hsP:(W1.alloc (CZ bi bo bv bm 31)).heap.size=W1.heap.size+1:=by simp
 have hn1:Ad [ze false,O none 0 0,O none 0 0] ((W1.alloc (CZ bi bo bv bm 31)).alloc (zf #[ze false,O none 0 0,O none 0 0] 41)) (W1.heap.size+1):=by rw [<-hsP];exact Ay (W1.alloc (CZ bi bo bv bm 31)) [ze false,O none 0 0,O none 0 0] 41
 have hp1:Ad (G4 bi bo bv bm) ((W1.alloc (CZ bi bo bv bm 31)).alloc (zf #[ze false,O none 0 0,O none 0 0] 41)) W1.heap.size:=Ad.over (Ay W1 (G4 bi bo bv bm) 31) (bA _ _)
 have hf1:∀ j,((W1.alloc (CZ bi bo bv bm 31)).alloc (zf #[ze false,O none 0 0,O none 0 0] 41)).frozen? ⟨W1.heap.size,j,none⟩=false:=fun j=>by simp [go_sem]
 have HS:=Aa (hS.over hbX)
 have HB1:Hx (Ov w ((W1.alloc (CZ bi bo bv bm 31)).alloc (zf #[ze false,O none 0 0,O none 0 0] 41))):=hb1.trans (hbX.mono hb1.size)
 have HLT:=Aa hlt
 have HWW0:=Aa hb1.size
 have HP1:=Aa hp1
 have HF1:=Aa hf1
 have HV1:=Aa hv1
 have HN1:=Aa hn1
 clear hS hb1 hlt KS hbX hsP hp1 hf1 hv1 hn1
 go_wp2_with (at_builtin;refine wpList_append_grows _ rfl _ _ 27 rfl 41 i0 (zg #[ze false,O none 0 0,O none 0 0]) 3 56 Tryz.underlying27 hi hz0 hz1 hz2 rfl (by decide) (some ⟨bv,0,none⟩) 1 1 [ze false,O none 0 0,O none 0 0] rfl (fun h=>by cases h) rfl (fun b hb j u hu=>by injection hb with hb;subst hb;rw [Addr.add_lit,Nat.zero_add];exact HV1.o j u hu) ⟨W1.heap.size+1,0,none⟩ 1 1 [ze false,O none 0 0,O none 0 0] rfl rfl (fun j u hu=>by rw [Addr.add_lit,Nat.zero_add];exact HN1.o j u hu) (by simp [Value.oneCell']) (by omega) (by unfold maxLen;omega) (by omega) ?_)
 intro v2 w2 hown2 hgr2
 obtain ⟨g2,k2,rfl,hg2,hg2l,hr2⟩:=H5 hown2 (by omega)
 have hb2:=Ep hgr2
 obtain ⟨p0,p1,p2,p3,p4,p5,p6,p7⟩:=rc8 (HP1.o.over hb2)
 have z5:w2.frozen? ⟨W1.heap.size,5,none⟩=false:=((AI hb2).2 _ _ (bL (HP1.o 0 _ rfl))).trans (HF1.o 5)
 have z7:w2.frozen? ⟨W1.heap.size,7,none⟩=false:=((AI hb2).2 _ _ (bL (HP1.o 0 _ rfl))).trans (HF1.o 7)
 have HS2:=Aa (HS.o.over hb2)
 have HB2:Hx (Ov w w2):=HB1.o.trans (hb2.mono HB1.o.size)
 have HR2:=Aa hr2
 have HPQ:=Aa (HP1.o.over hb2)
 have HWW:Hx (w.heap.size<=W1.heap.size):=HWW0.o
 have hsX:((W1.alloc (CZ bi bo bv bm 31)).alloc (zf #[ze false,O none 0 0,O none 0 0] 41)).heap.size=W1.heap.size+2:=by simp
 have HG2:Hx (W1.heap.size < g2/\g2 < w2.heap.size):=⟨by omega,hg2l⟩
 clear hsX hown2 hgr2 hr2 hb2 hg2 hg2l HB1 HS HV1 HN1 HF1
 have hne:bm≠W1.heap.size/\bi≠W1.heap.size/\bo≠W1.heap.size:=by have h1:=HLT.o;omega
 have hsS:(w2.setCell ⟨W1.heap.size,5,none⟩ (O (some ⟨g2,0,none⟩) 2 k2)).heap.size=w2.heap.size:=by simp [World.setCell]
 have hbS:Ov (w2.setCell ⟨W1.heap.size,5,none⟩ (O (some ⟨g2,0,none⟩) 2 k2)) ((w2.setCell ⟨W1.heap.size,5,none⟩ (O (some ⟨g2,0,none⟩) 2 k2)).alloc (zf #[zd U 1,zd U 1,zd U 0,zd U 1,zd U 3,O none 0 0,O none 0 0,O none 0 0,O none 0 0] 130)):=bA _ _
 have hm2:Ad Ci ((w2.setCell ⟨W1.heap.size,5,none⟩ (O (some ⟨g2,0,none⟩) 2 k2)).alloc (zf #[zd U 1,zd U 1,zd U 0,zd U 1,zd U 3,O none 0 0,O none 0 0,O none 0 0,O none 0 0] 130)) bm:=Ad.over (Ad.other HS2.o.main hne.1) hbS
 have hn2:Ad [zd U 1,zd U 1,zd U 0,zd U 1,zd U 3,O none 0 0,O none 0 0,O none 0 0,O none 0 0] ((w2.setCell ⟨W1.heap.size,5,none⟩ (O (some ⟨g2,0,none⟩) 2 k2)).alloc (zf #[zd U 1,zd U 1,zd U 0,zd U 1,zd U 3,O none 0 0,O none 0 0,O none 0 0,O none 0 0] 130)) w2.heap.size:=by rw [<-hsS];exact Ay (w2.setCell ⟨W1.heap.size,5,none⟩ (O (some ⟨g2,0,none⟩) 2 k2)) [zd U 1,zd U 1,zd U 0,zd U 1,zd U 3,O none 0 0,O none 0 0,O none 0 0,O none 0 0] 130
 have hp2:Ad [zd U 1,O none 0 0,O none 0 0,O (some ⟨bi,0,none⟩) 1 1,O (some ⟨bo,0,none⟩) 1 1,O (some ⟨g2,0,none⟩) 2 k2,O none 0 0,O (some ⟨bm,0,none⟩) 2 2] ((w2.setCell ⟨W1.heap.size,5,none⟩ (O (some ⟨g2,0,none⟩) 2 k2)).alloc (zf #[zd U 1,zd U 1,zd U 0,zd U 1,zd U 3,O none 0 0,O none 0 0,O none 0 0,O none 0 0] 130)) W1.heap.size:=by
  have h1:Ad (G4 bi bo bv bm) w2 W1.heap.size:=fun j u hu=>HPQ.o j u hu
  have h2:=(h1.set (j:=5) (v:=O (some ⟨g2,0,none⟩) 2 k2) (by simp)).over hbS
  simpa using h2
 have hi2:Ad [O none 0 0,O none 0 0] ((w2.setCell ⟨W1.heap.size,5,none⟩ (O (some ⟨g2,0,none⟩) 2 k2)).alloc (zf #[zd U 1,zd U 1,zd U 0,zd U 1,zd U 3,O none 0 0,O none 0 0,O none 0 0,O none 0 0] 130)) bi:=Ad.over (Ad.other HS2.o.ins hne.2.1) hbS
 have ho2:Ad [O none 0 0,O none 0 0] ((w2.setCell ⟨W1.heap.size,5,none⟩ (O (some ⟨g2,0,none⟩) 2 k2)).alloc (zf #[zd U 1,zd U 1,zd U 0,zd U 1,zd U 3,O none 0 0,O none 0 0,O none 0 0,O none 0 0] 130)) bo:=Ad.over (Ad.other HS2.o.outs hne.2.2) hbS
 have hv2:Ad [ze false,O none 0 0,O none 0 0,ze false,O none 0 0,O none 0 0] ((w2.setCell ⟨W1.heap.size,5,none⟩ (O (some ⟨g2,0,none⟩) 2 k2)).alloc (zf #[zd U 1,zd U 1,zd U 0,zd U 1,zd U 3,O none 0 0,O none 0 0,O none 0 0,O none 0 0] 130)) g2:=Ad.over (Ad.other HR2.o (by have h1:=HG2.o;omega)) hbS
 have hf2:((w2.setCell ⟨W1.heap.size,5,none⟩ (O (some ⟨g2,0,none⟩) 2 k2)).alloc (zf #[zd U 1,zd U 1,zd U 0,zd U 1,zd U 3,O none 0 0,O none 0 0,O none 0 0,O none 0 0] 130)).frozen? ⟨W1.heap.size,7,none⟩=false:=((AI hbS).2 _ _ (by rw [hsS];have h1:=HG2.o;omega)).trans (AC.trans z7)
 have hB2:Ov w ((w2.setCell ⟨W1.heap.size,5,none⟩ (O (some ⟨g2,0,none⟩) 2 k2)).alloc (zf #[zd U 1,zd U 1,zd U 0,zd U 1,zd U 3,O none 0 0,O none 0 0,O none 0 0,O none 0 0] 130)):=(HB2.o.setCell HWW.o _).trans (hbS.mono (by rw [hsS];exact HB2.o.size))
 have HM2:=Aa hm2
 have HN2:=Aa hn2
 have HP2:=Aa hp2
 have HI2:=Aa hi2
 have HO2:=Aa ho2
 have HV2:=Aa hv2
 have HF2:=Aa hf2
 have HBB:=Aa hB2
 have HSS:=Aa hsS
 have HNE:=Aa hne
 clear hne hsS hbS hm2 hn2 hp2 hi2 ho2 hv2 hf2 hB2
 go_wp2_with (at_builtin;refine wpList_append_grows _ rfl _ _ 29 rfl 130 i1 (zg #[zd U 0,zd U 0,zd U 0,zd U 0,zd U 0,O none 0 0,O none 0 0,O none 0 0,O none 0 0]) 9 136 Tryz.underlying29 hj hy0 hy1 hy2 rfl (by decide) (some ⟨bm,0,none⟩) 2 2 Ci rfl (fun h=>by cases h) rfl (fun b hb j u hu=>by injection hb with hb;subst hb;rw [Addr.add_lit,Nat.zero_add];exact HM2.o j u hu) ⟨w2.heap.size,0,none⟩ 1 1 [zd U 1,zd U 1,zd U 0,zd U 1,zd U 3,O none 0 0,O none 0 0,O none 0 0,O none 0 0] rfl rfl (fun j u hu=>by rw [Addr.add_lit,Nat.zero_add];exact HN2.o j u hu) (by simp [Value.oneCell']) (by omega) (by unfold maxLen;omega) (by omega) ?_)
 intro v3 w3 hown3 hgr3
 obtain ⟨g3,k3,rfl,hg3,hg3l,hr3⟩:=H5 hown3 (by omega)
 have hb3:=Ep hgr3
 obtain ⟨r0,r1,r2,r3,r4,r5,r6,r7⟩:=rc8 (HP2.o.over hb3)
 have z7':w3.frozen? ⟨W1.heap.size,7,none⟩=false:=((AI hb3).2 _ _ (bL (HP2.o 0 _ rfl))).trans HF2.o
 have hgn:g3≠W1.heap.size:=by
  have h1:=HSS.o
  have h2:((w2.setCell ⟨W1.heap.size,5,none⟩ (O (some ⟨g2,0,none⟩) 2 k2)).alloc (zf #[zd U 1,zd U 1,zd U 0,zd U 1,zd U 3,O none 0 0,O none 0 0,O none 0 0,O none 0 0] 130)).heap.size=(w2.setCell ⟨W1.heap.size,5,none⟩ (O (some ⟨g2,0,none⟩) 2 k2)).heap.size+1:=alS _ _
  have h3:=HG2.o
  omega
 obtain ⟨W3,hW3⟩:=nm (w3.setCell ⟨W1.heap.size,7,none⟩ (O (some ⟨g3,0,none⟩) 3 k3))
 have h3S:Sm3 bi bo g2 g3 W3:=by
  rw [hW3]
  exact ⟨Ad.other (HI2.o.over hb3) HNE.o.2.1,Ad.other (HO2.o.over hb3) HNE.o.2.2,Ad.other (HV2.o.over hb3) (by have h1:=HG2.o;omega),Ad.other hr3 hgn⟩
 have hp3:Ad [zd U 1,O none 0 0,O none 0 0,O (some ⟨bi,0,none⟩) 1 1,O (some ⟨bo,0,none⟩) 1 1,O (some ⟨g2,0,none⟩) 2 k2,O none 0 0,O (some ⟨g3,0,none⟩) 3 k3] W3 W1.heap.size:=by
  rw [hW3]
  have h2:=(HP2.o.over hb3).set (j:=7) (v:=O (some ⟨g3,0,none⟩) 3 k3) (by simp)
  simpa using h2
 have HB3:Hx (Ov w W3):=by show Ov _ _;rw [hW3];exact (HBB.o.trans (hb3.mono HBB.o.size)).setCell HWW.o _
 have K4:=Aa (Mr bi bo g2 g3 k2 k3 W3 h3S)
 have H3S:=Aa h3S
 have HP3:=Aa hp3
 clear hown3 hgr3 hg3 hg3l hr3 hb3 hgn h3S hp3 HB2 HS2 HR2 HM2 HN2 HP2 HI2 HO2 HV2 HF2 HBB p0 p1 p2 p3 p4 p5 p6 p7 z5 z7
 go_wp2_with fail
 rw [<-hW3]
 clear hW3 r0 r1 r2 r3 r4 r5 r6 r7 z7'
 refine K4.o.mono ?_
 rintro e W4 ⟨b1,b2,b3,rfl,m1,m2,m3,hb4⟩
 obtain ⟨r0,r1,r2,r3,r4,r5,r6,r7⟩:=rc8 (HP3.o.over hb4)
 have K5:=Aa (Mk bi bo g2 g3 k2 k3 W4 ⟨H3S.o.ins.over hb4,H3S.o.outs.over hb4,H3S.o.vars.over hb4,H3S.o.main.over hb4⟩)
 have HB4:Hx (Ov w W4):=HB3.o.trans (hb4.mono HB3.o.size)
 have M1:=Aa m1
 have M2:=Aa m2
 have M3:=Aa m3
 clear hb4 m1 m2 m3 K4
 go_wp2_with fail
 refine K5.o.mono ?_
 rintro e W5 ⟨a1,n1,c1,a2,n2,c2,a3,n3,c3,a4,n4,c4,a5,n5,c5,a6,n6,c6,a7,c7,rfl,hb5⟩
 obtain ⟨W6,hW6⟩:=nm (W5.alloc (zf #[zd U 1,O a1 n1 c1,O a2 n2 c2,O a3 n3 c3,O a4 n4 c4,O a5 n5 c5,O a6 n6 c6,O a7 2 c7] 31))
 have hb6:Ov W5 W6:=by rw [hW6];exact bA _ _
 have hq6:Ad [zd U 1,O a1 n1 c1,O a2 n2 c2,O a3 n3 c3,O a4 n4 c4,O a5 n5 c5,O a6 n6 c6,O a7 2 c7] W6 W5.heap.size:=by rw [hW6];exact Ay W5 [zd U 1,O a1 n1 c1,O a2 n2 c2,O a3 n3 c3,O a4 n4 c4,O a5 n5 c5,O a6 n6 c6,O a7 2 c7] 31
 have hs6:W6.heap.size=W5.heap.size+1:=by rw [hW6];exact alS _ _
 have hb46:Ov W4 W6:=hb5.trans (hb6.mono hb5.size)
 have HB6:Hx (Ov w W6):=HB4.o.trans (hb46.mono HB4.o.size)
 have N1:=Aa (M1.o.over hb46)
 have N2:=Aa (M2.o.over hb46)
 have N3:=Aa (M3.o.over hb46)
 have HQ6:=Aa hq6
 clear hb5 hb6 hq6 hb46 K5 r0 r1 r2 r3 r4 r5 r6 r7
 obtain ⟨Z1,hZ1⟩:=nm (W6.alloc (zf #[ze true,ze false] 4))
 have hbz1:Ov W6 Z1:=by rw [hZ1];exact bA _ _
 have hrz1:Ad ([true,false].map Value.bool) Z1 (W5.heap.size+1):=by rw [hZ1,<-hs6];exact Ay W6 ([true,false].map Value.bool) 4
 have KZ1:=Aa (EH [true,false] _ _ Z1 (Cx (N1.o.over hbz1) (by decide)) (Cx hrz1 (by decide)) (by decide))
 have HBZ1:=Aa hbz1
 clear hbz1 hrz1
 go_wp2_with fail
 rw [<-hW6]
 rw [<-hZ1]
 clear hZ1 hW6
 refine KZ1.o.mono ?_
 rintro e Y1 ⟨rfl,hy⟩
 have HBY1:Hx (Ov W6 Y1):=HBZ1.o.trans (hy.mono HBZ1.o.size)
 clear hy KZ1
 have N21:=Aa (N2.o.over HBY1.o)
 have N31:=Aa (N3.o.over HBY1.o)
 obtain ⟨Z2,hZ2⟩:=nm (Y1.alloc (zf #[ze true] 4))
 have hbz2:Ov Y1 Z2:=by rw [hZ2];exact bA _ _
 have hrz2:Ad ([true].map Value.bool) Z2 (Y1.heap.size):=by rw [hZ2];exact Ay Y1 ([true].map Value.bool) 4
 have KZ2:=Aa (EH [true] _ _ Z2 (Cx (N21.o.over hbz2) (by decide)) (Cx hrz2 (by decide)) (by decide))
 have HBZ2:=Aa hbz2
 clear hbz2 hrz2
 go_wp2_with fail
 rw [<-hZ2]
 clear hZ2
 refine KZ2.o.mono ?_
 rintro e Y2 ⟨rfl,hy⟩
 have HBY2:Hx (Ov Y1 Y2):=HBZ2.o.trans (hy.mono HBZ2.o.size)
 clear hy KZ2
 have N32:=Aa (N31.o.over HBY2.o)
 obtain ⟨Z3,hZ3⟩:=nm (Y2.alloc (zf #[ze true,ze true,ze false] 4))
 have hbz3:Ov Y2 Z3:=by rw [hZ3];exact bA _ _
 have hrz3:Ad ([true,true,false].map Value.bool) Z3 (Y2.heap.size):=by rw [hZ3];exact Ay Y2 ([true,true,false].map Value.bool) 4
 have KZ3:=Aa (EH [true,true,false] _ _ Z3 (Cx (N32.o.over hbz3) (by decide)) (Cx hrz3 (by decide)) (by decide))
 have HBZ3:=Aa hbz3
 clear hbz3 hrz3
 go_wp2_with fail
 rw [<-hZ3]
 clear hZ3
 refine KZ3.o.mono ?_
 rintro e Y3 ⟨rfl,hy⟩
 have HBY3:Hx (Ov Y2 Y3):=HBZ3.o.trans (hy.mono HBZ3.o.size)
 clear hy KZ3
 have hB:Ov W6 Y3:=(HBY1.o.trans (HBY2.o.mono HBY1.o.size)).trans (HBY3.o.mono (HBY1.o.trans (HBY2.o.mono HBY1.o.size)).size)
 obtain ⟨-,-,-,-,-,-,-,t7⟩:=rc8 (HQ6.o.over hB)
 have HBF:Hx (Ov w Y3):=HB6.o.trans (hB.mono HB6.o.size)
 clear hB
 go_wp2_with fail
 go_ret
 exact ⟨rfl,HBF.o⟩
end Go.Proofs.YtfffpjkcfnekaaaGreat.Ex
