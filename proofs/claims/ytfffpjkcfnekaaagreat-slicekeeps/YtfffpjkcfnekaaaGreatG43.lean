/- A program is sliced. -/
import Derived.Test.YtfffpjkcfnekaaaGreatG42
import Derived.ArgAppend
set_option linter.unusedVariables false
set_option maxHeartbeats 8000000
set_option maxRecDepth 100000
namespace Go.Proofs.YtfffpjkcfnekaaaGreat.Ex
open Go.RowKit
open Go.Value renaming slice -> O, int -> zd, bool -> ze, agg -> zg, pointer -> zi, tuple -> zj
open Go.IntKind renaming i64 -> U
open Go.Obj renaming cells -> zf
open Go.Ending renaming returned -> zh
theorem E4 {K kf:Nat} {m:Int} {ga:Option Addr} {gn gc:Nat} {sa:Option Addr} {sn sc:Nat} {ya:Option Addr} {yn yc:Nat} {oa:Option Addr} {on oc:Nat} {va:Option Addr} {vn vc:Nat} {fa:Option Addr} {fn fc:Nat} {ba:Option Addr} {bn bd:Nat} {gs:List (Int × Int)} {sp:List Int} {ls ms:List Lab} {vs:List (Bool × Lab)} {fs:List FnD} {l:List D} {w:World} (h:A1 K kf m ga gn gc sa sn sc ya yn yc oa on oc va vn vc fa fn fc ba bn bd gs sp ls ms vs fs l w):gn=gs.length/\sn=sp.length/\yn=ls.length/\on=ms.length/\vn=vs.length/\fn=fs.length/\bn=l.length:=by
 obtain ⟨_,_,e1,-⟩:=h.grants
 obtain ⟨_,_,e2,-⟩:=h.speak
 obtain ⟨-,_,_,e3,-⟩:=h.ins
 obtain ⟨-,_,_,e4,-⟩:=h.outs
 obtain ⟨-,_,_,e5,-⟩:=h.vars
 obtain ⟨-,_,_,e6,-⟩:=h.funcs
 obtain ⟨-,_,_,e7,-⟩:=h.main
 injection e1 with _ e1
 injection e2 with _ e2
 injection e3 with _ e3
 injection e4 with _ e4
 injection e5 with _ e5
 injection e6 with _ e6
 injection e7 with _ e7
 exact ⟨e1,e2,e3,e4,e5,e6,e7⟩
theorem G3 (K kf:Nat) (m:Int) (ga gn gc sa sn sc ya yn yc oa on oc va vn vc fa fn fc ba bn bd gs sp ls ms vs fs l) (ch:Int) (w:World) (h:A1 K kf m ga gn gc sa sn sc ya yn yc oa on oc va vn vc fa fn fc ba bn bd gs sp ls ms vs fs l w) (nd:List Bool) (hnd:nd=(AY ch K kf fs l vn yn).nd) :
  Calls Tryz.prog 29 #[zg #[zd U m,O ga gn gc,O sa sn sc,O ya yn yc,O oa on oc,O va vn vc,O fa fn fc,O ba bn bd],zd U ch] w fun e w'=>Ov w w'/\∃ why:Int,(why=0 ↔ Ey.xP K kf m vn yn on sn gs sp ls ms vs fs l/\0<=ch/\ch < on)/\((why≠0/\e=zh (zj #[zg #[zd U 0,O none 0 0,O none 0 0,O none 0 0,O none 0 0,O none 0 0,O none 0 0,O none 0 0],zd U why]))\/(why=0/\∃ (ga2:Option Addr) (gc2:Nat) (sa2:Option Addr) (sc2:Nat) (ya2:Option Addr) (yc2:Nat) (oa2:Option Addr) (oc2:Nat) (va2:Option Addr) (vc2:Nat) (fa2:Option Addr) (fc2:Nat) (ba2:Option Addr) (bd2:Nat),e=zh (zj #[zg #[zd U m,O ga2 gs.length gc2,O sa2 sp.length sc2,O ya2 ls.length yc2,O oa2 ms.length oc2,O va2 vs.length vc2,O fa2 fs.length fc2,O ba2 (AF nd kf l (Am kf fs)).length bd2],zd U 0])/\A1 K kf m ga2 gs.length gc2 sa2 sp.length sc2 ya2 ls.length yc2 oa2 ms.length oc2 va2 vs.length vc2 fa2 fs.length fc2 ba2 (AF nd kf l (Am kf fs)).length bd2 gs sp ls ms vs (Bi nd kf fs) (AF nd kf l (Am kf fs)) w')):=by
 have hb1:Ov w ((w.alloc (zf #[zd U m,O ga gn gc,O sa sn sc,O ya yn yc,O oa on oc,O va vn vc,O fa fn fc,O ba bn bd] 31)).alloc (zf #[zd U 0,O none 0 0,O none 0 0,O none 0 0,O none 0 0,O none 0 0,O none 0 0,O none 0 0] 31)):=(bA w _).alloc (by simp) _
 obtain ⟨V,hV⟩:=nm ((w.alloc (zf #[zd U m,O ga gn gc,O sa sn sc,O ya yn yc,O oa on oc,O va vn vc,O fa fn fc,O ba bn bd] 31)).alloc (zf #[zd U 0,O none 0 0,O none 0 0,O none 0 0,O none 0 0,O none 0 0,O none 0 0,O none 0 0] 31))
 have hrV:Af [zd U m,O ga gn gc,O sa sn sc,O ya yn yc,O oa on oc,O va vn vc,O fa fn fc,O ba bn bd] V w.heap.size:=by rw [hV];exact Af.over (Az w [zd U m,O ga gn gc,O sa sn sc,O ya yn yc,O oa on oc,O va vn vc,O fa fn fc,O ba bn bd] 31) (bA _ _)
 have hs1:(w.alloc (zf #[zd U m,O ga gn gc,O sa sn sc,O ya yn yc,O oa on oc,O va vn vc,O fa fn fc,O ba bn bd] 31)).heap.size=w.heap.size+1:=by simp
 have hz8:Z8 (w.heap.size+1) V:=by rw [hV,<-hs1];exact IC 31 _
 have hsV:V.heap.size=w.heap.size+2:=by rw [hV];simp
 rw [<-hV] at hb1
 have K1:=Aa (Hn K kf m ga gn gc sa sn sc ya yn yc oa on oc va vn vc fa fn fc ba bn bd gs sp ls ms vs fs l ch V (h.over hb1))
 obtain ⟨c0,c1,c2,c3,c4,c5,c6,c7⟩:=rc8 hrV
 have HP:=Aa h
 have HB1:=Aa hb1
 have HRV:=Aa hrV
 have HZ8:=Aa hz8
 have HSV:=Aa hsV
 have HND:=Aa hnd
 clear h hb1 hrV hz8 hsV hs1 hnd
 go_enter Tryz.func29,Tryz.ntmps29
 go_wp2_with fail
 rw [<-hV]
 clear hV
 refine K1.o.mono ?_
 rintro e W1 ⟨why,rfl,hwhy,hb2⟩
 have hB:Ov w W1:=HB1.o.trans (hb2.mono HB1.o.size)
 obtain ⟨d0,d1,d2,d3,d4,d5,d6,d7⟩:=rc8 (HRV.o.over hb2)
 have hz1:=HZ8.o.over hb2
 obtain ⟨e0,e1,e2,e3,e4,e5,e6,e7⟩:=rc8 hz1.row
 have f0:=hz1.fz 0
 have f1:=hz1.fz 1
 have f2:=hz1.fz 2
 have f3:=hz1.fz 3
 have f4:=hz1.fz 4
 have f5:=hz1.fz 5
 have f6:=hz1.fz 6
 have f7:=hz1.fz 7
 have HB:=Aa hB
 have HZ1:=Aa hz1
 have HWH:=Aa hwhy
 have HB2:=Aa hb2
 clear c0 c1 c2 c3 c4 c5 c6 c7 hb2 K1 hB hz1 hwhy
 by_cases z:why=0
 rotate_left
 ·have zb:(why == 0)=false:=by simpa using z
  have HZN:Hx (why≠0):=z
  clear z
  go_wp2_with fail
  have hrF:=HZ1.o.fill (zd U 0) (O none 0 0) (O none 0 0) (O none 0 0) (O none 0 0) (O none 0 0) (O none 0 0) (O none 0 0)
  unfold Gf at hrF
  obtain ⟨r0,r1,r2,r3,r4,r5,r6,r7⟩:=rc8 hrF
  refine bodyPost_ret (v:=zj #[zg #[zd U 0,O none 0 0,O none 0 0,O none 0 0,O none 0 0,O none 0 0,O none 0 0,O none 0 0],zd U why]) (by simp [results,Tryz.results29,go_sem,r0,r1,r2,r3,r4,r5,r6,r7]) rfl ?_
  exact ⟨((((((((HB.o.setCell (by simp) _).setCell (by simp) _).setCell (by simp) _).setCell (by simp) _).setCell (by simp) _).setCell (by simp) _).setCell (by simp) _).setCell (by simp) _),why,HWH.o,Or.inl ⟨HZN.o,rfl⟩⟩
 subst z
 have hX:=(HWH.o.1 rfl).1
 obtain ⟨q1,q2,q3,q4,q5,q6,q7⟩:=E4 HP.o
 have hfew:=Kl hX q5 q3 q4 q2
 have hln:=(G6 hX ch).2.1
 have hm:=hX.many.1
 have HF:=Aa hfew
 have HL:Hx (nd.length=Am kf fs+Ai kf l/\nd.length<=1000):=by
  have h1:nd.length=Am kf fs+Ai kf l:=by rw [HND.o];exact hln.nd
  exact ⟨h1,by omega⟩
 have KN:=Aa (E5 K kf m ga gn gc sa sn sc ya yn yc oa on oc va vn vc fa fn fc ba bn bd gs sp ls ms vs fs l ch W1 (HP.o.over HB.o) hX)
 clear hX hfew hln hm q1 q2 q3 q4 q5 q6 q7
 go_wp2_with fail
 refine KN.o.mono ?_
 rintro e W2 ⟨b,bv,bi,bs,cv,fv,wn,rfl,hNI,hsz,hb3⟩
 have n13:W2.cell? ⟨b,13,none⟩=some (O (some ⟨bs,0,none⟩) nd.length nd.length):=by rw [HND.o];exact hNI.row 13 _ rfl
 have hnr:Af (nd.map Value.bool) W2 bs:=by rw [HND.o];exact hNI.nd
 have hbsl:bs < W2.heap.size:=(hNI.fz bs (Or.inr (Or.inr (Or.inr rfl)))).2.1
 obtain ⟨nl,hnl⟩:=nm nd.length
 rw [<-hnl] at n13
 have hba:Ov W2 (W2.alloc (zf #[O (some ⟨bs,0,none⟩) nl nl,zd U 0] 160)):=bA _ _
 obtain ⟨W3,hW3⟩:=nm (W2.alloc (zf #[O (some ⟨bs,0,none⟩) nl nl,zd U 0] 160))
 have hrc:Af [O (some ⟨bs,0,none⟩) nl nl,zd U 0] W3 W2.heap.size:=by rw [hW3];exact Az W2 [O (some ⟨bs,0,none⟩) nl nl,zd U 0] 160
 have hfc:∀ j,W3.frozen? ⟨W2.heap.size,j,none⟩=false:=fun j=>by rw [hW3];simp [go_sem]
 rw [<-hW3] at hba
 have hCI:CI bs nd W2.heap.size 0 W3:=⟨by rw [<-hnl];exact hrc,hfc,hnr.over hba,by omega⟩
 have hb13:Ov W1 W3:=hb3.trans (hba.mono hb3.size)
 have KP:=Aa (Ko K kf bs nd m ga gn gc sa sn sc ya yn yc oa on oc va vn vc fa fn fc ba bn bd gs sp ls ms vs fs l W2 W3 W2.heap.size ((HP.o.over HB.o).over hb3) HF.o HL.o.2 (by rw [HL.o.1];exact Nat.le_refl _) hba (Nat.le_refl _) hCI (Or.inl (Nat.lt_of_lt_of_le hbsl hba.size)))
 obtain ⟨d0,d1,d2,d3,d4,d5,d6,d7⟩:=co8 (Ag hb3 (bA W2 (zf #[O (some ⟨bs,0,none⟩) nl nl,zd U 0] 160))) d0 d1 d2 d3 d4 d5 d6 d7
 have HB23:=Aa hb3
 have HB13:=Aa hb13
 clear hnr hNI hsz hb3 hbsl hnl hrc hfc hba hCI hb13 e0 e1 e2 e3 e4 e5 e6 e7 f0 f1 f2 f3 f4 f5 f6 f7 KN
 go_wp2_with fail
 rw [<-hW3]
 clear hW3 n13
 refine KP.o.mono ?_
 rintro e W4 ⟨ga2,gc2,sa2,sc2,ya2,yc2,oa2,oc2,va2,vc2,fa2,fc2,ba2,bd2,rfl,hPA,hb4⟩
 have hb14:Ov W1 W4:=HB23.o.trans (hb4.mono HB23.o.size)
 have hz4:=HZ1.o.over hb14
 obtain ⟨e0,e1,e2,e3,e4,e5,e6,e7⟩:=rc8 hz4.row
 have f0:=hz4.fz 0
 have f1:=hz4.fz 1
 have f2:=hz4.fz 2
 have f3:=hz4.fz 3
 have f4:=hz4.fz 4
 have f5:=hz4.fz 5
 have f6:=hz4.fz 6
 have f7:=hz4.fz 7
 have HZ4:=Aa hz4
 have HPA:=Aa hPA
 have HLT:Hx (w.heap.size+1 < W3.heap.size):=by show _ < _;have h1:=HSV.o;have h2:=HB2.o.size;have h3:=HB13.o.size;omega
 have HB14:Hx (Ov w W4):=HB.o.trans (hb14.mono HB.o.size)
 obtain ⟨gl,hgl⟩:=nm gs.length
 obtain ⟨sl,hsl⟩:=nm sp.length
 obtain ⟨yl,hyl⟩:=nm ls.length
 obtain ⟨ol,hol⟩:=nm ms.length
 obtain ⟨vl,hvl⟩:=nm vs.length
 obtain ⟨fl,hfl⟩:=nm fs.length
 obtain ⟨bl,hbl⟩:=nm (AF nd kf l (Am kf fs)).length
 rw [<-hgl,<-hsl,<-hyl,<-hol,<-hvl,<-hfl,<-hbl]
 have HNM:=Aa (And.intro hgl (And.intro hsl (And.intro hyl (And.intro hol (And.intro hvl (And.intro hfl hbl))))))
 clear hPA hb4 hb14 hz4 d0 d1 d2 d3 d4 d5 d6 d7 hgl hsl hyl hol hvl hfl hbl
 go_wp2_with fail
 have hrF:=HZ4.o.fill (zd U m) (O ga2 gl gc2) (O sa2 sl sc2) (O ya2 yl yc2) (O oa2 ol oc2) (O va2 vl vc2) (O fa2 fl fc2) (O ba2 bl bd2)
 unfold Gf at hrF
 obtain ⟨r0,r1,r2,r3,r4,r5,r6,r7⟩:=rc8 hrF
 refine bodyPost_ret (v:=zj #[zg #[zd U m,O ga2 gl gc2,O sa2 sl sc2,O ya2 yl yc2,O oa2 ol oc2,O va2 vl vc2,O fa2 fl fc2,O ba2 bl bd2],zd U 0]) (by simp [results,Tryz.results29,go_sem,r0,r1,r2,r3,r4,r5,r6,r7]) rfl ?_
 refine ⟨((((((((HB14.o.setCell (by simp) _).setCell (by simp) _).setCell (by simp) _).setCell (by simp) _).setCell (by simp) _).setCell (by simp) _).setCell (by simp) _).setCell (by simp) _),0,⟨fun _=>HWH.o.1 trivial,fun _=>rfl⟩,Or.inr ⟨rfl,ga2,gc2,sa2,sc2,ya2,yc2,oa2,oc2,va2,vc2,fa2,fc2,ba2,bd2,by rw [HNM.o.1,HNM.o.2.1,HNM.o.2.2.1,HNM.o.2.2.2.1,HNM.o.2.2.2.2.1,HNM.o.2.2.2.2.2.1,HNM.o.2.2.2.2.2.2],?_⟩⟩
 exact ((((((((HPA.o.set (b:=w.heap.size+1) (j:=0) (u:=zd U m) HLT.o).set (b:=w.heap.size+1) (j:=1) (u:=O ga2 gl gc2) HLT.o).set (b:=w.heap.size+1) (j:=2) (u:=O sa2 sl sc2) HLT.o).set (b:=w.heap.size+1) (j:=3) (u:=O ya2 yl yc2) HLT.o).set (b:=w.heap.size+1) (j:=4) (u:=O oa2 ol oc2) HLT.o).set (b:=w.heap.size+1) (j:=5) (u:=O va2 vl vc2) HLT.o).set (b:=w.heap.size+1) (j:=6) (u:=O fa2 fl fc2) HLT.o).set (b:=w.heap.size+1) (j:=7) (u:=O ba2 bl bd2) HLT.o).self
theorem JZ (K kf:Nat) (m:Int) (ga gn gc sa sn sc ya yn yc oa on oc va vn vc fa fn fc ba bn bd gs sp ls ms vs fs l) (ch:Int) (w:World) (h:A1 K kf m ga gn gc sa sn sc ya yn yc oa on oc va vn vc fa fn fc ba bn bd gs sp ls ms vs fs l w) :
  Calls Tryz.prog 33 #[zg #[zd U m,O ga gn gc,O sa sn sc,O ya yn yc,O oa on oc,O va vn vc,O fa fn fc,O ba bn bd],zd U ch] w fun e w'=>Ov w w'/\∃ why:Int,(why=0 ↔ Ey.xP K kf m vn yn on sn gs sp ls ms vs fs l/\0<=ch/\ch < on)/\((why≠0/\e=zh (zj #[O none 0 0,O none 0 0,O none 0 0,zd U why]))\/(why=0/\∃ bv bi bs,e=zh (zj #[O (some ⟨bv,0,none⟩) (AY ch K kf fs l vn yn).vs.length (AY ch K kf fs l vn yn).vs.length,O (some ⟨bi,0,none⟩) (AY ch K kf fs l vn yn).cs.length (AY ch K kf fs l vn yn).cs.length,O (some ⟨bs,0,none⟩) (AY ch K kf fs l vn yn).nd.length (AY ch K kf fs l vn yn).nd.length,zd U 0])/\Af ((AY ch K kf fs l vn yn).vs.map Value.bool) w' bv/\Af ((AY ch K kf fs l vn yn).cs.map Value.bool) w' bi/\Af ((AY ch K kf fs l vn yn).nd.map Value.bool) w' bs)):=by
 have hb1:Ov w (w.alloc (zf #[zd U m,O ga gn gc,O sa sn sc,O ya yn yc,O oa on oc,O va vn vc,O fa fn fc,O ba bn bd] 31)):=bA w _
 obtain ⟨V,hV⟩:=nm (w.alloc (zf #[zd U m,O ga gn gc,O sa sn sc,O ya yn yc,O oa on oc,O va vn vc,O fa fn fc,O ba bn bd] 31))
 have hrV:Af [zd U m,O ga gn gc,O sa sn sc,O ya yn yc,O oa on oc,O va vn vc,O fa fn fc,O ba bn bd] V w.heap.size:=by rw [hV];exact Az w [zd U m,O ga gn gc,O sa sn sc,O ya yn yc,O oa on oc,O va vn vc,O fa fn fc,O ba bn bd] 31
 rw [<-hV] at hb1
 have K1:=Aa (Hn K kf m ga gn gc sa sn sc ya yn yc oa on oc va vn vc fa fn fc ba bn bd gs sp ls ms vs fs l ch V (h.over hb1))
 obtain ⟨c0,c1,c2,c3,c4,c5,c6,c7⟩:=rc8 hrV
 have HP:=Aa h
 have HB1:=Aa hb1
 have HRV:=Aa hrV
 clear h hb1 hrV
 go_enter Tryz.func33,Tryz.ntmps33
 go_wp2_with fail
 rw [<-hV]
 clear hV
 refine K1.o.mono ?_
 rintro e W1 ⟨why,rfl,hwhy,hb2⟩
 have hB:Ov w W1:=HB1.o.trans (hb2.mono HB1.o.size)
 obtain ⟨d0,d1,d2,d3,d4,d5,d6,d7⟩:=rc8 (HRV.o.over hb2)
 have HB:=Aa hB
 have HWH:=Aa hwhy
 clear c0 c1 c2 c3 c4 c5 c6 c7 hb2 K1 hB hwhy
 by_cases z:why=0
 rotate_left
 ·have zb:(why == 0)=false:=by simpa using z
  have HZN:Hx (why≠0):=z
  clear z
  go_wp2_with fail
  refine bodyPost_ret (v:=zj #[O none 0 0,O none 0 0,O none 0 0,zd U why]) (by simp [results,Tryz.results33,go_sem]) rfl ?_
  exact ⟨HB.o,why,HWH.o,Or.inl ⟨HZN.o,rfl⟩⟩
 subst z
 have KN:=Aa (E5 K kf m ga gn gc sa sn sc ya yn yc oa on oc va vn vc fa fn fc ba bn bd gs sp ls ms vs fs l ch W1 (HP.o.over HB.o) (HWH.o.1 rfl).1)
 go_wp2_with fail
 refine KN.o.mono ?_
 rintro e W2 ⟨b,bv,bi,bs,cv,fv,wn,rfl,hNI,hsz,hb3⟩
 obtain ⟨n1,hn1⟩:=nm (AY ch K kf fs l vn yn).vs.length
 obtain ⟨n2,hn2⟩:=nm (AY ch K kf fs l vn yn).cs.length
 obtain ⟨n3,hn3⟩:=nm (AY ch K kf fs l vn yn).nd.length
 have k1:W2.cell? ⟨b,11,none⟩=some (O (some ⟨bv,0,none⟩) n1 n1):=by rw [hn1];exact hNI.row 11 _ rfl
 have k2:W2.cell? ⟨b,12,none⟩=some (O (some ⟨bi,0,none⟩) n2 n2):=by rw [hn2];exact hNI.row 12 _ rfl
 have k3:W2.cell? ⟨b,13,none⟩=some (O (some ⟨bs,0,none⟩) n3 n3):=by rw [hn3];exact hNI.row 13 _ rfl
 have HNI:=Aa hNI
 have HB3:=Aa hb3
 have HNL:=Aa (And.intro hn1 (And.intro hn2 hn3))
 clear hNI hsz hb3 hn1 hn2 hn3 d0 d1 d2 d3 d4 d5 d6 d7 KN
 go_wp2_with fail
 refine gS (fun Wz=>Below W2.heap.size W2 Wz) (Below.refl _ _).drew fun hHeld=>?_
 generalize W2.drew=W at hHeld ⊢
 refine kO 0 ?_
 refine kO 1 ?_
 refine kO 2 ?_
 refine kO 3 ?_
 refine kO 4 ?_
 refine kO 5 ?_
 refine kO 6 ?_
 refine kO 7 ?_
 refine kO 8 ?_
 refine kO 9 ?_
 refine kO 10 ?_
 refine kO 11 ?_
 refine kO 12 ?_
 refine kO 13 ?_
 refine kO 14 ?_
 refine kO 15 ?_
 refine gE ?_
 go_wp2_with fail
 refine bodyPost_ret (v:=zj #[O (some ⟨bv,0,none⟩) n1 n1,O (some ⟨bi,0,none⟩) n2 n2,O (some ⟨bs,0,none⟩) n3 n3,zd U 0]) (by simp [results,Tryz.results33,go_sem]) rfl ?_
 exact ⟨HB.o.trans ((HB3.o.trans (hHeld.mono HB3.o.size)).mono HB.o.size),0,⟨fun _=>HWH.o.1 trivial,fun _=>rfl⟩,Or.inr ⟨rfl,bv,bi,bs,by rw [HNL.o.1,HNL.o.2.1,HNL.o.2.2],HNI.o.vs.over hHeld,HNI.o.cs.over hHeld,HNI.o.nd.over hHeld⟩⟩
def F0:BA where
 fn:=66
 fre:=[]
 cap:=[]
 ent:=fun args w=>by simp [go_sem]
 ob:=AB
 In:=fun _ _ X _=>∀ k,¬ X k
 ok:=fun _ _=>True
 lt:=fun h k hk=>absurd hk (h k)
 kept:=fun h _ _ _ _ _ _ _=>h
 less:=fun _=>trivial
theorem IY (w0:World) (K nv ni no:Nat) (fs):JJ F0 w0 K nv ni no fs:=by
 intro Y s X W kind a dp k cs d funcs hI hB hrs hf ho ha0 ha1 hdp hok hk
 obtain ⟨k',rfl⟩:∃ k',k=k' + 1:=by
  cases k with
  | zero=>exact hrs.elim
  | succ k=>exact ⟨k,rfl⟩
 obtain ⟨ek,ex,pa,pl,pc,aa,ac,ta,tc,ea,ec,rfl,-,-,-,-,-,-,-,-,-,-⟩:=hrs.form
 show Calls Tryz.prog 66 #[zg #[zd U kind,zd U a,zd U dp,zd U (Ad d),zd U (Aq d),zd U (Ac d),zd U ek,zd U ex,O pa pl pc,O aa (Ak d).length ac,O ta (Ae d).length tc,O ea (Aj d).length ec]] W fun e W'=>e=zh (ze true)/\∃ X':Nat->Prop,(∀ k,¬ X' k)/\(∀ k,X' k->X k\/W.heap.size<=k)/\FrX X W W'/\True/\(true=true->(kind=1/\(Ad d=7\/Ad d=8))\/kind=2->True)
 have hI':∀ k,¬ X k:=hI
 have HI:=Aa hI'
 clear hI hI' hrs ho hok hk hB
 go_enter Tryz.func66,Tryz.ntmps66
 go_wp2_with fail
 go_ret
 exact ⟨rfl,X,HI.o,fun k hk=>Or.inl hk,⟨rfl,rfl,rfl,by simp,fun k hk _=>heap_alloc_old W _ hk⟩,trivial,fun _ _=>trivial⟩
abbrev My (ev:Value) (b1 b2 vn yn:Nat) (r:RSt):Value:=zg #[ev,O (some ⟨b1,0,none⟩) vn vn,O (some ⟨b2,0,none⟩) yn yn,zd U (r.steps:Int),zd U r.en,zd U r.sp]
structure Gm (B:Nat) (vn yn F:Nat) (r:RSt) (ev:Value) (b1 b2:Nat) (w:World):Prop where
 own:w.ownsRow B 136 4 ev r.ev.length (Bh r.ev)
 vars:Af (AZ r.vars) w b1
 taken:Af (AZ r.taken) w b2
 num:AX vn yn F r
theorem Gm.other {B vn yn F:Nat} {r:RSt} {ev:Value} {b1 b2:Nat} {w:World} (h:Gm B vn yn F r ev b1 b2 w) {b:Nat} (h1:b1≠b) (h2:b2≠b) (h3:ev.ownBlock≠some b) (j:Nat) (v:Value):Gm B vn yn F r ev b1 b2 (w.setCell ⟨b,j,none⟩ v):=
 ⟨h.own.kept Br (Or.inr h3),h.vars.other h1,h.taken.other h2,h.num⟩
def o0:WSt:=⟨[],[]⟩
def Hq (K kf:Nat) (m:Int) (vn yn on sn:Nat) (gs:List (Int × Int)) (sp:List Int) (ls ms:List Lab) (vs:List (Bool × Lab)) (fs:List FnD) (l:List D) (ins:List (List Int)) (fuel:Int) (w:World) (e:Ending) (w':World):Prop:=
 ∃ why:Int,L0 why K kf m vn yn on sn gs sp ls ms vs fs l ins fuel/\Ov w w'/\((why≠0/\e=zh (zj #[zg #[O none 0 0,O none 0 0,O none 0 0,zd U 0,zd U 0,zd U 0],zd U why])) \/
  (why=0/\∃ ev b1 b2,e=zh (zj #[My ev b1 b2 vn yn (Cc K kf fs fuel.toNat ins AB l vn yn o0),zd U 0])/\Gm w.heap.size vn yn fuel.toNat (Cc K kf fs fuel.toNat ins AB l vn yn o0) ev b1 b2 w'))
theorem FG (K kf:Nat) (m:Int) (ga gn gc sa sn sc ya yn yc oa on oc va vn vc fa fn fc ba bn bc) (xa xn xc) (ins) (fuel:Int) (gs sp ls ms vs fs l) (w:World) (h:A1 K kf m ga gn gc sa sn sc ya yn yc oa on oc va vn vc fa fn fc ba bn bc gs sp ls ms vs fs l w) (hx:Bo w (O xa xn xc) ins) :
  Calls Tryz.prog 18 #[zg #[zd U m,O ga gn gc,O sa sn sc,O ya yn yc,O oa on oc,O va vn vc,O fa fn fc,O ba bn bc],O xa xn xc,zd U fuel] w (Hq K kf m vn yn on sn gs sp ls ms vs fs l ins fuel w):=by
 have hbel:Ov w ((w.alloc (zf #[zd U m,O ga gn gc,O sa sn sc,O ya yn yc,O oa on oc,O va vn vc,O fa fn fc,O ba bn bc] 31)).alloc (zf #[O none 0 0,O none 0 0,O none 0 0,zd U 0,zd U 0,zd U 0] 55)):=(bA w _).alloc (by simp) _
 have HP:=Aa (h.over hbel)
 have HX:=Aa (hx.over hbel)
 have K1:=Aa (Kx K kf m ga gn gc sa sn sc ya yn yc oa on oc va vn vc fa fn fc ba bn bc xa xn xc ins fuel gs sp ls ms vs fs l _ HP.o HX.o)
 obtain ⟨c0,c1,c2,c3,c4,c5,c6,c7⟩:=rc8 (Cn w [zd U m,O ga gn gc,O sa sn sc,O ya yn yc,O oa on oc,O va vn vc,O fa fn fc,O ba bn bc] 31 (zf #[O none 0 0,O none 0 0,O none 0 0,zd U 0,zd U 0,zd U 0] 55))
 have HO0:Hx (Af [O none 0 0,O none 0 0,O none 0 0,zd U 0,zd U 0,zd U 0] ((w.alloc (zf #[zd U m,O ga gn gc,O sa sn sc,O ya yn yc,O oa on oc,O va vn vc,O fa fn fc,O ba bn bc] 31)).alloc (zf #[O none 0 0,O none 0 0,O none 0 0,zd U 0,zd U 0,zd U 0] 55)) (w.heap.size+1)/\∀ j,((w.alloc (zf #[zd U m,O ga gn gc,O sa sn sc,O ya yn yc,O oa on oc,O va vn vc,O fa fn fc,O ba bn bc] 31)).alloc (zf #[O none 0 0,O none 0 0,O none 0 0,zd U 0,zd U 0,zd U 0] 55)).frozen? ⟨w.heap.size+1,j,none⟩=false):=by
  refine ⟨?_,fun j=>by simp [go_sem]⟩
  have:=Af.newA #[O none 0 0,O none 0 0,O none 0 0,zd U 0,zd U 0,zd U 0] 55 (w.alloc (zf #[zd U m,O ga gn gc,O sa sn sc,O ya yn yc,O oa on oc,O va vn vc,O fa fn fc,O ba bn bc] 31))
  simpa using this
 have hfl:fn=fs.length:=by obtain ⟨-,a,c,he,-⟩:=h.funcs;injection he
 have HFL:=Aa hfl
 have hszA:((w.alloc (zf #[zd U m,O ga gn gc,O sa sn sc,O ya yn yc,O oa on oc,O va vn vc,O fa fn fc,O ba bn bc] 31)).alloc (zf #[O none 0 0,O none 0 0,O none 0 0,zd U 0,zd U 0,zd U 0] 55)).heap.size=w.heap.size+2:=by simp
 clear h hx hfl
 go_enter Tryz.func18,Tryz.ntmps18
 go_wp2_with fail
 refine (K1.o).mono ?_
 obtain ⟨WA,hWA⟩:=nm (((w.alloc (zf #[zd U m,O ga gn gc,O sa sn sc,O ya yn yc,O oa on oc,O va vn vc,O fa fn fc,O ba bn bc] 31)).alloc (zf #[O none 0 0,O none 0 0,O none 0 0,zd U 0,zd U 0,zd U 0] 55)))
 rw [<-hWA] at HP HX HO0 hbel hszA ⊢
 rintro e w1 ⟨why,hok,hb1,hnew⟩
 have hB1:=hbel.trans (hb1.mono hbel.size)
 have HO:=Aa (And.intro (HO0.o.1.over hb1) (fun j=>((AM hb1).2 (w.heap.size+1) j (by rw [hszA];omega)).trans (HO0.o.2 j)))
 have hl1:w.heap.size+1 < w1.heap.size:=by have:=hb1.size;omega
 have HOK:=Aa hok
 have HB1:=Aa hB1
 have HB01:=Aa hb1
 have HSZ:=Aa hszA
 have HBW:=Aa hbel
 clear K1 c0 c1 c2 c3 c4 c5 c6 c7 hb1 hok hbel hWA hszA hB1 HO0
 rcases hnew with ⟨hw,rfl⟩ | ⟨rfl,br,b1,b2,b3,c3,rfl,hr2⟩
 ·have hwb:(why == 0)=false:=by simpa using hw
  have o0:=HO.o.1 0 _ rfl
  have y0:=HO.o.2 0
  have o1:=HO.o.1 1 _ rfl
  have y1:=HO.o.2 1
  have o2:=HO.o.1 2 _ rfl
  have y2:=HO.o.2 2
  have o3:=HO.o.1 3 _ rfl
  have y3:=HO.o.2 3
  have o4:=HO.o.1 4 _ rfl
  have y4:=HO.o.2 4
  have o5:=HO.o.1 5 _ rfl
  have y5:=HO.o.2 5
  go_wp2_with fail
  have hF:=((((((HO.o.1.set (j:=0) (v:=O none 0 0) (by simp)).set (j:=1) (v:=O none 0 0) (by simp)).set (j:=2) (v:=O none 0 0) (by simp)).set (j:=3) (v:=zd U 0) (by simp)).set (j:=4) (v:=zd U 0) (by simp)).set (j:=5) (v:=zd U 0) (by simp))
  obtain ⟨e0,e1,e2,e3,e4,e5⟩:=rc6 hF
  have hBf:Ov w ((((((w1.setCell ⟨w.heap.size+1,0,none⟩ (O none 0 0)).setCell ⟨w.heap.size+1,1,none⟩ (O none 0 0)).setCell ⟨w.heap.size+1,2,none⟩ (O none 0 0)).setCell ⟨w.heap.size+1,3,none⟩ (zd U 0)).setCell ⟨w.heap.size+1,4,none⟩ (zd U 0)).setCell ⟨w.heap.size+1,5,none⟩ (zd U 0)):=((((((((((((HB1.o).setCell (by simp) _)).setCell (by simp) _)).setCell (by simp) _)).setCell (by simp) _)).setCell (by simp) _)).setCell (by simp) _)
  refine bodyPost_ret (v:=zj #[zg #[O none 0 0,O none 0 0,O none 0 0,zd U 0,zd U 0,zd U 0],zd U why]) ?_ rfl ⟨why,HOK.o,hBf,Or.inl ⟨hw,rfl⟩⟩
  generalize ((((((w1.setCell ⟨w.heap.size+1,0,none⟩ (O none 0 0)).setCell ⟨w.heap.size+1,1,none⟩ (O none 0 0)).setCell ⟨w.heap.size+1,2,none⟩ (O none 0 0)).setCell ⟨w.heap.size+1,3,none⟩ (zd U 0)).setCell ⟨w.heap.size+1,4,none⟩ (zd U 0)).setCell ⟨w.heap.size+1,5,none⟩ (zd U 0))=WF at e0 e1 e2 e3 e4 e5 ⊢
  simp [results,Tryz.results18,go_sem,e0,e1,e2,e3,e4,e5]
 have hok:=HOK.o.1 rfl
 have hpk:=hok.prog.ok
 obtain ⟨F,hF⟩:=Int.eq_ofNat_of_zero_le hok.f0
 subst hF
 have hf1:=hok.f1
 have hX:JK F0 K kf m ga gn gc sa sn sc ya yn yc oa on oc va vn vc fa fn fc ba bn bc xa xn xc F (fs.length+1) c3 br b1 b2 b3 (CW kf fs fs.length) fs ins WA:=
  ⟨HP.o.funcs,HX.o,hok.many,hok.long,hok.num,by omega,hpk.vars,HFL.o,hpk.funcs,rfl,rfl,by have:=hpk.many;omega,IY WA K vn yn on fs,hpk.body⟩
 have hx0:F0.In (Yb br b1 b2 (O none 0 0)) o0 (fun _=>False) w1:=fun k hk=>hk
 have KR:=Aa (doR F0 K kf m ga gn gc sa sn sc ya yn yc oa on oc va vn vc fa fn fc ba bn bc xa xn xc F (fs.length+1) c3 br b1 b2 b3 (CW kf fs fs.length) fs ins l o0 (fun _=>False) WA w1 hX HP.o.main hpk.main hpk.many hr2 HB01.o hx0 (fun k hk=>hk.elim) (fun hk=>hk) trivial)
 have hKR:F0.ob=AB:=rfl
 rw [hKR] at KR
 obtain ⟨T,hT⟩:=nm (Cc K kf fs F ins AB l vn yn o0)
 rw [<-hT] at KR
 have HT:=Aa hT
 have HR2:=Aa hr2
 clear hT hok hpk hX hr2 hx0 hKR HP HX
 change Hx (Calls Tryz.prog 63 #[zi (some ⟨br,0,none⟩),.func (.func 66) #[] #[]] w1 _) at KR
 go_wp2_with fail
 refine (KR.o).mono ?_
 rintro e w3 ⟨rfl,ev,hr3,hf3,hno3⟩
 have hb13:Below WA.heap.size w1 w3:=⟨hf3.os,hf3.tape,hf3.output,hf3.size,fun k hk=>hf3.block k (by have:=HB01.o.size;omega) (by have:=HR2.o.lo;omega) (by have:=HR2.o.lo;omega) (by have:=HR2.o.lo;omega) (fun hx=>by rcases hx with hx | hx;simp [Value.ownBlock] at hx;exact hx)⟩
 have hB3:Ov w w3:=HB1.o.trans (hb13.mono HBW.o.size)
 obtain ⟨x0,x1,x2,x3,x4,x5⟩:=rc6 hr3.row
 rw [hno3.vl] at x1
 rw [hno3.tl] at x2
 have hla:=hr3.hi.1
 have HF:Hx (Gm w.heap.size vn yn F T ev.ev b1 b2 w3):=⟨IW hr3.own HBW.o.size,hr3.vars,hr3.taken,hno3⟩
 obtain ⟨stp,hsp⟩:=nm ((T.steps:Int))
 obtain ⟨en,hen⟩:=nm T.en
 obtain ⟨tsp,htsp⟩:=nm T.sp
 rw [<-hsp] at x3
 rw [<-hen] at x4
 rw [<-htsp] at x5
 have HSP:=Aa hsp
 have HEN:=Aa hen
 have HTS:=Aa htsp
 have hsz:=HSZ.o
 have hlo:=hr3.lo
 have n1:b1≠w.heap.size+1:=by omega
 have n2:b2≠w.heap.size+1:=by omega
 have n3:ev.ev.ownBlock≠some (w.heap.size+1):=fun hx=>by have:=(hr3.ev' _ (Or.inl hx)).1;omega
 obtain ⟨evv,evX⟩:=ev
 dsimp only at x0 HF n3 hr3
 obtain ⟨ea,el,ec,hev⟩:∃ a n c,evv=O a n c:=by
  rcases hr3.own.2 with ⟨h,_⟩ | ⟨g,cap,cur,h,_⟩
  ·exact ⟨_,_,_,h⟩
  ·exact ⟨_,_,_,h⟩
 subst hev
 have HO3:Hx (Af [O none 0 0,O none 0 0,O none 0 0,zd U 0,zd U 0,zd U 0] w3 (w.heap.size+1)/\∀ j,w3.frozen? ⟨w.heap.size+1,j,none⟩=false):=by
  have hk:w3.heap[w.heap.size+1]? = w1.heap[w.heap.size+1]?:=hb13.block _ (by omega)
  exact ⟨fun j u hu=>(World.cell?_of_block hk).trans (HO.o.1 j u hu),fun j=>(World.frozen?_of_block hk).trans (HO.o.2 j)⟩
 have o0:=HO3.o.1 0 _ rfl
 have y0:=HO3.o.2 0
 have o1:=HO3.o.1 1 _ rfl
 have y1:=HO3.o.2 1
 have o2:=HO3.o.1 2 _ rfl
 have y2:=HO3.o.2 2
 have o3:=HO3.o.1 3 _ rfl
 have y3:=HO3.o.2 3
 have o4:=HO3.o.1 4 _ rfl
 have y4:=HO3.o.2 4
 have o5:=HO3.o.1 5 _ rfl
 have y5:=HO3.o.2 5
 have hl3:w.heap.size+1 < w3.heap.size:=Nat.lt_of_lt_of_le hl1 hb13.size
 clear KR hr3 hf3 hno3 hsp hen htsp hlo hsz
 go_wp2_with fail
 have hF:=((((((HO3.o.1.set (j:=0) (v:=O ea el ec) (by simp)).set (j:=1) (v:=O (some ⟨b1,0,none⟩) vn vn) (by simp)).set (j:=2) (v:=O (some ⟨b2,0,none⟩) yn yn) (by simp)).set (j:=3) (v:=zd U stp) (by simp)).set (j:=4) (v:=zd U en) (by simp)).set (j:=5) (v:=zd U tsp) (by simp))
 obtain ⟨e0,e1,e2,e3,e4,e5⟩:=rc6 hF
 have hBf:Ov w ((((((w3.setCell ⟨w.heap.size+1,0,none⟩ (O ea el ec)).setCell ⟨w.heap.size+1,1,none⟩ (O (some ⟨b1,0,none⟩) vn vn)).setCell ⟨w.heap.size+1,2,none⟩ (O (some ⟨b2,0,none⟩) yn yn)).setCell ⟨w.heap.size+1,3,none⟩ (zd U stp)).setCell ⟨w.heap.size+1,4,none⟩ (zd U en)).setCell ⟨w.heap.size+1,5,none⟩ (zd U tsp)):=((((((((((((hB3).setCell (by simp) _)).setCell (by simp) _)).setCell (by simp) _)).setCell (by simp) _)).setCell (by simp) _)).setCell (by simp) _)
 have hRA:=((((((HF.o.other n1 n2 n3 0 (O ea el ec)).other n1 n2 n3 1 (O (some ⟨b1,0,none⟩) vn vn)).other n1 n2 n3 2 (O (some ⟨b2,0,none⟩) yn yn)).other n1 n2 n3 3 (zd U stp)).other n1 n2 n3 4 (zd U en)).other n1 n2 n3 5 (zd U tsp))
 refine bodyPost_ret (v:=zj #[zg #[O ea el ec,O (some ⟨b1,0,none⟩) vn vn,O (some ⟨b2,0,none⟩) yn yn,zd U stp,zd U en,zd U tsp],zd U 0]) ?_ rfl ?_
 rotate_left
 ·have hT:=HT.o
  have h1:=HSP.o
  have h2:=HEN.o
  have h3:=HTS.o
  subst h1 h2 h3
  subst hT
  exact ⟨0,by simpa using HOK.o,hBf,Or.inr ⟨rfl,_,b1,b2,rfl,hRA⟩⟩
 generalize ((((((w3.setCell ⟨w.heap.size+1,0,none⟩ (O ea el ec)).setCell ⟨w.heap.size+1,1,none⟩ (O (some ⟨b1,0,none⟩) vn vn)).setCell ⟨w.heap.size+1,2,none⟩ (O (some ⟨b2,0,none⟩) yn yn)).setCell ⟨w.heap.size+1,3,none⟩ (zd U stp)).setCell ⟨w.heap.size+1,4,none⟩ (zd U en)).setCell ⟨w.heap.size+1,5,none⟩ (zd U tsp))=WF at e0 e1 e2 e3 e4 e5 ⊢
 simp [results,Tryz.results18,go_sem,e0,e1,e2,e3,e4,e5]
theorem Dz {cs:List Value} {w w':World} {b:Nat} {a:Array Value} {t:Nat} (ha:a.toList=cs) (hb:b=w.heap.size) (hw:Ov (w.alloc (.cells a t)) w'):Af cs w' b:=by
 subst hb
 rw [<-ha]
 exact (Af.newA a t w).over hw
theorem Lv (w:World):Calls Tryz.prog 38 #[] w fun e w'=>∃ bi bo bv bm,e=zh (DP bi bo bv bm)/\EK bi bo bv bm w'/\Ov w w'/\(w.heap.size < bi/\bi < bo/\bo < bv/\bv < bm/\bm < w'.heap.size)/\∀ j,w'.frozen? ⟨bi,j,none⟩=false:=by
 go_enter Tryz.func38,Tryz.ntmps38
 go_wp2_with fail
 have hbr:=fun (W:World) (o:Obj)=>bA W o
 refine bodyPost_ret (v:=DP (w.heap.size+1) (w.heap.size+1+1) (w.heap.size+1+1+1) (w.heap.size+1+1+1+1)) (by simp [results,Tryz.results38,go_sem]) rfl ⟨_,_,_,_,rfl,⟨?_,?_,?_,?_⟩,?_,?_,?_⟩
 ·exact Dz rfl (by simp) (Ag (Ag (hbr _ _) (hbr _ _)) (hbr _ _))
 ·exact Dz rfl (by simp) (Ag (hbr _ _) (hbr _ _))
 ·exact Dz rfl (by simp) (hbr _ _)
 ·exact Dz rfl (by simp) (Below.refl _ _)
 ·exact Ag (Ag (Ag (Ag (hbr _ _) (hbr _ _)) (hbr _ _)) (hbr _ _)) (hbr _ _)
 ·refine ⟨by omega,by omega,by omega,by omega,by simp⟩
 ·intro j
  simp [go_sem]
def sm3:D:=sD 1 1 0 (xD 1 3 []) [] [] []
structure Sm3 (bi bo bv bm:Nat) (w:World):Prop where
 ins:Af [O none 0 0,O none 0 0] w bi
 outs:Af [O none 0 0,O none 0 0] w bo
 vars:Af [ze false,O none 0 0,O none 0 0,ze false,O none 0 0,O none 0 0] w bv
 main:Af (B4++[zd U 1,zd U 1,zd U 0,zd U 1,zd U 3,O none 0 0,O none 0 0,O none 0 0,O none 0 0]) w bm
theorem G2 {bi bo bv bm vc mc:Nat} {w:World} (h:Sm3 bi bo bv bm w):A1 1 1 1 none 0 0 none 0 0 (some ⟨bi,0,none⟩) 1 1 (some ⟨bo,0,none⟩) 1 1 (some ⟨bv,0,none⟩) 2 vc none 0 0 (some ⟨bm,0,none⟩) 3 mc [] [] [⟨[],[]⟩] [⟨[],[]⟩] [(false,⟨[],[]⟩),(false,⟨[],[]⟩)] [] [sm1,sm2,sm3] w:=by
 have hlab:∀ b,Af [O none 0 0,O none 0 0] w b->BB w (O (some ⟨b,0,none⟩) 1 1) [⟨[],[]⟩]:=fun b hr=>by
  refine ⟨by simp [maxLen],some ⟨b,0,none⟩,1,rfl,fun _=>⟨b,0,rfl,fun i hi=>?_⟩⟩
  have:i=0:=by simp at hi;omega
  subst this
  exact ⟨_,_,hr 0 _ rfl,hr 1 _ rfl,BI,BI⟩
 refine ⟨AA 1 (by omega) (by omega),⟨none,0,rfl,fun h=>absurd rfl h⟩,⟨none,0,rfl,fun h=>absurd rfl h⟩,by simp,hlab _ h.ins,hlab _ h.outs,?_,?_,?_,fun h=>absurd h (by simp),fun h=>absurd h (by simp)⟩
 ·refine ⟨by simp [maxLen],some ⟨bv,0,none⟩,vc,rfl,fun _=>⟨bv,0,rfl,fun i hi=>?_⟩⟩
  match i,hi with
  | 0,hi=>exact ⟨_,_,h.vars 0 _ rfl,h.vars 1 _ rfl,h.vars 2 _ rfl,BI,BI⟩
  | 1,hi=>exact ⟨_,_,h.vars 3 _ rfl,h.vars 4 _ rfl,h.vars 5 _ rfl,BI,BI⟩
  | i+2,hi=>simp at hi;omega
 ·exact ⟨by simp,none,0,rfl,fun h=>absurd rfl h⟩
 ·refine ⟨by simp [maxLen],some ⟨bm,0,none⟩,mc,rfl,fun _=>⟨bm,0,rfl,fun i d hd=>?_⟩⟩
  have hM:=h.main
  unfold B4 at hM
  match i,hd with
  | 0,hd=>
   simp at hd
   subst hd
   refine ⟨[zd U 3,zd U 0,zd U 0,zd U 0,zd U 0,O none 0 0,O none 0 0,O none 0 0,O none 0 0],rfl,fun j u hu=>?_,3,0,0,_,_,_,xD 0 0 [],_,[],_,[],_,[],rfl,rfl,AA _ (by omega) (by omega),AA _ (by omega) (by omega),AA _ (by omega) (by omega),⟨0,0,_,[],rfl,rfl,AA _ (by omega) (by omega),AA _ (by omega) (by omega),Bs⟩,Bs,Bs,Bs⟩
   have hj:j < 9:=(List.getElem?_eq_some_iff.1 hu).1
   have:=hM j u (by rw [<-hu];match j,hj with | 0,_=>rfl | 1,_=>rfl | 2,_=>rfl | 3,_=>rfl | 4,_=>rfl | 5,_=>rfl | 6,_=>rfl | 7,_=>rfl | 8,_=>rfl)
   simpa using this
  | 1,hd=>
   simp at hd
   subst hd
   refine ⟨[zd U 4,zd U 0,zd U 0,zd U 2,zd U 0,O none 0 0,O none 0 0,O none 0 0,O none 0 0],rfl,fun j u hu=>?_,4,0,0,_,_,_,xD 2 0 [],_,[],_,[],_,[],rfl,rfl,AA _ (by omega) (by omega),AA _ (by omega) (by omega),AA _ (by omega) (by omega),⟨2,0,_,[],rfl,rfl,AA _ (by omega) (by omega),AA _ (by omega) (by omega),Bs⟩,Bs,Bs,Bs⟩
   have hj:j < 9:=(List.getElem?_eq_some_iff.1 hu).1
   have:=hM (9+j) u (by rw [<-hu];match j,hj with | 0,_=>rfl | 1,_=>rfl | 2,_=>rfl | 3,_=>rfl | 4,_=>rfl | 5,_=>rfl | 6,_=>rfl | 7,_=>rfl | 8,_=>rfl)
   simpa [Nat.add_assoc] using this
  | 2,hd=>
   simp at hd
   subst hd
   refine ⟨[zd U 1,zd U 1,zd U 0,zd U 1,zd U 3,O none 0 0,O none 0 0,O none 0 0,O none 0 0],rfl,fun j u hu=>?_,1,1,0,_,_,_,xD 1 3 [],_,[],_,[],_,[],rfl,rfl,AA _ (by omega) (by omega),AA _ (by omega) (by omega),AA _ (by omega) (by omega),⟨1,3,_,[],rfl,rfl,AA _ (by omega) (by omega),AA _ (by omega) (by omega),Bs⟩,Bs,Bs,Bs⟩
   have hj:j < 9:=(List.getElem?_eq_some_iff.1 hu).1
   have:=hM (18+j) u (by rw [<-hu];match j,hj with | 0,_=>rfl | 1,_=>rfl | 2,_=>rfl | 3,_=>rfl | 4,_=>rfl | 5,_=>rfl | 6,_=>rfl | 7,_=>rfl | 8,_=>rfl)
   simpa [Nat.add_assoc] using this
  | i+3,hd=>simp at hd
theorem IL:Al ((2:Nat):Int) 1 (Ao sm2)=0:=by
 simp [Al,sm2,BX,AJ,Bq,AU,Bg,xD,Au,AG,Ax]
theorem IK:Al ((2:Nat):Int) 1 (Ao sm3)=0:=by
 simp [Al,sm3,BX,AJ,Bq,AU,Bg,xD,Au,AG,Ax]
theorem JR:Dh 1 2 1 1 (([]:List FnD).length:Int) [] sm1:=by
 unfold Dh
 simp [sm1,xD,Au,Ax]
theorem JQ:Dh 1 2 1 1 (([]:List FnD).length:Int) [] sm2:=by
 have h:=IL
 unfold Dh
 have e:Ad sm2=4:=rfl
 have e2:Ac sm2=0:=rfl
 rw [e,e2]
 exact ⟨by decide,fun h=>absurd h (by decide),fun h=>absurd h (by decide),fun h=>absurd h (by decide),fun _=>h,fun h=>absurd h (by decide),fun _=>by decide⟩
theorem JP:Dh 1 2 1 1 (([]:List FnD).length:Int) [] sm3:=by
 have h:=IK
 unfold Dh
 have e:Ad sm3=1:=rfl
 have e2:Aq sm3=1:=rfl
 rw [e,e2]
 exact ⟨by decide,fun _=>by decide,fun h=>absurd h (by decide),fun h=>absurd h (by decide),fun _=>h,fun h=>absurd h (by decide),fun h=>absurd h (by decide)⟩
theorem L3:Ey.xP 1 1 1 2 1 1 0 [] [] [⟨[],[]⟩] [⟨[],[]⟩] [(false,⟨[],[]⟩),(false,⟨[],[]⟩)] [] [sm1,sm2,sm3]:=by
 refine ⟨rfl,by simp,by simp,⟨?_,?_,?_⟩,⟨by decide,fun f hf=>absurd hf (by simp),?_⟩,fun i h=>absurd h (by simp),?_⟩
 ·intro b hb
  simp at hb
  subst hb
  rfl
 ·intro v hv
  simp at hv
  subst hv
  rfl
 ·intro v hv _
  simp at hv
  subst hv
  exact ⟨rfl,rfl⟩
 ·intro s hs
  simp at hs
  rcases hs with rfl | rfl | rfl
  ·exact ⟨by omega,fun s hs=>absurd hs (by simp [sm1]),fun s hs=>absurd hs (by simp [sm1])⟩
  ·exact ⟨by omega,fun s hs=>absurd hs (by simp [sm2]),fun s hs=>absurd hs (by simp [sm2])⟩
  ·exact ⟨by omega,fun s hs=>absurd hs (by simp [sm3]),fun s hs=>absurd hs (by simp [sm3])⟩
 ·intro s hs
  simp at hs
  rcases hs with rfl | rfl | rfl
  ·exact ⟨⟨JR,fun _=>rfl,fun _=>rfl,fun _=>rfl,fun _=>rfl,fun _=>rfl,fun _=>rfl⟩,fun s hs=>absurd hs (by simp [sm1]),fun s hs=>absurd hs (by simp [sm1])⟩
  ·exact ⟨⟨JQ,fun _=>rfl,fun _=>rfl,fun h=>absurd h (by decide),fun _=>rfl,fun _=>rfl,fun _=>rfl⟩,fun s hs=>absurd hs (by simp [sm2]),fun s hs=>absurd hs (by simp [sm2])⟩
  ·exact ⟨⟨JP,fun h=>absurd h (by decide),fun _=>rfl,fun h=>absurd h (by decide),fun _=>rfl,fun _=>rfl,fun _=>rfl⟩,fun s hs=>absurd hs (by simp [sm3]),fun s hs=>absurd hs (by simp [sm3])⟩
theorem EZ:AY 0 1 1 [] [sm1,sm2,sm3] 2 1=⟨[true,false],[true],[true,true,false],false⟩:=by kernel_rfl
theorem JO:(AF [true,true,false] 1 [sm1,sm2,sm3] (Am 1 [])).length=2:=by kernel_rfl
theorem Cg {w:World} {b:Nat} {l:List Bool} (h:Af (l.map Value.bool) w b) (hl:l.length<=100):Dg w (O (some ⟨b,0,none⟩) l.length l.length) l:=
 ⟨some ⟨b,0,none⟩,l.length,rfl,fun _=>⟨b,0,rfl,fun i hi=>by rw [Nat.zero_add];exact h i _ (by rw [List.getElem?_map,List.getElem?_eq_getElem hi];rfl)⟩⟩
theorem G8 {W:World} {B T s n:Nat} {v:Value} {xs:List Value} (h:W.ownsRow B T s v n xs) (hn:n≠0):∃ g c,v=O (some ⟨g,0,none⟩) n c/\B<=g/\g < W.heap.size/\Af xs W g:=by
 rcases h.2 with ⟨-,h0⟩ | ⟨g,cap,cur,hv,hb,hg,-⟩
 ·exact absurd h0 hn
 ·refine ⟨g,cap,hv,hb,(Array.getElem?_eq_some_iff.1 hg).1,fun j u hu=>?_⟩
  have:=h.cells (g:=g) (by rw [hv];rfl) j u hu
  rwa [Addr.add_lit,Nat.zero_add] at this
theorem D3 {W W':World} (h:W.grownBy W' none):Ov W W':=⟨h.os,h.tape,h.output,h.size,fun k hk=>h.block k hk (by simp)⟩
theorem Eg (l:List Bool) (va vb:Value) (w:World) (ha:Dg w va l) (hb:Dg w vb l) (hl:l.length<=100):Calls Tryz.prog 43 #[va,vb] w fun e w'=>e=zh (ze true)/\Ov w w':=by
 refine (EM va vb l l w ha hb (by omega)).mono ?_
 rintro e w' ⟨rfl,n,rfl⟩
 exact ⟨by simp,below_drewN (Below.refl _ _) n⟩
theorem LD (bi bo bv bm vc mc:Nat) (W:World) (h:Sm3 bi bo bv bm W):Calls Tryz.prog 33 #[zg #[zd U 1,O none 0 0,O none 0 0,O (some ⟨bi,0,none⟩) 1 1,O (some ⟨bo,0,none⟩) 1 1,O (some ⟨bv,0,none⟩) 2 vc,O none 0 0,O (some ⟨bm,0,none⟩) 3 mc],zd U 0] W fun e w'=>∃ b1 b2 b3,e=zh (zj #[O (some ⟨b1,0,none⟩) 2 2,O (some ⟨b2,0,none⟩) 1 1,O (some ⟨b3,0,none⟩) 3 3,zd U 0])/\Af ([true,false].map Value.bool) w' b1/\Af ([true].map Value.bool) w' b2/\Af ([true,true,false].map Value.bool) w' b3/\Ov W w':=by
 refine (JZ 1 1 1 none 0 0 none 0 0 (some ⟨bi,0,none⟩) 1 1 (some ⟨bo,0,none⟩) 1 1 (some ⟨bv,0,none⟩) 2 vc none 0 0 (some ⟨bm,0,none⟩) 3 mc [] [] [⟨[],[]⟩] [⟨[],[]⟩] [(false,⟨[],[]⟩),(false,⟨[],[]⟩)] [] [sm1,sm2,sm3] 0 W (G2 h)).mono ?_
 rintro e w' ⟨hb,why,hwhy,hor⟩
 have h0:why=0:=hwhy.2 ⟨L3,by decide,by decide⟩
 rcases hor with ⟨hne,-⟩ | ⟨-,b1,b2,b3,he,r1,r2,r3⟩
 ·exact absurd h0 hne
 ·rw [EZ] at he r1 r2 r3
  exact ⟨b1,b2,b3,he,r1,r2,r3,hb⟩
theorem Lx (bi bo bv bm vc mc:Nat) (W:World) (h:Sm3 bi bo bv bm W):Calls Tryz.prog 29 #[zg #[zd U 1,O none 0 0,O none 0 0,O (some ⟨bi,0,none⟩) 1 1,O (some ⟨bo,0,none⟩) 1 1,O (some ⟨bv,0,none⟩) 2 vc,O none 0 0,O (some ⟨bm,0,none⟩) 3 mc],zd U 0] W fun e w'=>∃ a1 n1 c1 a2 n2 c2 a3 n3 c3 a4 n4 c4 a5 n5 c5 a6 n6 c6 a7 c7,e=zh (zj #[zg #[zd U 1,O a1 n1 c1,O a2 n2 c2,O a3 n3 c3,O a4 n4 c4,O a5 n5 c5,O a6 n6 c6,O a7 2 c7],zd U 0])/\Ov W w':=by
 refine (G3 1 1 1 none 0 0 none 0 0 (some ⟨bi,0,none⟩) 1 1 (some ⟨bo,0,none⟩) 1 1 (some ⟨bv,0,none⟩) 2 vc none 0 0 (some ⟨bm,0,none⟩) 3 mc [] [] [⟨[],[]⟩] [⟨[],[]⟩] [(false,⟨[],[]⟩),(false,⟨[],[]⟩)] [] [sm1,sm2,sm3] 0 W (G2 h) [true,true,false] (by rw [EZ])).mono ?_
 rintro e w' ⟨hb,why,hwhy,hor⟩
 have h0:why=0:=hwhy.2 ⟨L3,by decide,by decide⟩
 rcases hor with ⟨hne,-⟩ | ⟨-,ga2,gc2,sa2,sc2,ya2,yc2,oa2,oc2,va2,vc2,fa2,fc2,ba2,bd2,he,-⟩
 ·exact absurd h0 hne
 ·rw [JO] at he
  exact ⟨_,_,_,_,_,_,_,_,_,_,_,_,_,_,_,_,_,_,_,_,he,hb⟩
theorem Ee (w:World):Calls Tryz.prog 30 #[] w fun e w'=>e=zh (ze true)/\Ov w w':=by
 have KS:=Aa (Lv w)
 obtain ⟨i0,hi,hz0,hz1,hz2⟩:=info_parts Tryz.infoVaN
 obtain ⟨i1,hj,hy0,hy1,hy2⟩:=info_parts Tryz.infoSt
 go_enter Tryz.func30,Tryz.ntmps30
 go_wp2_with fail
 refine KS.o.mono ?_
 rintro e W1 ⟨bi,bo,bv,bm,rfl,hS,hb1,hlt,-⟩
 have hbX:Ov W1 ((W1.alloc (CK bi bo bv bm 31)).alloc (zf #[ze false,O none 0 0,O none 0 0] 41)):=(bA W1 _).alloc (by simp) _
 have hv1:Af [ze false,O none 0 0,O none 0 0] ((W1.alloc (CK bi bo bv bm 31)).alloc (zf #[ze false,O none 0 0,O none 0 0] 41)) bv:=hS.vars.over hbX
 have hsP:(W1.alloc (CK bi bo bv bm 31)).heap.size=W1.heap.size+1:=by simp
 have hn1:Af [ze false,O none 0 0,O none 0 0] ((W1.alloc (CK bi bo bv bm 31)).alloc (zf #[ze false,O none 0 0,O none 0 0] 41)) (W1.heap.size+1):=by rw [<-hsP];exact Az (W1.alloc (CK bi bo bv bm 31)) [ze false,O none 0 0,O none 0 0] 41
 have hp1:Af (GB bi bo bv bm) ((W1.alloc (CK bi bo bv bm 31)).alloc (zf #[ze false,O none 0 0,O none 0 0] 41)) W1.heap.size:=Af.over (Az W1 (GB bi bo bv bm) 31) (bA _ _)
 have hf1:∀ j,((W1.alloc (CK bi bo bv bm 31)).alloc (zf #[ze false,O none 0 0,O none 0 0] 41)).frozen? ⟨W1.heap.size,j,none⟩=false:=fun j=>by simp [go_sem]
 have HS:=Aa (hS.over hbX)
 have HB1:Hx (Ov w ((W1.alloc (CK bi bo bv bm 31)).alloc (zf #[ze false,O none 0 0,O none 0 0] 41))):=hb1.trans (hbX.mono hb1.size)
 have HLT:=Aa hlt
 have HWW0:=Aa hb1.size
 have HP1:=Aa hp1
 have HF1:=Aa hf1
 have HV1:=Aa hv1
 have HN1:=Aa hn1
 clear hS hb1 hlt KS hbX hsP hp1 hf1 hv1 hn1
 go_wp2_with (at_builtin;refine wpList_append_grows _ rfl _ _ 27 rfl 41 i0 (zg #[ze false,O none 0 0,O none 0 0]) 3 56 Tryz.underlying27 hi hz0 hz1 hz2 rfl (by decide) (some ⟨bv,0,none⟩) 1 1 [ze false,O none 0 0,O none 0 0] rfl (fun h=>by cases h) rfl (fun b hb j u hu=>by injection hb with hb;subst hb;rw [Addr.add_lit,Nat.zero_add];exact HV1.o j u hu) ⟨W1.heap.size+1,0,none⟩ 1 1 [ze false,O none 0 0,O none 0 0] rfl rfl (fun j u hu=>by rw [Addr.add_lit,Nat.zero_add];exact HN1.o j u hu) (by simp [Value.oneCell']) (by omega) (by unfold maxLen;omega) (by omega) ?_)
 intro v2 w2 hown2 hgr2
 obtain ⟨g2,k2,rfl,hg2,hg2l,hr2⟩:=G8 hown2 (by omega)
 have hb2:=D3 hgr2
 obtain ⟨p0,p1,p2,p3,p4,p5,p6,p7⟩:=rc8 (HP1.o.over hb2)
 have z5:w2.frozen? ⟨W1.heap.size,5,none⟩=false:=((AM hb2).2 _ _ (bL (HP1.o 0 _ rfl))).trans (HF1.o 5)
 have z7:w2.frozen? ⟨W1.heap.size,7,none⟩=false:=((AM hb2).2 _ _ (bL (HP1.o 0 _ rfl))).trans (HF1.o 7)
 have HS2:=Aa (HS.o.over hb2)
 have HB2:Hx (Ov w w2):=HB1.o.trans (hb2.mono HB1.o.size)
 have HR2:=Aa hr2
 have HPQ:=Aa (HP1.o.over hb2)
 have HWW:Hx (w.heap.size<=W1.heap.size):=HWW0.o
 have hsX:((W1.alloc (CK bi bo bv bm 31)).alloc (zf #[ze false,O none 0 0,O none 0 0] 41)).heap.size=W1.heap.size+2:=by simp
 have HG2:Hx (W1.heap.size < g2/\g2 < w2.heap.size):=⟨by omega,hg2l⟩
 clear hsX hown2 hgr2 hr2 hb2 hg2 hg2l HB1 HS HV1 HN1 HF1
 have hne:bm≠W1.heap.size/\bi≠W1.heap.size/\bo≠W1.heap.size:=by have h1:=HLT.o;omega
 have hsS:(w2.setCell ⟨W1.heap.size,5,none⟩ (O (some ⟨g2,0,none⟩) 2 k2)).heap.size=w2.heap.size:=by simp [World.setCell]
 have hbS:Ov (w2.setCell ⟨W1.heap.size,5,none⟩ (O (some ⟨g2,0,none⟩) 2 k2)) ((w2.setCell ⟨W1.heap.size,5,none⟩ (O (some ⟨g2,0,none⟩) 2 k2)).alloc (zf #[zd U 1,zd U 1,zd U 0,zd U 1,zd U 3,O none 0 0,O none 0 0,O none 0 0,O none 0 0] 130)):=bA _ _
 have hm2:Af B4 ((w2.setCell ⟨W1.heap.size,5,none⟩ (O (some ⟨g2,0,none⟩) 2 k2)).alloc (zf #[zd U 1,zd U 1,zd U 0,zd U 1,zd U 3,O none 0 0,O none 0 0,O none 0 0,O none 0 0] 130)) bm:=Af.over (Af.other HS2.o.main hne.1) hbS
 have hn2:Af [zd U 1,zd U 1,zd U 0,zd U 1,zd U 3,O none 0 0,O none 0 0,O none 0 0,O none 0 0] ((w2.setCell ⟨W1.heap.size,5,none⟩ (O (some ⟨g2,0,none⟩) 2 k2)).alloc (zf #[zd U 1,zd U 1,zd U 0,zd U 1,zd U 3,O none 0 0,O none 0 0,O none 0 0,O none 0 0] 130)) w2.heap.size:=by rw [<-hsS];exact Az (w2.setCell ⟨W1.heap.size,5,none⟩ (O (some ⟨g2,0,none⟩) 2 k2)) [zd U 1,zd U 1,zd U 0,zd U 1,zd U 3,O none 0 0,O none 0 0,O none 0 0,O none 0 0] 130
 have hp2:Af [zd U 1,O none 0 0,O none 0 0,O (some ⟨bi,0,none⟩) 1 1,O (some ⟨bo,0,none⟩) 1 1,O (some ⟨g2,0,none⟩) 2 k2,O none 0 0,O (some ⟨bm,0,none⟩) 2 2] ((w2.setCell ⟨W1.heap.size,5,none⟩ (O (some ⟨g2,0,none⟩) 2 k2)).alloc (zf #[zd U 1,zd U 1,zd U 0,zd U 1,zd U 3,O none 0 0,O none 0 0,O none 0 0,O none 0 0] 130)) W1.heap.size:=by
  have h1:Af (GB bi bo bv bm) w2 W1.heap.size:=fun j u hu=>HPQ.o j u hu
  have h2:=(h1.set (j:=5) (v:=O (some ⟨g2,0,none⟩) 2 k2) (by simp)).over hbS
  simpa using h2
 have hi2:Af [O none 0 0,O none 0 0] ((w2.setCell ⟨W1.heap.size,5,none⟩ (O (some ⟨g2,0,none⟩) 2 k2)).alloc (zf #[zd U 1,zd U 1,zd U 0,zd U 1,zd U 3,O none 0 0,O none 0 0,O none 0 0,O none 0 0] 130)) bi:=Af.over (Af.other HS2.o.ins hne.2.1) hbS
 have ho2:Af [O none 0 0,O none 0 0] ((w2.setCell ⟨W1.heap.size,5,none⟩ (O (some ⟨g2,0,none⟩) 2 k2)).alloc (zf #[zd U 1,zd U 1,zd U 0,zd U 1,zd U 3,O none 0 0,O none 0 0,O none 0 0,O none 0 0] 130)) bo:=Af.over (Af.other HS2.o.outs hne.2.2) hbS
 have hv2:Af [ze false,O none 0 0,O none 0 0,ze false,O none 0 0,O none 0 0] ((w2.setCell ⟨W1.heap.size,5,none⟩ (O (some ⟨g2,0,none⟩) 2 k2)).alloc (zf #[zd U 1,zd U 1,zd U 0,zd U 1,zd U 3,O none 0 0,O none 0 0,O none 0 0,O none 0 0] 130)) g2:=Af.over (Af.other HR2.o (by have h1:=HG2.o;omega)) hbS
 have hf2:((w2.setCell ⟨W1.heap.size,5,none⟩ (O (some ⟨g2,0,none⟩) 2 k2)).alloc (zf #[zd U 1,zd U 1,zd U 0,zd U 1,zd U 3,O none 0 0,O none 0 0,O none 0 0,O none 0 0] 130)).frozen? ⟨W1.heap.size,7,none⟩=false:=((AM hbS).2 _ _ (by rw [hsS];have h1:=HG2.o;omega)).trans (Ay.trans z7)
 have hB2:Ov w ((w2.setCell ⟨W1.heap.size,5,none⟩ (O (some ⟨g2,0,none⟩) 2 k2)).alloc (zf #[zd U 1,zd U 1,zd U 0,zd U 1,zd U 3,O none 0 0,O none 0 0,O none 0 0,O none 0 0] 130)):=(HB2.o.setCell HWW.o _).trans (hbS.mono (by rw [hsS];exact HB2.o.size))
 have HM2:=Aa hm2
 have HN2:=Aa hn2
 have HP2:=Aa hp2
 have HI2:=Aa hi2
 have HO2:=Aa ho2
 have HV2:=Aa hv2
 have HF2:=Aa hf2
 have HBB:=Aa hB2
 have HSS:=Aa hsS
 have HNE:=Aa hne
 clear hne hsS hbS hm2 hn2 hp2 hi2 ho2 hv2 hf2 hB2
 go_wp2_with (at_builtin;refine wpList_append_grows _ rfl _ _ 29 rfl 130 i1 (zg #[zd U 0,zd U 0,zd U 0,zd U 0,zd U 0,O none 0 0,O none 0 0,O none 0 0,O none 0 0]) 9 136 Tryz.underlying29 hj hy0 hy1 hy2 rfl (by decide) (some ⟨bm,0,none⟩) 2 2 B4 rfl (fun h=>by cases h) rfl (fun b hb j u hu=>by injection hb with hb;subst hb;rw [Addr.add_lit,Nat.zero_add];exact HM2.o j u hu) ⟨w2.heap.size,0,none⟩ 1 1 [zd U 1,zd U 1,zd U 0,zd U 1,zd U 3,O none 0 0,O none 0 0,O none 0 0,O none 0 0] rfl rfl (fun j u hu=>by rw [Addr.add_lit,Nat.zero_add];exact HN2.o j u hu) (by simp [Value.oneCell']) (by omega) (by unfold maxLen;omega) (by omega) ?_)
 intro v3 w3 hown3 hgr3
 obtain ⟨g3,k3,rfl,hg3,hg3l,hr3⟩:=G8 hown3 (by omega)
 have hb3:=D3 hgr3
 obtain ⟨r0,r1,r2,r3,r4,r5,r6,r7⟩:=rc8 (HP2.o.over hb3)
 have z7':w3.frozen? ⟨W1.heap.size,7,none⟩=false:=((AM hb3).2 _ _ (bL (HP2.o 0 _ rfl))).trans HF2.o
 have hgn:g3≠W1.heap.size:=by
  have h1:=HSS.o
  have h2:((w2.setCell ⟨W1.heap.size,5,none⟩ (O (some ⟨g2,0,none⟩) 2 k2)).alloc (zf #[zd U 1,zd U 1,zd U 0,zd U 1,zd U 3,O none 0 0,O none 0 0,O none 0 0,O none 0 0] 130)).heap.size=(w2.setCell ⟨W1.heap.size,5,none⟩ (O (some ⟨g2,0,none⟩) 2 k2)).heap.size+1:=alS _ _
  have h3:=HG2.o
  omega
 obtain ⟨W3,hW3⟩:=nm (w3.setCell ⟨W1.heap.size,7,none⟩ (O (some ⟨g3,0,none⟩) 3 k3))
 have h3S:Sm3 bi bo g2 g3 W3:=by
  rw [hW3]
  exact ⟨Af.other (HI2.o.over hb3) HNE.o.2.1,Af.other (HO2.o.over hb3) HNE.o.2.2,Af.other (HV2.o.over hb3) (by have h1:=HG2.o;omega),Af.other hr3 hgn⟩
 have hp3:Af [zd U 1,O none 0 0,O none 0 0,O (some ⟨bi,0,none⟩) 1 1,O (some ⟨bo,0,none⟩) 1 1,O (some ⟨g2,0,none⟩) 2 k2,O none 0 0,O (some ⟨g3,0,none⟩) 3 k3] W3 W1.heap.size:=by
  rw [hW3]
  have h2:=(HP2.o.over hb3).set (j:=7) (v:=O (some ⟨g3,0,none⟩) 3 k3) (by simp)
  simpa using h2
 have HB3:Hx (Ov w W3):=by show Ov _ _;rw [hW3];exact (HBB.o.trans (hb3.mono HBB.o.size)).setCell HWW.o _
 have K4:=Aa (LD bi bo g2 g3 k2 k3 W3 h3S)
 have H3S:=Aa h3S
 have HP3:=Aa hp3
 clear hown3 hgr3 hg3 hg3l hr3 hb3 hgn h3S hp3 HB2 HS2 HR2 HM2 HN2 HP2 HI2 HO2 HV2 HF2 HBB p0 p1 p2 p3 p4 p5 p6 p7 z5 z7
 go_wp2_with fail
 rw [<-hW3]
 clear hW3 r0 r1 r2 r3 r4 r5 r6 r7 z7'
 refine K4.o.mono ?_
 rintro e W4 ⟨b1,b2,b3,rfl,m1,m2,m3,hb4⟩
 obtain ⟨r0,r1,r2,r3,r4,r5,r6,r7⟩:=rc8 (HP3.o.over hb4)
 have K5:=Aa (Lx bi bo g2 g3 k2 k3 W4 ⟨H3S.o.ins.over hb4,H3S.o.outs.over hb4,H3S.o.vars.over hb4,H3S.o.main.over hb4⟩)
 have HB4:Hx (Ov w W4):=HB3.o.trans (hb4.mono HB3.o.size)
 have M1:=Aa m1
 have M2:=Aa m2
 have M3:=Aa m3
 clear hb4 m1 m2 m3 K4
 go_wp2_with fail
 refine K5.o.mono ?_
 rintro e W5 ⟨a1,n1,c1,a2,n2,c2,a3,n3,c3,a4,n4,c4,a5,n5,c5,a6,n6,c6,a7,c7,rfl,hb5⟩
 obtain ⟨W6,hW6⟩:=nm (W5.alloc (zf #[zd U 1,O a1 n1 c1,O a2 n2 c2,O a3 n3 c3,O a4 n4 c4,O a5 n5 c5,O a6 n6 c6,O a7 2 c7] 31))
 have hb6:Ov W5 W6:=by rw [hW6];exact bA _ _
 have hq6:Af [zd U 1,O a1 n1 c1,O a2 n2 c2,O a3 n3 c3,O a4 n4 c4,O a5 n5 c5,O a6 n6 c6,O a7 2 c7] W6 W5.heap.size:=by rw [hW6];exact Az W5 [zd U 1,O a1 n1 c1,O a2 n2 c2,O a3 n3 c3,O a4 n4 c4,O a5 n5 c5,O a6 n6 c6,O a7 2 c7] 31
 have hs6:W6.heap.size=W5.heap.size+1:=by rw [hW6];exact alS _ _
 have hb46:Ov W4 W6:=hb5.trans (hb6.mono hb5.size)
 have HB6:Hx (Ov w W6):=HB4.o.trans (hb46.mono HB4.o.size)
 have N1:=Aa (M1.o.over hb46)
 have N2:=Aa (M2.o.over hb46)
 have N3:=Aa (M3.o.over hb46)
 have HQ6:=Aa hq6
 clear hb5 hb6 hq6 hb46 K5 r0 r1 r2 r3 r4 r5 r6 r7
 obtain ⟨Z1,hZ1⟩:=nm (W6.alloc (zf #[ze true,ze false] 4))
 have hbz1:Ov W6 Z1:=by rw [hZ1];exact bA _ _
 have hrz1:Af ([true,false].map Value.bool) Z1 (W5.heap.size+1):=by rw [hZ1,<-hs6];exact Az W6 ([true,false].map Value.bool) 4
 have KZ1:=Aa (Eg [true,false] _ _ Z1 (Cg (N1.o.over hbz1) (by decide)) (Cg hrz1 (by decide)) (by decide))
 have HBZ1:=Aa hbz1
 clear hbz1 hrz1
 go_wp2_with fail
 rw [<-hW6]
 rw [<-hZ1]
 clear hZ1 hW6
 refine KZ1.o.mono ?_
 rintro e Y1 ⟨rfl,hy⟩
 have HBY1:Hx (Ov W6 Y1):=HBZ1.o.trans (hy.mono HBZ1.o.size)
 clear hy KZ1
 have N21:=Aa (N2.o.over HBY1.o)
 have N31:=Aa (N3.o.over HBY1.o)
 obtain ⟨Z2,hZ2⟩:=nm (Y1.alloc (zf #[ze true] 4))
 have hbz2:Ov Y1 Z2:=by rw [hZ2];exact bA _ _
 have hrz2:Af ([true].map Value.bool) Z2 (Y1.heap.size):=by rw [hZ2];exact Az Y1 ([true].map Value.bool) 4
 have KZ2:=Aa (Eg [true] _ _ Z2 (Cg (N21.o.over hbz2) (by decide)) (Cg hrz2 (by decide)) (by decide))
 have HBZ2:=Aa hbz2
 clear hbz2 hrz2
 go_wp2_with fail
 rw [<-hZ2]
 clear hZ2
 refine KZ2.o.mono ?_
 rintro e Y2 ⟨rfl,hy⟩
 have HBY2:Hx (Ov Y1 Y2):=HBZ2.o.trans (hy.mono HBZ2.o.size)
 clear hy KZ2
 have N32:=Aa (N31.o.over HBY2.o)
 obtain ⟨Z3,hZ3⟩:=nm (Y2.alloc (zf #[ze true,ze true,ze false] 4))
 have hbz3:Ov Y2 Z3:=by rw [hZ3];exact bA _ _
 have hrz3:Af ([true,true,false].map Value.bool) Z3 (Y2.heap.size):=by rw [hZ3];exact Az Y2 ([true,true,false].map Value.bool) 4
 have KZ3:=Aa (Eg [true,true,false] _ _ Z3 (Cg (N32.o.over hbz3) (by decide)) (Cg hrz3 (by decide)) (by decide))
 have HBZ3:=Aa hbz3
 clear hbz3 hrz3
 go_wp2_with fail
 rw [<-hZ3]
 clear hZ3
 refine KZ3.o.mono ?_
 rintro e Y3 ⟨rfl,hy⟩
 have HBY3:Hx (Ov Y2 Y3):=HBZ3.o.trans (hy.mono HBZ3.o.size)
 clear hy KZ3
 have hB:Ov W6 Y3:=(HBY1.o.trans (HBY2.o.mono HBY1.o.size)).trans (HBY3.o.mono (HBY1.o.trans (HBY2.o.mono HBY1.o.size)).size)
 obtain ⟨-,-,-,-,-,-,-,t7⟩:=rc8 (HQ6.o.over hB)
 have HBF:Hx (Ov w Y3):=HB6.o.trans (hB.mono HB6.o.size)
 clear hB
 go_wp2_with fail
 go_ret
 exact ⟨rfl,HBF.o⟩
end Go.Proofs.YtfffpjkcfnekaaaGreat.Ex
