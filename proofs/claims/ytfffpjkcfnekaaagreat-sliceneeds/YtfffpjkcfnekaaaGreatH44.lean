/- Commands are right: kind 8. -/
import Derived.Test.YtfffpjkcfnekaaaGreatH36
set_option linter.unusedVariables false
set_option maxHeartbeats 8000000
set_option maxRecDepth 100000
namespace Go.Proofs.YtfffpjkcfnekaaaGreat.Ex
open Go.RowKit
open Go.Value renaming slice -> O, int -> zd, bool -> ze, agg -> zg, pointer -> zi, tuple -> zj
open Go.IntKind renaming i64 -> U
open Go.Obj renaming cells -> zf
open Go.Ending renaming returned -> zh
theorem Kz (K kf:Nat) (m:Int) (ga:Option Addr) (gn gc:Nat) (sa:Option Addr) (sn sc:Nat) (ya:Option Addr) (yn yc:Nat) (oa:Option Addr) (on oc:Nat) (va:Option Addr) (vn vc:Nat) (fa:Option Addr) (fn fc:Nat) (ba:Option Addr) (bn bd:Nat) (fs:List FnD) (funcs:Int) (w0 w wr:World) (d:D) (sv so ek en:Int) (xa:Option Addr) (xl xc:Nat) (aa:Option Addr) (al ac:Nat) (ta:Option Addr) (tl tc:Nat) (ea:Option Addr) (el ec:Nat) (b off cap j LL:Nat) (v1:Int) (y6 y8 y9 y10 y11 y12 y13 y18 y19 y20 y21 y22 y23 y24 y25 y26 y27 y28 y29 y30 y31 y32 y33 y34 y35 y36 y37 y38 y39 y40 y41 y42 y43 y44 y45 y46 y47 y48 y49 y50 y51 y52 y53 y54 y55 y56 y57 y58 y59 y60 y61 y62 y63 y64 y65 y66 y67 y68 y69 y70 y71 y72 y73 y74 y75 y76 y77 y78 y79 y80 y81 y82 y83 y84 y85 y86 y87 y88 y89 y90 y91 y92 y93 y94 y95 y96 y97 y98 y99 y100 y101 y102 y103 y104 y105 y106 y107 y108 y109 y110 y111 y112 y113 y114 y115 y116 y117 y118 y119 y120 y121 y122 y123 y124 y125 y126 y127 y128 y129 y130 y131 y132 y133 y134 y135 y136 y137 y138 y139 y140 y141 y142 y143 y144 y145 y146 y147 y148 y149 y150 y151 y152 y153 y154 y155 y156 y157 y158 y159 y160 y161 y162 y163 y164 y165 y166 y167 y168 y169 y170 y171 y172 y173 y174 y175 y176 y177 y178 y179 y180 y181 y182 y183 y184 y185 y186 y187 y188 y189 y190 y191 y192 y193 y194 y195 y196 y197 y198:Value)
  (HFN:Hx (AL w0 K kf (O fa fn fc) fs)) (HPS:Hx (∀ f∈fs,f.ps.length<=4)) (HFN1:Hx (fn=fs.length)) (HNV:Hx (vn<=16/\yn<=5/\on<=5)) (HFU:Hx (0<=funcs/\funcs<=fs.length/\fs.length<=5)) (hwv:IntKind.i64.wrap ((vn:Int) - 1)=v1) (HV1:Hx (v1=(vn:Int) - 1))
  (HKD:Hx ((8:Int)=Ae d/\sv=Av d/\so=Ac d/\True)) (HLN:Hx (al=(Ah d).length/\tl=(Af d).length/\el=(Al d).length)) (HEX:Hx (ek=Ap (Ai d)/\en=AA (Ai d)/\xl=(Ar (Ai d)).length)) (HOK:Hx (Ey.xS1 K vn yn on funcs fs d)) (HX:Hx (RX w0 K [zd U ek,zd U en,O xa xl xc] (Ai d))) (HAR:Hx (XS 3 (RX w0 K) w0 (O aa al ac) (Ah d)))
  (KT:Hx (∀ X,Ov w0 X->Calls Tryz.prog 96 #[zg #[zd U m,O ga gn gc,O sa sn sc,O ya yn yc,O oa on oc,O va vn vc,O fa fn fc,O ba bn bd],zd U funcs,O ta tl tc] X fun e w'=>e=zh (zd U 0)/\Ov X w')) (KE:Hx (∀ X,Ov w0 X->Calls Tryz.prog 96 #[zg #[zd U m,O ga gn gc,O sa sn sc,O ya yn yc,O oa on oc,O va vn vc,O fa fn fc,O ba bn bd],zd U funcs,O ea el ec] X fun e w'=>e=zh (zd U 0)/\Ov X w'))
  (HPR:Hx (Ad [zd U m,O ga gn gc,O sa sn sc,O ya yn yc,O oa on oc,O va vn vc,O fa fn fc,O ba bn bd] wr w.heap.size)) (HB0:Hx (Ov w0 wr)) (HBW:Hx (Ov w wr)) (hlm:LL<=9223372036854775807) (hlt1:(j:Int) < (LL:Int)) (c0:wr.cell? ⟨b,off+j*9,none⟩=some (zd U 8)) (c1:wr.cell? ⟨b,off+j*9+1,none⟩=some (zd U sv)) (c2:wr.cell? ⟨b,off+j*9+2,none⟩=some (zd U so)) (c3:wr.cell? ⟨b,off+j*9+3,none⟩=some (zd U ek)) (c4:wr.cell? ⟨b,off+j*9+4,none⟩=some (zd U en)) (c5:wr.cell? ⟨b,off+j*9+5,none⟩=some (O xa xl xc)) (c6:wr.cell? ⟨b,off+j*9+6,none⟩=some (O aa al ac)) (c7:wr.cell? ⟨b,off+j*9+7,none⟩=some (O ta tl tc)) (c8:wr.cell? ⟨b,off+j*9+8,none⟩=some (O ea el ec)) :
  (BU (Tryz.f96.body.getD .skip)).wp Tryz.prog (BR (fun a W=>∃ (x6 x8 x9 x10 x11 x12 x13 x14 x15 x16 x17 x18 x19 x20 x21 x22 x23 x24 x25 x26 x27 x28 x29 x30 x31 x32 x33 x34 x35 x36 x37 x38 x39 x40 x41 x42 x43 x44 x45 x46 x47 x48 x49 x50 x51 x52 x53 x54 x55 x56 x57 x58 x59 x60 x61 x62 x63 x64 x65 x66 x67 x68 x69 x70 x71 x72 x73 x74 x75 x76 x77 x78 x79 x80 x81 x82 x83 x84 x85 x86 x87 x88 x89 x90 x91 x92 x93 x94 x95 x96 x97 x98 x99 x100 x101 x102 x103 x104 x105 x106 x107 x108 x109 x110 x111 x112 x113 x114 x115 x116 x117 x118 x119 x120 x121 x122 x123 x124 x125 x126 x127 x128 x129 x130 x131 x132 x133 x134 x135 x136 x137 x138 x139 x140 x141 x142 x143 x144 x145 x146 x147 x148 x149 x150 x151 x152 x153 x154 x155 x156 x157 x158 x159 x160 x161 x162 x163 x164 x165 x166 x167 x168 x169 x170 x171 x172 x173 x174 x175 x176 x177 x178 x179 x180 x181 x182 x183 x184 x185 x186 x187 x188 x189 x190 x191 x192 x193 x194 x195 x196 x197 x198:Value),a={ tmps:=#[zg #[zd U m,O ga gn gc,O sa sn sc,O ya yn yc,O oa on oc,O va vn vc,O fa fn fc,O ba bn bd],zd U funcs,O (some ⟨b,off,none⟩) LL cap,zi (some ⟨w.heap.size,0,none⟩),undef,undef,x6,zd U (j:Int),x8,x9,x10,x11,x12,x13,x14,x15,x16,x17,x18,x19,x20,x21,x22,x23,x24,x25,x26,x27,x28,x29,x30,x31,x32,x33,x34,x35,x36,x37,x38,x39,x40,x41,x42,x43,x44,x45,x46,x47,x48,x49,x50,x51,x52,x53,x54,x55,x56,x57,x58,x59,x60,x61,x62,x63,x64,x65,x66,x67,x68,x69,x70,x71,x72,x73,x74,x75,x76,x77,x78,x79,x80,x81,x82,x83,x84,x85,x86,x87,x88,x89,x90,x91,x92,x93,x94,x95,x96,x97,x98,x99,x100,x101,x102,x103,x104,x105,x106,x107,x108,x109,x110,x111,x112,x113,x114,x115,x116,x117,x118,x119,x120,x121,x122,x123,x124,x125,x126,x127,x128,x129,x130,x131,x132,x133,x134,x135,x136,x137,x138,x139,x140,x141,x142,x143,x144,x145,x146,x147,x148,x149,x150,x151,x152,x153,x154,x155,x156,x157,x158,x159,x160,x161,x162,x163,x164,x165,x166,x167,x168,x169,x170,x171,x172,x173,x174,x175,x176,x177,x178,x179,x180,x181,x182,x183,x184,x185,x186,x187,x188,x189,x190,x191,x192,x193,x194,x195,x196,x197,x198],defers:=[] }/\Ad [zd U m,O ga gn gc,O sa sn sc,O ya yn yc,O oa on oc,O va vn vc,O fa fn fc,O ba bn bd] W w.heap.size/\Ov w W)) { tmps:=#[zg #[zd U m,O ga gn gc,O sa sn sc,O ya yn yc,O oa on oc,O va vn vc,O fa fn fc,O ba bn bd],zd U funcs,O (some ⟨b,off,none⟩) LL cap,zi (some ⟨w.heap.size,0,none⟩),undef,undef,y6,zd U (j:Int),y8,y9,y10,y11,y12,y13,zd U (j:Int),O (some ⟨b,off,none⟩) LL cap,zd U (LL:Int),ze true,y18,y19,y20,y21,y22,y23,y24,y25,y26,y27,y28,y29,y30,y31,y32,y33,y34,y35,y36,y37,y38,y39,y40,y41,y42,y43,y44,y45,y46,y47,y48,y49,y50,y51,y52,y53,y54,y55,y56,y57,y58,y59,y60,y61,y62,y63,y64,y65,y66,y67,y68,y69,y70,y71,y72,y73,y74,y75,y76,y77,y78,y79,y80,y81,y82,y83,y84,y85,y86,y87,y88,y89,y90,y91,y92,y93,y94,y95,y96,y97,y98,y99,y100,y101,y102,y103,y104,y105,y106,y107,y108,y109,y110,y111,y112,y113,y114,y115,y116,y117,y118,y119,y120,y121,y122,y123,y124,y125,y126,y127,y128,y129,y130,y131,y132,y133,y134,y135,y136,y137,y138,y139,y140,y141,y142,y143,y144,y145,y146,y147,y148,y149,y150,y151,y152,y153,y154,y155,y156,y157,y158,y159,y160,y161,y162,y163,y164,y165,y166,y167,y168,y169,y170,y171,y172,y173,y174,y175,y176,y177,y178,y179,y180,y181,y182,y183,y184,y185,y186,y187,y188,y189,y190,y191,y192,y193,y194,y195,y196,y197,y198],defers:=[] } wr:=by
 show Code.wp Tryz.prog (Code.block 1 _) _ _ _
 have HVn:Hx (∀ W,Calls Tryz.prog 157 #[zd U 8] W fun e w'=>e=zh (ze false)/\w'=W):=fun W=>Cq (k:=8) (by decide) W
 have HEn:Hx (∀ W,Calls Tryz.prog 158 #[zd U 8] W fun e w'=>e=zh (ze true)/\w'=W):=fun W=>B7 (k:=8) (by decide) W
 have B18:=btw (x:=8) (a:=1) (b:=8) (r:=true) (by decide)
 have B24:=btw (x:=8) (a:=2) (b:=4) (r:=false) (by decide)
 have hsv0:sv=0:=HKD.o.2.1.trans (HOK.o.2.1 (by rw [<-HKD.o.1];decide))
 subst hsv0
 have hso0:so=0:=HKD.o.2.2.1.trans (HOK.o.2.2.1 (by rw [<-HKD.o.1];decide))
 subst hso0
 have hck:Am (vn:Int) K (Ai d)=0:=HOK.o.1.2.2.2.2.1 (by rw [<-HKD.o.1];decide)
 have hek0:(ek == 0)=false:=by have h1:=CX hck HX.o;simpa using h1
 have KX:Hx (∀ X,Ov w0 X->Calls Tryz.prog 97 #[zg #[zd U ek,zd U en,O xa xl xc],zd U (vn:Int)] X fun e w'=>e=zh (zd U 0)/\Ov X w'):=fun X hX=>by
  have h1:=Br K [zd U ek,zd U en,O xa xl xc] (Ai d) X (vn:Int) (by omega) (by have h2:=HNV.o;omega) (RX.over HX.o hX)
  rw [hck] at h1
  exact h1
 clear hck
 have hal0:al=0:=HLN.o.1.trans (by rw [HOK.o.2.2.2.2.1 (by rw [<-HKD.o.1];decide)];rfl)
 subst hal0
 have hel0:el=0:=HLN.o.2.2.trans (by rw [HOK.o.2.2.2.2.2.2 (by rw [<-HKD.o.1];decide)];rfl)
 subst hel0
 have hb1:Ov wr (wr.alloc (zf #[zd U 8,zd U 0,zd U 0,zd U ek,zd U en,O xa xl xc,O aa 0 ac,O ta tl tc,O ea 0 ec] 130)):=bA _ _
 have hb2:Ov wr ((wr.alloc (zf #[zd U 8,zd U 0,zd U 0,zd U ek,zd U en,O xa xl xc,O aa 0 ac,O ta tl tc,O ea 0 ec] 130)).alloc (zf #[zd U 0,zd U 0,zd U funcs,zd U (yn:Int),zd U (on:Int),zd U 0,zd U 0,zd U 0,zd U 0] 3)):=(bA wr _).alloc (by simp) _
 have hx1:Ad [zd U 8,zd U 0,zd U 0,zd U ek,zd U en,O xa xl xc,O aa 0 ac,O ta tl tc,O ea 0 ec] (wr.alloc (zf #[zd U 8,zd U 0,zd U 0,zd U ek,zd U en,O xa xl xc,O aa 0 ac,O ta tl tc,O ea 0 ec] 130)) wr.heap.size:=Ay wr [zd U 8,zd U 0,zd U 0,zd U ek,zd U en,O xa xl xc,O aa 0 ac,O ta tl tc,O ea 0 ec] 130
 obtain ⟨V2,hV2⟩:=nm ((wr.alloc (zf #[zd U 8,zd U 0,zd U 0,zd U ek,zd U en,O xa xl xc,O aa 0 ac,O ta tl tc,O ea 0 ec] 130)).alloc (zf #[zd U 0,zd U 0,zd U funcs,zd U (yn:Int),zd U (on:Int),zd U 0,zd U 0,zd U 0,zd U 0] 3))
 have hx2:Ad [zd U 8,zd U 0,zd U 0,zd U ek,zd U en,O xa xl xc,O aa 0 ac,O ta tl tc,O ea 0 ec] V2 wr.heap.size:=by rw [hV2];exact hx1.over (bA _ _)
 have hp2:Ad [zd U m,O ga gn gc,O sa sn sc,O ya yn yc,O oa on oc,O va vn vc,O fa fn fc,O ba bn bd] V2 w.heap.size:=by rw [hV2];exact HPR.o.over hb2
 have hB2:Ov w0 V2:=by rw [hV2];exact HB0.o.trans (hb2.mono HB0.o.size)
 have HWV:Hx (Ov w V2):=by show Ov _ _;rw [hV2];exact HBW.o.trans (hb2.mono HBW.o.size)
 obtain ⟨p0,p1,p2,p3,p4,p5,p6,p7⟩:=rc8 (HPR.o.over hb1)
 obtain ⟨q0,q1,q2,q3,q4,q5,q6,q7⟩:=rc8 (HPR.o.over hb2)
 have HX2:=Aa hx2
 have HP2:=Aa hp2
 have HB2:=Aa hB2
 clear hb1 hb2 hx1 hx2 hp2 hB2
 go_wp2_with fail
 refine (B18.o _).mono ?_
 rintro e w' ⟨rfl,rfl⟩
 go_wp2_with fail
 refine (HVn.o _).mono ?_
 rintro e w' ⟨rfl,rfl⟩
 go_wp2_with fail
 refine (B24.o _).mono ?_
 rintro e w' ⟨rfl,rfl⟩
 go_wp2_with fail
 refine (HVn.o _).mono ?_
 rintro e w' ⟨rfl,rfl⟩
 go_wp2_with fail
 refine (B24.o _).mono ?_
 rintro e w' ⟨rfl,rfl⟩
 go_wp2_with fail
 refine (HEn.o _).mono ?_
 rintro e w' ⟨rfl,rfl⟩
 go_wp2_with fail
 rw [<-hV2]
 clear hV2 p0 p1 p2 p3 p4 p5 p6 p7 q0 q1 q2 q3 q4 q5 q6 q7
 obtain ⟨x0,x1,x2,x3,x4,x5,x6,x7,x8⟩:=rc9 HX2.o
 obtain ⟨p0,p1,p2,p3,p4,p5,p6,p7⟩:=rc8 HP2.o
 refine gS (fun Wz=>Below V2.heap.size V2 Wz) (Below.refl _ _).drew fun hHeld=>?_
 generalize V2.drew=W at hHeld ⊢
 refine kO 0 ?_
 refine kO 1 ?_
 refine kO 2 ?_
 refine kU 3 ?_
 refine kU 4 ?_
 refine kU 5 ?_
 refine kU 6 ?_
 refine kU 7 ?_
 refine kU 8 ?_
 refine kU 9 ?_
 refine kU 10 ?_
 refine kU 11 ?_
 refine kU 12 ?_
 refine kU 13 ?_
 refine kU 14 ?_
 refine kO 15 ?_
 refine gE ?_
 have HBw:Hx (Ov V2 W):=hHeld
 have HXw:=Aa (HX2.o.over hHeld)
 have HPw:=Aa (HP2.o.over hHeld)
 obtain ⟨x0,x1,x2,x3,x4,x5,x6,x7,x8⟩:=rc9 HXw.o
 obtain ⟨p0,p1,p2,p3,p4,p5,p6,p7⟩:=rc8 HPw.o
 clear hHeld
 go_wp2_with fail
 refine (HEn.o _).mono ?_
 rintro e w' ⟨rfl,rfl⟩
 go_wp2_with fail
 refine (KX.o _ (HB2.o.trans (HBw.o.mono HB2.o.size))).mono ?_
 rintro e WE ⟨rfl,hbE⟩
 obtain ⟨x0,x1,x2,x3,x4,x5,x6,x7,x8⟩:=rc9 (HXw.o.over hbE)
 obtain ⟨p0,p1,p2,p3,p4,p5,p6,p7⟩:=rc8 (HPw.o.over hbE)
 have HBE:Hx (Ov V2 WE):=HBw.o.trans (hbE.mono HBw.o.size)
 clear hbE
 go_wp2_with fail
 go_loopw [12,13] (fun ee ii wz=>∃ q:Nat,q<=0/\ii=zd U q/\ee=zd U 0/\Ov V2 wz) (fun _ ii _=>0 - (intOf ii).toNat)
 case atStart=>exact ⟨0,Nat.zero_le _,rfl,rfl,HBE.o⟩
 case round=>
  obtain ⟨qz,hqz,rfl,rfl,hBz⟩:=hrel
  obtain ⟨x0,x1,x2,x3,x4,x5,x6,x7,x8⟩:=rc9 (HX2.o.over hBz)
  obtain ⟨p0,p1,p2,p3,p4,p5,p6,p7⟩:=rc8 (HP2.o.over hBz)
  by_cases hqa:qz < 0
  ·omega
  ·have hqe:qz=0:=by omega
   subst hqe
   have HBz:=Aa hBz
   clear hBz hqa hqz
   go_wp2_with fail
   refine (KT.o _ (HB2.o.trans (HBz.o.mono HB2.o.size))).mono ?_
   rintro e WT ⟨rfl,hbT⟩
   have HBT:Hx (Ov V2 WT):=HBz.o.trans (hbT.mono HBz.o.size)
   obtain ⟨x0,x1,x2,x3,x4,x5,x6,x7,x8⟩:=rc9 (HX2.o.over HBT.o)
   obtain ⟨p0,p1,p2,p3,p4,p5,p6,p7⟩:=rc8 (HP2.o.over HBT.o)
   clear hbT
   go_wp2_with fail
   refine (KE.o _ (HB2.o.trans (HBT.o.mono HB2.o.size))).mono ?_
   rintro e WL ⟨rfl,hbL⟩
   have HBL:Hx (Ov V2 WL):=HBT.o.trans (hbL.mono HBT.o.size)
   have HFI:Hx (Ov w WL):=HWV.o.trans (HBL.o.mono HWV.o.size)
   have HPL:=Aa (HP2.o.over HBL.o)
   clear hbL
   go_wp2_with fail
   exact AJ ⟨_,_,_,_,_,_,_,_,_,_,_,_,_,_,_,_,_,_,_,_,_,_,_,_,_,_,_,_,_,_,_,_,_,_,_,_,_,_,_,_,_,_,_,_,_,_,_,_,_,_,_,_,_,_,_,_,_,_,_,_,_,_,_,_,_,_,_,_,_,_,_,_,_,_,_,_,_,_,_,_,_,_,_,_,_,_,_,_,_,_,_,_,_,_,_,_,_,_,_,_,_,_,_,_,_,_,_,_,_,_,_,_,_,_,_,_,_,_,_,_,_,_,_,_,_,_,_,_,_,_,_,_,_,_,_,_,_,_,_,_,_,_,_,_,_,_,_,_,_,_,_,_,_,_,_,_,_,_,_,_,_,_,_,_,_,_,_,_,_,_,_,_,_,_,_,_,_,_,_,_,_,_,_,_,_,_,_,_,_,_,_,_,rfl,HPL.o,HFI.o⟩
end Go.Proofs.YtfffpjkcfnekaaaGreat.Ex
