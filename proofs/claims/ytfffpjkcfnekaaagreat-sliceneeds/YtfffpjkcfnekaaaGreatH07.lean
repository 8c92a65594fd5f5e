/- Checks of one command, whatever it is. -/
import Derived.Test.YtfffpjkcfnekaaaGreatH06
import Derived.Deep.RegionHeld2
set_option linter.unusedVariables false
set_option maxHeartbeats 8000000
set_option maxRecDepth 100000
namespace Go.Proofs.YtfffpjkcfnekaaaGreat.Ex.Ey
open Go.RowKit
open Go.Value renaming slice -> O, int -> zd, bool -> ze, agg -> zg, pointer -> zi, tuple -> zj
open Go.IntKind renaming i64 -> U
open Go.Obj renaming cells -> zf
open Go.Ending renaming returned -> zh
theorem G3 (K k:Nat) (fs de das) (funcs:Int) (m:Int) (ga gn gc sa sn sc) (ya:Option Addr) (yn yc:Nat) (oa:Option Addr) (on oc:Nat) (va:Option Addr) (vn vc:Nat) (fa fn fc ba bn bc) (vr ot ek en:Int) (xa xl xc aa al ac ta tl tc ea el ec) (w:World) (hv:vn<=9223372036854775807) (i1:Bn vr) (i2:Bn ot) (h0f:0<=funcs) (h1f:funcs<=9223372036854775807) (hyl:yn<=9223372036854775807) (hol:on<=9223372036854775807)
  (hde:RX w K [zd U ek,zd U en,O xa xl xc] de) (hda:XS 3 (RX w K) w (O aa al ac) das) (hfs:AL w K k (O fa fn fc) fs) (hff:funcs<=fs.length) :
  Calls Tryz.prog 220 #[zg #[zd U m,O ga gn gc,O sa sn sc,O ya yn yc,O oa on oc,O va vn vc,O fa fn fc,O ba bn bc],zg #[zd U 1,zd U vr,zd U ot,zd U ek,zd U en,O xa xl xc,O aa al ac,O ta tl tc,O ea el ec],zd U funcs] w (BB ((0<=vr/\vr < vn)/\(ot=0)/\(Am vn K de=0)/\(al=0)/\(tl=0)/\(el=0)) w):=by
 obtain ⟨Q,hQ⟩:∃ Q:Prop,Q=((0<=vr/\vr < vn)/\(ot=0)/\(Am vn K de=0)/\(al=0)/\(tl=0)/\(el=0)):=⟨_,rfl⟩
 rw [<-hQ]
 have HQ:Hx (((0<=vr/\vr < vn)/\(ot=0)/\(Am vn K de=0)/\(al=0)/\(tl=0)/\(el=0))->Q):=Aa (fun p=>by rw [hQ];exact p)
 have N1:Hx (¬ (0<=vr/\vr < vn)->¬ Q):=Aa (fun h p=>by rw [hQ] at p;exact h p.1)
 have N2:Hx (¬ (ot=0)->¬ Q):=Aa (fun h p=>by rw [hQ] at p;exact h p.2.1)
 have N3:Hx (¬ (Am vn K de=0)->¬ Q):=Aa (fun h p=>by rw [hQ] at p;exact h p.2.2.1)
 have N4:Hx (¬ (al=0)->¬ Q):=Aa (fun h p=>by rw [hQ] at p;exact h p.2.2.2.1)
 have N5:Hx (¬ (tl=0)->¬ Q):=Aa (fun h p=>by rw [hQ] at p;exact h p.2.2.2.2.1)
 have N6:Hx (¬ (el=0)->¬ Q):=Aa (fun h p=>by rw [hQ] at p;exact h p.2.2.2.2.2)
 clear hQ
 have K1:=Aa Gg
 have K2:=Aa AM
 have K3:=Aa Ax
 have K4:=Aa fun W=>AY 1 funcs m ga gn gc sa sn sc ya yn yc oa on oc va vn vc fa fn fc ba bn bc W
 have K5:=Aa fun W (hB:Ov w W)=>AP K m ga gn gc sa sn sc ya yn yc oa on oc va vn vc fa fn fc ba bn bc _ _ W (hde.over hB) hv
 have hal:al<=9223372036854775807/\al=das.length:=⟨by obtain ⟨hm,ao,cap,he,-⟩:=hda;injection he with e1 e2 e3;rw [e2];exact hm,by obtain ⟨hm,ao,cap,he,-⟩:=hda;injection he⟩
 obtain ⟨hal,hale⟩:=hal
 have HAL:=Aa hale
 obtain ⟨i1,i1'⟩:=i1
 obtain ⟨i2,i2'⟩:=i2
 clear hde hda hfs hale
 obtain ⟨c0,c1,c2,c3,c4,c5,c6,c7⟩:=rc8 (CB w [zd U m,O ga gn gc,O sa sn sc,O ya yn yc,O oa on oc,O va vn vc,O fa fn fc,O ba bn bc] 184 (zf #[zd U 1,zd U vr,zd U ot,zd U ek,zd U en,O xa xl xc,O aa al ac,O ta tl tc,O ea el ec] 130))
 obtain ⟨s0,s1,s2,s3,s4,s5,s6,s7,s8⟩:=rc9 (CY w (zf #[zd U m,O ga gn gc,O sa sn sc,O ya yn yc,O oa on oc,O va vn vc,O fa fn fc,O ba bn bc] 184) [zd U 1,zd U vr,zd U ot,zd U ek,zd U en,O xa xl xc,O aa al ac,O ta tl tc,O ea el ec] 130)
 have hbel:Ov w ((w.alloc (zf #[zd U m,O ga gn gc,O sa sn sc,O ya yn yc,O oa on oc,O va vn vc,O fa fn fc,O ba bn bc] 184)).alloc (zf #[zd U 1,zd U vr,zd U ot,zd U ek,zd U en,O xa xl xc,O aa al ac,O ta tl tc,O ea el ec] 130)):=(bA w _).alloc (by simp) _
 go_enter Tryz.func220,Tryz.ntmps220
 go_wp2_with fail
 refine (K1.o _).mono ?_
 rintro e w1 ⟨rfl,hb1⟩
 have hB1:=hbel.trans (hb1.mono hbel.size)
 have hb2:=Ag hb1 (bA w1 (zf #[ze true,ze false,ze true,ze false,ze false,ze false] 288))
 have hB2:=hbel.trans (hb2.mono hbel.size)
 obtain ⟨c0a,c1a,c2a,c3a,c4a,c5a,c6a,c7a,s0a,s1a⟩:=Bh hb2 c0 c1 c2 c3 c4 c5 c6 c7 s0 s1
 obtain ⟨s2a,s3a,s4a,s5a,s6a,s7a,s8a⟩:=co7 hb2 s2 s3 s4 s5 s6 s7 s8
 obtain ⟨h0a,h1a,h2a,h3a,h4a,h5a⟩:=rc6 (Ay w1 [ze true,ze false,ze true,ze false,ze false,ze false] 288)
 clear hb1 hb2 hbel hB1 c0 c1 c2 c3 c4 c5 c6 c7 s0 s1 s2 s3 s4 s5 s6 s7 s8
 go_wp2_with fail
 refine (K2.o _ _ _).mono ?_
 rintro e wz ⟨he,rfl⟩
 have he2:=orT he
 subst he2
 clear he
 go_wp2_with fail
 refine (K3.o _ _ _).mono ?_
 rintro e wz ⟨rfl,rfl⟩
 go_wp2_with fail
 refine (K2.o _ _ _).mono ?_
 rintro e wz ⟨he,rfl⟩
 rcases he with ⟨hvar,rfl⟩ | ⟨hz,rfl⟩
 rotate_left
 ·skip
  have HN:=nO N1 N2 N3 N4 N5 N6 hz
  clear hz
  unfold Ak
  go_wp2_with fail
  exact ⟨rfl,Or.inr ⟨HN.o,5,by decide,rfl⟩,hB2⟩
 have hvar2:0<=vr/\vr < vn:=by simpa using hvar
 have HVAR:=Aa hvar2
 clear hvar hvar2
 go_wp2_with fail
 go_quiet ((go_at_call 172;exact Calls.quiet_of_same (AH _ _)))
 obtain ⟨c0r,c1r,c2r,c3r,c4r,c5r,c6r,c7r,s0r,s1r⟩:=Bl (n:=nq) c0a c1a c2a c3a c4a c5a c6a c7a s0a s1a
 obtain ⟨s2r,s3r,s4r,s5r,s6r,s7r,s8r,h0r,h1r,h2r⟩:=Bl (n:=nq) s2a s3a s4a s5a s6a s7a s8a h0a h1a h2a
 obtain ⟨h3r,h4r,h5r⟩:=cn3 (n:=nq) h3a h4a h5a
 have hBr:=below_drewN hB2 nq
 clear hB2 c0a c1a c2a c3a c4a c5a c6a c7a s0a s1a s2a s3a s4a s5a s6a s7a s8a h0a h1a h2a h3a h4a h5a
 generalize (w1.alloc (zf #[ze true,ze false,ze true,ze false,ze false,ze false] 288)).drewN nq=wr at hBr c0r c1r c2r c3r c4r c5r c6r c7r s0r s1r s2r s3r s4r s5r s6r s7r s8r h0r h1r h2r h3r h4r h5r ⊢
 go_wp2_with fail
 refine (K2.o _ _ _).mono ?_
 rintro e wz ⟨he,rfl⟩
 have he2:=orT he
 subst he2
 clear he
 go_wp2_with fail
 refine (K2.o _ _ _).mono ?_
 rintro e wz ⟨he,rfl⟩
 rcases he with ⟨hz,rfl⟩ | ⟨hz,rfl⟩
 rotate_left
 ·skip
  have HN:=nO N1 N2 N3 N4 N5 N6 hz
  clear hz
  unfold Ak
  go_wp2_with fail
  exact ⟨rfl,Or.inr ⟨HN.o,1,by decide,rfl⟩,hBr⟩
 have HZ_1:=Aa hz
 clear hz
 go_wp2_with fail
 refine (K2.o _ _ _).mono ?_
 rintro e wz ⟨he,rfl⟩
 have he2:=orT he
 subst he2
 clear he
 go_wp2_with fail
 refine (K2.o _ _ _).mono ?_
 rintro e wz ⟨he,rfl⟩
 rcases he with ⟨hargs,rfl⟩ | ⟨hz,rfl⟩
 rotate_left
 ·skip
  have HN:=nO N1 N2 N3 N4 N5 N6 hz
  clear hz
  unfold Ak
  go_wp2_with fail
  exact ⟨rfl,Or.inr ⟨HN.o,1,by decide,rfl⟩,hBr⟩
 have hal0:al=0:=by simp at hargs;omega
 subst hal0
 clear hargs
 go_wp2_with fail
 refine (K2.o _ _ _).mono ?_
 rintro e wz ⟨he,rfl⟩
 rcases he with ⟨hz,rfl⟩ | ⟨hz,rfl⟩
 rotate_left
 ·skip
  have HN:=nO N1 N2 N3 N4 N5 N6 hz
  clear hz
  unfold Ak
  go_wp2_with fail
  exact ⟨rfl,Or.inr ⟨HN.o,1,by decide,rfl⟩,hBr⟩
 have HZ_2:=Aa hz
 clear hz
 go_wp2_with fail
 refine (K2.o _ _ _).mono ?_
 rintro e wz ⟨he,rfl⟩
 rcases he with ⟨hz,rfl⟩ | ⟨hz,rfl⟩
 rotate_left
 ·skip
  have HN:=nO N1 N2 N3 N4 N5 N6 hz
  clear hz
  unfold Ak
  go_wp2_with fail
  exact ⟨rfl,Or.inr ⟨HN.o,1,by decide,rfl⟩,hBr⟩
 have HZ_3:=Aa hz
 clear hz
 go_wp2_with fail
 go_quiet ((go_at_call 172;exact Calls.quiet_of_same (AH _ _)))
 obtain ⟨c0q,c1q,c2q,c3q,c4q,c5q,c6q,c7q,s0q,s1q⟩:=Bl (n:=nq) c0r c1r c2r c3r c4r c5r c6r c7r s0r s1r
 obtain ⟨s2q,s3q,s4q,s5q,s6q,s7q,s8q,h0q,h1q,h2q⟩:=Bl (n:=nq) s2r s3r s4r s5r s6r s7r s8r h0r h1r h2r
 obtain ⟨h3q,h4q,h5q⟩:=cn3 (n:=nq) h3r h4r h5r
 have hBq:=below_drewN hBr nq
 clear c0r c1r c2r c3r c4r c5r c6r c7r s0r s1r s2r s3r s4r s5r s6r s7r s8r h0r h1r h2r h3r h4r h5r
 go_wp2_with fail
 refine (K5.o _ hBq).mono ?_
 rintro e w5 ⟨he,hb5⟩
 have hB5:=hBq.trans (hb5.mono hBq.size)
 rcases he with ⟨hex,rfl⟩ | ⟨hnex,why,hwhy,rfl⟩
 rotate_left
 ·have HN:=Aa (N3.o hnex)
  clear hnex
  unfold Ak
  go_wp2_with fail
  exact ⟨rfl,Or.inr ⟨HN.o,why,hwhy,rfl⟩,hB5⟩
 obtain ⟨c05,c15,c25,c35,c45,c55,c65,c75,s05,s15⟩:=Bh hb5 c0q c1q c2q c3q c4q c5q c6q c7q s0q s1q
 obtain ⟨s25,s35,s45,s55,s65,s75,s85,h05,h15,h25⟩:=Bh hb5 s2q s3q s4q s5q s6q s7q s8q h0q h1q h2q
 obtain ⟨h35,h45,h55⟩:=co3 hb5 h3q h4q h5q
 have HEX:=Aa hex
 clear hex hb5 c0q c1q c2q c3q c4q c5q c6q c7q s0q s1q s2q s3q s4q s5q s6q s7q s8q h0q h1q h2q h3q h4q h5q
 go_wp2_with fail
 go_loopw [138] (fun i wr=>i=zd U 0/\Ov w wr) (fun _ _=>0)
 case atStart=>exact ⟨rfl,hB5⟩
 case round=>
  obtain ⟨rfl,hB⟩:=hrel
  go_wp2_with fail
  go_end0
  refine ⟨Or.inl ⟨HQ.o ⟨?_,?_,?_,?_,?_,?_⟩,rfl⟩,hB⟩
  all_goals first | trivial | exact HVAR.o | exact HOT.o | exact HEX.o | exact ⟨HZ1.o,HZ2.o,HXL.o⟩ | (have hq:=HZ_1.o;simp at hq;omega) | (have hq:=HZ_2.o;simp at hq;omega) | (have hq:=HZ_3.o;simp at hq;omega) | omega
theorem GZ (K k:Nat) (fs de das) (funcs:Int) (m:Int) (ga gn gc sa sn sc) (ya:Option Addr) (yn yc:Nat) (oa:Option Addr) (on oc:Nat) (va:Option Addr) (vn vc:Nat) (fa fn fc ba bn bc) (vr ot ek en:Int) (xa xl xc aa al ac ta tl tc ea el ec) (w:World) (hv:vn<=9223372036854775807) (i1:Bn vr) (i2:Bn ot) (h0f:0<=funcs) (h1f:funcs<=9223372036854775807) (hyl:yn<=9223372036854775807) (hol:on<=9223372036854775807)
  (hde:RX w K [zd U ek,zd U en,O xa xl xc] de) (hda:XS 3 (RX w K) w (O aa al ac) das) (hfs:AL w K k (O fa fn fc) fs) (hff:funcs<=fs.length) :
  Calls Tryz.prog 220 #[zg #[zd U m,O ga gn gc,O sa sn sc,O ya yn yc,O oa on oc,O va vn vc,O fa fn fc,O ba bn bc],zg #[zd U 5,zd U vr,zd U ot,zd U ek,zd U en,O xa xl xc,O aa al ac,O ta tl tc,O ea el ec],zd U funcs] w (BB ((0<=vr/\vr < vn)/\(ot=0)/\(Am vn K de=0)/\(al=0)/\(tl=0)/\(el=0)) w):=by
 obtain ⟨Q,hQ⟩:∃ Q:Prop,Q=((0<=vr/\vr < vn)/\(ot=0)/\(Am vn K de=0)/\(al=0)/\(tl=0)/\(el=0)):=⟨_,rfl⟩
 rw [<-hQ]
 have HQ:Hx (((0<=vr/\vr < vn)/\(ot=0)/\(Am vn K de=0)/\(al=0)/\(tl=0)/\(el=0))->Q):=Aa (fun p=>by rw [hQ];exact p)
 have N1:Hx (¬ (0<=vr/\vr < vn)->¬ Q):=Aa (fun h p=>by rw [hQ] at p;exact h p.1)
 have N2:Hx (¬ (ot=0)->¬ Q):=Aa (fun h p=>by rw [hQ] at p;exact h p.2.1)
 have N3:Hx (¬ (Am vn K de=0)->¬ Q):=Aa (fun h p=>by rw [hQ] at p;exact h p.2.2.1)
 have N4:Hx (¬ (al=0)->¬ Q):=Aa (fun h p=>by rw [hQ] at p;exact h p.2.2.2.1)
 have N5:Hx (¬ (tl=0)->¬ Q):=Aa (fun h p=>by rw [hQ] at p;exact h p.2.2.2.2.1)
 have N6:Hx (¬ (el=0)->¬ Q):=Aa (fun h p=>by rw [hQ] at p;exact h p.2.2.2.2.2)
 clear hQ
 have K1:=Aa Gc
 have K2:=Aa AM
 have K3:=Aa Ax
 have K4:=Aa fun W=>AY 5 funcs m ga gn gc sa sn sc ya yn yc oa on oc va vn vc fa fn fc ba bn bc W
 have K5:=Aa fun W (hB:Ov w W)=>AP K m ga gn gc sa sn sc ya yn yc oa on oc va vn vc fa fn fc ba bn bc _ _ W (hde.over hB) hv
 have hal:al<=9223372036854775807/\al=das.length:=⟨by obtain ⟨hm,ao,cap,he,-⟩:=hda;injection he with e1 e2 e3;rw [e2];exact hm,by obtain ⟨hm,ao,cap,he,-⟩:=hda;injection he⟩
 obtain ⟨hal,hale⟩:=hal
 have HAL:=Aa hale
 obtain ⟨i1,i1'⟩:=i1
 obtain ⟨i2,i2'⟩:=i2
 clear hde hda hfs hale
 obtain ⟨c0,c1,c2,c3,c4,c5,c6,c7⟩:=rc8 (CB w [zd U m,O ga gn gc,O sa sn sc,O ya yn yc,O oa on oc,O va vn vc,O fa fn fc,O ba bn bc] 184 (zf #[zd U 5,zd U vr,zd U ot,zd U ek,zd U en,O xa xl xc,O aa al ac,O ta tl tc,O ea el ec] 130))
 obtain ⟨s0,s1,s2,s3,s4,s5,s6,s7,s8⟩:=rc9 (CY w (zf #[zd U m,O ga gn gc,O sa sn sc,O ya yn yc,O oa on oc,O va vn vc,O fa fn fc,O ba bn bc] 184) [zd U 5,zd U vr,zd U ot,zd U ek,zd U en,O xa xl xc,O aa al ac,O ta tl tc,O ea el ec] 130)
 have hbel:Ov w ((w.alloc (zf #[zd U m,O ga gn gc,O sa sn sc,O ya yn yc,O oa on oc,O va vn vc,O fa fn fc,O ba bn bc] 184)).alloc (zf #[zd U 5,zd U vr,zd U ot,zd U ek,zd U en,O xa xl xc,O aa al ac,O ta tl tc,O ea el ec] 130)):=(bA w _).alloc (by simp) _
 go_enter Tryz.func220,Tryz.ntmps220
 go_wp2_with fail
 refine (K1.o _).mono ?_
 rintro e w1 ⟨rfl,hb1⟩
 have hB1:=hbel.trans (hb1.mono hbel.size)
 have hb2:=Ag hb1 (bA w1 (zf #[ze true,ze false,ze true,ze false,ze false,ze false] 288))
 have hB2:=hbel.trans (hb2.mono hbel.size)
 obtain ⟨c0a,c1a,c2a,c3a,c4a,c5a,c6a,c7a,s0a,s1a⟩:=Bh hb2 c0 c1 c2 c3 c4 c5 c6 c7 s0 s1
 obtain ⟨s2a,s3a,s4a,s5a,s6a,s7a,s8a⟩:=co7 hb2 s2 s3 s4 s5 s6 s7 s8
 obtain ⟨h0a,h1a,h2a,h3a,h4a,h5a⟩:=rc6 (Ay w1 [ze true,ze false,ze true,ze false,ze false,ze false] 288)
 clear hb1 hb2 hbel hB1 c0 c1 c2 c3 c4 c5 c6 c7 s0 s1 s2 s3 s4 s5 s6 s7 s8
 go_wp2_with fail
 refine (K2.o _ _ _).mono ?_
 rintro e wz ⟨he,rfl⟩
 have he2:=orT he
 subst he2
 clear he
 go_wp2_with fail
 refine (K3.o _ _ _).mono ?_
 rintro e wz ⟨rfl,rfl⟩
 go_wp2_with fail
 refine (K2.o _ _ _).mono ?_
 rintro e wz ⟨he,rfl⟩
 rcases he with ⟨hvar,rfl⟩ | ⟨hz,rfl⟩
 rotate_left
 ·skip
  have HN:=nO N1 N2 N3 N4 N5 N6 hz
  clear hz
  unfold Ak
  go_wp2_with fail
  exact ⟨rfl,Or.inr ⟨HN.o,5,by decide,rfl⟩,hB2⟩
 have hvar2:0<=vr/\vr < vn:=by simpa using hvar
 have HVAR:=Aa hvar2
 clear hvar hvar2
 go_wp2_with fail
 go_quiet ((go_at_call 172;exact Calls.quiet_of_same (AH _ _)))
 obtain ⟨c0r,c1r,c2r,c3r,c4r,c5r,c6r,c7r,s0r,s1r⟩:=Bl (n:=nq) c0a c1a c2a c3a c4a c5a c6a c7a s0a s1a
 obtain ⟨s2r,s3r,s4r,s5r,s6r,s7r,s8r,h0r,h1r,h2r⟩:=Bl (n:=nq) s2a s3a s4a s5a s6a s7a s8a h0a h1a h2a
 obtain ⟨h3r,h4r,h5r⟩:=cn3 (n:=nq) h3a h4a h5a
 have hBr:=below_drewN hB2 nq
 clear hB2 c0a c1a c2a c3a c4a c5a c6a c7a s0a s1a s2a s3a s4a s5a s6a s7a s8a h0a h1a h2a h3a h4a h5a
 generalize (w1.alloc (zf #[ze true,ze false,ze true,ze false,ze false,ze false] 288)).drewN nq=wr at hBr c0r c1r c2r c3r c4r c5r c6r c7r s0r s1r s2r s3r s4r s5r s6r s7r s8r h0r h1r h2r h3r h4r h5r ⊢
 go_wp2_with fail
 refine (K2.o _ _ _).mono ?_
 rintro e wz ⟨he,rfl⟩
 have he2:=orT he
 subst he2
 clear he
 go_wp2_with fail
 refine (K2.o _ _ _).mono ?_
 rintro e wz ⟨he,rfl⟩
 rcases he with ⟨hz,rfl⟩ | ⟨hz,rfl⟩
 rotate_left
 ·skip
  have HN:=nO N1 N2 N3 N4 N5 N6 hz
  clear hz
  unfold Ak
  go_wp2_with fail
  exact ⟨rfl,Or.inr ⟨HN.o,1,by decide,rfl⟩,hBr⟩
 have HZ_1:=Aa hz
 clear hz
 go_wp2_with fail
 refine (K2.o _ _ _).mono ?_
 rintro e wz ⟨he,rfl⟩
 have he2:=orT he
 subst he2
 clear he
 go_wp2_with fail
 refine (K2.o _ _ _).mono ?_
 rintro e wz ⟨he,rfl⟩
 rcases he with ⟨hargs,rfl⟩ | ⟨hz,rfl⟩
 rotate_left
 ·skip
  have HN:=nO N1 N2 N3 N4 N5 N6 hz
  clear hz
  unfold Ak
  go_wp2_with fail
  exact ⟨rfl,Or.inr ⟨HN.o,1,by decide,rfl⟩,hBr⟩
 have hal0:al=0:=by simp at hargs;omega
 subst hal0
 clear hargs
 go_wp2_with fail
 refine (K2.o _ _ _).mono ?_
 rintro e wz ⟨he,rfl⟩
 rcases he with ⟨hz,rfl⟩ | ⟨hz,rfl⟩
 rotate_left
 ·skip
  have HN:=nO N1 N2 N3 N4 N5 N6 hz
  clear hz
  unfold Ak
  go_wp2_with fail
  exact ⟨rfl,Or.inr ⟨HN.o,1,by decide,rfl⟩,hBr⟩
 have HZ_2:=Aa hz
 clear hz
 go_wp2_with fail
 refine (K2.o _ _ _).mono ?_
 rintro e wz ⟨he,rfl⟩
 rcases he with ⟨hz,rfl⟩ | ⟨hz,rfl⟩
 rotate_left
 ·skip
  have HN:=nO N1 N2 N3 N4 N5 N6 hz
  clear hz
  unfold Ak
  go_wp2_with fail
  exact ⟨rfl,Or.inr ⟨HN.o,1,by decide,rfl⟩,hBr⟩
 have HZ_3:=Aa hz
 clear hz
 go_wp2_with fail
 go_quiet ((go_at_call 172;exact Calls.quiet_of_same (AH _ _)))
 obtain ⟨c0q,c1q,c2q,c3q,c4q,c5q,c6q,c7q,s0q,s1q⟩:=Bl (n:=nq) c0r c1r c2r c3r c4r c5r c6r c7r s0r s1r
 obtain ⟨s2q,s3q,s4q,s5q,s6q,s7q,s8q,h0q,h1q,h2q⟩:=Bl (n:=nq) s2r s3r s4r s5r s6r s7r s8r h0r h1r h2r
 obtain ⟨h3q,h4q,h5q⟩:=cn3 (n:=nq) h3r h4r h5r
 have hBq:=below_drewN hBr nq
 clear c0r c1r c2r c3r c4r c5r c6r c7r s0r s1r s2r s3r s4r s5r s6r s7r s8r h0r h1r h2r h3r h4r h5r
 go_wp2_with fail
 refine (K5.o _ hBq).mono ?_
 rintro e w5 ⟨he,hb5⟩
 have hB5:=hBq.trans (hb5.mono hBq.size)
 rcases he with ⟨hex,rfl⟩ | ⟨hnex,why,hwhy,rfl⟩
 rotate_left
 ·have HN:=Aa (N3.o hnex)
  clear hnex
  unfold Ak
  go_wp2_with fail
  exact ⟨rfl,Or.inr ⟨HN.o,why,hwhy,rfl⟩,hB5⟩
 obtain ⟨c05,c15,c25,c35,c45,c55,c65,c75,s05,s15⟩:=Bh hb5 c0q c1q c2q c3q c4q c5q c6q c7q s0q s1q
 obtain ⟨s25,s35,s45,s55,s65,s75,s85,h05,h15,h25⟩:=Bh hb5 s2q s3q s4q s5q s6q s7q s8q h0q h1q h2q
 obtain ⟨h35,h45,h55⟩:=co3 hb5 h3q h4q h5q
 have HEX:=Aa hex
 clear hex hb5 c0q c1q c2q c3q c4q c5q c6q c7q s0q s1q s2q s3q s4q s5q s6q s7q s8q h0q h1q h2q h3q h4q h5q
 go_wp2_with fail
 go_loopw [138] (fun i wr=>i=zd U 0/\Ov w wr) (fun _ _=>0)
 case atStart=>exact ⟨rfl,hB5⟩
 case round=>
  obtain ⟨rfl,hB⟩:=hrel
  go_wp2_with fail
  go_end0
  refine ⟨Or.inl ⟨HQ.o ⟨?_,?_,?_,?_,?_,?_⟩,rfl⟩,hB⟩
  all_goals first | trivial | exact HVAR.o | exact HOT.o | exact HEX.o | exact ⟨HZ1.o,HZ2.o,HXL.o⟩ | (have hq:=HZ_1.o;simp at hq;omega) | (have hq:=HZ_2.o;simp at hq;omega) | (have hq:=HZ_3.o;simp at hq;omega) | omega
theorem GY (K k:Nat) (fs de das) (funcs:Int) (m:Int) (ga gn gc sa sn sc) (ya:Option Addr) (yn yc:Nat) (oa:Option Addr) (on oc:Nat) (va:Option Addr) (vn vc:Nat) (fa fn fc ba bn bc) (vr ot ek en:Int) (xa xl xc aa al ac ta tl tc ea el ec) (w:World) (hv:vn<=9223372036854775807) (i1:Bn vr) (i2:Bn ot) (h0f:0<=funcs) (h1f:funcs<=9223372036854775807) (hyl:yn<=9223372036854775807) (hol:on<=9223372036854775807)
  (hde:RX w K [zd U ek,zd U en,O xa xl xc] de) (hda:XS 3 (RX w K) w (O aa al ac) das) (hfs:AL w K k (O fa fn fc) fs) (hff:funcs<=fs.length) :
  Calls Tryz.prog 220 #[zg #[zd U m,O ga gn gc,O sa sn sc,O ya yn yc,O oa on oc,O va vn vc,O fa fn fc,O ba bn bc],zg #[zd U 6,zd U vr,zd U ot,zd U ek,zd U en,O xa xl xc,O aa al ac,O ta tl tc,O ea el ec],zd U funcs] w (BB ((0<=vr/\vr < vn)/\(ot=0)/\(Am vn K de=0)/\(al=0)/\(tl=0)/\(el=0)) w):=by
 obtain ⟨Q,hQ⟩:∃ Q:Prop,Q=((0<=vr/\vr < vn)/\(ot=0)/\(Am vn K de=0)/\(al=0)/\(tl=0)/\(el=0)):=⟨_,rfl⟩
 rw [<-hQ]
 have HQ:Hx (((0<=vr/\vr < vn)/\(ot=0)/\(Am vn K de=0)/\(al=0)/\(tl=0)/\(el=0))->Q):=Aa (fun p=>by rw [hQ];exact p)
 have N1:Hx (¬ (0<=vr/\vr < vn)->¬ Q):=Aa (fun h p=>by rw [hQ] at p;exact h p.1)
 have N2:Hx (¬ (ot=0)->¬ Q):=Aa (fun h p=>by rw [hQ] at p;exact h p.2.1)
 have N3:Hx (¬ (Am vn K de=0)->¬ Q):=Aa (fun h p=>by rw [hQ] at p;exact h p.2.2.1)
 have N4:Hx (¬ (al=0)->¬ Q):=Aa (fun h p=>by rw [hQ] at p;exact h p.2.2.2.1)
 have N5:Hx (¬ (tl=0)->¬ Q):=Aa (fun h p=>by rw [hQ] at p;exact h p.2.2.2.2.1)
 have N6:Hx (¬ (el=0)->¬ Q):=Aa (fun h p=>by rw [hQ] at p;exact h p.2.2.2.2.2)
 clear hQ
 have K1:=Aa Gb
 have K2:=Aa AM
 have K3:=Aa Ax
 have K4:=Aa fun W=>AY 6 funcs m ga gn gc sa sn sc ya yn yc oa on oc va vn vc fa fn fc ba bn bc W
 have K5:=Aa fun W (hB:Ov w W)=>AP K m ga gn gc sa sn sc ya yn yc oa on oc va vn vc fa fn fc ba bn bc _ _ W (hde.over hB) hv
 have hal:al<=9223372036854775807/\al=das.length:=⟨by obtain ⟨hm,ao,cap,he,-⟩:=hda;injection he with e1 e2 e3;rw [e2];exact hm,by obtain ⟨hm,ao,cap,he,-⟩:=hda;injection he⟩
 obtain ⟨hal,hale⟩:=hal
 have HAL:=Aa hale
 obtain ⟨i1,i1'⟩:=i1
 obtain ⟨i2,i2'⟩:=i2
 clear hde hda hfs hale
 obtain ⟨c0,c1,c2,c3,c4,c5,c6,c7⟩:=rc8 (CB w [zd U m,O ga gn gc,O sa sn sc,O ya yn yc,O oa on oc,O va vn vc,O fa fn fc,O ba bn bc] 184 (zf #[zd U 6,zd U vr,zd U ot,zd U ek,zd U en,O xa xl xc,O aa al ac,O ta tl tc,O ea el ec] 130))
 obtain ⟨s0,s1,s2,s3,s4,s5,s6,s7,s8⟩:=rc9 (CY w (zf #[zd U m,O ga gn gc,O sa sn sc,O ya yn yc,O oa on oc,O va vn vc,O fa fn fc,O ba bn bc] 184) [zd U 6,zd U vr,zd U ot,zd U ek,zd U en,O xa xl xc,O aa al ac,O ta tl tc,O ea el ec] 130)
 have hbel:Ov w ((w.alloc (zf #[zd U m,O ga gn gc,O sa sn sc,O ya yn yc,O oa on oc,O va vn vc,O fa fn fc,O ba bn bc] 184)).alloc (zf #[zd U 6,zd U vr,zd U ot,zd U ek,zd U en,O xa xl xc,O aa al ac,O ta tl tc,O ea el ec] 130)):=(bA w _).alloc (by simp) _
 go_enter Tryz.func220,Tryz.ntmps220
 go_wp2_with fail
 refine (K1.o _).mono ?_
 rintro e w1 ⟨rfl,hb1⟩
 have hB1:=hbel.trans (hb1.mono hbel.size)
 have hb2:=Ag hb1 (bA w1 (zf #[ze true,ze false,ze true,ze false,ze false,ze false] 288))
 have hB2:=hbel.trans (hb2.mono hbel.size)
 obtain ⟨c0a,c1a,c2a,c3a,c4a,c5a,c6a,c7a,s0a,s1a⟩:=Bh hb2 c0 c1 c2 c3 c4 c5 c6 c7 s0 s1
 obtain ⟨s2a,s3a,s4a,s5a,s6a,s7a,s8a⟩:=co7 hb2 s2 s3 s4 s5 s6 s7 s8
 obtain ⟨h0a,h1a,h2a,h3a,h4a,h5a⟩:=rc6 (Ay w1 [ze true,ze false,ze true,ze false,ze false,ze false] 288)
 clear hb1 hb2 hbel hB1 c0 c1 c2 c3 c4 c5 c6 c7 s0 s1 s2 s3 s4 s5 s6 s7 s8
 go_wp2_with fail
 refine (K2.o _ _ _).mono ?_
 rintro e wz ⟨he,rfl⟩
 have he2:=orT he
 subst he2
 clear he
 go_wp2_with fail
 refine (K3.o _ _ _).mono ?_
 rintro e wz ⟨rfl,rfl⟩
 go_wp2_with fail
 refine (K2.o _ _ _).mono ?_
 rintro e wz ⟨he,rfl⟩
 rcases he with ⟨hvar,rfl⟩ | ⟨hz,rfl⟩
 rotate_left
 ·skip
  have HN:=nO N1 N2 N3 N4 N5 N6 hz
  clear hz
  unfold Ak
  go_wp2_with fail
  exact ⟨rfl,Or.inr ⟨HN.o,5,by decide,rfl⟩,hB2⟩
 have hvar2:0<=vr/\vr < vn:=by simpa using hvar
 have HVAR:=Aa hvar2
 clear hvar hvar2
 go_wp2_with fail
 go_quiet ((go_at_call 172;exact Calls.quiet_of_same (AH _ _)))
 obtain ⟨c0r,c1r,c2r,c3r,c4r,c5r,c6r,c7r,s0r,s1r⟩:=Bl (n:=nq) c0a c1a c2a c3a c4a c5a c6a c7a s0a s1a
 obtain ⟨s2r,s3r,s4r,s5r,s6r,s7r,s8r,h0r,h1r,h2r⟩:=Bl (n:=nq) s2a s3a s4a s5a s6a s7a s8a h0a h1a h2a
 obtain ⟨h3r,h4r,h5r⟩:=cn3 (n:=nq) h3a h4a h5a
 have hBr:=below_drewN hB2 nq
 clear hB2 c0a c1a c2a c3a c4a c5a c6a c7a s0a s1a s2a s3a s4a s5a s6a s7a s8a h0a h1a h2a h3a h4a h5a
 generalize (w1.alloc (zf #[ze true,ze false,ze true,ze false,ze false,ze false] 288)).drewN nq=wr at hBr c0r c1r c2r c3r c4r c5r c6r c7r s0r s1r s2r s3r s4r s5r s6r s7r s8r h0r h1r h2r h3r h4r h5r ⊢
 go_wp2_with fail
 refine (K2.o _ _ _).mono ?_
 rintro e wz ⟨he,rfl⟩
 have he2:=orT he
 subst he2
 clear he
 go_wp2_with fail
 refine (K2.o _ _ _).mono ?_
 rintro e wz ⟨he,rfl⟩
 rcases he with ⟨hz,rfl⟩ | ⟨hz,rfl⟩
 rotate_left
 ·skip
  have HN:=nO N1 N2 N3 N4 N5 N6 hz
  clear hz
  unfold Ak
  go_wp2_with fail
  exact ⟨rfl,Or.inr ⟨HN.o,1,by decide,rfl⟩,hBr⟩
 have HZ_1:=Aa hz
 clear hz
 go_wp2_with fail
 refine (K2.o _ _ _).mono ?_
 rintro e wz ⟨he,rfl⟩
 have he2:=orT he
 subst he2
 clear he
 go_wp2_with fail
 refine (K2.o _ _ _).mono ?_
 rintro e wz ⟨he,rfl⟩
 rcases he with ⟨hargs,rfl⟩ | ⟨hz,rfl⟩
 rotate_left
 ·skip
  have HN:=nO N1 N2 N3 N4 N5 N6 hz
  clear hz
  unfold Ak
  go_wp2_with fail
  exact ⟨rfl,Or.inr ⟨HN.o,1,by decide,rfl⟩,hBr⟩
 have hal0:al=0:=by simp at hargs;omega
 subst hal0
 clear hargs
 go_wp2_with fail
 refine (K2.o _ _ _).mono ?_
 rintro e wz ⟨he,rfl⟩
 rcases he with ⟨hz,rfl⟩ | ⟨hz,rfl⟩
 rotate_left
 ·skip
  have HN:=nO N1 N2 N3 N4 N5 N6 hz
  clear hz
  unfold Ak
  go_wp2_with fail
  exact ⟨rfl,Or.inr ⟨HN.o,1,by decide,rfl⟩,hBr⟩
 have HZ_2:=Aa hz
 clear hz
 go_wp2_with fail
 refine (K2.o _ _ _).mono ?_
 rintro e wz ⟨he,rfl⟩
 rcases he with ⟨hz,rfl⟩ | ⟨hz,rfl⟩
 rotate_left
 ·skip
  have HN:=nO N1 N2 N3 N4 N5 N6 hz
  clear hz
  unfold Ak
  go_wp2_with fail
  exact ⟨rfl,Or.inr ⟨HN.o,1,by decide,rfl⟩,hBr⟩
 have HZ_3:=Aa hz
 clear hz
 go_wp2_with fail
 go_quiet ((go_at_call 172;exact Calls.quiet_of_same (AH _ _)))
 obtain ⟨c0q,c1q,c2q,c3q,c4q,c5q,c6q,c7q,s0q,s1q⟩:=Bl (n:=nq) c0r c1r c2r c3r c4r c5r c6r c7r s0r s1r
 obtain ⟨s2q,s3q,s4q,s5q,s6q,s7q,s8q,h0q,h1q,h2q⟩:=Bl (n:=nq) s2r s3r s4r s5r s6r s7r s8r h0r h1r h2r
 obtain ⟨h3q,h4q,h5q⟩:=cn3 (n:=nq) h3r h4r h5r
 have hBq:=below_drewN hBr nq
 clear c0r c1r c2r c3r c4r c5r c6r c7r s0r s1r s2r s3r s4r s5r s6r s7r s8r h0r h1r h2r h3r h4r h5r
 go_wp2_with fail
 refine (K5.o _ hBq).mono ?_
 rintro e w5 ⟨he,hb5⟩
 have hB5:=hBq.trans (hb5.mono hBq.size)
 rcases he with ⟨hex,rfl⟩ | ⟨hnex,why,hwhy,rfl⟩
 rotate_left
 ·have HN:=Aa (N3.o hnex)
  clear hnex
  unfold Ak
  go_wp2_with fail
  exact ⟨rfl,Or.inr ⟨HN.o,why,hwhy,rfl⟩,hB5⟩
 obtain ⟨c05,c15,c25,c35,c45,c55,c65,c75,s05,s15⟩:=Bh hb5 c0q c1q c2q c3q c4q c5q c6q c7q s0q s1q
 obtain ⟨s25,s35,s45,s55,s65,s75,s85,h05,h15,h25⟩:=Bh hb5 s2q s3q s4q s5q s6q s7q s8q h0q h1q h2q
 obtain ⟨h35,h45,h55⟩:=co3 hb5 h3q h4q h5q
 have HEX:=Aa hex
 clear hex hb5 c0q c1q c2q c3q c4q c5q c6q c7q s0q s1q s2q s3q s4q s5q s6q s7q s8q h0q h1q h2q h3q h4q h5q
 go_wp2_with fail
 go_loopw [138] (fun i wr=>i=zd U 0/\Ov w wr) (fun _ _=>0)
 case atStart=>exact ⟨rfl,hB5⟩
 case round=>
  obtain ⟨rfl,hB⟩:=hrel
  go_wp2_with fail
  go_end0
  refine ⟨Or.inl ⟨HQ.o ⟨?_,?_,?_,?_,?_,?_⟩,rfl⟩,hB⟩
  all_goals first | trivial | exact HVAR.o | exact HOT.o | exact HEX.o | exact ⟨HZ1.o,HZ2.o,HXL.o⟩ | (have hq:=HZ_1.o;simp at hq;omega) | (have hq:=HZ_2.o;simp at hq;omega) | (have hq:=HZ_3.o;simp at hq;omega) | omega
theorem GW (K k:Nat) (fs de das) (funcs:Int) (m:Int) (ga gn gc sa sn sc) (ya:Option Addr) (yn yc:Nat) (oa:Option Addr) (on oc:Nat) (va:Option Addr) (vn vc:Nat) (fa fn fc ba bn bc) (vr ot ek en:Int) (xa xl xc aa al ac ta tl tc ea el ec) (w:World) (hv:vn<=9223372036854775807) (i1:Bn vr) (i2:Bn ot) (h0f:0<=funcs) (h1f:funcs<=9223372036854775807) (hyl:yn<=9223372036854775807) (hol:on<=9223372036854775807)
  (hde:RX w K [zd U ek,zd U en,O xa xl xc] de) (hda:XS 3 (RX w K) w (O aa al ac) das) (hfs:AL w K k (O fa fn fc) fs) (hff:funcs<=fs.length) :
  Calls Tryz.prog 220 #[zg #[zd U m,O ga gn gc,O sa sn sc,O ya yn yc,O oa on oc,O va vn vc,O fa fn fc,O ba bn bc],zg #[zd U 8,zd U vr,zd U ot,zd U ek,zd U en,O xa xl xc,O aa al ac,O ta tl tc,O ea el ec],zd U funcs] w (BB ((vr=0)/\(ot=0)/\(Am vn K de=0)/\(al=0)/\(True)/\(el=0)) w):=by
 obtain ⟨Q,hQ⟩:∃ Q:Prop,Q=((vr=0)/\(ot=0)/\(Am vn K de=0)/\(al=0)/\(True)/\(el=0)):=⟨_,rfl⟩
 rw [<-hQ]
 have HQ:Hx (((vr=0)/\(ot=0)/\(Am vn K de=0)/\(al=0)/\(True)/\(el=0))->Q):=Aa (fun p=>by rw [hQ];exact p)
 have N1:Hx (¬ (vr=0)->¬ Q):=Aa (fun h p=>by rw [hQ] at p;exact h p.1)
 have N2:Hx (¬ (ot=0)->¬ Q):=Aa (fun h p=>by rw [hQ] at p;exact h p.2.1)
 have N3:Hx (¬ (Am vn K de=0)->¬ Q):=Aa (fun h p=>by rw [hQ] at p;exact h p.2.2.1)
 have N4:Hx (¬ (al=0)->¬ Q):=Aa (fun h p=>by rw [hQ] at p;exact h p.2.2.2.1)
 have N5:Hx (¬ (True)->¬ Q):=Aa (fun h p=>by rw [hQ] at p;exact h p.2.2.2.2.1)
 have N6:Hx (¬ (el=0)->¬ Q):=Aa (fun h p=>by rw [hQ] at p;exact h p.2.2.2.2.2)
 clear hQ
 have K1:=Aa F9
 have K2:=Aa AM
 have K3:=Aa Ax
 have K4:=Aa fun W=>AY 8 funcs m ga gn gc sa sn sc ya yn yc oa on oc va vn vc fa fn fc ba bn bc W
 have K5:=Aa fun W (hB:Ov w W)=>AP K m ga gn gc sa sn sc ya yn yc oa on oc va vn vc fa fn fc ba bn bc _ _ W (hde.over hB) hv
 have hal:al<=9223372036854775807/\al=das.length:=⟨by obtain ⟨hm,ao,cap,he,-⟩:=hda;injection he with e1 e2 e3;rw [e2];exact hm,by obtain ⟨hm,ao,cap,he,-⟩:=hda;injection he⟩
 obtain ⟨hal,hale⟩:=hal
 have HAL:=Aa hale
 obtain ⟨i1,i1'⟩:=i1
 obtain ⟨i2,i2'⟩:=i2
 clear hde hda hfs hale
 obtain ⟨c0,c1,c2,c3,c4,c5,c6,c7⟩:=rc8 (CB w [zd U m,O ga gn gc,O sa sn sc,O ya yn yc,O oa on oc,O va vn vc,O fa fn fc,O ba bn bc] 184 (zf #[zd U 8,zd U vr,zd U ot,zd U ek,zd U en,O xa xl xc,O aa al ac,O ta tl tc,O ea el ec] 130))
 obtain ⟨s0,s1,s2,s3,s4,s5,s6,s7,s8⟩:=rc9 (CY w (zf #[zd U m,O ga gn gc,O sa sn sc,O ya yn yc,O oa on oc,O va vn vc,O fa fn fc,O ba bn bc] 184) [zd U 8,zd U vr,zd U ot,zd U ek,zd U en,O xa xl xc,O aa al ac,O ta tl tc,O ea el ec] 130)
 have hbel:Ov w ((w.alloc (zf #[zd U m,O ga gn gc,O sa sn sc,O ya yn yc,O oa on oc,O va vn vc,O fa fn fc,O ba bn bc] 184)).alloc (zf #[zd U 8,zd U vr,zd U ot,zd U ek,zd U en,O xa xl xc,O aa al ac,O ta tl tc,O ea el ec] 130)):=(bA w _).alloc (by simp) _
 go_enter Tryz.func220,Tryz.ntmps220
 go_wp2_with fail
 refine (K1.o _).mono ?_
 rintro e w1 ⟨rfl,hb1⟩
 have hB1:=hbel.trans (hb1.mono hbel.size)
 have hb2:=Ag hb1 (bA w1 (zf #[ze false,ze false,ze true,ze false,ze true,ze false] 288))
 have hB2:=hbel.trans (hb2.mono hbel.size)
 obtain ⟨c0a,c1a,c2a,c3a,c4a,c5a,c6a,c7a,s0a,s1a⟩:=Bh hb2 c0 c1 c2 c3 c4 c5 c6 c7 s0 s1
 obtain ⟨s2a,s3a,s4a,s5a,s6a,s7a,s8a⟩:=co7 hb2 s2 s3 s4 s5 s6 s7 s8
 obtain ⟨h0a,h1a,h2a,h3a,h4a,h5a⟩:=rc6 (Ay w1 [ze false,ze false,ze true,ze false,ze true,ze false] 288)
 clear hb1 hb2 hbel hB1 c0 c1 c2 c3 c4 c5 c6 c7 s0 s1 s2 s3 s4 s5 s6 s7 s8
 go_wp2_with fail
 refine (K2.o _ _ _).mono ?_
 rintro e wz ⟨he,rfl⟩
 have he2:=orT he
 subst he2
 clear he
 go_wp2_with fail
 refine (K2.o _ _ _).mono ?_
 rintro e wz ⟨he,rfl⟩
 have he2:=orT he
 subst he2
 clear he
 go_wp2_with fail
 go_quiet ((go_at_call 172;exact Calls.quiet_of_same (AH _ _)))
 obtain ⟨c0r,c1r,c2r,c3r,c4r,c5r,c6r,c7r,s0r,s1r⟩:=Bl (n:=nq) c0a c1a c2a c3a c4a c5a c6a c7a s0a s1a
 obtain ⟨s2r,s3r,s4r,s5r,s6r,s7r,s8r,h0r,h1r,h2r⟩:=Bl (n:=nq) s2a s3a s4a s5a s6a s7a s8a h0a h1a h2a
 obtain ⟨h3r,h4r,h5r⟩:=cn3 (n:=nq) h3a h4a h5a
 have hBr:=below_drewN hB2 nq
 clear hB2 c0a c1a c2a c3a c4a c5a c6a c7a s0a s1a s2a s3a s4a s5a s6a s7a s8a h0a h1a h2a h3a h4a h5a
 generalize (w1.alloc (zf #[ze false,ze false,ze true,ze false,ze true,ze false] 288)).drewN nq=wr at hBr c0r c1r c2r c3r c4r c5r c6r c7r s0r s1r s2r s3r s4r s5r s6r s7r s8r h0r h1r h2r h3r h4r h5r ⊢
 go_wp2_with fail
 refine (K2.o _ _ _).mono ?_
 rintro e wz ⟨he,rfl⟩
 rcases he with ⟨hz,rfl⟩ | ⟨hz,rfl⟩
 rotate_left
 ·skip
  have HN:=nO N1 N2 N3 N4 N5 N6 hz
  clear hz
  unfold Ak
  go_wp2_with fail
  exact ⟨rfl,Or.inr ⟨HN.o,1,by decide,rfl⟩,hBr⟩
 have HZ_1:=Aa hz
 clear hz
 go_wp2_with fail
 refine (K2.o _ _ _).mono ?_
 rintro e wz ⟨he,rfl⟩
 rcases he with ⟨hz,rfl⟩ | ⟨hz,rfl⟩
 rotate_left
 ·skip
  have HN:=nO N1 N2 N3 N4 N5 N6 hz
  clear hz
  unfold Ak
  go_wp2_with fail
  exact ⟨rfl,Or.inr ⟨HN.o,1,by decide,rfl⟩,hBr⟩
 have HZ_2:=Aa hz
 clear hz
 go_wp2_with fail
 refine (K2.o _ _ _).mono ?_
 rintro e wz ⟨he,rfl⟩
 have he2:=orT he
 subst he2
 clear he
 go_wp2_with fail
 refine (K2.o _ _ _).mono ?_
 rintro e wz ⟨he,rfl⟩
 rcases he with ⟨hargs,rfl⟩ | ⟨hz,rfl⟩
 rotate_left
 ·skip
  have HN:=nO N1 N2 N3 N4 N5 N6 hz
  clear hz
  unfold Ak
  go_wp2_with fail
  exact ⟨rfl,Or.inr ⟨HN.o,1,by decide,rfl⟩,hBr⟩
 have hal0:al=0:=by simp at hargs;omega
 subst hal0
 clear hargs
 go_wp2_with fail
 refine (K2.o _ _ _).mono ?_
 rintro e wz ⟨he,rfl⟩
 have he2:=orT he
 subst he2
 clear he
 go_wp2_with fail
 refine (K2.o _ _ _).mono ?_
 rintro e wz ⟨he,rfl⟩
 rcases he with ⟨hz,rfl⟩ | ⟨hz,rfl⟩
 rotate_left
 ·skip
  have HN:=nO N1 N2 N3 N4 N5 N6 hz
  clear hz
  unfold Ak
  go_wp2_with fail
  exact ⟨rfl,Or.inr ⟨HN.o,1,by decide,rfl⟩,hBr⟩
 have HZ_3:=Aa hz
 clear hz
 go_wp2_with fail
 go_quiet ((go_at_call 172;exact Calls.quiet_of_same (AH _ _)))
 obtain ⟨c0q,c1q,c2q,c3q,c4q,c5q,c6q,c7q,s0q,s1q⟩:=Bl (n:=nq) c0r c1r c2r c3r c4r c5r c6r c7r s0r s1r
 obtain ⟨s2q,s3q,s4q,s5q,s6q,s7q,s8q,h0q,h1q,h2q⟩:=Bl (n:=nq) s2r s3r s4r s5r s6r s7r s8r h0r h1r h2r
 obtain ⟨h3q,h4q,h5q⟩:=cn3 (n:=nq) h3r h4r h5r
 have hBq:=below_drewN hBr nq
 clear c0r c1r c2r c3r c4r c5r c6r c7r s0r s1r s2r s3r s4r s5r s6r s7r s8r h0r h1r h2r h3r h4r h5r
 go_wp2_with fail
 refine (K5.o _ hBq).mono ?_
 rintro e w5 ⟨he,hb5⟩
 have hB5:=hBq.trans (hb5.mono hBq.size)
 rcases he with ⟨hex,rfl⟩ | ⟨hnex,why,hwhy,rfl⟩
 rotate_left
 ·have HN:=Aa (N3.o hnex)
  clear hnex
  unfold Ak
  go_wp2_with fail
  exact ⟨rfl,Or.inr ⟨HN.o,why,hwhy,rfl⟩,hB5⟩
 obtain ⟨c05,c15,c25,c35,c45,c55,c65,c75,s05,s15⟩:=Bh hb5 c0q c1q c2q c3q c4q c5q c6q c7q s0q s1q
 obtain ⟨s25,s35,s45,s55,s65,s75,s85,h05,h15,h25⟩:=Bh hb5 s2q s3q s4q s5q s6q s7q s8q h0q h1q h2q
 obtain ⟨h35,h45,h55⟩:=co3 hb5 h3q h4q h5q
 have HEX:=Aa hex
 clear hex hb5 c0q c1q c2q c3q c4q c5q c6q c7q s0q s1q s2q s3q s4q s5q s6q s7q s8q h0q h1q h2q h3q h4q h5q
 go_wp2_with fail
 go_loopw [138] (fun i wr=>i=zd U 0/\Ov w wr) (fun _ _=>0)
 case atStart=>exact ⟨rfl,hB5⟩
 case round=>
  obtain ⟨rfl,hB⟩:=hrel
  go_wp2_with fail
  go_end0
  refine ⟨Or.inl ⟨HQ.o ⟨?_,?_,?_,?_,?_,?_⟩,rfl⟩,hB⟩
  all_goals first | trivial | exact HVAR.o | exact HOT.o | exact HEX.o | exact ⟨HZ1.o,HZ2.o,HXL.o⟩ | (have hq:=HZ_1.o;simp at hq;omega) | (have hq:=HZ_2.o;simp at hq;omega) | (have hq:=HZ_3.o;simp at hq;omega) | omega
end Go.Proofs.YtfffpjkcfnekaaaGreat.Ex.Ey
