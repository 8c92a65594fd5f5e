/- Checks of one command, whatever it is. -/
import Derived.Test.YtfffpjkcfnekaaaGreatM05
import Derived.Deep.RegionHeld2
set_option linter.unusedVariables false
set_option maxHeartbeats 8000000
set_option maxRecDepth 100000
namespace Go.Proofs.YtfffpjkcfnekaaaGreat.Ex.Ey
open Go.RowKit
open Go.Value renaming slice -> O, int -> U, bool -> zg, agg -> zh, pointer -> zi, tuple -> zk
open Go.IntKind renaming i64 -> zd
open Go.Obj renaming cells -> ze
open Go.Ending renaming returned -> zj
theorem PQ (K k:Nat) (fs de das) (funcs:Int) (m:Int) (ga gn gc sa sn sc) (ya:Option Addr) (yn yc:Nat) (oa:Option Addr) (on oc:Nat) (va:Option Addr) (vn vc:Nat) (fa fn fc ba bn bc) (vr ot ek en:Int) (xa xl xc aa al ac ta tl tc ea el ec) (w:World) (hv:vn<=9223372036854775807) (i1:Cl vr) (i2:Cl ot) (h0f:0<=funcs) (h1f:funcs<=9223372036854775807) (hyl:yn<=9223372036854775807) (hol:on<=9223372036854775807)
  (hde:RX w K [U zd ek,U zd en,O xa xl xc] de) (hda:XS 3 (RX w K) w (O aa al ac) das) (hfs:Bm w K k (O fa fn fc) fs) (hff:funcs<=fs.length) :
  Calls Tryz.prog 220 #[zh #[U zd m,O ga gn gc,O sa sn sc,O ya yn yc,O oa on oc,O va vn vc,O fa fn fc,O ba bn bc],zh #[U zd 1,U zd vr,U zd ot,U zd ek,U zd en,O xa xl xc,O aa al ac,O ta tl tc,O ea el ec],U zd funcs] w (C8 ((0<=vr/\vr < vn)/\(ot=0)/\(AV vn K de=0)/\(al=0)/\(tl=0)/\(el=0)) w):=by
 obtain ⟨Q,hQ⟩:∃ Q:Prop,Q=((0<=vr/\vr < vn)/\(ot=0)/\(AV vn K de=0)/\(al=0)/\(tl=0)/\(el=0)):=⟨_,rfl⟩
 rw [<-hQ]
 have HQ:Hx (((0<=vr/\vr < vn)/\(ot=0)/\(AV vn K de=0)/\(al=0)/\(tl=0)/\(el=0))->Q):=Aa (fun p=>by rw [hQ];exact p)
 have N1:Hx (¬ (0<=vr/\vr < vn)->¬ Q):=Aa (fun h p=>by rw [hQ] at p;exact h p.1)
 have N2:Hx (¬ (ot=0)->¬ Q):=Aa (fun h p=>by rw [hQ] at p;exact h p.2.1)
 have N3:Hx (¬ (AV vn K de=0)->¬ Q):=Aa (fun h p=>by rw [hQ] at p;exact h p.2.2.1)
 have N4:Hx (¬ (al=0)->¬ Q):=Aa (fun h p=>by rw [hQ] at p;exact h p.2.2.2.1)
 have N5:Hx (¬ (tl=0)->¬ Q):=Aa (fun h p=>by rw [hQ] at p;exact h p.2.2.2.2.1)
 have N6:Hx (¬ (el=0)->¬ Q):=Aa (fun h p=>by rw [hQ] at p;exact h p.2.2.2.2.2)
 clear hQ
 have K1:=Aa MO
 have K2:=Aa BN
 have K3:=Aa Be
 have K4:=Aa fun W=>Ca 1 funcs m ga gn gc sa sn sc ya yn yc oa on oc va vn vc fa fn fc ba bn bc W
 have K5:=Aa fun W (hB:Ov w W)=>B0 K m ga gn gc sa sn sc ya yn yc oa on oc va vn vc fa fn fc ba bn bc _ _ W (hde.over hB) hv
 have hal:al<=9223372036854775807/\al=das.length:=⟨by obtain ⟨hm,ao,cap,he,-⟩:=hda;injection he with e1 e2 e3;rw [e2];exact hm,by obtain ⟨hm,ao,cap,he,-⟩:=hda;injection he⟩
 obtain ⟨hal,hale⟩:=hal
 have HAL:=Aa hale
 obtain ⟨i1,i1'⟩:=i1
 obtain ⟨i2,i2'⟩:=i2
 clear hde hda hfs hale
 obtain ⟨c0,c1,c2,c3,c4,c5,c6,c7⟩:=rc8 (FL w [U zd m,O ga gn gc,O sa sn sc,O ya yn yc,O oa on oc,O va vn vc,O fa fn fc,O ba bn bc] 184 (ze #[U zd 1,U zd vr,U zd ot,U zd ek,U zd en,O xa xl xc,O aa al ac,O ta tl tc,O ea el ec] 130))
 obtain ⟨s0,s1,s2,s3,s4,s5,s6,s7,s8⟩:=rc9 (GE w (ze #[U zd m,O ga gn gc,O sa sn sc,O ya yn yc,O oa on oc,O va vn vc,O fa fn fc,O ba bn bc] 184) [U zd 1,U zd vr,U zd ot,U zd ek,U zd en,O xa xl xc,O aa al ac,O ta tl tc,O ea el ec] 130)
 have hbel:Ov w ((w.alloc (ze #[U zd m,O ga gn gc,O sa sn sc,O ya yn yc,O oa on oc,O va vn vc,O fa fn fc,O ba bn bc] 184)).alloc (ze #[U zd 1,U zd vr,U zd ot,U zd ek,U zd en,O xa xl xc,O aa al ac,O ta tl tc,O ea el ec] 130)):=(bA w _).alloc (by simp) _
 go_enter Tryz.func220,Tryz.ntmps220
 go_wp2_with fail
 refine (K1.o _).mono ?_
 rintro e w1 ⟨rfl,hb1⟩
 have hB1:=hbel.trans (hb1.mono hbel.size)
 have hb2:=Ac hb1 (bA w1 (ze #[zg true,zg false,zg true,zg false,zg false,zg false] 288))
 have hB2:=hbel.trans (hb2.mono hbel.size)
 obtain ⟨c0a,c1a,c2a,c3a,c4a,c5a,c6a,c7a,s0a,s1a⟩:=CA hb2 c0 c1 c2 c3 c4 c5 c6 c7 s0 s1
 obtain ⟨s2a,s3a,s4a,s5a,s6a,s7a,s8a⟩:=co7 hb2 s2 s3 s4 s5 s6 s7 s8
 obtain ⟨h0a,h1a,h2a,h3a,h4a,h5a⟩:=rc6 (BR w1 [zg true,zg false,zg true,zg false,zg false,zg false] 288)
 clear hb1 hb2 hbel hB1 c0 c1 c2 c3 c4 c5 c6 c7 s0 s1 s2 s3 s4 s5 s6 s7 s8
 go_wp2_with fail
 refine (K2.o _ _ _).mono ?_
 rintro e wz ⟨he,rfl⟩
 have he2:=orT he
 subst he2
 clear he
 go_wp2_with fail
 refine (K3.o _ _ _).mono ?_
 rintro e wz ⟨rfl,rfl⟩
 go_wp2_with fail
 refine (K2.o _ _ _).mono ?_
 rintro e wz ⟨he,rfl⟩
 rcases he with ⟨hvar,rfl⟩ | ⟨hz,rfl⟩
 rotate_left
 ·skip
  have HN:=nO N1 N2 N3 N4 N5 N6 hz
  clear hz
  unfold Az
  go_wp2_with fail
  exact ⟨rfl,Or.inr ⟨HN.o,5,by decide,rfl⟩,hB2⟩
 have hvar2:0<=vr/\vr < vn:=by simpa using hvar
 have HVAR:=Aa hvar2
 clear hvar hvar2
 go_wp2_with fail
 go_quiet ((go_at_call 172;exact Calls.quiet_of_same (BB _ _)))
 obtain ⟨c0r,c1r,c2r,c3r,c4r,c5r,c6r,c7r,s0r,s1r⟩:=CR (n:=nq) c0a c1a c2a c3a c4a c5a c6a c7a s0a s1a
 obtain ⟨s2r,s3r,s4r,s5r,s6r,s7r,s8r,h0r,h1r,h2r⟩:=CR (n:=nq) s2a s3a s4a s5a s6a s7a s8a h0a h1a h2a
 obtain ⟨h3r,h4r,h5r⟩:=cn3 (n:=nq) h3a h4a h5a
 have hBr:=below_drewN hB2 nq
 clear hB2 c0a c1a c2a c3a c4a c5a c6a c7a s0a s1a s2a s3a s4a s5a s6a s7a s8a h0a h1a h2a h3a h4a h5a
 generalize (w1.alloc (ze #[zg true,zg false,zg true,zg false,zg false,zg false] 288)).drewN nq=wr at hBr c0r c1r c2r c3r c4r c5r c6r c7r s0r s1r s2r s3r s4r s5r s6r s7r s8r h0r h1r h2r h3r h4r h5r ⊢
 go_wp2_with fail
 refine (K2.o _ _ _).mono ?_
 rintro e wz ⟨he,rfl⟩
 have he2:=orT he
 subst he2
 clear he
 go_wp2_with fail
 refine (K2.o _ _ _).mono ?_
 rintro e wz ⟨he,rfl⟩
 rcases he with ⟨hz,rfl⟩ | ⟨hz,rfl⟩
 rotate_left
 ·skip
  have HN:=nO N1 N2 N3 N4 N5 N6 hz
  clear hz
  unfold Az
  go_wp2_with fail
  exact ⟨rfl,Or.inr ⟨HN.o,1,by decide,rfl⟩,hBr⟩
 have HZ_1:=Aa hz
 clear hz
 go_wp2_with fail
 refine (K2.o _ _ _).mono ?_
 rintro e wz ⟨he,rfl⟩
 have he2:=orT he
 subst he2
 clear he
 go_wp2_with fail
 refine (K2.o _ _ _).mono ?_
 rintro e wz ⟨he,rfl⟩
 rcases he with ⟨hargs,rfl⟩ | ⟨hz,rfl⟩
 rotate_left
 ·skip
  have HN:=nO N1 N2 N3 N4 N5 N6 hz
  clear hz
  unfold Az
  go_wp2_with fail
  exact ⟨rfl,Or.inr ⟨HN.o,1,by decide,rfl⟩,hBr⟩
 have hal0:al=0:=by simp at hargs;omega
 subst hal0
 clear hargs
 go_wp2_with fail
 refine (K2.o _ _ _).mono ?_
 rintro e wz ⟨he,rfl⟩
 rcases he with ⟨hz,rfl⟩ | ⟨hz,rfl⟩
 rotate_left
 ·skip
  have HN:=nO N1 N2 N3 N4 N5 N6 hz
  clear hz
  unfold Az
  go_wp2_with fail
  exact ⟨rfl,Or.inr ⟨HN.o,1,by decide,rfl⟩,hBr⟩
 have HZ_2:=Aa hz
 clear hz
 go_wp2_with fail
 refine (K2.o _ _ _).mono ?_
 rintro e wz ⟨he,rfl⟩
 rcases he with ⟨hz,rfl⟩ | ⟨hz,rfl⟩
 rotate_left
 ·skip
  have HN:=nO N1 N2 N3 N4 N5 N6 hz
  clear hz
  unfold Az
  go_wp2_with fail
  exact ⟨rfl,Or.inr ⟨HN.o,1,by decide,rfl⟩,hBr⟩
 have HZ_3:=Aa hz
 clear hz
 go_wp2_with fail
 go_quiet ((go_at_call 172;exact Calls.quiet_of_same (BB _ _)))
 obtain ⟨c0q,c1q,c2q,c3q,c4q,c5q,c6q,c7q,s0q,s1q⟩:=CR (n:=nq) c0r c1r c2r c3r c4r c5r c6r c7r s0r s1r
 obtain ⟨s2q,s3q,s4q,s5q,s6q,s7q,s8q,h0q,h1q,h2q⟩:=CR (n:=nq) s2r s3r s4r s5r s6r s7r s8r h0r h1r h2r
 obtain ⟨h3q,h4q,h5q⟩:=cn3 (n:=nq) h3r h4r h5r
 have hBq:=below_drewN hBr nq
 clear c0r c1r c2r c3r c4r c5r c6r c7r s0r s1r s2r s3r s4r s5r s6r s7r s8r h0r h1r h2r h3r h4r h5r
 go_wp2_with fail
 refine (K5.o _ hBq).mono ?_
 rintro e w5 ⟨he,hb5⟩
 have hB5:=hBq.trans (hb5.mono hBq.size)
 rcases he with ⟨hex,rfl⟩ | ⟨hnex,why,hwhy,rfl⟩
 rotate_left
 ·have HN:=Aa (N3.o hnex)
  clear hnex
  unfold Az
  go_wp2_with fail
  exact ⟨rfl,Or.inr ⟨HN.o,why,hwhy,rfl⟩,hB5⟩
 obtain ⟨c05,c15,c25,c35,c45,c55,c65,c75,s05,s15⟩:=CA hb5 c0q c1q c2q c3q c4q c5q c6q c7q s0q s1q
 obtain ⟨s25,s35,s45,s55,s65,s75,s85,h05,h15,h25⟩:=CA hb5 s2q s3q s4q s5q s6q s7q s8q h0q h1q h2q
 obtain ⟨h35,h45,h55⟩:=co3 hb5 h3q h4q h5q
 have HEX:=Aa hex
 clear hex hb5 c0q c1q c2q c3q c4q c5q c6q c7q s0q s1q s2q s3q s4q s5q s6q s7q s8q h0q h1q h2q h3q h4q h5q
 go_wp2_with fail
 go_loopw [138] (fun i wr=>i=U zd 0/\Ov w wr) (fun _ _=>0)
 case atStart=>exact ⟨rfl,hB5⟩
 case round=>
  obtain ⟨rfl,hB⟩:=hrel
  go_wp2_with fail
  go_end0
  refine ⟨Or.inl ⟨HQ.o ⟨?_,?_,?_,?_,?_,?_⟩,rfl⟩,hB⟩
  all_goals first | trivial | exact HVAR.o | exact HOT.o | exact HEX.o | exact ⟨HZ1.o,HZ2.o,HXL.o⟩ | (have hq:=HZ_1.o;simp at hq;omega) | (have hq:=HZ_2.o;simp at hq;omega) | (have hq:=HZ_3.o;simp at hq;omega) | omega
theorem PM (K k:Nat) (fs de das) (funcs:Int) (m:Int) (ga gn gc sa sn sc) (ya:Option Addr) (yn yc:Nat) (oa:Option Addr) (on oc:Nat) (va:Option Addr) (vn vc:Nat) (fa fn fc ba bn bc) (vr ot ek en:Int) (xa xl xc aa al ac ta tl tc ea el ec) (w:World) (hv:vn<=9223372036854775807) (i1:Cl vr) (i2:Cl ot) (h0f:0<=funcs) (h1f:funcs<=9223372036854775807) (hyl:yn<=9223372036854775807) (hol:on<=9223372036854775807)
  (hde:RX w K [U zd ek,U zd en,O xa xl xc] de) (hda:XS 3 (RX w K) w (O aa al ac) das) (hfs:Bm w K k (O fa fn fc) fs) (hff:funcs<=fs.length) :
  Calls Tryz.prog 220 #[zh #[U zd m,O ga gn gc,O sa sn sc,O ya yn yc,O oa on oc,O va vn vc,O fa fn fc,O ba bn bc],zh #[U zd 5,U zd vr,U zd ot,U zd ek,U zd en,O xa xl xc,O aa al ac,O ta tl tc,O ea el ec],U zd funcs] w (C8 ((0<=vr/\vr < vn)/\(ot=0)/\(AV vn K de=0)/\(al=0)/\(tl=0)/\(el=0)) w):=by
 obtain ⟨Q,hQ⟩:∃ Q:Prop,Q=((0<=vr/\vr < vn)/\(ot=0)/\(AV vn K de=0)/\(al=0)/\(tl=0)/\(el=0)):=⟨_,rfl⟩
 rw [<-hQ]
 have HQ:Hx (((0<=vr/\vr < vn)/\(ot=0)/\(AV vn K de=0)/\(al=0)/\(tl=0)/\(el=0))->Q):=Aa (fun p=>by rw [hQ];exact p)
 have N1:Hx (¬ (0<=vr/\vr < vn)->¬ Q):=Aa (fun h p=>by rw [hQ] at p;exact h p.1)
 have N2:Hx (¬ (ot=0)->¬ Q):=Aa (fun h p=>by rw [hQ] at p;exact h p.2.1)
 have N3:Hx (¬ (AV vn K de=0)->¬ Q):=Aa (fun h p=>by rw [hQ] at p;exact h p.2.2.1)
 have N4:Hx (¬ (al=0)->¬ Q):=Aa (fun h p=>by rw [hQ] at p;exact h p.2.2.2.1)
 have N5:Hx (¬ (tl=0)->¬ Q):=Aa (fun h p=>by rw [hQ] at p;exact h p.2.2.2.2.1)
 have N6:Hx (¬ (el=0)->¬ Q):=Aa (fun h p=>by rw [hQ] at p;exact h p.2.2.2.2.2)
 clear hQ
 have K1:=Aa MK
 have K2:=Aa BN
 have K3:=Aa Be
 have K4:=Aa fun W=>Ca 5 funcs m ga gn gc sa sn sc ya yn yc oa on oc va vn vc fa fn fc ba bn bc W
 have K5:=Aa fun W (hB:Ov w W)=>B0 K m ga gn gc sa sn sc ya yn yc oa on oc va vn vc fa fn fc ba bn bc _ _ W (hde.over hB) hv
 have hal:al<=9223372036854775807/\al=das.length:=⟨by obtain ⟨hm,ao,cap,he,-⟩:=hda;injection he with e1 e2 e3;rw [e2];exact hm,by obtain ⟨hm,ao,cap,he,-⟩:=hda;injection he⟩
 obtain ⟨hal,hale⟩:=hal
 have HAL:=Aa hale
 obtain ⟨i1,i1'⟩:=i1
 obtain ⟨i2,i2'⟩:=i2
 clear hde hda hfs hale
 obtain ⟨c0,c1,c2,c3,c4,c5,c6,c7⟩:=rc8 (FL w [U zd m,O ga gn gc,O sa sn sc,O ya yn yc,O oa on oc,O va vn vc,O fa fn fc,O ba bn bc] 184 (ze #[U zd 5,U zd vr,U zd ot,U zd ek,U zd en,O xa xl xc,O aa al ac,O ta tl tc,O ea el ec] 130))
 obtain ⟨s0,s1,s2,s3,s4,s5,s6,s7,s8⟩:=rc9 (GE w (ze #[U zd m,O ga gn gc,O sa sn sc,O ya yn yc,O oa on oc,O va vn vc,O fa fn fc,O ba bn bc] 184) [U zd 5,U zd vr,U zd ot,U zd ek,U zd en,O xa xl xc,O aa al ac,O ta tl tc,O ea el ec] 130)
 have hbel:Ov w ((w.alloc (ze #[U zd m,O ga gn gc,O sa sn sc,O ya yn yc,O oa on oc,O va vn vc,O fa fn fc,O ba bn bc] 184)).alloc (ze #[U zd 5,U zd vr,U zd ot,U zd ek,U zd en,O xa xl xc,O aa al ac,O ta tl tc,O ea el ec] 130)):=(bA w _).alloc (by simp) _
 go_enter Tryz.func220,Tryz.ntmps220
 go_wp2_with fail
 refine (K1.o _).mono ?_
 rintro e w1 ⟨rfl,hb1⟩
 have hB1:=hbel.trans (hb1.mono hbel.size)
 have hb2:=Ac hb1 (bA w1 (ze #[zg true,zg false,zg true,zg false,zg false,zg false] 288))
 have hB2:=hbel.trans (hb2.mono hbel.size)
 obtain ⟨c0a,c1a,c2a,c3a,c4a,c5a,c6a,c7a,s0a,s1a⟩:=CA hb2 c0 c1 c2 c3 c4 c5 c6 c7 s0 s1
 obtain ⟨s2a,s3a,s4a,s5a,s6a,s7a,s8a⟩:=co7 hb2 s2 s3 s4 s5 s6 s7 s8
 obtain ⟨h0a,h1a,h2a,h3a,h4a,h5a⟩:=rc6 (BR w1 [zg true,zg false,zg true,zg false,zg false,zg false] 288)
 clear hb1 hb2 hbel hB1 c0 c1 c2 c3 c4 c5 c6 c7 s0 s1 s2 s3 s4 s5 s6 s7 s8
 go_wp2_with fail
 refine (K2.o _ _ _).mono ?_
 rintro e wz ⟨he,rfl⟩
 have he2:=orT he
 subst he2
 clear he
 go_wp2_with fail
 refine (K3.o _ _ _).mono ?_
 rintro e wz ⟨rfl,rfl⟩
 go_wp2_with fail
 refine (K2.o _ _ _).mono ?_
 rintro e wz ⟨he,rfl⟩
 rcases he with ⟨hvar,rfl⟩ | ⟨hz,rfl⟩
 rotate_left
 ·skip
  have HN:=nO N1 N2 N3 N4 N5 N6 hz
  clear hz
  unfold Az
  go_wp2_with fail
  exact ⟨rfl,Or.inr ⟨HN.o,5,by decide,rfl⟩,hB2⟩
 have hvar2:0<=vr/\vr < vn:=by simpa using hvar
 have HVAR:=Aa hvar2
 clear hvar hvar2
 go_wp2_with fail
 go_quiet ((go_at_call 172;exact Calls.quiet_of_same (BB _ _)))
 obtain ⟨c0r,c1r,c2r,c3r,c4r,c5r,c6r,c7r,s0r,s1r⟩:=CR (n:=nq) c0a c1a c2a c3a c4a c5a c6a c7a s0a s1a
 obtain ⟨s2r,s3r,s4r,s5r,s6r,s7r,s8r,h0r,h1r,h2r⟩:=CR (n:=nq) s2a s3a s4a s5a s6a s7a s8a h0a h1a h2a
 obtain ⟨h3r,h4r,h5r⟩:=cn3 (n:=nq) h3a h4a h5a
 have hBr:=below_drewN hB2 nq
 clear hB2 c0a c1a c2a c3a c4a c5a c6a c7a s0a s1a s2a s3a s4a s5a s6a s7a s8a h0a h1a h2a h3a h4a h5a
 generalize (w1.alloc (ze #[zg true,zg false,zg true,zg false,zg false,zg false] 288)).drewN nq=wr at hBr c0r c1r c2r c3r c4r c5r c6r c7r s0r s1r s2r s3r s4r s5r s6r s7r s8r h0r h1r h2r h3r h4r h5r ⊢
 go_wp2_with fail
 refine (K2.o _ _ _).mono ?_
 rintro e wz ⟨he,rfl⟩
 have he2:=orT he
 subst he2
 clear he
 go_wp2_with fail
 refine (K2.o _ _ _).mono ?_
 rintro e wz ⟨he,rfl⟩
 rcases he with ⟨hz,rfl⟩ | ⟨hz,rfl⟩
 rotate_left
 ·skip
  have HN:=nO N1 N2 N3 N4 N5 N6 hz
  clear hz
  unfold Az
  go_wp2_with fail
  exact ⟨rfl,Or.inr ⟨HN.o,1,by decide,rfl⟩,hBr⟩
 have HZ_1:=Aa hz
 clear hz
 go_wp2_with fail
 refine (K2.o _ _ _).mono ?_
 rintro e wz ⟨he,rfl⟩
 have he2:=orT he
 subst he2
 clear he
 go_wp2_with fail
 refine (K2.o _ _ _).mono ?_
 rintro e wz ⟨he,rfl⟩
 rcases he with ⟨hargs,rfl⟩ | ⟨hz,rfl⟩
 rotate_left
 ·skip
  have HN:=nO N1 N2 N3 N4 N5 N6 hz
  clear hz
  unfold Az
  go_wp2_with fail
  exact ⟨rfl,Or.inr ⟨HN.o,1,by decide,rfl⟩,hBr⟩
 have hal0:al=0:=by simp at hargs;omega
 subst hal0
 clear hargs
 go_wp2_with fail
 refine (K2.o _ _ _).mono ?_
 rintro e wz ⟨he,rfl⟩
 rcases he with ⟨hz,rfl⟩ | ⟨hz,rfl⟩
 rotate_left
 ·skip
  have HN:=nO N1 N2 N3 N4 N5 N6 hz
  clear hz
  unfold Az
  go_wp2_with fail
  exact ⟨rfl,Or.inr ⟨HN.o,1,by decide,rfl⟩,hBr⟩
 have HZ_2:=Aa hz
 clear hz
 go_wp2_with fail
 refine (K2.o _ _ _).mono ?_
 rintro e wz ⟨he,rfl⟩
 rcases he with ⟨hz,rfl⟩ | ⟨hz,rfl⟩
 rotate_left
 ·skip
  have HN:=nO N1 N2 N3 N4 N5 N6 hz
  clear hz
  unfold Az
  go_wp2_with fail
  exact ⟨rfl,Or.inr ⟨HN.o,1,by decide,rfl⟩,hBr⟩
 have HZ_3:=Aa hz
 clear hz
 go_wp2_with fail
 go_quiet ((go_at_call 172;exact Calls.quiet_of_same (BB _ _)))
 obtain ⟨c0q,c1q,c2q,c3q,c4q,c5q,c6q,c7q,s0q,s1q⟩:=CR (n:=nq) c0r c1r c2r c3r c4r c5r c6r c7r s0r s1r
 obtain ⟨s2q,s3q,s4q,s5q,s6q,s7q,s8q,h0q,h1q,h2q⟩:=CR (n:=nq) s2r s3r s4r s5r s6r s7r s8r h0r h1r h2r
 obtain ⟨h3q,h4q,h5q⟩:=cn3 (n:=nq) h3r h4r h5r
 have hBq:=below_drewN hBr nq
 clear c0r c1r c2r c3r c4r c5r c6r c7r s0r s1r s2r s3r s4r s5r s6r s7r s8r h0r h1r h2r h3r h4r h5r
 go_wp2_with fail
 refine (K5.o _ hBq).mono ?_
 rintro e w5 ⟨he,hb5⟩
 have hB5:=hBq.trans (hb5.mono hBq.size)
 rcases he with ⟨hex,rfl⟩ | ⟨hnex,why,hwhy,rfl⟩
 rotate_left
 ·have HN:=Aa (N3.o hnex)
  clear hnex
  unfold Az
  go_wp2_with fail
  exact ⟨rfl,Or.inr ⟨HN.o,why,hwhy,rfl⟩,hB5⟩
 obtain ⟨c05,c15,c25,c35,c45,c55,c65,c75,s05,s15⟩:=CA hb5 c0q c1q c2q c3q c4q c5q c6q c7q s0q s1q
 obtain ⟨s25,s35,s45,s55,s65,s75,s85,h05,h15,h25⟩:=CA hb5 s2q s3q s4q s5q s6q s7q s8q h0q h1q h2q
 obtain ⟨h35,h45,h55⟩:=co3 hb5 h3q h4q h5q
 have HEX:=Aa hex
 clear hex hb5 c0q c1q c2q c3q c4q c5q c6q c7q s0q s1q s2q s3q s4q s5q s6q s7q s8q h0q h1q h2q h3q h4q h5q
 go_wp2_with fail
 go_loopw [138] (fun i wr=>i=U zd 0/\Ov w wr) (fun _ _=>0)
 case atStart=>exact ⟨rfl,hB5⟩
 case round=>
  obtain ⟨rfl,hB⟩:=hrel
  go_wp2_with fail
  go_end0
  refine ⟨Or.inl ⟨HQ.o ⟨?_,?_,?_,?_,?_,?_⟩,rfl⟩,hB⟩
  all_goals first | trivial | exact HVAR.o | exact HOT.o | exact HEX.o | exact ⟨HZ1.o,HZ2.o,HXL.o⟩ | (have hq:=HZ_1.o;simp at hq;omega) | (have hq:=HZ_2.o;simp at hq;omega) | (have hq:=HZ_3.o;simp at hq;omega) | omega
theorem PL (K k:Nat) (fs de das) (funcs:Int) (m:Int) (ga gn gc sa sn sc) (ya:Option Addr) (yn yc:Nat) (oa:Option Addr) (on oc:Nat) (va:Option Addr) (vn vc:Nat) (fa fn fc ba bn bc) (vr ot ek en:Int) (xa xl xc aa al ac ta tl tc ea el ec) (w:World) (hv:vn<=9223372036854775807) (i1:Cl vr) (i2:Cl ot) (h0f:0<=funcs) (h1f:funcs<=9223372036854775807) (hyl:yn<=9223372036854775807) (hol:on<=9223372036854775807)
  (hde:RX w K [U zd ek,U zd en,O xa xl xc] de) (hda:XS 3 (RX w K) w (O aa al ac) das) (hfs:Bm w K k (O fa fn fc) fs) (hff:funcs<=fs.length) :
  Calls Tryz.prog 220 #[zh #[U zd m,O ga gn gc,O sa sn sc,O ya yn yc,O oa on oc,O va vn vc,O fa fn fc,O ba bn bc],zh #[U zd 6,U zd vr,U zd ot,U zd ek,U zd en,O xa xl xc,O aa al ac,O ta tl tc,O ea el ec],U zd funcs] w (C8 ((0<=vr/\vr < vn)/\(ot=0)/\(AV vn K de=0)/\(al=0)/\(tl=0)/\(el=0)) w):=by
 obtain ⟨Q,hQ⟩:∃ Q:Prop,Q=((0<=vr/\vr < vn)/\(ot=0)/\(AV vn K de=0)/\(al=0)/\(tl=0)/\(el=0)):=⟨_,rfl⟩
 rw [<-hQ]
 have HQ:Hx (((0<=vr/\vr < vn)/\(ot=0)/\(AV vn K de=0)/\(al=0)/\(tl=0)/\(el=0))->Q):=Aa (fun p=>by rw [hQ];exact p)
 have N1:Hx (¬ (0<=vr/\vr < vn)->¬ Q):=Aa (fun h p=>by rw [hQ] at p;exact h p.1)
 have N2:Hx (¬ (ot=0)->¬ Q):=Aa (fun h p=>by rw [hQ] at p;exact h p.2.1)
 have N3:Hx (¬ (AV vn K de=0)->¬ Q):=Aa (fun h p=>by rw [hQ] at p;exact h p.2.2.1)
 have N4:Hx (¬ (al=0)->¬ Q):=Aa (fun h p=>by rw [hQ] at p;exact h p.2.2.2.1)
 have N5:Hx (¬ (tl=0)->¬ Q):=Aa (fun h p=>by rw [hQ] at p;exact h p.2.2.2.2.1)
 have N6:Hx (¬ (el=0)->¬ Q):=Aa (fun h p=>by rw [hQ] at p;exact h p.2.2.2.2.2)
 clear hQ
 have K1:=Aa MJ
 have K2:=Aa BN
 have K3:=Aa Be
 have K4:=Aa fun W=>Ca 6 funcs m ga gn gc sa sn sc ya yn yc oa on oc va vn vc fa fn fc ba bn bc W
 have K5:=Aa fun W (hB:Ov w W)=>B0 K m ga gn gc sa sn sc ya yn yc oa on oc va vn vc fa fn fc ba bn bc _ _ W (hde.over hB) hv
 have hal:al<=9223372036854775807/\al=das.length:=⟨by obtain ⟨hm,ao,cap,he,-⟩:=hda;injection he with e1 e2 e3;rw [e2];exact hm,by obtain ⟨hm,ao,cap,he,-⟩:=hda;injection he⟩
 obtain ⟨hal,hale⟩:=hal
 have HAL:=Aa hale
 obtain ⟨i1,i1'⟩:=i1
 obtain ⟨i2,i2'⟩:=i2
 clear hde hda hfs hale
 obtain ⟨c0,c1,c2,c3,c4,c5,c6,c7⟩:=rc8 (FL w [U zd m,O ga gn gc,O sa sn sc,O ya yn yc,O oa on oc,O va vn vc,O fa fn fc,O ba bn bc] 184 (ze #[U zd 6,U zd vr,U zd ot,U zd ek,U zd en,O xa xl xc,O aa al ac,O ta tl tc,O ea el ec] 130))
 obtain ⟨s0,s1,s2,s3,s4,s5,s6,s7,s8⟩:=rc9 (GE w (ze #[U zd m,O ga gn gc,O sa sn sc,O ya yn yc,O oa on oc,O va vn vc,O fa fn fc,O ba bn bc] 184) [U zd 6,U zd vr,U zd ot,U zd ek,U zd en,O xa xl xc,O aa al ac,O ta tl tc,O ea el ec] 130)
 have hbel:Ov w ((w.alloc (ze #[U zd m,O ga gn gc,O sa sn sc,O ya yn yc,O oa on oc,O va vn vc,O fa fn fc,O ba bn bc] 184)).alloc (ze #[U zd 6,U zd vr,U zd ot,U zd ek,U zd en,O xa xl xc,O aa al ac,O ta tl tc,O ea el ec] 130)):=(bA w _).alloc (by simp) _
 go_enter Tryz.func220,Tryz.ntmps220
 go_wp2_with fail
 refine (K1.o _).mono ?_
 rintro e w1 ⟨rfl,hb1⟩
 have hB1:=hbel.trans (hb1.mono hbel.size)
 have hb2:=Ac hb1 (bA w1 (ze #[zg true,zg false,zg true,zg false,zg false,zg false] 288))
 have hB2:=hbel.trans (hb2.mono hbel.size)
 obtain ⟨c0a,c1a,c2a,c3a,c4a,c5a,c6a,c7a,s0a,s1a⟩:=CA hb2 c0 c1 c2 c3 c4 c5 c6 c7 s0 s1
 obtain ⟨s2a,s3a,s4a,s5a,s6a,s7a,s8a⟩:=co7 hb2 s2 s3 s4 s5 s6 s7 s8
 obtain ⟨h0a,h1a,h2a,h3a,h4a,h5a⟩:=rc6 (BR w1 [zg true,zg false,zg true,zg false,zg false,zg false] 288)
 clear hb1 hb2 hbel hB1 c0 c1 c2 c3 c4 c5 c6 c7 s0 s1 s2 s3 s4 s5 s6 s7 s8
 go_wp2_with fail
 refine (K2.o _ _ _).mono ?_
 rintro e wz ⟨he,rfl⟩
 have he2:=orT he
 subst he2
 clear he
 go_wp2_with fail
 refine (K3.o _ _ _).mono ?_
 rintro e wz ⟨rfl,rfl⟩
 go_wp2_with fail
 refine (K2.o _ _ _).mono ?_
 rintro e wz ⟨he,rfl⟩
 rcases he with ⟨hvar,rfl⟩ | ⟨hz,rfl⟩
 rotate_left
 ·skip
  have HN:=nO N1 N2 N3 N4 N5 N6 hz
  clear hz
  unfold Az
  go_wp2_with fail
  exact ⟨rfl,Or.inr ⟨HN.o,5,by decide,rfl⟩,hB2⟩
 have hvar2:0<=vr/\vr < vn:=by simpa using hvar
 have HVAR:=Aa hvar2
 clear hvar hvar2
 go_wp2_with fail
 go_quiet ((go_at_call 172;exact Calls.quiet_of_same (BB _ _)))
 obtain ⟨c0r,c1r,c2r,c3r,c4r,c5r,c6r,c7r,s0r,s1r⟩:=CR (n:=nq) c0a c1a c2a c3a c4a c5a c6a c7a s0a s1a
 obtain ⟨s2r,s3r,s4r,s5r,s6r,s7r,s8r,h0r,h1r,h2r⟩:=CR (n:=nq) s2a s3a s4a s5a s6a s7a s8a h0a h1a h2a
 obtain ⟨h3r,h4r,h5r⟩:=cn3 (n:=nq) h3a h4a h5a
 have hBr:=below_drewN hB2 nq
 clear hB2 c0a c1a c2a c3a c4a c5a c6a c7a s0a s1a s2a s3a s4a s5a s6a s7a s8a h0a h1a h2a h3a h4a h5a
 generalize (w1.alloc (ze #[zg true,zg false,zg true,zg false,zg false,zg false] 288)).drewN nq=wr at hBr c0r c1r c2r c3r c4r c5r c6r c7r s0r s1r s2r s3r s4r s5r s6r s7r s8r h0r h1r h2r h3r h4r h5r ⊢
 go_wp2_with fail
 refine (K2.o _ _ _).mono ?_
 rintro e wz ⟨he,rfl⟩
 have he2:=orT he
 subst he2
 clear he
 go_wp2_with fail
 refine (K2.o _ _ _).mono ?_
 rintro e wz ⟨he,rfl⟩
 rcases he with ⟨hz,rfl⟩ | ⟨hz,rfl⟩
 rotate_left
 ·skip
  have HN:=nO N1 N2 N3 N4 N5 N6 hz
  clear hz
  unfold Az
  go_wp2_with fail
  exact ⟨rfl,Or.inr ⟨HN.o,1,by decide,rfl⟩,hBr⟩
 have HZ_1:=Aa hz
 clear hz
 go_wp2_with fail
 refine (K2.o _ _ _).mono ?_
 rintro e wz ⟨he,rfl⟩
 have he2:=orT he
 subst he2
 clear he
 go_wp2_with fail
 refine (K2.o _ _ _).mono ?_
 rintro e wz ⟨he,rfl⟩
 rcases he with ⟨hargs,rfl⟩ | ⟨hz,rfl⟩
 rotate_left
 ·skip
  have HN:=nO N1 N2 N3 N4 N5 N6 hz
  clear hz
  unfold Az
  go_wp2_with fail
  exact ⟨rfl,Or.inr ⟨HN.o,1,by decide,rfl⟩,hBr⟩
 have hal0:al=0:=by simp at hargs;omega
 subst hal0
 clear hargs
 go_wp2_with fail
 refine (K2.o _ _ _).mono ?_
 rintro e wz ⟨he,rfl⟩
 rcases he with ⟨hz,rfl⟩ | ⟨hz,rfl⟩
 rotate_left
 ·skip
  have HN:=nO N1 N2 N3 N4 N5 N6 hz
  clear hz
  unfold Az
  go_wp2_with fail
  exact ⟨rfl,Or.inr ⟨HN.o,1,by decide,rfl⟩,hBr⟩
 have HZ_2:=Aa hz
 clear hz
 go_wp2_with fail
 refine (K2.o _ _ _).mono ?_
 rintro e wz ⟨he,rfl⟩
 rcases he with ⟨hz,rfl⟩ | ⟨hz,rfl⟩
 rotate_left
 ·skip
  have HN:=nO N1 N2 N3 N4 N5 N6 hz
  clear hz
  unfold Az
  go_wp2_with fail
  exact ⟨rfl,Or.inr ⟨HN.o,1,by decide,rfl⟩,hBr⟩
 have HZ_3:=Aa hz
 clear hz
 go_wp2_with fail
 go_quiet ((go_at_call 172;exact Calls.quiet_of_same (BB _ _)))
 obtain ⟨c0q,c1q,c2q,c3q,c4q,c5q,c6q,c7q,s0q,s1q⟩:=CR (n:=nq) c0r c1r c2r c3r c4r c5r c6r c7r s0r s1r
 obtain ⟨s2q,s3q,s4q,s5q,s6q,s7q,s8q,h0q,h1q,h2q⟩:=CR (n:=nq) s2r s3r s4r s5r s6r s7r s8r h0r h1r h2r
 obtain ⟨h3q,h4q,h5q⟩:=cn3 (n:=nq) h3r h4r h5r
 have hBq:=below_drewN hBr nq
 clear c0r c1r c2r c3r c4r c5r c6r c7r s0r s1r s2r s3r s4r s5r s6r s7r s8r h0r h1r h2r h3r h4r h5r
 go_wp2_with fail
 refine (K5.o _ hBq).mono ?_
 rintro e w5 ⟨he,hb5⟩
 have hB5:=hBq.trans (hb5.mono hBq.size)
 rcases he with ⟨hex,rfl⟩ | ⟨hnex,why,hwhy,rfl⟩
 rotate_left
 ·have HN:=Aa (N3.o hnex)
  clear hnex
  unfold Az
  go_wp2_with fail
  exact ⟨rfl,Or.inr ⟨HN.o,why,hwhy,rfl⟩,hB5⟩
 obtain ⟨c05,c15,c25,c35,c45,c55,c65,c75,s05,s15⟩:=CA hb5 c0q c1q c2q c3q c4q c5q c6q c7q s0q s1q
 obtain ⟨s25,s35,s45,s55,s65,s75,s85,h05,h15,h25⟩:=CA hb5 s2q s3q s4q s5q s6q s7q s8q h0q h1q h2q
 obtain ⟨h35,h45,h55⟩:=co3 hb5 h3q h4q h5q
 have HEX:=Aa hex
 clear hex hb5 c0q c1q c2q c3q c4q c5q c6q c7q s0q s1q s2q s3q s4q s5q s6q s7q s8q h0q h1q h2q h3q h4q h5q
 go_wp2_with fail
 go_loopw [138] (fun i wr=>i=U zd 0/\Ov w wr) (fun _ _=>0)
 case atStart=>exact ⟨rfl,hB5⟩
 case round=>
  obtain ⟨rfl,hB⟩:=hrel
  go_wp2_with fail
  go_end0
  refine ⟨Or.inl ⟨HQ.o ⟨?_,?_,?_,?_,?_,?_⟩,rfl⟩,hB⟩
  all_goals first | trivial | exact HVAR.o | exact HOT.o | exact HEX.o | exact ⟨HZ1.o,HZ2.o,HXL.o⟩ | (have hq:=HZ_1.o;simp at hq;omega) | (have hq:=HZ_2.o;simp at hq;omega) | (have hq:=HZ_3.o;simp at hq;omega) | omega
theorem PJ (K k:Nat) (fs de das) (funcs:Int) (m:Int) (ga gn gc sa sn sc) (ya:Option Addr) (yn yc:Nat) (oa:Option Addr) (on oc:Nat) (va:Option Addr) (vn vc:Nat) (fa fn fc ba bn bc) (vr ot ek en:Int) (xa xl xc aa al ac ta tl tc ea el ec) (w:World) (hv:vn<=9223372036854775807) (i1:Cl vr) (i2:Cl ot) (h0f:0<=funcs) (h1f:funcs<=9223372036854775807) (hyl:yn<=9223372036854775807) (hol:on<=9223372036854775807)
  (hde:RX w K [U zd ek,U zd en,O xa xl xc] de) (hda:XS 3 (RX w K) w (O aa al ac) das) (hfs:Bm w K k (O fa fn fc) fs) (hff:funcs<=fs.length) :
  Calls Tryz.prog 220 #[zh #[U zd m,O ga gn gc,O sa sn sc,O ya yn yc,O oa on oc,O va vn vc,O fa fn fc,O ba bn bc],zh #[U zd 8,U zd vr,U zd ot,U zd ek,U zd en,O xa xl xc,O aa al ac,O ta tl tc,O ea el ec],U zd funcs] w (C8 ((vr=0)/\(ot=0)/\(AV vn K de=0)/\(al=0)/\(True)/\(el=0)) w):=by
 obtain ⟨Q,hQ⟩:∃ Q:Prop,Q=((vr=0)/\(ot=0)/\(AV vn K de=0)/\(al=0)/\(True)/\(el=0)):=⟨_,rfl⟩
 rw [<-hQ]
 have HQ:Hx (((vr=0)/\(ot=0)/\(AV vn K de=0)/\(al=0)/\(True)/\(el=0))->Q):=Aa (fun p=>by rw [hQ];exact p)
 have N1:Hx (¬ (vr=0)->¬ Q):=Aa (fun h p=>by rw [hQ] at p;exact h p.1)
 have N2:Hx (¬ (ot=0)->¬ Q):=Aa (fun h p=>by rw [hQ] at p;exact h p.2.1)
 have N3:Hx (¬ (AV vn K de=0)->¬ Q):=Aa (fun h p=>by rw [hQ] at p;exact h p.2.2.1)
 have N4:Hx (¬ (al=0)->¬ Q):=Aa (fun h p=>by rw [hQ] at p;exact h p.2.2.2.1)
 have N5:Hx (¬ (True)->¬ Q):=Aa (fun h p=>by rw [hQ] at p;exact h p.2.2.2.2.1)
 have N6:Hx (¬ (el=0)->¬ Q):=Aa (fun h p=>by rw [hQ] at p;exact h p.2.2.2.2.2)
 clear hQ
 have K1:=Aa MH
 have K2:=Aa BN
 have K3:=Aa Be
 have K4:=Aa fun W=>Ca 8 funcs m ga gn gc sa sn sc ya yn yc oa on oc va vn vc fa fn fc ba bn bc W
 have K5:=Aa fun W (hB:Ov w W)=>B0 K m ga gn gc sa sn sc ya yn yc oa on oc va vn vc fa fn fc ba bn bc _ _ W (hde.over hB) hv
 have hal:al<=9223372036854775807/\al=das.length:=⟨by obtain ⟨hm,ao,cap,he,-⟩:=hda;injection he with e1 e2 e3;rw [e2];exact hm,by obtain ⟨hm,ao,cap,he,-⟩:=hda;injection he⟩
 obtain ⟨hal,hale⟩:=hal
 have HAL:=Aa hale
 obtain ⟨i1,i1'⟩:=i1
 obtain ⟨i2,i2'⟩:=i2
 clear hde hda hfs hale
 obtain ⟨c0,c1,c2,c3,c4,c5,c6,c7⟩:=rc8 (FL w [U zd m,O ga gn gc,O sa sn sc,O ya yn yc,O oa on oc,O va vn vc,O fa fn fc,O ba bn bc] 184 (ze #[U zd 8,U zd vr,U zd ot,U zd ek,U zd en,O xa xl xc,O aa al ac,O ta tl tc,O ea el ec] 130))
 obtain ⟨s0,s1,s2,s3,s4,s5,s6,s7,s8⟩:=rc9 (GE w (ze #[U zd m,O ga gn gc,O sa sn sc,O ya yn yc,O oa on oc,O va vn vc,O fa fn fc,O ba bn bc] 184) [U zd 8,U zd vr,U zd ot,U zd ek,U zd en,O xa xl xc,O aa al ac,O ta tl tc,O ea el ec] 130)
 have hbel:Ov w ((w.alloc (ze #[U zd m,O ga gn gc,O sa sn sc,O ya yn yc,O oa on oc,O va vn vc,O fa fn fc,O ba bn bc] 184)).alloc (ze #[U zd 8,U zd vr,U zd ot,U zd ek,U zd en,O xa xl xc,O aa al ac,O ta tl tc,O ea el ec] 130)):=(bA w _).alloc (by simp) _
 go_enter Tryz.func220,Tryz.ntmps220
 go_wp2_with fail
 refine (K1.o _).mono ?_
 rintro e w1 ⟨rfl,hb1⟩
 have hB1:=hbel.trans (hb1.mono hbel.size)
 have hb2:=Ac hb1 (bA w1 (ze #[zg false,zg false,zg true,zg false,zg true,zg false] 288))
 have hB2:=hbel.trans (hb2.mono hbel.size)
 obtain ⟨c0a,c1a,c2a,c3a,c4a,c5a,c6a,c7a,s0a,s1a⟩:=CA hb2 c0 c1 c2 c3 c4 c5 c6 c7 s0 s1
 obtain ⟨s2a,s3a,s4a,s5a,s6a,s7a,s8a⟩:=co7 hb2 s2 s3 s4 s5 s6 s7 s8
 obtain ⟨h0a,h1a,h2a,h3a,h4a,h5a⟩:=rc6 (BR w1 [zg false,zg false,zg true,zg false,zg true,zg false] 288)
 clear hb1 hb2 hbel hB1 c0 c1 c2 c3 c4 c5 c6 c7 s0 s1 s2 s3 s4 s5 s6 s7 s8
 go_wp2_with fail
 refine (K2.o _ _ _).mono ?_
 rintro e wz ⟨he,rfl⟩
 have he2:=orT he
 subst he2
 clear he
 go_wp2_with fail
 refine (K2.o _ _ _).mono ?_
 rintro e wz ⟨he,rfl⟩
 have he2:=orT he
 subst he2
 clear he
 go_wp2_with fail
 go_quiet ((go_at_call 172;exact Calls.quiet_of_same (BB _ _)))
 obtain ⟨c0r,c1r,c2r,c3r,c4r,c5r,c6r,c7r,s0r,s1r⟩:=CR (n:=nq) c0a c1a c2a c3a c4a c5a c6a c7a s0a s1a
 obtain ⟨s2r,s3r,s4r,s5r,s6r,s7r,s8r,h0r,h1r,h2r⟩:=CR (n:=nq) s2a s3a s4a s5a s6a s7a s8a h0a h1a h2a
 obtain ⟨h3r,h4r,h5r⟩:=cn3 (n:=nq) h3a h4a h5a
 have hBr:=below_drewN hB2 nq
 clear hB2 c0a c1a c2a c3a c4a c5a c6a c7a s0a s1a s2a s3a s4a s5a s6a s7a s8a h0a h1a h2a h3a h4a h5a
 generalize (w1.alloc (ze #[zg false,zg false,zg true,zg false,zg true,zg false] 288)).drewN nq=wr at hBr c0r c1r c2r c3r c4r c5r c6r c7r s0r s1r s2r s3r s4r s5r s6r s7r s8r h0r h1r h2r h3r h4r h5r ⊢
 go_wp2_with fail
 refine (K2.o _ _ _).mono ?_
 rintro e wz ⟨he,rfl⟩
 rcases he with ⟨hz,rfl⟩ | ⟨hz,rfl⟩
 rotate_left
 ·skip
  have HN:=nO N1 N2 N3 N4 N5 N6 hz
  clear hz
  unfold Az
  go_wp2_with fail
  exact ⟨rfl,Or.inr ⟨HN.o,1,by decide,rfl⟩,hBr⟩
 have HZ_1:=Aa hz
 clear hz
 go_wp2_with fail
 refine (K2.o _ _ _).mono ?_
 rintro e wz ⟨he,rfl⟩
 rcases he with ⟨hz,rfl⟩ | ⟨hz,rfl⟩
 rotate_left
 ·skip
  have HN:=nO N1 N2 N3 N4 N5 N6 hz
  clear hz
  unfold Az
  go_wp2_with fail
  exact ⟨rfl,Or.inr ⟨HN.o,1,by decide,rfl⟩,hBr⟩
 have HZ_2:=Aa hz
 clear hz
 go_wp2_with fail
 refine (K2.o _ _ _).mono ?_
 rintro e wz ⟨he,rfl⟩
 have he2:=orT he
 subst he2
 clear he
 go_wp2_with fail
 refine (K2.o _ _ _).mono ?_
 rintro e wz ⟨he,rfl⟩
 rcases he with ⟨hargs,rfl⟩ | ⟨hz,rfl⟩
 rotate_left
 ·skip
  have HN:=nO N1 N2 N3 N4 N5 N6 hz
  clear hz
  unfold Az
  go_wp2_with fail
  exact ⟨rfl,Or.inr ⟨HN.o,1,by decide,rfl⟩,hBr⟩
 have hal0:al=0:=by simp at hargs;omega
 subst hal0
 clear hargs
 go_wp2_with fail
 refine (K2.o _ _ _).mono ?_
 rintro e wz ⟨he,rfl⟩
 have he2:=orT he
 subst he2
 clear he
 go_wp2_with fail
 refine (K2.o _ _ _).mono ?_
 rintro e wz ⟨he,rfl⟩
 rcases he with ⟨hz,rfl⟩ | ⟨hz,rfl⟩
 rotate_left
 ·skip
  have HN:=nO N1 N2 N3 N4 N5 N6 hz
  clear hz
  unfold Az
  go_wp2_with fail
  exact ⟨rfl,Or.inr ⟨HN.o,1,by decide,rfl⟩,hBr⟩
 have HZ_3:=Aa hz
 clear hz
 go_wp2_with fail
 go_quiet ((go_at_call 172;exact Calls.quiet_of_same (BB _ _)))
 obtain ⟨c0q,c1q,c2q,c3q,c4q,c5q,c6q,c7q,s0q,s1q⟩:=CR (n:=nq) c0r c1r c2r c3r c4r c5r c6r c7r s0r s1r
 obtain ⟨s2q,s3q,s4q,s5q,s6q,s7q,s8q,h0q,h1q,h2q⟩:=CR (n:=nq) s2r s3r s4r s5r s6r s7r s8r h0r h1r h2r
 obtain ⟨h3q,h4q,h5q⟩:=cn3 (n:=nq) h3r h4r h5r
 have hBq:=below_drewN hBr nq
 clear c0r c1r c2r c3r c4r c5r c6r c7r s0r s1r s2r s3r s4r s5r s6r s7r s8r h0r h1r h2r h3r h4r h5r
 go_wp2_with fail
 refine (K5.o _ hBq).mono ?_
 rintro e w5 ⟨he,hb5⟩
 have hB5:=hBq.trans (hb5.mono hBq.size)
 rcases he with ⟨hex,rfl⟩ | ⟨hnex,why,hwhy,rfl⟩
 rotate_left
 ·have HN:=Aa (N3.o hnex)
  clear hnex
  unfold Az
  go_wp2_with fail
  exact ⟨rfl,Or.inr ⟨HN.o,why,hwhy,rfl⟩,hB5⟩
 obtain ⟨c05,c15,c25,c35,c45,c55,c65,c75,s05,s15⟩:=CA hb5 c0q c1q c2q c3q c4q c5q c6q c7q s0q s1q
 obtain ⟨s25,s35,s45,s55,s65,s75,s85,h05,h15,h25⟩:=CA hb5 s2q s3q s4q s5q s6q s7q s8q h0q h1q h2q
 obtain ⟨h35,h45,h55⟩:=co3 hb5 h3q h4q h5q
 have HEX:=Aa hex
 clear hex hb5 c0q c1q c2q c3q c4q c5q c6q c7q s0q s1q s2q s3q s4q s5q s6q s7q s8q h0q h1q h2q h3q h4q h5q
 go_wp2_with fail
 go_loopw [138] (fun i wr=>i=U zd 0/\Ov w wr) (fun _ _=>0)
 case atStart=>exact ⟨rfl,hB5⟩
 case round=>
  obtain ⟨rfl,hB⟩:=hrel
  go_wp2_with fail
  go_end0
  refine ⟨Or.inl ⟨HQ.o ⟨?_,?_,?_,?_,?_,?_⟩,rfl⟩,hB⟩
  all_goals first | trivial | exact HVAR.o | exact HOT.o | exact HEX.o | exact ⟨HZ1.o,HZ2.o,HXL.o⟩ | (have hq:=HZ_1.o;simp at hq;omega) | (have hq:=HZ_2.o;simp at hq;omega) | (have hq:=HZ_3.o;simp at hq;omega) | omega
theorem PK (K k:Nat) (fs de das) (funcs:Int) (m:Int) (ga gn gc sa sn sc) (ya:Option Addr) (yn yc:Nat) (oa:Option Addr) (on oc:Nat) (va:Option Addr) (vn vc:Nat) (fa fn fc ba bn bc) (vr ot ek en:Int) (xa xl xc aa al ac ta tl tc ea el ec) (w:World) (hv:vn<=9223372036854775807) (i1:Cl vr) (i2:Cl ot) (h0f:0<=funcs) (h1f:funcs<=9223372036854775807) (hyl:yn<=9223372036854775807) (hol:on<=9223372036854775807)
  (hde:RX w K [U zd ek,U zd en,O xa xl xc] de) (hda:XS 3 (RX w K) w (O aa al ac) das) (hfs:Bm w K k (O fa fn fc) fs) (hff:funcs<=fs.length) :
  Calls Tryz.prog 220 #[zh #[U zd m,O ga gn gc,O sa sn sc,O ya yn yc,O oa on oc,O va vn vc,O fa fn fc,O ba bn bc],zh #[U zd 7,U zd vr,U zd ot,U zd ek,U zd en,O xa xl xc,O aa al ac,O ta tl tc,O ea el ec],U zd funcs] w (C8 ((vr=0)/\(ot=0)/\(AV vn K de=0)/\(al=0)/\(True)/\(True)) w):=by
 obtain ⟨Q,hQ⟩:∃ Q:Prop,Q=((vr=0)/\(ot=0)/\(AV vn K de=0)/\(al=0)/\(True)/\(True)):=⟨_,rfl⟩
 rw [<-hQ]
 have HQ:Hx (((vr=0)/\(ot=0)/\(AV vn K de=0)/\(al=0)/\(True)/\(True))->Q):=Aa (fun p=>by rw [hQ];exact p)
 have N1:Hx (¬ (vr=0)->¬ Q):=Aa (fun h p=>by rw [hQ] at p;exact h p.1)
 have N2:Hx (¬ (ot=0)->¬ Q):=Aa (fun h p=>by rw [hQ] at p;exact h p.2.1)
 have N3:Hx (¬ (AV vn K de=0)->¬ Q):=Aa (fun h p=>by rw [hQ] at p;exact h p.2.2.1)
 have N4:Hx (¬ (al=0)->¬ Q):=Aa (fun h p=>by rw [hQ] at p;exact h p.2.2.2.1)
 have N5:Hx (¬ (True)->¬ Q):=Aa (fun h p=>by rw [hQ] at p;exact h p.2.2.2.2.1)
 have N6:Hx (¬ (True)->¬ Q):=Aa (fun h p=>by rw [hQ] at p;exact h p.2.2.2.2.2)
 clear hQ
 have K1:=Aa MI
 have K2:=Aa BN
 have K3:=Aa Be
 have K4:=Aa fun W=>Ca 7 funcs m ga gn gc sa sn sc ya yn yc oa on oc va vn vc fa fn fc ba bn bc W
 have K5:=Aa fun W (hB:Ov w W)=>B0 K m ga gn gc sa sn sc ya yn yc oa on oc va vn vc fa fn fc ba bn bc _ _ W (hde.over hB) hv
 have hal:al<=9223372036854775807/\al=das.length:=⟨by obtain ⟨hm,ao,cap,he,-⟩:=hda;injection he with e1 e2 e3;rw [e2];exact hm,by obtain ⟨hm,ao,cap,he,-⟩:=hda;injection he⟩
 obtain ⟨hal,hale⟩:=hal
 have HAL:=Aa hale
 obtain ⟨i1,i1'⟩:=i1
 obtain ⟨i2,i2'⟩:=i2
 clear hde hda hfs hale
 obtain ⟨c0,c1,c2,c3,c4,c5,c6,c7⟩:=rc8 (FL w [U zd m,O ga gn gc,O sa sn sc,O ya yn yc,O oa on oc,O va vn vc,O fa fn fc,O ba bn bc] 184 (ze #[U zd 7,U zd vr,U zd ot,U zd ek,U zd en,O xa xl xc,O aa al ac,O ta tl tc,O ea el ec] 130))
 obtain ⟨s0,s1,s2,s3,s4,s5,s6,s7,s8⟩:=rc9 (GE w (ze #[U zd m,O ga gn gc,O sa sn sc,O ya yn yc,O oa on oc,O va vn vc,O fa fn fc,O ba bn bc] 184) [U zd 7,U zd vr,U zd ot,U zd ek,U zd en,O xa xl xc,O aa al ac,O ta tl tc,O ea el ec] 130)
 have hbel:Ov w ((w.alloc (ze #[U zd m,O ga gn gc,O sa sn sc,O ya yn yc,O oa on oc,O va vn vc,O fa fn fc,O ba bn bc] 184)).alloc (ze #[U zd 7,U zd vr,U zd ot,U zd ek,U zd en,O xa xl xc,O aa al ac,O ta tl tc,O ea el ec] 130)):=(bA w _).alloc (by simp) _
 go_enter Tryz.func220,Tryz.ntmps220
 go_wp2_with fail
 refine (K1.o _).mono ?_
 rintro e w1 ⟨rfl,hb1⟩
 have hB1:=hbel.trans (hb1.mono hbel.size)
 have hb2:=Ac hb1 (bA w1 (ze #[zg false,zg false,zg true,zg false,zg true,zg true] 288))
 have hB2:=hbel.trans (hb2.mono hbel.size)
 obtain ⟨c0a,c1a,c2a,c3a,c4a,c5a,c6a,c7a,s0a,s1a⟩:=CA hb2 c0 c1 c2 c3 c4 c5 c6 c7 s0 s1
 obtain ⟨s2a,s3a,s4a,s5a,s6a,s7a,s8a⟩:=co7 hb2 s2 s3 s4 s5 s6 s7 s8
 obtain ⟨h0a,h1a,h2a,h3a,h4a,h5a⟩:=rc6 (BR w1 [zg false,zg false,zg true,zg false,zg true,zg true] 288)
 clear hb1 hb2 hbel hB1 c0 c1 c2 c3 c4 c5 c6 c7 s0 s1 s2 s3 s4 s5 s6 s7 s8
 go_wp2_with fail
 refine (K2.o _ _ _).mono ?_
 rintro e wz ⟨he,rfl⟩
 have he2:=orT he
 subst he2
 clear he
 go_wp2_with fail
 refine (K2.o _ _ _).mono ?_
 rintro e wz ⟨he,rfl⟩
 have he2:=orT he
 subst he2
 clear he
 go_wp2_with fail
 go_quiet ((go_at_call 172;exact Calls.quiet_of_same (BB _ _)))
 obtain ⟨c0r,c1r,c2r,c3r,c4r,c5r,c6r,c7r,s0r,s1r⟩:=CR (n:=nq) c0a c1a c2a c3a c4a c5a c6a c7a s0a s1a
 obtain ⟨s2r,s3r,s4r,s5r,s6r,s7r,s8r,h0r,h1r,h2r⟩:=CR (n:=nq) s2a s3a s4a s5a s6a s7a s8a h0a h1a h2a
 obtain ⟨h3r,h4r,h5r⟩:=cn3 (n:=nq) h3a h4a h5a
 have hBr:=below_drewN hB2 nq
 clear hB2 c0a c1a c2a c3a c4a c5a c6a c7a s0a s1a s2a s3a s4a s5a s6a s7a s8a h0a h1a h2a h3a h4a h5a
 generalize (w1.alloc (ze #[zg false,zg false,zg true,zg false,zg true,zg true] 288)).drewN nq=wr at hBr c0r c1r c2r c3r c4r c5r c6r c7r s0r s1r s2r s3r s4r s5r s6r s7r s8r h0r h1r h2r h3r h4r h5r ⊢
 go_wp2_with fail
 refine (K2.o _ _ _).mono ?_
 rintro e wz ⟨he,rfl⟩
 rcases he with ⟨hz,rfl⟩ | ⟨hz,rfl⟩
 rotate_left
 ·skip
  have HN:=nO N1 N2 N3 N4 N5 N6 hz
  clear hz
  unfold Az
  go_wp2_with fail
  exact ⟨rfl,Or.inr ⟨HN.o,1,by decide,rfl⟩,hBr⟩
 have HZ_1:=Aa hz
 clear hz
 go_wp2_with fail
 refine (K2.o _ _ _).mono ?_
 rintro e wz ⟨he,rfl⟩
 rcases he with ⟨hz,rfl⟩ | ⟨hz,rfl⟩
 rotate_left
 ·skip
  have HN:=nO N1 N2 N3 N4 N5 N6 hz
  clear hz
  unfold Az
  go_wp2_with fail
  exact ⟨rfl,Or.inr ⟨HN.o,1,by decide,rfl⟩,hBr⟩
 have HZ_2:=Aa hz
 clear hz
 go_wp2_with fail
 refine (K2.o _ _ _).mono ?_
 rintro e wz ⟨he,rfl⟩
 have he2:=orT he
 subst he2
 clear he
 go_wp2_with fail
 refine (K2.o _ _ _).mono ?_
 rintro e wz ⟨he,rfl⟩
 rcases he with ⟨hargs,rfl⟩ | ⟨hz,rfl⟩
 rotate_left
 ·skip
  have HN:=nO N1 N2 N3 N4 N5 N6 hz
  clear hz
  unfold Az
  go_wp2_with fail
  exact ⟨rfl,Or.inr ⟨HN.o,1,by decide,rfl⟩,hBr⟩
 have hal0:al=0:=by simp at hargs;omega
 subst hal0
 clear hargs
 go_wp2_with fail
 refine (K2.o _ _ _).mono ?_
 rintro e wz ⟨he,rfl⟩
 have he2:=orT he
 subst he2
 clear he
 go_wp2_with fail
 refine (K2.o _ _ _).mono ?_
 rintro e wz ⟨he,rfl⟩
 have he2:=orT he
 subst he2
 clear he
 go_wp2_with fail
 go_quiet ((go_at_call 172;exact Calls.quiet_of_same (BB _ _)))
 obtain ⟨c0q,c1q,c2q,c3q,c4q,c5q,c6q,c7q,s0q,s1q⟩:=CR (n:=nq) c0r c1r c2r c3r c4r c5r c6r c7r s0r s1r
 obtain ⟨s2q,s3q,s4q,s5q,s6q,s7q,s8q,h0q,h1q,h2q⟩:=CR (n:=nq) s2r s3r s4r s5r s6r s7r s8r h0r h1r h2r
 obtain ⟨h3q,h4q,h5q⟩:=cn3 (n:=nq) h3r h4r h5r
 have hBq:=below_drewN hBr nq
 clear c0r c1r c2r c3r c4r c5r c6r c7r s0r s1r s2r s3r s4r s5r s6r s7r s8r h0r h1r h2r h3r h4r h5r
 go_wp2_with fail
 refine (K5.o _ hBq).mono ?_
 rintro e w5 ⟨he,hb5⟩
 have hB5:=hBq.trans (hb5.mono hBq.size)
 rcases he with ⟨hex,rfl⟩ | ⟨hnex,why,hwhy,rfl⟩
 rotate_left
 ·have HN:=Aa (N3.o hnex)
  clear hnex
  unfold Az
  go_wp2_with fail
  exact ⟨rfl,Or.inr ⟨HN.o,why,hwhy,rfl⟩,hB5⟩
 obtain ⟨c05,c15,c25,c35,c45,c55,c65,c75,s05,s15⟩:=CA hb5 c0q c1q c2q c3q c4q c5q c6q c7q s0q s1q
 obtain ⟨s25,s35,s45,s55,s65,s75,s85,h05,h15,h25⟩:=CA hb5 s2q s3q s4q s5q s6q s7q s8q h0q h1q h2q
 obtain ⟨h35,h45,h55⟩:=co3 hb5 h3q h4q h5q
 have HEX:=Aa hex
 clear hex hb5 c0q c1q c2q c3q c4q c5q c6q c7q s0q s1q s2q s3q s4q s5q s6q s7q s8q h0q h1q h2q h3q h4q h5q
 go_wp2_with fail
 go_loopw [138] (fun i wr=>i=U zd 0/\Ov w wr) (fun _ _=>0)
 case atStart=>exact ⟨rfl,hB5⟩
 case round=>
  obtain ⟨rfl,hB⟩:=hrel
  go_wp2_with fail
  go_end0
  refine ⟨Or.inl ⟨HQ.o ⟨?_,?_,?_,?_,?_,?_⟩,rfl⟩,hB⟩
  all_goals first | trivial | exact HVAR.o | exact HOT.o | exact HEX.o | exact ⟨HZ1.o,HZ2.o,HXL.o⟩ | (have hq:=HZ_1.o;simp at hq;omega) | (have hq:=HZ_2.o;simp at hq;omega) | omega
theorem PP (K k:Nat) (fs de das) (funcs:Int) (m:Int) (ga gn gc sa sn sc) (ya:Option Addr) (yn yc:Nat) (oa:Option Addr) (on oc:Nat) (va:Option Addr) (vn vc:Nat) (fa fn fc ba bn bc) (vr ot ek en:Int) (xa xl xc aa al ac ta tl tc ea el ec) (w:World) (hv:vn<=9223372036854775807) (i1:Cl vr) (i2:Cl ot) (h0f:0<=funcs) (h1f:funcs<=9223372036854775807) (hyl:yn<=9223372036854775807) (hol:on<=9223372036854775807)
  (hde:RX w K [U zd ek,U zd en,O xa xl xc] de) (hda:XS 3 (RX w K) w (O aa al ac) das) (hfs:Bm w K k (O fa fn fc) fs) (hff:funcs<=fs.length) :
  Calls Tryz.prog 220 #[zh #[U zd m,O ga gn gc,O sa sn sc,O ya yn yc,O oa on oc,O va vn vc,O fa fn fc,O ba bn bc],zh #[U zd 2,U zd vr,U zd ot,U zd ek,U zd en,O xa xl xc,O aa al ac,O ta tl tc,O ea el ec],U zd funcs] w (C8 ((0<=vr/\vr < vn)/\(0<=ot/\ot < funcs)/\(ek=0/\en=0/\xl=0)/\((∀ f,fs[ot.toNat]? = some f->f.ps.length=al)/\∀ a∈das,AV vn K a=0)/\(tl=0)/\(el=0)) w):=by
 obtain ⟨Q,hQ⟩:∃ Q:Prop,Q=((0<=vr/\vr < vn)/\(0<=ot/\ot < funcs)/\(ek=0/\en=0/\xl=0)/\((∀ f,fs[ot.toNat]? = some f->f.ps.length=al)/\∀ a∈das,AV vn K a=0)/\(tl=0)/\(el=0)):=⟨_,rfl⟩
 rw [<-hQ]
 have HQ:Hx (((0<=vr/\vr < vn)/\(0<=ot/\ot < funcs)/\(ek=0/\en=0/\xl=0)/\((∀ f,fs[ot.toNat]? = some f->f.ps.length=al)/\∀ a∈das,AV vn K a=0)/\(tl=0)/\(el=0))->Q):=Aa (fun p=>by rw [hQ];exact p)
 have N1:Hx (¬ (0<=vr/\vr < vn)->¬ Q):=Aa (fun h p=>by rw [hQ] at p;exact h p.1)
 have N2:Hx (¬ (0<=ot/\ot < funcs)->¬ Q):=Aa (fun h p=>by rw [hQ] at p;exact h p.2.1)
 have N3:Hx (¬ (ek=0/\en=0/\xl=0)->¬ Q):=Aa (fun h p=>by rw [hQ] at p;exact h p.2.2.1)
 have N4:Hx (¬ ((∀ f,fs[ot.toNat]? = some f->f.ps.length=al)/\∀ a∈das,AV vn K a=0)->¬ Q):=Aa (fun h p=>by rw [hQ] at p;exact h p.2.2.2.1)
 have N5:Hx (¬ (tl=0)->¬ Q):=Aa (fun h p=>by rw [hQ] at p;exact h p.2.2.2.2.1)
 have N6:Hx (¬ (el=0)->¬ Q):=Aa (fun h p=>by rw [hQ] at p;exact h p.2.2.2.2.2)
 clear hQ
 have K1:=Aa MN
 have K2:=Aa BN
 have K3:=Aa Be
 have K4:=Aa fun W=>Ca 2 funcs m ga gn gc sa sn sc ya yn yc oa on oc va vn vc fa fn fc ba bn bc W
 simp only [Int.reduceEq,if_true,if_false] at K4
 have K5:=Aa fun W (hB:Ov w W)=>B0 K m ga gn gc sa sn sc ya yn yc oa on oc va vn vc fa fn fc ba bn bc _ _ W (hde.over hB) hv
 have HF:=Aa hfs
 have HA:=Aa hda
 have hal:al<=9223372036854775807/\al=das.length:=⟨by obtain ⟨hm,ao,cap,he,-⟩:=hda;injection he with e1 e2 e3;rw [e2];exact hm,by obtain ⟨hm,ao,cap,he,-⟩:=hda;injection he⟩
 obtain ⟨hal,hale⟩:=hal
 have HAL:=Aa hale
 obtain ⟨i1,i1'⟩:=i1
 obtain ⟨i2,i2'⟩:=i2
 clear hde hda hfs hale
 obtain ⟨c0,c1,c2,c3,c4,c5,c6,c7⟩:=rc8 (FL w [U zd m,O ga gn gc,O sa sn sc,O ya yn yc,O oa on oc,O va vn vc,O fa fn fc,O ba bn bc] 184 (ze #[U zd 2,U zd vr,U zd ot,U zd ek,U zd en,O xa xl xc,O aa al ac,O ta tl tc,O ea el ec] 130))
 obtain ⟨s0,s1,s2,s3,s4,s5,s6,s7,s8⟩:=rc9 (GE w (ze #[U zd m,O ga gn gc,O sa sn sc,O ya yn yc,O oa on oc,O va vn vc,O fa fn fc,O ba bn bc] 184) [U zd 2,U zd vr,U zd ot,U zd ek,U zd en,O xa xl xc,O aa al ac,O ta tl tc,O ea el ec] 130)
 have hbel:Ov w ((w.alloc (ze #[U zd m,O ga gn gc,O sa sn sc,O ya yn yc,O oa on oc,O va vn vc,O fa fn fc,O ba bn bc] 184)).alloc (ze #[U zd 2,U zd vr,U zd ot,U zd ek,U zd en,O xa xl xc,O aa al ac,O ta tl tc,O ea el ec] 130)):=(bA w _).alloc (by simp) _
 go_enter Tryz.func220,Tryz.ntmps220
 go_wp2_with fail
 refine (K1.o _).mono ?_
 rintro e w1 ⟨rfl,hb1⟩
 have hB1:=hbel.trans (hb1.mono hbel.size)
 have hb2:=Ac hb1 (bA w1 (ze #[zg true,zg true,zg false,zg true,zg false,zg false] 288))
 have hB2:=hbel.trans (hb2.mono hbel.size)
 obtain ⟨c0a,c1a,c2a,c3a,c4a,c5a,c6a,c7a,s0a,s1a⟩:=CA hb2 c0 c1 c2 c3 c4 c5 c6 c7 s0 s1
 obtain ⟨s2a,s3a,s4a,s5a,s6a,s7a,s8a⟩:=co7 hb2 s2 s3 s4 s5 s6 s7 s8
 obtain ⟨h0a,h1a,h2a,h3a,h4a,h5a⟩:=rc6 (BR w1 [zg true,zg true,zg false,zg true,zg false,zg false] 288)
 clear hb1 hb2 hbel hB1 c0 c1 c2 c3 c4 c5 c6 c7 s0 s1 s2 s3 s4 s5 s6 s7 s8
 go_wp2_with fail
 refine (K2.o _ _ _).mono ?_
 rintro e wz ⟨he,rfl⟩
 have he2:=orT he
 subst he2
 clear he
 go_wp2_with fail
 refine (K3.o _ _ _).mono ?_
 rintro e wz ⟨rfl,rfl⟩
 go_wp2_with fail
 refine (K2.o _ _ _).mono ?_
 rintro e wz ⟨he,rfl⟩
 rcases he with ⟨hvar,rfl⟩ | ⟨hz,rfl⟩
 rotate_left
 ·skip
  have HN:=nO N1 N2 N3 N4 N5 N6 hz
  clear hz
  unfold Az
  go_wp2_with fail
  exact ⟨rfl,Or.inr ⟨HN.o,5,by decide,rfl⟩,hB2⟩
 have hvar2:0<=vr/\vr < vn:=by simpa using hvar
 have HVAR:=Aa hvar2
 clear hvar hvar2
 go_wp2_with fail
 have hr0:=Below.refl (w1.alloc (ze #[zg true,zg true,zg false,zg true,zg false,zg false] 288)).heap.size (w1.alloc (ze #[zg true,zg true,zg false,zg true,zg false,zg false] 288))
 obtain ⟨ob,hob⟩:=nm (decide (0<=ot/\ot < funcs))
 have K3o:=Aa fun W=>Be ot funcs W
 rw [<-hob] at K3o
 have HOB:=Aa hob
 clear hob
 cases ob with
 | false=>
  have HNO:=Aa (N2.o (by have hq:=HOB.o;simp at hq;omega))
  go_region_held2 (fun W=>W.cell? ⟨w.heap.size,0,none⟩=some (U zd m)/\W.cell? ⟨w.heap.size,1,none⟩=some (O ga gn gc)/\W.cell? ⟨w.heap.size,2,none⟩=some (O sa sn sc)/\W.cell? ⟨w.heap.size,3,none⟩=some (O ya yn yc)/\W.cell? ⟨w.heap.size,4,none⟩=some (O oa on oc)/\W.cell? ⟨w.heap.size,5,none⟩=some (O va vn vc)/\W.cell? ⟨w.heap.size,6,none⟩=some (O fa fn fc)/\W.cell? ⟨w.heap.size,7,none⟩=some (O ba bn bc)/\W.cell? ⟨w.heap.size+1,0,none⟩=some (U zd 2)/\W.cell? ⟨w.heap.size+1,2,none⟩=some (U zd ot)/\W.cell? ⟨w1.heap.size,1,none⟩=some (zg true)/\Ov (w1.alloc (ze #[zg true,zg true,zg false,zg true,zg false,zg false] 288)) W) (first | assumption | exact ⟨c0a,c1a,c2a,c3a,c4a,c5a,c6a,c7a,s0a,s2a,h1a,below_drewN hr0 1⟩ | exact Fi (by assumption) hbp | fail) (first | (go_at_call 244;refine (K4.o _).mono ?_;rintro e wp ⟨rfl,hbp⟩) | (go_at_call 173;refine (K3o.o _).mono ?_;rintro e wq ⟨rfl,rfl⟩) | (go_at_call 172;refine (K2.o false 5 _).mono ?_;rintro e wq ⟨he,rfl⟩;rcases he with ⟨hb,rfl⟩ | ⟨hb,rfl⟩;rotate_left;exact ⟨rfl,Or.inr ⟨HNO.o,5,by decide,rfl⟩,hB2.trans ((by assumption:_/\_/\_/\_/\_/\_/\_/\_/\_/\_/\_/\Below _ _ _).2.2.2.2.2.2.2.2.2.2.2.mono hB2.size)⟩;have hbad:=Aa hb;clear hb))
  exact absurd hbad.o (by simp)
 | true=>
  have hot:0<=ot/\ot < funcs:=by simpa using HOB.o.symm
  have HOT:=Aa hot
  clear hot
  go_region_held3 (fun W=>W.cell? ⟨w.heap.size,0,none⟩=some (U zd m)/\W.cell? ⟨w.heap.size,1,none⟩=some (O ga gn gc)/\W.cell? ⟨w.heap.size,2,none⟩=some (O sa sn sc)/\W.cell? ⟨w.heap.size,3,none⟩=some (O ya yn yc)/\W.cell? ⟨w.heap.size,4,none⟩=some (O oa on oc)/\W.cell? ⟨w.heap.size,5,none⟩=some (O va vn vc)/\W.cell? ⟨w.heap.size,6,none⟩=some (O fa fn fc)/\W.cell? ⟨w.heap.size,7,none⟩=some (O ba bn bc)/\W.cell? ⟨w.heap.size+1,0,none⟩=some (U zd 2)/\W.cell? ⟨w.heap.size+1,2,none⟩=some (U zd ot)/\W.cell? ⟨w1.heap.size,1,none⟩=some (zg true)/\Ov (w1.alloc (ze #[zg true,zg true,zg false,zg true,zg false,zg false] 288)) W) (first | assumption | exact ⟨c0a,c1a,c2a,c3a,c4a,c5a,c6a,c7a,s0a,s2a,h1a,below_drewN hr0 1⟩ | exact Fi (by assumption) hbp | fail) (first | (go_at_call 244;refine (K4.o _).mono ?_;rintro e wp ⟨rfl,hbp⟩) | (go_at_call 173;refine (K3o.o _).mono ?_;rintro e wq ⟨rfl,rfl⟩) | (go_at_call 172;refine (BB 5 _).mono ?_;rintro e wq ⟨rfl,rfl⟩))
  have hb2:=(by assumption:_/\_/\_/\_/\_/\_/\_/\_/\_/\_/\_/\Below _ _ _).2.2.2.2.2.2.2.2.2.2.2
  have hB3:=hB2.trans (hb2.mono hB2.size)
  obtain ⟨c0b,c1b,c2b,c3b,c4b,c5b,c6b,c7b,s0b,s1b⟩:=CA hb2 c0a c1a c2a c3a c4a c5a c6a c7a s0a s1a
  obtain ⟨s2b,s3b,s4b,s5b,s6b,s7b,s8b,h0b,h1b,h2b⟩:=CA hb2 s2a s3a s4a s5a s6a s7a s8a h0a h1a h2a
  obtain ⟨h3b,h4b,h5b⟩:=co3 hb2 h3a h4a h5a
  clear hb2 hB2 hr0 c0a c1a c2a c3a c4a c5a c6a c7a s0a s1a s2a s3a s4a s5a s6a s7a s8a h0a h1a h2a h3a h4a h5a
  go_wp2_with fail
  refine (K2.o _ _ _).mono ?_
  rintro e wz ⟨he,rfl⟩
  have he2:=orT he
  subst he2
  clear he
  go_wp2_with fail
  refine (K2.o _ _ _).mono ?_
  rintro e wz ⟨he,rfl⟩
  have he2:=orT he
  subst he2
  clear he
  by_cases z1:ek=0
  rotate_left
  ·have zb:(ek == 0)=false:=by simpa using z1
   have HN:=Aa (N3.o (by omega))
   go_wp2_with fail
   refine (K2.o _ _ _).mono ?_
   rintro e wz ⟨he,rfl⟩
   have he2:e=Az 1:=by
    rcases he with ⟨he,_⟩ | ⟨_,he⟩
    ·cases he
    ·exact he
   subst he2
   clear he
   unfold Az
   go_wp2_with fail
   exact ⟨rfl,Or.inr ⟨HN.o,1,by decide,rfl⟩,hB3⟩
  have zb1:(ek == 0)=true:=by simpa using z1
  have HZ1:=Aa z1
  clear z1
  by_cases z2:en=0
  rotate_left
  ·have zb:(en == 0)=false:=by simpa using z2
   have HN:=Aa (N3.o (by omega))
   go_wp2_with fail
   refine (K2.o _ _ _).mono ?_
   rintro e wz ⟨he,rfl⟩
   have he2:e=Az 1:=by
    rcases he with ⟨he,_⟩ | ⟨_,he⟩
    ·cases he
    ·exact he
   subst he2
   clear he
   unfold Az
   go_wp2_with fail
   exact ⟨rfl,Or.inr ⟨HN.o,1,by decide,rfl⟩,hB3⟩
  have zb2:(en == 0)=true:=by simpa using z2
  have HZ2:=Aa z2
  clear z2
  go_wp2_with fail
  refine (K2.o _ _ _).mono ?_
  rintro e wz ⟨he,rfl⟩
  rcases he with ⟨hz,rfl⟩ | ⟨hz,rfl⟩
  rotate_left
  ·skip
   have HN:=nO N1 N2 N3 N4 N5 N6 hz
   clear hz
   unfold Az
   go_wp2_with fail
   exact ⟨rfl,Or.inr ⟨HN.o,1,by decide,rfl⟩,hB3⟩
  have hxl0:xl=0:=by simp at hz;omega
  have HXL:=Aa hxl0
  clear hz hxl0
  go_wp2_with fail
  refine (K2.o _ _ _).mono ?_
  rintro e wz ⟨he,rfl⟩
  have he2:=orT he
  subst he2
  clear he
  go_wp2_with fail
  refine (K2.o _ _ _).mono ?_
  rintro e wz ⟨he,rfl⟩
  rcases he with ⟨hz,rfl⟩ | ⟨hz,rfl⟩
  rotate_left
  ·skip
   have HN:=nO N1 N2 N3 N4 N5 N6 hz
   clear hz
   unfold Az
   go_wp2_with fail
   exact ⟨rfl,Or.inr ⟨HN.o,1,by decide,rfl⟩,hB3⟩
  have HZ_1:=Aa hz
  clear hz
  go_wp2_with fail
  refine (K2.o _ _ _).mono ?_
  rintro e wz ⟨he,rfl⟩
  rcases he with ⟨hz,rfl⟩ | ⟨hz,rfl⟩
  rotate_left
  ·skip
   have HN:=nO N1 N2 N3 N4 N5 N6 hz
   clear hz
   unfold Az
   go_wp2_with fail
   exact ⟨rfl,Or.inr ⟨HN.o,1,by decide,rfl⟩,hB3⟩
  have HZ_2:=Aa hz
  clear hz
  go_wp2_with fail
  obtain ⟨hot0,hot1⟩:=HOT.o
  obtain ⟨hfl,fa',fc',hfe,hfc⟩:=HF.o
  injection hfe with e1 e2 e3
  subst e1 e2 e3
  obtain ⟨j,rfl⟩:∃ j:Nat,ot=(j:Int):=⟨ot.toNat,by omega⟩
  have hj:j < fs.length:=by omega
  have hfl':fs.length<=9223372036854775807:=hfl
  obtain ⟨b,off,rfl,hcl⟩:=hfc (by rintro rfl;simp at hj)
  obtain ⟨vP,vB,x0,x1,x2,p0,p1,p2,p3,p4,hps,hpl,-,-⟩:=hcl j hj
  obtain ⟨pa,pc,rfl,-⟩:=hps
  have hget:fs[j]? = some fs[j]:=List.getElem?_eq_getElem hj
  obtain ⟨fd,hfd⟩:=nm (fs[j])
  rw [<-hfd] at p0 hpl hget
  obtain ⟨pn,hpn⟩:=nm fd.ps.length
  rw [<-hpn] at p0
  have p0c:=Ab hB3 _ _ p0
  have hpl':pn<=9223372036854775807:=by rw [hpn];exact hpl.1
  have HPN:=Aa hpn
  have HGET:=Aa hget
  clear hfc hcl p0 p1 p2 p3 p4 hget hfd hpn hot0 hot1 hfl hpl
  by_cases hpe:al=pn
  rotate_left
  ·have HNP:=Aa (N4.o (fun hd=>hpe ((hd.1 fd (by simpa using HGET.o)).symm.trans HPN.o.symm)))
   have hpb:((al:Int) == (pn:Int))=false:=by simp;omega
   go_region_held2 (fun W=>W.cell? ⟨w.heap.size+1,0,none⟩=some (U zd 2)/\W.cell? ⟨w.heap.size+1,6,none⟩=some (O aa al ac)/\W.cell? ⟨w.heap.size,6,none⟩=some (O (some ⟨b,off,none⟩) fs.length fc)/\W.cell? ⟨w.heap.size+1,2,none⟩=some (U zd (j:Int))/\W.cell? ⟨b,off+j*5,none⟩=some (O pa pn pc)/\Ov w W) (first | assumption | exact ⟨s0b,s6b,c6b,s2b,p0c,below_drewN hB3 1⟩ | fail) (first | (go_at_call 172;refine (K2.o false 1 _).mono ?_;rintro e wq ⟨he,rfl⟩;rcases he with ⟨hb,rfl⟩ | ⟨hb,rfl⟩;rotate_left;exact ⟨rfl,Or.inr ⟨HNP.o,1,by decide,rfl⟩,(by assumption:_/\_/\_/\_/\_/\Below _ _ _).2.2.2.2.2⟩;have hbad:=Aa hb;clear hb))
   exact absurd hbad.o (by simp)
  subst hpe
  go_quiet ((go_at_call 172;exact Calls.quiet_of_same (BB _ _)))
  obtain ⟨c0q,c1q,c2q,c3q,c4q,c5q,c6q,c7q,s0q,s1q⟩:=CR (n:=nq) c0b c1b c2b c3b c4b c5b c6b c7b s0b s1b
  obtain ⟨s2q,s3q,s4q,s5q,s6q,s7q,s8q,h0q,h1q,h2q⟩:=CR (n:=nq) s2b s3b s4b s5b s6b s7b s8b h0b h1b h2b
  obtain ⟨h3q,h4q,h5q⟩:=cn3 (n:=nq) h3b h4b h5b
  have hBq:=below_drewN hB3 nq
  clear c0b c1b c2b c3b c4b c5b c6b c7b s0b s1b s2b s3b s4b s5b s6b s7b s8b h0b h1b h2b h3b h4b h5b p0c
  go_wp2_with fail
  have hda2:=HA.o
  obtain ⟨hdl,aa',ac',hde2,hdc⟩:=hda2
  injection hde2 with a1 a2 a3
  subst a1 a3
  have HDC:=Aa hdc
  clear hdc a2
  have hBB:=hBq
  go_loopw [138] (fun i wr=>∃ n:Nat,n<=al/\i=U zd n/\(∀ a∈das.take n,AV vn K a=0)/\(wr.cell? ⟨w.heap.size,0,none⟩=some (U zd m)/\wr.cell? ⟨w.heap.size,1,none⟩=some (O ga gn gc)/\wr.cell? ⟨w.heap.size,2,none⟩=some (O sa sn sc)/\wr.cell? ⟨w.heap.size,3,none⟩=some (O ya yn yc)/\wr.cell? ⟨w.heap.size,4,none⟩=some (O oa on oc)/\wr.cell? ⟨w.heap.size,5,none⟩=some (O va vn vc)/\wr.cell? ⟨w.heap.size,6,none⟩=some (O (some ⟨b,off,none⟩) fs.length fc)/\wr.cell? ⟨w.heap.size,7,none⟩=some (O ba bn bc))/\Ov w wr) (fun i _=>al - (intOf i).toNat)
  case atStart=>exact ⟨0,Nat.zero_le _,rfl,by simp,⟨c0q,c1q,c2q,c3q,c4q,c5q,c6q,c7q⟩,hBB⟩
  case round=>
   clear hBq hBB c0q c1q c2q c3q c4q c5q c6q c7q s0q s1q s2q s3q s4q s5q s6q s7q s8q h0q h1q h2q h3q h4q h5q
   obtain ⟨n,hn,rfl,hok,⟨d0,d1,d2,d3,d4,d5,d6,d7⟩,hB⟩:=hrel
   have HOK:=Aa hok
   clear hok
   by_cases hnl:n < al
   ·have hnd:n < das.length:=by have:=HAL.o;omega
    obtain ⟨bb,oo,rfl,hdcl⟩:=HDC.o (by rintro rfl;simp at hnd)
    obtain ⟨acs,hal3,hacs,har⟩:=hdcl n das[n] (List.getElem?_eq_getElem hnd)
    have htk:das.take (n+1)=das.take n++[das[n]]:=List.take_succ_eq_append_getElem hnd
    have HTK:=Aa htk
    have HMD:=Aa (List.getElem_mem hnd)
    obtain ⟨xa2,xc2,hxf⟩:=har.form
    obtain ⟨dn,hdn⟩:=nm (das[n])
    rw [<-hdn] at har hxf HTK HMD
    subst hxf
    obtain ⟨ek2,hek2⟩:=nm (AM dn)
    obtain ⟨en2,hen2⟩:=nm (A8 dn)
    obtain ⟨xl2,hxl2⟩:=nm ((A0 dn).length)
    rw [<-hek2,<-hen2,<-hxl2] at har hacs
    have g0:wr.cell? ⟨bb,oo+n*3,none⟩=_:=Ab hB _ _ (hacs 0 _ rfl)
    have g1:=Ab hB _ _ (hacs 1 _ rfl)
    have g2:=Ab hB _ _ (hacs 2 _ rfl)
    have hba:=bA wr (ze #[U zd ek2,U zd en2,O xa2 xl2 xc2] 94)
    have hBa:=hB.trans (hba.mono hB.size)
    have K6:=Aa (B0 K m ga gn gc sa sn sc ya yn yc oa on oc va vn vc (some ⟨b,off,none⟩) fs.length fc ba bn bc _ dn _ (har.over hBa) hv)
    obtain ⟨f0,f1,f2,f3,f4,f5,f6,f7⟩:=co8 hba d0 d1 d2 d3 d4 d5 d6 d7
    clear hacs hdcl hal3 htk hdn hek2 hen2 hxl2 har
    go_wp2_with fail
    refine (K6.o).mono ?_
    rintro e w6 ⟨he,hb6⟩
    have hB6:=hBa.trans (hb6.mono hBa.size)
    rcases he with ⟨hex,rfl⟩ | ⟨hnex,why,hwhy,rfl⟩
    rotate_left
    ·have HN:=Aa (N4.o (fun hd=>hnex (hd.2 _ HMD.o)))
     clear hnex
     unfold Az
     go_wp2_with fail
     exact ⟨rfl,Or.inr ⟨HN.o,why,hwhy,rfl⟩,hB6⟩
    obtain ⟨t0,t1,t2,t3,t4,t5,t6,t7⟩:=co8 hb6 f0 f1 f2 f3 f4 f5 f6 f7
    have hnext:∀ a∈das.take (n+1),AV vn K a=0:=fun a ha=>by
     rw [HTK.o,List.mem_append,List.mem_singleton] at ha
     rcases ha with ha | rfl
     ·exact HOK.o a ha
     ·exact hex
    have HNX:=Aa hnext
    clear hnext hex hb6 hBa hba hB K6 d0 f0 d1 f1 d2 f2 d3 f3 d4 f4 d5 f5 d6 f6 d7 f7 g0 g1 g2
    go_wp2_with fail
    exact ⟨⟨n+1,by omega,by go_num,HNX.o,⟨t0,t1,t2,t3,t4,t5,t6,t7⟩,hB6⟩,by simp [intOf];omega⟩
   ·have hall:das.take n=das:=List.take_of_length_le (by have:=HAL.o;omega)
    have hok2:=HOK.o
    rw [hall] at hok2
    have HOK2:=Aa hok2
    clear hok2 hall
    go_wp2_with fail
    go_end0
    refine ⟨Or.inl ⟨HQ.o ⟨HVAR.o,HOT.o,⟨HZ1.o,HZ2.o,HXL.o⟩,⟨fun f hf=>?_,HOK2.o⟩,?_,?_⟩,rfl⟩,hB⟩
    rotate_left
    ·have hq:=HZ_1.o;simp at hq;omega
    ·have hq:=HZ_2.o;simp at hq;omega
    have h1:=HGET.o
    simp only [Int.toNat_natCast] at hf
    rw [h1] at hf
    rw [<-Option.some.inj hf]
    exact HPN.o.symm
def QN (d:D):Prop:=
 ((Ag d=4\/Ag d=7\/Ag d=8)->Ar d=0)/\((Ag d=1\/Ag d=5\/Ag d=6\/Ag d=7\/Ag d=8)->Ae d=0)/\((Ag d=2\/Ag d=3)->A8 (Aw d)=0)/\(Ag d≠2->Ah d=[])/\((Ag d≠7/\Ag d≠8)->Am d=[])/\(Ag d≠7->An d=[])
def xS1 (K:Nat) (nv ni no:Nat) (funcs:Int) (fs:List FnD) (d:D):Prop:=Ct K nv ni no funcs fs d/\QN d
def xS (K:Nat) (nv ni no:Nat) (funcs:Int) (fs:List FnD):Nat->D->Prop
 | 0,_=>False
 | k+1,d=>xS1 K nv ni no funcs fs d/\(∀ s∈Am d,xS K nv ni no funcs fs k s)/\∀ s∈An d,xS K nv ni no funcs fs k s
theorem xS.ok {K nv ni no:Nat} {funcs:Int} {fs:List FnD}:∀ {k:Nat} {d:D},xS K nv ni no funcs fs k d->okS K nv ni no funcs fs k d
 | 0,_,h=>h
 | k+1,d,h=>⟨h.1.1,fun s hs=>xS.ok (h.2.1 s hs),fun s hs=>xS.ok (h.2.2 s hs)⟩
theorem I6 {α:Type} {l:List α}:l.length=0 ↔ l=[]:=List.length_eq_zero_iff
theorem MC (kd:Int) (hk:¬ (1<=kd/\kd<=8)) (funcs:Int) (m:Int) (ga gn gc sa sn sc ya yn yc oa on oc va vn vc fa fn fc ba bn bc) (vr ot ek en:Int) (xa xl xc aa al ac ta tl tc ea el ec) (w:World) :
  Calls Tryz.prog 220 #[zh #[U zd m,O ga gn gc,O sa sn sc,O ya yn yc,O oa on oc,O va vn vc,O fa fn fc,O ba bn bc],zh #[U zd kd,U zd vr,U zd ot,U zd ek,U zd en,O xa xl xc,O aa al ac,O ta tl tc,O ea el ec],U zd funcs] w (C8 False w):=by
 have K1:=Aa (IJ kd hk)
 have K2:=Aa BN
 have hbel:Ov w ((w.alloc (ze #[U zd m,O ga gn gc,O sa sn sc,O ya yn yc,O oa on oc,O va vn vc,O fa fn fc,O ba bn bc] 184)).alloc (ze #[U zd kd,U zd vr,U zd ot,U zd ek,U zd en,O xa xl xc,O aa al ac,O ta tl tc,O ea el ec] 130)):=(bA w _).alloc (by simp) _
 clear hk
 go_enter Tryz.func220,Tryz.ntmps220
 go_wp2_with fail
 refine (K1.o _).mono ?_
 rintro e w1 ⟨rfl,hb1⟩
 have hB1:=hbel.trans (hb1.mono hbel.size)
 have hB2:=hB1.trans ((bA w1 (ze #[zg false,zg false,zg false,zg false,zg false,zg false] 288)).mono hB1.size)
 clear hb1 hbel
 go_wp2_with fail
 refine (K2.o _ _ _).mono ?_
 rintro e wz ⟨he,rfl⟩
 have he2:e=Az 7:=by
  rcases he with ⟨he,_⟩ | ⟨_,he⟩
  ·cases he
  ·exact he
 subst he2
 clear he
 unfold Az
 go_wp2_with fail
 exact ⟨rfl,Or.inr ⟨fun h=>h,7,by decide,rfl⟩,hB2⟩
theorem Jt (K k kf:Nat) (fs) (funcs:Int) (m:Int) (ga gn gc sa sn sc) (ya:Option Addr) (yn yc:Nat) (oa:Option Addr) (on oc:Nat) (va:Option Addr) (vn vc:Nat) (fa fn fc ba bn bc) (cs:List Value) (d) (w:World) (hv:vn<=9223372036854775807) (h0f:0<=funcs) (h1f:funcs<=9223372036854775807) (hyl:yn<=9223372036854775807) (hol:on<=9223372036854775807)
  (hs:RS w K (k+1) cs d) (hfs:Bm w K kf (O fa fn fc) fs) (hff:funcs<=fs.length) :
  Calls Tryz.prog 220 #[zh #[U zd m,O ga gn gc,O sa sn sc,O ya yn yc,O oa on oc,O va vn vc,O fa fn fc,O ba bn bc],.agg cs.toArray,U zd funcs] w (C8 (xS1 K vn yn on funcs fs d) w):=by
 obtain ⟨ek,en,xa,xl,xc,aa,ac,ta,tc,ea,ec,rfl,i0,i1,i2,hde,hda,-,-,hek,hen,hxl⟩:=hs.form
 unfold xS1 Ct QN
 by_cases hk:1<=Ag d/\Ag d<=8
 ·rcases (by omega:Ag d=1\/Ag d=2\/Ag d=3\/Ag d=4\/Ag d=5\/Ag d=6\/Ag d=7\/Ag d=8) with h | h | h | h | h | h | h | h
  ·have H:=PQ K kf fs (Aw d) (Ah d) funcs m ga gn gc sa sn sc ya yn yc oa on oc va vn vc fa fn fc ba bn bc (Ar d) (Ae d) ek en xa xl xc aa (Ah d).length ac ta (Am d).length tc ea (An d).length ec w hv i1 i2 h0f h1f hyl hol hde hda hfs hff
   have e:(sC (Ag d) (Ar d) (Ae d) ek en xa xl xc aa (Ah d).length ac ta (Am d).length tc ea (An d).length ec).toArray=#[U zd 1,U zd (Ar d),U zd (Ae d),U zd ek,U zd en,O xa xl xc,O aa (Ah d).length ac,O ta (Am d).length tc,O ea (An d).length ec]:=by rw [h]
   rw [e]
   exact H.mono fun e w' hg=>hg.imp (by simp only [I6,h];first | (constructor <;> (intro hp;simp at hp ⊢;simp_all)) | skip)
  ·have H:=PP K kf fs (Aw d) (Ah d) funcs m ga gn gc sa sn sc ya yn yc oa on oc va vn vc fa fn fc ba bn bc (Ar d) (Ae d) ek en xa xl xc aa (Ah d).length ac ta (Am d).length tc ea (An d).length ec w hv i1 i2 h0f h1f hyl hol hde hda hfs hff
   have e:(sC (Ag d) (Ar d) (Ae d) ek en xa xl xc aa (Ah d).length ac ta (Am d).length tc ea (An d).length ec).toArray=#[U zd 2,U zd (Ar d),U zd (Ae d),U zd ek,U zd en,O xa xl xc,O aa (Ah d).length ac,O ta (Am d).length tc,O ea (An d).length ec]:=by rw [h]
   rw [e]
   exact H.mono fun e w' hg=>hg.imp (by simp only [I6,hek,hen,hxl,h];first | (constructor <;> (intro hp;simp at hp ⊢;simp_all)) | skip)
  ·have H:=PO K kf fs (Aw d) (Ah d) funcs m ga gn gc sa sn sc ya yn yc oa on oc va vn vc fa fn fc ba bn bc (Ar d) (Ae d) ek en xa xl xc aa (Ah d).length ac ta (Am d).length tc ea (An d).length ec w hv i1 i2 h0f h1f hyl hol hde hda hfs hff
   have e:(sC (Ag d) (Ar d) (Ae d) ek en xa xl xc aa (Ah d).length ac ta (Am d).length tc ea (An d).length ec).toArray=#[U zd 3,U zd (Ar d),U zd (Ae d),U zd ek,U zd en,O xa xl xc,O aa (Ah d).length ac,O ta (Am d).length tc,O ea (An d).length ec]:=by rw [h]
   rw [e]
   exact H.mono fun e w' hg=>hg.imp (by simp only [I6,hek,hen,hxl,h];first | (constructor <;> (intro hp;simp at hp ⊢;simp_all)) | skip)
  ·have H:=PN K kf fs (Aw d) (Ah d) funcs m ga gn gc sa sn sc ya yn yc oa on oc va vn vc fa fn fc ba bn bc (Ar d) (Ae d) ek en xa xl xc aa (Ah d).length ac ta (Am d).length tc ea (An d).length ec w hv i1 i2 h0f h1f hyl hol hde hda hfs hff
   have e:(sC (Ag d) (Ar d) (Ae d) ek en xa xl xc aa (Ah d).length ac ta (Am d).length tc ea (An d).length ec).toArray=#[U zd 4,U zd (Ar d),U zd (Ae d),U zd ek,U zd en,O xa xl xc,O aa (Ah d).length ac,O ta (Am d).length tc,O ea (An d).length ec]:=by rw [h]
   rw [e]
   exact H.mono fun e w' hg=>hg.imp (by simp only [I6,h];first | (constructor <;> (intro hp;simp at hp ⊢;simp_all)) | skip)
  ·have H:=PM K kf fs (Aw d) (Ah d) funcs m ga gn gc sa sn sc ya yn yc oa on oc va vn vc fa fn fc ba bn bc (Ar d) (Ae d) ek en xa xl xc aa (Ah d).length ac ta (Am d).length tc ea (An d).length ec w hv i1 i2 h0f h1f hyl hol hde hda hfs hff
   have e:(sC (Ag d) (Ar d) (Ae d) ek en xa xl xc aa (Ah d).length ac ta (Am d).length tc ea (An d).length ec).toArray=#[U zd 5,U zd (Ar d),U zd (Ae d),U zd ek,U zd en,O xa xl xc,O aa (Ah d).length ac,O ta (Am d).length tc,O ea (An d).length ec]:=by rw [h]
   rw [e]
   exact H.mono fun e w' hg=>hg.imp (by simp only [I6,h];first | (constructor <;> (intro hp;simp at hp ⊢;simp_all)) | skip)
  ·have H:=PL K kf fs (Aw d) (Ah d) funcs m ga gn gc sa sn sc ya yn yc oa on oc va vn vc fa fn fc ba bn bc (Ar d) (Ae d) ek en xa xl xc aa (Ah d).length ac ta (Am d).length tc ea (An d).length ec w hv i1 i2 h0f h1f hyl hol hde hda hfs hff
   have e:(sC (Ag d) (Ar d) (Ae d) ek en xa xl xc aa (Ah d).length ac ta (Am d).length tc ea (An d).length ec).toArray=#[U zd 6,U zd (Ar d),U zd (Ae d),U zd ek,U zd en,O xa xl xc,O aa (Ah d).length ac,O ta (Am d).length tc,O ea (An d).length ec]:=by rw [h]
   rw [e]
   exact H.mono fun e w' hg=>hg.imp (by simp only [I6,h];first | (constructor <;> (intro hp;simp at hp ⊢;simp_all)) | skip)
  ·have H:=PK K kf fs (Aw d) (Ah d) funcs m ga gn gc sa sn sc ya yn yc oa on oc va vn vc fa fn fc ba bn bc (Ar d) (Ae d) ek en xa xl xc aa (Ah d).length ac ta (Am d).length tc ea (An d).length ec w hv i1 i2 h0f h1f hyl hol hde hda hfs hff
   have e:(sC (Ag d) (Ar d) (Ae d) ek en xa xl xc aa (Ah d).length ac ta (Am d).length tc ea (An d).length ec).toArray=#[U zd 7,U zd (Ar d),U zd (Ae d),U zd ek,U zd en,O xa xl xc,O aa (Ah d).length ac,O ta (Am d).length tc,O ea (An d).length ec]:=by rw [h]
   rw [e]
   exact H.mono fun e w' hg=>hg.imp (by simp only [I6,h];first | (constructor <;> (intro hp;simp at hp ⊢;simp_all)) | skip)
  ·have H:=PJ K kf fs (Aw d) (Ah d) funcs m ga gn gc sa sn sc ya yn yc oa on oc va vn vc fa fn fc ba bn bc (Ar d) (Ae d) ek en xa xl xc aa (Ah d).length ac ta (Am d).length tc ea (An d).length ec w hv i1 i2 h0f h1f hyl hol hde hda hfs hff
   have e:(sC (Ag d) (Ar d) (Ae d) ek en xa xl xc aa (Ah d).length ac ta (Am d).length tc ea (An d).length ec).toArray=#[U zd 8,U zd (Ar d),U zd (Ae d),U zd ek,U zd en,O xa xl xc,O aa (Ah d).length ac,O ta (Am d).length tc,O ea (An d).length ec]:=by rw [h]
   rw [e]
   exact H.mono fun e w' hg=>hg.imp (by simp only [I6,h];first | (constructor <;> (intro hp;simp at hp ⊢;simp_all)) | skip)
 ·exact (MC (Ag d) hk funcs m ga gn gc sa sn sc ya yn yc oa on oc va vn vc fa fn fc ba bn bc (Ar d) (Ae d) ek en xa xl xc aa (Ah d).length ac ta (Am d).length tc ea (An d).length ec w).mono fun e w' hg=>hg.imp ⟨fun hp=>hp.elim,fun hp=>hk hp.1.1⟩
theorem F2 (K kf:Nat) (fs:List FnD) (funcs:Int) (m:Int) (ga gn gc sa sn sc) (ya:Option Addr) (yn yc:Nat) (oa:Option Addr) (on oc:Nat) (va:Option Addr) (vn vc:Nat) (fa fn fc) (ba bn bc) (hv:vn<=9223372036854775807) (h0f:0<=funcs) (h1f:funcs<=9223372036854775807) (hyl:yn<=9223372036854775807) (hol:on<=9223372036854775807) (hff:funcs<=fs.length):∀ (k:Nat) (v:Value) (l:List D) (w:World),Bf w K k v l->Bm w K kf (O fa fn fc) fs ->
  Calls Tryz.prog 177 #[zh #[U zd m,O ga gn gc,O sa sn sc,O ya yn yc,O oa on oc,O va vn vc,O fa fn fc,O ba bn bc],v,U zd funcs] w (C8 (∀ s∈l,xS K vn yn on funcs fs k s) w):=by
 intro k
 induction k with
 | zero=>
  intro v l w h hf
  obtain rfl:=h.zero
  obtain ⟨-,ao,cap,rfl,-⟩:=h
  have hbel:Ov w (w.alloc (ze #[U zd m,O ga gn gc,O sa sn sc,O ya yn yc,O oa on oc,O va vn vc,O fa fn fc,O ba bn bc] 184)):=bA w _
  show Calls Tryz.prog 177 #[zh #[U zd m,O ga gn gc,O sa sn sc,O ya yn yc,O oa on oc,O va vn vc,O fa fn fc,O ba bn bc],O ao 0 cap,U zd funcs] w _
  clear hf
  go_enter Tryz.func177,Tryz.ntmps177
  go_wp2_with fail
  go_loopw [10] (fun i wr=>i=U zd 0/\Ov w wr) (fun _ _=>0)
  case atStart=>exact ⟨rfl,hbel⟩
  case round=>
   obtain ⟨rfl,hB⟩:=hrel
   go_wp2_with fail
   go_end0
   exact ⟨Or.inl ⟨by simp,rfl⟩,hB⟩
 | succ k ih=>
  intro v l w h hf
  have hlen:l.length<=9223372036854775807:=h.1
  obtain ⟨ao,cap,rfl,hc⟩:=h.2
  have HC:=Aa hc
  have HF:=Aa hf
  have IH:=Aa ih
  have KS:=Aa fun cs d W (hs:RS W K (k+1) cs d) (hfs:Bm W K (max kf (k+1)) (O fa fn fc) fs)=>Jt K k (max kf (k+1)) fs funcs m ga gn gc sa sn sc ya yn yc oa on oc va vn vc fa fn fc ba bn bc cs d W hv h0f h1f hyl hol hs hfs hff
  clear hc ih h hf
  have hbel:Ov w (w.alloc (ze #[U zd m,O ga gn gc,O sa sn sc,O ya yn yc,O oa on oc,O va vn vc,O fa fn fc,O ba bn bc] 184)):=bA w _
  obtain ⟨c0,c1,c2,c3,c4,c5,c6,c7⟩:=rc8 (BR w [U zd m,O ga gn gc,O sa sn sc,O ya yn yc,O oa on oc,O va vn vc,O fa fn fc,O ba bn bc] 184)
  go_enter Tryz.func177,Tryz.ntmps177
  go_wp2_with fail
  go_loopw [10] (fun i wr=>∃ j:Nat,j<=l.length/\i=U zd j/\(∀ s∈l.take j,xS K vn yn on funcs fs (k+1) s)/\(wr.cell? ⟨w.heap.size,0,none⟩=some (U zd m)/\wr.cell? ⟨w.heap.size,1,none⟩=some (O ga gn gc)/\wr.cell? ⟨w.heap.size,2,none⟩=some (O sa sn sc)/\wr.cell? ⟨w.heap.size,3,none⟩=some (O ya yn yc)/\wr.cell? ⟨w.heap.size,4,none⟩=some (O oa on oc)/\wr.cell? ⟨w.heap.size,5,none⟩=some (O va vn vc)/\wr.cell? ⟨w.heap.size,6,none⟩=some (O fa fn fc)/\wr.cell? ⟨w.heap.size,7,none⟩=some (O ba bn bc))/\Ov w wr) (fun i _=>l.length - (intOf i).toNat)
  case atStart=>exact ⟨0,Nat.zero_le _,rfl,by simp,⟨c0,c1,c2,c3,c4,c5,c6,c7⟩,hbel⟩
  case round=>
   clear c0 c1 c2 c3 c4 c5 c6 c7 hbel
   obtain ⟨j,hj,rfl,hok,⟨c0,c1,c2,c3,c4,c5,c6,c7⟩,hB⟩:=hrel
   have HOK:=Aa hok
   clear hok
   by_cases hjl:j < l.length
   ·obtain ⟨b,off,rfl,hcl⟩:=HC.o (by rintro rfl;simp at hjl)
    obtain ⟨cs,hl9,hcs,hr⟩:=hcl j l[j] (List.getElem?_eq_getElem hjl)
    have htk:l.take (j+1)=l.take j++[l[j]]:=List.take_succ_eq_append_getElem hjl
    obtain ⟨d,hd⟩:=nm (l[j])
    have hmd:=List.getElem_mem hjl
    rw [<-hd] at hr htk hmd
    have HMD:=Aa hmd
    clear hmd
    have HTK:=Aa htk
    obtain ⟨ek,en,xa,xl,xc,aa,ac,ta,tc,ea,ec,hcse,-,-,-,-,-,hT,hE,-,-,-⟩:=hr.form
    subst hcse
    obtain ⟨kd,hkd⟩:=nm (Ag d)
    obtain ⟨vr,hvr⟩:=nm (Ar d)
    obtain ⟨ot,hot⟩:=nm (Ae d)
    obtain ⟨al,hal⟩:=nm ((Ah d).length)
    obtain ⟨tl,htl⟩:=nm ((Am d).length)
    obtain ⟨el,hel⟩:=nm ((An d).length)
    rw [<-hkd,<-hvr,<-hot,<-hal,<-htl,<-hel] at hcs hr
    rw [<-htl] at hT
    rw [<-hel] at hE
    have q0:wr.cell? ⟨b,off+j*9,none⟩=_:=Ab hB _ _ (hcs 0 _ rfl)
    have q1:=Ab hB _ _ (hcs 1 _ rfl)
    have q2:=Ab hB _ _ (hcs 2 _ rfl)
    have q3:=Ab hB _ _ (hcs 3 _ rfl)
    have q4:=Ab hB _ _ (hcs 4 _ rfl)
    have q5:=Ab hB _ _ (hcs 5 _ rfl)
    have q6:=Ab hB _ _ (hcs 6 _ rfl)
    have q7:=Ab hB _ _ (hcs 7 _ rfl)
    have q8:=Ab hB _ _ (hcs 8 _ rfl)
    have hba:Ov wr (wr.alloc (ze #[U zd kd,U zd vr,U zd ot,U zd ek,U zd en,O xa xl xc,O aa al ac,O ta tl tc,O ea el ec] 130)):=bA wr _
    have hBa:=hB.trans (hba.mono hB.size)
    obtain ⟨f0,f1,f2,f3,f4,f5,f6,f7⟩:=co8 hba c0 c1 c2 c3 c4 c5 c6 c7
    obtain ⟨s0,s1,s2,s3,s4,s5,s6,s7,s8⟩:=rc9 (BR wr [U zd kd,U zd vr,U zd ot,U zd ek,U zd en,O xa xl xc,O aa al ac,O ta tl tc,O ea el ec] 130)
    have K1:=Aa (KS.o _ d _ (RS.mono (Ab hBa) (k+1) (k+1) _ d (Nat.le_refl _) hr) ((HF.o.over hBa).mono (Nat.le_max_left _ _)))
    have K2:=Aa fun W (hW:Ov w W)=>IH.o (O ta tl tc) (Am d) W (hT.over hW) (HF.o.over hW)
    have K3:=Aa fun W (hW:Ov w W)=>IH.o (O ea el ec) (An d) W (hE.over hW) (HF.o.over hW)
    clear hT hE hcs hcl hr hl9 hkd hvr hot hal htl hel hd htk
    go_wp2_with fail
    refine (K1.o).mono ?_
    rintro e w1 ⟨he,hb1⟩
    have hB1:=hBa.trans (hb1.mono hBa.size)
    rcases he with ⟨hp1,rfl⟩ | ⟨hnp,why,hwhy,rfl⟩
    rotate_left
    ·have HN:=Aa (fun hall:∀ s∈l,xS K vn yn on funcs fs (k+1) s=>hnp (hall d HMD.o).1)
     clear hnp
     unfold Az
     go_wp2_with fail
     exact ⟨rfl,Or.inr ⟨HN.o,why,hwhy,rfl⟩,hB1⟩
    have HP1:=Aa hp1
    obtain ⟨t7,t8,g0,g1,g2,g3,g4,g5,g6,g7⟩:=CA hb1 s7 s8 f0 f1 f2 f3 f4 f5 f6 f7
    have K2':=Aa (K2.o w1 hB1)
    clear K1 K2 hp1 hb1 hBa hba hB c0 c1 c2 c3 c4 c5 c6 c7 f0 f1 f2 f3 f4 f5 f6 f7 q0 q1 q2 q3 q4 q5 q6 q7 q8 s0 s1 s2 s3 s4 s5 s6 s7 s8
    go_wp2_with fail
    refine (K2'.o).mono ?_
    rintro e w2 ⟨he,hb2⟩
    have hB2:=hB1.trans (hb2.mono hB1.size)
    rcases he with ⟨hp2,rfl⟩ | ⟨hnp,why,hwhy,rfl⟩
    rotate_left
    ·have HN:=Aa (fun hall:∀ s∈l,xS K vn yn on funcs fs (k+1) s=>hnp (hall d HMD.o).2.1)
     clear hnp
     unfold Az
     go_wp2_with fail
     exact ⟨rfl,Or.inr ⟨HN.o,why,hwhy,rfl⟩,hB2⟩
    have HP2:=Aa hp2
    obtain ⟨u8,r0,r1,r2,r3,r4,r5,r6,r7⟩:=co9 hb2 t8 g0 g1 g2 g3 g4 g5 g6 g7
    have K3':=Aa (K3.o w2 hB2)
    clear K2' K3 hp2 hb2 hB1 g0 g1 g2 g3 g4 g5 g6 g7 t7 t8
    go_wp2_with fail
    refine (K3'.o).mono ?_
    rintro e w3 ⟨he,hb3⟩
    have hB3:=hB2.trans (hb3.mono hB2.size)
    rcases he with ⟨hp3,rfl⟩ | ⟨hnp,why,hwhy,rfl⟩
    rotate_left
    ·have HN:=Aa (fun hall:∀ s∈l,xS K vn yn on funcs fs (k+1) s=>hnp (hall d HMD.o).2.2)
     clear hnp
     unfold Az
     go_wp2_with fail
     exact ⟨rfl,Or.inr ⟨HN.o,why,hwhy,rfl⟩,hB3⟩
    obtain ⟨z0,z1,z2,z3,z4,z5,z6,z7⟩:=co8 hb3 r0 r1 r2 r3 r4 r5 r6 r7
    have hnext:∀ s∈l.take (j+1),xS K vn yn on funcs fs (k+1) s:=fun s hs=>by
     rw [HTK.o,List.mem_append,List.mem_singleton] at hs
     rcases hs with hs | rfl
     ·exact HOK.o s hs
     ·exact ⟨HP1.o,HP2.o,hp3⟩
    have HNX:=Aa hnext
    clear hnext hp3 K3' hb3 hB2 r0 r1 r2 r3 r4 r5 r6 r7 u8
    go_wp2_with fail
    exact ⟨⟨j+1,by omega,by go_num,HNX.o,⟨z0,z1,z2,z3,z4,z5,z6,z7⟩,hB3⟩,by simp [intOf];omega⟩
   ·have hall:l.take j=l:=List.take_of_length_le (by omega)
    have hok2:=HOK.o
    rw [hall] at hok2
    have HOK2:=Aa hok2
    clear hok2 hall
    go_wp2_with fail
    go_end0
    exact ⟨Or.inl ⟨HOK2.o,rfl⟩,hB⟩
theorem LR (vs) (x:Int) (v:Value) (w:World) (hv:A1 w v vs) (hl:vs.length<=9223372036854775807) :
  Calls Tryz.prog 242 #[v,U zd x] w fun e w'=>∃ r:Int,e=zj (U zd r)/\(-1<=r/\(0<=r ↔ x∈vs))/\∃ n,w'=w.drewN n:=by
 obtain ⟨ao,cap,rfl,hcc⟩:=hv
 have HCC:=Aa hcc
 clear hcc
 go_enter Tryz.func242,Tryz.ntmps242
 go_wp2_with fail
 go_loopw [8] (fun i wr=>∃ k:Nat,k<=vs.length/\i=U zd k/\Hx (x ∉ vs.take k)/\∃ n,wr=w.drewN n) (fun i _=>vs.length - (intOf i).toNat)
 case atStart=>exact ⟨0,Nat.zero_le _,rfl,Aa (by simp),0,rfl⟩
 case round=>
  obtain ⟨k,hk,rfl,HX,n,rfl⟩:=hrel
  by_cases hkl:k < vs.length
  ·obtain ⟨b,off,rfl,hcl⟩:=HCC.o (by rintro rfl;simp at hkl)
   have q0:=hcl k hkl
   obtain ⟨y,hy⟩:=nm (vs[k])
   rw [<-hy] at q0
   have HM:Hx (y∈vs):=Aa (by rw [hy];exact List.getElem_mem hkl)
   have HT:Hx (vs.take (k+1)=vs.take k++[y]):=Aa (by rw [hy];exact List.take_succ_eq_append_getElem hkl)
   clear hcl hy
   by_cases hxy:x=y
   ·subst hxy
    go_wp2_with fail
    go_ret
    exact ⟨(k:Int),rfl,⟨by omega,fun _=>HM.o,fun _=>by omega⟩,n,rfl⟩
   ·have hb:(x == y)=false:=by simpa using hxy
    have HX2:Hx (x ∉ vs.take (k+1)):=Aa (by rw [HT.o];simp [hxy];exact HX.o)
    go_wp2_with fail
    exact ⟨⟨k+1,by omega,by go_num,HX2,n,rfl⟩,by simp [intOf];omega⟩
  ·have HX2:Hx (x ∉ vs):=Aa (by have:=HX.o;rw [List.take_of_length_le (by omega)] at this;exact this)
   go_wp2_with fail
   go_ret
   exact ⟨-1,rfl,⟨by omega,fun h=>absurd h (by omega),fun h=>absurd h HX2.o⟩,n,rfl⟩
theorem EY (vs) (x:Int) (v:Value) (w:World) (hv:A1 w v vs) (hl:vs.length<=9223372036854775807) :
  Calls Tryz.prog 218 #[v,U zd x] w fun e w'=>e=zj (zg (decide (x∈vs)))/\∃ n,w'=w.drewN n:=by
 have HI:=Aa (LR vs x v w hv hl)
 obtain ⟨ao,cap,rfl,-⟩:=hv
 go_enter Tryz.func218,Tryz.ntmps218
 go_wp2_with fail
 refine (HI.o).mono ?_
 rintro e w1 ⟨r,rfl,hr,n,rfl⟩
 clear HI
 have HR:=Aa hr
 clear hr
 go_wp2_with fail
 go_ret
 refine ⟨?_,n,rfl⟩
 have:=HR.o
 by_cases h:x∈vs
 ·have h0:0<=r:=this.2.2 h
  simp [h,h0]
 ·have h0:¬ 0<=r:=fun hh=>h (this.2.1 hh)
  simp [h,h0]
def xF (K:Nat) (nv ni no:Nat) (ahead:Int) (fs:List FnD) (k:Nat) (f:FnD):Prop:=
 f.ps.length<=4/\(∀ p∈f.ps,0<=p/\p < nv)/\(∀ i (h:i < f.ps.length),f.ps[i] ∉ f.ps.take i)/\(∀ s∈f.body,xS K nv ni no ahead fs k s)/\AV nv K f.res=0
theorem xF.ok {K nv ni no:Nat} {ahead:Int} {fs:List FnD} {k:Nat} {f:FnD} (h:xF K nv ni no ahead fs k f):okF K nv ni no ahead fs k f:=⟨h.1,h.2.1,fun s hs=>(h.2.2.2.1 s hs).ok,h.2.2.2.2⟩
abbrev OP (w:World) (m:Int) (ga:Option Addr) (gn gc:Nat) (sa:Option Addr) (sn sc:Nat) (ya:Option Addr) (yn yc:Nat) (oa:Option Addr) (on oc:Nat) (va:Option Addr) (vn vc:Nat) (fa:Option Addr) (fn fc:Nat) (ba:Option Addr) (bn bc:Nat) (pa:Option Addr) (pn pc:Nat) (za:Option Addr) (zn zc:Nat) (ek en:Int) (xa:Option Addr) (xl xc:Nat) (Wz:World):Prop:=Wz.cell? ⟨w.heap.size,0,none⟩=some (U zd m)/\CE Wz w.heap.size 1 (O ga gn gc)/\CE Wz w.heap.size 2 (O sa sn sc)/\CE Wz w.heap.size 3 (O ya yn yc)/\CE Wz w.heap.size 4 (O oa on oc)/\CE Wz w.heap.size 5 (O va vn vc)/\CE Wz w.heap.size 6 (O fa fn fc)/\CE Wz w.heap.size 7 (O ba bn bc)/\CE Wz (w.heap.size+1) 0 (O pa pn pc)/\CE Wz (w.heap.size+1) 1 (O za zn zc)/\CE Wz (w.heap.size+1) 2 (U zd ek)/\CE Wz (w.heap.size+1) 3 (U zd en)/\CE Wz (w.heap.size+1) 4 (O xa xl xc)
theorem GP (K kf k:Nat) (fs:List FnD) (f:FnD) (funcs:Int) (m:Int) (ga gn gc sa sn sc) (ya:Option Addr) (yn yc:Nat) (oa:Option Addr) (on oc:Nat) (va:Option Addr) (vn vc:Nat) (fa fn fc ba bn bc pa pn pc za zn zc) (ek en:Int) (xa xl xc) (w:World)
  (hv:vn<=9223372036854775807) (h0f:0<=funcs) (h1f:funcs<=9223372036854775807) (hyl:yn<=9223372036854775807) (hol:on<=9223372036854775807) (hff:funcs<=fs.length)
  (hp:A1 w (O pa pn pc) f.ps) (hpl:f.ps.length<=maxLen) (hpc:pn<=pc/\pc<=maxLen) (hs:Bf w K k (O za zn zc) f.body) (hx:RX w K [U zd ek,U zd en,O xa xl xc] f.res) (hfs:Bm w K kf (O fa fn fc) fs) :
  Calls Tryz.prog 176 #[zh #[U zd m,O ga gn gc,O sa sn sc,O ya yn yc,O oa on oc,O va vn vc,O fa fn fc,O ba bn bc],zh #[O pa pn pc,O za zn zc,U zd ek,U zd en,O xa xl xc],U zd funcs] w (C8 (xF K vn yn on funcs fs k f) w):=by
 have K1:=Aa BN
 have K2:=Aa Be
 have KS:=Aa fun W (hB:Ov w W)=>F2 K kf fs funcs m ga gn gc sa sn sc ya yn yc oa on oc va vn vc fa fn fc ba bn bc hv h0f h1f hyl hol hff k (O za zn zc) f.body W (hs.over hB) (hfs.over hB)
 have KX:=Aa fun W (hB:Ov w W)=>B0 K m ga gn gc sa sn sc ya yn yc oa on oc va vn vc fa fn fc ba bn bc _ f.res W (hx.over hB) hv
 have KC:=Aa fun W (hB:Ov w W) (x:Int) (i:Nat) (hi:i<=pn) (c:Nat)=>EY (f.ps.take i) x (O pa i c) W
 have hpn:pn=f.ps.length:=by obtain ⟨a2,c2,he,-⟩:=hp;injection he
 have HP:=Aa hp
 have HPN:=Aa hpn
 have hpn2:pn<=9223372036854775807:=by rw [hpn];exact hpl
 obtain ⟨hpc1,hpc2⟩:=hpc
 have hpc3:pc<=9223372036854775807:=hpc2
 clear hp hpl hs hx hfs hpn hpc2
 have hbel:Ov w ((w.alloc (ze #[U zd m,O ga gn gc,O sa sn sc,O ya yn yc,O oa on oc,O va vn vc,O fa fn fc,O ba bn bc] 184)).alloc (ze #[O pa pn pc,O za zn zc,U zd ek,U zd en,O xa xl xc] 105)):=(bA w _).alloc (by simp) _
 obtain ⟨c0,c1,c2,c3,c4,c5,c6,c7⟩:=rc8 (FL w [U zd m,O ga gn gc,O sa sn sc,O ya yn yc,O oa on oc,O va vn vc,O fa fn fc,O ba bn bc] 184 (ze #[O pa pn pc,O za zn zc,U zd ek,U zd en,O xa xl xc] 105))
 obtain ⟨f0,f1,f2,f3,f4⟩:=rc5 (GE w (ze #[U zd m,O ga gn gc,O sa sn sc,O ya yn yc,O oa on oc,O va vn vc,O fa fn fc,O ba bn bc] 184) [O pa pn pc,O za zn zc,U zd ek,U zd en,O xa xl xc] 105)
 go_enter Tryz.func176,Tryz.ntmps176
 go_wp2_with fail
 refine (K1.o _ _ _).mono ?_
 rintro e wz ⟨he,rfl⟩
 rcases he with ⟨hz,rfl⟩ | ⟨hz,rfl⟩
 rotate_left
 ·have HN:Hx (¬ xF K vn yn on funcs fs k f):=Aa (fun hf=>absurd hf.1 (by rw [<-HPN.o];simp at hz;omega))
  clear hz
  unfold Az
  go_wp2_with fail
  exact ⟨rfl,Or.inr ⟨HN.o,2,by decide,rfl⟩,hbel⟩
 have hp4:pn<=4:=by simp at hz;omega
 have HP4:Hx (f.ps.length<=4):=by rw [<-HPN.o];exact hp4
 clear hz hp4
 go_wp2_with fail
 go_loopw [18] (fun i wr=>∃ n:Nat,n<=pn/\i=U zd n/\(∀ p∈f.ps.take n,0<=p/\p < (vn:Int))/\(OP w m ga gn gc sa sn sc ya yn yc oa on oc va vn vc fa fn fc ba bn bc pa pn pc za zn zc ek en xa xl xc wr)/\Ov w wr) (fun i _=>pn - (intOf i).toNat)
 case atStart=>exact ⟨0,Nat.zero_le _,rfl,by simp,⟨c0,c1,c2,c3,c4,c5,c6,c7,f0,f1,f2,f3,f4⟩,hbel⟩
 case round=>
  clear c0 c1 c2 c3 c4 c5 c6 c7 f0 f1 f2 f3 f4 hbel
  obtain ⟨n,hn,rfl,hok,⟨c0,c1,c2,c3,c4,c5,c6,c7,f0,f1,f2,f3,f4⟩,hB⟩:=hrel
  have HOK:=Aa hok
  clear hok
  by_cases hnl:n < pn
  ·have hnd:n < f.ps.length:=by rw [<-HPN.o];exact hnl
   obtain ⟨a2,kk2,he,hpc⟩:=HP.o
   injection he with e1 e2 e3
   subst e1
   obtain ⟨b,off,rfl,hel⟩:=hpc (by intro h;rw [h] at hnd;simp at hnd)
   have q:=Ab hB _ _ (hel n hnd)
   have htk:f.ps.take (n+1)=f.ps.take n++[f.ps[n]]:=List.take_succ_eq_append_getElem hnd
   obtain ⟨x,hx⟩:=nm (f.ps[n])
   have hmx:=List.getElem_mem hnd
   rw [<-hx] at q htk hmx
   have HTK:=Aa htk
   have HMX:=Aa hmx
   clear hmx
   clear hpc hel hx htk e2 e3
   go_wp2_with fail
   refine (K2.o _ _ _).mono ?_
   rintro e wz ⟨rfl,rfl⟩
   go_wp2_with fail
   refine (K1.o _ _ _).mono ?_
   rintro e wz ⟨he,rfl⟩
   rcases he with ⟨hvar,rfl⟩ | ⟨hz,rfl⟩
   rotate_left
   ·have HN:Hx (¬ xF K vn yn on funcs fs k f):=Aa (fun hf=>absurd (hf.2.1 x HMX.o) (by simp at hz;omega))
    clear hz
    unfold Az
    go_wp2_with fail
    exact ⟨rfl,Or.inr ⟨HN.o,5,by decide,rfl⟩,hB⟩
   have hv2:0<=x/\x < vn:=by simpa using hvar
   have hnx:∀ p∈f.ps.take (n+1),0<=p/\p < (vn:Int):=fun p hp=>by
    rw [HTK.o,List.mem_append,List.mem_singleton] at hp
    rcases hp with hp | rfl
    ·exact HOK.o p hp
    ·exact hv2
   have HNX:=Aa hnx
   clear hnx hv2 hvar
   go_wp2_with fail
   exact ⟨⟨n+1,by omega,by go_num,HNX.o,⟨c0,c1,c2,c3,c4,c5,c6,c7,f0,f1,f2,f3,f4⟩,hB⟩,by simp [intOf];omega⟩
  ·have hall:f.ps.take n=f.ps:=List.take_of_length_le (by rw [<-HPN.o];omega)
   have hok2:=HOK.o
   rw [hall] at hok2
   have HOK2:=Aa hok2
   clear hok2 hall HOK
   obtain ⟨w1,hw1⟩:=nm wr
   rw [<-hw1] at c0 c1 c2 c3 c4 c5 c6 c7 f0 f1 f2 f3 f4 hB ⊢
   clear hw1
   go_wp2_with fail
   go_loopw [33] (fun i wr=>∃ n:Nat,n<=pn/\i=U zd n/\Hx (∀ i (h:i < f.ps.length),i < n->f.ps[i] ∉ f.ps.take i)/\(OP w m ga gn gc sa sn sc ya yn yc oa on oc va vn vc fa fn fc ba bn bc pa pn pc za zn zc ek en xa xl xc wr)/\Ov w wr) (fun i _=>pn - (intOf i).toNat)
   case atStart=>exact ⟨0,Nat.zero_le _,rfl,Aa (fun i h hi=>absurd hi (by omega)),⟨c0,c1,c2,c3,c4,c5,c6,c7,f0,f1,f2,f3,f4⟩,hB⟩
   case round=>
    clear c0 c1 c2 c3 c4 c5 c6 c7 f0 f1 f2 f3 f4 hB
    obtain ⟨n,hn,rfl,HDI,⟨c0,c1,c2,c3,c4,c5,c6,c7,f0,f1,f2,f3,f4⟩,hB⟩:=hrel
    by_cases hnl:n < pn
    ·have hnd:n < f.ps.length:=by rw [<-HPN.o];exact hnl
     obtain ⟨a2,kk2,he,hpc⟩:=HP.o
     injection he with e1 e2 e3
     subst e1
     have hpre:=(HP.o.over hB)
     rw [HPN.o] at hpre
     have hpre2:=hpre.prefix (i:=n) (by omega) pc
     obtain ⟨b,off,rfl,hel⟩:=hpc (by intro h;rw [h] at hnd;simp at hnd)
     have q:=Ab hB _ _ (hel n hnd)
     obtain ⟨x,hx⟩:=nm (f.ps[n])
     rw [<-hx] at q
     have HXE:=Aa hx
     have HND:=Aa hnd
     have KC':=Aa (EY _ x _ _ hpre2 (by simp;omega))
     clear hpc hel hx e2 e3 hpre hpre2
     go_wp2_with fail
     refine (KC'.o).mono ?_
     rintro e w5 ⟨rfl,nd,rfl⟩
     obtain ⟨rb,hrb⟩:=nm (decide (x∈f.ps.take n))
     rw [<-hrb]
     have HRB:=Aa hrb
     clear hrb
     have hBd:=below_drewN hB nd
     go_wp2_with fail
     refine (K1.o _ _ _).mono ?_
     rintro e wz ⟨he,rfl⟩
     rcases he with ⟨hz,rfl⟩ | ⟨hz,rfl⟩
     rotate_left
     ·have HN:Hx (¬ xF K vn yn on funcs fs k f):=Aa (fun hf=>absurd (hf.2.2.1 n HND.o) (by rw [<-HXE.o];have hq:=HRB.o;simp at hz;rw [hz] at hq;simpa using hq))
      clear hz
      unfold Az
      go_wp2_with fail
      exact ⟨rfl,Or.inr ⟨HN.o,6,by decide,rfl⟩,hBd⟩
     have HDI2:Hx (∀ i (h:i < f.ps.length),i < n+1->f.ps[i] ∉ f.ps.take i):=Aa (fun i h hi=>by
      by_cases hin:i=n
      ·subst hin
       rw [<-HXE.o]
       have hq:=HRB.o
       simp at hz
       rw [hz] at hq
       simpa using hq
      ·exact HDI.o i h (by omega))
     clear hz
     go_wp2_with fail
     exact ⟨⟨n+1,by omega,by go_num,HDI2,⟨c0,c1,c2,c3,c4,c5,c6,c7,f0,f1,f2,f3,f4⟩,hBd⟩,by simp [intOf];omega⟩
    ·have HDI3:Hx (∀ i (h:i < f.ps.length),f.ps[i] ∉ f.ps.take i):=Aa (fun i h=>HDI.o i h (by have:=HPN.o;omega))
     have KS':=Aa (KS.o _ hB)
     go_wp2_with fail
     refine (KS'.o).mono ?_
     rintro e w6 ⟨he,hb6⟩
     have hB6:=hB.trans (hb6.mono hB.size)
     rcases he with ⟨hbd,rfl⟩ | ⟨hnb,why,hwhy,rfl⟩
     rotate_left
     ·have HN:Hx (¬ xF K vn yn on funcs fs k f):=Aa (fun hf=>hnb hf.2.2.2.1)
      clear hnb
      unfold Az
      go_wp2_with fail
      exact ⟨rfl,Or.inr ⟨HN.o,why,hwhy,rfl⟩,hB6⟩
     have HBD:=Aa hbd
     obtain ⟨r0,r1,r2,r3,r4,r5,r6,r7,g0,g1⟩:=CA hb6 c0 c1 c2 c3 c4 c5 c6 c7 f0 f1
     obtain ⟨g2,g3,g4⟩:=co3 hb6 f2 f3 f4
     have KX':=Aa (KX.o _ hB6)
     clear hbd hb6 hB c0 c1 c2 c3 c4 c5 c6 c7 f0 f1 f2 f3 f4 KS'
     go_wp2_with fail
     refine (KX'.o).mono ?_
     rintro e w7 ⟨he,hb7⟩
     have hB7:=hB6.trans (hb7.mono hB6.size)
     rcases he with ⟨hex,rfl⟩ | ⟨hnb,why,hwhy,rfl⟩
     rotate_left
     ·have HN:Hx (¬ xF K vn yn on funcs fs k f):=Aa (fun hf=>hnb hf.2.2.2.2)
      clear hnb
      unfold Az
      go_wp2_with fail
      exact ⟨rfl,Or.inr ⟨HN.o,why,hwhy,rfl⟩,hB7⟩
     have HEX:=Aa hex
     clear hex KX'
     go_wp2_with fail
     go_end0
     exact ⟨Or.inl ⟨⟨HP4.o,HOK2.o,HDI3.o,HBD.o,HEX.o⟩,rfl⟩,hB7⟩
abbrev Mb (w:World) (m:Int) (ga:Option Addr) (gn gc:Nat) (va:Option Addr) (vn vc:Nat) (Wz:World):Prop:=Wz.cell? ⟨w.heap.size,0,none⟩=some (U zd m)/\CE Wz w.heap.size 1 (O ga gn gc)/\CE Wz w.heap.size 5 (O va vn vc)
theorem I7 (m:Int) (ga gn gc) (sa sn sc) (ya yn yc oa on oc va vn vc) (fa fn fc ba bn bc gs ls ms vs) (w:World) (hg:AA w (O ga gn gc) gs) (h1:AY w (O ya yn yc) ls) (h2:AY w (O oa on oc) ms) (h3:Bk w (O va vn vc) vs)
  (hy:yn<=5) (ho:on<=5) (hyc:ya=none->yc=0) (hoc:oa=none->oc=0) :
  Calls Tryz.prog 174 #[zh #[U zd m,O ga gn gc,O sa sn sc,O ya yn yc,O oa on oc,O va vn vc,O fa fn fc,O ba bn bc]] w (C8 (EG m gs (ls++ms) vs) w):=by
 have hbel:Ov w ((w.alloc (ze #[U zd m,O ga gn gc,O sa sn sc,O ya yn yc,O oa on oc,O va vn vc,O fa fn fc,O ba bn bc] 184)).alloc (ze #[O ya yn yc,O oa on oc] 26)):=(bA w _).alloc (by simp) _
 have hrow:Ad [O ya yn yc,O oa on oc] ((w.alloc (ze #[U zd m,O ga gn gc,O sa sn sc,O ya yn yc,O oa on oc,O va vn vc,O fa fn fc,O ba bn bc] 184)).alloc (ze #[O ya yn yc,O oa on oc] 26)) (w.heap.size+1):=by
  have r:=Ad.new [O ya yn yc,O oa on oc] 26 (w.alloc (ze #[U zd m,O ga gn gc,O sa sn sc,O ya yn yc,O oa on oc,O va vn vc,O fa fn fc,O ba bn bc] 184))
  have hs:(w.alloc (ze #[U zd m,O ga gn gc,O sa sn sc,O ya yn yc,O oa on oc,O va vn vc,O fa fn fc,O ba bn bc] 184)).heap.size=w.heap.size+1:=by simp
  rw [hs] at r
  exact r
 have K1:=Aa (J3 (w.heap.size+1) ya yn yc oa on oc ls ms ((w.alloc (ze #[U zd m,O ga gn gc,O sa sn sc,O ya yn yc,O oa on oc,O va vn vc,O fa fn fc,O ba bn bc] 184)).alloc (ze #[O ya yn yc,O oa on oc] 26)) hrow (h1.over hbel) (h2.over hbel) hy ho hyc hoc)
 have KL:=Aa fun (bl:Lab) (pr pw:Value) (W:World) (hW:Ov w W) (hr:AJ W pr bl.r) (hw:AJ W pw bl.w)=>Il m (O ga gn gc) gs pr pw bl W (Af hg hW) hr hw
 have KP:=Aa F9
 have KM:=Aa BN
 have hvl:vn<=9223372036854775807:=by obtain ⟨hm,a,c,he,-⟩:=h3;injection he with e1 e2 e3;rw [e2];exact hm
 have hlen:(ls++ms).length<=10:=by
  obtain ⟨-,a,c,he,-⟩:=h1
  injection he with e1 e2 e3
  obtain ⟨-,a',c',he',-⟩:=h2
  injection he' with e1' e2' e3'
  simp
  omega
 have HV:=Aa h3
 have hvs:vn=vs.length:=by obtain ⟨hm,a,c,he,-⟩:=h3;injection he
 have HVS:=Aa hvs
 clear hvs
 have zr:=FL w [U zd m,O ga gn gc,O sa sn sc,O ya yn yc,O oa on oc,O va vn vc,O fa fn fc,O ba bn bc] 184 (ze #[O ya yn yc,O oa on oc] 26)
 have c0:=zr 0 _ rfl
 have c1:=zr 1 _ rfl
 have c3:=zr 3 _ rfl
 have c4:=zr 4 _ rfl
 have c5:=zr 5 _ rfl
 clear zr
 clear h1 h2 h3 hg hrow
 go_enter Tryz.func174,Tryz.ntmps174
 go_wp2_with fail
 refine (K1.o).mono ?_
 rintro e w1 ⟨v,xs,rfl,hown,hcl,hb1⟩
 have hB1:=hbel.trans (hb1.mono hbel.size)
 obtain ⟨d0,d1,d5⟩:=co3 hb1 c0 c1 c5
 obtain ⟨va',vn',vc',hvf⟩:∃ a n c,v=O a n c:=by
  rcases hown.2 with ⟨h,_⟩ | ⟨g,cap,cur,h,_⟩
  ·exact ⟨_,_,_,h⟩
  ·exact ⟨_,_,_,h⟩
 have hnn:vn'=(ls++ms).length:=by
  rcases hown.2 with ⟨h,h'⟩ | ⟨g,cap,cur,h,_⟩
  ·rw [hvf] at h;injection h with e1 e2 e3;omega
  ·rw [hvf] at h;injection h
 subst hvf
 have HO:=Aa hown
 have HCL:=Aa hcl
 have HNN:=Aa hnn
 have hn10:vn'<=10:=by rw [hnn];exact hlen
 clear hown hcl hnn hb1 c0 c1 c3 c4 c5 hbel K1
 go_wp2_with fail
 go_loopw [17] (fun i wr=>∃ n:Nat,n<=vn'/\i=U zd n/\(∀ b∈(ls++ms).take n,Bd m gs b=0)/\(Mb w m ga gn gc va vn vc wr)/\Ov w1 wr) (fun i _=>vn' - (intOf i).toNat)
 case atStart=>exact ⟨0,Nat.zero_le _,rfl,by simp,⟨d0,d1,d5⟩,Below.refl _ _⟩
 case round=>
  clear d0 d1 d5
  obtain ⟨n,hn,rfl,hok1,⟨d0,d1,d5⟩,hB⟩:=hrel
  have HOK1:=Aa hok1
  clear hok1
  have hBw:=hB1.trans (hB.mono hB1.size)
  by_cases hnl:n < vn'
  ·have hnd:n < (ls++ms).length:=by rw [<-HNN.o];exact hnl
   obtain ⟨pr,pw,e0,e1,hr,hw⟩:=HCL.o.at n hnd
   obtain ⟨g,cap,hgf,hgb,hgl,hgc⟩:=JD HO.o (by omega)
   have a0:=Ab hB _ _ (hgc _ _ e0)
   have a1:=Ab hB _ _ (hgc _ _ e1)
   rw [Addr.add_lit,Nat.zero_add] at a0 a1
   injection hgf with f1 f2 f3
   subst f1
   obtain ⟨ra,rn,rc,hrf⟩:=AB hr
   obtain ⟨wa,wn,wc,hwf⟩:=AB hw
   subst hrf hwf
   have hba:=bA wr (ze #[O ra rn rc,O wa wn wc] 39)
   have hBa:=hBw.trans (hba.mono hBw.size)
   have hB1a:=Ac hB hba
   have K2:=Aa (KL.o (ls++ms)[n] _ _ _ hBa (Aj hr hB1a) (Aj hw hB1a))
   obtain ⟨f0,f1,f5⟩:=co3 hba d0 d1 d5
   obtain ⟨cr,hcr⟩:=nm (Bd m gs (ls++ms)[n])
   rw [<-hcr] at K2
   have HCR:=Aa hcr
   clear hgc hr hw e0 e1 hcr f2 f3
   go_wp2_with fail
   refine (K2.o).mono ?_
   rintro e w2 ⟨rfl,hb2⟩
   have hB2:=Ac hB1a hb2
   have hBw2:=hB1.trans (hB2.mono hB1.size)
   obtain ⟨r0,r1,r5⟩:=co3 hb2 f0 f1 f5
   clear K2 hb2 hBa hB1a hba hB hBw a0 a1 d0 d1 d5 f0 f1 f5
   go_wp2_with fail
   refine (KP.o _ _).mono ?_
   rintro e wz ⟨he,rfl⟩
   rcases he with ⟨hz,rfl⟩ | ⟨hz,rfl⟩
   rotate_left
   ·have hz2:cr≠0:=by simpa using hz
    have HN:Hx (¬ EG m gs (ls++ms) vs):=Aa (fun h=>hz2 (HCR.o.trans (h.1 _ (List.getElem_mem hnd))))
    unfold Az
    go_wp2_with fail
    exact ⟨rfl,Or.inr ⟨HN.o,cr,hz2,rfl⟩,hBw2⟩
   have HZ:=Aa (show cr=0 by simpa using hz)
   clear hz
   go_wp2_with fail
   exact ⟨⟨n+1,by omega,by go_num,D9 hnd HOK1.o (HCR.o.symm.trans HZ.o),⟨r0,r1,r5⟩,hB2⟩,by simp [intOf];omega⟩
  ·obtain ⟨w2,hw2⟩:=nm wr
   rw [<-hw2] at d0 d1 d5 hBw ⊢
   have HALL1:=Aa (Ea (by rw [<-HNN.o];omega) HOK1.o)
   clear hw2 hB HO HCL HOK1
   go_wp2_with fail
   go_loopw [32] (fun i wr=>∃ n:Nat,n<=vn/\i=U zd n/\(∀ v∈vs.take n,Bd m gs v.2=0)/\(Mb w m ga gn gc va vn vc wr)/\Ov w2 wr) (fun i _=>vn - (intOf i).toNat)
   case atStart=>exact ⟨0,Nat.zero_le _,rfl,by simp,⟨d0,d1,d5⟩,Below.refl _ _⟩
   case round=>
    clear d0 d1 d5 hnl hn
    obtain ⟨n,hn,rfl,hok1,⟨d0,d1,d5⟩,hB⟩:=hrel
    have HOK1:=Aa hok1
    clear hok1
    have hBw3:=hBw.trans (hB.mono hBw.size)
    by_cases hnl:n < vn
    ·obtain ⟨-,ao,cap,he,hel⟩:=HV.o.over hBw3
     injection he with e1 e2 e3
     have hne:vs≠[]:=by intro h;rw [h] at e2;simp at e2;omega
     obtain ⟨b,off,hbo,hel2⟩:=hel hne
     have hnv:n < vs.length:=by omega
     obtain ⟨pr,pw,a0,a1,a2,hr,hw⟩:=hel2 n hnv
     have e1':=e1.trans hbo
     subst e1'
     obtain ⟨kn,hkn⟩:=nm (vs[n].1)
     obtain ⟨lb,hlb⟩:=nm (vs[n].2)
     rw [<-hkn] at a0
     rw [<-hlb] at hr hw
     obtain ⟨ra,rn,rc,hrf⟩:=AB hr
     obtain ⟨wa,wn,wc,hwf⟩:=AB hw
     subst hrf hwf
     have HLB:=Aa hlb
     clear hkn hlb hel hel2 e1 e2 e3 hbo
     have hba:=bA wr (ze #[zg kn,O ra rn rc,O wa wn wc] 41)
     have hBa:=hBw3.trans (hba.mono hBw3.size)
     have hB1a:=Ac hB hba
     have K2:=Aa (KL.o lb _ _ _ hBa (Aj hr hba) (Aj hw hba))
     obtain ⟨f0,f1,f5⟩:=co3 hba d0 d1 d5
     obtain ⟨cr,hcr⟩:=nm (Bd m gs lb)
     rw [<-hcr] at K2
     have HCR:=Aa hcr
     clear hr hw hcr
     go_wp2_with fail
     refine (K2.o).mono ?_
     rintro e w3 ⟨rfl,hb2⟩
     have hB2:=Ac hB1a hb2
     have hBw2:=hBw.trans (hB2.mono hBw.size)
     obtain ⟨r0,r1,r5⟩:=co3 hb2 f0 f1 f5
     clear K2 hb2 hBa hB1a hba hB hBw3 a0 a1 a2 d0 d1 d5 f0 f1 f5
     go_wp2_with fail
     refine (KP.o _ _).mono ?_
     rintro e wz ⟨he,rfl⟩
     rcases he with ⟨hz,rfl⟩ | ⟨hz,rfl⟩
     rotate_left
     ·have hz2:cr≠0:=by simpa using hz
      have HN:Hx (¬ EG m gs (ls++ms) vs):=Aa (fun h=>hz2 (HCR.o.trans (by rw [HLB.o];exact h.2.1 _ (List.getElem_mem hnv))))
      unfold Az
      go_wp2_with fail
      exact ⟨rfl,Or.inr ⟨HN.o,cr,hz2,rfl⟩,hBw2⟩
     have HZ:=Aa (show cr=0 by simpa using hz)
     clear hz
     go_wp2_with fail
     exact ⟨⟨n+1,by omega,by go_num,D9 hnv HOK1.o (by rw [<-HLB.o];exact HCR.o.symm.trans HZ.o),⟨r0,r1,r5⟩,hB2⟩,by simp [intOf];omega⟩
    ·obtain ⟨w3,hw3⟩:=nm wr
     rw [<-hw3] at d0 d1 d5 hBw3 ⊢
     have HALL2:=Aa (Ea (by rw [<-HVS.o];omega) HOK1.o)
     clear hw3 hB hBw HOK1
     go_wp2_with fail
     go_loopw [48] (fun i wr=>∃ n:Nat,n<=vn/\i=U zd n/\(∀ v∈vs.take n,v.1=false->v.2.r=[]/\v.2.w=[])/\(Mb w m ga gn gc va vn vc wr)/\Ov w3 wr) (fun i _=>vn - (intOf i).toNat)
     case atStart=>exact ⟨0,Nat.zero_le _,rfl,by simp,⟨d0,d1,d5⟩,Below.refl _ _⟩
     case round=>
      clear d0 d1 d5 hnl hn
      obtain ⟨n,hn,rfl,hok1,⟨d0,d1,d5⟩,hB⟩:=hrel
      have HOK1:=Aa hok1
      clear hok1
      have hBw:=hBw3.trans (hB.mono hBw3.size)
      by_cases hnl:n < vn
      ·obtain ⟨-,ao,cap,he,hel⟩:=HV.o.over hBw
       injection he with e1 e2 e3
       have hne:vs≠[]:=by intro h;rw [h] at e2;simp at e2;omega
       obtain ⟨b,off,hbo,hel2⟩:=hel hne
       have hnv:n < vs.length:=by omega
       obtain ⟨pr,pw,a0,a1,a2,hr,hw⟩:=hel2 n hnv
       have e1':=e1.trans hbo
       subst e1'
       obtain ⟨kn,hkn⟩:=nm (vs[n].1)
       rw [<-hkn] at a0
       obtain ⟨ra,rn,rc,hrf⟩:=AB hr
       obtain ⟨wa,wn,wc,hwf⟩:=AB hw
       subst hrf hwf
       have HKN:Hx (kn=vs[n].1/\rn=vs[n].2.r.length/\wn=vs[n].2.w.length):=⟨hkn,IQ hr,IQ hw⟩
       clear hkn hel hel2 e1 e2 e3 hbo hr hw
       have HA:Hx (∀ ob:Obj,(CE (wr.alloc ob) w.heap.size 0 (U zd m)/\CE (wr.alloc ob) w.heap.size 1 (O ga gn gc)/\CE (wr.alloc ob) w.heap.size 5 (O (some ⟨b,off,none⟩) vn vc))/\Ov w3 (wr.alloc ob)/\Ov w (wr.alloc ob)):=fun ob=>by
        have hba:=bA wr ob
        exact ⟨⟨Ab hba _ _ d0,Ab hba _ _ d1,Ab hba _ _ d5⟩,Ac hB hba,hBw.trans (hba.mono hBw.size)⟩
       clear KL KP d0 d1 d5 hB
       have HNX:Hx ((kn=false->rn=0/\wn=0)->∀ v∈vs.take (n+1),v.1=false->v.2.r=[]/\v.2.w=[]):=fun h=>D9 hnv HOK1.o fun h0=>by
        obtain ⟨h1,h2,h3⟩:=HKN.o
        have:=h (h1.trans h0)
        exact ⟨List.eq_nil_of_length_eq_zero (by omega),List.eq_nil_of_length_eq_zero (by omega)⟩
       have HNG:Hx (¬ (kn=false->rn=0/\wn=0)->¬ EG m gs (ls++ms) vs):=Aa (fun hn h=>hn fun hk=>by
        obtain ⟨h1,h2,h3⟩:=HKN.o
        obtain ⟨q1,q2⟩:=h.2.2 _ (List.getElem_mem hnv) (h1.symm.trans hk)
        rw [q1] at h2
        rw [q2] at h3
        exact ⟨h2,h3⟩)
       clear HKN HOK1
       cases kn
       all_goals go_wp2_with fail
       all_goals
        refine (KM.o _ _ _).mono ?_
        rintro e wz ⟨he,rfl⟩
        rcases he with ⟨hz,rfl⟩ | ⟨hz,rfl⟩
        ·have HZ:Hx (∀ v∈vs.take (n+1),v.1=false->v.2.r=[]/\v.2.w=[]):=HNX.o (by first | (intro h;cases h;done) | (intro _;simp at hz;done) | (intro _;simp at hz;omega) | (intro _;simp at *;omega))
         clear hz HNX HNG
         go_wp2_with fail
         exact ⟨⟨n+1,by omega,by go_num,HZ.o,(HA.o _).1,(HA.o _).2.1⟩,by simp [intOf];omega⟩
        ·have HN:Hx (¬ EG m gs (ls++ms) vs):=Aa (HNG.o (by first | (simp at hz;done) | (intro hh;have hq:=hh (by simp);simp at hz;omega)))
         clear hz HNX HNG
         unfold Az
         go_wp2_with fail
         exact ⟨rfl,Or.inr ⟨HN.o,1,by decide,rfl⟩,(HA.o _).2.2⟩
      ·go_wp2_with fail
       go_end0
       exact ⟨Or.inl ⟨⟨HALL1.o,HALL2.o,Ea (by rw [<-HVS.o];omega) HOK1.o⟩,rfl⟩,hBw⟩
def dpS:Nat->Int->D->Prop
 | 0,_,_=>False
 | k+1,deep,d=>deep<=6/\(∀ s∈Am d,dpS k (deep+1) s)/\∀ s∈An d,dpS k (deep+1) s
def dps (k:Nat) (deep:Int) (l:List D):Prop:=∀ s∈l,dpS k deep s
theorem Ij {k:Nat} {l:List D} (j:Nat):AH k (l.take j)<=AH k l:=by
 have h:AH k l=AH k (l.take j)+AH k (l.drop j):=by
  unfold AH
  rw [<-List.sum_append,<-List.map_append,List.take_append_drop]
 omega
def OO (dp:Prop) (many n:Int) (w:World) (e:Ending) (w':World):Prop:=((e=zj (U zd (many+n))/\many+n<=50/\dp)\/(¬ (many+n<=50/\dp)/\e=Az 2))/\Ov w w'
theorem LW (K:Nat):∀ (k:Nat) (v:Value) (l:List D) (deep many:Int) (w:World),Bf w K k v l->0<=deep->deep<=7->0<=many->many<=50 ->
  Calls Tryz.prog 217 #[v,U zd deep,U zd many] w (OO (dps k deep l) many (AH k l) w):=by
 intro k
 induction k with
 | zero=>
  intro v l deep many w h d0 d1 m0 m1
  obtain rfl:=h.zero
  obtain ⟨-,ao,cap,rfl,-⟩:=h
  have hz:many+((AH 0 []:Nat):Int)=many:=by simp [AH]
  show Calls Tryz.prog 217 #[O ao 0 cap,U zd deep,U zd many] w _
  go_enter Tryz.func217,Tryz.ntmps217
  go_wp2_with fail
  go_loopw [2,11] (fun c i wr=>c=U zd many/\i=U zd 0/\wr=w) (fun _ _ _=>0)
  case atStart=>exact ⟨rfl,rfl,rfl⟩
  case round=>
   obtain ⟨rfl,rfl,hw⟩:=hrel
   have hw':=hw.symm
   subst hw'
   clear hw
   go_wp2_with fail
   go_ret
   exact ⟨Or.inl ⟨by rw [hz];rfl,by rw [hz];exact m1,fun s hs=>absurd hs (by simp)⟩,Below.refl _ _⟩
 | succ k ih=>
  intro v l deep many w h d0 d1 m0 m1
  have HS:=Aa h
  have hlen:l.length<=9223372036854775807:=h.1
  obtain ⟨ao,cap,rfl,hc⟩:=h.2
  have HC:=Aa hc
  have IH:=Aa ih
  clear hc ih h
  have KM:=Aa BN
  go_enter Tryz.func217,Tryz.ntmps217
  go_wp2_with fail
  go_loopw [2,11] (fun c i wr=>∃ j:Nat,j<=l.length/\i=U zd j/\c=U zd (many+(AH (k+1) (l.take j):Nat))/\many+(AH (k+1) (l.take j):Nat)<=50/\Hx (dps (k+1) deep (l.take j))/\Ov w wr) (fun _ i _=>l.length - (intOf i).toNat)
  case atStart=>exact ⟨0,Nat.zero_le _,rfl,by simp [AH],by simp [AH];omega,Aa (fun s hs=>absurd hs (by simp)),Below.refl _ w⟩
  case round=>
   obtain ⟨j,hj,rfl,rfl,hle,HDP,hB⟩:=hrel
   by_cases hjl:j < l.length
   ·obtain ⟨b,off,rfl,hcl⟩:=HC.o (by rintro rfl;simp at hjl)
    obtain ⟨cs,hl9,hcs,hr⟩:=hcl j l[j] (List.getElem?_eq_getElem hjl)
    have htk:=Fo (k:=k+1) hjl
    have hcn:CQ (k+1) l[j]=1+AH k (Am l[j])+AH k (An l[j]):=rfl
    rw [hcn] at htk
    obtain ⟨d,hd⟩:=nm (l[j])
    have hmd:=List.getElem_mem hjl
    have htl2:l.take (j+1)=l.take j++[l[j]]:=List.take_succ_eq_append_getElem hjl
    have hle2:=Ij (k:=k+1) (l:=l) (j+1)
    rw [<-hd] at hr htk hmd htl2
    have HMD:=Aa hmd
    have HTL:=Aa htl2
    clear hmd htl2
    obtain ⟨ek,en,xa,xl,xc,aa,ac,ta,tc,ea,ec,hcse,-,-,-,-,-,hT,hE,-,-,-⟩:=hr.form
    subst hcse
    obtain ⟨M,hM⟩:∃ M:Int,M=many+(AH (k+1) (l.take j):Nat):=⟨_,rfl⟩
    rw [<-hM] at hle ⊢
    have hM0:0<=M:=by omega
    obtain ⟨n1,hn1⟩:∃ n:Nat,n=AH k (Am d):=⟨_,rfl⟩
    obtain ⟨n2,hn2⟩:∃ n:Nat,n=AH k (An d):=⟨_,rfl⟩
    rw [<-hn1,<-hn2] at htk
    have HTOT:Hx (M+1+(n1:Int)+n2<=many+(AH (k+1) l:Nat)):=Aa (by rw [hM];omega)
    have HTK:=Aa htk
    have HMM:=Aa hM
    clear htk hM hcn hle2
    obtain ⟨kd,hkd⟩:=nm (Ag d)
    obtain ⟨va,hva⟩:=nm (Ar d)
    obtain ⟨ot,hot⟩:=nm (Ae d)
    obtain ⟨al,hal⟩:=nm ((Ah d).length)
    obtain ⟨tl,htl⟩:=nm ((Am d).length)
    obtain ⟨el,hel⟩:=nm ((An d).length)
    rw [<-htl] at hT
    rw [<-hel] at hE
    rw [<-hkd,<-hva,<-hot,<-hal,<-htl,<-hel] at hcs
    have q0:wr.cell? ⟨b,off+j*9,none⟩=_:=Ab hB _ _ (hcs 0 _ rfl)
    have q1:=Ab hB _ _ (hcs 1 _ rfl)
    have q2:=Ab hB _ _ (hcs 2 _ rfl)
    have q3:=Ab hB _ _ (hcs 3 _ rfl)
    have q4:=Ab hB _ _ (hcs 4 _ rfl)
    have q5:=Ab hB _ _ (hcs 5 _ rfl)
    have q6:=Ab hB _ _ (hcs 6 _ rfl)
    have q7:=Ab hB _ _ (hcs 7 _ rfl)
    have q8:=Ab hB _ _ (hcs 8 _ rfl)
    have hba:Ov wr (wr.alloc (ze #[U zd kd,U zd va,U zd ot,U zd ek,U zd en,O xa xl xc,O aa al ac,O ta tl tc,O ea el ec] 130)):=bA wr _
    have hBa:=hB.trans (hba.mono hB.size)
    have hTa:=hT.over hBa
    have K1:=Aa fun (h1:M+1<=50) (h2:deep<=6)=>IH.o (O ta tl tc) (Am d) (deep+1) (M+1) _ hTa (by omega) (by omega) (by omega) h1
    have K2:=Aa fun W (hW:Ov w W) (mm:Int) (h0:0<=mm) (h1:mm<=50) (h2:deep<=6)=>IH.o (O ea el ec) (An d) (deep+1) mm W (hE.over hW) (by omega) (by omega) h0 h1
    rw [<-hn1] at K1
    rw [<-hn2] at K2
    have s8:(wr.alloc (ze #[U zd kd,U zd va,U zd ot,U zd ek,U zd en,O xa xl xc,O aa al ac,O ta tl tc,O ea el ec] 130)).cell? ⟨wr.heap.size,8,none⟩=some (O ea el ec):=by simp [go_sem]
    clear hT hE hTa hcs hcl hr hl9 hn1 hn2 hkd hva hot hal htl hel hd
    by_cases c1:M+1<=50/\deep<=6
    ·obtain ⟨c1,c2⟩:=c1
     have K1':=Aa (K1.o c1 c2)
     go_wp2_with fail
     refine (KM.o true 2 _).mono ?_
     rintro e wz ⟨he,rfl⟩
     have he2:=orT he
     subst he2
     clear he
     go_wp2_with fail
     refine (K1'.o).mono ?_
     rintro e w1 ⟨he,hb1⟩
     have hB1:=hBa.trans (hb1.mono hBa.size)
     rcases he with ⟨rfl,hm1,hdp1⟩ | ⟨hng,rfl⟩
     ·have HDP1:=Aa hdp1
      clear hdp1
      have t8:=Ab hb1 _ _ s8
      have hM1:0<=M+1+(n1:Int):=by omega
      obtain ⟨M1,hM1e⟩:=nm (M+1+(n1:Int))
      rw [<-hM1e] at hm1 hM1 ⊢
      have HME:=Aa hM1e
      clear hM1e
      have K2':=Aa (K2.o w1 hB1 M1 hM1 hm1 c2)
      clear K1 K2 K1' s8 hb1 hBa q0 q1 q2 q3 q4 q5 q6 q7 q8 hB hba
      go_wp2_with fail
      refine (K2'.o).mono ?_
      rintro e w2 ⟨he,hb2⟩
      have hB2:=hB1.trans (hb2.mono hB1.size)
      rcases he with ⟨rfl,hm2,hdp2⟩ | ⟨hng,rfl⟩
      ·have HDN:Hx (dps (k+1) deep (l.take (j+1))):=Aa (fun s hs=>by
        rw [HTL.o,List.mem_append,List.mem_singleton] at hs
        rcases hs with hs | rfl
        ·exact HDP.o s hs
        ·exact ⟨c2,HDP1.o,hdp2⟩)
       clear K2' t8 hb2 hB1 hdp2
       go_wp2_with fail
       refine ⟨⟨j+1,by omega,by go_num,?_,?_,HDN,hB2⟩,by simp [intOf];omega⟩
       ·rw [HTK.o]
        have:=HMM.o
        refine congrArg (Value.int IntKind.i64) ?_
        have h2:=HME.o
        push_cast
        omega
       ·rw [HTK.o]
        have:=HMM.o
        have h2:=HME.o
        push_cast
        omega
      ·have HN:Hx (¬ (many+(AH (k+1) l:Nat)<=50/\dps (k+1) deep l)):=Aa (fun hh=>hng ⟨by have h1:=HTOT.o;have h2:=HME.o;have h3:=hh.1;omega,(hh.2 d HMD.o).2.2⟩)
       clear hng
       unfold Az
       go_wp2_with fail
       exact ⟨rfl,Or.inr ⟨HN.o,rfl⟩,hB2⟩
     ·have HN:Hx (¬ (many+(AH (k+1) l:Nat)<=50/\dps (k+1) deep l)):=Aa (fun hh=>hng ⟨by have h1:=HTOT.o;have h3:=hh.1;omega,(hh.2 d HMD.o).2.1⟩)
      clear hng
      unfold Az
      go_wp2_with fail
      exact ⟨rfl,Or.inr ⟨HN.o,rfl⟩,hB1⟩
    ·clear K1 K2 s8
     by_cases c2:M+1<=50
     ·have c3:¬ deep<=6:=fun h=>c1 ⟨c2,h⟩
      clear c1
      have HN:Hx (¬ (many+(AH (k+1) l:Nat)<=50/\dps (k+1) deep l)):=Aa (fun hh=>c3 (hh.2 d HMD.o).1)
      go_wp2_with fail
      refine (KM.o false 2 _).mono ?_
      rintro e wz ⟨he,rfl⟩
      have he2:e=Az 2:=by
       rcases he with ⟨he,_⟩ | ⟨_,he⟩
       ·cases he
       ·exact he
      subst he2
      clear he
      unfold Az
      go_wp2_with fail
      exact ⟨rfl,Or.inr ⟨HN.o,rfl⟩,hBa⟩
     ·clear c1
      have HN:Hx (¬ (many+(AH (k+1) l:Nat)<=50/\dps (k+1) deep l)):=Aa (fun hh=>c2 (by have h1:=HTOT.o;have h3:=hh.1;omega))
      go_wp2_with fail
      refine (KM.o false 2 _).mono ?_
      rintro e wz ⟨he,rfl⟩
      have he2:e=Az 2:=by
       rcases he with ⟨he,_⟩ | ⟨_,he⟩
       ·cases he
       ·exact he
      subst he2
      clear he
      unfold Az
      go_wp2_with fail
      exact ⟨rfl,Or.inr ⟨HN.o,rfl⟩,hBa⟩
   ·have hd:l.take j=l:=List.take_of_length_le (by omega)
    rw [hd] at hle HDP ⊢
    go_wp2_with fail
    go_ret
    exact ⟨Or.inl ⟨rfl,hle,HDP.o⟩,hB⟩
theorem Ik {k:Nat} {l:List FnD} (j:Nat):A2 k (l.take j)<=A2 k l:=by
 have h:A2 k l=A2 k (l.take j)+A2 k (l.drop j):=by
  unfold A2
  rw [<-List.sum_append,<-List.map_append,List.take_append_drop]
 omega
def dpF (k:Nat) (fs:List FnD):Prop:=∀ f∈fs,dps k 1 f.body
def OK (dp:Prop) (n:Int) (w:World) (e:Ending) (w':World):Prop:=((e=zj (zk #[])/\n<=50/\dp)\/(¬ (n<=50/\dp)/\e=Az 2))/\Ov w w'
theorem JH (K k:Nat) (m:Int) (ga gn gc sa sn sc ya yn yc oa on oc va vn vc) (fa fn fc ba bn bc) (fs l) (w:World) (hf:Bm w K k (O fa fn fc) fs) (hl:Bf w K k (O ba bn bc) l) :
  Calls Tryz.prog 175 #[zh #[U zd m,O ga gn gc,O sa sn sc,O ya yn yc,O oa on oc,O va vn vc,O fa fn fc,O ba bn bc]] w (OK (dpF k fs/\dps k 1 l) ((A2 k fs:Nat)+(AH k l:Nat)) w):=by
 have zr:=BR w [U zd m,O ga gn gc,O sa sn sc,O ya yn yc,O oa on oc,O va vn vc,O fa fn fc,O ba bn bc] 184
 have c6:=zr 6 _ rfl
 have c7:=zr 7 _ rfl
 clear zr
 have hbel:Ov w (w.alloc (ze #[U zd m,O ga gn gc,O sa sn sc,O ya yn yc,O oa on oc,O va vn vc,O fa fn fc,O ba bn bc] 184)):=bA w _
 obtain ⟨hfl,fa',fc',hfe,hfc⟩:=hf
 injection hfe with e1 e2 e3
 subst e1 e2 e3
 have hfl':fs.length<=9223372036854775807:=hfl
 have HF:=Aa hfc
 have HM:=Aa hl
 clear hfc hl hfl
 have K1:=Aa (LW K)
 go_enter Tryz.func175,Tryz.ntmps175
 go_wp2_with fail
 go_loopw [2,9] (fun c i wr=>∃ j:Nat,j<=fs.length/\i=U zd j/\c=U zd (A2 k (fs.take j):Nat)/\((A2 k (fs.take j):Nat):Int)<=50/\Hx (dpF k (fs.take j))/\wr.cell? ⟨w.heap.size,7,none⟩=some (O ba bn bc)/\Ov w wr) (fun _ i _=>fs.length - (intOf i).toNat)
 case atStart=>exact ⟨0,Nat.zero_le _,rfl,by simp [A2],by simp [A2],Aa (fun s hs=>absurd hs (by simp)),c7,hbel⟩
 case round=>
  clear c6 c7 hbel
  obtain ⟨j,hj,rfl,rfl,hle,HDP,c7,hB⟩:=hrel
  by_cases hjl:j < fs.length
  ·obtain ⟨b,off,rfl,hcl⟩:=HF.o (by rintro rfl;simp at hjl)
   obtain ⟨vP,vB,x0,x1,x2,q0,q1,q2,q3,q4,hp,hpl,hs,hx⟩:=hcl j hjl
   obtain ⟨pa,pc,rfl,-⟩:=hp
   obtain ⟨za,zc,rfl,-⟩:=hs.2
   obtain ⟨xa,xc,hxf⟩:=hx.form
   simp only [List.cons.injEq,and_true] at hxf
   obtain ⟨rfl,rfl,rfl⟩:=hxf
   have htk:=Dm (k:=k) hjl
   obtain ⟨fd,hfd⟩:=nm (fs[j])
   have hmd:=List.getElem_mem hjl
   have htl2:fs.take (j+1)=fs.take j++[fs[j]]:=List.take_succ_eq_append_getElem hjl
   have hle2:=Ik (k:=k) (l:=fs) (j+1)
   rw [<-hfd] at q0 q1 q2 q3 q4 hs htk hmd htl2
   have HMD:=Aa hmd
   have HTL:=Aa htl2
   clear hmd htl2
   obtain ⟨M,hM⟩:∃ M:Nat,M=A2 k (fs.take j):=⟨_,rfl⟩
   rw [<-hM] at hle htk ⊢
   have HTK:=Aa htk
   have HTOT:Hx (M+AH k fd.body<=A2 k fs):=Aa (by rw [<-htk];exact hle2)
   have HFB:Hx (fd∈fs):=HMD
   clear htk hM hle2
   have r0:wr.cell? ⟨b,off+j*5,none⟩=_:=Ab hB _ _ q0
   obtain ⟨r1,r2,r3,r4⟩:=co4 hB q1 q2 q3 q4
   obtain ⟨pn,hpn⟩:=nm fd.ps.length
   obtain ⟨zn,hzn⟩:=nm fd.body.length
   obtain ⟨ek,hek⟩:=nm (AM fd.res)
   obtain ⟨en,hen⟩:=nm (A8 fd.res)
   obtain ⟨xl,hxl⟩:=nm ((A0 fd.res).length)
   rw [<-hpn] at r0
   rw [<-hzn] at r1 hs
   rw [<-hek] at r2
   rw [<-hen] at r3
   rw [<-hxl] at r4
   have hba:=bA wr (ze #[O pa pn pc,O za zn zc,U zd ek,U zd en,O xa xl xc] 105)
   have hBa:=hB.trans (hba.mono hB.size)
   have c7':=Ab hba _ _ c7
   have K1':=Aa (K1.o k _ _ 1 (M:Int) _ (hs.over hBa) (by omega) (by omega) (by omega) hle)
   obtain ⟨n1,hn1⟩:=nm (AH k fd.body)
   rw [<-hn1] at K1' HTK HTOT
   clear q0 q1 q2 q3 q4 hs hx hcl hfd hpn hzn hek hen hxl hn1 hpl
   go_wp2_with fail
   refine (K1'.o).mono ?_
   rintro e w1 ⟨he,hb1⟩
   have hB1:=hBa.trans (hb1.mono hBa.size)
   rcases he with ⟨rfl,hm1,hdp1⟩ | ⟨hng,rfl⟩
   ·have HDN:Hx (dpF k (fs.take (j+1))):=Aa (fun f hf=>by
     rw [HTL.o,List.mem_append,List.mem_singleton] at hf
     rcases hf with hf | rfl
     ·exact HDP.o f hf
     ·exact hdp1)
    clear hdp1
    have c7'':=Ab hb1 _ _ c7'
    clear K1' hb1 hBa hba hB r0 r1 r2 r3 r4 c7 c7'
    go_wp2_with fail
    refine ⟨⟨j+1,by omega,by go_num,?_,?_,HDN,c7'',hB1⟩,by simp [intOf];omega⟩
    ·rw [HTK.o]
     refine congrArg (Value.int IntKind.i64) ?_
     push_cast
     omega
    ·rw [HTK.o]
     push_cast
     omega
   ·have HN:Hx (¬ ((A2 k fs:Nat)+((AH k l:Nat):Int)<=50/\dpF k fs/\dps k 1 l)):=Aa (fun hh=>hng ⟨by have h1:=HTOT.o;have h3:=hh.1;omega,hh.2.1 fd HMD.o⟩)
    clear hng
    unfold Az
    go_wp2_with fail
    exact ⟨rfl,Or.inr ⟨HN.o,rfl⟩,hB1⟩
  ·have hd:fs.take j=fs:=List.take_of_length_le (by omega)
   rw [hd] at hle HDP ⊢
   have K1':=Aa (K1.o k _ _ 1 ((A2 k fs:Nat):Int) _ (HM.o.over hB) (by omega) (by omega) (by omega) hle)
   obtain ⟨M,hM⟩:∃ M:Nat,M=A2 k fs:=⟨_,rfl⟩
   rw [<-hM] at K1' hle ⊢
   have HMM:=Aa hM
   clear hM hd
   go_wp2_with fail
   refine (K1'.o).mono ?_
   rintro e w1 ⟨he,hb1⟩
   have hB1:=hB.trans (hb1.mono hB.size)
   rcases he with ⟨rfl,hm1,hdp1⟩ | ⟨hng,rfl⟩
   ·have hm2:((A2 k fs:Nat):Int)+(AH k l:Nat)<=50:=by rw [<-HMM.o];exact hm1
    have HM2:=Aa hm2
    have HD2:=Aa hdp1
    clear K1' hm2 hdp1
    go_wp2_with fail
    go_end0
    exact ⟨Or.inl ⟨rfl,HM2.o,HDP.o,HD2.o⟩,hB1⟩
   ·have HN:Hx (¬ ((A2 k fs:Nat)+((AH k l:Nat):Int)<=50/\dpF k fs/\dps k 1 l)):=Aa (fun hh=>hng ⟨by have h1:=HMM.o;have h3:=hh.1;omega,hh.2.2⟩)
    clear hng
    unfold Az
    go_wp2_with fail
    exact ⟨rfl,Or.inr ⟨HN.o,rfl⟩,hB1⟩
structure xP (K kf:Nat) (m:Int) (vn yn on sn:Nat) (gs:List (Int × Int)) (sp:List Int) (ls ms:List Lab) (vs:List (Bool × Lab)) (fs:List FnD) (l:List D):Prop where
 chk:AR m gs=0
 lim:(vn:Int)<=16/\(yn:Int)<=5/\(on:Int)<=5/\(fs.length:Int)<=5/\(sn:Int)<=m
 speak:∀ x∈sp,0<=x/\x < m
 labs:EG m gs (ls++ms) vs
 many:((A2 kf fs:Nat):Int)+(AH kf l:Nat)<=50/\dpF kf fs/\dps kf 1 l
 body:∀ i (h:i < fs.length),xF K vn yn on (i:Int) fs kf fs[i]
 main:∀ s∈l,xS K vn yn on (fs.length:Int) fs kf s
theorem xP.ok {K kf:Nat} {m:Int} {vn yn on sn:Nat} {gs:List (Int × Int)} {sp:List Int} {ls ms:List Lab} {vs:List (Bool × Lab)} {fs:List FnD} {l:List D} (h:xP K kf m vn yn on sn gs sp ls ms vs fs l):okP K kf m vn yn on gs sp ls ms vs fs l:=
 ⟨h.chk,h.speak,h.labs,by have:=h.lim;omega,by have:=h.lim;omega,by have:=h.lim;omega,by have:=h.lim;omega,by have:=h.many.1;omega,fun i hi=>(h.body i hi).ok,fun s hs=>(h.main s hs).ok⟩
theorem J5 (K kf:Nat) (m:Int) (ga gn gc sa sn sc ya yn yc oa on oc va vn vc fa fn fc ba bn bc gs sp ls ms vs fs l) (w:World) (h:BK K kf m ga gn gc sa sn sc ya yn yc oa on oc va vn vc fa fn fc ba bn bc gs sp ls ms vs fs l w) :
  Calls Tryz.prog 113 #[zh #[U zd m,O ga gn gc,O sa sn sc,O ya yn yc,O oa on oc,O va vn vc,O fa fn fc,O ba bn bc]] w (C8 (xP K kf m vn yn on sn gs sp ls ms vs fs l) w):=by
 have hfx:fn=fs.length:=by obtain ⟨-,a,c,he,-⟩:=h.funcs;injection he
 have HFX:=Aa hfx
 clear hfx
 have hbel:Ov w (w.alloc (ze #[U zd m,O ga gn gc,O sa sn sc,O ya yn yc,O oa on oc,O va vn vc,O fa fn fc,O ba bn bc] 184)):=bA w _
 have HP:=Aa (h.over hbel)
 have KP:=Aa F9
 have KM:=Aa BN
 have KO:=Aa Be
 have KA:=Aa (Go.Proofs.YtfffpjkcfnekaaaGreat.check_any m (O ga gn gc) gs)
 have hvl:vn<=9223372036854775807:=by obtain ⟨hm,a,c,he,-⟩:=h.vars;injection he with e1 e2 e3;rw [e2];exact hm
 obtain ⟨c0,c1,c2,c3,c4,c5,c6,c7⟩:=rc8 (BR w [U zd m,O ga gn gc,O sa sn sc,O ya yn yc,O oa on oc,O va vn vc,O fa fn fc,O ba bn bc] 184)
 clear h
 go_enter Tryz.func113,Tryz.ntmps113
 go_wp2_with fail
 refine (KA.o _ (HP.o.grants)).mono ?_
 rintro e w1 ⟨rfl,hb1⟩
 obtain ⟨d0,d1,d2,d3,d4,d5,d6,d7⟩:=co8 hb1 c0 c1 c2 c3 c4 c5 c6 c7
 have hB1:=hbel.trans (hb1.mono hbel.size)
 have HP1:=Aa (HP.o.over hb1)
 obtain ⟨ce,hce⟩:=nm (AR m gs)
 rw [<-hce]
 have HCE:=Aa hce
 clear KA c0 c1 c2 c3 c4 c5 c6 c7 hb1 hbel hce HP
 go_wp2_with fail
 refine (KP.o _ _).mono ?_
 rintro e wz ⟨he,rfl⟩
 rcases he with ⟨hz,rfl⟩ | ⟨hz,rfl⟩
 rotate_left
 ·have hz2:ce≠0:=by simpa using hz
  have HN:Hx (¬ xP K kf m vn yn on sn gs sp ls ms vs fs l):=Aa (fun hx=>hz2 (HCE.o.trans hx.chk))
  unfold Az
  go_wp2_with fail
  exact ⟨rfl,Or.inr ⟨HN.o,ce,hz2,rfl⟩,hB1⟩
 have HCHK:=Aa (show AR m gs=0 by rw [<-HCE.o];simpa using hz)
 clear hz HCE
 by_cases hlim:((vn:Int)<=16/\(yn:Int)<=5/\(on:Int)<=5/\(fn:Int)<=5/\(sn:Int)<=m)
 rotate_left
 ·have HL:=Aa hlim
  have HN:Hx (¬ xP K kf m vn yn on sn gs sp ls ms vs fs l):=Aa (fun hx=>hlim (by rw [HFX.o];exact hx.lim))
  clear hlim
  go_wp2_with fail
  all_goals
   refine (KM.o _ _ _).mono ?_
   rintro e wz ⟨he,rfl⟩
   rcases he with ⟨hz,rfl⟩ | ⟨hz,rfl⟩
   ·exfalso
    have:=HL.o
    first | (simp at hz;done) | (simp at hz;omega)
   ·clear hz
    unfold Az
    go_wp2_with fail
    exact ⟨rfl,Or.inr ⟨HN.o,2,by decide,rfl⟩,hB1⟩
 have HLIM:Hx ((vn:Int)<=16/\(yn:Int)<=5/\(on:Int)<=5/\(fs.length:Int)<=5/\(sn:Int)<=m):=Aa (by rw [<-HFX.o];exact hlim)
 obtain ⟨l1,l2,l3,l4,l5⟩:=hlim
 go_wp2_with fail
 refine (KM.o _ _ _).mono ?_
 rintro e wz ⟨he,rfl⟩
 rcases he with ⟨hz,rfl⟩ | ⟨hz,rfl⟩
 rotate_left
 ·cases hz
 clear hz
 have hsn:sn=sp.length:=by obtain ⟨a,c,he,-⟩:=HP1.o.speak;injection he
 have hsl:sn<=9223372036854775807:=by rw [hsn];exact HP1.o.speakL
 have HSN:=Aa hsn
 clear hsn
 go_wp2_with fail
 go_loopw [53] (fun i wr=>∃ n:Nat,n<=sn/\i=U zd n/\(∀ x∈sp.take n,0<=x/\x < m)/\(wr.cell? ⟨w.heap.size,0,none⟩=some (U zd m)/\wr.cell? ⟨w.heap.size,1,none⟩=some (O ga gn gc)/\wr.cell? ⟨w.heap.size,2,none⟩=some (O sa sn sc)/\wr.cell? ⟨w.heap.size,3,none⟩=some (O ya yn yc)/\wr.cell? ⟨w.heap.size,4,none⟩=some (O oa on oc)/\wr.cell? ⟨w.heap.size,5,none⟩=some (O va vn vc)/\wr.cell? ⟨w.heap.size,6,none⟩=some (O fa fn fc)/\wr.cell? ⟨w.heap.size,7,none⟩=some (O ba bn bc))/\Ov wz wr) (fun i _=>sn - (intOf i).toNat)
 case atStart=>exact ⟨0,Nat.zero_le _,rfl,by simp,⟨d0,d1,d2,d3,d4,d5,d6,d7⟩,Below.refl _ _⟩
 case round=>
  clear d0 d1 d2 d3 d4 d5 d6 d7
  obtain ⟨n,hn,rfl,hok1,⟨d0,d1,d2,d3,d4,d5,d6,d7⟩,hB⟩:=hrel
  have HOK1:=Aa hok1
  clear hok1
  have hBw:=hB1.trans (hB.mono hB1.size)
  by_cases hnl:n < sn
  ·obtain ⟨a2,c2,he,hel⟩:=HP1.o.speak.over hB
   injection he with e1 e2 e3
   have hnd:n < sp.length:=by omega
   obtain ⟨b,off,hbo,hel2⟩:=hel (by intro h;rw [h] at hnd;simp at hnd)
   have q:=hel2 n hnd
   have e1':=e1.trans hbo
   subst e1'
   obtain ⟨x,hx⟩:=nm (sp[n])
   rw [<-hx] at q
   have HX:=Aa hx
   clear hel hel2 hx e1 e2 e3 hbo
   go_wp2_with fail
   refine (KO.o _ _ _).mono ?_
   rintro e wy ⟨rfl,rfl⟩
   obtain ⟨ok,hok⟩:=nm (decide (0<=x/\x < m))
   rw [<-hok]
   have HOK:=Aa hok
   clear hok
   go_wp2_with fail
   refine (KM.o _ _ _).mono ?_
   rintro e wx ⟨he,rfl⟩
   rcases he with ⟨hz,rfl⟩ | ⟨hz,rfl⟩
   rotate_left
   ·have HN:Hx (¬ xP K kf m vn yn on sn gs sp ls ms vs fs l):=Aa (fun hx=>by have h1:=HOK.o;rw [hz] at h1;have h2:=hx.speak x (by rw [HX.o];exact List.getElem_mem _);simp at h1;omega)
    clear hz
    unfold Az
    go_wp2_with fail
    exact ⟨rfl,Or.inr ⟨HN.o,5,by decide,rfl⟩,hBw⟩
   have HZ:=Aa (show 0<=x/\x < m by have h:=HOK.o;rw [hz] at h;simpa using h.symm)
   clear hz HOK
   go_wp2_with fail
   exact ⟨⟨n+1,by omega,by go_num,D9 hnd HOK1.o (by rw [<-HX.o];exact HZ.o),⟨d0,d1,d2,d3,d4,d5,d6,d7⟩,hB⟩,by simp [intOf];omega⟩
  ·have HP2:=Aa (HP1.o.over hB)
   obtain ⟨w2,hw2⟩:=nm wr
   rw [<-hw2] at d0 d1 d2 d3 d4 d5 d6 d7 hBw HP2 ⊢
   have HSP:=Aa (Ea (by rw [<-HSN.o];omega) HOK1.o)
   clear hw2 hB HP1 hB1 HOK1
   have KL:=Aa (I7 m ga gn gc sa sn sc ya yn yc oa on oc va vn vc fa fn fc ba bn bc gs ls ms vs w2 HP2.o.grants HP2.o.ins HP2.o.outs HP2.o.vars (by omega) (by omega) HP2.o.insN HP2.o.outsN)
   go_wp2_with fail
   refine (KL.o).mono ?_
   rintro e w3 ⟨he,hb3⟩
   have hBw3:=hBw.trans (hb3.mono hBw.size)
   have HP3:=Aa (HP2.o.over hb3)
   obtain ⟨r0,r1,r2,r3,r4,r5,r6,r7⟩:=co8 hb3 d0 d1 d2 d3 d4 d5 d6 d7
   clear KL d0 d1 d2 d3 d4 d5 d6 d7
   rcases he with ⟨hlab,rfl⟩ | ⟨hng,why,hne,rfl⟩
   rotate_left
   ·have HN:Hx (¬ xP K kf m vn yn on sn gs sp ls ms vs fs l):=Aa (fun hx=>hng hx.labs)
    clear hng
    unfold Az
    go_wp2_with fail
    exact ⟨rfl,Or.inr ⟨HN.o,why,hne,rfl⟩,hBw3⟩
   have HLAB:=Aa hlab
   clear hb3 HP2 hBw hlab
   have KI:=Aa (JH K kf m ga gn gc sa sn sc ya yn yc oa on oc va vn vc fa fn fc ba bn bc fs l w3 HP3.o.funcs HP3.o.main)
   go_wp2_with fail
   refine (KI.o).mono ?_
   rintro e w4 ⟨he,hb4⟩
   have hBw4:=hBw3.trans (hb4.mono hBw3.size)
   have HP4:=Aa (HP3.o.over hb4)
   obtain ⟨d0,d1,d2,d3,d4,d5,d6,d7⟩:=co8 hb4 r0 r1 r2 r3 r4 r5 r6 r7
   clear KI r0 r1 r2 r3 r4 r5 r6 r7
   rcases he with ⟨rfl,hlm⟩ | ⟨hng,rfl⟩
   rotate_left
   ·have HN:Hx (¬ xP K kf m vn yn on sn gs sp ls ms vs fs l):=Aa (fun hx=>hng hx.many)
    clear hng
    unfold Az
    go_wp2_with fail
    exact ⟨rfl,Or.inr ⟨HN.o,2,by decide,rfl⟩,hBw4⟩
   have HLM:=Aa hlm
   have hfn:fn=fs.length:=by obtain ⟨-,a,c,he,-⟩:=HP4.o.funcs;injection he
   have HFN:=Aa hfn
   clear hb4 HP3 hBw3 hlm hfn
   go_wp2_with fail
   go_loopw [73] (fun i wr=>∃ n:Nat,n<=fn/\i=U zd n/\(∀ j (h:j < fs.length),j < n->xF K vn yn on (j:Int) fs kf fs[j])/\(wr.cell? ⟨w.heap.size,0,none⟩=some (U zd m)/\wr.cell? ⟨w.heap.size,1,none⟩=some (O ga gn gc)/\wr.cell? ⟨w.heap.size,2,none⟩=some (O sa sn sc)/\wr.cell? ⟨w.heap.size,3,none⟩=some (O ya yn yc)/\wr.cell? ⟨w.heap.size,4,none⟩=some (O oa on oc)/\wr.cell? ⟨w.heap.size,5,none⟩=some (O va vn vc)/\wr.cell? ⟨w.heap.size,6,none⟩=some (O fa fn fc)/\wr.cell? ⟨w.heap.size,7,none⟩=some (O ba bn bc))/\Ov w4 wr) (fun i _=>fn - (intOf i).toNat)
   case atStart=>exact ⟨0,Nat.zero_le _,rfl,fun j h h'=>absurd h' (by omega),⟨d0,d1,d2,d3,d4,d5,d6,d7⟩,Below.refl _ _⟩
   case round=>
    clear d0 d1 d2 d3 d4 d5 d6 d7
    obtain ⟨n,hn,rfl,hok,⟨d0,d1,d2,d3,d4,d5,d6,d7⟩,hB⟩:=hrel
    have HOK:=Aa hok
    clear hok
    have hBw:=hBw4.trans (hB.mono hBw4.size)
    by_cases hnl:n < fn
    ·obtain ⟨-,ao,cap,he,hel⟩:=HP4.o.funcs.over hB
     injection he with e1 e2 e3
     have hnd:n < fs.length:=by omega
     obtain ⟨b,off,hbo,hel2⟩:=hel (by intro h;rw [h] at hnd;simp at hnd)
     obtain ⟨vP,vB,x0,x1,x2,q0,q1,q2,q3,q4,hp,⟨hpl,pa,pc,hvp,hpc⟩,hs,hx⟩:=hel2 n hnd
     have e1':=e1.trans hbo
     subst e1'
     subst hvp
     have hs0:=hs
     obtain ⟨-,za,zc,hvb,-⟩:=hs0
     subst hvb
     obtain ⟨xa,xc,hxf⟩:=hx.form
     simp only [List.cons.injEq,and_true] at hxf
     obtain ⟨rfl,rfl,rfl⟩:=hxf
     have hba:=bA wr (ze #[O pa fs[n].ps.length pc,O za fs[n].body.length zc,U zd (AM fs[n].res),U zd (A8 fs[n].res),O xa (A0 fs[n].res).length xc] 105)
     have hBa:=hBw.trans (hba.mono hBw.size)
     have hB4a:=Ac hB hba
     have KF:=Aa (GP K kf kf fs fs[n] (n:Int) m ga gn gc sa sn sc ya yn yc oa on oc va vn vc (some ⟨b,off,none⟩) fn fc ba bn bc pa fs[n].ps.length pc za fs[n].body.length zc (AM fs[n].res) (A8 fs[n].res) xa (A0 fs[n].res).length xc _ hvl (by omega) (by omega) (by omega) (by omega) (by omega) (hp.over hba) hpl hpc (hs.over hba) (hx.over hba) (HP4.o.funcs.over hB4a))
     obtain ⟨pl,hpl2⟩:=nm (fs[n].ps.length)
     obtain ⟨zl,hzl2⟩:=nm (fs[n].body.length)
     obtain ⟨ek,hek2⟩:=nm (AM fs[n].res)
     obtain ⟨en,hen2⟩:=nm (A8 fs[n].res)
     obtain ⟨xl,hxl2⟩:=nm ((A0 fs[n].res).length)
     rw [<-hpl2,<-hzl2,<-hek2,<-hen2,<-hxl2] at KF hba hBa hB4a
     rw [<-hpl2] at q0
     rw [<-hzl2] at q1
     rw [<-hek2] at q2
     rw [<-hen2] at q3
     rw [<-hxl2] at q4
     obtain ⟨f0,f1,f2,f3,f4,f5,f6,f7⟩:=co8 hba d0 d1 d2 d3 d4 d5 d6 d7
     clear hel hel2 e1 e2 e3 hbo hp hpl hpc hs hx hpl2 hzl2 hek2 hen2 hxl2 d0 d1 d2 d3 d4 d5 d6 d7
     go_wp2_with fail
     refine (KF.o).mono ?_
     rintro e w5 ⟨he,hb5⟩
     have hB5:=Ac hB4a hb5
     have hBw5:=hBa.trans (hb5.mono hBa.size)
     obtain ⟨r0,r1,r2,r3,r4,r5,r6,r7⟩:=co8 hb5 f0 f1 f2 f3 f4 f5 f6 f7
     clear KF f0 f1 f2 f3 f4 f5 f6 f7 hb5 hba hBa hB4a hB hBw q0 q1 q2 q3 q4
     rcases he with ⟨hok,rfl⟩ | ⟨hng,why,hne,rfl⟩
     rotate_left
     ·have HN:Hx (¬ xP K kf m vn yn on sn gs sp ls ms vs fs l):=Aa (fun hx=>hng (hx.body n hnd))
      clear hng
      unfold Az
      go_wp2_with fail
      exact ⟨rfl,Or.inr ⟨HN.o,why,hne,rfl⟩,hBw5⟩
     have HOK2:=Aa hok
     clear hok
     go_wp2_with fail
     refine ⟨⟨n+1,by omega,by go_num,fun j h h'=>?_,⟨r0,r1,r2,r3,r4,r5,r6,r7⟩,hB5⟩,by simp [intOf];omega⟩
     by_cases hjn:j < n
     ·exact HOK.o j h hjn
     ·obtain rfl:j=n:=by omega
      exact HOK2.o
    ·have KS:=Aa (F2 K kf fs (fn:Int) m ga gn gc sa sn sc ya yn yc oa on oc va vn vc fa fn fc ba bn bc hvl (by omega) (by omega) (by omega) (by omega) (by have:=HFN.o;omega) kf (O ba bn bc) l wr (HP4.o.main.over hB) (HP4.o.funcs.over hB))
     go_wp2_with fail
     refine (KS.o).mono ?_
     rintro e w5 ⟨he,hb5⟩
     have hBw5:=hBw.trans (hb5.mono hBw.size)
     clear KS d0 d1 d2 d3 d4 d5 d6 d7 hb5 hB hBw
     rcases he with ⟨hok,rfl⟩ | ⟨hng,why,hne,rfl⟩
     rotate_left
     ·have HN:Hx (¬ xP K kf m vn yn on sn gs sp ls ms vs fs l):=Aa (fun hx=>hng (by rw [HFN.o];exact hx.main))
      clear hng
      unfold Az
      go_wp2_with fail
      exact ⟨rfl,Or.inr ⟨HN.o,why,hne,rfl⟩,hBw5⟩
     have HOK2:=Aa hok
     clear hok
     go_wp2_with fail
     go_end0
     have hfn:=HFN.o
     have hlm:=HLM.o
     refine ⟨Or.inl ⟨⟨HCHK.o,HLIM.o,HSP.o,HLAB.o,HLM.o,fun j h=>HOK.o j h (by omega),?_⟩,rfl⟩,hBw5⟩
     rw [<-hfn]
     exact HOK2.o
end Go.Proofs.YtfffpjkcfnekaaaGreat.Ex.Ey
