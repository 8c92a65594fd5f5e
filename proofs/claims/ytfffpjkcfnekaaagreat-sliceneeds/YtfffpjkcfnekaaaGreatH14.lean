/- Checks of one command, whatever it is. -/
import Derived.Deep.RegionHeld2
import Derived.Test.YtfffpjkcfnekaaaGreatH08
import Derived.Test.YtfffpjkcfnekaaaGreatH13
set_option linter.unusedVariables false
set_option maxHeartbeats 8000000
set_option maxRecDepth 100000
namespace Go.Proofs.YtfffpjkcfnekaaaGreat.Ex.Ez
open Go.RowKit
open Go.Value renaming slice -> O, int -> zd, bool -> ze, agg -> zg, pointer -> zi, tuple -> zj
open Go.IntKind renaming i64 -> U
open Go.Obj renaming cells -> zf
open Go.Ending renaming returned -> zh
theorem GX (K k:Nat) (fs de das) (funcs:Int) (m:Int) (ga gn gc sa sn sc) (ya:Option Addr) (yn yc:Nat) (oa:Option Addr) (on oc:Nat) (va:Option Addr) (vn vc:Nat) (fa fn fc ba bn bc) (vr ot ek en:Int) (xa xl xc aa al ac ta tl tc ea el ec) (w:World) (hv:vn<=9223372036854775807) (i1:Bn vr) (i2:Bn ot) (h0f:0<=funcs) (h1f:funcs<=9223372036854775807) (hyl:yn<=9223372036854775807) (hol:on<=9223372036854775807)
  (hde:RX w K [zd U ek,zd U en,O xa xl xc] de) (hda:XS 3 (RX w K) w (O aa al ac) das) (hfs:AL w K k (O fa fn fc) fs) (hff:funcs<=fs.length) :
  Calls Tryz.prog 220 #[zg #[zd U m,O ga gn gc,O sa sn sc,O ya yn yc,O oa on oc,O va vn vc,O fa fn fc,O ba bn bc],zg #[zd U 7,zd U vr,zd U ot,zd U ek,zd U en,O xa xl xc,O aa al ac,O ta tl tc,O ea el ec],zd U funcs] w (BB (if True then if (vr=0)/\(ot=0)/\(al=0) then Am vn K de else 1 else 5) w):=by
 obtain ⟨E,hE⟩:∃ E:Int,E=(if True then if (vr=0)/\(ot=0)/\(al=0) then Am vn K de else 1 else 5):=⟨_,rfl⟩
 rw [<-hE]
 have HQ:Hx (((vr=0)/\(ot=0)/\(Am vn K de=0)/\(al=0)/\(True)/\(True))->E=0):=Aa (fun q=>by rw [hE,if_pos (trivial),if_pos (⟨q.1,q.2.1,q.2.2.2.1⟩)];try exact q.2.2.1)
 have N5:Hx (¬ (True)->E=5):=Aa (fun h=>by rw [hE,if_neg h])
 have N1:Hx ((True)->¬ ((vr=0)/\(ot=0)/\(al=0))->E=1):=Aa (fun h h2=>by rw [hE,if_pos h,if_neg h2])
 have NX:Hx ((True)->((vr=0)/\(ot=0)/\(al=0))->E=Am vn K de):=Aa (fun h h2=>by rw [hE,if_pos h,if_pos h2])
 clear hE
 have K1:=Aa Ga
 have K2:=Aa AM
 have K3:=Aa Ax
 have K4:=Aa fun W=>AY 7 funcs m ga gn gc sa sn sc ya yn yc oa on oc va vn vc fa fn fc ba bn bc W
 have K5:=Aa fun W (hB:Ov w W)=>AP K m ga gn gc sa sn sc ya yn yc oa on oc va vn vc fa fn fc ba bn bc _ _ W (hde.over hB) hv
 have hal:al<=9223372036854775807/\al=das.length:=⟨by obtain ⟨hm,ao,cap,he,-⟩:=hda;injection he with e1 e2 e3;rw [e2];exact hm,by obtain ⟨hm,ao,cap,he,-⟩:=hda;injection he⟩
 obtain ⟨hal,hale⟩:=hal
 have HAL:=Aa hale
 obtain ⟨i1,i1'⟩:=i1
 obtain ⟨i2,i2'⟩:=i2
 clear hde hda hfs hale
 obtain ⟨c0,c1,c2,c3,c4,c5,c6,c7⟩:=rc8 (CB w [zd U m,O ga gn gc,O sa sn sc,O ya yn yc,O oa on oc,O va vn vc,O fa fn fc,O ba bn bc] 184 (zf #[zd U 7,zd U vr,zd U ot,zd U ek,zd U en,O xa xl xc,O aa al ac,O ta tl tc,O ea el ec] 130))
 obtain ⟨s0,s1,s2,s3,s4,s5,s6,s7,s8⟩:=rc9 (CY w (zf #[zd U m,O ga gn gc,O sa sn sc,O ya yn yc,O oa on oc,O va vn vc,O fa fn fc,O ba bn bc] 184) [zd U 7,zd U vr,zd U ot,zd U ek,zd U en,O xa xl xc,O aa al ac,O ta tl tc,O ea el ec] 130)
 have hbel:Ov w ((w.alloc (zf #[zd U m,O ga gn gc,O sa sn sc,O ya yn yc,O oa on oc,O va vn vc,O fa fn fc,O ba bn bc] 184)).alloc (zf #[zd U 7,zd U vr,zd U ot,zd U ek,zd U en,O xa xl xc,O aa al ac,O ta tl tc,O ea el ec] 130)):=(bA w _).alloc (by simp) _
 go_enter Tryz.func220,Tryz.ntmps220
 go_wp2_with fail
 refine (K1.o _).mono ?_
 rintro e w1 ⟨rfl,hb1⟩
 have hB1:=hbel.trans (hb1.mono hbel.size)
 have hb2:=Ag hb1 (bA w1 (zf #[ze false,ze false,ze true,ze false,ze true,ze true] 288))
 have hB2:=hbel.trans (hb2.mono hbel.size)
 obtain ⟨c0a,c1a,c2a,c3a,c4a,c5a,c6a,c7a,s0a,s1a⟩:=Bh hb2 c0 c1 c2 c3 c4 c5 c6 c7 s0 s1
 obtain ⟨s2a,s3a,s4a,s5a,s6a,s7a,s8a⟩:=co7 hb2 s2 s3 s4 s5 s6 s7 s8
 obtain ⟨h0a,h1a,h2a,h3a,h4a,h5a⟩:=rc6 (Ay w1 [ze false,ze false,ze true,ze false,ze true,ze true] 288)
 clear hb1 hb2 hbel hB1 c0 c1 c2 c3 c4 c5 c6 c7 s0 s1 s2 s3 s4 s5 s6 s7 s8
 go_wp2_with fail
 refine (K2.o _ _ _).mono ?_
 rintro e wz ⟨he,rfl⟩
 have he2:=orT he
 subst he2
 clear he
 go_wp2_with fail
 refine (K2.o _ _ _).mono ?_
 rintro e wz ⟨he,rfl⟩
 have he2:=orT he
 subst he2
 clear he
 go_wp2_with fail
 go_quiet ((go_at_call 172;exact Calls.quiet_of_same (AH _ _)))
 obtain ⟨c0r,c1r,c2r,c3r,c4r,c5r,c6r,c7r,s0r,s1r⟩:=Bl (n:=nq) c0a c1a c2a c3a c4a c5a c6a c7a s0a s1a
 obtain ⟨s2r,s3r,s4r,s5r,s6r,s7r,s8r,h0r,h1r,h2r⟩:=Bl (n:=nq) s2a s3a s4a s5a s6a s7a s8a h0a h1a h2a
 obtain ⟨h3r,h4r,h5r⟩:=cn3 (n:=nq) h3a h4a h5a
 have hBr:=below_drewN hB2 nq
 clear hB2 c0a c1a c2a c3a c4a c5a c6a c7a s0a s1a s2a s3a s4a s5a s6a s7a s8a h0a h1a h2a h3a h4a h5a
 generalize (w1.alloc (zf #[ze false,ze false,ze true,ze false,ze true,ze true] 288)).drewN nq=wr at hBr c0r c1r c2r c3r c4r c5r c6r c7r s0r s1r s2r s3r s4r s5r s6r s7r s8r h0r h1r h2r h3r h4r h5r ⊢
 go_wp2_with fail
 refine (K2.o _ _ _).mono ?_
 rintro e wz ⟨he,rfl⟩
 rcases he with ⟨hz,rfl⟩ | ⟨hz,rfl⟩
 rotate_left
 ·have HN:E=1:=N1.o (by first | exact ⟨HVAR.o,HOT.o⟩ | exact HVAR.o | exact HOT.o | trivial) (by intro hA;(try simp at hz);(try simp at hA);omega)
  subst HN
  clear hz
  unfold Ak
  go_wp2_with fail
  exact ⟨rfl,Or.inr ⟨by decide,rfl⟩,hBr⟩
 have HZ_1:=Aa hz
 clear hz
 go_wp2_with fail
 refine (K2.o _ _ _).mono ?_
 rintro e wz ⟨he,rfl⟩
 rcases he with ⟨hz,rfl⟩ | ⟨hz,rfl⟩
 rotate_left
 ·have HN:E=1:=N1.o (by first | exact ⟨HVAR.o,HOT.o⟩ | exact HVAR.o | exact HOT.o | trivial) (by intro hA;(try simp at hz);(try simp at hA);omega)
  subst HN
  clear hz
  unfold Ak
  go_wp2_with fail
  exact ⟨rfl,Or.inr ⟨by decide,rfl⟩,hBr⟩
 have HZ_2:=Aa hz
 clear hz
 go_wp2_with fail
 refine (K2.o _ _ _).mono ?_
 rintro e wz ⟨he,rfl⟩
 have he2:=orT he
 subst he2
 clear he
 go_wp2_with fail
 refine (K2.o _ _ _).mono ?_
 rintro e wz ⟨he,rfl⟩
 rcases he with ⟨hargs,rfl⟩ | ⟨hz,rfl⟩
 rotate_left
 ·have HN:E=1:=N1.o (by first | exact ⟨HVAR.o,HOT.o⟩ | exact HVAR.o | exact HOT.o | trivial) (by intro hA;(try simp at hz);(try simp at hA);omega)
  subst HN
  clear hz
  unfold Ak
  go_wp2_with fail
  exact ⟨rfl,Or.inr ⟨by decide,rfl⟩,hBr⟩
 have hal0:al=0:=by simp at hargs;omega
 subst hal0
 clear hargs
 go_wp2_with fail
 refine (K2.o _ _ _).mono ?_
 rintro e wz ⟨he,rfl⟩
 have he2:=orT he
 subst he2
 clear he
 go_wp2_with fail
 refine (K2.o _ _ _).mono ?_
 rintro e wz ⟨he,rfl⟩
 have he2:=orT he
 subst he2
 clear he
 go_wp2_with fail
 go_quiet ((go_at_call 172;exact Calls.quiet_of_same (AH _ _)))
 obtain ⟨c0q,c1q,c2q,c3q,c4q,c5q,c6q,c7q,s0q,s1q⟩:=Bl (n:=nq) c0r c1r c2r c3r c4r c5r c6r c7r s0r s1r
 obtain ⟨s2q,s3q,s4q,s5q,s6q,s7q,s8q,h0q,h1q,h2q⟩:=Bl (n:=nq) s2r s3r s4r s5r s6r s7r s8r h0r h1r h2r
 obtain ⟨h3q,h4q,h5q⟩:=cn3 (n:=nq) h3r h4r h5r
 have hBq:=below_drewN hBr nq
 clear c0r c1r c2r c3r c4r c5r c6r c7r s0r s1r s2r s3r s4r s5r s6r s7r s8r h0r h1r h2r h3r h4r h5r
 go_wp2_with fail
 refine (K5.o _ hBq).mono ?_
 rintro e w5 ⟨he,hb5⟩
 have hB5:=hBq.trans (hb5.mono hBq.size)
 rcases he with ⟨hex,rfl⟩ | ⟨hnex,rfl⟩
 rotate_left
 ·have HN:=NX.o (by first | exact ⟨HVAR.o,HOT.o⟩ | exact HVAR.o | exact HOT.o | trivial) (by refine ⟨?_,?_,?_⟩ <;> first | trivial | exact HVAR.o | exact HOT.o | exact ⟨HZ1.o,HZ2.o,HXL.o⟩ | (have hq:=HZ_1.o;simp at hq;omega) | (have hq:=HZ_2.o;simp at hq;omega) | omega)
  subst HN
  have HNX:=Aa hnex
  clear hnex
  unfold Ak
  go_wp2_with fail
  exact ⟨rfl,Or.inr ⟨HNX.o,rfl⟩,hB5⟩
 obtain ⟨c05,c15,c25,c35,c45,c55,c65,c75,s05,s15⟩:=Bh hb5 c0q c1q c2q c3q c4q c5q c6q c7q s0q s1q
 obtain ⟨s25,s35,s45,s55,s65,s75,s85,h05,h15,h25⟩:=Bh hb5 s2q s3q s4q s5q s6q s7q s8q h0q h1q h2q
 obtain ⟨h35,h45,h55⟩:=co3 hb5 h3q h4q h5q
 have HEX:=Aa hex
 clear hex hb5 c0q c1q c2q c3q c4q c5q c6q c7q s0q s1q s2q s3q s4q s5q s6q s7q s8q h0q h1q h2q h3q h4q h5q
 go_wp2_with fail
 go_loopw [138] (fun i wr=>i=zd U 0/\Ov w wr) (fun _ _=>0)
 case atStart=>exact ⟨rfl,hB5⟩
 case round=>
  obtain ⟨rfl,hB⟩:=hrel
  go_wp2_with fail
  go_end0
  refine ⟨Or.inl ⟨HQ.o ⟨?_,?_,?_,?_,?_,?_⟩,rfl⟩,hB⟩
  all_goals first | trivial | exact HVAR.o | exact HOT.o | exact HEX.o | exact ⟨HZ1.o,HZ2.o,HXL.o⟩ | (have hq:=HZ_1.o;simp at hq;omega) | (have hq:=HZ_2.o;simp at hq;omega) | omega
theorem G2 (K k:Nat) (fs de das) (funcs:Int) (m:Int) (ga gn gc sa sn sc) (ya:Option Addr) (yn yc:Nat) (oa:Option Addr) (on oc:Nat) (va:Option Addr) (vn vc:Nat) (fa fn fc ba bn bc) (vr ot ek en:Int) (xa xl xc aa al ac ta tl tc ea el ec) (w:World) (hv:vn<=9223372036854775807) (i1:Bn vr) (i2:Bn ot) (h0f:0<=funcs) (h1f:funcs<=9223372036854775807) (hyl:yn<=9223372036854775807) (hol:on<=9223372036854775807)
  (hde:RX w K [zd U ek,zd U en,O xa xl xc] de) (hda:XS 3 (RX w K) w (O aa al ac) das) (hfs:AL w K k (O fa fn fc) fs) (hff:funcs<=fs.length) :
  Calls Tryz.prog 220 #[zg #[zd U m,O ga gn gc,O sa sn sc,O ya yn yc,O oa on oc,O va vn vc,O fa fn fc,O ba bn bc],zg #[zd U 2,zd U vr,zd U ot,zd U ek,zd U en,O xa xl xc,O aa al ac,O ta tl tc,O ea el ec],zd U funcs] w (BB (if (0<=vr/\vr < vn)/\(0<=ot/\ot < funcs) then if (ek=0/\en=0/\xl=0)/\(∀ f,fs[ot.toNat]? = some f->f.ps.length=al)/\(tl=0)/\(el=0) then Bs (das.map fun a=>Am vn K a) else 1 else 5) w):=by
 obtain ⟨E,hE⟩:∃ E:Int,E=(if (0<=vr/\vr < vn)/\(0<=ot/\ot < funcs) then if (ek=0/\en=0/\xl=0)/\(∀ f,fs[ot.toNat]? = some f->f.ps.length=al)/\(tl=0)/\(el=0) then Bs (das.map fun a=>Am vn K a) else 1 else 5):=⟨_,rfl⟩
 rw [<-hE]
 have HQ:Hx (((0<=vr/\vr < vn)/\(0<=ot/\ot < funcs)/\(ek=0/\en=0/\xl=0)/\((∀ f,fs[ot.toNat]? = some f->f.ps.length=al)/\∀ a∈das,Am vn K a=0)/\(tl=0)/\(el=0))->E=0):=Aa (fun q=>by rw [hE,if_pos (⟨q.1,q.2.1⟩),if_pos (⟨q.2.2.1,q.2.2.2.1.1,q.2.2.2.2.1,q.2.2.2.2.2⟩)];try exact CU (by intro x hx;obtain ⟨a,ha,rfl⟩:=List.mem_map.1 hx;exact q.2.2.2.1.2 a ha))
 have N5:Hx (¬ ((0<=vr/\vr < vn)/\(0<=ot/\ot < funcs))->E=5):=Aa (fun h=>by rw [hE,if_neg h])
 have N1:Hx (((0<=vr/\vr < vn)/\(0<=ot/\ot < funcs))->¬ ((ek=0/\en=0/\xl=0)/\(∀ f,fs[ot.toNat]? = some f->f.ps.length=al)/\(tl=0)/\(el=0))->E=1):=Aa (fun h h2=>by rw [hE,if_pos h,if_neg h2])
 have NX:Hx (((0<=vr/\vr < vn)/\(0<=ot/\ot < funcs))->((ek=0/\en=0/\xl=0)/\(∀ f,fs[ot.toNat]? = some f->f.ps.length=al)/\(tl=0)/\(el=0))->E=Bs (das.map fun a=>Am vn K a)):=Aa (fun h h2=>by rw [hE,if_pos h,if_pos h2])
 clear hE
 have K1:=Aa Gf
 have K2:=Aa AM
 have K3:=Aa Ax
 have K4:=Aa fun W=>AY 2 funcs m ga gn gc sa sn sc ya yn yc oa on oc va vn vc fa fn fc ba bn bc W
 simp only [Int.reduceEq,if_true,if_false] at K4
 have K5:=Aa fun W (hB:Ov w W)=>AP K m ga gn gc sa sn sc ya yn yc oa on oc va vn vc fa fn fc ba bn bc _ _ W (hde.over hB) hv
 have HF:=Aa hfs
 have HA:=Aa hda
 have hal:al<=9223372036854775807/\al=das.length:=⟨by obtain ⟨hm,ao,cap,he,-⟩:=hda;injection he with e1 e2 e3;rw [e2];exact hm,by obtain ⟨hm,ao,cap,he,-⟩:=hda;injection he⟩
 obtain ⟨hal,hale⟩:=hal
 have HAL:=Aa hale
 obtain ⟨i1,i1'⟩:=i1
 obtain ⟨i2,i2'⟩:=i2
 clear hde hda hfs hale
 obtain ⟨c0,c1,c2,c3,c4,c5,c6,c7⟩:=rc8 (CB w [zd U m,O ga gn gc,O sa sn sc,O ya yn yc,O oa on oc,O va vn vc,O fa fn fc,O ba bn bc] 184 (zf #[zd U 2,zd U vr,zd U ot,zd U ek,zd U en,O xa xl xc,O aa al ac,O ta tl tc,O ea el ec] 130))
 obtain ⟨s0,s1,s2,s3,s4,s5,s6,s7,s8⟩:=rc9 (CY w (zf #[zd U m,O ga gn gc,O sa sn sc,O ya yn yc,O oa on oc,O va vn vc,O fa fn fc,O ba bn bc] 184) [zd U 2,zd U vr,zd U ot,zd U ek,zd U en,O xa xl xc,O aa al ac,O ta tl tc,O ea el ec] 130)
 have hbel:Ov w ((w.alloc (zf #[zd U m,O ga gn gc,O sa sn sc,O ya yn yc,O oa on oc,O va vn vc,O fa fn fc,O ba bn bc] 184)).alloc (zf #[zd U 2,zd U vr,zd U ot,zd U ek,zd U en,O xa xl xc,O aa al ac,O ta tl tc,O ea el ec] 130)):=(bA w _).alloc (by simp) _
 go_enter Tryz.func220,Tryz.ntmps220
 go_wp2_with fail
 refine (K1.o _).mono ?_
 rintro e w1 ⟨rfl,hb1⟩
 have hB1:=hbel.trans (hb1.mono hbel.size)
 have hb2:=Ag hb1 (bA w1 (zf #[ze true,ze true,ze false,ze true,ze false,ze false] 288))
 have hB2:=hbel.trans (hb2.mono hbel.size)
 obtain ⟨c0a,c1a,c2a,c3a,c4a,c5a,c6a,c7a,s0a,s1a⟩:=Bh hb2 c0 c1 c2 c3 c4 c5 c6 c7 s0 s1
 obtain ⟨s2a,s3a,s4a,s5a,s6a,s7a,s8a⟩:=co7 hb2 s2 s3 s4 s5 s6 s7 s8
 obtain ⟨h0a,h1a,h2a,h3a,h4a,h5a⟩:=rc6 (Ay w1 [ze true,ze true,ze false,ze true,ze false,ze false] 288)
 clear hb1 hb2 hbel hB1 c0 c1 c2 c3 c4 c5 c6 c7 s0 s1 s2 s3 s4 s5 s6 s7 s8
 go_wp2_with fail
 refine (K2.o _ _ _).mono ?_
 rintro e wz ⟨he,rfl⟩
 have he2:=orT he
 subst he2
 clear he
 go_wp2_with fail
 refine (K3.o _ _ _).mono ?_
 rintro e wz ⟨rfl,rfl⟩
 go_wp2_with fail
 refine (K2.o _ _ _).mono ?_
 rintro e wz ⟨he,rfl⟩
 rcases he with ⟨hvar,rfl⟩ | ⟨hz,rfl⟩
 rotate_left
 ·have HN:E=5:=N5.o (by intro hA;(try simp at hz);(try simp at hA);omega)
  subst HN
  clear hz
  unfold Ak
  go_wp2_with fail
  exact ⟨rfl,Or.inr ⟨by decide,rfl⟩,hB2⟩
 have hvar2:0<=vr/\vr < vn:=by simpa using hvar
 have HVAR:=Aa hvar2
 clear hvar hvar2
 go_wp2_with fail
 have hr0:=Below.refl (w1.alloc (zf #[ze true,ze true,ze false,ze true,ze false,ze false] 288)).heap.size (w1.alloc (zf #[ze true,ze true,ze false,ze true,ze false,ze false] 288))
 obtain ⟨ob,hob⟩:=nm (decide (0<=ot/\ot < funcs))
 have K3o:=Aa fun W=>Ax ot funcs W
 rw [<-hob] at K3o
 have HOB:=Aa hob
 clear hob
 cases ob with
 | false=>
  have HNO:E=5:=N5.o (by intro hA;have hq:=HOB.o;simp at hq;omega)
  subst HNO
  go_region_held2 (fun W=>W.cell? ⟨w.heap.size,0,none⟩=some (zd U m)/\W.cell? ⟨w.heap.size,1,none⟩=some (O ga gn gc)/\W.cell? ⟨w.heap.size,2,none⟩=some (O sa sn sc)/\W.cell? ⟨w.heap.size,3,none⟩=some (O ya yn yc)/\W.cell? ⟨w.heap.size,4,none⟩=some (O oa on oc)/\W.cell? ⟨w.heap.size,5,none⟩=some (O va vn vc)/\W.cell? ⟨w.heap.size,6,none⟩=some (O fa fn fc)/\W.cell? ⟨w.heap.size,7,none⟩=some (O ba bn bc)/\W.cell? ⟨w.heap.size+1,0,none⟩=some (zd U 2)/\W.cell? ⟨w.heap.size+1,2,none⟩=some (zd U ot)/\W.cell? ⟨w1.heap.size,1,none⟩=some (ze true)/\Ov (w1.alloc (zf #[ze true,ze true,ze false,ze true,ze false,ze false] 288)) W) (first | assumption | exact ⟨c0a,c1a,c2a,c3a,c4a,c5a,c6a,c7a,s0a,s2a,h1a,below_drewN hr0 1⟩ | exact Ck (by assumption) hbp | fail) (first | (go_at_call 244;refine (K4.o _).mono ?_;rintro e wp ⟨rfl,hbp⟩) | (go_at_call 173;refine (K3o.o _).mono ?_;rintro e wq ⟨rfl,rfl⟩) | (go_at_call 172;refine (K2.o false 5 _).mono ?_;rintro e wq ⟨he,rfl⟩;rcases he with ⟨hb,rfl⟩ | ⟨hb,rfl⟩;rotate_left;exact ⟨rfl,Or.inr ⟨by decide,rfl⟩,hB2.trans ((by assumption:_/\_/\_/\_/\_/\_/\_/\_/\_/\_/\_/\Below _ _ _).2.2.2.2.2.2.2.2.2.2.2.mono hB2.size)⟩;have hbad:=Aa hb;clear hb))
  exact absurd hbad.o (by simp)
 | true=>
  have hot:0<=ot/\ot < funcs:=by simpa using HOB.o.symm
  have HOT:=Aa hot
  clear hot
  go_region_held3 (fun W=>W.cell? ⟨w.heap.size,0,none⟩=some (zd U m)/\W.cell? ⟨w.heap.size,1,none⟩=some (O ga gn gc)/\W.cell? ⟨w.heap.size,2,none⟩=some (O sa sn sc)/\W.cell? ⟨w.heap.size,3,none⟩=some (O ya yn yc)/\W.cell? ⟨w.heap.size,4,none⟩=some (O oa on oc)/\W.cell? ⟨w.heap.size,5,none⟩=some (O va vn vc)/\W.cell? ⟨w.heap.size,6,none⟩=some (O fa fn fc)/\W.cell? ⟨w.heap.size,7,none⟩=some (O ba bn bc)/\W.cell? ⟨w.heap.size+1,0,none⟩=some (zd U 2)/\W.cell? ⟨w.heap.size+1,2,none⟩=some (zd U ot)/\W.cell? ⟨w1.heap.size,1,none⟩=some (ze true)/\Ov (w1.alloc (zf #[ze true,ze true,ze false,ze true,ze false,ze false] 288)) W) (first | assumption | exact ⟨c0a,c1a,c2a,c3a,c4a,c5a,c6a,c7a,s0a,s2a,h1a,below_drewN hr0 1⟩ | exact Ck (by assumption) hbp | fail) (first | (go_at_call 244;refine (K4.o _).mono ?_;rintro e wp ⟨rfl,hbp⟩) | (go_at_call 173;refine (K3o.o _).mono ?_;rintro e wq ⟨rfl,rfl⟩) | (go_at_call 172;refine (AH 5 _).mono ?_;rintro e wq ⟨rfl,rfl⟩))
  have hb2:=(by assumption:_/\_/\_/\_/\_/\_/\_/\_/\_/\_/\_/\Below _ _ _).2.2.2.2.2.2.2.2.2.2.2
  have hB3:=hB2.trans (hb2.mono hB2.size)
  obtain ⟨c0b,c1b,c2b,c3b,c4b,c5b,c6b,c7b,s0b,s1b⟩:=Bh hb2 c0a c1a c2a c3a c4a c5a c6a c7a s0a s1a
  obtain ⟨s2b,s3b,s4b,s5b,s6b,s7b,s8b,h0b,h1b,h2b⟩:=Bh hb2 s2a s3a s4a s5a s6a s7a s8a h0a h1a h2a
  obtain ⟨h3b,h4b,h5b⟩:=co3 hb2 h3a h4a h5a
  clear hb2 hB2 hr0 c0a c1a c2a c3a c4a c5a c6a c7a s0a s1a s2a s3a s4a s5a s6a s7a s8a h0a h1a h2a h3a h4a h5a
  go_wp2_with fail
  refine (K2.o _ _ _).mono ?_
  rintro e wz ⟨he,rfl⟩
  have he2:=orT he
  subst he2
  clear he
  go_wp2_with fail
  refine (K2.o _ _ _).mono ?_
  rintro e wz ⟨he,rfl⟩
  have he2:=orT he
  subst he2
  clear he
  by_cases z1:ek=0
  rotate_left
  ·have zb:(ek == 0)=false:=by simpa using z1
   have HN:E=1:=N1.o (by first | exact ⟨HVAR.o,HOT.o⟩ | exact HVAR.o | exact HOT.o | trivial) (by intro hA;omega)
   subst HN
   go_wp2_with fail
   refine (K2.o _ _ _).mono ?_
   rintro e wz ⟨he,rfl⟩
   have he2:e=Ak 1:=by
    rcases he with ⟨he,_⟩ | ⟨_,he⟩
    ·cases he
    ·exact he
   subst he2
   clear he
   unfold Ak
   go_wp2_with fail
   exact ⟨rfl,Or.inr ⟨by decide,rfl⟩,hB3⟩
  have zb1:(ek == 0)=true:=by simpa using z1
  have HZ1:=Aa z1
  clear z1
  by_cases z2:en=0
  rotate_left
  ·have zb:(en == 0)=false:=by simpa using z2
   have HN:E=1:=N1.o (by first | exact ⟨HVAR.o,HOT.o⟩ | exact HVAR.o | exact HOT.o | trivial) (by intro hA;omega)
   subst HN
   go_wp2_with fail
   refine (K2.o _ _ _).mono ?_
   rintro e wz ⟨he,rfl⟩
   have he2:e=Ak 1:=by
    rcases he with ⟨he,_⟩ | ⟨_,he⟩
    ·cases he
    ·exact he
   subst he2
   clear he
   unfold Ak
   go_wp2_with fail
   exact ⟨rfl,Or.inr ⟨by decide,rfl⟩,hB3⟩
  have zb2:(en == 0)=true:=by simpa using z2
  have HZ2:=Aa z2
  clear z2
  go_wp2_with fail
  refine (K2.o _ _ _).mono ?_
  rintro e wz ⟨he,rfl⟩
  rcases he with ⟨hz,rfl⟩ | ⟨hz,rfl⟩
  rotate_left
  ·have HN:E=1:=N1.o (by first | exact ⟨HVAR.o,HOT.o⟩ | exact HVAR.o | exact HOT.o | trivial) (by intro hA;(try simp at hz);(try simp at hA);omega)
   subst HN
   clear hz
   unfold Ak
   go_wp2_with fail
   exact ⟨rfl,Or.inr ⟨by decide,rfl⟩,hB3⟩
  have hxl0:xl=0:=by simp at hz;omega
  have HXL:=Aa hxl0
  clear hz hxl0
  go_wp2_with fail
  refine (K2.o _ _ _).mono ?_
  rintro e wz ⟨he,rfl⟩
  have he2:=orT he
  subst he2
  clear he
  go_wp2_with fail
  refine (K2.o _ _ _).mono ?_
  rintro e wz ⟨he,rfl⟩
  rcases he with ⟨hz,rfl⟩ | ⟨hz,rfl⟩
  rotate_left
  ·have HN:E=1:=N1.o (by first | exact ⟨HVAR.o,HOT.o⟩ | exact HVAR.o | exact HOT.o | trivial) (by intro hA;(try simp at hz);(try simp at hA);omega)
   subst HN
   clear hz
   unfold Ak
   go_wp2_with fail
   exact ⟨rfl,Or.inr ⟨by decide,rfl⟩,hB3⟩
  have HZ_1:=Aa hz
  clear hz
  go_wp2_with fail
  refine (K2.o _ _ _).mono ?_
  rintro e wz ⟨he,rfl⟩
  rcases he with ⟨hz,rfl⟩ | ⟨hz,rfl⟩
  rotate_left
  ·have HN:E=1:=N1.o (by first | exact ⟨HVAR.o,HOT.o⟩ | exact HVAR.o | exact HOT.o | trivial) (by intro hA;(try simp at hz);(try simp at hA);omega)
   subst HN
   clear hz
   unfold Ak
   go_wp2_with fail
   exact ⟨rfl,Or.inr ⟨by decide,rfl⟩,hB3⟩
  have HZ_2:=Aa hz
  clear hz
  go_wp2_with fail
  obtain ⟨hot0,hot1⟩:=HOT.o
  obtain ⟨hfl,fa',fc',hfe,hfc⟩:=HF.o
  injection hfe with e1 e2 e3
  subst e1 e2 e3
  obtain ⟨j,rfl⟩:∃ j:Nat,ot=(j:Int):=⟨ot.toNat,by omega⟩
  have hj:j < fs.length:=by omega
  have hfl':fs.length<=9223372036854775807:=hfl
  obtain ⟨b,off,rfl,hcl⟩:=hfc (by rintro rfl;simp at hj)
  obtain ⟨vP,vB,x0,x1,x2,p0,p1,p2,p3,p4,hps,hpl,-,-⟩:=hcl j hj
  obtain ⟨pa,pc,rfl,-⟩:=hps
  have hget:fs[j]? = some fs[j]:=List.getElem?_eq_getElem hj
  obtain ⟨fd,hfd⟩:=nm (fs[j])
  rw [<-hfd] at p0 hpl hget
  obtain ⟨pn,hpn⟩:=nm fd.ps.length
  rw [<-hpn] at p0
  have p0c:=Ab hB3 _ _ p0
  have hpl':pn<=9223372036854775807:=by rw [hpn];exact hpl.1
  have HPN:=Aa hpn
  have HGET:=Aa hget
  clear hfc hcl p0 p1 p2 p3 p4 hget hfd hpn hot0 hot1 hfl hpl
  by_cases hpe:al=pn
  rotate_left
  ·have HNP:E=1:=N1.o ⟨HVAR.o,HOT.o⟩ (fun hd=>hpe ((hd.2.1 fd (by simpa using HGET.o)).symm.trans HPN.o.symm))
   subst HNP
   have hpb:((al:Int) == (pn:Int))=false:=by simp;omega
   go_region_held2 (fun W=>W.cell? ⟨w.heap.size+1,0,none⟩=some (zd U 2)/\W.cell? ⟨w.heap.size+1,6,none⟩=some (O aa al ac)/\W.cell? ⟨w.heap.size,6,none⟩=some (O (some ⟨b,off,none⟩) fs.length fc)/\W.cell? ⟨w.heap.size+1,2,none⟩=some (zd U (j:Int))/\W.cell? ⟨b,off+j*5,none⟩=some (O pa pn pc)/\Ov w W) (first | assumption | exact ⟨s0b,s6b,c6b,s2b,p0c,below_drewN hB3 1⟩ | fail) (first | (go_at_call 172;refine (K2.o false 1 _).mono ?_;rintro e wq ⟨he,rfl⟩;rcases he with ⟨hb,rfl⟩ | ⟨hb,rfl⟩;rotate_left;exact ⟨rfl,Or.inr ⟨by decide,rfl⟩,(by assumption:_/\_/\_/\_/\_/\Below _ _ _).2.2.2.2.2⟩;have hbad:=Aa hb;clear hb))
   exact absurd hbad.o (by simp)
  subst hpe
  go_quiet ((go_at_call 172;exact Calls.quiet_of_same (AH _ _)))
  obtain ⟨c0q,c1q,c2q,c3q,c4q,c5q,c6q,c7q,s0q,s1q⟩:=Bl (n:=nq) c0b c1b c2b c3b c4b c5b c6b c7b s0b s1b
  obtain ⟨s2q,s3q,s4q,s5q,s6q,s7q,s8q,h0q,h1q,h2q⟩:=Bl (n:=nq) s2b s3b s4b s5b s6b s7b s8b h0b h1b h2b
  obtain ⟨h3q,h4q,h5q⟩:=cn3 (n:=nq) h3b h4b h5b
  have hBq:=below_drewN hB3 nq
  clear c0b c1b c2b c3b c4b c5b c6b c7b s0b s1b s2b s3b s4b s5b s6b s7b s8b h0b h1b h2b h3b h4b h5b p0c
  go_wp2_with fail
  have hda2:=HA.o
  obtain ⟨hdl,aa',ac',hde2,hdc⟩:=hda2
  injection hde2 with a1 a2 a3
  subst a1 a3
  have HDC:=Aa hdc
  clear hdc a2
  have hBB:=hBq
  have HBB:Hx ((ek=0/\en=0/\xl=0)/\(∀ f,fs[((j:Nat):Int).toNat]? = some f->f.ps.length=al)/\(tl=0)/\(el=0)):=by
   refine Aa ⟨⟨HZ1.o,HZ2.o,HXL.o⟩,fun f hf=>?_,?_,?_⟩
   ·have h1:=HGET.o
    simp only [Int.toNat_natCast] at hf
    rw [h1] at hf
    rw [<-Option.some.inj hf]
    exact HPN.o.symm
   ·have hq:=HZ_1.o;simp at hq;omega
   ·have hq:=HZ_2.o;simp at hq;omega
  go_loopw [138] (fun i wr=>∃ n:Nat,n<=al/\i=zd U n/\(∀ a∈das.take n,Am vn K a=0)/\(wr.cell? ⟨w.heap.size,0,none⟩=some (zd U m)/\wr.cell? ⟨w.heap.size,1,none⟩=some (O ga gn gc)/\wr.cell? ⟨w.heap.size,2,none⟩=some (O sa sn sc)/\wr.cell? ⟨w.heap.size,3,none⟩=some (O ya yn yc)/\wr.cell? ⟨w.heap.size,4,none⟩=some (O oa on oc)/\wr.cell? ⟨w.heap.size,5,none⟩=some (O va vn vc)/\wr.cell? ⟨w.heap.size,6,none⟩=some (O (some ⟨b,off,none⟩) fs.length fc)/\wr.cell? ⟨w.heap.size,7,none⟩=some (O ba bn bc))/\Ov w wr) (fun i _=>al - (intOf i).toNat)
  case atStart=>exact ⟨0,Nat.zero_le _,rfl,by simp,⟨c0q,c1q,c2q,c3q,c4q,c5q,c6q,c7q⟩,hBB⟩
  case round=>
   clear hBq hBB c0q c1q c2q c3q c4q c5q c6q c7q s0q s1q s2q s3q s4q s5q s6q s7q s8q h0q h1q h2q h3q h4q h5q
   obtain ⟨n,hn,rfl,hok,⟨d0,d1,d2,d3,d4,d5,d6,d7⟩,hB⟩:=hrel
   have HOK:=Aa hok
   clear hok
   by_cases hnl:n < al
   ·have hnd:n < das.length:=by have:=HAL.o;omega
    obtain ⟨bb,oo,rfl,hdcl⟩:=HDC.o (by rintro rfl;simp at hnd)
    obtain ⟨acs,hal3,hacs,har⟩:=hdcl n das[n] (List.getElem?_eq_getElem hnd)
    have htk:das.take (n+1)=das.take n++[das[n]]:=List.take_succ_eq_append_getElem hnd
    have HTK:=Aa htk
    have HMD:=Aa (List.getElem_mem hnd)
    have HFE:Hx (Am vn K das[n]≠0->Bs (das.map fun a=>Am vn K a)=Am vn K das[n]):=Aa (fun h=>Ds hnd HOK.o h)
    obtain ⟨xa2,xc2,hxf⟩:=har.form
    obtain ⟨dn,hdn⟩:=nm (das[n])
    rw [<-hdn] at har hxf HTK HMD HFE
    subst hxf
    obtain ⟨ek2,hek2⟩:=nm (Ap dn)
    obtain ⟨en2,hen2⟩:=nm (AA dn)
    obtain ⟨xl2,hxl2⟩:=nm ((Ar dn).length)
    rw [<-hek2,<-hen2,<-hxl2] at har hacs
    have g0:wr.cell? ⟨bb,oo+n*3,none⟩=_:=Ab hB _ _ (hacs 0 _ rfl)
    have g1:=Ab hB _ _ (hacs 1 _ rfl)
    have g2:=Ab hB _ _ (hacs 2 _ rfl)
    have hba:=bA wr (zf #[zd U ek2,zd U en2,O xa2 xl2 xc2] 94)
    have hBa:=hB.trans (hba.mono hB.size)
    have K6:=Aa (AP K m ga gn gc sa sn sc ya yn yc oa on oc va vn vc (some ⟨b,off,none⟩) fs.length fc ba bn bc _ dn _ (har.over hBa) hv)
    obtain ⟨f0,f1,f2,f3,f4,f5,f6,f7⟩:=co8 hba d0 d1 d2 d3 d4 d5 d6 d7
    clear hacs hdcl hal3 htk hdn hek2 hen2 hxl2 har
    go_wp2_with fail
    refine (K6.o).mono ?_
    rintro e w6 ⟨he,hb6⟩
    have hB6:=hBa.trans (hb6.mono hBa.size)
    rcases he with ⟨hex,rfl⟩ | ⟨hnex,rfl⟩
    rotate_left
    ·have HN:=NX.o ⟨HVAR.o,HOT.o⟩ HBB.o
     rw [HFE.o hnex] at HN
     subst HN
     have HNX:=Aa hnex
     clear hnex
     unfold Ak
     go_wp2_with fail
     exact ⟨rfl,Or.inr ⟨HNX.o,rfl⟩,hB6⟩
    obtain ⟨t0,t1,t2,t3,t4,t5,t6,t7⟩:=co8 hb6 f0 f1 f2 f3 f4 f5 f6 f7
    have hnext:∀ a∈das.take (n+1),Am vn K a=0:=fun a ha=>by
     rw [HTK.o,List.mem_append,List.mem_singleton] at ha
     rcases ha with ha | rfl
     ·exact HOK.o a ha
     ·exact hex
    have HNX:=Aa hnext
    clear hnext hex hb6 hBa hba hB K6 d0 f0 d1 f1 d2 f2 d3 f3 d4 f4 d5 f5 d6 f6 d7 f7 g0 g1 g2
    go_wp2_with fail
    exact ⟨⟨n+1,by omega,by go_num,HNX.o,⟨t0,t1,t2,t3,t4,t5,t6,t7⟩,hB6⟩,by simp [intOf];omega⟩
   ·have hall:das.take n=das:=List.take_of_length_le (by have:=HAL.o;omega)
    have hok2:=HOK.o
    rw [hall] at hok2
    have HOK2:=Aa hok2
    clear hok2 hall
    go_wp2_with fail
    go_end0
    refine ⟨Or.inl ⟨HQ.o ⟨HVAR.o,HOT.o,⟨HZ1.o,HZ2.o,HXL.o⟩,⟨fun f hf=>?_,HOK2.o⟩,?_,?_⟩,rfl⟩,hB⟩
    rotate_left
    ·have hq:=HZ_1.o;simp at hq;omega
    ·have hq:=HZ_2.o;simp at hq;omega
    have h1:=HGET.o
    simp only [Int.toNat_natCast] at hf
    rw [h1] at hf
    rw [<-Option.some.inj hf]
    exact HPN.o.symm
def eS1 (K:Nat) (nv ni no:Nat) (funcs:Int) (fs:List FnD) (d:D):Int:=
 if Ae d=1 then (if (0<=(Av d)/\(Av d) < nv) then if ((Ac d)=0)/\(((Ah d).length)=0)/\(((Af d).length)=0)/\(((Al d).length)=0) then Am nv K (Ai d) else 1 else 5)
 else if Ae d=2 then (if (0<=(Av d)/\(Av d) < nv)/\(0<=(Ac d)/\(Ac d) < funcs) then if ((Ap (Ai d))=0/\(AA (Ai d))=0/\((Ar (Ai d)).length)=0)/\(∀ f,fs[(Ac d).toNat]? = some f->f.ps.length=((Ah d).length))/\(((Af d).length)=0)/\(((Al d).length)=0) then Bs ((Ah d).map fun a=>Am nv K a) else 1 else 5)
 else if Ae d=3 then (if (0<=(Av d)/\(Av d) < nv)/\(0<=(Ac d)/\(Ac d) < (ni:Int)) then if ((Ap (Ai d))=0/\(AA (Ai d))=0/\((Ar (Ai d)).length)=0)/\(((Ah d).length)=0)/\(((Af d).length)=0)/\(((Al d).length)=0) then 0 else 1 else 5)
 else if Ae d=4 then (if (0<=(Ac d)/\(Ac d) < (no:Int)) then if ((Av d)=0)/\(((Ah d).length)=0)/\(((Af d).length)=0)/\(((Al d).length)=0) then Am nv K (Ai d) else 1 else 5)
 else if Ae d=5 then (if (0<=(Av d)/\(Av d) < nv) then if ((Ac d)=0)/\(((Ah d).length)=0)/\(((Af d).length)=0)/\(((Al d).length)=0) then Am nv K (Ai d) else 1 else 5)
 else if Ae d=6 then (if (0<=(Av d)/\(Av d) < nv) then if ((Ac d)=0)/\(((Ah d).length)=0)/\(((Af d).length)=0)/\(((Al d).length)=0) then Am nv K (Ai d) else 1 else 5)
 else if Ae d=7 then (if True then if ((Av d)=0)/\((Ac d)=0)/\(((Ah d).length)=0) then Am nv K (Ai d) else 1 else 5)
 else if Ae d=8 then (if True then if ((Av d)=0)/\((Ac d)=0)/\(((Ah d).length)=0)/\(((Al d).length)=0) then Am nv K (Ai d) else 1 else 5)
 else 7
def eS (K:Nat) (nv ni no:Nat) (funcs:Int) (fs:List FnD):Nat->D->Int
 | 0,_=>7
 | k+1,d=>Bs [eS1 K nv ni no funcs fs d,Bs ((Af d).map (eS K nv ni no funcs fs k)),Bs ((Al d).map (eS K nv ni no funcs fs k))]
theorem f3a {a b c:Int} (h:a≠0):Bs [a,b,c]=a:=by
 have e:[a,b,c]=[a]++[b,c]:=rfl
 rw [e,BT,BH,if_neg h]
theorem f3b {a b c:Int} (h:a=0) (h2:b≠0):Bs [a,b,c]=b:=by
 have e:[a,b,c]=[a]++([b]++[c]):=rfl
 rw [e,BT,BH,if_pos h,BT,BH,if_neg h2]
theorem f3c {a b c:Int} (h:a=0) (h2:b=0):Bs [a,b,c]=c:=by
 have e:[a,b,c]=[a]++([b]++[c]):=rfl
 rw [e,BT,BH,if_pos h,BT,BH,if_pos h2,BH]
theorem EE (kd:Int) (hk:¬ (1<=kd/\kd<=8)) (funcs:Int) (m:Int) (ga gn gc sa sn sc ya yn yc oa on oc va vn vc fa fn fc ba bn bc) (vr ot ek en:Int) (xa xl xc aa al ac ta tl tc ea el ec) (w:World) :
  Calls Tryz.prog 220 #[zg #[zd U m,O ga gn gc,O sa sn sc,O ya yn yc,O oa on oc,O va vn vc,O fa fn fc,O ba bn bc],zg #[zd U kd,zd U vr,zd U ot,zd U ek,zd U en,O xa xl xc,O aa al ac,O ta tl tc,O ea el ec],zd U funcs] w (BB 7 w):=by
 have K1:=Aa (Ej kd hk)
 have K2:=Aa AM
 have hbel:Ov w ((w.alloc (zf #[zd U m,O ga gn gc,O sa sn sc,O ya yn yc,O oa on oc,O va vn vc,O fa fn fc,O ba bn bc] 184)).alloc (zf #[zd U kd,zd U vr,zd U ot,zd U ek,zd U en,O xa xl xc,O aa al ac,O ta tl tc,O ea el ec] 130)):=(bA w _).alloc (by simp) _
 clear hk
 go_enter Tryz.func220,Tryz.ntmps220
 go_wp2_with fail
 refine (K1.o _).mono ?_
 rintro e w1 ⟨rfl,hb1⟩
 have hB1:=hbel.trans (hb1.mono hbel.size)
 have hB2:=hB1.trans ((bA w1 (zf #[ze false,ze false,ze false,ze false,ze false,ze false] 288)).mono hB1.size)
 clear hb1 hbel
 go_wp2_with fail
 refine (K2.o _ _ _).mono ?_
 rintro e wz ⟨he,rfl⟩
 have he2:e=Ak 7:=by
  rcases he with ⟨he,_⟩ | ⟨_,he⟩
  ·cases he
  ·exact he
 subst he2
 clear he
 unfold Ak
 go_wp2_with fail
 exact ⟨rfl,Or.inr ⟨by decide,rfl⟩,hB2⟩
theorem DG (K k kf:Nat) (fs) (funcs:Int) (m:Int) (ga gn gc sa sn sc) (ya:Option Addr) (yn yc:Nat) (oa:Option Addr) (on oc:Nat) (va:Option Addr) (vn vc:Nat) (fa fn fc ba bn bc) (cs:List Value) (d) (w:World) (hv:vn<=9223372036854775807) (h0f:0<=funcs) (h1f:funcs<=9223372036854775807) (hyl:yn<=9223372036854775807) (hol:on<=9223372036854775807)
  (hs:RS w K (k+1) cs d) (hfs:AL w K kf (O fa fn fc) fs) (hff:funcs<=fs.length) :
  Calls Tryz.prog 220 #[zg #[zd U m,O ga gn gc,O sa sn sc,O ya yn yc,O oa on oc,O va vn vc,O fa fn fc,O ba bn bc],.agg cs.toArray,zd U funcs] w (BB (eS1 K vn yn on funcs fs d) w):=by
 obtain ⟨ek,en,xa,xl,xc,aa,ac,ta,tc,ea,ec,rfl,i0,i1,i2,hde,hda,-,-,hek,hen,hxl⟩:=hs.form
 unfold eS1
 by_cases hk:1<=Ae d/\Ae d<=8
 ·rcases (by omega:Ae d=1\/Ae d=2\/Ae d=3\/Ae d=4\/Ae d=5\/Ae d=6\/Ae d=7\/Ae d=8) with h | h | h | h | h | h | h | h
  ·have H:=G3 K kf fs (Ai d) (Ah d) funcs m ga gn gc sa sn sc ya yn yc oa on oc va vn vc fa fn fc ba bn bc (Av d) (Ac d) ek en xa xl xc aa (Ah d).length ac ta (Af d).length tc ea (Al d).length ec w hv i1 i2 h0f h1f hyl hol hde hda hfs hff
   have e:(sC (Ae d) (Av d) (Ac d) ek en xa xl xc aa (Ah d).length ac ta (Af d).length tc ea (Al d).length ec).toArray=#[zd U 1,zd U (Av d),zd U (Ac d),zd U ek,zd U en,O xa xl xc,O aa (Ah d).length ac,O ta (Af d).length tc,O ea (Al d).length ec]:=by rw [h]
   rw [e]
   exact H.mono fun e w' hg=>hg.imp (by rw [h];(try rw [hek,hen,hxl]);rfl)
  ·have H:=G2 K kf fs (Ai d) (Ah d) funcs m ga gn gc sa sn sc ya yn yc oa on oc va vn vc fa fn fc ba bn bc (Av d) (Ac d) ek en xa xl xc aa (Ah d).length ac ta (Af d).length tc ea (Al d).length ec w hv i1 i2 h0f h1f hyl hol hde hda hfs hff
   have e:(sC (Ae d) (Av d) (Ac d) ek en xa xl xc aa (Ah d).length ac ta (Af d).length tc ea (Al d).length ec).toArray=#[zd U 2,zd U (Av d),zd U (Ac d),zd U ek,zd U en,O xa xl xc,O aa (Ah d).length ac,O ta (Af d).length tc,O ea (Al d).length ec]:=by rw [h]
   rw [e]
   exact H.mono fun e w' hg=>hg.imp (by rw [h];(try rw [hek,hen,hxl]);rfl)
  ·have H:=G1 K kf fs (Ai d) (Ah d) funcs m ga gn gc sa sn sc ya yn yc oa on oc va vn vc fa fn fc ba bn bc (Av d) (Ac d) ek en xa xl xc aa (Ah d).length ac ta (Af d).length tc ea (Al d).length ec w hv i1 i2 h0f h1f hyl hol hde hda hfs hff
   have e:(sC (Ae d) (Av d) (Ac d) ek en xa xl xc aa (Ah d).length ac ta (Af d).length tc ea (Al d).length ec).toArray=#[zd U 3,zd U (Av d),zd U (Ac d),zd U ek,zd U en,O xa xl xc,O aa (Ah d).length ac,O ta (Af d).length tc,O ea (Al d).length ec]:=by rw [h]
   rw [e]
   exact H.mono fun e w' hg=>hg.imp (by rw [h];(try rw [hek,hen,hxl]);rfl)
  ·have H:=G0 K kf fs (Ai d) (Ah d) funcs m ga gn gc sa sn sc ya yn yc oa on oc va vn vc fa fn fc ba bn bc (Av d) (Ac d) ek en xa xl xc aa (Ah d).length ac ta (Af d).length tc ea (Al d).length ec w hv i1 i2 h0f h1f hyl hol hde hda hfs hff
   have e:(sC (Ae d) (Av d) (Ac d) ek en xa xl xc aa (Ah d).length ac ta (Af d).length tc ea (Al d).length ec).toArray=#[zd U 4,zd U (Av d),zd U (Ac d),zd U ek,zd U en,O xa xl xc,O aa (Ah d).length ac,O ta (Af d).length tc,O ea (Al d).length ec]:=by rw [h]
   rw [e]
   exact H.mono fun e w' hg=>hg.imp (by rw [h];(try rw [hek,hen,hxl]);rfl)
  ·have H:=GZ K kf fs (Ai d) (Ah d) funcs m ga gn gc sa sn sc ya yn yc oa on oc va vn vc fa fn fc ba bn bc (Av d) (Ac d) ek en xa xl xc aa (Ah d).length ac ta (Af d).length tc ea (Al d).length ec w hv i1 i2 h0f h1f hyl hol hde hda hfs hff
   have e:(sC (Ae d) (Av d) (Ac d) ek en xa xl xc aa (Ah d).length ac ta (Af d).length tc ea (Al d).length ec).toArray=#[zd U 5,zd U (Av d),zd U (Ac d),zd U ek,zd U en,O xa xl xc,O aa (Ah d).length ac,O ta (Af d).length tc,O ea (Al d).length ec]:=by rw [h]
   rw [e]
   exact H.mono fun e w' hg=>hg.imp (by rw [h];(try rw [hek,hen,hxl]);rfl)
  ·have H:=GY K kf fs (Ai d) (Ah d) funcs m ga gn gc sa sn sc ya yn yc oa on oc va vn vc fa fn fc ba bn bc (Av d) (Ac d) ek en xa xl xc aa (Ah d).length ac ta (Af d).length tc ea (Al d).length ec w hv i1 i2 h0f h1f hyl hol hde hda hfs hff
   have e:(sC (Ae d) (Av d) (Ac d) ek en xa xl xc aa (Ah d).length ac ta (Af d).length tc ea (Al d).length ec).toArray=#[zd U 6,zd U (Av d),zd U (Ac d),zd U ek,zd U en,O xa xl xc,O aa (Ah d).length ac,O ta (Af d).length tc,O ea (Al d).length ec]:=by rw [h]
   rw [e]
   exact H.mono fun e w' hg=>hg.imp (by rw [h];(try rw [hek,hen,hxl]);rfl)
  ·have H:=GX K kf fs (Ai d) (Ah d) funcs m ga gn gc sa sn sc ya yn yc oa on oc va vn vc fa fn fc ba bn bc (Av d) (Ac d) ek en xa xl xc aa (Ah d).length ac ta (Af d).length tc ea (Al d).length ec w hv i1 i2 h0f h1f hyl hol hde hda hfs hff
   have e:(sC (Ae d) (Av d) (Ac d) ek en xa xl xc aa (Ah d).length ac ta (Af d).length tc ea (Al d).length ec).toArray=#[zd U 7,zd U (Av d),zd U (Ac d),zd U ek,zd U en,O xa xl xc,O aa (Ah d).length ac,O ta (Af d).length tc,O ea (Al d).length ec]:=by rw [h]
   rw [e]
   exact H.mono fun e w' hg=>hg.imp (by rw [h];(try rw [hek,hen,hxl]);rfl)
  ·have H:=GW K kf fs (Ai d) (Ah d) funcs m ga gn gc sa sn sc ya yn yc oa on oc va vn vc fa fn fc ba bn bc (Av d) (Ac d) ek en xa xl xc aa (Ah d).length ac ta (Af d).length tc ea (Al d).length ec w hv i1 i2 h0f h1f hyl hol hde hda hfs hff
   have e:(sC (Ae d) (Av d) (Ac d) ek en xa xl xc aa (Ah d).length ac ta (Af d).length tc ea (Al d).length ec).toArray=#[zd U 8,zd U (Av d),zd U (Ac d),zd U ek,zd U en,O xa xl xc,O aa (Ah d).length ac,O ta (Af d).length tc,O ea (Al d).length ec]:=by rw [h]
   rw [e]
   exact H.mono fun e w' hg=>hg.imp (by rw [h];(try rw [hek,hen,hxl]);rfl)
 ·exact (EE (Ae d) hk funcs m ga gn gc sa sn sc ya yn yc oa on oc va vn vc fa fn fc ba bn bc (Av d) (Ac d) ek en xa xl xc aa (Ah d).length ac ta (Af d).length tc ea (Al d).length ec w).mono fun e w' hg=>hg.imp (by rw [if_neg (by omega),if_neg (by omega),if_neg (by omega),if_neg (by omega),if_neg (by omega),if_neg (by omega),if_neg (by omega),if_neg (by omega)])
theorem Cy (K kf:Nat) (fs:List FnD) (funcs:Int) (m:Int) (ga gn gc sa sn sc) (ya:Option Addr) (yn yc:Nat) (oa:Option Addr) (on oc:Nat) (va:Option Addr) (vn vc:Nat) (fa fn fc) (ba bn bc) (hv:vn<=9223372036854775807) (h0f:0<=funcs) (h1f:funcs<=9223372036854775807) (hyl:yn<=9223372036854775807) (hol:on<=9223372036854775807) (hff:funcs<=fs.length):∀ (k:Nat) (v:Value) (l:List D) (w:World),AD w K k v l->AL w K kf (O fa fn fc) fs ->
  Calls Tryz.prog 177 #[zg #[zd U m,O ga gn gc,O sa sn sc,O ya yn yc,O oa on oc,O va vn vc,O fa fn fc,O ba bn bc],v,zd U funcs] w (BB (Bs (l.map (eS K vn yn on funcs fs k))) w):=by
 intro k
 induction k with
 | zero=>
  intro v l w h hf
  obtain rfl:=h.zero
  obtain ⟨-,ao,cap,rfl,-⟩:=h
  have hbel:Ov w (w.alloc (zf #[zd U m,O ga gn gc,O sa sn sc,O ya yn yc,O oa on oc,O va vn vc,O fa fn fc,O ba bn bc] 184)):=bA w _
  show Calls Tryz.prog 177 #[zg #[zd U m,O ga gn gc,O sa sn sc,O ya yn yc,O oa on oc,O va vn vc,O fa fn fc,O ba bn bc],O ao 0 cap,zd U funcs] w _
  clear hf
  go_enter Tryz.func177,Tryz.ntmps177
  go_wp2_with fail
  go_loopw [10] (fun i wr=>i=zd U 0/\Ov w wr) (fun _ _=>0)
  case atStart=>exact ⟨rfl,hbel⟩
  case round=>
   obtain ⟨rfl,hB⟩:=hrel
   go_wp2_with fail
   go_end0
   exact ⟨Or.inl ⟨rfl,rfl⟩,hB⟩
 | succ k ih=>
  intro v l w h hf
  have hlen:l.length<=9223372036854775807:=h.1
  obtain ⟨ao,cap,rfl,hc⟩:=h.2
  obtain ⟨E,hE⟩:∃ E:Int,E=Bs (l.map (eS K vn yn on funcs fs (k+1))):=⟨_,rfl⟩
  rw [<-hE]
  have HE:=Aa hE
  clear hE
  have HC:=Aa hc
  have HF:=Aa hf
  have IH:=Aa ih
  have KS:=Aa fun cs d W (hs:RS W K (k+1) cs d) (hfs:AL W K (max kf (k+1)) (O fa fn fc) fs)=>DG K k (max kf (k+1)) fs funcs m ga gn gc sa sn sc ya yn yc oa on oc va vn vc fa fn fc ba bn bc cs d W hv h0f h1f hyl hol hs hfs hff
  clear hc ih h hf
  have hbel:Ov w (w.alloc (zf #[zd U m,O ga gn gc,O sa sn sc,O ya yn yc,O oa on oc,O va vn vc,O fa fn fc,O ba bn bc] 184)):=bA w _
  obtain ⟨c0,c1,c2,c3,c4,c5,c6,c7⟩:=rc8 (Ay w [zd U m,O ga gn gc,O sa sn sc,O ya yn yc,O oa on oc,O va vn vc,O fa fn fc,O ba bn bc] 184)
  go_enter Tryz.func177,Tryz.ntmps177
  go_wp2_with fail
  go_loopw [10] (fun i wr=>∃ j:Nat,j<=l.length/\i=zd U j/\(∀ s∈l.take j,eS K vn yn on funcs fs (k+1) s=0)/\(wr.cell? ⟨w.heap.size,0,none⟩=some (zd U m)/\wr.cell? ⟨w.heap.size,1,none⟩=some (O ga gn gc)/\wr.cell? ⟨w.heap.size,2,none⟩=some (O sa sn sc)/\wr.cell? ⟨w.heap.size,3,none⟩=some (O ya yn yc)/\wr.cell? ⟨w.heap.size,4,none⟩=some (O oa on oc)/\wr.cell? ⟨w.heap.size,5,none⟩=some (O va vn vc)/\wr.cell? ⟨w.heap.size,6,none⟩=some (O fa fn fc)/\wr.cell? ⟨w.heap.size,7,none⟩=some (O ba bn bc))/\Ov w wr) (fun i _=>l.length - (intOf i).toNat)
  case atStart=>exact ⟨0,Nat.zero_le _,rfl,by simp,⟨c0,c1,c2,c3,c4,c5,c6,c7⟩,hbel⟩
  case round=>
   clear c0 c1 c2 c3 c4 c5 c6 c7 hbel
   obtain ⟨j,hj,rfl,hok,⟨c0,c1,c2,c3,c4,c5,c6,c7⟩,hB⟩:=hrel
   have HOK:=Aa hok
   clear hok
   by_cases hjl:j < l.length
   ·obtain ⟨b,off,rfl,hcl⟩:=HC.o (by rintro rfl;simp at hjl)
    obtain ⟨cs,hl9,hcs,hr⟩:=hcl j l[j] (List.getElem?_eq_getElem hjl)
    have htk:l.take (j+1)=l.take j++[l[j]]:=List.take_succ_eq_append_getElem hjl
    obtain ⟨d,hd⟩:=nm (l[j])
    have hmd:eS K vn yn on funcs fs (k+1) l[j]≠0->E=eS K vn yn on funcs fs (k+1) l[j]:=fun h=>by
     rw [HE.o]
     exact Ds hjl HOK.o h
    rw [<-hd] at hr htk hmd
    have HMD:=Aa hmd
    clear hmd
    have HTK:=Aa htk
    obtain ⟨ek,en,xa,xl,xc,aa,ac,ta,tc,ea,ec,hcse,-,-,-,-,-,hT,hE,-,-,-⟩:=hr.form
    subst hcse
    obtain ⟨kd,hkd⟩:=nm (Ae d)
    obtain ⟨vr,hvr⟩:=nm (Av d)
    obtain ⟨ot,hot⟩:=nm (Ac d)
    obtain ⟨al,hal⟩:=nm ((Ah d).length)
    obtain ⟨tl,htl⟩:=nm ((Af d).length)
    obtain ⟨el,hel⟩:=nm ((Al d).length)
    rw [<-hkd,<-hvr,<-hot,<-hal,<-htl,<-hel] at hcs hr
    rw [<-htl] at hT
    rw [<-hel] at hE
    have q0:wr.cell? ⟨b,off+j*9,none⟩=_:=Ab hB _ _ (hcs 0 _ rfl)
    have q1:=Ab hB _ _ (hcs 1 _ rfl)
    have q2:=Ab hB _ _ (hcs 2 _ rfl)
    have q3:=Ab hB _ _ (hcs 3 _ rfl)
    have q4:=Ab hB _ _ (hcs 4 _ rfl)
    have q5:=Ab hB _ _ (hcs 5 _ rfl)
    have q6:=Ab hB _ _ (hcs 6 _ rfl)
    have q7:=Ab hB _ _ (hcs 7 _ rfl)
    have q8:=Ab hB _ _ (hcs 8 _ rfl)
    have hba:Ov wr (wr.alloc (zf #[zd U kd,zd U vr,zd U ot,zd U ek,zd U en,O xa xl xc,O aa al ac,O ta tl tc,O ea el ec] 130)):=bA wr _
    have hBa:=hB.trans (hba.mono hB.size)
    obtain ⟨f0,f1,f2,f3,f4,f5,f6,f7⟩:=co8 hba c0 c1 c2 c3 c4 c5 c6 c7
    obtain ⟨s0,s1,s2,s3,s4,s5,s6,s7,s8⟩:=rc9 (Ay wr [zd U kd,zd U vr,zd U ot,zd U ek,zd U en,O xa xl xc,O aa al ac,O ta tl tc,O ea el ec] 130)
    have K1:=Aa (KS.o _ d _ (RS.mono (Ab hBa) (k+1) (k+1) _ d (Nat.le_refl _) hr) ((HF.o.over hBa).mono (Nat.le_max_left _ _)))
    have K2:=Aa fun W (hW:Ov w W)=>IH.o (O ta tl tc) (Af d) W (hT.over hW) (HF.o.over hW)
    have K3:=Aa fun W (hW:Ov w W)=>IH.o (O ea el ec) (Al d) W (hE.over hW) (HF.o.over hW)
    clear hT hE hcs hcl hr hl9 hkd hvr hot hal htl hel hd htk
    go_wp2_with fail
    refine (K1.o).mono ?_
    rintro e w1 ⟨he,hb1⟩
    have hB1:=hBa.trans (hb1.mono hBa.size)
    rcases he with ⟨hp1,rfl⟩ | ⟨hnp,rfl⟩
    rotate_left
    ·have he3:eS K vn yn on funcs fs (k+1) d=_:=f3a hnp
     have HN:=(HMD.o (by rw [he3];exact hnp)).trans he3
     subst HN
     have HNX:=Aa hnp
     clear hnp he3
     unfold Ak
     go_wp2_with fail
     exact ⟨rfl,Or.inr ⟨HNX.o,rfl⟩,hB1⟩
    have HP1:=Aa hp1
    obtain ⟨t7,t8,g0,g1,g2,g3,g4,g5,g6,g7⟩:=Bh hb1 s7 s8 f0 f1 f2 f3 f4 f5 f6 f7
    have K2':=Aa (K2.o w1 hB1)
    clear K1 K2 hp1 hb1 hBa hba hB c0 c1 c2 c3 c4 c5 c6 c7 f0 f1 f2 f3 f4 f5 f6 f7 q0 q1 q2 q3 q4 q5 q6 q7 q8 s0 s1 s2 s3 s4 s5 s6 s7 s8
    go_wp2_with fail
    refine (K2'.o).mono ?_
    rintro e w2 ⟨he,hb2⟩
    have hB2:=hB1.trans (hb2.mono hB1.size)
    rcases he with ⟨hp2,rfl⟩ | ⟨hnp,rfl⟩
    rotate_left
    ·have he3:eS K vn yn on funcs fs (k+1) d=_:=f3b HP1.o hnp
     have HN:=(HMD.o (by rw [he3];exact hnp)).trans he3
     subst HN
     have HNX:=Aa hnp
     clear hnp he3
     unfold Ak
     go_wp2_with fail
     exact ⟨rfl,Or.inr ⟨HNX.o,rfl⟩,hB2⟩
    have HP2:=Aa hp2
    obtain ⟨u8,r0,r1,r2,r3,r4,r5,r6,r7⟩:=co9 hb2 t8 g0 g1 g2 g3 g4 g5 g6 g7
    have K3':=Aa (K3.o w2 hB2)
    clear K2' K3 hp2 hb2 hB1 g0 g1 g2 g3 g4 g5 g6 g7 t7 t8
    go_wp2_with fail
    refine (K3'.o).mono ?_
    rintro e w3 ⟨he,hb3⟩
    have hB3:=hB2.trans (hb3.mono hB2.size)
    rcases he with ⟨hp3,rfl⟩ | ⟨hnp,rfl⟩
    rotate_left
    ·have he3:eS K vn yn on funcs fs (k+1) d=_:=f3c HP1.o HP2.o
     have HN:=(HMD.o (by rw [he3];exact hnp)).trans he3
     subst HN
     have HNX:=Aa hnp
     clear hnp he3
     unfold Ak
     go_wp2_with fail
     exact ⟨rfl,Or.inr ⟨HNX.o,rfl⟩,hB3⟩
    obtain ⟨z0,z1,z2,z3,z4,z5,z6,z7⟩:=co8 hb3 r0 r1 r2 r3 r4 r5 r6 r7
    have hnext:∀ s∈l.take (j+1),eS K vn yn on funcs fs (k+1) s=0:=fun s hs=>by
     rw [HTK.o,List.mem_append,List.mem_singleton] at hs
     rcases hs with hs | rfl
     ·exact HOK.o s hs
     ·exact (f3c HP1.o HP2.o).trans hp3
    have HNX:=Aa hnext
    clear hnext hp3 K3' hb3 hB2 r0 r1 r2 r3 r4 r5 r6 r7 u8
    go_wp2_with fail
    exact ⟨⟨j+1,by omega,by go_num,HNX.o,⟨z0,z1,z2,z3,z4,z5,z6,z7⟩,hB3⟩,by simp [intOf];omega⟩
   ·have hall:l.take j=l:=List.take_of_length_le (by omega)
    have hok2:=HOK.o
    rw [hall] at hok2
    have HOK2:=Aa hok2
    clear hok2 hall
    go_wp2_with fail
    go_end0
    exact ⟨Or.inl ⟨by rw [HE.o];exact CU (by intro x hx;obtain ⟨s,hs,rfl⟩:=List.mem_map.1 hx;exact HOK2.o s hs),rfl⟩,hB⟩
theorem f2a {a b:Int} (h:a≠0):Bs [a,b]=a:=by
 have e:[a,b]=[a]++[b]:=rfl
 rw [e,BT,BH,if_neg h]
theorem f2b {a b:Int} (h:a=0):Bs [a,b]=b:=by
 have e:[a,b]=[a]++[b]:=rfl
 rw [e,BT,BH,if_pos h,BH]
def eF (K:Nat) (nv ni no:Nat) (ahead:Int) (fs:List FnD) (k:Nat) (f:FnD):Int:=
 if f.ps.length<=4 then if (∀ p∈f.ps,0<=p/\p < (nv:Int)) then if (∀ i (h:i < f.ps.length),f.ps[i] ∉ f.ps.take i) then Bs [Bs (f.body.map (eS K nv ni no ahead fs k)),Am nv K f.res] else 6 else 5 else 2
abbrev LV (w:World) (m:Int) (ga:Option Addr) (gn gc:Nat) (sa:Option Addr) (sn sc:Nat) (ya:Option Addr) (yn yc:Nat) (oa:Option Addr) (on oc:Nat) (va:Option Addr) (vn vc:Nat) (fa:Option Addr) (fn fc:Nat) (ba:Option Addr) (bn bc:Nat) (pa:Option Addr) (pn pc:Nat) (za:Option Addr) (zn zc:Nat) (ek en:Int) (xa:Option Addr) (xl xc:Nat) (Wz:World):Prop:=Wz.cell? ⟨w.heap.size,0,none⟩=some (zd U m)/\Wz.cell? ⟨w.heap.size,1,none⟩=some (O ga gn gc)/\Wz.cell? ⟨w.heap.size,2,none⟩=some (O sa sn sc)/\Wz.cell? ⟨w.heap.size,3,none⟩=some (O ya yn yc)/\Wz.cell? ⟨w.heap.size,4,none⟩=some (O oa on oc)/\Wz.cell? ⟨w.heap.size,5,none⟩=some (O va vn vc)/\Wz.cell? ⟨w.heap.size,6,none⟩=some (O fa fn fc)/\Wz.cell? ⟨w.heap.size,7,none⟩=some (O ba bn bc)/\Wz.cell? ⟨w.heap.size+1,0,none⟩=some (O pa pn pc)/\Wz.cell? ⟨w.heap.size+1,1,none⟩=some (O za zn zc)/\Wz.cell? ⟨w.heap.size+1,2,none⟩=some (zd U ek)/\Wz.cell? ⟨w.heap.size+1,3,none⟩=some (zd U en)/\Wz.cell? ⟨w.heap.size+1,4,none⟩=some (O xa xl xc)
theorem CN (K kf k:Nat) (fs:List FnD) (f:FnD) (funcs:Int) (m:Int) (ga gn gc sa sn sc) (ya:Option Addr) (yn yc:Nat) (oa:Option Addr) (on oc:Nat) (va:Option Addr) (vn vc:Nat) (fa fn fc ba bn bc pa pn pc za zn zc) (ek en:Int) (xa xl xc) (w:World)
  (hv:vn<=9223372036854775807) (h0f:0<=funcs) (h1f:funcs<=9223372036854775807) (hyl:yn<=9223372036854775807) (hol:on<=9223372036854775807) (hff:funcs<=fs.length)
  (hp:Aq w (O pa pn pc) f.ps) (hpl:f.ps.length<=maxLen) (hpc:pn<=pc/\pc<=maxLen) (hs:AD w K k (O za zn zc) f.body) (hx:RX w K [zd U ek,zd U en,O xa xl xc] f.res) (hfs:AL w K kf (O fa fn fc) fs) :
  Calls Tryz.prog 176 #[zg #[zd U m,O ga gn gc,O sa sn sc,O ya yn yc,O oa on oc,O va vn vc,O fa fn fc,O ba bn bc],zg #[O pa pn pc,O za zn zc,zd U ek,zd U en,O xa xl xc],zd U funcs] w (BB (eF K vn yn on funcs fs k f) w):=by
 obtain ⟨E,hE⟩:∃ E:Int,E=eF K vn yn on funcs fs k f:=⟨_,rfl⟩
 rw [<-hE]
 unfold eF at hE
 have HE:=Aa hE
 clear hE
 have K1:=Aa AM
 have K2:=Aa Ax
 have KS:=Aa fun W (hB:Ov w W)=>Cy K kf fs funcs m ga gn gc sa sn sc ya yn yc oa on oc va vn vc fa fn fc ba bn bc hv h0f h1f hyl hol hff k (O za zn zc) f.body W (hs.over hB) (hfs.over hB)
 have KX:=Aa fun W (hB:Ov w W)=>AP K m ga gn gc sa sn sc ya yn yc oa on oc va vn vc fa fn fc ba bn bc _ f.res W (hx.over hB) hv
 have KC:=Aa fun W (hB:Ov w W) (x:Int) (i:Nat) (hi:i<=pn) (c:Nat)=>Ey.contains_any (f.ps.take i) x (O pa i c) W
 have hpn:pn=f.ps.length:=by obtain ⟨a2,c2,he,-⟩:=hp;injection he
 have HP:=Aa hp
 have HPN:=Aa hpn
 have hpn2:pn<=9223372036854775807:=by rw [hpn];exact hpl
 obtain ⟨hpc1,hpc2⟩:=hpc
 have hpc3:pc<=9223372036854775807:=hpc2
 clear hp hpl hs hx hfs hpn hpc2
 have hbel:Ov w ((w.alloc (zf #[zd U m,O ga gn gc,O sa sn sc,O ya yn yc,O oa on oc,O va vn vc,O fa fn fc,O ba bn bc] 184)).alloc (zf #[O pa pn pc,O za zn zc,zd U ek,zd U en,O xa xl xc] 105)):=(bA w _).alloc (by simp) _
 obtain ⟨c0,c1,c2,c3,c4,c5,c6,c7⟩:=rc8 (CB w [zd U m,O ga gn gc,O sa sn sc,O ya yn yc,O oa on oc,O va vn vc,O fa fn fc,O ba bn bc] 184 (zf #[O pa pn pc,O za zn zc,zd U ek,zd U en,O xa xl xc] 105))
 obtain ⟨f0,f1,f2,f3,f4⟩:=rc5 (CY w (zf #[zd U m,O ga gn gc,O sa sn sc,O ya yn yc,O oa on oc,O va vn vc,O fa fn fc,O ba bn bc] 184) [O pa pn pc,O za zn zc,zd U ek,zd U en,O xa xl xc] 105)
 go_enter Tryz.func176,Tryz.ntmps176
 go_wp2_with fail
 refine (K1.o _ _ _).mono ?_
 rintro e wz ⟨he,rfl⟩
 rcases he with ⟨hz,rfl⟩ | ⟨hz,rfl⟩
 rotate_left
 ·have HN:E=2:=by rw [HE.o,if_neg (by rw [<-HPN.o];simp at hz;omega)]
  subst HN
  clear hz
  unfold Ak
  go_wp2_with fail
  exact ⟨rfl,Or.inr ⟨by decide,rfl⟩,hbel⟩
 have hp4:pn<=4:=by simp at hz;omega
 have HP4:Hx (f.ps.length<=4):=by rw [<-HPN.o];exact hp4
 clear hz hp4
 go_wp2_with fail
 go_loopw [18] (fun i wr=>∃ n:Nat,n<=pn/\i=zd U n/\(∀ p∈f.ps.take n,0<=p/\p < (vn:Int))/\(LV w m ga gn gc sa sn sc ya yn yc oa on oc va vn vc fa fn fc ba bn bc pa pn pc za zn zc ek en xa xl xc wr)/\Ov w wr) (fun i _=>pn - (intOf i).toNat)
 case atStart=>exact ⟨0,Nat.zero_le _,rfl,by simp,⟨c0,c1,c2,c3,c4,c5,c6,c7,f0,f1,f2,f3,f4⟩,hbel⟩
 case round=>
  clear c0 c1 c2 c3 c4 c5 c6 c7 f0 f1 f2 f3 f4 hbel
  obtain ⟨n,hn,rfl,hok,⟨c0,c1,c2,c3,c4,c5,c6,c7,f0,f1,f2,f3,f4⟩,hB⟩:=hrel
  have HOK:=Aa hok
  clear hok
  by_cases hnl:n < pn
  ·have hnd:n < f.ps.length:=by rw [<-HPN.o];exact hnl
   obtain ⟨a2,kk2,he,hpc⟩:=HP.o
   injection he with e1 e2 e3
   subst e1
   obtain ⟨b,off,rfl,hel⟩:=hpc (by intro h;rw [h] at hnd;simp at hnd)
   have q:=Ab hB _ _ (hel n hnd)
   have htk:f.ps.take (n+1)=f.ps.take n++[f.ps[n]]:=List.take_succ_eq_append_getElem hnd
   obtain ⟨x,hx⟩:=nm (f.ps[n])
   have hmx:=List.getElem_mem hnd
   rw [<-hx] at q htk hmx
   have HTK:=Aa htk
   have HMX:=Aa hmx
   clear hmx
   clear hpc hel hx htk e2 e3
   go_wp2_with fail
   refine (K2.o _ _ _).mono ?_
   rintro e wz ⟨rfl,rfl⟩
   go_wp2_with fail
   refine (K1.o _ _ _).mono ?_
   rintro e wz ⟨he,rfl⟩
   rcases he with ⟨hvar,rfl⟩ | ⟨hz,rfl⟩
   rotate_left
   ·have HN:E=5:=by rw [HE.o,if_pos HP4.o,if_neg (fun hf=>absurd (hf x HMX.o) (by simp at hz;omega))]
    subst HN
    clear hz
    unfold Ak
    go_wp2_with fail
    exact ⟨rfl,Or.inr ⟨by decide,rfl⟩,hB⟩
   have hv2:0<=x/\x < vn:=by simpa using hvar
   have hnx:∀ p∈f.ps.take (n+1),0<=p/\p < (vn:Int):=fun p hp=>by
    rw [HTK.o,List.mem_append,List.mem_singleton] at hp
    rcases hp with hp | rfl
    ·exact HOK.o p hp
    ·exact hv2
   have HNX:=Aa hnx
   clear hnx hv2 hvar
   go_wp2_with fail
   exact ⟨⟨n+1,by omega,by go_num,HNX.o,⟨c0,c1,c2,c3,c4,c5,c6,c7,f0,f1,f2,f3,f4⟩,hB⟩,by simp [intOf];omega⟩
  ·have hall:f.ps.take n=f.ps:=List.take_of_length_le (by rw [<-HPN.o];omega)
   have hok2:=HOK.o
   rw [hall] at hok2
   have HOK2:=Aa hok2
   clear hok2 hall HOK
   obtain ⟨w1,hw1⟩:=nm wr
   rw [<-hw1] at c0 c1 c2 c3 c4 c5 c6 c7 f0 f1 f2 f3 f4 hB ⊢
   clear hw1
   go_wp2_with fail
   go_loopw [33] (fun i wr=>∃ n:Nat,n<=pn/\i=zd U n/\Hx (∀ i (h:i < f.ps.length),i < n->f.ps[i] ∉ f.ps.take i)/\(LV w m ga gn gc sa sn sc ya yn yc oa on oc va vn vc fa fn fc ba bn bc pa pn pc za zn zc ek en xa xl xc wr)/\Ov w wr) (fun i _=>pn - (intOf i).toNat)
   case atStart=>exact ⟨0,Nat.zero_le _,rfl,Aa (fun i h hi=>absurd hi (by omega)),⟨c0,c1,c2,c3,c4,c5,c6,c7,f0,f1,f2,f3,f4⟩,hB⟩
   case round=>
    clear c0 c1 c2 c3 c4 c5 c6 c7 f0 f1 f2 f3 f4 hB
    obtain ⟨n,hn,rfl,HDI,⟨c0,c1,c2,c3,c4,c5,c6,c7,f0,f1,f2,f3,f4⟩,hB⟩:=hrel
    by_cases hnl:n < pn
    ·have hnd:n < f.ps.length:=by rw [<-HPN.o];exact hnl
     obtain ⟨a2,kk2,he,hpc⟩:=HP.o
     injection he with e1 e2 e3
     subst e1
     have hpre:=(HP.o.over hB)
     rw [HPN.o] at hpre
     have hpre2:=hpre.prefix (i:=n) (by omega) pc
     obtain ⟨b,off,rfl,hel⟩:=hpc (by intro h;rw [h] at hnd;simp at hnd)
     have q:=Ab hB _ _ (hel n hnd)
     obtain ⟨x,hx⟩:=nm (f.ps[n])
     rw [<-hx] at q
     have HXE:=Aa hx
     have HND:=Aa hnd
     have KC':=Aa (Ey.contains_any _ x _ _ hpre2 (by simp;omega))
     clear hpc hel hx e2 e3 hpre hpre2
     go_wp2_with fail
     refine (KC'.o).mono ?_
     rintro e w5 ⟨rfl,nd,rfl⟩
     obtain ⟨rb,hrb⟩:=nm (decide (x∈f.ps.take n))
     rw [<-hrb]
     have HRB:=Aa hrb
     clear hrb
     have hBd:=below_drewN hB nd
     go_wp2_with fail
     refine (K1.o _ _ _).mono ?_
     rintro e wz ⟨he,rfl⟩
     rcases he with ⟨hz,rfl⟩ | ⟨hz,rfl⟩
     rotate_left
     ·have HN:E=6:=by rw [HE.o,if_pos HP4.o,if_pos HOK2.o,if_neg (fun hf=>absurd (hf n HND.o) (by rw [<-HXE.o];have hq:=HRB.o;simp at hz;rw [hz] at hq;simpa using hq))]
      subst HN
      clear hz
      unfold Ak
      go_wp2_with fail
      exact ⟨rfl,Or.inr ⟨by decide,rfl⟩,hBd⟩
     have HDI2:Hx (∀ i (h:i < f.ps.length),i < n+1->f.ps[i] ∉ f.ps.take i):=Aa (fun i h hi=>by
      by_cases hin:i=n
      ·subst hin
       rw [<-HXE.o]
       have hq:=HRB.o
       simp at hz
       rw [hz] at hq
       simpa using hq
      ·exact HDI.o i h (by omega))
     clear hz
     go_wp2_with fail
     exact ⟨⟨n+1,by omega,by go_num,HDI2,⟨c0,c1,c2,c3,c4,c5,c6,c7,f0,f1,f2,f3,f4⟩,hBd⟩,by simp [intOf];omega⟩
    ·have HDI3:Hx (∀ i (h:i < f.ps.length),f.ps[i] ∉ f.ps.take i):=Aa (fun i h=>HDI.o i h (by have:=HPN.o;omega))
     have KS':=Aa (KS.o _ hB)
     go_wp2_with fail
     refine (KS'.o).mono ?_
     rintro e w6 ⟨he,hb6⟩
     have hB6:=hB.trans (hb6.mono hB.size)
     rcases he with ⟨hbd,rfl⟩ | ⟨hnb,rfl⟩
     rotate_left
     ·have HN:E=Bs (f.body.map (eS K vn yn on funcs fs k)):=by rw [HE.o,if_pos HP4.o,if_pos HOK2.o,if_pos HDI3.o];exact f2a hnb
      subst HN
      have HNX:=Aa hnb
      clear hnb
      unfold Ak
      go_wp2_with fail
      exact ⟨rfl,Or.inr ⟨HNX.o,rfl⟩,hB6⟩
     have HBD:=Aa hbd
     obtain ⟨r0,r1,r2,r3,r4,r5,r6,r7,g0,g1⟩:=Bh hb6 c0 c1 c2 c3 c4 c5 c6 c7 f0 f1
     obtain ⟨g2,g3,g4⟩:=co3 hb6 f2 f3 f4
     have KX':=Aa (KX.o _ hB6)
     clear hbd hb6 hB c0 c1 c2 c3 c4 c5 c6 c7 f0 f1 f2 f3 f4 KS'
     go_wp2_with fail
     refine (KX'.o).mono ?_
     rintro e w7 ⟨he,hb7⟩
     have hB7:=hB6.trans (hb7.mono hB6.size)
     rcases he with ⟨hex,rfl⟩ | ⟨hnb,rfl⟩
     rotate_left
     ·have HN:E=Am vn K f.res:=by rw [HE.o,if_pos HP4.o,if_pos HOK2.o,if_pos HDI3.o];exact f2b HBD.o
      subst HN
      have HNX:=Aa hnb
      clear hnb
      unfold Ak
      go_wp2_with fail
      exact ⟨rfl,Or.inr ⟨HNX.o,rfl⟩,hB7⟩
     have HEX:=Aa hex
     clear hex KX'
     go_wp2_with fail
     go_end0
     exact ⟨Or.inl ⟨by rw [HE.o,if_pos HP4.o,if_pos HOK2.o,if_pos HDI3.o];exact (f2b HBD.o).trans HEX.o,rfl⟩,hB7⟩
end Go.Proofs.YtfffpjkcfnekaaaGreat.Ex.Ez
