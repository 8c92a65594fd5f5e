/- Checks of one command, whatever it is: just when they give up. -/
import Derived.Test.YtfffpjkcfnekaaaGreatH04
import Derived.Deep.RegionHeld2
set_option linter.unusedVariables false
set_option maxHeartbeats 8000000
set_option maxRecDepth 100000
namespace Go.Proofs.YtfffpjkcfnekaaaGreat.Ex.Ey
open Go.RowKit
open Go.Value renaming slice -> O, int -> zd, bool -> ze, agg -> zg, pointer -> zi, tuple -> zj
open Go.IntKind renaming i64 -> U
open Go.Obj renaming cells -> zf
open Go.Ending renaming returned -> zh
def BB (ok:Prop) (w:World) (e:Ending) (w':World):Prop:=((ok/\e=zh (zj #[]))\/(¬ ok/\∃ why:Int,why≠0/\e=Ak why))/\Ov w w'
theorem BB.imp {p q:Prop} {w:World} {e:Ending} {w':World} (h:BB p w e w') (hpq:p ↔ q):BB q w e w':=by
 have:p=q:=propext hpq
 subst this
 exact h
theorem AP (K:Nat) (m:Int) (ga gn gc sa sn sc ya yn yc oa on oc va vn vc fa fn fc ba bn bc) (cs:List Value) (d) (w:World) (h:RX w K cs d) (hv:vn<=9223372036854775807):Calls Tryz.prog 219 #[zg #[zd U m,O ga gn gc,O sa sn sc,O ya yn yc,O oa on oc,O va vn vc,O fa fn fc,O ba bn bc],.agg cs.toArray] w (BB (Am vn K d=0) w):=by
 have K1:=Aa fun W hB=>check_any K cs d W (vn:Int) (by omega) (by omega) (h.over hB)
 have K2:=Aa CP
 obtain ⟨xa,xc,rfl⟩:=h.form
 obtain ⟨ek,hek⟩:=nm (Ap d)
 obtain ⟨en,hen⟩:=nm (AA d)
 obtain ⟨xl,hxl⟩:=nm ((Ar d).length)
 rw [<-hek,<-hen,<-hxl] at K1 ⊢
 clear hek hen hxl h
 obtain ⟨r,hr⟩:=nm (Am vn K d)
 rw [<-hr] at K1 ⊢
 clear hr
 have hbel:Ov w ((w.alloc (zf #[zd U m,O ga gn gc,O sa sn sc,O ya yn yc,O oa on oc,O va vn vc,O fa fn fc,O ba bn bc] 184)).alloc (zf #[zd U ek,zd U en,O xa xl xc] 94)):=(bA w _).alloc (by simp) _
 show Calls Tryz.prog 219 #[zg #[zd U m,O ga gn gc,O sa sn sc,O ya yn yc,O oa on oc,O va vn vc,O fa fn fc,O ba bn bc],zg #[zd U ek,zd U en,O xa xl xc]] w _
 go_enter Tryz.func219,Tryz.ntmps219
 go_wp2_with fail
 refine (K1.o _ hbel).mono ?_
 rintro e w1 ⟨rfl,hb1⟩
 have hB1:=hbel.trans (hb1.mono hbel.size)
 go_wp2_with fail
 refine (K2.o _ _).mono ?_
 rintro e wz ⟨he,rfl⟩
 rcases he with ⟨h0,rfl⟩ | ⟨h0,rfl⟩
 ·have h1:r=0:=by simpa using h0
  clear h0
  subst h1
  go_wp2_with fail
  go_end0
  exact ⟨Or.inl ⟨by first | rfl | trivial,rfl⟩,hB1⟩
 ·have h1:r≠0:=by simpa using h0
  unfold Ak
  go_wp2_with fail
  exact ⟨rfl,Or.inr ⟨by first | exact h1 | simp,r,h1,rfl⟩,hB1⟩
theorem Ck {w w0 w1:World} {a0 a1 a2 a3 a4 a5 a6 a7 a8 a9 a10:Addr} {v0 v1 v2 v3 v4 v5 v6 v7 v8 v9 v10:Value}
  (h:w0.cell? a0=some v0/\w0.cell? a1=some v1/\w0.cell? a2=some v2/\w0.cell? a3=some v3/\w0.cell? a4=some v4/\w0.cell? a5=some v5/\w0.cell? a6=some v6/\w0.cell? a7=some v7/\w0.cell? a8=some v8/\w0.cell? a9=some v9/\w0.cell? a10=some v10/\Ov w w0) (hb:Ov w0 w1) :
  w1.cell? a0=some v0/\w1.cell? a1=some v1/\w1.cell? a2=some v2/\w1.cell? a3=some v3/\w1.cell? a4=some v4/\w1.cell? a5=some v5/\w1.cell? a6=some v6/\w1.cell? a7=some v7/\w1.cell? a8=some v8/\w1.cell? a9=some v9/\w1.cell? a10=some v10/\Ov w w1:=by
 obtain ⟨h0,h1,h2,h3,h4,h5,h6,h7,h8,h9,h10,hB⟩:=h
 exact ⟨Ab hb _ _ h0,Ab hb _ _ h1,Ab hb _ _ h2,Ab hb _ _ h3,Ab hb _ _ h4,Ab hb _ _ h5,Ab hb _ _ h6,Ab hb _ _ h7,Ab hb _ _ h8,Ab hb _ _ h9,Ab hb _ _ h10,hB.trans (hb.mono hB.size)⟩
theorem G1 (K k:Nat) (fs de das) (funcs:Int) (m:Int) (ga gn gc sa sn sc) (ya:Option Addr) (yn yc:Nat) (oa:Option Addr) (on oc:Nat) (va:Option Addr) (vn vc:Nat) (fa fn fc ba bn bc) (vr ot ek en:Int) (xa xl xc aa al ac ta tl tc ea el ec) (w:World) (hv:vn<=9223372036854775807) (i1:Bn vr) (i2:Bn ot) (h0f:0<=funcs) (h1f:funcs<=9223372036854775807) (hyl:yn<=9223372036854775807) (hol:on<=9223372036854775807)
  (hde:RX w K [zd U ek,zd U en,O xa xl xc] de) (hda:XS 3 (RX w K) w (O aa al ac) das) (hfs:AL w K k (O fa fn fc) fs) (hff:funcs<=fs.length) :
  Calls Tryz.prog 220 #[zg #[zd U m,O ga gn gc,O sa sn sc,O ya yn yc,O oa on oc,O va vn vc,O fa fn fc,O ba bn bc],zg #[zd U 3,zd U vr,zd U ot,zd U ek,zd U en,O xa xl xc,O aa al ac,O ta tl tc,O ea el ec],zd U funcs] w (BB ((0<=vr/\vr < vn)/\(0<=ot/\ot < (yn:Int))/\(ek=0/\en=0/\xl=0)/\(al=0)/\(tl=0)/\(el=0)) w):=by
 obtain ⟨Q,hQ⟩:∃ Q:Prop,Q=((0<=vr/\vr < vn)/\(0<=ot/\ot < (yn:Int))/\(ek=0/\en=0/\xl=0)/\(al=0)/\(tl=0)/\(el=0)):=⟨_,rfl⟩
 rw [<-hQ]
 have HQ:Hx (((0<=vr/\vr < vn)/\(0<=ot/\ot < (yn:Int))/\(ek=0/\en=0/\xl=0)/\(al=0)/\(tl=0)/\(el=0))->Q):=Aa (fun p=>by rw [hQ];exact p)
 have N1:Hx (¬ (0<=vr/\vr < vn)->¬ Q):=Aa (fun h p=>by rw [hQ] at p;exact h p.1)
 have N2:Hx (¬ (0<=ot/\ot < (yn:Int))->¬ Q):=Aa (fun h p=>by rw [hQ] at p;exact h p.2.1)
 have N3:Hx (¬ (ek=0/\en=0/\xl=0)->¬ Q):=Aa (fun h p=>by rw [hQ] at p;exact h p.2.2.1)
 have N4:Hx (¬ (al=0)->¬ Q):=Aa (fun h p=>by rw [hQ] at p;exact h p.2.2.2.1)
 have N5:Hx (¬ (tl=0)->¬ Q):=Aa (fun h p=>by rw [hQ] at p;exact h p.2.2.2.2.1)
 have N6:Hx (¬ (el=0)->¬ Q):=Aa (fun h p=>by rw [hQ] at p;exact h p.2.2.2.2.2)
 clear hQ
 have K1:=Aa Ge
 have K2:=Aa AM
 have K3:=Aa Ax
 have K4:=Aa fun W=>AY 3 funcs m ga gn gc sa sn sc ya yn yc oa on oc va vn vc fa fn fc ba bn bc W
 simp only [Int.reduceEq,if_true,if_false] at K4
 have K5:=Aa fun W (hB:Ov w W)=>AP K m ga gn gc sa sn sc ya yn yc oa on oc va vn vc fa fn fc ba bn bc _ _ W (hde.over hB) hv
 have hal:al<=9223372036854775807/\al=das.length:=⟨by obtain ⟨hm,ao,cap,he,-⟩:=hda;injection he with e1 e2 e3;rw [e2];exact hm,by obtain ⟨hm,ao,cap,he,-⟩:=hda;injection he⟩
 obtain ⟨hal,hale⟩:=hal
 have HAL:=Aa hale
 obtain ⟨i1,i1'⟩:=i1
 obtain ⟨i2,i2'⟩:=i2
 clear hde hda hfs hale
 obtain ⟨c0,c1,c2,c3,c4,c5,c6,c7⟩:=rc8 (CB w [zd U m,O ga gn gc,O sa sn sc,O ya yn yc,O oa on oc,O va vn vc,O fa fn fc,O ba bn bc] 184 (zf #[zd U 3,zd U vr,zd U ot,zd U ek,zd U en,O xa xl xc,O aa al ac,O ta tl tc,O ea el ec] 130))
 obtain ⟨s0,s1,s2,s3,s4,s5,s6,s7,s8⟩:=rc9 (CY w (zf #[zd U m,O ga gn gc,O sa sn sc,O ya yn yc,O oa on oc,O va vn vc,O fa fn fc,O ba bn bc] 184) [zd U 3,zd U vr,zd U ot,zd U ek,zd U en,O xa xl xc,O aa al ac,O ta tl tc,O ea el ec] 130)
 have hbel:Ov w ((w.alloc (zf #[zd U m,O ga gn gc,O sa sn sc,O ya yn yc,O oa on oc,O va vn vc,O fa fn fc,O ba bn bc] 184)).alloc (zf #[zd U 3,zd U vr,zd U ot,zd U ek,zd U en,O xa xl xc,O aa al ac,O ta tl tc,O ea el ec] 130)):=(bA w _).alloc (by simp) _
 go_enter Tryz.func220,Tryz.ntmps220
 go_wp2_with fail
 refine (K1.o _).mono ?_
 rintro e w1 ⟨rfl,hb1⟩
 have hB1:=hbel.trans (hb1.mono hbel.size)
 have hb2:=Ag hb1 (bA w1 (zf #[ze true,ze true,ze false,ze false,ze false,ze false] 288))
 have hB2:=hbel.trans (hb2.mono hbel.size)
 obtain ⟨c0a,c1a,c2a,c3a,c4a,c5a,c6a,c7a,s0a,s1a⟩:=Bh hb2 c0 c1 c2 c3 c4 c5 c6 c7 s0 s1
 obtain ⟨s2a,s3a,s4a,s5a,s6a,s7a,s8a⟩:=co7 hb2 s2 s3 s4 s5 s6 s7 s8
 obtain ⟨h0a,h1a,h2a,h3a,h4a,h5a⟩:=rc6 (Ay w1 [ze true,ze true,ze false,ze false,ze false,ze false] 288)
 clear hb1 hb2 hbel hB1 c0 c1 c2 c3 c4 c5 c6 c7 s0 s1 s2 s3 s4 s5 s6 s7 s8
 go_wp2_with fail
 refine (K2.o _ _ _).mono ?_
 rintro e wz ⟨he,rfl⟩
 have he2:=orT he
 subst he2
 clear he
 go_wp2_with fail
 refine (K3.o _ _ _).mono ?_
 rintro e wz ⟨rfl,rfl⟩
 go_wp2_with fail
 refine (K2.o _ _ _).mono ?_
 rintro e wz ⟨he,rfl⟩
 rcases he with ⟨hvar,rfl⟩ | ⟨hz,rfl⟩
 rotate_left
 ·skip
  have HN:=nO N1 N2 N3 N4 N5 N6 hz
  clear hz
  unfold Ak
  go_wp2_with fail
  exact ⟨rfl,Or.inr ⟨HN.o,5,by decide,rfl⟩,hB2⟩
 have hvar2:0<=vr/\vr < vn:=by simpa using hvar
 have HVAR:=Aa hvar2
 clear hvar hvar2
 go_wp2_with fail
 have hr0:=Below.refl (w1.alloc (zf #[ze true,ze true,ze false,ze false,ze false,ze false] 288)).heap.size (w1.alloc (zf #[ze true,ze true,ze false,ze false,ze false,ze false] 288))
 obtain ⟨ob,hob⟩:=nm (decide (0<=ot/\ot < (yn:Int)))
 have K3o:=Aa fun W=>Ax ot (yn:Int) W
 rw [<-hob] at K3o
 have HOB:=Aa hob
 clear hob
 cases ob with
 | false=>
  have HNO:=Aa (N2.o (by have hq:=HOB.o;simp at hq;omega))
  go_region_held2 (fun W=>W.cell? ⟨w.heap.size,0,none⟩=some (zd U m)/\W.cell? ⟨w.heap.size,1,none⟩=some (O ga gn gc)/\W.cell? ⟨w.heap.size,2,none⟩=some (O sa sn sc)/\W.cell? ⟨w.heap.size,3,none⟩=some (O ya yn yc)/\W.cell? ⟨w.heap.size,4,none⟩=some (O oa on oc)/\W.cell? ⟨w.heap.size,5,none⟩=some (O va vn vc)/\W.cell? ⟨w.heap.size,6,none⟩=some (O fa fn fc)/\W.cell? ⟨w.heap.size,7,none⟩=some (O ba bn bc)/\W.cell? ⟨w.heap.size+1,0,none⟩=some (zd U 3)/\W.cell? ⟨w.heap.size+1,2,none⟩=some (zd U ot)/\W.cell? ⟨w1.heap.size,1,none⟩=some (ze true)/\Ov (w1.alloc (zf #[ze true,ze true,ze false,ze false,ze false,ze false] 288)) W) (first | assumption | exact ⟨c0a,c1a,c2a,c3a,c4a,c5a,c6a,c7a,s0a,s2a,h1a,below_drewN hr0 1⟩ | exact Ck (by assumption) hbp | fail) (first | (go_at_call 244;refine (K4.o _).mono ?_;rintro e wp ⟨rfl,hbp⟩) | (go_at_call 173;refine (K3o.o _).mono ?_;rintro e wq ⟨rfl,rfl⟩) | (go_at_call 172;refine (K2.o false 5 _).mono ?_;rintro e wq ⟨he,rfl⟩;rcases he with ⟨hb,rfl⟩ | ⟨hb,rfl⟩;rotate_left;exact ⟨rfl,Or.inr ⟨HNO.o,5,by decide,rfl⟩,hB2.trans ((by assumption:_/\_/\_/\_/\_/\_/\_/\_/\_/\_/\_/\Below _ _ _).2.2.2.2.2.2.2.2.2.2.2.mono hB2.size)⟩;have hbad:=Aa hb;clear hb))
  exact absurd hbad.o (by simp)
 | true=>
  have hot:0<=ot/\ot < (yn:Int):=by simpa using HOB.o.symm
  have HOT:=Aa hot
  clear hot
  go_region_held3 (fun W=>W.cell? ⟨w.heap.size,0,none⟩=some (zd U m)/\W.cell? ⟨w.heap.size,1,none⟩=some (O ga gn gc)/\W.cell? ⟨w.heap.size,2,none⟩=some (O sa sn sc)/\W.cell? ⟨w.heap.size,3,none⟩=some (O ya yn yc)/\W.cell? ⟨w.heap.size,4,none⟩=some (O oa on oc)/\W.cell? ⟨w.heap.size,5,none⟩=some (O va vn vc)/\W.cell? ⟨w.heap.size,6,none⟩=some (O fa fn fc)/\W.cell? ⟨w.heap.size,7,none⟩=some (O ba bn bc)/\W.cell? ⟨w.heap.size+1,0,none⟩=some (zd U 3)/\W.cell? ⟨w.heap.size+1,2,none⟩=some (zd U ot)/\W.cell? ⟨w1.heap.size,1,none⟩=some (ze true)/\Ov (w1.alloc (zf #[ze true,ze true,ze false,ze false,ze false,ze false] 288)) W) (first | assumption | exact ⟨c0a,c1a,c2a,c3a,c4a,c5a,c6a,c7a,s0a,s2a,h1a,below_drewN hr0 1⟩ | exact Ck (by assumption) hbp | fail) (first | (go_at_call 244;refine (K4.o _).mono ?_;rintro e wp ⟨rfl,hbp⟩) | (go_at_call 173;refine (K3o.o _).mono ?_;rintro e wq ⟨rfl,rfl⟩) | (go_at_call 172;refine (AH 5 _).mono ?_;rintro e wq ⟨rfl,rfl⟩))
  have hb2:=(by assumption:_/\_/\_/\_/\_/\_/\_/\_/\_/\_/\_/\Below _ _ _).2.2.2.2.2.2.2.2.2.2.2
  have hB3:=hB2.trans (hb2.mono hB2.size)
  obtain ⟨c0b,c1b,c2b,c3b,c4b,c5b,c6b,c7b,s0b,s1b⟩:=Bh hb2 c0a c1a c2a c3a c4a c5a c6a c7a s0a s1a
  obtain ⟨s2b,s3b,s4b,s5b,s6b,s7b,s8b,h0b,h1b,h2b⟩:=Bh hb2 s2a s3a s4a s5a s6a s7a s8a h0a h1a h2a
  obtain ⟨h3b,h4b,h5b⟩:=co3 hb2 h3a h4a h5a
  clear hb2 hB2 hr0 c0a c1a c2a c3a c4a c5a c6a c7a s0a s1a s2a s3a s4a s5a s6a s7a s8a h0a h1a h2a h3a h4a h5a
  go_wp2_with fail
  refine (K2.o _ _ _).mono ?_
  rintro e wz ⟨he,rfl⟩
  have he2:=orT he
  subst he2
  clear he
  go_wp2_with fail
  refine (K2.o _ _ _).mono ?_
  rintro e wz ⟨he,rfl⟩
  have he2:=orT he
  subst he2
  clear he
  by_cases z1:ek=0
  rotate_left
  ·have zb:(ek == 0)=false:=by simpa using z1
   have HN:=Aa (N3.o (by omega))
   go_wp2_with fail
   refine (K2.o _ _ _).mono ?_
   rintro e wz ⟨he,rfl⟩
   have he2:e=Ak 1:=by
    rcases he with ⟨he,_⟩ | ⟨_,he⟩
    ·cases he
    ·exact he
   subst he2
   clear he
   unfold Ak
   go_wp2_with fail
   exact ⟨rfl,Or.inr ⟨HN.o,1,by decide,rfl⟩,hB3⟩
  have zb1:(ek == 0)=true:=by simpa using z1
  have HZ1:=Aa z1
  clear z1
  by_cases z2:en=0
  rotate_left
  ·have zb:(en == 0)=false:=by simpa using z2
   have HN:=Aa (N3.o (by omega))
   go_wp2_with fail
   refine (K2.o _ _ _).mono ?_
   rintro e wz ⟨he,rfl⟩
   have he2:e=Ak 1:=by
    rcases he with ⟨he,_⟩ | ⟨_,he⟩
    ·cases he
    ·exact he
   subst he2
   clear he
   unfold Ak
   go_wp2_with fail
   exact ⟨rfl,Or.inr ⟨HN.o,1,by decide,rfl⟩,hB3⟩
  have zb2:(en == 0)=true:=by simpa using z2
  have HZ2:=Aa z2
  clear z2
  go_wp2_with fail
  refine (K2.o _ _ _).mono ?_
  rintro e wz ⟨he,rfl⟩
  rcases he with ⟨hz,rfl⟩ | ⟨hz,rfl⟩
  rotate_left
  ·skip
   have HN:=nO N1 N2 N3 N4 N5 N6 hz
   clear hz
   unfold Ak
   go_wp2_with fail
   exact ⟨rfl,Or.inr ⟨HN.o,1,by decide,rfl⟩,hB3⟩
  have hxl0:xl=0:=by simp at hz;omega
  have HXL:=Aa hxl0
  clear hz hxl0
  go_wp2_with fail
  refine (K2.o _ _ _).mono ?_
  rintro e wz ⟨he,rfl⟩
  rcases he with ⟨hargs,rfl⟩ | ⟨hz,rfl⟩
  rotate_left
  ·skip
   have HN:=nO N1 N2 N3 N4 N5 N6 hz
   clear hz
   unfold Ak
   go_wp2_with fail
   exact ⟨rfl,Or.inr ⟨HN.o,1,by decide,rfl⟩,hB3⟩
  have hal0:al=0:=by simp at hargs;omega
  subst hal0
  clear hargs
  go_wp2_with fail
  refine (K2.o _ _ _).mono ?_
  rintro e wz ⟨he,rfl⟩
  rcases he with ⟨hz,rfl⟩ | ⟨hz,rfl⟩
  rotate_left
  ·skip
   have HN:=nO N1 N2 N3 N4 N5 N6 hz
   clear hz
   unfold Ak
   go_wp2_with fail
   exact ⟨rfl,Or.inr ⟨HN.o,1,by decide,rfl⟩,hB3⟩
  have HZ_1:=Aa hz
  clear hz
  go_wp2_with fail
  refine (K2.o _ _ _).mono ?_
  rintro e wz ⟨he,rfl⟩
  rcases he with ⟨hz,rfl⟩ | ⟨hz,rfl⟩
  rotate_left
  ·skip
   have HN:=nO N1 N2 N3 N4 N5 N6 hz
   clear hz
   unfold Ak
   go_wp2_with fail
   exact ⟨rfl,Or.inr ⟨HN.o,1,by decide,rfl⟩,hB3⟩
  have HZ_2:=Aa hz
  clear hz
  go_wp2_with fail
  go_quiet ((go_at_call 172;exact Calls.quiet_of_same (AH _ _)))
  obtain ⟨c0q,c1q,c2q,c3q,c4q,c5q,c6q,c7q,s0q,s1q⟩:=Bl (n:=nq) c0b c1b c2b c3b c4b c5b c6b c7b s0b s1b
  obtain ⟨s2q,s3q,s4q,s5q,s6q,s7q,s8q,h0q,h1q,h2q⟩:=Bl (n:=nq) s2b s3b s4b s5b s6b s7b s8b h0b h1b h2b
  obtain ⟨h3q,h4q,h5q⟩:=cn3 (n:=nq) h3b h4b h5b
  have hBq:=below_drewN hB3 nq
  clear c0b c1b c2b c3b c4b c5b c6b c7b s0b s1b s2b s3b s4b s5b s6b s7b s8b h0b h1b h2b h3b h4b h5b
  go_wp2_with fail
  go_loopw [138] (fun i wr=>i=zd U 0/\Ov w wr) (fun _ _=>0)
  case atStart=>exact ⟨rfl,hBq⟩
  case round=>
   obtain ⟨rfl,hB⟩:=hrel
   go_wp2_with fail
   go_end0
   refine ⟨Or.inl ⟨HQ.o ⟨?_,?_,?_,?_,?_,?_⟩,rfl⟩,hB⟩
   all_goals first | trivial | exact HVAR.o | exact HOT.o | exact HEX.o | exact ⟨HZ1.o,HZ2.o,HXL.o⟩ | (have hq:=HZ_1.o;simp at hq;omega) | (have hq:=HZ_2.o;simp at hq;omega) | omega
theorem G0 (K k:Nat) (fs de das) (funcs:Int) (m:Int) (ga gn gc sa sn sc) (ya:Option Addr) (yn yc:Nat) (oa:Option Addr) (on oc:Nat) (va:Option Addr) (vn vc:Nat) (fa fn fc ba bn bc) (vr ot ek en:Int) (xa xl xc aa al ac ta tl tc ea el ec) (w:World) (hv:vn<=9223372036854775807) (i1:Bn vr) (i2:Bn ot) (h0f:0<=funcs) (h1f:funcs<=9223372036854775807) (hyl:yn<=9223372036854775807) (hol:on<=9223372036854775807)
  (hde:RX w K [zd U ek,zd U en,O xa xl xc] de) (hda:XS 3 (RX w K) w (O aa al ac) das) (hfs:AL w K k (O fa fn fc) fs) (hff:funcs<=fs.length) :
  Calls Tryz.prog 220 #[zg #[zd U m,O ga gn gc,O sa sn sc,O ya yn yc,O oa on oc,O va vn vc,O fa fn fc,O ba bn bc],zg #[zd U 4,zd U vr,zd U ot,zd U ek,zd U en,O xa xl xc,O aa al ac,O ta tl tc,O ea el ec],zd U funcs] w (BB ((vr=0)/\(0<=ot/\ot < (on:Int))/\(Am vn K de=0)/\(al=0)/\(tl=0)/\(el=0)) w):=by
 obtain ⟨Q,hQ⟩:∃ Q:Prop,Q=((vr=0)/\(0<=ot/\ot < (on:Int))/\(Am vn K de=0)/\(al=0)/\(tl=0)/\(el=0)):=⟨_,rfl⟩
 rw [<-hQ]
 have HQ:Hx (((vr=0)/\(0<=ot/\ot < (on:Int))/\(Am vn K de=0)/\(al=0)/\(tl=0)/\(el=0))->Q):=Aa (fun p=>by rw [hQ];exact p)
 have N1:Hx (¬ (vr=0)->¬ Q):=Aa (fun h p=>by rw [hQ] at p;exact h p.1)
 have N2:Hx (¬ (0<=ot/\ot < (on:Int))->¬ Q):=Aa (fun h p=>by rw [hQ] at p;exact h p.2.1)
 have N3:Hx (¬ (Am vn K de=0)->¬ Q):=Aa (fun h p=>by rw [hQ] at p;exact h p.2.2.1)
 have N4:Hx (¬ (al=0)->¬ Q):=Aa (fun h p=>by rw [hQ] at p;exact h p.2.2.2.1)
 have N5:Hx (¬ (tl=0)->¬ Q):=Aa (fun h p=>by rw [hQ] at p;exact h p.2.2.2.2.1)
 have N6:Hx (¬ (el=0)->¬ Q):=Aa (fun h p=>by rw [hQ] at p;exact h p.2.2.2.2.2)
 clear hQ
 have K1:=Aa Gd
 have K2:=Aa AM
 have K3:=Aa Ax
 have K4:=Aa fun W=>AY 4 funcs m ga gn gc sa sn sc ya yn yc oa on oc va vn vc fa fn fc ba bn bc W
 simp only [Int.reduceEq,if_false] at K4
 have K5:=Aa fun W (hB:Ov w W)=>AP K m ga gn gc sa sn sc ya yn yc oa on oc va vn vc fa fn fc ba bn bc _ _ W (hde.over hB) hv
 have hal:al<=9223372036854775807/\al=das.length:=⟨by obtain ⟨hm,ao,cap,he,-⟩:=hda;injection he with e1 e2 e3;rw [e2];exact hm,by obtain ⟨hm,ao,cap,he,-⟩:=hda;injection he⟩
 obtain ⟨hal,hale⟩:=hal
 have HAL:=Aa hale
 obtain ⟨i1,i1'⟩:=i1
 obtain ⟨i2,i2'⟩:=i2
 clear hde hda hfs hale
 obtain ⟨c0,c1,c2,c3,c4,c5,c6,c7⟩:=rc8 (CB w [zd U m,O ga gn gc,O sa sn sc,O ya yn yc,O oa on oc,O va vn vc,O fa fn fc,O ba bn bc] 184 (zf #[zd U 4,zd U vr,zd U ot,zd U ek,zd U en,O xa xl xc,O aa al ac,O ta tl tc,O ea el ec] 130))
 obtain ⟨s0,s1,s2,s3,s4,s5,s6,s7,s8⟩:=rc9 (CY w (zf #[zd U m,O ga gn gc,O sa sn sc,O ya yn yc,O oa on oc,O va vn vc,O fa fn fc,O ba bn bc] 184) [zd U 4,zd U vr,zd U ot,zd U ek,zd U en,O xa xl xc,O aa al ac,O ta tl tc,O ea el ec] 130)
 have hbel:Ov w ((w.alloc (zf #[zd U m,O ga gn gc,O sa sn sc,O ya yn yc,O oa on oc,O va vn vc,O fa fn fc,O ba bn bc] 184)).alloc (zf #[zd U 4,zd U vr,zd U ot,zd U ek,zd U en,O xa xl xc,O aa al ac,O ta tl tc,O ea el ec] 130)):=(bA w _).alloc (by simp) _
 go_enter Tryz.func220,Tryz.ntmps220
 go_wp2_with fail
 refine (K1.o _).mono ?_
 rintro e w1 ⟨rfl,hb1⟩
 have hB1:=hbel.trans (hb1.mono hbel.size)
 have hb2:=Ag hb1 (bA w1 (zf #[ze false,ze true,ze true,ze false,ze false,ze false] 288))
 have hB2:=hbel.trans (hb2.mono hbel.size)
 obtain ⟨c0a,c1a,c2a,c3a,c4a,c5a,c6a,c7a,s0a,s1a⟩:=Bh hb2 c0 c1 c2 c3 c4 c5 c6 c7 s0 s1
 obtain ⟨s2a,s3a,s4a,s5a,s6a,s7a,s8a⟩:=co7 hb2 s2 s3 s4 s5 s6 s7 s8
 obtain ⟨h0a,h1a,h2a,h3a,h4a,h5a⟩:=rc6 (Ay w1 [ze false,ze true,ze true,ze false,ze false,ze false] 288)
 clear hb1 hb2 hbel hB1 c0 c1 c2 c3 c4 c5 c6 c7 s0 s1 s2 s3 s4 s5 s6 s7 s8
 go_wp2_with fail
 refine (K2.o _ _ _).mono ?_
 rintro e wz ⟨he,rfl⟩
 have he2:=orT he
 subst he2
 clear he
 go_wp2_with fail
 refine (K2.o _ _ _).mono ?_
 rintro e wz ⟨he,rfl⟩
 have he2:=orT he
 subst he2
 clear he
 go_wp2_with fail
 have hr0:=Below.refl (w1.alloc (zf #[ze false,ze true,ze true,ze false,ze false,ze false] 288)).heap.size (w1.alloc (zf #[ze false,ze true,ze true,ze false,ze false,ze false] 288))
 obtain ⟨ob,hob⟩:=nm (decide (0<=ot/\ot < (on:Int)))
 have K3o:=Aa fun W=>Ax ot (on:Int) W
 rw [<-hob] at K3o
 have HOB:=Aa hob
 clear hob
 cases ob with
 | false=>
  have HNO:=Aa (N2.o (by have hq:=HOB.o;simp at hq;omega))
  go_region_held2 (fun W=>W.cell? ⟨w.heap.size,0,none⟩=some (zd U m)/\W.cell? ⟨w.heap.size,1,none⟩=some (O ga gn gc)/\W.cell? ⟨w.heap.size,2,none⟩=some (O sa sn sc)/\W.cell? ⟨w.heap.size,3,none⟩=some (O ya yn yc)/\W.cell? ⟨w.heap.size,4,none⟩=some (O oa on oc)/\W.cell? ⟨w.heap.size,5,none⟩=some (O va vn vc)/\W.cell? ⟨w.heap.size,6,none⟩=some (O fa fn fc)/\W.cell? ⟨w.heap.size,7,none⟩=some (O ba bn bc)/\W.cell? ⟨w.heap.size+1,0,none⟩=some (zd U 4)/\W.cell? ⟨w.heap.size+1,2,none⟩=some (zd U ot)/\W.cell? ⟨w1.heap.size,1,none⟩=some (ze true)/\Ov (w1.alloc (zf #[ze false,ze true,ze true,ze false,ze false,ze false] 288)) W) (first | assumption | exact ⟨c0a,c1a,c2a,c3a,c4a,c5a,c6a,c7a,s0a,s2a,h1a,below_drewN hr0 1⟩ | exact Ck (by assumption) hbp | fail) (first | (go_at_call 244;refine (K4.o _).mono ?_;rintro e wp ⟨rfl,hbp⟩) | (go_at_call 173;refine (K3o.o _).mono ?_;rintro e wq ⟨rfl,rfl⟩) | (go_at_call 172;refine (K2.o false 5 _).mono ?_;rintro e wq ⟨he,rfl⟩;rcases he with ⟨hb,rfl⟩ | ⟨hb,rfl⟩;rotate_left;exact ⟨rfl,Or.inr ⟨HNO.o,5,by decide,rfl⟩,hB2.trans ((by assumption:_/\_/\_/\_/\_/\_/\_/\_/\_/\_/\_/\Below _ _ _).2.2.2.2.2.2.2.2.2.2.2.mono hB2.size)⟩;have hbad:=Aa hb;clear hb))
  exact absurd hbad.o (by simp)
 | true=>
  have hot:0<=ot/\ot < (on:Int):=by simpa using HOB.o.symm
  have HOT:=Aa hot
  clear hot
  go_region_held3 (fun W=>W.cell? ⟨w.heap.size,0,none⟩=some (zd U m)/\W.cell? ⟨w.heap.size,1,none⟩=some (O ga gn gc)/\W.cell? ⟨w.heap.size,2,none⟩=some (O sa sn sc)/\W.cell? ⟨w.heap.size,3,none⟩=some (O ya yn yc)/\W.cell? ⟨w.heap.size,4,none⟩=some (O oa on oc)/\W.cell? ⟨w.heap.size,5,none⟩=some (O va vn vc)/\W.cell? ⟨w.heap.size,6,none⟩=some (O fa fn fc)/\W.cell? ⟨w.heap.size,7,none⟩=some (O ba bn bc)/\W.cell? ⟨w.heap.size+1,0,none⟩=some (zd U 4)/\W.cell? ⟨w.heap.size+1,2,none⟩=some (zd U ot)/\W.cell? ⟨w1.heap.size,1,none⟩=some (ze true)/\Ov (w1.alloc (zf #[ze false,ze true,ze true,ze false,ze false,ze false] 288)) W) (first | assumption | exact ⟨c0a,c1a,c2a,c3a,c4a,c5a,c6a,c7a,s0a,s2a,h1a,below_drewN hr0 1⟩ | exact Ck (by assumption) hbp | fail) (first | (go_at_call 244;refine (K4.o _).mono ?_;rintro e wp ⟨rfl,hbp⟩) | (go_at_call 173;refine (K3o.o _).mono ?_;rintro e wq ⟨rfl,rfl⟩) | (go_at_call 172;refine (AH 5 _).mono ?_;rintro e wq ⟨rfl,rfl⟩))
  have hb2:=(by assumption:_/\_/\_/\_/\_/\_/\_/\_/\_/\_/\_/\Below _ _ _).2.2.2.2.2.2.2.2.2.2.2
  have hB3:=hB2.trans (hb2.mono hB2.size)
  obtain ⟨c0b,c1b,c2b,c3b,c4b,c5b,c6b,c7b,s0b,s1b⟩:=Bh hb2 c0a c1a c2a c3a c4a c5a c6a c7a s0a s1a
  obtain ⟨s2b,s3b,s4b,s5b,s6b,s7b,s8b,h0b,h1b,h2b⟩:=Bh hb2 s2a s3a s4a s5a s6a s7a s8a h0a h1a h2a
  obtain ⟨h3b,h4b,h5b⟩:=co3 hb2 h3a h4a h5a
  clear hb2 hB2 hr0 c0a c1a c2a c3a c4a c5a c6a c7a s0a s1a s2a s3a s4a s5a s6a s7a s8a h0a h1a h2a h3a h4a h5a
  go_wp2_with fail
  refine (K2.o _ _ _).mono ?_
  rintro e wz ⟨he,rfl⟩
  rcases he with ⟨hz,rfl⟩ | ⟨hz,rfl⟩
  rotate_left
  ·skip
   have HN:=nO N1 N2 N3 N4 N5 N6 hz
   clear hz
   unfold Ak
   go_wp2_with fail
   exact ⟨rfl,Or.inr ⟨HN.o,1,by decide,rfl⟩,hB3⟩
  have HZ_1:=Aa hz
  clear hz
  go_wp2_with fail
  refine (K2.o _ _ _).mono ?_
  rintro e wz ⟨he,rfl⟩
  have he2:=orT he
  subst he2
  clear he
  go_wp2_with fail
  refine (K2.o _ _ _).mono ?_
  rintro e wz ⟨he,rfl⟩
  have he2:=orT he
  subst he2
  clear he
  go_wp2_with fail
  refine (K2.o _ _ _).mono ?_
  rintro e wz ⟨he,rfl⟩
  rcases he with ⟨hargs,rfl⟩ | ⟨hz,rfl⟩
  rotate_left
  ·skip
   have HN:=nO N1 N2 N3 N4 N5 N6 hz
   clear hz
   unfold Ak
   go_wp2_with fail
   exact ⟨rfl,Or.inr ⟨HN.o,1,by decide,rfl⟩,hB3⟩
  have hal0:al=0:=by simp at hargs;omega
  subst hal0
  clear hargs
  go_wp2_with fail
  refine (K2.o _ _ _).mono ?_
  rintro e wz ⟨he,rfl⟩
  rcases he with ⟨hz,rfl⟩ | ⟨hz,rfl⟩
  rotate_left
  ·skip
   have HN:=nO N1 N2 N3 N4 N5 N6 hz
   clear hz
   unfold Ak
   go_wp2_with fail
   exact ⟨rfl,Or.inr ⟨HN.o,1,by decide,rfl⟩,hB3⟩
  have HZ_2:=Aa hz
  clear hz
  go_wp2_with fail
  refine (K2.o _ _ _).mono ?_
  rintro e wz ⟨he,rfl⟩
  rcases he with ⟨hz,rfl⟩ | ⟨hz,rfl⟩
  rotate_left
  ·skip
   have HN:=nO N1 N2 N3 N4 N5 N6 hz
   clear hz
   unfold Ak
   go_wp2_with fail
   exact ⟨rfl,Or.inr ⟨HN.o,1,by decide,rfl⟩,hB3⟩
  have HZ_3:=Aa hz
  clear hz
  go_wp2_with fail
  go_quiet ((go_at_call 172;exact Calls.quiet_of_same (AH _ _)))
  obtain ⟨c0q,c1q,c2q,c3q,c4q,c5q,c6q,c7q,s0q,s1q⟩:=Bl (n:=nq) c0b c1b c2b c3b c4b c5b c6b c7b s0b s1b
  obtain ⟨s2q,s3q,s4q,s5q,s6q,s7q,s8q,h0q,h1q,h2q⟩:=Bl (n:=nq) s2b s3b s4b s5b s6b s7b s8b h0b h1b h2b
  obtain ⟨h3q,h4q,h5q⟩:=cn3 (n:=nq) h3b h4b h5b
  have hBq:=below_drewN hB3 nq
  clear c0b c1b c2b c3b c4b c5b c6b c7b s0b s1b s2b s3b s4b s5b s6b s7b s8b h0b h1b h2b h3b h4b h5b
  go_wp2_with fail
  refine (K5.o _ hBq).mono ?_
  rintro e w5 ⟨he,hb5⟩
  have hB5:=hBq.trans (hb5.mono hBq.size)
  rcases he with ⟨hex,rfl⟩ | ⟨hnex,why,hwhy,rfl⟩
  rotate_left
  ·have HN:=Aa (N3.o hnex)
   clear hnex
   unfold Ak
   go_wp2_with fail
   exact ⟨rfl,Or.inr ⟨HN.o,why,hwhy,rfl⟩,hB5⟩
  obtain ⟨c05,c15,c25,c35,c45,c55,c65,c75,s05,s15⟩:=Bh hb5 c0q c1q c2q c3q c4q c5q c6q c7q s0q s1q
  obtain ⟨s25,s35,s45,s55,s65,s75,s85,h05,h15,h25⟩:=Bh hb5 s2q s3q s4q s5q s6q s7q s8q h0q h1q h2q
  obtain ⟨h35,h45,h55⟩:=co3 hb5 h3q h4q h5q
  have HEX:=Aa hex
  clear hex hb5 c0q c1q c2q c3q c4q c5q c6q c7q s0q s1q s2q s3q s4q s5q s6q s7q s8q h0q h1q h2q h3q h4q h5q
  go_wp2_with fail
  go_loopw [138] (fun i wr=>i=zd U 0/\Ov w wr) (fun _ _=>0)
  case atStart=>exact ⟨rfl,hB5⟩
  case round=>
   obtain ⟨rfl,hB⟩:=hrel
   go_wp2_with fail
   go_end0
   refine ⟨Or.inl ⟨HQ.o ⟨?_,?_,?_,?_,?_,?_⟩,rfl⟩,hB⟩
   all_goals first | trivial | exact HVAR.o | exact HOT.o | exact HEX.o | exact ⟨HZ1.o,HZ2.o,HXL.o⟩ | (have hq:=HZ_1.o;simp at hq;omega) | (have hq:=HZ_2.o;simp at hq;omega) | (have hq:=HZ_3.o;simp at hq;omega) | omega
end Go.Proofs.YtfffpjkcfnekaaaGreat.Ex.Ey
