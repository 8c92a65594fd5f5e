/- Checks of one command, whatever it is. -/
import Derived.Test.YtfffpjkcfnekaaaGreatG07
import Derived.Deep.RegionHeld2
set_option linter.unusedVariables false
set_option maxHeartbeats 8000000
set_option maxRecDepth 100000
namespace Go.Proofs.YtfffpjkcfnekaaaGreat.Ex.Ey
open Go.RowKit
open Go.Value renaming slice -> O, int -> zd, bool -> ze, agg -> zg, pointer -> zi, tuple -> zj
open Go.IntKind renaming i64 -> U
open Go.Obj renaming cells -> zf
open Go.Ending renaming returned -> zh
theorem Gz (K k:Nat) (fs de das) (funcs:Int) (m:Int) (ga gn gc sa sn sc) (ya:Option Addr) (yn yc:Nat) (oa:Option Addr) (on oc:Nat) (va:Option Addr) (vn vc:Nat) (fa fn fc ba bn bc) (vr ot ek en:Int) (xa xl xc aa al ac ta tl tc ea el ec) (w:World) (hv:vn<=9223372036854775807) (i1:Bd vr) (i2:Bd ot) (h0f:0<=funcs) (h1f:funcs<=9223372036854775807) (hyl:yn<=9223372036854775807) (hol:on<=9223372036854775807)
  (hde:RX w K [zd U ek,zd U en,O xa xl xc] de) (hda:XS 3 (RX w K) w (O aa al ac) das) (hfs:AP w K k (O fa fn fc) fs) (hff:funcs<=fs.length) :
  Calls Tryz.prog 220 #[zg #[zd U m,O ga gn gc,O sa sn sc,O ya yn yc,O oa on oc,O va vn vc,O fa fn fc,O ba bn bc],zg #[zd U 2,zd U vr,zd U ot,zd U ek,zd U en,O xa xl xc,O aa al ac,O ta tl tc,O ea el ec],zd U funcs] w (Bw ((0<=vr/\vr < vn)/\(0<=ot/\ot < funcs)/\(ek=0/\en=0/\xl=0)/\((∀ f,fs[ot.toNat]? = some f->f.ps.length=al)/\∀ a∈das,Al vn K a=0)/\(tl=0)/\(el=0)) w):=by
 obtain ⟨Q,hQ⟩:∃ Q:Prop,Q=((0<=vr/\vr < vn)/\(0<=ot/\ot < funcs)/\(ek=0/\en=0/\xl=0)/\((∀ f,fs[ot.toNat]? = some f->f.ps.length=al)/\∀ a∈das,Al vn K a=0)/\(tl=0)/\(el=0)):=⟨_,rfl⟩
 rw [<-hQ]
 have HQ:Hx (((0<=vr/\vr < vn)/\(0<=ot/\ot < funcs)/\(ek=0/\en=0/\xl=0)/\((∀ f,fs[ot.toNat]? = some f->f.ps.length=al)/\∀ a∈das,Al vn K a=0)/\(tl=0)/\(el=0))->Q):=Aa (fun p=>by rw [hQ];exact p)
 have N1:Hx (¬ (0<=vr/\vr < vn)->¬ Q):=Aa (fun h p=>by rw [hQ] at p;exact h p.1)
 have N2:Hx (¬ (0<=ot/\ot < funcs)->¬ Q):=Aa (fun h p=>by rw [hQ] at p;exact h p.2.1)
 have N3:Hx (¬ (ek=0/\en=0/\xl=0)->¬ Q):=Aa (fun h p=>by rw [hQ] at p;exact h p.2.2.1)
 have N4:Hx (¬ ((∀ f,fs[ot.toNat]? = some f->f.ps.length=al)/\∀ a∈das,Al vn K a=0)->¬ Q):=Aa (fun h p=>by rw [hQ] at p;exact h p.2.2.2.1)
 have N5:Hx (¬ (tl=0)->¬ Q):=Aa (fun h p=>by rw [hQ] at p;exact h p.2.2.2.2.1)
 have N6:Hx (¬ (el=0)->¬ Q):=Aa (fun h p=>by rw [hQ] at p;exact h p.2.2.2.2.2)
 clear hQ
 have K1:=Aa FO
 have K2:=Aa AH
 have K3:=Aa Aw
 have K4:=Aa fun W=>AO 2 funcs m ga gn gc sa sn sc ya yn yc oa on oc va vn vc fa fn fc ba bn bc W
 simp only [Int.reduceEq,if_true,if_false] at K4
 have K5:=Aa fun W (hB:Ov w W)=>AI K m ga gn gc sa sn sc ya yn yc oa on oc va vn vc fa fn fc ba bn bc _ _ W (hde.over hB) hv
 have HF:=Aa hfs
 have HA:=Aa hda
 have hal:al<=9223372036854775807/\al=das.length:=⟨by obtain ⟨hm,ao,cap,he,-⟩:=hda;injection he with e1 e2 e3;rw [e2];exact hm,by obtain ⟨hm,ao,cap,he,-⟩:=hda;injection he⟩
 obtain ⟨hal,hale⟩:=hal
 have HAL:=Aa hale
 obtain ⟨i1,i1'⟩:=i1
 obtain ⟨i2,i2'⟩:=i2
 clear hde hda hfs hale
 obtain ⟨c0,c1,c2,c3,c4,c5,c6,c7⟩:=rc8 (Cn w [zd U m,O ga gn gc,O sa sn sc,O ya yn yc,O oa on oc,O va vn vc,O fa fn fc,O ba bn bc] 184 (zf #[zd U 2,zd U vr,zd U ot,zd U ek,zd U en,O xa xl xc,O aa al ac,O ta tl tc,O ea el ec] 130))
 obtain ⟨s0,s1,s2,s3,s4,s5,s6,s7,s8⟩:=rc9 (CJ w (zf #[zd U m,O ga gn gc,O sa sn sc,O ya yn yc,O oa on oc,O va vn vc,O fa fn fc,O ba bn bc] 184) [zd U 2,zd U vr,zd U ot,zd U ek,zd U en,O xa xl xc,O aa al ac,O ta tl tc,O ea el ec] 130)
 have hbel:Ov w ((w.alloc (zf #[zd U m,O ga gn gc,O sa sn sc,O ya yn yc,O oa on oc,O va vn vc,O fa fn fc,O ba bn bc] 184)).alloc (zf #[zd U 2,zd U vr,zd U ot,zd U ek,zd U en,O xa xl xc,O aa al ac,O ta tl tc,O ea el ec] 130)):=(bA w _).alloc (by simp) _
 go_enter Tryz.func220,Tryz.ntmps220
 go_wp2_with fail
 refine (K1.o _).mono ?_
 rintro e w1 ⟨rfl,hb1⟩
 have hB1:=hbel.trans (hb1.mono hbel.size)
 have hb2:=Ag hb1 (bA w1 (zf #[ze true,ze true,ze false,ze true,ze false,ze false] 288))
 have hB2:=hbel.trans (hb2.mono hbel.size)
 obtain ⟨c0a,c1a,c2a,c3a,c4a,c5a,c6a,c7a,s0a,s1a⟩:=A4 hb2 c0 c1 c2 c3 c4 c5 c6 c7 s0 s1
 obtain ⟨s2a,s3a,s4a,s5a,s6a,s7a,s8a⟩:=co7 hb2 s2 s3 s4 s5 s6 s7 s8
 obtain ⟨h0a,h1a,h2a,h3a,h4a,h5a⟩:=rc6 (Az w1 [ze true,ze true,ze false,ze true,ze false,ze false] 288)
 clear hb1 hb2 hbel hB1 c0 c1 c2 c3 c4 c5 c6 c7 s0 s1 s2 s3 s4 s5 s6 s7 s8
 go_wp2_with fail
 refine (K2.o _ _ _).mono ?_
 rintro e wz ⟨he,rfl⟩
 have he2:=orT he
 subst he2
 clear he
 go_wp2_with fail
 refine (K3.o _ _ _).mono ?_
 rintro e wz ⟨rfl,rfl⟩
 go_wp2_with fail
 refine (K2.o _ _ _).mono ?_
 rintro e wz ⟨he,rfl⟩
 rcases he with ⟨hvar,rfl⟩ | ⟨hz,rfl⟩
 rotate_left
 ·skip
  have HN:=nO N1 N2 N3 N4 N5 N6 hz
  clear hz
  unfold Ah
  go_wp2_with fail
  exact ⟨rfl,Or.inr ⟨HN.o,5,by decide,rfl⟩,hB2⟩
 have hvar2:0<=vr/\vr < vn:=by simpa using hvar
 have HVAR:=Aa hvar2
 clear hvar hvar2
 go_wp2_with fail
 have hr0:=Below.refl (w1.alloc (zf #[ze true,ze true,ze false,ze true,ze false,ze false] 288)).heap.size (w1.alloc (zf #[ze true,ze true,ze false,ze true,ze false,ze false] 288))
 obtain ⟨ob,hob⟩:=nm (decide (0<=ot/\ot < funcs))
 have K3o:=Aa fun W=>Aw ot funcs W
 rw [<-hob] at K3o
 have HOB:=Aa hob
 clear hob
 cases ob with
 | false=>
  have HNO:=Aa (N2.o (by have hq:=HOB.o;simp at hq;omega))
  go_region_held2 (fun W=>W.cell? ⟨w.heap.size,0,none⟩=some (zd U m)/\W.cell? ⟨w.heap.size,1,none⟩=some (O ga gn gc)/\W.cell? ⟨w.heap.size,2,none⟩=some (O sa sn sc)/\W.cell? ⟨w.heap.size,3,none⟩=some (O ya yn yc)/\W.cell? ⟨w.heap.size,4,none⟩=some (O oa on oc)/\W.cell? ⟨w.heap.size,5,none⟩=some (O va vn vc)/\W.cell? ⟨w.heap.size,6,none⟩=some (O fa fn fc)/\W.cell? ⟨w.heap.size,7,none⟩=some (O ba bn bc)/\W.cell? ⟨w.heap.size+1,0,none⟩=some (zd U 2)/\W.cell? ⟨w.heap.size+1,2,none⟩=some (zd U ot)/\W.cell? ⟨w1.heap.size,1,none⟩=some (ze true)/\Ov (w1.alloc (zf #[ze true,ze true,ze false,ze true,ze false,ze false] 288)) W) (first | assumption | exact ⟨c0a,c1a,c2a,c3a,c4a,c5a,c6a,c7a,s0a,s2a,h1a,below_drewN hr0 1⟩ | exact B5 (by assumption) hbp | fail) (first | (go_at_call 244;refine (K4.o _).mono ?_;rintro e wp ⟨rfl,hbp⟩) | (go_at_call 173;refine (K3o.o _).mono ?_;rintro e wq ⟨rfl,rfl⟩) | (go_at_call 172;refine (K2.o false 5 _).mono ?_;rintro e wq ⟨he,rfl⟩;rcases he with ⟨hb,rfl⟩ | ⟨hb,rfl⟩;rotate_left;exact ⟨rfl,Or.inr ⟨HNO.o,5,by decide,rfl⟩,hB2.trans ((by assumption:_/\_/\_/\_/\_/\_/\_/\_/\_/\_/\_/\Below _ _ _).2.2.2.2.2.2.2.2.2.2.2.mono hB2.size)⟩;have hbad:=Aa hb;clear hb))
  exact absurd hbad.o (by simp)
 | true=>
  have hot:0<=ot/\ot < funcs:=by simpa using HOB.o.symm
  have HOT:=Aa hot
  clear hot
  go_region_held3 (fun W=>W.cell? ⟨w.heap.size,0,none⟩=some (zd U m)/\W.cell? ⟨w.heap.size,1,none⟩=some (O ga gn gc)/\W.cell? ⟨w.heap.size,2,none⟩=some (O sa sn sc)/\W.cell? ⟨w.heap.size,3,none⟩=some (O ya yn yc)/\W.cell? ⟨w.heap.size,4,none⟩=some (O oa on oc)/\W.cell? ⟨w.heap.size,5,none⟩=some (O va vn vc)/\W.cell? ⟨w.heap.size,6,none⟩=some (O fa fn fc)/\W.cell? ⟨w.heap.size,7,none⟩=some (O ba bn bc)/\W.cell? ⟨w.heap.size+1,0,none⟩=some (zd U 2)/\W.cell? ⟨w.heap.size+1,2,none⟩=some (zd U ot)/\W.cell? ⟨w1.heap.size,1,none⟩=some (ze true)/\Ov (w1.alloc (zf #[ze true,ze true,ze false,ze true,ze false,ze false] 288)) W) (first | assumption | exact ⟨c0a,c1a,c2a,c3a,c4a,c5a,c6a,c7a,s0a,s2a,h1a,below_drewN hr0 1⟩ | exact B5 (by assumption) hbp | fail) (first | (go_at_call 244;refine (K4.o _).mono ?_;rintro e wp ⟨rfl,hbp⟩) | (go_at_call 173;refine (K3o.o _).mono ?_;rintro e wq ⟨rfl,rfl⟩) | (go_at_call 172;refine (AE 5 _).mono ?_;rintro e wq ⟨rfl,rfl⟩))
  have hb2:=(by assumption:_/\_/\_/\_/\_/\_/\_/\_/\_/\_/\_/\Below _ _ _).2.2.2.2.2.2.2.2.2.2.2
  have hB3:=hB2.trans (hb2.mono hB2.size)
  obtain ⟨c0b,c1b,c2b,c3b,c4b,c5b,c6b,c7b,s0b,s1b⟩:=A4 hb2 c0a c1a c2a c3a c4a c5a c6a c7a s0a s1a
  obtain ⟨s2b,s3b,s4b,s5b,s6b,s7b,s8b,h0b,h1b,h2b⟩:=A4 hb2 s2a s3a s4a s5a s6a s7a s8a h0a h1a h2a
  obtain ⟨h3b,h4b,h5b⟩:=co3 hb2 h3a h4a h5a
  clear hb2 hB2 hr0 c0a c1a c2a c3a c4a c5a c6a c7a s0a s1a s2a s3a s4a s5a s6a s7a s8a h0a h1a h2a h3a h4a h5a
  go_wp2_with fail
  refine (K2.o _ _ _).mono ?_
  rintro e wz ⟨he,rfl⟩
  have he2:=orT he
  subst he2
  clear he
  go_wp2_with fail
  refine (K2.o _ _ _).mono ?_
  rintro e wz ⟨he,rfl⟩
  have he2:=orT he
  subst he2
  clear he
  by_cases z1:ek=0
  rotate_left
  ·have zb:(ek == 0)=false:=by simpa using z1
   have HN:=Aa (N3.o (by omega))
   go_wp2_with fail
   refine (K2.o _ _ _).mono ?_
   rintro e wz ⟨he,rfl⟩
   have he2:e=Ah 1:=by
    rcases he with ⟨he,_⟩ | ⟨_,he⟩
    ·cases he
    ·exact he
   subst he2
   clear he
   unfold Ah
   go_wp2_with fail
   exact ⟨rfl,Or.inr ⟨HN.o,1,by decide,rfl⟩,hB3⟩
  have zb1:(ek == 0)=true:=by simpa using z1
  have HZ1:=Aa z1
  clear z1
  by_cases z2:en=0
  rotate_left
  ·have zb:(en == 0)=false:=by simpa using z2
   have HN:=Aa (N3.o (by omega))
   go_wp2_with fail
   refine (K2.o _ _ _).mono ?_
   rintro e wz ⟨he,rfl⟩
   have he2:e=Ah 1:=by
    rcases he with ⟨he,_⟩ | ⟨_,he⟩
    ·cases he
    ·exact he
   subst he2
   clear he
   unfold Ah
   go_wp2_with fail
   exact ⟨rfl,Or.inr ⟨HN.o,1,by decide,rfl⟩,hB3⟩
  have zb2:(en == 0)=true:=by simpa using z2
  have HZ2:=Aa z2
  clear z2
  go_wp2_with fail
  refine (K2.o _ _ _).mono ?_
  rintro e wz ⟨he,rfl⟩
  rcases he with ⟨hz,rfl⟩ | ⟨hz,rfl⟩
  rotate_left
  ·skip
   have HN:=nO N1 N2 N3 N4 N5 N6 hz
   clear hz
   unfold Ah
   go_wp2_with fail
   exact ⟨rfl,Or.inr ⟨HN.o,1,by decide,rfl⟩,hB3⟩
  have hxl0:xl=0:=by simp at hz;omega
  have HXL:=Aa hxl0
  clear hz hxl0
  go_wp2_with fail
  refine (K2.o _ _ _).mono ?_
  rintro e wz ⟨he,rfl⟩
  have he2:=orT he
  subst he2
  clear he
  go_wp2_with fail
  refine (K2.o _ _ _).mono ?_
  rintro e wz ⟨he,rfl⟩
  rcases he with ⟨hz,rfl⟩ | ⟨hz,rfl⟩
  rotate_left
  ·skip
   have HN:=nO N1 N2 N3 N4 N5 N6 hz
   clear hz
   unfold Ah
   go_wp2_with fail
   exact ⟨rfl,Or.inr ⟨HN.o,1,by decide,rfl⟩,hB3⟩
  have HZ_1:=Aa hz
  clear hz
  go_wp2_with fail
  refine (K2.o _ _ _).mono ?_
  rintro e wz ⟨he,rfl⟩
  rcases he with ⟨hz,rfl⟩ | ⟨hz,rfl⟩
  rotate_left
  ·skip
   have HN:=nO N1 N2 N3 N4 N5 N6 hz
   clear hz
   unfold Ah
   go_wp2_with fail
   exact ⟨rfl,Or.inr ⟨HN.o,1,by decide,rfl⟩,hB3⟩
  have HZ_2:=Aa hz
  clear hz
  go_wp2_with fail
  obtain ⟨hot0,hot1⟩:=HOT.o
  obtain ⟨hfl,fa',fc',hfe,hfc⟩:=HF.o
  injection hfe with e1 e2 e3
  subst e1 e2 e3
  obtain ⟨j,rfl⟩:∃ j:Nat,ot=(j:Int):=⟨ot.toNat,by omega⟩
  have hj:j < fs.length:=by omega
  have hfl':fs.length<=9223372036854775807:=hfl
  obtain ⟨b,off,rfl,hcl⟩:=hfc (by rintro rfl;simp at hj)
  obtain ⟨vP,vB,x0,x1,x2,p0,p1,p2,p3,p4,hps,hpl,-,-⟩:=hcl j hj
  obtain ⟨pa,pc,rfl,-⟩:=hps
  have hget:fs[j]? = some fs[j]:=List.getElem?_eq_getElem hj
  obtain ⟨fd,hfd⟩:=nm (fs[j])
  rw [<-hfd] at p0 hpl hget
  obtain ⟨pn,hpn⟩:=nm fd.ps.length
  rw [<-hpn] at p0
  have p0c:=Ab hB3 _ _ p0
  have hpl':pn<=9223372036854775807:=by rw [hpn];exact hpl.1
  have HPN:=Aa hpn
  have HGET:=Aa hget
  clear hfc hcl p0 p1 p2 p3 p4 hget hfd hpn hot0 hot1 hfl hpl
  by_cases hpe:al=pn
  rotate_left
  ·have HNP:=Aa (N4.o (fun hd=>hpe ((hd.1 fd (by simpa using HGET.o)).symm.trans HPN.o.symm)))
   have hpb:((al:Int) == (pn:Int))=false:=by simp;omega
   go_region_held2 (fun W=>W.cell? ⟨w.heap.size+1,0,none⟩=some (zd U 2)/\W.cell? ⟨w.heap.size+1,6,none⟩=some (O aa al ac)/\W.cell? ⟨w.heap.size,6,none⟩=some (O (some ⟨b,off,none⟩) fs.length fc)/\W.cell? ⟨w.heap.size+1,2,none⟩=some (zd U (j:Int))/\W.cell? ⟨b,off+j*5,none⟩=some (O pa pn pc)/\Ov w W) (first | assumption | exact ⟨s0b,s6b,c6b,s2b,p0c,below_drewN hB3 1⟩ | fail) (first | (go_at_call 172;refine (K2.o false 1 _).mono ?_;rintro e wq ⟨he,rfl⟩;rcases he with ⟨hb,rfl⟩ | ⟨hb,rfl⟩;rotate_left;exact ⟨rfl,Or.inr ⟨HNP.o,1,by decide,rfl⟩,(by assumption:_/\_/\_/\_/\_/\Below _ _ _).2.2.2.2.2⟩;have hbad:=Aa hb;clear hb))
   exact absurd hbad.o (by simp)
  subst hpe
  go_quiet ((go_at_call 172;exact Calls.quiet_of_same (AE _ _)))
  obtain ⟨c0q,c1q,c2q,c3q,c4q,c5q,c6q,c7q,s0q,s1q⟩:=Bb (n:=nq) c0b c1b c2b c3b c4b c5b c6b c7b s0b s1b
  obtain ⟨s2q,s3q,s4q,s5q,s6q,s7q,s8q,h0q,h1q,h2q⟩:=Bb (n:=nq) s2b s3b s4b s5b s6b s7b s8b h0b h1b h2b
  obtain ⟨h3q,h4q,h5q⟩:=cn3 (n:=nq) h3b h4b h5b
  have hBq:=below_drewN hB3 nq
  clear c0b c1b c2b c3b c4b c5b c6b c7b s0b s1b s2b s3b s4b s5b s6b s7b s8b h0b h1b h2b h3b h4b h5b p0c
  go_wp2_with fail
  have hda2:=HA.o
  obtain ⟨hdl,aa',ac',hde2,hdc⟩:=hda2
  injection hde2 with a1 a2 a3
  subst a1 a3
  have HDC:=Aa hdc
  clear hdc a2
  have hBB:=hBq
  go_loopw [138] (fun i wr=>∃ n:Nat,n<=al/\i=zd U n/\(∀ a∈das.take n,Al vn K a=0)/\(wr.cell? ⟨w.heap.size,0,none⟩=some (zd U m)/\wr.cell? ⟨w.heap.size,1,none⟩=some (O ga gn gc)/\wr.cell? ⟨w.heap.size,2,none⟩=some (O sa sn sc)/\wr.cell? ⟨w.heap.size,3,none⟩=some (O ya yn yc)/\wr.cell? ⟨w.heap.size,4,none⟩=some (O oa on oc)/\wr.cell? ⟨w.heap.size,5,none⟩=some (O va vn vc)/\wr.cell? ⟨w.heap.size,6,none⟩=some (O (some ⟨b,off,none⟩) fs.length fc)/\wr.cell? ⟨w.heap.size,7,none⟩=some (O ba bn bc))/\Ov w wr) (fun i _=>al - (intOf i).toNat)
  case atStart=>exact ⟨0,Nat.zero_le _,rfl,by simp,⟨c0q,c1q,c2q,c3q,c4q,c5q,c6q,c7q⟩,hBB⟩
  case round=>
   clear hBq hBB c0q c1q c2q c3q c4q c5q c6q c7q s0q s1q s2q s3q s4q s5q s6q s7q s8q h0q h1q h2q h3q h4q h5q
   obtain ⟨n,hn,rfl,hok,⟨d0,d1,d2,d3,d4,d5,d6,d7⟩,hB⟩:=hrel
   have HOK:=Aa hok
   clear hok
   by_cases hnl:n < al
   ·have hnd:n < das.length:=by have:=HAL.o;omega
    obtain ⟨bb,oo,rfl,hdcl⟩:=HDC.o (by rintro rfl;simp at hnd)
    obtain ⟨acs,hal3,hacs,har⟩:=hdcl n das[n] (List.getElem?_eq_getElem hnd)
    have htk:das.take (n+1)=das.take n++[das[n]]:=List.take_succ_eq_append_getElem hnd
    have HTK:=Aa htk
    have HMD:=Aa (List.getElem_mem hnd)
    obtain ⟨xa2,xc2,hxf⟩:=har.form
    obtain ⟨dn,hdn⟩:=nm (das[n])
    rw [<-hdn] at har hxf HTK HMD
    subst hxf
    obtain ⟨ek2,hek2⟩:=nm (Au dn)
    obtain ⟨en2,hen2⟩:=nm (AG dn)
    obtain ⟨xl2,hxl2⟩:=nm ((Ax dn).length)
    rw [<-hek2,<-hen2,<-hxl2] at har hacs
    have g0:wr.cell? ⟨bb,oo+n*3,none⟩=_:=Ab hB _ _ (hacs 0 _ rfl)
    have g1:=Ab hB _ _ (hacs 1 _ rfl)
    have g2:=Ab hB _ _ (hacs 2 _ rfl)
    have hba:=bA wr (zf #[zd U ek2,zd U en2,O xa2 xl2 xc2] 94)
    have hBa:=hB.trans (hba.mono hB.size)
    have K6:=Aa (AI K m ga gn gc sa sn sc ya yn yc oa on oc va vn vc (some ⟨b,off,none⟩) fs.length fc ba bn bc _ dn _ (har.over hBa) hv)
    obtain ⟨f0,f1,f2,f3,f4,f5,f6,f7⟩:=co8 hba d0 d1 d2 d3 d4 d5 d6 d7
    clear hacs hdcl hal3 htk hdn hek2 hen2 hxl2 har
    go_wp2_with fail
    refine (K6.o).mono ?_
    rintro e w6 ⟨he,hb6⟩
    have hB6:=hBa.trans (hb6.mono hBa.size)
    rcases he with ⟨hex,rfl⟩ | ⟨hnex,why,hwhy,rfl⟩
    rotate_left
    ·have HN:=Aa (N4.o (fun hd=>hnex (hd.2 _ HMD.o)))
     clear hnex
     unfold Ah
     go_wp2_with fail
     exact ⟨rfl,Or.inr ⟨HN.o,why,hwhy,rfl⟩,hB6⟩
    obtain ⟨t0,t1,t2,t3,t4,t5,t6,t7⟩:=co8 hb6 f0 f1 f2 f3 f4 f5 f6 f7
    have hnext:∀ a∈das.take (n+1),Al vn K a=0:=fun a ha=>by
     rw [HTK.o,List.mem_append,List.mem_singleton] at ha
     rcases ha with ha | rfl
     ·exact HOK.o a ha
     ·exact hex
    have HNX:=Aa hnext
    clear hnext hex hb6 hBa hba hB K6 d0 f0 d1 f1 d2 f2 d3 f3 d4 f4 d5 f5 d6 f6 d7 f7 g0 g1 g2
    go_wp2_with fail
    exact ⟨⟨n+1,by omega,by go_num,HNX.o,⟨t0,t1,t2,t3,t4,t5,t6,t7⟩,hB6⟩,by simp [intOf];omega⟩
   ·have hall:das.take n=das:=List.take_of_length_le (by have:=HAL.o;omega)
    have hok2:=HOK.o
    rw [hall] at hok2
    have HOK2:=Aa hok2
    clear hok2 hall
    go_wp2_with fail
    go_end0
    refine ⟨Or.inl ⟨HQ.o ⟨HVAR.o,HOT.o,⟨HZ1.o,HZ2.o,HXL.o⟩,⟨fun f hf=>?_,HOK2.o⟩,?_,?_⟩,rfl⟩,hB⟩
    rotate_left
    ·have hq:=HZ_1.o;simp at hq;omega
    ·have hq:=HZ_2.o;simp at hq;omega
    have h1:=HGET.o
    simp only [Int.toNat_natCast] at hf
    rw [h1] at hf
    rw [<-Option.some.inj hf]
    exact HPN.o.symm
end Go.Proofs.YtfffpjkcfnekaaaGreat.Ex.Ey
