/- Checks of one command, whatever it is. -/
import Derived.Test.YtfffpjkcfnekaaaGreatF05
import Derived.Deep.RegionHeld2
set_option linter.unusedVariables false
set_option maxHeartbeats 8000000
set_option maxRecDepth 100000
namespace Go.Proofs.YtfffpjkcfnekaaaGreat.Ex.Ey
open Go.RowKit
open Go.Value renaming slice -> O, int -> U, bool -> zg, agg -> zh, pointer -> zj, tuple -> zm
open Go.IntKind renaming i64 -> zd
open Go.Obj renaming cells -> ze
open Go.Ending renaming returned -> zk
theorem NH (K k:Nat) (fs de das) (funcs:Int) (m:Int) (ga gn gc sa sn sc) (ya:Option Addr) (yn yc:Nat) (oa:Option Addr) (on oc:Nat) (va:Option Addr) (vn vc:Nat) (fa fn fc ba bn bc) (vr ot ek en:Int) (xa xl xc aa al ac ta tl tc ea el ec) (w:World) (hv:vn<=9223372036854775807) (i1:Ch vr) (i2:Ch ot) (h0f:0<=funcs) (h1f:funcs<=9223372036854775807) (hyl:yn<=9223372036854775807) (hol:on<=9223372036854775807)
  (hde:RX w K [U zd ek,U zd en,O xa xl xc] de) (hda:XS 3 (RX w K) w (O aa al ac) das) (hfs:BA w K k (O fa fn fc) fs) (hff:funcs<=fs.length) :
  Calls Tryz.prog 220 #[zh #[U zd m,O ga gn gc,O sa sn sc,O ya yn yc,O oa on oc,O va vn vc,O fa fn fc,O ba bn bc],zh #[U zd 2,U zd vr,U zd ot,U zd ek,U zd en,O xa xl xc,O aa al ac,O ta tl tc,O ea el ec],U zd funcs] w (C4 ((0<=vr/\vr < vn)/\(0<=ot/\ot < funcs)/\(ek=0/\en=0/\xl=0)/\((∀ f,fs[ot.toNat]? = some f->f.ps.length=al)/\∀ a∈das,AZ vn K a=0)/\(tl=0)/\(el=0)) w):=by
 obtain ⟨Q,hQ⟩:∃ Q:Prop,Q=((0<=vr/\vr < vn)/\(0<=ot/\ot < funcs)/\(ek=0/\en=0/\xl=0)/\((∀ f,fs[ot.toNat]? = some f->f.ps.length=al)/\∀ a∈das,AZ vn K a=0)/\(tl=0)/\(el=0)):=⟨_,rfl⟩
 rw [<-hQ]
 have HQ:Hx (((0<=vr/\vr < vn)/\(0<=ot/\ot < funcs)/\(ek=0/\en=0/\xl=0)/\((∀ f,fs[ot.toNat]? = some f->f.ps.length=al)/\∀ a∈das,AZ vn K a=0)/\(tl=0)/\(el=0))->Q):=Aa (fun p=>by rw [hQ];exact p)
 have N1:Hx (¬ (0<=vr/\vr < vn)->¬ Q):=Aa (fun h p=>by rw [hQ] at p;exact h p.1)
 have N2:Hx (¬ (0<=ot/\ot < funcs)->¬ Q):=Aa (fun h p=>by rw [hQ] at p;exact h p.2.1)
 have N3:Hx (¬ (ek=0/\en=0/\xl=0)->¬ Q):=Aa (fun h p=>by rw [hQ] at p;exact h p.2.2.1)
 have N4:Hx (¬ ((∀ f,fs[ot.toNat]? = some f->f.ps.length=al)/\∀ a∈das,AZ vn K a=0)->¬ Q):=Aa (fun h p=>by rw [hQ] at p;exact h p.2.2.2.1)
 have N5:Hx (¬ (tl=0)->¬ Q):=Aa (fun h p=>by rw [hQ] at p;exact h p.2.2.2.2.1)
 have N6:Hx (¬ (el=0)->¬ Q):=Aa (fun h p=>by rw [hQ] at p;exact h p.2.2.2.2.2)
 clear hQ
 have K1:=Aa Lq
 have K2:=Aa BR
 have K3:=Aa Bn
 have K4:=Aa fun W=>Ca 2 funcs m ga gn gc sa sn sc ya yn yc oa on oc va vn vc fa fn fc ba bn bc W
 simp only [Int.reduceEq,if_true,if_false] at K4
 have K5:=Aa fun W (hB:Ov w W)=>B2 K m ga gn gc sa sn sc ya yn yc oa on oc va vn vc fa fn fc ba bn bc _ _ W (hde.over hB) hv
 have HF:=Aa hfs
 have HA:=Aa hda
 have hal:al<=9223372036854775807/\al=das.length:=⟨by obtain ⟨hm,ao,cap,he,-⟩:=hda;injection he with e1 e2 e3;rw [e2];exact hm,by obtain ⟨hm,ao,cap,he,-⟩:=hda;injection he⟩
 obtain ⟨hal,hale⟩:=hal
 have HAL:=Aa hale
 obtain ⟨i1,i1'⟩:=i1
 obtain ⟨i2,i2'⟩:=i2
 clear hde hda hfs hale
 obtain ⟨c0,c1,c2,c3,c4,c5,c6,c7⟩:=rc8 (E4 w [U zd m,O ga gn gc,O sa sn sc,O ya yn yc,O oa on oc,O va vn vc,O fa fn fc,O ba bn bc] 184 (ze #[U zd 2,U zd vr,U zd ot,U zd ek,U zd en,O xa xl xc,O aa al ac,O ta tl tc,O ea el ec] 130))
 obtain ⟨s0,s1,s2,s3,s4,s5,s6,s7,s8⟩:=rc9 (Fk w (ze #[U zd m,O ga gn gc,O sa sn sc,O ya yn yc,O oa on oc,O va vn vc,O fa fn fc,O ba bn bc] 184) [U zd 2,U zd vr,U zd ot,U zd ek,U zd en,O xa xl xc,O aa al ac,O ta tl tc,O ea el ec] 130)
 have hbel:Ov w ((w.alloc (ze #[U zd m,O ga gn gc,O sa sn sc,O ya yn yc,O oa on oc,O va vn vc,O fa fn fc,O ba bn bc] 184)).alloc (ze #[U zd 2,U zd vr,U zd ot,U zd ek,U zd en,O xa xl xc,O aa al ac,O ta tl tc,O ea el ec] 130)):=(bA w _).alloc (by simp) _
 go_enter Tryz.func220,Tryz.ntmps220
 go_wp2_with fail
 refine (K1.o _).mono ?_
 rintro e w1 ⟨rfl,hb1⟩
 have hB1:=hbel.trans (hb1.mono hbel.size)
 have hb2:=Ac hb1 (bA w1 (ze #[zg true,zg true,zg false,zg true,zg false,zg false] 288))
 have hB2:=hbel.trans (hb2.mono hbel.size)
 obtain ⟨c0a,c1a,c2a,c3a,c4a,c5a,c6a,c7a,s0a,s1a⟩:=Cy hb2 c0 c1 c2 c3 c4 c5 c6 c7 s0 s1
 obtain ⟨s2a,s3a,s4a,s5a,s6a,s7a,s8a⟩:=co7 hb2 s2 s3 s4 s5 s6 s7 s8
 obtain ⟨h0a,h1a,h2a,h3a,h4a,h5a⟩:=rc6 (CK w1 [zg true,zg true,zg false,zg true,zg false,zg false] 288)
 clear hb1 hb2 hbel hB1 c0 c1 c2 c3 c4 c5 c6 c7 s0 s1 s2 s3 s4 s5 s6 s7 s8
 go_wp2_with fail
 refine (K2.o _ _ _).mono ?_
 rintro e wz ⟨he,rfl⟩
 have he2:=orT he
 subst he2
 clear he
 go_wp2_with fail
 refine (K3.o _ _ _).mono ?_
 rintro e wz ⟨rfl,rfl⟩
 go_wp2_with fail
 refine (K2.o _ _ _).mono ?_
 rintro e wz ⟨he,rfl⟩
 rcases he with ⟨hvar,rfl⟩ | ⟨hz,rfl⟩
 rotate_left
 ·skip
  have HN:=nO N1 N2 N3 N4 N5 N6 hz
  clear hz
  unfold AA
  go_wp2_with fail
  exact ⟨rfl,Or.inr ⟨HN.o,5,by decide,rfl⟩,hB2⟩
 have hvar2:0<=vr/\vr < vn:=by simpa using hvar
 have HVAR:=Aa hvar2
 clear hvar hvar2
 go_wp2_with fail
 have hr0:=Below.refl (w1.alloc (ze #[zg true,zg true,zg false,zg true,zg false,zg false] 288)).heap.size (w1.alloc (ze #[zg true,zg true,zg false,zg true,zg false,zg false] 288))
 obtain ⟨ob,hob⟩:=nm (decide (0<=ot/\ot < funcs))
 have K3o:=Aa fun W=>Bn ot funcs W
 rw [<-hob] at K3o
 have HOB:=Aa hob
 clear hob
 cases ob with
 | false=>
  have HNO:=Aa (N2.o (by have hq:=HOB.o;simp at hq;omega))
  go_region_held2 (fun W=>W.cell? ⟨w.heap.size,0,none⟩=some (U zd m)/\W.cell? ⟨w.heap.size,1,none⟩=some (O ga gn gc)/\W.cell? ⟨w.heap.size,2,none⟩=some (O sa sn sc)/\W.cell? ⟨w.heap.size,3,none⟩=some (O ya yn yc)/\W.cell? ⟨w.heap.size,4,none⟩=some (O oa on oc)/\W.cell? ⟨w.heap.size,5,none⟩=some (O va vn vc)/\W.cell? ⟨w.heap.size,6,none⟩=some (O fa fn fc)/\W.cell? ⟨w.heap.size,7,none⟩=some (O ba bn bc)/\W.cell? ⟨w.heap.size+1,0,none⟩=some (U zd 2)/\W.cell? ⟨w.heap.size+1,2,none⟩=some (U zd ot)/\W.cell? ⟨w1.heap.size,1,none⟩=some (zg true)/\Ov (w1.alloc (ze #[zg true,zg true,zg false,zg true,zg false,zg false] 288)) W) (first | assumption | exact ⟨c0a,c1a,c2a,c3a,c4a,c5a,c6a,c7a,s0a,s2a,h1a,below_drewN hr0 1⟩ | exact EU (by assumption) hbp | fail) (first | (go_at_call 244;refine (K4.o _).mono ?_;rintro e wp ⟨rfl,hbp⟩) | (go_at_call 173;refine (K3o.o _).mono ?_;rintro e wq ⟨rfl,rfl⟩) | (go_at_call 172;refine (K2.o false 5 _).mono ?_;rintro e wq ⟨he,rfl⟩;rcases he with ⟨hb,rfl⟩ | ⟨hb,rfl⟩;rotate_left;exact ⟨rfl,Or.inr ⟨HNO.o,5,by decide,rfl⟩,hB2.trans ((by assumption:_/\_/\_/\_/\_/\_/\_/\_/\_/\_/\_/\Below _ _ _).2.2.2.2.2.2.2.2.2.2.2.mono hB2.size)⟩;have hbad:=Aa hb;clear hb))
  exact absurd hbad.o (by simp)
 | true=>
  have hot:0<=ot/\ot < funcs:=by simpa using HOB.o.symm
  have HOT:=Aa hot
  clear hot
  go_region_held3 (fun W=>W.cell? ⟨w.heap.size,0,none⟩=some (U zd m)/\W.cell? ⟨w.heap.size,1,none⟩=some (O ga gn gc)/\W.cell? ⟨w.heap.size,2,none⟩=some (O sa sn sc)/\W.cell? ⟨w.heap.size,3,none⟩=some (O ya yn yc)/\W.cell? ⟨w.heap.size,4,none⟩=some (O oa on oc)/\W.cell? ⟨w.heap.size,5,none⟩=some (O va vn vc)/\W.cell? ⟨w.heap.size,6,none⟩=some (O fa fn fc)/\W.cell? ⟨w.heap.size,7,none⟩=some (O ba bn bc)/\W.cell? ⟨w.heap.size+1,0,none⟩=some (U zd 2)/\W.cell? ⟨w.heap.size+1,2,none⟩=some (U zd ot)/\W.cell? ⟨w1.heap.size,1,none⟩=some (zg true)/\Ov (w1.alloc (ze #[zg true,zg true,zg false,zg true,zg false,zg false] 288)) W) (first | assumption | exact ⟨c0a,c1a,c2a,c3a,c4a,c5a,c6a,c7a,s0a,s2a,h1a,below_drewN hr0 1⟩ | exact EU (by assumption) hbp | fail) (first | (go_at_call 244;refine (K4.o _).mono ?_;rintro e wp ⟨rfl,hbp⟩) | (go_at_call 173;refine (K3o.o _).mono ?_;rintro e wq ⟨rfl,rfl⟩) | (go_at_call 172;refine (BJ 5 _).mono ?_;rintro e wq ⟨rfl,rfl⟩))
  have hb2:=(by assumption:_/\_/\_/\_/\_/\_/\_/\_/\_/\_/\_/\Below _ _ _).2.2.2.2.2.2.2.2.2.2.2
  have hB3:=hB2.trans (hb2.mono hB2.size)
  obtain ⟨c0b,c1b,c2b,c3b,c4b,c5b,c6b,c7b,s0b,s1b⟩:=Cy hb2 c0a c1a c2a c3a c4a c5a c6a c7a s0a s1a
  obtain ⟨s2b,s3b,s4b,s5b,s6b,s7b,s8b,h0b,h1b,h2b⟩:=Cy hb2 s2a s3a s4a s5a s6a s7a s8a h0a h1a h2a
  obtain ⟨h3b,h4b,h5b⟩:=co3 hb2 h3a h4a h5a
  clear hb2 hB2 hr0 c0a c1a c2a c3a c4a c5a c6a c7a s0a s1a s2a s3a s4a s5a s6a s7a s8a h0a h1a h2a h3a h4a h5a
  go_wp2_with fail
  refine (K2.o _ _ _).mono ?_
  rintro e wz ⟨he,rfl⟩
  have he2:=orT he
  subst he2
  clear he
  go_wp2_with fail
  refine (K2.o _ _ _).mono ?_
  rintro e wz ⟨he,rfl⟩
  have he2:=orT he
  subst he2
  clear he
  by_cases z1:ek=0
  rotate_left
  ·have zb:(ek == 0)=false:=by simpa using z1
   have HN:=Aa (N3.o (by omega))
   go_wp2_with fail
   refine (K2.o _ _ _).mono ?_
   rintro e wz ⟨he,rfl⟩
   have he2:e=AA 1:=by
    rcases he with ⟨he,_⟩ | ⟨_,he⟩
    ·cases he
    ·exact he
   subst he2
   clear he
   unfold AA
   go_wp2_with fail
   exact ⟨rfl,Or.inr ⟨HN.o,1,by decide,rfl⟩,hB3⟩
  have zb1:(ek == 0)=true:=by simpa using z1
  have HZ1:=Aa z1
  clear z1
  by_cases z2:en=0
  rotate_left
  ·have zb:(en == 0)=false:=by simpa using z2
   have HN:=Aa (N3.o (by omega))
   go_wp2_with fail
   refine (K2.o _ _ _).mono ?_
   rintro e wz ⟨he,rfl⟩
   have he2:e=AA 1:=by
    rcases he with ⟨he,_⟩ | ⟨_,he⟩
    ·cases he
    ·exact he
   subst he2
   clear he
   unfold AA
   go_wp2_with fail
   exact ⟨rfl,Or.inr ⟨HN.o,1,by decide,rfl⟩,hB3⟩
  have zb2:(en == 0)=true:=by simpa using z2
  have HZ2:=Aa z2
  clear z2
  go_wp2_with fail
  refine (K2.o _ _ _).mono ?_
  rintro e wz ⟨he,rfl⟩
  rcases he with ⟨hz,rfl⟩ | ⟨hz,rfl⟩
  rotate_left
  ·skip
   have HN:=nO N1 N2 N3 N4 N5 N6 hz
   clear hz
   unfold AA
   go_wp2_with fail
   exact ⟨rfl,Or.inr ⟨HN.o,1,by decide,rfl⟩,hB3⟩
  have hxl0:xl=0:=by simp at hz;omega
  have HXL:=Aa hxl0
  clear hz hxl0
  go_wp2_with fail
  refine (K2.o _ _ _).mono ?_
  rintro e wz ⟨he,rfl⟩
  have he2:=orT he
  subst he2
  clear he
  go_wp2_with fail
  refine (K2.o _ _ _).mono ?_
  rintro e wz ⟨he,rfl⟩
  rcases he with ⟨hz,rfl⟩ | ⟨hz,rfl⟩
  rotate_left
  ·skip
   have HN:=nO N1 N2 N3 N4 N5 N6 hz
   clear hz
   unfold AA
   go_wp2_with fail
   exact ⟨rfl,Or.inr ⟨HN.o,1,by decide,rfl⟩,hB3⟩
  have HZ_1:=Aa hz
  clear hz
  go_wp2_with fail
  refine (K2.o _ _ _).mono ?_
  rintro e wz ⟨he,rfl⟩
  rcases he with ⟨hz,rfl⟩ | ⟨hz,rfl⟩
  rotate_left
  ·skip
   have HN:=nO N1 N2 N3 N4 N5 N6 hz
   clear hz
   unfold AA
   go_wp2_with fail
   exact ⟨rfl,Or.inr ⟨HN.o,1,by decide,rfl⟩,hB3⟩
  have HZ_2:=Aa hz
  clear hz
  go_wp2_with fail
  obtain ⟨hot0,hot1⟩:=HOT.o
  obtain ⟨hfl,fa',fc',hfe,hfc⟩:=HF.o
  injection hfe with e1 e2 e3
  subst e1 e2 e3
  obtain ⟨j,rfl⟩:∃ j:Nat,ot=(j:Int):=⟨ot.toNat,by omega⟩
  have hj:j < fs.length:=by omega
  have hfl':fs.length<=9223372036854775807:=hfl
  obtain ⟨b,off,rfl,hcl⟩:=hfc (by rintro rfl;simp at hj)
  obtain ⟨vP,vB,x0,x1,x2,p0,p1,p2,p3,p4,hps,hpl,-,-⟩:=hcl j hj
  obtain ⟨pa,pc,rfl,-⟩:=hps
  have hget:fs[j]? = some fs[j]:=List.getElem?_eq_getElem hj
  obtain ⟨fd,hfd⟩:=nm (fs[j])
  rw [<-hfd] at p0 hpl hget
  obtain ⟨pn,hpn⟩:=nm fd.ps.length
  rw [<-hpn] at p0
  have p0c:=Ab hB3 _ _ p0
  have hpl':pn<=9223372036854775807:=by rw [hpn];exact hpl.1
  have HPN:=Aa hpn
  have HGET:=Aa hget
  clear hfc hcl p0 p1 p2 p3 p4 hget hfd hpn hot0 hot1 hfl hpl
  by_cases hpe:al=pn
  rotate_left
  ·have HNP:=Aa (N4.o (fun hd=>hpe ((hd.1 fd (by simpa using HGET.o)).symm.trans HPN.o.symm)))
   have hpb:((al:Int) == (pn:Int))=false:=by simp;omega
   go_region_held2 (fun W=>W.cell? ⟨w.heap.size+1,0,none⟩=some (U zd 2)/\W.cell? ⟨w.heap.size+1,6,none⟩=some (O aa al ac)/\W.cell? ⟨w.heap.size,6,none⟩=some (O (some ⟨b,off,none⟩) fs.length fc)/\W.cell? ⟨w.heap.size+1,2,none⟩=some (U zd (j:Int))/\W.cell? ⟨b,off+j*5,none⟩=some (O pa pn pc)/\Ov w W) (first | assumption | exact ⟨s0b,s6b,c6b,s2b,p0c,below_drewN hB3 1⟩ | fail) (first | (go_at_call 172;refine (K2.o false 1 _).mono ?_;rintro e wq ⟨he,rfl⟩;rcases he with ⟨hb,rfl⟩ | ⟨hb,rfl⟩;rotate_left;exact ⟨rfl,Or.inr ⟨HNP.o,1,by decide,rfl⟩,(by assumption:_/\_/\_/\_/\_/\Below _ _ _).2.2.2.2.2⟩;have hbad:=Aa hb;clear hb))
   exact absurd hbad.o (by simp)
  subst hpe
  go_quiet ((go_at_call 172;exact Calls.quiet_of_same (BJ _ _)))
  obtain ⟨c0q,c1q,c2q,c3q,c4q,c5q,c6q,c7q,s0q,s1q⟩:=CJ (n:=nq) c0b c1b c2b c3b c4b c5b c6b c7b s0b s1b
  obtain ⟨s2q,s3q,s4q,s5q,s6q,s7q,s8q,h0q,h1q,h2q⟩:=CJ (n:=nq) s2b s3b s4b s5b s6b s7b s8b h0b h1b h2b
  obtain ⟨h3q,h4q,h5q⟩:=cn3 (n:=nq) h3b h4b h5b
  have hBq:=below_drewN hB3 nq
  clear c0b c1b c2b c3b c4b c5b c6b c7b s0b s1b s2b s3b s4b s5b s6b s7b s8b h0b h1b h2b h3b h4b h5b p0c
  go_wp2_with fail
  have hda2:=HA.o
  obtain ⟨hdl,aa',ac',hde2,hdc⟩:=hda2
  injection hde2 with a1 a2 a3
  subst a1 a3
  have HDC:=Aa hdc
  clear hdc a2
  have hBB:=hBq
  go_loopw [138] (fun i wr=>∃ n:Nat,n<=al/\i=U zd n/\(∀ a∈das.take n,AZ vn K a=0)/\(wr.cell? ⟨w.heap.size,0,none⟩=some (U zd m)/\wr.cell? ⟨w.heap.size,1,none⟩=some (O ga gn gc)/\wr.cell? ⟨w.heap.size,2,none⟩=some (O sa sn sc)/\wr.cell? ⟨w.heap.size,3,none⟩=some (O ya yn yc)/\wr.cell? ⟨w.heap.size,4,none⟩=some (O oa on oc)/\wr.cell? ⟨w.heap.size,5,none⟩=some (O va vn vc)/\wr.cell? ⟨w.heap.size,6,none⟩=some (O (some ⟨b,off,none⟩) fs.length fc)/\wr.cell? ⟨w.heap.size,7,none⟩=some (O ba bn bc))/\Ov w wr) (fun i _=>al - (intOf i).toNat)
  case atStart=>exact ⟨0,Nat.zero_le _,rfl,by simp,⟨c0q,c1q,c2q,c3q,c4q,c5q,c6q,c7q⟩,hBB⟩
  case round=>
   clear hBq hBB c0q c1q c2q c3q c4q c5q c6q c7q s0q s1q s2q s3q s4q s5q s6q s7q s8q h0q h1q h2q h3q h4q h5q
   obtain ⟨n,hn,rfl,hok,⟨d0,d1,d2,d3,d4,d5,d6,d7⟩,hB⟩:=hrel
   have HOK:=Aa hok
   clear hok
   by_cases hnl:n < al
   ·have hnd:n < das.length:=by have:=HAL.o;omega
    obtain ⟨bb,oo,rfl,hdcl⟩:=HDC.o (by rintro rfl;simp at hnd)
    obtain ⟨acs,hal3,hacs,har⟩:=hdcl n das[n] (List.getElem?_eq_getElem hnd)
    have htk:das.take (n+1)=das.take n++[das[n]]:=List.take_succ_eq_append_getElem hnd
    have HTK:=Aa htk
    have HMD:=Aa (List.getElem_mem hnd)
    obtain ⟨xa2,xc2,hxf⟩:=har.form
    obtain ⟨dn,hdn⟩:=nm (das[n])
    rw [<-hdn] at har hxf HTK HMD
    subst hxf
    obtain ⟨ek2,hek2⟩:=nm (AH dn)
    obtain ⟨en2,hen2⟩:=nm (Ba dn)
    obtain ⟨xl2,hxl2⟩:=nm ((AF dn).length)
    rw [<-hek2,<-hen2,<-hxl2] at har hacs
    have g0:wr.cell? ⟨bb,oo+n*3,none⟩=_:=Ab hB _ _ (hacs 0 _ rfl)
    have g1:=Ab hB _ _ (hacs 1 _ rfl)
    have g2:=Ab hB _ _ (hacs 2 _ rfl)
    have hba:=bA wr (ze #[U zd ek2,U zd en2,O xa2 xl2 xc2] 94)
    have hBa:=hB.trans (hba.mono hB.size)
    have K6:=Aa (B2 K m ga gn gc sa sn sc ya yn yc oa on oc va vn vc (some ⟨b,off,none⟩) fs.length fc ba bn bc _ dn _ (har.over hBa) hv)
    obtain ⟨f0,f1,f2,f3,f4,f5,f6,f7⟩:=co8 hba d0 d1 d2 d3 d4 d5 d6 d7
    clear hacs hdcl hal3 htk hdn hek2 hen2 hxl2 har
    go_wp2_with fail
    refine (K6.o).mono ?_
    rintro e w6 ⟨he,hb6⟩
    have hB6:=hBa.trans (hb6.mono hBa.size)
    rcases he with ⟨hex,rfl⟩ | ⟨hnex,why,hwhy,rfl⟩
    rotate_left
    ·have HN:=Aa (N4.o (fun hd=>hnex (hd.2 _ HMD.o)))
     clear hnex
     unfold AA
     go_wp2_with fail
     exact ⟨rfl,Or.inr ⟨HN.o,why,hwhy,rfl⟩,hB6⟩
    obtain ⟨t0,t1,t2,t3,t4,t5,t6,t7⟩:=co8 hb6 f0 f1 f2 f3 f4 f5 f6 f7
    have hnext:∀ a∈das.take (n+1),AZ vn K a=0:=fun a ha=>by
     rw [HTK.o,List.mem_append,List.mem_singleton] at ha
     rcases ha with ha | rfl
     ·exact HOK.o a ha
     ·exact hex
    have HNX:=Aa hnext
    clear hnext hex hb6 hBa hba hB K6 d0 f0 d1 f1 d2 f2 d3 f3 d4 f4 d5 f5 d6 f6 d7 f7 g0 g1 g2
    go_wp2_with fail
    exact ⟨⟨n+1,by omega,by go_num,HNX.o,⟨t0,t1,t2,t3,t4,t5,t6,t7⟩,hB6⟩,by simp [intOf];omega⟩
   ·have hall:das.take n=das:=List.take_of_length_le (by have:=HAL.o;omega)
    have hok2:=HOK.o
    rw [hall] at hok2
    have HOK2:=Aa hok2
    clear hok2 hall
    go_wp2_with fail
    go_end0
    refine ⟨Or.inl ⟨HQ.o ⟨HVAR.o,HOT.o,⟨HZ1.o,HZ2.o,HXL.o⟩,⟨fun f hf=>?_,HOK2.o⟩,?_,?_⟩,rfl⟩,hB⟩
    rotate_left
    ·have hq:=HZ_1.o;simp at hq;omega
    ·have hq:=HZ_2.o;simp at hq;omega
    have h1:=HGET.o
    simp only [Int.toNat_natCast] at hf
    rw [h1] at hf
    rw [<-Option.some.inj hf]
    exact HPN.o.symm
def OC (d:D):Prop:=
 ((Ak d=4\/Ak d=7\/Ak d=8)->AJ d=0)/\((Ak d=1\/Ak d=5\/Ak d=6\/Ak d=7\/Ak d=8)->Ag d=0)/\((Ak d=2\/Ak d=3)->Ba (AR d)=0)/\(Ak d≠2->An d=[])/\((Ak d≠7/\Ak d≠8)->Ar d=[])/\(Ak d≠7->Av d=[])
def xS1 (K:Nat) (nv ni no:Nat) (funcs:Int) (fs:List FnD) (d:D):Prop:=CA K nv ni no funcs fs d/\OC d
def xS (K:Nat) (nv ni no:Nat) (funcs:Int) (fs:List FnD):Nat->D->Prop
 | 0,_=>False
 | k+1,d=>xS1 K nv ni no funcs fs d/\(∀ s∈Ar d,xS K nv ni no funcs fs k s)/\∀ s∈Av d,xS K nv ni no funcs fs k s
theorem xS.ok {K nv ni no:Nat} {funcs:Int} {fs:List FnD}:∀ {k:Nat} {d:D},xS K nv ni no funcs fs k d->okS K nv ni no funcs fs k d
 | 0,_,h=>h
 | k+1,d,h=>⟨h.1.1,fun s hs=>xS.ok (h.2.1 s hs),fun s hs=>xS.ok (h.2.2 s hs)⟩
theorem H0 {α:Type} {l:List α}:l.length=0 ↔ l=[]:=List.length_eq_zero_iff
theorem Ld (kd:Int) (hk:¬ (1<=kd/\kd<=8)) (funcs:Int) (m:Int) (ga gn gc sa sn sc ya yn yc oa on oc va vn vc fa fn fc ba bn bc) (vr ot ek en:Int) (xa xl xc aa al ac ta tl tc ea el ec) (w:World) :
  Calls Tryz.prog 220 #[zh #[U zd m,O ga gn gc,O sa sn sc,O ya yn yc,O oa on oc,O va vn vc,O fa fn fc,O ba bn bc],zh #[U zd kd,U zd vr,U zd ot,U zd ek,U zd en,O xa xl xc,O aa al ac,O ta tl tc,O ea el ec],U zd funcs] w (C4 False w):=by
 have K1:=Aa (Hn kd hk)
 have K2:=Aa BR
 have hbel:Ov w ((w.alloc (ze #[U zd m,O ga gn gc,O sa sn sc,O ya yn yc,O oa on oc,O va vn vc,O fa fn fc,O ba bn bc] 184)).alloc (ze #[U zd kd,U zd vr,U zd ot,U zd ek,U zd en,O xa xl xc,O aa al ac,O ta tl tc,O ea el ec] 130)):=(bA w _).alloc (by simp) _
 clear hk
 go_enter Tryz.func220,Tryz.ntmps220
 go_wp2_with fail
 refine (K1.o _).mono ?_
 rintro e w1 ⟨rfl,hb1⟩
 have hB1:=hbel.trans (hb1.mono hbel.size)
 have hB2:=hB1.trans ((bA w1 (ze #[zg false,zg false,zg false,zg false,zg false,zg false] 288)).mono hB1.size)
 clear hb1 hbel
 go_wp2_with fail
 refine (K2.o _ _ _).mono ?_
 rintro e wz ⟨he,rfl⟩
 have he2:e=AA 7:=by
  rcases he with ⟨he,_⟩ | ⟨_,he⟩
  ·cases he
  ·exact he
 subst he2
 clear he
 unfold AA
 go_wp2_with fail
 exact ⟨rfl,Or.inr ⟨fun h=>h,7,by decide,rfl⟩,hB2⟩
theorem Ix (K k kf:Nat) (fs) (funcs:Int) (m:Int) (ga gn gc sa sn sc) (ya:Option Addr) (yn yc:Nat) (oa:Option Addr) (on oc:Nat) (va:Option Addr) (vn vc:Nat) (fa fn fc ba bn bc) (cs:List Value) (d) (w:World) (hv:vn<=9223372036854775807) (h0f:0<=funcs) (h1f:funcs<=9223372036854775807) (hyl:yn<=9223372036854775807) (hol:on<=9223372036854775807)
  (hs:RS w K (k+1) cs d) (hfs:BA w K kf (O fa fn fc) fs) (hff:funcs<=fs.length) :
  Calls Tryz.prog 220 #[zh #[U zd m,O ga gn gc,O sa sn sc,O ya yn yc,O oa on oc,O va vn vc,O fa fn fc,O ba bn bc],.agg cs.toArray,U zd funcs] w (C4 (xS1 K vn yn on funcs fs d) w):=by
 obtain ⟨ek,en,xa,xl,xc,aa,ac,ta,tc,ea,ec,rfl,i0,i1,i2,hde,hda,-,-,hek,hen,hxl⟩:=hs.form
 unfold xS1 CA OC
 by_cases hk:1<=Ak d/\Ak d<=8
 ·rcases (by omega:Ak d=1\/Ak d=2\/Ak d=3\/Ak d=4\/Ak d=5\/Ak d=6\/Ak d=7\/Ak d=8) with h | h | h | h | h | h | h | h
  ·have H:=NI K kf fs (AR d) (An d) funcs m ga gn gc sa sn sc ya yn yc oa on oc va vn vc fa fn fc ba bn bc (AJ d) (Ag d) ek en xa xl xc aa (An d).length ac ta (Ar d).length tc ea (Av d).length ec w hv i1 i2 h0f h1f hyl hol hde hda hfs hff
   have e:(sC (Ak d) (AJ d) (Ag d) ek en xa xl xc aa (An d).length ac ta (Ar d).length tc ea (Av d).length ec).toArray=#[U zd 1,U zd (AJ d),U zd (Ag d),U zd ek,U zd en,O xa xl xc,O aa (An d).length ac,O ta (Ar d).length tc,O ea (Av d).length ec]:=by rw [h]
   rw [e]
   exact H.mono fun e w' hg=>hg.imp (by simp only [H0,h];first | (constructor <;> (intro hp;simp at hp ⊢;simp_all)) | skip)
  ·have H:=NH K kf fs (AR d) (An d) funcs m ga gn gc sa sn sc ya yn yc oa on oc va vn vc fa fn fc ba bn bc (AJ d) (Ag d) ek en xa xl xc aa (An d).length ac ta (Ar d).length tc ea (Av d).length ec w hv i1 i2 h0f h1f hyl hol hde hda hfs hff
   have e:(sC (Ak d) (AJ d) (Ag d) ek en xa xl xc aa (An d).length ac ta (Ar d).length tc ea (Av d).length ec).toArray=#[U zd 2,U zd (AJ d),U zd (Ag d),U zd ek,U zd en,O xa xl xc,O aa (An d).length ac,O ta (Ar d).length tc,O ea (Av d).length ec]:=by rw [h]
   rw [e]
   exact H.mono fun e w' hg=>hg.imp (by simp only [H0,hek,hen,hxl,h];first | (constructor <;> (intro hp;simp at hp ⊢;simp_all)) | skip)
  ·have H:=NG K kf fs (AR d) (An d) funcs m ga gn gc sa sn sc ya yn yc oa on oc va vn vc fa fn fc ba bn bc (AJ d) (Ag d) ek en xa xl xc aa (An d).length ac ta (Ar d).length tc ea (Av d).length ec w hv i1 i2 h0f h1f hyl hol hde hda hfs hff
   have e:(sC (Ak d) (AJ d) (Ag d) ek en xa xl xc aa (An d).length ac ta (Ar d).length tc ea (Av d).length ec).toArray=#[U zd 3,U zd (AJ d),U zd (Ag d),U zd ek,U zd en,O xa xl xc,O aa (An d).length ac,O ta (Ar d).length tc,O ea (Av d).length ec]:=by rw [h]
   rw [e]
   exact H.mono fun e w' hg=>hg.imp (by simp only [H0,hek,hen,hxl,h];first | (constructor <;> (intro hp;simp at hp ⊢;simp_all)) | skip)
  ·have H:=NF K kf fs (AR d) (An d) funcs m ga gn gc sa sn sc ya yn yc oa on oc va vn vc fa fn fc ba bn bc (AJ d) (Ag d) ek en xa xl xc aa (An d).length ac ta (Ar d).length tc ea (Av d).length ec w hv i1 i2 h0f h1f hyl hol hde hda hfs hff
   have e:(sC (Ak d) (AJ d) (Ag d) ek en xa xl xc aa (An d).length ac ta (Ar d).length tc ea (Av d).length ec).toArray=#[U zd 4,U zd (AJ d),U zd (Ag d),U zd ek,U zd en,O xa xl xc,O aa (An d).length ac,O ta (Ar d).length tc,O ea (Av d).length ec]:=by rw [h]
   rw [e]
   exact H.mono fun e w' hg=>hg.imp (by simp only [H0,h];first | (constructor <;> (intro hp;simp at hp ⊢;simp_all)) | skip)
  ·have H:=NE K kf fs (AR d) (An d) funcs m ga gn gc sa sn sc ya yn yc oa on oc va vn vc fa fn fc ba bn bc (AJ d) (Ag d) ek en xa xl xc aa (An d).length ac ta (Ar d).length tc ea (Av d).length ec w hv i1 i2 h0f h1f hyl hol hde hda hfs hff
   have e:(sC (Ak d) (AJ d) (Ag d) ek en xa xl xc aa (An d).length ac ta (Ar d).length tc ea (Av d).length ec).toArray=#[U zd 5,U zd (AJ d),U zd (Ag d),U zd ek,U zd en,O xa xl xc,O aa (An d).length ac,O ta (Ar d).length tc,O ea (Av d).length ec]:=by rw [h]
   rw [e]
   exact H.mono fun e w' hg=>hg.imp (by simp only [H0,h];first | (constructor <;> (intro hp;simp at hp ⊢;simp_all)) | skip)
  ·have H:=ND K kf fs (AR d) (An d) funcs m ga gn gc sa sn sc ya yn yc oa on oc va vn vc fa fn fc ba bn bc (AJ d) (Ag d) ek en xa xl xc aa (An d).length ac ta (Ar d).length tc ea (Av d).length ec w hv i1 i2 h0f h1f hyl hol hde hda hfs hff
   have e:(sC (Ak d) (AJ d) (Ag d) ek en xa xl xc aa (An d).length ac ta (Ar d).length tc ea (Av d).length ec).toArray=#[U zd 6,U zd (AJ d),U zd (Ag d),U zd ek,U zd en,O xa xl xc,O aa (An d).length ac,O ta (Ar d).length tc,O ea (Av d).length ec]:=by rw [h]
   rw [e]
   exact H.mono fun e w' hg=>hg.imp (by simp only [H0,h];first | (constructor <;> (intro hp;simp at hp ⊢;simp_all)) | skip)
  ·have H:=NC K kf fs (AR d) (An d) funcs m ga gn gc sa sn sc ya yn yc oa on oc va vn vc fa fn fc ba bn bc (AJ d) (Ag d) ek en xa xl xc aa (An d).length ac ta (Ar d).length tc ea (Av d).length ec w hv i1 i2 h0f h1f hyl hol hde hda hfs hff
   have e:(sC (Ak d) (AJ d) (Ag d) ek en xa xl xc aa (An d).length ac ta (Ar d).length tc ea (Av d).length ec).toArray=#[U zd 7,U zd (AJ d),U zd (Ag d),U zd ek,U zd en,O xa xl xc,O aa (An d).length ac,O ta (Ar d).length tc,O ea (Av d).length ec]:=by rw [h]
   rw [e]
   exact H.mono fun e w' hg=>hg.imp (by simp only [H0,h];first | (constructor <;> (intro hp;simp at hp ⊢;simp_all)) | skip)
  ·have H:=NB K kf fs (AR d) (An d) funcs m ga gn gc sa sn sc ya yn yc oa on oc va vn vc fa fn fc ba bn bc (AJ d) (Ag d) ek en xa xl xc aa (An d).length ac ta (Ar d).length tc ea (Av d).length ec w hv i1 i2 h0f h1f hyl hol hde hda hfs hff
   have e:(sC (Ak d) (AJ d) (Ag d) ek en xa xl xc aa (An d).length ac ta (Ar d).length tc ea (Av d).length ec).toArray=#[U zd 8,U zd (AJ d),U zd (Ag d),U zd ek,U zd en,O xa xl xc,O aa (An d).length ac,O ta (Ar d).length tc,O ea (Av d).length ec]:=by rw [h]
   rw [e]
   exact H.mono fun e w' hg=>hg.imp (by simp only [H0,h];first | (constructor <;> (intro hp;simp at hp ⊢;simp_all)) | skip)
 ·exact (Ld (Ak d) hk funcs m ga gn gc sa sn sc ya yn yc oa on oc va vn vc fa fn fc ba bn bc (AJ d) (Ag d) ek en xa xl xc aa (An d).length ac ta (Ar d).length tc ea (Av d).length ec w).mono fun e w' hg=>hg.imp ⟨fun hp=>hp.elim,fun hp=>hk hp.1.1⟩
theorem Fv (K kf:Nat) (fs:List FnD) (funcs:Int) (m:Int) (ga gn gc sa sn sc) (ya:Option Addr) (yn yc:Nat) (oa:Option Addr) (on oc:Nat) (va:Option Addr) (vn vc:Nat) (fa fn fc) (ba bn bc) (hv:vn<=9223372036854775807) (h0f:0<=funcs) (h1f:funcs<=9223372036854775807) (hyl:yn<=9223372036854775807) (hol:on<=9223372036854775807) (hff:funcs<=fs.length):∀ (k:Nat) (v:Value) (l:List D) (w:World),Bc w K k v l->BA w K kf (O fa fn fc) fs ->
  Calls Tryz.prog 177 #[zh #[U zd m,O ga gn gc,O sa sn sc,O ya yn yc,O oa on oc,O va vn vc,O fa fn fc,O ba bn bc],v,U zd funcs] w (C4 (∀ s∈l,xS K vn yn on funcs fs k s) w):=by
 intro k
 induction k with
 | zero=>
  intro v l w h hf
  obtain rfl:=h.zero
  obtain ⟨-,ao,cap,rfl,-⟩:=h
  have hbel:Ov w (w.alloc (ze #[U zd m,O ga gn gc,O sa sn sc,O ya yn yc,O oa on oc,O va vn vc,O fa fn fc,O ba bn bc] 184)):=bA w _
  show Calls Tryz.prog 177 #[zh #[U zd m,O ga gn gc,O sa sn sc,O ya yn yc,O oa on oc,O va vn vc,O fa fn fc,O ba bn bc],O ao 0 cap,U zd funcs] w _
  clear hf
  go_enter Tryz.func177,Tryz.ntmps177
  go_wp2_with fail
  go_loopw [10] (fun i wr=>i=U zd 0/\Ov w wr) (fun _ _=>0)
  case atStart=>exact ⟨rfl,hbel⟩
  case round=>
   obtain ⟨rfl,hB⟩:=hrel
   go_wp2_with fail
   go_end0
   exact ⟨Or.inl ⟨by simp,rfl⟩,hB⟩
 | succ k ih=>
  intro v l w h hf
  have hlen:l.length<=9223372036854775807:=h.1
  obtain ⟨ao,cap,rfl,hc⟩:=h.2
  have HC:=Aa hc
  have HF:=Aa hf
  have IH:=Aa ih
  have KS:=Aa fun cs d W (hs:RS W K (k+1) cs d) (hfs:BA W K (max kf (k+1)) (O fa fn fc) fs)=>Ix K k (max kf (k+1)) fs funcs m ga gn gc sa sn sc ya yn yc oa on oc va vn vc fa fn fc ba bn bc cs d W hv h0f h1f hyl hol hs hfs hff
  clear hc ih h hf
  have hbel:Ov w (w.alloc (ze #[U zd m,O ga gn gc,O sa sn sc,O ya yn yc,O oa on oc,O va vn vc,O fa fn fc,O ba bn bc] 184)):=bA w _
  obtain ⟨c0,c1,c2,c3,c4,c5,c6,c7⟩:=rc8 (CK w [U zd m,O ga gn gc,O sa sn sc,O ya yn yc,O oa on oc,O va vn vc,O fa fn fc,O ba bn bc] 184)
  go_enter Tryz.func177,Tryz.ntmps177
  go_wp2_with fail
  go_loopw [10] (fun i wr=>∃ j:Nat,j<=l.length/\i=U zd j/\(∀ s∈l.take j,xS K vn yn on funcs fs (k+1) s)/\(wr.cell? ⟨w.heap.size,0,none⟩=some (U zd m)/\wr.cell? ⟨w.heap.size,1,none⟩=some (O ga gn gc)/\wr.cell? ⟨w.heap.size,2,none⟩=some (O sa sn sc)/\wr.cell? ⟨w.heap.size,3,none⟩=some (O ya yn yc)/\wr.cell? ⟨w.heap.size,4,none⟩=some (O oa on oc)/\wr.cell? ⟨w.heap.size,5,none⟩=some (O va vn vc)/\wr.cell? ⟨w.heap.size,6,none⟩=some (O fa fn fc)/\wr.cell? ⟨w.heap.size,7,none⟩=some (O ba bn bc))/\Ov w wr) (fun i _=>l.length - (intOf i).toNat)
  case atStart=>exact ⟨0,Nat.zero_le _,rfl,by simp,⟨c0,c1,c2,c3,c4,c5,c6,c7⟩,hbel⟩
  case round=>
   clear c0 c1 c2 c3 c4 c5 c6 c7 hbel
   obtain ⟨j,hj,rfl,hok,⟨c0,c1,c2,c3,c4,c5,c6,c7⟩,hB⟩:=hrel
   have HOK:=Aa hok
   clear hok
   by_cases hjl:j < l.length
   ·obtain ⟨b,off,rfl,hcl⟩:=HC.o (by rintro rfl;simp at hjl)
    obtain ⟨cs,hl9,hcs,hr⟩:=hcl j l[j] (List.getElem?_eq_getElem hjl)
    have htk:l.take (j+1)=l.take j++[l[j]]:=List.take_succ_eq_append_getElem hjl
    obtain ⟨d,hd⟩:=nm (l[j])
    have hmd:=List.getElem_mem hjl
    rw [<-hd] at hr htk hmd
    have HMD:=Aa hmd
    clear hmd
    have HTK:=Aa htk
    obtain ⟨ek,en,xa,xl,xc,aa,ac,ta,tc,ea,ec,hcse,-,-,-,-,-,hT,hE,-,-,-⟩:=hr.form
    subst hcse
    obtain ⟨kd,hkd⟩:=nm (Ak d)
    obtain ⟨vr,hvr⟩:=nm (AJ d)
    obtain ⟨ot,hot⟩:=nm (Ag d)
    obtain ⟨al,hal⟩:=nm ((An d).length)
    obtain ⟨tl,htl⟩:=nm ((Ar d).length)
    obtain ⟨el,hel⟩:=nm ((Av d).length)
    rw [<-hkd,<-hvr,<-hot,<-hal,<-htl,<-hel] at hcs hr
    rw [<-htl] at hT
    rw [<-hel] at hE
    have q0:wr.cell? ⟨b,off+j*9,none⟩=_:=Ab hB _ _ (hcs 0 _ rfl)
    have q1:=Ab hB _ _ (hcs 1 _ rfl)
    have q2:=Ab hB _ _ (hcs 2 _ rfl)
    have q3:=Ab hB _ _ (hcs 3 _ rfl)
    have q4:=Ab hB _ _ (hcs 4 _ rfl)
    have q5:=Ab hB _ _ (hcs 5 _ rfl)
    have q6:=Ab hB _ _ (hcs 6 _ rfl)
    have q7:=Ab hB _ _ (hcs 7 _ rfl)
    have q8:=Ab hB _ _ (hcs 8 _ rfl)
    have hba:Ov wr (wr.alloc (ze #[U zd kd,U zd vr,U zd ot,U zd ek,U zd en,O xa xl xc,O aa al ac,O ta tl tc,O ea el ec] 130)):=bA wr _
    have hBa:=hB.trans (hba.mono hB.size)
    obtain ⟨f0,f1,f2,f3,f4,f5,f6,f7⟩:=co8 hba c0 c1 c2 c3 c4 c5 c6 c7
    obtain ⟨s0,s1,s2,s3,s4,s5,s6,s7,s8⟩:=rc9 (CK wr [U zd kd,U zd vr,U zd ot,U zd ek,U zd en,O xa xl xc,O aa al ac,O ta tl tc,O ea el ec] 130)
    have K1:=Aa (KS.o _ d _ (RS.mono (Ab hBa) (k+1) (k+1) _ d (Nat.le_refl _) hr) ((HF.o.over hBa).mono (Nat.le_max_left _ _)))
    have K2:=Aa fun W (hW:Ov w W)=>IH.o (O ta tl tc) (Ar d) W (hT.over hW) (HF.o.over hW)
    have K3:=Aa fun W (hW:Ov w W)=>IH.o (O ea el ec) (Av d) W (hE.over hW) (HF.o.over hW)
    clear hT hE hcs hcl hr hl9 hkd hvr hot hal htl hel hd htk
    go_wp2_with fail
    refine (K1.o).mono ?_
    rintro e w1 ⟨he,hb1⟩
    have hB1:=hBa.trans (hb1.mono hBa.size)
    rcases he with ⟨hp1,rfl⟩ | ⟨hnp,why,hwhy,rfl⟩
    rotate_left
    ·have HN:=Aa (fun hall:∀ s∈l,xS K vn yn on funcs fs (k+1) s=>hnp (hall d HMD.o).1)
     clear hnp
     unfold AA
     go_wp2_with fail
     exact ⟨rfl,Or.inr ⟨HN.o,why,hwhy,rfl⟩,hB1⟩
    have HP1:=Aa hp1
    obtain ⟨t7,t8,g0,g1,g2,g3,g4,g5,g6,g7⟩:=Cy hb1 s7 s8 f0 f1 f2 f3 f4 f5 f6 f7
    have K2':=Aa (K2.o w1 hB1)
    clear K1 K2 hp1 hb1 hBa hba hB c0 c1 c2 c3 c4 c5 c6 c7 f0 f1 f2 f3 f4 f5 f6 f7 q0 q1 q2 q3 q4 q5 q6 q7 q8 s0 s1 s2 s3 s4 s5 s6 s7 s8
    go_wp2_with fail
    refine (K2'.o).mono ?_
    rintro e w2 ⟨he,hb2⟩
    have hB2:=hB1.trans (hb2.mono hB1.size)
    rcases he with ⟨hp2,rfl⟩ | ⟨hnp,why,hwhy,rfl⟩
    rotate_left
    ·have HN:=Aa (fun hall:∀ s∈l,xS K vn yn on funcs fs (k+1) s=>hnp (hall d HMD.o).2.1)
     clear hnp
     unfold AA
     go_wp2_with fail
     exact ⟨rfl,Or.inr ⟨HN.o,why,hwhy,rfl⟩,hB2⟩
    have HP2:=Aa hp2
    obtain ⟨u8,r0,r1,r2,r3,r4,r5,r6,r7⟩:=co9 hb2 t8 g0 g1 g2 g3 g4 g5 g6 g7
    have K3':=Aa (K3.o w2 hB2)
    clear K2' K3 hp2 hb2 hB1 g0 g1 g2 g3 g4 g5 g6 g7 t7 t8
    go_wp2_with fail
    refine (K3'.o).mono ?_
    rintro e w3 ⟨he,hb3⟩
    have hB3:=hB2.trans (hb3.mono hB2.size)
    rcases he with ⟨hp3,rfl⟩ | ⟨hnp,why,hwhy,rfl⟩
    rotate_left
    ·have HN:=Aa (fun hall:∀ s∈l,xS K vn yn on funcs fs (k+1) s=>hnp (hall d HMD.o).2.2)
     clear hnp
     unfold AA
     go_wp2_with fail
     exact ⟨rfl,Or.inr ⟨HN.o,why,hwhy,rfl⟩,hB3⟩
    obtain ⟨z0,z1,z2,z3,z4,z5,z6,z7⟩:=co8 hb3 r0 r1 r2 r3 r4 r5 r6 r7
    have hnext:∀ s∈l.take (j+1),xS K vn yn on funcs fs (k+1) s:=fun s hs=>by
     rw [HTK.o,List.mem_append,List.mem_singleton] at hs
     rcases hs with hs | rfl
     ·exact HOK.o s hs
     ·exact ⟨HP1.o,HP2.o,hp3⟩
    have HNX:=Aa hnext
    clear hnext hp3 K3' hb3 hB2 r0 r1 r2 r3 r4 r5 r6 r7 u8
    go_wp2_with fail
    exact ⟨⟨j+1,by omega,by go_num,HNX.o,⟨z0,z1,z2,z3,z4,z5,z6,z7⟩,hB3⟩,by simp [intOf];omega⟩
   ·have hall:l.take j=l:=List.take_of_length_le (by omega)
    have hok2:=HOK.o
    rw [hall] at hok2
    have HOK2:=Aa hok2
    clear hok2 hall
    go_wp2_with fail
    go_end0
    exact ⟨Or.inl ⟨HOK2.o,rfl⟩,hB⟩
theorem Ki (vs) (x:Int) (v:Value) (w:World) (hv:AL w v vs) (hl:vs.length<=9223372036854775807) :
  Calls Tryz.prog 242 #[v,U zd x] w fun e w'=>∃ r:Int,e=zk (U zd r)/\(-1<=r/\(0<=r ↔ x∈vs))/\∃ n,w'=w.drewN n:=by
 obtain ⟨ao,cap,rfl,hcc⟩:=hv
 have HCC:=Aa hcc
 clear hcc
 go_enter Tryz.func242,Tryz.ntmps242
 go_wp2_with fail
 go_loopw [8] (fun i wr=>∃ k:Nat,k<=vs.length/\i=U zd k/\Hx (x ∉ vs.take k)/\∃ n,wr=w.drewN n) (fun i _=>vs.length - (intOf i).toNat)
 case atStart=>exact ⟨0,Nat.zero_le _,rfl,Aa (by simp),0,rfl⟩
 case round=>
  obtain ⟨k,hk,rfl,HX,n,rfl⟩:=hrel
  by_cases hkl:k < vs.length
  ·obtain ⟨b,off,rfl,hcl⟩:=HCC.o (by rintro rfl;simp at hkl)
   have q0:=hcl k hkl
   obtain ⟨y,hy⟩:=nm (vs[k])
   rw [<-hy] at q0
   have HM:Hx (y∈vs):=Aa (by rw [hy];exact List.getElem_mem hkl)
   have HT:Hx (vs.take (k+1)=vs.take k++[y]):=Aa (by rw [hy];exact List.take_succ_eq_append_getElem hkl)
   clear hcl hy
   by_cases hxy:x=y
   ·subst hxy
    go_wp2_with fail
    go_ret
    exact ⟨(k:Int),rfl,⟨by omega,fun _=>HM.o,fun _=>by omega⟩,n,rfl⟩
   ·have hb:(x == y)=false:=by simpa using hxy
    have HX2:Hx (x ∉ vs.take (k+1)):=Aa (by rw [HT.o];simp [hxy];exact HX.o)
    go_wp2_with fail
    exact ⟨⟨k+1,by omega,by go_num,HX2,n,rfl⟩,by simp [intOf];omega⟩
  ·have HX2:Hx (x ∉ vs):=Aa (by have:=HX.o;rw [List.take_of_length_le (by omega)] at this;exact this)
   go_wp2_with fail
   go_ret
   exact ⟨-1,rfl,⟨by omega,fun h=>absurd h (by omega),fun h=>absurd h HX2.o⟩,n,rfl⟩
theorem EC (vs) (x:Int) (v:Value) (w:World) (hv:AL w v vs) (hl:vs.length<=9223372036854775807) :
  Calls Tryz.prog 218 #[v,U zd x] w fun e w'=>e=zk (zg (decide (x∈vs)))/\∃ n,w'=w.drewN n:=by
 have HI:=Aa (Ki vs x v w hv hl)
 obtain ⟨ao,cap,rfl,-⟩:=hv
 go_enter Tryz.func218,Tryz.ntmps218
 go_wp2_with fail
 refine (HI.o).mono ?_
 rintro e w1 ⟨r,rfl,hr,n,rfl⟩
 clear HI
 have HR:=Aa hr
 clear hr
 go_wp2_with fail
 go_ret
 refine ⟨?_,n,rfl⟩
 have:=HR.o
 by_cases h:x∈vs
 ·have h0:0<=r:=this.2.2 h
  simp [h,h0]
 ·have h0:¬ 0<=r:=fun hh=>h (this.2.1 hh)
  simp [h,h0]
def xF (K:Nat) (nv ni no:Nat) (ahead:Int) (fs:List FnD) (k:Nat) (f:FnD):Prop:=
 f.ps.length<=4/\(∀ p∈f.ps,0<=p/\p < nv)/\(∀ i (h:i < f.ps.length),f.ps[i] ∉ f.ps.take i)/\(∀ s∈f.body,xS K nv ni no ahead fs k s)/\AZ nv K f.res=0
theorem xF.ok {K nv ni no:Nat} {ahead:Int} {fs:List FnD} {k:Nat} {f:FnD} (h:xF K nv ni no ahead fs k f):okF K nv ni no ahead fs k f:=⟨h.1,h.2.1,fun s hs=>(h.2.2.2.1 s hs).ok,h.2.2.2.2⟩
abbrev M2 (w:World) (m:Int) (ga:Option Addr) (gn gc:Nat) (sa:Option Addr) (sn sc:Nat) (ya:Option Addr) (yn yc:Nat) (oa:Option Addr) (on oc:Nat) (va:Option Addr) (vn vc:Nat) (fa:Option Addr) (fn fc:Nat) (ba:Option Addr) (bn bc:Nat) (pa:Option Addr) (pn pc:Nat) (za:Option Addr) (zn zc:Nat) (ek en:Int) (xa:Option Addr) (xl xc:Nat) (Wz:World):Prop:=Wz.cell? ⟨w.heap.size,0,none⟩=some (U zd m)/\CE Wz w.heap.size 1 (O ga gn gc)/\CE Wz w.heap.size 2 (O sa sn sc)/\CE Wz w.heap.size 3 (O ya yn yc)/\CE Wz w.heap.size 4 (O oa on oc)/\CE Wz w.heap.size 5 (O va vn vc)/\CE Wz w.heap.size 6 (O fa fn fc)/\CE Wz w.heap.size 7 (O ba bn bc)/\CE Wz (w.heap.size+1) 0 (O pa pn pc)/\CE Wz (w.heap.size+1) 1 (O za zn zc)/\CE Wz (w.heap.size+1) 2 (U zd ek)/\CE Wz (w.heap.size+1) 3 (U zd en)/\CE Wz (w.heap.size+1) 4 (O xa xl xc)
theorem Gc (K kf k:Nat) (fs:List FnD) (f:FnD) (funcs:Int) (m:Int) (ga gn gc sa sn sc) (ya:Option Addr) (yn yc:Nat) (oa:Option Addr) (on oc:Nat) (va:Option Addr) (vn vc:Nat) (fa fn fc ba bn bc pa pn pc za zn zc) (ek en:Int) (xa xl xc) (w:World)
  (hv:vn<=9223372036854775807) (h0f:0<=funcs) (h1f:funcs<=9223372036854775807) (hyl:yn<=9223372036854775807) (hol:on<=9223372036854775807) (hff:funcs<=fs.length)
  (hp:AL w (O pa pn pc) f.ps) (hpl:f.ps.length<=maxLen) (hpc:pn<=pc/\pc<=maxLen) (hs:Bc w K k (O za zn zc) f.body) (hx:RX w K [U zd ek,U zd en,O xa xl xc] f.res) (hfs:BA w K kf (O fa fn fc) fs) :
  Calls Tryz.prog 176 #[zh #[U zd m,O ga gn gc,O sa sn sc,O ya yn yc,O oa on oc,O va vn vc,O fa fn fc,O ba bn bc],zh #[O pa pn pc,O za zn zc,U zd ek,U zd en,O xa xl xc],U zd funcs] w (C4 (xF K vn yn on funcs fs k f) w):=by
 have K1:=Aa BR
 have K2:=Aa Bn
 have KS:=Aa fun W (hB:Ov w W)=>Fv K kf fs funcs m ga gn gc sa sn sc ya yn yc oa on oc va vn vc fa fn fc ba bn bc hv h0f h1f hyl hol hff k (O za zn zc) f.body W (hs.over hB) (hfs.over hB)
 have KX:=Aa fun W (hB:Ov w W)=>B2 K m ga gn gc sa sn sc ya yn yc oa on oc va vn vc fa fn fc ba bn bc _ f.res W (hx.over hB) hv
 have KC:=Aa fun W (hB:Ov w W) (x:Int) (i:Nat) (hi:i<=pn) (c:Nat)=>EC (f.ps.take i) x (O pa i c) W
 have hpn:pn=f.ps.length:=by obtain ⟨a2,c2,he,-⟩:=hp;injection he
 have HP:=Aa hp
 have HPN:=Aa hpn
 have hpn2:pn<=9223372036854775807:=by rw [hpn];exact hpl
 obtain ⟨hpc1,hpc2⟩:=hpc
 have hpc3:pc<=9223372036854775807:=hpc2
 clear hp hpl hs hx hfs hpn hpc2
 have hbel:Ov w ((w.alloc (ze #[U zd m,O ga gn gc,O sa sn sc,O ya yn yc,O oa on oc,O va vn vc,O fa fn fc,O ba bn bc] 184)).alloc (ze #[O pa pn pc,O za zn zc,U zd ek,U zd en,O xa xl xc] 105)):=(bA w _).alloc (by simp) _
 obtain ⟨c0,c1,c2,c3,c4,c5,c6,c7⟩:=rc8 (E4 w [U zd m,O ga gn gc,O sa sn sc,O ya yn yc,O oa on oc,O va vn vc,O fa fn fc,O ba bn bc] 184 (ze #[O pa pn pc,O za zn zc,U zd ek,U zd en,O xa xl xc] 105))
 obtain ⟨f0,f1,f2,f3,f4⟩:=rc5 (Fk w (ze #[U zd m,O ga gn gc,O sa sn sc,O ya yn yc,O oa on oc,O va vn vc,O fa fn fc,O ba bn bc] 184) [O pa pn pc,O za zn zc,U zd ek,U zd en,O xa xl xc] 105)
 go_enter Tryz.func176,Tryz.ntmps176
 go_wp2_with fail
 refine (K1.o _ _ _).mono ?_
 rintro e wz ⟨he,rfl⟩
 rcases he with ⟨hz,rfl⟩ | ⟨hz,rfl⟩
 rotate_left
 ·have HN:Hx (¬ xF K vn yn on funcs fs k f):=Aa (fun hf=>absurd hf.1 (by rw [<-HPN.o];simp at hz;omega))
  clear hz
  unfold AA
  go_wp2_with fail
  exact ⟨rfl,Or.inr ⟨HN.o,2,by decide,rfl⟩,hbel⟩
 have hp4:pn<=4:=by simp at hz;omega
 have HP4:Hx (f.ps.length<=4):=by rw [<-HPN.o];exact hp4
 clear hz hp4
 go_wp2_with fail
 go_loopw [18] (fun i wr=>∃ n:Nat,n<=pn/\i=U zd n/\(∀ p∈f.ps.take n,0<=p/\p < (vn:Int))/\(M2 w m ga gn gc sa sn sc ya yn yc oa on oc va vn vc fa fn fc ba bn bc pa pn pc za zn zc ek en xa xl xc wr)/\Ov w wr) (fun i _=>pn - (intOf i).toNat)
 case atStart=>exact ⟨0,Nat.zero_le _,rfl,by simp,⟨c0,c1,c2,c3,c4,c5,c6,c7,f0,f1,f2,f3,f4⟩,hbel⟩
 case round=>
  clear c0 c1 c2 c3 c4 c5 c6 c7 f0 f1 f2 f3 f4 hbel
  obtain ⟨n,hn,rfl,hok,⟨c0,c1,c2,c3,c4,c5,c6,c7,f0,f1,f2,f3,f4⟩,hB⟩:=hrel
  have HOK:=Aa hok
  clear hok
  by_cases hnl:n < pn
  ·have hnd:n < f.ps.length:=by rw [<-HPN.o];exact hnl
   obtain ⟨a2,kk2,he,hpc⟩:=HP.o
   injection he with e1 e2 e3
   subst e1
   obtain ⟨b,off,rfl,hel⟩:=hpc (by intro h;rw [h] at hnd;simp at hnd)
   have q:=Ab hB _ _ (hel n hnd)
   have htk:f.ps.take (n+1)=f.ps.take n++[f.ps[n]]:=List.take_succ_eq_append_getElem hnd
   obtain ⟨x,hx⟩:=nm (f.ps[n])
   have hmx:=List.getElem_mem hnd
   rw [<-hx] at q htk hmx
   have HTK:=Aa htk
   have HMX:=Aa hmx
   clear hmx
   clear hpc hel hx htk e2 e3
   go_wp2_with fail
   refine (K2.o _ _ _).mono ?_
   rintro e wz ⟨rfl,rfl⟩
   go_wp2_with fail
   refine (K1.o _ _ _).mono ?_
   rintro e wz ⟨he,rfl⟩
   rcases he with ⟨hvar,rfl⟩ | ⟨hz,rfl⟩
   rotate_left
   ·have HN:Hx (¬ xF K vn yn on funcs fs k f):=Aa (fun hf=>absurd (hf.2.1 x HMX.o) (by simp at hz;omega))
    clear hz
    unfold AA
    go_wp2_with fail
    exact ⟨rfl,Or.inr ⟨HN.o,5,by decide,rfl⟩,hB⟩
   have hv2:0<=x/\x < vn:=by simpa using hvar
   have hnx:∀ p∈f.ps.take (n+1),0<=p/\p < (vn:Int):=fun p hp=>by
    rw [HTK.o,List.mem_append,List.mem_singleton] at hp
    rcases hp with hp | rfl
    ·exact HOK.o p hp
    ·exact hv2
   have HNX:=Aa hnx
   clear hnx hv2 hvar
   go_wp2_with fail
   exact ⟨⟨n+1,by omega,by go_num,HNX.o,⟨c0,c1,c2,c3,c4,c5,c6,c7,f0,f1,f2,f3,f4⟩,hB⟩,by simp [intOf];omega⟩
  ·have hall:f.ps.take n=f.ps:=List.take_of_length_le (by rw [<-HPN.o];omega)
   have hok2:=HOK.o
   rw [hall] at hok2
   have HOK2:=Aa hok2
   clear hok2 hall HOK
   obtain ⟨w1,hw1⟩:=nm wr
   rw [<-hw1] at c0 c1 c2 c3 c4 c5 c6 c7 f0 f1 f2 f3 f4 hB ⊢
   clear hw1
   go_wp2_with fail
   go_loopw [33] (fun i wr=>∃ n:Nat,n<=pn/\i=U zd n/\Hx (∀ i (h:i < f.ps.length),i < n->f.ps[i] ∉ f.ps.take i)/\(M2 w m ga gn gc sa sn sc ya yn yc oa on oc va vn vc fa fn fc ba bn bc pa pn pc za zn zc ek en xa xl xc wr)/\Ov w wr) (fun i _=>pn - (intOf i).toNat)
   case atStart=>exact ⟨0,Nat.zero_le _,rfl,Aa (fun i h hi=>absurd hi (by omega)),⟨c0,c1,c2,c3,c4,c5,c6,c7,f0,f1,f2,f3,f4⟩,hB⟩
   case round=>
    clear c0 c1 c2 c3 c4 c5 c6 c7 f0 f1 f2 f3 f4 hB
    obtain ⟨n,hn,rfl,HDI,⟨c0,c1,c2,c3,c4,c5,c6,c7,f0,f1,f2,f3,f4⟩,hB⟩:=hrel
    by_cases hnl:n < pn
    ·have hnd:n < f.ps.length:=by rw [<-HPN.o];exact hnl
     obtain ⟨a2,kk2,he,hpc⟩:=HP.o
     injection he with e1 e2 e3
     subst e1
     have hpre:=(HP.o.over hB)
     rw [HPN.o] at hpre
     have hpre2:=hpre.prefix (i:=n) (by omega) pc
     obtain ⟨b,off,rfl,hel⟩:=hpc (by intro h;rw [h] at hnd;simp at hnd)
     have q:=Ab hB _ _ (hel n hnd)
     obtain ⟨x,hx⟩:=nm (f.ps[n])
     rw [<-hx] at q
     have HXE:=Aa hx
     have HND:=Aa hnd
     have KC':=Aa (EC _ x _ _ hpre2 (by simp;omega))
     clear hpc hel hx e2 e3 hpre hpre2
     go_wp2_with fail
     refine (KC'.o).mono ?_
     rintro e w5 ⟨rfl,nd,rfl⟩
     obtain ⟨rb,hrb⟩:=nm (decide (x∈f.ps.take n))
     rw [<-hrb]
     have HRB:=Aa hrb
     clear hrb
     have hBd:=below_drewN hB nd
     go_wp2_with fail
     refine (K1.o _ _ _).mono ?_
     rintro e wz ⟨he,rfl⟩
     rcases he with ⟨hz,rfl⟩ | ⟨hz,rfl⟩
     rotate_left
     ·have HN:Hx (¬ xF K vn yn on funcs fs k f):=Aa (fun hf=>absurd (hf.2.2.1 n HND.o) (by rw [<-HXE.o];have hq:=HRB.o;simp at hz;rw [hz] at hq;simpa using hq))
      clear hz
      unfold AA
      go_wp2_with fail
      exact ⟨rfl,Or.inr ⟨HN.o,6,by decide,rfl⟩,hBd⟩
     have HDI2:Hx (∀ i (h:i < f.ps.length),i < n+1->f.ps[i] ∉ f.ps.take i):=Aa (fun i h hi=>by
      by_cases hin:i=n
      ·subst hin
       rw [<-HXE.o]
       have hq:=HRB.o
       simp at hz
       rw [hz] at hq
       simpa using hq
      ·exact HDI.o i h (by omega))
     clear hz
     go_wp2_with fail
     exact ⟨⟨n+1,by omega,by go_num,HDI2,⟨c0,c1,c2,c3,c4,c5,c6,c7,f0,f1,f2,f3,f4⟩,hBd⟩,by simp [intOf];omega⟩
    ·have HDI3:Hx (∀ i (h:i < f.ps.length),f.ps[i] ∉ f.ps.take i):=Aa (fun i h=>HDI.o i h (by have:=HPN.o;omega))
     have KS':=Aa (KS.o _ hB)
     go_wp2_with fail
     refine (KS'.o).mono ?_
     rintro e w6 ⟨he,hb6⟩
     have hB6:=hB.trans (hb6.mono hB.size)
     rcases he with ⟨hbd,rfl⟩ | ⟨hnb,why,hwhy,rfl⟩
     rotate_left
     ·have HN:Hx (¬ xF K vn yn on funcs fs k f):=Aa (fun hf=>hnb hf.2.2.2.1)
      clear hnb
      unfold AA
      go_wp2_with fail
      exact ⟨rfl,Or.inr ⟨HN.o,why,hwhy,rfl⟩,hB6⟩
     have HBD:=Aa hbd
     obtain ⟨r0,r1,r2,r3,r4,r5,r6,r7,g0,g1⟩:=Cy hb6 c0 c1 c2 c3 c4 c5 c6 c7 f0 f1
     obtain ⟨g2,g3,g4⟩:=co3 hb6 f2 f3 f4
     have KX':=Aa (KX.o _ hB6)
     clear hbd hb6 hB c0 c1 c2 c3 c4 c5 c6 c7 f0 f1 f2 f3 f4 KS'
     go_wp2_with fail
     refine (KX'.o).mono ?_
     rintro e w7 ⟨he,hb7⟩
     have hB7:=hB6.trans (hb7.mono hB6.size)
     rcases he with ⟨hex,rfl⟩ | ⟨hnb,why,hwhy,rfl⟩
     rotate_left
     ·have HN:Hx (¬ xF K vn yn on funcs fs k f):=Aa (fun hf=>hnb hf.2.2.2.2)
      clear hnb
      unfold AA
      go_wp2_with fail
      exact ⟨rfl,Or.inr ⟨HN.o,why,hwhy,rfl⟩,hB7⟩
     have HEX:=Aa hex
     clear hex KX'
     go_wp2_with fail
     go_end0
     exact ⟨Or.inl ⟨⟨HP4.o,HOK2.o,HDI3.o,HBD.o,HEX.o⟩,rfl⟩,hB7⟩
abbrev Kr (w:World) (m:Int) (ga:Option Addr) (gn gc:Nat) (va:Option Addr) (vn vc:Nat) (Wz:World):Prop:=Wz.cell? ⟨w.heap.size,0,none⟩=some (U zd m)/\CE Wz w.heap.size 1 (O ga gn gc)/\CE Wz w.heap.size 5 (O va vn vc)
theorem H3 (m:Int) (ga gn gc) (sa sn sc) (ya yn yc oa on oc va vn vc) (fa fn fc ba bn bc gs ls ms vs) (w:World) (hg:AG w (O ga gn gc) gs) (h1:A9 w (O ya yn yc) ls) (h2:A9 w (O oa on oc) ms) (h3:Bo w (O va vn vc) vs)
  (hy:yn<=5) (ho:on<=5) (hyc:ya=none->yc=0) (hoc:oa=none->oc=0) :
  Calls Tryz.prog 174 #[zh #[U zd m,O ga gn gc,O sa sn sc,O ya yn yc,O oa on oc,O va vn vc,O fa fn fc,O ba bn bc]] w (C4 (Eh m gs (ls++ms) vs) w):=by
 have hbel:Ov w ((w.alloc (ze #[U zd m,O ga gn gc,O sa sn sc,O ya yn yc,O oa on oc,O va vn vc,O fa fn fc,O ba bn bc] 184)).alloc (ze #[O ya yn yc,O oa on oc] 26)):=(bA w _).alloc (by simp) _
 have hrow:Ae [O ya yn yc,O oa on oc] ((w.alloc (ze #[U zd m,O ga gn gc,O sa sn sc,O ya yn yc,O oa on oc,O va vn vc,O fa fn fc,O ba bn bc] 184)).alloc (ze #[O ya yn yc,O oa on oc] 26)) (w.heap.size+1):=by
  have r:=Ae.new [O ya yn yc,O oa on oc] 26 (w.alloc (ze #[U zd m,O ga gn gc,O sa sn sc,O ya yn yc,O oa on oc,O va vn vc,O fa fn fc,O ba bn bc] 184))
  have hs:(w.alloc (ze #[U zd m,O ga gn gc,O sa sn sc,O ya yn yc,O oa on oc,O va vn vc,O fa fn fc,O ba bn bc] 184)).heap.size=w.heap.size+1:=by simp
  rw [hs] at r
  exact r
 have K1:=Aa (Jc (w.heap.size+1) ya yn yc oa on oc ls ms ((w.alloc (ze #[U zd m,O ga gn gc,O sa sn sc,O ya yn yc,O oa on oc,O va vn vc,O fa fn fc,O ba bn bc] 184)).alloc (ze #[O ya yn yc,O oa on oc] 26)) hrow (h1.over hbel) (h2.over hbel) hy ho hyc hoc)
 have KL:=Aa fun (bl:Lab) (pr pw:Value) (W:World) (hW:Ov w W) (hr:AI W pr bl.r) (hw:AI W pw bl.w)=>JK m (O ga gn gc) gs pr pw bl W (Af hg hW) hr hw
 have KP:=Aa Fy
 have KM:=Aa BR
 have hvl:vn<=9223372036854775807:=by obtain ⟨hm,a,c,he,-⟩:=h3;injection he with e1 e2 e3;rw [e2];exact hm
 have hlen:(ls++ms).length<=10:=by
  obtain ⟨-,a,c,he,-⟩:=h1
  injection he with e1 e2 e3
  obtain ⟨-,a',c',he',-⟩:=h2
  injection he' with e1' e2' e3'
  simp
  omega
 have HV:=Aa h3
 have hvs:vn=vs.length:=by obtain ⟨hm,a,c,he,-⟩:=h3;injection he
 have HVS:=Aa hvs
 clear hvs
 have zr:=E4 w [U zd m,O ga gn gc,O sa sn sc,O ya yn yc,O oa on oc,O va vn vc,O fa fn fc,O ba bn bc] 184 (ze #[O ya yn yc,O oa on oc] 26)
 have c0:=zr 0 _ rfl
 have c1:=zr 1 _ rfl
 have c3:=zr 3 _ rfl
 have c4:=zr 4 _ rfl
 have c5:=zr 5 _ rfl
 clear zr
 clear h1 h2 h3 hg hrow
 go_enter Tryz.func174,Tryz.ntmps174
 go_wp2_with fail
 refine (K1.o).mono ?_
 rintro e w1 ⟨v,xs,rfl,hown,hcl,hb1⟩
 have hB1:=hbel.trans (hb1.mono hbel.size)
 obtain ⟨d0,d1,d5⟩:=co3 hb1 c0 c1 c5
 obtain ⟨va',vn',vc',hvf⟩:∃ a n c,v=O a n c:=by
  rcases hown.2 with ⟨h,_⟩ | ⟨g,cap,cur,h,_⟩
  ·exact ⟨_,_,_,h⟩
  ·exact ⟨_,_,_,h⟩
 have hnn:vn'=(ls++ms).length:=by
  rcases hown.2 with ⟨h,h'⟩ | ⟨g,cap,cur,h,_⟩
  ·rw [hvf] at h;injection h with e1 e2 e3;omega
  ·rw [hvf] at h;injection h
 subst hvf
 have HO:=Aa hown
 have HCL:=Aa hcl
 have HNN:=Aa hnn
 have hn10:vn'<=10:=by rw [hnn];exact hlen
 clear hown hcl hnn hb1 c0 c1 c3 c4 c5 hbel K1
 go_wp2_with fail
 go_loopw [17] (fun i wr=>∃ n:Nat,n<=vn'/\i=U zd n/\(∀ b∈(ls++ms).take n,Bq m gs b=0)/\(Kr w m ga gn gc va vn vc wr)/\Ov w1 wr) (fun i _=>vn' - (intOf i).toNat)
 case atStart=>exact ⟨0,Nat.zero_le _,rfl,by simp,⟨d0,d1,d5⟩,Below.refl _ _⟩
 case round=>
  clear d0 d1 d5
  obtain ⟨n,hn,rfl,hok1,⟨d0,d1,d5⟩,hB⟩:=hrel
  have HOK1:=Aa hok1
  clear hok1
  have hBw:=hB1.trans (hB.mono hB1.size)
  by_cases hnl:n < vn'
  ·have hnd:n < (ls++ms).length:=by rw [<-HNN.o];exact hnl
   obtain ⟨pr,pw,e0,e1,hr,hw⟩:=HCL.o.at n hnd
   obtain ⟨g,cap,hgf,hgb,hgl,hgc⟩:=IL HO.o (by omega)
   have a0:=Ab hB _ _ (hgc _ _ e0)
   have a1:=Ab hB _ _ (hgc _ _ e1)
   rw [Addr.add_lit,Nat.zero_add] at a0 a1
   injection hgf with f1 f2 f3
   subst f1
   obtain ⟨ra,rn,rc,hrf⟩:=AM hr
   obtain ⟨wa,wn,wc,hwf⟩:=AM hw
   subst hrf hwf
   have hba:=bA wr (ze #[O ra rn rc,O wa wn wc] 39)
   have hBa:=hBw.trans (hba.mono hBw.size)
   have hB1a:=Ac hB hba
   have K2:=Aa (KL.o (ls++ms)[n] _ _ _ hBa (Ah hr hB1a) (Ah hw hB1a))
   obtain ⟨f0,f1,f5⟩:=co3 hba d0 d1 d5
   obtain ⟨cr,hcr⟩:=nm (Bq m gs (ls++ms)[n])
   rw [<-hcr] at K2
   have HCR:=Aa hcr
   clear hgc hr hw e0 e1 hcr f2 f3
   go_wp2_with fail
   refine (K2.o).mono ?_
   rintro e w2 ⟨rfl,hb2⟩
   have hB2:=Ac hB1a hb2
   have hBw2:=hB1.trans (hB2.mono hB1.size)
   obtain ⟨r0,r1,r5⟩:=co3 hb2 f0 f1 f5
   clear K2 hb2 hBa hB1a hba hB hBw a0 a1 d0 d1 d5 f0 f1 f5
   go_wp2_with fail
   refine (KP.o _ _).mono ?_
   rintro e wz ⟨he,rfl⟩
   rcases he with ⟨hz,rfl⟩ | ⟨hz,rfl⟩
   rotate_left
   ·have hz2:cr≠0:=by simpa using hz
    have HN:Hx (¬ Eh m gs (ls++ms) vs):=Aa (fun h=>hz2 (HCR.o.trans (h.1 _ (List.getElem_mem hnd))))
    unfold AA
    go_wp2_with fail
    exact ⟨rfl,Or.inr ⟨HN.o,cr,hz2,rfl⟩,hBw2⟩
   have HZ:=Aa (show cr=0 by simpa using hz)
   clear hz
   go_wp2_with fail
   exact ⟨⟨n+1,by omega,by go_num,DX hnd HOK1.o (HCR.o.symm.trans HZ.o),⟨r0,r1,r5⟩,hB2⟩,by simp [intOf];omega⟩
  ·obtain ⟨w2,hw2⟩:=nm wr
   rw [<-hw2] at d0 d1 d5 hBw ⊢
   have HALL1:=Aa (CO (by rw [<-HNN.o];omega) HOK1.o)
   clear hw2 hB HO HCL HOK1
   go_wp2_with fail
   go_loopw [32] (fun i wr=>∃ n:Nat,n<=vn/\i=U zd n/\(∀ v∈vs.take n,Bq m gs v.2=0)/\(Kr w m ga gn gc va vn vc wr)/\Ov w2 wr) (fun i _=>vn - (intOf i).toNat)
   case atStart=>exact ⟨0,Nat.zero_le _,rfl,by simp,⟨d0,d1,d5⟩,Below.refl _ _⟩
   case round=>
    clear d0 d1 d5 hnl hn
    obtain ⟨n,hn,rfl,hok1,⟨d0,d1,d5⟩,hB⟩:=hrel
    have HOK1:=Aa hok1
    clear hok1
    have hBw3:=hBw.trans (hB.mono hBw.size)
    by_cases hnl:n < vn
    ·obtain ⟨-,ao,cap,he,hel⟩:=HV.o.over hBw3
     injection he with e1 e2 e3
     have hne:vs≠[]:=by intro h;rw [h] at e2;simp at e2;omega
     obtain ⟨b,off,hbo,hel2⟩:=hel hne
     have hnv:n < vs.length:=by omega
     obtain ⟨pr,pw,a0,a1,a2,hr,hw⟩:=hel2 n hnv
     have e1':=e1.trans hbo
     subst e1'
     obtain ⟨kn,hkn⟩:=nm (vs[n].1)
     obtain ⟨lb,hlb⟩:=nm (vs[n].2)
     rw [<-hkn] at a0
     rw [<-hlb] at hr hw
     obtain ⟨ra,rn,rc,hrf⟩:=AM hr
     obtain ⟨wa,wn,wc,hwf⟩:=AM hw
     subst hrf hwf
     have HLB:=Aa hlb
     clear hkn hlb hel hel2 e1 e2 e3 hbo
     have hba:=bA wr (ze #[zg kn,O ra rn rc,O wa wn wc] 41)
     have hBa:=hBw3.trans (hba.mono hBw3.size)
     have hB1a:=Ac hB hba
     have K2:=Aa (KL.o lb _ _ _ hBa (Ah hr hba) (Ah hw hba))
     obtain ⟨f0,f1,f5⟩:=co3 hba d0 d1 d5
     obtain ⟨cr,hcr⟩:=nm (Bq m gs lb)
     rw [<-hcr] at K2
     have HCR:=Aa hcr
     clear hr hw hcr
     go_wp2_with fail
     refine (K2.o).mono ?_
     rintro e w3 ⟨rfl,hb2⟩
     have hB2:=Ac hB1a hb2
     have hBw2:=hBw.trans (hB2.mono hBw.size)
     obtain ⟨r0,r1,r5⟩:=co3 hb2 f0 f1 f5
     clear K2 hb2 hBa hB1a hba hB hBw3 a0 a1 a2 d0 d1 d5 f0 f1 f5
     go_wp2_with fail
     refine (KP.o _ _).mono ?_
     rintro e wz ⟨he,rfl⟩
     rcases he with ⟨hz,rfl⟩ | ⟨hz,rfl⟩
     rotate_left
     ·have hz2:cr≠0:=by simpa using hz
      have HN:Hx (¬ Eh m gs (ls++ms) vs):=Aa (fun h=>hz2 (HCR.o.trans (by rw [HLB.o];exact h.2.1 _ (List.getElem_mem hnv))))
      unfold AA
      go_wp2_with fail
      exact ⟨rfl,Or.inr ⟨HN.o,cr,hz2,rfl⟩,hBw2⟩
     have HZ:=Aa (show cr=0 by simpa using hz)
     clear hz
     go_wp2_with fail
     exact ⟨⟨n+1,by omega,by go_num,DX hnv HOK1.o (by rw [<-HLB.o];exact HCR.o.symm.trans HZ.o),⟨r0,r1,r5⟩,hB2⟩,by simp [intOf];omega⟩
    ·obtain ⟨w3,hw3⟩:=nm wr
     rw [<-hw3] at d0 d1 d5 hBw3 ⊢
     have HALL2:=Aa (CO (by rw [<-HVS.o];omega) HOK1.o)
     clear hw3 hB hBw HOK1
     go_wp2_with fail
     go_loopw [48] (fun i wr=>∃ n:Nat,n<=vn/\i=U zd n/\(∀ v∈vs.take n,v.1=false->v.2.r=[]/\v.2.w=[])/\(Kr w m ga gn gc va vn vc wr)/\Ov w3 wr) (fun i _=>vn - (intOf i).toNat)
     case atStart=>exact ⟨0,Nat.zero_le _,rfl,by simp,⟨d0,d1,d5⟩,Below.refl _ _⟩
     case round=>
      clear d0 d1 d5 hnl hn
      obtain ⟨n,hn,rfl,hok1,⟨d0,d1,d5⟩,hB⟩:=hrel
      have HOK1:=Aa hok1
      clear hok1
      have hBw:=hBw3.trans (hB.mono hBw3.size)
      by_cases hnl:n < vn
      ·obtain ⟨-,ao,cap,he,hel⟩:=HV.o.over hBw
       injection he with e1 e2 e3
       have hne:vs≠[]:=by intro h;rw [h] at e2;simp at e2;omega
       obtain ⟨b,off,hbo,hel2⟩:=hel hne
       have hnv:n < vs.length:=by omega
       obtain ⟨pr,pw,a0,a1,a2,hr,hw⟩:=hel2 n hnv
       have e1':=e1.trans hbo
       subst e1'
       obtain ⟨kn,hkn⟩:=nm (vs[n].1)
       rw [<-hkn] at a0
       obtain ⟨ra,rn,rc,hrf⟩:=AM hr
       obtain ⟨wa,wn,wc,hwf⟩:=AM hw
       subst hrf hwf
       have HKN:Hx (kn=vs[n].1/\rn=vs[n].2.r.length/\wn=vs[n].2.w.length):=⟨hkn,Hq hr,Hq hw⟩
       clear hkn hel hel2 e1 e2 e3 hbo hr hw
       have HA:Hx (∀ ob:Obj,(CE (wr.alloc ob) w.heap.size 0 (U zd m)/\CE (wr.alloc ob) w.heap.size 1 (O ga gn gc)/\CE (wr.alloc ob) w.heap.size 5 (O (some ⟨b,off,none⟩) vn vc))/\Ov w3 (wr.alloc ob)/\Ov w (wr.alloc ob)):=fun ob=>by
        have hba:=bA wr ob
        exact ⟨⟨Ab hba _ _ d0,Ab hba _ _ d1,Ab hba _ _ d5⟩,Ac hB hba,hBw.trans (hba.mono hBw.size)⟩
       clear KL KP d0 d1 d5 hB
       have HNX:Hx ((kn=false->rn=0/\wn=0)->∀ v∈vs.take (n+1),v.1=false->v.2.r=[]/\v.2.w=[]):=fun h=>DX hnv HOK1.o fun h0=>by
        obtain ⟨h1,h2,h3⟩:=HKN.o
        have:=h (h1.trans h0)
        exact ⟨List.eq_nil_of_length_eq_zero (by omega),List.eq_nil_of_length_eq_zero (by omega)⟩
       have HNG:Hx (¬ (kn=false->rn=0/\wn=0)->¬ Eh m gs (ls++ms) vs):=Aa (fun hn h=>hn fun hk=>by
        obtain ⟨h1,h2,h3⟩:=HKN.o
        obtain ⟨q1,q2⟩:=h.2.2 _ (List.getElem_mem hnv) (h1.symm.trans hk)
        rw [q1] at h2
        rw [q2] at h3
        exact ⟨h2,h3⟩)
       clear HKN HOK1
       cases kn
       all_goals go_wp2_with fail
       all_goals
        refine (KM.o _ _ _).mono ?_
        rintro e wz ⟨he,rfl⟩
        rcases he with ⟨hz,rfl⟩ | ⟨hz,rfl⟩
        ·have HZ:Hx (∀ v∈vs.take (n+1),v.1=false->v.2.r=[]/\v.2.w=[]):=HNX.o (by first | (intro h;cases h;done) | (intro _;simp at hz;done) | (intro _;simp at hz;omega) | (intro _;simp at *;omega))
         clear hz HNX HNG
         go_wp2_with fail
         exact ⟨⟨n+1,by omega,by go_num,HZ.o,(HA.o _).1,(HA.o _).2.1⟩,by simp [intOf];omega⟩
        ·have HN:Hx (¬ Eh m gs (ls++ms) vs):=Aa (HNG.o (by first | (simp at hz;done) | (intro hh;have hq:=hh (by simp);simp at hz;omega)))
         clear hz HNX HNG
         unfold AA
         go_wp2_with fail
         exact ⟨rfl,Or.inr ⟨HN.o,1,by decide,rfl⟩,(HA.o _).2.2⟩
      ·go_wp2_with fail
       go_end0
       exact ⟨Or.inl ⟨⟨HALL1.o,HALL2.o,CO (by rw [<-HVS.o];omega) HOK1.o⟩,rfl⟩,hBw⟩
def dpS:Nat->Int->D->Prop
 | 0,_,_=>False
 | k+1,deep,d=>deep<=6/\(∀ s∈Ar d,dpS k (deep+1) s)/\∀ s∈Av d,dpS k (deep+1) s
def dps (k:Nat) (deep:Int) (l:List D):Prop:=∀ s∈l,dpS k deep s
theorem G7 {k:Nat} {l:List D} (j:Nat):A4 k (l.take j)<=A4 k l:=by
 have h:A4 k l=A4 k (l.take j)+A4 k (l.drop j):=by
  unfold A4
  rw [<-List.sum_append,<-List.map_append,List.take_append_drop]
 omega
def MZ (dp:Prop) (many n:Int) (w:World) (e:Ending) (w':World):Prop:=((e=zk (U zd (many+n))/\many+n<=50/\dp)\/(¬ (many+n<=50/\dp)/\e=AA 2))/\Ov w w'
theorem Km (K:Nat):∀ (k:Nat) (v:Value) (l:List D) (deep many:Int) (w:World),Bc w K k v l->0<=deep->deep<=7->0<=many->many<=50 ->
  Calls Tryz.prog 217 #[v,U zd deep,U zd many] w (MZ (dps k deep l) many (A4 k l) w):=by
 intro k
 induction k with
 | zero=>
  intro v l deep many w h d0 d1 m0 m1
  obtain rfl:=h.zero
  obtain ⟨-,ao,cap,rfl,-⟩:=h
  have hz:many+((A4 0 []:Nat):Int)=many:=by simp [A4]
  show Calls Tryz.prog 217 #[O ao 0 cap,U zd deep,U zd many] w _
  go_enter Tryz.func217,Tryz.ntmps217
  go_wp2_with fail
  go_loopw [2,11] (fun c i wr=>c=U zd many/\i=U zd 0/\wr=w) (fun _ _ _=>0)
  case atStart=>exact ⟨rfl,rfl,rfl⟩
  case round=>
   obtain ⟨rfl,rfl,hw⟩:=hrel
   have hw':=hw.symm
   subst hw'
   clear hw
   go_wp2_with fail
   go_ret
   exact ⟨Or.inl ⟨by rw [hz];rfl,by rw [hz];exact m1,fun s hs=>absurd hs (by simp)⟩,Below.refl _ _⟩
 | succ k ih=>
  intro v l deep many w h d0 d1 m0 m1
  have HS:=Aa h
  have hlen:l.length<=9223372036854775807:=h.1
  obtain ⟨ao,cap,rfl,hc⟩:=h.2
  have HC:=Aa hc
  have IH:=Aa ih
  clear hc ih h
  have KM:=Aa BR
  go_enter Tryz.func217,Tryz.ntmps217
  go_wp2_with fail
  go_loopw [2,11] (fun c i wr=>∃ j:Nat,j<=l.length/\i=U zd j/\c=U zd (many+(A4 (k+1) (l.take j):Nat))/\many+(A4 (k+1) (l.take j):Nat)<=50/\Hx (dps (k+1) deep (l.take j))/\Ov w wr) (fun _ i _=>l.length - (intOf i).toNat)
  case atStart=>exact ⟨0,Nat.zero_le _,rfl,by simp [A4],by simp [A4];omega,Aa (fun s hs=>absurd hs (by simp)),Below.refl _ w⟩
  case round=>
   obtain ⟨j,hj,rfl,rfl,hle,HDP,hB⟩:=hrel
   by_cases hjl:j < l.length
   ·obtain ⟨b,off,rfl,hcl⟩:=HC.o (by rintro rfl;simp at hjl)
    obtain ⟨cs,hl9,hcs,hr⟩:=hcl j l[j] (List.getElem?_eq_getElem hjl)
    have htk:=Gy (k:=k+1) hjl
    have hcn:CM (k+1) l[j]=1+A4 k (Ar l[j])+A4 k (Av l[j]):=rfl
    rw [hcn] at htk
    obtain ⟨d,hd⟩:=nm (l[j])
    have hmd:=List.getElem_mem hjl
    have htl2:l.take (j+1)=l.take j++[l[j]]:=List.take_succ_eq_append_getElem hjl
    have hle2:=G7 (k:=k+1) (l:=l) (j+1)
    rw [<-hd] at hr htk hmd htl2
    have HMD:=Aa hmd
    have HTL:=Aa htl2
    clear hmd htl2
    obtain ⟨ek,en,xa,xl,xc,aa,ac,ta,tc,ea,ec,hcse,-,-,-,-,-,hT,hE,-,-,-⟩:=hr.form
    subst hcse
    obtain ⟨M,hM⟩:∃ M:Int,M=many+(A4 (k+1) (l.take j):Nat):=⟨_,rfl⟩
    rw [<-hM] at hle ⊢
    have hM0:0<=M:=by omega
    obtain ⟨n1,hn1⟩:∃ n:Nat,n=A4 k (Ar d):=⟨_,rfl⟩
    obtain ⟨n2,hn2⟩:∃ n:Nat,n=A4 k (Av d):=⟨_,rfl⟩
    rw [<-hn1,<-hn2] at htk
    have HTOT:Hx (M+1+(n1:Int)+n2<=many+(A4 (k+1) l:Nat)):=Aa (by rw [hM];omega)
    have HTK:=Aa htk
    have HMM:=Aa hM
    clear htk hM hcn hle2
    obtain ⟨kd,hkd⟩:=nm (Ak d)
    obtain ⟨va,hva⟩:=nm (AJ d)
    obtain ⟨ot,hot⟩:=nm (Ag d)
    obtain ⟨al,hal⟩:=nm ((An d).length)
    obtain ⟨tl,htl⟩:=nm ((Ar d).length)
    obtain ⟨el,hel⟩:=nm ((Av d).length)
    rw [<-htl] at hT
    rw [<-hel] at hE
    rw [<-hkd,<-hva,<-hot,<-hal,<-htl,<-hel] at hcs
    have q0:wr.cell? ⟨b,off+j*9,none⟩=_:=Ab hB _ _ (hcs 0 _ rfl)
    have q1:=Ab hB _ _ (hcs 1 _ rfl)
    have q2:=Ab hB _ _ (hcs 2 _ rfl)
    have q3:=Ab hB _ _ (hcs 3 _ rfl)
    have q4:=Ab hB _ _ (hcs 4 _ rfl)
    have q5:=Ab hB _ _ (hcs 5 _ rfl)
    have q6:=Ab hB _ _ (hcs 6 _ rfl)
    have q7:=Ab hB _ _ (hcs 7 _ rfl)
    have q8:=Ab hB _ _ (hcs 8 _ rfl)
    have hba:Ov wr (wr.alloc (ze #[U zd kd,U zd va,U zd ot,U zd ek,U zd en,O xa xl xc,O aa al ac,O ta tl tc,O ea el ec] 130)):=bA wr _
    have hBa:=hB.trans (hba.mono hB.size)
    have hTa:=hT.over hBa
    have K1:=Aa fun (h1:M+1<=50) (h2:deep<=6)=>IH.o (O ta tl tc) (Ar d) (deep+1) (M+1) _ hTa (by omega) (by omega) (by omega) h1
    have K2:=Aa fun W (hW:Ov w W) (mm:Int) (h0:0<=mm) (h1:mm<=50) (h2:deep<=6)=>IH.o (O ea el ec) (Av d) (deep+1) mm W (hE.over hW) (by omega) (by omega) h0 h1
    rw [<-hn1] at K1
    rw [<-hn2] at K2
    have s8:(wr.alloc (ze #[U zd kd,U zd va,U zd ot,U zd ek,U zd en,O xa xl xc,O aa al ac,O ta tl tc,O ea el ec] 130)).cell? ⟨wr.heap.size,8,none⟩=some (O ea el ec):=by simp [go_sem]
    clear hT hE hTa hcs hcl hr hl9 hn1 hn2 hkd hva hot hal htl hel hd
    by_cases c1:M+1<=50/\deep<=6
    ·obtain ⟨c1,c2⟩:=c1
     have K1':=Aa (K1.o c1 c2)
     go_wp2_with fail
     refine (KM.o true 2 _).mono ?_
     rintro e wz ⟨he,rfl⟩
     have he2:=orT he
     subst he2
     clear he
     go_wp2_with fail
     refine (K1'.o).mono ?_
     rintro e w1 ⟨he,hb1⟩
     have hB1:=hBa.trans (hb1.mono hBa.size)
     rcases he with ⟨rfl,hm1,hdp1⟩ | ⟨hng,rfl⟩
     ·have HDP1:=Aa hdp1
      clear hdp1
      have t8:=Ab hb1 _ _ s8
      have hM1:0<=M+1+(n1:Int):=by omega
      obtain ⟨M1,hM1e⟩:=nm (M+1+(n1:Int))
      rw [<-hM1e] at hm1 hM1 ⊢
      have HME:=Aa hM1e
      clear hM1e
      have K2':=Aa (K2.o w1 hB1 M1 hM1 hm1 c2)
      clear K1 K2 K1' s8 hb1 hBa q0 q1 q2 q3 q4 q5 q6 q7 q8 hB hba
      go_wp2_with fail
      refine (K2'.o).mono ?_
      rintro e w2 ⟨he,hb2⟩
      have hB2:=hB1.trans (hb2.mono hB1.size)
      rcases he with ⟨rfl,hm2,hdp2⟩ | ⟨hng,rfl⟩
      ·have HDN:Hx (dps (k+1) deep (l.take (j+1))):=Aa (fun s hs=>by
        rw [HTL.o,List.mem_append,List.mem_singleton] at hs
        rcases hs with hs | rfl
        ·exact HDP.o s hs
        ·exact ⟨c2,HDP1.o,hdp2⟩)
       clear K2' t8 hb2 hB1 hdp2
       go_wp2_with fail
       refine ⟨⟨j+1,by omega,by go_num,?_,?_,HDN,hB2⟩,by simp [intOf];omega⟩
       ·rw [HTK.o]
        have:=HMM.o
        refine congrArg (Value.int IntKind.i64) ?_
        have h2:=HME.o
        push_cast
        omega
       ·rw [HTK.o]
        have:=HMM.o
        have h2:=HME.o
        push_cast
        omega
      ·have HN:Hx (¬ (many+(A4 (k+1) l:Nat)<=50/\dps (k+1) deep l)):=Aa (fun hh=>hng ⟨by have h1:=HTOT.o;have h2:=HME.o;have h3:=hh.1;omega,(hh.2 d HMD.o).2.2⟩)
       clear hng
       unfold AA
       go_wp2_with fail
       exact ⟨rfl,Or.inr ⟨HN.o,rfl⟩,hB2⟩
     ·have HN:Hx (¬ (many+(A4 (k+1) l:Nat)<=50/\dps (k+1) deep l)):=Aa (fun hh=>hng ⟨by have h1:=HTOT.o;have h3:=hh.1;omega,(hh.2 d HMD.o).2.1⟩)
      clear hng
      unfold AA
      go_wp2_with fail
      exact ⟨rfl,Or.inr ⟨HN.o,rfl⟩,hB1⟩
    ·clear K1 K2 s8
     by_cases c2:M+1<=50
     ·have c3:¬ deep<=6:=fun h=>c1 ⟨c2,h⟩
      clear c1
      have HN:Hx (¬ (many+(A4 (k+1) l:Nat)<=50/\dps (k+1) deep l)):=Aa (fun hh=>c3 (hh.2 d HMD.o).1)
      go_wp2_with fail
      refine (KM.o false 2 _).mono ?_
      rintro e wz ⟨he,rfl⟩
      have he2:e=AA 2:=by
       rcases he with ⟨he,_⟩ | ⟨_,he⟩
       ·cases he
       ·exact he
      subst he2
      clear he
      unfold AA
      go_wp2_with fail
      exact ⟨rfl,Or.inr ⟨HN.o,rfl⟩,hBa⟩
     ·clear c1
      have HN:Hx (¬ (many+(A4 (k+1) l:Nat)<=50/\dps (k+1) deep l)):=Aa (fun hh=>c2 (by have h1:=HTOT.o;have h3:=hh.1;omega))
      go_wp2_with fail
      refine (KM.o false 2 _).mono ?_
      rintro e wz ⟨he,rfl⟩
      have he2:e=AA 2:=by
       rcases he with ⟨he,_⟩ | ⟨_,he⟩
       ·cases he
       ·exact he
      subst he2
      clear he
      unfold AA
      go_wp2_with fail
      exact ⟨rfl,Or.inr ⟨HN.o,rfl⟩,hBa⟩
   ·have hd:l.take j=l:=List.take_of_length_le (by omega)
    rw [hd] at hle HDP ⊢
    go_wp2_with fail
    go_ret
    exact ⟨Or.inl ⟨rfl,hle,HDP.o⟩,hB⟩
theorem G8 {k:Nat} {l:List FnD} (j:Nat):B5 k (l.take j)<=B5 k l:=by
 have h:B5 k l=B5 k (l.take j)+B5 k (l.drop j):=by
  unfold B5
  rw [<-List.sum_append,<-List.map_append,List.take_append_drop]
 omega
def dpF (k:Nat) (fs:List FnD):Prop:=∀ f∈fs,dps k 1 f.body
def MU (dp:Prop) (n:Int) (w:World) (e:Ending) (w':World):Prop:=((e=zk (zm #[])/\n<=50/\dp)\/(¬ (n<=50/\dp)/\e=AA 2))/\Ov w w'
theorem IQ (K k:Nat) (m:Int) (ga gn gc sa sn sc ya yn yc oa on oc va vn vc) (fa fn fc ba bn bc) (fs l) (w:World) (hf:BA w K k (O fa fn fc) fs) (hl:Bc w K k (O ba bn bc) l) :
  Calls Tryz.prog 175 #[zh #[U zd m,O ga gn gc,O sa sn sc,O ya yn yc,O oa on oc,O va vn vc,O fa fn fc,O ba bn bc]] w (MU (dpF k fs/\dps k 1 l) ((B5 k fs:Nat)+(A4 k l:Nat)) w):=by
 have zr:=CK w [U zd m,O ga gn gc,O sa sn sc,O ya yn yc,O oa on oc,O va vn vc,O fa fn fc,O ba bn bc] 184
 have c6:=zr 6 _ rfl
 have c7:=zr 7 _ rfl
 clear zr
 have hbel:Ov w (w.alloc (ze #[U zd m,O ga gn gc,O sa sn sc,O ya yn yc,O oa on oc,O va vn vc,O fa fn fc,O ba bn bc] 184)):=bA w _
 obtain ⟨hfl,fa',fc',hfe,hfc⟩:=hf
 injection hfe with e1 e2 e3
 subst e1 e2 e3
 have hfl':fs.length<=9223372036854775807:=hfl
 have HF:=Aa hfc
 have HM:=Aa hl
 clear hfc hl hfl
 have K1:=Aa (Km K)
 go_enter Tryz.func175,Tryz.ntmps175
 go_wp2_with fail
 go_loopw [2,9] (fun c i wr=>∃ j:Nat,j<=fs.length/\i=U zd j/\c=U zd (B5 k (fs.take j):Nat)/\((B5 k (fs.take j):Nat):Int)<=50/\Hx (dpF k (fs.take j))/\wr.cell? ⟨w.heap.size,7,none⟩=some (O ba bn bc)/\Ov w wr) (fun _ i _=>fs.length - (intOf i).toNat)
 case atStart=>exact ⟨0,Nat.zero_le _,rfl,by simp [B5],by simp [B5],Aa (fun s hs=>absurd hs (by simp)),c7,hbel⟩
 case round=>
  clear c6 c7 hbel
  obtain ⟨j,hj,rfl,rfl,hle,HDP,c7,hB⟩:=hrel
  by_cases hjl:j < fs.length
  ·obtain ⟨b,off,rfl,hcl⟩:=HF.o (by rintro rfl;simp at hjl)
   obtain ⟨vP,vB,x0,x1,x2,q0,q1,q2,q3,q4,hp,hpl,hs,hx⟩:=hcl j hjl
   obtain ⟨pa,pc,rfl,-⟩:=hp
   obtain ⟨za,zc,rfl,-⟩:=hs.2
   obtain ⟨xa,xc,hxf⟩:=hx.form
   simp only [List.cons.injEq,and_true] at hxf
   obtain ⟨rfl,rfl,rfl⟩:=hxf
   have htk:=EZ (k:=k) hjl
   obtain ⟨fd,hfd⟩:=nm (fs[j])
   have hmd:=List.getElem_mem hjl
   have htl2:fs.take (j+1)=fs.take j++[fs[j]]:=List.take_succ_eq_append_getElem hjl
   have hle2:=G8 (k:=k) (l:=fs) (j+1)
   rw [<-hfd] at q0 q1 q2 q3 q4 hs htk hmd htl2
   have HMD:=Aa hmd
   have HTL:=Aa htl2
   clear hmd htl2
   obtain ⟨M,hM⟩:∃ M:Nat,M=B5 k (fs.take j):=⟨_,rfl⟩
   rw [<-hM] at hle htk ⊢
   have HTK:=Aa htk
   have HTOT:Hx (M+A4 k fd.body<=B5 k fs):=Aa (by rw [<-htk];exact hle2)
   have HFB:Hx (fd∈fs):=HMD
   clear htk hM hle2
   have r0:wr.cell? ⟨b,off+j*5,none⟩=_:=Ab hB _ _ q0
   obtain ⟨r1,r2,r3,r4⟩:=co4 hB q1 q2 q3 q4
   obtain ⟨pn,hpn⟩:=nm fd.ps.length
   obtain ⟨zn,hzn⟩:=nm fd.body.length
   obtain ⟨ek,hek⟩:=nm (AH fd.res)
   obtain ⟨en,hen⟩:=nm (Ba fd.res)
   obtain ⟨xl,hxl⟩:=nm ((AF fd.res).length)
   rw [<-hpn] at r0
   rw [<-hzn] at r1 hs
   rw [<-hek] at r2
   rw [<-hen] at r3
   rw [<-hxl] at r4
   have hba:=bA wr (ze #[O pa pn pc,O za zn zc,U zd ek,U zd en,O xa xl xc] 105)
   have hBa:=hB.trans (hba.mono hB.size)
   have c7':=Ab hba _ _ c7
   have K1':=Aa (K1.o k _ _ 1 (M:Int) _ (hs.over hBa) (by omega) (by omega) (by omega) hle)
   obtain ⟨n1,hn1⟩:=nm (A4 k fd.body)
   rw [<-hn1] at K1' HTK HTOT
   clear q0 q1 q2 q3 q4 hs hx hcl hfd hpn hzn hek hen hxl hn1 hpl
   go_wp2_with fail
   refine (K1'.o).mono ?_
   rintro e w1 ⟨he,hb1⟩
   have hB1:=hBa.trans (hb1.mono hBa.size)
   rcases he with ⟨rfl,hm1,hdp1⟩ | ⟨hng,rfl⟩
   ·have HDN:Hx (dpF k (fs.take (j+1))):=Aa (fun f hf=>by
     rw [HTL.o,List.mem_append,List.mem_singleton] at hf
     rcases hf with hf | rfl
     ·exact HDP.o f hf
     ·exact hdp1)
    clear hdp1
    have c7'':=Ab hb1 _ _ c7'
    clear K1' hb1 hBa hba hB r0 r1 r2 r3 r4 c7 c7'
    go_wp2_with fail
    refine ⟨⟨j+1,by omega,by go_num,?_,?_,HDN,c7'',hB1⟩,by simp [intOf];omega⟩
    ·rw [HTK.o]
     refine congrArg (Value.int IntKind.i64) ?_
     push_cast
     omega
    ·rw [HTK.o]
     push_cast
     omega
   ·have HN:Hx (¬ ((B5 k fs:Nat)+((A4 k l:Nat):Int)<=50/\dpF k fs/\dps k 1 l)):=Aa (fun hh=>hng ⟨by have h1:=HTOT.o;have h3:=hh.1;omega,hh.2.1 fd HMD.o⟩)
    clear hng
    unfold AA
    go_wp2_with fail
    exact ⟨rfl,Or.inr ⟨HN.o,rfl⟩,hB1⟩
  ·have hd:fs.take j=fs:=List.take_of_length_le (by omega)
   rw [hd] at hle HDP ⊢
   have K1':=Aa (K1.o k _ _ 1 ((B5 k fs:Nat):Int) _ (HM.o.over hB) (by omega) (by omega) (by omega) hle)
   obtain ⟨M,hM⟩:∃ M:Nat,M=B5 k fs:=⟨_,rfl⟩
   rw [<-hM] at K1' hle ⊢
   have HMM:=Aa hM
   clear hM hd
   go_wp2_with fail
   refine (K1'.o).mono ?_
   rintro e w1 ⟨he,hb1⟩
   have hB1:=hB.trans (hb1.mono hB.size)
   rcases he with ⟨rfl,hm1,hdp1⟩ | ⟨hng,rfl⟩
   ·have hm2:((B5 k fs:Nat):Int)+(A4 k l:Nat)<=50:=by rw [<-HMM.o];exact hm1
    have HM2:=Aa hm2
    have HD2:=Aa hdp1
    clear K1' hm2 hdp1
    go_wp2_with fail
    go_end0
    exact ⟨Or.inl ⟨rfl,HM2.o,HDP.o,HD2.o⟩,hB1⟩
   ·have HN:Hx (¬ ((B5 k fs:Nat)+((A4 k l:Nat):Int)<=50/\dpF k fs/\dps k 1 l)):=Aa (fun hh=>hng ⟨by have h1:=HMM.o;have h3:=hh.1;omega,hh.2.2⟩)
    clear hng
    unfold AA
    go_wp2_with fail
    exact ⟨rfl,Or.inr ⟨HN.o,rfl⟩,hB1⟩
structure xP (K kf:Nat) (m:Int) (vn yn on sn:Nat) (gs:List (Int × Int)) (sp:List Int) (ls ms:List Lab) (vs:List (Bool × Lab)) (fs:List FnD) (l:List D):Prop where
 chk:AQ m gs=0
 lim:(vn:Int)<=16/\(yn:Int)<=5/\(on:Int)<=5/\(fs.length:Int)<=5/\(sn:Int)<=m
 speak:∀ x∈sp,0<=x/\x < m
 labs:Eh m gs (ls++ms) vs
 many:((B5 kf fs:Nat):Int)+(A4 kf l:Nat)<=50/\dpF kf fs/\dps kf 1 l
 body:∀ i (h:i < fs.length),xF K vn yn on (i:Int) fs kf fs[i]
 main:∀ s∈l,xS K vn yn on (fs.length:Int) fs kf s
theorem xP.ok {K kf:Nat} {m:Int} {vn yn on sn:Nat} {gs:List (Int × Int)} {sp:List Int} {ls ms:List Lab} {vs:List (Bool × Lab)} {fs:List FnD} {l:List D} (h:xP K kf m vn yn on sn gs sp ls ms vs fs l):okP K kf m vn yn on gs sp ls ms vs fs l:=
 ⟨h.chk,h.speak,h.labs,by have:=h.lim;omega,by have:=h.lim;omega,by have:=h.lim;omega,by have:=h.lim;omega,by have:=h.many.1;omega,fun i hi=>(h.body i hi).ok,fun s hs=>(h.main s hs).ok⟩
theorem Jf (K kf:Nat) (m:Int) (ga gn gc sa sn sc ya yn yc oa on oc va vn vc fa fn fc ba bn bc gs sp ls ms vs fs l) (w:World) (h:BC K kf m ga gn gc sa sn sc ya yn yc oa on oc va vn vc fa fn fc ba bn bc gs sp ls ms vs fs l w) :
  Calls Tryz.prog 113 #[zh #[U zd m,O ga gn gc,O sa sn sc,O ya yn yc,O oa on oc,O va vn vc,O fa fn fc,O ba bn bc]] w (C4 (xP K kf m vn yn on sn gs sp ls ms vs fs l) w):=by
 have hfx:fn=fs.length:=by obtain ⟨-,a,c,he,-⟩:=h.funcs;injection he
 have HFX:=Aa hfx
 clear hfx
 have hbel:Ov w (w.alloc (ze #[U zd m,O ga gn gc,O sa sn sc,O ya yn yc,O oa on oc,O va vn vc,O fa fn fc,O ba bn bc] 184)):=bA w _
 have HP:=Aa (h.over hbel)
 have KP:=Aa Fy
 have KM:=Aa BR
 have KO:=Aa Bn
 have KA:=Aa (Go.Proofs.YtfffpjkcfnekaaaGreat.check_any m (O ga gn gc) gs)
 have hvl:vn<=9223372036854775807:=by obtain ⟨hm,a,c,he,-⟩:=h.vars;injection he with e1 e2 e3;rw [e2];exact hm
 obtain ⟨c0,c1,c2,c3,c4,c5,c6,c7⟩:=rc8 (CK w [U zd m,O ga gn gc,O sa sn sc,O ya yn yc,O oa on oc,O va vn vc,O fa fn fc,O ba bn bc] 184)
 clear h
 go_enter Tryz.func113,Tryz.ntmps113
 go_wp2_with fail
 refine (KA.o _ (HP.o.grants)).mono ?_
 rintro e w1 ⟨rfl,hb1⟩
 obtain ⟨d0,d1,d2,d3,d4,d5,d6,d7⟩:=co8 hb1 c0 c1 c2 c3 c4 c5 c6 c7
 have hB1:=hbel.trans (hb1.mono hbel.size)
 have HP1:=Aa (HP.o.over hb1)
 obtain ⟨ce,hce⟩:=nm (AQ m gs)
 rw [<-hce]
 have HCE:=Aa hce
 clear KA c0 c1 c2 c3 c4 c5 c6 c7 hb1 hbel hce HP
 go_wp2_with fail
 refine (KP.o _ _).mono ?_
 rintro e wz ⟨he,rfl⟩
 rcases he with ⟨hz,rfl⟩ | ⟨hz,rfl⟩
 rotate_left
 ·have hz2:ce≠0:=by simpa using hz
  have HN:Hx (¬ xP K kf m vn yn on sn gs sp ls ms vs fs l):=Aa (fun hx=>hz2 (HCE.o.trans hx.chk))
  unfold AA
  go_wp2_with fail
  exact ⟨rfl,Or.inr ⟨HN.o,ce,hz2,rfl⟩,hB1⟩
 have HCHK:=Aa (show AQ m gs=0 by rw [<-HCE.o];simpa using hz)
 clear hz HCE
 by_cases hlim:((vn:Int)<=16/\(yn:Int)<=5/\(on:Int)<=5/\(fn:Int)<=5/\(sn:Int)<=m)
 rotate_left
 ·have HL:=Aa hlim
  have HN:Hx (¬ xP K kf m vn yn on sn gs sp ls ms vs fs l):=Aa (fun hx=>hlim (by rw [HFX.o];exact hx.lim))
  clear hlim
  go_wp2_with fail
  all_goals
   refine (KM.o _ _ _).mono ?_
   rintro e wz ⟨he,rfl⟩
   rcases he with ⟨hz,rfl⟩ | ⟨hz,rfl⟩
   ·exfalso
    have:=HL.o
    first | (simp at hz;done) | (simp at hz;omega)
   ·clear hz
    unfold AA
    go_wp2_with fail
    exact ⟨rfl,Or.inr ⟨HN.o,2,by decide,rfl⟩,hB1⟩
 have HLIM:Hx ((vn:Int)<=16/\(yn:Int)<=5/\(on:Int)<=5/\(fs.length:Int)<=5/\(sn:Int)<=m):=Aa (by rw [<-HFX.o];exact hlim)
 obtain ⟨l1,l2,l3,l4,l5⟩:=hlim
 go_wp2_with fail
 refine (KM.o _ _ _).mono ?_
 rintro e wz ⟨he,rfl⟩
 rcases he with ⟨hz,rfl⟩ | ⟨hz,rfl⟩
 rotate_left
 ·cases hz
 clear hz
 have hsn:sn=sp.length:=by obtain ⟨a,c,he,-⟩:=HP1.o.speak;injection he
 have hsl:sn<=9223372036854775807:=by rw [hsn];exact HP1.o.speakL
 have HSN:=Aa hsn
 clear hsn
 go_wp2_with fail
 go_loopw [53] (fun i wr=>∃ n:Nat,n<=sn/\i=U zd n/\(∀ x∈sp.take n,0<=x/\x < m)/\(wr.cell? ⟨w.heap.size,0,none⟩=some (U zd m)/\wr.cell? ⟨w.heap.size,1,none⟩=some (O ga gn gc)/\wr.cell? ⟨w.heap.size,2,none⟩=some (O sa sn sc)/\wr.cell? ⟨w.heap.size,3,none⟩=some (O ya yn yc)/\wr.cell? ⟨w.heap.size,4,none⟩=some (O oa on oc)/\wr.cell? ⟨w.heap.size,5,none⟩=some (O va vn vc)/\wr.cell? ⟨w.heap.size,6,none⟩=some (O fa fn fc)/\wr.cell? ⟨w.heap.size,7,none⟩=some (O ba bn bc))/\Ov wz wr) (fun i _=>sn - (intOf i).toNat)
 case atStart=>exact ⟨0,Nat.zero_le _,rfl,by simp,⟨d0,d1,d2,d3,d4,d5,d6,d7⟩,Below.refl _ _⟩
 case round=>
  clear d0 d1 d2 d3 d4 d5 d6 d7
  obtain ⟨n,hn,rfl,hok1,⟨d0,d1,d2,d3,d4,d5,d6,d7⟩,hB⟩:=hrel
  have HOK1:=Aa hok1
  clear hok1
  have hBw:=hB1.trans (hB.mono hB1.size)
  by_cases hnl:n < sn
  ·obtain ⟨a2,c2,he,hel⟩:=HP1.o.speak.over hB
   injection he with e1 e2 e3
   have hnd:n < sp.length:=by omega
   obtain ⟨b,off,hbo,hel2⟩:=hel (by intro h;rw [h] at hnd;simp at hnd)
   have q:=hel2 n hnd
   have e1':=e1.trans hbo
   subst e1'
   obtain ⟨x,hx⟩:=nm (sp[n])
   rw [<-hx] at q
   have HX:=Aa hx
   clear hel hel2 hx e1 e2 e3 hbo
   go_wp2_with fail
   refine (KO.o _ _ _).mono ?_
   rintro e wy ⟨rfl,rfl⟩
   obtain ⟨ok,hok⟩:=nm (decide (0<=x/\x < m))
   rw [<-hok]
   have HOK:=Aa hok
   clear hok
   go_wp2_with fail
   refine (KM.o _ _ _).mono ?_
   rintro e wx ⟨he,rfl⟩
   rcases he with ⟨hz,rfl⟩ | ⟨hz,rfl⟩
   rotate_left
   ·have HN:Hx (¬ xP K kf m vn yn on sn gs sp ls ms vs fs l):=Aa (fun hx=>by have h1:=HOK.o;rw [hz] at h1;have h2:=hx.speak x (by rw [HX.o];exact List.getElem_mem _);simp at h1;omega)
    clear hz
    unfold AA
    go_wp2_with fail
    exact ⟨rfl,Or.inr ⟨HN.o,5,by decide,rfl⟩,hBw⟩
   have HZ:=Aa (show 0<=x/\x < m by have h:=HOK.o;rw [hz] at h;simpa using h.symm)
   clear hz HOK
   go_wp2_with fail
   exact ⟨⟨n+1,by omega,by go_num,DX hnd HOK1.o (by rw [<-HX.o];exact HZ.o),⟨d0,d1,d2,d3,d4,d5,d6,d7⟩,hB⟩,by simp [intOf];omega⟩
  ·have HP2:=Aa (HP1.o.over hB)
   obtain ⟨w2,hw2⟩:=nm wr
   rw [<-hw2] at d0 d1 d2 d3 d4 d5 d6 d7 hBw HP2 ⊢
   have HSP:=Aa (CO (by rw [<-HSN.o];omega) HOK1.o)
   clear hw2 hB HP1 hB1 HOK1
   have KL:=Aa (H3 m ga gn gc sa sn sc ya yn yc oa on oc va vn vc fa fn fc ba bn bc gs ls ms vs w2 HP2.o.grants HP2.o.ins HP2.o.outs HP2.o.vars (by omega) (by omega) HP2.o.insN HP2.o.outsN)
   go_wp2_with fail
   refine (KL.o).mono ?_
   rintro e w3 ⟨he,hb3⟩
   have hBw3:=hBw.trans (hb3.mono hBw.size)
   have HP3:=Aa (HP2.o.over hb3)
   obtain ⟨r0,r1,r2,r3,r4,r5,r6,r7⟩:=co8 hb3 d0 d1 d2 d3 d4 d5 d6 d7
   clear KL d0 d1 d2 d3 d4 d5 d6 d7
   rcases he with ⟨hlab,rfl⟩ | ⟨hng,why,hne,rfl⟩
   rotate_left
   ·have HN:Hx (¬ xP K kf m vn yn on sn gs sp ls ms vs fs l):=Aa (fun hx=>hng hx.labs)
    clear hng
    unfold AA
    go_wp2_with fail
    exact ⟨rfl,Or.inr ⟨HN.o,why,hne,rfl⟩,hBw3⟩
   have HLAB:=Aa hlab
   clear hb3 HP2 hBw hlab
   have KI:=Aa (IQ K kf m ga gn gc sa sn sc ya yn yc oa on oc va vn vc fa fn fc ba bn bc fs l w3 HP3.o.funcs HP3.o.main)
   go_wp2_with fail
   refine (KI.o).mono ?_
   rintro e w4 ⟨he,hb4⟩
   have hBw4:=hBw3.trans (hb4.mono hBw3.size)
   have HP4:=Aa (HP3.o.over hb4)
   obtain ⟨d0,d1,d2,d3,d4,d5,d6,d7⟩:=co8 hb4 r0 r1 r2 r3 r4 r5 r6 r7
   clear KI r0 r1 r2 r3 r4 r5 r6 r7
   rcases he with ⟨rfl,hlm⟩ | ⟨hng,rfl⟩
   rotate_left
   ·have HN:Hx (¬ xP K kf m vn yn on sn gs sp ls ms vs fs l):=Aa (fun hx=>hng hx.many)
    clear hng
    unfold AA
    go_wp2_with fail
    exact ⟨rfl,Or.inr ⟨HN.o,2,by decide,rfl⟩,hBw4⟩
   have HLM:=Aa hlm
   have hfn:fn=fs.length:=by obtain ⟨-,a,c,he,-⟩:=HP4.o.funcs;injection he
   have HFN:=Aa hfn
   clear hb4 HP3 hBw3 hlm hfn
   go_wp2_with fail
   go_loopw [73] (fun i wr=>∃ n:Nat,n<=fn/\i=U zd n/\(∀ j (h:j < fs.length),j < n->xF K vn yn on (j:Int) fs kf fs[j])/\(wr.cell? ⟨w.heap.size,0,none⟩=some (U zd m)/\wr.cell? ⟨w.heap.size,1,none⟩=some (O ga gn gc)/\wr.cell? ⟨w.heap.size,2,none⟩=some (O sa sn sc)/\wr.cell? ⟨w.heap.size,3,none⟩=some (O ya yn yc)/\wr.cell? ⟨w.heap.size,4,none⟩=some (O oa on oc)/\wr.cell? ⟨w.heap.size,5,none⟩=some (O va vn vc)/\wr.cell? ⟨w.heap.size,6,none⟩=some (O fa fn fc)/\wr.cell? ⟨w.heap.size,7,none⟩=some (O ba bn bc))/\Ov w4 wr) (fun i _=>fn - (intOf i).toNat)
   case atStart=>exact ⟨0,Nat.zero_le _,rfl,fun j h h'=>absurd h' (by omega),⟨d0,d1,d2,d3,d4,d5,d6,d7⟩,Below.refl _ _⟩
   case round=>
    clear d0 d1 d2 d3 d4 d5 d6 d7
    obtain ⟨n,hn,rfl,hok,⟨d0,d1,d2,d3,d4,d5,d6,d7⟩,hB⟩:=hrel
    have HOK:=Aa hok
    clear hok
    have hBw:=hBw4.trans (hB.mono hBw4.size)
    by_cases hnl:n < fn
    ·obtain ⟨-,ao,cap,he,hel⟩:=HP4.o.funcs.over hB
     injection he with e1 e2 e3
     have hnd:n < fs.length:=by omega
     obtain ⟨b,off,hbo,hel2⟩:=hel (by intro h;rw [h] at hnd;simp at hnd)
     obtain ⟨vP,vB,x0,x1,x2,q0,q1,q2,q3,q4,hp,⟨hpl,pa,pc,hvp,hpc⟩,hs,hx⟩:=hel2 n hnd
     have e1':=e1.trans hbo
     subst e1'
     subst hvp
     have hs0:=hs
     obtain ⟨-,za,zc,hvb,-⟩:=hs0
     subst hvb
     obtain ⟨xa,xc,hxf⟩:=hx.form
     simp only [List.cons.injEq,and_true] at hxf
     obtain ⟨rfl,rfl,rfl⟩:=hxf
     have hba:=bA wr (ze #[O pa fs[n].ps.length pc,O za fs[n].body.length zc,U zd (AH fs[n].res),U zd (Ba fs[n].res),O xa (AF fs[n].res).length xc] 105)
     have hBa:=hBw.trans (hba.mono hBw.size)
     have hB4a:=Ac hB hba
     have KF:=Aa (Gc K kf kf fs fs[n] (n:Int) m ga gn gc sa sn sc ya yn yc oa on oc va vn vc (some ⟨b,off,none⟩) fn fc ba bn bc pa fs[n].ps.length pc za fs[n].body.length zc (AH fs[n].res) (Ba fs[n].res) xa (AF fs[n].res).length xc _ hvl (by omega) (by omega) (by omega) (by omega) (by omega) (hp.over hba) hpl hpc (hs.over hba) (hx.over hba) (HP4.o.funcs.over hB4a))
     obtain ⟨pl,hpl2⟩:=nm (fs[n].ps.length)
     obtain ⟨zl,hzl2⟩:=nm (fs[n].body.length)
     obtain ⟨ek,hek2⟩:=nm (AH fs[n].res)
     obtain ⟨en,hen2⟩:=nm (Ba fs[n].res)
     obtain ⟨xl,hxl2⟩:=nm ((AF fs[n].res).length)
     rw [<-hpl2,<-hzl2,<-hek2,<-hen2,<-hxl2] at KF hba hBa hB4a
     rw [<-hpl2] at q0
     rw [<-hzl2] at q1
     rw [<-hek2] at q2
     rw [<-hen2] at q3
     rw [<-hxl2] at q4
     obtain ⟨f0,f1,f2,f3,f4,f5,f6,f7⟩:=co8 hba d0 d1 d2 d3 d4 d5 d6 d7
     clear hel hel2 e1 e2 e3 hbo hp hpl hpc hs hx hpl2 hzl2 hek2 hen2 hxl2 d0 d1 d2 d3 d4 d5 d6 d7
     go_wp2_with fail
     refine (KF.o).mono ?_
     rintro e w5 ⟨he,hb5⟩
     have hB5:=Ac hB4a hb5
     have hBw5:=hBa.trans (hb5.mono hBa.size)
     obtain ⟨r0,r1,r2,r3,r4,r5,r6,r7⟩:=co8 hb5 f0 f1 f2 f3 f4 f5 f6 f7
     clear KF f0 f1 f2 f3 f4 f5 f6 f7 hb5 hba hBa hB4a hB hBw q0 q1 q2 q3 q4
     rcases he with ⟨hok,rfl⟩ | ⟨hng,why,hne,rfl⟩
     rotate_left
     ·have HN:Hx (¬ xP K kf m vn yn on sn gs sp ls ms vs fs l):=Aa (fun hx=>hng (hx.body n hnd))
      clear hng
      unfold AA
      go_wp2_with fail
      exact ⟨rfl,Or.inr ⟨HN.o,why,hne,rfl⟩,hBw5⟩
     have HOK2:=Aa hok
     clear hok
     go_wp2_with fail
     refine ⟨⟨n+1,by omega,by go_num,fun j h h'=>?_,⟨r0,r1,r2,r3,r4,r5,r6,r7⟩,hB5⟩,by simp [intOf];omega⟩
     by_cases hjn:j < n
     ·exact HOK.o j h hjn
     ·obtain rfl:j=n:=by omega
      exact HOK2.o
    ·have KS:=Aa (Fv K kf fs (fn:Int) m ga gn gc sa sn sc ya yn yc oa on oc va vn vc fa fn fc ba bn bc hvl (by omega) (by omega) (by omega) (by omega) (by have:=HFN.o;omega) kf (O ba bn bc) l wr (HP4.o.main.over hB) (HP4.o.funcs.over hB))
     go_wp2_with fail
     refine (KS.o).mono ?_
     rintro e w5 ⟨he,hb5⟩
     have hBw5:=hBw.trans (hb5.mono hBw.size)
     clear KS d0 d1 d2 d3 d4 d5 d6 d7 hb5 hB hBw
     rcases he with ⟨hok,rfl⟩ | ⟨hng,why,hne,rfl⟩
     rotate_left
     ·have HN:Hx (¬ xP K kf m vn yn on sn gs sp ls ms vs fs l):=Aa (fun hx=>hng (by rw [HFN.o];exact hx.main))
      clear hng
      unfold AA
      go_wp2_with fail
      exact ⟨rfl,Or.inr ⟨HN.o,why,hne,rfl⟩,hBw5⟩
     have HOK2:=Aa hok
     clear hok
     go_wp2_with fail
     go_end0
     have hfn:=HFN.o
     have hlm:=HLM.o
     refine ⟨Or.inl ⟨⟨HCHK.o,HLIM.o,HSP.o,HLAB.o,HLM.o,fun j h=>HOK.o j h (by omega),?_⟩,rfl⟩,hBw5⟩
     rw [<-hfn]
     exact HOK2.o
def O8 (ok:Prop) (w:World) (f:Int->Value) (e:Ending) (w':World):Prop:=∃ why:Int,e=zk (f why)/\(why=0 ↔ ok)/\Ov w w'
theorem Jg (K kf:Nat) (m:Int) (ga gn gc sa sn sc ya yn yc oa on oc va vn vc fa fn fc ba bn bc gs sp ls ms vs fs l) (w:World) (h:BC K kf m ga gn gc sa sn sc ya yn yc oa on oc va vn vc fa fn fc ba bn bc gs sp ls ms vs fs l w) :
  Calls Tryz.prog 112 #[.func (.func 113) #[zh #[U zd m,O ga gn gc,O sa sn sc,O ya yn yc,O oa on oc,O va vn vc,O fa fn fc,O ba bn bc]] #[]] w (O8 (xP K kf m vn yn on sn gs sp ls ms vs fs l) w fun why=>zm #[U zd 0,U zd why]):=by
 have hmf:∀ (fn:Fn) (first cap:Array Value) (w:World),(Instr.makeFunc fn first cap).run Tryz.prog w=.ok (.func fn first cap) w:=fun _ _ _ _=>rfl
 have HC:∀ (args:Array Value) (w:World),(callFunc 113 args).run Tryz.prog w=.ok (.enter 113 args) w:=fun args w=>by simp [go_sem]
 have hbel:Ov w ((w.alloc (ze #[U zd 0] 3)).alloc (ze #[U zd 0] 32)):=(bA w _).alloc (by simp) _
 have K:=Aa (Jf K kf m ga gn gc sa sn sc ya yn yc oa on oc va vn vc fa fn fc ba bn bc gs sp ls ms vs fs l _ (h.over hbel))
 have q0:=E4 w [U zd 0] 3 (ze #[U zd 0] 32) 0 _ rfl
 have q1:=Fk w (ze #[U zd 0] 3) [U zd 0] 32 0 _ rfl
 have z0:((w.alloc (ze #[U zd 0] 3)).alloc (ze #[U zd 0] 32)).frozen? ⟨w.heap.size,0,none⟩=false:=by simp [go_sem]
 have z1:((w.alloc (ze #[U zd 0] 3)).alloc (ze #[U zd 0] 32)).frozen? ⟨w.heap.size+1,0,none⟩=false:=by simp [go_sem]
 clear h
 go_enter_defers Tryz.func112,Tryz.ntmps112
 go_wp2_with fail
 refine (K.o).mono ?_
 rintro e w1 ⟨he,hb1⟩
 obtain ⟨hc,hf⟩:=Ap hb1
 have hB1:=hbel.trans (hb1.mono hbel.size)
 obtain ⟨p0,p1⟩:=co2 hb1 q0 q1
 have y0:=(hf w.heap.size 0 (by simp;omega)).trans z0
 have y1:=(hf (w.heap.size+1) 0 (by simp)).trans z1
 have g1:w.heap.size+1 < w1.heap.size:=bL p1
 have g0:w.heap.size < w1.heap.size:=by omega
 clear hc hf q0 q1 z0 z1 hb1 K hbel
 rcases he with ⟨hok,rfl⟩ | ⟨hng,why,hne,rfl⟩
 ·have HOK:=Aa hok
  clear hok
  go_wp2_with fail
  refine leaves_cons (f:=170) (args:=#[zj (some ⟨w.heap.size,0,none⟩),zj (some ⟨w.heap.size+1,0,none⟩)]) (by simp) (by simp [go_sem]) ?_
  refine (Jh _ _ _).mono ?_
  rintro e u' w2 ⟨rfl,rfl,rfl⟩
  have d0:((w1.setCell ⟨w.heap.size,0,none⟩ (U zd 0)).setCell ⟨w.heap.size+1,0,none⟩ (U zd 0)).cell? ⟨w.heap.size,0,none⟩=some (U zd 0):=by simp [go_sem,p0]
  have d1:((w1.setCell ⟨w.heap.size,0,none⟩ (U zd 0)).setCell ⟨w.heap.size+1,0,none⟩ (U zd 0)).cell? ⟨w.heap.size+1,0,none⟩=some (U zd 0):=by simp [go_sem,p1]
  have hbb:Ov w ((w1.setCell ⟨w.heap.size,0,none⟩ (U zd 0)).setCell ⟨w.heap.size+1,0,none⟩ (U zd 0)):=(hB1.setCell (by simp) _).setCell (by simp) _
  generalize ((w1.setCell ⟨w.heap.size,0,none⟩ (U zd 0)).setCell ⟨w.heap.size+1,0,none⟩ (U zd 0))=wF at d0 d1 hbb ⊢
  simp [Leaves,settle,results,Tryz.results112,go_sem,d0,d1]
  exact ⟨0,rfl,⟨fun _=>HOK.o,fun _=>rfl⟩,hbb⟩
 ·have HNG:=Aa hng
  clear hng
  unfold AA
  go_wp2_with fail
  refine leaves_cons (f:=170) (args:=#[zj (some ⟨w.heap.size,0,none⟩),zj (some ⟨w.heap.size+1,0,none⟩)]) (by simp) (by simp [go_sem]) ?_
  refine (Ji w.heap.size 0 0 _ _ [] _ (by omega) p0 p1 y0 y1).mono ?_
  rintro e u' w2 ⟨rfl,rfl,d0,d1,hb2⟩
  have hbb:Ov w w2:=hB1.trans hb2
  simp [Leaves,settle,results,Tryz.results112,go_sem,d0,d1]
  exact ⟨why,rfl,⟨fun h=>absurd h hne,fun h=>absurd h HNG.o⟩,hbb⟩
theorem scopeCheck_any (K kf:Nat) (m:Int) (ga gn gc sa sn sc ya yn yc oa on oc va vn vc fa fn fc ba bn bc gs sp ls ms vs fs l) (w:World) (h:BC K kf m ga gn gc sa sn sc ya yn yc oa on oc va vn vc fa fn fc ba bn bc gs sp ls ms vs fs l w) :
  Calls Tryz.prog 53 #[zh #[U zd m,O ga gn gc,O sa sn sc,O ya yn yc,O oa on oc,O va vn vc,O fa fn fc,O ba bn bc]] w (O8 (xP K kf m vn yn on sn gs sp ls ms vs fs l) w fun why=>U zd why):=by
 have hbel:Ov w ((w.alloc (ze #[U zd m,O ga gn gc,O sa sn sc,O ya yn yc,O oa on oc,O va vn vc,O fa fn fc,O ba bn bc] 31)).alloc (ze #[U zd m,O ga gn gc,O sa sn sc,O ya yn yc,O oa on oc,O va vn vc,O fa fn fc,O ba bn bc] 184)):=(bA w _).alloc (by simp) _
 have K:=Aa (Jg K kf m ga gn gc sa sn sc ya yn yc oa on oc va vn vc fa fn fc ba bn bc gs sp ls ms vs fs l _ (h.over hbel))
 clear h
 go_enter Tryz.func53,Tryz.ntmps53
 go_wp2_with fail
 refine (K.o).mono ?_
 rintro e w1 ⟨why,rfl,hok,hb1⟩
 have hB1:=hbel.trans (hb1.mono hbel.size)
 have HOK:=Aa hok
 clear hbel hb1 K hok
 go_wp2_with fail
 go_ret
 exact ⟨why,rfl,HOK.o,hB1⟩
end Go.Proofs.YtfffpjkcfnekaaaGreat.Ex.Ey
namespace Go.Proofs.YtfffpjkcfnekaaaGreat.Ex
open Go.RowKit
open Go.Value renaming slice -> O, int -> U, bool -> zg, agg -> zh, pointer -> zj, tuple -> zm
open Go.IntKind renaming i64 -> zd
open Go.Obj renaming cells -> ze
open Go.Ending renaming returned -> zk
theorem Je (m:Int) (ga gn gc) (sa sn sc ya yn yc oa on oc) (va:Option Addr) (vn vc:Nat) (fa:Option Addr) (fn fc:Nat) (ba bn bc gs) (la ln lc ka kn kc) (LsV LsF) (w:World) (hg:AG w (O ga gn gc) gs) (hV:Bd w (O la ln lc) LsV) (hF:Bd w (O ka kn kc) LsF) (hvl:LsV.length<=9223372036854775807) (hfl:LsF.length<=9223372036854775807) (hvn:vn<=9223372036854775807) (hfn:fn<=9223372036854775807)
  (X:Prop) (KS:∀ W,Ov w W->Calls Tryz.prog 53 #[zh #[U zd m,O ga gn gc,O sa sn sc,O ya yn yc,O oa on oc,O va vn vc,O fa fn fc,O ba bn bc]] W fun e w'=>∃ why:Int,e=zk (U zd why)/\(why=0 ↔ X)/\Ov W w') :
  Calls Tryz.prog 98 #[zh #[U zd m,O ga gn gc,O sa sn sc,O ya yn yc,O oa on oc,O va vn vc,O fa fn fc,O ba bn bc],zh #[O la ln lc,O ka kn kc]] w fun e w'=>∃ why:Int,e=zk (U zd why)/\(why=0 ↔ (X/\LsV.length=vn/\LsF.length=fn/\(∀ x∈LsV,Br m gs x=0)/\∀ x∈LsF,Br m gs x=0))/\Ov w w':=by
 have hb0:Ov w ((w.alloc (ze #[U zd m,O ga gn gc,O sa sn sc,O ya yn yc,O oa on oc,O va vn vc,O fa fn fc,O ba bn bc] 31)).alloc (ze #[O la ln lc,O ka kn kc] 44)):=(bA w _).alloc (by simp) _
 have K1:=Aa (KS _ hb0)
 have hlv:ln=LsV.length:=by obtain ⟨a,c,he,-⟩:=hV;injection he
 have hlf:kn=LsF.length:=by obtain ⟨a,c,he,-⟩:=hF;injection he
 have hln:ln<=9223372036854775807:=by omega
 have hkn:kn<=9223372036854775807:=by omega
 have HNLsV:=Aa hlv
 have HNLsF:=Aa hlf
 have HLsV:=Aa hV
 have HLsF:=Aa hF
 have KR:=Aa fun vl (x:Lev) W (hW:Ov w W) (hx:A7 W vl x)=>Mg m (O ga gn gc) gs vl x W (Af hg hW) hx
 have rowP:Ae [U zd m,O ga gn gc,O sa sn sc,O ya yn yc,O oa on oc,O va vn vc,O fa fn fc,O ba bn bc] ((w.alloc (ze #[U zd m,O ga gn gc,O sa sn sc,O ya yn yc,O oa on oc,O va vn vc,O fa fn fc,O ba bn bc] 31)).alloc (ze #[O la ln lc,O ka kn kc] 44)) w.heap.size:=(Ae.new [U zd m,O ga gn gc,O sa sn sc,O ya yn yc,O oa on oc,O va vn vc,O fa fn fc,O ba bn bc] 31 w).over (bA _ _)
 have rowL:Ae [O la ln lc,O ka kn kc] ((w.alloc (ze #[U zd m,O ga gn gc,O sa sn sc,O ya yn yc,O oa on oc,O va vn vc,O fa fn fc,O ba bn bc] 31)).alloc (ze #[O la ln lc,O ka kn kc] 44)) (w.heap.size+1):=by
  have:=Ae.new [O la ln lc,O ka kn kc] 44 (w.alloc (ze #[U zd m,O ga gn gc,O sa sn sc,O ya yn yc,O oa on oc,O va vn vc,O fa fn fc,O ba bn bc] 31))
  simpa using this
 have HB0:=Aa hb0
 have HRP:=Aa rowP
 have HRL:=Aa rowL
 obtain ⟨c0,c1,c2,c3,c4,c5,c6,c7⟩:=rc8 rowP
 clear hb0 rowP rowL hV hF hg KS hlv hlf hvl hfl
 go_enter Tryz.func98,Tryz.ntmps98
 go_wp2_with fail
 refine (K1.o).mono ?_
 rintro e w1 ⟨why,rfl,hP,hb1⟩
 have HB1:=Aa (Ac HB0.o hb1)
 have HRP1:=Aa (HRP.o.over hb1)
 have hRL1:=HRL.o.over hb1
 have HPW:=Aa hP
 clear c0 c1 c2 c3 c4 c5 c6 c7 K1 hP hb1
 by_cases hz:why=0
 rotate_left
 ·have HZ:=Aa hz
  go_wp2_with fail
  go_ret
  exact ⟨why,rfl,⟨fun h=>absurd h HZ.o,fun h=>absurd (HPW.o.2 h.1) HZ.o⟩,HB1.o⟩
 subst hz
 have HX:Hx X:=Aa (HPW.o.1 rfl)
 obtain ⟨l0,l1⟩:=rc2 hRL1
 have c5:=HRP1.o 5 _ rfl
 have c6:=HRP1.o 6 _ rfl
 clear hRL1 HPW
 by_cases hlen:ln=vn
 rotate_left
 ·have hlb:((ln:Int) != (vn:Int))=true:=by simp;omega
  have HL:=Aa hlen
  go_wp2_with fail
  go_ret
  exact ⟨1,rfl,⟨fun h=>absurd h (by decide),fun h=>absurd (HNLsV.o.trans h.2.1) HL.o⟩,HB1.o⟩
 subst hlen
 by_cases hlen2:kn=fn
 rotate_left
 ·have hlb2:((kn:Int) != (fn:Int))=true:=by simp;omega
  have HL:=Aa hlen2
  go_wp2_with fail
  go_ret
  exact ⟨1,rfl,⟨fun h=>absurd h (by decide),fun h=>absurd (HNLsF.o.trans h.2.2.1) HL.o⟩,HB1.o⟩
 subst hlen2
 have hba:=bA w1 (ze #[O la ln lc,O ka kn kc] 42)
 have hRS:Ae [O la ln lc,O ka kn kc] (w1.alloc (ze #[O la ln lc,O ka kn kc] 42)) w1.heap.size:=Ae.new [O la ln lc,O ka kn kc] 42 w1
 have HRS0:=Aa hRS
 have HRP0:=Aa (HRP1.o.over hba)
 have HBA0:=Aa hba
 clear hRS hba HRP1
 go_wp2_with fail
 clear l0 l1 c5 c6
 go_loopw [38] (fun i wr=>∃ j:Nat,j<=2/\i=U zd j/\(1<=j->∀ x∈LsV,Br m gs x=0)/\(2<=j->∀ x∈LsF,Br m gs x=0)/\Ae [U zd m,O ga gn gc,O sa sn sc,O ya yn yc,O oa on oc,O va ln vc,O fa kn fc,O ba bn bc] wr w.heap.size/\Ae [O la ln lc,O ka kn kc] wr w1.heap.size/\Ov w1 wr) (fun i _=>2 - (intOf i).toNat)
 case atStart=>exact ⟨0,by omega,rfl,fun h=>absurd h (by omega),fun h=>absurd h (by omega),HRP0.o,HRS0.o,HBA0.o⟩
 case round=>
  obtain ⟨j,hj,rfl,hj1,hj2,hrp,hrs,hB⟩:=hrel
  have HJ1:=Aa hj1
  have HJ2:=Aa hj2
  have HRP2:=Aa hrp
  have HRS:=Aa hrs
  have HBB:=Aa hB
  obtain ⟨g0,g1⟩:=rc2 hrs
  clear hj1 hj2 hrp hrs hB
  rcases (by omega:j=0\/j=1\/j=2) with rfl | rfl | rfl
  ·go_wp2_with fail
   have HLw:=Aa (HLsV.o)
   go_loopw [44] (fun i wr=>∃ q:Nat,q<=ln/\i=U zd q/\(∀ x∈LsV.take q,Br m gs x=0)/\(Ae [U zd m,O ga gn gc,O sa sn sc,O ya yn yc,O oa on oc,O va ln vc,O fa kn fc,O ba bn bc] wr w.heap.size)/\(Ae [O la ln lc,O ka kn kc] wr w1.heap.size)/\Ov w1 wr) (fun i _=>ln - (intOf i).toNat)
   case atStart=>exact ⟨0,Nat.zero_le _,rfl,by simp,HRP2.o,HRS.o,HBB.o⟩
   case round=>
    obtain ⟨q,hq,rfl,hok,hrp,hrs,hB2⟩:=hrel
    have HOK:=Aa hok
    clear hok
    by_cases hql:q < ln
    ·have hqd:q < LsV.length:=by have:=HNLsV.o;omega
     have hlv:=Au HLw.o (Ac HB1.o hB2)
     obtain ⟨ao',cap',he',hel⟩:=hlv
     injection he' with e1 e2 e3
     obtain ⟨b,off,hbo,hel⟩:=hel (by intro hh;rw [hh] at hqd;simp at hqd)
     have e1':=e1.trans hbo
     subst e1'
     obtain ⟨rv,wv,g0,g1,hla⟩:=hel q hqd
     obtain ⟨p1,k1,p2,k2,hfm⟩:=CX hla
     simp at hfm
     obtain ⟨rfl,rfl⟩:=hfm
     obtain ⟨x,hx⟩:=nm (LsV[q])
     rw [<-hx] at g0 g1 hla
     obtain ⟨n1,hn1⟩:=nm x.r.length
     obtain ⟨n2,hn2⟩:=nm x.w.length
     rw [<-hn1] at g0 hla
     rw [<-hn2] at g1 hla
     have hba:=bA wr (ze #[O p1 n1 k1,O p2 n2 k2] 50)
     have KR2:=Aa (KR.o _ x _ (Ac HB1.o (Ac hB2 hba)) (Aw hla hba))
     have hrp':=hrp.over hba
     obtain ⟨f0,f1⟩:=rc2 hrp'
     have hmem:x∈LsV:=by rw [hx];exact List.getElem_mem hqd
     have HMEM:=Aa hmem
     have HTK:Hx (LsV.take (q+1)=LsV.take q++[x]):=Aa (by rw [hx];exact List.take_succ_eq_append_getElem hqd)
     obtain ⟨r,hr⟩:=nm (Br m gs x)
     rw [<-hr] at KR2
     have HR:=Aa hr
     have HRPA:=Aa hrp'
     have HRSA:=Aa (hrs.over hba)
     have HBA:=Aa (Ac hB2 hba)
     clear hrp' hba hla hel e1 e2 e3 hbo hx hn1 hn2 hr hrp hrs hmem hB2
     go_wp2_with fail
     refine (KR2.o).mono ?_
     rintro e w5 ⟨rfl,hb5⟩
     have HB5:=Aa (Ac HBA.o hb5)
     have HRP5:=Aa (HRPA.o.over hb5)
     have HRS5:=Aa (HRSA.o.over hb5)
     clear hb5 KR2 f0 f1 g0 g1
     by_cases hr0:r=0
     ·subst hr0
      have HNX:Hx (∀ x∈LsV.take (q+1),Br m gs x=0):=Aa (fun y hy=>by
       rw [HTK.o,List.mem_append,List.mem_singleton] at hy
       rcases hy with hy | rfl
       ·exact HOK.o y hy
       ·exact HR.o.symm)
      go_wp2_with fail
      refine ⟨⟨_,_,_,_,_,_,_,_,_,_,_,_,_,_,_,?_,rfl⟩,?_⟩
      ·exact ⟨q+1,by omega,by go_num,HNX.o,HRP5.o,HRS5.o,HB5.o⟩
      ·simp [intOf];omega
     ·have HR0:=Aa hr0
      go_wp2_with fail
      go_ret
      refine ⟨r,rfl,⟨fun h=>absurd h HR0.o,fun h=>absurd (HR.o.trans (h.2.2.2.1 x HMEM.o)) HR0.o⟩,Ac HB1.o HB5.o⟩
    ·have HALL:Hx (∀ x∈LsV,Br m gs x=0):=Aa (CO (by have:=HNLsV.o;omega) HOK.o)
     have HRP3:=Aa hrp
     have HRS3:=Aa hrs
     have HB3:=Aa hB2
     clear hrp hrs hB2 HOK
     go_wp2_with fail
     exact ⟨⟨1,by omega,by go_num,fun _=>HALL.o,fun h=>absurd h (by omega),HRP3.o,HRS3.o,HB3.o⟩,by simp [intOf]⟩
  ·go_wp2_with fail
   have HLw:=Aa (HLsF.o)
   go_loopw [44] (fun i wr=>∃ q:Nat,q<=kn/\i=U zd q/\(∀ x∈LsF.take q,Br m gs x=0)/\(Ae [U zd m,O ga gn gc,O sa sn sc,O ya yn yc,O oa on oc,O va ln vc,O fa kn fc,O ba bn bc] wr w.heap.size)/\(Ae [O la ln lc,O ka kn kc] wr w1.heap.size)/\Ov w1 wr) (fun i _=>kn - (intOf i).toNat)
   case atStart=>exact ⟨0,Nat.zero_le _,rfl,by simp,HRP2.o,HRS.o,HBB.o⟩
   case round=>
    obtain ⟨q,hq,rfl,hok,hrp,hrs,hB2⟩:=hrel
    have HOK:=Aa hok
    clear hok
    by_cases hql:q < kn
    ·have hqd:q < LsF.length:=by have:=HNLsF.o;omega
     have hlv:=Au HLw.o (Ac HB1.o hB2)
     obtain ⟨ao',cap',he',hel⟩:=hlv
     injection he' with e1 e2 e3
     obtain ⟨b,off,hbo,hel⟩:=hel (by intro hh;rw [hh] at hqd;simp at hqd)
     have e1':=e1.trans hbo
     subst e1'
     obtain ⟨rv,wv,g0,g1,hla⟩:=hel q hqd
     obtain ⟨p1,k1,p2,k2,hfm⟩:=CX hla
     simp at hfm
     obtain ⟨rfl,rfl⟩:=hfm
     obtain ⟨x,hx⟩:=nm (LsF[q])
     rw [<-hx] at g0 g1 hla
     obtain ⟨n1,hn1⟩:=nm x.r.length
     obtain ⟨n2,hn2⟩:=nm x.w.length
     rw [<-hn1] at g0 hla
     rw [<-hn2] at g1 hla
     have hba:=bA wr (ze #[O p1 n1 k1,O p2 n2 k2] 50)
     have KR2:=Aa (KR.o _ x _ (Ac HB1.o (Ac hB2 hba)) (Aw hla hba))
     have hrp':=hrp.over hba
     obtain ⟨f0,f1⟩:=rc2 hrp'
     have hmem:x∈LsF:=by rw [hx];exact List.getElem_mem hqd
     have HMEM:=Aa hmem
     have HTK:Hx (LsF.take (q+1)=LsF.take q++[x]):=Aa (by rw [hx];exact List.take_succ_eq_append_getElem hqd)
     obtain ⟨r,hr⟩:=nm (Br m gs x)
     rw [<-hr] at KR2
     have HR:=Aa hr
     have HRPA:=Aa hrp'
     have HRSA:=Aa (hrs.over hba)
     have HBA:=Aa (Ac hB2 hba)
     clear hrp' hba hla hel e1 e2 e3 hbo hx hn1 hn2 hr hrp hrs hmem hB2
     go_wp2_with fail
     refine (KR2.o).mono ?_
     rintro e w5 ⟨rfl,hb5⟩
     have HB5:=Aa (Ac HBA.o hb5)
     have HRP5:=Aa (HRPA.o.over hb5)
     have HRS5:=Aa (HRSA.o.over hb5)
     clear hb5 KR2 f0 f1 g0 g1
     by_cases hr0:r=0
     ·subst hr0
      have HNX:Hx (∀ x∈LsF.take (q+1),Br m gs x=0):=Aa (fun y hy=>by
       rw [HTK.o,List.mem_append,List.mem_singleton] at hy
       rcases hy with hy | rfl
       ·exact HOK.o y hy
       ·exact HR.o.symm)
      go_wp2_with fail
      refine ⟨⟨_,_,_,_,_,_,_,_,_,_,_,_,_,_,_,?_,rfl⟩,?_⟩
      ·exact ⟨q+1,by omega,by go_num,HNX.o,HRP5.o,HRS5.o,HB5.o⟩
      ·simp [intOf];omega
     ·have HR0:=Aa hr0
      go_wp2_with fail
      go_ret
      refine ⟨r,rfl,⟨fun h=>absurd h HR0.o,fun h=>absurd (HR.o.trans (h.2.2.2.2 x HMEM.o)) HR0.o⟩,Ac HB1.o HB5.o⟩
    ·have HALL:Hx (∀ x∈LsF,Br m gs x=0):=Aa (CO (by have:=HNLsF.o;omega) HOK.o)
     have HRP3:=Aa hrp
     have HRS3:=Aa hrs
     have HB3:=Aa hB2
     clear hrp hrs hB2 HOK
     go_wp2_with fail
     exact ⟨⟨2,by omega,by go_num,fun _=>HJ1.o (by omega),fun _=>HALL.o,HRP3.o,HRS3.o,HB3.o⟩,by simp [intOf]⟩
  ·go_wp2_with fail
   go_ret
   exact ⟨0,rfl,⟨fun _=>⟨HX.o,HNLsV.o.symm,HNLsF.o.symm,HJ1.o (by omega),HJ2.o (by omega)⟩,fun _=>rfl⟩,Ac HB1.o HBB.o⟩
theorem LQ (A B:List Bool) (x y:Value) (w:World) (ha:AP w x A) (hb:AP w y B) (hA:A.length<=9223372036854775807) (hB:B.length<=9223372036854775807) :
  Calls Tryz.prog 208 #[x,y] w fun e w'=>e=zk (zg (decide (A=B)))/\Ov w w':=by
 obtain ⟨a1,k1,rfl,h1⟩:=ha
 obtain ⟨a2,k2,rfl,h2⟩:=hb
 have H1:=Aa h1
 have H2:=Aa h2
 clear h1 h2
 by_cases hl:A.length=B.length
 rotate_left
 ·have hne:decide (A=B)=false:=by simp;intro h;exact hl (by rw [h])
  rw [hne]
  have hlb:((A.length:Int) != (B.length:Int))=true:=by simp;omega
  go_enter Tryz.func208,Tryz.ntmps208
  go_wp2_with fail
  go_ret
  exact ⟨rfl,Below.refl _ _⟩
 obtain ⟨R,hR⟩:=nm (decide (A=B))
 rw [<-hR]
 obtain ⟨N,hN⟩:=nm A.length
 have hNB:N=B.length:=hN.trans hl
 rw [<-hN,<-hNB]
 have hA':N<=9223372036854775807:=by omega
 have HR:=Aa hR
 have HN:=Aa hN
 have HNB:=Aa hNB
 clear hA hB hl hR hN hNB
 go_enter Tryz.func208,Tryz.ntmps208
 go_wp2_with fail
 go_loopw [13] (fun i wr=>∃ k:Nat,k<=N/\i=U zd k/\Hx (A.take k=B.take k)/\Ov w wr) (fun i _=>N - (intOf i).toNat)
 case atStart=>exact ⟨0,Nat.zero_le _,rfl,Aa (by simp),Below.refl _ _⟩
 case round=>
  obtain ⟨k,hk,rfl,HT,hB⟩:=hrel
  by_cases hkl:k < N
  ·have hkA:k < A.length:=by rw [<-HN.o];exact hkl
   have hkB:k < B.length:=by rw [<-HNB.o];exact hkl
   obtain ⟨b1,o1,rfl,e1⟩:=H1.o (by intro h;rw [h] at hkA;simp at hkA)
   obtain ⟨b2,o2,rfl,e2⟩:=H2.o (by intro h;rw [h] at hkB;simp at hkB)
   have q1:wr.cell? ⟨b1,o1+k,none⟩=_:=Ab hB _ _ (e1 k hkA)
   have q2:wr.cell? ⟨b2,o2+k,none⟩=_:=Ab hB _ _ (e2 k hkB)
   obtain ⟨u,hu⟩:=nm (A[k])
   obtain ⟨v,hv⟩:=nm (B[k])
   rw [<-hu] at q1
   rw [<-hv] at q2
   have HTA:Hx (A.take (k+1)=A.take k++[u]):=Aa (by rw [hu];exact List.take_succ_eq_append_getElem hkA)
   have HTB:Hx (B.take (k+1)=B.take k++[v]):=Aa (by rw [hv];exact List.take_succ_eq_append_getElem hkB)
   have HU:Hx (A[k]? = some u):=Aa (by rw [hu];exact List.getElem?_eq_getElem hkA)
   have HV:Hx (B[k]? = some v):=Aa (by rw [hv];exact List.getElem?_eq_getElem hkB)
   clear e1 e2 hu hv hkA hkB
   by_cases huv:u=v
   ·subst huv
    have HT2:Hx (A.take (k+1)=B.take (k+1)):=Aa (by rw [HTA.o,HTB.o,HT.o])
    go_wp2_with fail
    go_region
    go_wp2_with fail
    exact ⟨⟨k+1,by omega,by go_num,HT2,hB.drew⟩,by simp [intOf];omega⟩
   ·have hb:(u != v)=true:=by simpa using huv
    have HR2:Hx (R=false):=Aa (by rw [HR.o];simp;intro h;have h1:=HU.o;rw [h,HV.o] at h1;exact huv (by injection h1 with h1;exact h1.symm))
    clear HTA HTB HU HV
    cases u <;> cases v
    all_goals first
     | exact absurd rfl huv
     | (clear huv hb
        go_wp2_with fail
        go_region
        go_wp2_with fail
        go_ret
        exact ⟨by rw [HR2.o];rfl,hB.drew⟩)
  ·have HR2:Hx (R=true):=Aa (by
    rw [HR.o]
    have:=HT.o
    rw [List.take_of_length_le (by have:=HN.o;omega),List.take_of_length_le (by have:=HNB.o;omega)] at this
    simp [this])
   go_wp2_with fail
   go_ret
   exact ⟨by rw [HR2.o];rfl,hB⟩
theorem OK (l k) (vl vk:Value) (w:World) (hl:A7 w vl l) (hk:A7 w vk k) (n:Nat) (h6:n<=6) (hn:l.len n) (hm:k.len n) :
  Calls Tryz.prog 161 #[vl,vk] w fun e w'=>e=zk (zg (decide (l.r=k.r) && decide (l.w=k.w)))/\Ov w w':=by
 obtain ⟨x1,x2,rfl,b1,b2⟩:=hl
 obtain ⟨y1,y2,rfl,b3,b4⟩:=hk
 have KR:=Aa fun W (hW:Ov w W)=>LQ l.r k.r x1 y1 W (Ax b1 hW) (Ax b3 hW) (by have:=hn.1;omega) (by have:=hm.1;omega)
 have KW:=Aa fun W (hW:Ov w W)=>LQ l.w k.w x2 y2 W (Ax b2 hW) (Ax b4 hW) (by have:=hn.2;omega) (by have:=hm.2;omega)
 obtain ⟨a1,c1,rfl,-⟩:=b1
 obtain ⟨a2,c2,rfl,-⟩:=b2
 obtain ⟨a3,c3,rfl,-⟩:=b3
 obtain ⟨a4,c4,rfl,-⟩:=b4
 obtain ⟨R1,hR1⟩:=nm (decide (l.r=k.r))
 obtain ⟨R2,hR2⟩:=nm (decide (l.w=k.w))
 rw [<-hR1] at KR ⊢
 rw [<-hR2] at KW ⊢
 obtain ⟨z1,hz1⟩:=nm l.r.length
 obtain ⟨z2,hz2⟩:=nm l.w.length
 obtain ⟨z3,hz3⟩:=nm k.r.length
 obtain ⟨z4,hz4⟩:=nm k.w.length
 rw [<-hz1,<-hz3] at KR ⊢
 rw [<-hz2,<-hz4] at KW ⊢
 clear hR1 hR2 hz1 hz2 hz3 hz4 hn hm
 have hb0:Ov w ((w.alloc (ze #[O a1 z1 c1,O a2 z2 c2] 50)).alloc (ze #[O a3 z3 c3,O a4 z4 c4] 50)):=(bA w _).alloc (by simp) _
 have r1:Ae [O a1 z1 c1,O a2 z2 c2] ((w.alloc (ze #[O a1 z1 c1,O a2 z2 c2] 50)).alloc (ze #[O a3 z3 c3,O a4 z4 c4] 50)) w.heap.size:=(Ae.new [O a1 z1 c1,O a2 z2 c2] 50 w).over (bA _ _)
 have r2:Ae [O a3 z3 c3,O a4 z4 c4] ((w.alloc (ze #[O a1 z1 c1,O a2 z2 c2] 50)).alloc (ze #[O a3 z3 c3,O a4 z4 c4] 50)) (w.heap.size+1):=by
  have:=Ae.new [O a3 z3 c3,O a4 z4 c4] 50 (w.alloc (ze #[O a1 z1 c1,O a2 z2 c2] 50))
  simpa using this
 have K1:=Aa (KR.o _ hb0)
 have HB0:=Aa hb0
 have HR1:=Aa r1
 have HR2:=Aa r2
 have f0:=r1 0 _ rfl
 have f1:=r1 1 _ rfl
 have f2:=r2 0 _ rfl
 have f3:=r2 1 _ rfl
 clear hb0 r1 r2 KR
 go_enter Tryz.func161,Tryz.ntmps161
 go_wp2_with fail
 refine (K1.o).mono ?_
 rintro e w1 ⟨rfl,hb1⟩
 have g1:=HR1.o.over hb1 1 _ rfl
 have g3:=HR2.o.over hb1 1 _ rfl
 have HB1:=Aa (Ac HB0.o hb1)
 have K2:=Aa (KW.o _ HB1.o)
 clear f0 f1 f2 f3 hb1 K1
 cases R1 with
 | false=>
  go_wp2_with fail
  go_ret
  exact ⟨rfl,HB1.o⟩
 | true=>
  go_wp2_with fail
  refine (K2.o).mono ?_
  rintro e w2 ⟨rfl,hb2⟩
  have HB2:=Aa (Ac HB1.o hb2)
  go_wp2_with fail
  go_ret
  exact ⟨by simp,HB2.o⟩
abbrev Js (w:World) (n:Nat) (ga:Option Addr) (gn gc:Nat) (sa:Option Addr) (sn sc:Nat) (ya:Option Addr) (yn yc:Nat) (oa:Option Addr) (on oc bv ov vn vc:Nat) (fa:Option Addr) (fn fc:Nat) (ba:Option Addr) (bn bc bl ol ln lc:Nat) (ka:Option Addr) (kn kc:Nat) (wr:World) (p1:Option Addr) (q1 r1:Nat) (p2:Option Addr) (q2 r2 j:Nat) (p3:Option Addr) (q3 r3:Nat) (p4:Option Addr) (q4 r4:Nat) (Wz:World):Prop:=Wz.cell? ⟨w.heap.size,0,none⟩=some (U zd (n:Int))/\CE Wz w.heap.size 1 (O ga gn gc)/\CE Wz w.heap.size 2 (O sa sn sc)/\CE Wz w.heap.size 3 (O ya yn yc)/\CE Wz w.heap.size 4 (O oa on oc)/\CE Wz w.heap.size 5 (O (some ⟨bv,ov,none⟩) vn vc)/\CE Wz w.heap.size 6 (O fa fn fc)/\CE Wz w.heap.size 7 (O ba bn bc)/\CE Wz w.heap.size 8 (O (some ⟨bl,ol,none⟩) ln lc)/\CE Wz w.heap.size 9 (O ka kn kc)/\CE Wz wr.heap.size 0 (zg true)/\CE Wz wr.heap.size 1 (O p1 q1 r1)/\CE Wz wr.heap.size 2 (O p2 q2 r2)/\CE Wz bl (ol+j*2) (O p3 q3 r3)/\CE Wz bl (ol+j*2+1) (O p4 q4 r4)
theorem NY (n:Nat) (h1:1<=n) (h6:n<=6) (ga gn gc) (sa sn sc ya yn yc oa on oc) (va vn vc) (fa fn fc ba bn bc) (la ln lc) (ka kn kc gs vs LsV) (w:World) (hg:AG w (O ga gn gc) gs) (hE:AQ n gs=0) (hv:Bo w (O va vn vc) vs) (hvc:∀ v∈vs,Bq n gs v.2=0) (hL:Bd w (O la ln lc) LsV) (hll:LsV.length=vs.length) (hlen:∀ x∈LsV,x.len n) (h16:vs.length<=16) :
  Calls Tryz.prog 100 #[zh #[U zd (n:Int),O ga gn gc,O sa sn sc,O ya yn yc,O oa on oc,O va vn vc,O fa fn fc,O ba bn bc,O la ln lc,O ka kn kc]] w fun e w'=>(∃ b:Bool,e=zk (zg b)/\(b=true ↔ (∀ i (h:i < vs.length),vs[i].1=true->LsV.getD i AE=Az (AB gs) n vs[i].2)))/\Ov w w':=by
 have hvn:vn=vs.length:=by obtain ⟨-,a,c,he,-⟩:=hv;injection he
 have hb0:Ov w (w.alloc (ze #[U zd (n:Int),O ga gn gc,O sa sn sc,O ya yn yc,O oa on oc,O va vn vc,O fa fn fc,O ba bn bc,O la ln lc,O ka kn kc] 110)):=bA w _
 have rowW:Ae [U zd (n:Int),O ga gn gc,O sa sn sc,O ya yn yc,O oa on oc,O va vn vc,O fa fn fc,O ba bn bc,O la ln lc,O ka kn kc] (w.alloc (ze #[U zd (n:Int),O ga gn gc,O sa sn sc,O ya yn yc,O oa on oc,O va vn vc,O fa fn fc,O ba bn bc,O la ln lc,O ka kn kc] 110)) w.heap.size:=Ae.new [U zd (n:Int),O ga gn gc,O sa sn sc,O ya yn yc,O oa on oc,O va vn vc,O fa fn fc,O ba bn bc,O la ln lc,O ka kn kc] 110 w
 have KLV:=Aa fun (pr pw:Value) (bl:Lab) W (hb:Ov w W) (h2:AI W pr bl.r) (h3:AI W pw bl.w) (h4:Bq n gs bl=0)=>GR (n:Int) ga gn gc sa sn sc ya yn yc oa on oc va vn vc fa fn fc ba bn bc la ln lc ka kn kc gs pr pw bl W (Af hg hb) h2 h3 h4
 have HV:=Aa hv
 have HVC:=Aa hvc
 have HL:=Aa hL
 have HLL:=Aa hll
 have HLEN:=Aa hlen
 have HVN:=Aa hvn
 have HB0:=Aa hb0
 have HRW:=Aa rowW
 have hvn16:vn<=16:=by omega
 have c5:=rowW 5 _ rfl
 clear hv hvc hL hll hlen hvn hb0 rowW h16
 go_enter Tryz.func100,Tryz.ntmps100
 go_wp2_with fail
 go_loopw [10] (fun i wr=>∃ j:Nat,j<=vn/\i=U zd j/\Hx (∀ i (h:i < vs.length),i < j->vs[i].1=true->LsV.getD i AE=Az (AB gs) n vs[i].2)/\Ae [U zd (n:Int),O ga gn gc,O sa sn sc,O ya yn yc,O oa on oc,O va vn vc,O fa fn fc,O ba bn bc,O la ln lc,O ka kn kc] wr w.heap.size/\Ov w wr) (fun i _=>vn - (intOf i).toNat)
 case atStart=>exact ⟨0,Nat.zero_le _,rfl,Aa (fun i h hi=>absurd hi (by omega)),HRW.o,HB0.o⟩
 case round=>
  obtain ⟨j,hj,rfl,HOK,hrow,hB⟩:=hrel
  clear c5
  by_cases hjl:j < vn
  ·have hjv:j < vs.length:=by have:=HVN.o;omega
   have hjL:j < LsV.length:=by have:=HLL.o;omega
   obtain ⟨-,va',vc',hve,hvel⟩:=HV.o.over hB
   injection hve with v1 v2 v3
   obtain ⟨bv,ov,hvo,hvel⟩:=hvel (by intro h;rw [h] at hjv;simp at hjv)
   obtain ⟨pr,pw,k0,k1,k2,hpr,hpw⟩:=hvel j hjv
   have e1:=v1.trans hvo
   obtain ⟨la',lc',hle,hlel⟩:=Au HL.o hB
   injection hle with l1 l2 l3
   obtain ⟨bl,ol,hlo,hlel⟩:=hlel (by intro h;rw [h] at hjL;simp at hjL)
   obtain ⟨rv,wv,l0,l1',hlev⟩:=hlel j hjL
   have e2:=l1.trans hlo
   subst e1 e2
   obtain ⟨p1,q1,r1,hrf⟩:=AM hpr
   obtain ⟨p2,q2,r2,hwf⟩:=AM hpw
   subst hrf hwf
   obtain ⟨p3,q3,r3,p4,q4,r4,hf3,hf4⟩:=AN hlev
   subst hf3 hf4
   have HX:Hx (LsV.getD j AE=LsV[j]):=Aa (by simp [List.getD_eq_getElem?_getD,List.getElem?_eq_getElem hjL])
   have HXL:Hx (LsV[j].len n):=Aa (HLEN.o _ (List.getElem_mem hjL))
   obtain ⟨kn1,hkn1⟩:=nm (vs[j].1)
   rw [<-hkn1] at k0
   have HKN:=Aa hkn1
   have hjn:j < ln:=by omega
   clear hvel hlel v2 v3 l2 l3 hvo hlo hkn1 v1 l1
   cases kn1 with
   | false=>
    have HOK2:Hx (∀ i (h:i < vs.length),i < j+1->vs[i].1=true->LsV.getD i AE=Az (AB gs) n vs[i].2):=Aa (fun i h hi hk=>by
     by_cases hij:i=j
     ·subst hij;rw [<-HKN.o] at hk;cases hk
     ·exact HOK.o i h (by omega) hk)
    have hba:=bA wr (ze #[zg false,O p1 q1 r1,O p2 q2 r2] 41)
    have HRA:=Aa (hrow.over hba)
    have HBA:=Aa (Ac hB hba)
    have c5:=hrow 5 _ rfl
    clear hba hrow hB
    go_wp2_with fail
    go_region
    go_wp2_with fail
    exact ⟨⟨j+1,by omega,by go_num,HOK2,HRA.o,HBA.o.drew⟩,by simp [intOf];omega⟩
   | true=>
    have hba:=bA wr (ze #[zg true,O p1 q1 r1,O p2 q2 r2] 41)
    have HRA:=Aa (hrow.over hba)
    have HRV:Hx (Ae [zg true,O p1 q1 r1,O p2 q2 r2] (wr.alloc (ze #[zg true,O p1 q1 r1,O p2 q2 r2] 41)) wr.heap.size):=Aa (Ae.new [zg true,O p1 q1 r1,O p2 q2 r2] 41 wr)
    have HBA:=Aa (Ac hB hba)
    obtain ⟨l0,l1⟩:=co2 hba l0 l1'
    have hbd:=Ac hB (Ac hba (bD _))
    have KL:=Aa fun W hW=>KLV.o (O p1 q1 r1) (O p2 q2 r2) vs[j].2 W (Ac HBA.o hW) (Ah (Ah hpr hba) hW) (Ah (Ah hpw hba) hW) (HVC.o _ (List.getElem_mem hjv))
    have KE:=Aa fun v W (hW:Ov (wr.alloc (ze #[zg true,O p1 q1 r1,O p2 q2 r2] 41)) W) (hM:A7 W v (Az (AB gs) n vs[j].2))=>OK _ LsV[j] v _ W hM (Aw (Aw hlev hba) hW) n h6 ⟨A2 _ _,A2 _ _⟩ HXL.o
    obtain ⟨R,hR⟩:=nm ((decide ((Az (AB gs) n vs[j].2).r=LsV[j].r) && decide ((Az (AB gs) n vs[j].2).w=LsV[j].w)))
    rw [<-hR] at KE
    have HR:Hx (R=true ↔ LsV.getD j AE=Az (AB gs) n vs[j].2):=Aa (by
     rw [hR,HX.o]
     cases hq:LsV[j] with
     | mk rr ww=>
      cases hp:Az (AB gs) n vs[j].2 with
      | mk r2 w2=>
             simp;constructor
             ·rintro ⟨a,b⟩;exact ⟨a.symm,b.symm⟩
             ·rintro ⟨a,b⟩;exact ⟨a.symm,b.symm⟩)
    clear hR
    have hS0:Js w n ga gn gc sa sn sc ya yn yc oa on oc bv ov vn vc fa fn fc ba bn bc bl ol ln lc ka kn kc wr p1 q1 r1 p2 q2 r2 j p3 q3 r3 p4 q4 r4 (wr.alloc (ze #[zg true,O p1 q1 r1,O p2 q2 r2] 41)):=by
     have hr0:=HRA.o
     have hrv:=HRV.o
     exact ⟨hr0 0 _ rfl,hr0 1 _ rfl,hr0 2 _ rfl,hr0 3 _ rfl,hr0 4 _ rfl,hr0 5 _ rfl,hr0 6 _ rfl,hr0 7 _ rfl,hr0 8 _ rfl,hr0 9 _ rfl,hrv 0 _ rfl,hrv 1 _ rfl,hrv 2 _ rfl,l0,l1⟩
    have c5:=hrow 5 _ rfl
    clear hba hrow hB hbd l1' hpr hpw hlev
    go_wp2_with fail
    refine gS (Js w n ga gn gc sa sn sc ya yn yc oa on oc bv ov vn vc fa fn fc ba bn bc bl ol ln lc ka kn kc wr p1 q1 r1 p2 q2 r2 j p3 q3 r3 p4 q4 r4) (hS0) fun hHeld=>?_
    refine kT 0 ?_
    refine kT 1 ?_
    refine kT 2 ?_
    refine kT 3 ?_
    refine kT 4 ?_
    refine kT 5 ?_
    refine kT 6 ?_
    refine kT 8 ?_
    refine kT 9 ?_
    refine kT 10 ?_
    refine kT 11 ?_
    refine kT 12 ?_
    refine kT 13 ?_
    refine kT 14 ?_
    refine rdA 7 rfl fun K hK=>?_
    go_simp
    refine (KL.o _ (bD _)).mono ?_
    rintro e W5 ⟨vj,rfl,hfr,hb5⟩
    have hbz:=Ac ((Below.refl _ (wr.alloc (ze #[zg true,O p1 q1 r1,O p2 q2 r2] 41))).drew) hb5
    obtain ⟨m1,m2,m3,m4,m5,m6,hNV⟩:∃ m1 m2 m3 m4 m5 m6,vj=zh #[O m1 m2 m3,O m4 m5 m6]:=by
     obtain ⟨x,y,e,-⟩:=Ao hfr
     subst e
     obtain ⟨z1,z2,z3,z4,z5,z6,rfl,rfl⟩:=AN (Ao hfr)
     exact ⟨_,_,_,_,_,_,rfl⟩
    subst hNV
    have hM5:=Ao hfr
    have hr0:=HRA.o.over hbz
    have hrv:=HRV.o.over hbz
    have hS5:Js w n ga gn gc sa sn sc ya yn yc oa on oc bv ov vn vc fa fn fc ba bn bc bl ol ln lc ka kn kc wr p1 q1 r1 p2 q2 r2 j p3 q3 r3 p4 q4 r4 W5:=⟨hr0 0 _ rfl,hr0 1 _ rfl,hr0 2 _ rfl,hr0 3 _ rfl,hr0 4 _ rfl,hr0 5 _ rfl,hr0 6 _ rfl,hr0 7 _ rfl,hr0 8 _ rfl,hr0 9 _ rfl,hrv 0 _ rfl,hrv 1 _ rfl,hrv 2 _ rfl,Ab hbz _ _ l0,Ab hbz _ _ l1⟩
    have HBZ5:=Aa hbz
    have HM5:=Aa hM5
    clear hr0 hrv hM5 hfr hb5 hbz
    go_simp
    refine xK hK (hS5) fun hHeld=>?_
    clear hK K
    refine rdA 15 rfl fun K hK=>?_
    go_simp
    refine (KE.o _ W5 HBZ5.o HM5.o).mono ?_
    rintro e W6 ⟨rfl,hb6⟩
    have hbz:=Ac HBZ5.o hb6
    have hr0:=HRA.o.over hbz
    have hrv:=HRV.o.over hbz
    have hS6:Js w n ga gn gc sa sn sc ya yn yc oa on oc bv ov vn vc fa fn fc ba bn bc bl ol ln lc ka kn kc wr p1 q1 r1 p2 q2 r2 j p3 q3 r3 p4 q4 r4 W6:=⟨hr0 0 _ rfl,hr0 1 _ rfl,hr0 2 _ rfl,hr0 3 _ rfl,hr0 4 _ rfl,hr0 5 _ rfl,hr0 6 _ rfl,hr0 7 _ rfl,hr0 8 _ rfl,hr0 9 _ rfl,hrv 0 _ rfl,hrv 1 _ rfl,hrv 2 _ rfl,Ab hbz _ _ l0,Ab hbz _ _ l1⟩
    have HBZ6:=Aa hbz
    clear hr0 hrv hb6 hbz
    go_simp
    refine xK hK (hS6) fun hHeld=>?_
    clear hK K
    refine kT 16 ?_
    refine kT 17 ?_
    refine gE ?_
    cases R with
    | false=>
     have HNO:Hx (¬ (∀ i (h:i < vs.length),vs[i].1=true->LsV.getD i AE=Az (AB gs) n vs[i].2)):=Aa (fun h=>by
      have h2:=HR.o.2 (h j hjv HKN.o.symm)
      cases h2)
     go_wp2_with fail
     go_ret
     exact ⟨⟨false,rfl,fun h=>absurd h (by simp),fun h=>absurd h HNO.o⟩,Ac HBA.o HBZ6.o⟩
    | true=>
     have HOK2:Hx (∀ i (h:i < vs.length),i < j+1->vs[i].1=true->LsV.getD i AE=Az (AB gs) n vs[i].2):=Aa (fun i h hi hk=>by
      by_cases hij:i=j
      ·subst hij;exact HR.o.1 rfl
      ·exact HOK.o i h (by omega) hk)
     go_wp2_with fail
     exact ⟨⟨j+1,by omega,by go_num,HOK2,HRA.o.over HBZ6.o,Ac HBA.o HBZ6.o⟩,by simp [intOf];omega⟩
  ·go_wp2_with fail
   go_ret
   exact ⟨⟨true,rfl,fun _ i h hk=>HOK.o i h (by have:=HVN.o;omega) hk,fun _=>rfl⟩,hB⟩
end Go.Proofs.YtfffpjkcfnekaaaGreat.Ex
