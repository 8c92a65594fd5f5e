/- Checks of one command, whatever it is. -/
import Derived.Deep.RegionHeld2
import Derived.Test.YtfffpjkcfnekaaaGreatI05
set_option linter.unusedVariables false
set_option maxHeartbeats 8000000
set_option maxRecDepth 100000
namespace Go.Proofs.YtfffpjkcfnekaaaGreat.Ex.Ey
open Go.RowKit
open Go.Value renaming slice -> O, int -> zd, bool -> zg, agg -> zh, pointer -> zj, tuple -> zm
open Go.IntKind renaming i64 -> U
open Go.Obj renaming cells -> ze
open Go.Ending renaming returned -> zk
theorem Rj (K k:Nat) (fs de das) (funcs:Int) (m:Int) (ga gn gc sa sn sc) (ya:Option Addr) (yn yc:Nat) (oa:Option Addr) (on oc:Nat) (va:Option Addr) (vn vc:Nat) (fa fn fc ba bn bc) (vr ot ek en:Int) (xa xl xc aa al ac ta tl tc ea el ec) (w:World) (hv:vn<=9223372036854775807) (i1:Cq vr) (i2:Cq ot) (h0f:0<=funcs) (h1f:funcs<=9223372036854775807) (hyl:yn<=9223372036854775807) (hol:on<=9223372036854775807)
  (hde:RX w K [zd U ek,zd U en,O xa xl xc] de) (hda:XS 3 (RX w K) w (O aa al ac) das) (hfs:Bi w K k (O fa fn fc) fs) (hff:funcs<=fs.length) :
  Calls Tryz.prog 220 #[zh #[zd U m,O ga gn gc,O sa sn sc,O ya yn yc,O oa on oc,O va vn vc,O fa fn fc,O ba bn bc],zh #[zd U 7,zd U vr,zd U ot,zd U ek,zd U en,O xa xl xc,O aa al ac,O ta tl tc,O ea el ec],zd U funcs] w (Dc ((vr=0)/\(ot=0)/\(AF vn K de=0)/\(al=0)/\(True)/\(True)) w):=by
 obtain ⟨Q,t⟩:∃ Q:Prop,Q=((vr=0)/\(ot=0)/\(AF vn K de=0)/\(al=0)/\(True)/\(True)):=⟨_,rfl⟩;rw [<-t];have HQ:Hx (((vr=0)/\(ot=0)/\(AF vn K de=0)/\(al=0)/\(True)/\(True))->Q):=Aa (fun p=>by rw [t];exact p);have N1:Hx (¬ (vr=0)->¬ Q):=Aa (fun h p=>by rw [t] at p;exact h p.1);have N2:Hx (¬ (ot=0)->¬ Q):=Aa (fun h p=>by rw [t] at p;exact h p.2.1);have N3:Hx (¬ (AF vn K de=0)->¬ Q):=Aa (fun h p=>by rw [t] at p;exact h p.2.2.1);have N4:Hx (¬ (al=0)->¬ Q):=Aa (fun h p=>by rw [t] at p;exact h p.2.2.2.1);have N5:Hx (¬ (True)->¬ Q):=Aa (fun h p=>by rw [t] at p;exact h p.2.2.2.2.1);have N6:Hx (¬ (True)->¬ Q):=Aa (fun h p=>by rw [t] at p;exact h p.2.2.2.2.2);clear t;have K1:=Aa Og;have z:=Aa BZ;have K3:=Aa Bq;have K4:=Aa fun W=>Ck 7 funcs m ga gn gc sa sn sc ya yn yc oa on oc va vn vc fa fn fc ba bn bc W;have K5:=Aa fun W (hB:Ov w W)=>Cd K m ga gn gc sa sn sc ya yn yc oa on oc va vn vc fa fn fc ba bn bc _ _ W (hde.over hB) hv;have a9:al<=9223372036854775807/\al=das.length:=⟨by obtain ⟨hm,ao,cj,b,-⟩:=hda;injection b with e1 e2 e3;rw [e2];exact hm,by obtain ⟨hm,ao,cj,b,-⟩:=hda;injection b⟩;obtain ⟨a9,y⟩:=a9;have eg:=Aa y;obtain ⟨i1,du⟩:=i1;obtain ⟨i2,dt⟩:=i2;clear hde hda hfs y;obtain ⟨c0,c1,c2,c3,c4,c5,c6,c7⟩:=rc8 (Gt w [zd U m,O ga gn gc,O sa sn sc,O ya yn yc,O oa on oc,O va vn vc,O fa fn fc,O ba bn bc] 184 (ze #[zd U 7,zd U vr,zd U ot,zd U ek,zd U en,O xa xl xc,O aa al ac,O ta tl tc,O ea el ec] 130));obtain ⟨s0,s1,s2,s3,s4,s5,s6,s7,s8⟩:=rc9 (Hw w (ze #[zd U m,O ga gn gc,O sa sn sc,O ya yn yc,O oa on oc,O va vn vc,O fa fn fc,O ba bn bc] 184) [zd U 7,zd U vr,zd U ot,zd U ek,zd U en,O xa xl xc,O aa al ac,O ta tl tc,O ea el ec] 130);have d:Ov w ((w.alloc (ze #[zd U m,O ga gn gc,O sa sn sc,O ya yn yc,O oa on oc,O va vn vc,O fa fn fc,O ba bn bc] 184)).alloc (ze #[zd U 7,zd U vr,zd U ot,zd U ek,zd U en,O xa xl xc,O aa al ac,O ta tl tc,O ea el ec] 130)):=(bA w _).alloc (by simp) _;go_enter Tryz.func220,Tryz.ntmps220;go_wp2_with fail;refine (K1.o _).mono ?_;rintro e w1 ⟨rfl,M⟩;have cg:=d.trans (M.mono d.size);have s:=Ac M (bA w1 (ze #[zg false,zg false,zg true,zg false,zg true,zg true] 288));have bd:=d.trans (s.mono d.size);obtain ⟨b9,b7,b5,b3,b1,bz,bv,bt,a5,a3⟩:=CY s c0 c1 c2 c3 c4 c5 c6 c7 s0 s1;obtain ⟨a1,az,ax,av,ar,an,ak⟩:=co7 s s2 s3 s4 s5 s6 s7 s8;obtain ⟨br,bo,bl,bj,bh,bf⟩:=rc6 (AP w1 [zg false,zg false,zg true,zg false,zg true,zg true] 288);clear M s d cg c0 c1 c2 c3 c4 c5 c6 c7 s0 s1 s2 s3 s4 s5 s6 s7 s8;go_wp2_with fail;refine (z.o _ _ _).mono ?_;rintro e A ⟨b,rfl⟩;have c:=orT b;subst c;clear b;go_wp2_with fail;refine (z.o _ _ _).mono ?_;rintro e A ⟨b,rfl⟩;have c:=orT b;subst c;clear b;go_wp2_with fail
 go_quiet ((go_at_call 172;exact Calls.quiet_of_same (BU _ _)))
 obtain ⟨ah,ag,af,ae,ad,ab,Z,Y,L,J⟩:=Db (n:=nq) b9 b7 b5 b3 b1 bz bv bt a5 a3;obtain ⟨I,H,G,F,E,C,B,X,V,T⟩:=Db (n:=nq) a1 az ax av ar an ak br bo bl;obtain ⟨S,R,P⟩:=cn3 (n:=nq) bj bh bf;have q:=below_drewN bd nq;clear bd b9 b7 b5 b3 b1 bz bv bt a5 a3 a1 az ax av ar an ak br bo bl bj bh bf;generalize (w1.alloc (ze #[zg false,zg false,zg true,zg false,zg true,zg true] 288)).drewN nq=wr at q ah ag af ae ad ab Z Y L J I H G F E C B X V T S R P ⊢;go_wp2_with fail;refine (z.o _ _ _).mono ?_;rintro e A ⟨b,rfl⟩;rcases b with ⟨f,rfl⟩ | ⟨f,rfl⟩;rotate_left
 ·skip
  have HN:=nO N1 N2 N3 N4 N5 N6 f;clear f;unfold Az;go_wp2_with fail;exact ⟨rfl,Or.inr ⟨HN.o,1,by decide,rfl⟩,q⟩
 have cb:=Aa f;clear f;go_wp2_with fail;refine (z.o _ _ _).mono ?_;rintro e A ⟨b,rfl⟩;rcases b with ⟨f,rfl⟩ | ⟨f,rfl⟩;rotate_left
 ·skip
  have HN:=nO N1 N2 N3 N4 N5 N6 f;clear f;unfold Az;go_wp2_with fail;exact ⟨rfl,Or.inr ⟨HN.o,1,by decide,rfl⟩,q⟩
 have ca:=Aa f;clear f;go_wp2_with fail;refine (z.o _ _ _).mono ?_;rintro e A ⟨b,rfl⟩;have c:=orT b;subst c;clear b;go_wp2_with fail;refine (z.o _ _ _).mono ?_;rintro e A ⟨b,rfl⟩;rcases b with ⟨l,rfl⟩ | ⟨f,rfl⟩;rotate_left
 ·skip
  have HN:=nO N1 N2 N3 N4 N5 N6 f;clear f;unfold Az;go_wp2_with fail;exact ⟨rfl,Or.inr ⟨HN.o,1,by decide,rfl⟩,q⟩
 have a8:al=0:=by simp at l;omega
 subst a8;clear l;go_wp2_with fail;refine (z.o _ _ _).mono ?_;rintro e A ⟨b,rfl⟩;have c:=orT b;subst c;clear b;go_wp2_with fail;refine (z.o _ _ _).mono ?_;rintro e A ⟨b,rfl⟩;have c:=orT b;subst c;clear b;go_wp2_with fail
 go_quiet ((go_at_call 172;exact Calls.quiet_of_same (BU _ _)))
 obtain ⟨b8,b6,b4,b2,b0,bw,bu,bs,a4,a2⟩:=Db (n:=nq) ah ag af ae ad ab Z Y L J;obtain ⟨a0,ay,aw,au,aq,am,aj,bp,bm,bk⟩:=Db (n:=nq) I H G F E C B X V T;obtain ⟨bi,bg,be⟩:=cn3 (n:=nq) S R P;have N:=below_drewN q nq;clear ah ag af ae ad ab Z Y L J I H G F E C B X V T S R P;go_wp2_with fail;refine (K5.o _ N).mono ?_;rintro e w5 ⟨b,g⟩;have bb:=N.trans (g.mono N.size);rcases b with ⟨a7,rfl⟩ | ⟨u,cd,a6,rfl⟩;rotate_left
 ·have HN:=Aa (N3.o u)
  clear u;unfold Az;go_wp2_with fail;exact ⟨rfl,Or.inr ⟨HN.o,cd,a6,rfl⟩,bb⟩
 obtain ⟨d9,d8,d7,d6,d5,d4,d3,d2,ds,dr⟩:=CY g b8 b6 b4 b2 b0 bw bu bs a4 a2;obtain ⟨dq,dn,dm,dl,dk,dj,di,d0,dz,dy⟩:=CY g a0 ay aw au aq am aj bp bm bk;obtain ⟨dx,dw,dv⟩:=co3 g bi bg be;have cq:=Aa a7;clear a7 g b8 b6 b4 b2 b0 bw bu bs a4 a2 a0 ay aw au aq am aj bp bm bk bi bg be;go_wp2_with fail;go_loopw [138] (fun i wr=>i=zd U 0/\Ov w wr) (fun _ _=>0)
 case atStart=>exact ⟨rfl,bb⟩
 case round=>
  obtain ⟨rfl,hB⟩:=hrel;go_wp2_with fail;go_end0;refine ⟨Or.inl ⟨HQ.o ⟨?_,?_,?_,?_,?_,?_⟩,rfl⟩,hB⟩;all_goals first | trivial | exact HVAR.o | exact HOT.o | exact cq.o | exact ⟨HZ1.o,HZ2.o,HXL.o⟩ | (have hq:=cb.o;simp at hq;omega) | (have hq:=ca.o;simp at hq;omega) | omega
theorem Ro (K k:Nat) (fs de das) (funcs:Int) (m:Int) (ga gn gc sa sn sc) (ya:Option Addr) (yn yc:Nat) (oa:Option Addr) (on oc:Nat) (va:Option Addr) (vn vc:Nat) (fa fn fc ba bn bc) (vr ot ek en:Int) (xa xl xc aa al ac ta tl tc ea el ec) (w:World) (hv:vn<=9223372036854775807) (i1:Cq vr) (i2:Cq ot) (h0f:0<=funcs) (h1f:funcs<=9223372036854775807) (hyl:yn<=9223372036854775807) (hol:on<=9223372036854775807)
  (hde:RX w K [zd U ek,zd U en,O xa xl xc] de) (hda:XS 3 (RX w K) w (O aa al ac) das) (hfs:Bi w K k (O fa fn fc) fs) (hff:funcs<=fs.length) :
  Calls Tryz.prog 220 #[zh #[zd U m,O ga gn gc,O sa sn sc,O ya yn yc,O oa on oc,O va vn vc,O fa fn fc,O ba bn bc],zh #[zd U 2,zd U vr,zd U ot,zd U ek,zd U en,O xa xl xc,O aa al ac,O ta tl tc,O ea el ec],zd U funcs] w (Dc ((0<=vr/\vr < vn)/\(0<=ot/\ot < funcs)/\(ek=0/\en=0/\xl=0)/\((∀ f,fs[ot.toNat]? = some f->f.ps.length=al)/\∀ a∈das,AF vn K a=0)/\(tl=0)/\(el=0)) w):=by
 obtain ⟨Q,N⟩:∃ Q:Prop,Q=((0<=vr/\vr < vn)/\(0<=ot/\ot < funcs)/\(ek=0/\en=0/\xl=0)/\((∀ f,fs[ot.toNat]? = some f->f.ps.length=al)/\∀ a∈das,AF vn K a=0)/\(tl=0)/\(el=0)):=⟨_,rfl⟩;rw [<-N];have HQ:Hx (((0<=vr/\vr < vn)/\(0<=ot/\ot < funcs)/\(ek=0/\en=0/\xl=0)/\((∀ f,fs[ot.toNat]? = some f->f.ps.length=al)/\∀ a∈das,AF vn K a=0)/\(tl=0)/\(el=0))->Q):=Aa (fun p=>by rw [N];exact p);have N1:Hx (¬ (0<=vr/\vr < vn)->¬ Q):=Aa (fun h p=>by rw [N] at p;exact h p.1);have N2:Hx (¬ (0<=ot/\ot < funcs)->¬ Q):=Aa (fun h p=>by rw [N] at p;exact h p.2.1);have N3:Hx (¬ (ek=0/\en=0/\xl=0)->¬ Q):=Aa (fun h p=>by rw [N] at p;exact h p.2.2.1);have N4:Hx (¬ ((∀ f,fs[ot.toNat]? = some f->f.ps.length=al)/\∀ a∈das,AF vn K a=0)->¬ Q):=Aa (fun h p=>by rw [N] at p;exact h p.2.2.2.1);have N5:Hx (¬ (tl=0)->¬ Q):=Aa (fun h p=>by rw [N] at p;exact h p.2.2.2.2.1);have N6:Hx (¬ (el=0)->¬ Q):=Aa (fun h p=>by rw [N] at p;exact h p.2.2.2.2.2);clear N;have K1:=Aa Ol;have z:=Aa BZ;have K3:=Aa Bq;have K4:=Aa fun W=>Ck 2 funcs m ga gn gc sa sn sc ya yn yc oa on oc va vn vc fa fn fc ba bn bc W;simp only [Int.reduceEq,if_true,if_false] at K4;have K5:=Aa fun W (R:Ov w W)=>Cd K m ga gn gc sa sn sc ya yn yc oa on oc va vn vc fa fn fc ba bn bc _ _ W (hde.over R) hv;have HF:=Aa hfs;have HA:=Aa hda;have cf:al<=9223372036854775807/\al=das.length:=⟨by obtain ⟨hm,ao,fl,c,-⟩:=hda;injection c with e1 e2 e3;rw [e2];exact hm,by obtain ⟨hm,ao,fl,c,-⟩:=hda;injection c⟩;obtain ⟨cf,ar⟩:=cf;have d9:=Aa ar;obtain ⟨i1,ih⟩:=i1;obtain ⟨i2,ig⟩:=i2;clear hde hda hfs ar;obtain ⟨c0,c1,c2,c3,c4,c5,c6,c7⟩:=rc8 (Gt w [zd U m,O ga gn gc,O sa sn sc,O ya yn yc,O oa on oc,O va vn vc,O fa fn fc,O ba bn bc] 184 (ze #[zd U 2,zd U vr,zd U ot,zd U ek,zd U en,O xa xl xc,O aa al ac,O ta tl tc,O ea el ec] 130));obtain ⟨s0,s1,s2,s3,s4,s5,s6,s7,s8⟩:=rc9 (Hw w (ze #[zd U m,O ga gn gc,O sa sn sc,O ya yn yc,O oa on oc,O va vn vc,O fa fn fc,O ba bn bc] 184) [zd U 2,zd U vr,zd U ot,zd U ek,zd U en,O xa xl xc,O aa al ac,O ta tl tc,O ea el ec] 130);have q:Ov w ((w.alloc (ze #[zd U m,O ga gn gc,O sa sn sc,O ya yn yc,O oa on oc,O va vn vc,O fa fn fc,O ba bn bc] 184)).alloc (ze #[zd U 2,zd U vr,zd U ot,zd U ek,zd U en,O xa xl xc,O aa al ac,O ta tl tc,O ea el ec] 130)):=(bA w _).alloc (by simp) _;go_enter Tryz.func220,Tryz.ntmps220;go_wp2_with fail;refine (K1.o _).mono ?_;rintro e w1 ⟨rfl,a6⟩;have e8:=q.trans (a6.mono q.size);have g:=Ac a6 (bA w1 (ze #[zg true,zg true,zg false,zg true,zg false,zg false] 288));have u:=q.trans (g.mono q.size);obtain ⟨ae,ad,ab,Z,Y,X,V,T,J,bt⟩:=CY g c0 c1 c2 c3 c4 c5 c6 c7 s0 s1;obtain ⟨I,br,bo,bl,bj,bi,bg⟩:=co7 g s2 s3 s4 s5 s6 s7 s8;obtain ⟨cx,S,ct,cq,co,cm⟩:=rc6 (AP w1 [zg true,zg true,zg false,zg true,zg false,zg false] 288);clear a6 g q e8 c0 c1 c2 c3 c4 c5 c6 c7 s0 s1 s2 s3 s4 s5 s6 s7 s8;go_wp2_with fail;refine (z.o _ _ _).mono ?_;rintro e H ⟨c,rfl⟩;have d:=orT c;subst d;clear c;go_wp2_with fail;refine (K3.o _ _ _).mono ?_;rintro e H ⟨rfl,rfl⟩;go_wp2_with fail;refine (z.o _ _ _).mono ?_;rintro e H ⟨c,rfl⟩;rcases c with ⟨ai,rfl⟩ | ⟨l,rfl⟩;rotate_left
 ·skip
  have y:=nO N1 N2 N3 N4 N5 N6 l;clear l;unfold Az;go_wp2_with fail;exact ⟨rfl,Or.inr ⟨y.o,5,by decide,rfl⟩,u⟩
 have A:0<=vr/\vr < vn:=by simpa using ai
 have dt:=Aa A;clear ai A;go_wp2_with fail;have ay:=Below.refl (w1.alloc (ze #[zg true,zg true,zg false,zg true,zg false,zg false] 288)).heap.size (w1.alloc (ze #[zg true,zg true,zg false,zg true,zg false,zg false] 288));obtain ⟨ob,a0⟩:=nm (decide (0<=ot/\ot < funcs));have a9:=Aa fun W=>Bq ot funcs W;rw [<-a0] at a9;have dz:=Aa a0;clear a0
 cases ob with
 | false=>
  have fv:=Aa (N2.o (by have hq:=dz.o;simp at hq;omega));go_region_held2 (fun W=>W.cell? ⟨w.heap.size,0,none⟩=some (zd U m)/\W.cell? ⟨w.heap.size,1,none⟩=some (O ga gn gc)/\W.cell? ⟨w.heap.size,2,none⟩=some (O sa sn sc)/\W.cell? ⟨w.heap.size,3,none⟩=some (O ya yn yc)/\W.cell? ⟨w.heap.size,4,none⟩=some (O oa on oc)/\W.cell? ⟨w.heap.size,5,none⟩=some (O va vn vc)/\W.cell? ⟨w.heap.size,6,none⟩=some (O fa fn fc)/\W.cell? ⟨w.heap.size,7,none⟩=some (O ba bn bc)/\W.cell? ⟨w.heap.size+1,0,none⟩=some (zd U 2)/\W.cell? ⟨w.heap.size+1,2,none⟩=some (zd U ot)/\W.cell? ⟨w1.heap.size,1,none⟩=some (zg true)/\Ov (w1.alloc (ze #[zg true,zg true,zg false,zg true,zg false,zg false] 288)) W) (first | assumption | exact ⟨ae,ad,ab,Z,Y,X,V,T,J,I,S,below_drewN ay 1⟩ | exact F4 (by assumption) hbp | fail) (first | (go_at_call 244;refine (K4.o _).mono ?_;rintro e wp ⟨rfl,hbp⟩) | (go_at_call 173;refine (a9.o _).mono ?_;rintro e wq ⟨rfl,rfl⟩) | (go_at_call 172;refine (z.o false 5 _).mono ?_;rintro e wq ⟨c,rfl⟩;rcases c with ⟨hb,rfl⟩ | ⟨hb,rfl⟩;rotate_left;exact ⟨rfl,Or.inr ⟨fv.o,5,by decide,rfl⟩,u.trans ((by assumption:_/\_/\_/\_/\_/\_/\_/\_/\_/\_/\_/\Below _ _ _).2.2.2.2.2.2.2.2.2.2.2.mono u.size)⟩;have F:=Aa hb;clear hb));exact absurd F.o (by simp)
 | true=>
  have b3:0<=ot/\ot < funcs:=by simpa using dz.o.symm
  have dw:=Aa b3;clear b3;go_region_held3 (fun W=>W.cell? ⟨w.heap.size,0,none⟩=some (zd U m)/\W.cell? ⟨w.heap.size,1,none⟩=some (O ga gn gc)/\W.cell? ⟨w.heap.size,2,none⟩=some (O sa sn sc)/\W.cell? ⟨w.heap.size,3,none⟩=some (O ya yn yc)/\W.cell? ⟨w.heap.size,4,none⟩=some (O oa on oc)/\W.cell? ⟨w.heap.size,5,none⟩=some (O va vn vc)/\W.cell? ⟨w.heap.size,6,none⟩=some (O fa fn fc)/\W.cell? ⟨w.heap.size,7,none⟩=some (O ba bn bc)/\W.cell? ⟨w.heap.size+1,0,none⟩=some (zd U 2)/\W.cell? ⟨w.heap.size+1,2,none⟩=some (zd U ot)/\W.cell? ⟨w1.heap.size,1,none⟩=some (zg true)/\Ov (w1.alloc (ze #[zg true,zg true,zg false,zg true,zg false,zg false] 288)) W) (first | assumption | exact ⟨ae,ad,ab,Z,Y,X,V,T,J,I,S,below_drewN ay 1⟩ | exact F4 (by assumption) hbp | fail) (first | (go_at_call 244;refine (K4.o _).mono ?_;rintro e wp ⟨rfl,hbp⟩) | (go_at_call 173;refine (a9.o _).mono ?_;rintro e wq ⟨rfl,rfl⟩) | (go_at_call 172;refine (BU 5 _).mono ?_;rintro e wq ⟨rfl,rfl⟩));have g:=(by assumption:_/\_/\_/\_/\_/\_/\_/\_/\_/\_/\_/\Below _ _ _).2.2.2.2.2.2.2.2.2.2.2;have t:=u.trans (g.mono u.size);obtain ⟨dm,dk,di,dg,dd,db,a8,cz,ax,bs⟩:=CY g ae ad ab Z Y X V T J bt;obtain ⟨aw,bp,bm,bk,av,bh,bf,cv,cu,cr⟩:=CY g I br bo bl bj bi bg cx S ct;obtain ⟨cp,cn,ck⟩:=co3 g cq co cm;clear g u ay ae ad ab Z Y X V T J bt I br bo bl bj bi bg cx S ct cq co cm;go_wp2_with fail;refine (z.o _ _ _).mono ?_;rintro e H ⟨c,rfl⟩;have d:=orT c;subst d;clear c;go_wp2_with fail;refine (z.o _ _ _).mono ?_;rintro e H ⟨c,rfl⟩;have d:=orT c;subst d;clear c;by_cases z1:ek=0;rotate_left
  ·have zb:(ek == 0)=false:=by simpa using z1
   have y:=Aa (N3.o (by omega));go_wp2_with fail;refine (z.o _ _ _).mono ?_;rintro e H ⟨c,rfl⟩;have d:e=Az 1:=by
    rcases c with ⟨c,_⟩ | ⟨_,c⟩
    ·cases c
    ·exact c
   subst d;clear c;unfold Az;go_wp2_with fail;exact ⟨rfl,Or.inr ⟨y.o,1,by decide,rfl⟩,t⟩
  have hr:(ek == 0)=true:=by simpa using z1
  have fp:=Aa z1;clear z1;by_cases z2:en=0;rotate_left
  ·have zb:(en == 0)=false:=by simpa using z2
   have y:=Aa (N3.o (by omega));go_wp2_with fail;refine (z.o _ _ _).mono ?_;rintro e H ⟨c,rfl⟩;have d:e=Az 1:=by
    rcases c with ⟨c,_⟩ | ⟨_,c⟩
    ·cases c
    ·exact c
   subst d;clear c;unfold Az;go_wp2_with fail;exact ⟨rfl,Or.inr ⟨y.o,1,by decide,rfl⟩,t⟩
  have hp:(en == 0)=true:=by simpa using z2
  have fo:=Aa z2;clear z2;go_wp2_with fail;refine (z.o _ _ _).mono ?_;rintro e H ⟨c,rfl⟩;rcases c with ⟨l,rfl⟩ | ⟨l,rfl⟩;rotate_left
  ·skip
   have y:=nO N1 N2 N3 N4 N5 N6 l;clear l;unfold Az;go_wp2_with fail;exact ⟨rfl,Or.inr ⟨y.o,1,by decide,rfl⟩,t⟩
  have ah:xl=0:=by simp at l;omega
  have fq:=Aa ah;clear l ah;go_wp2_with fail;refine (z.o _ _ _).mono ?_;rintro e H ⟨c,rfl⟩;have d:=orT c;subst d;clear c;go_wp2_with fail;refine (z.o _ _ _).mono ?_;rintro e H ⟨c,rfl⟩;rcases c with ⟨l,rfl⟩ | ⟨l,rfl⟩;rotate_left
  ·skip
   have y:=nO N1 N2 N3 N4 N5 N6 l;clear l;unfold Az;go_wp2_with fail;exact ⟨rfl,Or.inr ⟨y.o,1,by decide,rfl⟩,t⟩
  have ds:=Aa l;clear l;go_wp2_with fail;refine (z.o _ _ _).mono ?_;rintro e H ⟨c,rfl⟩;rcases c with ⟨l,rfl⟩ | ⟨l,rfl⟩;rotate_left
  ·skip
   have y:=nO N1 N2 N3 N4 N5 N6 l;clear l;unfold Az;go_wp2_with fail;exact ⟨rfl,Or.inr ⟨y.o,1,by decide,rfl⟩,t⟩
  have dr:=Aa l;clear l;go_wp2_with fail;obtain ⟨b2,b1⟩:=dw.o;obtain ⟨b5,iq,ip,e5,b7⟩:=HF.o;injection e5 with e1 e2 e3;subst e1 e2 e3;obtain ⟨j,rfl⟩:∃ j:Nat,ot=(j:Int):=⟨ot.toNat,by omega⟩;have hj:j < fs.length:=by omega
  have gi:fs.length<=9223372036854775807:=b5;obtain ⟨b,off,rfl,cd⟩:=b7 (by rintro rfl;simp at hj);obtain ⟨vP,vB,x0,x1,x2,p0,p1,p2,p3,p4,e0,az,-,-⟩:=cd j hj;obtain ⟨pa,pc,rfl,-⟩:=e0;have E:fs[j]? = some fs[j]:=List.getElem?_eq_getElem hj;obtain ⟨fd,b6⟩:=nm (fs[j]);rw [<-b6] at p0 az E;obtain ⟨pn,L⟩:=nm fd.ps.length;rw [<-L] at p0;have bu:=Ab t _ _ p0;have gg:pn<=9223372036854775807:=by rw [L];exact az.1
  have dv:=Aa L;have au:=Aa E;clear b7 cd p0 p1 p2 p3 p4 E b6 L b2 b1 b5 az;by_cases hpe:al=pn;rotate_left
  ·have fu:=Aa (N4.o (fun hd=>hpe ((hd.1 fd (by simpa using au.o)).symm.trans dv.o.symm)))
   have ii:((al:Int) == (pn:Int))=false:=by simp;omega
   go_region_held2 (fun W=>W.cell? ⟨w.heap.size+1,0,none⟩=some (zd U 2)/\W.cell? ⟨w.heap.size+1,6,none⟩=some (O aa al ac)/\W.cell? ⟨w.heap.size,6,none⟩=some (O (some ⟨b,off,none⟩) fs.length fc)/\W.cell? ⟨w.heap.size+1,2,none⟩=some (zd U (j:Int))/\W.cell? ⟨b,off+j*5,none⟩=some (O pa pn pc)/\Ov w W) (first | assumption | exact ⟨ax,av,a8,aw,bu,below_drewN t 1⟩ | fail) (first | (go_at_call 172;refine (z.o false 1 _).mono ?_;rintro e wq ⟨c,rfl⟩;rcases c with ⟨hb,rfl⟩ | ⟨hb,rfl⟩;rotate_left;exact ⟨rfl,Or.inr ⟨fu.o,1,by decide,rfl⟩,(by assumption:_/\_/\_/\_/\_/\Below _ _ _).2.2.2.2.2⟩;have F:=Aa hb;clear hb));exact absurd F.o (by simp)
  subst hpe
  go_quiet ((go_at_call 172;exact Calls.quiet_of_same (BU _ _)))
  obtain ⟨dl,dj,dh,df,dc,da,c8,cy,ez,ey⟩:=Db (n:=nq) dm dk di dg dd db a8 cz ax bs;obtain ⟨ex,ew,ev,eu,et,es,er,fh,fg,ff⟩:=Db (n:=nq) aw bp bm bk av bh bf cv cu cr;obtain ⟨fe,fb,e9⟩:=cn3 (n:=nq) cp cn ck;have cg:=below_drewN t nq;clear dm dk di dg dd db a8 cz ax bs aw bp bm bk av bh bf cv cu cr cp cn ck bu;go_wp2_with fail;have cc:=HA.o;obtain ⟨ij,iw,iv,ca,cb⟩:=cc;injection ca with a1 a2 a3;subst a1 a3;have fw:=Aa cb;clear cb a2;have ch:=cg;go_loopw [138] (fun i wr=>∃ n:Nat,n<=al/\i=zd U n/\(∀ a∈das.take n,AF vn K a=0)/\(wr.cell? ⟨w.heap.size,0,none⟩=some (zd U m)/\wr.cell? ⟨w.heap.size,1,none⟩=some (O ga gn gc)/\wr.cell? ⟨w.heap.size,2,none⟩=some (O sa sn sc)/\wr.cell? ⟨w.heap.size,3,none⟩=some (O ya yn yc)/\wr.cell? ⟨w.heap.size,4,none⟩=some (O oa on oc)/\wr.cell? ⟨w.heap.size,5,none⟩=some (O va vn vc)/\wr.cell? ⟨w.heap.size,6,none⟩=some (O (some ⟨b,off,none⟩) fs.length fc)/\wr.cell? ⟨w.heap.size,7,none⟩=some (O ba bn bc))/\Ov w wr) (fun i _=>al - (intOf i).toNat)
  case atStart=>exact ⟨0,Nat.zero_le _,rfl,by simp,⟨dl,dj,dh,df,dc,da,c8,cy⟩,ch⟩
  case round=>
   clear cg ch dl dj dh df dc da c8 cy ez ey ex ew ev eu et es er fh fg ff fe fb e9;obtain ⟨n,hn,rfl,b4,⟨d0,d1,d2,d3,d4,d5,d6,d7⟩,R⟩:=hrel;have dy:=Aa b4;clear b4;by_cases hnl:n < al
   ·have M:n < das.length:=by have:=d9.o;omega
    obtain ⟨bb,oo,rfl,an⟩:=fw.o (by rintro rfl;simp at M);obtain ⟨iu,ce,s,G⟩:=an n das[n] (List.getElem?_eq_getElem M);have bz:das.take (n+1)=das.take n++[das[n]]:=List.take_succ_eq_append_getElem M;have du:=Aa bz;have d8:=Aa (List.getElem_mem M);obtain ⟨ep,eo,bv⟩:=G.form;obtain ⟨dn,b9⟩:=nm (das[n]);rw [<-b9] at G bv du d8;subst bv;obtain ⟨fj,am⟩:=nm (AD dn);obtain ⟨fi,ak⟩:=nm (A5 dn);obtain ⟨em,ag⟩:=nm ((AC dn).length);rw [<-am,<-ak,<-ag] at G s;have g0:wr.cell? ⟨bb,oo+n*3,none⟩=_:=Ab R _ _ (s 0 _ rfl);have g1:=Ab R _ _ (s 1 _ rfl);have g2:=Ab R _ _ (s 2 _ rfl);have a4:=bA wr (ze #[zd U fj,zd U fi,O ep em eo] 94);have P:=R.trans (a4.mono R.size);have K6:=Aa (Cd K m ga gn gc sa sn sc ya yn yc oa on oc va vn vc (some ⟨b,off,none⟩) fs.length fc ba bn bc _ dn _ (G.over P) hv);obtain ⟨f0,f1,f2,f3,f4,f5,f6,f7⟩:=co8 a4 d0 d1 d2 d3 d4 d5 d6 d7;clear s an ce bz b9 am ak ag G;go_wp2_with fail;refine (K6.o).mono ?_;rintro e w6 ⟨c,a5⟩;have cj:=P.trans (a5.mono P.size);rcases c with ⟨b8,rfl⟩ | ⟨aj,eq,bw,rfl⟩;rotate_left
    ·have y:=Aa (N4.o (fun hd=>aj (hd.2 _ d8.o)))
     clear aj;unfold Az;go_wp2_with fail;exact ⟨rfl,Or.inr ⟨y.o,eq,bw,rfl⟩,cj⟩
    obtain ⟨t0,t1,t2,t3,t4,t5,t6,t7⟩:=co8 a5 f0 f1 f2 f3 f4 f5 f6 f7;have C:∀ a∈das.take (n+1),AF vn K a=0:=fun a ha=>by
     rw [du.o,List.mem_append,List.mem_singleton] at ha;rcases ha with ha | rfl
     ·exact dy.o a ha
     ·exact b8
    have ft:=Aa C;clear C b8 a5 P a4 R K6 d0 f0 d1 f1 d2 f2 d3 f3 d4 f4 d5 f5 d6 f6 d7 f7 g0 g1 g2;go_wp2_with fail;exact ⟨⟨n+1,by omega,by go_num,ft.o,⟨t0,t1,t2,t3,t4,t5,t6,t7⟩,cj⟩,by simp [intOf];omega⟩
   ·have aq:das.take n=das:=List.take_of_length_le (by have:=d9.o;omega)
    have B:=dy.o;rw [aq] at B;have dx:=Aa B;clear B aq;go_wp2_with fail;go_end0;refine ⟨Or.inl ⟨HQ.o ⟨dt.o,dw.o,⟨fp.o,fo.o,fq.o⟩,⟨fun f hf=>?_,dx.o⟩,?_,?_⟩,rfl⟩,R⟩;rotate_left
    ·have hq:=ds.o;simp at hq;omega
    ·have hq:=dr.o;simp at hq;omega
    have h1:=au.o;simp only [Int.toNat_natCast] at hf;rw [h1] at hf;rw [<-Option.some.inj hf];exact dv.o.symm
def Sh (d:D):Prop:=
 ((Af d=4\/Af d=7\/Af d=8)->Ax d=0)/\((Af d=1\/Af d=5\/Af d=6\/Af d=7\/Af d=8)->Ae d=0)/\((Af d=2\/Af d=3)->A5 (Ao d)=0)/\(Af d≠2->Al d=[])/\((Af d≠7/\Af d≠8)->Ag d=[])/\(Af d≠7->Ak d=[])
def xS1 (K:Nat) (nv ni no:Nat) (funcs:Int) (fs:List FnD) (d:D):Prop:=Cs K nv ni no funcs fs d/\Sh d
def xS (K:Nat) (nv ni no:Nat) (funcs:Int) (fs:List FnD):Nat->D->Prop
 | 0,_=>False
 | k+1,d=>xS1 K nv ni no funcs fs d/\(∀ s∈Ag d,xS K nv ni no funcs fs k s)/\∀ s∈Ak d,xS K nv ni no funcs fs k s
theorem xS.ok {K nv ni no:Nat} {funcs:Int} {fs:List FnD}:∀ {k:Nat} {d:D},xS K nv ni no funcs fs k d->okS K nv ni no funcs fs k d
 | 0,_,h=>h
 | k+1,d,h=>⟨h.1.1,fun s hs=>xS.ok (h.2.1 s hs),fun s hs=>xS.ok (h.2.2 s hs)⟩
theorem J3 {α:Type} {l:List α}:l.length=0 ↔ l=[]:=List.length_eq_zero_iff
theorem N7 (kd:Int) (hk:¬ (1<=kd/\kd<=8)) (funcs:Int) (m:Int) (ga gn gc sa sn sc ya yn yc oa on oc va vn vc fa fn fc ba bn bc) (vr ot ek en:Int) (xa xl xc aa al ac ta tl tc ea el ec) (w:World) :
  Calls Tryz.prog 220 #[zh #[zd U m,O ga gn gc,O sa sn sc,O ya yn yc,O oa on oc,O va vn vc,O fa fn fc,O ba bn bc],zh #[zd U kd,zd U vr,zd U ot,zd U ek,zd U en,O xa xl xc,O aa al ac,O ta tl tc,O ea el ec],zd U funcs] w (Dc False w):=by
 have p:=Aa (JA kd hk);have l:=Aa BZ;have b:Ov w ((w.alloc (ze #[zd U m,O ga gn gc,O sa sn sc,O ya yn yc,O oa on oc,O va vn vc,O fa fn fc,O ba bn bc] 184)).alloc (ze #[zd U kd,zd U vr,zd U ot,zd U ek,zd U en,O xa xl xc,O aa al ac,O ta tl tc,O ea el ec] 130)):=(bA w _).alloc (by simp) _;clear hk;go_enter Tryz.func220,Tryz.ntmps220;go_wp2_with fail;refine (p.o _).mono ?_;rintro e k ⟨rfl,d⟩;have f:=b.trans (d.mono b.size);have i:=f.trans ((bA k (ze #[zg false,zg false,zg false,zg false,zg false,zg false] 288)).mono f.size);clear d b;go_wp2_with fail;refine (l.o _ _ _).mono ?_;rintro e q ⟨c,rfl⟩;have g:e=Az 7:=by
  rcases c with ⟨c,_⟩ | ⟨_,c⟩
  ·cases c
  ·exact c
 subst g;clear c;unfold Az;go_wp2_with fail;exact ⟨rfl,Or.inr ⟨fun h=>h,7,by decide,rfl⟩,i⟩
theorem KH (K k kf:Nat) (fs) (funcs:Int) (m:Int) (ga gn gc sa sn sc) (ya:Option Addr) (yn yc:Nat) (oa:Option Addr) (on oc:Nat) (va:Option Addr) (vn vc:Nat) (fa fn fc ba bn bc) (cs:List Value) (d) (w:World) (hv:vn<=9223372036854775807) (h0f:0<=funcs) (h1f:funcs<=9223372036854775807) (hyl:yn<=9223372036854775807) (hol:on<=9223372036854775807)
  (hs:RS w K (k+1) cs d) (hfs:Bi w K kf (O fa fn fc) fs) (hff:funcs<=fs.length) :
  Calls Tryz.prog 220 #[zh #[zd U m,O ga gn gc,O sa sn sc,O ya yn yc,O oa on oc,O va vn vc,O fa fn fc,O ba bn bc],.agg cs.toArray,zd U funcs] w (Dc (xS1 K vn yn on funcs fs d) w):=by
 obtain ⟨p,l,f,b,c,u,t,i,g,s,q,rfl,L,F,E,A,B,-,-,J,I,G⟩:=hs.form;unfold xS1 Cs Sh;by_cases hk:1<=Af d/\Af d<=8
 ·rcases (by omega:Af d=1\/Af d=2\/Af d=3\/Af d=4\/Af d=5\/Af d=6\/Af d=7\/Af d=8) with h | h | h | h | h | h | h | h
  ·have H:=Rp K kf fs (Ao d) (Al d) funcs m ga gn gc sa sn sc ya yn yc oa on oc va vn vc fa fn fc ba bn bc (Ax d) (Ae d) p l f b c u (Al d).length t i (Ag d).length g s (Ak d).length q w hv F E h0f h1f hyl hol A B hfs hff
   have e:(sC (Af d) (Ax d) (Ae d) p l f b c u (Al d).length t i (Ag d).length g s (Ak d).length q).toArray=#[zd U 1,zd U (Ax d),zd U (Ae d),zd U p,zd U l,O f b c,O u (Al d).length t,O i (Ag d).length g,O s (Ak d).length q]:=by rw [h]
   rw [e];exact H.mono fun e C z=>z.imp (by simp only [J3,h];first | (constructor <;> (intro y;simp at y ⊢;simp_all)) | skip)
  ·have H:=Ro K kf fs (Ao d) (Al d) funcs m ga gn gc sa sn sc ya yn yc oa on oc va vn vc fa fn fc ba bn bc (Ax d) (Ae d) p l f b c u (Al d).length t i (Ag d).length g s (Ak d).length q w hv F E h0f h1f hyl hol A B hfs hff
   have e:(sC (Af d) (Ax d) (Ae d) p l f b c u (Al d).length t i (Ag d).length g s (Ak d).length q).toArray=#[zd U 2,zd U (Ax d),zd U (Ae d),zd U p,zd U l,O f b c,O u (Al d).length t,O i (Ag d).length g,O s (Ak d).length q]:=by rw [h]
   rw [e];exact H.mono fun e C z=>z.imp (by simp only [J3,J,I,G,h];first | (constructor <;> (intro y;simp at y ⊢;simp_all)) | skip)
  ·have H:=Rn K kf fs (Ao d) (Al d) funcs m ga gn gc sa sn sc ya yn yc oa on oc va vn vc fa fn fc ba bn bc (Ax d) (Ae d) p l f b c u (Al d).length t i (Ag d).length g s (Ak d).length q w hv F E h0f h1f hyl hol A B hfs hff
   have e:(sC (Af d) (Ax d) (Ae d) p l f b c u (Al d).length t i (Ag d).length g s (Ak d).length q).toArray=#[zd U 3,zd U (Ax d),zd U (Ae d),zd U p,zd U l,O f b c,O u (Al d).length t,O i (Ag d).length g,O s (Ak d).length q]:=by rw [h]
   rw [e];exact H.mono fun e C z=>z.imp (by simp only [J3,J,I,G,h];first | (constructor <;> (intro y;simp at y ⊢;simp_all)) | skip)
  ·have H:=Rm K kf fs (Ao d) (Al d) funcs m ga gn gc sa sn sc ya yn yc oa on oc va vn vc fa fn fc ba bn bc (Ax d) (Ae d) p l f b c u (Al d).length t i (Ag d).length g s (Ak d).length q w hv F E h0f h1f hyl hol A B hfs hff
   have e:(sC (Af d) (Ax d) (Ae d) p l f b c u (Al d).length t i (Ag d).length g s (Ak d).length q).toArray=#[zd U 4,zd U (Ax d),zd U (Ae d),zd U p,zd U l,O f b c,O u (Al d).length t,O i (Ag d).length g,O s (Ak d).length q]:=by rw [h]
   rw [e];exact H.mono fun e C z=>z.imp (by simp only [J3,h];first | (constructor <;> (intro y;simp at y ⊢;simp_all)) | skip)
  ·have H:=Rl K kf fs (Ao d) (Al d) funcs m ga gn gc sa sn sc ya yn yc oa on oc va vn vc fa fn fc ba bn bc (Ax d) (Ae d) p l f b c u (Al d).length t i (Ag d).length g s (Ak d).length q w hv F E h0f h1f hyl hol A B hfs hff
   have e:(sC (Af d) (Ax d) (Ae d) p l f b c u (Al d).length t i (Ag d).length g s (Ak d).length q).toArray=#[zd U 5,zd U (Ax d),zd U (Ae d),zd U p,zd U l,O f b c,O u (Al d).length t,O i (Ag d).length g,O s (Ak d).length q]:=by rw [h]
   rw [e];exact H.mono fun e C z=>z.imp (by simp only [J3,h];first | (constructor <;> (intro y;simp at y ⊢;simp_all)) | skip)
  ·have H:=Rk K kf fs (Ao d) (Al d) funcs m ga gn gc sa sn sc ya yn yc oa on oc va vn vc fa fn fc ba bn bc (Ax d) (Ae d) p l f b c u (Al d).length t i (Ag d).length g s (Ak d).length q w hv F E h0f h1f hyl hol A B hfs hff
   have e:(sC (Af d) (Ax d) (Ae d) p l f b c u (Al d).length t i (Ag d).length g s (Ak d).length q).toArray=#[zd U 6,zd U (Ax d),zd U (Ae d),zd U p,zd U l,O f b c,O u (Al d).length t,O i (Ag d).length g,O s (Ak d).length q]:=by rw [h]
   rw [e];exact H.mono fun e C z=>z.imp (by simp only [J3,h];first | (constructor <;> (intro y;simp at y ⊢;simp_all)) | skip)
  ·have H:=Rj K kf fs (Ao d) (Al d) funcs m ga gn gc sa sn sc ya yn yc oa on oc va vn vc fa fn fc ba bn bc (Ax d) (Ae d) p l f b c u (Al d).length t i (Ag d).length g s (Ak d).length q w hv F E h0f h1f hyl hol A B hfs hff
   have e:(sC (Af d) (Ax d) (Ae d) p l f b c u (Al d).length t i (Ag d).length g s (Ak d).length q).toArray=#[zd U 7,zd U (Ax d),zd U (Ae d),zd U p,zd U l,O f b c,O u (Al d).length t,O i (Ag d).length g,O s (Ak d).length q]:=by rw [h]
   rw [e];exact H.mono fun e C z=>z.imp (by simp only [J3,h];first | (constructor <;> (intro y;simp at y ⊢;simp_all)) | skip)
  ·have H:=Ri K kf fs (Ao d) (Al d) funcs m ga gn gc sa sn sc ya yn yc oa on oc va vn vc fa fn fc ba bn bc (Ax d) (Ae d) p l f b c u (Al d).length t i (Ag d).length g s (Ak d).length q w hv F E h0f h1f hyl hol A B hfs hff
   have e:(sC (Af d) (Ax d) (Ae d) p l f b c u (Al d).length t i (Ag d).length g s (Ak d).length q).toArray=#[zd U 8,zd U (Ax d),zd U (Ae d),zd U p,zd U l,O f b c,O u (Al d).length t,O i (Ag d).length g,O s (Ak d).length q]:=by rw [h]
   rw [e];exact H.mono fun e C z=>z.imp (by simp only [J3,h];first | (constructor <;> (intro y;simp at y ⊢;simp_all)) | skip)
 ·exact (N7 (Af d) hk funcs m ga gn gc sa sn sc ya yn yc oa on oc va vn vc fa fn fc ba bn bc (Ax d) (Ae d) p l f b c u (Al d).length t i (Ag d).length g s (Ak d).length q w).mono fun e C z=>z.imp ⟨fun y=>y.elim,fun y=>hk y.1.1⟩
theorem GG (K kf:Nat) (fs:List FnD) (funcs:Int) (m:Int) (ga gn gc sa sn sc) (ya:Option Addr) (yn yc:Nat) (oa:Option Addr) (on oc:Nat) (va:Option Addr) (vn vc:Nat) (fa fn fc) (ba bn bc) (hv:vn<=9223372036854775807) (h0f:0<=funcs) (h1f:funcs<=9223372036854775807) (hyl:yn<=9223372036854775807) (hol:on<=9223372036854775807) (hff:funcs<=fs.length):∀ (k:Nat) (v:Value) (l:List D) (w:World),AI w K k v l->Bi w K kf (O fa fn fc) fs ->
  Calls Tryz.prog 177 #[zh #[zd U m,O ga gn gc,O sa sn sc,O ya yn yc,O oa on oc,O va vn vc,O fa fn fc,O ba bn bc],v,zd U funcs] w (Dc (∀ s∈l,xS K vn yn on funcs fs k s) w):=by
 intro k
 induction k with
 | zero=>
  intro v l w h hf;obtain rfl:=h.zero;obtain ⟨-,ao,ah,rfl,-⟩:=h;have t:Ov w (w.alloc (ze #[zd U m,O ga gn gc,O sa sn sc,O ya yn yc,O oa on oc,O va vn vc,O fa fn fc,O ba bn bc] 184)):=bA w _;show Calls Tryz.prog 177 #[zh #[zd U m,O ga gn gc,O sa sn sc,O ya yn yc,O oa on oc,O va vn vc,O fa fn fc,O ba bn bc],O ao 0 ah,zd U funcs] w _;clear hf;go_enter Tryz.func177,Tryz.ntmps177;go_wp2_with fail;go_loopw [10] (fun i wr=>i=zd U 0/\Ov w wr) (fun _ _=>0)
  case atStart=>exact ⟨rfl,t⟩
  case round=>
   obtain ⟨rfl,q⟩:=hrel;go_wp2_with fail;go_end0;exact ⟨Or.inl ⟨by simp,rfl⟩,q⟩
 | succ k ih=>
  intro v l w h hf;have b1:l.length<=9223372036854775807:=h.1;obtain ⟨ao,ah,rfl,hc⟩:=h.2;have HC:=Aa hc;have HF:=Aa hf;have IH:=Aa ih;have KS:=Aa fun cs d W (P:RS W K (k+1) cs d) (a3:Bi W K (max kf (k+1)) (O fa fn fc) fs)=>KH K k (max kf (k+1)) fs funcs m ga gn gc sa sn sc ya yn yc oa on oc va vn vc fa fn fc ba bn bc cs d W hv h0f h1f hyl hol P a3 hff;clear hc ih h hf;have t:Ov w (w.alloc (ze #[zd U m,O ga gn gc,O sa sn sc,O ya yn yc,O oa on oc,O va vn vc,O fa fn fc,O ba bn bc] 184)):=bA w _;obtain ⟨c0,c1,c2,c3,c4,c5,c6,c7⟩:=rc8 (AP w [zd U m,O ga gn gc,O sa sn sc,O ya yn yc,O oa on oc,O va vn vc,O fa fn fc,O ba bn bc] 184);go_enter Tryz.func177,Tryz.ntmps177;go_wp2_with fail;go_loopw [10] (fun i wr=>∃ j:Nat,j<=l.length/\i=zd U j/\(∀ s∈l.take j,xS K vn yn on funcs fs (k+1) s)/\(wr.cell? ⟨w.heap.size,0,none⟩=some (zd U m)/\wr.cell? ⟨w.heap.size,1,none⟩=some (O ga gn gc)/\wr.cell? ⟨w.heap.size,2,none⟩=some (O sa sn sc)/\wr.cell? ⟨w.heap.size,3,none⟩=some (O ya yn yc)/\wr.cell? ⟨w.heap.size,4,none⟩=some (O oa on oc)/\wr.cell? ⟨w.heap.size,5,none⟩=some (O va vn vc)/\wr.cell? ⟨w.heap.size,6,none⟩=some (O fa fn fc)/\wr.cell? ⟨w.heap.size,7,none⟩=some (O ba bn bc))/\Ov w wr) (fun i _=>l.length - (intOf i).toNat)
  case atStart=>exact ⟨0,Nat.zero_le _,rfl,by simp,⟨c0,c1,c2,c3,c4,c5,c6,c7⟩,t⟩
  case round=>
   clear c0 c1 c2 c3 c4 c5 c6 c7 t;obtain ⟨j,hj,rfl,Y,⟨c0,c1,c2,c3,c4,c5,c6,c7⟩,q⟩:=hrel;have aw:=Aa Y;clear Y;by_cases hjl:j < l.length
   ·obtain ⟨b,off,rfl,ae⟩:=HC.o (by rintro rfl;simp at hjl)
    obtain ⟨cs,a2,f,R⟩:=ae j l[j] (List.getElem?_eq_getElem hjl);have F:l.take (j+1)=l.take j++[l[j]]:=List.take_succ_eq_append_getElem hjl;obtain ⟨d,hd⟩:=nm (l[j]);have G:=List.getElem_mem hjl;rw [<-hd] at R F G;have N:=Aa G;clear G;have a9:=Aa F;obtain ⟨ek,en,xa,xl,xc,aa,ac,ta,tc,ea,ec,ad,-,-,-,-,-,hT,hE,-,-,-⟩:=R.form;subst ad;obtain ⟨kd,Z⟩:=nm (Af d);obtain ⟨vr,Q⟩:=nm (Ax d);obtain ⟨ot,X⟩:=nm (Ae d);obtain ⟨al,af⟩:=nm ((Al d).length);obtain ⟨tl,E⟩:=nm ((Ag d).length);obtain ⟨el,H⟩:=nm ((Ak d).length);rw [<-Z,<-Q,<-X,<-af,<-E,<-H] at f R;rw [<-E] at hT;rw [<-H] at hE;have q0:wr.cell? ⟨b,off+j*9,none⟩=_:=Ab q _ _ (f 0 _ rfl);have q1:=Ab q _ _ (f 1 _ rfl);have q2:=Ab q _ _ (f 2 _ rfl);have q3:=Ab q _ _ (f 3 _ rfl);have q4:=Ab q _ _ (f 4 _ rfl);have q5:=Ab q _ _ (f 5 _ rfl);have q6:=Ab q _ _ (f 6 _ rfl);have q7:=Ab q _ _ (f 7 _ rfl);have q8:=Ab q _ _ (f 8 _ rfl);have I:Ov wr (wr.alloc (ze #[zd U kd,zd U vr,zd U ot,zd U ek,zd U en,O xa xl xc,O aa al ac,O ta tl tc,O ea el ec] 130)):=bA wr _;have A:=q.trans (I.mono q.size);obtain ⟨f0,f1,f2,f3,f4,f5,f6,f7⟩:=co8 I c0 c1 c2 c3 c4 c5 c6 c7;obtain ⟨s0,s1,s2,s3,s4,s5,s6,s7,s8⟩:=rc9 (AP wr [zd U kd,zd U vr,zd U ot,zd U ek,zd U en,O xa xl xc,O aa al ac,O ta tl tc,O ea el ec] 130);have K1:=Aa (KS.o _ d _ (RS.mono (Ab A) (k+1) (k+1) _ d (Nat.le_refl _) R) ((HF.o.over A).mono (Nat.le_max_left _ _)));have K2:=Aa fun W (hW:Ov w W)=>IH.o (O ta tl tc) (Ag d) W (hT.over hW) (HF.o.over hW);have K3:=Aa fun W (hW:Ov w W)=>IH.o (O ea el ec) (Ak d) W (hE.over hW) (HF.o.over hW);clear hT hE f ae R a2 Z Q X af E H hd F;go_wp2_with fail;refine (K1.o).mono ?_;rintro e w1 ⟨he,M⟩;have C:=A.trans (M.mono A.size);rcases he with ⟨V,rfl⟩ | ⟨p,u,g,rfl⟩;rotate_left
    ·have HN:=Aa (fun c:∀ s∈l,xS K vn yn on funcs fs (k+1) s=>p (c d N.o).1)
     clear p;unfold Az;go_wp2_with fail;exact ⟨rfl,Or.inr ⟨HN.o,u,g,rfl⟩,C⟩
    have bd:=Aa V;obtain ⟨t7,t8,g0,g1,g2,g3,g4,g5,g6,g7⟩:=CY M s7 s8 f0 f1 f2 f3 f4 f5 f6 f7;have au:=Aa (K2.o w1 C);clear K1 K2 V M A I q c0 c1 c2 c3 c4 c5 c6 c7 f0 f1 f2 f3 f4 f5 f6 f7 q0 q1 q2 q3 q4 q5 q6 q7 q8 s0 s1 s2 s3 s4 s5 s6 s7 s8;go_wp2_with fail;refine (au.o).mono ?_;rintro e w2 ⟨he,L⟩;have B:=C.trans (L.mono C.size);rcases he with ⟨T,rfl⟩ | ⟨p,u,g,rfl⟩;rotate_left
    ·have HN:=Aa (fun c:∀ s∈l,xS K vn yn on funcs fs (k+1) s=>p (c d N.o).2.1)
     clear p;unfold Az;go_wp2_with fail;exact ⟨rfl,Or.inr ⟨HN.o,u,g,rfl⟩,B⟩
    have bb:=Aa T;obtain ⟨u8,r0,r1,r2,r3,r4,r5,r6,r7⟩:=co9 L t8 g0 g1 g2 g3 g4 g5 g6 g7;have ar:=Aa (K3.o w2 B);clear au K3 T L C g0 g1 g2 g3 g4 g5 g6 g7 t7 t8;go_wp2_with fail;refine (ar.o).mono ?_;rintro e w3 ⟨he,J⟩;have ag:=B.trans (J.mono B.size);rcases he with ⟨S,rfl⟩ | ⟨p,u,g,rfl⟩;rotate_left
    ·have HN:=Aa (fun c:∀ s∈l,xS K vn yn on funcs fs (k+1) s=>p (c d N.o).2.2)
     clear p;unfold Az;go_wp2_with fail;exact ⟨rfl,Or.inr ⟨HN.o,u,g,rfl⟩,ag⟩
    obtain ⟨z0,z1,z2,z3,z4,z5,z6,z7⟩:=co8 J r0 r1 r2 r3 r4 r5 r6 r7;have z:∀ s∈l.take (j+1),xS K vn yn on funcs fs (k+1) s:=fun s P=>by
     rw [a9.o,List.mem_append,List.mem_singleton] at P;rcases P with P | rfl
     ·exact aw.o s P
     ·exact ⟨bd.o,bb.o,S⟩
    have be:=Aa z;clear z S ar J B r0 r1 r2 r3 r4 r5 r6 r7 u8;go_wp2_with fail;exact ⟨⟨j+1,by omega,by go_num,be.o,⟨z0,z1,z2,z3,z4,z5,z6,z7⟩,ag⟩,by simp [intOf];omega⟩
   ·have c:l.take j=l:=List.take_of_length_le (by omega)
    have y:=aw.o;rw [c] at y;have av:=Aa y;clear y c;go_wp2_with fail;go_end0;exact ⟨Or.inl ⟨av.o,rfl⟩,q⟩
theorem Nl (vs) (x:Int) (v:Value) (w:World) (hv:AQ w v vs) (hl:vs.length<=9223372036854775807) :
  Calls Tryz.prog 242 #[v,zd U x] w fun e w'=>∃ r:Int,e=zk (zd U r)/\(-1<=r/\(0<=r ↔ x∈vs))/\∃ n,w'=w.drewN n:=by
 obtain ⟨A,s,rfl,f⟩:=hv;have l:=Aa f;clear f;go_enter Tryz.func242,Tryz.ntmps242;go_wp2_with fail;go_loopw [8] (fun i wr=>∃ k:Nat,k<=vs.length/\i=zd U k/\Hx (x ∉ vs.take k)/\∃ n,wr=w.drewN n) (fun i _=>vs.length - (intOf i).toNat)
 case atStart=>exact ⟨0,Nat.zero_le _,rfl,Aa (by simp),0,rfl⟩
 case round=>
  obtain ⟨k,hk,rfl,p,n,rfl⟩:=hrel;by_cases hkl:k < vs.length
  ·obtain ⟨b,off,rfl,d⟩:=l.o (by rintro rfl;simp at hkl)
   have q:=d k hkl;obtain ⟨y,g⟩:=nm (vs[k]);rw [<-g] at q;have u:Hx (y∈vs):=Aa (by rw [g];exact List.getElem_mem hkl);have t:Hx (vs.take (k+1)=vs.take k++[y]):=Aa (by rw [g];exact List.take_succ_eq_append_getElem hkl);clear d g;by_cases hxy:x=y
   ·subst hxy
    go_wp2_with fail;go_ret;exact ⟨(k:Int),rfl,⟨by omega,fun _=>u.o,fun _=>by omega⟩,n,rfl⟩
   ·have z:(x == y)=false:=by simpa using hxy
    have c:Hx (x ∉ vs.take (k+1)):=Aa (by rw [t.o];simp [hxy];exact p.o);go_wp2_with fail;exact ⟨⟨k+1,by omega,by go_num,c,n,rfl⟩,by simp [intOf];omega⟩
  ·have c:Hx (x ∉ vs):=Aa (by have:=p.o;rw [List.take_of_length_le (by omega)] at this;exact this)
   go_wp2_with fail;go_ret;exact ⟨-1,rfl,⟨by omega,fun h=>absurd h (by omega),fun h=>absurd h c.o⟩,n,rfl⟩
theorem FI (vs) (x:Int) (v:Value) (w:World) (hv:AQ w v vs) (hl:vs.length<=9223372036854775807) :
  Calls Tryz.prog 218 #[v,zd U x] w fun e w'=>e=zk (zg (decide (x∈vs)))/\∃ n,w'=w.drewN n:=by
 have d:=Aa (Nl vs x v w hv hl);obtain ⟨l,g,rfl,-⟩:=hv;go_enter Tryz.func218,Tryz.ntmps218;go_wp2_with fail;refine (d.o).mono ?_;rintro e k ⟨r,rfl,c,n,rfl⟩;clear d;have i:=Aa c;clear c;go_wp2_with fail;go_ret;refine ⟨?_,n,rfl⟩;have:=i.o;by_cases h:x∈vs
 ·have b:0<=r:=this.2.2 h
  simp [h,b]
 ·have b:¬ 0<=r:=fun f=>h (this.2.1 f)
  simp [h,b]
def xF (K:Nat) (nv ni no:Nat) (ahead:Int) (fs:List FnD) (k:Nat) (f:FnD):Prop:=
 f.ps.length<=4/\(∀ p∈f.ps,0<=p/\p < nv)/\(∀ i (h:i < f.ps.length),f.ps[i] ∉ f.ps.take i)/\(∀ s∈f.body,xS K nv ni no ahead fs k s)/\AF nv K f.res=0
theorem xF.ok {K nv ni no:Nat} {ahead:Int} {fs:List FnD} {k:Nat} {f:FnD} (h:xF K nv ni no ahead fs k f):okF K nv ni no ahead fs k f:=⟨h.1,h.2.1,fun s hs=>(h.2.2.2.1 s hs).ok,h.2.2.2.2⟩
abbrev QK (w:World) (m:Int) (ga:Option Addr) (gn gc:Nat) (sa:Option Addr) (sn sc:Nat) (ya:Option Addr) (yn yc:Nat) (oa:Option Addr) (on oc:Nat) (va:Option Addr) (vn vc:Nat) (fa:Option Addr) (fn fc:Nat) (ba:Option Addr) (bn bc:Nat) (pa:Option Addr) (pn pc:Nat) (za:Option Addr) (zn zc:Nat) (ek en:Int) (xa:Option Addr) (xl xc:Nat) (Wz:World):Prop:=Wz.cell? ⟨w.heap.size,0,none⟩=some (zd U m)/\CE Wz w.heap.size 1 (O ga gn gc)/\CE Wz w.heap.size 2 (O sa sn sc)/\CE Wz w.heap.size 3 (O ya yn yc)/\CE Wz w.heap.size 4 (O oa on oc)/\CE Wz w.heap.size 5 (O va vn vc)/\CE Wz w.heap.size 6 (O fa fn fc)/\CE Wz w.heap.size 7 (O ba bn bc)/\CE Wz (w.heap.size+1) 0 (O pa pn pc)/\CE Wz (w.heap.size+1) 1 (O za zn zc)/\CE Wz (w.heap.size+1) 2 (zd U ek)/\CE Wz (w.heap.size+1) 3 (zd U en)/\CE Wz (w.heap.size+1) 4 (O xa xl xc)
theorem H6 (K kf k:Nat) (fs:List FnD) (f:FnD) (funcs:Int) (m:Int) (ga gn gc sa sn sc) (ya:Option Addr) (yn yc:Nat) (oa:Option Addr) (on oc:Nat) (va:Option Addr) (vn vc:Nat) (fa fn fc ba bn bc pa pn pc za zn zc) (ek en:Int) (xa xl xc) (w:World)
  (hv:vn<=9223372036854775807) (h0f:0<=funcs) (h1f:funcs<=9223372036854775807) (hyl:yn<=9223372036854775807) (hol:on<=9223372036854775807) (hff:funcs<=fs.length)
  (hp:AQ w (O pa pn pc) f.ps) (hpl:f.ps.length<=maxLen) (hpc:pn<=pc/\pc<=maxLen) (hs:AI w K k (O za zn zc) f.body) (hx:RX w K [zd U ek,zd U en,O xa xl xc] f.res) (hfs:Bi w K kf (O fa fn fc) fs) :
  Calls Tryz.prog 176 #[zh #[zd U m,O ga gn gc,O sa sn sc,O ya yn yc,O oa on oc,O va vn vc,O fa fn fc,O ba bn bc],zh #[O pa pn pc,O za zn zc,zd U ek,zd U en,O xa xl xc],zd U funcs] w (Dc (xF K vn yn on funcs fs k f) w):=by
 have K1:=Aa BZ;have K2:=Aa Bq;have KS:=Aa fun W (g:Ov w W)=>GG K kf fs funcs m ga gn gc sa sn sc ya yn yc oa on oc va vn vc fa fn fc ba bn bc hv h0f h1f hyl hol hff k (O za zn zc) f.body W (hs.over g) (hfs.over g);have KX:=Aa fun W (g:Ov w W)=>Cd K m ga gn gc sa sn sc ya yn yc oa on oc va vn vc fa fn fc ba bn bc _ f.res W (hx.over g) hv;have KC:=Aa fun W (g:Ov w W) (x:Int) (i:Nat) (hi:i<=pn) (c:Nat)=>FI (f.ps.take i) x (O pa i c) W;have ae:pn=f.ps.length:=by obtain ⟨a2,u,s,-⟩:=hp;injection s
 have HP:=Aa hp;have t:=Aa ae;have bm:pn<=9223372036854775807:=by rw [ae];exact hpl
 obtain ⟨bp,Z⟩:=hpc;have bo:pc<=9223372036854775807:=Z;clear hp hpl hs hx hfs ae Z;have F:Ov w ((w.alloc (ze #[zd U m,O ga gn gc,O sa sn sc,O ya yn yc,O oa on oc,O va vn vc,O fa fn fc,O ba bn bc] 184)).alloc (ze #[O pa pn pc,O za zn zc,zd U ek,zd U en,O xa xl xc] 105)):=(bA w _).alloc (by simp) _;obtain ⟨c0,c1,u,R,Q,P,N,M⟩:=rc8 (Gt w [zd U m,O ga gn gc,O sa sn sc,O ya yn yc,O oa on oc,O va vn vc,O fa fn fc,O ba bn bc] 184 (ze #[O pa pn pc,O za zn zc,zd U ek,zd U en,O xa xl xc] 105));obtain ⟨L,J,I,H,G⟩:=rc5 (Hw w (ze #[zd U m,O ga gn gc,O sa sn sc,O ya yn yc,O oa on oc,O va vn vc,O fa fn fc,O ba bn bc] 184) [O pa pn pc,O za zn zc,zd U ek,zd U en,O xa xl xc] 105);go_enter Tryz.func176,Tryz.ntmps176;go_wp2_with fail;refine (K1.o _ _ _).mono ?_;rintro e wz ⟨s,rfl⟩;rcases s with ⟨l,rfl⟩ | ⟨l,rfl⟩;rotate_left
 ·have X:Hx (¬ xF K vn yn on funcs fs k f):=Aa (fun S=>absurd S.1 (by rw [<-t.o];simp at l;omega))
  clear l;unfold Az;go_wp2_with fail;exact ⟨rfl,Or.inr ⟨X.o,2,by decide,rfl⟩,F⟩
 have ak:pn<=4:=by simp at l;omega
 have bf:Hx (f.ps.length<=4):=by rw [<-t.o];exact ak
 clear l ak;go_wp2_with fail;go_loopw [18] (fun i wr=>∃ n:Nat,n<=pn/\i=zd U n/\(∀ p∈f.ps.take n,0<=p/\p < (vn:Int))/\(QK w m ga gn gc sa sn sc ya yn yc oa on oc va vn vc fa fn fc ba bn bc pa pn pc za zn zc ek en xa xl xc wr)/\Ov w wr) (fun i _=>pn - (intOf i).toNat)
 case atStart=>exact ⟨0,Nat.zero_le _,rfl,by simp,⟨c0,c1,u,R,Q,P,N,M,L,J,I,H,G⟩,F⟩
 case round=>
  clear c0 c1 u R Q P N M L J I H G F;obtain ⟨n,hn,rfl,al,⟨c0,c1,u,R,Q,P,N,M,L,J,I,H,G⟩,g⟩:=hrel;have ag:=Aa al;clear al;by_cases hnl:n < pn
  ·have d:n < f.ps.length:=by rw [<-t.o];exact hnl
   obtain ⟨a2,a4,s,hpc⟩:=HP.o;injection s with e1 e2 e3;subst e1;obtain ⟨b,off,rfl,E⟩:=hpc (by intro h;rw [h] at d;simp at d);have q:=Ab g _ _ (E n d);have ac:f.ps.take (n+1)=f.ps.take n++[f.ps[n]]:=List.take_succ_eq_append_getElem d;obtain ⟨x,hx⟩:=nm (f.ps[n]);have af:=List.getElem_mem d;rw [<-hx] at q ac af;have be:=Aa ac;have bj:=Aa af;clear af;clear hpc E hx ac e2 e3;go_wp2_with fail;refine (K2.o _ _ _).mono ?_;rintro e wz ⟨rfl,rfl⟩;go_wp2_with fail;refine (K1.o _ _ _).mono ?_;rintro e wz ⟨s,rfl⟩;rcases s with ⟨Y,rfl⟩ | ⟨l,rfl⟩;rotate_left
   ·have X:Hx (¬ xF K vn yn on funcs fs k f):=Aa (fun S=>absurd (S.2.1 x bj.o) (by simp at l;omega))
    clear l;unfold Az;go_wp2_with fail;exact ⟨rfl,Or.inr ⟨X.o,5,by decide,rfl⟩,g⟩
   have ai:0<=x/\x < vn:=by simpa using Y
   have am:∀ p∈f.ps.take (n+1),0<=p/\p < (vn:Int):=fun p hp=>by
    rw [be.o,List.mem_append,List.mem_singleton] at hp;rcases hp with hp | rfl
    ·exact ag.o p hp
    ·exact ai
   have bh:=Aa am;clear am ai Y;go_wp2_with fail;exact ⟨⟨n+1,by omega,by go_num,bh.o,⟨c0,c1,u,R,Q,P,N,M,L,J,I,H,G⟩,g⟩,by simp [intOf];omega⟩
  ·have aa:f.ps.take n=f.ps:=List.take_of_length_le (by rw [<-t.o];omega)
   have B:=ag.o;rw [aa] at B;have ay:=Aa B;clear B aa ag;obtain ⟨w1,ah⟩:=nm wr;rw [<-ah] at c0 c1 u R Q P N M L J I H G g ⊢;clear ah;go_wp2_with fail;go_loopw [33] (fun i wr=>∃ n:Nat,n<=pn/\i=zd U n/\Hx (∀ i (h:i < f.ps.length),i < n->f.ps[i] ∉ f.ps.take i)/\(QK w m ga gn gc sa sn sc ya yn yc oa on oc va vn vc fa fn fc ba bn bc pa pn pc za zn zc ek en xa xl xc wr)/\Ov w wr) (fun i _=>pn - (intOf i).toNat)
   case atStart=>exact ⟨0,Nat.zero_le _,rfl,Aa (fun i h hi=>absurd hi (by omega)),⟨c0,c1,u,R,Q,P,N,M,L,J,I,H,G⟩,g⟩
   case round=>
    clear c0 c1 u R Q P N M L J I H G g;obtain ⟨n,hn,rfl,a1,⟨c0,c1,u,R,Q,P,N,M,L,J,I,H,G⟩,g⟩:=hrel;by_cases hnl:n < pn
    ·have d:n < f.ps.length:=by rw [<-t.o];exact hnl
     obtain ⟨a2,a4,s,hpc⟩:=HP.o;injection s with e1 e2 e3;subst e1;have A:=(HP.o.over g);rw [t.o] at A;have z:=A.prefix (i:=n) (by omega) pc;obtain ⟨b,off,rfl,E⟩:=hpc (by intro h;rw [h] at d;simp at d);have q:=Ab g _ _ (E n d);obtain ⟨x,hx⟩:=nm (f.ps[n]);rw [<-hx] at q;have aw:=Aa hx;have bi:=Aa d;have bb:=Aa (FI _ x _ _ z (by simp;omega));clear hpc E hx e2 e3 A z;go_wp2_with fail;refine (bb.o).mono ?_;rintro e w5 ⟨rfl,nd,rfl⟩;obtain ⟨rb,ad⟩:=nm (decide (x∈f.ps.take n));rw [<-ad];have ax:=Aa ad;clear ad;have aq:=below_drewN g nd;go_wp2_with fail;refine (K1.o _ _ _).mono ?_;rintro e wz ⟨s,rfl⟩;rcases s with ⟨l,rfl⟩ | ⟨l,rfl⟩;rotate_left
     ·have X:Hx (¬ xF K vn yn on funcs fs k f):=Aa (fun S=>absurd (S.2.2.1 n bi.o) (by rw [<-aw.o];have hq:=ax.o;simp at l;rw [l] at hq;simpa using hq))
      clear l;unfold Az;go_wp2_with fail;exact ⟨rfl,Or.inr ⟨X.o,6,by decide,rfl⟩,aq⟩
     have a0:Hx (∀ i (h:i < f.ps.length),i < n+1->f.ps[i] ∉ f.ps.take i):=Aa (fun i h hi=>by
      by_cases hin:i=n
      ·subst hin
       rw [<-aw.o];have hq:=ax.o;simp at l;rw [l] at hq;simpa using hq
      ·exact a1.o i h (by omega))
     clear l;go_wp2_with fail;exact ⟨⟨n+1,by omega,by go_num,a0,⟨c0,c1,u,R,Q,P,N,M,L,J,I,H,G⟩,aq⟩,by simp [intOf];omega⟩
    ·have az:Hx (∀ i (h:i < f.ps.length),f.ps[i] ∉ f.ps.take i):=Aa (fun i h=>a1.o i h (by have:=t.o;omega))
     have av:=Aa (KS.o _ g);go_wp2_with fail;refine (av.o).mono ?_;rintro e w6 ⟨s,T⟩;have V:=g.trans (T.mono g.size);rcases s with ⟨ao,rfl⟩ | ⟨C,ab,y,rfl⟩;rotate_left
     ·have X:Hx (¬ xF K vn yn on funcs fs k f):=Aa (fun S=>C S.2.2.2.1)
      clear C;unfold Az;go_wp2_with fail;exact ⟨rfl,Or.inr ⟨X.o,ab,y,rfl⟩,V⟩
     have bl:=Aa ao;obtain ⟨r0,r1,r2,r3,r4,r5,r6,r7,g0,g1⟩:=CY T c0 c1 u R Q P N M L J;obtain ⟨g2,g3,g4⟩:=co3 T I H G;have au:=Aa (KX.o _ V);clear ao T g c0 c1 u R Q P N M L J I H G av;go_wp2_with fail;refine (au.o).mono ?_;rintro e w7 ⟨s,a6⟩;have ar:=V.trans (a6.mono V.size);rcases s with ⟨an,rfl⟩ | ⟨C,ab,y,rfl⟩;rotate_left
     ·have X:Hx (¬ xF K vn yn on funcs fs k f):=Aa (fun S=>C S.2.2.2.2)
      clear C;unfold Az;go_wp2_with fail;exact ⟨rfl,Or.inr ⟨X.o,ab,y,rfl⟩,ar⟩
     have bk:=Aa an;clear an au;go_wp2_with fail;go_end0;exact ⟨Or.inl ⟨⟨bf.o,ay.o,az.o,bl.o,bk.o⟩,rfl⟩,ar⟩
abbrev ND (w:World) (m:Int) (ga:Option Addr) (gn gc:Nat) (va:Option Addr) (vn vc:Nat) (Wz:World):Prop:=Wz.cell? ⟨w.heap.size,0,none⟩=some (zd U m)/\CE Wz w.heap.size 1 (O ga gn gc)/\CE Wz w.heap.size 5 (O va vn vc)
theorem J5 (m:Int) (ga gn gc) (sa sn sc) (ya yn yc oa on oc va vn vc) (fa fn fc ba bn bc gs ls ms vs) (w:World) (hg:AB w (O ga gn gc) gs) (h1:AX w (O ya yn yc) ls) (h2:AX w (O oa on oc) ms) (h3:Bo w (O va vn vc) vs)
  (hy:yn<=5) (ho:on<=5) (hyc:ya=none->yc=0) (hoc:oa=none->oc=0) :
  Calls Tryz.prog 174 #[zh #[zd U m,O ga gn gc,O sa sn sc,O ya yn yc,O oa on oc,O va vn vc,O fa fn fc,O ba bn bc]] w (Dc (Fe m gs (ls++ms) vs) w):=by
 have u:Ov w ((w.alloc (ze #[zd U m,O ga gn gc,O sa sn sc,O ya yn yc,O oa on oc,O va vn vc,O fa fn fc,O ba bn bc] 184)).alloc (ze #[O ya yn yc,O oa on oc] 26)):=(bA w _).alloc (by simp) _;have ac:Ad [O ya yn yc,O oa on oc] ((w.alloc (ze #[zd U m,O ga gn gc,O sa sn sc,O ya yn yc,O oa on oc,O va vn vc,O fa fn fc,O ba bn bc] 184)).alloc (ze #[O ya yn yc,O oa on oc] 26)) (w.heap.size+1):=by
  have r:=Ad.new [O ya yn yc,O oa on oc] 26 (w.alloc (ze #[zd U m,O ga gn gc,O sa sn sc,O ya yn yc,O oa on oc,O va vn vc,O fa fn fc,O ba bn bc] 184));have hs:(w.alloc (ze #[zd U m,O ga gn gc,O sa sn sc,O ya yn yc,O oa on oc,O va vn vc,O fa fn fc,O ba bn bc] 184)).heap.size=w.heap.size+1:=by simp
  rw [hs] at r;exact r
 have K1:=Aa (LS (w.heap.size+1) ya yn yc oa on oc ls ms ((w.alloc (ze #[zd U m,O ga gn gc,O sa sn sc,O ya yn yc,O oa on oc,O va vn vc,O fa fn fc,O ba bn bc] 184)).alloc (ze #[O ya yn yc,O oa on oc] 26)) ac (h1.over u) (h2.over u) hy ho hyc hoc);have KL:=Aa fun (bl:Lab) (pr pw:Value) (W:World) (hW:Ov w W) (H:Au W pr bl.r) (hw:Au W pw bl.w)=>MI m (O ga gn gc) gs pr pw bl W (Aj hg hW) H hw;have KP:=Aa GM;have KM:=Aa BZ;have cp:vn<=9223372036854775807:=by obtain ⟨hm,a,c,C,-⟩:=h3;injection C with X V e3;rw [V];exact hm
 have bb:(ls++ms).length<=10:=by
  obtain ⟨-,a,c,C,-⟩:=h1;injection C with X V e3;obtain ⟨-,a',c',b1,-⟩:=h2;injection b1 with aa c6 c2;simp;omega
 have HV:=Aa h3;have a9:vn=vs.length:=by obtain ⟨hm,a,c,C,-⟩:=h3;injection C
 have bi:=Aa a9;clear a9;have zr:=Gt w [zd U m,O ga gn gc,O sa sn sc,O ya yn yc,O oa on oc,O va vn vc,O fa fn fc,O ba bn bc] 184 (ze #[O ya yn yc,O oa on oc] 26);have c0:=zr 0 _ rfl;have c1:=zr 1 _ rfl;have c3:=zr 3 _ rfl;have c4:=zr 4 _ rfl;have c5:=zr 5 _ rfl;clear zr;clear h1 h2 h3 hg ac;go_enter Tryz.func174,Tryz.ntmps174;go_wp2_with fail;refine (K1.o).mono ?_;rintro e w1 ⟨v,xs,rfl,I,bd,al⟩;have Z:=u.trans (al.mono u.size);obtain ⟨A,z,y⟩:=co3 al c0 c1 c5;obtain ⟨cm,K,ck,af⟩:∃ a n c,v=O a n c:=by
  rcases I.2 with ⟨h,_⟩ | ⟨g,ab,b2,h,_⟩
  ·exact ⟨_,_,_,h⟩
  ·exact ⟨_,_,_,h⟩
 have ag:K=(ls++ms).length:=by
  rcases I.2 with ⟨h,h'⟩ | ⟨g,ab,b2,h,_⟩
  ·rw [af] at h;injection h with X V e3;omega
  ·rw [af] at h;injection h
 subst af;have HO:=Aa I;have bo:=Aa bd;have bj:=Aa ag;have ca:K<=10:=by rw [ag];exact bb
 clear I bd ag al c0 c1 c3 c4 c5 u K1;go_wp2_with fail;go_loopw [17] (fun i wr=>∃ n:Nat,n<=K/\i=zd U n/\(∀ b∈(ls++ms).take n,Bs m gs b=0)/\(ND w m ga gn gc va vn vc wr)/\Ov w1 wr) (fun i _=>K - (intOf i).toNat)
 case atStart=>exact ⟨0,Nat.zero_le _,rfl,by simp,⟨A,z,y⟩,Below.refl _ _⟩
 case round=>
  clear A z y;obtain ⟨n,hn,rfl,l,⟨A,z,y⟩,G⟩:=hrel;have f:=Aa l;clear l;have k:=Z.trans (G.mono Z.size);by_cases hnl:n < K
  ·have ai:n < (ls++ms).length:=by rw [<-bj.o];exact hnl
   obtain ⟨pr,pw,e0,X,H,hw⟩:=bo.o.at n ai;obtain ⟨g,ab,b0,cv,cu,ak⟩:=Li HO.o (by omega);have a0:=Ab G _ _ (ak _ _ e0);have a1:=Ab G _ _ (ak _ _ X);rw [Addr.add_lit,Nat.zero_add] at a0 a1;injection b0 with f1 f2 f3;subst f1;obtain ⟨ra,rn,rc,N⟩:=AR H;obtain ⟨wa,wn,wc,M⟩:=AR hw;subst N M;have d:=bA wr (ze #[O ra rn rc,O wa wn wc] 39);have S:=k.trans (d.mono k.size);have q:=Ac G d;have K2:=Aa (KL.o (ls++ms)[n] _ _ _ S (Ah H q) (Ah hw q));obtain ⟨f0,f1,f5⟩:=co3 d A z y;obtain ⟨cr,E⟩:=nm (Bs m gs (ls++ms)[n]);rw [<-E] at K2;have Y:=Aa E;clear ak H hw e0 X E f2 f3;go_wp2_with fail;refine (K2.o).mono ?_;rintro e w2 ⟨rfl,F⟩;have T:=Ac q F;have R:=Z.trans (T.mono Z.size);obtain ⟨r0,r1,r5⟩:=co3 F f0 f1 f5;clear K2 F S q d G k a0 a1 A z y f0 f1 f5;go_wp2_with fail;refine (KP.o _ _).mono ?_;rintro e wz ⟨C,rfl⟩;rcases C with ⟨s,rfl⟩ | ⟨s,rfl⟩;rotate_left
   ·have L:cr≠0:=by simpa using s
    have HN:Hx (¬ Fe m gs (ls++ms) vs):=Aa (fun h=>L (Y.o.trans (h.1 _ (List.getElem_mem ai))));unfold Az;go_wp2_with fail;exact ⟨rfl,Or.inr ⟨HN.o,cr,L,rfl⟩,R⟩
   have HZ:=Aa (show cr=0 by simpa using s);clear s;go_wp2_with fail;exact ⟨⟨n+1,by omega,by go_num,EF ai f.o (Y.o.symm.trans HZ.o),⟨r0,r1,r5⟩,T⟩,by simp [intOf];omega⟩
  ·obtain ⟨w2,a8⟩:=nm wr
   rw [<-a8] at A z y k ⊢;have ay:=Aa (EG (by rw [<-bj.o];omega) f.o);clear a8 G HO bo f;go_wp2_with fail;go_loopw [32] (fun i wr=>∃ n:Nat,n<=vn/\i=zd U n/\(∀ v∈vs.take n,Bs m gs v.2=0)/\(ND w m ga gn gc va vn vc wr)/\Ov w2 wr) (fun i _=>vn - (intOf i).toNat)
   case atStart=>exact ⟨0,Nat.zero_le _,rfl,by simp,⟨A,z,y⟩,Below.refl _ _⟩
   case round=>
    clear A z y hnl hn;obtain ⟨n,hn,rfl,l,⟨A,z,y⟩,G⟩:=hrel;have f:=Aa l;clear l;have p:=k.trans (G.mono k.size);by_cases hnl:n < vn
    ·obtain ⟨-,ao,ab,C,P⟩:=HV.o.over p
     injection C with X V e3;have ah:vs≠[]:=by intro h;rw [h] at V;simp at V;omega
     obtain ⟨b,off,Q,t⟩:=P ah;have B:n < vs.length:=by omega
     obtain ⟨pr,pw,a0,a1,a2,H,hw⟩:=t n B;have aa:=X.trans Q;subst aa;obtain ⟨kn,J⟩:=nm (vs[n].1);obtain ⟨lb,aj⟩:=nm (vs[n].2);rw [<-J] at a0;rw [<-aj] at H hw;obtain ⟨ra,rn,rc,N⟩:=AR H;obtain ⟨wa,wn,wc,M⟩:=AR hw;subst N M;have bm:=Aa aj;clear J aj P t X V e3 Q;have d:=bA wr (ze #[zg kn,O ra rn rc,O wa wn wc] 41);have S:=p.trans (d.mono p.size);have q:=Ac G d;have K2:=Aa (KL.o lb _ _ _ S (Ah H d) (Ah hw d));obtain ⟨f0,f1,f5⟩:=co3 d A z y;obtain ⟨cr,E⟩:=nm (Bs m gs lb);rw [<-E] at K2;have Y:=Aa E;clear H hw E;go_wp2_with fail;refine (K2.o).mono ?_;rintro e w3 ⟨rfl,F⟩;have T:=Ac q F;have R:=k.trans (T.mono k.size);obtain ⟨r0,r1,r5⟩:=co3 F f0 f1 f5;clear K2 F S q d G p a0 a1 a2 A z y f0 f1 f5;go_wp2_with fail;refine (KP.o _ _).mono ?_;rintro e wz ⟨C,rfl⟩;rcases C with ⟨s,rfl⟩ | ⟨s,rfl⟩;rotate_left
     ·have L:cr≠0:=by simpa using s
      have HN:Hx (¬ Fe m gs (ls++ms) vs):=Aa (fun h=>L (Y.o.trans (by rw [bm.o];exact h.2.1 _ (List.getElem_mem B))));unfold Az;go_wp2_with fail;exact ⟨rfl,Or.inr ⟨HN.o,cr,L,rfl⟩,R⟩
     have HZ:=Aa (show cr=0 by simpa using s);clear s;go_wp2_with fail;exact ⟨⟨n+1,by omega,by go_num,EF B f.o (by rw [<-bm.o];exact Y.o.symm.trans HZ.o),⟨r0,r1,r5⟩,T⟩,by simp [intOf];omega⟩
    ·obtain ⟨w3,a7⟩:=nm wr
     rw [<-a7] at A z y p ⊢;have ax:=Aa (EG (by rw [<-bi.o];omega) f.o);clear a7 G k f;go_wp2_with fail;go_loopw [48] (fun i wr=>∃ n:Nat,n<=vn/\i=zd U n/\(∀ v∈vs.take n,v.1=false->v.2.r=[]/\v.2.w=[])/\(ND w m ga gn gc va vn vc wr)/\Ov w3 wr) (fun i _=>vn - (intOf i).toNat)
     case atStart=>exact ⟨0,Nat.zero_le _,rfl,by simp,⟨A,z,y⟩,Below.refl _ _⟩
     case round=>
      clear A z y hnl hn;obtain ⟨n,hn,rfl,l,⟨A,z,y⟩,G⟩:=hrel;have f:=Aa l;clear l;have k:=p.trans (G.mono p.size);by_cases hnl:n < vn
      ·obtain ⟨-,ao,ab,C,P⟩:=HV.o.over k
       injection C with X V e3;have ah:vs≠[]:=by intro h;rw [h] at V;simp at V;omega
       obtain ⟨b,off,Q,t⟩:=P ah;have B:n < vs.length:=by omega
       obtain ⟨pr,pw,a0,a1,a2,H,hw⟩:=t n B;have aa:=X.trans Q;subst aa;obtain ⟨kn,J⟩:=nm (vs[n].1);rw [<-J] at a0;obtain ⟨ra,rn,rc,N⟩:=AR H;obtain ⟨wa,wn,wc,M⟩:=AR hw;subst N M;have aw:Hx (kn=vs[n].1/\rn=vs[n].2.r.length/\wn=vs[n].2.w.length):=⟨J,JH H,JH hw⟩;clear J P t X V e3 Q H hw;have HA:Hx (∀ ob:Obj,(CE (wr.alloc ob) w.heap.size 0 (zd U m)/\CE (wr.alloc ob) w.heap.size 1 (O ga gn gc)/\CE (wr.alloc ob) w.heap.size 5 (O (some ⟨b,off,none⟩) vn vc))/\Ov w3 (wr.alloc ob)/\Ov w (wr.alloc ob)):=fun ob=>by
        have d:=bA wr ob;exact ⟨⟨Ab d _ _ A,Ab d _ _ z,Ab d _ _ y⟩,Ac G d,k.trans (d.mono k.size)⟩
       clear KL KP A z y G;have au:Hx ((kn=false->rn=0/\wn=0)->∀ v∈vs.take (n+1),v.1=false->v.2.r=[]/\v.2.w=[]):=fun h=>EF B f.o fun h0=>by
        obtain ⟨h1,h2,h3⟩:=aw.o;have:=h (h1.trans h0);exact ⟨List.eq_nil_of_length_eq_zero (by omega),List.eq_nil_of_length_eq_zero (by omega)⟩
       have av:Hx (¬ (kn=false->rn=0/\wn=0)->¬ Fe m gs (ls++ms) vs):=Aa (fun hn h=>hn fun hk=>by
        obtain ⟨h1,h2,h3⟩:=aw.o;obtain ⟨q1,q2⟩:=h.2.2 _ (List.getElem_mem B) (h1.symm.trans hk);rw [q1] at h2;rw [q2] at h3;exact ⟨h2,h3⟩)
       clear aw f;cases kn;all_goals go_wp2_with fail
       all_goals
        refine (KM.o _ _ _).mono ?_;rintro e wz ⟨C,rfl⟩;rcases C with ⟨s,rfl⟩ | ⟨s,rfl⟩
        ·have HZ:Hx (∀ v∈vs.take (n+1),v.1=false->v.2.r=[]/\v.2.w=[]):=au.o (by first | (intro h;cases h;done) | (intro _;simp at s;done) | (intro _;simp at s;omega) | (intro _;simp at *;omega))
         clear s au av;go_wp2_with fail;exact ⟨⟨n+1,by omega,by go_num,HZ.o,(HA.o _).1,(HA.o _).2.1⟩,by simp [intOf];omega⟩
        ·have HN:Hx (¬ Fe m gs (ls++ms) vs):=Aa (av.o (by first | (simp at s;done) | (intro hh;have hq:=hh (by simp);simp at s;omega)))
         clear s au av;unfold Az;go_wp2_with fail;exact ⟨rfl,Or.inr ⟨HN.o,1,by decide,rfl⟩,(HA.o _).2.2⟩
      ·go_wp2_with fail
       go_end0;exact ⟨Or.inl ⟨⟨ay.o,ax.o,EG (by rw [<-bi.o];omega) f.o⟩,rfl⟩,k⟩
end Go.Proofs.YtfffpjkcfnekaaaGreat.Ex.Ey
