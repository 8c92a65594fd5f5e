/- Levels of variables that are Known. -/
import Derived.Test.YtfffpjkcfnekaaaGreatF21
set_option linter.unusedVariables false
set_option maxHeartbeats 8000000
set_option maxRecDepth 100000
namespace Go.Proofs.YtfffpjkcfnekaaaGreat.Ex
open Go.RowKit
open Go.Value renaming slice -> O, int -> U, bool -> zg, agg -> zh, pointer -> zj, tuple -> zm
open Go.IntKind renaming i64 -> zd
open Go.Obj renaming cells -> ze
open Go.Ending renaming returned -> zk
theorem Pd (l k) (vl vk:Value) (w:World) (hl:AQ w vl l) (hk:AQ w vk k) (n:Nat) (h6:n<=6) (hn:l.len n) (hm:k.len n) :
  Calls Tryz.prog 161 #[vl,vk] w fun e w'=>e=zk (zg (decide (l.r=k.r) && decide (l.w=k.w)))/\Ov w w':=by
 obtain ⟨x1,x2,rfl,b1,b2⟩:=hl
 obtain ⟨y1,y2,rfl,b3,b4⟩:=hk
 have KR:=Aa fun W (hW:Ov w W)=>Mq l.r k.r x1 y1 W (Ar b1 hW) (Ar b3 hW) (by have:=hn.1;omega) (by have:=hm.1;omega)
 have KW:=Aa fun W (hW:Ov w W)=>Mq l.w k.w x2 y2 W (Ar b2 hW) (Ar b4 hW) (by have:=hn.2;omega) (by have:=hm.2;omega)
 obtain ⟨a1,c1,rfl,-⟩:=b1
 obtain ⟨a2,c2,rfl,-⟩:=b2
 obtain ⟨a3,c3,rfl,-⟩:=b3
 obtain ⟨a4,c4,rfl,-⟩:=b4
 obtain ⟨R1,hR1⟩:=nm (decide (l.r=k.r))
 obtain ⟨R2,hR2⟩:=nm (decide (l.w=k.w))
 rw [<-hR1] at KR ⊢
 rw [<-hR2] at KW ⊢
 obtain ⟨z1,hz1⟩:=nm l.r.length
 obtain ⟨z2,hz2⟩:=nm l.w.length
 obtain ⟨z3,hz3⟩:=nm k.r.length
 obtain ⟨z4,hz4⟩:=nm k.w.length
 rw [<-hz1,<-hz3] at KR ⊢
 rw [<-hz2,<-hz4] at KW ⊢
 clear hR1 hR2 hz1 hz2 hz3 hz4 hn hm
 have hb0:Ov w ((w.alloc (ze #[O a1 z1 c1,O a2 z2 c2] 50)).alloc (ze #[O a3 z3 c3,O a4 z4 c4] 50)):=(bA w _).alloc (by simp) _
 have r1:Ae [O a1 z1 c1,O a2 z2 c2] ((w.alloc (ze #[O a1 z1 c1,O a2 z2 c2] 50)).alloc (ze #[O a3 z3 c3,O a4 z4 c4] 50)) w.heap.size:=(Ae.new [O a1 z1 c1,O a2 z2 c2] 50 w).over (bA _ _)
 have r2:Ae [O a3 z3 c3,O a4 z4 c4] ((w.alloc (ze #[O a1 z1 c1,O a2 z2 c2] 50)).alloc (ze #[O a3 z3 c3,O a4 z4 c4] 50)) (w.heap.size+1):=by
  have:=Ae.new [O a3 z3 c3,O a4 z4 c4] 50 (w.alloc (ze #[O a1 z1 c1,O a2 z2 c2] 50))
  simpa using this
 have K1:=Aa (KR.o _ hb0)
 have HB0:=Aa hb0
 have HR1:=Aa r1
 have HR2:=Aa r2
 have f0:=r1 0 _ rfl
 have f1:=r1 1 _ rfl
 have f2:=r2 0 _ rfl
 have f3:=r2 1 _ rfl
 clear hb0 r1 r2 KR
 go_enter Tryz.func161,Tryz.ntmps161
 go_wp2_with fail
 refine (K1.o).mono ?_
 rintro e w1 ⟨rfl,hb1⟩
 have g1:=HR1.o.over hb1 1 _ rfl
 have g3:=HR2.o.over hb1 1 _ rfl
 have HB1:=Aa (Ac HB0.o hb1)
 have K2:=Aa (KW.o _ HB1.o)
 clear f0 f1 f2 f3 hb1 K1
 cases R1 with
 | false=>
  go_wp2_with fail
  go_ret
  exact ⟨rfl,HB1.o⟩
 | true=>
  go_wp2_with fail
  refine (K2.o).mono ?_
  rintro e w2 ⟨rfl,hb2⟩
  have HB2:=Aa (Ac HB1.o hb2)
  go_wp2_with fail
  go_ret
  exact ⟨by simp,HB2.o⟩
abbrev JR (w:World) (n:Nat) (ga:Option Addr) (gn gc:Nat) (sa:Option Addr) (sn sc:Nat) (ya:Option Addr) (yn yc:Nat) (oa:Option Addr) (on oc bv ov vn vc:Nat) (fa:Option Addr) (fn fc:Nat) (ba:Option Addr) (bn bc bl ol ln lc:Nat) (ka:Option Addr) (kn kc:Nat) (wr:World) (p1:Option Addr) (q1 r1:Nat) (p2:Option Addr) (q2 r2 j:Nat) (p3:Option Addr) (q3 r3:Nat) (p4:Option Addr) (q4 r4:Nat) (Wz:World):Prop:=Wz.cell? ⟨w.heap.size,0,none⟩=some (U zd (n:Int))/\CE Wz w.heap.size 1 (O ga gn gc)/\CE Wz w.heap.size 2 (O sa sn sc)/\CE Wz w.heap.size 3 (O ya yn yc)/\CE Wz w.heap.size 4 (O oa on oc)/\CE Wz w.heap.size 5 (O (some ⟨bv,ov,none⟩) vn vc)/\CE Wz w.heap.size 6 (O fa fn fc)/\CE Wz w.heap.size 7 (O ba bn bc)/\CE Wz w.heap.size 8 (O (some ⟨bl,ol,none⟩) ln lc)/\CE Wz w.heap.size 9 (O ka kn kc)/\CE Wz wr.heap.size 0 (zg true)/\CE Wz wr.heap.size 1 (O p1 q1 r1)/\CE Wz wr.heap.size 2 (O p2 q2 r2)/\CE Wz bl (ol+j*2) (O p3 q3 r3)/\CE Wz bl (ol+j*2+1) (O p4 q4 r4)
theorem OD (n:Nat) (h1:1<=n) (h6:n<=6) (ga gn gc) (sa sn sc ya yn yc oa on oc) (va vn vc) (fa fn fc ba bn bc) (la ln lc) (ka kn kc gs vs LsV) (w:World) (hg:Az w (O ga gn gc) gs) (hE:AU n gs=0) (hv:Br w (O va vn vc) vs) (hvc:∀ v∈vs,Bo n gs v.2=0) (hL:Bg w (O la ln lc) LsV) (hll:LsV.length=vs.length) (hlen:∀ x∈LsV,x.len n) (h16:vs.length<=16) :
  Calls Tryz.prog 100 #[zh #[U zd (n:Int),O ga gn gc,O sa sn sc,O ya yn yc,O oa on oc,O va vn vc,O fa fn fc,O ba bn bc,O la ln lc,O ka kn kc]] w fun e w'=>(∃ b:Bool,e=zk (zg b)/\(b=true ↔ (∀ i (h:i < vs.length),vs[i].1=true->LsV.getD i AE=AA (AD gs) n vs[i].2)))/\Ov w w':=by
 have hvn:vn=vs.length:=by obtain ⟨-,a,c,he,-⟩:=hv;injection he
 have hb0:Ov w (w.alloc (ze #[U zd (n:Int),O ga gn gc,O sa sn sc,O ya yn yc,O oa on oc,O va vn vc,O fa fn fc,O ba bn bc,O la ln lc,O ka kn kc] 110)):=bA w _
 have rowW:Ae [U zd (n:Int),O ga gn gc,O sa sn sc,O ya yn yc,O oa on oc,O va vn vc,O fa fn fc,O ba bn bc,O la ln lc,O ka kn kc] (w.alloc (ze #[U zd (n:Int),O ga gn gc,O sa sn sc,O ya yn yc,O oa on oc,O va vn vc,O fa fn fc,O ba bn bc,O la ln lc,O ka kn kc] 110)) w.heap.size:=Ae.new [U zd (n:Int),O ga gn gc,O sa sn sc,O ya yn yc,O oa on oc,O va vn vc,O fa fn fc,O ba bn bc,O la ln lc,O ka kn kc] 110 w
 have KLV:=Aa fun (pr pw:Value) (bl:Lab) W (hb:Ov w W) (h2:AC W pr bl.r) (h3:AC W pw bl.w) (h4:Bo n gs bl=0)=>Hd (n:Int) ga gn gc sa sn sc ya yn yc oa on oc va vn vc fa fn fc ba bn bc la ln lc ka kn kc gs pr pw bl W (Af hg hb) h2 h3 h4
 have HV:=Aa hv
 have HVC:=Aa hvc
 have HL:=Aa hL
 have HLL:=Aa hll
 have HLEN:=Aa hlen
 have HVN:=Aa hvn
 have HB0:=Aa hb0
 have HRW:=Aa rowW
 have hvn16:vn<=16:=by omega
 have c5:=rowW 5 _ rfl
 clear hv hvc hL hll hlen hvn hb0 rowW h16
 go_enter Tryz.func100,Tryz.ntmps100
 go_wp2_with fail
 go_loopw [10] (fun i wr=>∃ j:Nat,j<=vn/\i=U zd j/\Hx (∀ i (h:i < vs.length),i < j->vs[i].1=true->LsV.getD i AE=AA (AD gs) n vs[i].2)/\Ae [U zd (n:Int),O ga gn gc,O sa sn sc,O ya yn yc,O oa on oc,O va vn vc,O fa fn fc,O ba bn bc,O la ln lc,O ka kn kc] wr w.heap.size/\Ov w wr) (fun i _=>vn - (intOf i).toNat)
 case atStart=>exact ⟨0,Nat.zero_le _,rfl,Aa (fun i h hi=>absurd hi (by omega)),HRW.o,HB0.o⟩
 case round=>
  obtain ⟨j,hj,rfl,HOK,hrow,hB⟩:=hrel
  clear c5
  by_cases hjl:j < vn
  ·have hjv:j < vs.length:=by have:=HVN.o;omega
   have hjL:j < LsV.length:=by have:=HLL.o;omega
   obtain ⟨-,va',vc',hve,hvel⟩:=HV.o.over hB
   injection hve with v1 v2 v3
   obtain ⟨bv,ov,hvo,hvel⟩:=hvel (by intro h;rw [h] at hjv;simp at hjv)
   obtain ⟨pr,pw,k0,k1,k2,hpr,hpw⟩:=hvel j hjv
   have e1:=v1.trans hvo
   obtain ⟨la',lc',hle,hlel⟩:=Aw HL.o hB
   injection hle with l1 l2 l3
   obtain ⟨bl,ol,hlo,hlel⟩:=hlel (by intro h;rw [h] at hjL;simp at hjL)
   obtain ⟨rv,wv,l0,l1',hlev⟩:=hlel j hjL
   have e2:=l1.trans hlo
   subst e1 e2
   obtain ⟨p1,q1,r1,hrf⟩:=AO hpr
   obtain ⟨p2,q2,r2,hwf⟩:=AO hpw
   subst hrf hwf
   obtain ⟨p3,q3,r3,p4,q4,r4,hf3,hf4⟩:=AP hlev
   subst hf3 hf4
   have HX:Hx (LsV.getD j AE=LsV[j]):=Aa (by simp [List.getD_eq_getElem?_getD,List.getElem?_eq_getElem hjL])
   have HXL:Hx (LsV[j].len n):=Aa (HLEN.o _ (List.getElem_mem hjL))
   obtain ⟨kn1,hkn1⟩:=nm (vs[j].1)
   rw [<-hkn1] at k0
   have HKN:=Aa hkn1
   have hjn:j < ln:=by omega
   clear hvel hlel v2 v3 l2 l3 hvo hlo hkn1 v1 l1
   cases kn1 with
   | false=>
    have HOK2:Hx (∀ i (h:i < vs.length),i < j+1->vs[i].1=true->LsV.getD i AE=AA (AD gs) n vs[i].2):=Aa (fun i h hi hk=>by
     by_cases hij:i=j
     ·subst hij;rw [<-HKN.o] at hk;cases hk
     ·exact HOK.o i h (by omega) hk)
    have hba:=bA wr (ze #[zg false,O p1 q1 r1,O p2 q2 r2] 41)
    have HRA:=Aa (hrow.over hba)
    have HBA:=Aa (Ac hB hba)
    have c5:=hrow 5 _ rfl
    clear hba hrow hB
    go_wp2_with fail
    go_region
    go_wp2_with fail
    exact ⟨⟨j+1,by omega,by go_num,HOK2,HRA.o,HBA.o.drew⟩,by simp [intOf];omega⟩
   | true=>
    have hba:=bA wr (ze #[zg true,O p1 q1 r1,O p2 q2 r2] 41)
    have HRA:=Aa (hrow.over hba)
    have HRV:Hx (Ae [zg true,O p1 q1 r1,O p2 q2 r2] (wr.alloc (ze #[zg true,O p1 q1 r1,O p2 q2 r2] 41)) wr.heap.size):=Aa (Ae.new [zg true,O p1 q1 r1,O p2 q2 r2] 41 wr)
    have HBA:=Aa (Ac hB hba)
    obtain ⟨l0,l1⟩:=co2 hba l0 l1'
    have hbd:=Ac hB (Ac hba (bD _))
    have KL:=Aa fun W hW=>KLV.o (O p1 q1 r1) (O p2 q2 r2) vs[j].2 W (Ac HBA.o hW) (Ai (Ai hpr hba) hW) (Ai (Ai hpw hba) hW) (HVC.o _ (List.getElem_mem hjv))
    have KE:=Aa fun v W (hW:Ov (wr.alloc (ze #[zg true,O p1 q1 r1,O p2 q2 r2] 41)) W) (hM:AQ W v (AA (AD gs) n vs[j].2))=>Pd _ LsV[j] v _ W hM (Ag (Ag hlev hba) hW) n h6 ⟨A5 _ _,A5 _ _⟩ HXL.o
    obtain ⟨R,hR⟩:=nm ((decide ((AA (AD gs) n vs[j].2).r=LsV[j].r) && decide ((AA (AD gs) n vs[j].2).w=LsV[j].w)))
    rw [<-hR] at KE
    have HR:Hx (R=true ↔ LsV.getD j AE=AA (AD gs) n vs[j].2):=Aa (by
     rw [hR,HX.o]
     cases hq:LsV[j] with
     | mk rr ww=>
      cases hp:AA (AD gs) n vs[j].2 with
      | mk r2 w2=>
             simp;constructor
             ·rintro ⟨a,b⟩;exact ⟨a.symm,b.symm⟩
             ·rintro ⟨a,b⟩;exact ⟨a.symm,b.symm⟩)
    clear hR
    have hS0:JR w n ga gn gc sa sn sc ya yn yc oa on oc bv ov vn vc fa fn fc ba bn bc bl ol ln lc ka kn kc wr p1 q1 r1 p2 q2 r2 j p3 q3 r3 p4 q4 r4 (wr.alloc (ze #[zg true,O p1 q1 r1,O p2 q2 r2] 41)):=by
     have hr0:=HRA.o
     have hrv:=HRV.o
     exact ⟨hr0 0 _ rfl,hr0 1 _ rfl,hr0 2 _ rfl,hr0 3 _ rfl,hr0 4 _ rfl,hr0 5 _ rfl,hr0 6 _ rfl,hr0 7 _ rfl,hr0 8 _ rfl,hr0 9 _ rfl,hrv 0 _ rfl,hrv 1 _ rfl,hrv 2 _ rfl,l0,l1⟩
    have c5:=hrow 5 _ rfl
    clear hba hrow hB hbd l1' hpr hpw hlev
    go_wp2_with fail
    refine gS (JR w n ga gn gc sa sn sc ya yn yc oa on oc bv ov vn vc fa fn fc ba bn bc bl ol ln lc ka kn kc wr p1 q1 r1 p2 q2 r2 j p3 q3 r3 p4 q4 r4) (hS0) fun hHeld=>?_
    refine kT 0 ?_
    refine kT 1 ?_
    refine kT 2 ?_
    refine kT 3 ?_
    refine kT 4 ?_
    refine kT 5 ?_
    refine kT 6 ?_
    refine kT 8 ?_
    refine kT 9 ?_
    refine kT 10 ?_
    refine kT 11 ?_
    refine kT 12 ?_
    refine kT 13 ?_
    refine kT 14 ?_
    refine rdA 7 rfl fun K hK=>?_
    go_simp
    refine (KL.o _ (bD _)).mono ?_
    rintro e W5 ⟨vj,rfl,hfr,hb5⟩
    have hbz:=Ac ((Below.refl _ (wr.alloc (ze #[zg true,O p1 q1 r1,O p2 q2 r2] 41))).drew) hb5
    obtain ⟨m1,m2,m3,m4,m5,m6,hNV⟩:∃ m1 m2 m3 m4 m5 m6,vj=zh #[O m1 m2 m3,O m4 m5 m6]:=by
     obtain ⟨x,y,e,-⟩:=Aq hfr
     subst e
     obtain ⟨z1,z2,z3,z4,z5,z6,rfl,rfl⟩:=AP (Aq hfr)
     exact ⟨_,_,_,_,_,_,rfl⟩
    subst hNV
    have hM5:=Aq hfr
    have hr0:=HRA.o.over hbz
    have hrv:=HRV.o.over hbz
    have hS5:JR w n ga gn gc sa sn sc ya yn yc oa on oc bv ov vn vc fa fn fc ba bn bc bl ol ln lc ka kn kc wr p1 q1 r1 p2 q2 r2 j p3 q3 r3 p4 q4 r4 W5:=⟨hr0 0 _ rfl,hr0 1 _ rfl,hr0 2 _ rfl,hr0 3 _ rfl,hr0 4 _ rfl,hr0 5 _ rfl,hr0 6 _ rfl,hr0 7 _ rfl,hr0 8 _ rfl,hr0 9 _ rfl,hrv 0 _ rfl,hrv 1 _ rfl,hrv 2 _ rfl,Ab hbz _ _ l0,Ab hbz _ _ l1⟩
    have HBZ5:=Aa hbz
    have HM5:=Aa hM5
    clear hr0 hrv hM5 hfr hb5 hbz
    go_simp
    refine xK hK (hS5) fun hHeld=>?_
    clear hK K
    refine rdA 15 rfl fun K hK=>?_
    go_simp
    refine (KE.o _ W5 HBZ5.o HM5.o).mono ?_
    rintro e W6 ⟨rfl,hb6⟩
    have hbz:=Ac HBZ5.o hb6
    have hr0:=HRA.o.over hbz
    have hrv:=HRV.o.over hbz
    have hS6:JR w n ga gn gc sa sn sc ya yn yc oa on oc bv ov vn vc fa fn fc ba bn bc bl ol ln lc ka kn kc wr p1 q1 r1 p2 q2 r2 j p3 q3 r3 p4 q4 r4 W6:=⟨hr0 0 _ rfl,hr0 1 _ rfl,hr0 2 _ rfl,hr0 3 _ rfl,hr0 4 _ rfl,hr0 5 _ rfl,hr0 6 _ rfl,hr0 7 _ rfl,hr0 8 _ rfl,hr0 9 _ rfl,hrv 0 _ rfl,hrv 1 _ rfl,hrv 2 _ rfl,Ab hbz _ _ l0,Ab hbz _ _ l1⟩
    have HBZ6:=Aa hbz
    clear hr0 hrv hb6 hbz
    go_simp
    refine xK hK (hS6) fun hHeld=>?_
    clear hK K
    refine kT 16 ?_
    refine kT 17 ?_
    refine gE ?_
    cases R with
    | false=>
     have HNO:Hx (¬ (∀ i (h:i < vs.length),vs[i].1=true->LsV.getD i AE=AA (AD gs) n vs[i].2)):=Aa (fun h=>by
      have h2:=HR.o.2 (h j hjv HKN.o.symm)
      cases h2)
     go_wp2_with fail
     go_ret
     exact ⟨⟨false,rfl,fun h=>absurd h (by simp),fun h=>absurd h HNO.o⟩,Ac HBA.o HBZ6.o⟩
    | true=>
     have HOK2:Hx (∀ i (h:i < vs.length),i < j+1->vs[i].1=true->LsV.getD i AE=AA (AD gs) n vs[i].2):=Aa (fun i h hi hk=>by
      by_cases hij:i=j
      ·subst hij;exact HR.o.1 rfl
      ·exact HOK.o i h (by omega) hk)
     go_wp2_with fail
     exact ⟨⟨j+1,by omega,by go_num,HOK2,HRA.o.over HBZ6.o,Ac HBA.o HBZ6.o⟩,by simp [intOf];omega⟩
  ·go_wp2_with fail
   go_ret
   exact ⟨⟨true,rfl,fun _ i h hk=>HOK.o i h (by have:=HVN.o;omega) hk,fun _=>rfl⟩,hB⟩
theorem Nh (args:Array Value) (w:World):(callFunc 101 args).run Tryz.prog w=.ok (.enter 101 args) w:=by simp [go_sem]
def XF (bm:Nat):World->Nat->Prop:=fun _ k=>k=bm
theorem GX (bm:Nat):XOk (XF bm):=⟨fun _ _ _ _ h=>h⟩
structure EV (c:WC) (w0:World) (L:ISt) (nv nf bw bm:Nat) (b:Bool) (W:World):Prop where
 below:Ov w0 W
 vs:Bd c.n (XF bm) W (O c.la c.ln c.lc) L.vs
 fs:Bd c.n (XF bm) W (O c.ka c.kn c.kc) L.fs
 lv:L.vs.length=nv
 lf:L.fs.length=nf
 more:W.cell? ⟨bm,0,none⟩=some (zg b)
 mz:W.frozen? ⟨bm,0,none⟩=false
 row:Ae c.cs W bw
theorem EV.over {c:WC} {w0:World} {L:ISt} {nv nf bw bm:Nat} {b:Bool} {W W':World} (h:EV c w0 L nv nf bw bm b W) (hb:Ov W W'):EV c w0 L nv nf bw bm b W':=
 ⟨Ac h.below hb,h.vs.over (GX bm) hb,h.fs.over (GX bm) hb,h.lv,h.lf,Ab hb _ _ h.more,((Al hb).2 _ _ (bL h.more)).trans h.mz,h.row.over hb⟩
theorem O9 {c:WC} {w0:World} {nv bw bm:Nat} {fs:List FnD} {gs:List (Int × Int)} (L:ISt) (n1:1<=c.n) (n6:c.n<=6) (gr:Az w0 (O c.ga c.gn c.gc) gs) (chk:AU c.n gs=0) (nv16:nv<=16):Eg c w0 nv fs gs (fun _:Bool=>L.vs) (fun _=>L.fs) (EV c w0 L nv fs.length bw bm) (XF bm):=
 ⟨n1,n6,gr,chk,nv16,fun st W h=>h.below,fun st W h=>⟨h.vs,h.lv⟩,fun st W h=>⟨h.fs,h.lf⟩,fun st W W' h hb=>h.over hb,GX bm,fun st W h k hx=>by unfold XF at hx;subst hx;exact bL h.more⟩
theorem EV.lev {c:WC} {w0:World} {L:ISt} {nv nf bw bm b off:Nat} {f:Bool} {W:World} {i:Bool × Nat} (h:EV c w0 L nv nf bw bm f W) (hib:(if i.1=true then c.la else c.ka)=some ⟨b,off,none⟩) (h1:i.1=true->i.2 < nv) (h2:i.1=false->i.2 < nf) :
  ∃ rv wv,W.cell? ⟨b,off+i.2*2,none⟩=some rv/\W.cell? ⟨b,off+i.2*2+1,none⟩=some wv/\AY c.n (XF bm) W (zh #[rv,wv]) (L.at i):=by
 unfold ISt.at
 by_cases hi:i.1=true
 ·rw [if_pos hi] at hib ⊢
  have hlt:=h1 hi
  obtain ⟨ao,cap,hv,hel⟩:=h.vs
  injection hv with v1 v2 v3
  obtain ⟨b',o',hb',hel⟩:=hel (by intro e;have:=h.lv;rw [e] at this;simp at this;omega)
  rw [<-v1,hib] at hb'
  injection hb' with hb'
  injection hb' with hb1 hb2
  subst hb1 hb2
  have hlt2:i.2 < L.vs.length:=by have:=h.lv;omega
  obtain ⟨rv,wv,c0,c1,hl⟩:=hel i.2 hlt2
  refine ⟨rv,wv,c0,c1,?_⟩
  have e:L.vs.getD i.2 AE=L.vs[i.2]:=by simp [List.getD_eq_getElem?_getD,hlt2]
  rw [e]
  exact hl
 ·rw [if_neg hi] at hib ⊢
  have hlt:=h2 (by simpa using hi)
  obtain ⟨ao,cap,hv,hel⟩:=h.fs
  injection hv with v1 v2 v3
  obtain ⟨b',o',hb',hel⟩:=hel (by intro e;have:=h.lf;rw [e] at this;simp at this;omega)
  rw [<-v1,hib] at hb'
  injection hb' with hb'
  injection hb' with hb1 hb2
  subst hb1 hb2
  have hlt2:i.2 < L.fs.length:=by have:=h.lf;omega
  obtain ⟨rv,wv,c0,c1,hl⟩:=hel i.2 hlt2
  refine ⟨rv,wv,c0,c1,?_⟩
  have e:L.fs.getD i.2 AE=L.fs[i.2]:=by simp [List.getD_eq_getElem?_getD,hlt2]
  rw [e]
  exact hl
theorem Bd.keep' {n:Nat} {X:World->Nat->Prop} {W W3:World} {v:Value} {Ls:List Lev} (n1:1<=n) (h:Bd n X W v Ls) (hF:FrW X W W3) (hc:Ls≠[]->∀ b o ln cp,v=O (some ⟨b,o,none⟩) ln cp->∀ j u,W.cell? ⟨b,j,none⟩=some u->W3.cell? ⟨b,j,none⟩=some u):Bd n X W3 v Ls:=by
 by_cases hne:Ls=[]
 ·subst hne
  obtain ⟨ao,cap,hv,-⟩:=h
  exact ⟨ao,cap,hv,fun h=>absurd rfl h⟩
 ·exact h.keep n1 hF (hc hne)
theorem EV.setM {c:WC} {w0:World} {L:ISt} {nv nf bw bm:Nat} {f f':Bool} {W:World} (n1:1<=c.n) (hm:w0.heap.size<=bm) (hw:bw≠bm) (hlk:(L.vs≠[]->∀ a,c.la=some a->a.block≠bm)/\(L.fs≠[]->∀ a,c.ka=some a->a.block≠bm)) (h:EV c w0 L nv nf bw bm f W):EV c w0 L nv nf bw bm f' (W.setCell ⟨bm,0,none⟩ (zg f'))/\FrW (XF bm) W (W.setCell ⟨bm,0,none⟩ (zg f')):=by
 have hsz:(W.setCell ⟨bm,0,none⟩ (zg f')).heap.size=W.heap.size:=by simp [World.setCell]
 have hblk:∀ k,k≠bm->(W.setCell ⟨bm,0,none⟩ (zg f')).heap[k]? = W.heap[k]?:=fun k hk=>Bj (Ne.symm hk) _
 have hF:FrW (XF bm) W (W.setCell ⟨bm,0,none⟩ (zg f')):=⟨rfl,rfl,rfl,by omega,fun k _ hx=>hblk k hx,fun k _ hx=>hx⟩
 have cne:∀ b' o' u,b'≠bm->W.cell? ⟨b',o',none⟩=some u->(W.setCell ⟨bm,0,none⟩ (zg f')).cell? ⟨b',o',none⟩=some u:=fun b' o' u hm hc=>(World.cell?_of_block (a:=⟨b',o',none⟩) (hblk b' hm)).trans hc
 refine ⟨⟨h.below.setCell (p:=⟨bm,0,none⟩) hm _,h.vs.keep' n1 hF (fun hne b' o' ln cp hv j u hc=>?_),h.fs.keep' n1 hF (fun hne b' o' ln cp hv j u hc=>?_),h.lv,h.lf,World.cell?_setCell_same _ _ _ h.more,?_,fun j u hu=>cne _ _ _ hw (h.row j u hu)⟩,hF⟩
 ·injection hv with v1
  exact cne _ _ _ (hlk.1 hne ⟨b',o',none⟩ v1) hc
 ·injection hv with v1
  exact cne _ _ _ (hlk.2 hne ⟨b',o',none⟩ v1) hc
 ·have:=h.mz
  simpa [go_sem] using this
abbrev Ll (bw:Nat) (c:WC) (W:World) (p1:Option Addr) (q1 r1:Nat) (p2:Option Addr) (q2 r2 b o:Nat) (m1:Option Addr) (m2 m3:Nat) (m4:Option Addr) (m5 m6:Nat) (Wz:World):Prop:=Wz.cell? ⟨bw,0,none⟩=some (U zd (c.n:Int))/\Wz.cell? ⟨bw,1,none⟩=some (O c.ga c.gn c.gc)/\Wz.cell? ⟨bw,2,none⟩=some (O c.sa c.sn c.sc)/\Wz.cell? ⟨bw,3,none⟩=some (O c.ya c.yn c.yc)/\Wz.cell? ⟨bw,4,none⟩=some (O c.oa c.on c.oc)/\Wz.cell? ⟨bw,5,none⟩=some (O c.va c.vn c.vc)/\Wz.cell? ⟨bw,6,none⟩=some (O c.fa c.fn c.fc)/\Wz.cell? ⟨bw,7,none⟩=some (O c.ba c.bn c.bc)/\Wz.cell? ⟨bw,8,none⟩=some (O c.la c.ln c.lc)/\Wz.cell? ⟨bw,9,none⟩=some (O c.ka c.kn c.kc)/\Wz.cell? ⟨W.heap.size,0,none⟩=some (O p1 q1 r1)/\Wz.cell? ⟨W.heap.size,1,none⟩=some (O p2 q2 r2)/\Wz.cell? ⟨b,o,none⟩=some (O m1 m2 m3)/\Wz.cell? ⟨b,o+1,none⟩=some (O m4 m5 m6)
theorem Nf (c:WC) (w0:World) (L:ISt) (nv bw bm:Nat) (fs gs) (n1:1<=c.n) (gr:Az w0 (O c.ga c.gn c.gc) gs) (chk:AU c.n gs=0) (hm:w0.heap.size<=bm) (hw:bw≠bm) (hlk:(L.vs≠[]->∀ a,c.la=some a->a.block≠bm)/\(L.fs≠[]->∀ a,c.ka=some a->a.block≠bm)) :
  Df c nv fs (EV c w0 L nv fs.length bw bm) (XF bm) (BM c.n L) 101 (zj (some ⟨bm,0,none⟩)) (zj (some ⟨bw,0,none⟩)):=by
 intro st W v l i b off hI hl hi1 hi2 hib
 obtain ⟨rv,wv,c0,c1,hlv⟩:=EV.lev hI hib hi1 hi2
 obtain ⟨p1,q1,r1,p2,q2,r2,rfl⟩:=hl.form
 obtain ⟨m1,m2,m3,m4,m5,m6,hform⟩:=hlv.form
 simp at hform
 obtain ⟨rfl,rfl⟩:=hform
 obtain ⟨o,ho⟩:=nm (off+i.2*2)
 rw [<-ho] at c0 c1 ⊢
 have hbb:b≠bm:=by
  by_cases hi:i.1=true
  ·rw [if_pos hi] at hib
   exact hlk.1 (by intro e;have h1:=hi1 hi;have h2:=hI.lv;rw [e] at h2;simp at h2;omega) ⟨b,off,none⟩ hib
  ·rw [if_neg hi] at hib
   exact hlk.2 (by intro e;have h1:=hi2 (by simpa using hi);have h2:=hI.lf;rw [e] at h2;simp at h2;omega) ⟨b,off,none⟩ hib
 have hba:Ov W (W.alloc (ze #[O p1 q1 r1,O p2 q2 r2] 50)):=bA W _
 have hI1:=hI.over hba
 have hl1:=hl.over (GX bm) hba
 have hlv1:=hlv.over (GX bm) hba
 obtain ⟨l0,l1⟩:=co2 hba c0 c1
 have rowB:=Ae.new [O p1 q1 r1,O p2 q2 r2] 50 W
 have hgr:=Af gr hI1.below
 have KF:=Aa fun (W2:World) (hb2:Ov (W.alloc (ze #[O p1 q1 r1,O p2 q2 r2] 50)) W2)=>Jp (c.n:Int) c.ga c.gn c.gc c.sa c.sn c.sc c.ya c.yn c.yc c.oa c.on c.oc c.va c.vn c.vc c.fa c.fn c.fc c.ba c.bn c.bc c.la c.ln c.lc c.ka c.kn c.kc gs (O p1 q1 r1) (O p2 q2 r2) (O m1 m2 m3) (O m4 m5 m6) l (L.at i) W2 (Af hgr hb2) (Ag hl1.at_ hb2) (Ag hlv1.at_ hb2) (Di chk hl1.len hlv1.len)
 simp only [Int.toNat_natCast] at KF
 obtain ⟨fb,hfb⟩:=nm (Ay l (L.at i) c.n)
 rw [<-hfb] at KF
 have HFB:=Aa hfb
 have HI:=Aa hI1
 have HR:=Aa hI1.row
 have HRB:=Aa rowB
 have HF0:=Aa (FrW.of_below (GX bm) hba)
 have HML:=Aa (bL hI1.more)
 have HMZ:=Aa hI1.mz
 have HMC:=Aa hI1.more
 have HBN:=Aa (Ne.symm hw)
 have HBN2:=Aa (show bm≠W.heap.size from Nat.ne_of_lt (bL hI.more))
 have HBN3:=Aa (Ne.symm hbb)
 have HSET:=Aa fun (f':Bool) (W2:World) (hb2:Ov (W.alloc (ze #[O p1 q1 r1,O p2 q2 r2] 50)) W2)=>EV.setM (f':=f') n1 hm hw hlk (hI1.over hb2)
 have m0:=hI1.more
 have mz:=hI1.mz
 obtain ⟨t0,t1,t2,t3,t4,t5,t6,t7,t8,t9⟩:=Cd hI1.row
 obtain ⟨b0,b1⟩:=rc2 rowB
 have hS0:Ll bw c W p1 q1 r1 p2 q2 r2 b o m1 m2 m3 m4 m5 m6 (W.alloc (ze #[O p1 q1 r1,O p2 q2 r2] 50)):=⟨t0,t1,t2,t3,t4,t5,t6,t7,t8,t9,b0,b1,l0,l1⟩
 clear hI hl hlv hI1 hl1 hlv1 rowB hgr hfb hba c0 c1 hi1 hi2 gr chk hbb hib n1 ho hm hw hlk
 go_enter Tryz.func101,Tryz.ntmps101
 cases st with
 | false=>
  go_wp2_with fail
  clear hS0
  go_region
  have hfin:=HSET.o false _ (Below.refl _ _)
  have HFIN:=Aa hfin
  go_wp2_with fail
  go_end0
  exact ⟨rfl,by unfold BM;simpa using HFIN.o.1.over (bD _),HF0.o.trans (HFIN.o.2.trans (FrW.of_below (GX bm) (bD _)))⟩
 | true=>
  go_wp2_with fail
  refine gS (Ll bw c W p1 q1 r1 p2 q2 r2 b o m1 m2 m3 m4 m5 m6) (hS0) fun hHeld=>?_
  refine rdA 0 rfl fun K hK=>?_
  go_simp
  refine xK hK (hS0) fun hHeld=>?_
  clear hK K
  refine kT 1 ?_
  refine kT 2 ?_
  refine kT 3 ?_
  refine kT 4 ?_
  refine kT 5 ?_
  refine kT 6 ?_
  refine kT 7 ?_
  refine rdA 8 rfl fun K hK=>?_
  go_simp
  refine (KF.o _ (((bD _)))).mono ?_
  rintro e W2 ⟨rfl,hb2⟩
  have hbz:=Ac ((Below.refl _ (W.alloc (ze #[O p1 q1 r1,O p2 q2 r2] 50))).drew) hb2
  have hr0:=HR.o.over hbz
  have hr1:=HRB.o.over hbz
  have hS2:Ll bw c W p1 q1 r1 p2 q2 r2 b o m1 m2 m3 m4 m5 m6 W2:=⟨hr0 0 _ rfl,hr0 1 _ rfl,hr0 2 _ rfl,hr0 3 _ rfl,hr0 4 _ rfl,hr0 5 _ rfl,hr0 6 _ rfl,hr0 7 _ rfl,hr0 8 _ rfl,hr0 9 _ rfl,hr1 0 _ rfl,hr1 1 _ rfl,Ab hbz _ _ l0,Ab hbz _ _ l1⟩
  have HBZ:=Aa hbz
  have mc2:=Ab hbz _ _ HMC.o
  have mz2:W2.frozen? ⟨bm,0,none⟩=false:=((Al hbz).2 _ _ HML.o).trans HMZ.o
  clear hr0 hr1 hb2 hbz m0
  go_simp
  refine xK hK (hS2) fun hHeld=>?_
  clear hK K
  refine kT 9 ?_
  refine rdA 10 rfl fun K hK=>?_
  go_simp
  refine xK hK (by have hne:=HBN.o;have hne2:=HBN2.o;have hne3:=HBN3.o;obtain ⟨t0,t1,t2,t3,t4,t5,t6,t7,t8,t9,t10,t11,t12,t13⟩:=hS2;exact ⟨by simp [go_sem,t0],by simp [go_sem,t1],by simp [go_sem,t2],by simp [go_sem,t3],by simp [go_sem,t4],by simp [go_sem,t5],by simp [go_sem,t6],by simp [go_sem,t7],by simp [go_sem,t8],by simp [go_sem,t9],by simp [go_sem,t10],by simp [go_sem,t11],by simp [go_sem,t12],by simp [go_sem,t13]⟩) fun hHeld=>?_
  clear hK K
  refine gE ?_
  have hfin:=HSET.o fb W2 HBZ.o
  have HFIN:=Aa hfin
  clear hfin
  go_wp2_with fail
  go_end0
  exact ⟨rfl,by unfold BM;rw [<-HFB.o];simpa using HFIN.o.1,HF0.o.trans ((FrW.of_below (GX bm) HBZ.o).trans HFIN.o.2)⟩
def FU (m:Int) (gs:List (Int × Int)) (vn fn:Nat) (L:ISt):Prop:=L.vs.length=vn/\L.fs.length=fn/\(∀ x∈L.vs,Bq m gs x=0)/\∀ x∈L.fs,Bq m gs x=0
theorem EZ {n:Nat} {gs:List (Int × Int)} {x:Lev} (hc:AU n gs=0) (h:Bq n gs x=0):x.len n:=by
 unfold Bq Ct at h
 rw [if_pos hc] at h
 by_cases hh:x.len n
 ·exact hh
 ·exfalso
  unfold Lev.len at hh
  split at h <;> simp_all <;> omega
theorem Ii (n K kf:Nat) (known:List Bool) (ins fs main) (L:ISt):Dh n K kf known ins fs main L false=false:=by
 have h:=F9 n K (fun _:Bool=>L.vs) (BX n K (fun _=>L.vs) known ins fs (BM n L)) (R:=fun a b=>b=true->a=true) (fun _ h=>h) (fun h1 h2 h=>h1 (h2 h)) (fun a d p st=>Ef n K (fun _=>L.vs) known ins fs (BM n L) (R:=fun a b=>b=true->a=true) (fun _ h=>h) (fun h1 h2 h=>h1 (h2 h)) (fun l i st _ h=>by unfold BM at h;simp at h;exact h.1) (fun l i st h=>by unfold BM at h;simp at h;exact h.1) a d p st) (fun _=>L.fs) kf fs main false
 cases hb:Dh n K kf known ins fs main L false with
 | false=>rfl
 | true=>exact absurd (h hb) (by simp)
theorem EL {n:Nat} {X:World->Nat->Prop} {W:World} {v:Value} {Ls:List Lev} (n1:1<=n) (h:Bg W v Ls) (hl:∀ x∈Ls,x.len n) (hx:∀ k,X W k->W.heap.size<=k):Bd n X W v Ls:=by
 obtain ⟨ao,cap,hv,hel⟩:=h
 refine ⟨ao,cap,hv,fun hne=>?_⟩
 obtain ⟨b,off,hao,hel⟩:=hel hne
 refine ⟨b,off,hao,fun i hi=>?_⟩
 obtain ⟨rv,wv,h1,h2,h3⟩:=hel i hi
 have hn:=hl _ (List.getElem_mem hi)
 have lt:∀ (v:Value) (l:List Bool),AN W v l->l.length=n->∀ a m c,v=O (some a) m c->a.block < W.heap.size:=by
  intro v l hb hl a m c e
  obtain ⟨ao,cap,hv,hel⟩:=hb
  obtain ⟨b,off,hao,hel⟩:=hel (by rintro rfl;simp at hl;omega)
  rw [hv,hao] at e
  injection e with e1
  injection e1 with e1
  rw [<-e1]
  exact bL (hel 0 (by omega))
 obtain ⟨x,y,e,bx,by'⟩:=h3
 simp at e
 obtain ⟨rfl,rfl⟩:=e
 exact ⟨rv,wv,h1,h2,⟨⟨rv,wv,rfl,bx,by'⟩,hn,rv,wv,rfl,fun a m c e hh=>by have h1:=lt _ _ bx hn.1 a m c e;have h2:=hx _ hh;omega,fun a m c e hh=>by have h1:=lt _ _ by' hn.2 a m c e;have h2:=hx _ hh;omega⟩⟩
theorem FB {W:World} {ao:Option Addr} {n c N:Nat} {Ls:List Lev} (h:Bg W (O ao n c) Ls) (hne:Ls≠[]) {a:Addr} (e:ao=some a) (hN:W.heap.size<=N):a.block≠N:=by
 obtain ⟨ao',cap,hv,hel⟩:=h
 injection hv with v1
 obtain ⟨b,off,hao,hel⟩:=hel hne
 have h0:0 < Ls.length:=List.length_pos_iff.2 hne
 obtain ⟨rv,wv,h1,-⟩:=hel 0 h0
 have:=bL h1
 rw [<-v1,e] at hao
 injection hao with hao
 rw [hao]
 simp at this ⊢
 omega
def HY (K kf:Nat) (m:Int) (vn yn on:Nat) (gs:List (Int × Int)) (sp:List Int) (ls ms:List Lab) (vs:List (Bool × Lab)) (fs:List FnD) (l:List D) (L:ISt) (X:Prop) (w:World) (e:Ending) (w':World):Prop:=
 ∃ why:Int,(why=0 ↔ X/\FU m gs vn fs.length L)/\Ov w w'/\((why≠0/\e=zk (zm #[zg false,U zd why])) \/
  (why=0/\∃ (n:Nat) (b:Bool),m=n/\e=zk (zm #[zg b,U zd 0])/\(b=true ↔ (∀ i (h:i < vs.length),vs[i].1=true->L.vs.getD i AE=AA (AD gs) n vs[i].2)/\Dh n K kf (vs.map Prod.fst) (ls.map (AA (AD gs) n)) fs l L true=true)))
theorem OK (K kf n:Nat) (h1:1<=n) (h6:n<=6) (ga gn gc sa sn sc ya yn yc oa on oc va vn vc fa fn fc ba bn bc gs sp ls ms vs fs l) (la ln lc ka kn kc) (L:ISt) (w:World) (h:BE K kf (n:Int) ga gn gc sa sn sc ya yn yc oa on oc va vn vc fa fn fc ba bn bc gs sp ls ms vs fs l w) (hV:Bg w (O la ln lc) L.vs) (hF:Bg w (O ka kn kc) L.fs) (hvl:L.vs.length<=9223372036854775807) (hfl:L.fs.length<=9223372036854775807)
  (X:Prop) (KS:∀ W,Ov w W->Calls Tryz.prog 53 #[zh #[U zd (n:Int),O ga gn gc,O sa sn sc,O ya yn yc,O oa on oc,O va vn vc,O fa fn fc,O ba bn bc]] W fun e w'=>∃ why:Int,e=zk (U zd why)/\(why=0 ↔ X)/\Ov W w') (hX:X->okP K kf (n:Int) vn yn on gs sp ls ms vs fs l) :
  Calls Tryz.prog 40 #[zh #[U zd (n:Int),O ga gn gc,O sa sn sc,O ya yn yc,O oa on oc,O va vn vc,O fa fn fc,O ba bn bc],zh #[O la ln lc,O ka kn kc]] w (HY K kf (n:Int) vn yn on gs sp ls ms vs fs l L X w):=by
 obtain rfl:vn=vs.length:=by obtain ⟨-,a,c,he,-⟩:=h.vars;injection he
 obtain rfl:yn=ls.length:=by obtain ⟨-,a,c,he,-⟩:=h.ins;injection he
 have hfn:fn=fs.length:=by obtain ⟨-,a,c,he,-⟩:=h.funcs;injection he
 subst hfn
 have hb0:Ov w ((w.alloc (ze #[U zd (n:Int),O ga gn gc,O sa sn sc,O ya ls.length yc,O oa on oc,O va vs.length vc,O fa fs.length fc,O ba bn bc] 31)).alloc (ze #[O la ln lc,O ka kn kc] 44)):=(bA w _).alloc (by simp) _
 have K1:=Aa (JC (n:Int) ga gn gc sa sn sc ya ls.length yc oa on oc va vs.length vc fa fs.length fc ba bn bc gs la ln lc ka kn kc L.vs L.fs ((w.alloc (ze #[U zd (n:Int),O ga gn gc,O sa sn sc,O ya ls.length yc,O oa on oc,O va vs.length vc,O fa fs.length fc,O ba bn bc] 31)).alloc (ze #[O la ln lc,O ka kn kc] 44)) (Af h.grants hb0) (Aw hV hb0) (Aw hF hb0) hvl hfl h.vars.1 h.funcs.1 X (fun W hW=>KS W (Ac hb0 hW)))
 have rowP:Ae [U zd (n:Int),O ga gn gc,O sa sn sc,O ya ls.length yc,O oa on oc,O va vs.length vc,O fa fs.length fc,O ba bn bc] ((w.alloc (ze #[U zd (n:Int),O ga gn gc,O sa sn sc,O ya ls.length yc,O oa on oc,O va vs.length vc,O fa fs.length fc,O ba bn bc] 31)).alloc (ze #[O la ln lc,O ka kn kc] 44)) w.heap.size:=(Ae.new [U zd (n:Int),O ga gn gc,O sa sn sc,O ya ls.length yc,O oa on oc,O va vs.length vc,O fa fs.length fc,O ba bn bc] 31 w).over (bA _ _)
 have rowL:Ae [O la ln lc,O ka kn kc] ((w.alloc (ze #[U zd (n:Int),O ga gn gc,O sa sn sc,O ya ls.length yc,O oa on oc,O va vs.length vc,O fa fs.length fc,O ba bn bc] 31)).alloc (ze #[O la ln lc,O ka kn kc] 44)) (w.heap.size+1):=by
  have:=Ae.new [O la ln lc,O ka kn kc] 44 (w.alloc (ze #[U zd (n:Int),O ga gn gc,O sa sn sc,O ya ls.length yc,O oa on oc,O va vs.length vc,O fa fs.length fc,O ba bn bc] 31))
  simpa using this
 have HB0:=Aa hb0
 have HRP:=Aa rowP
 have HRL:=Aa rowL
 have H:=Aa h
 have HX:=Aa hX
 have HV:=Aa hV
 have HF:=Aa hF
 have KWO:=Aa (Dv n ga gn gc sa sn sc ya ls.length yc oa on oc va vs.length vc fa fs.length fc ba bn bc la ln lc ka kn kc)
 have KK:=Aa fun W (hW:Ov w W) (hok:okP K kf (n:Int) vs.length ls.length on gs sp ls ms vs fs l) (hlv:L.vs.length=vs.length) (hlen:∀ x∈L.vs,x.len n)=>OD n h1 h6 ga gn gc sa sn sc ya ls.length yc oa on oc va vs.length vc fa fs.length fc ba bn bc la ln lc ka kn kc gs vs L.vs W (Af h.grants hW) hok.chk (h.vars.over hW) hok.labs.2.1 (Aw hV hW) hlv hlen hok.vars
 obtain ⟨c0,c1,c2,c3,c4,c5,c6,c7⟩:=rc8 rowP
 obtain ⟨l0,l1⟩:=rc2 rowL
 clear hb0 rowP rowL h hX hV hF hvl hfl KS
 go_enter Tryz.func40,Tryz.ntmps40
 go_wp2_with fail
 refine (K1.o).mono ?_
 rintro e w1 ⟨why,rfl,hPw,hb1⟩
 have HPW:Hx (why=0 ↔ X/\FU (n:Int) gs vs.length fs.length L):=Aa (by unfold FU;exact hPw)
 have HRP1:=Aa (HRP.o.over hb1)
 have HRL1:=Aa (HRL.o.over hb1)
 have HB1:=Aa (Ac HB0.o hb1)
 clear c0 c1 c2 c3 c4 c5 c6 c7 l0 l1 K1 hPw hb1
 by_cases hz:why=0
 rotate_left
 ·have HZ:=Aa hz
  go_wp2_with fail
  exact bodyPost_ret (v:=zm #[zg false,U zd why]) (by simp [results,Tryz.results40,go_sem]) rfl ⟨why,HPW.o,HB1.o,Or.inl ⟨HZ.o,rfl⟩⟩
 subst hz
 have hxl:=HPW.o.1 rfl
 have HXL:=Aa hxl
 have hok:=HX.o hxl.1
 have HOK:=Aa hok
 have hlen1:∀ x∈L.vs,x.len n:=fun x hx=>EZ hok.chk (hxl.2.2.2.1 x hx)
 have hlen2:∀ x∈L.fs,x.len n:=fun x hx=>EZ hok.chk (hxl.2.2.2.2 x hx)
 have HL1:=Aa hlen1
 have HL2:=Aa hlen2
 have K2:=Aa (KWO.o w1)
 obtain ⟨c0,c1,c2,c3,c4,c5,c6,c7⟩:=rc8 HRP1.o
 obtain ⟨l0,l1⟩:=rc2 HRL1.o
 clear hxl hok hlen1 hlen2
 go_wp2_with fail
 refine (K2.o).mono ?_
 rintro e w2 ⟨rfl,hb2⟩
 have hB2:=Ac HB1.o hb2
 have hba:=bA w2 (ze #[U zd (n:Int),O ga gn gc,O sa sn sc,O ya ls.length yc,O oa on oc,O va vs.length vc,O fa fs.length fc,O ba bn bc,O la ln lc,O ka kn kc] 110)
 have hBa:=Ac hB2 hba
 have K3:=Aa (KK.o _ hBa HOK.o HXL.o.2.1 HL1.o)
 have hrw:Ae [U zd (n:Int),O ga gn gc,O sa sn sc,O ya ls.length yc,O oa on oc,O va vs.length vc,O fa fs.length fc,O ba bn bc,O la ln lc,O ka kn kc] (w2.alloc (ze #[U zd (n:Int),O ga gn gc,O sa sn sc,O ya ls.length yc,O oa on oc,O va vs.length vc,O fa fs.length fc,O ba bn bc,O la ln lc,O ka kn kc] 110)) w2.heap.size:=Ae.new [U zd (n:Int),O ga gn gc,O sa sn sc,O ya ls.length yc,O oa on oc,O va vs.length vc,O fa fs.length fc,O ba bn bc,O la ln lc,O ka kn kc] 110 w2
 have HRW:=Aa hrw
 have HBA:=Aa hBa
 clear c0 c1 c2 c3 c4 c5 c6 c7 l0 l1 K2 hb2 hB2 hba hBa
 obtain ⟨c0,c1,c2,c3,c4,c5,c6,c7,c8,c9⟩:=Cd hrw
 clear hrw
 go_wp2_with fail
 refine (K3.o).mono ?_
 rintro e w3 ⟨⟨b0,rfl,hb0⟩,hb3⟩
 have HK0:=Aa hb0
 have hB3:=Ac HBA.o hb3
 have hbm:=bA w3 (ze #[zg b0] 4)
 have hlo:∀ (v:Value) (Ls:List Lev),Bg w v Ls->(∀ x∈Ls,x.len n)->Bd n (XF w3.heap.size) (w3.alloc (ze #[zg b0] 4)) v Ls:=fun v Ls hI hl=>(EL h1 (Aw hI hB3) hl (fun k hk=>Nat.le_of_eq hk.symm)).over (GX _) hbm
 have hfit:EV (⟨n,ga,gn,gc,sa,sn,sc,ya,ls.length,yc,oa,on,oc,va,vs.length,vc,fa,fs.length,fc,ba,bn,bc,la,ln,lc,ka,kn,kc⟩:WC) w3 L vs.length fs.length w2.heap.size w3.heap.size b0 (w3.alloc (ze #[zg b0] 4)):=⟨hbm,hlo _ _ HV.o HL1.o,hlo _ _ HF.o HL2.o,HXL.o.2.1,HXL.o.2.2.1,by simp [go_sem],by simp [go_sem],(HRW.o.over hb3).over hbm⟩
 have hPr:=H.o.over hB3
 have hok:=HOK.o
 have hlt2:w2.heap.size < w3.heap.size:=bL (HRW.o.over hb3 0 _ rfl)
 have hlk:(L.vs≠[]->∀ a,la=some a->a.block≠w3.heap.size)/\(L.fs≠[]->∀ a,ka=some a->a.block≠w3.heap.size):=⟨fun hne a e=>FB HV.o hne e hB3.size,fun hne a e=>FB HF.o hne e hB3.size⟩
 have KA:Hx (Calls Tryz.prog 55 #[zh #[U zd (n:Int),O ga gn gc,O sa sn sc,O ya ls.length yc,O oa on oc,O va vs.length vc,O fa fs.length fc,O ba bn bc,O la ln lc,O ka kn kc],.func (.func 101) #[] #[zj (some ⟨w3.heap.size,0,none⟩),zj (some ⟨w2.heap.size,0,none⟩)]] (w3.alloc (ze #[zg b0] 4)) fun e W'=>e=zk (zm #[])/\EV (⟨n,ga,gn,gc,sa,sn,sc,ya,ls.length,yc,oa,on,oc,va,vs.length,vc,fa,fs.length,fc,ba,bn,bc,la,ln,lc,ka,kn,kc⟩:WC) w3 L vs.length fs.length w2.heap.size w3.heap.size (Dh n K kf (vs.map Prod.fst) (ls.map (AA (AD gs) n)) fs l L b0) W'/\FrW (XF w3.heap.size) (w3.alloc (ze #[zg b0] 4)) W'):=
  Mw (O9 (c:=(⟨n,ga,gn,gc,sa,sn,sc,ya,ls.length,yc,oa,on,oc,va,vs.length,vc,fa,fs.length,fc,ba,bn,bc,la,ln,lc,ka,kn,kc⟩:WC)) L h1 h6 hPr.grants hok.chk hok.vars) (BM n L) Nh (Aa (Nf (⟨n,ga,gn,gc,sa,sn,sc,ya,ls.length,yc,oa,on,oc,va,vs.length,vc,fa,fs.length,fc,ba,bn,bc,la,ln,lc,ka,kn,kc⟩:WC) w3 L vs.length w2.heap.size w3.heap.size fs gs h1 hPr.grants hok.chk (Nat.le_refl _) (by omega) hlk)) vs hPr.vars rfl ls hPr.ins (fun b hb=>hok.labs.1 b (List.mem_append_left _ hb)) rfl hok.ins kf hPr.funcs hok.funcs hok.body l hPr.main hok.main hok.many b0 _ hfit
 have hrw4:=(HRW.o.over hb3).over hbm
 have HB3:=Aa hB3
 clear c0 c1 c2 c3 c4 c5 c6 c7 c8 c9 K3 hb0 hb3 hB3 hbm hlo hfit hPr hok hlk hlt2
 obtain ⟨c0,c1,c2,c3,c4,c5,c6,c7,c8,c9⟩:=Cd hrw4
 clear hrw4
 go_wp2_with fail
 refine (KA.o).mono ?_
 rintro e w5 ⟨rfl,hI5,hF5⟩
 have m0:=hI5.more
 have HB5:=Aa (Ac HB3.o hI5.below)
 obtain ⟨pb,hpb⟩:=nm (Dh n K kf (vs.map Prod.fst) (ls.map (AA (AD gs) n)) fs l L b0)
 rw [<-hpb] at m0
 have HPB:=Aa hpb
 clear c0 c1 c2 c3 c4 c5 c6 c7 c8 c9 hI5 hF5 hpb KA
 go_wp2_with fail
 refine bodyPost_ret (v:=zm #[zg pb,U zd 0]) (by simp [results,Tryz.results40,go_sem]) rfl ⟨0,⟨fun _=>HXL.o,fun _=>rfl⟩,HB5.o,Or.inr ⟨rfl,n,pb,rfl,rfl,?_⟩⟩
 rw [HPB.o]
 cases b0 with
 | false=>
  rw [Ii]
  exact ⟨fun h=>absurd h (by simp),fun h=>absurd (HK0.o.2 h.1) (by simp)⟩
 | true=>exact ⟨fun h=>⟨HK0.o.1 rfl,h⟩,fun h=>h.2⟩
theorem OL (K kf:Nat) (m:Int) (ga gn gc sa sn sc ya yn yc oa on oc va vn vc fa fn fc ba bn bc gs sp ls ms vs fs l) (la ln lc ka kn kc) (L:ISt) (w:World) (h:BE K kf m ga gn gc sa sn sc ya yn yc oa on oc va vn vc fa fn fc ba bn bc gs sp ls ms vs fs l w) (hV:Bg w (O la ln lc) L.vs) (hF:Bg w (O ka kn kc) L.fs) (hvl:L.vs.length<=9223372036854775807) (hfl:L.fs.length<=9223372036854775807)
  (X:Prop) (KS:∀ W,Ov w W->Calls Tryz.prog 53 #[zh #[U zd m,O ga gn gc,O sa sn sc,O ya yn yc,O oa on oc,O va vn vc,O fa fn fc,O ba bn bc]] W fun e w'=>∃ why:Int,e=zk (U zd why)/\(why=0 ↔ X)/\Ov W w') (hX:¬ X) :
  Calls Tryz.prog 40 #[zh #[U zd m,O ga gn gc,O sa sn sc,O ya yn yc,O oa on oc,O va vn vc,O fa fn fc,O ba bn bc],zh #[O la ln lc,O ka kn kc]] w (HY K kf m vn yn on gs sp ls ms vs fs l L X w):=by
 have hfn:fn=fs.length:=by obtain ⟨-,a,c,he,-⟩:=h.funcs;injection he
 have hb0:Ov w ((w.alloc (ze #[U zd m,O ga gn gc,O sa sn sc,O ya yn yc,O oa on oc,O va vn vc,O fa fn fc,O ba bn bc] 31)).alloc (ze #[O la ln lc,O ka kn kc] 44)):=(bA w _).alloc (by simp) _
 have K1:=Aa (JC m ga gn gc sa sn sc ya yn yc oa on oc va vn vc fa fn fc ba bn bc gs la ln lc ka kn kc L.vs L.fs ((w.alloc (ze #[U zd m,O ga gn gc,O sa sn sc,O ya yn yc,O oa on oc,O va vn vc,O fa fn fc,O ba bn bc] 31)).alloc (ze #[O la ln lc,O ka kn kc] 44)) (Af h.grants hb0) (Aw hV hb0) (Aw hF hb0) hvl hfl (by obtain ⟨hm,a,c,he,-⟩:=h.vars;injection he with e1 e2;rw [e2];exact hm) (by rw [hfn];exact h.funcs.1) X (fun W hW=>KS W (Ac hb0 hW)))
 have rowP:Ae [U zd m,O ga gn gc,O sa sn sc,O ya yn yc,O oa on oc,O va vn vc,O fa fn fc,O ba bn bc] ((w.alloc (ze #[U zd m,O ga gn gc,O sa sn sc,O ya yn yc,O oa on oc,O va vn vc,O fa fn fc,O ba bn bc] 31)).alloc (ze #[O la ln lc,O ka kn kc] 44)) w.heap.size:=(Ae.new [U zd m,O ga gn gc,O sa sn sc,O ya yn yc,O oa on oc,O va vn vc,O fa fn fc,O ba bn bc] 31 w).over (bA _ _)
 have rowL:Ae [O la ln lc,O ka kn kc] ((w.alloc (ze #[U zd m,O ga gn gc,O sa sn sc,O ya yn yc,O oa on oc,O va vn vc,O fa fn fc,O ba bn bc] 31)).alloc (ze #[O la ln lc,O ka kn kc] 44)) (w.heap.size+1):=by
  have:=Ae.new [O la ln lc,O ka kn kc] 44 (w.alloc (ze #[U zd m,O ga gn gc,O sa sn sc,O ya yn yc,O oa on oc,O va vn vc,O fa fn fc,O ba bn bc] 31))
  simpa using this
 have HB0:=Aa hb0
 have HX:=Aa hX
 obtain ⟨c0,c1,c2,c3,c4,c5,c6,c7⟩:=rc8 rowP
 obtain ⟨l0,l1⟩:=rc2 rowL
 clear hb0 rowP rowL h hX hV hF hvl hfl KS hfn
 go_enter Tryz.func40,Tryz.ntmps40
 go_wp2_with fail
 refine (K1.o).mono ?_
 rintro e w1 ⟨why,rfl,hPw,hb1⟩
 have HZ:Hx (why≠0):=Aa (fun e=>HX.o (hPw.1 e).1)
 have hz:=HZ.o
 have HB1:=Aa (Ac HB0.o hb1)
 clear c0 c1 c2 c3 c4 c5 c6 c7 l0 l1 K1 hPw hb1
 go_wp2_with fail
 exact bodyPost_ret (v:=zm #[zg false,U zd why]) (by simp [results,Tryz.results40,go_sem]) rfl ⟨why,⟨fun h=>absurd h HZ.o,fun h=>absurd h.1 HX.o⟩,HB1.o,Or.inl ⟨HZ.o,rfl⟩⟩
theorem Py (K kf:Nat) (m:Int) (ga gn gc sa sn sc ya yn yc oa on oc va vn vc fa fn fc ba bn bc gs sp ls ms vs fs l) (la ln lc ka kn kc) (L:ISt) (w:World) (h:BE K kf m ga gn gc sa sn sc ya yn yc oa on oc va vn vc fa fn fc ba bn bc gs sp ls ms vs fs l w) (hV:Bg w (O la ln lc) L.vs) (hF:Bg w (O ka kn kc) L.fs) (hvl:L.vs.length<=9223372036854775807) (hfl:L.fs.length<=9223372036854775807)
  (X:Prop) (KS:∀ W,Ov w W->Calls Tryz.prog 53 #[zh #[U zd m,O ga gn gc,O sa sn sc,O ya yn yc,O oa on oc,O va vn vc,O fa fn fc,O ba bn bc]] W fun e w'=>∃ why:Int,e=zk (U zd why)/\(why=0 ↔ X)/\Ov W w') (hX:X->okP K kf m vn yn on gs sp ls ms vs fs l) :
  Calls Tryz.prog 40 #[zh #[U zd m,O ga gn gc,O sa sn sc,O ya yn yc,O oa on oc,O va vn vc,O fa fn fc,O ba bn bc],zh #[O la ln lc,O ka kn kc]] w (HY K kf m vn yn on gs sp ls ms vs fs l L X w):=by
 by_cases h0:X
 ·obtain ⟨n,rfl,n1,n6,-⟩:=D5 (hX h0).chk
  exact OK K kf n n1 n6 ga gn gc sa sn sc ya yn yc oa on oc va vn vc fa fn fc ba bn bc gs sp ls ms vs fs l la ln lc ka kn kc L w h hV hF hvl hfl X KS hX
 ·exact OL K kf m ga gn gc sa sn sc ya yn yc oa on oc va vn vc fa fn fc ba bn bc gs sp ls ms vs fs l la ln lc ka kn kc L w h hV hF hvl hfl X KS h0
def sm1:D:=sD 3 0 0 (xD 0 0 []) [] [] []
def sm2:D:=sD 4 0 0 (xD 2 0 []) [] [] []
theorem A4 (n:Int) (h:0<=n) (h2:n<=100):Cp n:=⟨by omega,by omega⟩
theorem Cb {s:Nat} {R:List Value->D->Prop} {w:World}:XS s R w (O none 0 0) []:=⟨Nat.zero_le _,none,0,rfl,fun h=>absurd rfl h⟩
theorem B4 {w:World}:AC w (O none 0 0) []:=⟨none,0,rfl,fun h=>absurd rfl h⟩
theorem C0 {bi bo bv bm:Nat} {w:World} (h:D7 bi bo bv bm w):BE 1 1 1 none 0 0 none 0 0 (some ⟨bi,0,none⟩) 1 1 (some ⟨bo,0,none⟩) 1 1 (some ⟨bv,0,none⟩) 1 1 none 0 0 (some ⟨bm,0,none⟩) 2 2 [] [] [⟨[],[]⟩] [⟨[],[]⟩] [(false,⟨[],[]⟩)] [] [sm1,sm2] w:=by
 have hlab:∀ b,Ae [O none 0 0,O none 0 0] w b->Bb w (O (some ⟨b,0,none⟩) 1 1) [⟨[],[]⟩]:=fun b hr=>by
  refine ⟨by simp [maxLen],some ⟨b,0,none⟩,1,rfl,fun _=>⟨b,0,rfl,fun i hi=>?_⟩⟩
  have:i=0:=by simp at hi;omega
  subst this
  exact ⟨_,_,hr 0 _ rfl,hr 1 _ rfl,B4,B4⟩
 refine ⟨A4 1 (by omega) (by omega),⟨none,0,rfl,fun h=>absurd rfl h⟩,⟨none,0,rfl,fun h=>absurd rfl h⟩,by simp,hlab _ h.ins,hlab _ h.outs,?_,?_,?_,fun h=>absurd h (by simp),fun h=>absurd h (by simp)⟩
 ·refine ⟨by simp [maxLen],some ⟨bv,0,none⟩,1,rfl,fun _=>⟨bv,0,rfl,fun i hi=>?_⟩⟩
  have:i=0:=by simp at hi;omega
  subst this
  exact ⟨_,_,h.vars 0 _ rfl,h.vars 1 _ rfl,h.vars 2 _ rfl,B4,B4⟩
 ·exact ⟨by simp,none,0,rfl,fun h=>absurd rfl h⟩
 ·refine ⟨by simp [maxLen],some ⟨bm,0,none⟩,2,rfl,fun _=>⟨bm,0,rfl,fun i d hd=>?_⟩⟩
  match i,hd with
  | 0,hd=>
   simp at hd
   subst hd
   refine ⟨CK.take 9,rfl,fun j u hu=>?_,3,0,0,_,_,_,xD 0 0 [],_,[],_,[],_,[],rfl,rfl,A4 _ (by omega) (by omega),A4 _ (by omega) (by omega),A4 _ (by omega) (by omega),⟨0,0,_,[],rfl,rfl,A4 _ (by omega) (by omega),A4 _ (by omega) (by omega),Cb⟩,Cb,Cb,Cb⟩
   rw [List.getElem?_take] at hu
   split at hu
   ·have:=h.main j u hu
    simpa using this
   ·cases hu
  | 1,hd=>
   simp at hd
   subst hd
   refine ⟨CK.drop 9,rfl,fun j u hu=>?_,4,0,0,_,_,_,xD 2 0 [],_,[],_,[],_,[],rfl,rfl,A4 _ (by omega) (by omega),A4 _ (by omega) (by omega),A4 _ (by omega) (by omega),⟨2,0,_,[],rfl,rfl,A4 _ (by omega) (by omega),A4 _ (by omega) (by omega),Cb⟩,Cb,Cb,Cb⟩
   rw [List.getElem?_drop] at hu
   have:=h.main (9+j) u hu
   simpa [Nat.add_assoc] using this
  | i+2,hd=>simp at hd
theorem LJ:A2 ((1:Nat):Int) 1 (AV sm2)=0:=by
 simp [A2,sm2,CS,Bn,BS,Bv,BN,xD,AI,Bc,AH]
theorem LO:CJ 1 1 1 1 (([]:List FnD).length:Int) [] sm1:=by
 unfold CJ
 simp [sm1,xD,AI,AH]
theorem LN:CJ 1 1 1 1 (([]:List FnD).length:Int) [] sm2:=by
 have h:=LJ
 unfold CJ
 have e:Am sm2=4:=rfl
 have e2:Ah sm2=0:=rfl
 rw [e,e2]
 exact ⟨by decide,fun h=>absurd h (by decide),fun h=>absurd h (by decide),fun h=>absurd h (by decide),fun _=>h,fun h=>absurd h (by decide),fun _=>by decide⟩
theorem Dy:okP 1 1 1 1 1 1 [] [] [⟨[],[]⟩] [⟨[],[]⟩] [(false,⟨[],[]⟩)] [] [sm1,sm2]:=by
 refine ⟨rfl,by simp,⟨?_,?_,?_⟩,by omega,by omega,by omega,by simp,by decide,fun i h=>absurd h (by simp),?_⟩
 ·intro b hb
  simp at hb
  subst hb
  rfl
 ·intro v hv
  simp at hv
  subst hv
  rfl
 ·intro v hv _
  simp at hv
  subst hv
  exact ⟨rfl,rfl⟩
 ·intro s hs
  simp at hs
  rcases hs with rfl | rfl
  ·exact ⟨LO,fun s hs=>absurd hs (by simp [sm1]),fun s hs=>absurd hs (by simp [sm1])⟩
  ·exact ⟨LN,fun s hs=>absurd hs (by simp [sm2]),fun s hs=>absurd hs (by simp [sm2])⟩
def smI:Nat->ISt:=B5 1 1 1 [false] [AA [] 1 ⟨[],[]⟩] [] [sm1,sm2] (Ch [] 1 [(false,⟨[],[]⟩)] 0)
theorem PO:smI 1=⟨[⟨[true],[true]⟩],[],true⟩:=by rfl
theorem Pc:smI 2=⟨[⟨[true],[true]⟩],[],false⟩:=by rfl
theorem Kl {st:ISt} (h:Bz 1 1 1 [] [(false,⟨[],[]⟩)] [⟨[],[]⟩] [] [sm1,sm2] st):st.vs=[⟨[true],[true]⟩]/\st.fs=[]:=by
 obtain ⟨k,hk,hm,hj⟩:=h
 have hk':st=smI (k+1):=hk
 have hj':∀ j,j < k->(smI (j+1)).more=true:=hj
 clear hk hj
 have h1:k=1:=by
  rcases Nat.lt_trichotomy k 1 with h | h | h
  ·have h0:k=0:=by omega
   rw [hk',h0] at hm
   have e:=PO
   rw [Nat.zero_add,e] at hm
   exact absurd hm (by simp)
  ·exact h
  ·have h2:=hj' 1 h
   have e:=Pc
   rw [show 1+1=2 from rfl,e] at h2
   exact absurd h2 (by simp)
 rw [hk',h1,show 1+1=2 from rfl,Pc]
 exact ⟨rfl,rfl⟩
end Go.Proofs.YtfffpjkcfnekaaaGreat.Ex
