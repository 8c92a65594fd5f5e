/- What is done where a level must flow: it becomes more. -/
import Derived.Test.YtfffpjkcfnekaaaGreatF20
import Derived.Test.YtfffpjkcfnekaaaGreatF12
set_option linter.unusedVariables false
set_option maxHeartbeats 8000000
set_option maxRecDepth 100000
namespace Go.Proofs.YtfffpjkcfnekaaaGreat.Ex
open Go.RowKit
open Go.Value renaming slice -> O, int -> U, bool -> zg, agg -> zh, pointer -> zj, tuple -> zm
open Go.IntKind renaming i64 -> zd
open Go.Obj renaming cells -> ze
open Go.Ending renaming returned -> zk
theorem Ng (args:Array Value) (w:World):(callFunc 56 args).run Tryz.prog w=.ok (.enter 56 args) w:=by simp [go_sem]
theorem CX.lev {c:WC} {w0:World} {nv nf bw bm b off:Nat} {st:ISt} {W:World} {i:Bool × Nat} (hC:EU c w0 bw bm) (h:CX c w0 nv nf bw bm st W) (hib:(if i.1=true then c.la else c.ka)=some ⟨b,off,none⟩) (h1:i.1=true->i.2 < nv) (h2:i.1=false->i.2 < nf) :
  off=0/\(b < W.heap.size/\∀ j,W.frozen? ⟨b,j,none⟩=false)/\b≠bw/\b≠bm/\∃ rv wv,W.cell? ⟨b,i.2*2,none⟩=some rv/\W.cell? ⟨b,i.2*2+1,none⟩=some wv/\AY c.n (XI c bm) W (zh #[rv,wv]) (st.at i):=by
 unfold ISt.at
 by_cases hi:i.1=true
 ·rw [if_pos hi] at hib ⊢
  have hlt:=h1 hi
  have hca:=hC.la _ hib
  have ho:off=0:=hca.1
  subst ho
  obtain ⟨ao,cap,hv,hel⟩:=h.vs
  injection hv with v1 v2 v3
  obtain ⟨b',o',hb',hel⟩:=hel (by intro e;have:=h.lv;rw [e] at this;simp at this;omega)
  rw [<-v1,hib] at hb'
  injection hb' with hb'
  injection hb' with hb1 hb2
  subst hb1 hb2
  have hlt2:i.2 < st.vs.length:=by have:=h.lv;omega
  obtain ⟨rv,wv,c0,c1,hl⟩:=hel i.2 hlt2
  simp only [Nat.zero_add] at c0 c1
  refine ⟨rfl,h.hl _ hib,hca.2.2.2.1,hca.2.2.2.2,rv,wv,c0,c1,?_⟩
  have e:st.vs.getD i.2 AE=st.vs[i.2]:=by simp [List.getD_eq_getElem?_getD,hlt2]
  rw [e]
  exact hl
 ·rw [if_neg hi] at hib ⊢
  have hlt:=h2 (by simpa using hi)
  have hca:=hC.ka _ hib
  have ho:off=0:=hca.1
  subst ho
  obtain ⟨ao,cap,hv,hel⟩:=h.fs
  injection hv with v1 v2 v3
  obtain ⟨b',o',hb',hel⟩:=hel (by intro e;have:=h.lf;rw [e] at this;simp at this;omega)
  rw [<-v1,hib] at hb'
  injection hb' with hb'
  injection hb' with hb1 hb2
  subst hb1 hb2
  have hlt2:i.2 < st.fs.length:=by have:=h.lf;omega
  obtain ⟨rv,wv,c0,c1,hl⟩:=hel i.2 hlt2
  simp only [Nat.zero_add] at c0 c1
  refine ⟨rfl,h.hk _ hib,hca.2.2.2.1,hca.2.2.2.2,rv,wv,c0,c1,?_⟩
  have e:st.fs.getD i.2 AE=st.fs[i.2]:=by simp [List.getD_eq_getElem?_getD,hlt2]
  rw [e]
  exact hl
abbrev H3 (bw:Nat) (c:WC) (W:World) (p1:Option Addr) (q1 r1:Nat) (p2:Option Addr) (q2 r2 b:Nat) (i:Bool × Nat) (m1:Option Addr) (m2 m3:Nat) (m4:Option Addr) (m5 m6:Nat) (Wz:World):Prop:=Wz.cell? ⟨bw,0,none⟩=some (U zd (c.n:Int))/\Wz.cell? ⟨bw,1,none⟩=some (O c.ga c.gn c.gc)/\Wz.cell? ⟨bw,2,none⟩=some (O c.sa c.sn c.sc)/\Wz.cell? ⟨bw,3,none⟩=some (O c.ya c.yn c.yc)/\Wz.cell? ⟨bw,4,none⟩=some (O c.oa c.on c.oc)/\Wz.cell? ⟨bw,5,none⟩=some (O c.va c.vn c.vc)/\Wz.cell? ⟨bw,6,none⟩=some (O c.fa c.fn c.fc)/\Wz.cell? ⟨bw,7,none⟩=some (O c.ba c.bn c.bc)/\Wz.cell? ⟨bw,8,none⟩=some (O c.la c.ln c.lc)/\Wz.cell? ⟨bw,9,none⟩=some (O c.ka c.kn c.kc)/\Wz.cell? ⟨W.heap.size,0,none⟩=some (O p1 q1 r1)/\Wz.cell? ⟨W.heap.size,1,none⟩=some (O p2 q2 r2)/\Wz.cell? ⟨b,i.2*2,none⟩=some (O m1 m2 m3)/\Wz.cell? ⟨b,i.2*2+1,none⟩=some (O m4 m5 m6)
abbrev Ln (bw:Nat) (c:WC) (W:World) (p1:Option Addr) (q1 r1:Nat) (p2:Option Addr) (q2 r2:Nat) (Wz:World):Prop:=Wz.cell? ⟨bw,0,none⟩=some (U zd (c.n:Int))/\Wz.cell? ⟨bw,1,none⟩=some (O c.ga c.gn c.gc)/\Wz.cell? ⟨bw,2,none⟩=some (O c.sa c.sn c.sc)/\Wz.cell? ⟨bw,3,none⟩=some (O c.ya c.yn c.yc)/\Wz.cell? ⟨bw,4,none⟩=some (O c.oa c.on c.oc)/\Wz.cell? ⟨bw,5,none⟩=some (O c.va c.vn c.vc)/\Wz.cell? ⟨bw,6,none⟩=some (O c.fa c.fn c.fc)/\Wz.cell? ⟨bw,7,none⟩=some (O c.ba c.bn c.bc)/\Wz.cell? ⟨bw,8,none⟩=some (O c.la c.ln c.lc)/\Wz.cell? ⟨bw,9,none⟩=some (O c.ka c.kn c.kc)/\Wz.cell? ⟨W.heap.size,0,none⟩=some (O p1 q1 r1)/\Wz.cell? ⟨W.heap.size,1,none⟩=some (O p2 q2 r2)
theorem Nd (c:WC) (w0:World) (nv bw bm:Nat) (fs gs) (n1:1<=c.n) (gr:Az w0 (O c.ga c.gn c.gc) gs) (chk:AU c.n gs=0) (hC:EU c w0 bw bm) :
  Df c nv fs (CX c w0 nv fs.length bw bm) (XI c bm) (BZ c.n) 56 (zj (some ⟨bw,0,none⟩)) (zj (some ⟨bm,0,none⟩)):=by
 intro st W v l i b off hI hl hi1 hi2 hib
 obtain ⟨rfl,⟨hbl,hfz⟩,hbw,hbm,rv,wv,c0,c1,hlv⟩:=CX.lev hC hI hib hi1 hi2
 obtain ⟨p1,q1,r1,p2,q2,r2,rfl⟩:=hl.form
 obtain ⟨m1,m2,m3,m4,m5,m6,hform⟩:=hlv.form
 simp at hform
 obtain ⟨rfl,rfl⟩:=hform
 have hba:Ov W (W.alloc (ze #[O p1 q1 r1,O p2 q2 r2] 50)):=bA W _
 have hI1:=hI.over hba
 have hl1:=hl.over (EW c bm) hba
 have hlv1:=hlv.over (EW c bm) hba
 obtain ⟨l0,l1⟩:=co2 hba c0 c1
 have L0:=Aa l0
 have L1:=Aa l1
 have rowB:=Ae.new [O p1 q1 r1,O p2 q2 r2] 50 W
 have hgr:=Af gr hI1.below
 have KF:=Aa fun (W2:World) (hb2:Ov (W.alloc (ze #[O p1 q1 r1,O p2 q2 r2] 50)) W2)=>Jp (c.n:Int) c.ga c.gn c.gc c.sa c.sn c.sc c.ya c.yn c.yc c.oa c.on c.oc c.va c.vn c.vc c.fa c.fn c.fc c.ba c.bn c.bc c.la c.ln c.lc c.ka c.kn c.kc gs (O p1 q1 r1) (O p2 q2 r2) (O m1 m2 m3) (O m4 m5 m6) l (st.at i) W2 (Af hgr hb2) (Ag hl1.at_ hb2) (Ag hlv1.at_ hb2) (Di chk hl1.len hlv1.len)
 have KJ:=Aa fun (W2:World) (hb2:Ov (W.alloc (ze #[O p1 q1 r1,O p2 q2 r2] 50)) W2)=>J3 (c.n:Int) c.ga c.gn c.gc c.sa c.sn c.sc c.ya c.yn c.yc c.oa c.on c.oc c.va c.vn c.vc c.fa c.fn c.fc c.ba c.bn c.bc c.la c.ln c.lc c.ka c.kn c.kc gs (O m1 m2 m3) (O m4 m5 m6) (O p1 q1 r1) (O p2 q2 r2) (st.at i) l W2 (Af hgr hb2) (Ag hlv1.at_ hb2) (Ag hl1.at_ hb2) (Di chk hlv1.len hl1.len)
 simp only [Int.toNat_natCast] at KF
 obtain ⟨fb,hfb⟩:=nm (Ay l (st.at i) c.n)
 rw [<-hfb] at KF
 have HFB:=Aa hfb.symm
 have HC:=Aa hC
 have HI:=Aa hI1
 have HR:=Aa hI1.row
 have HRB:=Aa rowB
 have HIB:=Aa (And.intro n1 hib)
 have HF0:=Aa (FrW.of_below (EW c bm) hba)
 have HBL:=Aa (show b < (W.alloc (ze #[O p1 q1 r1,O p2 q2 r2] 50)).heap.size by simp;omega)
 have HFZ:=Aa (show ∀ j,(W.alloc (ze #[O p1 q1 r1,O p2 q2 r2] 50)).frozen? ⟨b,j,none⟩=false from fun j=>((Al hba).2 _ _ hbl).trans (hfz j))
 have HML:=Aa (bL hI1.more)
 have HMZ:=Aa hI1.mz
 have HMC:=Aa hI1.more
 have HNE:=Aa (Ne.symm hbm)
 have HBN:=Aa hbw
 have HBN2:=Aa (show b≠W.heap.size by omega)
 have HR1:=Aa hi1
 have HR2:=Aa hi2
 obtain ⟨t0,t1,t2,t3,t4,t5,t6,t7,t8,t9⟩:=Cd hI1.row
 obtain ⟨b0,b1⟩:=rc2 rowB
 have hS0:H3 bw c W p1 q1 r1 p2 q2 r2 b i m1 m2 m3 m4 m5 m6 (W.alloc (ze #[O p1 q1 r1,O p2 q2 r2] 50)):=⟨t0,t1,t2,t3,t4,t5,t6,t7,t8,t9,b0,b1,l0,l1⟩
 clear hI hl hlv hI1 hl1 hlv1 rowB hgr hfb hba c0 c1 hfz hi1 hi2 hC gr chk hbw hbm hbl hib n1
 go_enter Tryz.func56,Tryz.ntmps56
 rw [Nat.zero_add]
 cases fb with
 | true=>
  go_wp2_with fail
  refine gS (H3 bw c W p1 q1 r1 p2 q2 r2 b i m1 m2 m3 m4 m5 m6) (hS0) fun hHeld=>?_
  refine kT 0 ?_
  refine kT 1 ?_
  refine kT 2 ?_
  refine kT 3 ?_
  refine kT 4 ?_
  refine kT 5 ?_
  refine rdA 6 rfl fun K hK=>?_
  go_simp
  refine (KF.o _ (bD _)).mono ?_
  rintro e W2 ⟨rfl,hb2⟩
  have hbz:=Ac ((Below.refl _ (W.alloc (ze #[O p1 q1 r1,O p2 q2 r2] 50))).drew) hb2
  have hr0:=HR.o.over hbz
  have hr1:=HRB.o.over hbz
  have hS2:H3 bw c W p1 q1 r1 p2 q2 r2 b i m1 m2 m3 m4 m5 m6 W2:=⟨hr0 0 _ rfl,hr0 1 _ rfl,hr0 2 _ rfl,hr0 3 _ rfl,hr0 4 _ rfl,hr0 5 _ rfl,hr0 6 _ rfl,hr0 7 _ rfl,hr0 8 _ rfl,hr0 9 _ rfl,hr1 0 _ rfl,hr1 1 _ rfl,Ab hbz _ _ l0,Ab hbz _ _ l1⟩
  have HBZ:=Aa hbz
  clear hr0 hr1 hb2 hbz
  go_simp
  refine xK hK (hS2) fun hHeld=>?_
  clear hK K
  refine rdA 7 rfl fun K hK=>?_
  go_simp
  refine xK hK (hS2) fun hHeld=>?_
  clear hK K
  refine gE ?_
  go_wp2_with fail
  go_end0
  refine ⟨rfl,?_,HF0.o.trans (FrW.of_below (EW c bm) HBZ.o)⟩
  unfold BZ
  rw [if_pos HFB.o]
  exact HI.o.over HBZ.o
 | false=>
  go_wp2_with fail
  refine gS (H3 bw c W p1 q1 r1 p2 q2 r2 b i m1 m2 m3 m4 m5 m6) (hS0) fun hHeld=>?_
  refine kT 0 ?_
  refine kT 1 ?_
  refine kT 2 ?_
  refine kT 3 ?_
  refine kT 4 ?_
  refine kT 5 ?_
  refine rdA 6 rfl fun K hK=>?_
  go_simp
  refine (KF.o _ (bD _)).mono ?_
  rintro e W2 ⟨rfl,hb2⟩
  have hbz:=Ac ((Below.refl _ (W.alloc (ze #[O p1 q1 r1,O p2 q2 r2] 50))).drew) hb2
  have hr0:=HR.o.over hbz
  have hr1:=HRB.o.over hbz
  have hS2:H3 bw c W p1 q1 r1 p2 q2 r2 b i m1 m2 m3 m4 m5 m6 W2:=⟨hr0 0 _ rfl,hr0 1 _ rfl,hr0 2 _ rfl,hr0 3 _ rfl,hr0 4 _ rfl,hr0 5 _ rfl,hr0 6 _ rfl,hr0 7 _ rfl,hr0 8 _ rfl,hr0 9 _ rfl,hr1 0 _ rfl,hr1 1 _ rfl,Ab hbz _ _ l0,Ab hbz _ _ l1⟩
  have HBZ:=Aa hbz
  clear hr0 hr1 hb2 hbz
  go_simp
  refine xK hK (hS2) fun hHeld=>?_
  clear hK K
  refine rdA 7 rfl fun K hK=>?_
  go_simp
  refine xK hK (hS2) fun hHeld=>?_
  clear hK K
  refine gE ?_
  clear hS0 t0 t1 t2 t3 t4 t5 t6 t7 t8 t9 b0 b1
  obtain ⟨l0,l1⟩:=co2 HBZ.o l0 l1
  have t0:=HR.o.over HBZ.o 0 _ rfl
  have t1:=HR.o.over HBZ.o 1 _ rfl
  have t2:=HR.o.over HBZ.o 2 _ rfl
  have t3:=HR.o.over HBZ.o 3 _ rfl
  have t4:=HR.o.over HBZ.o 4 _ rfl
  have t5:=HR.o.over HBZ.o 5 _ rfl
  have t6:=HR.o.over HBZ.o 6 _ rfl
  have t7:=HR.o.over HBZ.o 7 _ rfl
  have t8:=HR.o.over HBZ.o 8 _ rfl
  have t9:=HR.o.over HBZ.o 9 _ rfl
  have b0:=HRB.o.over HBZ.o 0 _ rfl
  have b1:=HRB.o.over HBZ.o 1 _ rfl
  have hS0:Ln bw c W p1 q1 r1 p2 q2 r2 W2:=⟨t0,t1,t2,t3,t4,t5,t6,t7,t8,t9,b0,b1⟩
  clear hS2
  go_wp2_with fail
  refine gS (Ln bw c W p1 q1 r1 p2 q2 r2) (hS0) fun hHeld=>?_
  refine kT 0 ?_
  refine kT 1 ?_
  refine kT 2 ?_
  refine kT 3 ?_
  refine kT 4 ?_
  refine kT 6 ?_
  refine rdA 5 rfl fun K hK=>?_
  go_simp
  refine xK hK (hHeld) fun hHeld=>?_
  clear hK K
  refine rdA 7 rfl fun K hK=>?_
  go_simp
  refine (KJ.o W2.drew (Ac HBZ.o (bD _))).mono ?_
  rintro e W3 ⟨vj,rfl,hfr,hb3⟩
  have hfr2:Be W2.drew W3 vj (Bs (st.at i) l c.n):=by simpa using hfr
  obtain ⟨k1,k2,k3,k4,k5,k6,hvj⟩:∃ a1 a2 a3 a4 a5 a6,vj=zh #[O a1 a2 a3,O a4 a5 a6]:=by
   obtain ⟨x,y,e,-⟩:=Aq hfr2
   subst e
   obtain ⟨z1,z2,z3,z4,z5,z6,rfl,rfl⟩:=AP (Aq hfr2)
   exact ⟨_,_,_,_,_,_,rfl⟩
  subst hvj
  have hbz:=Ac (Ac HBZ.o (bD W2)) hb3
  have hr0:=HR.o.over hbz
  have hr1:=HRB.o.over hbz
  have hS3:Ln bw c W p1 q1 r1 p2 q2 r2 W3:=⟨hr0 0 _ rfl,hr0 1 _ rfl,hr0 2 _ rfl,hr0 3 _ rfl,hr0 4 _ rfl,hr0 5 _ rfl,hr0 6 _ rfl,hr0 7 _ rfl,hr0 8 _ rfl,hr0 9 _ rfl,hr1 0 _ rfl,hr1 1 _ rfl⟩
  have HBZ3:=Aa hbz
  have HFR3:=Aa (show AY c.n (XI c bm) W3 (zh #[O k1 k2 k3,O k4 k5 k6]) (Bs (st.at i) l c.n) from ⟨Aq hfr2,DG _ _ _,Cz (EW c bm) hb3 (fun k hk=>by have:=(NG HC.o HI.o k hk);have:=hb3.size;have:=HBZ.o.size;simp at *;omega) (BP hfr2)⟩)
  have x0:=Ab hbz _ _ L0.o
  have x1:=Ab hbz _ _ L1.o
  have xf0:W3.frozen? ⟨b,i.2*2,none⟩=false:=((Al hbz).2 _ _ HBL.o).trans (HFZ.o _)
  have xf1:W3.frozen? ⟨b,i.2*2+1,none⟩=false:=((Al hbz).2 _ _ HBL.o).trans (HFZ.o _)
  have mz3:W3.frozen? ⟨bm,0,none⟩=false:=((Al hbz).2 _ _ HML.o).trans HMZ.o
  have mc3:=Ab hbz _ _ HMC.o
  clear hr0 hr1 hb3 hbz hfr hfr2
  go_simp
  refine xK hK (hS3) fun hHeld=>?_
  clear hK K
  refine rdA 8 rfl fun K hK=>?_
  go_simp
  refine xK hK (hS3) fun hHeld=>?_
  clear hK K
  refine rdA 9 rfl fun K hK=>?_
  go_simp
  refine xK hK (by have hne:=HBN.o;have hne2:=HBN2.o;obtain ⟨t0,t1,t2,t3,t4,t5,t6,t7,t8,t9,t10,t11⟩:=hS3;exact ⟨by simp [go_sem,t0],by simp [go_sem,t1],by simp [go_sem,t2],by simp [go_sem,t3],by simp [go_sem,t4],by simp [go_sem,t5],by simp [go_sem,t6],by simp [go_sem,t7],by simp [go_sem,t8],by simp [go_sem,t9],by simp [go_sem,t10],by simp [go_sem,t11]⟩) fun hHeld=>?_
  clear hK K
  refine gE ?_
  have hfin:=HC.o.upd HI.o HIB.o HBZ3.o HFR3.o HR1.o HR2.o
  have mc4:((W3.setCell ⟨b,i.2*2,none⟩ (O k1 k2 k3)).setCell ⟨b,i.2*2+1,none⟩ (O k4 k5 k6)).cell? ⟨bm,0,none⟩=some (zg st.more):=by
   have hne:=HNE.o
   simp [go_sem,mc3]
  have mz4:((W3.setCell ⟨b,i.2*2,none⟩ (O k1 k2 k3)).setCell ⟨b,i.2*2+1,none⟩ (O k4 k5 k6)).frozen? ⟨bm,0,none⟩=false:=by simp [go_sem,mz3]
  have HFIN:=Aa hfin
  clear hfin hS3 x0 x1 xf0 xf1 mc3 mz3
  go_wp2_with fail
  go_end0
  refine ⟨rfl,?_,HF0.o.trans HFIN.o.2⟩
  unfold BZ
  rw [if_neg (by rw [HFB.o];simp)]
  exact HFIN.o.1
theorem Md {P:Nat->Prop}:∀ n,P n->∃ m,P m/\∀ k,P k->m<=k:=by
 intro n
 induction n using Nat.strongRecOn with
 | ind n ih=>
  intro h
  by_cases hx:∃ k,k < n/\P k
  ·obtain ⟨k,hk,hp⟩:=hx
   exact ih k hk hp
  ·exact ⟨n,h,fun k hk=>Nat.le_of_not_lt fun hlt=>hx ⟨k,hlt,hk⟩⟩
theorem KZ {α:Type} (P:α->Nat->Prop):∃ μ:α->Nat,∀ a n,P a n->P a (μ a)/\∀ k,P a k->μ a<=k:=by
 have h:∀ a,∃ m,∀ n,P a n->P a m/\∀ k,P a k->m<=k:=fun a=>by
  by_cases hx:∃ n,P a n
  ·obtain ⟨n,hn⟩:=hx
   obtain ⟨m,h1,h2⟩:=Md n hn
   exact ⟨m,fun _ _=>⟨h1,h2⟩⟩
  ·exact ⟨0,fun n hn=>absurd ⟨n,hn⟩ hx⟩
 exact ⟨fun a=>Classical.choose (h a),fun a=>Classical.choose_spec (h a)⟩
def B5 (n K kf:Nat) (known:List Bool) (ins:List Lev) (fs:List FnD) (main:List D) (st0:ISt):Nat->ISt
 | 0=>st0
 | k+1=>DZ n K kf known ins fs main ⟨(B5 n K kf known ins fs main st0 k).vs,(B5 n K kf known ins fs main st0 k).fs,false⟩
def Ch (gs:List (Int × Int)) (n:Nat) (vs:List (Bool × Lab)) (nf:Nat):ISt:=⟨Cl gs n vs,List.replicate nf (Bw n),true⟩
def Bz (n K kf:Nat) (gs:List (Int × Int)) (vs:List (Bool × Lab)) (ls:List Lab) (fs:List FnD) (main:List D) (st:ISt):Prop:=
 ∃ k,st=B5 n K kf (vs.map Prod.fst) (ls.map (AA (AD gs) n)) fs main (Ch gs n vs fs.length) (k+1)/\st.more=false/\∀ j,j < k->(B5 n K kf (vs.map Prod.fst) (ls.map (AA (AD gs) n)) fs main (Ch gs n vs fs.length) (j+1)).more=true
theorem Ox {W:World} {B e s n:Nat} {a:Addr} {ln lc:Nat} {us:List Value} (h:W.ownsRow B e s (O (some a) ln lc) n us):a.off=0/\a.spot=none/\B<=a.block/\a.block < W.heap.size/\∀ j,W.frozen? ⟨a.block,j,none⟩=false:=by
 rcases h.2 with ⟨h,-⟩ | ⟨g,cap,cur,h,hb,hg,-⟩
 ·cases h
 ·injection h with h1 h2 h3
  injection h1 with h1
  subst h1
  exact ⟨rfl,rfl,hb,(Array.getElem?_eq_some_iff.1 hg).1,fun j=>by simp [World.frozen?,hg]⟩
theorem FQ {n B:Nat} {W:World} {a:Addr} {ln lc:Nat} {Ls:List Lev} (h:A3 n B W (O (some a) ln lc) Ls):a.off=0/\a.spot=none/\B<=a.block/\a.block < W.heap.size/\∀ j,W.frozen? ⟨a.block,j,none⟩=false:=by
 obtain ⟨us,ho,-⟩:=h
 exact Ox ho
theorem Ej {n B:Nat} {X:World->Nat->Prop} {W:World} {v:Value} {Ls:List Lev} (n1:1<=n) (h:A3 n B W v Ls) (hx:∀ k,X W k->Ei W k\/W.heap.size<=k):Bd n X W v Ls:=by
 obtain ⟨us,ho,hel⟩:=h
 have hlen:=ho.1
 have key:∀ (u:Value) (l:List Bool),AN W u l->l.length=n->T4 W u->∀ a m c,u=O (some a) m c->¬ X W a.block:=by
  intro u l hb hl ht a m c hu hxx
  obtain ⟨cur,fr,he⟩:=ht a m c hu
  rcases hx _ hxx with h | h
  ·exact h cur fr he
  ·have:=(Array.getElem?_eq_some_iff.1 he).1
   omega
 have mk:∀ (x y:Value) (l:Lev),EC n W (zh #[x,y]) l->AY n X W (zh #[x,y]) l:=by
  intro x y l ht
  obtain ⟨x',y',e,tx,ty⟩:=ht.ty
  simp at e
  obtain ⟨rfl,rfl⟩:=e
  obtain ⟨x',y',e,bx,by'⟩:=ht.at_
  simp at e
  obtain ⟨rfl,rfl⟩:=e
  exact ⟨ht.at_,ht.len,x,y,rfl,key _ _ bx ht.len.1 tx,key _ _ by' ht.len.2 ty⟩
 rcases ho.2 with ⟨h,h0⟩ | ⟨g,cap,cur,h,hb,hg,hc1,hc2,hc3,hc4⟩
 ·have:Ls=[]:=List.eq_nil_of_length_eq_zero h0
  subst this
  exact ⟨none,0,h,fun h=>absurd rfl h⟩
 ·refine ⟨some ⟨g,0,none⟩,cap,h,fun hne=>⟨g,0,rfl,fun i hi=>?_⟩⟩
  obtain ⟨x,y,e0,e1,hl⟩:=hel i hi
  have hcell:∀ j u,us[j]? = some u->W.cell? ⟨g,0+j,none⟩=some u:=fun j u hu=>by
   rw [Nat.zero_add,Lib.cell_of_heap hg]
   rw [<-hc4,List.getElem?_take] at hu
   split at hu
   ·simpa using hu
   ·cases hu
  exact ⟨x,y,hcell _ _ e0,by have:=hcell _ _ e1;simpa [Nat.add_assoc] using this,mk x y _ hl⟩
theorem Mp {fs:List FnD} {i:Int} (h0:0<=i) (h1:i < fs.length):EP fs i∈fs:=by
 unfold EP
 rw [List.getD_eq_getElem?_getD,List.getElem?_eq_getElem (by omega:i.toNat < fs.length)]
 exact List.getElem_mem _
theorem Mh {K nv ni no:Nat} {funcs:Int} {fs:List FnD} {d:D} (h:CJ K nv ni no funcs fs d) (hf:funcs<=fs.length) (hp:∀ f∈fs,∀ p∈f.ps,0<=p/\p < (nv:Int)):inR nv fs.length fs d:=by
 obtain ⟨-,hv,h2,-⟩:=h
 refine ⟨fun hk=>by have:=hv hk;omega,fun hk=>?_⟩
 obtain ⟨⟨a,b⟩,-,-⟩:=h2 hk
 refine ⟨by omega,fun v hv=>?_⟩
 have:=hp _ (Mp a (by omega)) v hv
 omega
theorem Ks (n K kf nv ni no:Nat) (known:List Bool) (ins) (fs:List FnD) (main:List D) (st:ISt) (hof:∀ i (h:i < fs.length),okF K nv ni no (i:Int) fs kf fs[i]) (hom:∀ s∈main,okS K nv ni no (fs.length:Int) fs kf s) :
  CH n nv fs.length st (DZ n K kf known ins fs main st):=by
 have hp:∀ f∈fs,∀ p∈f.ps,0<=p/\p < (nv:Int):=fun f hf=>by
  obtain ⟨i,hi,rfl⟩:=List.getElem_of_mem hf
  exact (hof i hi).2.1
 exact Ft n K ISt.vs _ (P:=fun _ _=>True) (Pm:=okS K nv ni no (fs.length:Int) fs) (P1:=inR nv fs.length fs) (fun k d h=>⟨Mh h.1 (by omega) hp,h.2⟩) (Q:=fun i k d=>i<=fs.length/\okS K nv ni no (i:Int) fs k d)
  (fun i k d h=>⟨Mh h.2.1 (by omega) hp,fun s hs=>⟨h.1,h.2.2.1 s hs⟩,fun s hs=>⟨h.1,h.2.2.2 s hs⟩⟩) (R:=CH n nv fs.length) (CH.refl n nv fs.length) CH.trans (fun a d p st hd=>Mv n nv fs.length K known ins fs a d p st hd) ISt.fs kf fs main st
  (fun i hi s hs=>⟨by omega,(hof i hi).2.2.1 s hs⟩) hom
theorem AY.mono {n:Nat} {X Y:World->Nat->Prop} {W:World} {v:Value} {l:Lev} (n1:1<=n) (h:AY n X W v l) (hx:∀ k,k < W.heap.size->Y W k->X W k):AY n Y W v l:=by
 obtain ⟨x,y,hv,h1,h2⟩:=h.off
 obtain ⟨x',y',hv',bx,by'⟩:=h.at_
 rw [hv] at hv'
 simp at hv'
 obtain ⟨rfl,rfl⟩:=hv'
 have lt:∀ (v:Value) (l:List Bool),AN W v l->l.length=n->∀ a m c,v=O (some a) m c->a.block < W.heap.size:=by
  intro v l hb hl a m c e
  obtain ⟨ao,cap,hv,hel⟩:=hb
  obtain ⟨b,off,hao,hel⟩:=hel (by rintro rfl;simp at hl;omega)
  rw [hv,hao] at e
  injection e with e1
  injection e1 with e1
  rw [<-e1]
  exact bL (hel 0 (by omega))
 exact ⟨h.at_,h.len,x,y,hv,fun a m c e hh=>h1 a m c e (hx _ (lt _ _ bx h.len.1 a m c e) hh),fun a m c e hh=>h2 a m c e (hx _ (lt _ _ by' h.len.2 a m c e) hh)⟩
theorem Bd.mono {n:Nat} {X Y:World->Nat->Prop} {W:World} {v:Value} {ls:List Lev} (n1:1<=n) (h:Bd n X W v ls) (hx:∀ k,k < W.heap.size->Y W k->X W k):Bd n Y W v ls:=by
 obtain ⟨ao,cap,hv,hel⟩:=h
 refine ⟨ao,cap,hv,fun hne=>?_⟩
 obtain ⟨b,off,hao,hel⟩:=hel hne
 refine ⟨b,off,hao,fun i hi=>?_⟩
 obtain ⟨rv,wv,h1,h2,h3⟩:=hel i hi
 exact ⟨rv,wv,h1,h2,h3.mono n1 hx⟩
theorem CX.setM {c:WC} {w0:World} {nv nf bw bm:Nat} {st:ISt} {W:World} {b:Bool} (n1:1<=c.n) (hC:EU c w0 bw bm) (h:CX c w0 nv nf bw bm st W):CX c w0 nv nf bw bm ⟨st.vs,st.fs,b⟩ (W.setCell ⟨bm,0,none⟩ (zg b)):=by
 have hsz:(W.setCell ⟨bm,0,none⟩ (zg b)).heap.size=W.heap.size:=by simp [World.setCell]
 have hblk:∀ k,k≠bm->(W.setCell ⟨bm,0,none⟩ (zg b)).heap[k]? = W.heap[k]?:=fun k hk=>Bj (Ne.symm hk) _
 have hF:FrW (XI c bm) W (W.setCell ⟨bm,0,none⟩ (zg b)):=⟨rfl,rfl,rfl,by omega,fun k _ hx=>hblk k (fun e=>hx (Or.inr (Or.inr e))),fun k _ hx=>hx⟩
 have cne:∀ b' o' u,b'≠bm->W.cell? ⟨b',o',none⟩=some u->(W.setCell ⟨bm,0,none⟩ (zg b)).cell? ⟨b',o',none⟩=some u:=fun b' o' u hm hc=>(World.cell?_of_block (a:=⟨b',o',none⟩) (hblk b' hm)).trans hc
 have fzz:∀ b' j,(W.setCell ⟨bm,0,none⟩ (zg b)).frozen? ⟨b',j,none⟩=W.frozen? ⟨b',j,none⟩:=fun b' j=>by simp [go_sem]
 refine ⟨h.below.setCell (p:=⟨bm,0,none⟩) hC.m.1 _,h.vs.keep n1 hF (fun b' o' ln cp hv j u hc=>?_),h.fs.keep n1 hF (fun b' o' ln cp hv j u hc=>?_),h.lv,h.lf,World.cell?_setCell_same _ _ _ h.more,(fzz _ _).trans h.mz,fun j u hu=>cne _ _ _ hC.m.2 (h.row j u hu),fun a e=>⟨by rw [hsz];exact (h.hl a e).1,fun j=>(fzz _ _).trans ((h.hl a e).2 j)⟩,fun a e=>⟨by rw [hsz];exact (h.hk a e).1,fun j=>(fzz _ _).trans ((h.hk a e).2 j)⟩⟩
 ·injection hv with v1
  exact cne _ _ _ (hC.la _ v1).2.2.2.2 hc
 ·injection hv with v1
  exact cne _ _ _ (hC.ka _ v1).2.2.2.2 hc
theorem CX.newM {c:WC} {w0:World} {nv nf bw bm:Nat} {st:ISt} {W:World} (n1:1<=c.n) (hC:EU c w0 bw bm) (h:CX c w0 nv nf bw bm st W):CX c w0 nv nf bw W.heap.size st (W.alloc (ze #[zg st.more] 4)):=by
 have hb:Ov W (W.alloc (ze #[zg st.more] 4)):=bA W _
 have hx:∀ k,k < W.heap.size->XI c W.heap.size W k->XI c bm W k:=fun k hk hx=>by
  rcases hx with h | h | h
  ·exact Or.inl h
  ·exact Or.inr (Or.inl h)
  ·omega
 exact ⟨h.below.trans (hb.mono h.below.size),(h.vs.mono n1 hx).over (EW c _) hb,(h.fs.mono n1 hx).over (EW c _) hb,h.lv,h.lf,by simp [go_sem],by simp [go_sem],h.row.over hb,
  fun a e=>⟨Nat.lt_of_lt_of_le (h.hl a e).1 hb.size,fun j=>((Al hb).2 _ _ (h.hl a e).1).trans ((h.hl a e).2 j)⟩,fun a e=>⟨Nat.lt_of_lt_of_le (h.hk a e).1 hb.size,fun j=>((Al hb).2 _ _ (h.hk a e).1).trans ((h.hk a e).2 j)⟩⟩
theorem EU.newM {c:WC} {w0:World} {nv nf bw bm:Nat} {st:ISt} {W:World} (hC:EU c w0 bw bm) (h:CX c w0 nv nf bw bm st W) (hw:bw < W.heap.size):EU c w0 bw W.heap.size:=
 ⟨fun a e=>by have:=hC.la a e;have h2:=(h.hl a e).1;exact ⟨this.1,this.2.1,this.2.2.1,this.2.2.2.1,by omega⟩,fun a e=>by have:=hC.ka a e;have h2:=(h.hk a e).1;exact ⟨this.1,this.2.1,this.2.2.1,this.2.2.2.1,by omega⟩,hC.lk,h.below.size,by omega⟩
theorem EK {n:Nat} {X:World->Nat->Prop} {W:World} {rb:Nat} {x y v:Value} {Ls:List Lev} (h:Bd n X W v Ls) (hr:∀ j u,W.cell? ⟨rb,j,none⟩=some u->∃ a m c,u=O a m c) (hv:∀ a m c,v=O (some a) m c->a.block≠rb):Bg ((W.setCell ⟨rb,0,none⟩ x).setCell ⟨rb,1,none⟩ y) v Ls:=by
 have cne:∀ b' o' u,b'≠rb->W.cell? ⟨b',o',none⟩=some u->((W.setCell ⟨rb,0,none⟩ x).setCell ⟨rb,1,none⟩ y).cell? ⟨b',o',none⟩=some u:=fun b' o' u hm hc=>by
  rw [BB (Or.inl (Ne.symm hm)),BB (Or.inl (Ne.symm hm))];exact hc
 have hbo:∀ u l,AN W u l->AN ((W.setCell ⟨rb,0,none⟩ x).setCell ⟨rb,1,none⟩ y) u l:=by
  intro u l ⟨ao,cap,e,hel⟩
  refine ⟨ao,cap,e,fun hne=>?_⟩
  obtain ⟨b,off,hao,hel⟩:=hel hne
  refine ⟨b,off,hao,fun i hi=>cne _ _ _ (fun eb=>?_) (hel i hi)⟩
  subst eb
  obtain ⟨a,m,c,e⟩:=hr _ _ (hel i hi)
  cases e
 obtain ⟨ao,cap,hv',hel⟩:=h
 refine ⟨ao,cap,hv',fun hne=>?_⟩
 obtain ⟨b,off,hao,hel⟩:=hel hne
 have hb:b≠rb:=hv _ _ _ (by rw [hv',hao])
 refine ⟨b,off,hao,fun i hi=>?_⟩
 obtain ⟨rv,wv,h1,h2,h3⟩:=hel i hi
 obtain ⟨x',y',e,bx,by'⟩:=h3.at_
 exact ⟨rv,wv,cne _ _ _ hb h1,cne _ _ _ hb h2,x',y',e,hbo _ _ bx,hbo _ _ by'⟩
theorem Ij {n B:Nat} {W:World} {a:Option Addr} {ln lc:Nat} {Ls:List Lev} (h:A3 n B W (O a ln lc) Ls):a=none->lc=0:=by
 obtain ⟨us,ho,-⟩:=h
 intro e
 rcases ho.2 with ⟨h,-⟩ | ⟨g,cap,cur,h,-⟩
 ·injection h with h1 h2 h3
 ·injection h with h1 h2 h3
  rw [e] at h1
  cases h1
theorem Mi (c:WC) {w1 w2:World} {Ls Fs:List Lev} {nv nf:Nat} (n1:1<=c.n) (hv:A3 c.n w1.heap.size w2 (O c.la c.ln c.lc) Ls) (hk:A3 c.n w1.heap.size w2 (O c.ka c.kn c.kc) Fs) (hap:Value.ownBlock (O c.la c.ln c.lc)=none\/Value.ownBlock (O c.la c.ln c.lc)≠Value.ownBlock (O c.ka c.kn c.kc)) (hb2:Ov w1 w2) (hlv:Ls.length=nv) (hlf:Fs.length=nf) :
  EU c w1 w2.heap.size (w2.heap.size+1)/\CX c w1 nv nf w2.heap.size (w2.heap.size+1) ⟨Ls,Fs,true⟩ ((w2.alloc (.cells c.cs.toArray 110)).alloc (ze #[zg true] 4)):=by
 have e1:∀ a,c.la=some a->a.off=0/\a.spot=none/\w1.heap.size<=a.block/\a.block < w2.heap.size/\(∀ j,w2.frozen? ⟨a.block,j,none⟩=false)/\Ei w2 a.block:=fun a e=>by
  rw [e] at hv
  obtain ⟨o1,o2,o3,o4,o5⟩:=FQ hv
  obtain ⟨-,cur,fr,hh⟩:=B3 hv a.block (by simp [Value.ownBlock])
  exact ⟨o1,o2,o3,o4,o5,fun cur' fr' h'=>by rw [hh] at h';injection h' with h';injection h' with h1 h2;exact absurd h2 (by decide)⟩
 have e2:∀ a,c.ka=some a->a.off=0/\a.spot=none/\w1.heap.size<=a.block/\a.block < w2.heap.size/\(∀ j,w2.frozen? ⟨a.block,j,none⟩=false)/\Ei w2 a.block:=fun a e=>by
  rw [e] at hk
  obtain ⟨o1,o2,o3,o4,o5⟩:=FQ hk
  obtain ⟨-,cur,fr,hh⟩:=B3 hk a.block (by simp [Value.ownBlock])
  exact ⟨o1,o2,o3,o4,o5,fun cur' fr' h'=>by rw [hh] at h';injection h' with h';injection h' with h1 h2;exact absurd h2 (by decide)⟩
 have hx:∀ k,XI c (w2.heap.size+1) w2 k->Ei w2 k\/w2.heap.size<=k:=fun k h=>by
  rcases h with ⟨a,e,rfl⟩ | ⟨a,e,rfl⟩ | rfl
  ·exact Or.inl (e1 a e).2.2.2.2.2
  ·exact Or.inl (e2 a e).2.2.2.2.2
  ·exact Or.inr (by omega)
 have hb:Ov w2 ((w2.alloc (.cells c.cs.toArray 110)).alloc (ze #[zg true] 4)):=(bA w2 _).alloc (by simp) _
 refine ⟨⟨fun a e=>?_,fun a e=>?_,fun a b ea eb=>?_,?_,by omega⟩,⟨Ac hb2 hb,(Ej n1 hv hx).over (EW c _) hb,(Ej n1 hk hx).over (EW c _) hb,hlv,hlf,?_,?_,?_,fun a e=>?_,fun a e=>?_⟩⟩
 ·obtain ⟨o1,o2,o3,o4,-⟩:=e1 a e;exact ⟨o1,o2,o3,by omega,by omega⟩
 ·obtain ⟨o1,o2,o3,o4,-⟩:=e2 a e;exact ⟨o1,o2,o3,by omega,by omega⟩
 ·rw [ea,eb] at hap
  rcases hap with h | h
  ·simp [Value.ownBlock] at h
  ·intro e;apply h;simp [Value.ownBlock,e]
 ·have:=hb2.size;omega
 ·simp [go_sem]
 ·simp [go_sem]
 ·exact (Ae.new c.cs 110 w2).over (bA _ _)
 ·obtain ⟨o1,o2,o3,o4,o5,-⟩:=e1 a e
  exact ⟨Nat.lt_of_lt_of_le o4 hb.size,fun j=>((Al hb).2 _ _ o4).trans (o5 j)⟩
 ·obtain ⟨o1,o2,o3,o4,o5,-⟩:=e2 a e
  exact ⟨Nat.lt_of_lt_of_le o4 hb.size,fun j=>((Al hb).2 _ _ o4).trans (o5 j)⟩
def O6 (c:WC) (K kf:Nat) (gs:List (Int × Int)) (vs:List (Bool × Lab)) (ls:List Lab) (fs:List FnD) (l:List D) (w0:World) (bw:Nat) (x:Value × World) (N:Nat):Prop:=
 ∃ bm k,x.1=zj (some ⟨bm,0,none⟩)/\EU c w0 bw bm/\CX c w0 vs.length fs.length bw bm (B5 c.n K kf (vs.map Prod.fst) (ls.map (AA (AD gs) c.n)) fs l (Ch gs c.n vs fs.length) k) x.2/\bw < x.2.heap.size /\
  N=2*Du c.n (B5 c.n K kf (vs.map Prod.fst) (ls.map (AA (AD gs) c.n)) fs l (Ch gs c.n vs fs.length) k)+(if (B5 c.n K kf (vs.map Prod.fst) (ls.map (AA (AD gs) c.n)) fs l (Ch gs c.n vs fs.length) k).more=true then 1 else 0) /\
  ∀ j,j < k->(B5 c.n K kf (vs.map Prod.fst) (ls.map (AA (AD gs) c.n)) fs l (Ch gs c.n vs fs.length) j).more=true
def Hz (K kf:Nat) (m:Int) (vn yn on:Nat) (gs:List (Int × Int)) (sp:List Int) (ls ms:List Lab) (vs:List (Bool × Lab)) (fs:List FnD) (l:List D) (P:Int->Prop) (w:World) (e:Ending) (w':World):Prop:=
 ∃ why:Int,P why/\Ov w w'/\((why≠0/\e=zk (zm #[zh #[O none 0 0,O none 0 0],U zd why])) \/
  (why=0/\okP K kf m vn yn on gs sp ls ms vs fs l/\∃ (n:Nat) (st:ISt) (la:Option Addr) (ln lc:Nat) (ka:Option Addr) (kn kc:Nat),m=n/\e=zk (zm #[zh #[O la ln lc,O ka kn kc],U zd 0])/\Bg w' (O la ln lc) st.vs/\Bg w' (O ka kn kc) st.fs/\(∀ x∈st.vs,x.len n)/\(∀ x∈st.fs,x.len n)/\st.vs.length=vn/\st.fs.length=fs.length/\Bz n K kf gs vs ls fs l st/\(la=none->lc=0)/\(ka=none->kc=0)))
theorem MV (K kf n:Nat) (h1:1<=n) (h6:n<=6) (ga gn gc sa sn sc ya yn yc oa on oc va vn vc fa fn fc ba bn bc gs sp ls ms vs fs l) (w:World) (h:BE K kf (n:Int) ga gn gc sa sn sc ya yn yc oa on oc va vn vc fa fn fc ba bn bc gs sp ls ms vs fs l w)
  (P:Int->Prop) (KS:∀ W,Ov w W->Calls Tryz.prog 53 #[zh #[U zd (n:Int),O ga gn gc,O sa sn sc,O ya yn yc,O oa on oc,O va vn vc,O fa fn fc,O ba bn bc]] W fun e w'=>∃ why:Int,e=zk (U zd why)/\P why/\Ov W w') (hP:P 0->okP K kf (n:Int) vn yn on gs sp ls ms vs fs l) :
  Calls Tryz.prog 15 #[zh #[U zd (n:Int),O ga gn gc,O sa sn sc,O ya yn yc,O oa on oc,O va vn vc,O fa fn fc,O ba bn bc]] w (Hz K kf (n:Int) vn yn on gs sp ls ms vs fs l P w):=by
 obtain rfl:vn=vs.length:=by obtain ⟨-,a,c,he,-⟩:=h.vars;injection he
 obtain rfl:yn=ls.length:=by obtain ⟨-,a,c,he,-⟩:=h.ins;injection he
 obtain rfl:fn=fs.length:=by obtain ⟨-,a,c,he,-⟩:=h.funcs;injection he
 have hb0:Ov w ((w.alloc (ze #[U zd (n:Int),O ga gn gc,O sa sn sc,O ya ls.length yc,O oa on oc,O va vs.length vc,O fa fs.length fc,O ba bn bc] 31)).alloc (ze #[O none 0 0,O none 0 0] 44)):=(bA w _).alloc (by simp) _
 have K1:=Aa (KS _ hb0)
 have KL:=Aa fun W (hW:Ov w W) (hok:okP K kf (n:Int) vs.length ls.length on gs sp ls ms vs fs l)=>OC n h1 h6 ga gn gc sa sn sc ya ls.length yc oa on oc va vs.length vc fa fs.length fc ba bn bc gs vs W (Af h.grants hW) hok.chk (h.vars.over hW) hok.labs.2.1 hok.vars hok.funcs
 have rowP:Ae [U zd (n:Int),O ga gn gc,O sa sn sc,O ya ls.length yc,O oa on oc,O va vs.length vc,O fa fs.length fc,O ba bn bc] ((w.alloc (ze #[U zd (n:Int),O ga gn gc,O sa sn sc,O ya ls.length yc,O oa on oc,O va vs.length vc,O fa fs.length fc,O ba bn bc] 31)).alloc (ze #[O none 0 0,O none 0 0] 44)) w.heap.size:=(Ae.new [U zd (n:Int),O ga gn gc,O sa sn sc,O ya ls.length yc,O oa on oc,O va vs.length vc,O fa fs.length fc,O ba bn bc] 31 w).over (bA _ _)
 have heR:((w.alloc (ze #[U zd (n:Int),O ga gn gc,O sa sn sc,O ya ls.length yc,O oa on oc,O va vs.length vc,O fa fs.length fc,O ba bn bc] 31)).alloc (ze #[O none 0 0,O none 0 0] 44)).heap[w.heap.size+1]? = some (ze #[O none 0 0,O none 0 0] 44):=by
  have:=AJ (w.alloc (ze #[U zd (n:Int),O ga gn gc,O sa sn sc,O ya ls.length yc,O oa on oc,O va vs.length vc,O fa fs.length fc,O ba bn bc] 31)) (ze #[O none 0 0,O none 0 0] 44)
  simpa using this
 have HP:=Aa hP
 have H:=Aa h
 obtain ⟨V0,hV0⟩:=nm (((w.alloc (ze #[U zd (n:Int),O ga gn gc,O sa sn sc,O ya ls.length yc,O oa on oc,O va vs.length vc,O fa fs.length fc,O ba bn bc] 31)).alloc (ze #[O none 0 0,O none 0 0] 44)))
 have hs0:V0.heap.size=w.heap.size+1+1:=by rw [hV0];simp
 rw [<-hV0] at hb0 rowP heR
 have HB0:=Aa hb0
 have HRP:=Aa rowP
 have HER:=Aa heR
 have HS0:=Aa hs0
 rw [hV0] at rowP
 obtain ⟨c0,c1,c2,c3,c4,c5,c6,c7⟩:=rc8 rowP
 clear hb0 rowP heR h hP hs0 KS
 go_enter Tryz.func15,Tryz.ntmps15
 go_wp2_with fail
 refine (K1.o).mono ?_
 rintro e w1 ⟨why,rfl,hPw,hb1⟩
 rw [<-hV0] at hb1
 clear c0 c1 c2 c3 c4 c5 c6 c7 K1
 have hRP1:=HRP.o.over hb1
 have heR1:w1.heap[w.heap.size+1]? = some (ze #[O none 0 0,O none 0 0] 44):=(hb1.block _ (by rw [HS0.o];omega)).trans HER.o
 have HB1:=Aa (Ac HB0.o (by simpa using hb1))
 have hsz1:w.heap.size+1+1<=w1.heap.size:=by have:=hb1.size;rw [HS0.o] at this;exact this
 have r0:w1.cell? ⟨w.heap.size+1,0,none⟩=some (O none 0 0):=by rw [Lib.cell_of_heap heR1];rfl
 have r1:w1.cell? ⟨w.heap.size+1,1,none⟩=some (O none 0 0):=by rw [Lib.cell_of_heap heR1];rfl
 have rz:∀ j,w1.frozen? ⟨w.heap.size+1,j,none⟩=false:=fun j=>by simp [World.frozen?,heR1]
 have HR1:=Aa heR1
 have HSZ1:=Aa hsz1
 by_cases hz:why=0
 ·subst hz
  have hok:=HP.o hPw
  have HOK:=Aa hok
  have HPW:=Aa hPw
  have KL1:=Aa (KL.o w1 HB1.o hok)
  obtain ⟨c0,c1,c2,c3,c4,c5,c6,c7⟩:=rc8 hRP1
  clear hok hPw hb1 hRP1 heR1 hV0 hsz1 KL HP
  go_wp2_with fail
  refine (KL1.o).mono ?_
  rintro e w2 ⟨la,ln,lc,ka,kn,kc,rfl,hv,hk,hap,hb2⟩
  have hS:=Mi (⟨n,ga,gn,gc,sa,sn,sc,ya,ls.length,yc,oa,on,oc,va,vs.length,vc,fa,fs.length,fc,ba,bn,bc,la,ln,lc,ka,kn,kc⟩:WC) h1 hv hk hap hb2 (nv:=vs.length) (nf:=fs.length) (by simp [Cl]) (by simp)
  have HSt:=Aa hS
  have HNN:=Aa (And.intro (Ij hv) (Ij hk))
  have HB2:=Aa hb2
  have hPr:=H.o.over HB1.o
  have hok:=HOK.o
  have KA:Hx (∀ (bm:Nat) (st:ISt) (W:World),EU (⟨n,ga,gn,gc,sa,sn,sc,ya,ls.length,yc,oa,on,oc,va,vs.length,vc,fa,fs.length,fc,ba,bn,bc,la,ln,lc,ka,kn,kc⟩:WC) w1 w2.heap.size bm->CX (⟨n,ga,gn,gc,sa,sn,sc,ya,ls.length,yc,oa,on,oc,va,vs.length,vc,fa,fs.length,fc,ba,bn,bc,la,ln,lc,ka,kn,kc⟩:WC) w1 vs.length fs.length w2.heap.size bm st W->Calls Tryz.prog 55 #[zh #[U zd (n:Int),O ga gn gc,O sa sn sc,O ya ls.length yc,O oa on oc,O va vs.length vc,O fa fs.length fc,O ba bn bc,O la ln lc,O ka kn kc],.func (.func 56) #[] #[zj (some ⟨w2.heap.size,0,none⟩),zj (some ⟨bm,0,none⟩)]] W fun e W'=>e=zk (zm #[])/\CX (⟨n,ga,gn,gc,sa,sn,sc,ya,ls.length,yc,oa,on,oc,va,vs.length,vc,fa,fs.length,fc,ba,bn,bc,la,ln,lc,ka,kn,kc⟩:WC) w1 vs.length fs.length w2.heap.size bm (DZ n K kf (vs.map Prod.fst) (ls.map (AA (AD gs) n)) fs l st) W'/\FrW (XI (⟨n,ga,gn,gc,sa,sn,sc,ya,ls.length,yc,oa,on,oc,va,vs.length,vc,fa,fs.length,fc,ba,bn,bc,la,ln,lc,ka,kn,kc⟩:WC) bm) W W'):=fun bm st W hC hI=>
   Mw (O8 (c:=(⟨n,ga,gn,gc,sa,sn,sc,ya,ls.length,yc,oa,on,oc,va,vs.length,vc,fa,fs.length,fc,ba,bn,bc,la,ln,lc,ka,kn,kc⟩:WC)) h1 h6 hPr.grants hok.chk hok.vars hC) (BZ n) Ng (Aa (Nd (⟨n,ga,gn,gc,sa,sn,sc,ya,ls.length,yc,oa,on,oc,va,vs.length,vc,fa,fs.length,fc,ba,bn,bc,la,ln,lc,ka,kn,kc⟩:WC) w1 vs.length w2.heap.size bm fs gs h1 hPr.grants hok.chk hC)) vs hPr.vars rfl ls hPr.ins (fun b hb=>hok.labs.1 b (List.mem_append_left _ hb)) rfl hok.ins kf hPr.funcs hok.funcs hok.body l hPr.main hok.main hok.many st W hI
  have HBits:Hx (∀ st,CH n vs.length fs.length st (DZ n K kf (vs.map Prod.fst) (ls.map (AA (AD gs) n)) fs l st)):=fun st=>Ks n K kf vs.length ls.length on _ _ fs l st hok.body hok.main
  obtain ⟨μ,hμ⟩:=KZ (O6 (⟨n,ga,gn,gc,sa,sn,sc,ya,ls.length,yc,oa,on,oc,va,vs.length,vc,fa,fs.length,fc,ba,bn,bc,la,ln,lc,ka,kn,kc⟩:WC) K kf gs vs ls fs l w1 w2.heap.size)
  have HM:=Aa hμ
  clear hv hk hap hS hPr hok hμ hb2 c0 c1 c2 c3 c4 c5 c6 c7 KL1 r0 r1 rz
  go_wp2_with fail
  go_loopw [6] (fun x wr=>∃ N,O6 (⟨n,ga,gn,gc,sa,sn,sc,ya,ls.length,yc,oa,on,oc,va,vs.length,vc,fa,fs.length,fc,ba,bn,bc,la,ln,lc,ka,kn,kc⟩:WC) K kf gs vs ls fs l w1 w2.heap.size (x,wr) N) (fun x wr=>μ (x,wr))
  case atStart=>exact ⟨_,w2.heap.size+1,0,rfl,HSt.o.1,HSt.o.2,by simp <;> omega,rfl,fun j hj=>absurd hj (by omega)⟩
  case round=>
   obtain ⟨N,hN⟩:=hrel
   obtain ⟨⟨bm,k,hx,hC,hI,hlt,hNe,hmore⟩,-⟩:=HM.o _ _ hN
   clear hN
   dsimp only at hx hI hlt
   subst hx
   have HNE:=Aa hNe
   have HMO:=Aa hmore
   have hI2:=hI
   by_cases hm:((B5 n K kf (vs.map Prod.fst) (ls.map (AA (AD gs) n)) fs l (Ch gs n vs fs.length) k)).more=true
   ·have m0:wr.cell? ⟨bm,0,none⟩=some (zg true):=by have:=hI.more;rw [<-hm];exact this
    have mz:wr.frozen? ⟨bm,0,none⟩=false:=hI.mz
    have hI1:=CX.setM (b:=false) h1 hC hI
    have KA1:=Aa (KA.o bm _ _ hC hI1)
    have HC:=Aa hC
    have HL:=Aa hlt
    have HMM:=Aa hm
    have rw0:Ae [U zd (n:Int),O ga gn gc,O sa sn sc,O ya ls.length yc,O oa on oc,O va vs.length vc,O fa fs.length fc,O ba bn bc,O la ln lc,O ka kn kc] (wr.setCell ⟨bm,0,none⟩ (zg false)) w2.heap.size:=hI1.row
    obtain ⟨c0,c1,c2,c3,c4,c5,c6,c7,c8,c9⟩:=Cd rw0
    have HLen:=Aa (And.intro hI1.lv hI1.lf)
    clear rw0 hI hI1 hI2 hNe hmore hlt hC hm
    go_wp2_with fail
    refine (KA1.o).mono ?_
    rintro e w3 ⟨rfl,hI3,hF3⟩
    clear c0 c1 c2 c3 c4 c5 c6 c7 c8 c9 m0 mz KA1
    have m0:=hI3.more
    have HI3:=Aa hI3
    have HF3:=Aa hF3
    clear hI3 hF3
    go_wp2_with fail
    have hsz:w2.heap.size < w3.heap.size:=by have h1:=HF3.o.size;have h2:=HL.o;simp [World.setCell] at h1;omega
    obtain ⟨-,b1,b2⟩:=HBits.o ⟨(B5 n K kf (vs.map Prod.fst) (ls.map (AA (AD gs) n)) fs l (Ch gs n vs fs.length) k).vs,(B5 n K kf (vs.map Prod.fst) (ls.map (AA (AD gs) n)) fs l (Ch gs n vs fs.length) k).fs,false⟩ HLen.o
    have hP:O6 (⟨n,ga,gn,gc,sa,sn,sc,ya,ls.length,yc,oa,on,oc,va,vs.length,vc,fa,fs.length,fc,ba,bn,bc,la,ln,lc,ka,kn,kc⟩:WC) K kf gs vs ls fs l w1 w2.heap.size (zj (some ⟨w3.heap.size,0,none⟩),_) _:=⟨w3.heap.size,k+1,rfl,HC.o.newM HI3.o hsz,CX.newM h1 HC.o HI3.o,by simp <;> omega,rfl,fun j hj=>by
     by_cases hjk:j=k
     ·subst hjk;exact HMM.o
     ·exact HMO.o j (by omega)⟩
    refine ⟨⟨_,hP⟩,Nat.lt_of_le_of_lt ((HM.o _ _ hP).2 _ hP) ?_⟩
    rw [HNE.o,if_pos HMM.o]
    have hbe:Du n ⟨(B5 n K kf (vs.map Prod.fst) (ls.map (AA (AD gs) n)) fs l (Ch gs n vs fs.length) k).vs,(B5 n K kf (vs.map Prod.fst) (ls.map (AA (AD gs) n)) fs l (Ch gs n vs fs.length) k).fs,false⟩=Du n (B5 n K kf (vs.map Prod.fst) (ls.map (AA (AD gs) n)) fs l (Ch gs n vs fs.length) k):=rfl
    rw [hbe] at b1 b2
    show 2*Du n (DZ n K kf (vs.map Prod.fst) (ls.map (AA (AD gs) n)) fs l ⟨(B5 n K kf (vs.map Prod.fst) (ls.map (AA (AD gs) n)) fs l (Ch gs n vs fs.length) k).vs,(B5 n K kf (vs.map Prod.fst) (ls.map (AA (AD gs) n)) fs l (Ch gs n vs fs.length) k).fs,false⟩)+(if (DZ n K kf (vs.map Prod.fst) (ls.map (AA (AD gs) n)) fs l ⟨(B5 n K kf (vs.map Prod.fst) (ls.map (AA (AD gs) n)) fs l (Ch gs n vs fs.length) k).vs,(B5 n K kf (vs.map Prod.fst) (ls.map (AA (AD gs) n)) fs l (Ch gs n vs fs.length) k).fs,false⟩).more=true then 1 else 0) < 2*Du n (B5 n K kf (vs.map Prod.fst) (ls.map (AA (AD gs) n)) fs l (Ch gs n vs fs.length) k)+1
    split
    ·rename_i hmm
     rcases b2 hmm with h | h
     ·cases h
     ·omega
    ·omega
   ·have hmf:((B5 n K kf (vs.map Prod.fst) (ls.map (AA (AD gs) n)) fs l (Ch gs n vs fs.length) k)).more=false:=by simpa using hm
    have m0:wr.cell? ⟨bm,0,none⟩=some (zg false):=by have:=hI.more;rw [<-hmf];exact this
    have hblk:wr.heap[w.heap.size+1]? = some (ze #[O none 0 0,O none 0 0] 44):=(hI.below.block _ (by have:=HSZ1.o;omega)).trans HR1.o
    have r0:wr.cell? ⟨w.heap.size+1,0,none⟩=some (O none 0 0):=by rw [Lib.cell_of_heap hblk];rfl
    have r1:wr.cell? ⟨w.heap.size+1,1,none⟩=some (O none 0 0):=by rw [Lib.cell_of_heap hblk];rfl
    have rz:∀ j,wr.frozen? ⟨w.heap.size+1,j,none⟩=false:=fun j=>by simp [World.frozen?,hblk]
    have HBK:=Aa hblk
    have rw0:Ae [U zd (n:Int),O ga gn gc,O sa sn sc,O ya ls.length yc,O oa on oc,O va vs.length vc,O fa fs.length fc,O ba bn bc,O la ln lc,O ka kn kc] wr w2.heap.size:=hI.row
    have c8:=rw0 8 _ rfl
    have c9:=rw0 9 _ rfl
    have HI:=Aa hI
    have HC:=Aa hC
    have HMF:=Aa hmf
    clear rw0 hI hI2 hNe hmore hlt hC hm hmf hblk
    go_wp2_with fail
    have hBf:Ov w ((wr.setCell ⟨w.heap.size+1,0,none⟩ (O la ln lc)).setCell ⟨w.heap.size+1,1,none⟩ (O ka kn kc)):=((HB1.o.trans (HI.o.below.mono (by have:=HSZ1.o;omega))).setCell (p:=⟨w.heap.size+1,0,none⟩) (by simp) _).setCell (p:=⟨w.heap.size+1,1,none⟩) (by simp) _
    have hcr:∀ j u,wr.cell? ⟨w.heap.size+1,j,none⟩=some u->∃ a m c,u=O a m c:=fun j u hu=>by
     rw [Lib.cell_of_heap HBK.o] at hu
     match j,hu with
     | 0,hu=>simp at hu;exact ⟨_,_,_,hu.symm⟩
     | 1,hu=>simp at hu;exact ⟨_,_,_,hu.symm⟩
     | j+2,hu=>simp at hu
    have hL1:=EK (x:=O la ln lc) (y:=O ka kn kc) HI.o.vs hcr (fun a m c e=>by injection e with e1;have:=(HC.o.la a e1).2.2.1;have:=HSZ1.o;omega)
    have hL2:=EK (x:=O la ln lc) (y:=O ka kn kc) HI.o.fs hcr (fun a m c e=>by injection e with e1;have:=(HC.o.ka a e1).2.2.1;have:=HSZ1.o;omega)
    have hk0:k≠0:=fun e=>by have:=HMF.o;rw [e] at this;cases this
    obtain ⟨k',hk'⟩:=Nat.exists_eq_succ_of_ne_zero hk0
    refine bodyPost_ret (v:=zm #[zh #[O la ln lc,O ka kn kc],U zd 0]) (by simp [results,Tryz.results15,go_sem,r0,r1]) rfl ⟨0,HPW.o,hBf,Or.inr ⟨rfl,HOK.o,n,_,la,ln,lc,ka,kn,kc,rfl,rfl,hL1,hL2,HI.o.vs.len,HI.o.fs.len,HI.o.lv,HI.o.lf,⟨k',?_,HMF.o,fun j hj=>HMO.o (j+1) (by omega)⟩,HNN.o.1,HNN.o.2⟩⟩
    rw [hk']
 ·have HZ:=Aa hz
  have HPW:=Aa hPw
  clear hPw hb1 hRP1 heR1 hV0 hsz1 KL HP
  go_wp2_with fail
  refine bodyPost_ret (v:=zm #[zh #[O none 0 0,O none 0 0],U zd why]) ?_ rfl ⟨why,HPW.o,?_,Or.inl ⟨HZ.o,rfl⟩⟩
  ·simp [results,Tryz.results15,go_sem,r0,r1]
  ·exact (HB1.o.setCell (p:=⟨w.heap.size+1,0,none⟩) (by simp) _).setCell (p:=⟨w.heap.size+1,1,none⟩) (by simp) _
theorem MW (K kf:Nat) (m:Int) (ga gn gc sa sn sc ya yn yc oa on oc va vn vc fa fn fc ba bn bc gs sp ls ms vs fs l) (w:World)
  (P:Int->Prop) (KS:∀ W,Ov w W->Calls Tryz.prog 53 #[zh #[U zd m,O ga gn gc,O sa sn sc,O ya yn yc,O oa on oc,O va vn vc,O fa fn fc,O ba bn bc]] W fun e w'=>∃ why:Int,e=zk (U zd why)/\P why/\Ov W w') (hP:¬ P 0) :
  Calls Tryz.prog 15 #[zh #[U zd m,O ga gn gc,O sa sn sc,O ya yn yc,O oa on oc,O va vn vc,O fa fn fc,O ba bn bc]] w (Hz K kf m vn yn on gs sp ls ms vs fs l P w):=by
 have hb0:Ov w ((w.alloc (ze #[U zd m,O ga gn gc,O sa sn sc,O ya yn yc,O oa on oc,O va vn vc,O fa fn fc,O ba bn bc] 31)).alloc (ze #[O none 0 0,O none 0 0] 44)):=(bA w _).alloc (by simp) _
 have K1:=Aa (KS _ hb0)
 have rowP:Ae [U zd m,O ga gn gc,O sa sn sc,O ya yn yc,O oa on oc,O va vn vc,O fa fn fc,O ba bn bc] ((w.alloc (ze #[U zd m,O ga gn gc,O sa sn sc,O ya yn yc,O oa on oc,O va vn vc,O fa fn fc,O ba bn bc] 31)).alloc (ze #[O none 0 0,O none 0 0] 44)) w.heap.size:=(Ae.new [U zd m,O ga gn gc,O sa sn sc,O ya yn yc,O oa on oc,O va vn vc,O fa fn fc,O ba bn bc] 31 w).over (bA _ _)
 have rowR:Ae [O none 0 0,O none 0 0] ((w.alloc (ze #[U zd m,O ga gn gc,O sa sn sc,O ya yn yc,O oa on oc,O va vn vc,O fa fn fc,O ba bn bc] 31)).alloc (ze #[O none 0 0,O none 0 0] 44)) (w.heap.size+1):=by
  have:=Ae.new [O none 0 0,O none 0 0] 44 (w.alloc (ze #[U zd m,O ga gn gc,O sa sn sc,O ya yn yc,O oa on oc,O va vn vc,O fa fn fc,O ba bn bc] 31))
  simpa using this
 have rf:∀ j,((w.alloc (ze #[U zd m,O ga gn gc,O sa sn sc,O ya yn yc,O oa on oc,O va vn vc,O fa fn fc,O ba bn bc] 31)).alloc (ze #[O none 0 0,O none 0 0] 44)).frozen? ⟨w.heap.size+1,j,none⟩=false:=fun j=>by simp [go_sem]
 have HB0:=Aa hb0
 have HRR:=Aa rowR
 have HRF:=Aa rf
 have HP:=Aa hP
 obtain ⟨c0,c1,c2,c3,c4,c5,c6,c7⟩:=rc8 rowP
 clear hb0 rowP rowR rf hP KS
 go_enter Tryz.func15,Tryz.ntmps15
 go_wp2_with fail
 refine (K1.o).mono ?_
 rintro e w1 ⟨why,rfl,hPw,hb1⟩
 have hrr:=HRR.o.over hb1
 obtain ⟨r0,r1⟩:=rc2 hrr
 have rz:∀ j,w1.frozen? ⟨w.heap.size+1,j,none⟩=false:=fun j=>((Al hb1).2 _ _ (by simp)).trans (HRF.o j)
 have HB1:=Aa (Ac HB0.o hb1)
 have hz:why≠0:=fun e=>HP.o (e ▸ hPw)
 have HZ:=Aa hz
 have HPW:=Aa hPw
 clear hPw hb1 hrr c0 c1 c2 c3 c4 c5 c6 c7 K1
 go_wp2_with fail
 refine bodyPost_ret (v:=zm #[zh #[O none 0 0,O none 0 0],U zd why]) ?_ rfl ⟨why,HPW.o,?_,Or.inl ⟨HZ.o,rfl⟩⟩
 ·simp [results,Tryz.results15,go_sem,r0,r1]
 ·exact (HB1.o.setCell (p:=⟨w.heap.size+1,0,none⟩) (by simp) _).setCell (p:=⟨w.heap.size+1,1,none⟩) (by simp) _
theorem Hh (K kf:Nat) (m:Int) (ga gn gc sa sn sc ya yn yc oa on oc va vn vc fa fn fc ba bn bc gs sp ls ms vs fs l) (w:World) (h:BE K kf m ga gn gc sa sn sc ya yn yc oa on oc va vn vc fa fn fc ba bn bc gs sp ls ms vs fs l w)
  (P:Int->Prop) (KS:∀ W,Ov w W->Calls Tryz.prog 53 #[zh #[U zd m,O ga gn gc,O sa sn sc,O ya yn yc,O oa on oc,O va vn vc,O fa fn fc,O ba bn bc]] W fun e w'=>∃ why:Int,e=zk (U zd why)/\P why/\Ov W w') (hP:P 0->okP K kf m vn yn on gs sp ls ms vs fs l) :
  Calls Tryz.prog 15 #[zh #[U zd m,O ga gn gc,O sa sn sc,O ya yn yc,O oa on oc,O va vn vc,O fa fn fc,O ba bn bc]] w (Hz K kf m vn yn on gs sp ls ms vs fs l P w):=by
 by_cases h0:P 0
 ·obtain ⟨n,rfl,n1,n6,-⟩:=D5 (hP h0).chk
  exact MV K kf n n1 n6 ga gn gc sa sn sc ya yn yc oa on oc va vn vc fa fn fc ba bn bc gs sp ls ms vs fs l w h P KS hP
 ·exact MW K kf m ga gn gc sa sn sc ya yn yc oa on oc va vn vc fa fn fc ba bn bc gs sp ls ms vs fs l w P KS h0
theorem JC (m:Int) (ga gn gc) (sa sn sc ya yn yc oa on oc) (va:Option Addr) (vn vc:Nat) (fa:Option Addr) (fn fc:Nat) (ba bn bc gs) (la ln lc ka kn kc) (LsV LsF) (w:World) (hg:Az w (O ga gn gc) gs) (hV:Bg w (O la ln lc) LsV) (hF:Bg w (O ka kn kc) LsF) (hvl:LsV.length<=9223372036854775807) (hfl:LsF.length<=9223372036854775807) (hvn:vn<=9223372036854775807) (hfn:fn<=9223372036854775807)
  (X:Prop) (KS:∀ W,Ov w W->Calls Tryz.prog 53 #[zh #[U zd m,O ga gn gc,O sa sn sc,O ya yn yc,O oa on oc,O va vn vc,O fa fn fc,O ba bn bc]] W fun e w'=>∃ why:Int,e=zk (U zd why)/\(why=0 ↔ X)/\Ov W w') :
  Calls Tryz.prog 98 #[zh #[U zd m,O ga gn gc,O sa sn sc,O ya yn yc,O oa on oc,O va vn vc,O fa fn fc,O ba bn bc],zh #[O la ln lc,O ka kn kc]] w fun e w'=>∃ why:Int,e=zk (U zd why)/\(why=0 ↔ (X/\LsV.length=vn/\LsF.length=fn/\(∀ x∈LsV,Bq m gs x=0)/\∀ x∈LsF,Bq m gs x=0))/\Ov w w':=by
 have hb0:Ov w ((w.alloc (ze #[U zd m,O ga gn gc,O sa sn sc,O ya yn yc,O oa on oc,O va vn vc,O fa fn fc,O ba bn bc] 31)).alloc (ze #[O la ln lc,O ka kn kc] 44)):=(bA w _).alloc (by simp) _
 have K1:=Aa (KS _ hb0)
 have hlv:ln=LsV.length:=by obtain ⟨a,c,he,-⟩:=hV;injection he
 have hlf:kn=LsF.length:=by obtain ⟨a,c,he,-⟩:=hF;injection he
 have hln:ln<=9223372036854775807:=by omega
 have hkn:kn<=9223372036854775807:=by omega
 have HNLsV:=Aa hlv
 have HNLsF:=Aa hlf
 have HLsV:=Aa hV
 have HLsF:=Aa hF
 have KR:=Aa fun vl (x:Lev) W (hW:Ov w W) (hx:AQ W vl x)=>JY m (O ga gn gc) gs vl x W (Af hg hW) hx
 have rowP:Ae [U zd m,O ga gn gc,O sa sn sc,O ya yn yc,O oa on oc,O va vn vc,O fa fn fc,O ba bn bc] ((w.alloc (ze #[U zd m,O ga gn gc,O sa sn sc,O ya yn yc,O oa on oc,O va vn vc,O fa fn fc,O ba bn bc] 31)).alloc (ze #[O la ln lc,O ka kn kc] 44)) w.heap.size:=(Ae.new [U zd m,O ga gn gc,O sa sn sc,O ya yn yc,O oa on oc,O va vn vc,O fa fn fc,O ba bn bc] 31 w).over (bA _ _)
 have rowL:Ae [O la ln lc,O ka kn kc] ((w.alloc (ze #[U zd m,O ga gn gc,O sa sn sc,O ya yn yc,O oa on oc,O va vn vc,O fa fn fc,O ba bn bc] 31)).alloc (ze #[O la ln lc,O ka kn kc] 44)) (w.heap.size+1):=by
  have:=Ae.new [O la ln lc,O ka kn kc] 44 (w.alloc (ze #[U zd m,O ga gn gc,O sa sn sc,O ya yn yc,O oa on oc,O va vn vc,O fa fn fc,O ba bn bc] 31))
  simpa using this
 have HB0:=Aa hb0
 have HRP:=Aa rowP
 have HRL:=Aa rowL
 obtain ⟨c0,c1,c2,c3,c4,c5,c6,c7⟩:=rc8 rowP
 clear hb0 rowP rowL hV hF hg KS hlv hlf hvl hfl
 go_enter Tryz.func98,Tryz.ntmps98
 go_wp2_with fail
 refine (K1.o).mono ?_
 rintro e w1 ⟨why,rfl,hP,hb1⟩
 have HB1:=Aa (Ac HB0.o hb1)
 have HRP1:=Aa (HRP.o.over hb1)
 have hRL1:=HRL.o.over hb1
 have HPW:=Aa hP
 clear c0 c1 c2 c3 c4 c5 c6 c7 K1 hP hb1
 by_cases hz:why=0
 rotate_left
 ·have HZ:=Aa hz
  go_wp2_with fail
  go_ret
  exact ⟨why,rfl,⟨fun h=>absurd h HZ.o,fun h=>absurd (HPW.o.2 h.1) HZ.o⟩,HB1.o⟩
 subst hz
 have HX:Hx X:=Aa (HPW.o.1 rfl)
 obtain ⟨l0,l1⟩:=rc2 hRL1
 have c5:=HRP1.o 5 _ rfl
 have c6:=HRP1.o 6 _ rfl
 clear hRL1 HPW
 by_cases hlen:ln=vn
 rotate_left
 ·have hlb:((ln:Int) != (vn:Int))=true:=by simp;omega
  have HL:=Aa hlen
  go_wp2_with fail
  go_ret
  exact ⟨1,rfl,⟨fun h=>absurd h (by decide),fun h=>absurd (HNLsV.o.trans h.2.1) HL.o⟩,HB1.o⟩
 subst hlen
 by_cases hlen2:kn=fn
 rotate_left
 ·have hlb2:((kn:Int) != (fn:Int))=true:=by simp;omega
  have HL:=Aa hlen2
  go_wp2_with fail
  go_ret
  exact ⟨1,rfl,⟨fun h=>absurd h (by decide),fun h=>absurd (HNLsF.o.trans h.2.2.1) HL.o⟩,HB1.o⟩
 subst hlen2
 have hba:=bA w1 (ze #[O la ln lc,O ka kn kc] 42)
 have hRS:Ae [O la ln lc,O ka kn kc] (w1.alloc (ze #[O la ln lc,O ka kn kc] 42)) w1.heap.size:=Ae.new [O la ln lc,O ka kn kc] 42 w1
 have HRS0:=Aa hRS
 have HRP0:=Aa (HRP1.o.over hba)
 have HBA0:=Aa hba
 clear hRS hba HRP1
 go_wp2_with fail
 clear l0 l1 c5 c6
 go_loopw [38] (fun i wr=>∃ j:Nat,j<=2/\i=U zd j/\(1<=j->∀ x∈LsV,Bq m gs x=0)/\(2<=j->∀ x∈LsF,Bq m gs x=0)/\Ae [U zd m,O ga gn gc,O sa sn sc,O ya yn yc,O oa on oc,O va ln vc,O fa kn fc,O ba bn bc] wr w.heap.size/\Ae [O la ln lc,O ka kn kc] wr w1.heap.size/\Ov w1 wr) (fun i _=>2 - (intOf i).toNat)
 case atStart=>exact ⟨0,by omega,rfl,fun h=>absurd h (by omega),fun h=>absurd h (by omega),HRP0.o,HRS0.o,HBA0.o⟩
 case round=>
  obtain ⟨j,hj,rfl,hj1,hj2,hrp,hrs,hB⟩:=hrel
  have HJ1:=Aa hj1
  have HJ2:=Aa hj2
  have HRP2:=Aa hrp
  have HRS:=Aa hrs
  have HBB:=Aa hB
  obtain ⟨g0,g1⟩:=rc2 hrs
  clear hj1 hj2 hrp hrs hB
  rcases (by omega:j=0\/j=1\/j=2) with rfl | rfl | rfl
  ·go_wp2_with fail
   have HLw:=Aa (HLsV.o)
   go_loopw [44] (fun i wr=>∃ q:Nat,q<=ln/\i=U zd q/\(∀ x∈LsV.take q,Bq m gs x=0)/\(Ae [U zd m,O ga gn gc,O sa sn sc,O ya yn yc,O oa on oc,O va ln vc,O fa kn fc,O ba bn bc] wr w.heap.size)/\(Ae [O la ln lc,O ka kn kc] wr w1.heap.size)/\Ov w1 wr) (fun i _=>ln - (intOf i).toNat)
   case atStart=>exact ⟨0,Nat.zero_le _,rfl,by simp,HRP2.o,HRS.o,HBB.o⟩
   case round=>
    obtain ⟨q,hq,rfl,hok,hrp,hrs,hB2⟩:=hrel
    have HOK:=Aa hok
    clear hok
    by_cases hql:q < ln
    ·have hqd:q < LsV.length:=by have:=HNLsV.o;omega
     have hlv:=Aw HLw.o (Ac HB1.o hB2)
     obtain ⟨ao',cap',he',hel⟩:=hlv
     injection he' with e1 e2 e3
     obtain ⟨b,off,hbo,hel⟩:=hel (by intro hh;rw [hh] at hqd;simp at hqd)
     have e1':=e1.trans hbo
     subst e1'
     obtain ⟨rv,wv,g0,g1,hla⟩:=hel q hqd
     obtain ⟨p1,k1,p2,k2,hfm⟩:=Cf hla
     simp at hfm
     obtain ⟨rfl,rfl⟩:=hfm
     obtain ⟨x,hx⟩:=nm (LsV[q])
     rw [<-hx] at g0 g1 hla
     obtain ⟨n1,hn1⟩:=nm x.r.length
     obtain ⟨n2,hn2⟩:=nm x.w.length
     rw [<-hn1] at g0 hla
     rw [<-hn2] at g1 hla
     have hba:=bA wr (ze #[O p1 n1 k1,O p2 n2 k2] 50)
     have KR2:=Aa (KR.o _ x _ (Ac HB1.o (Ac hB2 hba)) (Ag hla hba))
     have hrp':=hrp.over hba
     obtain ⟨f0,f1⟩:=rc2 hrp'
     have hmem:x∈LsV:=by rw [hx];exact List.getElem_mem hqd
     have HMEM:=Aa hmem
     have HTK:Hx (LsV.take (q+1)=LsV.take q++[x]):=Aa (by rw [hx];exact List.take_succ_eq_append_getElem hqd)
     obtain ⟨r,hr⟩:=nm (Bq m gs x)
     rw [<-hr] at KR2
     have HR:=Aa hr
     have HRPA:=Aa hrp'
     have HRSA:=Aa (hrs.over hba)
     have HBA:=Aa (Ac hB2 hba)
     clear hrp' hba hla hel e1 e2 e3 hbo hx hn1 hn2 hr hrp hrs hmem hB2
     go_wp2_with fail
     refine (KR2.o).mono ?_
     rintro e w5 ⟨rfl,hb5⟩
     have HB5:=Aa (Ac HBA.o hb5)
     have HRP5:=Aa (HRPA.o.over hb5)
     have HRS5:=Aa (HRSA.o.over hb5)
     clear hb5 KR2 f0 f1 g0 g1
     by_cases hr0:r=0
     ·subst hr0
      have HNX:Hx (∀ x∈LsV.take (q+1),Bq m gs x=0):=Aa (fun y hy=>by
       rw [HTK.o,List.mem_append,List.mem_singleton] at hy
       rcases hy with hy | rfl
       ·exact HOK.o y hy
       ·exact HR.o.symm)
      go_wp2_with fail
      refine ⟨⟨_,_,_,_,_,_,_,_,_,_,_,_,_,_,_,?_,rfl⟩,?_⟩
      ·exact ⟨q+1,by omega,by go_num,HNX.o,HRP5.o,HRS5.o,HB5.o⟩
      ·simp [intOf];omega
     ·have HR0:=Aa hr0
      go_wp2_with fail
      go_ret
      refine ⟨r,rfl,⟨fun h=>absurd h HR0.o,fun h=>absurd (HR.o.trans (h.2.2.2.1 x HMEM.o)) HR0.o⟩,Ac HB1.o HB5.o⟩
    ·have HALL:Hx (∀ x∈LsV,Bq m gs x=0):=Aa (CZ (by have:=HNLsV.o;omega) HOK.o)
     have HRP3:=Aa hrp
     have HRS3:=Aa hrs
     have HB3:=Aa hB2
     clear hrp hrs hB2 HOK
     go_wp2_with fail
     exact ⟨⟨1,by omega,by go_num,fun _=>HALL.o,fun h=>absurd h (by omega),HRP3.o,HRS3.o,HB3.o⟩,by simp [intOf]⟩
  ·go_wp2_with fail
   have HLw:=Aa (HLsF.o)
   go_loopw [44] (fun i wr=>∃ q:Nat,q<=kn/\i=U zd q/\(∀ x∈LsF.take q,Bq m gs x=0)/\(Ae [U zd m,O ga gn gc,O sa sn sc,O ya yn yc,O oa on oc,O va ln vc,O fa kn fc,O ba bn bc] wr w.heap.size)/\(Ae [O la ln lc,O ka kn kc] wr w1.heap.size)/\Ov w1 wr) (fun i _=>kn - (intOf i).toNat)
   case atStart=>exact ⟨0,Nat.zero_le _,rfl,by simp,HRP2.o,HRS.o,HBB.o⟩
   case round=>
    obtain ⟨q,hq,rfl,hok,hrp,hrs,hB2⟩:=hrel
    have HOK:=Aa hok
    clear hok
    by_cases hql:q < kn
    ·have hqd:q < LsF.length:=by have:=HNLsF.o;omega
     have hlv:=Aw HLw.o (Ac HB1.o hB2)
     obtain ⟨ao',cap',he',hel⟩:=hlv
     injection he' with e1 e2 e3
     obtain ⟨b,off,hbo,hel⟩:=hel (by intro hh;rw [hh] at hqd;simp at hqd)
     have e1':=e1.trans hbo
     subst e1'
     obtain ⟨rv,wv,g0,g1,hla⟩:=hel q hqd
     obtain ⟨p1,k1,p2,k2,hfm⟩:=Cf hla
     simp at hfm
     obtain ⟨rfl,rfl⟩:=hfm
     obtain ⟨x,hx⟩:=nm (LsF[q])
     rw [<-hx] at g0 g1 hla
     obtain ⟨n1,hn1⟩:=nm x.r.length
     obtain ⟨n2,hn2⟩:=nm x.w.length
     rw [<-hn1] at g0 hla
     rw [<-hn2] at g1 hla
     have hba:=bA wr (ze #[O p1 n1 k1,O p2 n2 k2] 50)
     have KR2:=Aa (KR.o _ x _ (Ac HB1.o (Ac hB2 hba)) (Ag hla hba))
     have hrp':=hrp.over hba
     obtain ⟨f0,f1⟩:=rc2 hrp'
     have hmem:x∈LsF:=by rw [hx];exact List.getElem_mem hqd
     have HMEM:=Aa hmem
     have HTK:Hx (LsF.take (q+1)=LsF.take q++[x]):=Aa (by rw [hx];exact List.take_succ_eq_append_getElem hqd)
     obtain ⟨r,hr⟩:=nm (Bq m gs x)
     rw [<-hr] at KR2
     have HR:=Aa hr
     have HRPA:=Aa hrp'
     have HRSA:=Aa (hrs.over hba)
     have HBA:=Aa (Ac hB2 hba)
     clear hrp' hba hla hel e1 e2 e3 hbo hx hn1 hn2 hr hrp hrs hmem hB2
     go_wp2_with fail
     refine (KR2.o).mono ?_
     rintro e w5 ⟨rfl,hb5⟩
     have HB5:=Aa (Ac HBA.o hb5)
     have HRP5:=Aa (HRPA.o.over hb5)
     have HRS5:=Aa (HRSA.o.over hb5)
     clear hb5 KR2 f0 f1 g0 g1
     by_cases hr0:r=0
     ·subst hr0
      have HNX:Hx (∀ x∈LsF.take (q+1),Bq m gs x=0):=Aa (fun y hy=>by
       rw [HTK.o,List.mem_append,List.mem_singleton] at hy
       rcases hy with hy | rfl
       ·exact HOK.o y hy
       ·exact HR.o.symm)
      go_wp2_with fail
      refine ⟨⟨_,_,_,_,_,_,_,_,_,_,_,_,_,_,_,?_,rfl⟩,?_⟩
      ·exact ⟨q+1,by omega,by go_num,HNX.o,HRP5.o,HRS5.o,HB5.o⟩
      ·simp [intOf];omega
     ·have HR0:=Aa hr0
      go_wp2_with fail
      go_ret
      refine ⟨r,rfl,⟨fun h=>absurd h HR0.o,fun h=>absurd (HR.o.trans (h.2.2.2.2 x HMEM.o)) HR0.o⟩,Ac HB1.o HB5.o⟩
    ·have HALL:Hx (∀ x∈LsF,Bq m gs x=0):=Aa (CZ (by have:=HNLsF.o;omega) HOK.o)
     have HRP3:=Aa hrp
     have HRS3:=Aa hrs
     have HB3:=Aa hB2
     clear hrp hrs hB2 HOK
     go_wp2_with fail
     exact ⟨⟨2,by omega,by go_num,fun _=>HJ1.o (by omega),fun _=>HALL.o,HRP3.o,HRS3.o,HB3.o⟩,by simp [intOf]⟩
  ·go_wp2_with fail
   go_ret
   exact ⟨0,rfl,⟨fun _=>⟨HX.o,HNLsV.o.symm,HNLsF.o.symm,HJ1.o (by omega),HJ2.o (by omega)⟩,fun _=>rfl⟩,Ac HB1.o HBB.o⟩
theorem Mq (A B:List Bool) (x y:Value) (w:World) (ha:AN w x A) (hb:AN w y B) (hA:A.length<=9223372036854775807) (hB:B.length<=9223372036854775807) :
  Calls Tryz.prog 208 #[x,y] w fun e w'=>e=zk (zg (decide (A=B)))/\Ov w w':=by
 obtain ⟨a1,k1,rfl,h1⟩:=ha
 obtain ⟨a2,k2,rfl,h2⟩:=hb
 have H1:=Aa h1
 have H2:=Aa h2
 clear h1 h2
 by_cases hl:A.length=B.length
 rotate_left
 ·have hne:decide (A=B)=false:=by simp;intro h;exact hl (by rw [h])
  rw [hne]
  have hlb:((A.length:Int) != (B.length:Int))=true:=by simp;omega
  go_enter Tryz.func208,Tryz.ntmps208
  go_wp2_with fail
  go_ret
  exact ⟨rfl,Below.refl _ _⟩
 obtain ⟨R,hR⟩:=nm (decide (A=B))
 rw [<-hR]
 obtain ⟨N,hN⟩:=nm A.length
 have hNB:N=B.length:=hN.trans hl
 rw [<-hN,<-hNB]
 have hA':N<=9223372036854775807:=by omega
 have HR:=Aa hR
 have HN:=Aa hN
 have HNB:=Aa hNB
 clear hA hB hl hR hN hNB
 go_enter Tryz.func208,Tryz.ntmps208
 go_wp2_with fail
 go_loopw [13] (fun i wr=>∃ k:Nat,k<=N/\i=U zd k/\Hx (A.take k=B.take k)/\Ov w wr) (fun i _=>N - (intOf i).toNat)
 case atStart=>exact ⟨0,Nat.zero_le _,rfl,Aa (by simp),Below.refl _ _⟩
 case round=>
  obtain ⟨k,hk,rfl,HT,hB⟩:=hrel
  by_cases hkl:k < N
  ·have hkA:k < A.length:=by rw [<-HN.o];exact hkl
   have hkB:k < B.length:=by rw [<-HNB.o];exact hkl
   obtain ⟨b1,o1,rfl,e1⟩:=H1.o (by intro h;rw [h] at hkA;simp at hkA)
   obtain ⟨b2,o2,rfl,e2⟩:=H2.o (by intro h;rw [h] at hkB;simp at hkB)
   have q1:wr.cell? ⟨b1,o1+k,none⟩=_:=Ab hB _ _ (e1 k hkA)
   have q2:wr.cell? ⟨b2,o2+k,none⟩=_:=Ab hB _ _ (e2 k hkB)
   obtain ⟨u,hu⟩:=nm (A[k])
   obtain ⟨v,hv⟩:=nm (B[k])
   rw [<-hu] at q1
   rw [<-hv] at q2
   have HTA:Hx (A.take (k+1)=A.take k++[u]):=Aa (by rw [hu];exact List.take_succ_eq_append_getElem hkA)
   have HTB:Hx (B.take (k+1)=B.take k++[v]):=Aa (by rw [hv];exact List.take_succ_eq_append_getElem hkB)
   have HU:Hx (A[k]? = some u):=Aa (by rw [hu];exact List.getElem?_eq_getElem hkA)
   have HV:Hx (B[k]? = some v):=Aa (by rw [hv];exact List.getElem?_eq_getElem hkB)
   clear e1 e2 hu hv hkA hkB
   by_cases huv:u=v
   ·subst huv
    have HT2:Hx (A.take (k+1)=B.take (k+1)):=Aa (by rw [HTA.o,HTB.o,HT.o])
    go_wp2_with fail
    go_region
    go_wp2_with fail
    exact ⟨⟨k+1,by omega,by go_num,HT2,hB.drew⟩,by simp [intOf];omega⟩
   ·have hb:(u != v)=true:=by simpa using huv
    have HR2:Hx (R=false):=Aa (by rw [HR.o];simp;intro h;have h1:=HU.o;rw [h,HV.o] at h1;exact huv (by injection h1 with h1;exact h1.symm))
    clear HTA HTB HU HV
    cases u <;> cases v
    all_goals first
     | exact absurd rfl huv
     | (clear huv hb;go_wp2_with fail;go_region;go_wp2_with fail;go_ret;exact ⟨by rw [HR2.o];rfl,hB.drew⟩)
  ·have HR2:Hx (R=true):=Aa (by
    rw [HR.o]
    have:=HT.o
    rw [List.take_of_length_le (by have:=HN.o;omega),List.take_of_length_le (by have:=HNB.o;omega)] at this
    simp [this])
   go_wp2_with fail
   go_ret
   exact ⟨by rw [HR2.o];rfl,hB⟩
end Go.Proofs.YtfffpjkcfnekaaaGreat.Ex
