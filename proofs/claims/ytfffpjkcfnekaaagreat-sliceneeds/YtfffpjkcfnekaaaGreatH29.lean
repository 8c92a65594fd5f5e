/- A function whose commands are cut. -/
import Derived.Test.YtfffpjkcfnekaaaGreatH28
import Derived.Test.YtfffpjkcfnekaaaGreatH27
set_option linter.unusedVariables false
set_option maxHeartbeats 8000000
set_option maxRecDepth 100000
namespace Go.Proofs.YtfffpjkcfnekaaaGreat.Ex
open Go.RowKit
open Go.Value renaming slice -> O, int -> zd, bool -> ze, agg -> zg, pointer -> zi, tuple -> zj
open Go.IntKind renaming i64 -> U
open Go.Obj renaming cells -> zf
open Go.Ending renaming returned -> zh
theorem Na (K kf bs:Nat) (nd:List Bool) (hnl:nd.length<=1000) (f:FnD) (pa:Option Addr) (pc:Nat) (ba:Option Addr) (bd:Nat) (k1 k2:Int) (xa:Option Addr) (xl xc:Nat) (w0 W:World) (bc bq a:Nat)
  (hP:Aq w0 (O pa f.ps.length pc) f.ps) (hpl:f.ps.length<=1000) (hB:AD w0 K kf (O ba f.body.length bd) f.body) (hR:RX w0 K [zd U k1,zd U k2,O xa xl xc] f.res) (hres:(AB K f.res).length<=15) (hfew:∀ d∈f.body,GK K kf d)
  (hw:Ov w0 W) (hlo:w0.heap.size<=bc) (hC:CI bs nd bc a W) (ha:a+Aj kf f.body<=nd.length) (hq:W.cell? ⟨bq,0,none⟩=some (zi (some ⟨bc,0,none⟩))) (hqc:bq≠bc) :
  Calls Tryz.prog 145 #[zg #[O pa f.ps.length pc,O ba f.body.length bd,zd U k1,zd U k2,O xa xl xc],zi (some ⟨bq,0,none⟩)] W fun e W'=>∃ (qa:Option Addr) (qc:Nat) (da:Option Addr) (dc:Nat) (za:Option Addr) (zc:Nat),e=zh (zg #[O qa f.ps.length qc,O da (A5 nd kf f.body a).length dc,zd U (Ap f.res),zd U (AA f.res),O za (Ar f.res).length zc])/\Off W.heap.size none W' (fun X=>Aq X (O qa f.ps.length qc) f.ps/\AD X K kf (O da (A5 nd kf f.body a).length dc) (A5 nd kf f.body a)/\RX X K [zd U (Ap f.res),zd U (AA f.res),O za (Ar f.res).length zc] f.res)/\(f.ps.length<=qc/\qc<=maxLen)/\FrW (XC bc) W W'/\CI bs nd bc (a+Aj kf f.body) W':=by
 have hbcW:=hC.lt
 have hbqW:bq < W.heap.size:=bL hq
 have HP:Hx (∀ Wz,Ov w0 Wz->Aq Wz (O pa f.ps.length pc) f.ps):=fun Wz hz=>hP.over hz
 have HR:Hx (∀ Wz,Ov w0 Wz->RX Wz K [zd U k1,zd U k2,O xa xl xc] f.res):=fun Wz hz=>RX.over hR hz
 have K2:Hx (∀ Wz,Ov w0 Wz->_):=fun Wz (hz:Ov w0 Wz)=>F4 (O pa f.ps.length pc) f.ps Wz (HP.o Wz hz) hpl
 have K6:Hx (∀ Wz,Ov w0 Wz->CI bs nd bc a Wz->_):=fun Wz (hz:Ov w0 Wz) (hc:CI bs nd bc a Wz)=>GM K bs nd hnl kf (O ba f.body.length bd) f.body w0 Wz bc a hB hz hlo hc ha hfew
 have K9:Hx (∀ Wz,Ov w0 Wz->_):=fun Wz (hz:Ov w0 Wz)=>Kd K [zd U k1,zd U k2,O xa xl xc] f.res Wz (HR.o Wz hz) hres
 obtain ⟨pn,hpn⟩:=nm f.ps.length
 obtain ⟨bn,hbn⟩:=nm f.body.length
 obtain ⟨dn,hdn⟩:=nm (A5 nd kf f.body a).length
 obtain ⟨rk,hrk⟩:=nm (Ap f.res)
 obtain ⟨rn,hrn⟩:=nm (AA f.res)
 obtain ⟨rl,hrl⟩:=nm (Ar f.res).length
 rw [<-hpn] at K2 ⊢
 rw [<-hbn] at K6 ⊢
 rw [<-hdn] at K6 ⊢
 rw [<-hrk,<-hrn,<-hrl] at K9 ⊢
 have hb1:Ov W ((W.alloc (zf #[O pa pn pc,O ba bn bd,zd U k1,zd U k2,O xa xl xc] 105)).alloc (zf #[O none 0 0,O none 0 0,zd U 0,zd U 0,O none 0 0] 105)):=(bA W _).alloc (by simp) _
 obtain ⟨V,hV⟩:=nm ((W.alloc (zf #[O pa pn pc,O ba bn bd,zd U k1,zd U k2,O xa xl xc] 105)).alloc (zf #[O none 0 0,O none 0 0,zd U 0,zd U 0,O none 0 0] 105))
 have hsV:V.heap.size=W.heap.size+2:=by rw [hV];simp
 have hrA:Ad [O pa pn pc,O ba bn bd,zd U k1,zd U k2,O xa xl xc] V W.heap.size:=by rw [hV];exact Ad.over (Ay W [O pa pn pc,O ba bn bd,zd U k1,zd U k2,O xa xl xc] 105) (bA _ _)
 have hrB:Ad [O none 0 0,O none 0 0,zd U 0,zd U 0,O none 0 0] V (W.heap.size+1):=by
  rw [hV]
  have hs:(W.alloc (zf #[O pa pn pc,O ba bn bd,zd U k1,zd U k2,O xa xl xc] 105)).heap.size=W.heap.size+1:=by simp
  rw [<-hs]
  exact Ay (W.alloc (zf #[O pa pn pc,O ba bn bd,zd U k1,zd U k2,O xa xl xc] 105)) [O none 0 0,O none 0 0,zd U 0,zd U 0,O none 0 0] 105
 have hfB:∀ j,V.frozen? ⟨W.heap.size+1,j,none⟩=false:=fun j=>by rw [hV];simp [go_sem]
 rw [<-hV] at hb1
 have hS0:CE V.drew W.heap.size 0 (O pa pn pc)/\CE V.drew W.heap.size 1 (O ba bn bd)/\CE V.drew W.heap.size 2 (zd U k1)/\CE V.drew W.heap.size 3 (zd U k2)/\CE V.drew W.heap.size 4 (O xa xl xc)/\CE V.drew bq 0 (zi (some ⟨bc,0,none⟩)):=by
  obtain ⟨g0,g1,g2,g3,g4⟩:=rc5 hrA
  exact ⟨g0,g1,g2,g3,g4,Ab hb1 _ _ hq⟩
 have hw0V:Ov w0 V.drew:=hw.trans ((hb1.trans ((bD V).mono hb1.size)).mono hw.size)
 have HCV:Hx (CI bs nd bc a V.drew):=(hC.over hb1).over (bD V)
 have HW0V:=Aa hw0V
 have HB1:=Aa hb1
 have HRB:=Aa hrB
 have HFB:=Aa hfB
 have HSV:=Aa hsV
 have HLO:=Aa hlo
 have HX1:Hx (∀ X,¬ XC bc X W.heap.size):=fun X h=>by have h':W.heap.size=bc:=h;omega
 have HX2:Hx (∀ X,¬ XC bc X bq):=fun X h=>hqc h
 have HX3:Hx (∀ X,¬ XC bc X (W.heap.size+1)):=fun X h=>by have h':W.heap.size+1=bc:=h;omega
 have HBC:=Aa hbcW
 have HBQ:=Aa hbqW
 have HBS:Hx (∀ i,i < nd.length->bs < W.heap.size):=fun i hi=>hC.bsl hi
 have HNB:Hx (W.heap.size+1≠bc/\(CI bs nd bc (a+Aj kf f.body) V.drew->True)):=⟨by omega,fun _=>trivial⟩
 have HNM:=Aa (And.intro hpn (And.intro hdn (And.intro hrk (And.intro hrn hrl))))
 clear hP hpl hB hR hres hfew hw hlo hC ha hq hqc hb1 hrA hrB hfB hsV hpn hbn hdn hrk hrn hrl hw0V hbqW hbcW HP HR hnl
 go_enter Tryz.func145,Tryz.ntmps145
 go_wp2_with fail
 rw [<-hV]
 clear hV
 refine gS (fun Wz=>CE Wz W.heap.size 0 (O pa pn pc)/\CE Wz W.heap.size 1 (O ba bn bd)/\CE Wz W.heap.size 2 (zd U k1)/\CE Wz W.heap.size 3 (zd U k2)/\CE Wz W.heap.size 4 (O xa xl xc)/\CE Wz bq 0 (zi (some ⟨bc,0,none⟩))) hS0 fun hHeld=>?_
 refine kT 0 ?_
 refine kT 1 ?_
 refine kT 3 ?_
 refine kT 4 ?_
 refine kT 5 ?_
 refine kT 7 ?_
 refine kT 8 ?_
 refine rdA 2 rfl fun Kq hK=>?_
 go_simp
 refine (K2.o _ HW0V.o).mono ?_
 rintro e W2 ⟨qa,qc,rfl,hO2,hb2,hq2⟩
 have hS2:CE W2 W.heap.size 0 (O pa pn pc)/\CE W2 W.heap.size 1 (O ba bn bd)/\CE W2 W.heap.size 2 (zd U k1)/\CE W2 W.heap.size 3 (zd U k2)/\CE W2 W.heap.size 4 (O xa xl xc)/\CE W2 bq 0 (zi (some ⟨bc,0,none⟩)):=⟨Ab hb2 _ _ hS0.1,Ab hb2 _ _ hS0.2.1,Ab hb2 _ _ hS0.2.2.1,Ab hb2 _ _ hS0.2.2.2.1,Ab hb2 _ _ hS0.2.2.2.2.1,Ab hb2 _ _ hS0.2.2.2.2.2⟩
 have HO2:=Aa hO2
 have HB2:=Aa hb2
 have HQ2:=Aa hq2
 have HC2:=Aa (HCV.o.over hb2)
 have HW2:Hx (Ov w0 W2):=HW0V.o.trans (hb2.mono HW0V.o.size)
 clear hO2 hb2 hq2
 go_simp
 refine xK hK hS2 fun hHeld=>?_
 clear hK Kq
 refine rdA 6 rfl fun Kq hK=>?_
 go_simp
 refine (K6.o _ HW2.o HC2.o).mono ?_
 rintro e W3 ⟨da,dc,rfl,hO3,hC3,hF3⟩
 have hS3:CE W3 W.heap.size 0 (O pa pn pc)/\CE W3 W.heap.size 1 (O ba bn bd)/\CE W3 W.heap.size 2 (zd U k1)/\CE W3 W.heap.size 3 (zd U k2)/\CE W3 W.heap.size 4 (O xa xl xc)/\CE W3 bq 0 (zi (some ⟨bc,0,none⟩)):=⟨hF3.cell hS2.1 (HX1.o _),hF3.cell hS2.2.1 (HX1.o _),hF3.cell hS2.2.2.1 (HX1.o _),hF3.cell hS2.2.2.2.1 (HX1.o _),hF3.cell hS2.2.2.2.2.1 (HX1.o _),hF3.cell hS2.2.2.2.2.2 (HX2.o _)⟩
 have HO3:=Aa hO3
 have HC3:=Aa hC3
 have HF3:=Aa hF3
 have HW3:Hx (Ov w0 W3):=hF3.base HLO.o HW2.o
 clear hO3 hC3 hF3
 go_simp
 refine xK hK hS3 fun hHeld=>?_
 clear hK Kq
 refine rdA 9 rfl fun Kq hK=>?_
 go_simp
 refine (K9.o _ HW3.o).mono ?_
 rintro e W4 ⟨za,zc,rfl,hO4,hb4⟩
 have hS4:CE W4 W.heap.size 0 (O pa pn pc)/\CE W4 W.heap.size 1 (O ba bn bd)/\CE W4 W.heap.size 2 (zd U k1)/\CE W4 W.heap.size 3 (zd U k2)/\CE W4 W.heap.size 4 (O xa xl xc)/\CE W4 bq 0 (zi (some ⟨bc,0,none⟩)):=⟨Ab hb4 _ _ hS3.1,Ab hb4 _ _ hS3.2.1,Ab hb4 _ _ hS3.2.2.1,Ab hb4 _ _ hS3.2.2.2.1,Ab hb4 _ _ hS3.2.2.2.2.1,Ab hb4 _ _ hS3.2.2.2.2.2⟩
 have hrB4:=(HF3.o.row (HRB.o.over ((bD V).trans (HB2.o.mono (Nat.le_refl _)))) (HX3.o _)).over hb4
 have hrF:=((((hrB4.set (j:=0) (v:=O qa pn qc) (by simp)).set (j:=1) (v:=O da dn dc) (by simp)).set (j:=2) (v:=zd U rk) (by simp)).set (j:=3) (v:=zd U rn) (by simp)).set (j:=4) (v:=O za rl zc) (by simp)
 simp only [List.set_cons_zero,List.set_cons_succ] at hrF
 have hs2:V.heap.size<=W2.heap.size:=HB2.o.size
 have hfz:=fun j=>((AI hb4).2 (W.heap.size+1) j (by have h1:=HF3.o.size;have h2:=HSV.o;omega)).trans ((HF3.o.frozen (j:=j) (by have h2:=HSV.o;omega) (HX3.o _)).trans (((AI HB2.o).2 (W.heap.size+1) j (by have h2:V.drew.heap.size=W.heap.size+2:=HSV.o;omega)).trans (HFB.o j)))
 have f0:=hfz 0
 have f1:=hfz 1
 have f2:=hfz 2
 have f3:=hfz 3
 have f4:=hfz 4
 obtain ⟨x0,x1,x2,x3,x4⟩:=rc5 hrB4
 have hS5:CE (((((W4.setCell ⟨W.heap.size+1,0,none⟩ (O qa pn qc)).setCell ⟨W.heap.size+1,1,none⟩ (O da dn dc)).setCell ⟨W.heap.size+1,2,none⟩ (zd U rk)).setCell ⟨W.heap.size+1,3,none⟩ (zd U rn)).setCell ⟨W.heap.size+1,4,none⟩ (O za rl zc)) W.heap.size 0 (O pa pn pc)/\CE (((((W4.setCell ⟨W.heap.size+1,0,none⟩ (O qa pn qc)).setCell ⟨W.heap.size+1,1,none⟩ (O da dn dc)).setCell ⟨W.heap.size+1,2,none⟩ (zd U rk)).setCell ⟨W.heap.size+1,3,none⟩ (zd U rn)).setCell ⟨W.heap.size+1,4,none⟩ (O za rl zc)) W.heap.size 1 (O ba bn bd)/\CE (((((W4.setCell ⟨W.heap.size+1,0,none⟩ (O qa pn qc)).setCell ⟨W.heap.size+1,1,none⟩ (O da dn dc)).setCell ⟨W.heap.size+1,2,none⟩ (zd U rk)).setCell ⟨W.heap.size+1,3,none⟩ (zd U rn)).setCell ⟨W.heap.size+1,4,none⟩ (O za rl zc)) W.heap.size 2 (zd U k1)/\CE (((((W4.setCell ⟨W.heap.size+1,0,none⟩ (O qa pn qc)).setCell ⟨W.heap.size+1,1,none⟩ (O da dn dc)).setCell ⟨W.heap.size+1,2,none⟩ (zd U rk)).setCell ⟨W.heap.size+1,3,none⟩ (zd U rn)).setCell ⟨W.heap.size+1,4,none⟩ (O za rl zc)) W.heap.size 3 (zd U k2)/\CE (((((W4.setCell ⟨W.heap.size+1,0,none⟩ (O qa pn qc)).setCell ⟨W.heap.size+1,1,none⟩ (O da dn dc)).setCell ⟨W.heap.size+1,2,none⟩ (zd U rk)).setCell ⟨W.heap.size+1,3,none⟩ (zd U rn)).setCell ⟨W.heap.size+1,4,none⟩ (O za rl zc)) W.heap.size 4 (O xa xl xc)/\CE (((((W4.setCell ⟨W.heap.size+1,0,none⟩ (O qa pn qc)).setCell ⟨W.heap.size+1,1,none⟩ (O da dn dc)).setCell ⟨W.heap.size+1,2,none⟩ (zd U rk)).setCell ⟨W.heap.size+1,3,none⟩ (zd U rn)).setCell ⟨W.heap.size+1,4,none⟩ (O za rl zc)) bq 0 (zi (some ⟨bc,0,none⟩)):=⟨Ao (Ao (Ao (Ao (Ao hS4.1 (by omega)) (by omega)) (by omega)) (by omega)) (by omega),Ao (Ao (Ao (Ao (Ao hS4.2.1 (by omega)) (by omega)) (by omega)) (by omega)) (by omega),Ao (Ao (Ao (Ao (Ao hS4.2.2.1 (by omega)) (by omega)) (by omega)) (by omega)) (by omega),Ao (Ao (Ao (Ao (Ao hS4.2.2.2.1 (by omega)) (by omega)) (by omega)) (by omega)) (by omega),Ao (Ao (Ao (Ao (Ao hS4.2.2.2.2.1 (by omega)) (by omega)) (by omega)) (by omega)) (by omega),Ao (Ao (Ao (Ao (Ao hS4.2.2.2.2.2 (by have:=HBQ.o;omega)) (by have:=HBQ.o;omega)) (by have:=HBQ.o;omega)) (by have:=HBQ.o;omega)) (by have:=HBQ.o;omega)⟩
 have HRF:=Aa hrF
 have HO4:=Aa hO4
 have HB4:=Aa hb4
 clear hO4 hb4 hrB4 hrF hfz hs2
 go_simp
 refine xK hK hS4 fun hHeld=>?_
 clear hK Kq
 refine kT 10 ?_
 refine rdA 11 rfl fun Kq hK=>?_
 go_simp
 refine xK hK hS5 fun hHeld=>?_
 clear hK Kq
 refine gE ?_
 go_wp2_with fail
 obtain ⟨r0,r1,r2,r3,r4⟩:=rc5 HRF.o
 refine bodyPost_ret (v:=zg #[O qa pn qc,O da dn dc,zd U rk,zd U rn,O za rl zc]) (by simp [results,Tryz.results145,go_sem,r0,r1,r2,r3,r4]) rfl ?_
 refine ⟨qa,qc,da,dc,za,zc,rfl,?_,HQ2.o,?_,?_⟩
 ·have hsz:V.drew.heap.size=W.heap.size+2:=HSV.o
  have hV2:W.heap.size+2<=W2.heap.size:=by have:=HB2.o.size;omega
  have hV3:W.heap.size+2<=W3.heap.size:=by have:=HF3.o.size;omega
  have o2:=(((((((HO2.o.keep HF3.o.size (HF3.o.from (by have h:=HBC.o;omega))).over HB4.o).set (b:=W.heap.size+1) (j:=0) (u:=O qa pn qc) (by omega)).set (b:=W.heap.size+1) (j:=1) (u:=O da dn dc) (by omega)).set (b:=W.heap.size+1) (j:=2) (u:=zd U rk) (by omega)).set (b:=W.heap.size+1) (j:=3) (u:=zd U rn) (by omega)).set (b:=W.heap.size+1) (j:=4) (u:=O za rl zc) (by omega))
  have o3:=((((((HO3.o.over HB4.o).set (b:=W.heap.size+1) (j:=0) (u:=O qa pn qc) (by omega)).set (b:=W.heap.size+1) (j:=1) (u:=O da dn dc) (by omega)).set (b:=W.heap.size+1) (j:=2) (u:=zd U rk) (by omega)).set (b:=W.heap.size+1) (j:=3) (u:=zd U rn) (by omega)).set (b:=W.heap.size+1) (j:=4) (u:=O za rl zc) (by omega))
  have o4:=(((((HO4.o.set (b:=W.heap.size+1) (j:=0) (u:=O qa pn qc) (by omega)).set (b:=W.heap.size+1) (j:=1) (u:=O da dn dc) (by omega)).set (b:=W.heap.size+1) (j:=2) (u:=zd U rk) (by omega)).set (b:=W.heap.size+1) (j:=3) (u:=zd U rn) (by omega)).set (b:=W.heap.size+1) (j:=4) (u:=O za rl zc) (by omega))
  exact (o2.and (o3.and o4 (B:=W.heap.size) (by omega) (by omega)) (by omega) (Nat.le_refl _))
 ·have h1:FrW (XC bc) W W4:=(((FrW.of_below (Cf bc) HB1.o).trans (FrW.of_below (Cf bc) ((bD V).trans (HB2.o.mono (Nat.le_refl _))))).trans HF3.o).trans (FrW.of_below (Cf bc) HB4.o)
  exact FrW.set (FrW.set (FrW.set (FrW.set (FrW.set h1 (by omega)) (by omega)) (by omega)) (by omega)) (by omega)
 ·have hc:=HC3.o.over HB4.o
  have hn2:W.heap.size+1≠bs\/nd=[]:=by
   rcases nd with _ | ⟨x,r⟩
   ·exact Or.inr rfl
   ·exact Or.inl (by have:=HBS.o 0 (by simp);omega)
  have hc5:∀ (X:World) (j:Nat) (u:Value),CI bs nd bc (a+Aj kf f.body) X->CI bs nd bc (a+Aj kf f.body) (X.setCell ⟨W.heap.size+1,j,none⟩ u):=fun X j u h=>by
   rcases hn2 with h2 | h2
   ·exact h.set HNB.o.1 h2
   ·subst h2
    exact ⟨Ad.other h.row (Ne.symm HNB.o.1),fun j=>AC.trans (h.fz j),fun j u hu=>by simp at hu,h.ne⟩
  exact hc5 _ _ _ (hc5 _ _ _ (hc5 _ _ _ (hc5 _ _ _ (hc5 _ _ _ hc))))
theorem G8 {W:World} {B:Nat} {v:Value} {l:List (Int × Int)} (h:W.ownsRow B 169 2 v l.length (grV l)):Off B none W (fun W'=>Bk W' v l):=by
 rcases h.2 with ⟨hv,h0⟩ | ⟨g,cap,cur,hv,hb,hg,h1,h2,h3,h4⟩
 ·exact fun W' _=>⟨none,0,by rw [hv,h0],fun hne=>absurd (List.length_eq_zero_iff.1 h0) hne⟩
 ·refine fun W' hW=>⟨some ⟨g,0,none⟩,cap,hv,fun _=>⟨g,0,rfl,fun i hi=>?_⟩⟩
  have hlt:g < W.heap.size:=(Array.getElem?_eq_some_iff.1 hg).1
  have hblk:W'.heap[g]? = W.heap[g]?:=hW g hb hlt (by simp)
  have hx:=FZ l i hi
  rw [<-h4,List.getElem?_take,if_pos (by omega),List.getElem?_take,if_pos (by omega)] at hx
  rw [World.cell?_of_block (a:=⟨g,0+i*2,none⟩) hblk,Lib.cell_of_heap hg,World.cell?_of_block (a:=⟨g,0+i*2+1,none⟩) hblk,Lib.cell_of_heap hg]
  simpa using hx
theorem MC (v:Value) (l:List (Int × Int)) (w:World) (h:Bk w v l) (hl:l.length<=1000) :
  Calls Tryz.prog 139 #[v] w fun e w'=>∃ a c,e=zh (O a l.length c)/\Off w.heap.size none w' (fun W=>Bk W (O a l.length c) l)/\Ov w w'/\l.length<=c/\c<=maxLen:=by
 obtain ⟨ao,cap,rfl,hel⟩:=h
 obtain ⟨i0,hi,hz0,hz1,hz2⟩:=info_parts Tryz.infoGr
 have q22:∀ (w:World) (a:Option Addr) (n c n' c':Nat),(binOp .eql 22 (O a n c) (O none n' c')).run Tryz.prog w=.ok (ze a.isNone) w:=fun w a n c n' c'=>Lib.run_eql_slice_nil w _ _ a n c n' c' Tryz.underlying22
 cases ao with
 | none=>
  obtain rfl:l=[]:=by
   cases l with
   | nil=>rfl
   | cons x l=>obtain ⟨b,off,he,-⟩:=hel (by simp);cases he
  clear hel hi hz0 hz1 hz2
  show Calls Tryz.prog 139 #[O none 0 cap] w fun e w'=>∃ a c,e=zh (O a 0 c)/\Off w.heap.size none w' (fun W=>Bk W (O a 0 c) [])/\Ov w w'/\0<=c/\c<=maxLen
  go_enter Tryz.func139,Tryz.ntmps139
  go_wp2_with fail
  go_ret
  exact ⟨none,0,rfl,fun W _=>⟨none,0,rfl,fun h=>absurd rfl h⟩,Below.refl _ _,Nat.le_refl _,by unfold maxLen;omega⟩
 | some a0=>
  have hb0:Ov w (w.alloc (zf #[] 169)):=bA w _
  have hown:(w.alloc (zf #[] 169)).ownsRow w.heap.size 169 2 (O (some ⟨w.heap.size,0,none⟩) 0 0) 0 []:=World.ownsRow_made w #[] 0 (Nat.le_refl _) (by unfold maxLen;omega) (by simp)
  have HB0:=Aa hb0
  have hb0s:=hb0.size
  cases l with
  | nil=>
   clear hel hz0 hz1 hz2
   show Calls Tryz.prog 139 #[O (some a0) 0 cap] w fun e w'=>∃ a c,e=zh (O a 0 c)/\Off w.heap.size none w' (fun W=>Bk W (O a 0 c) [])/\Ov w w'/\0<=c/\c<=maxLen
   go_enter Tryz.func139,Tryz.ntmps139
   go_wp2_with (at_builtin;refine wpList_append_own_none rfl _ _ 22 rfl w.heap.size 169 i0 2 Tryz.underlying22 hi _ _ _ rfl hown rfl ?_)
   go_wp2_with fail
   go_ret
   exact ⟨_,_,rfl,fun W _=>⟨_,_,rfl,fun h=>absurd rfl h⟩,HB0.o,Nat.le_refl _,by unfold maxLen;omega⟩
  | cons x l=>
   obtain ⟨b,off,he,hel2⟩:=hel (by simp)
   injection he with he
   subst he
   have hnews:∀ jj u,(grV (x::l))[jj]? = some u->(w.alloc (zf #[] 169)).cell? ((⟨b,off,none⟩:Addr).add jj)=some u:=fun jj u hu=>by
    rw [Addr.add_lit]
    obtain ⟨i,hi',⟨rfl,rfl⟩ | ⟨rfl,rfl⟩⟩:=Mz hu
    ·exact Ab hb0 _ _ (hel2 i hi').1
    ·exact Ab hb0 _ _ (hel2 i hi').2
   have hone:∀ u∈grV (x::l),u.oneCell'=true:=Ig _
   obtain ⟨L,hL⟩:=nm (x::l)
   rw [<-hL] at hl hnews hone ⊢
   obtain ⟨ll,hll⟩:=nm L.length
   have hml:(grV L).length=ll*2:=by rw [hll];exact FY L
   have HLL:=Aa hll
   have HLP:Hx (1<=ll):=by rw [hll,hL];simp [Hx]
   rw [<-hll] at hl ⊢
   have hl1:=HLP.o
   clear hel hel2 hb0 hL hll
   go_enter Tryz.func139,Tryz.ntmps139
   go_wp2_with (at_builtin;refine wpList_append_own _ rfl _ _ 22 rfl w.heap.size 169 i0 (zg #[zd U 0,zd U 0]) 2 16 Tryz.underlying22 hi hz0 hz1 hz2 rfl (by decide) _ _ _ rfl hown ⟨b,off,none⟩ ll cap (grV L) rfl hml hnews hone (by unfold maxLen;omega) (by omega) hb0s ?_)
   intro v2 w2 hown2 hgr2 _
   have hB2:Ov w w2:=HB0.o.trans (CF hgr2 (fun g e=>by simp [Value.ownBlock] at e;omega) HB0.o.size)
   rw [HLL.o] at hown2
   have HOFF:=Aa (G8 hown2)
   obtain ⟨va2,vc2,rfl,hcap⟩:∃ a c,v2=O a L.length c/\L.length<=c/\c<=maxLen:=by
    rcases hown2.2 with ⟨h,h0⟩ | ⟨g,cap,cur,h,_,_,h3,h4,_⟩
    ·exact ⟨none,0,by rw [h,h0],by rw [h0];exact Nat.le_refl _,by unfold maxLen;omega⟩
    ·exact ⟨_,_,h,h3,h4⟩
   have HCAP:=Aa hcap
   have HB2:=Aa hB2
   clear hcap hown hown2 hgr2 hB2 hi hz0 hz1 hz2 hnews hone hml
   go_wp2_with fail
   go_ret
   exact ⟨va2,vc2,by rw [HLL.o];rfl,by rw [HLL.o];exact HOFF.o,HB2.o,by rw [HLL.o];exact HCAP.o.1,HCAP.o.2⟩
theorem GU {K:Nat} {e:D} (h:Ap e=0/\Ar e=[]):AR K e=[]:=by
 cases K with
 | zero=>rfl
 | succ k=>
  unfold AR
  rw [if_neg (by omega),h.2]
  rfl
section
variable {K vn yn on:Nat} {fs:List FnD} {kf:Nat}
theorem MQ {funcs:Int} {d:D} (h:Ey.xS1 K vn yn on funcs fs d) (hf:funcs<=fs.length) (hr:∀ f∈fs,Am vn K f.res=0) (n a e:Nat) (ha:a < n):Rg vn yn n K fs (a,d,e):=by
 obtain ⟨⟨h1,h2,h3,h4,h5,h6,h7⟩,-⟩:=h
 refine ⟨ha,fun v hv=>?_,fun h=>?_,fun h q hq v hv=>?_,fun h v hv=>?_⟩
 ·dsimp only at hv
  by_cases hk:Ae d=2\/Ae d=3
  ·rw [GU (h6 hk)] at hv;cases hv
  ·have:=BZ (h5 (by omega)) v hv
   omega
 ·have:=h4 h;dsimp only;omega
 ·have:=BZ ((h3 h).2.2 q.2 (List.of_mem_zip (a:=q.1) (b:=q.2) hq).2) v hv
  omega
 ·dsimp only at hv h
  have ho:=(h3 h).1
  have hlt:(Ac d).toNat < fs.length:=by omega
  have hb:AQ fs (Ac d)=fs[(Ac d).toNat]:=by unfold AQ;rw [List.getD_eq_getElem?_getD,List.getElem?_eq_getElem hlt];rfl
  rw [hb] at hv
  have:=BZ (hr _ (List.getElem_mem hlt)) v hv
  omega
theorem Lx {funcs:Int} {d:D} (h:Ey.xS1 K vn yn on funcs fs d) (h7:Ae d≠7) (h8:Ae d≠8):Af d=[]/\Al d=[]:=⟨h.2.2.2.2.2.1 ⟨h7,h8⟩,h.2.2.2.2.2.2 h7⟩
theorem Hw {funcs:Int}:∀ {k:Nat} {d:D},Ey.xS K vn yn on funcs fs k d->dpS k d
 | 0,_,h=>h
 | k+1,d,h=>⟨fun s hs=>Hw (h.2.1 s hs),fun s hs=>Hw (h.2.2 s hs)⟩
theorem Ia {funcs:Int} {k:Nat} {l:List D} {a:Nat} (h:∀ s∈l,Ey.xS K vn yn on funcs fs k s):∀ x∈Bu k l a,Ey.xS1 K vn yn on funcs fs x.2.1:=
 De (P:=fun k d=>Ey.xS K vn yn on funcs fs k d) (P1:=fun d=>Ey.xS1 K vn yn on funcs fs d) (fun k d h=>h) k l a h
variable {m:Int} {sn:Nat} {gs:List (Int × Int)} {sp:List Int} {ls ms:List Lab} {vs:List (Bool × Lab)} {l:List D}
theorem FJ (h:Ey.xP K kf m vn yn on sn gs sp ls ms vs fs l):∀ x∈Cj kf fs l,∃ funcs:Int,funcs<=fs.length/\Ey.xS1 K vn yn on funcs fs x.2.1:=fun x hx=>by
 rcases List.mem_append.1 hx with hx | hx
 ·obtain ⟨i,hi,hx⟩:=FO hx
  exact ⟨i,by omega,Ia (h.body i hi).2.2.2.1 x hx⟩
 ·exact ⟨fs.length,Int.le_refl _,Ia h.main x hx⟩
theorem Jy (x) (hx:x∈Cj kf fs l):x.1 < An kf fs+Aj kf l:=by
 obtain ⟨i,hi,rfl⟩:=List.mem_iff_getElem.1 hx
 rw [EB,<-DZ]
 exact hi
theorem H3 (h:Ey.xP K kf m vn yn on sn gs sp ls ms vs fs l):∀ x∈Cj kf fs l,Rg vn yn (An kf fs+Aj kf l) K fs x:=fun x hx=>by
 obtain ⟨f,hf,h1⟩:=FJ h x hx
 exact MQ h1 hf (fun g hg=>by
  obtain ⟨i,hi,rfl⟩:=List.mem_iff_getElem.1 hg
  exact (h.body i hi).2.2.2.2) _ _ _ (Jy x hx)
theorem FK (h:Ey.xP K kf m vn yn on sn gs sp ls ms vs fs l) (ch:Int):(AZ ch K kf fs l vn yn).mo=false/\Ln vn yn (An kf fs+Aj kf l) (AZ ch K kf fs l vn yn)/\∀ x∈Cj kf fs l,Cl (AZ ch K kf fs l vn yn).nd (AZ ch K kf fs l vn yn).vs (AZ ch K kf fs l vn yn).cs ch K kf fs x:=
 IV (H3 h) (fun x hx h7 h8=>by
  obtain ⟨f,hf,h1⟩:=FJ h x hx
  exact Lx h1 h7 h8)
theorem La (h:Ey.xP K kf m vn yn on sn gs sp ls ms vs fs l):(∀ i (h:i < fs.length),∀ x∈fs[i].body,dpS kf x)/\∀ x∈l,dpS kf x:=
 ⟨fun i hi x hx=>Hw ((h.body i hi).2.2.2.1 x hx),fun x hx=>Hw (h.main x hx)⟩
theorem LD (nd:List Bool) (i:Nat) (hi:i < fs.length):(BL nd kf fs)[i]? = some ⟨fs[i].ps,A5 nd kf fs[i].body (An kf (fs.take i)),fs[i].res⟩:=by
 unfold BL
 rw [List.getElem?_mapIdx,List.getElem?_eq_getElem hi]
 rfl
theorem Kc (nd:List Bool):(BL nd kf fs).length=fs.length:=by unfold BL;simp
end
end Go.Proofs.YtfffpjkcfnekaaaGreat.Ex
