/- A function whose commands are cut. -/
import Derived.Test.YtfffpjkcfnekaaaGreatG36
import Derived.Test.YtfffpjkcfnekaaaGreatG35
set_option linter.unusedVariables false
set_option maxHeartbeats 8000000
set_option maxRecDepth 100000
namespace Go.Proofs.YtfffpjkcfnekaaaGreat.Ex
open Go.RowKit
open Go.Value renaming slice -> O, int -> zd, bool -> ze, agg -> zg, pointer -> zi, tuple -> zj
open Go.IntKind renaming i64 -> U
open Go.Obj renaming cells -> zf
open Go.Ending renaming returned -> zh
theorem Mo (K kf bs:Nat) (nd:List Bool) (hnl:nd.length<=1000) (f:FnD) (pa:Option Addr) (pc:Nat) (ba:Option Addr) (bd:Nat) (k1 k2:Int) (xa:Option Addr) (xl xc:Nat) (w0 W:World) (bc bq a:Nat)
  (hP:Ar w0 (O pa f.ps.length pc) f.ps) (hpl:f.ps.length<=1000) (hB:AC w0 K kf (O ba f.body.length bd) f.body) (hR:RX w0 K [zd U k1,zd U k2,O xa xl xc] f.res) (hres:(AJ K f.res).length<=15) (hfew:∀ d∈f.body,Gg K kf d)
  (hw:Ov w0 W) (hlo:w0.heap.size<=bc) (hC:CI bs nd bc a W) (ha:a+Ai kf f.body<=nd.length) (hq:W.cell? ⟨bq,0,none⟩=some (zi (some ⟨bc,0,none⟩))) (hqc:bq≠bc) :
  Calls Tryz.prog 145 #[zg #[O pa f.ps.length pc,O ba f.body.length bd,zd U k1,zd U k2,O xa xl xc],zi (some ⟨bq,0,none⟩)] W fun e W'=>∃ (qa:Option Addr) (qc:Nat) (da:Option Addr) (dc:Nat) (za:Option Addr) (zc:Nat),e=zh (zg #[O qa f.ps.length qc,O da (AF nd kf f.body a).length dc,zd U (Au f.res),zd U (AG f.res),O za (Ax f.res).length zc])/\Off W.heap.size none W' (fun X=>Ar X (O qa f.ps.length qc) f.ps/\AC X K kf (O da (AF nd kf f.body a).length dc) (AF nd kf f.body a)/\RX X K [zd U (Au f.res),zd U (AG f.res),O za (Ax f.res).length zc] f.res)/\(f.ps.length<=qc/\qc<=maxLen)/\FrW (XC bc) W W'/\CI bs nd bc (a+Ai kf f.body) W':=by
 have hbcW:=hC.lt
 have hbqW:bq < W.heap.size:=bL hq
 have HP:Hx (∀ Wz,Ov w0 Wz->Ar Wz (O pa f.ps.length pc) f.ps):=fun Wz hz=>hP.over hz
 have HR:Hx (∀ Wz,Ov w0 Wz->RX Wz K [zd U k1,zd U k2,O xa xl xc] f.res):=fun Wz hz=>RX.over hR hz
 have K2:Hx (∀ Wz,Ov w0 Wz->_):=fun Wz (hz:Ov w0 Wz)=>FD (O pa f.ps.length pc) f.ps Wz (HP.o Wz hz) hpl
 have K6:Hx (∀ Wz,Ov w0 Wz->CI bs nd bc a Wz->_):=fun Wz (hz:Ov w0 Wz) (hc:CI bs nd bc a Wz)=>Gi K bs nd hnl kf (O ba f.body.length bd) f.body w0 Wz bc a hB hz hlo hc ha hfew
 have K9:Hx (∀ Wz,Ov w0 Wz->_):=fun Wz (hz:Ov w0 Wz)=>JA K [zd U k1,zd U k2,O xa xl xc] f.res Wz (HR.o Wz hz) hres
 obtain ⟨pn,hpn⟩:=nm f.ps.length
 obtain ⟨bn,hbn⟩:=nm f.body.length
 obtain ⟨dn,hdn⟩:=nm (AF nd kf f.body a).length
 obtain ⟨rk,hrk⟩:=nm (Au f.res)
 obtain ⟨rn,hrn⟩:=nm (AG f.res)
 obtain ⟨rl,hrl⟩:=nm (Ax f.res).length
 rw [<-hpn] at K2 ⊢
 rw [<-hbn] at K6 ⊢
 rw [<-hdn] at K6 ⊢
 rw [<-hrk,<-hrn,<-hrl] at K9 ⊢
 have hb1:Ov W ((W.alloc (zf #[O pa pn pc,O ba bn bd,zd U k1,zd U k2,O xa xl xc] 105)).alloc (zf #[O none 0 0,O none 0 0,zd U 0,zd U 0,O none 0 0] 105)):=(bA W _).alloc (by simp) _
 obtain ⟨V,hV⟩:=nm ((W.alloc (zf #[O pa pn pc,O ba bn bd,zd U k1,zd U k2,O xa xl xc] 105)).alloc (zf #[O none 0 0,O none 0 0,zd U 0,zd U 0,O none 0 0] 105))
 have hsV:V.heap.size=W.heap.size+2:=by rw [hV];simp
 have hrA:Af [O pa pn pc,O ba bn bd,zd U k1,zd U k2,O xa xl xc] V W.heap.size:=by rw [hV];exact Af.over (Az W [O pa pn pc,O ba bn bd,zd U k1,zd U k2,O xa xl xc] 105) (bA _ _)
 have hrB:Af [O none 0 0,O none 0 0,zd U 0,zd U 0,O none 0 0] V (W.heap.size+1):=by
  rw [hV]
  have hs:(W.alloc (zf #[O pa pn pc,O ba bn bd,zd U k1,zd U k2,O xa xl xc] 105)).heap.size=W.heap.size+1:=by simp
  rw [<-hs]
  exact Az (W.alloc (zf #[O pa pn pc,O ba bn bd,zd U k1,zd U k2,O xa xl xc] 105)) [O none 0 0,O none 0 0,zd U 0,zd U 0,O none 0 0] 105
 have hfB:∀ j,V.frozen? ⟨W.heap.size+1,j,none⟩=false:=fun j=>by rw [hV];simp [go_sem]
 rw [<-hV] at hb1
 have hS0:CE V.drew W.heap.size 0 (O pa pn pc)/\CE V.drew W.heap.size 1 (O ba bn bd)/\CE V.drew W.heap.size 2 (zd U k1)/\CE V.drew W.heap.size 3 (zd U k2)/\CE V.drew W.heap.size 4 (O xa xl xc)/\CE V.drew bq 0 (zi (some ⟨bc,0,none⟩)):=by
  obtain ⟨g0,g1,g2,g3,g4⟩:=rc5 hrA
  exact ⟨g0,g1,g2,g3,g4,Ab hb1 _ _ hq⟩
 have hw0V:Ov w0 V.drew:=hw.trans ((hb1.trans ((bD V).mono hb1.size)).mono hw.size)
 have HCV:Hx (CI bs nd bc a V.drew):=(hC.over hb1).over (bD V)
 have HW0V:=Aa hw0V
 have HB1:=Aa hb1
 have HRB:=Aa hrB
 have HFB:=Aa hfB
 have HSV:=Aa hsV
 have HLO:=Aa hlo
 have HX1:Hx (∀ X,¬ XC bc X W.heap.size):=fun X h=>by have h':W.heap.size=bc:=h;omega
 have HX2:Hx (∀ X,¬ XC bc X bq):=fun X h=>hqc h
 have HX3:Hx (∀ X,¬ XC bc X (W.heap.size+1)):=fun X h=>by have h':W.heap.size+1=bc:=h;omega
 have HBC:=Aa hbcW
 have HBQ:=Aa hbqW
 have HBS:Hx (∀ i,i < nd.length->bs < W.heap.size):=fun i hi=>hC.bsl hi
 have HNB:Hx (W.heap.size+1≠bc/\(CI bs nd bc (a+Ai kf f.body) V.drew->True)):=⟨by omega,fun _=>trivial⟩
 have HNM:=Aa (And.intro hpn (And.intro hdn (And.intro hrk (And.intro hrn hrl))))
 clear hP hpl hB hR hres hfew hw hlo hC ha hq hqc hb1 hrA hrB hfB hsV hpn hbn hdn hrk hrn hrl hw0V hbqW hbcW HP HR hnl
 go_enter Tryz.func145,Tryz.ntmps145
 go_wp2_with fail
 rw [<-hV]
 clear hV
 refine gS (fun Wz=>CE Wz W.heap.size 0 (O pa pn pc)/\CE Wz W.heap.size 1 (O ba bn bd)/\CE Wz W.heap.size 2 (zd U k1)/\CE Wz W.heap.size 3 (zd U k2)/\CE Wz W.heap.size 4 (O xa xl xc)/\CE Wz bq 0 (zi (some ⟨bc,0,none⟩))) hS0 fun hHeld=>?_
 refine kT 0 ?_
 refine kT 1 ?_
 refine kT 3 ?_
 refine kT 4 ?_
 refine kT 5 ?_
 refine kT 7 ?_
 refine kT 8 ?_
 refine rdA 2 rfl fun Kq hK=>?_
 go_simp
 refine (K2.o _ HW0V.o).mono ?_
 rintro e W2 ⟨qa,qc,rfl,hO2,hb2,hq2⟩
 have hS2:CE W2 W.heap.size 0 (O pa pn pc)/\CE W2 W.heap.size 1 (O ba bn bd)/\CE W2 W.heap.size 2 (zd U k1)/\CE W2 W.heap.size 3 (zd U k2)/\CE W2 W.heap.size 4 (O xa xl xc)/\CE W2 bq 0 (zi (some ⟨bc,0,none⟩)):=⟨Ab hb2 _ _ hS0.1,Ab hb2 _ _ hS0.2.1,Ab hb2 _ _ hS0.2.2.1,Ab hb2 _ _ hS0.2.2.2.1,Ab hb2 _ _ hS0.2.2.2.2.1,Ab hb2 _ _ hS0.2.2.2.2.2⟩
 have HO2:=Aa hO2
 have HB2:=Aa hb2
 have HQ2:=Aa hq2
 have HC2:=Aa (HCV.o.over hb2)
 have HW2:Hx (Ov w0 W2):=HW0V.o.trans (hb2.mono HW0V.o.size)
 clear hO2 hb2 hq2
 go_simp
 refine xK hK hS2 fun hHeld=>?_
 clear hK Kq
 refine rdA 6 rfl fun Kq hK=>?_
 go_simp
 refine (K6.o _ HW2.o HC2.o).mono ?_
 rintro e W3 ⟨da,dc,rfl,hO3,hC3,hF3⟩
 have hS3:CE W3 W.heap.size 0 (O pa pn pc)/\CE W3 W.heap.size 1 (O ba bn bd)/\CE W3 W.heap.size 2 (zd U k1)/\CE W3 W.heap.size 3 (zd U k2)/\CE W3 W.heap.size 4 (O xa xl xc)/\CE W3 bq 0 (zi (some ⟨bc,0,none⟩)):=⟨hF3.cell hS2.1 (HX1.o _),hF3.cell hS2.2.1 (HX1.o _),hF3.cell hS2.2.2.1 (HX1.o _),hF3.cell hS2.2.2.2.1 (HX1.o _),hF3.cell hS2.2.2.2.2.1 (HX1.o _),hF3.cell hS2.2.2.2.2.2 (HX2.o _)⟩
 have HO3:=Aa hO3
 have HC3:=Aa hC3
 have HF3:=Aa hF3
 have HW3:Hx (Ov w0 W3):=hF3.base HLO.o HW2.o
 clear hO3 hC3 hF3
 go_simp
 refine xK hK hS3 fun hHeld=>?_
 clear hK Kq
 refine rdA 9 rfl fun Kq hK=>?_
 go_simp
 refine (K9.o _ HW3.o).mono ?_
 rintro e W4 ⟨za,zc,rfl,hO4,hb4⟩
 have hS4:CE W4 W.heap.size 0 (O pa pn pc)/\CE W4 W.heap.size 1 (O ba bn bd)/\CE W4 W.heap.size 2 (zd U k1)/\CE W4 W.heap.size 3 (zd U k2)/\CE W4 W.heap.size 4 (O xa xl xc)/\CE W4 bq 0 (zi (some ⟨bc,0,none⟩)):=⟨Ab hb4 _ _ hS3.1,Ab hb4 _ _ hS3.2.1,Ab hb4 _ _ hS3.2.2.1,Ab hb4 _ _ hS3.2.2.2.1,Ab hb4 _ _ hS3.2.2.2.2.1,Ab hb4 _ _ hS3.2.2.2.2.2⟩
 have hrB4:=(HF3.o.row (HRB.o.over ((bD V).trans (HB2.o.mono (Nat.le_refl _)))) (HX3.o _)).over hb4
 have hrF:=((((hrB4.set (j:=0) (v:=O qa pn qc) (by simp)).set (j:=1) (v:=O da dn dc) (by simp)).set (j:=2) (v:=zd U rk) (by simp)).set (j:=3) (v:=zd U rn) (by simp)).set (j:=4) (v:=O za rl zc) (by simp)
 simp only [List.set_cons_zero,List.set_cons_succ] at hrF
 have hs2:V.heap.size<=W2.heap.size:=HB2.o.size
 have hfz:=fun j=>((AM hb4).2 (W.heap.size+1) j (by have h1:=HF3.o.size;have h2:=HSV.o;omega)).trans ((HF3.o.frozen (j:=j) (by have h2:=HSV.o;omega) (HX3.o _)).trans (((AM HB2.o).2 (W.heap.size+1) j (by have h2:V.drew.heap.size=W.heap.size+2:=HSV.o;omega)).trans (HFB.o j)))
 have f0:=hfz 0
 have f1:=hfz 1
 have f2:=hfz 2
 have f3:=hfz 3
 have f4:=hfz 4
 obtain ⟨x0,x1,x2,x3,x4⟩:=rc5 hrB4
 have hS5:CE (((((W4.setCell ⟨W.heap.size+1,0,none⟩ (O qa pn qc)).setCell ⟨W.heap.size+1,1,none⟩ (O da dn dc)).setCell ⟨W.heap.size+1,2,none⟩ (zd U rk)).setCell ⟨W.heap.size+1,3,none⟩ (zd U rn)).setCell ⟨W.heap.size+1,4,none⟩ (O za rl zc)) W.heap.size 0 (O pa pn pc)/\CE (((((W4.setCell ⟨W.heap.size+1,0,none⟩ (O qa pn qc)).setCell ⟨W.heap.size+1,1,none⟩ (O da dn dc)).setCell ⟨W.heap.size+1,2,none⟩ (zd U rk)).setCell ⟨W.heap.size+1,3,none⟩ (zd U rn)).setCell ⟨W.heap.size+1,4,none⟩ (O za rl zc)) W.heap.size 1 (O ba bn bd)/\CE (((((W4.setCell ⟨W.heap.size+1,0,none⟩ (O qa pn qc)).setCell ⟨W.heap.size+1,1,none⟩ (O da dn dc)).setCell ⟨W.heap.size+1,2,none⟩ (zd U rk)).setCell ⟨W.heap.size+1,3,none⟩ (zd U rn)).setCell ⟨W.heap.size+1,4,none⟩ (O za rl zc)) W.heap.size 2 (zd U k1)/\CE (((((W4.setCell ⟨W.heap.size+1,0,none⟩ (O qa pn qc)).setCell ⟨W.heap.size+1,1,none⟩ (O da dn dc)).setCell ⟨W.heap.size+1,2,none⟩ (zd U rk)).setCell ⟨W.heap.size+1,3,none⟩ (zd U rn)).setCell ⟨W.heap.size+1,4,none⟩ (O za rl zc)) W.heap.size 3 (zd U k2)/\CE (((((W4.setCell ⟨W.heap.size+1,0,none⟩ (O qa pn qc)).setCell ⟨W.heap.size+1,1,none⟩ (O da dn dc)).setCell ⟨W.heap.size+1,2,none⟩ (zd U rk)).setCell ⟨W.heap.size+1,3,none⟩ (zd U rn)).setCell ⟨W.heap.size+1,4,none⟩ (O za rl zc)) W.heap.size 4 (O xa xl xc)/\CE (((((W4.setCell ⟨W.heap.size+1,0,none⟩ (O qa pn qc)).setCell ⟨W.heap.size+1,1,none⟩ (O da dn dc)).setCell ⟨W.heap.size+1,2,none⟩ (zd U rk)).setCell ⟨W.heap.size+1,3,none⟩ (zd U rn)).setCell ⟨W.heap.size+1,4,none⟩ (O za rl zc)) bq 0 (zi (some ⟨bc,0,none⟩)):=⟨An (An (An (An (An hS4.1 (by omega)) (by omega)) (by omega)) (by omega)) (by omega),An (An (An (An (An hS4.2.1 (by omega)) (by omega)) (by omega)) (by omega)) (by omega),An (An (An (An (An hS4.2.2.1 (by omega)) (by omega)) (by omega)) (by omega)) (by omega),An (An (An (An (An hS4.2.2.2.1 (by omega)) (by omega)) (by omega)) (by omega)) (by omega),An (An (An (An (An hS4.2.2.2.2.1 (by omega)) (by omega)) (by omega)) (by omega)) (by omega),An (An (An (An (An hS4.2.2.2.2.2 (by have:=HBQ.o;omega)) (by have:=HBQ.o;omega)) (by have:=HBQ.o;omega)) (by have:=HBQ.o;omega)) (by have:=HBQ.o;omega)⟩
 have HRF:=Aa hrF
 have HO4:=Aa hO4
 have HB4:=Aa hb4
 clear hO4 hb4 hrB4 hrF hfz hs2
 go_simp
 refine xK hK hS4 fun hHeld=>?_
 clear hK Kq
 refine kT 10 ?_
 refine rdA 11 rfl fun Kq hK=>?_
 go_simp
 refine xK hK hS5 fun hHeld=>?_
 clear hK Kq
 refine gE ?_
 go_wp2_with fail
 obtain ⟨r0,r1,r2,r3,r4⟩:=rc5 HRF.o
 refine bodyPost_ret (v:=zg #[O qa pn qc,O da dn dc,zd U rk,zd U rn,O za rl zc]) (by simp [results,Tryz.results145,go_sem,r0,r1,r2,r3,r4]) rfl ?_
 refine ⟨qa,qc,da,dc,za,zc,rfl,?_,HQ2.o,?_,?_⟩
 ·have hsz:V.drew.heap.size=W.heap.size+2:=HSV.o
  have hV2:W.heap.size+2<=W2.heap.size:=by have:=HB2.o.size;omega
  have hV3:W.heap.size+2<=W3.heap.size:=by have:=HF3.o.size;omega
  have o2:=(((((((HO2.o.keep HF3.o.size (HF3.o.from (by have h:=HBC.o;omega))).over HB4.o).set (b:=W.heap.size+1) (j:=0) (u:=O qa pn qc) (by omega)).set (b:=W.heap.size+1) (j:=1) (u:=O da dn dc) (by omega)).set (b:=W.heap.size+1) (j:=2) (u:=zd U rk) (by omega)).set (b:=W.heap.size+1) (j:=3) (u:=zd U rn) (by omega)).set (b:=W.heap.size+1) (j:=4) (u:=O za rl zc) (by omega))
  have o3:=((((((HO3.o.over HB4.o).set (b:=W.heap.size+1) (j:=0) (u:=O qa pn qc) (by omega)).set (b:=W.heap.size+1) (j:=1) (u:=O da dn dc) (by omega)).set (b:=W.heap.size+1) (j:=2) (u:=zd U rk) (by omega)).set (b:=W.heap.size+1) (j:=3) (u:=zd U rn) (by omega)).set (b:=W.heap.size+1) (j:=4) (u:=O za rl zc) (by omega))
  have o4:=(((((HO4.o.set (b:=W.heap.size+1) (j:=0) (u:=O qa pn qc) (by omega)).set (b:=W.heap.size+1) (j:=1) (u:=O da dn dc) (by omega)).set (b:=W.heap.size+1) (j:=2) (u:=zd U rk) (by omega)).set (b:=W.heap.size+1) (j:=3) (u:=zd U rn) (by omega)).set (b:=W.heap.size+1) (j:=4) (u:=O za rl zc) (by omega))
  exact (o2.and (o3.and o4 (B:=W.heap.size) (by omega) (by omega)) (by omega) (Nat.le_refl _))
 ·have h1:FrW (XC bc) W W4:=(((FrW.of_below (B0 bc) HB1.o).trans (FrW.of_below (B0 bc) ((bD V).trans (HB2.o.mono (Nat.le_refl _))))).trans HF3.o).trans (FrW.of_below (B0 bc) HB4.o)
  exact FrW.set (FrW.set (FrW.set (FrW.set (FrW.set h1 (by omega)) (by omega)) (by omega)) (by omega)) (by omega)
 ·have hc:=HC3.o.over HB4.o
  have hn2:W.heap.size+1≠bs\/nd=[]:=by
   rcases nd with _ | ⟨x,r⟩
   ·exact Or.inr rfl
   ·exact Or.inl (by have:=HBS.o 0 (by simp);omega)
  have hc5:∀ (X:World) (j:Nat) (u:Value),CI bs nd bc (a+Ai kf f.body) X->CI bs nd bc (a+Ai kf f.body) (X.setCell ⟨W.heap.size+1,j,none⟩ u):=fun X j u h=>by
   rcases hn2 with h2 | h2
   ·exact h.set HNB.o.1 h2
   ·subst h2
    exact ⟨Af.other h.row (Ne.symm HNB.o.1),fun j=>Ay.trans (h.fz j),fun j u hu=>by simp at hu,h.ne⟩
  exact hc5 _ _ _ (hc5 _ _ _ (hc5 _ _ _ (hc5 _ _ _ (hc5 _ _ _ hc))))
theorem GF {W:World} {B:Nat} {v:Value} {l:List (Int × Int)} (h:W.ownsRow B 169 2 v l.length (grV l)):Off B none W (fun W'=>Bf W' v l):=by
 rcases h.2 with ⟨hv,h0⟩ | ⟨g,cap,cur,hv,hb,hg,h1,h2,h3,h4⟩
 ·exact fun W' _=>⟨none,0,by rw [hv,h0],fun hne=>absurd (List.length_eq_zero_iff.1 h0) hne⟩
 ·refine fun W' hW=>⟨some ⟨g,0,none⟩,cap,hv,fun _=>⟨g,0,rfl,fun i hi=>?_⟩⟩
  have hlt:g < W.heap.size:=(Array.getElem?_eq_some_iff.1 hg).1
  have hblk:W'.heap[g]? = W.heap[g]?:=hW g hb hlt (by simp)
  have hx:=Fy l i hi
  rw [<-h4,List.getElem?_take,if_pos (by omega),List.getElem?_take,if_pos (by omega)] at hx
  rw [World.cell?_of_block (a:=⟨g,0+i*2,none⟩) hblk,Lib.cell_of_heap hg,World.cell?_of_block (a:=⟨g,0+i*2+1,none⟩) hblk,Lib.cell_of_heap hg]
  simpa using hx
theorem LR (v:Value) (l:List (Int × Int)) (w:World) (h:Bf w v l) (hl:l.length<=1000) :
  Calls Tryz.prog 139 #[v] w fun e w'=>∃ a c,e=zh (O a l.length c)/\Off w.heap.size none w' (fun W=>Bf W (O a l.length c) l)/\Ov w w'/\l.length<=c/\c<=maxLen:=by
 obtain ⟨ao,cap,rfl,hel⟩:=h
 obtain ⟨i0,hi,hz0,hz1,hz2⟩:=info_parts Tryz.infoGr
 have q22:∀ (w:World) (a:Option Addr) (n c n' c':Nat),(binOp .eql 22 (O a n c) (O none n' c')).run Tryz.prog w=.ok (ze a.isNone) w:=fun w a n c n' c'=>Lib.run_eql_slice_nil w _ _ a n c n' c' Tryz.underlying22
 cases ao with
 | none=>
  obtain rfl:l=[]:=by
   cases l with
   | nil=>rfl
   | cons x l=>obtain ⟨b,off,he,-⟩:=hel (by simp);cases he
  clear hel hi hz0 hz1 hz2
  show Calls Tryz.prog 139 #[O none 0 cap] w fun e w'=>∃ a c,e=zh (O a 0 c)/\Off w.heap.size none w' (fun W=>Bf W (O a 0 c) [])/\Ov w w'/\0<=c/\c<=maxLen
  go_enter Tryz.func139,Tryz.ntmps139
  go_wp2_with fail
  go_ret
  exact ⟨none,0,rfl,fun W _=>⟨none,0,rfl,fun h=>absurd rfl h⟩,Below.refl _ _,Nat.le_refl _,by unfold maxLen;omega⟩
 | some a0=>
  have hb0:Ov w (w.alloc (zf #[] 169)):=bA w _
  have hown:(w.alloc (zf #[] 169)).ownsRow w.heap.size 169 2 (O (some ⟨w.heap.size,0,none⟩) 0 0) 0 []:=World.ownsRow_made w #[] 0 (Nat.le_refl _) (by unfold maxLen;omega) (by simp)
  have HB0:=Aa hb0
  have hb0s:=hb0.size
  cases l with
  | nil=>
   clear hel hz0 hz1 hz2
   show Calls Tryz.prog 139 #[O (some a0) 0 cap] w fun e w'=>∃ a c,e=zh (O a 0 c)/\Off w.heap.size none w' (fun W=>Bf W (O a 0 c) [])/\Ov w w'/\0<=c/\c<=maxLen
   go_enter Tryz.func139,Tryz.ntmps139
   go_wp2_with (at_builtin;refine wpList_append_own_none rfl _ _ 22 rfl w.heap.size 169 i0 2 Tryz.underlying22 hi _ _ _ rfl hown rfl ?_)
   go_wp2_with fail
   go_ret
   exact ⟨_,_,rfl,fun W _=>⟨_,_,rfl,fun h=>absurd rfl h⟩,HB0.o,Nat.le_refl _,by unfold maxLen;omega⟩
  | cons x l=>
   obtain ⟨b,off,he,hel2⟩:=hel (by simp)
   injection he with he
   subst he
   have hnews:∀ jj u,(grV (x::l))[jj]? = some u->(w.alloc (zf #[] 169)).cell? ((⟨b,off,none⟩:Addr).add jj)=some u:=fun jj u hu=>by
    rw [Addr.add_lit]
    obtain ⟨i,hi',⟨rfl,rfl⟩ | ⟨rfl,rfl⟩⟩:=LM hu
    ·exact Ab hb0 _ _ (hel2 i hi').1
    ·exact Ab hb0 _ _ (hel2 i hi').2
   have hone:∀ u∈grV (x::l),u.oneCell'=true:=Hg _
   obtain ⟨L,hL⟩:=nm (x::l)
   rw [<-hL] at hl hnews hone ⊢
   obtain ⟨ll,hll⟩:=nm L.length
   have hml:(grV L).length=ll*2:=by rw [hll];exact Fx L
   have HLL:=Aa hll
   have HLP:Hx (1<=ll):=by rw [hll,hL];simp [Hx]
   rw [<-hll] at hl ⊢
   have hl1:=HLP.o
   clear hel hel2 hb0 hL hll
   go_enter Tryz.func139,Tryz.ntmps139
   go_wp2_with (at_builtin;refine wpList_append_own _ rfl _ _ 22 rfl w.heap.size 169 i0 (zg #[zd U 0,zd U 0]) 2 16 Tryz.underlying22 hi hz0 hz1 hz2 rfl (by decide) _ _ _ rfl hown ⟨b,off,none⟩ ll cap (grV L) rfl hml hnews hone (by unfold maxLen;omega) (by omega) hb0s ?_)
   intro v2 w2 hown2 hgr2 _
   have hB2:Ov w w2:=HB0.o.trans (Cq hgr2 (fun g e=>by simp [Value.ownBlock] at e;omega) HB0.o.size)
   rw [HLL.o] at hown2
   have HOFF:=Aa (GF hown2)
   obtain ⟨va2,vc2,rfl,hcap⟩:∃ a c,v2=O a L.length c/\L.length<=c/\c<=maxLen:=by
    rcases hown2.2 with ⟨h,h0⟩ | ⟨g,cap,cur,h,_,_,h3,h4,_⟩
    ·exact ⟨none,0,by rw [h,h0],by rw [h0];exact Nat.le_refl _,by unfold maxLen;omega⟩
    ·exact ⟨_,_,h,h3,h4⟩
   have HCAP:=Aa hcap
   have HB2:=Aa hB2
   clear hcap hown hown2 hgr2 hB2 hi hz0 hz1 hz2 hnews hone hml
   go_wp2_with fail
   go_ret
   exact ⟨va2,vc2,by rw [HLL.o];rfl,by rw [HLL.o];exact HOFF.o,HB2.o,by rw [HLL.o];exact HCAP.o.1,HCAP.o.2⟩
theorem Gq {K:Nat} {e:D} (h:Au e=0/\Ax e=[]):AK K e=[]:=by
 cases K with
 | zero=>rfl
 | succ k=>
  unfold AK
  rw [if_neg (by omega),h.2]
  rfl
section
variable {K vn yn on:Nat} {fs:List FnD} {kf:Nat}
theorem L6 {funcs:Int} {d:D} (h:Ey.xS1 K vn yn on funcs fs d) (hf:funcs<=fs.length) (hr:∀ f∈fs,Al vn K f.res=0) (n a e:Nat) (ha:a < n):Rg vn yn n K fs (a,d,e):=by
 obtain ⟨⟨h1,h2,h3,h4,h5,h6,h7⟩,-⟩:=h
 refine ⟨ha,fun v hv=>?_,fun h=>?_,fun h q hq v hv=>?_,fun h v hv=>?_⟩
 ·dsimp only at hv
  by_cases hk:Ad d=2\/Ad d=3
  ·rw [Gq (h6 hk)] at hv;cases hv
  ·have:=BP (h5 (by omega)) v hv
   omega
 ·have:=h4 h;dsimp only;omega
 ·have:=BP ((h3 h).2.2 q.2 (List.of_mem_zip (a:=q.1) (b:=q.2) hq).2) v hv
  omega
 ·dsimp only at hv h
  have ho:=(h3 h).1
  have hlt:(Ac d).toNat < fs.length:=by omega
  have hb:AN fs (Ac d)=fs[(Ac d).toNat]:=by unfold AN;rw [List.getD_eq_getElem?_getD,List.getElem?_eq_getElem hlt];rfl
  rw [hb] at hv
  have:=BP (hr _ (List.getElem_mem hlt)) v hv
  omega
theorem Kj {funcs:Int} {d:D} (h:Ey.xS1 K vn yn on funcs fs d) (h7:Ad d≠7) (h8:Ad d≠8):Ae d=[]/\Aj d=[]:=⟨h.2.2.2.2.2.1 ⟨h7,h8⟩,h.2.2.2.2.2.2 h7⟩
theorem G0 {funcs:Int}:∀ {k:Nat} {d:D},Ey.xS K vn yn on funcs fs k d->dpS k d
 | 0,_,h=>h
 | k+1,d,h=>⟨fun s hs=>G0 (h.2.1 s hs),fun s hs=>G0 (h.2.2 s hs)⟩
theorem Hc {funcs:Int} {k:Nat} {l:List D} {a:Nat} (h:∀ s∈l,Ey.xS K vn yn on funcs fs k s):∀ x∈Bp k l a,Ey.xS1 K vn yn on funcs fs x.2.1:=
 C1 (P:=fun k d=>Ey.xS K vn yn on funcs fs k d) (P1:=fun d=>Ey.xS1 K vn yn on funcs fs d) (fun k d h=>h) k l a h
variable {m:Int} {sn:Nat} {gs:List (Int × Int)} {sp:List Int} {ls ms:List Lab} {vs:List (Bool × Lab)} {l:List D}
theorem Fj (h:Ey.xP K kf m vn yn on sn gs sp ls ms vs fs l):∀ x∈B8 kf fs l,∃ funcs:Int,funcs<=fs.length/\Ey.xS1 K vn yn on funcs fs x.2.1:=fun x hx=>by
 rcases List.mem_append.1 hx with hx | hx
 ·obtain ⟨i,hi,hx⟩:=Fm hx
  exact ⟨i,by omega,Hc (h.body i hi).2.2.2.1 x hx⟩
 ·exact ⟨fs.length,Int.le_refl _,Hc h.main x hx⟩
theorem IU (x) (hx:x∈B8 kf fs l):x.1 < Am kf fs+Ai kf l:=by
 obtain ⟨i,hi,rfl⟩:=List.mem_iff_getElem.1 hx
 rw [D9,<-DE]
 exact hi
theorem G5 (h:Ey.xP K kf m vn yn on sn gs sp ls ms vs fs l):∀ x∈B8 kf fs l,Rg vn yn (Am kf fs+Ai kf l) K fs x:=fun x hx=>by
 obtain ⟨f,hf,h1⟩:=Fj h x hx
 exact L6 h1 hf (fun g hg=>by
  obtain ⟨i,hi,rfl⟩:=List.mem_iff_getElem.1 hg
  exact (h.body i hi).2.2.2.2) _ _ _ (IU x hx)
theorem G6 (h:Ey.xP K kf m vn yn on sn gs sp ls ms vs fs l) (ch:Int):(AY ch K kf fs l vn yn).mo=false/\Ln vn yn (Am kf fs+Ai kf l) (AY ch K kf fs l vn yn)/\∀ x∈B8 kf fs l,Cl (AY ch K kf fs l vn yn).nd (AY ch K kf fs l vn yn).vs (AY ch K kf fs l vn yn).cs ch K kf fs x:=
 Ib (G5 h) (fun x hx h7 h8=>by
  obtain ⟨f,hf,h1⟩:=Fj h x hx
  exact Kj h1 h7 h8)
theorem JW (h:Ey.xP K kf m vn yn on sn gs sp ls ms vs fs l):(∀ i (h:i < fs.length),∀ x∈fs[i].body,dpS kf x)/\∀ x∈l,dpS kf x:=
 ⟨fun i hi x hx=>G0 ((h.body i hi).2.2.2.1 x hx),fun x hx=>G0 (h.main x hx)⟩
theorem Ea (nd:List Bool) (i:Nat) (hi:i < fs.length):(Bi nd kf fs)[i]? = some ⟨fs[i].ps,AF nd kf fs[i].body (Am kf (fs.take i)),fs[i].res⟩:=by
 unfold Bi
 rw [List.getElem?_mapIdx,List.getElem?_eq_getElem hi]
 rfl
theorem Ck (nd:List Bool):(Bi nd kf fs).length=fs.length:=by unfold Bi;simp
theorem C5 {P Q:Nat->D->Prop} (nd:List Bool) (h1:∀ k d a,P (k+1) d->(∀ s∈Ae d,P k s)/\(∀ s∈Aj d,P k s)/\((∀ s∈AF nd k (Ae d) (a+1),Q k s)->(∀ s∈AF nd k (Aj d) (a+1+Ai k (Ae d)),Q k s)->Q (k+1) (BZ nd k d a))):∀ (k:Nat) (l:List D) (a:Nat),(∀ s∈l,P k s)->∀ s∈AF nd k l a,Q k s
 | k,[],a,_,s,hs=>by cases hs
 | 0,d::r,a,h,s,hs=>C5 nd h1 0 r _ (fun s hs=>h s (List.mem_cons_of_mem _ hs)) s hs
 | k+1,d::r,a,h,s,hs=>by
  rw [Bv,List.mem_append] at hs
  obtain ⟨g1,g2,g3⟩:=h1 k d a (h d (List.mem_cons_self ..))
  rcases hs with hs | hs
  ·cases hn:nd.getD a false with
   | false=>rw [DI hn] at hs;cases hs
   | true=>
    rw [CG hn] at hs
    rw [List.mem_singleton.1 hs]
    exact g3 (C5 nd h1 k _ _ g1) (C5 nd h1 k _ _ g2)
  ·exact C5 nd h1 (k+1) r _ (fun s hs=>h s (List.mem_cons_of_mem _ hs)) s hs
theorem CF (nd:List Bool):∀ (k:Nat) (l:List D) (a:Nat),Ai k (AF nd k l a)<=Ai k l
 | k,[],a=>Nat.le_refl _
 | 0,d::r,a=>by
  rw [Bv,Bm]
  exact Nat.le_trans (CF nd 0 r _) (Nat.le_add_left _ _)
 | k+1,d::r,a=>by
  rw [Bv,Bm]
  have e:Ai (k+1) (DJ nd (k+1) d a++AF nd (k+1) r (a+A5 (k+1) d))=Ai (k+1) (DJ nd (k+1) d a)+Ai (k+1) (AF nd (k+1) r (a+A5 (k+1) d)):=by
   unfold Ai;rw [List.map_append,List.sum_append]
  have h1:=CF nd (k+1) r (a+A5 (k+1) d)
  rw [e]
  cases hn:nd.getD a false with
  | false=>rw [DI hn];show 0+_<=_;omega
  | true=>
   rw [CG hn,Bm,AR,AR]
   have h2:=CF nd k (Ae d) (a+1)
   have h3:=CF nd k (Aj d) (a+1+Ai k (Ae d))
   have e1:Ae (BZ nd k d a)=AF nd k (Ae d) (a+1):=rfl
   have e2:Aj (BZ nd k d a)=AF nd k (Aj d) (a+1+Ai k (Ae d)):=rfl
   rw [e1,e2,show Ai (k+1) []=0 from rfl]
   rw [AR] at h1
   omega
theorem Kn {funcs:Int} {nd:List Bool} {k:Nat} {d:D} {a:Nat} (h:Ey.xS1 K vn yn on funcs fs d):Ey.xS1 K vn yn on funcs (Bi nd kf fs) (BZ nd k d a):=by
 obtain ⟨⟨h1,h2,h3,h4,h5,h6,h7⟩,g1,g2,g3,g4,g5,g6⟩:=h
 refine ⟨⟨h1,h2,fun h=>⟨(h3 h).1,fun f hf=>?_,(h3 h).2.2⟩,h4,h5,h6,h7⟩,g1,g2,g3,g4,fun h=>?_,fun h=>?_⟩
 ·have hf':(Bi nd kf fs)[(Ac d).toNat]? = some f:=hf
  unfold Bi at hf'
  rw [List.getElem?_mapIdx] at hf'
  cases hc:fs[(Ac d).toNat]? with
  | none=>rw [hc] at hf';cases hf'
  | some f0=>
   rw [hc] at hf'
   injection hf' with hf'
   rw [<-hf']
   exact (h3 h).2.1 f0 hc
 ·show AF nd k (Ae d) (a+1)=[]
  rw [g5 h];rfl
 ·show AF nd k (Aj d) _=[]
  rw [g6 h];rfl
theorem Jy {funcs:Int} (nd:List Bool) (k:Nat) (l:List D) (a:Nat) (h:∀ s∈l,Ey.xS K vn yn on funcs fs k s):∀ s∈AF nd k l a,Ey.xS K vn yn on funcs (Bi nd kf fs) k s:=
 C5 (P:=fun k d=>Ey.xS K vn yn on funcs fs k d) (Q:=fun k d=>Ey.xS K vn yn on funcs (Bi nd kf fs) k d) nd (fun k d a h=>⟨h.2.1,h.2.2,fun g1 g2=>⟨Kn h.1,g1,g2⟩⟩) k l a h
theorem Hk (nd:List Bool) (k:Nat) (deep:Int) (l:List D) (a:Nat) (h:Ey.dps k deep l):Ey.dps k deep (AF nd k l a):=by
 have key:∀ (k:Nat) (l:List D) (deep:Int) (a:Nat),Ey.dps k deep l->Ey.dps k deep (AF nd k l a):=by
  intro k
  induction k with
  | zero=>
   intro l deep a h s hs
   cases l with
   | nil=>cases hs
   | cons d r=>exact (h d (List.mem_cons_self ..)).elim
  | succ k ih=>
   intro l
   induction l with
   | nil=>intro deep a h s hs;cases hs
   | cons d r ihl=>
    intro deep a h s hs
    rw [Bv,List.mem_append] at hs
    rcases hs with hs | hs
    ·have hd:=h d (List.mem_cons_self ..)
     cases hn:nd.getD a false with
     | false=>rw [DI hn] at hs;cases hs
     | true=>
      rw [CG hn] at hs
      rw [List.mem_singleton.1 hs]
      exact ⟨hd.1,ih _ _ _ hd.2.1,ih _ _ _ hd.2.2⟩
    ·exact ihl deep _ (fun s hs=>h s (List.mem_cons_of_mem _ hs)) s hs
 exact key k l deep a h
theorem Jz (nd:List Bool):Am kf (Bi nd kf fs)<=Am kf fs:=by
 have:∀ j,j<=fs.length->Am kf ((Bi nd kf fs).take j)<=Am kf (fs.take j):=by
  intro j
  induction j with
  | zero=>intro _;exact Nat.le_refl _
  | succ j ih=>
   intro hj
   have h1:=ih (by omega)
   have hl:j < (Bi nd kf fs).length:=by rw [Ck];omega
   have e1:(Bi nd kf fs)[j]=⟨fs[j].ps,AF nd kf fs[j].body (Am kf (fs.take j)),fs[j].res⟩:=by
    have:=Ea (kf:=kf) (fs:=fs) nd j (by omega)
    rw [List.getElem?_eq_getElem hl] at this
    injection this
   unfold Am at h1 ⊢
   rw [List.take_succ_eq_append_getElem hl,List.take_succ_eq_append_getElem (by omega:j < fs.length),List.map_append,List.map_append,List.sum_append,List.sum_append,e1]
   have h2:=CF nd kf fs[j].body (Am kf (fs.take j))
   simp only [List.map_cons,List.map_nil,List.sum_cons,List.sum_nil]
   omega
 have h:=this fs.length (Nat.le_refl _)
 rw [List.take_length,<-Ck (kf:=kf) nd,List.take_length] at h
 exact h
theorem LO (h:Ey.xP K kf m vn yn on sn gs sp ls ms vs fs l) (nd:List Bool) (a:Nat):Ey.xP K kf m vn yn on sn gs sp ls ms vs (Bi nd kf fs) (AF nd kf l a):=by
 refine ⟨h.chk,by rw [Ck];exact h.lim,h.speak,h.labs,⟨?_,?_,?_⟩,fun i hi=>?_,fun s hs=>?_⟩
 ·have h1:=Jz (kf:=kf) (fs:=fs) nd
  have h2:=CF nd kf l a
  have:=h.many.1
  omega
 ·intro f hf
  obtain ⟨i,hi,rfl⟩:=List.mem_iff_getElem.1 hf
  have hi':i < fs.length:=by rw [Ck] at hi;exact hi
  have e1:(Bi nd kf fs)[i]=⟨fs[i].ps,AF nd kf fs[i].body (Am kf (fs.take i)),fs[i].res⟩:=by
   have:=Ea (kf:=kf) nd i hi'
   rw [List.getElem?_eq_getElem hi] at this
   injection this
  rw [e1]
  exact Hk nd kf 1 _ _ (h.many.2.1 _ (List.getElem_mem hi'))
 ·exact Hk nd kf 1 l a h.many.2.2
 ·have hi':i < fs.length:=by rw [Ck] at hi;exact hi
  have e1:(Bi nd kf fs)[i]=⟨fs[i].ps,AF nd kf fs[i].body (Am kf (fs.take i)),fs[i].res⟩:=by
   have:=Ea (kf:=kf) nd i hi'
   rw [List.getElem?_eq_getElem hi] at this
   injection this
  rw [e1]
  obtain ⟨g1,g2,g3,g4,g5⟩:=h.body i hi'
  exact ⟨g1,g2,g3,Jy nd kf _ _ g4,g5⟩
 ·rw [Ck]
  exact Jy nd kf l a h.main s hs
end
end Go.Proofs.YtfffpjkcfnekaaaGreat.Ex
