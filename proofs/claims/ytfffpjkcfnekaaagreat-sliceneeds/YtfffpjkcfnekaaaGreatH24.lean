/- An expression is copied. -/
import Derived.Test.YtfffpjkcfnekaaaGreatH23
set_option linter.unusedVariables false
set_option maxHeartbeats 8000000
set_option maxRecDepth 100000
namespace Go.Proofs.YtfffpjkcfnekaaaGreat.Ex
open Go.RowKit
open Go.Value renaming slice -> O, int -> zd, bool -> ze, agg -> zg, pointer -> zi, tuple -> zj
open Go.IntKind renaming i64 -> U
open Go.Obj renaming cells -> zf
open Go.Ending renaming returned -> zh
theorem Kd:∀ (k:Nat) (cs:List Value) (d:D) (w:World),RX w k cs d->(AB k d).length<=15 ->
  Calls Tryz.prog 147 #[.agg cs.toArray] w fun e w'=>∃ a c,e=zh (zg #[zd U (Ap d),zd U (AA d),O a (Ar d).length c])/\Off w.heap.size none w' (fun W=>RX W k [zd U (Ap d),zd U (AA d),O a (Ar d).length c] d)/\Ov w w':=by
 intro k
 induction k with
 | zero=>intro cs d w h;exact h.elim
 | succ k ih=>
  intro cs d w h hm
  obtain ⟨kd,n,v,ds,rfl,rfl,hkd,hn,hlen,ao,cap,rfl,hc⟩:=h
  have hspec:AB (k+1) (xD kd n ds)=xD kd n ds::ds.flatMap (AB k):=rfl
  rw [hspec] at hm
  have hpos:∀ d∈ds,0 < (AB k d).length:=fun d hd=>by
   obtain ⟨i,hi,rfl⟩:=List.getElem_of_mem hd
   obtain ⟨b,off,-,hel⟩:=hc (by rintro rfl;simp at hi)
   obtain ⟨cs,-,-,hr⟩:=hel i ds[i] (List.getElem?_eq_getElem hi)
   exact Eb hr
  have hl14:ds.length<=14:=by have:=GA hpos;simp only [List.length_cons] at hm;omega
  have hone:∀ i (h:i < ds.length),(AB k ds[i]).length<=15:=fun i h=>by
   have h2:ds.flatMap (AB k)=(ds.take i).flatMap (AB k)++((ds.drop i).flatMap (AB k)):=by rw [<-List.flatMap_append,List.take_append_drop]
   rw [List.drop_eq_getElem_cons h,List.flatMap_cons] at h2
   rw [h2] at hm
   simp only [List.length_cons,List.length_append] at hm
   omega
  have e1:Ap (xD kd n ds)=kd:=rfl
  have e2:AA (xD kd n ds)=n:=rfl
  have e3:Ar (xD kd n ds)=ds:=rfl
  rw [e1,e2,e3]
  have hb1:Ov w ((w.alloc (zf #[zd U kd,zd U n,O ao ds.length cap] 94)).alloc (zf #[zd U 0,zd U 0,O none 0 0] 94)):=(bA w _).alloc (by simp) _
  obtain ⟨V,hV⟩:=nm ((w.alloc (zf #[zd U kd,zd U n,O ao ds.length cap] 94)).alloc (zf #[zd U 0,zd U 0,O none 0 0] 94))
  have hsV:V.heap.size=w.heap.size+2:=by rw [hV];simp
  have k2:V.cell? ⟨w.heap.size,2,none⟩=some (O ao ds.length cap):=by rw [hV];simp [go_sem]
  have hrA:Ad [zd U kd,zd U n,O ao ds.length cap] V w.heap.size:=by rw [hV];exact Ad.over (Ay w [zd U kd,zd U n,O ao ds.length cap] 94) (bA _ _)
  have hrB:Ad [zd U 0,zd U 0,O none 0 0] V (w.heap.size+1):=by
   rw [hV]
   have hs:(w.alloc (zf #[zd U kd,zd U n,O ao ds.length cap] 94)).heap.size=w.heap.size+1:=by simp
   rw [<-hs]
   exact Ay (w.alloc (zf #[zd U kd,zd U n,O ao ds.length cap] 94)) [zd U 0,zd U 0,O none 0 0] 94
  have hfA:∀ j,V.frozen? ⟨w.heap.size,j,none⟩=false:=fun j=>by rw [hV];simp [go_sem]
  have hfB:∀ j,V.frozen? ⟨w.heap.size+1,j,none⟩=false:=fun j=>by rw [hV];simp [go_sem]
  rw [<-hV] at hb1
  have KE:=Aa (L4 147 [] (fun i cs W=>∀ d',ds[i]? = some d'->RX W k cs d') ao ds.length cap V (by omega) (enters_of Tryz.func147 (by kernel_rfl) rfl) (fun hne=>by
   obtain ⟨b,off,hao,hel⟩:=hc (by rintro rfl;simp at hne)
   refine ⟨b,off,hao,fun i hi=>?_⟩
   obtain ⟨cs,hl3,hcc,hr⟩:=hel i ds[i] (List.getElem?_eq_getElem hi)
   obtain ⟨ya,yc,hy⟩:=hr.form
   subst hy
   refine ⟨Ap ds[i],AA ds[i],ya,(Ar ds[i]).length,yc,⟨Ab hb1 _ _ (hcc 0 _ rfl),Ab hb1 _ _ (hcc 1 _ rfl),Ab hb1 _ _ (hcc 2 _ rfl)⟩,fun W hW=>?_⟩
   refine (ih _ ds[i] W (hr.over (hb1.trans (hW.mono hb1.size))) (hone i hi)).mono ?_
   rintro e W' ⟨a,c,rfl,hO,hB⟩
   exact ⟨_,_,a,_,c,rfl,hO.imp fun X hX d' hd'=>by rw [List.getElem?_eq_getElem hi] at hd';injection hd' with hd';rw [<-hd'];exact hX,hB⟩))
  have HB1:=Aa hb1
  have HA:=Aa hrA
  have HRB:=Aa hrB
  have HFA:=Aa hfA
  have HFB:=Aa hfB
  have HSV:=Aa hsV
  have HKD:=Aa (And.intro hkd (And.intro hn hlen))
  clear hc ih hm hpos hone hspec hb1 hrA hrB hfA hfB hsV e1 e2 e3 hkd hn hlen
  go_enter Tryz.func147,Tryz.ntmps147
  go_wp2_with fail
  rw [<-hV]
  clear hV
  refine KE.o.mono ?_
  rintro e W1 ⟨a,c',rfl,hcop,hb2⟩
  have hA1:=HA.o.over hb2
  have hB1:=HRB.o.over hb2
  obtain ⟨a0,a1,a2⟩:=rc3 hA1
  obtain ⟨b0,b1,b2⟩:=rc3 hB1
  have hszV:w.heap.size+2<=W1.heap.size:=by have:=hb2.size;have:=HSV.o;omega
  have fA:=fun j=>((AI hb2).2 w.heap.size j (by have:=HSV.o;omega)).trans (HFA.o j)
  have fB:=fun j=>((AI hb2).2 (w.heap.size+1) j (by have:=HSV.o;omega)).trans (HFB.o j)
  have fA2:=fA 2
  have fB0:=fB 0
  have fB1:=fB 1
  have fB2:=fB 2
  have HOV:Hx (Ov w W1):=HB1.o.trans (hb2.mono HB1.o.size)
  have HCOP:=Aa hcop
  have HB1R:=Aa hB1
  clear hcop hb2 hA1 hB1 fA fB k2 KE
  go_wp2_with fail
  have hrB1:Ad [zd U 0,zd U 0,O none 0 0] (W1.setCell ⟨w.heap.size,2,none⟩ (O a ds.length c')) (w.heap.size+1):=Ad.other HB1R.o (by omega)
  have hrF:=((hrB1.set (j:=0) (v:=zd U kd) (by simp)).set (j:=1) (v:=zd U n) (by simp)).set (j:=2) (v:=O a ds.length c') (by simp)
  simp only [List.set_cons_zero,List.set_cons_succ] at hrF
  obtain ⟨r0,r1,r2⟩:=rc3 hrF
  refine bodyPost_ret (v:=zg #[zd U kd,zd U n,O a ds.length c']) (by simp [results,Tryz.results147,go_sem,r0,r1,r2]) rfl ?_
  refine ⟨a,c',rfl,?_,?_⟩
  ·obtain ⟨a',c2,he,hoff⟩:=HCOP.o.cells (by decide)
   injection he with x1 x2 x3
   subst x1 x3
   have hVw:w.heap.size+2=V.heap.size:=HSV.o.symm
   have hoff2:=((((hoff.set (b:=w.heap.size) (j:=2) (u:=O a ds.length c') (by omega)).set (b:=w.heap.size+1) (j:=0) (u:=zd U kd) (by omega)).set (b:=w.heap.size+1) (j:=1) (u:=zd U n) (by omega)).set (b:=w.heap.size+1) (j:=2) (u:=O a ds.length c') (by omega)).base (B':=w.heap.size) (by omega)
   refine hoff2.imp fun W hW=>?_
   refine ⟨kd,n,_,ds,rfl,rfl,HKD.o.1,HKD.o.2.1,HKD.o.2.2,a,c',rfl,fun hne=>?_⟩
   obtain ⟨b,hb,hel⟩:=hW (fun h=>hne (List.eq_nil_of_length_eq_zero h))
   refine ⟨b,0,hb,fun i d' hd'=>?_⟩
   obtain ⟨cs,h1,h2,h3⟩:=hel i (List.getElem?_eq_some_iff.1 hd').1
   exact ⟨cs,h1,fun j u hu=>by rw [Nat.zero_add];exact h2 j u hu,h3 d' hd'⟩
  ·exact (((HOV.o.setCell (Nat.le_refl _) _).setCell (by simp) _).setCell (by simp) _).setCell (by simp) _
def J6 (b:Lab):Prop:=(b.r.length<=100/\b.w.length<=100)/\(∀ p∈b.r,p.names.length<=100)/\∀ p∈b.w,p.names.length<=100
theorem GP (v:Value) (ls:List Lab) (w:World) (h:BC w v ls) (hl:ls.length<=100) (hn:∀ b∈ls,J6 b) :
  Calls Tryz.prog 140 #[v,.func (.func 141) #[] #[]] w fun e w'=>∃ a c,e=zh (O a ls.length c)/\(a=none->c=0)/\Off w.heap.size none w' (fun W=>BC W (O a ls.length c) ls)/\Ov w w':=by
 obtain ⟨hm,ao,cap,rfl,hel⟩:=h
 refine (M8 141 [] (fun i cs W=>∀ b,ls[i]? = some b->∃ pr pw,cs=[pr,pw]/\Az W pr b.r/\Az W pw b.w) ao ls.length cap w hl (enters_of Tryz.func141 (by kernel_rfl) rfl) (fun hne=>?_)).mono ?_
 ·obtain ⟨b,off,hao,hc⟩:=hel (by rintro rfl;simp at hne)
  refine ⟨b,off,hao,fun i hi=>?_⟩
  obtain ⟨pr,pw,h0,h1,hr,hw⟩:=hc i hi
  obtain ⟨ra,rc,he,-⟩:=id hr
  obtain ⟨wa,wc,he2,-⟩:=id hw
  subst he he2
  obtain ⟨f1,f2⟩:=hn _ (List.getElem_mem hi)
  refine ⟨ra,_,rc,wa,_,wc,⟨h0,h1⟩,fun W hW=>?_⟩
  refine (Ik ls[i] ra rc wa wc W (Au hr hW) (Au hw hW) f1 f2).mono ?_
  rintro e W' ⟨za,zl,zc,ua,ul,uc,rfl,hO,hB⟩
  refine ⟨za,zl,zc,ua,ul,uc,rfl,hO.imp fun X hX b hb=>?_,hB⟩
  rw [List.getElem?_eq_getElem hi] at hb
  injection hb with hb
  subst hb
  exact ⟨_,_,rfl,hX.1,hX.2⟩
 ·rintro e w' ⟨a,c',rfl,hcop,hB⟩
  have hnil:a=none->c'=0:=fun ha=>by
   obtain ⟨xs,ho,-⟩:=hcop
   rcases ho.2 with ⟨he,-⟩ | ⟨g,cap',cur,he,-⟩
   ·injection he
   ·injection he with e1;rw [ha] at e1;cases e1
  obtain ⟨a',c2,he,hoff⟩:=hcop.cells (by decide)
  injection he with x1 x2 x3
  subst x1 x3
  refine ⟨a,c',rfl,hnil,hoff.imp fun W hW=>⟨hm,a,c',rfl,fun hne=>?_⟩,hB⟩
  obtain ⟨b,hb,hc⟩:=hW (fun h=>hne (List.eq_nil_of_length_eq_zero h))
  refine ⟨b,0,hb,fun i hi=>?_⟩
  obtain ⟨cs,h1,h2,h3⟩:=hc i hi
  obtain ⟨pr,pw,rfl,h4,h5⟩:=h3 _ (List.getElem?_eq_getElem hi)
  rw [Nat.zero_add]
  exact ⟨pr,pw,h2 0 _ rfl,h2 1 _ rfl,h4,h5⟩
theorem LE (kb:Bool) (bl:Lab) (ra:Option Addr) (rc:Nat) (wa:Option Addr) (wc:Nat) (w:World) (hx:Az w (O ra bl.r.length rc) bl.r) (hy:Az w (O wa bl.w.length wc) bl.w) (hn:J6 bl) :
  Calls Tryz.prog 143 #[zg #[ze kb,O ra bl.r.length rc,O wa bl.w.length wc]] w fun e w'=>∃ jb za zl zc ua ul uc,e=zh (zg #[ze jb,O za zl zc,O ua ul uc])/\Off w.heap.size none w' (fun W=>jb=kb/\Az W (O za zl zc) bl.r/\Az W (O ua ul uc) bl.w)/\Ov w w':=by
 have hb1:Ov w ((w.alloc (zf #[ze kb,O ra bl.r.length rc,O wa bl.w.length wc] 41)).alloc (zf #[ze false,O none 0 0,O none 0 0] 41)):=(bA w _).alloc (by simp) _
 obtain ⟨V,hV⟩:=nm ((w.alloc (zf #[ze kb,O ra bl.r.length rc,O wa bl.w.length wc] 41)).alloc (zf #[ze false,O none 0 0,O none 0 0] 41))
 have hsV:V.heap.size=w.heap.size+2:=by rw [hV];simp
 have hrA:Ad [ze kb,O ra bl.r.length rc,O wa bl.w.length wc] V w.heap.size:=by rw [hV];exact Ad.over (Ay w [ze kb,O ra bl.r.length rc,O wa bl.w.length wc] 41) (bA _ _)
 have hrB:Ad [ze false,O none 0 0,O none 0 0] V (w.heap.size+1):=by
  rw [hV]
  have hs:(w.alloc (zf #[ze kb,O ra bl.r.length rc,O wa bl.w.length wc] 41)).heap.size=w.heap.size+1:=by simp
  rw [<-hs]
  exact Ay (w.alloc (zf #[ze kb,O ra bl.r.length rc,O wa bl.w.length wc] 41)) [ze false,O none 0 0,O none 0 0] 41
 have hfB:∀ j,V.frozen? ⟨w.heap.size+1,j,none⟩=false:=fun j=>by rw [hV];simp [go_sem]
 rw [<-hV] at hb1
 have KX:=Aa (Ik bl ra rc wa wc V.drew (Au (Au hx hb1) (bD V)) (Au (Au hy hb1) (bD V)) hn.1 hn.2)
 obtain ⟨rn,hrn⟩:=nm bl.r.length
 obtain ⟨wn,hwn⟩:=nm bl.w.length
 rw [<-hrn] at hrA KX hV ⊢
 rw [<-hwn] at hrA KX hV ⊢
 have hS0:CE V.drew w.heap.size 0 (ze kb)/\CE V.drew w.heap.size 1 (O ra rn rc)/\CE V.drew w.heap.size 2 (O wa wn wc):=rc3 hrA
 have HB1:=Aa hb1
 have HRB:=Aa hrB
 have HFB:=Aa hfB
 have HSV:=Aa hsV
 clear hx hy hb1 hrA hrB hfB hsV hrn hwn hn
 go_enter Tryz.func143,Tryz.ntmps143
 go_wp2_with fail
 rw [<-hV]
 clear hV
 refine gS (fun Wz=>CE Wz w.heap.size 0 (ze kb)/\CE Wz w.heap.size 1 (O ra rn rc)/\CE Wz w.heap.size 2 (O wa wn wc)) hS0 fun hHeld=>?_
 refine kT 0 ?_
 refine kT 1 ?_
 refine kT 2 ?_
 refine kT 3 ?_
 refine rdA 4 rfl fun K hK=>?_
 go_simp
 refine KX.o.mono ?_
 rintro e W2 ⟨za,zl,zc,ua,ul,uc,rfl,hO,hb⟩
 have hbV:Ov V W2:=(bD V).trans (hb.mono (Nat.le_refl _))
 have hS2:CE W2 w.heap.size 0 (ze kb)/\CE W2 w.heap.size 1 (O ra rn rc)/\CE W2 w.heap.size 2 (O wa wn wc):=⟨Ab hbV _ _ hS0.1,Ab hbV _ _ hS0.2.1,Ab hbV _ _ hS0.2.2⟩
 have hrB1:=HRB.o.over hbV
 have hrF:=((hrB1.set (j:=0) (v:=ze kb) (by simp)).set (j:=1) (v:=O za zl zc) (by simp)).set (j:=2) (v:=O ua ul uc) (by simp)
 simp only [List.set_cons_zero,List.set_cons_succ] at hrF
 have hfz:=fun j=>((AI hbV).2 (w.heap.size+1) j (by have:=HSV.o;omega)).trans (HFB.o j)
 have f0:=hfz 0
 have f1:=hfz 1
 have f2:=hfz 2
 obtain ⟨x0,x1,x2⟩:=rc3 hrB1
 have hS3:CE (((W2.setCell ⟨w.heap.size+1,0,none⟩ (ze kb)).setCell ⟨w.heap.size+1,1,none⟩ (O za zl zc)).setCell ⟨w.heap.size+1,2,none⟩ (O ua ul uc)) w.heap.size 0 (ze kb)/\CE (((W2.setCell ⟨w.heap.size+1,0,none⟩ (ze kb)).setCell ⟨w.heap.size+1,1,none⟩ (O za zl zc)).setCell ⟨w.heap.size+1,2,none⟩ (O ua ul uc)) w.heap.size 1 (O ra rn rc)/\CE (((W2.setCell ⟨w.heap.size+1,0,none⟩ (ze kb)).setCell ⟨w.heap.size+1,1,none⟩ (O za zl zc)).setCell ⟨w.heap.size+1,2,none⟩ (O ua ul uc)) w.heap.size 2 (O wa wn wc):=⟨Ao (Ao (Ao hS2.1 (by omega)) (by omega)) (by omega),Ao (Ao (Ao hS2.2.1 (by omega)) (by omega)) (by omega),Ao (Ao (Ao hS2.2.2 (by omega)) (by omega)) (by omega)⟩
 have HRF:=Aa hrF
 have HOV:Hx (Ov w W2):=HB1.o.trans (hbV.mono HB1.o.size)
 have HVs:Hx (V.drew.heap.size=w.heap.size+2):=HSV.o
 have HOX:=Aa hO
 clear hO hb hbV hrB1 hrF hfz
 go_simp
 refine xK hK hS2 fun hHeld=>?_
 clear hK K
 refine kT 5 ?_
 refine rdA 6 rfl fun K hK=>?_
 go_simp
 refine xK hK hS3 fun hHeld=>?_
 clear hK K
 refine gE ?_
 go_wp2_with fail
 obtain ⟨r0,r1,r2⟩:=rc3 HRF.o
 refine bodyPost_ret (v:=zg #[ze kb,O za zl zc,O ua ul uc]) (by simp [results,Tryz.results143,go_sem,r0,r1,r2]) rfl ?_
 refine ⟨kb,za,zl,zc,ua,ul,uc,rfl,?_,((HOV.o.setCell (by simp) _).setCell (by simp) _).setCell (by simp) _⟩
 have h1:=(((HOX.o.set (b:=w.heap.size+1) (j:=0) (u:=ze kb) (by rw [HVs.o];omega)).set (b:=w.heap.size+1) (j:=1) (u:=O za zl zc) (by rw [HVs.o];omega)).set (b:=w.heap.size+1) (j:=2) (u:=O ua ul uc) (by rw [HVs.o];omega)).base (B':=w.heap.size) (by rw [HVs.o];omega)
 exact h1.imp fun W hW=>⟨rfl,hW.1,hW.2⟩
theorem Ke (v:Value) (vs:List (Bool × Lab)) (w:World) (h:C7 w v vs) (hl:vs.length<=100) (hn:∀ b∈vs,J6 b.2) :
  Calls Tryz.prog 142 #[v,.func (.func 143) #[] #[]] w fun e w'=>∃ a c,e=zh (O a vs.length c)/\Off w.heap.size none w' (fun W=>C7 W (O a vs.length c) vs)/\Ov w w':=by
 obtain ⟨hm,ao,cap,rfl,hel⟩:=h
 refine (M6 143 [] (fun i cs W=>∀ b,vs[i]? = some b->∃ pr pw,cs=[ze b.1,pr,pw]/\Az W pr b.2.r/\Az W pw b.2.w) ao vs.length cap w hl (enters_of Tryz.func143 (by kernel_rfl) rfl) (fun hne=>?_)).mono ?_
 ·obtain ⟨b,off,hao,hc⟩:=hel (by rintro rfl;simp at hne)
  refine ⟨b,off,hao,fun i hi=>?_⟩
  obtain ⟨pr,pw,h0,h1,h2,hr,hw⟩:=hc i hi
  obtain ⟨ra,rc,he,-⟩:=id hr
  obtain ⟨wa,wc,he2,-⟩:=id hw
  subst he he2
  refine ⟨_,ra,_,rc,wa,_,wc,⟨h0,h1,h2⟩,fun W hW=>?_⟩
  refine (LE vs[i].1 vs[i].2 ra rc wa wc W (Au hr hW) (Au hw hW) (hn _ (List.getElem_mem hi))).mono ?_
  rintro e W' ⟨jb,za,zl,zc,ua,ul,uc,rfl,hO,hB⟩
  refine ⟨jb,za,zl,zc,ua,ul,uc,rfl,hO.imp fun X hX b hb=>?_,hB⟩
  rw [List.getElem?_eq_getElem hi] at hb
  injection hb with hb
  subst hb
  exact ⟨_,_,by rw [hX.1],hX.2.1,hX.2.2⟩
 ·rintro e w' ⟨a,c',rfl,hcop,hB⟩
  obtain ⟨a',c2,he,hoff⟩:=hcop.cells (by decide)
  injection he with x1 x2 x3
  subst x1 x3
  refine ⟨a,c',rfl,hoff.imp fun W hW=>⟨hm,a,c',rfl,fun hne=>?_⟩,hB⟩
  obtain ⟨b,hb,hc⟩:=hW (fun h=>hne (List.eq_nil_of_length_eq_zero h))
  refine ⟨b,0,hb,fun i hi=>?_⟩
  obtain ⟨cs,h1,h2,h3⟩:=hc i hi
  obtain ⟨pr,pw,rfl,h4,h5⟩:=h3 _ (List.getElem?_eq_getElem hi)
  rw [Nat.zero_add]
  exact ⟨pr,pw,h2 0 _ rfl,h2 1 _ rfl,h2 2 _ rfl,h4,h5⟩
theorem Kf (k:Nat) (v:Value) (ds:List D) (w:World) (h:XS 3 (RX w k) w v ds) (hl:ds.length<=100) (hn:∀ d∈ds,(AB k d).length<=15) :
  Calls Tryz.prog 201 #[v,.func (.func 147) #[] #[]] w fun e w'=>∃ a c,e=zh (O a ds.length c)/\Off w.heap.size none w' (fun W=>XS 3 (RX W k) W (O a ds.length c) ds)/\Ov w w':=by
 obtain ⟨hm,ao,cap,rfl,hel⟩:=h
 refine (L4 147 [] (fun i cs W=>∀ d,ds[i]? = some d->RX W k cs d) ao ds.length cap w hl (enters_of Tryz.func147 (by kernel_rfl) rfl) (fun hne=>?_)).mono ?_
 ·obtain ⟨b,off,hao,hc⟩:=hel (by rintro rfl;simp at hne)
  refine ⟨b,off,hao,fun i hi=>?_⟩
  obtain ⟨cs,hl3,hcc,hr⟩:=hc i ds[i] (List.getElem?_eq_getElem hi)
  obtain ⟨ya,yc,hy⟩:=hr.form
  subst hy
  refine ⟨Ap ds[i],AA ds[i],ya,(Ar ds[i]).length,yc,⟨hcc 0 _ rfl,hcc 1 _ rfl,hcc 2 _ rfl⟩,fun W hW=>?_⟩
  refine (Kd k _ ds[i] W (hr.over hW) (hn _ (List.getElem_mem hi))).mono ?_
  rintro e W' ⟨a,c,rfl,hO,hB⟩
  exact ⟨_,_,a,_,c,rfl,hO.imp fun X hX d' hd'=>by rw [List.getElem?_eq_getElem hi] at hd';injection hd' with hd';rw [<-hd'];exact hX,hB⟩
 ·rintro e w' ⟨a,c',rfl,hcop,hB⟩
  obtain ⟨a',c2,he,hoff⟩:=hcop.cells (by decide)
  injection he with x1 x2 x3
  subst x1 x3
  refine ⟨a,c',rfl,hoff.imp fun W hW=>⟨hm,a,c',rfl,fun hne=>?_⟩,hB⟩
  obtain ⟨b,hb,hc⟩:=hW (fun h=>hne (List.eq_nil_of_length_eq_zero h))
  refine ⟨b,0,hb,fun i d' hd'=>?_⟩
  obtain ⟨cs,h1,h2,h3⟩:=hc i (List.getElem?_eq_some_iff.1 hd').1
  exact ⟨cs,h1,fun j u hu=>by rw [Nat.zero_add];exact h2 j u hu,h3 d' hd'⟩
theorem Off.keep {B:Nat} {g:Option Nat} {w w':World} {P:World->Prop} (h:Off B g w P) (hs:w.heap.size<=w'.heap.size) (hk:∀ k,B<=k->k < w.heap.size->w'.heap[k]? = w.heap[k]?):Off B g w' P:=
 fun W hW=>h W fun k h1 h2 h3=>(hW k h1 (Nat.lt_of_lt_of_le h2 hs) h3).trans (hk k h1 h2)
theorem Cop.keep {B T s n:Nat} {P:Nat->List Value->World->Prop} {v:Value} {w w':World} (h:Cop B T s P n v w) (hs:w.heap.size<=w'.heap.size) (hk:∀ k,B<=k->k < w.heap.size->w'.heap[k]? = w.heap[k]?):Cop B T s P n v w':=by
 obtain ⟨xs,ho,he⟩:=h
 refine ⟨xs,⟨ho.1,?_⟩,fun i hi=>?_⟩
 ·rcases ho.2 with h | ⟨g,cap,cur,h1,h2,h3,h4⟩
  ·exact Or.inl h
  ·exact Or.inr ⟨g,cap,cur,h1,h2,by rw [hk g h2 (Array.getElem?_eq_some_iff.1 h3).1];exact h3,h4⟩
 ·obtain ⟨cs,h1,h2,h3⟩:=he i hi
  exact ⟨cs,h1,h2,fun W hW=>h3 W fun k a b c=>(hW k a (Nat.lt_of_lt_of_le b hs) c).trans (hk k a b)⟩
structure CI (bs:Nat) (nd:List Bool) (bc a:Nat) (W:World):Prop where
 row:Ad [O (some ⟨bs,0,none⟩) nd.length nd.length,zd U (a:Int)] W bc
 fz:∀ j,W.frozen? ⟨bc,j,none⟩=false
 nd:Ad (nd.map Value.bool) W bs
 ne:bs≠bc
def XC (bc:Nat) (_:World) (k:Nat):Prop:=k=bc
theorem Cf (bc:Nat):XOk (XC bc):=⟨fun _ _ _ _ h=>h⟩
section
variable {bs:Nat} {nd:List Bool} {bc a:Nat} {W W':World}
theorem CI.lt (h:CI bs nd bc a W):bc < W.heap.size:=bL (h.row 0 _ rfl)
theorem CI.over (h:CI bs nd bc a W) (hb:Ov W W'):CI bs nd bc a W':=⟨h.row.over hb,fun j=>((AI hb).2 _ _ h.lt).trans (h.fz j),h.nd.over hb,h.ne⟩
theorem CI.next (h:CI bs nd bc a W) (a':Nat):CI bs nd bc a' (W.setCell ⟨bc,1,none⟩ (zd U (a':Int)))/\FrW (XC bc) W (W.setCell ⟨bc,1,none⟩ (zd U (a':Int))):=by
 have hs:(W.setCell ⟨bc,1,none⟩ (zd U (a':Int))).heap.size=W.heap.size:=by simp [World.setCell]
 have h1:=h.row.set (j:=1) (v:=zd U (a':Int)) (by simp)
 simp only [List.set_cons_succ,List.set_cons_zero] at h1
 refine ⟨⟨h1,fun j=>AC.trans (h.fz j),Ad.other h.nd h.ne,h.ne⟩,⟨rfl,rfl,rfl,by rw [hs];exact Nat.le_refl _,fun k hk hx=>Bd (fun e=>hx e.symm) _,fun k _ hx=>hx⟩⟩
theorem FrW.from {B:Nat} (h:FrW (XC bc) W W') (hB:bc < B):∀ k,B<=k->k < W.heap.size->W'.heap[k]? = W.heap[k]?:=fun k h1 h2=>h.block k h2 (fun e=>by have e':k=bc:=e;omega)
theorem FrW.base {w0:World} (h:FrW (XC bc) W W') (hB:w0.heap.size<=bc) (hw:Ov w0 W):Ov w0 W':=hw.trans ⟨h.os,h.tape,h.output,h.size,fun k hk=>h.block k (Nat.lt_of_lt_of_le hk hw.size) (fun e=>by have e':k=bc:=e;omega)⟩
end
theorem E1 (nd:List Bool) (k:Nat):∀ (l m:List D) (a:Nat),A5 nd k (l++m) a=A5 nd k l a++A5 nd k m (a+Aj k l)
 | [],m,a=>by simp [GL,Aj]
 | d::r,m,a=>by rw [List.cons_append,B8,B8,E1 nd k r,BA,List.append_assoc,Nat.add_assoc]
def GK (K:Nat):Nat->D->Prop
 | 0,_=>False
 | k+1,d=>(AB K (Ai d)).length<=15/\(Ah d).length<=100/\(∀ a∈Ah d,(AB K a).length<=15)/\(∀ x∈Af d,GK K k x)/\∀ x∈Al d,GK K k x
theorem Tryz.infoSt:(Tryz.prog.info? 130).map (fun i=>(i.zero,i.size,i.bytes))=some (some (zg #[zd U 0,zd U 0,zd U 0,zd U 0,zd U 0,O none 0 0,O none 0 0,O none 0 0,O none 0 0]),9,136):=by kernel_rfl
section
variable {bs:Nat} {nd:List Bool} {bc a:Nat} {W W' w:World}
theorem CI.set (h:CI bs nd bc a W) {b j:Nat} {u:Value} (h1:b≠bc) (h2:b≠bs):CI bs nd bc a (W.setCell ⟨b,j,none⟩ u):=
 ⟨Ad.other h.row (Ne.symm h1),fun j=>AC.trans (h.fz j),Ad.other h.nd (Ne.symm h2),h.ne⟩
theorem CI.bsl (h:CI bs nd bc a W) {i:Nat} (hn:i < nd.length):bs < W.heap.size:=
 bL (h.nd i (ze nd[i]) (by rw [List.getElem?_map,List.getElem?_eq_getElem hn];rfl))
theorem FrW.set (h:FrW (XC bc) w W) {b j:Nat} {u:Value} (hb:w.heap.size<=b):FrW (XC bc) w (W.setCell ⟨b,j,none⟩ u):=
 ⟨h.os,h.tape,h.output,by rw [show (W.setCell ⟨b,j,none⟩ u).heap.size=W.heap.size by simp [World.setCell]];exact h.size,fun k hk hx=>(Bd (by omega) _).trans (h.block k hk hx),fun k hk hx=>hx⟩
theorem FrW.low (h:FrW (XC bc) w W) (hb:Below w.heap.size W W'):FrW (XC bc) w W':=
 ⟨hb.os.trans h.os,hb.tape.trans h.tape,hb.output.trans h.output,Nat.le_trans h.size hb.size,fun k hk hx=>(hb.block k hk).trans (h.block k hk hx),fun k hk hx=>hx⟩
theorem CI.low {B:Nat} (h:CI bs nd bc a W) (hb:Below B W W') (h1:bc < B) (h2:bs < B):CI bs nd bc a W':=
 ⟨fun j u hu=>(World.cell?_of_block (a:=⟨bc,j,none⟩) (hb.block bc h1)).trans (h.row j u hu),fun j=>(World.frozen?_of_block (a:=⟨bc,j,none⟩) (hb.block bc h1)).trans (h.fz j),
  fun j u hu=>(World.cell?_of_block (a:=⟨bs,j,none⟩) (hb.block bs h2)).trans (h.nd j u hu),h.ne⟩
end
theorem Off.and {B B1 B2:Nat} {w:World} {P Q:World->Prop} (h:Off B1 none w P) (k:Off B2 none w Q) (h1:B<=B1) (h2:B<=B2):Off B none w (fun W=>P W/\Q W):=
 fun W hW=>⟨h.base h1 W hW,k.base h2 W hW⟩
theorem D2 (nd:List Bool):∀ (k:Nat) (l:List D) (a:Nat),(A5 nd k l a).length<=Aj k l
 | k,[],a=>Nat.zero_le _
 | 0,d::r,a=>by
  rw [B8,BA,List.length_append]
  have h:=D2 nd 0 r (a+Bi 0 d)
  have h2:(Eu nd 0 d a).length=0:=rfl
  omega
 | k+1,d::r,a=>by
  rw [B8,BA,List.length_append,A8]
  have h:=D2 nd (k+1) r (a+Bi (k+1) d)
  rw [A8] at h
  have h2:(Eu nd (k+1) d a).length<=1:=by
   unfold Eu
   split
   ·exact Nat.le_refl _
   ·exact Nat.zero_le _
  omega
theorem RS.of {X:World} {K k:Nat} {nd:List Bool} {d:D} {a:Nat} {ea:Option Addr} {el ec:Nat} {aa:Option Addr} {al ac:Nat} {ta:Option Addr} {tl tc:Nat} {sa:Option Addr} {sl sc:Nat} {kd va ot ek en:Int}
  (h0:kd=Ae d) (h1:va=Av d) (h2:ot=Ac d) (i0:Bn kd) (i1:Bn va) (i2:Bn ot) (hx:RX X K [zd U ek,zd U en,O ea el ec] (Ai d)) (ha:XS 3 (RX X K) X (O aa al ac) (Ah d))
  (ht:AD X K k (O ta tl tc) (A5 nd k (Af d) (a+1))) (hs:AD X K k (O sa sl sc) (A5 nd k (Al d) (a+1+Aj k (Af d)))) :
  RS X K (k+1) [zd U kd,zd U va,zd U ot,zd U ek,zd U en,O ea el ec,O aa al ac,O ta tl tc,O sa sl sc] (Cv nd k d a):=
 ⟨kd,va,ot,_,_,_,_,_,_,_,_,_,_,rfl,by rw [h0,h1,h2];rfl,i0,i1,i2,hx,ha,ht,hs⟩
theorem Tryz.infoFn:(Tryz.prog.info? 105).map (fun i=>(i.zero,i.size,i.bytes))=some (some (zg #[O none 0 0,O none 0 0,zd U 0,zd U 0,O none 0 0]),5,88):=by kernel_rfl
theorem M9 (F:FuncId) (cap:List Value) (P:Nat->List Value->World->Prop) (J:Nat->World->Prop) (bo:Nat) (ao:Option Addr) (n c:Nat) (w0 w:World) (hw0:Ov w0 w) (hlo:w0.heap.size<=bo) (hJ0:J 0 w) (hJ:∀ i W W',J i W->Below w.heap.size W W'->J i W') (hbo:bo < w.heap.size) (hn:n<=100) (hC:∀ (args:Array Value) (w:World),(callFunc F args).run Tryz.prog w=.ok (.enter F args) w)
  (hv:n≠0->∃ b off,ao=some ⟨b,off,none⟩/\∀ i,i < n->∃ (pa:Option Addr) (pl pc:Nat) (ba:Option Addr) (bl bd:Nat) (k1 k2:Int) (xa:Option Addr) (xl xc:Nat),(w0.cell? ⟨b,off+i*5,none⟩=some (O pa pl pc)/\w0.cell? ⟨b,off+i*5+1,none⟩=some (O ba bl bd)/\w0.cell? ⟨b,off+i*5+2,none⟩=some (zd U k1)/\w0.cell? ⟨b,off+i*5+3,none⟩=some (zd U k2)/\w0.cell? ⟨b,off+i*5+4,none⟩=some (O xa xl xc))/\∀ W,FrW (XC bo) w W->J i W->Calls Tryz.prog F (zg #[O pa pl pc,O ba bl bd,zd U k1,zd U k2,O xa xl xc]::cap).toArray W fun e W'=>∃ (qa:Option Addr) (ql qc:Nat) (da:Option Addr) (dl dc:Nat) (j1 j2:Int) (za:Option Addr) (zl zc:Nat),e=zh (zg #[O qa ql qc,O da dl dc,zd U j1,zd U j2,O za zl zc])/\Off W.heap.size none W' (P i [O qa ql qc,O da dl dc,zd U j1,zd U j2,O za zl zc])/\FrW (XC bo) W W'/\J (i+1) W') :
  Calls Tryz.prog 144 #[O ao n c,.func (.func F) #[] cap.toArray] w fun e w'=>∃ a c',e=zh (O a n c')/\Cop w.heap.size 105 5 P n (O a n c') w'/\FrW (XC bo) w w'/\J n w':=by
 obtain ⟨i0,hi,hz0,hz1,hz2⟩:=info_parts Tryz.infoFn
 have HV:=Aa hv
 have HJ0:=Aa hJ0
 have HJ:=Aa hJ
 have HW0:=Aa hw0
 have HLO:=Aa hlo
 have HBO:=Aa hbo
 clear hv hJ0 hJ hw0 hlo hbo
 go_enter Tryz.func144,Tryz.ntmps144
 go_wp2_with fail
 go_loopw [5,10] (fun u i wr=>∃ j:Nat,j<=n/\i=zd U j/\Cop w.heap.size 105 5 P j u wr/\FrW (XC bo) w wr/\J j wr) (fun _ i _=>n - (intOf i).toNat)
 case atStart=>exact ⟨0,Nat.zero_le _,rfl,Cop.nil,FrW.refl _,HJ0.o⟩
 case round=>
  obtain ⟨j,hj,rfl,hI,hB,hJj⟩:=hrel
  by_cases hlt:j < n
  ·obtain ⟨b,off,rfl,hel⟩:=HV.o (by omega)
   obtain ⟨pa,pl,pc,ba,bl,bd,k1,k2,xa,xl,xc,⟨c0,c1,c2,c3,c4⟩,hF⟩:=hel j hlt
   obtain ⟨c0,c1,c2,c3,c4⟩:=co5 (hB.base HLO.o HW0.o) c0 c1 c2 c3 c4
   obtain ⟨oa,oc,rfl,-⟩:=hI.cells (by decide)
   have hb1:Ov wr (wr.alloc (zf #[O pa pl pc,O ba bl bd,zd U k1,zd U k2,O xa xl xc] 105)):=bA _ _
   obtain ⟨V,hV⟩:=nm (wr.alloc (zf #[O pa pl pc,O ba bl bd,zd U k1,zd U k2,O xa xl xc] 105))
   have hrV:Ad [O pa pl pc,O ba bl bd,zd U k1,zd U k2,O xa xl xc] V wr.heap.size:=by rw [hV];exact Ay wr [O pa pl pc,O ba bl bd,zd U k1,zd U k2,O xa xl xc] 105
   have hsV:V.heap.size=wr.heap.size+1:=by rw [hV];simp
   rw [<-hV] at hb1
   have hwV:FrW (XC bo) w V:=hB.trans (FrW.of_below (Cf bo) hb1)
   have KF:=Aa (hF V hwV (HJ.o j wr V hJj (hb1.mono hB.size)))
   obtain ⟨d0,d1,d2,d3,d4⟩:=rc5 hrV
   have HI:=Aa (hI.over hb1)
   have HRL:Hx (∀ g,(Value.slice oa j oc).ownBlock=some g->g < wr.heap.size):=fun g hg=>by
    obtain ⟨xs,ho,-⟩:=hI
    exact (DI ho hg).2
   have HWV:=Aa hwV
   have HSV:=Aa hsV
   have HSZ:=Aa hB.size
   have hlt1:(j:Int) < (n:Int):=by omega
   clear hJj hI hB hb1 hrV hwV hsV hF hel HV
   go_wp2_with fail
   rw [<-hV]
   clear hV c0 c1 c2 c3 c4
   refine KF.o.mono ?_
   rintro e W1 ⟨qa,ql,qc,da,dl,dc,j1,j2,za,zl,zc,rfl,hO,hb2,hJ2⟩
   have hI1:=HI.o.keep hb2.size (hb2.from HBO.o)
   have hb3:Ov W1 (W1.alloc (zf #[O qa ql qc,O da dl dc,zd U j1,zd U j2,O za zl zc] 105)):=bA _ _
   obtain ⟨xs,hown,hpar⟩:=hI1.over hb3
   have hN:=Ay W1 [O qa ql qc,O da dl dc,zd U j1,zd U j2,O za zl zc] 105
   have hBW:w.heap.size<=(W1.alloc (zf #[O qa ql qc,O da dl dc,zd U j1,zd U j2,O za zl zc] 105)).heap.size:=Nat.le_trans (Nat.le_trans HWV.o.size hb2.size) hb3.size
   have HN:=Aa hN
   have HO:=Aa (hO.over hb3)
   have HPAR:=Aa hpar
   have HJ2:=Aa hJ2
   have HB23:Hx (FrW (XC bo) w (W1.alloc (zf #[O qa ql qc,O da dl dc,zd U j1,zd U j2,O za zl zc] 105))):=(HWV.o.trans hb2).trans (FrW.of_below (Cf bo) hb3)
   have HS13:Hx (Below w.heap.size W1 (W1.alloc (zf #[O qa ql qc,O da dl dc,zd U j1,zd U j2,O za zl zc] 105))):=hb3.mono (Nat.le_trans HWV.o.size hb2.size)
   clear hJ2 hI1 hO hb2 hb3 hN hpar d0 d1 d2 d3 d4
   go_wp2_with (at_builtin;refine wpList_append_own_at _ rfl _ _ 28 rfl w.heap.size 105 i0 (zg #[O none 0 0,O none 0 0,zd U 0,zd U 0,O none 0 0]) 5 88 Tryz.underlying28 hi hz0 hz1 hz2 rfl (by decide) _ _ _ rfl hown ⟨W1.heap.size,0,none⟩ 1 1 [O qa ql qc,O da dl dc,zd U j1,zd U j2,O za zl zc] rfl rfl (fun jj u hu=>by rw [Addr.add_lit,Nat.zero_add];exact HN.o jj u hu) (by simp [Value.oneCell']) (by unfold maxLen;omega) (by omega) hBW ?_)
   intro v2 w2 hown2 hgr2 _ hat
   have hcop:=Cop.add hown HPAR.o rfl HO.o HWV.o.size (fun g hg=>by have:=HRL.o g hg;have:=HSV.o;omega) hown2 hgr2 (by simpa using hat)
   obtain ⟨va2,vn2,vc2,rfl⟩:=AK hown2
   have hlow:=AG hown hgr2 hBW
   have hov:FrW (XC bo) w w2:=FrW.low HB23.o hlow
   have hJe:J (j+1) w2:=HJ.o _ _ _ HJ2.o (HS13.o.trans hlow)
   have HFIN:=Aa (And.intro hcop (And.intro hov hJe))
   clear hlow hJe hcop hov hown hown2 hgr2 hat hBW
   go_wp2_with fail
   exact ⟨⟨j+1,by omega,by go_num,HFIN.o.1,HFIN.o.2.1,HFIN.o.2.2⟩,by simp [intOf];omega⟩
  ·have hje:j=n:=by omega
   subst hje
   obtain ⟨oa,oc,rfl,-⟩:=hI.cells (by decide)
   have HFIN:=Aa (And.intro hI (And.intro hB hJj))
   clear hI hB hJj HV hlt
   go_wp2_with fail
   go_ret
   exact ⟨_,_,rfl,HFIN.o.1,HFIN.o.2.1,HFIN.o.2.2⟩
end Go.Proofs.YtfffpjkcfnekaaaGreat.Ex
