/- Commands that are needed are copied. -/
import Derived.Test.YtfffpjkcfnekaaaGreatH24
import Derived.Test.YtfffpjkcfnekaaaGreatH26
set_option linter.unusedVariables false
set_option maxHeartbeats 8000000
set_option maxRecDepth 100000
namespace Go.Proofs.YtfffpjkcfnekaaaGreat.Ex
open Go.RowKit
open Go.Value renaming slice -> O, int -> zd, bool -> ze, agg -> zg, pointer -> zi, tuple -> zj
open Go.IntKind renaming i64 -> U
open Go.Obj renaming cells -> zf
open Go.Ending renaming returned -> zh
theorem GM (K bs:Nat) (nd:List Bool) (hnl:nd.length<=1000):∀ (k:Nat) (v:Value) (l:List D) (w0 w:World) (bc a:Nat),AD w0 K k v l->Ov w0 w->w0.heap.size<=bc->CI bs nd bc a w->a+Aj k l<=nd.length->(∀ d∈l,GK K k d) ->
  Calls Tryz.prog 146 #[zi (some ⟨bc,0,none⟩),v] w fun e w'=>∃ a1 c1,e=zh (O a1 (A5 nd k l a).length c1)/\Off w.heap.size none w' (fun X=>AD X K k (O a1 (A5 nd k l a).length c1) (A5 nd k l a))/\CI bs nd bc (a+Aj k l) w'/\FrW (XC bc) w w':=by
 intro k
 induction k with
 | zero=>
  intro v l w0 w bc a h hw hlo hC ha hf
  have h0:=h.zero
  subst h0
  obtain ⟨hm,ao,cap,rfl,-⟩:=h
  have HC:=Aa hC
  clear hm hC ha hf hw hlo
  show Calls Tryz.prog 146 #[zi (some ⟨bc,0,none⟩),O ao 0 cap] w fun e w'=>∃ a1 c1,e=zh (O a1 0 c1)/\Off w.heap.size none w' (fun X=>AD X K 0 (O a1 0 c1) [])/\CI bs nd bc (a+0) w'/\FrW (XC bc) w w'
  go_enter Tryz.func146,Tryz.ntmps146
  go_wp2_with fail
  go_loopw [5,11] (fun u i wr=>u=O none 0 0/\i=zd U 0/\wr=w) (fun _ _ _=>0)
  case atStart=>exact ⟨rfl,rfl,rfl⟩
  case round=>
   obtain ⟨rfl,rfl,rfl⟩:=hrel
   go_wp2_with fail
   go_ret
   exact ⟨none,0,rfl,fun W _=>⟨Nat.zero_le _,none,0,rfl,fun h=>absurd rfl h⟩,HC.o,FrW.refl _⟩
 | succ k ih=>
  intro v l w0 w bc a h hw hlo hC ha hf
  obtain ⟨hm,ao,cap,rfl,hc⟩:=h
  have hlm:l.length<=9223372036854775807:=hm
  have HCE:=Aa hc
  have IH:=Aa ih
  have HF:=Aa hf
  have HA:=Aa ha
  have HLO:=Aa hlo
  have HW:=Aa hw
  have HC:=Aa hC
  have HBC:=Aa hC.lt
  have HND:=Aa hnl
  have HBS0:Hx (∀ i,i < nd.length->bs < w.heap.size):=fun i hi=>hC.bsl hi
  clear hc ih hm hf ha hw hlo hC
  go_enter Tryz.func146,Tryz.ntmps146
  go_wp2_with fail
  go_loopw [5,11] (fun u i wr=>∃ j:Nat,j<=l.length/\i=zd U j/\Cop w.heap.size 130 9 (fun i cs X=>∀ d,(A5 nd (k+1) l a)[i]? = some d->RS X K (k+1) cs d) (A5 nd (k+1) (l.take j) a).length u wr/\CI bs nd bc (a+Aj (k+1) (l.take j)) wr/\FrW (XC bc) w wr) (fun _ i _=>l.length - (intOf i).toNat)
  case atStart=>exact ⟨0,Nat.zero_le _,rfl,Cop.nil,by simpa [Aj] using HC.o,FrW.refl _⟩
  case round=>
   obtain ⟨j,hj,rfl,hI,hCI,hFr⟩:=hrel
   by_cases hlt:j < l.length
   ·obtain ⟨b,off,rfl,hel⟩:=HCE.o (by rintro rfl;simp at hlt)
    obtain ⟨cs9,hl9,hcs,hr⟩:=hel j l[j] (List.getElem?_eq_getElem hlt)
    have hw0r:Ov w0 wr:=hFr.base HLO.o HW.o
    have HFW:=Aa (HF.o l[j] (List.getElem_mem hlt))
    have HCN:Hx (Aj (k+1) (l.take (j+1))=Aj (k+1) (l.take j)+Bi (k+1) l[j]/\Aj (k+1) (l.take (j+1))<=Aj (k+1) l):=⟨CW hlt,by
     have h1:Aj (k+1) l=Aj (k+1) (l.take (j+1))+Aj (k+1) (l.drop (j+1)):=by
      unfold Aj
      rw [<-List.sum_append,<-List.map_append,List.take_append_drop]
     omega⟩
    have HCT:Hx (A5 nd (k+1) (l.take (j+1)) a=A5 nd (k+1) (l.take j) a++Eu nd (k+1) l[j] (a+Aj (k+1) (l.take j))/\A5 nd (k+1) (l.take (j+1)) a <+: A5 nd (k+1) l a):=by
     refine ⟨by rw [List.take_succ_eq_append_getElem hlt,E1,B8,GL,List.append_nil],?_⟩
     have h1:=E1 nd (k+1) (l.take (j+1)) (l.drop (j+1)) a
     rw [List.take_append_drop] at h1
     rw [h1]
     exact List.prefix_append _ _
    obtain ⟨a2,ha2⟩:=nm (a+Aj (k+1) (l.take j))
    rw [<-ha2] at hCI HCT
    obtain ⟨d,hd⟩:=nm (l[j])
    rw [<-hd] at hr HCN HCT HFW
    have HRS:=Aa hr
    obtain ⟨ek,en,xa,xl,xc,aa,ac,ta,tc,ea,ec,rfl,i0,i1,i2,hX,hAr,hT,hE,-,-,-⟩:=hr.form
    obtain ⟨c0,c1,c2,c3,c4,c5,c6,c7,c8⟩:=rc9 hcs
    obtain ⟨c0,c1,c2,c3,c4,c5,c6,c7,c8⟩:=co9 hw0r c0 c1 c2 c3 c4 c5 c6 c7 c8
    replace c0:wr.cell? ⟨b,off+j*9,none⟩=_:=c0
    have HIN:=Aa (And.intro i0 (And.intro i1 i2))
    obtain ⟨kd,hkd⟩:=nm (Ae d)
    obtain ⟨va,hva⟩:=nm (Av d)
    obtain ⟨ot,hot⟩:=nm (Ac d)
    obtain ⟨al,hal⟩:=nm ((Ah d).length)
    obtain ⟨tl,htl⟩:=nm ((Af d).length)
    obtain ⟨el,hel2⟩:=nm ((Al d).length)
    rw [<-hkd] at c0
    rw [<-hva] at c1
    rw [<-hot] at c2
    rw [<-hal] at c6 hAr
    rw [<-htl] at c7 hT
    rw [<-hel2] at c8 hE
    have HNM:=Aa (And.intro hkd (And.intro hva hot))
    have HAL:=Aa hal
    have han:a2+Bi (k+1) d<=nd.length:=by have h1:=HCN.o;have h2:=HA.o;omega
    have HAN:=Aa han
    have hcd:=A8 k d
    have ha3:a2 < nd.length:=by omega
    have HBS:=Aa (HBS0.o _ ha3)
    obtain ⟨oa,oc,rfl,-⟩:=hI.cells (by decide)
    obtain ⟨on,hon⟩:=nm (A5 nd (k+1) (l.take j) a).length
    rw [<-hon] at hI ⊢
    have HON1:Hx (on<=1000):=by show on<=1000;have h1:=D2 nd (k+1) (l.take j) a;have h2:=HCN.o;have h3:=HA.o;rw [hon];omega
    have hb1:Ov wr (wr.alloc (zf #[zd U kd,zd U va,zd U ot,zd U ek,zd U en,O xa xl xc,O aa al ac,O ta tl tc,O ea el ec] 130)):=bA _ _
    obtain ⟨V,hV⟩:=nm (wr.alloc (zf #[zd U kd,zd U va,zd U ot,zd U ek,zd U en,O xa xl xc,O aa al ac,O ta tl tc,O ea el ec] 130))
    have hrV:Ad [zd U kd,zd U va,zd U ot,zd U ek,zd U en,O xa xl xc,O aa al ac,O ta tl tc,O ea el ec] V wr.heap.size:=by rw [hV];exact Ay wr [zd U kd,zd U va,zd U ot,zd U ek,zd U en,O xa xl xc,O aa al ac,O ta tl tc,O ea el ec] 130
    have hzV:∀ i,V.frozen? ⟨wr.heap.size,i,none⟩=false:=fun i=>by rw [hV];simp [go_sem]
    have hsV:V.heap.size=wr.heap.size+1:=by rw [hV];simp
    rw [<-hV] at hb1
    have hCV:=hCI.over hb1
    obtain ⟨x0,x1⟩:=rc2 hCV.row
    have xb:=BW hCV.nd ha3
    obtain ⟨q,hq⟩:=nm (nd.getD a2 false)
    rw [<-hq] at xb
    obtain ⟨nl,hnn⟩:=nm nd.length
    rw [<-hnn] at x0
    have ha4:(a2:Int) < (nl:Int):=by omega
    have ha5:a2<=1000:=by omega
    have HQ:=Aa hq
    have HI:=Aa hI
    have HFR:=Aa hFr
    have HCV:=Aa hCV
    have HRV:=Aa hrV
    have HZV:=Aa hzV
    have HB1:=Aa hb1
    have HSV:=Aa hsV
    have HW0:=Aa hw0r
    have HT:=Aa hT
    have HE:=Aa hE
    have HX:=Aa hX
    have HAR:=Aa hAr
    have HON:=Aa hon
    have HA2:=Aa ha2
    have HNL:=Aa hnn
    have hlt1:(j:Int) < (l.length:Int):=by omega
    clear hI hCI hFr hel hcs hl9 hr hd hkd hva hot hal htl hel2 hX hAr hT hE i0 i1 i2 hb1 hrV hzV hsV hCV hw0r han hcd ha3 hon ha2 hq hnn HCE
    go_wp2_with fail
    rw [<-hV]
    clear hV c0 c1 c2 c3 c4 c5 c6 c7 c8
    refine gS (fun Wz=>Below V.heap.size V Wz) (Below.refl _ _).drew fun hHeld=>?_
    generalize V.drew=W at hHeld ⊢
    refine kO 0 ?_
    refine kO 1 ?_
    refine kO 2 ?_
    refine kO 3 ?_
    refine kO 4 ?_
    refine kO 5 ?_
    refine kO 6 ?_
    refine kO 7 ?_
    refine kO 8 ?_
    refine kO 9 ?_
    refine kO 10 ?_
    refine gE ?_
    have hCz:=HCV.o.over hHeld
    obtain ⟨w0c,w1c⟩:=rc2 hCz.row
    have w1z:=hCz.fz 1
    obtain ⟨m1,hm1⟩:=nm (a2+1)
    have hwrp:IntKind.i64.wrap ((a2:Int)+1)=(m1:Int):=by rw [IntKind.wrap_i64];omega
    have hnx:=hCz.next m1
    obtain ⟨W5,hW5⟩:=nm (W.setCell ⟨bc,1,none⟩ (zd U (m1:Int)))
    rw [<-hW5] at hnx
    have hbcw:bc < wr.heap.size:=Nat.lt_of_lt_of_le HBC.o HFR.o.size
    have HSB:Hx (∀ {X:World},¬ XC bc X wr.heap.size):=fun {X} hh=>by have e':wr.heap.size=bc:=hh;omega
    have HC5:Hx (CI bs nd bc m1 W5):=hnx.1
    have HF5:Hx (FrW (XC bc) V W5):=(FrW.of_below (Cf bc) hHeld).trans hnx.2
    have HR5:Hx (Ad [zd U kd,zd U va,zd U ot,zd U ek,zd U en,O xa xl xc,O aa al ac,O ta tl tc,O ea el ec] W5 wr.heap.size):=HF5.o.row HRV.o HSB.o
    have HW5:Hx (Ov w0 W5):=HF5.o.base HLO.o (HW0.o.trans (HB1.o.mono HW0.o.size))
    have HW5D:Hx (Ov w0 W5.drew):=HW5.o.trans ((bD W5).mono HW5.o.size)
    have HZ7:Hx (∀ Wz,FrW (XC bc) W5 Wz->∀ i,Wz.frozen? ⟨wr.heap.size,i,none⟩=false):=fun Wz hz i=>(World.frozen?_of_block (a:=⟨wr.heap.size,i,none⟩) ((hz.block _ (by have h1:=HF5.o.size;have h2:=HSV.o;omega) HSB.o).trans (HF5.o.block _ (by have h2:=HSV.o;omega) HSB.o))).trans (HZV.o i)
    have hm2:m1+Aj k (Af d)+Aj k (Al d)<=nd.length:=by have h1:=HAN.o;have h2:=A8 k d;omega
    have KT:Hx (∀ Wz,CI bs nd bc m1 Wz->Ov w0 Wz->_):=fun Wz (h1:CI bs nd bc m1 Wz) (h2:Ov w0 Wz)=>IH.o _ (Af d) w0 Wz bc m1 HT.o h2 HLO.o h1 (by omega) HFW.o.2.2.2.1
    have KE:Hx (∀ Wz,CI bs nd bc (m1+Aj k (Af d)) Wz->Ov w0 Wz->_):=fun Wz (h1:CI bs nd bc (m1+Aj k (Af d)) Wz) (h2:Ov w0 Wz)=>IH.o _ (Al d) w0 Wz bc (m1+Aj k (Af d)) HE.o h2 HLO.o h1 (by omega) HFW.o.2.2.2.2
    obtain ⟨t2,ht2⟩:=nm (A5 nd k (Af d) m1).length
    obtain ⟨e2,he2⟩:=nm (A5 nd k (Al d) (m1+Aj k (Af d))).length
    rw [<-ht2] at KT
    rw [<-he2] at KE
    have HT2:=Aa (And.intro ht2 he2)
    have HM1:=Aa hm1
    clear hCz hnx hm1 hm2 ht2 he2 hbcw x0 x1 xb
    go_wp2_with fail
    rw [<-hW5]
    clear hW5 w0c w1c w1z
    refine C1 (fun act2 Wn=>∃ (y12 y13 y14 y15 y16 y17 y18 y19 y20 y21 y22 y23 y24 y25 y26 y27 y28 y29 y30 y31 y32 y33 y34 y35 y36 y37 y38 y39 y40 y41:Value) (t1:Option Addr) (t3:Nat) (e1:Option Addr) (e3:Nat) (W6 W7:World),act2={ tmps:=#[zi (some ⟨bc,0,none⟩),O (some ⟨b,off,none⟩) l.length cap,undef,undef,O none 0 0,O oa on oc,undef,zi (some ⟨wr.heap.size,0,none⟩),ze q,O (some ⟨b,off,none⟩) l.length cap,zd U (l.length:Int),zd U (j:Int),y12,y13,y14,y15,y16,y17,y18,y19,y20,y21,y22,y23,y24,y25,y26,y27,y28,y29,y30,y31,y32,y33,y34,y35,y36,y37,y38,y39,y40,y41,u42,u43,u44,u45,u46,u47,u48,u49,u50,u51,u52,u53,u54,u55,undef],defers:=[] }/\Wn=(W7.setCell ⟨wr.heap.size,7,none⟩ (O t1 t2 t3)).setCell ⟨wr.heap.size,8,none⟩ (O e1 e2 e3)/\Off W5.heap.size none W6 (fun X=>AD X K k (O t1 t2 t3) (A5 nd k (Af d) m1))/\Off W6.heap.size none W7 (fun X=>AD X K k (O e1 e2 e3) (A5 nd k (Al d) (m1+Aj k (Af d))))/\CI bs nd bc (m1+Aj k (Af d)+Aj k (Al d)) W7/\FrW (XC bc) W5 W6/\FrW (XC bc) W6 W7/\Ad [zd U kd,zd U va,zd U ot,zd U ek,zd U en,O xa xl xc,O aa al ac,O ta tl tc,O ea el ec] W7 wr.heap.size) ?_ ?_
    ·have d7:=HR5.o 7 _ rfl
     have d8:=HR5.o 8 _ rfl
     refine gS (fun Wz=>True) trivial fun hHeld=>?_
     refine kT 0 ?_
     refine kT 1 ?_
     refine kT 4 ?_
     refine kT 5 ?_
     refine rdB 2 6 rfl (fun K hK=>?_) rfl fun K hK=>?_
     ·go_simp
      refine xK hK (trivial) fun hHeld=>?_
      clear hK K
      refine rdB 3 6 rfl (fun K hK=>?_) rfl fun K hK=>?_
      ·go_simp
       refine (KT.o _ (HC5.o.over (bD W5)) (HW5.o.trans ((bD W5).mono HW5.o.size))).mono ?_
       rintro e W6 ⟨t1,t3,rfl,hOT,hC6,hF6⟩
       have hr6:=hF6.row (HR5.o.over (bD W5)) (HSB.o)
       have d8:=hr6 8 _ rfl
       have HOT:=Aa hOT
       have HC6:=Aa hC6
       have HF6:=Aa hF6
       have HF65:Hx (FrW (XC bc) W5 W6):=(FrW.of_below (Cf bc) (bD W5)).trans hF6
       have HR6:=Aa hr6
       clear hOT hC6 hF6 hr6
       go_simp
       refine xK hK (trivial) fun hHeld=>?_
       clear hK K
       refine rdA 6 rfl fun K hK=>?_
       go_simp
       refine xK hK (trivial) fun hHeld=>?_
       clear hK K
       refine kT 8 ?_
       refine rdA 7 rfl fun K hK=>?_
       go_simp
       refine (KE.o _ HC6.o (HF6.o.base HLO.o HW5D.o)).mono ?_
       rintro e W7 ⟨e1,e3,rfl,hOE,hC7,hF7⟩
       have hr7:=hF7.row HR6.o HSB.o
       have d7:=hr7 7 _ rfl
       have d8:=hr7 8 _ rfl
       have z7:=HZ7.o W7 (HF65.o.trans hF7) 7
       have z8:=HZ7.o W7 (HF65.o.trans hF7) 8
       have HOE:=Aa hOE
       have HC7:=Aa hC7
       have HF7:=Aa hF7
       have HR7:=Aa hr7
       clear hOE hC7 hF7 hr7
       go_simp
       refine xK hK (trivial) fun hHeld=>?_
       clear hK K
       refine rdA 9 rfl fun K hK=>?_
       go_simp
       refine xK hK (trivial) fun hHeld=>?_
       clear hK K
       refine kT 10 ?_
       refine rdA 11 rfl fun K hK=>?_
       go_simp
       refine xK hK (trivial) fun hHeld=>?_
       clear hK K
       refine gE ?_
       exact AJ ⟨_,_,_,_,_,_,_,_,_,_,_,_,_,_,_,_,_,_,_,_,_,_,_,_,_,_,_,_,_,_,t1,t3,e1,e3,W6,W7,rfl,rfl,HOT.o,HOE.o,HC7.o,HF65.o,HF7.o,HR7.o⟩
      ·go_simp
       refine xK hK (trivial) fun hHeld=>?_
       clear hK K
       refine rdA 3 rfl fun K hK=>?_
       go_simp
       refine (KT.o _ (HC5.o.over (bD W5)) (HW5.o.trans ((bD W5).mono HW5.o.size))).mono ?_
       rintro e W6 ⟨t1,t3,rfl,hOT,hC6,hF6⟩
       have hr6:=hF6.row (HR5.o.over (bD W5)) (HSB.o)
       have d8:=hr6 8 _ rfl
       have HOT:=Aa hOT
       have HC6:=Aa hC6
       have HF6:=Aa hF6
       have HF65:Hx (FrW (XC bc) W5 W6):=(FrW.of_below (Cf bc) (bD W5)).trans hF6
       have HR6:=Aa hr6
       clear hOT hC6 hF6 hr6
       go_simp
       refine xK hK (trivial) fun hHeld=>?_
       clear hK K
       refine kT 8 ?_
       refine rdA 7 rfl fun K hK=>?_
       go_simp
       refine (KE.o _ HC6.o (HF6.o.base HLO.o HW5D.o)).mono ?_
       rintro e W7 ⟨e1,e3,rfl,hOE,hC7,hF7⟩
       have hr7:=hF7.row HR6.o HSB.o
       have d7:=hr7 7 _ rfl
       have d8:=hr7 8 _ rfl
       have z7:=HZ7.o W7 (HF65.o.trans hF7) 7
       have z8:=HZ7.o W7 (HF65.o.trans hF7) 8
       have HOE:=Aa hOE
       have HC7:=Aa hC7
       have HF7:=Aa hF7
       have HR7:=Aa hr7
       clear hOE hC7 hF7 hr7
       go_simp
       refine xK hK (trivial) fun hHeld=>?_
       clear hK K
       refine rdA 9 rfl fun K hK=>?_
       go_simp
       refine xK hK (trivial) fun hHeld=>?_
       clear hK K
       refine kT 10 ?_
       refine rdA 11 rfl fun K hK=>?_
       go_simp
       refine xK hK (trivial) fun hHeld=>?_
       clear hK K
       refine gE ?_
       exact AJ ⟨_,_,_,_,_,_,_,_,_,_,_,_,_,_,_,_,_,_,_,_,_,_,_,_,_,_,_,_,_,_,t1,t3,e1,e3,W6,W7,rfl,rfl,HOT.o,HOE.o,HC7.o,HF65.o,HF7.o,HR7.o⟩
     ·go_simp
      refine xK hK (trivial) fun hHeld=>?_
      clear hK K
      refine rdA 2 rfl fun K hK=>?_
      go_simp
      refine xK hK (trivial) fun hHeld=>?_
      clear hK K
      refine rdA 3 rfl fun K hK=>?_
      go_simp
      refine (KT.o _ (HC5.o.over (bD W5)) (HW5.o.trans ((bD W5).mono HW5.o.size))).mono ?_
      rintro e W6 ⟨t1,t3,rfl,hOT,hC6,hF6⟩
      have hr6:=hF6.row (HR5.o.over (bD W5)) (HSB.o)
      have d8:=hr6 8 _ rfl
      have HOT:=Aa hOT
      have HC6:=Aa hC6
      have HF6:=Aa hF6
      have HF65:Hx (FrW (XC bc) W5 W6):=(FrW.of_below (Cf bc) (bD W5)).trans hF6
      have HR6:=Aa hr6
      clear hOT hC6 hF6 hr6
      go_simp
      refine xK hK (trivial) fun hHeld=>?_
      clear hK K
      refine kT 8 ?_
      refine rdA 7 rfl fun K hK=>?_
      go_simp
      refine (KE.o _ HC6.o (HF6.o.base HLO.o HW5D.o)).mono ?_
      rintro e W7 ⟨e1,e3,rfl,hOE,hC7,hF7⟩
      have hr7:=hF7.row HR6.o HSB.o
      have d7:=hr7 7 _ rfl
      have d8:=hr7 8 _ rfl
      have z7:=HZ7.o W7 (HF65.o.trans hF7) 7
      have z8:=HZ7.o W7 (HF65.o.trans hF7) 8
      have HOE:=Aa hOE
      have HC7:=Aa hC7
      have HF7:=Aa hF7
      have HR7:=Aa hr7
      clear hOE hC7 hF7 hr7
      go_simp
      refine xK hK (trivial) fun hHeld=>?_
      clear hK K
      refine rdA 9 rfl fun K hK=>?_
      go_simp
      refine xK hK (trivial) fun hHeld=>?_
      clear hK K
      refine kT 10 ?_
      refine rdA 11 rfl fun K hK=>?_
      go_simp
      refine xK hK (trivial) fun hHeld=>?_
      clear hK K
      refine gE ?_
      exact AJ ⟨_,_,_,_,_,_,_,_,_,_,_,_,_,_,_,_,_,_,_,_,_,_,_,_,_,_,_,_,_,_,t1,t3,e1,e3,W6,W7,rfl,rfl,HOT.o,HOE.o,HC7.o,HF65.o,HF7.o,HR7.o⟩
    ·rintro act2 Wn ⟨y12,y13,y14,y15,y16,y17,y18,y19,y20,y21,y22,y23,y24,y25,y26,y27,y28,y29,y30,y31,y32,y33,y34,y35,y36,y37,y38,y39,y40,y41,t1,t3,e1,e3,W6,W7,rfl,rfl,hOT,hOE,hC7,hF6,hF7,hR7⟩
     have hbx:wr.heap.size < W5.heap.size:=by have h1:=HF5.o.size;have h2:=HSV.o;omega
     have hbcw:bc < wr.heap.size:=Nat.lt_of_lt_of_le HBC.o HFR.o.size
     have hn1:wr.heap.size≠bc:=by omega
     have hn2:wr.heap.size≠bs:=by have h1:=HBS.o;have h2:=HFR.o.size;omega
     have hr8:=(hR7.set (j:=7) (v:=O t1 t2 t3) (by simp)).set (j:=8) (v:=O e1 e2 e3) (by simp)
     simp only [List.set_cons_zero,List.set_cons_succ] at hr8
     obtain ⟨V7,hV7⟩:=nm ((W7.setCell ⟨wr.heap.size,7,none⟩ (O t1 t2 t3)).setCell ⟨wr.heap.size,8,none⟩ (O e1 e2 e3))
     rw [<-hV7] at hr8 ⊢
     have HR8:=Aa hr8
     have HC8:Hx (CI bs nd bc (m1+Aj k (Af d)+Aj k (Al d)) V7):=by rw [hV7];exact (hC7.set hn1 hn2).set hn1 hn2
     have HF8:Hx (FrW (XC bc) wr V7):=by rw [hV7];exact FrW.set (FrW.set ((((FrW.of_below (Cf bc) HB1.o).trans HF5.o).trans hF6).trans hF7) (Nat.le_refl _)) (Nat.le_refl _)
     have HOT8:Hx (Off W5.heap.size none V7 (fun X=>AD X K k (O t1 t2 t3) (A5 nd k (Af d) m1))):=by rw [hV7];exact ((hOT.keep hF7.size (hF7.from (Nat.lt_trans hbcw hbx))).set hbx).set hbx
     have HOE8:Hx (Off W5.heap.size none V7 (fun X=>AD X K k (O e1 e2 e3) (A5 nd k (Al d) (m1+Aj k (Af d))))):=by rw [hV7];exact ((hOE.base hF6.size).set hbx).set hbx
     have HZ8:Hx (∀ i,V7.frozen? ⟨wr.heap.size,i,none⟩=false):=fun i=>by rw [hV7];exact AC.trans (AC.trans (HZ7.o W7 (hF6.trans hF7) i))
     have hs73:((W7.setCell ⟨wr.heap.size,7,none⟩ (O t1 t2 t3)).setCell ⟨wr.heap.size,8,none⟩ (O e1 e2 e3)).heap.size=W7.heap.size:=by simp [World.setCell]
     have HS8:Hx (W5.heap.size<=V7.heap.size):=by show _<=_;rw [hV7,hs73];exact Nat.le_trans hF6.size hF7.size
     have HW8:Hx (Ov w0 V7):=HF8.o.base HLO.o HW0.o
     have HBX:=Aa hbx
     have HNN:=Aa (And.intro hn1 hn2)
     have HCX:Hx (m1+Aj k (Af d)+Aj k (Al d)=a+Aj (k+1) (l.take (j+1))):=by show _=_;have h1:=HCN.o.1;have h2:=HA2.o;have h3:=HM1.o;have h4:=A8 k d;omega
     have HFT:Hx (FrW (XC bc) w V7):=HFR.o.trans HF8.o
     clear hs73 hOT hOE hC7 hF6 hF7 hR7 hr8 hV7 hbx hbcw hn1 hn2 KT KE
     cases q with
     | false=>
      have HFIN:Hx (Cop w.heap.size 130 9 (fun i cs X=>∀ d,(A5 nd (k+1) l a)[i]? = some d->RS X K (k+1) cs d) (A5 nd (k+1) (l.take (j+1)) a).length (O oa on oc) V7):=by
       show Cop _ _ _ _ _ _ _
       rw [HCT.o.1,F2 HQ.o.symm,List.append_nil,<-HON.o]
       exact HI.o.keep HF8.o.size (fun i h1 h2=>HF8.o.block i h2 (fun e=>by have e':i=bc:=e;have h3:=HBC.o;omega))
      go_wp2_with fail
      exact ⟨⟨j+1,by omega,by go_num,HFIN.o,by rw [<-HCX.o];exact HC8.o,HFT.o⟩,by simp [intOf];omega⟩
     | true=>
      obtain ⟨k1,hk1⟩:=nm (Ap (Ai d))
      obtain ⟨n1,hn1⟩:=nm (AA (Ai d))
      obtain ⟨x1,hx1⟩:=nm (Ar (Ai d)).length
      have KX:Hx (∀ Wz,Ov w0 Wz->Calls Tryz.prog 147 #[zg #[zd U ek,zd U en,O xa xl xc]] Wz fun e w'=>∃ a c,e=zh (zg #[zd U k1,zd U n1,O a x1 c])/\Off Wz.heap.size none w' (fun W=>RX W K [zd U k1,zd U n1,O a x1 c] (Ai d))/\Ov Wz w'):=fun Wz hz=>by
       rw [hk1,hn1,hx1]
       exact Kd K [zd U ek,zd U en,O xa xl xc] (Ai d) Wz (RX.over HX.o hz) HFW.o.1
      have KA:Hx (∀ Wz,Ov w0 Wz->Calls Tryz.prog 201 #[O aa al ac,.func (.func 147) #[] #[]] Wz fun e w'=>∃ a c,e=zh (O a al c)/\Off Wz.heap.size none w' (fun W=>XS 3 (RX W K) W (O a al c) (Ah d))/\Ov Wz w'):=fun Wz hz=>by
       rw [HAL.o]
       exact Kf K (O aa (Ah d).length ac) (Ah d) Wz (by rw [<-HAL.o];exact ArgsAt.over HAR.o hz) HFW.o.2.1 HFW.o.2.2.1
      clear hk1 hn1 hx1
      go_wp2_with fail
      refine C1 (fun act3 Wn=>∃ (v43 v44 v45 v46 v47 v48 v49 v50:Value) (za:Option Addr) (zc:Nat) (ua:Option Addr) (uc:Nat) (W8 W9:World),act3={ tmps:=#[zi (some ⟨bc,0,none⟩),O (some ⟨b,off,none⟩) l.length cap,undef,undef,O none 0 0,O oa on oc,undef,zi (some ⟨wr.heap.size,0,none⟩),ze true,O (some ⟨b,off,none⟩) l.length cap,zd U (l.length:Int),zd U (j:Int),y12,y13,y14,y15,y16,y17,y18,y19,y20,y21,y22,y23,y24,y25,y26,y27,y28,y29,y30,y31,y32,y33,y34,y35,y36,y37,y38,y39,y40,y41,ze true,v43,v44,v45,v46,v47,v48,v49,v50,u51,u52,u53,u54,u55,undef],defers:=[] }/\Wn=((((W9.setCell ⟨wr.heap.size,3,none⟩ (zd U k1)).setCell ⟨wr.heap.size,4,none⟩ (zd U n1)).setCell ⟨wr.heap.size,5,none⟩ (O za x1 zc)).setCell ⟨wr.heap.size,6,none⟩ (O ua al uc))/\Off V7.heap.size none W8 (fun X=>RX X K [zd U k1,zd U n1,O za x1 zc] (Ai d))/\Off W8.heap.size none W9 (fun X=>XS 3 (RX X K) X (O ua al uc) (Ah d))/\Ov V7 W8/\Ov W8 W9) ?_ ?_
      ·obtain ⟨b0,b1,b2,b3,b4,b5,b6,b7,b8⟩:=rc9 HR8.o
       refine gS (fun Wz=>True) trivial fun hHeld=>?_
       refine kT 0 ?_
       refine kT 3 ?_
       refine rdB 1 4 rfl (fun K hK=>?_) rfl fun K hK=>?_
       ·go_simp
        refine xK hK (trivial) fun hHeld=>?_
        clear hK K
        refine rdB 2 4 rfl (fun K hK=>?_) rfl fun K hK=>?_
        ·go_simp
         refine (KX.o _ (HW8.o.trans ((bD V7).mono HW8.o.size))).mono ?_
         rintro e W8 ⟨za,zc,rfl,hO8,hb8⟩
         have HB8:Hx (Ov V7 W8):=(bD V7).trans hb8
         have hr9:=HR8.o.over HB8.o
         have d6:=hr9 6 _ rfl
         have HO8:=Aa hO8
         clear hO8 hb8 hr9
         go_simp
         refine xK hK (trivial) fun hHeld=>?_
         clear hK K
         refine rdA 4 rfl fun K hK=>?_
         go_simp
         refine xK hK (trivial) fun hHeld=>?_
         clear hK K
         refine kT 6 ?_
         refine rdA 5 rfl fun K hK=>?_
         go_simp
         refine (KA.o _ (HW8.o.trans (HB8.o.mono HW8.o.size))).mono ?_
         rintro e W9 ⟨ua,uc,rfl,hO9,hb9⟩
         have HB9:=Aa hb9
         have hz9:=fun i=>((AI (HB8.o.trans (hb9.mono HB8.o.size))).2 wr.heap.size i (Nat.lt_of_lt_of_le HBX.o HS8.o)).trans (HZ8.o i)
         have z3:=hz9 3
         have z4:=hz9 4
         have z5:=hz9 5
         have z6:=hz9 6
         obtain ⟨b0,b1,b2,b3,b4,b5,b6,b7,b8⟩:=rc9 (HR8.o.over (HB8.o.trans (hb9.mono HB8.o.size)))
         have HO9:=Aa hO9
         clear hO9 hb9 hz9
         go_simp
         refine xK hK (trivial) fun hHeld=>?_
         clear hK K
         refine rdA 7 rfl fun K hK=>?_
         go_simp
         refine xK hK (trivial) fun hHeld=>?_
         clear hK K
         refine kT 8 ?_
         refine rdA 9 rfl fun K hK=>?_
         go_simp
         refine xK hK (trivial) fun hHeld=>?_
         clear hK K
         refine gE ?_
         exact AJ ⟨_,_,_,_,_,_,_,_,za,zc,ua,uc,W8,W9,rfl,rfl,HO8.o,HO9.o,HB8.o,HB9.o⟩
        ·go_simp
         refine xK hK (trivial) fun hHeld=>?_
         clear hK K
         refine rdA 2 rfl fun K hK=>?_
         go_simp
         refine (KX.o _ (HW8.o.trans ((bD V7).mono HW8.o.size))).mono ?_
         rintro e W8 ⟨za,zc,rfl,hO8,hb8⟩
         have HB8:Hx (Ov V7 W8):=(bD V7).trans hb8
         have hr9:=HR8.o.over HB8.o
         have d6:=hr9 6 _ rfl
         have HO8:=Aa hO8
         clear hO8 hb8 hr9
         go_simp
         refine xK hK (trivial) fun hHeld=>?_
         clear hK K
         refine kT 6 ?_
         refine rdA 5 rfl fun K hK=>?_
         go_simp
         refine (KA.o _ (HW8.o.trans (HB8.o.mono HW8.o.size))).mono ?_
         rintro e W9 ⟨ua,uc,rfl,hO9,hb9⟩
         have HB9:=Aa hb9
         have hz9:=fun i=>((AI (HB8.o.trans (hb9.mono HB8.o.size))).2 wr.heap.size i (Nat.lt_of_lt_of_le HBX.o HS8.o)).trans (HZ8.o i)
         have z3:=hz9 3
         have z4:=hz9 4
         have z5:=hz9 5
         have z6:=hz9 6
         obtain ⟨b0,b1,b2,b3,b4,b5,b6,b7,b8⟩:=rc9 (HR8.o.over (HB8.o.trans (hb9.mono HB8.o.size)))
         have HO9:=Aa hO9
         clear hO9 hb9 hz9
         go_simp
         refine xK hK (trivial) fun hHeld=>?_
         clear hK K
         refine rdA 7 rfl fun K hK=>?_
         go_simp
         refine xK hK (trivial) fun hHeld=>?_
         clear hK K
         refine kT 8 ?_
         refine rdA 9 rfl fun K hK=>?_
         go_simp
         refine xK hK (trivial) fun hHeld=>?_
         clear hK K
         refine gE ?_
         exact AJ ⟨_,_,_,_,_,_,_,_,za,zc,ua,uc,W8,W9,rfl,rfl,HO8.o,HO9.o,HB8.o,HB9.o⟩
       ·go_simp
        refine xK hK (trivial) fun hHeld=>?_
        clear hK K
        refine rdA 1 rfl fun K hK=>?_
        go_simp
        refine xK hK (trivial) fun hHeld=>?_
        clear hK K
        refine rdA 2 rfl fun K hK=>?_
        go_simp
        refine (KX.o _ (HW8.o.trans ((bD V7).mono HW8.o.size))).mono ?_
        rintro e W8 ⟨za,zc,rfl,hO8,hb8⟩
        have HB8:Hx (Ov V7 W8):=(bD V7).trans hb8
        have hr9:=HR8.o.over HB8.o
        have d6:=hr9 6 _ rfl
        have HO8:=Aa hO8
        clear hO8 hb8 hr9
        go_simp
        refine xK hK (trivial) fun hHeld=>?_
        clear hK K
        refine kT 6 ?_
        refine rdA 5 rfl fun K hK=>?_
        go_simp
        refine (KA.o _ (HW8.o.trans (HB8.o.mono HW8.o.size))).mono ?_
        rintro e W9 ⟨ua,uc,rfl,hO9,hb9⟩
        have HB9:=Aa hb9
        have hz9:=fun i=>((AI (HB8.o.trans (hb9.mono HB8.o.size))).2 wr.heap.size i (Nat.lt_of_lt_of_le HBX.o HS8.o)).trans (HZ8.o i)
        have z3:=hz9 3
        have z4:=hz9 4
        have z5:=hz9 5
        have z6:=hz9 6
        obtain ⟨b0,b1,b2,b3,b4,b5,b6,b7,b8⟩:=rc9 (HR8.o.over (HB8.o.trans (hb9.mono HB8.o.size)))
        have HO9:=Aa hO9
        clear hO9 hb9 hz9
        go_simp
        refine xK hK (trivial) fun hHeld=>?_
        clear hK K
        refine rdA 7 rfl fun K hK=>?_
        go_simp
        refine xK hK (trivial) fun hHeld=>?_
        clear hK K
        refine kT 8 ?_
        refine rdA 9 rfl fun K hK=>?_
        go_simp
        refine xK hK (trivial) fun hHeld=>?_
        clear hK K
        refine gE ?_
        exact AJ ⟨_,_,_,_,_,_,_,_,za,zc,ua,uc,W8,W9,rfl,rfl,HO8.o,HO9.o,HB8.o,HB9.o⟩
      ·rintro act3 Wn ⟨v43,v44,v45,v46,v47,v48,v49,v50,za,zc,ua,uc,W8,W9,rfl,rfl,hO8,hO9,hb8,hb9⟩
       have hb79:Ov V7 W9:=hb8.trans (hb9.mono hb8.size)
       have hrF:=((((HR8.o.over hb79).set (j:=3) (v:=zd U k1) (by simp)).set (j:=4) (v:=zd U n1) (by simp)).set (j:=5) (v:=O za x1 zc) (by simp)).set (j:=6) (v:=O ua al uc) (by simp)
       simp only [List.set_cons_zero,List.set_cons_succ] at hrF
       have hbx7:wr.heap.size < V7.heap.size:=Nat.lt_of_lt_of_le HBX.o HS8.o
       have hbx8:wr.heap.size < W8.heap.size:=Nat.lt_of_lt_of_le hbx7 hb8.size
       have oT:=((((HOT8.o.over hb79).set (j:=3) (u:=zd U k1) HBX.o).set (j:=4) (u:=zd U n1) HBX.o).set (j:=5) (u:=O za x1 zc) HBX.o).set (j:=6) (u:=O ua al uc) HBX.o
       have oE:=((((HOE8.o.over hb79).set (j:=3) (u:=zd U k1) HBX.o).set (j:=4) (u:=zd U n1) HBX.o).set (j:=5) (u:=O za x1 zc) HBX.o).set (j:=6) (u:=O ua al uc) HBX.o
       have oX:=((((hO8.over hb9).set (j:=3) (u:=zd U k1) hbx7).set (j:=4) (u:=zd U n1) hbx7).set (j:=5) (u:=O za x1 zc) hbx7).set (j:=6) (u:=O ua al uc) hbx7
       have oA:=(((hO9.set (j:=3) (u:=zd U k1) hbx8).set (j:=4) (u:=zd U n1) hbx8).set (j:=5) (u:=O za x1 zc) hbx8).set (j:=6) (u:=O ua al uc) hbx8
       have cF:=(((HC8.o.over hb79).set (j:=3) (u:=zd U k1) HNN.o.1 HNN.o.2).set (j:=4) (u:=zd U n1) HNN.o.1 HNN.o.2).set (j:=5) (u:=O za x1 zc) HNN.o.1 HNN.o.2 |>.set (j:=6) (u:=O ua al uc) HNN.o.1 HNN.o.2
       have fF:=FrW.set (j:=6) (u:=O ua al uc) (FrW.set (j:=5) (u:=O za x1 zc) (FrW.set (j:=4) (u:=zd U n1) (FrW.set (j:=3) (u:=zd U k1) (HF8.o.trans (FrW.of_below (Cf bc) hb79)) (Nat.le_refl _)) (Nat.le_refl _)) (Nat.le_refl _)) (Nat.le_refl _)
       have sF:((((W9.setCell ⟨wr.heap.size,3,none⟩ (zd U k1)).setCell ⟨wr.heap.size,4,none⟩ (zd U n1)).setCell ⟨wr.heap.size,5,none⟩ (O za x1 zc)).setCell ⟨wr.heap.size,6,none⟩ (O ua al uc)).heap.size=W9.heap.size:=by simp [World.setCell]
       obtain ⟨Y,hY⟩:=nm ((((W9.setCell ⟨wr.heap.size,3,none⟩ (zd U k1)).setCell ⟨wr.heap.size,4,none⟩ (zd U n1)).setCell ⟨wr.heap.size,5,none⟩ (O za x1 zc)).setCell ⟨wr.heap.size,6,none⟩ (O ua al uc))
       rw [<-hY] at hrF oT oE oX oA cF fF sF ⊢
       have hON:Off W5.heap.size none Y (fun X=>∀ d',(A5 nd (k+1) l a)[on]? = some d'->RS X K (k+1) [zd U kd,zd U va,zd U ot,zd U k1,zd U n1,O za x1 zc,O ua al uc,O t1 t2 t3,O e1 e2 e3] d'):=by
        refine (((oX.and oA (B:=W5.heap.size) HS8.o (Nat.le_trans HS8.o hb8.size)).and (oT.and oE (Nat.le_refl _) (Nat.le_refl _)) (Nat.le_refl _) (Nat.le_refl _))).imp fun X hX d' hd'=>?_
        have hnew:d'=Cv nd k d a2:=by
         obtain ⟨tl2,htl2⟩:=HCT.o.2
         rw [HCT.o.1,D3 HQ.o.symm] at htl2
         rw [<-htl2,HON.o,List.append_assoc,List.getElem?_append_right (Nat.le_refl _),Nat.sub_self] at hd'
         simpa using hd'.symm
        rw [hnew]
        have ht:=hX.2.1
        have hs:=hX.2.2
        rw [HM1.o] at ht hs
        exact RS.of HNM.o.1 HNM.o.2.1 HNM.o.2.2 (by rw [HNM.o.1];exact HIN.o.1) (by rw [HNM.o.2.1];exact HIN.o.2.1) (by rw [HNM.o.2.2];exact HIN.o.2.2) hX.1.1 hX.1.2 ht hs
       obtain ⟨b0,b1,b2,b3,b4,b5,b6,b7,b8⟩:=rc9 hrF
       have hI1:=HI.o.keep fF.size (fun i h1 h2=>fF.block i h2 (fun e=>by have e':i=bc:=e;have h3:=HBC.o;omega))
       have hbA:Ov Y (Y.alloc (zf #[zd U kd,zd U va,zd U ot,zd U k1,zd U n1,O za x1 zc,O ua al uc,O t1 t2 t3,O e1 e2 e3] 130)):=bA _ _
       obtain ⟨xs,hown,hpar⟩:=hI1.over hbA
       have hN:=Ay Y [zd U kd,zd U va,zd U ot,zd U k1,zd U n1,O za x1 zc,O ua al uc,O t1 t2 t3,O e1 e2 e3] 130
       have hBW:w.heap.size<=(Y.alloc (zf #[zd U kd,zd U va,zd U ot,zd U k1,zd U n1,O za x1 zc,O ua al uc,O t1 t2 t3,O e1 e2 e3] 130)).heap.size:=Nat.le_trans (Nat.le_trans HFR.o.size fF.size) hbA.size
       have HRL:Hx (∀ g,(Value.slice oa on oc).ownBlock=some g->g < wr.heap.size):=fun g hg=>by
        obtain ⟨xs,ho,-⟩:=HI.o
        exact (DI ho hg).2
       have HN:=Aa hN
       have HO:=Aa (hON.over hbA)
       have HPAR:=Aa hpar
       have HCA:=Aa (cF.over hbA)
       have HFA:Hx (FrW (XC bc) w (Y.alloc (zf #[zd U kd,zd U va,zd U ot,zd U k1,zd U n1,O za x1 zc,O ua al uc,O t1 t2 t3,O e1 e2 e3] 130))):=(HFR.o.trans fF).trans (FrW.of_below (Cf bc) hbA)
       have hon9:on<=1000:=HON1.o
       obtain ⟨i0,hi,hz0,hz1,hz2⟩:=info_parts Tryz.infoSt
       have HW5S:Hx (w.heap.size<=W5.heap.size):=Nat.le_trans HFR.o.size (Nat.le_of_lt HBX.o)
       clear oT oE oX oA cF fF hrF hI1 hbA hN hpar hON sF hO8 hO9 hb8 hb9 hb79 hbx7 hbx8 KX KA hY
       go_wp2_with (at_builtin;refine wpList_append_own_at _ rfl _ _ 29 rfl w.heap.size 130 i0 (zg #[zd U 0,zd U 0,zd U 0,zd U 0,zd U 0,O none 0 0,O none 0 0,O none 0 0,O none 0 0]) 9 136 Tryz.underlying29 hi hz0 hz1 hz2 rfl (by decide) _ _ _ rfl hown ⟨Y.heap.size,0,none⟩ 1 1 [zd U kd,zd U va,zd U ot,zd U k1,zd U n1,O za x1 zc,O ua al uc,O t1 t2 t3,O e1 e2 e3] rfl rfl (fun jj u hu=>by rw [Addr.add_lit,Nat.zero_add];exact HN.o jj u hu) (by simp [Value.oneCell']) (by unfold maxLen;omega) (by omega) hBW ?_)
       intro v2 w2 hown2 hgr2 _ hat
       have hcop:=Cop.add hown HPAR.o rfl HO.o HW5S.o (fun g hg=>by have h1:=HRL.o g hg;have h2:=HBX.o;omega) hown2 hgr2 (by simpa using hat)
       obtain ⟨va2,vn2,vc2,rfl⟩:=AK hown2
       have hlow:=AG hown hgr2 hBW
       have HFIN:Hx (Cop w.heap.size 130 9 (fun i cs X=>∀ d,(A5 nd (k+1) l a)[i]? = some d->RS X K (k+1) cs d) (A5 nd (k+1) (l.take (j+1)) a).length (O va2 vn2 vc2) w2):=by
        show Cop _ _ _ _ _ _ _
        rw [HCT.o.1,D3 HQ.o.symm,List.length_append,<-HON.o]
        exact hcop
       have HCF:Hx (CI bs nd bc (a+Aj (k+1) (l.take (j+1))) w2):=by
        show CI _ _ _ _ _
        rw [<-HCX.o]
        exact HCA.o.low hlow HBC.o HBS.o
       have HFF:Hx (FrW (XC bc) w w2):=FrW.low HFA.o hlow
       clear hcop hown hown2 hgr2 hat hBW hlow
       go_wp2_with fail
       exact ⟨⟨j+1,by omega,by go_num,HFIN.o,HCF.o,HFF.o⟩,by simp [intOf];omega⟩
   ·have hje:j=l.length:=by omega
    subst hje
    rw [List.take_length] at hI hCI
    obtain ⟨oa,oc,rfl,-⟩:=id (hI.cells (by decide))
    have HFIN:=Aa (And.intro hI (And.intro hCI hFr))
    have HLL:Hx ((A5 nd (k+1) l a).length<=1000):=by show _<=_;have h1:=D2 nd (k+1) l a;have h3:=HA.o;omega
    obtain ⟨on,hon⟩:=nm (A5 nd (k+1) l a).length
    have HON:=Aa hon
    rw [<-hon]
    clear hI hCI hFr hlt hon
    go_wp2_with fail
    go_ret
    refine ⟨oa,oc,by rw [<-HON.o];rfl,?_,HFIN.o.2.1,HFIN.o.2.2⟩
    obtain ⟨a',c2,he,hoff⟩:=HFIN.o.1.cells (by decide)
    injection he with x1 x2 x3
    rw [x1,x3]
    refine hoff.imp fun W hW=>⟨Nat.le_trans HLL.o (by unfold maxLen;omega),_,_,rfl,fun hne=>?_⟩
    obtain ⟨b,hb,hel⟩:=hW (fun h=>hne (List.eq_nil_of_length_eq_zero h))
    refine ⟨b,0,hb,fun i d' hd'=>?_⟩
    obtain ⟨cs,h1,h2,h3⟩:=hel i (List.getElem?_eq_some_iff.1 hd').1
    exact ⟨cs,h1,fun j u hu=>by rw [Nat.zero_add];exact h2 j u hu,h3 d' hd'⟩
end Go.Proofs.YtfffpjkcfnekaaaGreat.Ex
