/- SliceNeeds, whatever it is handed. -/
import Derived.Test.YtfffpjkcfnekaaaGreatH48
set_option linter.unusedVariables false
set_option maxHeartbeats 8000000
set_option maxRecDepth 100000
namespace Go.Proofs.YtfffpjkcfnekaaaGreat.Ex
open Go.RowKit
open Go.Value renaming slice -> O, int -> zd, bool -> ze, agg -> zg, pointer -> zi, tuple -> zj
open Go.IntKind renaming i64 -> U
open Go.Obj renaming cells -> zf
open Go.Ending renaming returned -> zh
theorem Tryz.infoSn:(Tryz.prog.info? 25).map (fun i=>(i.zero,i.size,i.bytes))=some (some (O none 0 0),1,24):=by kernel_rfl
def I0 (ni:List Bool) (ins others:List (List Int)):List (List Int):=ins.mapIdx (fun i x=>if ni.getD i false=true\/others.length<=i then x else others.getD i [])
theorem DX (ni) (ins others:List (List Int)):(I0 ni ins others).length=ins.length:=by unfold I0;simp
theorem FM (ni) (ins others:List (List Int)) (i:Nat) (h:i < ins.length):(I0 ni ins others)[i]'(by rw [DX];exact h)=if ni.getD i false=true\/others.length<=i then ins[i] else others.getD i []:=by unfold I0;simp
theorem IZ (ni) (ins others:List (List Int)) (c:Nat) (h:ni.getD c false=true):ins.getD c []=(I0 ni ins others).getD c []:=by
 by_cases hc:c < ins.length
 ·rw [List.getD_eq_getElem?_getD,List.getD_eq_getElem?_getD,List.getElem?_eq_getElem hc,List.getElem?_eq_getElem (by rw [DX];exact hc),FM ni ins others c hc,if_pos (Or.inl h)]
 ·rw [List.getD_eq_getElem?_getD,List.getD_eq_getElem?_getD,List.getElem?_eq_none (by omega),List.getElem?_eq_none (by rw [DX];omega)]
structure Ei (w:World) (L:List (List Int)) (xs:List Value):Prop where
 len:xs.length=L.length
 at_:∀ i (h:i < L.length),∃ u,xs[i]? = some u/\Aq w u L[i]/\L[i].length<=9223372036854775807
theorem Ei.nil {w:World}:Ei w [] []:=⟨rfl,fun i h=>absurd h (by simp)⟩
theorem Ei.add {w:World} {L:List (List Int)} {xs:List Value} {j:Nat} {u:Value} (h:Ei w (L.take j) xs) (hj:j < L.length) (hu:Aq w u L[j]) (hl:L[j].length<=9223372036854775807):Ei w (L.take (j+1)) (xs++[u]):=by
 have hlx:xs.length=j:=by rw [h.len,List.length_take];omega
 refine ⟨by rw [List.length_append,h.len,List.length_take,List.length_take];simp;omega,fun i hi=>?_⟩
 rw [List.length_take] at hi
 have e:(L.take (j+1))[i]'(by rw [List.length_take];exact hi)=L[i]'(by omega):=by simp
 rw [e]
 by_cases hij:i < j
 ·obtain ⟨v,h1,h2,h3⟩:=h.at_ i (by rw [List.length_take];omega)
  have e2:(L.take j)[i]'(by rw [List.length_take];omega)=L[i]'(by omega):=by simp
  rw [e2] at h2 h3
  exact ⟨v,by rw [List.getElem?_append_left (by omega)];exact h1,h2,h3⟩
 ·obtain rfl:i=j:=by omega
  exact ⟨u,by rw [List.getElem?_append_right (by omega),hlx,Nat.sub_self];rfl,hu,hl⟩
theorem I1 {w W:World} {B:Nat} {v:Value} {L:List (List Int)} {xs:List Value} (ho:W.ownsRow B 25 1 v L.length xs) (h:Ei w L xs) (hw:Ov w W) (hl:L.length<=1000000):∃ la lc,v=O la L.length lc/\Bm W (O la L.length lc) L:=by
 rcases ho.2 with ⟨h1,h2⟩ | ⟨g,cap,cur,hv,hb,hg,-⟩
 ·exact ⟨none,0,by rw [h1,h2],by unfold maxLen;omega,none,0,rfl,fun hne=>absurd (List.eq_nil_of_length_eq_zero h2) hne⟩
 ·refine ⟨some ⟨g,0,none⟩,cap,hv,by unfold maxLen;omega,some ⟨g,0,none⟩,cap,rfl,fun hne=>⟨g,0,rfl,fun i hi=>?_⟩⟩
  obtain ⟨u,h1,h2,h3⟩:=h.at_ i hi
  have q1:=ho.cells (g:=g) (by rw [hv];rfl) _ _ h1
  rw [Addr.add_lit] at q1
  exact ⟨u,q1,h2.over hw,h3⟩
open Classical in
theorem needsLaw (K kf:Nat) (m:Int) (ga gn gc sa sn sc ya yn yc oa on oc va vn vc fa fn fc ba bn bd gs sp ls ms vs fs l) (ch:Int) (xa:Option Addr) (xn xc:Nat) (ins) (zxa:Option Addr) (zn zxc:Nat) (others) (fuel:Int) (w:World) (h:Bf K kf m ga gn gc sa sn sc ya yn yc oa on oc va vn vc fa fn fc ba bn bd gs sp ls ms vs fs l w) (hx:Bm w (O xa xn xc) ins) (hz:Bm w (O zxa zn zxc) others) :
  Calls Tryz.prog 8 #[zg #[zd U m,O ga gn gc,O sa sn sc,O ya yn yc,O oa on oc,O va vn vc,O fa fn fc,O ba bn bd],zd U ch,O xa xn xc,O zxa zn zxc,zd U fuel] w fun e w'=>e=zh (ze true)/\Ov w w':=by
 have hbel:Ov w (w.alloc (zf #[zd U m,O ga gn gc,O sa sn sc,O ya yn yc,O oa on oc,O va vn vc,O fa fn fc,O ba bn bd] 31)):=bA w _
 obtain ⟨i0,hi,hz0,hz1,hz2⟩:=info_parts Tryz.infoSn
 have KS:=Aa (H7 K kf m ga gn gc sa sn sc ya yn yc oa on oc va vn vc fa fn fc ba bn bd gs sp ls ms vs fs l ch _ (h.over hbel))
 have KB:=Aa EF
 have KC:=Aa Jf
 have HP0:=Aa h
 have HX0:=Aa hx
 have HRP:Hx (Ad [zd U m,O ga gn gc,O sa sn sc,O ya yn yc,O oa on oc,O va vn vc,O fa fn fc,O ba bn bd] (w.alloc (zf #[zd U m,O ga gn gc,O sa sn sc,O ya yn yc,O oa on oc,O va vn vc,O fa fn fc,O ba bn bd] 31)) w.heap.size):=Ay w [zd U m,O ga gn gc,O sa sn sc,O ya yn yc,O oa on oc,O va vn vc,O fa fn fc,O ba bn bd] 31
 obtain ⟨hxm,xao,xcap,hxe,helI⟩:=hx
 injection hxe with e1 e2 e3
 obtain ⟨hzm,zao,zcap,hze,helO⟩:=hz
 injection hze with e4 e5 e6
 have HELI:Hx (ins≠[]->∃ b off,xa=some ⟨b,off,none⟩/\∀ i (h:i < ins.length),∃ u,w.cell? ⟨b,off+i,none⟩=some u/\Aq w u ins[i]/\ins[i].length<=9223372036854775807):=by rw [e1];exact helI
 have HELO:Hx (others≠[]->∃ b off,zxa=some ⟨b,off,none⟩/\∀ i (h:i < others.length),∃ u,w.cell? ⟨b,off+i,none⟩=some u/\Aq w u others[i]/\others[i].length<=9223372036854775807):=by rw [e4];exact helO
 have HXN:Hx (xn=ins.length/\zn=others.length):=⟨e2,e5⟩
 have hxn:xn<=9223372036854775807:=by rw [e2];exact hxm
 have hzn:zn<=9223372036854775807:=by rw [e5];exact hzm
 obtain ⟨c0,c1,c2,c3,c4,c5,c6,c7⟩:=rc8 (Ay w [zd U m,O ga gn gc,O sa sn sc,O ya yn yc,O oa on oc,O va vn vc,O fa fn fc,O ba bn bd] 31)
 clear h helI helO e1 e2 e3 e4 e5 e6 hxm hzm
 go_enter Tryz.func8,Tryz.ntmps8
 go_wp2_with fail
 refine KS.o.mono ?_
 rintro e w1 ⟨hb1,why,hwhy,⟨hne,rfl⟩ | ⟨h0,bv,bi,bs,rfl,hr1,hr2,hr3⟩⟩
 ·have hB1:=hbel.trans (hb1.mono hbel.size)
  have zb:(why == 0)=false:=by simpa using hne
  have zb2:(why != 0)=true:=by simpa using hne
  have zb3:¬ why=0:=hne
  have HBa:=Aa hB1
  obtain ⟨c0,c1,c2,c3,c4,c5,c6,c7⟩:=co8 hb1 c0 c1 c2 c3 c4 c5 c6 c7
  clear hwhy hne hb1 hbel hB1
  go_wp2_with fail
  refine (KB.o _).mono ?_
  rintro e w3 ⟨rfl,hb3⟩
  go_wp2_with fail
  refine (KC.o _).mono ?_
  rintro e w4 ⟨rfl,hb4⟩
  have hb34:=Ag hb3 hb4
  have HBf:Hx (Ov w w4):=HBa.o.trans (hb34.mono HBa.o.size)
  obtain ⟨c0,c1,c2,c3,c4,c5,c6,c7⟩:=co8 hb34 c0 c1 c2 c3 c4 c5 c6 c7
  clear hb3 hb4 hb34
  go_wp2_with fail
  go_ret
  exact ⟨rfl,HBf.o⟩
 subst h0
 have HX:=Aa (hwhy.1 rfl).1
 have hB1:=hbel.trans (hb1.mono hbel.size)
 have HRP1:=Aa (HRP.o.over hb1)
 obtain ⟨d0,d1,d2,d3,d4,d5,d6,d7⟩:=rc8 HRP1.o
 obtain ⟨n1,hn1⟩:=nm (AZ ch K kf fs l vn yn).vs.length
 obtain ⟨n3,hn3⟩:=nm (AZ ch K kf fs l vn yn).nd.length
 obtain ⟨ni,hni⟩:=nm (AZ ch K kf fs l vn yn).cs
 obtain ⟨n2,hn2⟩:=nm ni.length
 rw [<-hn1,<-hn3,<-hni,<-hn2]
 rw [<-hni] at hr2
 have HNI:=Aa hr2
 have HNQ:=Aa hni
 have HN2:=Aa hn2
 have hn2b:n2<=5:=by
  have h1:=(FK HX.o ch).2.1.cs
  rw [<-hni] at h1
  have h2:=HX.o.lim
  omega
 have HB1:=Aa hB1
 clear hwhy hb1 hbel hB1 hr1 hr2 hr3 c0 c1 c2 c3 c4 c5 c6 c7 KS hn1 hn3 hni hn2
 go_wp2_with fail
 refine (KB.o _).mono ?_
 rintro e w3 ⟨rfl,hb3⟩
 go_wp2_with fail
 refine (KC.o _).mono ?_
 rintro e w4 ⟨rfl,hb4⟩
 have hb34:=Ag hb3 hb4
 have HB4w:Hx (Ov w w4):=HB1.o.trans (hb34.mono HB1.o.size)
 have HRP4:=Aa (HRP1.o.over hb34)
 have HNI4:=Aa (HNI.o.over hb34)
 obtain ⟨d0,d1,d2,d3,d4,d5,d6,d7⟩:=rc8 HRP4.o
 have KCR:=Aa (Ho K kf m ga gn gc sa sn sc ya yn yc oa on oc va vn vc fa fn fc ba bn bd gs sp ls ms vs fs l xa xn xc ins fuel w4 (HP0.o.over HB4w.o) (HX0.o.over HB4w.o) HX.o)
 clear hb3 hb4 hb34 KB KC
 go_wp2_with fail
 refine KCR.o.mono ?_
 rintro e W4 ⟨why,rfl,hxy0,hbc⟩
 have HBW4:Hx (Ov w W4):=HB4w.o.trans (hbc.mono HB4w.o.size)
 have HRP5:=Aa (HRP4.o.over hbc)
 have HNI5:=Aa (HNI4.o.over hbc)
 clear hbc KCR d0 d1 d2 d3 d4 d5 d6 d7
 by_cases zw:why=0
 rotate_left
 ·have zb:(why == 0)=false:=by simpa using zw
  clear zw
  go_wp2_with fail
  go_ret
  exact ⟨rfl,HBW4.o⟩
 subst zw
 have hx5:xn<=5:=by have h1:=hxy0 rfl;have h2:=HX.o.lim;omega
 clear hxy0
 obtain ⟨mix,hmix⟩:=nm (I0 ni ins others)
 have HMX:=Aa hmix
 have HML:Hx (mix.length=xn):=by show _=_;rw [hmix,DX];exact HXN.o.1.symm
 have HMI:Hx (∀ {j:Nat} (hj:j < xn),ni.getD j false=true\/others.length<=j->∀ (h1:j < mix.length) (h2:j < ins.length),mix[j]=ins[j]):=fun {j} hj hc h1 h2=>by
  subst hmix
  rw [FM ni ins others j h2,if_pos hc]
 have HMO:Hx (∀ {j:Nat} (hj:j < xn),¬ (ni.getD j false=true\/others.length<=j)->∀ (h1:j < mix.length) (h2:j < ins.length) (h3:j < others.length),mix[j]=others[j]):=fun {j} hj hc h1 h2 h3=>by
  subst hmix
  rw [FM ni ins others j h2,if_neg hc,List.getD_eq_getElem?_getD,List.getElem?_eq_getElem h3];rfl
 clear hmix
 go_wp2_with fail
 go_loopw [15,16] (fun u i wr=>∃ j:Nat,j<=xn/\i=zd U j/\Ov W4 wr/\∃ xs,wr.ownsRow W4.heap.size 25 1 u j xs/\Ei w (mix.take j) xs) (fun _ i _=>xn - (intOf i).toNat)
 case atStart=>exact ⟨0,Nat.zero_le _,rfl,Below.refl _ _,[],World.ownsRow_nil _ _ _ _,by rw [List.take_zero];exact Ei.nil⟩
 case round=>
 obtain ⟨j,hj,rfl,hB4,xs,hown,hMR⟩:=hrel
 by_cases hlt:j < xn
 ·obtain ⟨oa2,on2,oc2,rfl⟩:=AK hown
  have HB4:=Aa hB4
  have HOWN:=Aa hown
  have HMR:=Aa hMR
  have HBW:Hx (Ov w wr):=HBW4.o.trans (hB4.mono HBW4.o.size)
  have HJM:Hx (j < mix.length):=by show _ < _;rw [HML.o];exact hlt
  have hjn:(j:Int) < (xn:Int):=by omega
  clear hB4 hown hMR
  by_cases hnb:ni.getD j false=true
  ·have hjn3:j < n2:=by
    rw [HN2.o]
    apply Decidable.byContradiction
    intro hc
    rw [List.getD_eq_getElem?_getD,List.getElem?_eq_none (by omega)] at hnb
    cases hnb
   have kb:wr.cell? ⟨bi,j,none⟩=some (ze true):=by
    have h1:=HNI5.o.over HB4.o j (ze true) (by rw [List.getElem?_map,List.getElem?_eq_getElem (by rw [<-HN2.o];exact hjn3)];rw [List.getD_eq_getElem?_getD,List.getElem?_eq_getElem (by rw [<-HN2.o];exact hjn3)] at hnb;simpa using hnb)
    exact h1
   have g1:(j:Int) < (n2:Int):=by omega
   have hcnd:ni.getD j false=true\/others.length<=j:=Or.inl hnb
   clear hnb
   have hjl:j < ins.length:=by have h1:=HXN.o;omega
   obtain ⟨b,off,hao,hel⟩:=HELI.o (by intro hh;rw [hh] at hjl;simp at hjl)
   subst hao
   obtain ⟨u,k0,hu,hul⟩:=hel j hjl
   obtain ⟨ua,uc,he,-⟩:=id hu
   subst he
   replace k0:=Ab HBW.o _ _ k0
   obtain ⟨ul,hule⟩:=nm ins[j].length
   have HU:Hx (Aq w (O ua ul uc) ins[j]):=by show Aq _ _ _;rw [hule];exact hu
   have HUL:=Aa hul
   rw [<-hule] at k0
   have hjn2:(j:Int) < (xn:Int):=by have h1:=HXN.o;omega
   have hb3:Ov wr (wr.alloc (zf #[O ua ul uc] 25)):=bA _ _
   have hown1:=Ca HOWN.o hb3
   have HNN:=Aa (Ay wr [O ua ul uc] 25)
   have hBW:W4.heap.size<=(wr.alloc (zf #[O ua ul uc] 25)).heap.size:=Nat.le_trans HB4.o.size hb3.size
   have HB43:Hx (Ov W4 (wr.alloc (zf #[O ua ul uc] 25))):=HB4.o.trans (hb3.mono HB4.o.size)
   clear hel hu hul hule hb3
   go_wp2_with (at_builtin;refine wpList_append_own_at _ rfl _ _ 52 rfl W4.heap.size 25 i0 (O none 0 0) 1 24 Tryz.underlying52 hi hz0 hz1 hz2 rfl (by decide) _ _ _ rfl hown1 ⟨wr.heap.size,0,none⟩ 1 1 [O ua ul uc] rfl rfl (fun jj u hu=>by rw [Addr.add_lit,Nat.zero_add];exact HNN.o jj u hu) (by simp [Value.oneCell']) (by unfold maxLen;omega) (by omega) hBW ?_)
   intro v2 w2 hown2 hgr2 _ hat
   have hov:Ov W4 w2:=HB43.o.trans (AG hown1 hgr2 hBW)
   obtain ⟨va2,vn2,vc2,rfl⟩:=AK hown2
   have HFIN:Hx (∃ xs,w2.ownsRow W4.heap.size 25 1 (O va2 vn2 vc2) (j+1) xs/\Ei w (mix.take (j+1)) xs):=⟨_,hown2,HMR.o.add HJM.o (by rw [HMI.o hlt hcnd HJM.o hjl];exact HU.o) (by rw [HMI.o hlt hcnd HJM.o hjl];exact HUL.o)⟩
   have HOV:=Aa hov
   clear hown1 hown2 hgr2 hat hBW hov
   go_wp2_with fail
   exact ⟨⟨j+1,by omega,by go_num,HOV.o,HFIN.o⟩,by simp [intOf];omega⟩
  ·have HKB:Hx (j < n2->wr.cell? ⟨bi,j,none⟩=some (ze false)):=fun hjn3=>by
    have h1:=HNI5.o.over HB4.o j (ze false) (by rw [List.getElem?_map,List.getElem?_eq_getElem (by rw [<-HN2.o];exact hjn3)];rw [List.getD_eq_getElem?_getD,List.getElem?_eq_getElem (by rw [<-HN2.o];exact hjn3)] at hnb;simpa using hnb)
    exact h1
   by_cases hoj:others.length<=j
   ·have g2n:zn<=j:=by have h1:=HXN.o.2;omega
    have g2:(zn:Int)<=(j:Int):=by omega
    have g2d:decide (zn<=j)=true:=by simp;omega
    have hcnd:ni.getD j false=true\/others.length<=j:=Or.inr hoj
    clear hnb hoj
    by_cases g0:j < n2
    ·have kb:=HKB.o g0
     have g1:(j:Int) < (n2:Int):=by omega
     have hjl:j < ins.length:=by have h1:=HXN.o;omega
     obtain ⟨b,off,hao,hel⟩:=HELI.o (by intro hh;rw [hh] at hjl;simp at hjl)
     subst hao
     obtain ⟨u,k0,hu,hul⟩:=hel j hjl
     obtain ⟨ua,uc,he,-⟩:=id hu
     subst he
     replace k0:=Ab HBW.o _ _ k0
     obtain ⟨ul,hule⟩:=nm ins[j].length
     have HU:Hx (Aq w (O ua ul uc) ins[j]):=by show Aq _ _ _;rw [hule];exact hu
     have HUL:=Aa hul
     rw [<-hule] at k0
     have hjn2:(j:Int) < (xn:Int):=by have h1:=HXN.o;omega
     have hb3:Ov wr (wr.alloc (zf #[O ua ul uc] 25)):=bA _ _
     have hown1:=Ca HOWN.o hb3
     have HNN:=Aa (Ay wr [O ua ul uc] 25)
     have hBW:W4.heap.size<=(wr.alloc (zf #[O ua ul uc] 25)).heap.size:=Nat.le_trans HB4.o.size hb3.size
     have HB43:Hx (Ov W4 (wr.alloc (zf #[O ua ul uc] 25))):=HB4.o.trans (hb3.mono HB4.o.size)
     clear hel hu hul hule hb3
     go_wp2_with (at_builtin;refine wpList_append_own_at _ rfl _ _ 52 rfl W4.heap.size 25 i0 (O none 0 0) 1 24 Tryz.underlying52 hi hz0 hz1 hz2 rfl (by decide) _ _ _ rfl hown1 ⟨wr.heap.size,0,none⟩ 1 1 [O ua ul uc] rfl rfl (fun jj u hu=>by rw [Addr.add_lit,Nat.zero_add];exact HNN.o jj u hu) (by simp [Value.oneCell']) (by unfold maxLen;omega) (by omega) hBW ?_)
     intro v2 w2 hown2 hgr2 _ hat
     have hov:Ov W4 w2:=HB43.o.trans (AG hown1 hgr2 hBW)
     obtain ⟨va2,vn2,vc2,rfl⟩:=AK hown2
     have HFIN:Hx (∃ xs,w2.ownsRow W4.heap.size 25 1 (O va2 vn2 vc2) (j+1) xs/\Ei w (mix.take (j+1)) xs):=⟨_,hown2,HMR.o.add HJM.o (by rw [HMI.o hlt hcnd HJM.o hjl];exact HU.o) (by rw [HMI.o hlt hcnd HJM.o hjl];exact HUL.o)⟩
     have HOV:=Aa hov
     clear hown1 hown2 hgr2 hat hBW hov
     go_wp2_with fail
     exact ⟨⟨j+1,by omega,by go_num,HOV.o,HFIN.o⟩,by simp [intOf];omega⟩
    ·have g1:decide ((j:Int) < (n2:Int))=false:=by simp;omega
     have hjl:j < ins.length:=by have h1:=HXN.o;omega
     obtain ⟨b,off,hao,hel⟩:=HELI.o (by intro hh;rw [hh] at hjl;simp at hjl)
     subst hao
     obtain ⟨u,k0,hu,hul⟩:=hel j hjl
     obtain ⟨ua,uc,he,-⟩:=id hu
     subst he
     replace k0:=Ab HBW.o _ _ k0
     obtain ⟨ul,hule⟩:=nm ins[j].length
     have HU:Hx (Aq w (O ua ul uc) ins[j]):=by show Aq _ _ _;rw [hule];exact hu
     have HUL:=Aa hul
     rw [<-hule] at k0
     have hjn2:(j:Int) < (xn:Int):=by have h1:=HXN.o;omega
     have hb3:Ov wr (wr.alloc (zf #[O ua ul uc] 25)):=bA _ _
     have hown1:=Ca HOWN.o hb3
     have HNN:=Aa (Ay wr [O ua ul uc] 25)
     have hBW:W4.heap.size<=(wr.alloc (zf #[O ua ul uc] 25)).heap.size:=Nat.le_trans HB4.o.size hb3.size
     have HB43:Hx (Ov W4 (wr.alloc (zf #[O ua ul uc] 25))):=HB4.o.trans (hb3.mono HB4.o.size)
     clear hel hu hul hule hb3
     go_wp2_with (at_builtin;refine wpList_append_own_at _ rfl _ _ 52 rfl W4.heap.size 25 i0 (O none 0 0) 1 24 Tryz.underlying52 hi hz0 hz1 hz2 rfl (by decide) _ _ _ rfl hown1 ⟨wr.heap.size,0,none⟩ 1 1 [O ua ul uc] rfl rfl (fun jj u hu=>by rw [Addr.add_lit,Nat.zero_add];exact HNN.o jj u hu) (by simp [Value.oneCell']) (by unfold maxLen;omega) (by omega) hBW ?_)
     intro v2 w2 hown2 hgr2 _ hat
     have hov:Ov W4 w2:=HB43.o.trans (AG hown1 hgr2 hBW)
     obtain ⟨va2,vn2,vc2,rfl⟩:=AK hown2
     have HFIN:Hx (∃ xs,w2.ownsRow W4.heap.size 25 1 (O va2 vn2 vc2) (j+1) xs/\Ei w (mix.take (j+1)) xs):=⟨_,hown2,HMR.o.add HJM.o (by rw [HMI.o hlt hcnd HJM.o hjl];exact HU.o) (by rw [HMI.o hlt hcnd HJM.o hjl];exact HUL.o)⟩
     have HOV:=Aa hov
     clear hown1 hown2 hgr2 hat hBW hov
     go_wp2_with fail
     exact ⟨⟨j+1,by omega,by go_num,HOV.o,HFIN.o⟩,by simp [intOf];omega⟩
   ·have g2:decide ((zn:Int)<=(j:Int))=false:=by have h1:=HXN.o.2;simp;omega
    have hcnd:¬ (ni.getD j false=true\/others.length<=j):=fun h=>h.elim hnb hoj
    have hjz:j < others.length:=by omega
    clear hnb hoj
    by_cases g0:j < n2
    ·have kb:=HKB.o g0
     have g1:(j:Int) < (n2:Int):=by omega
     have hjl:j < others.length:=by have h1:=HXN.o;omega
     obtain ⟨b,off,hao,hel⟩:=HELO.o (by intro hh;rw [hh] at hjl;simp at hjl)
     subst hao
     obtain ⟨u,k0,hu,hul⟩:=hel j hjl
     obtain ⟨ua,uc,he,-⟩:=id hu
     subst he
     replace k0:=Ab HBW.o _ _ k0
     obtain ⟨ul,hule⟩:=nm others[j].length
     have HU:Hx (Aq w (O ua ul uc) others[j]):=by show Aq _ _ _;rw [hule];exact hu
     have HUL:=Aa hul
     rw [<-hule] at k0
     have hjn2:(j:Int) < (zn:Int):=by have h1:=HXN.o;omega
     have hb3:Ov wr (wr.alloc (zf #[O ua ul uc] 25)):=bA _ _
     have hown1:=Ca HOWN.o hb3
     have HNN:=Aa (Ay wr [O ua ul uc] 25)
     have hBW:W4.heap.size<=(wr.alloc (zf #[O ua ul uc] 25)).heap.size:=Nat.le_trans HB4.o.size hb3.size
     have HB43:Hx (Ov W4 (wr.alloc (zf #[O ua ul uc] 25))):=HB4.o.trans (hb3.mono HB4.o.size)
     clear hel hu hul hule hb3
     go_wp2_with (at_builtin;refine wpList_append_own_at _ rfl _ _ 52 rfl W4.heap.size 25 i0 (O none 0 0) 1 24 Tryz.underlying52 hi hz0 hz1 hz2 rfl (by decide) _ _ _ rfl hown1 ⟨wr.heap.size,0,none⟩ 1 1 [O ua ul uc] rfl rfl (fun jj u hu=>by rw [Addr.add_lit,Nat.zero_add];exact HNN.o jj u hu) (by simp [Value.oneCell']) (by unfold maxLen;omega) (by omega) hBW ?_)
     intro v2 w2 hown2 hgr2 _ hat
     have hov:Ov W4 w2:=HB43.o.trans (AG hown1 hgr2 hBW)
     obtain ⟨va2,vn2,vc2,rfl⟩:=AK hown2
     have HFIN:Hx (∃ xs,w2.ownsRow W4.heap.size 25 1 (O va2 vn2 vc2) (j+1) xs/\Ei w (mix.take (j+1)) xs):=⟨_,hown2,HMR.o.add HJM.o (by rw [HMO.o hlt hcnd HJM.o (by have h1:=HXN.o.1;omega) hjl];exact HU.o) (by rw [HMO.o hlt hcnd HJM.o (by have h1:=HXN.o.1;omega) hjl];exact HUL.o)⟩
     have HOV:=Aa hov
     clear hown1 hown2 hgr2 hat hBW hov
     go_wp2_with fail
     exact ⟨⟨j+1,by omega,by go_num,HOV.o,HFIN.o⟩,by simp [intOf];omega⟩
    ·have g1:decide ((j:Int) < (n2:Int))=false:=by simp;omega
     have hjl:j < others.length:=by have h1:=HXN.o;omega
     obtain ⟨b,off,hao,hel⟩:=HELO.o (by intro hh;rw [hh] at hjl;simp at hjl)
     subst hao
     obtain ⟨u,k0,hu,hul⟩:=hel j hjl
     obtain ⟨ua,uc,he,-⟩:=id hu
     subst he
     replace k0:=Ab HBW.o _ _ k0
     obtain ⟨ul,hule⟩:=nm others[j].length
     have HU:Hx (Aq w (O ua ul uc) others[j]):=by show Aq _ _ _;rw [hule];exact hu
     have HUL:=Aa hul
     rw [<-hule] at k0
     have hjn2:(j:Int) < (zn:Int):=by have h1:=HXN.o;omega
     have hb3:Ov wr (wr.alloc (zf #[O ua ul uc] 25)):=bA _ _
     have hown1:=Ca HOWN.o hb3
     have HNN:=Aa (Ay wr [O ua ul uc] 25)
     have hBW:W4.heap.size<=(wr.alloc (zf #[O ua ul uc] 25)).heap.size:=Nat.le_trans HB4.o.size hb3.size
     have HB43:Hx (Ov W4 (wr.alloc (zf #[O ua ul uc] 25))):=HB4.o.trans (hb3.mono HB4.o.size)
     clear hel hu hul hule hb3
     go_wp2_with (at_builtin;refine wpList_append_own_at _ rfl _ _ 52 rfl W4.heap.size 25 i0 (O none 0 0) 1 24 Tryz.underlying52 hi hz0 hz1 hz2 rfl (by decide) _ _ _ rfl hown1 ⟨wr.heap.size,0,none⟩ 1 1 [O ua ul uc] rfl rfl (fun jj u hu=>by rw [Addr.add_lit,Nat.zero_add];exact HNN.o jj u hu) (by simp [Value.oneCell']) (by unfold maxLen;omega) (by omega) hBW ?_)
     intro v2 w2 hown2 hgr2 _ hat
     have hov:Ov W4 w2:=HB43.o.trans (AG hown1 hgr2 hBW)
     obtain ⟨va2,vn2,vc2,rfl⟩:=AK hown2
     have HFIN:Hx (∃ xs,w2.ownsRow W4.heap.size 25 1 (O va2 vn2 vc2) (j+1) xs/\Ei w (mix.take (j+1)) xs):=⟨_,hown2,HMR.o.add HJM.o (by rw [HMO.o hlt hcnd HJM.o (by have h1:=HXN.o.1;omega) hjl];exact HU.o) (by rw [HMO.o hlt hcnd HJM.o (by have h1:=HXN.o.1;omega) hjl];exact HUL.o)⟩
     have HOV:=Aa hov
     clear hown1 hown2 hgr2 hat hBW hov
     go_wp2_with fail
     exact ⟨⟨j+1,by omega,by go_num,HOV.o,HFIN.o⟩,by simp [intOf];omega⟩
 have hje:xn=j:=by omega
 subst hje
 have hml:mix.length=xn:=HML.o
 rw [List.take_of_length_le (by omega)] at hMR
 rw [<-hml] at hown
 obtain ⟨la,lc,rfl,hLM⟩:=I1 hown hMR (HBW4.o.trans (hB4.mono HBW4.o.size)) (by rw [hml];omega)
 rw [hml] at hLM ⊢
 have HLM:=Aa hLM
 have HBL:Hx (Ov w wr):=HBW4.o.trans (hB4.mono HBW4.o.size)
 have HRPL:=Aa (HRP5.o.over hB4)
 obtain ⟨d0,d1,d2,d3,d4,d5,d6,d7⟩:=rc8 HRPL.o
 clear hB4 hown hMR hLM hml hlt hj
 go_wp2_with fail
 have KR:=Aa (F7 K kf m ga gn gc sa sn sc ya yn yc oa on oc va vn vc fa fn fc ba bn bd xa xn xc ins fuel gs sp ls ms vs fs l wr (HP0.o.over HBL.o) (HX0.o.over HBL.o))
 refine KR.o.mono ?_
 rintro e w5 h5
 obtain ⟨qa,ql,qc,qva,qvl,qvc,qta,qtl,qtc,qs,qen,qtp,rfl,hb5,hq5⟩:=MP h5
 obtain ⟨E,hE⟩:=nm (eR K kf m vn yn on sn gs sp ls ms vs fs l ins fuel)
 rw [<-hE] at hq5 ⊢
 have HQ5:=Aa hq5
 have hbr:=bA w5 (zf #[O qa ql qc,O qva qvl qvc,O qta qtl qtc,zd U qs,zd U qen,zd U qtp] 55)
 have hb5r:=Ag hb5 hbr
 have HB5:Hx (Ov w (w5.alloc (zf #[O qa ql qc,O qva qvl qvc,O qta qtl qtc,zd U qs,zd U qen,zd U qtp] 55))):=HBL.o.trans (hb5r.mono HBL.o.size)
 have HLM5:=Aa (HLM.o.over hb5r)
 have HBR:=Aa hbr
 obtain ⟨d0,d1,d2,d3,d4,d5,d6,d7⟩:=co8 hb5r d0 d1 d2 d3 d4 d5 d6 d7
 obtain ⟨k0,k1,k2,k3,k4,k5⟩:=rc6 (Ay w5 [O qa ql qc,O qva qvl qvc,O qta qtl qtc,zd U qs,zd U qen,zd U qtp] 55)
 clear h5 hb5 hq5 hE hbr hb5r KR
 go_wp2_with fail
 have KQ:=Aa (F7 K kf m ga gn gc sa sn sc ya yn yc oa on oc va vn vc fa fn fc ba bn bd la xn lc mix fuel gs sp ls ms vs fs l _ (HP0.o.over HB5.o) HLM5.o)
 refine KQ.o.mono ?_
 rintro e w6 h6
 obtain ⟨pa,pl,pc,pva,pvl,pvc,pta,ptl,ptc,ps,pen,ptp,rfl,hb6,hq6⟩:=MP h6
 obtain ⟨E2,hE2⟩:=nm (eR K kf m vn yn on sn gs sp ls ms vs fs l mix fuel)
 rw [<-hE2] at hq6 ⊢
 have HQ7:=Aa hq6
 have hbs:=bA w6 (zf #[O pa pl pc,O pva pvl pvc,O pta ptl ptc,zd U ps,zd U pen,zd U ptp] 55)
 have hb6s:=Ag hb6 hbs
 have HBS:=Aa hbs
 have HB6S:=Aa hb6s
 have HB6:Hx (Ov w (w6.alloc (zf #[O pa pl pc,O pva pvl pvc,O pta ptl ptc,zd U ps,zd U pen,zd U ptp] 55))):=HB5.o.trans (hb6s.mono HB5.o.size)
 obtain ⟨k0,k1,k2,k3,k4,k5⟩:=co6 hb6s k0 k1 k2 k3 k4 k5
 obtain ⟨n0,n1',n2',n3',n4,n5⟩:=rc6 (Ay w6 [O pa pl pc,O pva pvl pvc,O pta ptl ptc,zd U ps,zd U pen,zd U ptp] 55)
 clear h6 hb6 hq6 hbs hb6s hE2 d0 d1 d2 d3 d4 d5 d6 d7 KQ
 by_cases z1:E=0
 rotate_left
 ·have zb:(E == 0)=false:=by simpa using z1
  clear z1
  go_wp2_with fail
  go_ret
  exact ⟨rfl,HB6.o⟩
 subst z1
 by_cases z2:E2=0
 rotate_left
 ·have zb:(E2 == 0)=false:=by simpa using z2
  clear z2
  go_wp2_with fail
  go_ret
  exact ⟨rfl,HB6.o⟩
 subst z2
 obtain ⟨⟨hf1,hl1⟩,he1,hs1,hen1⟩:=HQ5.o rfl
 obtain ⟨⟨-,hl2⟩,he2,hs2,hen2⟩:=HQ7.o rfl
 have hcl:=(FK HX.o ch).2.2
 have hdp:=La HX.o
 rw [<-HNQ.o] at hcl
 have hrun:=HH (Hj hdp.1 hcl) fuel.toNat hf1 ins l vn yn o0 o0 hdp.2 (fun x hx=>hcl x (List.mem_append_right _ hx))
 have hrun2:=HH (Hj hdp.1 hcl) fuel.toNat hf1 mix l vn yn o0 o0 hdp.2 (fun x hx=>hcl x (List.mem_append_right _ hx))
 have hcut:=LB (Hj hdp.1 hcl) hcl fuel.toNat (ins:=ins) (ins':=mix) (fun c hc=>by rw [HMX.o];exact IZ ni ins others c hc) AF vn yn o0
 rw [<-hcut] at hrun2
 obtain ⟨V,hV⟩:=nm (w6.alloc (zf #[O pa pl pc,O pva pvl pvc,O pta ptl ptc,zd U ps,zd U pen,zd U ptp] 55))
 have hV1:Fk V (O qa ql qc) (Ce K kf fs fuel.toNat ins AF l vn yn o0).ev:=by rw [hV];exact ((he1.over HBR.o).over HB6S.o)
 have hV2:Fk V (O pa pl pc) (Ce K kf fs fuel.toNat mix AF l vn yn o0).ev:=by rw [hV];exact he2.over HBS.o
 rw [<-hV] at HB6
 obtain ⟨r1,hr1⟩:=nm (Ce K kf fs fuel.toNat ins AF l vn yn o0)
 obtain ⟨r2,hr2⟩:=nm (Ce K kf fs fuel.toNat mix AF l vn yn o0)
 rw [<-hr1] at hV1 hl1 hs1 hen1 hrun
 rw [<-hr2] at hV2 hl2 hs2 hen2 hrun2
 have KP1:Hx (∀ X,Ov V X->_):=fun X (hX:Ov V X)=>Gk ch r1.ev (O qa ql qc) X (hV1.over hX) (by omega)
 have KP2:Hx (∀ X,Ov V X->_):=fun X (hX:Ov V X)=>Gk ch r2.ev (O pa pl pc) X (hV2.over hX) (by omega)
 obtain ⟨x,hxx⟩:=nm (Bg ch r1.ev)
 obtain ⟨y,hyy⟩:=nm (Bg ch r2.ev)
 have hxl:x.length<=2000:=by rw [hxx];exact Nat.le_trans (EL ch r1.ev) hl1
 have hyl:y.length<=2000:=by rw [hyy];exact Nat.le_trans (EL ch r2.ev) hl2
 rw [<-hxx] at KP1 hrun
 rw [<-hyy] at KP2 hrun2
 obtain ⟨z,hzz⟩:=nm (Bg ch (Ce K kf (BL (AZ ch K kf fs l vn yn).nd kf fs) fuel.toNat ins AF (A5 (AZ ch K kf fs l vn yn).nd kf l (An kf fs)) vn yn o0).ev)
 rw [<-hzz] at hrun hrun2
 have HRUN:Hx (x <+: z/\y <+: z/\True):=⟨hrun.2,hrun2.2,trivial⟩
 have HEQ:Hx (qen=1->pen=1->x.length=y.length):=fun h1 h2=>by rw [(hrun.1 (hen1.trans h1)).2.2,(hrun2.1 (hen2.trans h2)).2.2]
 have k0:V.cell? ⟨w5.heap.size,0,none⟩=some (O qa ql qc):=by rw [hV];exact k0
 have k4:V.cell? ⟨w5.heap.size,4,none⟩=some (zd U qen):=by rw [hV];exact k4
 have n0:V.cell? ⟨w6.heap.size,0,none⟩=some (O pa pl pc):=by rw [hV];exact n0
 have n4:V.cell? ⟨w6.heap.size,4,none⟩=some (zd U pen):=by rw [hV];exact n4
 obtain ⟨xl,hxn'⟩:=nm x.length
 obtain ⟨yl,hyn'⟩:=nm y.length
 rw [<-hxn'] at KP1 hxl
 rw [<-hyn'] at KP2 hyl
 have HXY:=Aa (And.intro hxn' hyn')
 clear hV1 hV2 hrun hrun2 hcut hr1 hr2 hxx hyy hzz hl1 hl2 hs1 hs2 hen1 hen2 he1 he2 hcl hdp hf1 hxn' hyn' HQ5 HQ7
 go_wp2_with fail
 rw [<-hV]
 clear hV
 refine gS (fun Wz=>Below V.heap.size V Wz) (Below.refl _ _).drew fun hHeld=>?_
 generalize V.drew=W at hHeld ⊢
 refine kO 0 ?_
 refine kO 1 ?_
 refine kO 2 ?_
 refine kO 4 ?_
 refine kO 5 ?_
 refine kO 6 ?_
 refine rdA 3 rfl fun K hK=>?_
 go_simp
 refine (KP1.o _ hHeld).mono ?_
 rintro e W8 ⟨ua,uc,rfl,hO8,hc8,hb8⟩
 have HO8:=Aa hO8
 have HC8:=Aa hc8
 have HB8:Hx (Ov V W8):=hHeld.trans (hb8.mono hHeld.size)
 clear hO8 hc8 hb8 hHeld
 go_simp
 refine xK hK (HB8.o) fun hHeld=>?_
 clear hK K
 refine rdA 7 rfl fun K hK=>?_
 go_simp
 refine (KP2.o _ HB8.o).mono ?_
 rintro e W9 ⟨za,zc,rfl,hO9,hc9,hb9⟩
 have HO9:=Aa hO9
 have HC9:=Aa hc9
 have HB89:=Aa hb9
 have HB9:Hx (Ov V W9):=HB8.o.trans (hb9.mono HB8.o.size)
 clear hO9 hc9 hb9 hHeld
 go_simp
 refine xK hK (HB9.o) fun hHeld=>?_
 clear hK K
 refine kO 8 ?_
 refine kO 9 ?_
 refine gE ?_
 obtain ⟨a4,e4⟩:CE W9 w5.heap.size 4 (zd U qen)/\CE W9 w6.heap.size 4 (zd U pen):=⟨Ab HB9.o _ _ k4,Ab HB9.o _ _ n4⟩
 have HBF:Hx (Ov w W9):=HB6.o.trans (HB9.o.mono HB6.o.size)
 have HI1:Hx (Aq W9 (O ua xl uc) x):=(HO8.o.over HB89.o).self
 have HI2:Hx (Aq W9 (O za yl zc) y):=HO9.o.self
 clear k0 k4 n0 n4
 by_cases hle0:xl<=yl
 ·have hle:xl<=yl:=hle0
  have gl:decide ((yl:Int) < (xl:Int))=false:=by simp;omega
  have HPF:Hx (x <+: y):=List.prefix_of_prefix_length_le HRUN.o.1 HRUN.o.2.1 (by have h1:=HXY.o;omega)
  clear hle0
  have HP3:Hx (Aq W9 (O za xl zc) x):=by
   show Aq _ _ _
   rw [HXY.o.1]
   exact GD (by rw [<-HXY.o.2];exact HI2.o) HPF.o
  have KI:=Aa (El x (O ua xl uc) (O za xl zc) W9 HI1.o HP3.o (by have h9:=HXY.o.1;omega))
  have hcap:=HC9.o
  have hcap2:=HC8.o
  by_cases z1:qen=1
  ·subst z1
   by_cases z2:pen=1
   ·subst z2
    have hxy:xl=yl:=by have h1:=HXY.o;have h2:=HEQ.o rfl rfl;omega
    subst hxy
    clear hle
    go_wp2_with fail
    refine KI.o.mono ?_
    rintro e W10 ⟨rfl,n,rfl⟩
    go_wp2_with fail
    go_ret
    exact ⟨rfl,below_drewN HBF.o n⟩
   ·have zb:(pen == 1)=false:=by simpa using z2
    clear z2
    go_wp2_with fail
    refine KI.o.mono ?_
    rintro e W10 ⟨rfl,n,rfl⟩
    go_wp2_with fail
    go_ret
    exact ⟨rfl,below_drewN HBF.o n⟩
  ·have zb:(qen == 1)=false:=by simpa using z1
   clear z1
   go_wp2_with fail
   refine KI.o.mono ?_
   rintro e W10 ⟨rfl,n,rfl⟩
   go_wp2_with fail
   go_ret
   exact ⟨rfl,below_drewN HBF.o n⟩
 ·have hle:yl<=xl:=by omega
  have gl:decide ((yl:Int) < (xl:Int))=true:=by simp;omega
  have HPF:Hx (y <+: x):=List.prefix_of_prefix_length_le HRUN.o.2.1 HRUN.o.1 (by have h1:=HXY.o;omega)
  have hlt9:yl < xl:=by omega
  clear hle0
  have HP3:Hx (Aq W9 (O ua yl uc) y):=by
   show Aq _ _ _
   rw [HXY.o.2]
   exact GD (by rw [<-HXY.o.1];exact HI1.o) HPF.o
  have KI:=Aa (El y (O za yl zc) (O ua yl uc) W9 HI2.o HP3.o (by have h9:=HXY.o.2;omega))
  have hcap:=HC8.o
  have hcap2:=HC9.o
  by_cases z1:qen=1
  ·subst z1
   by_cases z2:pen=1
   ·subst z2
    have hxy:yl=xl:=by have h1:=HXY.o;have h2:=HEQ.o rfl rfl;omega
    omega
   ·have zb:(pen == 1)=false:=by simpa using z2
    clear z2
    go_wp2_with fail
    refine KI.o.mono ?_
    rintro e W10 ⟨rfl,n,rfl⟩
    go_wp2_with fail
    go_ret
    exact ⟨rfl,below_drewN HBF.o n⟩
  ·have zb:(qen == 1)=false:=by simpa using z1
   clear z1
   go_wp2_with fail
   refine KI.o.mono ?_
   rintro e W10 ⟨rfl,n,rfl⟩
   go_wp2_with fail
   go_ret
   exact ⟨rfl,below_drewN HBF.o n⟩
end Go.Proofs.YtfffpjkcfnekaaaGreat.Ex
