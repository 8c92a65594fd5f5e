/- A program that passes is right by the document's answer, too. -/
import Derived.Test.YtfffpjkcfnekaaaGreatH45
import Derived.Test.YtfffpjkcfnekaaaGreatH46
set_option linter.unusedVariables false
set_option maxHeartbeats 8000000
set_option maxRecDepth 100000
namespace Go.Proofs.YtfffpjkcfnekaaaGreat.Ex
open Go.RowKit
open Go.Value renaming slice -> O, int -> zd, bool -> ze, agg -> zg, pointer -> zi, tuple -> zj
open Go.IntKind renaming i64 -> U
open Go.Obj renaming cells -> zf
open Go.Ending renaming returned -> zh
theorem Je (K kf:Nat) (m:Int) (ga gn gc sa sn sc ya yn yc oa on oc va vn vc fa fn fc ba bn bd gs sp ls ms vs fs l) (w:World) (h:Bf K kf m ga gn gc sa sn sc ya yn yc oa on oc va vn vc fa fn fc ba bn bd gs sp ls ms vs fs l w) (hX:Ey.xP K kf m vn yn on sn gs sp ls ms vs fs l) :
  Calls Tryz.prog 37 #[zg #[zd U m,O ga gn gc,O sa sn sc,O ya yn yc,O oa on oc,O va vn vc,O fa fn fc,O ba bn bd]] w fun e w'=>e=zh (zd U 0)/\Ov w w':=by
 obtain ⟨n0,hmn,hn1,hn6,-⟩:=Hk hX.chk
 have hm6:1<=m/\m<=6:=by omega
 obtain ⟨i0,hi,hz0,hz1,hz2⟩:=info_parts Tryz.infoLaN
 have HLN:=Aa (Fu h)
 have hlim:=hX.lim
 have HLIM:=Aa hlim
 have K93:Hx (∀ X,Ov w X->Calls Tryz.prog 93 #[zg #[zd U m,O ga gn gc]] X fun e w'=>e=zh (zd U 0)/\Ov X w'):=fun X hb=>by
  have h1:=FI m (O ga gn gc) gs X (Bq h.grants hb)
  rw [hX.chk] at h1
  exact h1
 have K25:Hx (∀ X x,0<=x->x < m->Calls Tryz.prog 25 #[zg #[zd U m,O ga gn gc],zd U x] X fun e w'=>e=zh (ze true)/\Ov X w'):=fun X x h0 h1=>by
  have h2:=CD m x hm6 (O ga gn gc) X
  rw [show AN m x=true by unfold AN;simp [h0,h1]] at h2
  exact h2
 have K94:Hx (∀ X (b:Lab) (a:Option Addr) (c:Nat) (a2:Option Addr) (c2:Nat),Ov w X->Co m gs b=0->Az w (O a b.r.length c) b.r->Az w (O a2 b.w.length c2) b.w->Calls Tryz.prog 94 #[zg #[zd U m,O ga gn gc],zg #[O a b.r.length c,O a2 b.w.length c2]] X fun e w'=>e=zh (zd U 0)/\Ov X w'):=fun X b a c a2 c2 hX2 hb h1 h2=>by
  have h3:=E7 m hm6 (O ga gn gc) (O a b.r.length c) (O a2 b.w.length c2) b X (Au h1 hX2) (Au h2 hX2)
  have h4:Ed m b=0:=by unfold Co at hb;rw [if_pos hX.chk] at hb;exact hb
  rw [h4] at h3
  exact h3
 have K95:Hx (∀ X,Ov w X->∀ v l,AD w K kf v l->Ey.dps kf 1 l->Aj kf l<=50->Calls Tryz.prog 95 #[v,zd U 1] X fun e w'=>e=zh (zd U (Aj kf l:Nat))/\Ov X w'):=fun X hb v l h1 h2 h3=>Ms K kf v l 1 X (h1.over hb) h2 h3 (by omega) (by omega)
 have K96:Hx (∀ X,Ov w X->∀ funcs:Int,0<=funcs->funcs<=fs.length->∀ v l,AD w K kf v l->(∀ s∈l,Ey.xS K vn yn on funcs fs kf s)->Calls Tryz.prog 96 #[zg #[zd U m,O ga gn gc,O sa sn sc,O ya yn yc,O oa on oc,O va vn vc,O fa fn fc,O ba bn bd],zd U funcs,v] X fun e w'=>e=zh (zd U 0)/\Ov X w'):=fun X hb funcs h0 h1 v l h2 h3=>
  Hl K kf m ga gn gc sa sn sc ya yn yc oa on oc va vn vc fa fn fc ba bn bd fs funcs ⟨h0,h1,by omega⟩ ⟨by omega,by omega,by omega⟩ (fun f hf=>by obtain ⟨i,hi,rfl⟩:=List.getElem_of_mem hf;exact (hX.body i hi).1) w h.funcs kf v l X h2 hb h3
 obtain ⟨v1,hv1⟩:=nm ((vn:Int) - 1)
 have hwv:IntKind.i64.wrap ((vn:Int) - 1)=v1:=by rw [IntKind.wrap_i64];omega
 have HV1:=Aa hv1
 have HFN:=Aa h.funcs
 have HVARS:=Aa h.vars
 have HINS:=Aa h.ins
 have HOUTS:=Aa h.outs
 have HSP:=Aa h.speak
 have HMAIN:=Aa h.main
 have HSPK:=Aa hX.speak
 have HNK:=Aa hX.labs.2.2
 have HLABS:Hx (∀ b∈ls++ms++vs.map Prod.snd,Co m gs b=0):=fun b hb=>by
  rcases List.mem_append.1 hb with hb | hb
  ·exact hX.labs.1 b hb
  ·obtain ⟨v,hv,rfl⟩:=List.mem_map.1 hb
   exact hX.labs.2.1 v hv
 have HXB:=Aa hX.body
 have HXM:=Aa hX.main
 have HDP:=Aa hX.many.2
 have HMANY:Hx (An kf fs+Aj kf l<=50):=by have h1:=hX.many.1;show _<=_;omega
 have g1:decide ((16:Int) < (vn:Int))=false:=by simp;omega
 have g2:decide ((5:Int) < (yn:Int))=false:=by simp;omega
 have g3:decide ((5:Int) < (on:Int))=false:=by simp;omega
 have g4:decide ((5:Int) < (fn:Int))=false:=by have h1:=HLN.o;simp;omega
 have g5:decide (m < (sn:Int))=false:=by simp;omega
 have hb1:Ov w (w.alloc (zf #[zd U m,O ga gn gc,O sa sn sc,O ya yn yc,O oa on oc,O va vn vc,O fa fn fc,O ba bn bd] 31)):=bA w _
 obtain ⟨V,hV⟩:=nm (w.alloc (zf #[zd U m,O ga gn gc,O sa sn sc,O ya yn yc,O oa on oc,O va vn vc,O fa fn fc,O ba bn bd] 31))
 have hrV:Ad [zd U m,O ga gn gc,O sa sn sc,O ya yn yc,O oa on oc,O va vn vc,O fa fn fc,O ba bn bd] V w.heap.size:=by rw [hV];exact Ay w [zd U m,O ga gn gc,O sa sn sc,O ya yn yc,O oa on oc,O va vn vc,O fa fn fc,O ba bn bd] 31
 rw [<-hV] at hb1
 obtain ⟨p0,p1,p2,p3,p4,p5,p6,p7⟩:=rc8 hrV
 have HRV:=Aa hrV
 have HBV:=Aa hb1
 have hvn16:vn<=16:=by omega
 have hfn5:fn<=5:=by have h1:=HLN.o;omega
 have hsn6:sn<=6:=by omega
 clear h hX hmn hn1 hn6 hm6 hlim hv1 hb1 hrV
 go_enter Tryz.func37,Tryz.ntmps37
 go_wp2_with fail
 rw [<-hV]
 clear hV
 refine (K93.o _ HBV.o).mono ?_
 rintro e W1 ⟨rfl,hb1⟩
 have HR1:=Aa (HRV.o.over hb1)
 have HB1:Hx (Ov w W1):=HBV.o.trans (hb1.mono HBV.o.size)
 obtain ⟨p0,p1,p2,p3,p4,p5,p6,p7⟩:=rc8 HR1.o
 clear hb1 K93
 go_wp2_with fail
 go_loopw [4] (fun i wr=>∃ j:Nat,j<=sn/\i=zd U j/\Ad [zd U m,O ga gn gc,O sa sn sc,O ya yn yc,O oa on oc,O va vn vc,O fa fn fc,O ba bn bd] wr w.heap.size/\Ov w wr) (fun i _=>sn - (intOf i).toNat)
 case atStart=>exact ⟨0,Nat.zero_le _,rfl,HR1.o,HB1.o⟩
 case round=>
  obtain ⟨j,hj,rfl,hrp,hB⟩:=hrel
  obtain ⟨p0,p1,p2,p3,p4,p5,p6,p7⟩:=rc8 hrp
  by_cases hlt:j < sn
  ·have hjs:j < sp.length:=by have h1:=HLN.o;omega
   obtain ⟨sao,scap,hse,hsel⟩:=HSP.o
   injection hse with f1 f2 f3
   obtain ⟨sb,soff,hsao,hsel2⟩:=hsel (by intro hh;rw [hh] at hjs;simp at hjs)
   have hsa:sa=some ⟨sb,soff,none⟩:=f1.trans hsao
   subst hsa
   have k0:=Ab hB _ _ (hsel2 j hjs)
   have hx:=HSPK.o _ (List.getElem_mem hjs)
   obtain ⟨xs,hxs⟩:=nm sp[j]
   rw [<-hxs] at k0 hx
   have hx0:=hx.1
   have hx1:=hx.2
   have hjn:(j:Int) < (sn:Int):=by omega
   have HRH:=Aa hrp
   have HBH:=Aa hB
   clear f2 f3 hsao f1 hsel hsel2 hxs hx hrp hB
   go_wp2_with fail
   refine gS (fun Wz=>Below wr.heap.size wr Wz) (Below.refl _ _).drew fun hHeld=>?_
   generalize wr.drew=W at hHeld ⊢
   refine kO 0 ?_
   refine kO 1 ?_
   refine kO 2 ?_
   refine kO 3 ?_
   refine kO 4 ?_
   refine kO 5 ?_
   refine kO 6 ?_
   refine rdA 7 rfl fun K hK=>?_
   go_simp
   refine (K25.o _ _ hx0 hx1).mono ?_
   rintro e W8 ⟨rfl,hb8⟩
   have HB8:Hx (Ov wr W8):=hHeld.trans (hb8.mono hHeld.size)
   clear hb8 hHeld
   go_simp
   refine xK hK (HB8.o) fun hHeld=>?_
   clear hK K
   refine kO 8 ?_
   refine gE ?_
   have HRW:=Aa (HRH.o.over HB8.o)
   have HBW:Hx (Ov w W8):=HBH.o.trans (HB8.o.mono HBH.o.size)
   go_wp2_with fail
   exact ⟨⟨j+1,by omega,by go_num,HRW.o,HBW.o⟩,by simp [intOf];omega⟩
  ·have hje:sn=j:=by omega
   subst hje
   have HRR:=Aa hrp
   have HBR:=Aa hB
   clear hrp hB hlt hj
   go_wp2_with fail
   refine gS (fun Wz=>Below wr.heap.size wr Wz) (Below.refl _ _).drew fun hHeld=>?_
   generalize wr.drew=W at hHeld ⊢
   refine kO 1 ?_
   refine kO 2 ?_
   refine kO 4 ?_
   refine kO 5 ?_
   refine rdA 0 rfl fun K hK=>?_
   obtain ⟨Wd,rfl⟩:=nm W
   obtain ⟨W,hW2⟩:=nm (Wd.alloc (zf #[] 39))
   have hb:Ov Wd W:=by rw [hW2];exact bA _ _
   obtain ⟨b3,hq⟩:∃ b:Nat,b=Wd.heap.size:=⟨_,rfl⟩
   have HO3:Hx (W.ownsRow b3 39 2 (O (some ⟨b3,0,none⟩) 0 0) 0 []):=by rw [hW2,hq];exact World.ownsRow_made (base:=Wd.heap.size) (e:=39) (size:=2) Wd #[] 0 (Nat.le_refl _) (by unfold maxLen;omega) rfl
   have HG3:Hx (wr.heap.size<=b3):=by rw [hq];exact hHeld.size
   have HG3L:Hx (b3<=W.heap.size):=by rw [hq];exact hb.size
   have hHeld2:Ov wr W:=Ag hHeld hb
   go_simp
   rw [<-hW2,<-hq]
   clear hW2 hq hb
   refine xK hK (hHeld2) fun hHeld=>?_
   clear hK K
   refine rdA 3 rfl fun K hK=>?_
   obtain ⟨Wd,rfl⟩:=nm W
   obtain ⟨ys5,v5,W,hrun,hLR,hown,hgr⟩:=Ip HINS.o (Ag HBR.o hHeld) HO3.o (by have h1:=HLIM.o;have h2:=HLN.o;omega) HG3L.o
   have hbx:=AG HO3.o hgr HG3L.o
   have hHeld2:Ov wr W:=hHeld.trans (hbx.mono HG3.o)
   have HG3L:Hx (b3<=W.heap.size):=Nat.le_trans HG3L.o hgr.size
   have HO5:=Aa hown
   have HL5:=Aa (hLR)
   obtain ⟨g1,g2,g3,rfl⟩:=AK hown
   refine B4 rfl _ _ _ rfl _ _ _ _ rfl rfl hrun ?_
   clear hrun hown hgr hbx hLR
   refine xK hK (hHeld2) fun hHeld=>?_
   clear hK K
   refine rdA 6 rfl fun K hK=>?_
   obtain ⟨Wd,rfl⟩:=nm W
   obtain ⟨ys6,v6,W,hrun,hLR,hown,hgr⟩:=Ip HOUTS.o (Ag HBR.o hHeld) HO5.o (by have h1:=HLIM.o;have h2:=HLN.o;omega) HG3L.o
   have hbx:=AG HO5.o hgr HG3L.o
   have hHeld2:Ov wr W:=hHeld.trans (hbx.mono HG3.o)
   have HG3L:Hx (b3<=W.heap.size):=Nat.le_trans HG3L.o hgr.size
   have HO6:=Aa hown
   have HL6:=Aa (HL5.o.app hLR)
   obtain ⟨g1,g2,g3,rfl⟩:=AK hown
   refine B4 rfl _ _ _ rfl _ _ _ _ rfl rfl hrun ?_
   clear hrun hown hgr hbx hLR
   refine xK hK (hHeld2) fun hHeld=>?_
   clear hK K
   refine kO 7 ?_
   refine gE ?_
   have HR6:=Aa (HRR.o.over hHeld)
   have HB6:Hx (Ov w W):=Ag HBR.o hHeld
   have HO3L:Hx (∀ X,Ov w X->True):=fun _ _=>trivial
   have HB3L:Hx (w.heap.size<=b3):=Nat.le_trans HBR.o.size HG3.o
   have HB3L2:Hx (w.heap.size < b3):=Nat.lt_of_lt_of_le (bL (HRR.o 0 _ rfl)) HG3.o
   clear hHeld
   obtain ⟨p0,p1,p2,p3,p4,p5,p6,p7⟩:=rc8 HR6.o
   go_wp2_with fail
   go_loopw [5,6] (fun u i wr=>∃ j:Nat,j<=vn/\i=zd U j/\Ad [zd U m,O ga gn gc,O sa sn sc,O ya yn yc,O oa on oc,O va vn vc,O fa fn fc,O ba bn bd] wr w.heap.size/\Ov w wr/\b3<=wr.heap.size/\∃ xs,wr.ownsRow b3 39 2 u (ls.length+ms.length+j) xs/\Di w (ls++ms++(vs.take j).map Prod.snd) xs) (fun _ i _=>vn - (intOf i).toNat)
   case atStart=>exact ⟨0,Nat.zero_le _,rfl,HR6.o,HB6.o,HG3L.o,_,by simpa using HO6.o,by simpa using HL6.o⟩
   case round=>
    obtain ⟨j,hj,rfl,hrp,hB,hbl3,xs,hown,hLR⟩:=hrel
    obtain ⟨p0,p1,p2,p3,p4,p5,p6,p7⟩:=rc8 hrp
    by_cases hlt:j < vn
    ·have hjv:j < vs.length:=by have h1:=HLN.o;omega
     obtain ⟨-,vao,vcap,hve,hvel⟩:=HVARS.o
     injection hve with f1 f2 f3
     obtain ⟨vb,voff,hvao,hvel2⟩:=hvel (by intro hh;rw [hh] at hjv;simp at hjv)
     have hva:va=some ⟨vb,voff,none⟩:=f1.trans hvao
     subst hva
     obtain ⟨pr,pw,-,k1,k2,hr,hw2⟩:=hvel2 j hjv
     obtain ⟨ra,rc,er,-⟩:=id hr
     obtain ⟨wa,wc,ew,-⟩:=id hw2
     subst er ew
     replace k1:=Ab hB _ _ k1
     replace k2:=Ab hB _ _ k2
     have HSG:=Aa (Di.single hr hw2)
     have HTK:Hx ((vs.take (j+1)).map Prod.snd=(vs.take j).map Prod.snd++[vs[j].2]):=by show _=_;rw [List.take_succ_eq_append_getElem hjv,List.map_append];rfl
     obtain ⟨rl,hrl⟩:=nm vs[j].2.r.length
     obtain ⟨wl,hwl⟩:=nm vs[j].2.w.length
     rw [<-hrl,<-hwl] at HSG
     rw [<-hrl] at k1
     rw [<-hwl] at k2
     have hjn:(j:Int) < (vn:Int):=by omega
     obtain ⟨na,hna⟩:=nm (ls.length+ms.length+j)
     have HNA:=Aa hna
     rw [<-hna] at hown
     have hb3:Ov wr (wr.alloc (zf #[O ra rl rc,O wa wl wc] 39)):=bA _ _
     have hown1:=Ca hown hb3
     obtain ⟨oa2,on2,oc2,rfl⟩:=AK hown
     have HN:=Aa (Ay wr [O ra rl rc,O wa wl wc] 39)
     have hBW:b3<=(wr.alloc (zf #[O ra rl rc,O wa wl wc] 39)).heap.size:=Nat.le_trans hbl3 hb3.size
     have HRA:=Aa (hrp.over hb3)
     have HBA:Hx (Ov w (wr.alloc (zf #[O ra rl rc,O wa wl wc] 39))):=hB.trans (hb3.mono hB.size)
     have HLR:=Aa hLR
     have hna2:na<=100:=by have h1:=HLIM.o;have h2:=HLN.o;omega
     clear hvel hvel2 f2 f3 hvao f1 hrl hwl hr hw2 hb3 hrp hB hown hLR hna
     go_wp2_with (at_builtin;refine wpList_append_own_at _ rfl _ _ 26 rfl b3 39 i0 (zg #[O none 0 0,O none 0 0]) 2 48 Tryz.underlying26 hi hz0 hz1 hz2 rfl (by decide) _ _ _ rfl hown1 ⟨wr.heap.size,0,none⟩ 1 1 [O ra rl rc,O wa wl wc] rfl rfl (fun jj u hu=>by rw [Addr.add_lit,Nat.zero_add];exact HN.o jj u hu) (by simp [Value.oneCell']) (by unfold maxLen;omega) (by omega) hBW ?_)
     intro v2 w2 hown2 hgr2 _ hat
     have hlow:=AG hown1 hgr2 hBW
     have hov:Ov w w2:=HBA.o.trans (hlow.mono HB3L.o)
     have hrw:Ad _ w2 w.heap.size:=fun q u hu=>(hlow.cell (by have h1:=HB3L2.o;exact h1)).trans (HRA.o q u hu)
     obtain ⟨va2,vn2,vc2,rfl⟩:=AK hown2
     have HFIN:Hx (∃ xs,w2.ownsRow b3 39 2 (O va2 vn2 vc2) (ls.length+ms.length+(j+1)) xs/\Di w (ls++ms++(vs.take (j+1)).map Prod.snd) xs):=⟨_,by rw [<-Nat.add_assoc,<-HNA.o];exact hown2,by rw [HTK.o,<-List.append_assoc];exact HLR.o.app HSG.o⟩
     have HOV:=Aa hov
     have HRW:=Aa hrw
     have HBL:Hx (b3<=w2.heap.size):=Nat.le_trans hBW hgr2.size
     clear hown1 hown2 hgr2 hat hBW hlow hov hrw
     go_wp2_with fail
     exact ⟨⟨j+1,by omega,by go_num,HRW.o,HOV.o,HBL.o,HFIN.o⟩,by simp [intOf];omega⟩
    ·have hjv:vn=j:=by omega
     subst hjv
     have hje:vn=vs.length:=HLN.o.2.2.2.2.1
     obtain ⟨N,hN⟩:=nm (ls.length+ms.length+vn)
     have hN2:N=(ls++ms++vs.map Prod.snd).length:=by simp only [List.length_append,List.length_map];omega
     rw [<-hN] at hown
     rw [hje,List.take_length] at hLR
     have hn9:N<=100:=by have h1:=HLIM.o;have h2:=HLN.o;omega
     obtain ⟨la,lc,rfl,hcell⟩:=JA hown hN2 hLR
     obtain ⟨A1,hA1⟩:=nm wr
     rw [<-hA1] at hcell hrp hB ⊢
     rw [<-hA1] at p0 p1 p2 p3 p4 p5 p6 p7
     have HCELL:=Aa hcell
     have HN:=Aa hN2
     have HRA1:=Aa hrp
     have HBA1:=Aa hB
     clear hown hLR hcell hN2 hrp hB hje hlt hj hN hA1
     go_wp2_with fail
     go_loopw [7] (fun i wr=>∃ j:Nat,j<=N/\i=zd U j/\Ad [zd U m,O ga gn gc,O sa sn sc,O ya yn yc,O oa on oc,O va vn vc,O fa fn fc,O ba bn bd] wr w.heap.size/\Ov w wr/\Ov A1 wr) (fun i _=>N - (intOf i).toNat)
     case atStart=>exact ⟨0,Nat.zero_le _,rfl,HRA1.o,HBA1.o,Below.refl _ _⟩
     case round=>
      obtain ⟨j,hj,rfl,hrp,hB,hA⟩:=hrel
      obtain ⟨p0,p1,p2,p3,p4,p5,p6,p7⟩:=rc8 hrp
      by_cases hlt:j < N
      ·have hjl:j < (ls++ms++vs.map Prod.snd).length:=by rw [<-HN.o];exact hlt
       obtain ⟨g,hla,ra,rc,wa,wc,k0,k1,hr,hw2⟩:=HCELL.o j hjl
       subst hla
       have k0:=Ab hA _ _ k0
       have k1:=Ab hA _ _ k1
       have hlb:=HLABS.o _ (List.getElem_mem hjl)
       obtain ⟨bl,hbl⟩:=nm ((ls++ms++vs.map Prod.snd)[j])
       rw [<-hbl] at k0 k1 hr hw2 hlb
       obtain ⟨rl,hrl⟩:=nm bl.r.length
       obtain ⟨wl,hwl⟩:=nm bl.w.length
       have HPR:=Aa hr
       have HPW:=Aa hw2
       have HLB:=Aa hlb
       rw [<-hrl] at k0
       rw [<-hwl] at k1
       have K94b:Hx (∀ X,Ov w X->Calls Tryz.prog 94 #[zg #[zd U m,O ga gn gc],zg #[O ra rl rc,O wa wl wc]] X fun e w'=>e=zh (zd U 0)/\Ov X w'):=fun X hX=>by rw [hrl,hwl];exact K94.o X bl ra rc wa wc hX hlb hr hw2
       have hjn:(j:Int) < (N:Int):=by omega
       have HRH:=Aa hrp
       have HBH:=Aa hB
       have HAH:=Aa hA
       clear hbl hrl hwl hr hw2 hlb hrp hB hA
       go_wp2_with fail
       refine gS (fun Wz=>Below wr.heap.size wr Wz) (Below.refl _ _).drew fun hHeld=>?_
       generalize wr.drew=W at hHeld ⊢
       refine kO 0 ?_
       refine kO 1 ?_
       refine kO 2 ?_
       refine kO 3 ?_
       refine kO 4 ?_
       refine kO 5 ?_
       refine rdA 6 rfl fun K hK=>?_
       go_simp
       refine (K94b.o _ (Ag HBH.o hHeld)).mono ?_
       rintro e W8 ⟨rfl,hb8⟩
       have HB8:Hx (Ov wr W8):=hHeld.trans (hb8.mono hHeld.size)
       clear hb8 hHeld
       go_simp
       refine xK hK (HB8.o) fun hHeld=>?_
       clear hK K
       refine kO 7 ?_
       refine gE ?_
       have HRW:=Aa (HRH.o.over HB8.o)
       have HBW:Hx (Ov w W8):=HBH.o.trans (HB8.o.mono HBH.o.size)
       have HAW:Hx (Ov A1 W8):=HAH.o.trans (HB8.o.mono HAH.o.size)
       go_wp2_with fail
       exact ⟨⟨j+1,by omega,by go_num,HRW.o,HBW.o,HAW.o⟩,by simp [intOf];omega⟩
      ·have hje:N=j:=by omega
       subst hje
       have HR4:=Aa hrp
       have HB4:=Aa hB
       clear hrp hB hA hlt hj
       go_wp2_with fail
       go_loopw [9] (fun i wr=>∃ j:Nat,j<=vn/\i=zd U j/\Ad [zd U m,O ga gn gc,O sa sn sc,O ya yn yc,O oa on oc,O va vn vc,O fa fn fc,O ba bn bd] wr w.heap.size/\Ov w wr) (fun i _=>vn - (intOf i).toNat)
       case atStart=>exact ⟨0,Nat.zero_le _,rfl,HR4.o,HB4.o⟩
       case round=>
        obtain ⟨j,hj,rfl,hrp,hB⟩:=hrel
        obtain ⟨p0,p1,p2,p3,p4,p5,p6,p7⟩:=rc8 hrp
        by_cases hlt:j < vn
        ·have hjv:j < vs.length:=by have h1:=HLN.o;omega
         obtain ⟨-,vao,vcap,hve,hvel⟩:=HVARS.o
         injection hve with f1 f2 f3
         obtain ⟨vb,voff,hvao,hvel2⟩:=hvel (by intro hh;rw [hh] at hjv;simp at hjv)
         have hva:va=some ⟨vb,voff,none⟩:=f1.trans hvao
         subst hva
         obtain ⟨pr,pw,k0,k1,k2,hr,hw2⟩:=hvel2 j hjv
         obtain ⟨ra,rc,er,-⟩:=id hr
         obtain ⟨wa,wc,ew,-⟩:=id hw2
         subst er ew
         obtain ⟨k0,k1,k2⟩:=co3 hB k0 k1 k2
         replace k0:wr.cell? ⟨vb,voff+j*3,none⟩=_:=k0
         have hnk:=HNK.o vs[j] (List.getElem_mem hjv)
         obtain ⟨kb,hkb⟩:=nm vs[j].1
         obtain ⟨rl,hrl⟩:=nm vs[j].2.r.length
         obtain ⟨wl,hwl⟩:=nm vs[j].2.w.length
         rw [<-hkb] at k0 hnk
         rw [<-hrl] at k1
         rw [<-hwl] at k2
         have hjn:(j:Int) < (vn:Int):=by omega
         have hb1:Ov wr (wr.alloc (zf #[ze kb,O ra rl rc,O wa wl wc] 41)):=bA _ _
         have HRA:=Aa (hrp.over hb1)
         have HBA:Hx (Ov w (wr.alloc (zf #[ze kb,O ra rl rc,O wa wl wc] 41))):=hB.trans (hb1.mono hB.size)
         have hz:kb=false->rl=0/\wl=0:=fun e=>by obtain ⟨h1,h2⟩:=hnk e;rw [hrl,hwl,h1,h2];exact ⟨rfl,rfl⟩
         clear hvel hvel2 f2 f3 hvao f1 hnk hkb hrl hwl hr hw2 hb1 hrp hB
         cases kb with
         | true=>
          clear hz
          go_wp2_with fail
          exact ⟨⟨j+1,by omega,by go_num,HRA.o,HBA.o⟩,by simp [intOf];omega⟩
         | false=>
          obtain ⟨hz1,hz2⟩:=hz rfl
          subst hz1 hz2
          go_wp2_with fail
          exact ⟨⟨j+1,by omega,by go_num,HRA.o,HBA.o⟩,by simp [intOf];omega⟩
        ·have hje:vn=j:=by omega
         subst hje
         have HRR:=Aa hrp
         have HWR:=Aa hB
         clear hrp hB hlt hj
         go_wp2_with fail
         have hq:=K95.o _ HWR.o (O ba bn bd) l HMAIN.o HDP.o.2 (by have h1:=HMANY.o;omega)
         refine hq.mono ?_
         rintro e W5 ⟨rfl,hb5⟩
         have HR5:=Aa (HRR.o.over hb5)
         have HB5:Hx (Ov w W5):=HWR.o.trans (hb5.mono HWR.o.size)
         obtain ⟨p0,p1,p2,p3,p4,p5,p6,p7⟩:=rc8 HR5.o
         clear hb5 hq
         go_wp2_with fail
         go_loopw [11,12] (fun n i wr=>∃ j:Nat,j<=fn/\i=zd U j/\n=zd U ((Aj kf l+An kf (fs.take j):Nat):Int)/\Ad [zd U m,O ga gn gc,O sa sn sc,O ya yn yc,O oa on oc,O va vn vc,O fa fn fc,O ba bn bd] wr w.heap.size/\Ov w wr) (fun _ i _=>fn - (intOf i).toNat)
         case atStart=>exact ⟨0,Nat.zero_le _,rfl,by simp [An],HR5.o,HB5.o⟩
         case round=>
          obtain ⟨j,hj,rfl,rfl,hrp,hB⟩:=hrel
          obtain ⟨p0,p1,p2,p3,p4,p5,p6,p7⟩:=rc8 hrp
          by_cases hlt:j < fn
          ·have hjf:j < fs.length:=by have h1:=HLN.o;omega
           obtain ⟨-,fao,fcap,hfe,hfel⟩:=HFN.o
           injection hfe with f1 f2 f3
           obtain ⟨fb,foff,hfao,hfel2⟩:=hfel (by intro hh;rw [hh] at hjf;simp at hjf)
           have hfa:fa=some ⟨fb,foff,none⟩:=f1.trans hfao
           subst hfa
           obtain ⟨vP,vB,xx0,xx1,xx2,-,k1,-,-,-,-,-,hBs,-⟩:=hfel2 j hjf
           obtain ⟨bba,bbc,hvB,-⟩:=id hBs.2
           subst hvB
           replace k1:=Ab hB _ _ k1
           have hct:=B9 (k:=kf) hjf
           have hle:=(E3 (k:=kf) hjf).2
           have hm50:=HMANY.o
           obtain ⟨bbn,hbbn⟩:=nm fs[j].body.length
           obtain ⟨t1,ht1⟩:=nm (Aj kf fs[j].body)
           obtain ⟨t0,ht0⟩:=nm (Aj kf l+An kf (fs.take j))
           rw [<-hbbn] at k1 hBs
           have KM:Hx (∀ X,Ov w X->Calls Tryz.prog 95 #[O bba bbn bbc,zd U 1] X fun e w'=>e=zh (zd U (t1:Nat))/\Ov X w'):=fun X hX=>by
            rw [ht1]
            exact K95.o X hX _ _ hBs (HDP.o.1 _ (List.getElem_mem hjf)) (by omega)
           have HCT:Hx (Aj kf l+An kf (fs.take (j+1))=t0+t1/\t0+t1<=50):=⟨by rw [ht0,ht1,hct];omega,by rw [ht0,ht1];omega⟩
           have hb50:t0<=50:=by have h1:=HCT.o.2;omega
           have hb51:t1<=50:=by have h1:=HCT.o.2;omega
           have hjn:(j:Int) < (fn:Int):=by omega
           have HRP:=Aa hrp
           have HBB:=Aa hB
           rw [<-ht0]
           clear hfel hfel2 f2 f3 hfao f1 hct hle hm50 hbbn ht1 ht0 hBs hrp hB
           go_wp2_with fail
           refine (KM.o _ HBB.o).mono ?_
           rintro e WM ⟨rfl,hbM⟩
           have HRM:=Aa (HRP.o.over hbM)
           have HBM:Hx (Ov w WM):=HBB.o.trans (hbM.mono HBB.o.size)
           clear hbM
           go_wp2_with fail
           exact ⟨⟨j+1,by omega,by go_num,by rw [HCT.o.1];go_num,HRM.o,HBM.o⟩,by simp [intOf];omega⟩
          ·have hjf:fn=j:=by omega
           subst hjf
           have hje:fn=fs.length:=HLN.o.2.2.2.2.2.1
           rw [hje,List.take_length]
           have hm50:=HMANY.o
           obtain ⟨t0,ht0⟩:=nm (Aj kf l+An kf fs)
           have g50:decide ((50:Int) < (t0:Int))=false:=by rw [ht0];simp;omega
           rw [<-ht0]
           have hfl:fs.length=fn:=HLN.o.2.2.2.2.2.1.symm
           rw [hfl]
           have HRS:=Aa hrp
           have HBS:=Aa hB
           clear ht0 hm50 hrp hB hje hlt hj hfl
           go_wp2_with fail
           go_loopw [13] (fun i wr=>∃ j:Nat,j<=fn/\i=zd U j/\Ad [zd U m,O ga gn gc,O sa sn sc,O ya yn yc,O oa on oc,O va vn vc,O fa fn fc,O ba bn bd] wr w.heap.size/\Ov w wr) (fun i _=>fn - (intOf i).toNat)
           case atStart=>exact ⟨0,Nat.zero_le _,rfl,HRS.o,HBS.o⟩
           case round=>
            obtain ⟨j,hj,rfl,hrp,hB⟩:=hrel
            by_cases hlt:j < fn
            ·obtain ⟨p0,p1,p2,p3,p4,p5,p6,p7⟩:=rc8 hrp
             have hjf:j < fs.length:=by have h1:=HLN.o;omega
             obtain ⟨-,fao,fcap,hfe,hfel⟩:=HFN.o
             injection hfe with f1 f2 f3
             obtain ⟨fb,foff,hfao,hfel2⟩:=hfel (by intro hh;rw [hh] at hjf;simp at hjf)
             have hfa:fa=some ⟨fb,foff,none⟩:=f1.trans hfao
             subst hfa
             obtain ⟨vP,vB,xx0,xx1,xx2,k0,k1,k2,k3,k4,hPs,-,hBs,hRx⟩:=hfel2 j hjf
             obtain ⟨pa,pc,hvP,hpel⟩:=hPs
             obtain ⟨bba,bbc,hvB,-⟩:=id hBs.2
             obtain ⟨rxa,rxc,hrx⟩:=hRx.form
             simp only [List.cons.injEq,and_true] at hrx
             obtain ⟨rfl,rfl,rfl⟩:=hrx
             subst hvP hvB
             obtain ⟨k0,k1,k2,k3,k4⟩:=co5 hB k0 k1 k2 k3 k4
             replace k0:wr.cell? ⟨fb,foff+j*5,none⟩=_:=k0
             have hxf:=HXB.o j hjf
             obtain ⟨ps,hps⟩:=nm fs[j].ps
             obtain ⟨fbody,hbd⟩:=nm fs[j].body
             obtain ⟨fres,hrs⟩:=nm fs[j].res
             rw [<-hps] at k0 hpel
             rw [<-hbd] at k1 hBs
             rw [<-hrs] at k2 k3 k4 hRx
             obtain ⟨pn,hpn⟩:=nm ps.length
             obtain ⟨bbn,hbbn⟩:=nm fbody.length
             obtain ⟨rk,hrk⟩:=nm (Ap fres)
             obtain ⟨rn,hrn⟩:=nm (AA fres)
             obtain ⟨rl,hrl⟩:=nm (Ar fres).length
             rw [<-hpn] at k0
             rw [<-hbbn] at k1 hBs
             rw [<-hrk] at k2 hRx
             rw [<-hrn] at k3 hRx
             rw [<-hrl] at k4 hRx
             have HXF:Hx (pn<=4/\(∀ p∈ps,0<=p/\p < vn)/\(∀ i (h:i < ps.length),ps[i] ∉ ps.take i)/\(∀ s∈fbody,Ey.xS K vn yn on (j:Int) fs kf s)/\Am vn K fres=0):=by
              rw [hpn,hps,hbd,hrs];exact hxf
             have hp4:pn<=4:=HXF.o.1
             have gp4:decide ((4:Int) < (pn:Int))=false:=by simp;omega
             have hb1:Ov wr (wr.alloc (zf #[O pa pn pc,O bba bbn bbc,zd U rk,zd U rn,O rxa rl rxc] 105)):=bA _ _
             obtain ⟨X1,hX1⟩:=nm (wr.alloc (zf #[O pa pn pc,O bba bbn bbc,zd U rk,zd U rn,O rxa rl rxc] 105))
             have hf1:Ad [O pa pn pc,O bba bbn bbc,zd U rk,zd U rn,O rxa rl rxc] X1 wr.heap.size:=by rw [hX1];exact Ay wr [O pa pn pc,O bba bbn bbc,zd U rk,zd U rn,O rxa rl rxc] 105
             rw [<-hX1] at hb1
             have HBX:Hx (Ov w X1):=hB.trans (hb1.mono hB.size)
             have HRX:=Aa (hrp.over hb1)
             have HF1:=Aa hf1
             have HBODY:=Aa hBs
             have HRES:=Aa hRx
             have HPS0:=Aa hpel
             have HPN:=Aa hpn
             have hjn:(j:Int) < (fn:Int):=by omega
             clear hfel hfel2 f2 f3 hfao f1 hxf hps hbd hrs hbbn hrk hrn hrl hb1 hf1 hrp hB hBs hRx hpel hpn
             go_wp2_with fail
             rw [<-hX1]
             clear hX1 k0 k1 k2 k3 k4
             go_loopw [15] (fun ik wz=>∃ qk:Nat,qk<=pn/\ik=zd U qk/\Ov X1 wz) (fun ik _=>pn - (intOf ik).toNat)
             case atStart=>exact ⟨0,Nat.zero_le _,rfl,Below.refl _ _⟩
             case round=>
              obtain ⟨qk,hqk,rfl,hBq⟩:=hrel
              obtain ⟨f0,f1,f2,f3,f4⟩:=rc5 (HF1.o.over hBq)
              obtain ⟨p0,p1,p2,p3,p4,p5,p6,p7⟩:=rc8 (HRX.o.over hBq)
              by_cases hql:qk < pn
              ·have hqkl:qk < ps.length:=by rw [<-HPN.o];exact hql
               obtain ⟨pb,poff,hpa,hpc⟩:=HPS0.o (by rintro rfl;simp at hqkl)
               subst hpa
               have HPS:Hx (∀ i (h:i < ps.length),X1.cell? ⟨pb,poff+i,none⟩=some (zd U ps[i])):=fun i h=>Ab HBX.o _ _ (hpc i h)
               have x1:=Ab hBq _ _ (HPS.o qk hqkl)
               have hr:=HXF.o.2.1 ps[qk] (List.getElem_mem hqkl)
               have BP:Hx (∀ W,Calls Tryz.prog 76 #[zd U ps[qk],zd U 0,zd U v1] W fun e w'=>e=zh (ze true)/\w'=W):=btw (by rw [decide_eq_true_iff];have h1:=HV1.o;omega)
               obtain ⟨xq,hxq⟩:=nm (ps[qk])
               rw [<-hxq] at x1 BP
               have hqi:(qk:Int) < (pn:Int):=by omega
               clear hpc hr hxq
               go_wp2_with fail
               refine gS (fun Wz=>Below wr.heap.size wr Wz) (Below.refl _ _).drew fun hHeld=>?_
               generalize wr.drew=W at hHeld ⊢
               refine kO 0 ?_
               refine kO 1 ?_
               refine kO 2 ?_
               refine kO 3 ?_
               refine kO 4 ?_
               refine kO 5 ?_
               refine kO 6 ?_
               refine kO 7 ?_
               refine kO 8 ?_
               refine rdA 9 rfl fun K hK=>?_
               go_simp
               refine (BP.o _).mono ?_
               rintro e w' ⟨rfl,rfl⟩
               go_simp
               refine xK hK (hHeld) fun hHeld=>?_
               clear hK K
               refine kO 10 ?_
               refine gE ?_
               have HB44:Hx (Ov X1 w'):=Ag hBq hHeld
               clear hHeld hBq
               go_wp2_with fail
               go_loopw [16] (fun im wz=>∃ qm:Nat,qm<=qk/\im=zd U qm/\Ov X1 wz) (fun im _=>qk - (intOf im).toNat)
               case atStart=>exact ⟨0,Nat.zero_le _,rfl,HB44.o⟩
               case round=>
                obtain ⟨qm,hqm,rfl,hBm⟩:=hrel
                obtain ⟨f0,f1,f2,f3,f4⟩:=rc5 (HF1.o.over hBm)
                by_cases hmk:qm < qk
                ·have y1:=Ab hBm _ _ (HPS.o qk hqkl)
                 have y2:=Ab hBm _ _ (HPS.o qm (by omega))
                 have hne:ps[qm]'(by omega)≠ps[qk]:=fun e=>HXF.o.2.2.1 qk hqkl (by rw [<-e];exact List.mem_take_iff_getElem.2 ⟨qm,by omega,rfl⟩)
                 obtain ⟨z1,hz1⟩:=nm (ps[qk])
                 obtain ⟨z2,hz2⟩:=nm (ps[qm]'(by omega))
                 rw [<-hz1] at y1 hne
                 rw [<-hz2] at y2 hne
                 have hzb:(z2 == z1)=false:=by simpa using hne
                 have hqi:(qm:Int) < (qk:Int):=by omega
                 have hqi2:(qm:Int) < (pn:Int):=by omega
                 have hqi3:(qk:Int) < (pn:Int):=by omega
                 clear hz1 hz2 hne
                 go_wp2_with fail
                 refine gS (fun Wz=>Below wr.heap.size wr Wz) (Below.refl _ _).drew fun hHeld=>?_
                 generalize wr.drew=W at hHeld ⊢
                 refine kO 0 ?_
                 refine kO 1 ?_
                 refine kO 2 ?_
                 refine kO 3 ?_
                 refine kO 4 ?_
                 refine kO 5 ?_
                 refine kO 6 ?_
                 refine kO 7 ?_
                 refine kO 8 ?_
                 refine kO 9 ?_
                 refine kO 10 ?_
                 refine gE ?_
                 go_wp2_with fail
                 exact ⟨⟨qm+1,by omega,by go_num,Ag hBm hHeld⟩,by simp [intOf];omega⟩
                ·have hme:qm=qk:=by omega
                 subst hme
                 have HBM:=Aa hBm
                 clear hBm
                 go_wp2_with fail
                 exact ⟨⟨qm+1,by omega,by go_num,HBM.o⟩,by simp [intOf];omega⟩
              ·have hqe:pn=qk:=by omega
               subst hqe
               have HBQ:=Aa hBq
               have HWQ:Hx (Ov w wr):=HBX.o.trans (hBq.mono HBX.o.size)
               clear hBq hql
               go_wp2_with fail
               refine (K96.o _ HWQ.o (j:Int) (by omega) (by omega) (O bba bbn bbc) fbody HBODY.o HXF.o.2.2.2.1).mono ?_
               rintro e WT ⟨rfl,hbT⟩
               have HBT:Hx (Ov X1 WT):=HBQ.o.trans (hbT.mono HBQ.o.size)
               have HWT:Hx (Ov w WT):=HBX.o.trans (HBT.o.mono HBX.o.size)
               obtain ⟨f0,f1,f2,f3,f4⟩:=rc5 (HF1.o.over HBT.o)
               obtain ⟨p0,p1,p2,p3,p4,p5,p6,p7⟩:=rc8 (HRX.o.over HBT.o)
               have KX:Hx (Calls Tryz.prog 97 #[zg #[zd U rk,zd U rn,O rxa rl rxc],zd U (vn:Int)] WT fun e w'=>e=zh (zd U 0)/\Ov WT w'):=by
                have h1:=Br K [zd U rk,zd U rn,O rxa rl rxc] fres WT (vn:Int) (by omega) (by have h2:=HLIM.o;omega) (RX.over HRES.o HWT.o)
                rw [HXF.o.2.2.2.2] at h1
                exact h1
               clear hbT
               go_wp2_with fail
               refine KX.o.mono ?_
               rintro e WE ⟨rfl,hbE⟩
               have HBE:Hx (Ov X1 WE):=HBT.o.trans (hbE.mono HBT.o.size)
               have HWE:Hx (Ov w WE):=HBX.o.trans (HBE.o.mono HBX.o.size)
               have HRE:=Aa (HRX.o.over HBE.o)
               clear hbE
               go_wp2_with fail
               exact ⟨⟨j+1,by omega,by go_num,HRE.o,HWE.o⟩,by simp [intOf];omega⟩
            ·have hje:fn=j:=by omega
             subst hje
             clear hlt hj
             obtain ⟨p0,p1,p2,p3,p4,p5,p6,p7⟩:=rc8 hrp
             have HBF:=Aa hB
             clear hrp hB
             go_wp2_with fail
             refine (K96.o _ HBF.o (fn:Int) (by have h1:=HLN.o;omega) (by have h1:=HLN.o;have h2:=HLIM.o;omega) (O ba bn bd) l HMAIN.o (by have h1:=HLN.o.2.2.2.2.2.1;rw [h1];exact HXM.o)).mono ?_
             rintro e W9 ⟨rfl,hb9⟩
             have HB9:Hx (Ov w W9):=HBF.o.trans (hb9.mono HBF.o.size)
             clear hb9
             go_wp2_with fail
             go_ret
             exact ⟨rfl,HB9.o⟩
end Go.Proofs.YtfffpjkcfnekaaaGreat.Ex
