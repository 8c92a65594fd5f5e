/- Checks of commands, whatever they are. -/
import Derived.Test.YtfffpjkcfnekaaaGreatG08
import Derived.Test.YtfffpjkcfnekaaaGreatG09
import Derived.Test.YtfffpjkcfnekaaaGreatG10
import Derived.Test.YtfffpjkcfnekaaaGreatG06
set_option linter.unusedVariables false
set_option maxHeartbeats 8000000
set_option maxRecDepth 100000
namespace Go.Proofs.YtfffpjkcfnekaaaGreat.Ex.Ey
open Go.RowKit
open Go.Value renaming slice -> O, int -> zd, bool -> ze, agg -> zg, pointer -> zi, tuple -> zj
open Go.IntKind renaming i64 -> U
open Go.Obj renaming cells -> zf
open Go.Ending renaming returned -> zh
def zerS (d:D):Prop:=
 ((Ad d=4\/Ad d=7\/Ad d=8)->Aq d=0)/\((Ad d=1\/Ad d=5\/Ad d=6\/Ad d=7\/Ad d=8)->Ac d=0)/\((Ad d=2\/Ad d=3)->AG (Ao d)=0)/\(Ad d≠2->Ak d=[])/\((Ad d≠7/\Ad d≠8)->Ae d=[])/\(Ad d≠7->Aj d=[])
def xS1 (K:Nat) (nv ni no:Nat) (funcs:Int) (fs:List FnD) (d:D):Prop:=Dh K nv ni no funcs fs d/\zerS d
def xS (K:Nat) (nv ni no:Nat) (funcs:Int) (fs:List FnD):Nat->D->Prop
 | 0,_=>False
 | k+1,d=>xS1 K nv ni no funcs fs d/\(∀ s∈Ae d,xS K nv ni no funcs fs k s)/\∀ s∈Aj d,xS K nv ni no funcs fs k s
theorem xS.ok {K nv ni no:Nat} {funcs:Int} {fs:List FnD}:∀ {k:Nat} {d:D},xS K nv ni no funcs fs k d->okS K nv ni no funcs fs k d
 | 0,_,h=>h
 | k+1,d,h=>⟨h.1.1,fun s hs=>xS.ok (h.2.1 s hs),fun s hs=>xS.ok (h.2.2 s hs)⟩
theorem len0 {α:Type} {l:List α}:l.length=0 ↔ l=[]:=List.length_eq_zero_iff
theorem Ed (kd:Int) (hk:¬ (1<=kd/\kd<=8)) (funcs:Int) (m:Int) (ga gn gc sa sn sc ya yn yc oa on oc va vn vc fa fn fc ba bn bc) (vr ot ek en:Int) (xa xl xc aa al ac ta tl tc ea el ec) (w:World) :
  Calls Tryz.prog 220 #[zg #[zd U m,O ga gn gc,O sa sn sc,O ya yn yc,O oa on oc,O va vn vc,O fa fn fc,O ba bn bc],zg #[zd U kd,zd U vr,zd U ot,zd U ek,zd U en,O xa xl xc,O aa al ac,O ta tl tc,O ea el ec],zd U funcs] w (Bw False w):=by
 have K1:=Aa (DX kd hk)
 have K2:=Aa AH
 have hbel:Ov w ((w.alloc (zf #[zd U m,O ga gn gc,O sa sn sc,O ya yn yc,O oa on oc,O va vn vc,O fa fn fc,O ba bn bc] 184)).alloc (zf #[zd U kd,zd U vr,zd U ot,zd U ek,zd U en,O xa xl xc,O aa al ac,O ta tl tc,O ea el ec] 130)):=(bA w _).alloc (by simp) _
 clear hk
 go_enter Tryz.func220,Tryz.ntmps220
 go_wp2_with fail
 refine (K1.o _).mono ?_
 rintro e w1 ⟨rfl,hb1⟩
 have hB1:=hbel.trans (hb1.mono hbel.size)
 have hB2:=hB1.trans ((bA w1 (zf #[ze false,ze false,ze false,ze false,ze false,ze false] 288)).mono hB1.size)
 clear hb1 hbel
 go_wp2_with fail
 refine (K2.o _ _ _).mono ?_
 rintro e wz ⟨he,rfl⟩
 have he2:e=Ah 7:=by
  rcases he with ⟨he,_⟩ | ⟨_,he⟩
  ·cases he
  ·exact he
 subst he2
 clear he
 unfold Ah
 go_wp2_with fail
 exact ⟨rfl,Or.inr ⟨fun h=>h,7,by decide,rfl⟩,hB2⟩
theorem Dl (K k kf:Nat) (fs) (funcs:Int) (m:Int) (ga gn gc sa sn sc) (ya:Option Addr) (yn yc:Nat) (oa:Option Addr) (on oc:Nat) (va:Option Addr) (vn vc:Nat) (fa fn fc ba bn bc) (cs:List Value) (d) (w:World) (hv:vn<=9223372036854775807) (h0f:0<=funcs) (h1f:funcs<=9223372036854775807) (hyl:yn<=9223372036854775807) (hol:on<=9223372036854775807)
  (hs:RS w K (k+1) cs d) (hfs:AP w K kf (O fa fn fc) fs) (hff:funcs<=fs.length) :
  Calls Tryz.prog 220 #[zg #[zd U m,O ga gn gc,O sa sn sc,O ya yn yc,O oa on oc,O va vn vc,O fa fn fc,O ba bn bc],.agg cs.toArray,zd U funcs] w (Bw (xS1 K vn yn on funcs fs d) w):=by
 obtain ⟨ek,en,xa,xl,xc,aa,ac,ta,tc,ea,ec,rfl,i0,i1,i2,hde,hda,-,-,hek,hen,hxl⟩:=hs.form
 unfold xS1 Dh zerS
 by_cases hk:1<=Ad d/\Ad d<=8
 ·rcases (by omega:Ad d=1\/Ad d=2\/Ad d=3\/Ad d=4\/Ad d=5\/Ad d=6\/Ad d=7\/Ad d=8) with h | h | h | h | h | h | h | h
  ·have H:=GA K kf fs (Ao d) (Ak d) funcs m ga gn gc sa sn sc ya yn yc oa on oc va vn vc fa fn fc ba bn bc (Aq d) (Ac d) ek en xa xl xc aa (Ak d).length ac ta (Ae d).length tc ea (Aj d).length ec w hv i1 i2 h0f h1f hyl hol hde hda hfs hff
   have e:(sC (Ad d) (Aq d) (Ac d) ek en xa xl xc aa (Ak d).length ac ta (Ae d).length tc ea (Aj d).length ec).toArray=#[zd U 1,zd U (Aq d),zd U (Ac d),zd U ek,zd U en,O xa xl xc,O aa (Ak d).length ac,O ta (Ae d).length tc,O ea (Aj d).length ec]:=by rw [h]
   rw [e]
   exact H.mono fun e w' hg=>hg.imp (by simp only [len0,h];first | (constructor <;> (intro hp;simp at hp ⊢;simp_all)) | skip)
  ·have H:=Gz K kf fs (Ao d) (Ak d) funcs m ga gn gc sa sn sc ya yn yc oa on oc va vn vc fa fn fc ba bn bc (Aq d) (Ac d) ek en xa xl xc aa (Ak d).length ac ta (Ae d).length tc ea (Aj d).length ec w hv i1 i2 h0f h1f hyl hol hde hda hfs hff
   have e:(sC (Ad d) (Aq d) (Ac d) ek en xa xl xc aa (Ak d).length ac ta (Ae d).length tc ea (Aj d).length ec).toArray=#[zd U 2,zd U (Aq d),zd U (Ac d),zd U ek,zd U en,O xa xl xc,O aa (Ak d).length ac,O ta (Ae d).length tc,O ea (Aj d).length ec]:=by rw [h]
   rw [e]
   exact H.mono fun e w' hg=>hg.imp (by simp only [len0,hek,hen,hxl,h];first | (constructor <;> (intro hp;simp at hp ⊢;simp_all)) | skip)
  ·have H:=Gy K kf fs (Ao d) (Ak d) funcs m ga gn gc sa sn sc ya yn yc oa on oc va vn vc fa fn fc ba bn bc (Aq d) (Ac d) ek en xa xl xc aa (Ak d).length ac ta (Ae d).length tc ea (Aj d).length ec w hv i1 i2 h0f h1f hyl hol hde hda hfs hff
   have e:(sC (Ad d) (Aq d) (Ac d) ek en xa xl xc aa (Ak d).length ac ta (Ae d).length tc ea (Aj d).length ec).toArray=#[zd U 3,zd U (Aq d),zd U (Ac d),zd U ek,zd U en,O xa xl xc,O aa (Ak d).length ac,O ta (Ae d).length tc,O ea (Aj d).length ec]:=by rw [h]
   rw [e]
   exact H.mono fun e w' hg=>hg.imp (by simp only [len0,hek,hen,hxl,h];first | (constructor <;> (intro hp;simp at hp ⊢;simp_all)) | skip)
  ·have H:=Gx K kf fs (Ao d) (Ak d) funcs m ga gn gc sa sn sc ya yn yc oa on oc va vn vc fa fn fc ba bn bc (Aq d) (Ac d) ek en xa xl xc aa (Ak d).length ac ta (Ae d).length tc ea (Aj d).length ec w hv i1 i2 h0f h1f hyl hol hde hda hfs hff
   have e:(sC (Ad d) (Aq d) (Ac d) ek en xa xl xc aa (Ak d).length ac ta (Ae d).length tc ea (Aj d).length ec).toArray=#[zd U 4,zd U (Aq d),zd U (Ac d),zd U ek,zd U en,O xa xl xc,O aa (Ak d).length ac,O ta (Ae d).length tc,O ea (Aj d).length ec]:=by rw [h]
   rw [e]
   exact H.mono fun e w' hg=>hg.imp (by simp only [len0,h];first | (constructor <;> (intro hp;simp at hp ⊢;simp_all)) | skip)
  ·have H:=Gw K kf fs (Ao d) (Ak d) funcs m ga gn gc sa sn sc ya yn yc oa on oc va vn vc fa fn fc ba bn bc (Aq d) (Ac d) ek en xa xl xc aa (Ak d).length ac ta (Ae d).length tc ea (Aj d).length ec w hv i1 i2 h0f h1f hyl hol hde hda hfs hff
   have e:(sC (Ad d) (Aq d) (Ac d) ek en xa xl xc aa (Ak d).length ac ta (Ae d).length tc ea (Aj d).length ec).toArray=#[zd U 5,zd U (Aq d),zd U (Ac d),zd U ek,zd U en,O xa xl xc,O aa (Ak d).length ac,O ta (Ae d).length tc,O ea (Aj d).length ec]:=by rw [h]
   rw [e]
   exact H.mono fun e w' hg=>hg.imp (by simp only [len0,h];first | (constructor <;> (intro hp;simp at hp ⊢;simp_all)) | skip)
  ·have H:=Gv K kf fs (Ao d) (Ak d) funcs m ga gn gc sa sn sc ya yn yc oa on oc va vn vc fa fn fc ba bn bc (Aq d) (Ac d) ek en xa xl xc aa (Ak d).length ac ta (Ae d).length tc ea (Aj d).length ec w hv i1 i2 h0f h1f hyl hol hde hda hfs hff
   have e:(sC (Ad d) (Aq d) (Ac d) ek en xa xl xc aa (Ak d).length ac ta (Ae d).length tc ea (Aj d).length ec).toArray=#[zd U 6,zd U (Aq d),zd U (Ac d),zd U ek,zd U en,O xa xl xc,O aa (Ak d).length ac,O ta (Ae d).length tc,O ea (Aj d).length ec]:=by rw [h]
   rw [e]
   exact H.mono fun e w' hg=>hg.imp (by simp only [len0,h];first | (constructor <;> (intro hp;simp at hp ⊢;simp_all)) | skip)
  ·have H:=Gu K kf fs (Ao d) (Ak d) funcs m ga gn gc sa sn sc ya yn yc oa on oc va vn vc fa fn fc ba bn bc (Aq d) (Ac d) ek en xa xl xc aa (Ak d).length ac ta (Ae d).length tc ea (Aj d).length ec w hv i1 i2 h0f h1f hyl hol hde hda hfs hff
   have e:(sC (Ad d) (Aq d) (Ac d) ek en xa xl xc aa (Ak d).length ac ta (Ae d).length tc ea (Aj d).length ec).toArray=#[zd U 7,zd U (Aq d),zd U (Ac d),zd U ek,zd U en,O xa xl xc,O aa (Ak d).length ac,O ta (Ae d).length tc,O ea (Aj d).length ec]:=by rw [h]
   rw [e]
   exact H.mono fun e w' hg=>hg.imp (by simp only [len0,h];first | (constructor <;> (intro hp;simp at hp ⊢;simp_all)) | skip)
  ·have H:=Gt K kf fs (Ao d) (Ak d) funcs m ga gn gc sa sn sc ya yn yc oa on oc va vn vc fa fn fc ba bn bc (Aq d) (Ac d) ek en xa xl xc aa (Ak d).length ac ta (Ae d).length tc ea (Aj d).length ec w hv i1 i2 h0f h1f hyl hol hde hda hfs hff
   have e:(sC (Ad d) (Aq d) (Ac d) ek en xa xl xc aa (Ak d).length ac ta (Ae d).length tc ea (Aj d).length ec).toArray=#[zd U 8,zd U (Aq d),zd U (Ac d),zd U ek,zd U en,O xa xl xc,O aa (Ak d).length ac,O ta (Ae d).length tc,O ea (Aj d).length ec]:=by rw [h]
   rw [e]
   exact H.mono fun e w' hg=>hg.imp (by simp only [len0,h];first | (constructor <;> (intro hp;simp at hp ⊢;simp_all)) | skip)
 ·exact (Ed (Ad d) hk funcs m ga gn gc sa sn sc ya yn yc oa on oc va vn vc fa fn fc ba bn bc (Aq d) (Ac d) ek en xa xl xc aa (Ak d).length ac ta (Ae d).length tc ea (Aj d).length ec w).mono fun e w' hg=>hg.imp ⟨fun hp=>hp.elim,fun hp=>hk hp.1.1⟩
theorem Ch (K kf:Nat) (fs:List FnD) (funcs:Int) (m:Int) (ga gn gc sa sn sc) (ya:Option Addr) (yn yc:Nat) (oa:Option Addr) (on oc:Nat) (va:Option Addr) (vn vc:Nat) (fa fn fc) (ba bn bc) (hv:vn<=9223372036854775807) (h0f:0<=funcs) (h1f:funcs<=9223372036854775807) (hyl:yn<=9223372036854775807) (hol:on<=9223372036854775807) (hff:funcs<=fs.length):∀ (k:Nat) (v:Value) (l:List D) (w:World),AC w K k v l->AP w K kf (O fa fn fc) fs ->
  Calls Tryz.prog 177 #[zg #[zd U m,O ga gn gc,O sa sn sc,O ya yn yc,O oa on oc,O va vn vc,O fa fn fc,O ba bn bc],v,zd U funcs] w (Bw (∀ s∈l,xS K vn yn on funcs fs k s) w):=by
 intro k
 induction k with
 | zero=>
  intro v l w h hf
  obtain rfl:=h.zero
  obtain ⟨-,ao,cap,rfl,-⟩:=h
  have hbel:Ov w (w.alloc (zf #[zd U m,O ga gn gc,O sa sn sc,O ya yn yc,O oa on oc,O va vn vc,O fa fn fc,O ba bn bc] 184)):=bA w _
  show Calls Tryz.prog 177 #[zg #[zd U m,O ga gn gc,O sa sn sc,O ya yn yc,O oa on oc,O va vn vc,O fa fn fc,O ba bn bc],O ao 0 cap,zd U funcs] w _
  clear hf
  go_enter Tryz.func177,Tryz.ntmps177
  go_wp2_with fail
  go_loopw [10] (fun i wr=>i=zd U 0/\Ov w wr) (fun _ _=>0)
  case atStart=>exact ⟨rfl,hbel⟩
  case round=>
   obtain ⟨rfl,hB⟩:=hrel
   go_wp2_with fail
   go_end0
   exact ⟨Or.inl ⟨by simp,rfl⟩,hB⟩
 | succ k ih=>
  intro v l w h hf
  have hlen:l.length<=9223372036854775807:=h.1
  obtain ⟨ao,cap,rfl,hc⟩:=h.2
  have HC:=Aa hc
  have HF:=Aa hf
  have IH:=Aa ih
  have KS:=Aa fun cs d W (hs:RS W K (k+1) cs d) (hfs:AP W K (max kf (k+1)) (O fa fn fc) fs)=>Dl K k (max kf (k+1)) fs funcs m ga gn gc sa sn sc ya yn yc oa on oc va vn vc fa fn fc ba bn bc cs d W hv h0f h1f hyl hol hs hfs hff
  clear hc ih h hf
  have hbel:Ov w (w.alloc (zf #[zd U m,O ga gn gc,O sa sn sc,O ya yn yc,O oa on oc,O va vn vc,O fa fn fc,O ba bn bc] 184)):=bA w _
  obtain ⟨c0,c1,c2,c3,c4,c5,c6,c7⟩:=rc8 (Az w [zd U m,O ga gn gc,O sa sn sc,O ya yn yc,O oa on oc,O va vn vc,O fa fn fc,O ba bn bc] 184)
  go_enter Tryz.func177,Tryz.ntmps177
  go_wp2_with fail
  go_loopw [10] (fun i wr=>∃ j:Nat,j<=l.length/\i=zd U j/\(∀ s∈l.take j,xS K vn yn on funcs fs (k+1) s)/\(wr.cell? ⟨w.heap.size,0,none⟩=some (zd U m)/\wr.cell? ⟨w.heap.size,1,none⟩=some (O ga gn gc)/\wr.cell? ⟨w.heap.size,2,none⟩=some (O sa sn sc)/\wr.cell? ⟨w.heap.size,3,none⟩=some (O ya yn yc)/\wr.cell? ⟨w.heap.size,4,none⟩=some (O oa on oc)/\wr.cell? ⟨w.heap.size,5,none⟩=some (O va vn vc)/\wr.cell? ⟨w.heap.size,6,none⟩=some (O fa fn fc)/\wr.cell? ⟨w.heap.size,7,none⟩=some (O ba bn bc))/\Ov w wr) (fun i _=>l.length - (intOf i).toNat)
  case atStart=>exact ⟨0,Nat.zero_le _,rfl,by simp,⟨c0,c1,c2,c3,c4,c5,c6,c7⟩,hbel⟩
  case round=>
   clear c0 c1 c2 c3 c4 c5 c6 c7 hbel
   obtain ⟨j,hj,rfl,hok,⟨c0,c1,c2,c3,c4,c5,c6,c7⟩,hB⟩:=hrel
   have HOK:=Aa hok
   clear hok
   by_cases hjl:j < l.length
   ·obtain ⟨b,off,rfl,hcl⟩:=HC.o (by rintro rfl;simp at hjl)
    obtain ⟨cs,hl9,hcs,hr⟩:=hcl j l[j] (List.getElem?_eq_getElem hjl)
    have htk:l.take (j+1)=l.take j++[l[j]]:=List.take_succ_eq_append_getElem hjl
    obtain ⟨d,hd⟩:=nm (l[j])
    have hmd:=List.getElem_mem hjl
    rw [<-hd] at hr htk hmd
    have HMD:=Aa hmd
    clear hmd
    have HTK:=Aa htk
    obtain ⟨ek,en,xa,xl,xc,aa,ac,ta,tc,ea,ec,hcse,-,-,-,-,-,hT,hE,-,-,-⟩:=hr.form
    subst hcse
    obtain ⟨kd,hkd⟩:=nm (Ad d)
    obtain ⟨vr,hvr⟩:=nm (Aq d)
    obtain ⟨ot,hot⟩:=nm (Ac d)
    obtain ⟨al,hal⟩:=nm ((Ak d).length)
    obtain ⟨tl,htl⟩:=nm ((Ae d).length)
    obtain ⟨el,hel⟩:=nm ((Aj d).length)
    rw [<-hkd,<-hvr,<-hot,<-hal,<-htl,<-hel] at hcs hr
    rw [<-htl] at hT
    rw [<-hel] at hE
    have q0:wr.cell? ⟨b,off+j*9,none⟩=_:=Ab hB _ _ (hcs 0 _ rfl)
    have q1:=Ab hB _ _ (hcs 1 _ rfl)
    have q2:=Ab hB _ _ (hcs 2 _ rfl)
    have q3:=Ab hB _ _ (hcs 3 _ rfl)
    have q4:=Ab hB _ _ (hcs 4 _ rfl)
    have q5:=Ab hB _ _ (hcs 5 _ rfl)
    have q6:=Ab hB _ _ (hcs 6 _ rfl)
    have q7:=Ab hB _ _ (hcs 7 _ rfl)
    have q8:=Ab hB _ _ (hcs 8 _ rfl)
    have hba:Ov wr (wr.alloc (zf #[zd U kd,zd U vr,zd U ot,zd U ek,zd U en,O xa xl xc,O aa al ac,O ta tl tc,O ea el ec] 130)):=bA wr _
    have hBa:=hB.trans (hba.mono hB.size)
    obtain ⟨f0,f1,f2,f3,f4,f5,f6,f7⟩:=co8 hba c0 c1 c2 c3 c4 c5 c6 c7
    obtain ⟨s0,s1,s2,s3,s4,s5,s6,s7,s8⟩:=rc9 (Az wr [zd U kd,zd U vr,zd U ot,zd U ek,zd U en,O xa xl xc,O aa al ac,O ta tl tc,O ea el ec] 130)
    have K1:=Aa (KS.o _ d _ (RS.mono (Ab hBa) (k+1) (k+1) _ d (Nat.le_refl _) hr) ((HF.o.over hBa).mono (Nat.le_max_left _ _)))
    have K2:=Aa fun W (hW:Ov w W)=>IH.o (O ta tl tc) (Ae d) W (hT.over hW) (HF.o.over hW)
    have K3:=Aa fun W (hW:Ov w W)=>IH.o (O ea el ec) (Aj d) W (hE.over hW) (HF.o.over hW)
    clear hT hE hcs hcl hr hl9 hkd hvr hot hal htl hel hd htk
    go_wp2_with fail
    refine (K1.o).mono ?_
    rintro e w1 ⟨he,hb1⟩
    have hB1:=hBa.trans (hb1.mono hBa.size)
    rcases he with ⟨hp1,rfl⟩ | ⟨hnp,why,hwhy,rfl⟩
    rotate_left
    ·have HN:=Aa (fun hall:∀ s∈l,xS K vn yn on funcs fs (k+1) s=>hnp (hall d HMD.o).1)
     clear hnp
     unfold Ah
     go_wp2_with fail
     exact ⟨rfl,Or.inr ⟨HN.o,why,hwhy,rfl⟩,hB1⟩
    have HP1:=Aa hp1
    obtain ⟨t7,t8,g0,g1,g2,g3,g4,g5,g6,g7⟩:=A4 hb1 s7 s8 f0 f1 f2 f3 f4 f5 f6 f7
    have K2':=Aa (K2.o w1 hB1)
    clear K1 K2 hp1 hb1 hBa hba hB c0 c1 c2 c3 c4 c5 c6 c7 f0 f1 f2 f3 f4 f5 f6 f7 q0 q1 q2 q3 q4 q5 q6 q7 q8 s0 s1 s2 s3 s4 s5 s6 s7 s8
    go_wp2_with fail
    refine (K2'.o).mono ?_
    rintro e w2 ⟨he,hb2⟩
    have hB2:=hB1.trans (hb2.mono hB1.size)
    rcases he with ⟨hp2,rfl⟩ | ⟨hnp,why,hwhy,rfl⟩
    rotate_left
    ·have HN:=Aa (fun hall:∀ s∈l,xS K vn yn on funcs fs (k+1) s=>hnp (hall d HMD.o).2.1)
     clear hnp
     unfold Ah
     go_wp2_with fail
     exact ⟨rfl,Or.inr ⟨HN.o,why,hwhy,rfl⟩,hB2⟩
    have HP2:=Aa hp2
    obtain ⟨u8,r0,r1,r2,r3,r4,r5,r6,r7⟩:=co9 hb2 t8 g0 g1 g2 g3 g4 g5 g6 g7
    have K3':=Aa (K3.o w2 hB2)
    clear K2' K3 hp2 hb2 hB1 g0 g1 g2 g3 g4 g5 g6 g7 t7 t8
    go_wp2_with fail
    refine (K3'.o).mono ?_
    rintro e w3 ⟨he,hb3⟩
    have hB3:=hB2.trans (hb3.mono hB2.size)
    rcases he with ⟨hp3,rfl⟩ | ⟨hnp,why,hwhy,rfl⟩
    rotate_left
    ·have HN:=Aa (fun hall:∀ s∈l,xS K vn yn on funcs fs (k+1) s=>hnp (hall d HMD.o).2.2)
     clear hnp
     unfold Ah
     go_wp2_with fail
     exact ⟨rfl,Or.inr ⟨HN.o,why,hwhy,rfl⟩,hB3⟩
    obtain ⟨z0,z1,z2,z3,z4,z5,z6,z7⟩:=co8 hb3 r0 r1 r2 r3 r4 r5 r6 r7
    have hnext:∀ s∈l.take (j+1),xS K vn yn on funcs fs (k+1) s:=fun s hs=>by
     rw [HTK.o,List.mem_append,List.mem_singleton] at hs
     rcases hs with hs | rfl
     ·exact HOK.o s hs
     ·exact ⟨HP1.o,HP2.o,hp3⟩
    have HNX:=Aa hnext
    clear hnext hp3 K3' hb3 hB2 r0 r1 r2 r3 r4 r5 r6 r7 u8
    go_wp2_with fail
    exact ⟨⟨j+1,by omega,by go_num,HNX.o,⟨z0,z1,z2,z3,z4,z5,z6,z7⟩,hB3⟩,by simp [intOf];omega⟩
   ·have hall:l.take j=l:=List.take_of_length_le (by omega)
    have hok2:=HOK.o
    rw [hall] at hok2
    have HOK2:=Aa hok2
    clear hok2 hall
    go_wp2_with fail
    go_end0
    exact ⟨Or.inl ⟨HOK2.o,rfl⟩,hB⟩
theorem Il (vs) (x:Int) (v:Value) (w:World) (hv:Ar w v vs) (hl:vs.length<=9223372036854775807) :
  Calls Tryz.prog 242 #[v,zd U x] w fun e w'=>∃ r:Int,e=zh (zd U r)/\(-1<=r/\(0<=r ↔ x∈vs))/\∃ n,w'=w.drewN n:=by
 obtain ⟨ao,cap,rfl,hcc⟩:=hv
 have HCC:=Aa hcc
 clear hcc
 go_enter Tryz.func242,Tryz.ntmps242
 go_wp2_with fail
 go_loopw [8] (fun i wr=>∃ k:Nat,k<=vs.length/\i=zd U k/\Hx (x ∉ vs.take k)/\∃ n,wr=w.drewN n) (fun i _=>vs.length - (intOf i).toNat)
 case atStart=>exact ⟨0,Nat.zero_le _,rfl,Aa (by simp),0,rfl⟩
 case round=>
  obtain ⟨k,hk,rfl,HX,n,rfl⟩:=hrel
  by_cases hkl:k < vs.length
  ·obtain ⟨b,off,rfl,hcl⟩:=HCC.o (by rintro rfl;simp at hkl)
   have q0:=hcl k hkl
   obtain ⟨y,hy⟩:=nm (vs[k])
   rw [<-hy] at q0
   have HM:Hx (y∈vs):=Aa (by rw [hy];exact List.getElem_mem hkl)
   have HT:Hx (vs.take (k+1)=vs.take k++[y]):=Aa (by rw [hy];exact List.take_succ_eq_append_getElem hkl)
   clear hcl hy
   by_cases hxy:x=y
   ·subst hxy
    go_wp2_with fail
    go_ret
    exact ⟨(k:Int),rfl,⟨by omega,fun _=>HM.o,fun _=>by omega⟩,n,rfl⟩
   ·have hb:(x == y)=false:=by simpa using hxy
    have HX2:Hx (x ∉ vs.take (k+1)):=Aa (by rw [HT.o];simp [hxy];exact HX.o)
    go_wp2_with fail
    exact ⟨⟨k+1,by omega,by go_num,HX2,n,rfl⟩,by simp [intOf];omega⟩
  ·have HX2:Hx (x ∉ vs):=Aa (by have:=HX.o;rw [List.take_of_length_le (by omega)] at this;exact this)
   go_wp2_with fail
   go_ret
   exact ⟨-1,rfl,⟨by omega,fun h=>absurd h (by omega),fun h=>absurd h HX2.o⟩,n,rfl⟩
theorem contains_any (vs) (x:Int) (v:Value) (w:World) (hv:Ar w v vs) (hl:vs.length<=9223372036854775807) :
  Calls Tryz.prog 218 #[v,zd U x] w fun e w'=>e=zh (ze (decide (x∈vs)))/\∃ n,w'=w.drewN n:=by
 have HI:=Aa (Il vs x v w hv hl)
 obtain ⟨ao,cap,rfl,-⟩:=hv
 go_enter Tryz.func218,Tryz.ntmps218
 go_wp2_with fail
 refine (HI.o).mono ?_
 rintro e w1 ⟨r,rfl,hr,n,rfl⟩
 clear HI
 have HR:=Aa hr
 clear hr
 go_wp2_with fail
 go_ret
 refine ⟨?_,n,rfl⟩
 have:=HR.o
 by_cases h:x∈vs
 ·have h0:0<=r:=this.2.2 h
  simp [h,h0]
 ·have h0:¬ 0<=r:=fun hh=>h (this.2.1 hh)
  simp [h,h0]
def xF (K:Nat) (nv ni no:Nat) (ahead:Int) (fs:List FnD) (k:Nat) (f:FnD):Prop:=
 f.ps.length<=4/\(∀ p∈f.ps,0<=p/\p < nv)/\(∀ i (h:i < f.ps.length),f.ps[i] ∉ f.ps.take i)/\(∀ s∈f.body,xS K nv ni no ahead fs k s)/\Al nv K f.res=0
theorem xF.ok {K nv ni no:Nat} {ahead:Int} {fs:List FnD} {k:Nat} {f:FnD} (h:xF K nv ni no ahead fs k f):okF K nv ni no ahead fs k f:=⟨h.1,h.2.1,fun s hs=>(h.2.2.2.1 s hs).ok,h.2.2.2.2⟩
abbrev KJ (w:World) (m:Int) (ga:Option Addr) (gn gc:Nat) (sa:Option Addr) (sn sc:Nat) (ya:Option Addr) (yn yc:Nat) (oa:Option Addr) (on oc:Nat) (va:Option Addr) (vn vc:Nat) (fa:Option Addr) (fn fc:Nat) (ba:Option Addr) (bn bc:Nat) (pa:Option Addr) (pn pc:Nat) (za:Option Addr) (zn zc:Nat) (ek en:Int) (xa:Option Addr) (xl xc:Nat) (Wz:World):Prop:=Wz.cell? ⟨w.heap.size,0,none⟩=some (zd U m)/\CE Wz w.heap.size 1 (O ga gn gc)/\CE Wz w.heap.size 2 (O sa sn sc)/\CE Wz w.heap.size 3 (O ya yn yc)/\CE Wz w.heap.size 4 (O oa on oc)/\CE Wz w.heap.size 5 (O va vn vc)/\CE Wz w.heap.size 6 (O fa fn fc)/\CE Wz w.heap.size 7 (O ba bn bc)/\CE Wz (w.heap.size+1) 0 (O pa pn pc)/\CE Wz (w.heap.size+1) 1 (O za zn zc)/\CE Wz (w.heap.size+1) 2 (zd U ek)/\CE Wz (w.heap.size+1) 3 (zd U en)/\CE Wz (w.heap.size+1) 4 (O xa xl xc)
theorem Cw (K kf k:Nat) (fs:List FnD) (f:FnD) (funcs:Int) (m:Int) (ga gn gc sa sn sc) (ya:Option Addr) (yn yc:Nat) (oa:Option Addr) (on oc:Nat) (va:Option Addr) (vn vc:Nat) (fa fn fc ba bn bc pa pn pc za zn zc) (ek en:Int) (xa xl xc) (w:World)
  (hv:vn<=9223372036854775807) (h0f:0<=funcs) (h1f:funcs<=9223372036854775807) (hyl:yn<=9223372036854775807) (hol:on<=9223372036854775807) (hff:funcs<=fs.length)
  (hp:Ar w (O pa pn pc) f.ps) (hpl:f.ps.length<=maxLen) (hpc:pn<=pc/\pc<=maxLen) (hs:AC w K k (O za zn zc) f.body) (hx:RX w K [zd U ek,zd U en,O xa xl xc] f.res) (hfs:AP w K kf (O fa fn fc) fs) :
  Calls Tryz.prog 176 #[zg #[zd U m,O ga gn gc,O sa sn sc,O ya yn yc,O oa on oc,O va vn vc,O fa fn fc,O ba bn bc],zg #[O pa pn pc,O za zn zc,zd U ek,zd U en,O xa xl xc],zd U funcs] w (Bw (xF K vn yn on funcs fs k f) w):=by
 have K1:=Aa AH
 have K2:=Aa Aw
 have KS:=Aa fun W (hB:Ov w W)=>Ch K kf fs funcs m ga gn gc sa sn sc ya yn yc oa on oc va vn vc fa fn fc ba bn bc hv h0f h1f hyl hol hff k (O za zn zc) f.body W (hs.over hB) (hfs.over hB)
 have KX:=Aa fun W (hB:Ov w W)=>AI K m ga gn gc sa sn sc ya yn yc oa on oc va vn vc fa fn fc ba bn bc _ f.res W (hx.over hB) hv
 have KC:=Aa fun W (hB:Ov w W) (x:Int) (i:Nat) (hi:i<=pn) (c:Nat)=>contains_any (f.ps.take i) x (O pa i c) W
 have hpn:pn=f.ps.length:=by obtain ⟨a2,c2,he,-⟩:=hp;injection he
 have HP:=Aa hp
 have HPN:=Aa hpn
 have hpn2:pn<=9223372036854775807:=by rw [hpn];exact hpl
 obtain ⟨hpc1,hpc2⟩:=hpc
 have hpc3:pc<=9223372036854775807:=hpc2
 clear hp hpl hs hx hfs hpn hpc2
 have hbel:Ov w ((w.alloc (zf #[zd U m,O ga gn gc,O sa sn sc,O ya yn yc,O oa on oc,O va vn vc,O fa fn fc,O ba bn bc] 184)).alloc (zf #[O pa pn pc,O za zn zc,zd U ek,zd U en,O xa xl xc] 105)):=(bA w _).alloc (by simp) _
 obtain ⟨c0,c1,c2,c3,c4,c5,c6,c7⟩:=rc8 (Cn w [zd U m,O ga gn gc,O sa sn sc,O ya yn yc,O oa on oc,O va vn vc,O fa fn fc,O ba bn bc] 184 (zf #[O pa pn pc,O za zn zc,zd U ek,zd U en,O xa xl xc] 105))
 obtain ⟨f0,f1,f2,f3,f4⟩:=rc5 (CJ w (zf #[zd U m,O ga gn gc,O sa sn sc,O ya yn yc,O oa on oc,O va vn vc,O fa fn fc,O ba bn bc] 184) [O pa pn pc,O za zn zc,zd U ek,zd U en,O xa xl xc] 105)
 go_enter Tryz.func176,Tryz.ntmps176
 go_wp2_with fail
 refine (K1.o _ _ _).mono ?_
 rintro e wz ⟨he,rfl⟩
 rcases he with ⟨hz,rfl⟩ | ⟨hz,rfl⟩
 rotate_left
 ·have HN:Hx (¬ xF K vn yn on funcs fs k f):=Aa (fun hf=>absurd hf.1 (by rw [<-HPN.o];simp at hz;omega))
  clear hz
  unfold Ah
  go_wp2_with fail
  exact ⟨rfl,Or.inr ⟨HN.o,2,by decide,rfl⟩,hbel⟩
 have hp4:pn<=4:=by simp at hz;omega
 have HP4:Hx (f.ps.length<=4):=by rw [<-HPN.o];exact hp4
 clear hz hp4
 go_wp2_with fail
 go_loopw [18] (fun i wr=>∃ n:Nat,n<=pn/\i=zd U n/\(∀ p∈f.ps.take n,0<=p/\p < (vn:Int))/\(KJ w m ga gn gc sa sn sc ya yn yc oa on oc va vn vc fa fn fc ba bn bc pa pn pc za zn zc ek en xa xl xc wr)/\Ov w wr) (fun i _=>pn - (intOf i).toNat)
 case atStart=>exact ⟨0,Nat.zero_le _,rfl,by simp,⟨c0,c1,c2,c3,c4,c5,c6,c7,f0,f1,f2,f3,f4⟩,hbel⟩
 case round=>
  clear c0 c1 c2 c3 c4 c5 c6 c7 f0 f1 f2 f3 f4 hbel
  obtain ⟨n,hn,rfl,hok,⟨c0,c1,c2,c3,c4,c5,c6,c7,f0,f1,f2,f3,f4⟩,hB⟩:=hrel
  have HOK:=Aa hok
  clear hok
  by_cases hnl:n < pn
  ·have hnd:n < f.ps.length:=by rw [<-HPN.o];exact hnl
   obtain ⟨a2,kk2,he,hpc⟩:=HP.o
   injection he with e1 e2 e3
   subst e1
   obtain ⟨b,off,rfl,hel⟩:=hpc (by intro h;rw [h] at hnd;simp at hnd)
   have q:=Ab hB _ _ (hel n hnd)
   have htk:f.ps.take (n+1)=f.ps.take n++[f.ps[n]]:=List.take_succ_eq_append_getElem hnd
   obtain ⟨x,hx⟩:=nm (f.ps[n])
   have hmx:=List.getElem_mem hnd
   rw [<-hx] at q htk hmx
   have HTK:=Aa htk
   have HMX:=Aa hmx
   clear hmx
   clear hpc hel hx htk e2 e3
   go_wp2_with fail
   refine (K2.o _ _ _).mono ?_
   rintro e wz ⟨rfl,rfl⟩
   go_wp2_with fail
   refine (K1.o _ _ _).mono ?_
   rintro e wz ⟨he,rfl⟩
   rcases he with ⟨hvar,rfl⟩ | ⟨hz,rfl⟩
   rotate_left
   ·have HN:Hx (¬ xF K vn yn on funcs fs k f):=Aa (fun hf=>absurd (hf.2.1 x HMX.o) (by simp at hz;omega))
    clear hz
    unfold Ah
    go_wp2_with fail
    exact ⟨rfl,Or.inr ⟨HN.o,5,by decide,rfl⟩,hB⟩
   have hv2:0<=x/\x < vn:=by simpa using hvar
   have hnx:∀ p∈f.ps.take (n+1),0<=p/\p < (vn:Int):=fun p hp=>by
    rw [HTK.o,List.mem_append,List.mem_singleton] at hp
    rcases hp with hp | rfl
    ·exact HOK.o p hp
    ·exact hv2
   have HNX:=Aa hnx
   clear hnx hv2 hvar
   go_wp2_with fail
   exact ⟨⟨n+1,by omega,by go_num,HNX.o,⟨c0,c1,c2,c3,c4,c5,c6,c7,f0,f1,f2,f3,f4⟩,hB⟩,by simp [intOf];omega⟩
  ·have hall:f.ps.take n=f.ps:=List.take_of_length_le (by rw [<-HPN.o];omega)
   have hok2:=HOK.o
   rw [hall] at hok2
   have HOK2:=Aa hok2
   clear hok2 hall HOK
   obtain ⟨w1,hw1⟩:=nm wr
   rw [<-hw1] at c0 c1 c2 c3 c4 c5 c6 c7 f0 f1 f2 f3 f4 hB ⊢
   clear hw1
   go_wp2_with fail
   go_loopw [33] (fun i wr=>∃ n:Nat,n<=pn/\i=zd U n/\Hx (∀ i (h:i < f.ps.length),i < n->f.ps[i] ∉ f.ps.take i)/\(KJ w m ga gn gc sa sn sc ya yn yc oa on oc va vn vc fa fn fc ba bn bc pa pn pc za zn zc ek en xa xl xc wr)/\Ov w wr) (fun i _=>pn - (intOf i).toNat)
   case atStart=>exact ⟨0,Nat.zero_le _,rfl,Aa (fun i h hi=>absurd hi (by omega)),⟨c0,c1,c2,c3,c4,c5,c6,c7,f0,f1,f2,f3,f4⟩,hB⟩
   case round=>
    clear c0 c1 c2 c3 c4 c5 c6 c7 f0 f1 f2 f3 f4 hB
    obtain ⟨n,hn,rfl,HDI,⟨c0,c1,c2,c3,c4,c5,c6,c7,f0,f1,f2,f3,f4⟩,hB⟩:=hrel
    by_cases hnl:n < pn
    ·have hnd:n < f.ps.length:=by rw [<-HPN.o];exact hnl
     obtain ⟨a2,kk2,he,hpc⟩:=HP.o
     injection he with e1 e2 e3
     subst e1
     have hpre:=(HP.o.over hB)
     rw [HPN.o] at hpre
     have hpre2:=hpre.prefix (i:=n) (by omega) pc
     obtain ⟨b,off,rfl,hel⟩:=hpc (by intro h;rw [h] at hnd;simp at hnd)
     have q:=Ab hB _ _ (hel n hnd)
     obtain ⟨x,hx⟩:=nm (f.ps[n])
     rw [<-hx] at q
     have HXE:=Aa hx
     have HND:=Aa hnd
     have KC':=Aa (contains_any _ x _ _ hpre2 (by simp;omega))
     clear hpc hel hx e2 e3 hpre hpre2
     go_wp2_with fail
     refine (KC'.o).mono ?_
     rintro e w5 ⟨rfl,nd,rfl⟩
     obtain ⟨rb,hrb⟩:=nm (decide (x∈f.ps.take n))
     rw [<-hrb]
     have HRB:=Aa hrb
     clear hrb
     have hBd:=below_drewN hB nd
     go_wp2_with fail
     refine (K1.o _ _ _).mono ?_
     rintro e wz ⟨he,rfl⟩
     rcases he with ⟨hz,rfl⟩ | ⟨hz,rfl⟩
     rotate_left
     ·have HN:Hx (¬ xF K vn yn on funcs fs k f):=Aa (fun hf=>absurd (hf.2.2.1 n HND.o) (by rw [<-HXE.o];have hq:=HRB.o;simp at hz;rw [hz] at hq;simpa using hq))
      clear hz
      unfold Ah
      go_wp2_with fail
      exact ⟨rfl,Or.inr ⟨HN.o,6,by decide,rfl⟩,hBd⟩
     have HDI2:Hx (∀ i (h:i < f.ps.length),i < n+1->f.ps[i] ∉ f.ps.take i):=Aa (fun i h hi=>by
      by_cases hin:i=n
      ·subst hin
       rw [<-HXE.o]
       have hq:=HRB.o
       simp at hz
       rw [hz] at hq
       simpa using hq
      ·exact HDI.o i h (by omega))
     clear hz
     go_wp2_with fail
     exact ⟨⟨n+1,by omega,by go_num,HDI2,⟨c0,c1,c2,c3,c4,c5,c6,c7,f0,f1,f2,f3,f4⟩,hBd⟩,by simp [intOf];omega⟩
    ·have HDI3:Hx (∀ i (h:i < f.ps.length),f.ps[i] ∉ f.ps.take i):=Aa (fun i h=>HDI.o i h (by have:=HPN.o;omega))
     have KS':=Aa (KS.o _ hB)
     go_wp2_with fail
     refine (KS'.o).mono ?_
     rintro e w6 ⟨he,hb6⟩
     have hB6:=hB.trans (hb6.mono hB.size)
     rcases he with ⟨hbd,rfl⟩ | ⟨hnb,why,hwhy,rfl⟩
     rotate_left
     ·have HN:Hx (¬ xF K vn yn on funcs fs k f):=Aa (fun hf=>hnb hf.2.2.2.1)
      clear hnb
      unfold Ah
      go_wp2_with fail
      exact ⟨rfl,Or.inr ⟨HN.o,why,hwhy,rfl⟩,hB6⟩
     have HBD:=Aa hbd
     obtain ⟨r0,r1,r2,r3,r4,r5,r6,r7,g0,g1⟩:=A4 hb6 c0 c1 c2 c3 c4 c5 c6 c7 f0 f1
     obtain ⟨g2,g3,g4⟩:=co3 hb6 f2 f3 f4
     have KX':=Aa (KX.o _ hB6)
     clear hbd hb6 hB c0 c1 c2 c3 c4 c5 c6 c7 f0 f1 f2 f3 f4 KS'
     go_wp2_with fail
     refine (KX'.o).mono ?_
     rintro e w7 ⟨he,hb7⟩
     have hB7:=hB6.trans (hb7.mono hB6.size)
     rcases he with ⟨hex,rfl⟩ | ⟨hnb,why,hwhy,rfl⟩
     rotate_left
     ·have HN:Hx (¬ xF K vn yn on funcs fs k f):=Aa (fun hf=>hnb hf.2.2.2.2)
      clear hnb
      unfold Ah
      go_wp2_with fail
      exact ⟨rfl,Or.inr ⟨HN.o,why,hwhy,rfl⟩,hB7⟩
     have HEX:=Aa hex
     clear hex KX'
     go_wp2_with fail
     go_end0
     exact ⟨Or.inl ⟨⟨HP4.o,HOK2.o,HDI3.o,HBD.o,HEX.o⟩,rfl⟩,hB7⟩
abbrev Iz (w:World) (m:Int) (ga:Option Addr) (gn gc:Nat) (va:Option Addr) (vn vc:Nat) (Wz:World):Prop:=Wz.cell? ⟨w.heap.size,0,none⟩=some (zd U m)/\CE Wz w.heap.size 1 (O ga gn gc)/\CE Wz w.heap.size 5 (O va vn vc)
theorem C2 (m:Int) (ga gn gc) (sa sn sc) (ya yn yc oa on oc va vn vc) (fa fn fc ba bn bc gs ls ms vs) (w:World) (hg:Bf w (O ga gn gc) gs) (h1:BB w (O ya yn yc) ls) (h2:BB w (O oa on oc) ms) (h3:CT w (O va vn vc) vs)
  (hy:yn<=5) (ho:on<=5) (hyc:ya=none->yc=0) (hoc:oa=none->oc=0) :
  Calls Tryz.prog 174 #[zg #[zd U m,O ga gn gc,O sa sn sc,O ya yn yc,O oa on oc,O va vn vc,O fa fn fc,O ba bn bc]] w (Bw (CR m gs (ls++ms) vs) w):=by
 have hbel:Ov w ((w.alloc (zf #[zd U m,O ga gn gc,O sa sn sc,O ya yn yc,O oa on oc,O va vn vc,O fa fn fc,O ba bn bc] 184)).alloc (zf #[O ya yn yc,O oa on oc] 26)):=(bA w _).alloc (by simp) _
 have hrow:Af [O ya yn yc,O oa on oc] ((w.alloc (zf #[zd U m,O ga gn gc,O sa sn sc,O ya yn yc,O oa on oc,O va vn vc,O fa fn fc,O ba bn bc] 184)).alloc (zf #[O ya yn yc,O oa on oc] 26)) (w.heap.size+1):=by
  have r:=Af.new [O ya yn yc,O oa on oc] 26 (w.alloc (zf #[zd U m,O ga gn gc,O sa sn sc,O ya yn yc,O oa on oc,O va vn vc,O fa fn fc,O ba bn bc] 184))
  have hs:(w.alloc (zf #[zd U m,O ga gn gc,O sa sn sc,O ya yn yc,O oa on oc,O va vn vc,O fa fn fc,O ba bn bc] 184)).heap.size=w.heap.size+1:=by simp
  rw [hs] at r
  exact r
 have K1:=Aa (EF (w.heap.size+1) ya yn yc oa on oc ls ms ((w.alloc (zf #[zd U m,O ga gn gc,O sa sn sc,O ya yn yc,O oa on oc,O va vn vc,O fa fn fc,O ba bn bc] 184)).alloc (zf #[O ya yn yc,O oa on oc] 26)) hrow (h1.over hbel) (h2.over hbel) hy ho hyc hoc)
 have KL:=Aa fun (bl:Lab) (pr pw:Value) (W:World) (hW:Ov w W) (hr:AD W pr bl.r) (hw:AD W pw bl.w)=>Ho m (O ga gn gc) gs pr pw bl W (Bz hg hW) hr hw
 have KP:=Aa Cy
 have KM:=Aa AH
 have hvl:vn<=9223372036854775807:=by obtain ⟨hm,a,c,he,-⟩:=h3;injection he with e1 e2 e3;rw [e2];exact hm
 have hlen:(ls++ms).length<=10:=by
  obtain ⟨-,a,c,he,-⟩:=h1
  injection he with e1 e2 e3
  obtain ⟨-,a',c',he',-⟩:=h2
  injection he' with e1' e2' e3'
  simp
  omega
 have HV:=Aa h3
 have hvs:vn=vs.length:=by obtain ⟨hm,a,c,he,-⟩:=h3;injection he
 have HVS:=Aa hvs
 clear hvs
 have zr:=Cn w [zd U m,O ga gn gc,O sa sn sc,O ya yn yc,O oa on oc,O va vn vc,O fa fn fc,O ba bn bc] 184 (zf #[O ya yn yc,O oa on oc] 26)
 have c0:=zr 0 _ rfl
 have c1:=zr 1 _ rfl
 have c3:=zr 3 _ rfl
 have c4:=zr 4 _ rfl
 have c5:=zr 5 _ rfl
 clear zr
 clear h1 h2 h3 hg hrow
 go_enter Tryz.func174,Tryz.ntmps174
 go_wp2_with fail
 refine (K1.o).mono ?_
 rintro e w1 ⟨v,xs,rfl,hown,hcl,hb1⟩
 have hB1:=hbel.trans (hb1.mono hbel.size)
 obtain ⟨d0,d1,d5⟩:=co3 hb1 c0 c1 c5
 obtain ⟨va',vn',vc',hvf⟩:∃ a n c,v=O a n c:=by
  rcases hown.2 with ⟨h,_⟩ | ⟨g,cap,cur,h,_⟩
  ·exact ⟨_,_,_,h⟩
  ·exact ⟨_,_,_,h⟩
 have hnn:vn'=(ls++ms).length:=by
  rcases hown.2 with ⟨h,h'⟩ | ⟨g,cap,cur,h,_⟩
  ·rw [hvf] at h;injection h with e1 e2 e3;omega
  ·rw [hvf] at h;injection h
 subst hvf
 have HO:=Aa hown
 have HCL:=Aa hcl
 have HNN:=Aa hnn
 have hn10:vn'<=10:=by rw [hnn];exact hlen
 clear hown hcl hnn hb1 c0 c1 c3 c4 c5 hbel K1
 go_wp2_with fail
 go_loopw [17] (fun i wr=>∃ n:Nat,n<=vn'/\i=zd U n/\(∀ b∈(ls++ms).take n,Cj m gs b=0)/\(Iz w m ga gn gc va vn vc wr)/\Ov w1 wr) (fun i _=>vn' - (intOf i).toNat)
 case atStart=>exact ⟨0,Nat.zero_le _,rfl,by simp,⟨d0,d1,d5⟩,Below.refl _ _⟩
 case round=>
  clear d0 d1 d5
  obtain ⟨n,hn,rfl,hok1,⟨d0,d1,d5⟩,hB⟩:=hrel
  have HOK1:=Aa hok1
  clear hok1
  have hBw:=hB1.trans (hB.mono hB1.size)
  by_cases hnl:n < vn'
  ·have hnd:n < (ls++ms).length:=by rw [<-HNN.o];exact hnl
   obtain ⟨pr,pw,e0,e1,hr,hw⟩:=HCL.o.at n hnd
   obtain ⟨g,cap,hgf,hgb,hgl,hgc⟩:=Em HO.o (by omega)
   have a0:=Ab hB _ _ (hgc _ _ e0)
   have a1:=Ab hB _ _ (hgc _ _ e1)
   rw [Addr.add_lit,Nat.zero_add] at a0 a1
   injection hgf with f1 f2 f3
   subst f1
   obtain ⟨ra,rn,rc,hrf⟩:=A2 hr
   obtain ⟨wa,wn,wc,hwf⟩:=A2 hw
   subst hrf hwf
   have hba:=bA wr (zf #[O ra rn rc,O wa wn wc] 39)
   have hBa:=hBw.trans (hba.mono hBw.size)
   have hB1a:=Ag hB hba
   have K2:=Aa (KL.o (ls++ms)[n] _ _ _ hBa (Ap hr hB1a) (Ap hw hB1a))
   obtain ⟨f0,f1,f5⟩:=co3 hba d0 d1 d5
   obtain ⟨cr,hcr⟩:=nm (Cj m gs (ls++ms)[n])
   rw [<-hcr] at K2
   have HCR:=Aa hcr
   clear hgc hr hw e0 e1 hcr f2 f3
   go_wp2_with fail
   refine (K2.o).mono ?_
   rintro e w2 ⟨rfl,hb2⟩
   have hB2:=Ag hB1a hb2
   have hBw2:=hB1.trans (hB2.mono hB1.size)
   obtain ⟨r0,r1,r5⟩:=co3 hb2 f0 f1 f5
   clear K2 hb2 hBa hB1a hba hB hBw a0 a1 d0 d1 d5 f0 f1 f5
   go_wp2_with fail
   refine (KP.o _ _).mono ?_
   rintro e wz ⟨he,rfl⟩
   rcases he with ⟨hz,rfl⟩ | ⟨hz,rfl⟩
   rotate_left
   ·have hz2:cr≠0:=by simpa using hz
    have HN:Hx (¬ CR m gs (ls++ms) vs):=Aa (fun h=>hz2 (HCR.o.trans (h.1 _ (List.getElem_mem hnd))))
    unfold Ah
    go_wp2_with fail
    exact ⟨rfl,Or.inr ⟨HN.o,cr,hz2,rfl⟩,hBw2⟩
   have HZ:=Aa (show cr=0 by simpa using hz)
   clear hz
   go_wp2_with fail
   exact ⟨⟨n+1,by omega,by go_num,BQ hnd HOK1.o (HCR.o.symm.trans HZ.o),⟨r0,r1,r5⟩,hB2⟩,by simp [intOf];omega⟩
  ·obtain ⟨w2,hw2⟩:=nm wr
   rw [<-hw2] at d0 d1 d5 hBw ⊢
   have HALL1:=Aa (BR (by rw [<-HNN.o];omega) HOK1.o)
   clear hw2 hB HO HCL HOK1
   go_wp2_with fail
   go_loopw [32] (fun i wr=>∃ n:Nat,n<=vn/\i=zd U n/\(∀ v∈vs.take n,Cj m gs v.2=0)/\(Iz w m ga gn gc va vn vc wr)/\Ov w2 wr) (fun i _=>vn - (intOf i).toNat)
   case atStart=>exact ⟨0,Nat.zero_le _,rfl,by simp,⟨d0,d1,d5⟩,Below.refl _ _⟩
   case round=>
    clear d0 d1 d5 hnl hn
    obtain ⟨n,hn,rfl,hok1,⟨d0,d1,d5⟩,hB⟩:=hrel
    have HOK1:=Aa hok1
    clear hok1
    have hBw3:=hBw.trans (hB.mono hBw.size)
    by_cases hnl:n < vn
    ·obtain ⟨-,ao,cap,he,hel⟩:=HV.o.over hBw3
     injection he with e1 e2 e3
     have hne:vs≠[]:=by intro h;rw [h] at e2;simp at e2;omega
     obtain ⟨b,off,hbo,hel2⟩:=hel hne
     have hnv:n < vs.length:=by omega
     obtain ⟨pr,pw,a0,a1,a2,hr,hw⟩:=hel2 n hnv
     have e1':=e1.trans hbo
     subst e1'
     obtain ⟨kn,hkn⟩:=nm (vs[n].1)
     obtain ⟨lb,hlb⟩:=nm (vs[n].2)
     rw [<-hkn] at a0
     rw [<-hlb] at hr hw
     obtain ⟨ra,rn,rc,hrf⟩:=A2 hr
     obtain ⟨wa,wn,wc,hwf⟩:=A2 hw
     subst hrf hwf
     have HLB:=Aa hlb
     clear hkn hlb hel hel2 e1 e2 e3 hbo
     have hba:=bA wr (zf #[ze kn,O ra rn rc,O wa wn wc] 41)
     have hBa:=hBw3.trans (hba.mono hBw3.size)
     have hB1a:=Ag hB hba
     have K2:=Aa (KL.o lb _ _ _ hBa (Ap hr hba) (Ap hw hba))
     obtain ⟨f0,f1,f5⟩:=co3 hba d0 d1 d5
     obtain ⟨cr,hcr⟩:=nm (Cj m gs lb)
     rw [<-hcr] at K2
     have HCR:=Aa hcr
     clear hr hw hcr
     go_wp2_with fail
     refine (K2.o).mono ?_
     rintro e w3 ⟨rfl,hb2⟩
     have hB2:=Ag hB1a hb2
     have hBw2:=hBw.trans (hB2.mono hBw.size)
     obtain ⟨r0,r1,r5⟩:=co3 hb2 f0 f1 f5
     clear K2 hb2 hBa hB1a hba hB hBw3 a0 a1 a2 d0 d1 d5 f0 f1 f5
     go_wp2_with fail
     refine (KP.o _ _).mono ?_
     rintro e wz ⟨he,rfl⟩
     rcases he with ⟨hz,rfl⟩ | ⟨hz,rfl⟩
     rotate_left
     ·have hz2:cr≠0:=by simpa using hz
      have HN:Hx (¬ CR m gs (ls++ms) vs):=Aa (fun h=>hz2 (HCR.o.trans (by rw [HLB.o];exact h.2.1 _ (List.getElem_mem hnv))))
      unfold Ah
      go_wp2_with fail
      exact ⟨rfl,Or.inr ⟨HN.o,cr,hz2,rfl⟩,hBw2⟩
     have HZ:=Aa (show cr=0 by simpa using hz)
     clear hz
     go_wp2_with fail
     exact ⟨⟨n+1,by omega,by go_num,BQ hnv HOK1.o (by rw [<-HLB.o];exact HCR.o.symm.trans HZ.o),⟨r0,r1,r5⟩,hB2⟩,by simp [intOf];omega⟩
    ·obtain ⟨w3,hw3⟩:=nm wr
     rw [<-hw3] at d0 d1 d5 hBw3 ⊢
     have HALL2:=Aa (BR (by rw [<-HVS.o];omega) HOK1.o)
     clear hw3 hB hBw HOK1
     go_wp2_with fail
     go_loopw [48] (fun i wr=>∃ n:Nat,n<=vn/\i=zd U n/\(∀ v∈vs.take n,v.1=false->v.2.r=[]/\v.2.w=[])/\(Iz w m ga gn gc va vn vc wr)/\Ov w3 wr) (fun i _=>vn - (intOf i).toNat)
     case atStart=>exact ⟨0,Nat.zero_le _,rfl,by simp,⟨d0,d1,d5⟩,Below.refl _ _⟩
     case round=>
      clear d0 d1 d5 hnl hn
      obtain ⟨n,hn,rfl,hok1,⟨d0,d1,d5⟩,hB⟩:=hrel
      have HOK1:=Aa hok1
      clear hok1
      have hBw:=hBw3.trans (hB.mono hBw3.size)
      by_cases hnl:n < vn
      ·obtain ⟨-,ao,cap,he,hel⟩:=HV.o.over hBw
       injection he with e1 e2 e3
       have hne:vs≠[]:=by intro h;rw [h] at e2;simp at e2;omega
       obtain ⟨b,off,hbo,hel2⟩:=hel hne
       have hnv:n < vs.length:=by omega
       obtain ⟨pr,pw,a0,a1,a2,hr,hw⟩:=hel2 n hnv
       have e1':=e1.trans hbo
       subst e1'
       obtain ⟨kn,hkn⟩:=nm (vs[n].1)
       rw [<-hkn] at a0
       obtain ⟨ra,rn,rc,hrf⟩:=A2 hr
       obtain ⟨wa,wn,wc,hwf⟩:=A2 hw
       subst hrf hwf
       have HKN:Hx (kn=vs[n].1/\rn=vs[n].2.r.length/\wn=vs[n].2.w.length):=⟨hkn,DA hr,DA hw⟩
       clear hkn hel hel2 e1 e2 e3 hbo hr hw
       have HA:Hx (∀ ob:Obj,(CE (wr.alloc ob) w.heap.size 0 (zd U m)/\CE (wr.alloc ob) w.heap.size 1 (O ga gn gc)/\CE (wr.alloc ob) w.heap.size 5 (O (some ⟨b,off,none⟩) vn vc))/\Ov w3 (wr.alloc ob)/\Ov w (wr.alloc ob)):=fun ob=>by
        have hba:=bA wr ob
        exact ⟨⟨Ab hba _ _ d0,Ab hba _ _ d1,Ab hba _ _ d5⟩,Ag hB hba,hBw.trans (hba.mono hBw.size)⟩
       clear KL KP d0 d1 d5 hB
       have HNX:Hx ((kn=false->rn=0/\wn=0)->∀ v∈vs.take (n+1),v.1=false->v.2.r=[]/\v.2.w=[]):=fun h=>BQ hnv HOK1.o fun h0=>by
        obtain ⟨h1,h2,h3⟩:=HKN.o
        have:=h (h1.trans h0)
        exact ⟨List.eq_nil_of_length_eq_zero (by omega),List.eq_nil_of_length_eq_zero (by omega)⟩
       have HNG:Hx (¬ (kn=false->rn=0/\wn=0)->¬ CR m gs (ls++ms) vs):=Aa (fun hn h=>hn fun hk=>by
        obtain ⟨h1,h2,h3⟩:=HKN.o
        obtain ⟨q1,q2⟩:=h.2.2 _ (List.getElem_mem hnv) (h1.symm.trans hk)
        rw [q1] at h2
        rw [q2] at h3
        exact ⟨h2,h3⟩)
       clear HKN HOK1
       cases kn
       all_goals go_wp2_with fail
       all_goals
        refine (KM.o _ _ _).mono ?_
        rintro e wz ⟨he,rfl⟩
        rcases he with ⟨hz,rfl⟩ | ⟨hz,rfl⟩
        ·have HZ:Hx (∀ v∈vs.take (n+1),v.1=false->v.2.r=[]/\v.2.w=[]):=HNX.o (by first | (intro h;cases h;done) | (intro _;simp at hz;done) | (intro _;simp at hz;omega) | (intro _;simp at *;omega))
         clear hz HNX HNG
         go_wp2_with fail
         exact ⟨⟨n+1,by omega,by go_num,HZ.o,(HA.o _).1,(HA.o _).2.1⟩,by simp [intOf];omega⟩
        ·have HN:Hx (¬ CR m gs (ls++ms) vs):=Aa (HNG.o (by first | (simp at hz;done) | (intro hh;have hq:=hh (by simp);simp at hz;omega)))
         clear hz HNX HNG
         unfold Ah
         go_wp2_with fail
         exact ⟨rfl,Or.inr ⟨HN.o,1,by decide,rfl⟩,(HA.o _).2.2⟩
      ·go_wp2_with fail
       go_end0
       exact ⟨Or.inl ⟨⟨HALL1.o,HALL2.o,BR (by rw [<-HVS.o];omega) HOK1.o⟩,rfl⟩,hBw⟩
end Go.Proofs.YtfffpjkcfnekaaaGreat.Ex.Ey
