/- Checks of commands, whatever they are. -/
import Derived.Test.YtfffpjkcfnekaaaGreatG18
import Derived.Test.YtfffpjkcfnekaaaGreatG19
import Derived.Test.YtfffpjkcfnekaaaGreatG20
set_option linter.unusedVariables false
set_option maxHeartbeats 8000000
set_option maxRecDepth 100000
namespace Go.Proofs.YtfffpjkcfnekaaaGreat.Ex.Ez
open Go.RowKit
open Go.Value renaming slice -> O, int -> zd, bool -> ze, agg -> zg, pointer -> zi, tuple -> zj
open Go.IntKind renaming i64 -> U
open Go.Obj renaming cells -> zf
open Go.Ending renaming returned -> zh
def eS1 (K:Nat) (nv ni no:Nat) (funcs:Int) (fs:List FnD) (d:D):Int:=
 if Ad d=1 then (if (0<=(Aq d)/\(Aq d) < nv) then if ((Ac d)=0)/\(((Ak d).length)=0)/\(((Ae d).length)=0)/\(((Aj d).length)=0) then Al nv K (Ao d) else 1 else 5)
 else if Ad d=2 then (if (0<=(Aq d)/\(Aq d) < nv)/\(0<=(Ac d)/\(Ac d) < funcs) then if ((Au (Ao d))=0/\(AG (Ao d))=0/\((Ax (Ao d)).length)=0)/\(∀ f,fs[(Ac d).toNat]? = some f->f.ps.length=((Ak d).length))/\(((Ae d).length)=0)/\(((Aj d).length)=0) then Bl ((Ak d).map fun a=>Al nv K a) else 1 else 5)
 else if Ad d=3 then (if (0<=(Aq d)/\(Aq d) < nv)/\(0<=(Ac d)/\(Ac d) < (ni:Int)) then if ((Au (Ao d))=0/\(AG (Ao d))=0/\((Ax (Ao d)).length)=0)/\(((Ak d).length)=0)/\(((Ae d).length)=0)/\(((Aj d).length)=0) then 0 else 1 else 5)
 else if Ad d=4 then (if (0<=(Ac d)/\(Ac d) < (no:Int)) then if ((Aq d)=0)/\(((Ak d).length)=0)/\(((Ae d).length)=0)/\(((Aj d).length)=0) then Al nv K (Ao d) else 1 else 5)
 else if Ad d=5 then (if (0<=(Aq d)/\(Aq d) < nv) then if ((Ac d)=0)/\(((Ak d).length)=0)/\(((Ae d).length)=0)/\(((Aj d).length)=0) then Al nv K (Ao d) else 1 else 5)
 else if Ad d=6 then (if (0<=(Aq d)/\(Aq d) < nv) then if ((Ac d)=0)/\(((Ak d).length)=0)/\(((Ae d).length)=0)/\(((Aj d).length)=0) then Al nv K (Ao d) else 1 else 5)
 else if Ad d=7 then (if True then if ((Aq d)=0)/\((Ac d)=0)/\(((Ak d).length)=0) then Al nv K (Ao d) else 1 else 5)
 else if Ad d=8 then (if True then if ((Aq d)=0)/\((Ac d)=0)/\(((Ak d).length)=0)/\(((Aj d).length)=0) then Al nv K (Ao d) else 1 else 5)
 else 7
def eS (K:Nat) (nv ni no:Nat) (funcs:Int) (fs:List FnD):Nat->D->Int
 | 0,_=>7
 | k+1,d=>Bl [eS1 K nv ni no funcs fs d,Bl ((Ae d).map (eS K nv ni no funcs fs k)),Bl ((Aj d).map (eS K nv ni no funcs fs k))]
theorem f3a {a b c:Int} (h:a≠0):Bl [a,b,c]=a:=by
 have e:[a,b,c]=[a]++[b,c]:=rfl
 rw [e,BK,BE,if_neg h]
theorem f3b {a b c:Int} (h:a=0) (h2:b≠0):Bl [a,b,c]=b:=by
 have e:[a,b,c]=[a]++([b]++[c]):=rfl
 rw [e,BK,BE,if_pos h,BK,BE,if_neg h2]
theorem f3c {a b c:Int} (h:a=0) (h2:b=0):Bl [a,b,c]=c:=by
 have e:[a,b,c]=[a]++([b]++[c]):=rfl
 rw [e,BK,BE,if_pos h,BK,BE,if_pos h2,BE]
theorem Ed (kd:Int) (hk:¬ (1<=kd/\kd<=8)) (funcs:Int) (m:Int) (ga gn gc sa sn sc ya yn yc oa on oc va vn vc fa fn fc ba bn bc) (vr ot ek en:Int) (xa xl xc aa al ac ta tl tc ea el ec) (w:World) :
  Calls Tryz.prog 220 #[zg #[zd U m,O ga gn gc,O sa sn sc,O ya yn yc,O oa on oc,O va vn vc,O fa fn fc,O ba bn bc],zg #[zd U kd,zd U vr,zd U ot,zd U ek,zd U en,O xa xl xc,O aa al ac,O ta tl tc,O ea el ec],zd U funcs] w (Bw 7 w):=by
 have K1:=Aa (DX kd hk)
 have K2:=Aa AH
 have hbel:Ov w ((w.alloc (zf #[zd U m,O ga gn gc,O sa sn sc,O ya yn yc,O oa on oc,O va vn vc,O fa fn fc,O ba bn bc] 184)).alloc (zf #[zd U kd,zd U vr,zd U ot,zd U ek,zd U en,O xa xl xc,O aa al ac,O ta tl tc,O ea el ec] 130)):=(bA w _).alloc (by simp) _
 clear hk
 go_enter Tryz.func220,Tryz.ntmps220
 go_wp2_with fail
 refine (K1.o _).mono ?_
 rintro e w1 ⟨rfl,hb1⟩
 have hB1:=hbel.trans (hb1.mono hbel.size)
 have hB2:=hB1.trans ((bA w1 (zf #[ze false,ze false,ze false,ze false,ze false,ze false] 288)).mono hB1.size)
 clear hb1 hbel
 go_wp2_with fail
 refine (K2.o _ _ _).mono ?_
 rintro e wz ⟨he,rfl⟩
 have he2:e=Ah 7:=by
  rcases he with ⟨he,_⟩ | ⟨_,he⟩
  ·cases he
  ·exact he
 subst he2
 clear he
 unfold Ah
 go_wp2_with fail
 exact ⟨rfl,Or.inr ⟨by decide,rfl⟩,hB2⟩
theorem Dl (K k kf:Nat) (fs) (funcs:Int) (m:Int) (ga gn gc sa sn sc) (ya:Option Addr) (yn yc:Nat) (oa:Option Addr) (on oc:Nat) (va:Option Addr) (vn vc:Nat) (fa fn fc ba bn bc) (cs:List Value) (d) (w:World) (hv:vn<=9223372036854775807) (h0f:0<=funcs) (h1f:funcs<=9223372036854775807) (hyl:yn<=9223372036854775807) (hol:on<=9223372036854775807)
  (hs:RS w K (k+1) cs d) (hfs:AP w K kf (O fa fn fc) fs) (hff:funcs<=fs.length) :
  Calls Tryz.prog 220 #[zg #[zd U m,O ga gn gc,O sa sn sc,O ya yn yc,O oa on oc,O va vn vc,O fa fn fc,O ba bn bc],.agg cs.toArray,zd U funcs] w (Bw (eS1 K vn yn on funcs fs d) w):=by
 obtain ⟨ek,en,xa,xl,xc,aa,ac,ta,tc,ea,ec,rfl,i0,i1,i2,hde,hda,-,-,hek,hen,hxl⟩:=hs.form
 unfold eS1
 by_cases hk:1<=Ad d/\Ad d<=8
 ·rcases (by omega:Ad d=1\/Ad d=2\/Ad d=3\/Ad d=4\/Ad d=5\/Ad d=6\/Ad d=7\/Ad d=8) with h | h | h | h | h | h | h | h
  ·have H:=GA K kf fs (Ao d) (Ak d) funcs m ga gn gc sa sn sc ya yn yc oa on oc va vn vc fa fn fc ba bn bc (Aq d) (Ac d) ek en xa xl xc aa (Ak d).length ac ta (Ae d).length tc ea (Aj d).length ec w hv i1 i2 h0f h1f hyl hol hde hda hfs hff
   have e:(sC (Ad d) (Aq d) (Ac d) ek en xa xl xc aa (Ak d).length ac ta (Ae d).length tc ea (Aj d).length ec).toArray=#[zd U 1,zd U (Aq d),zd U (Ac d),zd U ek,zd U en,O xa xl xc,O aa (Ak d).length ac,O ta (Ae d).length tc,O ea (Aj d).length ec]:=by rw [h]
   rw [e]
   exact H.mono fun e w' hg=>hg.imp (by rw [h];(try rw [hek,hen,hxl]);rfl)
  ·have H:=Gz K kf fs (Ao d) (Ak d) funcs m ga gn gc sa sn sc ya yn yc oa on oc va vn vc fa fn fc ba bn bc (Aq d) (Ac d) ek en xa xl xc aa (Ak d).length ac ta (Ae d).length tc ea (Aj d).length ec w hv i1 i2 h0f h1f hyl hol hde hda hfs hff
   have e:(sC (Ad d) (Aq d) (Ac d) ek en xa xl xc aa (Ak d).length ac ta (Ae d).length tc ea (Aj d).length ec).toArray=#[zd U 2,zd U (Aq d),zd U (Ac d),zd U ek,zd U en,O xa xl xc,O aa (Ak d).length ac,O ta (Ae d).length tc,O ea (Aj d).length ec]:=by rw [h]
   rw [e]
   exact H.mono fun e w' hg=>hg.imp (by rw [h];(try rw [hek,hen,hxl]);rfl)
  ·have H:=Gy K kf fs (Ao d) (Ak d) funcs m ga gn gc sa sn sc ya yn yc oa on oc va vn vc fa fn fc ba bn bc (Aq d) (Ac d) ek en xa xl xc aa (Ak d).length ac ta (Ae d).length tc ea (Aj d).length ec w hv i1 i2 h0f h1f hyl hol hde hda hfs hff
   have e:(sC (Ad d) (Aq d) (Ac d) ek en xa xl xc aa (Ak d).length ac ta (Ae d).length tc ea (Aj d).length ec).toArray=#[zd U 3,zd U (Aq d),zd U (Ac d),zd U ek,zd U en,O xa xl xc,O aa (Ak d).length ac,O ta (Ae d).length tc,O ea (Aj d).length ec]:=by rw [h]
   rw [e]
   exact H.mono fun e w' hg=>hg.imp (by rw [h];(try rw [hek,hen,hxl]);rfl)
  ·have H:=Gx K kf fs (Ao d) (Ak d) funcs m ga gn gc sa sn sc ya yn yc oa on oc va vn vc fa fn fc ba bn bc (Aq d) (Ac d) ek en xa xl xc aa (Ak d).length ac ta (Ae d).length tc ea (Aj d).length ec w hv i1 i2 h0f h1f hyl hol hde hda hfs hff
   have e:(sC (Ad d) (Aq d) (Ac d) ek en xa xl xc aa (Ak d).length ac ta (Ae d).length tc ea (Aj d).length ec).toArray=#[zd U 4,zd U (Aq d),zd U (Ac d),zd U ek,zd U en,O xa xl xc,O aa (Ak d).length ac,O ta (Ae d).length tc,O ea (Aj d).length ec]:=by rw [h]
   rw [e]
   exact H.mono fun e w' hg=>hg.imp (by rw [h];(try rw [hek,hen,hxl]);rfl)
  ·have H:=Gw K kf fs (Ao d) (Ak d) funcs m ga gn gc sa sn sc ya yn yc oa on oc va vn vc fa fn fc ba bn bc (Aq d) (Ac d) ek en xa xl xc aa (Ak d).length ac ta (Ae d).length tc ea (Aj d).length ec w hv i1 i2 h0f h1f hyl hol hde hda hfs hff
   have e:(sC (Ad d) (Aq d) (Ac d) ek en xa xl xc aa (Ak d).length ac ta (Ae d).length tc ea (Aj d).length ec).toArray=#[zd U 5,zd U (Aq d),zd U (Ac d),zd U ek,zd U en,O xa xl xc,O aa (Ak d).length ac,O ta (Ae d).length tc,O ea (Aj d).length ec]:=by rw [h]
   rw [e]
   exact H.mono fun e w' hg=>hg.imp (by rw [h];(try rw [hek,hen,hxl]);rfl)
  ·have H:=Gv K kf fs (Ao d) (Ak d) funcs m ga gn gc sa sn sc ya yn yc oa on oc va vn vc fa fn fc ba bn bc (Aq d) (Ac d) ek en xa xl xc aa (Ak d).length ac ta (Ae d).length tc ea (Aj d).length ec w hv i1 i2 h0f h1f hyl hol hde hda hfs hff
   have e:(sC (Ad d) (Aq d) (Ac d) ek en xa xl xc aa (Ak d).length ac ta (Ae d).length tc ea (Aj d).length ec).toArray=#[zd U 6,zd U (Aq d),zd U (Ac d),zd U ek,zd U en,O xa xl xc,O aa (Ak d).length ac,O ta (Ae d).length tc,O ea (Aj d).length ec]:=by rw [h]
   rw [e]
   exact H.mono fun e w' hg=>hg.imp (by rw [h];(try rw [hek,hen,hxl]);rfl)
  ·have H:=Gu K kf fs (Ao d) (Ak d) funcs m ga gn gc sa sn sc ya yn yc oa on oc va vn vc fa fn fc ba bn bc (Aq d) (Ac d) ek en xa xl xc aa (Ak d).length ac ta (Ae d).length tc ea (Aj d).length ec w hv i1 i2 h0f h1f hyl hol hde hda hfs hff
   have e:(sC (Ad d) (Aq d) (Ac d) ek en xa xl xc aa (Ak d).length ac ta (Ae d).length tc ea (Aj d).length ec).toArray=#[zd U 7,zd U (Aq d),zd U (Ac d),zd U ek,zd U en,O xa xl xc,O aa (Ak d).length ac,O ta (Ae d).length tc,O ea (Aj d).length ec]:=by rw [h]
   rw [e]
   exact H.mono fun e w' hg=>hg.imp (by rw [h];(try rw [hek,hen,hxl]);rfl)
  ·have H:=Gt K kf fs (Ao d) (Ak d) funcs m ga gn gc sa sn sc ya yn yc oa on oc va vn vc fa fn fc ba bn bc (Aq d) (Ac d) ek en xa xl xc aa (Ak d).length ac ta (Ae d).length tc ea (Aj d).length ec w hv i1 i2 h0f h1f hyl hol hde hda hfs hff
   have e:(sC (Ad d) (Aq d) (Ac d) ek en xa xl xc aa (Ak d).length ac ta (Ae d).length tc ea (Aj d).length ec).toArray=#[zd U 8,zd U (Aq d),zd U (Ac d),zd U ek,zd U en,O xa xl xc,O aa (Ak d).length ac,O ta (Ae d).length tc,O ea (Aj d).length ec]:=by rw [h]
   rw [e]
   exact H.mono fun e w' hg=>hg.imp (by rw [h];(try rw [hek,hen,hxl]);rfl)
 ·exact (Ed (Ad d) hk funcs m ga gn gc sa sn sc ya yn yc oa on oc va vn vc fa fn fc ba bn bc (Aq d) (Ac d) ek en xa xl xc aa (Ak d).length ac ta (Ae d).length tc ea (Aj d).length ec w).mono fun e w' hg=>hg.imp (by rw [if_neg (by omega),if_neg (by omega),if_neg (by omega),if_neg (by omega),if_neg (by omega),if_neg (by omega),if_neg (by omega),if_neg (by omega)])
theorem Ch (K kf:Nat) (fs:List FnD) (funcs:Int) (m:Int) (ga gn gc sa sn sc) (ya:Option Addr) (yn yc:Nat) (oa:Option Addr) (on oc:Nat) (va:Option Addr) (vn vc:Nat) (fa fn fc) (ba bn bc) (hv:vn<=9223372036854775807) (h0f:0<=funcs) (h1f:funcs<=9223372036854775807) (hyl:yn<=9223372036854775807) (hol:on<=9223372036854775807) (hff:funcs<=fs.length):∀ (k:Nat) (v:Value) (l:List D) (w:World),AC w K k v l->AP w K kf (O fa fn fc) fs ->
  Calls Tryz.prog 177 #[zg #[zd U m,O ga gn gc,O sa sn sc,O ya yn yc,O oa on oc,O va vn vc,O fa fn fc,O ba bn bc],v,zd U funcs] w (Bw (Bl (l.map (eS K vn yn on funcs fs k))) w):=by
 intro k
 induction k with
 | zero=>
  intro v l w h hf
  obtain rfl:=h.zero
  obtain ⟨-,ao,cap,rfl,-⟩:=h
  have hbel:Ov w (w.alloc (zf #[zd U m,O ga gn gc,O sa sn sc,O ya yn yc,O oa on oc,O va vn vc,O fa fn fc,O ba bn bc] 184)):=bA w _
  show Calls Tryz.prog 177 #[zg #[zd U m,O ga gn gc,O sa sn sc,O ya yn yc,O oa on oc,O va vn vc,O fa fn fc,O ba bn bc],O ao 0 cap,zd U funcs] w _
  clear hf
  go_enter Tryz.func177,Tryz.ntmps177
  go_wp2_with fail
  go_loopw [10] (fun i wr=>i=zd U 0/\Ov w wr) (fun _ _=>0)
  case atStart=>exact ⟨rfl,hbel⟩
  case round=>
   obtain ⟨rfl,hB⟩:=hrel
   go_wp2_with fail
   go_end0
   exact ⟨Or.inl ⟨rfl,rfl⟩,hB⟩
 | succ k ih=>
  intro v l w h hf
  have hlen:l.length<=9223372036854775807:=h.1
  obtain ⟨ao,cap,rfl,hc⟩:=h.2
  obtain ⟨E,hE⟩:∃ E:Int,E=Bl (l.map (eS K vn yn on funcs fs (k+1))):=⟨_,rfl⟩
  rw [<-hE]
  have HE:=Aa hE
  clear hE
  have HC:=Aa hc
  have HF:=Aa hf
  have IH:=Aa ih
  have KS:=Aa fun cs d W (hs:RS W K (k+1) cs d) (hfs:AP W K (max kf (k+1)) (O fa fn fc) fs)=>Dl K k (max kf (k+1)) fs funcs m ga gn gc sa sn sc ya yn yc oa on oc va vn vc fa fn fc ba bn bc cs d W hv h0f h1f hyl hol hs hfs hff
  clear hc ih h hf
  have hbel:Ov w (w.alloc (zf #[zd U m,O ga gn gc,O sa sn sc,O ya yn yc,O oa on oc,O va vn vc,O fa fn fc,O ba bn bc] 184)):=bA w _
  obtain ⟨c0,c1,c2,c3,c4,c5,c6,c7⟩:=rc8 (Az w [zd U m,O ga gn gc,O sa sn sc,O ya yn yc,O oa on oc,O va vn vc,O fa fn fc,O ba bn bc] 184)
  go_enter Tryz.func177,Tryz.ntmps177
  go_wp2_with fail
  go_loopw [10] (fun i wr=>∃ j:Nat,j<=l.length/\i=zd U j/\(∀ s∈l.take j,eS K vn yn on funcs fs (k+1) s=0)/\(wr.cell? ⟨w.heap.size,0,none⟩=some (zd U m)/\wr.cell? ⟨w.heap.size,1,none⟩=some (O ga gn gc)/\wr.cell? ⟨w.heap.size,2,none⟩=some (O sa sn sc)/\wr.cell? ⟨w.heap.size,3,none⟩=some (O ya yn yc)/\wr.cell? ⟨w.heap.size,4,none⟩=some (O oa on oc)/\wr.cell? ⟨w.heap.size,5,none⟩=some (O va vn vc)/\wr.cell? ⟨w.heap.size,6,none⟩=some (O fa fn fc)/\wr.cell? ⟨w.heap.size,7,none⟩=some (O ba bn bc))/\Ov w wr) (fun i _=>l.length - (intOf i).toNat)
  case atStart=>exact ⟨0,Nat.zero_le _,rfl,by simp,⟨c0,c1,c2,c3,c4,c5,c6,c7⟩,hbel⟩
  case round=>
   clear c0 c1 c2 c3 c4 c5 c6 c7 hbel
   obtain ⟨j,hj,rfl,hok,⟨c0,c1,c2,c3,c4,c5,c6,c7⟩,hB⟩:=hrel
   have HOK:=Aa hok
   clear hok
   by_cases hjl:j < l.length
   ·obtain ⟨b,off,rfl,hcl⟩:=HC.o (by rintro rfl;simp at hjl)
    obtain ⟨cs,hl9,hcs,hr⟩:=hcl j l[j] (List.getElem?_eq_getElem hjl)
    have htk:l.take (j+1)=l.take j++[l[j]]:=List.take_succ_eq_append_getElem hjl
    obtain ⟨d,hd⟩:=nm (l[j])
    have hmd:eS K vn yn on funcs fs (k+1) l[j]≠0->E=eS K vn yn on funcs fs (k+1) l[j]:=fun h=>by
     rw [HE.o]
     exact Da hjl HOK.o h
    rw [<-hd] at hr htk hmd
    have HMD:=Aa hmd
    clear hmd
    have HTK:=Aa htk
    obtain ⟨ek,en,xa,xl,xc,aa,ac,ta,tc,ea,ec,hcse,-,-,-,-,-,hT,hE,-,-,-⟩:=hr.form
    subst hcse
    obtain ⟨kd,hkd⟩:=nm (Ad d)
    obtain ⟨vr,hvr⟩:=nm (Aq d)
    obtain ⟨ot,hot⟩:=nm (Ac d)
    obtain ⟨al,hal⟩:=nm ((Ak d).length)
    obtain ⟨tl,htl⟩:=nm ((Ae d).length)
    obtain ⟨el,hel⟩:=nm ((Aj d).length)
    rw [<-hkd,<-hvr,<-hot,<-hal,<-htl,<-hel] at hcs hr
    rw [<-htl] at hT
    rw [<-hel] at hE
    have q0:wr.cell? ⟨b,off+j*9,none⟩=_:=Ab hB _ _ (hcs 0 _ rfl)
    have q1:=Ab hB _ _ (hcs 1 _ rfl)
    have q2:=Ab hB _ _ (hcs 2 _ rfl)
    have q3:=Ab hB _ _ (hcs 3 _ rfl)
    have q4:=Ab hB _ _ (hcs 4 _ rfl)
    have q5:=Ab hB _ _ (hcs 5 _ rfl)
    have q6:=Ab hB _ _ (hcs 6 _ rfl)
    have q7:=Ab hB _ _ (hcs 7 _ rfl)
    have q8:=Ab hB _ _ (hcs 8 _ rfl)
    have hba:Ov wr (wr.alloc (zf #[zd U kd,zd U vr,zd U ot,zd U ek,zd U en,O xa xl xc,O aa al ac,O ta tl tc,O ea el ec] 130)):=bA wr _
    have hBa:=hB.trans (hba.mono hB.size)
    obtain ⟨f0,f1,f2,f3,f4,f5,f6,f7⟩:=co8 hba c0 c1 c2 c3 c4 c5 c6 c7
    obtain ⟨s0,s1,s2,s3,s4,s5,s6,s7,s8⟩:=rc9 (Az wr [zd U kd,zd U vr,zd U ot,zd U ek,zd U en,O xa xl xc,O aa al ac,O ta tl tc,O ea el ec] 130)
    have K1:=Aa (KS.o _ d _ (RS.mono (Ab hBa) (k+1) (k+1) _ d (Nat.le_refl _) hr) ((HF.o.over hBa).mono (Nat.le_max_left _ _)))
    have K2:=Aa fun W (hW:Ov w W)=>IH.o (O ta tl tc) (Ae d) W (hT.over hW) (HF.o.over hW)
    have K3:=Aa fun W (hW:Ov w W)=>IH.o (O ea el ec) (Aj d) W (hE.over hW) (HF.o.over hW)
    clear hT hE hcs hcl hr hl9 hkd hvr hot hal htl hel hd htk
    go_wp2_with fail
    refine (K1.o).mono ?_
    rintro e w1 ⟨he,hb1⟩
    have hB1:=hBa.trans (hb1.mono hBa.size)
    rcases he with ⟨hp1,rfl⟩ | ⟨hnp,rfl⟩
    rotate_left
    ·have he3:eS K vn yn on funcs fs (k+1) d=_:=f3a hnp
     have HN:=(HMD.o (by rw [he3];exact hnp)).trans he3
     subst HN
     have HNX:=Aa hnp
     clear hnp he3
     unfold Ah
     go_wp2_with fail
     exact ⟨rfl,Or.inr ⟨HNX.o,rfl⟩,hB1⟩
    have HP1:=Aa hp1
    obtain ⟨t7,t8,g0,g1,g2,g3,g4,g5,g6,g7⟩:=A4 hb1 s7 s8 f0 f1 f2 f3 f4 f5 f6 f7
    have K2':=Aa (K2.o w1 hB1)
    clear K1 K2 hp1 hb1 hBa hba hB c0 c1 c2 c3 c4 c5 c6 c7 f0 f1 f2 f3 f4 f5 f6 f7 q0 q1 q2 q3 q4 q5 q6 q7 q8 s0 s1 s2 s3 s4 s5 s6 s7 s8
    go_wp2_with fail
    refine (K2'.o).mono ?_
    rintro e w2 ⟨he,hb2⟩
    have hB2:=hB1.trans (hb2.mono hB1.size)
    rcases he with ⟨hp2,rfl⟩ | ⟨hnp,rfl⟩
    rotate_left
    ·have he3:eS K vn yn on funcs fs (k+1) d=_:=f3b HP1.o hnp
     have HN:=(HMD.o (by rw [he3];exact hnp)).trans he3
     subst HN
     have HNX:=Aa hnp
     clear hnp he3
     unfold Ah
     go_wp2_with fail
     exact ⟨rfl,Or.inr ⟨HNX.o,rfl⟩,hB2⟩
    have HP2:=Aa hp2
    obtain ⟨u8,r0,r1,r2,r3,r4,r5,r6,r7⟩:=co9 hb2 t8 g0 g1 g2 g3 g4 g5 g6 g7
    have K3':=Aa (K3.o w2 hB2)
    clear K2' K3 hp2 hb2 hB1 g0 g1 g2 g3 g4 g5 g6 g7 t7 t8
    go_wp2_with fail
    refine (K3'.o).mono ?_
    rintro e w3 ⟨he,hb3⟩
    have hB3:=hB2.trans (hb3.mono hB2.size)
    rcases he with ⟨hp3,rfl⟩ | ⟨hnp,rfl⟩
    rotate_left
    ·have he3:eS K vn yn on funcs fs (k+1) d=_:=f3c HP1.o HP2.o
     have HN:=(HMD.o (by rw [he3];exact hnp)).trans he3
     subst HN
     have HNX:=Aa hnp
     clear hnp he3
     unfold Ah
     go_wp2_with fail
     exact ⟨rfl,Or.inr ⟨HNX.o,rfl⟩,hB3⟩
    obtain ⟨z0,z1,z2,z3,z4,z5,z6,z7⟩:=co8 hb3 r0 r1 r2 r3 r4 r5 r6 r7
    have hnext:∀ s∈l.take (j+1),eS K vn yn on funcs fs (k+1) s=0:=fun s hs=>by
     rw [HTK.o,List.mem_append,List.mem_singleton] at hs
     rcases hs with hs | rfl
     ·exact HOK.o s hs
     ·exact (f3c HP1.o HP2.o).trans hp3
    have HNX:=Aa hnext
    clear hnext hp3 K3' hb3 hB2 r0 r1 r2 r3 r4 r5 r6 r7 u8
    go_wp2_with fail
    exact ⟨⟨j+1,by omega,by go_num,HNX.o,⟨z0,z1,z2,z3,z4,z5,z6,z7⟩,hB3⟩,by simp [intOf];omega⟩
   ·have hall:l.take j=l:=List.take_of_length_le (by omega)
    have hok2:=HOK.o
    rw [hall] at hok2
    have HOK2:=Aa hok2
    clear hok2 hall
    go_wp2_with fail
    go_end0
    exact ⟨Or.inl ⟨by rw [HE.o];exact CD (by intro x hx;obtain ⟨s,hs,rfl⟩:=List.mem_map.1 hx;exact HOK2.o s hs),rfl⟩,hB⟩
theorem f2a {a b:Int} (h:a≠0):Bl [a,b]=a:=by
 have e:[a,b]=[a]++[b]:=rfl
 rw [e,BK,BE,if_neg h]
theorem f2b {a b:Int} (h:a=0):Bl [a,b]=b:=by
 have e:[a,b]=[a]++[b]:=rfl
 rw [e,BK,BE,if_pos h,BE]
def eF (K:Nat) (nv ni no:Nat) (ahead:Int) (fs:List FnD) (k:Nat) (f:FnD):Int:=
 if f.ps.length<=4 then if (∀ p∈f.ps,0<=p/\p < (nv:Int)) then if (∀ i (h:i < f.ps.length),f.ps[i] ∉ f.ps.take i) then Bl [Bl (f.body.map (eS K nv ni no ahead fs k)),Al nv K f.res] else 6 else 5 else 2
abbrev KU (w:World) (m:Int) (ga:Option Addr) (gn gc:Nat) (sa:Option Addr) (sn sc:Nat) (ya:Option Addr) (yn yc:Nat) (oa:Option Addr) (on oc:Nat) (va:Option Addr) (vn vc:Nat) (fa:Option Addr) (fn fc:Nat) (ba:Option Addr) (bn bc:Nat) (pa:Option Addr) (pn pc:Nat) (za:Option Addr) (zn zc:Nat) (ek en:Int) (xa:Option Addr) (xl xc:Nat) (Wz:World):Prop:=Wz.cell? ⟨w.heap.size,0,none⟩=some (zd U m)/\Wz.cell? ⟨w.heap.size,1,none⟩=some (O ga gn gc)/\Wz.cell? ⟨w.heap.size,2,none⟩=some (O sa sn sc)/\Wz.cell? ⟨w.heap.size,3,none⟩=some (O ya yn yc)/\Wz.cell? ⟨w.heap.size,4,none⟩=some (O oa on oc)/\Wz.cell? ⟨w.heap.size,5,none⟩=some (O va vn vc)/\Wz.cell? ⟨w.heap.size,6,none⟩=some (O fa fn fc)/\Wz.cell? ⟨w.heap.size,7,none⟩=some (O ba bn bc)/\Wz.cell? ⟨w.heap.size+1,0,none⟩=some (O pa pn pc)/\Wz.cell? ⟨w.heap.size+1,1,none⟩=some (O za zn zc)/\Wz.cell? ⟨w.heap.size+1,2,none⟩=some (zd U ek)/\Wz.cell? ⟨w.heap.size+1,3,none⟩=some (zd U en)/\Wz.cell? ⟨w.heap.size+1,4,none⟩=some (O xa xl xc)
theorem Cw (K kf k:Nat) (fs:List FnD) (f:FnD) (funcs:Int) (m:Int) (ga gn gc sa sn sc) (ya:Option Addr) (yn yc:Nat) (oa:Option Addr) (on oc:Nat) (va:Option Addr) (vn vc:Nat) (fa fn fc ba bn bc pa pn pc za zn zc) (ek en:Int) (xa xl xc) (w:World)
  (hv:vn<=9223372036854775807) (h0f:0<=funcs) (h1f:funcs<=9223372036854775807) (hyl:yn<=9223372036854775807) (hol:on<=9223372036854775807) (hff:funcs<=fs.length)
  (hp:Ar w (O pa pn pc) f.ps) (hpl:f.ps.length<=maxLen) (hpc:pn<=pc/\pc<=maxLen) (hs:AC w K k (O za zn zc) f.body) (hx:RX w K [zd U ek,zd U en,O xa xl xc] f.res) (hfs:AP w K kf (O fa fn fc) fs) :
  Calls Tryz.prog 176 #[zg #[zd U m,O ga gn gc,O sa sn sc,O ya yn yc,O oa on oc,O va vn vc,O fa fn fc,O ba bn bc],zg #[O pa pn pc,O za zn zc,zd U ek,zd U en,O xa xl xc],zd U funcs] w (Bw (eF K vn yn on funcs fs k f) w):=by
 obtain ⟨E,hE⟩:∃ E:Int,E=eF K vn yn on funcs fs k f:=⟨_,rfl⟩
 rw [<-hE]
 unfold eF at hE
 have HE:=Aa hE
 clear hE
 have K1:=Aa AH
 have K2:=Aa Aw
 have KS:=Aa fun W (hB:Ov w W)=>Ch K kf fs funcs m ga gn gc sa sn sc ya yn yc oa on oc va vn vc fa fn fc ba bn bc hv h0f h1f hyl hol hff k (O za zn zc) f.body W (hs.over hB) (hfs.over hB)
 have KX:=Aa fun W (hB:Ov w W)=>AI K m ga gn gc sa sn sc ya yn yc oa on oc va vn vc fa fn fc ba bn bc _ f.res W (hx.over hB) hv
 have KC:=Aa fun W (hB:Ov w W) (x:Int) (i:Nat) (hi:i<=pn) (c:Nat)=>Ey.contains_any (f.ps.take i) x (O pa i c) W
 have hpn:pn=f.ps.length:=by obtain ⟨a2,c2,he,-⟩:=hp;injection he
 have HP:=Aa hp
 have HPN:=Aa hpn
 have hpn2:pn<=9223372036854775807:=by rw [hpn];exact hpl
 obtain ⟨hpc1,hpc2⟩:=hpc
 have hpc3:pc<=9223372036854775807:=hpc2
 clear hp hpl hs hx hfs hpn hpc2
 have hbel:Ov w ((w.alloc (zf #[zd U m,O ga gn gc,O sa sn sc,O ya yn yc,O oa on oc,O va vn vc,O fa fn fc,O ba bn bc] 184)).alloc (zf #[O pa pn pc,O za zn zc,zd U ek,zd U en,O xa xl xc] 105)):=(bA w _).alloc (by simp) _
 obtain ⟨c0,c1,c2,c3,c4,c5,c6,c7⟩:=rc8 (Cn w [zd U m,O ga gn gc,O sa sn sc,O ya yn yc,O oa on oc,O va vn vc,O fa fn fc,O ba bn bc] 184 (zf #[O pa pn pc,O za zn zc,zd U ek,zd U en,O xa xl xc] 105))
 obtain ⟨f0,f1,f2,f3,f4⟩:=rc5 (CJ w (zf #[zd U m,O ga gn gc,O sa sn sc,O ya yn yc,O oa on oc,O va vn vc,O fa fn fc,O ba bn bc] 184) [O pa pn pc,O za zn zc,zd U ek,zd U en,O xa xl xc] 105)
 go_enter Tryz.func176,Tryz.ntmps176
 go_wp2_with fail
 refine (K1.o _ _ _).mono ?_
 rintro e wz ⟨he,rfl⟩
 rcases he with ⟨hz,rfl⟩ | ⟨hz,rfl⟩
 rotate_left
 ·have HN:E=2:=by rw [HE.o,if_neg (by rw [<-HPN.o];simp at hz;omega)]
  subst HN
  clear hz
  unfold Ah
  go_wp2_with fail
  exact ⟨rfl,Or.inr ⟨by decide,rfl⟩,hbel⟩
 have hp4:pn<=4:=by simp at hz;omega
 have HP4:Hx (f.ps.length<=4):=by rw [<-HPN.o];exact hp4
 clear hz hp4
 go_wp2_with fail
 go_loopw [18] (fun i wr=>∃ n:Nat,n<=pn/\i=zd U n/\(∀ p∈f.ps.take n,0<=p/\p < (vn:Int))/\(KU w m ga gn gc sa sn sc ya yn yc oa on oc va vn vc fa fn fc ba bn bc pa pn pc za zn zc ek en xa xl xc wr)/\Ov w wr) (fun i _=>pn - (intOf i).toNat)
 case atStart=>exact ⟨0,Nat.zero_le _,rfl,by simp,⟨c0,c1,c2,c3,c4,c5,c6,c7,f0,f1,f2,f3,f4⟩,hbel⟩
 case round=>
  clear c0 c1 c2 c3 c4 c5 c6 c7 f0 f1 f2 f3 f4 hbel
  obtain ⟨n,hn,rfl,hok,⟨c0,c1,c2,c3,c4,c5,c6,c7,f0,f1,f2,f3,f4⟩,hB⟩:=hrel
  have HOK:=Aa hok
  clear hok
  by_cases hnl:n < pn
  ·have hnd:n < f.ps.length:=by rw [<-HPN.o];exact hnl
   obtain ⟨a2,kk2,he,hpc⟩:=HP.o
   injection he with e1 e2 e3
   subst e1
   obtain ⟨b,off,rfl,hel⟩:=hpc (by intro h;rw [h] at hnd;simp at hnd)
   have q:=Ab hB _ _ (hel n hnd)
   have htk:f.ps.take (n+1)=f.ps.take n++[f.ps[n]]:=List.take_succ_eq_append_getElem hnd
   obtain ⟨x,hx⟩:=nm (f.ps[n])
   have hmx:=List.getElem_mem hnd
   rw [<-hx] at q htk hmx
   have HTK:=Aa htk
   have HMX:=Aa hmx
   clear hmx
   clear hpc hel hx htk e2 e3
   go_wp2_with fail
   refine (K2.o _ _ _).mono ?_
   rintro e wz ⟨rfl,rfl⟩
   go_wp2_with fail
   refine (K1.o _ _ _).mono ?_
   rintro e wz ⟨he,rfl⟩
   rcases he with ⟨hvar,rfl⟩ | ⟨hz,rfl⟩
   rotate_left
   ·have HN:E=5:=by rw [HE.o,if_pos HP4.o,if_neg (fun hf=>absurd (hf x HMX.o) (by simp at hz;omega))]
    subst HN
    clear hz
    unfold Ah
    go_wp2_with fail
    exact ⟨rfl,Or.inr ⟨by decide,rfl⟩,hB⟩
   have hv2:0<=x/\x < vn:=by simpa using hvar
   have hnx:∀ p∈f.ps.take (n+1),0<=p/\p < (vn:Int):=fun p hp=>by
    rw [HTK.o,List.mem_append,List.mem_singleton] at hp
    rcases hp with hp | rfl
    ·exact HOK.o p hp
    ·exact hv2
   have HNX:=Aa hnx
   clear hnx hv2 hvar
   go_wp2_with fail
   exact ⟨⟨n+1,by omega,by go_num,HNX.o,⟨c0,c1,c2,c3,c4,c5,c6,c7,f0,f1,f2,f3,f4⟩,hB⟩,by simp [intOf];omega⟩
  ·have hall:f.ps.take n=f.ps:=List.take_of_length_le (by rw [<-HPN.o];omega)
   have hok2:=HOK.o
   rw [hall] at hok2
   have HOK2:=Aa hok2
   clear hok2 hall HOK
   obtain ⟨w1,hw1⟩:=nm wr
   rw [<-hw1] at c0 c1 c2 c3 c4 c5 c6 c7 f0 f1 f2 f3 f4 hB ⊢
   clear hw1
   go_wp2_with fail
   go_loopw [33] (fun i wr=>∃ n:Nat,n<=pn/\i=zd U n/\Hx (∀ i (h:i < f.ps.length),i < n->f.ps[i] ∉ f.ps.take i)/\(KU w m ga gn gc sa sn sc ya yn yc oa on oc va vn vc fa fn fc ba bn bc pa pn pc za zn zc ek en xa xl xc wr)/\Ov w wr) (fun i _=>pn - (intOf i).toNat)
   case atStart=>exact ⟨0,Nat.zero_le _,rfl,Aa (fun i h hi=>absurd hi (by omega)),⟨c0,c1,c2,c3,c4,c5,c6,c7,f0,f1,f2,f3,f4⟩,hB⟩
   case round=>
    clear c0 c1 c2 c3 c4 c5 c6 c7 f0 f1 f2 f3 f4 hB
    obtain ⟨n,hn,rfl,HDI,⟨c0,c1,c2,c3,c4,c5,c6,c7,f0,f1,f2,f3,f4⟩,hB⟩:=hrel
    by_cases hnl:n < pn
    ·have hnd:n < f.ps.length:=by rw [<-HPN.o];exact hnl
     obtain ⟨a2,kk2,he,hpc⟩:=HP.o
     injection he with e1 e2 e3
     subst e1
     have hpre:=(HP.o.over hB)
     rw [HPN.o] at hpre
     have hpre2:=hpre.prefix (i:=n) (by omega) pc
     obtain ⟨b,off,rfl,hel⟩:=hpc (by intro h;rw [h] at hnd;simp at hnd)
     have q:=Ab hB _ _ (hel n hnd)
     obtain ⟨x,hx⟩:=nm (f.ps[n])
     rw [<-hx] at q
     have HXE:=Aa hx
     have HND:=Aa hnd
     have KC':=Aa (Ey.contains_any _ x _ _ hpre2 (by simp;omega))
     clear hpc hel hx e2 e3 hpre hpre2
     go_wp2_with fail
     refine (KC'.o).mono ?_
     rintro e w5 ⟨rfl,nd,rfl⟩
     obtain ⟨rb,hrb⟩:=nm (decide (x∈f.ps.take n))
     rw [<-hrb]
     have HRB:=Aa hrb
     clear hrb
     have hBd:=below_drewN hB nd
     go_wp2_with fail
     refine (K1.o _ _ _).mono ?_
     rintro e wz ⟨he,rfl⟩
     rcases he with ⟨hz,rfl⟩ | ⟨hz,rfl⟩
     rotate_left
     ·have HN:E=6:=by rw [HE.o,if_pos HP4.o,if_pos HOK2.o,if_neg (fun hf=>absurd (hf n HND.o) (by rw [<-HXE.o];have hq:=HRB.o;simp at hz;rw [hz] at hq;simpa using hq))]
      subst HN
      clear hz
      unfold Ah
      go_wp2_with fail
      exact ⟨rfl,Or.inr ⟨by decide,rfl⟩,hBd⟩
     have HDI2:Hx (∀ i (h:i < f.ps.length),i < n+1->f.ps[i] ∉ f.ps.take i):=Aa (fun i h hi=>by
      by_cases hin:i=n
      ·subst hin
       rw [<-HXE.o]
       have hq:=HRB.o
       simp at hz
       rw [hz] at hq
       simpa using hq
      ·exact HDI.o i h (by omega))
     clear hz
     go_wp2_with fail
     exact ⟨⟨n+1,by omega,by go_num,HDI2,⟨c0,c1,c2,c3,c4,c5,c6,c7,f0,f1,f2,f3,f4⟩,hBd⟩,by simp [intOf];omega⟩
    ·have HDI3:Hx (∀ i (h:i < f.ps.length),f.ps[i] ∉ f.ps.take i):=Aa (fun i h=>HDI.o i h (by have:=HPN.o;omega))
     have KS':=Aa (KS.o _ hB)
     go_wp2_with fail
     refine (KS'.o).mono ?_
     rintro e w6 ⟨he,hb6⟩
     have hB6:=hB.trans (hb6.mono hB.size)
     rcases he with ⟨hbd,rfl⟩ | ⟨hnb,rfl⟩
     rotate_left
     ·have HN:E=Bl (f.body.map (eS K vn yn on funcs fs k)):=by rw [HE.o,if_pos HP4.o,if_pos HOK2.o,if_pos HDI3.o];exact f2a hnb
      subst HN
      have HNX:=Aa hnb
      clear hnb
      unfold Ah
      go_wp2_with fail
      exact ⟨rfl,Or.inr ⟨HNX.o,rfl⟩,hB6⟩
     have HBD:=Aa hbd
     obtain ⟨r0,r1,r2,r3,r4,r5,r6,r7,g0,g1⟩:=A4 hb6 c0 c1 c2 c3 c4 c5 c6 c7 f0 f1
     obtain ⟨g2,g3,g4⟩:=co3 hb6 f2 f3 f4
     have KX':=Aa (KX.o _ hB6)
     clear hbd hb6 hB c0 c1 c2 c3 c4 c5 c6 c7 f0 f1 f2 f3 f4 KS'
     go_wp2_with fail
     refine (KX'.o).mono ?_
     rintro e w7 ⟨he,hb7⟩
     have hB7:=hB6.trans (hb7.mono hB6.size)
     rcases he with ⟨hex,rfl⟩ | ⟨hnb,rfl⟩
     rotate_left
     ·have HN:E=Al vn K f.res:=by rw [HE.o,if_pos HP4.o,if_pos HOK2.o,if_pos HDI3.o];exact f2b HBD.o
      subst HN
      have HNX:=Aa hnb
      clear hnb
      unfold Ah
      go_wp2_with fail
      exact ⟨rfl,Or.inr ⟨HNX.o,rfl⟩,hB7⟩
     have HEX:=Aa hex
     clear hex KX'
     go_wp2_with fail
     go_end0
     exact ⟨Or.inl ⟨by rw [HE.o,if_pos HP4.o,if_pos HOK2.o,if_pos HDI3.o];exact (f2b HBD.o).trans HEX.o,rfl⟩,hB7⟩
end Go.Proofs.YtfffpjkcfnekaaaGreat.Ex.Ez
namespace Go.Proofs.YtfffpjkcfnekaaaGreat.Ex.Ez
open Go.RowKit
open Go.Value renaming slice -> O, int -> zd, bool -> ze, agg -> zg, pointer -> zi, tuple -> zj
open Go.IntKind renaming i64 -> U
open Go.Obj renaming cells -> zf
open Go.Ending renaming returned -> zh
def kE (v:Bool × Lab):Int:=if (v.1=false->v.2.r=[]/\v.2.w=[]) then 0 else 1
def eL (m:Int) (gs:List (Int × Int)) (L:List Lab) (vs:List (Bool × Lab)):Int:=Bl [Bl (L.map fun b=>Cj m gs b),Bl (vs.map fun v=>Cj m gs v.2),Bl (vs.map kE)]
theorem Fp {v:Bool × Lab} (h:v.1=false->v.2.r=[]/\v.2.w=[]):kE v=0:=by unfold kE;rw [if_pos h]
theorem Ji {v:Bool × Lab} (h:¬ (v.1=false->v.2.r=[]/\v.2.w=[])):kE v=1:=by unfold kE;rw [if_neg h]
theorem BU {α:Type} {f:α->Int} {l:List α} (h:∀ a∈l,f a=0):Bl (l.map f)=0:=CD (by intro x hx;obtain ⟨a,ha,rfl⟩:=List.mem_map.1 hx;exact h a ha)
abbrev IA (w:World) (m:Int) (ga:Option Addr) (gn gc:Nat) (va:Option Addr) (vn vc:Nat) (Wz:World):Prop:=Wz.cell? ⟨w.heap.size,0,none⟩=some (zd U m)/\Wz.cell? ⟨w.heap.size,1,none⟩=some (O ga gn gc)/\Wz.cell? ⟨w.heap.size,5,none⟩=some (O va vn vc)
theorem C2 (m:Int) (ga gn gc) (sa sn sc) (ya yn yc oa on oc va vn vc) (fa fn fc ba bn bc gs ls ms vs) (w:World) (hg:Bf w (O ga gn gc) gs) (h1:BB w (O ya yn yc) ls) (h2:BB w (O oa on oc) ms) (h3:CT w (O va vn vc) vs)
  (hy:yn<=5) (ho:on<=5) (hyc:ya=none->yc=0) (hoc:oa=none->oc=0) :
  Calls Tryz.prog 174 #[zg #[zd U m,O ga gn gc,O sa sn sc,O ya yn yc,O oa on oc,O va vn vc,O fa fn fc,O ba bn bc]] w (Bw (eL m gs (ls++ms) vs) w):=by
 obtain ⟨E,hE⟩:∃ E:Int,E=eL m gs (ls++ms) vs:=⟨_,rfl⟩
 rw [<-hE]
 unfold eL at hE
 have HE:=Aa hE
 clear hE
 have hbel:Ov w ((w.alloc (zf #[zd U m,O ga gn gc,O sa sn sc,O ya yn yc,O oa on oc,O va vn vc,O fa fn fc,O ba bn bc] 184)).alloc (zf #[O ya yn yc,O oa on oc] 26)):=(bA w _).alloc (by simp) _
 have hrow:Af [O ya yn yc,O oa on oc] ((w.alloc (zf #[zd U m,O ga gn gc,O sa sn sc,O ya yn yc,O oa on oc,O va vn vc,O fa fn fc,O ba bn bc] 184)).alloc (zf #[O ya yn yc,O oa on oc] 26)) (w.heap.size+1):=by
  have r:=Af.new [O ya yn yc,O oa on oc] 26 (w.alloc (zf #[zd U m,O ga gn gc,O sa sn sc,O ya yn yc,O oa on oc,O va vn vc,O fa fn fc,O ba bn bc] 184))
  have hs:(w.alloc (zf #[zd U m,O ga gn gc,O sa sn sc,O ya yn yc,O oa on oc,O va vn vc,O fa fn fc,O ba bn bc] 184)).heap.size=w.heap.size+1:=by simp
  rw [hs] at r
  exact r
 have K1:=Aa (EF (w.heap.size+1) ya yn yc oa on oc ls ms ((w.alloc (zf #[zd U m,O ga gn gc,O sa sn sc,O ya yn yc,O oa on oc,O va vn vc,O fa fn fc,O ba bn bc] 184)).alloc (zf #[O ya yn yc,O oa on oc] 26)) hrow (h1.over hbel) (h2.over hbel) hy ho hyc hoc)
 have KL:=Aa fun (bl:Lab) (pr pw:Value) (W:World) (hW:Ov w W) (hr:AD W pr bl.r) (hw:AD W pw bl.w)=>Ho m (O ga gn gc) gs pr pw bl W (Bz hg hW) hr hw
 have KP:=Aa Cy
 have KM:=Aa AH
 have hvl:vn<=9223372036854775807:=by obtain ⟨hm,a,c,he,-⟩:=h3;injection he with e1 e2 e3;rw [e2];exact hm
 have hlen:(ls++ms).length<=10:=by
  obtain ⟨-,a,c,he,-⟩:=h1
  injection he with e1 e2 e3
  obtain ⟨-,a',c',he',-⟩:=h2
  injection he' with e1' e2' e3'
  simp
  omega
 have HV:=Aa h3
 have hvs:vn=vs.length:=by obtain ⟨hm,a,c,he,-⟩:=h3;injection he
 have HVS:=Aa hvs
 clear hvs
 have zr:=Cn w [zd U m,O ga gn gc,O sa sn sc,O ya yn yc,O oa on oc,O va vn vc,O fa fn fc,O ba bn bc] 184 (zf #[O ya yn yc,O oa on oc] 26)
 have c0:=zr 0 _ rfl
 have c1:=zr 1 _ rfl
 have c3:=zr 3 _ rfl
 have c4:=zr 4 _ rfl
 have c5:=zr 5 _ rfl
 clear zr
 clear h1 h2 h3 hg hrow
 go_enter Tryz.func174,Tryz.ntmps174
 go_wp2_with fail
 refine (K1.o).mono ?_
 rintro e w1 ⟨v,xs,rfl,hown,hcl,hb1⟩
 have hB1:=hbel.trans (hb1.mono hbel.size)
 obtain ⟨d0,d1,d5⟩:=co3 hb1 c0 c1 c5
 obtain ⟨va',vn',vc',hvf⟩:∃ a n c,v=O a n c:=by
  rcases hown.2 with ⟨h,_⟩ | ⟨g,cap,cur,h,_⟩
  ·exact ⟨_,_,_,h⟩
  ·exact ⟨_,_,_,h⟩
 have hnn:vn'=(ls++ms).length:=by
  rcases hown.2 with ⟨h,h'⟩ | ⟨g,cap,cur,h,_⟩
  ·rw [hvf] at h;injection h with e1 e2 e3;omega
  ·rw [hvf] at h;injection h
 subst hvf
 have HO:=Aa hown
 have HCL:=Aa hcl
 have HNN:=Aa hnn
 have hn10:vn'<=10:=by rw [hnn];exact hlen
 clear hown hcl hnn hb1 c0 c1 c3 c4 c5 hbel K1
 go_wp2_with fail
 go_loopw [17] (fun i wr=>∃ n:Nat,n<=vn'/\i=zd U n/\(∀ b∈(ls++ms).take n,Cj m gs b=0)/\(IA w m ga gn gc va vn vc wr)/\Ov w1 wr) (fun i _=>vn' - (intOf i).toNat)
 case atStart=>exact ⟨0,Nat.zero_le _,rfl,by simp,⟨d0,d1,d5⟩,Below.refl _ _⟩
 case round=>
  clear d0 d1 d5
  obtain ⟨n,hn,rfl,hok1,⟨d0,d1,d5⟩,hB⟩:=hrel
  have HOK1:=Aa hok1
  clear hok1
  have hBw:=hB1.trans (hB.mono hB1.size)
  by_cases hnl:n < vn'
  ·have hnd:n < (ls++ms).length:=by rw [<-HNN.o];exact hnl
   obtain ⟨pr,pw,e0,e1,hr,hw⟩:=HCL.o.at n hnd
   obtain ⟨g,cap,hgf,hgb,hgl,hgc⟩:=Em HO.o (by omega)
   have a0:=Ab hB _ _ (hgc _ _ e0)
   have a1:=Ab hB _ _ (hgc _ _ e1)
   rw [Addr.add_lit,Nat.zero_add] at a0 a1
   injection hgf with f1 f2 f3
   subst f1
   obtain ⟨ra,rn,rc,hrf⟩:=A2 hr
   obtain ⟨wa,wn,wc,hwf⟩:=A2 hw
   subst hrf hwf
   have hba:=bA wr (zf #[O ra rn rc,O wa wn wc] 39)
   have hBa:=hBw.trans (hba.mono hBw.size)
   have hB1a:=Ag hB hba
   have K2:=Aa (KL.o (ls++ms)[n] _ _ _ hBa (Ap hr hB1a) (Ap hw hB1a))
   obtain ⟨f0,f1,f5⟩:=co3 hba d0 d1 d5
   obtain ⟨cr,hcr⟩:=nm (Cj m gs (ls++ms)[n])
   rw [<-hcr] at K2
   have HCR:=Aa hcr
   clear hgc hr hw e0 e1 hcr f2 f3
   go_wp2_with fail
   refine (K2.o).mono ?_
   rintro e w2 ⟨rfl,hb2⟩
   have hB2:=Ag hB1a hb2
   have hBw2:=hB1.trans (hB2.mono hB1.size)
   obtain ⟨r0,r1,r5⟩:=co3 hb2 f0 f1 f5
   clear K2 hb2 hBa hB1a hba hB hBw a0 a1 d0 d1 d5 f0 f1 f5
   go_wp2_with fail
   refine (KP.o _ _).mono ?_
   rintro e wz ⟨he,rfl⟩
   rcases he with ⟨hz,rfl⟩ | ⟨hz,rfl⟩
   rotate_left
   ·have hz2:cr≠0:=by simpa using hz
    have h0:Bl ((ls++ms).map fun b=>Cj m gs b)=cr:=by
     rw [HCR.o]
     exact Da (f:=fun b=>Cj m gs b) hnd HOK1.o (by show Cj m gs (ls++ms)[n]≠0;rw [<-HCR.o];exact hz2)
    have HN:E=cr:=by rw [HE.o,f3a (by rw [h0];exact hz2),h0]
    have HNX:=Aa hz2
    clear h0 hz hz2 HCR
    subst HN
    unfold Ah
    go_wp2_with fail
    exact ⟨rfl,Or.inr ⟨HNX.o,rfl⟩,hBw2⟩
   have HZ:=Aa (show cr=0 by simpa using hz)
   clear hz
   go_wp2_with fail
   exact ⟨⟨n+1,by omega,by go_num,BQ hnd HOK1.o (HCR.o.symm.trans HZ.o),⟨r0,r1,r5⟩,hB2⟩,by simp [intOf];omega⟩
  ·obtain ⟨w2,hw2⟩:=nm wr
   rw [<-hw2] at d0 d1 d5 hBw ⊢
   have HALL1:=Aa (BR (by rw [<-HNN.o];omega) HOK1.o)
   clear hw2 hB HO HCL HOK1
   go_wp2_with fail
   go_loopw [32] (fun i wr=>∃ n:Nat,n<=vn/\i=zd U n/\(∀ v∈vs.take n,Cj m gs v.2=0)/\(IA w m ga gn gc va vn vc wr)/\Ov w2 wr) (fun i _=>vn - (intOf i).toNat)
   case atStart=>exact ⟨0,Nat.zero_le _,rfl,by simp,⟨d0,d1,d5⟩,Below.refl _ _⟩
   case round=>
    clear d0 d1 d5 hnl hn
    obtain ⟨n,hn,rfl,hok1,⟨d0,d1,d5⟩,hB⟩:=hrel
    have HOK1:=Aa hok1
    clear hok1
    have hBw3:=hBw.trans (hB.mono hBw.size)
    by_cases hnl:n < vn
    ·obtain ⟨-,ao,cap,he,hel⟩:=HV.o.over hBw3
     injection he with e1 e2 e3
     have hne:vs≠[]:=by intro h;rw [h] at e2;simp at e2;omega
     obtain ⟨b,off,hbo,hel2⟩:=hel hne
     have hnv:n < vs.length:=by omega
     obtain ⟨pr,pw,a0,a1,a2,hr,hw⟩:=hel2 n hnv
     have e1':=e1.trans hbo
     subst e1'
     obtain ⟨kn,hkn⟩:=nm (vs[n].1)
     obtain ⟨lb,hlb⟩:=nm (vs[n].2)
     rw [<-hkn] at a0
     rw [<-hlb] at hr hw
     obtain ⟨ra,rn,rc,hrf⟩:=A2 hr
     obtain ⟨wa,wn,wc,hwf⟩:=A2 hw
     subst hrf hwf
     have HLB:=Aa hlb
     clear hkn hlb hel hel2 e1 e2 e3 hbo
     have hba:=bA wr (zf #[ze kn,O ra rn rc,O wa wn wc] 41)
     have hBa:=hBw3.trans (hba.mono hBw3.size)
     have hB1a:=Ag hB hba
     have K2:=Aa (KL.o lb _ _ _ hBa (Ap hr hba) (Ap hw hba))
     obtain ⟨f0,f1,f5⟩:=co3 hba d0 d1 d5
     obtain ⟨cr,hcr⟩:=nm (Cj m gs lb)
     rw [<-hcr] at K2
     have HCR:=Aa hcr
     clear hr hw hcr
     go_wp2_with fail
     refine (K2.o).mono ?_
     rintro e w3 ⟨rfl,hb2⟩
     have hB2:=Ag hB1a hb2
     have hBw2:=hBw.trans (hB2.mono hBw.size)
     obtain ⟨r0,r1,r5⟩:=co3 hb2 f0 f1 f5
     clear K2 hb2 hBa hB1a hba hB hBw3 a0 a1 a2 d0 d1 d5 f0 f1 f5
     go_wp2_with fail
     refine (KP.o _ _).mono ?_
     rintro e wz ⟨he,rfl⟩
     rcases he with ⟨hz,rfl⟩ | ⟨hz,rfl⟩
     rotate_left
     ·have hz2:cr≠0:=by simpa using hz
      have h0:Bl (vs.map fun v=>Cj m gs v.2)=cr:=by
       rw [HCR.o,HLB.o]
       exact Da (f:=fun v=>Cj m gs v.2) hnv HOK1.o (by show Cj m gs vs[n].2≠0;rw [<-HLB.o,<-HCR.o];exact hz2)
      have HN:E=cr:=by rw [HE.o,f3b (BU HALL1.o) (by rw [h0];exact hz2),h0]
      have HNX:=Aa hz2
      clear h0 hz hz2 HCR
      subst HN
      unfold Ah
      go_wp2_with fail
      exact ⟨rfl,Or.inr ⟨HNX.o,rfl⟩,hBw2⟩
     have HZ:=Aa (show cr=0 by simpa using hz)
     clear hz
     go_wp2_with fail
     exact ⟨⟨n+1,by omega,by go_num,BQ hnv HOK1.o (by rw [<-HLB.o];exact HCR.o.symm.trans HZ.o),⟨r0,r1,r5⟩,hB2⟩,by simp [intOf];omega⟩
    ·obtain ⟨w3,hw3⟩:=nm wr
     rw [<-hw3] at d0 d1 d5 hBw3 ⊢
     have HALL2:=Aa (BR (by rw [<-HVS.o];omega) HOK1.o)
     clear hw3 hB hBw HOK1
     go_wp2_with fail
     go_loopw [48] (fun i wr=>∃ n:Nat,n<=vn/\i=zd U n/\(∀ v∈vs.take n,v.1=false->v.2.r=[]/\v.2.w=[])/\(IA w m ga gn gc va vn vc wr)/\Ov w3 wr) (fun i _=>vn - (intOf i).toNat)
     case atStart=>exact ⟨0,Nat.zero_le _,rfl,by simp,⟨d0,d1,d5⟩,Below.refl _ _⟩
     case round=>
      clear d0 d1 d5 hnl hn
      obtain ⟨n,hn,rfl,hok1,⟨d0,d1,d5⟩,hB⟩:=hrel
      have HOK1:=Aa hok1
      clear hok1
      have hBw:=hBw3.trans (hB.mono hBw3.size)
      by_cases hnl:n < vn
      ·obtain ⟨-,ao,cap,he,hel⟩:=HV.o.over hBw
       injection he with e1 e2 e3
       have hne:vs≠[]:=by intro h;rw [h] at e2;simp at e2;omega
       obtain ⟨b,off,hbo,hel2⟩:=hel hne
       have hnv:n < vs.length:=by omega
       obtain ⟨pr,pw,a0,a1,a2,hr,hw⟩:=hel2 n hnv
       have e1':=e1.trans hbo
       subst e1'
       obtain ⟨kn,hkn⟩:=nm (vs[n].1)
       rw [<-hkn] at a0
       obtain ⟨ra,rn,rc,hrf⟩:=A2 hr
       obtain ⟨wa,wn,wc,hwf⟩:=A2 hw
       subst hrf hwf
       have HKN:Hx (kn=vs[n].1/\rn=vs[n].2.r.length/\wn=vs[n].2.w.length):=⟨hkn,DA hr,DA hw⟩
       clear hkn hel hel2 e1 e2 e3 hbo hr hw
       have HA:Hx (∀ ob:Obj,((wr.alloc ob).cell? ⟨w.heap.size,0,none⟩=some (zd U m)/\(wr.alloc ob).cell? ⟨w.heap.size,1,none⟩=some (O ga gn gc)/\(wr.alloc ob).cell? ⟨w.heap.size,5,none⟩=some (O (some ⟨b,off,none⟩) vn vc))/\Ov w3 (wr.alloc ob)/\Ov w (wr.alloc ob)):=fun ob=>by
        have hba:=bA wr ob
        exact ⟨⟨Ab hba _ _ d0,Ab hba _ _ d1,Ab hba _ _ d5⟩,Ag hB hba,hBw.trans (hba.mono hBw.size)⟩
       clear KL KP d0 d1 d5 hB
       have HNX:Hx ((kn=false->rn=0/\wn=0)->∀ v∈vs.take (n+1),v.1=false->v.2.r=[]/\v.2.w=[]):=fun h=>BQ hnv HOK1.o fun h0=>by
        obtain ⟨h1,h2,h3⟩:=HKN.o
        have:=h (h1.trans h0)
        exact ⟨List.eq_nil_of_length_eq_zero (by omega),List.eq_nil_of_length_eq_zero (by omega)⟩
       have HNG:Hx (¬ (kn=false->rn=0/\wn=0)->E=1):=Aa (fun hn=>by
        have hk1:kE vs[n]=1:=Ji (fun h=>hn fun hk=>by
         obtain ⟨h1,h2,h3⟩:=HKN.o
         obtain ⟨q1,q2⟩:=h (h1.symm.trans hk)
         rw [q1] at h2
         rw [q2] at h3
         exact ⟨h2,h3⟩)
        rw [HE.o,f3c (BU HALL1.o) (BU HALL2.o),Da (f:=kE) hnv (fun v hv=>Fp (HOK1.o v hv)) (by rw [hk1];decide),hk1])
       clear HKN HOK1
       cases kn
       all_goals go_wp2_with fail
       all_goals
        refine (KM.o _ _ _).mono ?_
        rintro e wz ⟨he,rfl⟩
        rcases he with ⟨hz,rfl⟩ | ⟨hz,rfl⟩
        ·have HZ:Hx (∀ v∈vs.take (n+1),v.1=false->v.2.r=[]/\v.2.w=[]):=HNX.o (by first | (intro h;cases h;done) | (intro _;simp at hz;done) | (intro _;simp at hz;omega) | (intro _;simp at *;omega))
         clear hz HNX HNG
         go_wp2_with fail
         exact ⟨⟨n+1,by omega,by go_num,HZ.o,(HA.o _).1,(HA.o _).2.1⟩,by simp [intOf];omega⟩
        ·have HN:E=1:=(HNG.o (by first | (simp at hz;done) | (intro hh;have hq:=hh (by simp);simp at hz;omega)))
         subst HN
         clear hz HNX HNG
         unfold Ah
         go_wp2_with fail
         exact ⟨rfl,Or.inr ⟨by decide,rfl⟩,(HA.o _).2.2⟩
      ·go_wp2_with fail
       go_end0
       exact ⟨Or.inl ⟨by rw [HE.o,f3c (BU HALL1.o) (BU HALL2.o)];exact BU (fun v hv=>Fp (BR (by rw [<-HVS.o];omega) HOK1.o v hv)),rfl⟩,hBw⟩
end Go.Proofs.YtfffpjkcfnekaaaGreat.Ex.Ez
namespace Go.Proofs.YtfffpjkcfnekaaaGreat.Ex.Ez
open Go.RowKit
open Go.Value renaming slice -> O, int -> zd, bool -> ze, agg -> zg, pointer -> zi, tuple -> zj
open Go.IntKind renaming i64 -> U
open Go.Obj renaming cells -> zf
open Go.Ending renaming returned -> zh
theorem Jq {g:Nat->Int} {N n:Nat} (hn:n < N) (h0:∀ i,i < n->g i=0) (h1:g n≠0):Bl ((List.range N).map g)=g n:=by
 have hl:n < (List.range N).length:=by simpa using hn
 have:=Da (f:=g) (das:=List.range N) hl (fun a ha=>h0 a (by rw [List.take_range] at ha;simp at ha;omega)) (by simpa using h1)
 simpa using this
def fnE (K kf:Nat) (vn yn on:Nat) (fs:List FnD) (i:Nat):Int:=if h:i < fs.length then eF K vn yn on (i:Int) fs kf fs[i] else 0
theorem Dt {K kf:Nat} {vn yn on:Nat} {fs:List FnD} {i:Nat} (h:i < fs.length):fnE K kf vn yn on fs i=eF K vn yn on (i:Int) fs kf fs[i]:=by unfold fnE;rw [dif_pos h]
def eP [dc:∀ p:Prop,Decidable p] (K kf:Nat) (m:Int) (vn yn on sn:Nat) (gs:List (Int × Int)) (sp:List Int) (ls ms:List Lab) (vs:List (Bool × Lab)) (fs:List FnD) (l:List D):Int:=
 if Ba m gs=0 then if ((vn:Int)<=16/\(yn:Int)<=5/\(on:Int)<=5/\(fs.length:Int)<=5/\(sn:Int)<=m) then if (∀ x∈sp,0<=x/\x < m) then if eL m gs (ls++ms) vs=0 then if (((Am kf fs:Nat):Int)+(Ai kf l:Nat)<=50/\Ey.dpF kf fs/\Ey.dps kf 1 l) then Bl [Bl ((List.range fs.length).map (fnE K kf vn yn on fs)),Bl (l.map (eS K vn yn on (fs.length:Int) fs kf))] else 2 else eL m gs (ls++ms) vs else 5 else 2 else Ba m gs
open Classical in
theorem Du (K kf:Nat) (m:Int) (ga gn gc sa sn sc ya yn yc oa on oc va vn vc fa fn fc ba bn bc gs sp ls ms vs fs l) (w:World) (h:A1 K kf m ga gn gc sa sn sc ya yn yc oa on oc va vn vc fa fn fc ba bn bc gs sp ls ms vs fs l w) :
  Calls Tryz.prog 113 #[zg #[zd U m,O ga gn gc,O sa sn sc,O ya yn yc,O oa on oc,O va vn vc,O fa fn fc,O ba bn bc]] w (Bw (eP K kf m vn yn on sn gs sp ls ms vs fs l) w):=by
 obtain ⟨E,hE⟩:∃ E:Int,E=eP K kf m vn yn on sn gs sp ls ms vs fs l:=⟨_,rfl⟩
 rw [<-hE]
 unfold eP at hE
 have HE:=Aa hE
 clear hE
 have hfx:fn=fs.length:=by obtain ⟨-,a,c,he,-⟩:=h.funcs;injection he
 have HFX:=Aa hfx
 clear hfx
 have hbel:Ov w (w.alloc (zf #[zd U m,O ga gn gc,O sa sn sc,O ya yn yc,O oa on oc,O va vn vc,O fa fn fc,O ba bn bc] 184)):=bA w _
 have HP:=Aa (h.over hbel)
 have KP:=Aa Cy
 have KM:=Aa AH
 have KO:=Aa Aw
 have KA:=Aa (Go.Proofs.YtfffpjkcfnekaaaGreat.check_any m (O ga gn gc) gs)
 have hvl:vn<=9223372036854775807:=by obtain ⟨hm,a,c,he,-⟩:=h.vars;injection he with e1 e2 e3;rw [e2];exact hm
 obtain ⟨c0,c1,c2,c3,c4,c5,c6,c7⟩:=rc8 (Az w [zd U m,O ga gn gc,O sa sn sc,O ya yn yc,O oa on oc,O va vn vc,O fa fn fc,O ba bn bc] 184)
 clear h
 go_enter Tryz.func113,Tryz.ntmps113
 go_wp2_with fail
 refine (KA.o _ (HP.o.grants)).mono ?_
 rintro e w1 ⟨rfl,hb1⟩
 obtain ⟨d0,d1,d2,d3,d4,d5,d6,d7⟩:=co8 hb1 c0 c1 c2 c3 c4 c5 c6 c7
 have hB1:=hbel.trans (hb1.mono hbel.size)
 have HP1:=Aa (HP.o.over hb1)
 obtain ⟨ce,hce⟩:=nm (Ba m gs)
 rw [<-hce]
 have HCE:=Aa hce
 clear KA c0 c1 c2 c3 c4 c5 c6 c7 hb1 hbel hce HP
 go_wp2_with fail
 refine (KP.o _ _).mono ?_
 rintro e wz ⟨he,rfl⟩
 rcases he with ⟨hz,rfl⟩ | ⟨hz,rfl⟩
 rotate_left
 ·have hz2:ce≠0:=by simpa using hz
  have HN:E=ce:=by rw [HE.o,if_neg (by rw [<-HCE.o];exact hz2)];exact HCE.o.symm
  have HNX:=Aa hz2
  clear hz hz2 HCE
  subst HN
  unfold Ah
  go_wp2_with fail
  exact ⟨rfl,Or.inr ⟨HNX.o,rfl⟩,hB1⟩
 have HCHK:=Aa (show Ba m gs=0 by rw [<-HCE.o];simpa using hz)
 clear hz HCE
 by_cases hlim:((vn:Int)<=16/\(yn:Int)<=5/\(on:Int)<=5/\(fn:Int)<=5/\(sn:Int)<=m)
 rotate_left
 ·have HL:=Aa hlim
  have HN:E=2:=by rw [HE.o,if_pos HCHK.o,if_neg (fun hx=>hlim (by rw [HFX.o];exact hx))]
  subst HN
  clear hlim
  go_wp2_with fail
  all_goals
   refine (KM.o _ _ _).mono ?_
   rintro e wz ⟨he,rfl⟩
   rcases he with ⟨hz,rfl⟩ | ⟨hz,rfl⟩
   ·exfalso
    have:=HL.o
    first | (simp at hz;done) | (simp at hz;omega)
   ·clear hz
    unfold Ah
    go_wp2_with fail
    exact ⟨rfl,Or.inr ⟨by decide,rfl⟩,hB1⟩
 have HLIM:Hx ((vn:Int)<=16/\(yn:Int)<=5/\(on:Int)<=5/\(fs.length:Int)<=5/\(sn:Int)<=m):=Aa (by rw [<-HFX.o];exact hlim)
 obtain ⟨l1,l2,l3,l4,l5⟩:=hlim
 go_wp2_with fail
 refine (KM.o _ _ _).mono ?_
 rintro e wz ⟨he,rfl⟩
 rcases he with ⟨hz,rfl⟩ | ⟨hz,rfl⟩
 rotate_left
 ·cases hz
 clear hz
 have hsn:sn=sp.length:=by obtain ⟨a,c,he,-⟩:=HP1.o.speak;injection he
 have hsl:sn<=9223372036854775807:=by rw [hsn];exact HP1.o.speakL
 have HSN:=Aa hsn
 clear hsn
 go_wp2_with fail
 go_loopw [53] (fun i wr=>∃ n:Nat,n<=sn/\i=zd U n/\(∀ x∈sp.take n,0<=x/\x < m)/\(wr.cell? ⟨w.heap.size,0,none⟩=some (zd U m)/\wr.cell? ⟨w.heap.size,1,none⟩=some (O ga gn gc)/\wr.cell? ⟨w.heap.size,2,none⟩=some (O sa sn sc)/\wr.cell? ⟨w.heap.size,3,none⟩=some (O ya yn yc)/\wr.cell? ⟨w.heap.size,4,none⟩=some (O oa on oc)/\wr.cell? ⟨w.heap.size,5,none⟩=some (O va vn vc)/\wr.cell? ⟨w.heap.size,6,none⟩=some (O fa fn fc)/\wr.cell? ⟨w.heap.size,7,none⟩=some (O ba bn bc))/\Ov wz wr) (fun i _=>sn - (intOf i).toNat)
 case atStart=>exact ⟨0,Nat.zero_le _,rfl,by simp,⟨d0,d1,d2,d3,d4,d5,d6,d7⟩,Below.refl _ _⟩
 case round=>
  clear d0 d1 d2 d3 d4 d5 d6 d7
  obtain ⟨n,hn,rfl,hok1,⟨d0,d1,d2,d3,d4,d5,d6,d7⟩,hB⟩:=hrel
  have HOK1:=Aa hok1
  clear hok1
  have hBw:=hB1.trans (hB.mono hB1.size)
  by_cases hnl:n < sn
  ·obtain ⟨a2,c2,he,hel⟩:=HP1.o.speak.over hB
   injection he with e1 e2 e3
   have hnd:n < sp.length:=by omega
   obtain ⟨b,off,hbo,hel2⟩:=hel (by intro h;rw [h] at hnd;simp at hnd)
   have q:=hel2 n hnd
   have e1':=e1.trans hbo
   subst e1'
   obtain ⟨x,hx⟩:=nm (sp[n])
   rw [<-hx] at q
   have HX:=Aa hx
   clear hel hel2 hx e1 e2 e3 hbo
   go_wp2_with fail
   refine (KO.o _ _ _).mono ?_
   rintro e wy ⟨rfl,rfl⟩
   obtain ⟨ok,hok⟩:=nm (decide (0<=x/\x < m))
   rw [<-hok]
   have HOK:=Aa hok
   clear hok
   go_wp2_with fail
   refine (KM.o _ _ _).mono ?_
   rintro e wx ⟨he,rfl⟩
   rcases he with ⟨hz,rfl⟩ | ⟨hz,rfl⟩
   rotate_left
   ·have HN:E=5:=by rw [HE.o,if_pos HCHK.o,if_pos HLIM.o,if_neg (fun hx=>by have h1:=HOK.o;rw [hz] at h1;have h2:=hx x (by rw [HX.o];exact List.getElem_mem _);simp at h1;omega)]
    subst HN
    clear hz
    unfold Ah
    go_wp2_with fail
    exact ⟨rfl,Or.inr ⟨by decide,rfl⟩,hBw⟩
   have HZ:=Aa (show 0<=x/\x < m by have h:=HOK.o;rw [hz] at h;simpa using h.symm)
   clear hz HOK
   go_wp2_with fail
   exact ⟨⟨n+1,by omega,by go_num,BQ hnd HOK1.o (by rw [<-HX.o];exact HZ.o),⟨d0,d1,d2,d3,d4,d5,d6,d7⟩,hB⟩,by simp [intOf];omega⟩
  ·have HP2:=Aa (HP1.o.over hB)
   obtain ⟨w2,hw2⟩:=nm wr
   rw [<-hw2] at d0 d1 d2 d3 d4 d5 d6 d7 hBw HP2 ⊢
   have HSP:=Aa (BR (by rw [<-HSN.o];omega) HOK1.o)
   clear hw2 hB HP1 hB1 HOK1
   have KL:=Aa (C2 m ga gn gc sa sn sc ya yn yc oa on oc va vn vc fa fn fc ba bn bc gs ls ms vs w2 HP2.o.grants HP2.o.ins HP2.o.outs HP2.o.vars (by omega) (by omega) HP2.o.insN HP2.o.outsN)
   go_wp2_with fail
   refine (KL.o).mono ?_
   rintro e w3 ⟨he,hb3⟩
   have hBw3:=hBw.trans (hb3.mono hBw.size)
   have HP3:=Aa (HP2.o.over hb3)
   obtain ⟨r0,r1,r2,r3,r4,r5,r6,r7⟩:=co8 hb3 d0 d1 d2 d3 d4 d5 d6 d7
   clear KL d0 d1 d2 d3 d4 d5 d6 d7
   rcases he with ⟨hlab,rfl⟩ | ⟨hng,rfl⟩
   rotate_left
   ·have HN:E=eL m gs (ls++ms) vs:=by rw [HE.o,if_pos HCHK.o,if_pos HLIM.o,if_pos HSP.o,if_neg hng]
    subst HN
    have HNX:=Aa hng
    clear hng
    unfold Ah
    go_wp2_with fail
    exact ⟨rfl,Or.inr ⟨HNX.o,rfl⟩,hBw3⟩
   have HLAB:=Aa hlab
   clear hb3 HP2 hBw hlab
   have KI:=Aa (Ey.limits_any K kf m ga gn gc sa sn sc ya yn yc oa on oc va vn vc fa fn fc ba bn bc fs l w3 HP3.o.funcs HP3.o.main)
   go_wp2_with fail
   refine (KI.o).mono ?_
   rintro e w4 ⟨he,hb4⟩
   have hBw4:=hBw3.trans (hb4.mono hBw3.size)
   have HP4:=Aa (HP3.o.over hb4)
   obtain ⟨d0,d1,d2,d3,d4,d5,d6,d7⟩:=co8 hb4 r0 r1 r2 r3 r4 r5 r6 r7
   clear KI r0 r1 r2 r3 r4 r5 r6 r7
   rcases he with ⟨rfl,hlm⟩ | ⟨hng,rfl⟩
   rotate_left
   ·have HN:E=2:=by rw [HE.o,if_pos HCHK.o,if_pos HLIM.o,if_pos HSP.o,if_pos HLAB.o,if_neg hng]
    subst HN
    clear hng
    unfold Ah
    go_wp2_with fail
    exact ⟨rfl,Or.inr ⟨by decide,rfl⟩,hBw4⟩
   have HLM:=Aa hlm
   have hfn:fn=fs.length:=by obtain ⟨-,a,c,he,-⟩:=HP4.o.funcs;injection he
   have HFN:=Aa hfn
   clear hb4 HP3 hBw3 hlm hfn
   go_wp2_with fail
   go_loopw [73] (fun i wr=>∃ n:Nat,n<=fn/\i=zd U n/\(∀ j (h:j < fs.length),j < n->eF K vn yn on (j:Int) fs kf fs[j]=0)/\(wr.cell? ⟨w.heap.size,0,none⟩=some (zd U m)/\wr.cell? ⟨w.heap.size,1,none⟩=some (O ga gn gc)/\wr.cell? ⟨w.heap.size,2,none⟩=some (O sa sn sc)/\wr.cell? ⟨w.heap.size,3,none⟩=some (O ya yn yc)/\wr.cell? ⟨w.heap.size,4,none⟩=some (O oa on oc)/\wr.cell? ⟨w.heap.size,5,none⟩=some (O va vn vc)/\wr.cell? ⟨w.heap.size,6,none⟩=some (O fa fn fc)/\wr.cell? ⟨w.heap.size,7,none⟩=some (O ba bn bc))/\Ov w4 wr) (fun i _=>fn - (intOf i).toNat)
   case atStart=>exact ⟨0,Nat.zero_le _,rfl,fun j h h'=>absurd h' (by omega),⟨d0,d1,d2,d3,d4,d5,d6,d7⟩,Below.refl _ _⟩
   case round=>
    clear d0 d1 d2 d3 d4 d5 d6 d7
    obtain ⟨n,hn,rfl,hok,⟨d0,d1,d2,d3,d4,d5,d6,d7⟩,hB⟩:=hrel
    have HOK:=Aa hok
    clear hok
    have hBw:=hBw4.trans (hB.mono hBw4.size)
    by_cases hnl:n < fn
    ·obtain ⟨-,ao,cap,he,hel⟩:=HP4.o.funcs.over hB
     injection he with e1 e2 e3
     have hnd:n < fs.length:=by omega
     obtain ⟨b,off,hbo,hel2⟩:=hel (by intro h;rw [h] at hnd;simp at hnd)
     obtain ⟨vP,vB,x0,x1,x2,q0,q1,q2,q3,q4,hp,⟨hpl,pa,pc,hvp,hpc⟩,hs,hx⟩:=hel2 n hnd
     have e1':=e1.trans hbo
     subst e1'
     subst hvp
     have hs0:=hs
     obtain ⟨-,za,zc,hvb,-⟩:=hs0
     subst hvb
     obtain ⟨xa,xc,hxf⟩:=hx.form
     simp only [List.cons.injEq,and_true] at hxf
     obtain ⟨rfl,rfl,rfl⟩:=hxf
     have hba:=bA wr (zf #[O pa fs[n].ps.length pc,O za fs[n].body.length zc,zd U (Au fs[n].res),zd U (AG fs[n].res),O xa (Ax fs[n].res).length xc] 105)
     have hBa:=hBw.trans (hba.mono hBw.size)
     have hB4a:=Ag hB hba
     have KF:=Aa (Cw K kf kf fs fs[n] (n:Int) m ga gn gc sa sn sc ya yn yc oa on oc va vn vc (some ⟨b,off,none⟩) fn fc ba bn bc pa fs[n].ps.length pc za fs[n].body.length zc (Au fs[n].res) (AG fs[n].res) xa (Ax fs[n].res).length xc _ hvl (by omega) (by omega) (by omega) (by omega) (by omega) (hp.over hba) hpl hpc (hs.over hba) (hx.over hba) (HP4.o.funcs.over hB4a))
     obtain ⟨pl,hpl2⟩:=nm (fs[n].ps.length)
     obtain ⟨zl,hzl2⟩:=nm (fs[n].body.length)
     obtain ⟨ek,hek2⟩:=nm (Au fs[n].res)
     obtain ⟨en,hen2⟩:=nm (AG fs[n].res)
     obtain ⟨xl,hxl2⟩:=nm ((Ax fs[n].res).length)
     rw [<-hpl2,<-hzl2,<-hek2,<-hen2,<-hxl2] at KF hba hBa hB4a
     rw [<-hpl2] at q0
     rw [<-hzl2] at q1
     rw [<-hek2] at q2
     rw [<-hen2] at q3
     rw [<-hxl2] at q4
     obtain ⟨f0,f1,f2,f3,f4,f5,f6,f7⟩:=co8 hba d0 d1 d2 d3 d4 d5 d6 d7
     clear hel hel2 e1 e2 e3 hbo hp hpl hpc hs hx hpl2 hzl2 hek2 hen2 hxl2 d0 d1 d2 d3 d4 d5 d6 d7
     go_wp2_with fail
     refine (KF.o).mono ?_
     rintro e w5 ⟨he,hb5⟩
     have hB5:=Ag hB4a hb5
     have hBw5:=hBa.trans (hb5.mono hBa.size)
     obtain ⟨r0,r1,r2,r3,r4,r5,r6,r7⟩:=co8 hb5 f0 f1 f2 f3 f4 f5 f6 f7
     clear KF f0 f1 f2 f3 f4 f5 f6 f7 hb5 hba hBa hB4a hB hBw q0 q1 q2 q3 q4
     rcases he with ⟨hok,rfl⟩ | ⟨hng,rfl⟩
     rotate_left
     ·have h0:Bl ((List.range fs.length).map (fnE K kf vn yn on fs))=eF K vn yn on (n:Int) fs kf fs[n]:=by
       rw [Jq hnd (fun i hi=>by rw [Dt (by omega)];exact HOK.o i (by omega) hi) (by rw [Dt hnd];exact hng),Dt hnd]
      have HN:E=eF K vn yn on (n:Int) fs kf fs[n]:=by rw [HE.o,if_pos HCHK.o,if_pos HLIM.o,if_pos HSP.o,if_pos HLAB.o,if_pos HLM.o,f2a (by rw [h0];exact hng),h0]
      subst HN
      have HNX:=Aa hng
      clear h0
      clear hng
      unfold Ah
      go_wp2_with fail
      exact ⟨rfl,Or.inr ⟨HNX.o,rfl⟩,hBw5⟩
     have HOK2:=Aa hok
     clear hok
     go_wp2_with fail
     refine ⟨⟨n+1,by omega,by go_num,fun j h h'=>?_,⟨r0,r1,r2,r3,r4,r5,r6,r7⟩,hB5⟩,by simp [intOf];omega⟩
     by_cases hjn:j < n
     ·exact HOK.o j h hjn
     ·obtain rfl:j=n:=by omega
      exact HOK2.o
    ·have KS:=Aa (Ch K kf fs (fn:Int) m ga gn gc sa sn sc ya yn yc oa on oc va vn vc fa fn fc ba bn bc hvl (by omega) (by omega) (by omega) (by omega) (by have:=HFN.o;omega) kf (O ba bn bc) l wr (HP4.o.main.over hB) (HP4.o.funcs.over hB))
     go_wp2_with fail
     refine (KS.o).mono ?_
     rintro e w5 ⟨he,hb5⟩
     have hBw5:=hBw.trans (hb5.mono hBw.size)
     clear KS d0 d1 d2 d3 d4 d5 d6 d7 hb5 hB hBw
     rcases he with ⟨hok,rfl⟩ | ⟨hng,rfl⟩
     rotate_left
     ·have h0:Bl ((List.range fs.length).map (fnE K kf vn yn on fs))=0:=BU (fun i hi=>by
       have hi':i < fs.length:=by simpa using hi
       rw [Dt hi']
       exact HOK.o i hi' (by have:=HFN.o;omega))
      have HN:E=Bl (l.map (eS K vn yn on (fn:Int) fs kf)):=by rw [HE.o,if_pos HCHK.o,if_pos HLIM.o,if_pos HSP.o,if_pos HLAB.o,if_pos HLM.o,f2b h0,HFN.o]
      have HNX:=Aa hng
      clear h0
      subst HN
      clear hng
      unfold Ah
      go_wp2_with fail
      exact ⟨rfl,Or.inr ⟨HNX.o,rfl⟩,hBw5⟩
     have HOK2:=Aa hok
     clear hok
     go_wp2_with fail
     go_end0
     have hfn:=HFN.o
     have hlm:=HLM.o
     refine ⟨Or.inl ⟨?_,rfl⟩,hBw5⟩
     have h0:Bl ((List.range fs.length).map (fnE K kf vn yn on fs))=0:=BU (fun i hi=>by
      have hi':i < fs.length:=by simpa using hi
      rw [Dt hi']
      exact HOK.o i hi' (by omega))
     rw [HE.o,if_pos HCHK.o,if_pos HLIM.o,if_pos HSP.o,if_pos HLAB.o,if_pos HLM.o,f2b h0,<-hfn]
     exact HOK2.o
end Go.Proofs.YtfffpjkcfnekaaaGreat.Ex.Ez
