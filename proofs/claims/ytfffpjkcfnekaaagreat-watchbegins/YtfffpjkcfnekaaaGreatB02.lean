/- Package label: policies: is a name one of the actors, do names rise, is a label right. -/
import Derived.Test.YtfffpjkcfnekaaaGreatB01
import Derived.Maps.AppendAt
import Derived.Deep.CutRange
import Derived.Deep.QuietTactic
import Derived.BigQuiet
import Derived.Deep.RegionHeld2
import Derived.Deep.RegionHeld3
import Derived.Deep.DrawnRows
set_option linter.unusedVariables false
set_option maxHeartbeats 8000000
set_option maxRecDepth 100000
namespace Go.Proofs.YtfffpjkcfnekaaaGreat
open Go.RowKit
open Go.Value renaming slice -> O, int -> U, bool -> zg, agg -> zh, pointer -> zi, tuple -> zk
open Go.IntKind renaming i64 -> zd
open Go.Obj renaming cells -> ze
open Go.Ending renaming returned -> zj
def I6 (p:Int->Bool) (l:List Int):Int:=match l.findIdx? p with | some i=>i | none=>-1
theorem N6 {p:Int->Bool} {l:List Int} {k:Nat} (hk:k < l.length) (h:(l.take k).all (fun g=>!p g)=true) (hp:p l[k]=true):I6 p l=k:=by
 have:l.findIdx? p=some k:=by
  rw [List.findIdx?_eq_some_iff_getElem]
  refine ⟨hk,hp,fun j hj=>?_⟩
  have:=List.all_eq_true.1 h l[j] (by rw [List.mem_take_iff_getElem];exact ⟨j,by omega,rfl⟩)
  simpa using this
 simp [I6,this]
theorem LL {p:Int->Bool} {l:List Int} (h:l.all (fun g=>!p g)=true):I6 p l=-1:=by
 have:l.findIdx? p=none:=by
  rw [List.findIdx?_eq_none_iff]
  intro x hx
  have:=List.all_eq_true.1 h x hx
  simpa using this
 simp [I6,this]
theorem Nb (p:Int->Bool) (l):decide (0<=I6 p l)=l.any p:=by
 unfold I6
 cases h:l.findIdx? p with
 | none=>
  have:l.any p=false:=by rw [List.any_eq_false];intro x hx;have:=(List.findIdx?_eq_none_iff.1 h) x hx;simpa using this
  rw [this];rfl
 | some i=>
  obtain ⟨hi,hp,_⟩:=List.findIdx?_eq_some_iff_getElem.1 h
  have:l.any p=true:=List.any_eq_true.2 ⟨_,List.getElem_mem hi,hp⟩
  rw [this];simp
theorem Ie (F:FuncId) (cv:Value) (p:Int->Bool) (v:Value) (l) (w:World) (hv:AQ w v l) (hn:l.length<=6)
  (hF:Hx (∀ (i:Nat) (h:i < l.length) (w1:World),Ov w w1->Calls Tryz.prog F #[U zd l[i],cv] w1 fun e w2=>e=zj (zg (p l[i]))/\Ov w1 w2))
  (hC:∀ (args:Array Value) (w:World),(callFunc F args).run Tryz.prog w=.ok (.enter F args) w) :
  Calls Tryz.prog 190 #[v,.func (.func F) #[] #[cv]] w fun e w'=>e=zj (U zd (I6 p l))/\Ov w w':=by
 obtain ⟨ao,cap,rfl,hcc⟩:=hv
 go_enter Tryz.func190,Tryz.ntmps190
 go_wp2_with fail
 go_loopw [8] (fun i wr=>∃ k:Nat,k<=l.length/\i=U zd k/\(l.take k).all (fun g=>!p g)=true/\Ov w wr) (fun i _=>l.length - (intOf i).toNat)
 case atStart=>exact ⟨0,Nat.zero_le _,rfl,rfl,Below.refl _ w⟩
 case round=>
  obtain ⟨k,hk,rfl,hall,hbel⟩:=hrel
  by_cases hkl:k < l.length
  ·obtain ⟨b,off,rfl,hcl⟩:=hcc (by rintro rfl;simp at hkl)
   have q0:=hcl k hkl
   have hlt:=bL q0
   rw [<-(Am hbel).1 _ _ hlt] at q0
   have hcall:=hF.o k hkl
   have hat:=fun (hp:p l[k]=true)=>N6 hkl hall hp
   have htk:p l[k]=false->(l.take (k+1)).all (fun g=>!p g)=true:=fun hp=>by
    rw [List.take_succ_eq_append_getElem hkl,List.all_append,hall]
    simp [hp]
   obtain ⟨r,hr⟩:=nm (p l[k])
   obtain ⟨g0,hg0⟩:=nm (l[k])
   rw [<-hr] at hcall hat htk
   rw [<-hg0] at q0 hcall
   have HC:=Aa hcall
   have HA:=Aa hat
   have HT:=Aa htk
   clear hr hg0 hcall hat htk hcl hcc hF
   cases r with
   | true=>
    go_wp2_with fail
    refine (HC.o _ hbel).mono ?_
    rintro e w2 ⟨rfl,hb2⟩
    have hbel2:Ov w w2:=hbel.trans (hb2.mono hbel.size)
    go_wp2_with fail
    go_ret
    exact ⟨by rw [HA.o (by first | rfl | trivial)];rfl,hbel2⟩
   | false=>
    go_wp2_with fail
    refine (HC.o _ hbel).mono ?_
    rintro e w2 ⟨rfl,hb2⟩
    have hbel2:Ov w w2:=hbel.trans (hb2.mono hbel.size)
    go_wp2_with fail
    exact ⟨⟨k+1,by omega,by go_num,HT.o (by first | rfl | trivial),hbel2⟩,by simp [intOf];omega⟩
  ·have hke:k=l.length:=by omega
   rw [hke,List.take_length] at hall
   have hx:=LL hall
   clear hall hcc hF
   go_wp2_with fail
   go_ret
   exact ⟨by rw [hx];rfl,hbel⟩
theorem DH (F:FuncId) (cv:Value) (p:Int->Bool) (v:Value) (l) (w:World) (hv:AQ w v l) (hn:l.length<=6)
  (hF:Hx (∀ (i:Nat) (h:i < l.length) (w1:World),Ov w w1->Calls Tryz.prog F #[U zd l[i],cv] w1 fun e w2=>e=zj (zg (p l[i]))/\Ov w1 w2))
  (hC:∀ (args:Array Value) (w:World),(callFunc F args).run Tryz.prog w=.ok (.enter F args) w) :
  Calls Tryz.prog 124 #[v,.func (.func F) #[] #[cv]] w fun e w'=>e=zj (zg (l.any p))/\Ov w w':=by
 have hI:=Ie F cv p v l w hv hn hF hC
 have hx:=Nb p l
 obtain ⟨r,hr⟩:=nm (I6 p l)
 rw [<-hr] at hI hx
 rw [<-hx]
 have HI:=Aa hI
 clear hI hx hr hv hC hF
 obtain ⟨u,hu⟩:=nm v
 go_enter Tryz.func124,Tryz.ntmps124
 go_wp2_with fail
 refine (HI.o).mono ?_
 rintro e w1 ⟨rfl,hb1⟩
 go_wp2_with fail
 go_ret
 exact ⟨by simp,hb1⟩
theorem Qs (args:Array Value) (w:World):(callFunc 213 args).run Tryz.prog w=.ok (.enter 213 args) w:=by simp [go_sem]
theorem Qt (args:Array Value) (w:World):(callFunc 128 args).run Tryz.prog w=.ok (.enter 128 args) w:=by simp [go_sem]
theorem Gi (m x:Int) (b:Nat) (w:World) (h0:w.cell? ⟨b,0,none⟩=some (U zd m)) :
  Calls Tryz.prog 213 #[U zd x,zi (some ⟨b,0,none⟩)] w fun e w'=>e=zj (zg (!Bw m x))/\Ov w w':=by
 by_cases h1:x < 0
 ·have hx:Bw m x=false:=by simp [Bw];omega
  rw [hx]
  clear hx
  go_enter Tryz.func213,Tryz.ntmps213
  go_wp2_with fail
  go_ret
  exact ⟨by simp,Below.refl _ w⟩
 ·by_cases h2:m<=x
  ·have hx:Bw m x=false:=by simp [Bw];omega
   rw [hx]
   clear hx
   go_enter Tryz.func213,Tryz.ntmps213
   go_wp2_with fail
   go_ret
   exact ⟨by simp,Below.refl _ w⟩
  ·have hx:Bw m x=true:=by simp [Bw];omega
   rw [hx]
   clear hx
   go_enter Tryz.func213,Tryz.ntmps213
   go_wp2_with fail
   go_ret
   exact ⟨by simp,Below.refl _ w⟩
theorem MM (v:Value) (l) (w:World) (hv:AQ w v l) (hn:l.length<=6) :
  Calls Tryz.prog 214 #[v] w fun e w'=>e=zj (zg (DN l))/\Ov w w':=by
 obtain ⟨ao,cap,rfl,hcc⟩:=hv
 have HCC:=Aa hcc
 clear hcc
 go_enter Tryz.func214,Tryz.ntmps214
 go_wp2_with fail
 go_loopw [3] (fun i wr=>∃ k n:Nat,k<=6/\i=U zd ((k:Int)+1)/\(∀ j (h:j+1 < l.length),j < k->l[j] < l[j+1])/\wr=w.drewN n) (fun i _=>10 - (intOf i).toNat)
 case atStart=>exact ⟨0,0,Nat.zero_le _,rfl,fun j _ h=>absurd h (Nat.not_lt_zero _),rfl⟩
 case round=>
  obtain ⟨k,n,hk,rfl,hall,rfl⟩:=hrel
  by_cases hkl:k+1 < l.length
  ·obtain ⟨b,off,rfl,hcl⟩:=HCC.o (by rintro rfl;simp at hkl)
   have q0:=hcl k (by omega)
   have q1:=hcl (k+1) hkl
   have hnext:l[k] < l[k+1]->∀ j (h:j+1 < l.length),j < k+1->l[j] < l[j+1]:=fun h j hj hjk=>by
    by_cases e:j=k
    ·subst e;exact h
    ·exact hall j hj (by omega)
   have hstop:¬ l[k] < l[k+1]->DN l=false:=fun h=>by
    rw [Bool.eq_false_iff]
    intro hh
    exact h ((G6 l).1 hh k hkl)
   obtain ⟨x,hx⟩:=nm (l[k])
   obtain ⟨y,hy⟩:=nm (l[k+1])
   rw [<-hx] at q0
   rw [<-hy] at q1
   rw [<-hx,<-hy] at hnext hstop
   have HN:=Aa hnext
   have HS:=Aa hstop
   have k1:((k:Int)+1) < (l.length:Int):=by omega
   have a1:(0:Int)<=(k:Int)+1:=by omega
   have a2:(0:Int)<=(k:Int):=by omega
   have a3:(k:Int) < (l.length:Int):=by omega
   have q1':w.cell? ⟨b,off+(k+1),none⟩=some (U zd y):=q1
   clear hnext hstop hx hy hcl hall HCC q1
   by_cases hxy:y<=x
   ·go_wp2_with fail
    go_region
    go_wp2_with fail
    go_ret
    exact ⟨by rw [HS.o (by omega)];rfl,below_drewN (Below.refl _ w) (n+1)⟩
   ·go_wp2_with fail
    go_region
    go_wp2_with fail
    exact ⟨⟨k+1,n+1,by omega,by go_num,HN.o (by omega),by first | rfl | trivial⟩,by simp [intOf];omega⟩
  ·have hr:DN l=true:=(G6 l).2 fun j hj=>hall j hj (by omega)
   have HR:=Aa hr
   have k1:¬ ((k:Int)+1) < (l.length:Int):=by omega
   clear hr hall HCC
   go_wp2_with fail
   go_ret
   exact ⟨by rw [HR.o];rfl,below_drewN (Below.refl _ w) n⟩
theorem FL (m:Int) (s:Value) (p:Pol) (nv:Value) (w:World) (hp:AQ w nv p.names) :
  Calls Tryz.prog 169 #[zh #[U zd m,s],zh #[U zd p.owner,nv]] w fun e w'=>e=zj (U zd (CV m p))/\Ov w w':=by
 obtain ⟨ow,names⟩:=p
 have hE:CV m ⟨ow,names⟩=if Bw m ow=true then (if names.length<=6 then (if (names.any fun x=>!Bw m x)=true then 5 else (if DN names=true then 0 else 4)) else 2) else 5:=by
  unfold CV
  have:names.all (Bw m)=!(names.any fun x=>!Bw m x):=by rw [List.any_eq_not_all_not];simp
  simp only [this]
  cases (names.any fun x=>!Bw m x) <;> simp
 simp only at hp ⊢
 have hbel:Ov w ((w.alloc (ze #[U zd m,s] 24)).alloc (ze #[U zd ow,nv] 87)):=(bA w _).alloc (by simp) _
 have HP:=Aa fun (W:World) (hb:Ov w W)=>BF hp hb
 have hN:=fun (W:World) (h:W.cell? ⟨w.heap.size,0,none⟩=some (U zd m))=>Gi m ow w.heap.size W h
 have hK:=fun (W:World) (hn:names.length<=6) (hB:Ov w W) (h:W.cell? ⟨w.heap.size,0,none⟩=some (U zd m))=>DH 213 (zi (some ⟨w.heap.size,0,none⟩)) (fun x=>!Bw m x) nv names W (BF hp hB) hn (Aa fun i hi w1 hb=>Gi m names[i] w.heap.size w1 (by rw [(Am hb).1 _ _ (bL h)];exact h)) Qs
 have hR:=fun (W:World) (hn:names.length<=6) (hB:Ov w W)=>MM nv names W (BF hp hB) hn
 obtain ⟨r1,hr1⟩:=nm (Bw m ow)
 obtain ⟨r2,hr2⟩:=nm (names.any fun x=>!Bw m x)
 obtain ⟨r3,hr3⟩:=nm (DN names)
 rw [<-hr1,<-hr2,<-hr3] at hE
 rw [<-hr1] at hN
 rw [<-hr2] at hK
 rw [<-hr3] at hR
 have KN:=Aa hN
 have KK:=Aa hK
 have KR:=Aa hR
 have HE:=Aa hE
 obtain ⟨ao,cap,rfl,-⟩:=hp
 clear hN hK hR hE hr1 hr2 hr3
 cases r1 with
 | false=>
  go_enter Tryz.func169,Tryz.ntmps169
  go_wp2_with fail
  refine (KN.o _ (by simp [go_sem])).mono ?_
  rintro e w1 ⟨rfl,hb1⟩
  have hbel1:Ov w w1:=hbel.trans (hb1.mono (by simp;omega))
  go_wp2_with fail
  go_ret
  exact ⟨by rw [HE.o];rfl,hbel1⟩
 | true=>
  go_enter Tryz.func169,Tryz.ntmps169
  go_wp2_with fail
  refine (KN.o _ (by simp [go_sem])).mono ?_
  rintro e w1 ⟨rfl,hb1⟩
  obtain ⟨hc,hf⟩:=Am hb1
  have c0:w1.cell? ⟨w.heap.size,0,none⟩=some (U zd m):=by rw [hc _ _ (by simp;omega)];simp [go_sem]
  have c1:w1.cell? ⟨w.heap.size+1,1,none⟩=some (O ao names.length cap):=by rw [hc _ _ (by simp)];simp [go_sem]
  have hbel1:Ov w w1:=hbel.trans (hb1.mono (by simp;omega))
  clear hc hf hb1 hbel KN
  by_cases hn:names.length<=6
  ·go_wp2_with fail
   refine (KK.o _ hn hbel1 c0).mono ?_
   rintro e w2 ⟨rfl,hb2⟩
   have hbel2:Ov w w2:=hbel1.trans (hb2.mono hbel1.size)
   have d1:w2.cell? ⟨w.heap.size+1,1,none⟩=some (O ao names.length cap):=by rw [(Am hb2).1 _ _ (bL c1)];exact c1
   clear c0 c1 KK
   cases r2 with
   | true=>
    go_wp2_with fail
    go_ret
    exact ⟨by rw [HE.o];simp [hn],hbel2⟩
   | false=>
    go_wp2_with fail
    refine (KR.o _ hn hbel2).mono ?_
    rintro e w3 ⟨rfl,hb3⟩
    have hbel3:Ov w w3:=hbel2.trans (hb3.mono hbel2.size)
    clear d1 KR
    cases r3
    all_goals go_wp2_with fail
    all_goals go_ret
    all_goals exact ⟨by rw [HE.o];simp [hn],hbel3⟩
  ·go_wp2_with fail
   go_ret
   exact ⟨by rw [HE.o];simp [hn],hbel1⟩
theorem Hd {w:World} {v:Value} {ps:List Pol} (h:AN w v ps) {i:Nat} (hi:i < ps.length):∃ b off cap nv,v=O (some ⟨b,off,none⟩) ps.length cap/\w.cell? ⟨b,off+i*2,none⟩=some (U zd ps[i].owner)/\w.cell? ⟨b,off+i*2+1,none⟩=some nv/\AQ w nv ps[i].names:=by
 obtain ⟨ao,cap,rfl,hc⟩:=h
 obtain ⟨b,off,rfl,hcl⟩:=hc (by rintro rfl;simp at hi)
 obtain ⟨h1,nv,h2,h3⟩:=hcl i hi
 exact ⟨b,off,cap,nv,rfl,h1,h2,h3⟩
theorem DF (m:Int) (s vp:Value) (ps:List Pol) (w:World) (hp:AN w vp ps) :
  Calls Tryz.prog 110 #[zh #[U zd m,s],vp] w fun e w'=>e=zj (U zd (Cf m ps))/\Ov w w':=by
 have HP:=Aa hp
 obtain ⟨ao,cap,rfl,-⟩:=hp
 have hbel:Ov w (w.alloc (ze #[U zd m,s] 24)):=bA w _
 have hE:Cf m ps=if ps.length<=4 then Cc m ps else 2:=rfl
 have KP:=Aa fun (p:Pol) (nv:Value) (W:World) (h:AQ W nv p.names)=>FL m s p nv W h
 by_cases hn:ps.length<=4
 ·rw [if_pos hn] at hE
  have HE:=Aa hE
  clear hE
  go_enter Tryz.func110,Tryz.ntmps110
  go_wp2_with fail
  go_loopw [13] (fun i wr=>∃ k:Nat,k<=ps.length/\i=U zd k/\Cc m ps=Cc m (ps.drop k)/\Ov w wr/\wr.cell? ⟨w.heap.size,0,none⟩=some (U zd m)/\wr.cell? ⟨w.heap.size,1,none⟩=some s) (fun i _=>ps.length - (intOf i).toNat)
  case atStart=>exact ⟨0,Nat.zero_le _,rfl,rfl,hbel,by simp [go_sem],by simp [go_sem]⟩
  case round=>
   obtain ⟨k,hk,rfl,hfe,hbw,c0,c1⟩:=hrel
   by_cases hkl:k < ps.length
   ·obtain ⟨b,off,cap',nv,hve,q0,q1,q2⟩:=Hd (Ak HP.o hbw) hkl
    injection hve with e1 e2 e3
    subst e1 e3
    clear e2
    have hfd:=GQ (m:=m) hkl
    rw [<-hfe] at hfd
    have ltb:=bL q0
    have ltw:=bL c0
    have hal:Ov wr (wr.alloc (ze #[U zd ps[k].owner,nv] 87)):=bA wr _
    have hcall:=KP.o ps[k] nv (wr.alloc (ze #[U zd ps[k].owner,nv] 87)) (BF q2 hal)
    obtain ⟨r,hr⟩:=nm (CV m ps[k])
    obtain ⟨ow,how⟩:=nm (ps[k].owner)
    rw [<-hr] at hfd hcall
    rw [<-how] at q0 hal hcall
    obtain ⟨nl,nc,nlen,hnv⟩:∃ a c n,nv=O a n c:=by obtain ⟨a,c,e,_⟩:=q2;exact ⟨a,c,_,e⟩
    subst hnv
    have HC:=Aa hcall
    have HF:=Aa hfd
    have hbw2:=hbw.trans (hal.mono hbw.size)
    clear hr how hcall hfd q2 hfe
    by_cases hr0:r=0
    ·subst hr0
     go_wp2_with fail
     refine (HC.o).mono ?_
     rintro e w2 ⟨rfl,hb2⟩
     have hb3:=hbw2.trans (hb2.mono hbw2.size)
     have ltw':w.heap.size < (wr.alloc (ze #[U zd ow,O nl nlen nc] 87)).heap.size:=by simp;exact Nat.lt_succ_of_lt ltw
     have d0:w2.cell? ⟨w.heap.size,0,none⟩=some (U zd m):=by rw [(Am hb2).1 _ _ ltw',(Am hal).1 _ _ ltw];exact c0
     have d1:w2.cell? ⟨w.heap.size,1,none⟩=some s:=by rw [(Am hb2).1 _ _ ltw',(Am hal).1 _ _ ltw];exact c1
     clear hbw2 hb2 hal q0 q1 c0 c1 HC
     go_wp2_with fail
     exact ⟨⟨k+1,by omega,by go_num,by rw [HF.o];simp,hb3,d0,d1⟩,by simp [intOf];omega⟩
    ·have hne:(r != 0)=true:=by simpa using hr0
     go_wp2_with fail
     refine (HC.o).mono ?_
     rintro e w2 ⟨rfl,hb2⟩
     have hb3:=hbw2.trans (hb2.mono hbw2.size)
     clear hbw2 hb2 hal q0 q1 c0 c1 HC
     go_wp2_with fail
     go_ret
     exact ⟨by rw [HE.o,HF.o];simp [hr0],hb3⟩
   ·have hke:k=ps.length:=by omega
    have hz:Cc m ps=0:=by rw [hfe,hke,List.drop_length];rfl
    have HZ:=Aa hz
    clear hz hfe c0 c1
    go_wp2_with fail
    go_ret
    exact ⟨by rw [HE.o,HZ.o];rfl,hbw⟩
 ·rw [if_neg hn] at hE
  have HE:=Aa hE
  clear hE
  go_enter Tryz.func110,Tryz.ntmps110
  go_wp2_with fail
  go_ret
  exact ⟨by rw [HE.o];rfl,hbel⟩
def AZ (l:List Bool):List Value:=l.map Value.bool
theorem CH (W:World) (o:Obj):(W.alloc o).heap[W.heap.size]? = some o:=heap_alloc_new W o
theorem CT {W W':World} {B:Nat} {v:Value} {k:Nat} {xs:List Value} (h:W.ownsRow B 4 1 v k xs) (hb:Ov W W'):W'.ownsRow B 4 1 v k xs:=by
 obtain ⟨h1,h2⟩:=h
 refine ⟨h1,?_⟩
 rcases h2 with h2 | ⟨g,cap,cur,hv,hg,hh,r⟩
 ·exact Or.inl h2
 ·refine Or.inr ⟨g,cap,cur,hv,hg,?_,r⟩
  rw [hb.block g (Array.getElem?_eq_some_iff.1 hh).1]
  exact hh
theorem Jy {W:World} {B:Nat} {v:Value} {k:Nat} {xs:List Value} (h:W.ownsRow B 4 1 v k xs) (o:Obj):(W.alloc o).ownsRow B 4 1 v k xs:=
 CT h (bA W o)
theorem Ba {W:World} {B:Nat} {v:Value} {k:Nat} {xs:List Value} (h:W.ownsRow B 4 1 v k xs) {p:Addr} (hp:p.block < B) (u:Value):(W.setCell p u).ownsRow B 4 1 v k xs:=
 ownsRow_setCell_below h hp u
theorem NP {W:World} {B:Nat} {v:Value} {k:Nat} {xs:List Value} (h:W.ownsRow B 4 1 v k xs) {g:Nat} (hg:v.ownBlock=some g):B<=g/\g < W.heap.size:=by
 rcases h.2 with ⟨rfl,_⟩ | ⟨g',cap,cur,rfl,hg',hh,_⟩
 ·cases hg
 ·simp [Value.ownBlock] at hg
  subst hg
  exact ⟨hg',(Array.getElem?_eq_some_iff.1 hh).1⟩
def Ps (u v:Value):Prop:=u.ownBlock=none\/u.ownBlock≠v.ownBlock
section
variable {ops:Array Oper} {o:Oper} {a:Act} {W:World} {K:Act->World->Prop} {Q:Exit->Act->World->Prop} {E:Prop}
end
theorem C4 {W:World} {B:Nat} {v:Value} {l:List Bool} (h:W.ownsRow B 4 1 v l.length (AZ l)):AH W v l:=by
 have hc:=fun g=>h.cells (g:=g)
 rcases h.2 with ⟨rfl,h0⟩ | ⟨g,cap,cur,rfl,_⟩
 ·exact ⟨none,0,by rw [h0],fun hne=>absurd (List.eq_nil_of_length_eq_zero h0) hne⟩
 ·refine ⟨_,cap,rfl,fun _=>⟨g,0,rfl,fun i hi=>?_⟩⟩
  have k0:(AZ l)[i]? = some (zg l[i]):=by simp [AZ,hi]
  have h1:=hc g rfl _ _ k0
  have hadd:(⟨g,0,none⟩:Addr).add i=⟨g,i,none⟩:=by unfold Addr.add;split <;> simp_all
  rw [hadd] at h1
  simpa using h1
theorem Ha {W:World} {B B':Nat} {v:Value} {k:Nat} {xs:List Value} (h:W.ownsRow B 4 1 v k xs) (hb:B'<=B):W.ownsRow B' 4 1 v k xs:=by
 obtain ⟨h1,h2⟩:=h
 refine ⟨h1,?_⟩
 rcases h2 with h2 | ⟨g,cap,cur,hv,hg,hh,r⟩
 ·exact Or.inl h2
 ·exact Or.inr ⟨g,cap,cur,hv,Nat.le_trans hb hg,hh,r⟩
def Hl (a b:List Bool) (i:Nat):Bool:=a[i]?.getD false && b[i]?.getD false
def Lr (a b:List Bool) (i:Nat):Bool:=a[i]?.getD false || b[i]?.getD false
def B3 (f:Nat->Bool) (n:Nat):List Bool:=(List.range n).map f
theorem Jp (f:Nat->Bool) (n:Nat):B3 f (n+1)=B3 f n++[f n]:=by simp [B3,List.range_succ]
theorem AO (f:Nat->Bool) (n:Nat):(B3 f n).length=n:=by simp [B3]
def BE (l m:Lev) (n:Nat):Lev:=⟨B3 (Hl l.r m.r) n,B3 (Lr l.w m.w) n⟩
structure Lab where
 r:List Pol
 w:List Pol
def M2 (n:Nat) (b:Lab):Prop:=(b.r.length<=4/\∀ p∈b.r,ET n p)/\(b.w.length<=4/\∀ p∈b.w,ET n p)
def Av (gn:List (Nat × Nat)) (n:Nat) (b:Lab):Lev:=⟨B3 (fun i=>Fg gn n i b.r) n,B3 (fun i=>Fg gn n i b.w) n⟩
def JE (m:Int) (b:Lab):Int:=if Cf m b.r=0 then Cf m b.w else Cf m b.r
theorem Ja {m:Int} {ps:List Pol} (h:Cc m ps=0):∀ p∈ps,CV m p=0:=by
 induction ps with
 | nil=>simp
 | cons p ps ih=>
  rw [Cc] at h
  split at h
  ·rename_i h0
   intro q hq
   rcases List.mem_cons.1 hq with rfl | hq
   ·exact h0
   ·exact ih h q hq
  ·rename_i h0
   exact absurd h h0
theorem Ll {n:Nat} {p:Pol} (h:CV n p=0):ET n p:=by
 unfold CV at h
 split at h
 ·split at h
  ·split at h
   ·rename_i h1 h2 h3
    simp [Bw] at h1
    refine ⟨h1,h2,fun x hx=>?_⟩
    have:=List.all_eq_true.1 h3 x hx
    simp [Bw] at this
    exact this
   ·cases h
  ·cases h
 ·cases h
theorem F4 {n:Nat} {ps:List Pol} (h:Cf n ps=0):ps.length<=4/\∀ p∈ps,ET n p:=by
 unfold Cf at h
 split at h
 ·rename_i h1
  exact ⟨h1,fun p hp=>Ll (Ja h p hp)⟩
 ·cases h
theorem Hb {n:Nat} {b:Lab} (h:JE n b=0):M2 n b:=by
 unfold JE at h
 split at h
 ·rename_i h1
  exact ⟨F4 h1,F4 h⟩
 ·rename_i h1
  exact absurd h h1
def AU:Lev:=⟨[],[]⟩
def AY (w w':World) (v:Value) (L:Lev):Prop:=∃ vr vw,v=zh #[vr,vw]/\w'.ownsRow w.heap.size 4 1 vr L.r.length (AZ L.r)/\w'.ownsRow w.heap.size 4 1 vw L.w.length (AZ L.w)/\Ps vr vw
def A3 (m:Int) (gs:List (Int × Int)) (b:Lab):Int:=if AL m gs=0 then JE m b else AL m gs
def CZ (m:Int) (gs:List (Int × Int)) (l:Lev):Int:=if AL m gs=0 then Cu m l else AL m gs
def EF (m:Int) (gs:List (Int × Int)) (l k:Lev):Int:=if CZ m gs l=0 then CZ m gs k else CZ m gs l
def OQ:Prop:=∀ (m:Int) (v:Value) (gs:List (Int × Int)) (pr pw:Value) (bl:Lab) (w:World),AF w v gs->AN w pr bl.r->AN w pw bl.w ->
 Calls Tryz.prog 48 #[zh #[U zd m,v],zh #[pr,pw]] w fun e w'=>e=zj (U zd (A3 m gs bl))/\Ov w w'
def OK:Prop:=∀ (m:Int) (v:Value) (gs:List (Int × Int)) (pr pw:Value) (bl:Lab) (w:World),AF w v gs->AN w pr bl.r->AN w pw bl.w ->
 Calls Tryz.prog 23 #[zh #[U zd m,v],zh #[pr,pw]] w fun e w'=>∃ vl,e=zj (zk #[vl,U zd (A3 m gs bl)])/\AY w w' vl (if A3 m gs bl=0 then Av (Ay gs) m.toNat bl else AU)/\Ov w w'
def OH:Prop:=∀ (m:Int) (v:Value) (gs:List (Int × Int)) (vl:Value) (l:Lev) (w:World),AF w v gs->A5 w vl l ->
 Calls Tryz.prog 49 #[zh #[U zd m,v],vl] w fun e w'=>e=zj (U zd (CZ m gs l))/\Ov w w'
def OM:Prop:=∀ (m:Int) (v:Value) (gs:List (Int × Int)) (vl vk:Value) (l k:Lev) (w:World),AF w v gs->A5 w vl l->A5 w vk k ->
 Calls Tryz.prog 16 #[zh #[U zd m,v],vl,vk] w fun e w'=>e=zj (zk #[zg (decide (EF m gs l k=0) && AE l k m.toNat),U zd (EF m gs l k)])/\Ov w w'
def QN:Prop:=∀ (m:Int) (v:Value) (gs:List (Int × Int)) (vl vk:Value) (l k:Lev) (w:World),AF w v gs->A5 w vl l->A5 w vk k ->
 Calls Tryz.prog 46 #[zh #[U zd m,v],vl,vk] w fun e w'=>∃ vj,e=zj (zk #[vj,U zd (EF m gs l k)])/\AY w w' vj (if EF m gs l k=0 then BE l k m.toNat else AU)/\Ov w w'
theorem Aw {w:World} {v:Value} {ps:List Pol} (h:AN w v ps):∃ a n c,v=O a n c:=by
 obtain ⟨a,c,e,_⟩:=h
 exact ⟨a,_,c,e⟩
theorem Cp {w:World} {v:Value} {gs:List (Int × Int)} (h:AF w v gs):∃ a n c,v=O a n c:=by
 obtain ⟨a,c,e,_⟩:=h
 exact ⟨a,_,c,e⟩
theorem Kw:OQ:=by
 intro m v gs pr pw bl w hv hp hq
 have hbel:Ov w ((w.alloc (ze #[U zd m,v] 24)).alloc (ze #[pr,pw] 39)):=(bA w _).alloc (by simp) _
 have hC:=fun (W:World) (hB:Ov w W)=>check_any m v gs W (Af hv hB)
 have hP:=fun (W:World) (hB:Ov w W)=>DF m v pr bl.r W (Ak hp hB)
 have hQ:=fun (W:World) (hB:Ov w W)=>DF m v pw bl.w W (Ak hq hB)
 have hE:A3 m gs bl=if AL m gs=0 then (if Cf m bl.r=0 then Cf m bl.w else Cf m bl.r) else AL m gs:=rfl
 obtain ⟨r,hr⟩:=nm (AL m gs)
 obtain ⟨p1,hp1⟩:=nm (Cf m bl.r)
 obtain ⟨p2,hp2⟩:=nm (Cf m bl.w)
 rw [<-hr,<-hp1,<-hp2] at hE
 rw [<-hr] at hC
 rw [<-hp1] at hP
 rw [<-hp2] at hQ
 obtain ⟨va,vn,vc,rfl⟩:=Cp hv
 obtain ⟨pa,pn,pc,rfl⟩:=Aw hp
 obtain ⟨qa,qn,qc,rfl⟩:=Aw hq
 have KC:=Aa hC
 have KP:=Aa hP
 have KQ:=Aa hQ
 have HE:=Aa hE
 clear hC hP hQ hE hr hp1 hp2 hv hp hq
 go_enter Tryz.func48,Tryz.ntmps48
 go_wp2_with fail
 refine (KC.o _ hbel).mono ?_
 rintro e w1 ⟨rfl,hb1⟩
 obtain ⟨hc,hf⟩:=Am hb1
 have c0:w1.cell? ⟨w.heap.size,0,none⟩=some (U zd m):=by rw [hc _ _ (by simp;omega)];simp [go_sem]
 have c1:w1.cell? ⟨w.heap.size,1,none⟩=some (O va vn vc):=by rw [hc _ _ (by simp;omega)];simp [go_sem]
 have c2:w1.cell? ⟨w.heap.size+1,0,none⟩=some (O pa pn pc):=by rw [hc _ _ (by simp)];simp [go_sem]
 have c3:w1.cell? ⟨w.heap.size+1,1,none⟩=some (O qa qn qc):=by rw [hc _ _ (by simp)];simp [go_sem]
 have hB1:Ov w w1:=hbel.trans (hb1.mono (by simp;omega))
 clear hc hf hb1 hbel KC
 by_cases hr0:r=0
 ·subst hr0
  go_wp2_with fail
  refine (KP.o _ hB1).mono ?_
  rintro e w2 ⟨rfl,hb2⟩
  have ltw:=bL c0
  have ltp:=bL c2
  obtain ⟨hc,hf⟩:=Am hb2
  have d0:w2.cell? ⟨w.heap.size,0,none⟩=some (U zd m):=by rw [hc _ _ ltw];exact c0
  have d1:w2.cell? ⟨w.heap.size,1,none⟩=some (O va vn vc):=by rw [hc _ _ ltw];exact c1
  have d3:w2.cell? ⟨w.heap.size+1,1,none⟩=some (O qa qn qc):=by rw [hc _ _ ltp];exact c3
  have hB2:Ov w w2:=hB1.trans (hb2.mono hB1.size)
  clear hc hf hb2 hB1 c0 c1 c2 c3 KP
  by_cases hp0:p1=0
  ·subst hp0
   go_wp2_with fail
   refine (KQ.o _ hB2).mono ?_
   rintro e w3 ⟨rfl,hb3⟩
   have hB3:Ov w w3:=hB2.trans (hb3.mono hB2.size)
   clear d0 d1 d3 hb3 KQ
   go_wp2_with fail
   go_ret
   exact ⟨by rw [HE.o];simp,hB3⟩
  ·have hne:(p1 != 0)=true:=by simpa using hp0
   go_wp2_with fail
   go_ret
   exact ⟨by rw [HE.o];simp [hp0],hB2⟩
 ·have hne:(r != 0)=true:=by simpa using hr0
  go_wp2_with fail
  go_ret
  exact ⟨by rw [HE.o];simp [hr0],hB1⟩
def Ad (W:World) (b n:Nat) (l:List Bool):Prop:=l.length=n/\∀ i (h:i < l.length),W.cell? ⟨b,i,none⟩=some (zg l[i])
theorem EB {W W':World} {b n:Nat} {l:List Bool} (h:Ad W b n l) (hb:Ov W W'):Ad W' b n l:=
 ⟨h.1,fun i hi=>by rw [(Am hb).1 _ _ (bL (h.2 i hi))];exact h.2 i hi⟩
theorem Ip (b kb n:Nat) (l:List Bool) (x:Int) (W:World) (hn:n<=6) (hx:0<=x/\x < n) (h0:W.cell? ⟨b,0,none⟩=some (O (some ⟨kb,0,none⟩) n n)) (hr:Ad W kb n l) :
  Calls Tryz.prog 128 #[U zd x,zi (some ⟨b,0,none⟩)] W fun e w'=>e=zj (zg (l[x.toNat]?.getD false))/\Ov W w':=by
 obtain ⟨k,rfl⟩:∃ k:Nat,x=k:=⟨x.toNat,by omega⟩
 have hk:k < l.length:=by rw [hr.1];omega
 have q:=hr.2 k hk
 have hx2:l[(k:Int).toNat]?.getD false=l[k]:=by simp [hk]
 rw [hx2]
 obtain ⟨y,hy⟩:=nm (l[k])
 rw [<-hy] at q ⊢
 clear hy hx2 hr
 go_enter Tryz.func128,Tryz.ntmps128
 go_wp2_with fail
 go_ret
 exact ⟨by simp,Below.refl _ W⟩
def Hz (l:List Bool) (p:Pol):Bool:=(l[p.owner.toNat]?.getD false) || p.names.any (fun x=>l[x.toNat]?.getD false)
theorem EW (kb n:Nat) (l:List Bool) (vp:Value) (ps:List Pol) (w:World) (hn:n<=6) (hr:Ad w kb n l) (hp:AN w vp ps) (hps:ps.length<=4/\∀ p∈ps,ET n p) :
  Calls Tryz.prog 72 #[O (some ⟨kb,0,none⟩) n n,vp] w fun e w'=>e=zj (zg (ps.all (Hz l)))/\Ov w w':=by
 have HP:=Aa hp
 obtain ⟨ao,cap,rfl,-⟩:=hp
 have hbel:Ov w (w.alloc (ze #[O (some ⟨kb,0,none⟩) n n] 48)):=bA w _
 have KA:=Aa fun (x:Int) (W:World) (hx:0<=x/\x < n) (hB:Ov w W) (h0:W.cell? ⟨w.heap.size,0,none⟩=some (O (some ⟨kb,0,none⟩) n n))=>Ip w.heap.size kb n l x W hn hx h0 (EB hr hB)
 have hl4:=hps.1
 have HPS:=Aa hps.2
 clear hps hr
 go_enter Tryz.func72,Tryz.ntmps72
 go_wp2_with fail
 go_loopw [11] (fun i wr=>∃ k:Nat,k<=ps.length/\i=U zd k/\(ps.take k).all (Hz l)=true/\Ov w wr/\wr.cell? ⟨w.heap.size,0,none⟩=some (O (some ⟨kb,0,none⟩) n n)) (fun i _=>ps.length - (intOf i).toNat)
 case atStart=>exact ⟨0,Nat.zero_le _,rfl,rfl,hbel,by simp [go_sem]⟩
 case round=>
  obtain ⟨k,hk,rfl,hall,hbw,c0⟩:=hrel
  by_cases hkl:k < ps.length
  ·obtain ⟨b,off,cap',nv,hve,q0,q1,q2⟩:=Hd (Ak HP.o hbw) hkl
   injection hve with e1 e2 e3
   subst e1 e3
   clear e2
   obtain ⟨hown,hnm6,hnms⟩:=HPS.o ps[k] (List.getElem_mem hkl)
   have hpr:Hz l ps[k]=((l[ps[k].owner.toNat]?.getD false) || ps[k].names.any (fun x=>l[x.toNat]?.getD false)):=rfl
   have hnext:Hz l ps[k]=true->(ps.take (k+1)).all (Hz l)=true:=fun h=>by
    rw [List.take_succ_eq_append_getElem hkl,List.all_append,hall]
    simp [h]
   have hstop:Hz l ps[k]=false->ps.all (Hz l)=false:=fun h=>by
    rw [List.all_eq_false]
    exact ⟨ps[k],List.getElem_mem hkl,by simp [h]⟩
   have hal:Ov wr (wr.alloc (ze #[U zd ps[k].owner,nv] 87)):=bA wr _
   have hO:=fun (W:World) (hB:Ov w W) (h0:W.cell? ⟨w.heap.size,0,none⟩=some (O (some ⟨kb,0,none⟩) n n))=>KA.o ps[k].owner W hown hB h0
   have hN:=fun (W:World) (hB:Ov w W) (hB2:Ov wr W) (h0:W.cell? ⟨w.heap.size,0,none⟩=some (O (some ⟨kb,0,none⟩) n n))=>DH 128 (zi (some ⟨w.heap.size,0,none⟩)) (fun x=>l[x.toNat]?.getD false) nv ps[k].names W (BF q2 hB2) hnm6 (Aa fun i hi w1 hb=>KA.o ps[k].names[i] w1 (hnms _ (List.getElem_mem hi)) (hB.trans (hb.mono hB.size)) (by rw [(Am hb).1 _ _ (bL h0)];exact h0)) Qt
   obtain ⟨x1,hx1⟩:=nm (l[ps[k].owner.toNat]?.getD false)
   obtain ⟨x2,hx2⟩:=nm (ps[k].names.any (fun x=>l[x.toNat]?.getD false))
   obtain ⟨ow,how⟩:=nm (ps[k].owner)
   rw [<-hx1,<-hx2] at hpr
   rw [hpr] at hnext hstop
   rw [<-hx1] at hO
   rw [<-hx2] at hN
   rw [<-how] at q0 hal hO
   obtain ⟨na,nn,nc,hnv⟩:∃ a n c,nv=O a n c:=by obtain ⟨a,c,e,_⟩:=q2;exact ⟨a,_,c,e⟩
   subst hnv
   have HN:=Aa hnext
   have HS:=Aa hstop
   have KO:=Aa hO
   have KN:=Aa hN
   have hbw2:=hbw.trans (hal.mono hbw.size)
   have ltw:=bL c0
   have ltb:=bL q0
   have c0':(wr.alloc (ze #[U zd ow,O na nn nc] 87)).cell? ⟨w.heap.size,0,none⟩=some (O (some ⟨kb,0,none⟩) n n):=by rw [(Am hal).1 _ _ ltw];exact c0
   have HC0:=Aa c0'
   clear hx1 hx2 how hpr hnext hstop hO hN hall q2 c0' hown hnm6 hnms
   cases x1 with
   | true=>
    go_wp2_with fail
    refine (KO.o _ hbw2 HC0.o).mono ?_
    rintro e w2 ⟨rfl,hb2⟩
    have hb3:=hbw2.trans (hb2.mono hbw2.size)
    have d0:w2.cell? ⟨w.heap.size,0,none⟩=some (O (some ⟨kb,0,none⟩) n n):=by rw [(Am hb2).1 _ _ (bL HC0.o)];exact HC0.o
    clear hb2 hbw2 c0 q0 q1 HC0
    go_wp2_with fail
    exact ⟨⟨k+1,by omega,by go_num,HN.o (by simp),hb3,d0⟩,by simp [intOf];omega⟩
   | false=>
    go_wp2_with fail
    refine (KO.o _ hbw2 HC0.o).mono ?_
    rintro e w2 ⟨rfl,hb2⟩
    have hb3:=hbw2.trans (hb2.mono hbw2.size)
    have d0:w2.cell? ⟨w.heap.size,0,none⟩=some (O (some ⟨kb,0,none⟩) n n):=by rw [(Am hb2).1 _ _ (bL HC0.o)];exact HC0.o
    have d1:w2.cell? ⟨wr.heap.size,1,none⟩=some (O na nn nc):=by rw [(Am hb2).1 _ _ (by simp)];simp [go_sem]
    have hb4:Ov wr w2:=hal.trans (hb2.mono (by simp))
    clear hb2 hbw2 c0 q0 q1 HC0
    go_wp2_with fail
    refine (KN.o _ hb3 hb4 d0).mono ?_
    rintro e w3 ⟨rfl,hb5⟩
    have hb6:=hb3.trans (hb5.mono hb3.size)
    have f0:w3.cell? ⟨w.heap.size,0,none⟩=some (O (some ⟨kb,0,none⟩) n n):=by rw [(Am hb5).1 _ _ (bL d0)];exact d0
    clear hb5 hb3 d0 d1 hb4 KN KO
    cases x2 with
    | true=>
     go_wp2_with fail
     exact ⟨⟨k+1,by omega,by go_num,HN.o (by simp),hb6,f0⟩,by simp [intOf];omega⟩
    | false=>
     go_wp2_with fail
     go_ret
     exact ⟨by rw [HS.o (by simp)];rfl,hb6⟩
  ·have hke:k=ps.length:=by omega
   have hz:ps.all (Hz l)=true:=by rw [hke,List.take_length] at hall;exact hall
   have HZ:=Aa hz
   clear hz hall c0
   go_wp2_with fail
   go_ret
   exact ⟨by rw [HZ.o];rfl,hbw⟩
end Go.Proofs.YtfffpjkcfnekaaaGreat
namespace Go.Proofs.YtfffpjkcfnekaaaGreat.Ex
open Go.RowKit
open Go.Value renaming slice -> O, int -> U, bool -> zg, agg -> zh, pointer -> zi, tuple -> zk
open Go.IntKind renaming i64 -> zd
open Go.Obj renaming cells -> ze
open Go.Ending renaming returned -> zj
def sD (kd va ot:Int) (e:D) (ags ts es:List D):D:=.agg [.lit (.int zd kd),.lit (.int zd va),.lit (.int zd ot),e,.slice ags [],.slice ts [],.slice es []]
def Ag:D->Int
 | .agg (.lit (.int _ n)::_)=>n
 | _=>0
def Ao:D->Int
 | .agg (_::.lit (.int _ n)::_)=>n
 | _=>0
def Ae:D->Int
 | .agg (_::_::.lit (.int _ n)::_)=>n
 | _=>0
def Ap:D->D
 | .agg (_::_::_::e::_)=>e
 | d=>d
def Ah:D->List D
 | .agg (_::_::_::_::.slice l _::_)=>l
 | _=>[]
def Ai:D->List D
 | .agg (_::_::_::_::_::.slice l _::_)=>l
 | _=>[]
def Al:D->List D
 | .agg (_::_::_::_::_::_::.slice l _::_)=>l
 | _=>[]
def RS (w:World) (K:Nat):Nat->List Value->D->Prop
 | 0,_,_=>False
 | k+1,cs,d=>∃ (kd va ot:Int) (x0 x1 x2:Value) (e:D) (vA:Value) (ags:List D) (vT:Value) (ts:List D) (vE:Value) (es:List D),
   cs=[U zd kd,U zd va,U zd ot,x0,x1,x2,vA,vT,vE]/\d=sD kd va ot e ags ts es/\Ce kd/\Ce va/\Ce ot/\RX w K [x0,x1,x2] e/\XS 3 (RX w K) w vA ags/\XS 9 (RS w K k) w vT ts/\XS 9 (RS w K k) w vE es
theorem RS.mono {w w':World} {K:Nat} (hw:∀ a u,w.cell? a=some u->w'.cell? a=some u) :
  ∀ (k m:Nat) (cs:List Value) (d:D),k<=m->RS w K k cs d->RS w' K m cs d:=by
 intro k
 induction k with
 | zero=>intro m cs d _ h;exact h.elim
 | succ k ih=>
  intro m cs d hkm h
  obtain ⟨m',rfl⟩:∃ m',m=m' + 1:=⟨m - 1,by omega⟩
  obtain ⟨kd,va,ot,x0,x1,x2,e,vA,ags,vT,ts,vE,es,hcs,hd,h1,h2,h3,he,hA,hT,hE⟩:=h
  exact ⟨kd,va,ot,x0,x1,x2,e,vA,ags,vT,ts,vE,es,hcs,hd,h1,h2,h3,RX.mono hw K K _ e (Nat.le_refl _) he,
   hA.mono hw (fun cs d _ hh=>RX.mono hw K K cs d (Nat.le_refl _) hh),hT.mono hw (fun cs d _ hh=>ih m' cs d (by omega) hh),hE.mono hw (fun cs d _ hh=>ih m' cs d (by omega) hh)⟩
def Bd (w:World) (K k:Nat) (v:Value) (l:List D):Prop:=XS 9 (RS w K k) w v l
theorem Bd.over {w w':World} {K k:Nat} {v:Value} {l:List D} (h:Bd w K k v l) (hb:Ov w w'):Bd w' K k v l:=
 XS.mono h (Ab hb) (fun cs d _ hh=>RS.mono (Ab hb) k k cs d (Nat.le_refl _) hh)
structure FnD where
 ps:List Int
 body:List D
 res:D
def Cv (fs:List FnD) (c:Int):FnD:=fs.getD c.toNat ⟨[],[],.agg []⟩
def Re (v:Value) (ps:List Int):Prop:=ps.length<=maxLen/\∃ pa pc,v=O pa ps.length pc/\ps.length<=pc/\pc<=maxLen
def Bk (w:World) (K k:Nat) (v:Value) (fs:List FnD):Prop:=
 fs.length<=maxLen/\∃ ao cap,v=O ao fs.length cap/\(fs≠[]->∃ b off,ao=some ⟨b,off,none⟩/\∀ i (h:i < fs.length),∃ (vP vB x0 x1 x2:Value),
  w.cell? ⟨b,off+i*5,none⟩=some vP/\w.cell? ⟨b,off+i*5+1,none⟩=some vB/\w.cell? ⟨b,off+i*5+2,none⟩=some x0/\w.cell? ⟨b,off+i*5+3,none⟩=some x1/\w.cell? ⟨b,off+i*5+4,none⟩=some x2 /\
  AQ w vP fs[i].ps/\Re vP fs[i].ps/\Bd w K k vB fs[i].body/\RX w K [x0,x1,x2] fs[i].res)
theorem Bk.over {w w':World} {K k:Nat} {v:Value} {l:List FnD} (h:Bk w K k v l) (hb:Ov w w'):Bk w' K k v l:=by
 obtain ⟨hm,ao,cap,hv,hc⟩:=h
 refine ⟨hm,ao,cap,hv,fun hne=>?_⟩
 obtain ⟨b,off,hao,hel⟩:=hc hne
 refine ⟨b,off,hao,fun i hi=>?_⟩
 obtain ⟨vP,vB,x0,x1,x2,h0,h1,h2,h3,h4,hp,hpl,hs,hx⟩:=hel i hi
 exact ⟨vP,vB,x0,x1,x2,Ab hb _ _ h0,Ab hb _ _ h1,Ab hb _ _ h2,Ab hb _ _ h3,Ab hb _ _ h4,hp.over hb,hpl,hs.over hb,hx.over hb⟩
def AW (w:World) (v:Value) (ls:List Lab):Prop:=
 ls.length<=maxLen/\∃ ao cap,v=O ao ls.length cap/\(ls≠[]->∃ b off,ao=some ⟨b,off,none⟩/\∀ i (h:i < ls.length),∃ (pr pw:Value),
  w.cell? ⟨b,off+i*2,none⟩=some pr/\w.cell? ⟨b,off+i*2+1,none⟩=some pw/\AN w pr ls[i].r/\AN w pw ls[i].w)
theorem AW.over {w w':World} {v:Value} {l:List Lab} (h:AW w v l) (hb:Ov w w'):AW w' v l:=by
 obtain ⟨hm,ao,cap,hv,hc⟩:=h
 refine ⟨hm,ao,cap,hv,fun hne=>?_⟩
 obtain ⟨b,off,hao,hel⟩:=hc hne
 refine ⟨b,off,hao,fun i hi=>?_⟩
 obtain ⟨pr,pw,h0,h1,hr,hw⟩:=hel i hi
 exact ⟨pr,pw,Ab hb _ _ h0,Ab hb _ _ h1,Ak hr hb,Ak hw hb⟩
def Bh (w:World) (v:Value) (ls:List (Bool × Lab)):Prop:=
 ls.length<=maxLen/\∃ ao cap,v=O ao ls.length cap/\(ls≠[]->∃ b off,ao=some ⟨b,off,none⟩/\∀ i (h:i < ls.length),∃ (pr pw:Value),
  w.cell? ⟨b,off+i*3,none⟩=some (zg ls[i].1)/\w.cell? ⟨b,off+i*3+1,none⟩=some pr/\w.cell? ⟨b,off+i*3+2,none⟩=some pw/\AN w pr ls[i].2.r/\AN w pw ls[i].2.w)
theorem Bh.over {w w':World} {v:Value} {l:List (Bool × Lab)} (h:Bh w v l) (hb:Ov w w'):Bh w' v l:=by
 obtain ⟨hm,ao,cap,hv,hc⟩:=h
 refine ⟨hm,ao,cap,hv,fun hne=>?_⟩
 obtain ⟨b,off,hao,hel⟩:=hc hne
 refine ⟨b,off,hao,fun i hi=>?_⟩
 obtain ⟨pr,pw,h0,h1,h2,hr,hw⟩:=hel i hi
 exact ⟨pr,pw,Ab hb _ _ h0,Ab hb _ _ h1,Ab hb _ _ h2,Ak hr hb,Ak hw hb⟩
def Au (why:Int):Ending:=.panicked [{ v:=.iface 230 (zh #[U zd 0,U zd why]),recovered:=false }]
theorem Ly (why:Int) (w:World):Calls Tryz.prog 215 #[U zd 0,zg false,U zd why] w fun e w'=>e=Au why/\w'=w:=by
 unfold Au
 go_enter Tryz.func215,Tryz.ntmps215
 go_wp2_with fail
 exact ⟨rfl,rfl,rfl⟩
theorem Kr (why:Int) (w:World):Calls Tryz.prog 172 #[zg false,U zd why] w fun e w'=>e=Au why/\w'=w:=by
 have K:=Aa fun W=>Ly why W
 unfold Au at K ⊢
 go_enter Tryz.func172,Tryz.ntmps172
 go_wp2_with fail
 refine (K.o _).mono ?_
 rintro e w1 ⟨rfl,rfl⟩
 go_wp2_with fail
 exact ⟨rfl,rfl,rfl⟩
def Rf (ok:Bool) (why:Int) (w:World) (e:Ending) (w':World):Prop:=(ok=true/\e=zj (zk #[])\/ok=false/\e=Au why)/\w'=w
theorem BL (ok:Bool) (why:Int) (w:World):Calls Tryz.prog 172 #[zg ok,U zd why] w (Rf ok why w):=by
 cases ok with
 | true=>exact (BA why w).mono fun e w' h=>⟨Or.inl ⟨rfl,h.1⟩,h.2⟩
 | false=>exact (Kr why w).mono fun e w' h=>⟨Or.inr ⟨rfl,h.1⟩,h.2⟩
theorem F6 (why:Int) (w:World):Calls Tryz.prog 171 #[U zd why] w (Rf (why == 0) why w):=by
 by_cases h:why=0
 ·subst h
  exact (NN w).mono fun e w' h=>⟨Or.inl ⟨rfl,h.1⟩,h.2⟩
 ·have hb:(why == 0)=false:=by simpa using h
  have K:=Aa fun W=>Kr why W
  have H:Calls Tryz.prog 171 #[U zd why] w fun e w'=>e=Au why/\w'=w:=by
   unfold Au at K ⊢
   go_enter Tryz.func171,Tryz.ntmps171
   go_wp2_with fail
   refine (K.o _).mono ?_
   rintro e w1 ⟨rfl,rfl⟩
   go_wp2_with fail
   exact ⟨rfl,rfl,rfl⟩
  exact H.mono fun e w' h=>⟨Or.inr ⟨hb,h.1⟩,h.2⟩
@[simp] theorem Rj (kd va ot:Int) (e:D) (ags ts es:List D):Ag (sD kd va ot e ags ts es)=kd:=rfl
@[simp] theorem Rp (kd va ot:Int) (e:D) (ags ts es:List D):Ao (sD kd va ot e ags ts es)=va:=rfl
@[simp] theorem QU (kd va ot:Int) (e:D) (ags ts es:List D):Ae (sD kd va ot e ags ts es)=ot:=rfl
@[simp] theorem Rk (kd va ot:Int) (e:D) (ags ts es:List D):Ap (sD kd va ot e ags ts es)=e:=rfl
@[simp] theorem Rm (kd va ot:Int) (e:D) (ags ts es:List D):Ah (sD kd va ot e ags ts es)=ags:=rfl
@[simp] theorem Ri (kd va ot:Int) (e:D) (ags ts es:List D):Ai (sD kd va ot e ags ts es)=ts:=rfl
@[simp] theorem Rl (kd va ot:Int) (e:D) (ags ts es:List D):Al (sD kd va ot e ags ts es)=es:=rfl
abbrev sC (kd va ot ek en:Int) (xa:Option Addr) (xl xc:Nat) (aa:Option Addr) (al ac:Nat) (ta:Option Addr) (tl tc:Nat) (ea:Option Addr) (el ec:Nat):List Value:=
 [U zd kd,U zd va,U zd ot,U zd ek,U zd en,O xa xl xc,O aa al ac,O ta tl tc,O ea el ec]
theorem RS.form {w:World} {K k:Nat} {cs:List Value} {d:D} (h:RS w K (k+1) cs d) :
  ∃ (ek en:Int) (xa:Option Addr) (xl xc:Nat) (aa:Option Addr) (ac:Nat) (ta:Option Addr) (tc:Nat) (ea:Option Addr) (ec:Nat),
   cs=sC (Ag d) (Ao d) (Ae d) ek en xa xl xc aa (Ah d).length ac ta (Ai d).length tc ea (Al d).length ec/\Ce (Ag d)/\Ce (Ao d)/\Ce (Ae d) /\
   RX w K [U zd ek,U zd en,O xa xl xc] (Ap d)/\XS 3 (RX w K) w (O aa (Ah d).length ac) (Ah d)/\Bd w K k (O ta (Ai d).length tc) (Ai d)/\Bd w K k (O ea (Al d).length ec) (Al d) /\
   ek=AK (Ap d)/\en=A6 (Ap d)/\xl=(AX (Ap d)).length:=by
 obtain ⟨kd,va,ot,x0,x1,x2,e,vA,ags,vT,ts,vE,es,rfl,rfl,h1,h2,h3,he,hA,hT,hE⟩:=h
 obtain ⟨xa,xc,hx⟩:=he.form
 simp only [List.cons.injEq,and_true] at hx
 obtain ⟨rfl,rfl,rfl⟩:=hx
 obtain ⟨aa,ac,rfl,-⟩:=hA.2
 obtain ⟨ta,tc,rfl,-⟩:=hT.2
 obtain ⟨ea,ec,rfl,-⟩:=hE.2
 exact ⟨_,_,xa,_,xc,aa,ac,ta,tc,ea,ec,rfl,h1,h2,h3,he,hA,hT,hE,rfl,rfl,rfl⟩
def CJ:Nat->D->Nat
 | 0,_=>0
 | k+1,d=>1+((Ai d).map (CJ k)).sum+((Al d).map (CJ k)).sum
def AC (k:Nat) (l:List D):Nat:=(l.map (CJ k)).sum
theorem Fo {k:Nat} {l:List D} {j:Nat} (hj:j < l.length):AC k (l.take (j+1))=AC k (l.take j)+CJ k l[j]:=by
 unfold AC
 rw [List.take_succ_eq_append_getElem hj,List.map_append,List.sum_append]
 simp
theorem Bd.zero {w:World} {K:Nat} {v:Value} {l:List D} (h:Bd w K 0 v l):l=[]:=by
 cases l with
 | nil=>rfl
 | cons d l=>
  obtain ⟨-,ao,cap,-,hc⟩:=h
  obtain ⟨b,off,-,hel⟩:=hc (by simp)
  obtain ⟨cs,-,-,hr⟩:=hel 0 d rfl
  exact hr.elim
def AV (k:Nat) (fs:List FnD):Nat:=(fs.map fun f=>AC k f.body).sum
theorem Dm {k:Nat} {l:List FnD} {j:Nat} (hj:j < l.length):AV k (l.take (j+1))=AV k (l.take j)+AC k l[j].body:=by
 unfold AV
 rw [List.take_succ_eq_append_getElem hj,List.map_append,List.sum_append]
 simp
def CL (ok:Prop) (w:World) (e:Ending) (w':World):Prop:=((ok/\e=zj (zk #[]))\/∃ why:Int,why≠0/\e=Au why)/\Ov w w'
theorem MJ (w:World):Calls Tryz.prog 243 #[U zd 1] w fun e w'=>e=zj (zk #[zh #[zg true,zg false,zg true,zg false,zg false,zg false],zg true])/\Ov w w':=by
 go_enter Tryz.func243,Tryz.ntmps243
 go_wp2_with fail
 exact bodyPost_ret (v:=zk #[zh #[zg true,zg false,zg true,zg false,zg false,zg false],zg true]) (by simp [results,Tryz.results243,go_sem]) rfl ⟨rfl,bA w _⟩
theorem MI (w:World):Calls Tryz.prog 243 #[U zd 2] w fun e w'=>e=zj (zk #[zh #[zg true,zg true,zg false,zg true,zg false,zg false],zg true])/\Ov w w':=by
 go_enter Tryz.func243,Tryz.ntmps243
 go_wp2_with fail
 exact bodyPost_ret (v:=zk #[zh #[zg true,zg true,zg false,zg true,zg false,zg false],zg true]) (by simp [results,Tryz.results243,go_sem]) rfl ⟨rfl,bA w _⟩
theorem MH (w:World):Calls Tryz.prog 243 #[U zd 3] w fun e w'=>e=zj (zk #[zh #[zg true,zg true,zg false,zg false,zg false,zg false],zg true])/\Ov w w':=by
 go_enter Tryz.func243,Tryz.ntmps243
 go_wp2_with fail
 exact bodyPost_ret (v:=zk #[zh #[zg true,zg true,zg false,zg false,zg false,zg false],zg true]) (by simp [results,Tryz.results243,go_sem]) rfl ⟨rfl,bA w _⟩
theorem MG (w:World):Calls Tryz.prog 243 #[U zd 4] w fun e w'=>e=zj (zk #[zh #[zg false,zg true,zg true,zg false,zg false,zg false],zg true])/\Ov w w':=by
 go_enter Tryz.func243,Tryz.ntmps243
 go_wp2_with fail
 exact bodyPost_ret (v:=zk #[zh #[zg false,zg true,zg true,zg false,zg false,zg false],zg true]) (by simp [results,Tryz.results243,go_sem]) rfl ⟨rfl,bA w _⟩
theorem MF (w:World):Calls Tryz.prog 243 #[U zd 5] w fun e w'=>e=zj (zk #[zh #[zg true,zg false,zg true,zg false,zg false,zg false],zg true])/\Ov w w':=by
 go_enter Tryz.func243,Tryz.ntmps243
 go_wp2_with fail
 exact bodyPost_ret (v:=zk #[zh #[zg true,zg false,zg true,zg false,zg false,zg false],zg true]) (by simp [results,Tryz.results243,go_sem]) rfl ⟨rfl,bA w _⟩
theorem ME (w:World):Calls Tryz.prog 243 #[U zd 6] w fun e w'=>e=zj (zk #[zh #[zg true,zg false,zg true,zg false,zg false,zg false],zg true])/\Ov w w':=by
 go_enter Tryz.func243,Tryz.ntmps243
 go_wp2_with fail
 exact bodyPost_ret (v:=zk #[zh #[zg true,zg false,zg true,zg false,zg false,zg false],zg true]) (by simp [results,Tryz.results243,go_sem]) rfl ⟨rfl,bA w _⟩
theorem MD (w:World):Calls Tryz.prog 243 #[U zd 7] w fun e w'=>e=zj (zk #[zh #[zg false,zg false,zg true,zg false,zg true,zg true],zg true])/\Ov w w':=by
 go_enter Tryz.func243,Tryz.ntmps243
 go_wp2_with fail
 exact bodyPost_ret (v:=zk #[zh #[zg false,zg false,zg true,zg false,zg true,zg true],zg true]) (by simp [results,Tryz.results243,go_sem]) rfl ⟨rfl,bA w _⟩
theorem MC (w:World):Calls Tryz.prog 243 #[U zd 8] w fun e w'=>e=zj (zk #[zh #[zg false,zg false,zg true,zg false,zg true,zg false],zg true])/\Ov w w':=by
 go_enter Tryz.func243,Tryz.ntmps243
 go_wp2_with fail
 exact bodyPost_ret (v:=zk #[zh #[zg false,zg false,zg true,zg false,zg true,zg false],zg true]) (by simp [results,Tryz.results243,go_sem]) rfl ⟨rfl,bA w _⟩
theorem IC (k:Int) (hk:¬ (1<=k/\k<=8)) (w:World):Calls Tryz.prog 243 #[U zd k] w fun e w'=>e=zj (zk #[zh #[zg false,zg false,zg false,zg false,zg false,zg false],zg false])/\Ov w w':=by
 have b1:(k == 1)=false:=by simp;omega
 have b2:(k == 2)=false:=by simp;omega
 have b3:(k == 3)=false:=by simp;omega
 have b4:(k == 4)=false:=by simp;omega
 have b5:(k == 5)=false:=by simp;omega
 have b6:(k == 6)=false:=by simp;omega
 have b7:(k == 7)=false:=by simp;omega
 have b8:(k == 8)=false:=by simp;omega
 clear hk
 go_enter Tryz.func243,Tryz.ntmps243
 go_wp2_with fail
 exact bodyPost_ret (v:=zk #[zh #[zg false,zg false,zg false,zg false,zg false,zg false],zg false]) (by simp [results,Tryz.results243,go_sem]) rfl ⟨rfl,bA w _⟩
theorem B4 (k:Int) (funcs:Int) (m:Int) (ga gn gc sa sn sc ya yn yc oa on oc va vn vc fa fn fc ba bn bc) (w:World):Calls Tryz.prog 244 #[zh #[U zd m,O ga gn gc,O sa sn sc,O ya yn yc,O oa on oc,O va vn vc,O fa fn fc,O ba bn bc],U zd k,U zd funcs] w fun e w'=>e=zj (U zd (if k=2 then funcs else if k=3 then yn else on))/\Ov w w':=by
 have hbel:Ov w (w.alloc (ze #[U zd m,O ga gn gc,O sa sn sc,O ya yn yc,O oa on oc,O va vn vc,O fa fn fc,O ba bn bc] 184)):=bA w _
 by_cases h2:k=2
 ·subst h2
  go_enter Tryz.func244,Tryz.ntmps244
  go_wp2_with fail
  go_ret
  exact ⟨rfl,hbel⟩
 ·by_cases h3:k=3
  ·subst h3
   go_enter Tryz.func244,Tryz.ntmps244
   go_wp2_with fail
   go_ret
   exact ⟨rfl,hbel⟩
  ·rw [if_neg h2,if_neg h3]
   go_enter Tryz.func244,Tryz.ntmps244
   go_wp2_with fail
   go_ret
   exact ⟨rfl,hbel⟩
def Cq (K:Nat) (nv ni no:Nat) (funcs:Int) (fs:List FnD) (d:D):Prop:=
 (1<=Ag d/\Ag d<=8)/\((Ag d=1\/Ag d=2\/Ag d=3\/Ag d=5\/Ag d=6)->0<=Ao d/\Ao d < nv) /\
 (Ag d=2->(0<=Ae d/\Ae d < funcs)/\(∀ f,fs[(Ae d).toNat]? = some f->f.ps.length=(Ah d).length)/\∀ a∈Ah d,Az nv K a=0) /\
 (Ag d=3->0<=Ae d/\Ae d < ni)/\((Ag d=1\/4<=Ag d)->Az nv K (Ap d)=0)/\((Ag d=2\/Ag d=3)->AK (Ap d)=0/\AX (Ap d)=[])/\(Ag d=4->0<=Ae d/\Ae d < no)
def okS (K:Nat) (nv ni no:Nat) (funcs:Int) (fs:List FnD):Nat->D->Prop
 | 0,_=>False
 | k+1,d=>Cq K nv ni no funcs fs d/\(∀ s∈Ai d,okS K nv ni no funcs fs k s)/\∀ s∈Al d,okS K nv ni no funcs fs k s
theorem CL.imp {p q:Prop} {w:World} {e:Ending} {w':World} (h:CL p w e w') (hpq:p->q):CL q w e w':=by
 obtain ⟨h,hB⟩:=h
 refine ⟨?_,hB⟩
 rcases h with ⟨hp,he⟩ | h
 ·exact Or.inl ⟨hpq hp,he⟩
 ·exact Or.inr h
theorem Bk.mono {w:World} {K k m:Nat} {v:Value} {l:List FnD} (h:Bk w K k v l) (hkm:k<=m):Bk w K m v l:=by
 obtain ⟨hm,ao,cap,hv,hc⟩:=h
 refine ⟨hm,ao,cap,hv,fun hne=>?_⟩
 obtain ⟨b,off,hao,hel⟩:=hc hne
 refine ⟨b,off,hao,fun i hi=>?_⟩
 obtain ⟨vP,vB,x0,x1,x2,h0,h1,h2,h3,h4,hp,hpl,hs,hx⟩:=hel i hi
 exact ⟨vP,vB,x0,x1,x2,h0,h1,h2,h3,h4,hp,hpl,XS.mono hs (fun _ _ hh=>hh) (fun cs d _ hh=>RS.mono (fun _ _ q=>q) k m cs d hkm hh),hx⟩
theorem AQ.prefix {w:World} {ao:Option Addr} {cap:Nat} {vs:List Int} (h:AQ w (O ao vs.length cap) vs) {i:Nat} (hi:i<=vs.length) (c:Nat):AQ w (O ao i c) (vs.take i):=by
 obtain ⟨a2,c2,he,hc⟩:=h
 injection he with e1 e2 e3
 subst e1
 refine ⟨ao,c,by simp [Nat.min_eq_left hi],fun hne=>?_⟩
 obtain ⟨b,off,hao,hel⟩:=hc (by rintro rfl;simp at hne)
 refine ⟨b,off,hao,fun j hj=>?_⟩
 have hj2:j < vs.length:=by simp at hj;omega
 rw [List.getElem_take]
 exact hel j hj2
def okF (K:Nat) (nv ni no:Nat) (ahead:Int) (fs:List FnD) (k:Nat) (f:FnD):Prop:=
 f.ps.length<=4/\(∀ p∈f.ps,0<=p/\p < nv)/\(∀ s∈f.body,okS K nv ni no ahead fs k s)/\Az nv K f.res=0
end Go.Proofs.YtfffpjkcfnekaaaGreat.Ex
namespace Go.Proofs.YtfffpjkcfnekaaaGreat
open Go.RowKit
open Go.Value renaming slice -> O, int -> U, bool -> zg, agg -> zh, pointer -> zi, tuple -> zk
open Go.IntKind renaming i64 -> zd
open Go.Obj renaming cells -> ze
open Go.Ending renaming returned -> zj
theorem GI {α:Type} (l:List α) (k:Nat) (x:α) (h:k < l.length):(l.set k x).take (k+1)=l.take k++[x]:=by
 rw [List.take_succ_eq_append_getElem (by simpa using h)]
 simp only [List.take_set,List.getElem_set_self]
 rw [List.set_eq_of_length_le (by simp;omega)]
def D2 (f:Nat->Bool) (g n k:Nat) (W:World):Prop:=∃ cur:List Value,cur.length=n/\cur.take k=AZ (B3 f k)/\W.heap[g]? = some (.cells cur.toArray 4 (0,0))
theorem Jb {f:Nat->Bool} {g n k:Nat} {W W':World} (h:D2 f g n k W) (hb:Ov W W'):D2 f g n k W':=by
 obtain ⟨cur,h1,h2,h3⟩:=h
 exact ⟨cur,h1,h2,by rw [hb.block g (Array.getElem?_eq_some_iff.1 h3).1];exact h3⟩
theorem JP {f:Nat->Bool} {g n k:Nat} {W:World} (h:D2 f g n k W) (hk:k < n):D2 f g n (k+1) (W.setCell ⟨g,k,none⟩ (zg (f k))):=by
 obtain ⟨cur,h1,h2,h3⟩:=h
 refine ⟨cur.set k (zg (f k)),by simpa using h1,?_,?_⟩
 ·rw [GI _ _ _ (by omega),h2,Jp]
  simp [AZ]
 ·have:=heap_setCell_same W g k _ 4 (zg (f k)) h3
  simpa using this
theorem Jc {f:Nat->Bool} {g n k j:Nat} {W:World} (h:D2 f g n k W) (hj:j < n):(∃ u,W.cell? ⟨g,j,none⟩=some u)/\W.frozen? ⟨g,j,none⟩=false:=by
 obtain ⟨cur,h1,h2,h3⟩:=h
 refine ⟨⟨cur[j]'(by omega),?_⟩,?_⟩
 ·simp [World.cell?,h3,h1,hj]
 ·simp [World.frozen?,h3]
theorem JQ {f:Nat->Bool} {g n B:Nat} {W:World} (h:D2 f g n n W) (hn:n<=6) (hg:B<=g):W.ownsRow B 4 1 (O (some ⟨g,0,none⟩) n n) n (AZ (B3 f n)):=by
 obtain ⟨cur,h1,h2,h3⟩:=h
 refine ⟨by simp [AZ,AO],Or.inr ⟨g,n,cur.toArray,rfl,hg,h3,Nat.le_refl _,by unfold maxLen;omega,by simp [h1],?_⟩⟩
 rw [Nat.mul_one]
 exact h2
theorem D5 (F:FuncId) (c1 c2:Value) (f:Nat->Bool) (n:Nat) (h1:1<=n) (hn:n<=6) (s:Value) (w:World)
  (hF:Hx (∀ (k:Nat),k < n->∀ W:World,Ov w W->Calls Tryz.prog F #[U zd k,c1,c2] W fun e w2=>e=zj (zg (f k))/\Ov W w2))
  (hC:∀ (args:Array Value) (w:World),(callFunc F args).run Tryz.prog w=.ok (.enter F args) w) :
  Calls Tryz.prog 70 #[zh #[U zd n,s],.func (.func F) #[] #[c1,c2]] w fun e w'=>∃ g,e=zj (O (some ⟨g,0,none⟩) n n)/\w.heap.size<=g/\g < w'.heap.size/\w'.ownsRow w.heap.size 4 1 (O (some ⟨g,0,none⟩) n n) n (AZ (B3 f n))/\Ov w w':=by
 have hmk:=fun w=>Dw n hn w
 have hst:D2 f (w.heap.size+1) n 0 ((w.alloc (ze #[U zd n,s] 24)).alloc (.cells (List.replicate n (Value.bool false)).toArray 4)):=by
  refine ⟨List.replicate n (zg false),by simp,by simp [B3,AZ],?_⟩
  have:=heap_alloc_new (w.alloc (ze #[U zd n,s] 24)) (.cells (List.replicate n (Value.bool false)).toArray 4)
  simpa using this
 have hbel:Ov w ((w.alloc (ze #[U zd n,s] 24)).alloc (.cells (List.replicate n (Value.bool false)).toArray 4)):=(bA w _).alloc (by simp) _
 have HST:=Aa hst
 have HB:=Aa hbel
 clear hst hbel
 go_enter Tryz.func70,Tryz.ntmps70
 go_wp2_with fail
 go_loopw [12] (fun i wr=>∃ k:Nat,k<=n/\i=U zd k/\D2 f (w.heap.size+1) n k wr/\Ov w wr) (fun i _=>n - (intOf i).toNat)
 case atStart=>exact ⟨0,Nat.zero_le _,rfl,by simpa using HST.o,by simpa using HB.o⟩
 case round=>
  clear HST HB hmk
  obtain ⟨k,hk,rfl,hfil,hbw⟩:=hrel
  by_cases hkn:k < n
  ·have HC:=Aa (hF.o k hkn _ hbw)
   go_wp2_with fail
   refine (HC.o).mono ?_
   rintro e w2 ⟨rfl,hb2⟩
   have hf2:=Jb hfil hb2
   have hb3:=hbw.trans (hb2.mono hbw.size)
   obtain ⟨⟨u,d1⟩,d2⟩:=Jc hf2 hkn
   have hf3:=JP hf2 hkn
   have hb4:=hb3.setCell (p:=⟨w.heap.size+1,k,none⟩) (by simp) (zg (f k))
   have HF3:=Aa hf3
   have HB4:=Aa hb4
   clear hfil hf2 hb2 hb3 hf3 hb4 HC hbw
   go_wp2_with fail
   exact ⟨⟨k+1,by omega,by go_num,HF3.o,HB4.o⟩,by simp [intOf];omega⟩
  ·have hke:k=n:=by omega
   subst hke
   have hlt:w.heap.size+1 < wr.heap.size:=by obtain ⟨cur,_,_,h3⟩:=hfil;exact (Array.getElem?_eq_some_iff.1 h3).1
   have HO:=Aa (JQ hfil hn (B:=w.heap.size) (by omega))
   clear hfil hF
   go_wp2_with fail
   go_ret
   exact ⟨w.heap.size+1,rfl,by omega,hlt,HO.o,hbw⟩
def BI (w:World) (v:Value) (ls:List Lev):Prop:=
 ∃ ao cap,v=O ao ls.length cap/\(ls≠[]->∃ b off,ao=some ⟨b,off,none⟩/\∀ i (h:i < ls.length),∃ rv wv,w.cell? ⟨b,off+i*2,none⟩=some rv/\w.cell? ⟨b,off+i*2+1,none⟩=some wv/\A5 w (zh #[rv,wv]) ls[i])
theorem Cn {w w':World} {v:Value} {ls:List Lev} (h:BI w v ls) (hb:Ov w w'):BI w' v ls:=by
 obtain ⟨ao,cap,rfl,hc⟩:=h
 refine ⟨ao,cap,rfl,fun hne=>?_⟩
 obtain ⟨b,off,rfl,hcl⟩:=hc hne
 refine ⟨b,off,rfl,fun i hi=>?_⟩
 obtain ⟨rv,wv,h1,h2,h3⟩:=hcl i hi
 exact ⟨rv,wv,by rw [(Am hb).1 _ _ (bL h1)];exact h1,by rw [(Am hb).1 _ _ (bL h2)];exact h2,AJ h3 hb⟩
theorem Hf {w:World} {v:Value} {ls:List Lev} (h:BI w v ls) {i:Nat} (hi:i < ls.length):∃ b off cap rv wv,v=O (some ⟨b,off,none⟩) ls.length cap/\w.cell? ⟨b,off+i*2,none⟩=some rv/\w.cell? ⟨b,off+i*2+1,none⟩=some wv/\A5 w (zh #[rv,wv]) ls[i]:=by
 obtain ⟨ao,cap,rfl,hc⟩:=h
 obtain ⟨b,off,rfl,hcl⟩:=hc (by rintro rfl;simp at hi)
 obtain ⟨rv,wv,h1,h2,h3⟩:=hcl i hi
 exact ⟨b,off,cap,rv,wv,rfl,h1,h2,h3⟩
def BN (m:Int):List Lev->Int
 | []=>0
 | l::ls=>if Cu m l=0 then BN m ls else Cu m l
theorem GP {m:Int} {ls:List Lev} {k:Nat} (hk:k < ls.length):BN m (ls.drop k)=if Cu m ls[k]=0 then BN m (ls.drop (k+1)) else Cu m ls[k]:=by
 rw [List.drop_eq_getElem_cons hk]
 rfl
def Fq (m:Int) (gs:List (Int × Int)) (ls:List Lev):Int:=if AL m gs=0 then BN m ls else AL m gs
theorem Dy (m:Int) (l:Lev):(Cu m l=0/\((l.r.length:Int)=m/\(l.w.length:Int)=m))\/(Cu m l=1/\((l.r.length:Int)≠m\/((l.r.length:Int)=m/\(l.w.length:Int)≠m))):=by
 unfold Cu
 by_cases h:(l.r.length:Int)=m/\(l.w.length:Int)=m
 ·exact Or.inl ⟨if_pos h,h⟩
 ·refine Or.inr ⟨if_neg h,?_⟩
  by_cases h1:(l.r.length:Int)=m
  ·exact Or.inr ⟨h1,fun h2=>h ⟨h1,h2⟩⟩
  ·exact Or.inl h1
theorem E5 (m:Int) (v vs:Value) (gs ls) (w:World) (hv:AF w v gs) (hl:BI w vs ls) (hn:ls.length<=2) :
  Calls Tryz.prog 59 #[zh #[U zd m,v],vs] w fun e w'=>e=zj (U zd (Fq m gs ls))/\Ov w w':=by
 have hbel:Ov w (w.alloc (ze #[U zd m,v] 24)):=bA w _
 have hC:=check_any m v gs (w.alloc (ze #[U zd m,v] 24)) (Af hv hbel)
 have hE:Fq m gs ls=if AL m gs=0 then BN m ls else AL m gs:=rfl
 have HL:=Aa hl
 obtain ⟨ao,cap,rfl,-⟩:=hl
 obtain ⟨r,hr⟩:=nm (AL m gs)
 rw [<-hr] at hC hE
 obtain ⟨va,vn,vc,rfl⟩:=Cp hv
 have HC:=Aa hC
 have HE:=Aa hE
 clear hC hE hr hv
 go_enter Tryz.func59,Tryz.ntmps59
 go_wp2_with fail
 refine (HC.o).mono ?_
 rintro e w1 ⟨rfl,hb1⟩
 have c0:w1.cell? ⟨w.heap.size,0,none⟩=some (U zd m):=by rw [(Am hb1).1 _ _ (by simp)];simp [go_sem]
 have hB1:Ov w w1:=hbel.trans (hb1.mono (by simp))
 clear HC hb1 hbel
 by_cases hr0:r=0
 ·subst hr0
  go_wp2_with fail
  go_loopw [15] (fun i wr=>∃ k:Nat,k<=ls.length/\i=U zd k/\BN m ls=BN m (ls.drop k)/\Ov w wr/\wr.cell? ⟨w.heap.size,0,none⟩=some (U zd m)) (fun i _=>ls.length - (intOf i).toNat)
  case atStart=>exact ⟨0,Nat.zero_le _,rfl,rfl,hB1,c0⟩
  case round=>
   clear hB1 c0
   obtain ⟨k,hk,rfl,hfe,hbw,c0⟩:=hrel
   by_cases hkl:k < ls.length
   ·obtain ⟨b,off,cap',rv,wv,hve,q0,q1,q2⟩:=Hf (Cn HL.o hbw) hkl
    injection hve with e1 e2 e3
    subst e1 e3
    clear e2
    have hfd:=GP (m:=m) hkl
    rw [<-hfe] at hfd
    have hlc:=Dy m ls[k]
    obtain ⟨x,y,hxy,⟨a1,k1,e1,-⟩,⟨a2,k2,e2,-⟩⟩:=q2
    obtain ⟨rfl,rfl⟩:rv=x/\wv=y:=by simpa using hxy
    subst e1 e2
    obtain ⟨n1,hn1⟩:=nm (ls[k].r.length)
    obtain ⟨n2,hn2⟩:=nm (ls[k].w.length)
    rw [<-hn1,<-hn2] at hlc
    rw [<-hn1] at q0
    rw [<-hn2] at q1
    have ltw:=bL c0
    have hal:Ov wr (wr.alloc (ze #[O a1 n1 k1,O a2 n2 k2] 50)):=bA wr _
    have hbw2:=hbw.trans (hal.mono hbw.size)
    have d0:(wr.alloc (ze #[O a1 n1 k1,O a2 n2 k2] 50)).cell? ⟨w.heap.size,0,none⟩=some (U zd m):=by rw [(Am hal).1 _ _ ltw];exact c0
    have D0:=Aa d0
    clear hxy hn1 hn2 hfe d0 hal hbw
    rcases hlc with ⟨hz,h1,h2⟩ | ⟨hz,h1 | ⟨h1,h2⟩⟩
    ·rw [hz] at hfd
     have HF:=Aa hfd
     have b1:((n1:Int) != m)=false:=by simp [h1]
     have b2:((n2:Int) != m)=false:=by simp [h2]
     clear hz hfd h1 h2
     go_wp2_with fail
     exact ⟨⟨k+1,by omega,by go_num,by rw [HF.o];simp,hbw2,D0.o⟩,by simp [intOf];omega⟩
    ·rw [hz] at hfd
     have HF:=Aa hfd
     have b1:((n1:Int) != m)=true:=by simpa using h1
     clear hz hfd h1
     go_wp2_with fail
     go_ret
     exact ⟨by rw [HE.o,HF.o];simp,hbw2⟩
    ·rw [hz] at hfd
     have HF:=Aa hfd
     have b1:((n1:Int) != m)=false:=by simp [h1]
     have b2:((n2:Int) != m)=true:=by simpa using h2
     clear hz hfd h1 h2
     go_wp2_with fail
     go_ret
     exact ⟨by rw [HE.o,HF.o];simp,hbw2⟩
   ·have hke:k=ls.length:=by omega
    have hz:BN m ls=0:=by rw [hfe,hke,List.drop_length];rfl
    have HZ:=Aa hz
    clear hz hfe c0
    go_wp2_with fail
    go_ret
    exact ⟨by rw [HE.o,HZ.o];simp,hbw⟩
 ·have hne:(r != 0)=true:=by simpa using hr0
  go_wp2_with fail
  go_ret
  exact ⟨by rw [HE.o];simp [hr0],hB1⟩
def CG (a b:List Bool) (n:Nat):Bool:=(List.range n).all fun i=>!((a[i]?.getD false) && !(b[i]?.getD false))
theorem Hq (l m:Lev) (n:Nat):(CG m.r l.r n && CG l.w m.w n)=AE l m n:=by
 rw [Bool.eq_iff_iff,Gt]
 simp only [CG,Bool.and_eq_true,List.all_eq_true,List.mem_range]
 constructor
 ·rintro ⟨h1,h2⟩ i hi
  have a:=h1 i hi
  have b:=h2 i hi
  revert a b
  cases m.r[i]?.getD false <;> cases l.r[i]?.getD false <;> cases l.w[i]?.getD false <;> cases m.w[i]?.getD false <;> simp
 ·intro h
  refine ⟨fun i hi=>?_,fun i hi=>?_⟩ <;> have a:=h i hi <;> revert a <;> cases m.r[i]?.getD false <;> cases l.r[i]?.getD false <;> cases l.w[i]?.getD false <;> cases m.w[i]?.getD false <;> simp
theorem FR (va vb:Value) (a b:List Bool) (n:Nat) (w:World) (h0:1<=n) (hn:n<=6) (ha:AH w va a) (hb:AH w vb b) (hla:a.length=n) (hlb:b.length=n) :
  Calls Tryz.prog 60 #[va,vb] w fun e w'=>e=zj (zg (CG a b n))/\Ov w w':=by
 obtain ⟨b1,o1,c1,rfl,q1⟩:=Co ha hla h0
 obtain ⟨b2,o2,c2,rfl,q2⟩:=Co hb hlb h0
 have Q1:=Aa q1
 have Q2:=Aa q2
 clear q1 q2 ha hb hla hlb
 go_enter Tryz.func60,Tryz.ntmps60
 go_wp2_with fail
 go_loop [9] (fun i=>∃ k:Nat,k<=n/\i=U zd k/\(List.range k).all (fun i=>!((a[i]?.getD false) && !(b[i]?.getD false)))=true) (fun i=>n - (intOf i).toNat)
 case atStart=>exact ⟨0,Nat.zero_le _,rfl,rfl⟩
 case round=>
  obtain ⟨k,hk,rfl,hall⟩:=hrel
  by_cases hkn:k < n
  ·have q1:=Q1.o k hkn
   have q2:=Q2.o k hkn
   have hnext:(!((a[k]?.getD false) && !(b[k]?.getD false)))=true->(List.range (k+1)).all (fun i=>!((a[i]?.getD false) && !(b[i]?.getD false)))=true:=fun h=>by
    rw [List.range_succ,List.all_append,hall]
    simpa using h
   have hstop:(!((a[k]?.getD false) && !(b[k]?.getD false)))=false->CG a b n=false:=fun h=>by
    unfold CG
    rw [List.all_eq_false]
    exact ⟨k,List.mem_range.2 hkn,by simpa using h⟩
   generalize a[k]?.getD false=x at q1 hnext hstop
   generalize b[k]?.getD false=y at q2 hnext hstop
   have HN:=Aa hnext
   have HS:=Aa hstop
   clear hnext hstop hall
   cases x <;> cases y
   all_goals go_wp2_with fail
   all_goals first
    | exact ⟨⟨k+1,by omega,by go_num,HN.o (by first | rfl | trivial)⟩,by simp [intOf];omega⟩
    | (go_ret;exact ⟨by rw [HS.o (by first | rfl | trivial)];rfl,Below.refl _ w⟩)
  ·have hke:k=n:=by omega
   have hf:CG a b n=true:=by unfold CG;rw [<-hke];exact hall
   have HF:=Aa hf
   clear hf hall
   go_wp2_with fail
   go_ret
   exact ⟨by rw [HF.o];rfl,Below.refl _ w⟩
theorem JI {W:World} {b:Nat} {rv wv:Value} {l:Lev} (h0:W.cell? ⟨b,0,none⟩=some rv) (h1:W.cell? ⟨b,1,none⟩=some wv) (hl:A5 W (zh #[rv,wv]) l):BI W (O (some ⟨b,0,none⟩) 1 1) [l]:=by
 refine ⟨_,1,rfl,fun _=>⟨b,0,rfl,fun i hi=>?_⟩⟩
 have:i=0:=by simp at hi;omega
 subst this
 exact ⟨rv,wv,by simpa using h0,by simpa using h1,hl⟩
theorem JH {W:World} {b:Nat} {rv wv ru wu:Value} {l k:Lev} (h0:W.cell? ⟨b,0,none⟩=some rv) (h1:W.cell? ⟨b,1,none⟩=some wv) (h2:W.cell? ⟨b,2,none⟩=some ru) (h3:W.cell? ⟨b,3,none⟩=some wu) (hl:A5 W (zh #[rv,wv]) l) (hk:A5 W (zh #[ru,wu]) k):BI W (O (some ⟨b,0,none⟩) 2 2) [l,k]:=by
 refine ⟨_,2,rfl,fun _=>⟨b,0,rfl,fun i hi=>?_⟩⟩
 have:i=0\/i=1:=by simp at hi;omega
 rcases this with rfl | rfl
 ·exact ⟨rv,wv,by simpa using h0,by simpa using h1,hl⟩
 ·exact ⟨ru,wu,by simpa using h2,by simpa using h3,hk⟩
theorem J9 (m:Int) (gs) (l:Lev):Fq m gs [l]=CZ m gs l:=by
 unfold Fq CZ BN BN
 split
 ·split
  ·rename_i h;rw [h]
  ·rfl
 ·rfl
theorem J8 (m:Int) (gs) (l k:Lev):Fq m gs [l,k]=EF m gs l k:=by
 unfold Fq EF CZ BN BN BN
 by_cases hc:AL m gs=0
 ·simp only [if_pos hc]
  by_cases h1:Cu m l=0
  ·simp only [if_pos h1]
   by_cases h2:Cu m k=0
   ·simp [h2]
   ·simp [h2]
  ·simp [h1]
 ·simp [hc]
theorem DR {w:World} {v:Value} {l:Lev} (h:A5 w v l):∃ a1 c1 a2 c2,v=zh #[O a1 l.r.length c1,O a2 l.w.length c2]:=by
 obtain ⟨vr,vw,rfl,⟨a1,k1,rfl,-⟩,⟨a2,k2,rfl,-⟩⟩:=h
 exact ⟨_,_,_,_,rfl⟩
theorem Rn:OH:=by
 intro m v gs vl l w hv hl
 have HL:=Aa hl
 obtain ⟨a1,k1,a2,k2,rfl⟩:=DR hl
 have HV:=Aa hv
 obtain ⟨va,vn,vc,rfl⟩:=Cp hv
 have hb3:Ov w (((w.alloc (ze #[U zd m,O va vn vc] 24)).alloc (ze #[O a1 l.r.length k1,O a2 l.w.length k2] 50)).alloc (ze #[O a1 l.r.length k1,O a2 l.w.length k2] 50)):=((bA w _).alloc (by simp) _).alloc (by simp;omega) _
 have hcall:=E5 m (O va vn vc) (O (some ⟨w.heap.size+1+1,0,none⟩) 1 1) gs [l] _ (Af HV.o hb3) (JI (by simp [go_sem]) (by simp [go_sem]) (AJ HL.o hb3)) (by simp)
 rw [J9] at hcall
 obtain ⟨r,hr⟩:=nm (CZ m gs l)
 rw [<-hr] at hcall ⊢
 have HC:=Aa hcall
 clear hl hv hcall hr
 go_enter Tryz.func49,Tryz.ntmps49
 go_wp2_with fail
 refine (HC.o).mono ?_
 rintro e w1 ⟨rfl,hb1⟩
 have hB1:=hb3.trans (hb1.mono (by simp;omega))
 clear HC hb1 hb3
 go_wp2_with fail
 go_ret
 exact ⟨rfl,hB1⟩
theorem Kt {m:Int} {gs:List (Int × Int)} {l k:Lev} (h:EF m gs l k=0):∃ n:Nat,m=n/\1<=n/\n<=6/\l.len n/\k.len n/\AL m gs=0:=by
 unfold EF at h
 split at h
 ·rename_i h1
  have hc:AL m gs=0:=by
   unfold CZ at h
   split at h
   ·assumption
   ·exact h
  obtain ⟨n,hm,h3,h4,_⟩:=EI hc
  unfold CZ at h h1
  rw [if_pos hc] at h h1
  rcases Dy m l with ⟨_,g1,g2⟩ | ⟨g,_⟩
  ·rcases Dy m k with ⟨_,g3,g4⟩ | ⟨g,_⟩
   ·exact ⟨n,hm,h3,h4,⟨by omega,by omega⟩,⟨by omega,by omega⟩,hc⟩
   ·rw [g] at h;cases h
  ·rw [g] at h1;cases h1
 ·rename_i h1
  exact absurd h h1
theorem NA (w:World) (m:Int) (gs) (v:Value) (x y z u:Value) (l k) (hv:AF w v gs) (hl:A5 w (zh #[x,y]) l) (hk:A5 w (zh #[z,u]) k) (W:World) (b:Nat) (hb:Ov w W)
  (h0:W.cell? ⟨b,0,none⟩=some x) (h1:W.cell? ⟨b,1,none⟩=some y) (h2:W.cell? ⟨b,2,none⟩=some z) (h3:W.cell? ⟨b,3,none⟩=some u) :
  Calls Tryz.prog 59 #[zh #[U zd m,v],O (some ⟨b,0,none⟩) 2 2] W fun e w'=>e=zj (U zd (EF m gs l k))/\Ov W w':=by
 have hcall:=E5 m v (O (some ⟨b,0,none⟩) 2 2) gs [l,k] W (Af hv hb) (JH h0 h1 h2 h3 (AJ hl hb) (AJ hk hb)) (by simp)
 rw [J8] at hcall
 exact hcall
theorem Om:OM:=by
 intro m v gs vl vk l k w hv hl hk
 have HL:=Aa hl
 have HK:=Aa hk
 have HV:=Aa hv
 obtain ⟨a1,k1,a2,k2,rfl⟩:=DR hl
 obtain ⟨a3,k3,a4,k4,rfl⟩:=DR hk
 obtain ⟨va,vn,vc,rfl⟩:=Cp hv
 have hb3:Ov w ((((w.alloc (ze #[U zd m,O va vn vc] 24)).alloc (ze #[O a1 l.r.length k1,O a2 l.w.length k2] 50)).alloc (ze #[O a3 k.r.length k3,O a4 k.w.length k4] 50)).alloc (ze #[O a1 l.r.length k1,O a2 l.w.length k2,O a3 k.r.length k3,O a4 k.w.length k4] 50)):=(((bA w _).alloc (by simp) _).alloc (by simp;omega) _).alloc (by simp;omega) _
 have hcall:=NA w m gs (O va vn vc) _ _ _ _ l k HV.o HL.o HK.o _ (w.heap.size+1+1+1) hb3 (by simp [go_sem]) (by simp [go_sem]) (by simp [go_sem]) (by simp [go_sem])
 have hW:=fun (n:Nat) (h1:1<=n) (h6:n<=6) (hln:l.len n) (hkn:k.len n) (W:World) (hB:Ov w W)=>FR (O a3 k.r.length k3) (O a1 l.r.length k1) k.r l.r n W h1 h6 (by obtain ⟨_,_,e,h,_⟩:=HK.o;obtain ⟨rfl,rfl⟩:=(by simpa using e:_/\_);exact AA h hB) (by obtain ⟨_,_,e,h,_⟩:=HL.o;obtain ⟨rfl,rfl⟩:=(by simpa using e:_/\_);exact AA h hB) hkn.1 hln.1
 have hX:=fun (n:Nat) (h1:1<=n) (h6:n<=6) (hln:l.len n) (hkn:k.len n) (W:World) (hB:Ov w W)=>FR (O a2 l.w.length k2) (O a4 k.w.length k4) l.w k.w n W h1 h6 (by obtain ⟨_,_,e,_,h⟩:=HL.o;obtain ⟨rfl,rfl⟩:=(by simpa using e:_/\_);exact AA h hB) (by obtain ⟨_,_,e,_,h⟩:=HK.o;obtain ⟨rfl,rfl⟩:=(by simpa using e:_/\_);exact AA h hB) hln.2 hkn.2
 have hok:=fun h=>Kt (m:=m) (gs:=gs) (l:=l) (k:=k) h
 obtain ⟨r,hr⟩:=nm (EF m gs l k)
 rw [<-hr] at hcall hok ⊢
 have HC:=Aa hcall
 have KW:=Aa hW
 have KX:=Aa hX
 have HOK:=Aa hok
 clear hl hk hv hcall hW hX hok hr
 go_enter Tryz.func16,Tryz.ntmps16
 go_wp2_with fail
 refine (HC.o).mono ?_
 rintro e w1 ⟨rfl,hb1⟩
 have hB1:=hb3.trans (hb1.mono (by simp;omega))
 obtain ⟨hc,hf⟩:=Am hb1
 have c0:w1.cell? ⟨w.heap.size+1,0,none⟩=some (O a1 l.r.length k1):=by rw [hc _ _ (by simp <;> omega)];simp [go_sem]
 have c1:w1.cell? ⟨w.heap.size+1,1,none⟩=some (O a2 l.w.length k2):=by rw [hc _ _ (by simp <;> omega)];simp [go_sem]
 have c2:w1.cell? ⟨w.heap.size+1+1,0,none⟩=some (O a3 k.r.length k3):=by rw [hc _ _ (by simp <;> omega)];simp [go_sem]
 have c3:w1.cell? ⟨w.heap.size+1+1,1,none⟩=some (O a4 k.w.length k4):=by rw [hc _ _ (by simp <;> omega)];simp [go_sem]
 clear hc hf hb1 hb3 HC
 by_cases hr0:r=0
 ·subst hr0
  obtain ⟨n,hm,h1,h6,hln,hkn,hch⟩:=HOK.o (by first | rfl | trivial)
  subst hm
  have hw1:=KW.o n h1 h6 hln hkn
  have hx1:=KX.o n h1 h6 hln hkn
  have hfl:=Hq l k n
  obtain ⟨x,hx⟩:=nm (CG k.r l.r n)
  obtain ⟨y,hy⟩:=nm (CG l.w k.w n)
  rw [<-hx] at hw1 hfl
  rw [<-hy] at hx1 hfl
  have hfin:AE l k n=(x && y):=hfl.symm
  have HFIN:=Aa hfin
  have HW1:=Aa hw1
  have HX1:=Aa hx1
  clear hw1 hx1 hfl hx hy hfin KW KX HOK hch
  cases x with
  | false=>
   go_wp2_with fail
   refine (HW1.o _ hB1).mono ?_
   rintro e w2 ⟨rfl,hb2⟩
   have hB2:=hB1.trans (hb2.mono hB1.size)
   clear hb2
   go_wp2_with fail
   go_ret2
   exact ⟨by rw [HFIN.o];simp,hB2⟩
  | true=>
   go_wp2_with fail
   refine (HW1.o _ hB1).mono ?_
   rintro e w2 ⟨rfl,hb2⟩
   have hB2:=hB1.trans (hb2.mono hB1.size)
   obtain ⟨hc,hf⟩:=Am hb2
   have d1:w2.cell? ⟨w.heap.size+1,1,none⟩=some (O a2 l.w.length k2):=by rw [hc _ _ (bL c1)];exact c1
   have d3:w2.cell? ⟨w.heap.size+1+1,1,none⟩=some (O a4 k.w.length k4):=by rw [hc _ _ (bL c3)];exact c3
   clear hb2 hc hf c0 c1 c2 c3 hB1
   go_wp2_with fail
   refine (HX1.o _ hB2).mono ?_
   rintro e w3 ⟨rfl,hb3⟩
   have hB3:=hB2.trans (hb3.mono hB2.size)
   clear hb3 d1 d3
   go_wp2_with fail
   go_ret2
   exact ⟨by rw [HFIN.o];simp,hB3⟩
 ·have hne:(r != 0)=true:=by simpa using hr0
  go_wp2_with fail
  go_ret2
  exact ⟨by simp [hr0],hB1⟩
theorem Qv (args:Array Value) (w:World):(callFunc 105 args).run Tryz.prog w=.ok (.enter 105 args) w:=by simp [go_sem]
theorem LG (bl bm n k b1 o1 c1 b2 o2 c2:Nat) (x y:Bool) (W:World) (hk:k < n) (hn:n<=6) (h1:W.cell? ⟨bl,0,none⟩=some (O (some ⟨b1,o1,none⟩) n c1)) (h2:W.cell? ⟨bm,0,none⟩=some (O (some ⟨b2,o2,none⟩) n c2))
  (q1:W.cell? ⟨b1,o1+k,none⟩=some (zg x)) (q2:W.cell? ⟨b2,o2+k,none⟩=some (zg y)) :
  Calls Tryz.prog 105 #[U zd k,zi (some ⟨bl,0,none⟩),zi (some ⟨bm,0,none⟩)] W fun e w'=>e=zj (zg (x && y))/\Ov W w':=by
 cases x
 all_goals
  go_enter Tryz.func105,Tryz.ntmps105
  go_wp2_with fail
  go_ret
  exact ⟨by simp,Below.refl _ W⟩
theorem Qu (args:Array Value) (w:World):(callFunc 106 args).run Tryz.prog w=.ok (.enter 106 args) w:=by simp [go_sem]
theorem LF (bl bm n k b1 o1 c1 b2 o2 c2:Nat) (x y:Bool) (W:World) (hk:k < n) (hn:n<=6) (h1:W.cell? ⟨bl,1,none⟩=some (O (some ⟨b1,o1,none⟩) n c1)) (h2:W.cell? ⟨bm,1,none⟩=some (O (some ⟨b2,o2,none⟩) n c2))
  (q1:W.cell? ⟨b1,o1+k,none⟩=some (zg x)) (q2:W.cell? ⟨b2,o2+k,none⟩=some (zg y)) :
  Calls Tryz.prog 106 #[U zd k,zi (some ⟨bl,0,none⟩),zi (some ⟨bm,0,none⟩)] W fun e w'=>e=zj (zg (x || y))/\Ov W w':=by
 cases x
 all_goals
  go_enter Tryz.func106,Tryz.ntmps106
  go_wp2_with fail
  go_ret
  exact ⟨by simp,Below.refl _ W⟩
attribute [local go_sem ↓] Go.wp_at_zero Go.wp_at_succ
theorem Pk {B:Nat} {wB W W':World} {b o0 o1:Nat} {v0 v1:Value} (h:W.cell? ⟨b,o0,none⟩=some v0/\W.cell? ⟨b,o1,none⟩=some v1/\Below B wB W) (hb:Ov W W') (hB:B<=wB.heap.size):W'.cell? ⟨b,o0,none⟩=some v0/\W'.cell? ⟨b,o1,none⟩=some v1/\Below B wB W':=by
 obtain ⟨h0,h1,h2⟩:=h
 obtain ⟨hc,hf⟩:=Am hb
 exact ⟨by rw [hc _ _ (bL h0)];exact h0,by rw [hc _ _ (bL h1)];exact h1,h2.trans (hb.mono (Nat.le_trans hB h2.size))⟩
theorem QT {B:Nat} {wB W:World} {b o0 o1:Nat} {v0 v1:Value} (h:W.cell? ⟨b,o0,none⟩=some v0/\W.cell? ⟨b,o1,none⟩=some v1/\Below B wB W) (hb:b < B) {p:Addr} (hp:B<=p.block) (u:Value):(W.setCell p u).cell? ⟨b,o0,none⟩=some v0/\(W.setCell p u).cell? ⟨b,o1,none⟩=some v1/\Below B wB (W.setCell p u):=by
 obtain ⟨h0,h1,h2⟩:=h
 have hne:∀ o,(W.setCell p u).cell? ⟨b,o,none⟩=W.cell? ⟨b,o,none⟩:=fun o=>World.cell?_setCell_other _ _ _ _ (by rintro rfl;simp at hp;omega)
 exact ⟨by rw [hne];exact h0,by rw [hne];exact h1,h2.setCell hp u⟩
theorem Gq {w wa wp wq:World} {g1 g2 n q:Nat} {f1 f2:Nat->Bool} (hw:w.heap.size<=wa.heap.size) (hq:q < wa.heap.size)
  (h1:wp.ownsRow wa.heap.size 4 1 (O (some ⟨g1,0,none⟩) n n) n (AZ (B3 f1 n))) (hl1:g1 < wp.heap.size) (hz:wa.heap.size<=wp.heap.size)
  (h2:wq.ownsRow wp.heap.size 4 1 (O (some ⟨g2,0,none⟩) n n) n (AZ (B3 f2 n))) (hb:Ov wp wq) (hg2:wp.heap.size<=g2) (u0 u1:Value) :
  AY w ((wq.setCell ⟨q,0,none⟩ u0).setCell ⟨q,1,none⟩ u1) (zh #[O (some ⟨g1,0,none⟩) n n,O (some ⟨g2,0,none⟩) n n]) ⟨B3 f1 n,B3 f2 n⟩:=by
 refine ⟨_,_,rfl,?_,?_,Or.inr ?_⟩
 ·rw [AO]
  exact Ha (Ba (Ba (CT h1 hb) (by simpa using hq) _) (by simpa using hq) _) hw
 ·rw [AO]
  exact Ha (Ba (Ba h2 (by simp;omega) _) (by simp;omega) _) (Nat.le_trans hw hz)
 ·simp [Value.ownBlock]
  omega
theorem Gs (w W:World):AY w W (zh #[O none 0 0,O none 0 0]) AU:=
 ⟨_,_,rfl,World.ownsRow_nil _ _ _ _,World.ownsRow_nil _ _ _ _,Or.inl rfl⟩
theorem I5 (w:World) (n:Nat) (h1:1<=n) (hn:n<=6) (x y z u v:Value) (l k) (hl:A5 w (zh #[x,y]) l) (hk:A5 w (zh #[z,u]) k) (hln:l.len n) (hkn:k.len n) (W:World) (hB:Ov w W) (hz:w.heap.size+3<=W.heap.size)
  (c0:W.cell? ⟨w.heap.size+1,0,none⟩=some x) (c1:W.cell? ⟨w.heap.size+1,1,none⟩=some y) (c2:W.cell? ⟨w.heap.size+1+1,0,none⟩=some z) (c3:W.cell? ⟨w.heap.size+1+1,1,none⟩=some u) :
  (Calls Tryz.prog 70 #[zh #[U zd n,v],.func (.func 105) #[] #[zi (some ⟨w.heap.size+1,0,none⟩),zi (some ⟨w.heap.size+1+1,0,none⟩)]] W fun e w'=>∃ g,e=zj (O (some ⟨g,0,none⟩) n n)/\W.heap.size<=g/\g < w'.heap.size/\w'.ownsRow W.heap.size 4 1 (O (some ⟨g,0,none⟩) n n) n (AZ (B3 (Hl l.r k.r) n))/\Ov W w') /\
  (Calls Tryz.prog 70 #[zh #[U zd n,v],.func (.func 106) #[] #[zi (some ⟨w.heap.size+1,0,none⟩),zi (some ⟨w.heap.size+1+1,0,none⟩)]] W fun e w'=>∃ g,e=zj (O (some ⟨g,0,none⟩) n n)/\W.heap.size<=g/\g < w'.heap.size/\w'.ownsRow W.heap.size 4 1 (O (some ⟨g,0,none⟩) n n) n (AZ (B3 (Lr l.w k.w) n))/\Ov W w'):=by
 obtain ⟨x',y',e,hr1,hw1⟩:=hl
 obtain ⟨rfl,rfl⟩:x=x'/\y=y':=by simpa using e
 obtain ⟨z',u',e',hr2,hw2⟩:=hk
 obtain ⟨rfl,rfl⟩:z=z'/\u=u':=by simpa using e'
 obtain ⟨b1,o1,k1,rfl,q1⟩:=Co (AA hr1 hB) hln.1 h1
 obtain ⟨b2,o2,k2,rfl,q2⟩:=Co (AA hr2 hB) hkn.1 h1
 obtain ⟨b3,o3,k3,rfl,q3⟩:=Co (AA hw1 hB) hln.2 h1
 obtain ⟨b4,o4,k4,rfl,q4⟩:=Co (AA hw2 hB) hkn.2 h1
 have up:∀ (W':World),Ov W W'->∀ b o v,W.cell? ⟨b,o,none⟩=some v->W'.cell? ⟨b,o,none⟩=some v:=fun W' hb b o v h=>by rw [(Am hb).1 _ _ (bL h)];exact h
 refine ⟨D5 105 _ _ (Hl l.r k.r) n h1 hn v W (Aa fun i hi W' hb=>?_) Qv,D5 106 _ _ (Lr l.w k.w) n h1 hn v W (Aa fun i hi W' hb=>?_) Qu⟩
 ·exact LG _ _ n i b1 o1 k1 b2 o2 k2 _ _ W' hi hn (up W' hb _ _ _ c0) (up W' hb _ _ _ c2) (up W' hb _ _ _ (q1 i hi)) (up W' hb _ _ _ (q2 i hi))
 ·exact LF _ _ n i b3 o3 k3 b4 o4 k4 _ _ W' hi hn (up W' hb _ _ _ c1) (up W' hb _ _ _ c3) (up W' hb _ _ _ (q3 i hi)) (up W' hb _ _ _ (q4 i hi))
theorem Qm:QN:=by
 intro m v gs vl vk l k w hv hl hk
 have HL:=Aa hl
 have HK:=Aa hk
 have HV:=Aa hv
 obtain ⟨a1,k1,a2,k2,rfl⟩:=DR hl
 obtain ⟨a3,k3,a4,k4,rfl⟩:=DR hk
 obtain ⟨va,vn,vc,rfl⟩:=Cp hv
 have hb3:Ov w (((((w.alloc (ze #[U zd m,O va vn vc] 24)).alloc (ze #[O a1 l.r.length k1,O a2 l.w.length k2] 50)).alloc (ze #[O a3 k.r.length k3,O a4 k.w.length k4] 50)).alloc (ze #[O none 0 0,O none 0 0] 50)).alloc (ze #[O a1 l.r.length k1,O a2 l.w.length k2,O a3 k.r.length k3,O a4 k.w.length k4] 50)):=((((bA w _).alloc (by simp) _).alloc (by simp;omega) _).alloc (by simp;omega) _).alloc (by simp;omega) _
 have hcall:=NA w m gs (O va vn vc) _ _ _ _ l k HV.o HL.o HK.o _ (w.heap.size+1+1+1+1) hb3 (by simp [go_sem]) (by simp [go_sem]) (by simp [go_sem]) (by simp [go_sem])
 have hok:=fun h=>Kt (m:=m) (gs:=gs) (l:=l) (k:=k) h
 obtain ⟨r,hr⟩:=nm (EF m gs l k)
 rw [<-hr] at hcall hok ⊢
 have HC:=Aa hcall
 have HOK:=Aa hok
 clear hl hk hv hcall hok hr
 go_enter Tryz.func46,Tryz.ntmps46
 go_wp2_with fail
 refine (HC.o).mono ?_
 rintro e w1 ⟨rfl,hb1⟩
 have hB1:=hb3.trans (hb1.mono (by simp <;> omega))
 have hz1:=hb1.size
 simp at hz1
 obtain ⟨hc,hf⟩:=Am hb1
 have a0:w1.cell? ⟨w.heap.size,0,none⟩=some (U zd m):=by rw [hc _ _ (by simp <;> omega)];simp [go_sem]
 have a1':w1.cell? ⟨w.heap.size,1,none⟩=some (O va vn vc):=by rw [hc _ _ (by simp <;> omega)];simp [go_sem]
 have c0:w1.cell? ⟨w.heap.size+1,0,none⟩=some (O a1 l.r.length k1):=by rw [hc _ _ (by simp <;> omega)];simp [go_sem]
 have c1:w1.cell? ⟨w.heap.size+1,1,none⟩=some (O a2 l.w.length k2):=by rw [hc _ _ (by simp <;> omega)];simp [go_sem]
 have c2:w1.cell? ⟨w.heap.size+1+1,0,none⟩=some (O a3 k.r.length k3):=by rw [hc _ _ (by simp <;> omega)];simp [go_sem]
 have c3:w1.cell? ⟨w.heap.size+1+1,1,none⟩=some (O a4 k.w.length k4):=by rw [hc _ _ (by simp <;> omega)];simp [go_sem]
 have e0:w1.cell? ⟨w.heap.size+1+1+1,0,none⟩=some (O none 0 0):=by rw [hc _ _ (by simp <;> omega)];simp [go_sem]
 have e1:w1.cell? ⟨w.heap.size+1+1+1,1,none⟩=some (O none 0 0):=by rw [hc _ _ (by simp <;> omega)];simp [go_sem]
 have f0:w1.frozen? ⟨w.heap.size+1+1+1,0,none⟩=false:=by rw [hf _ _ (by simp <;> omega)];simp [go_sem]
 have f1:w1.frozen? ⟨w.heap.size+1+1+1,1,none⟩=false:=by rw [hf _ _ (by simp <;> omega)];simp [go_sem]
 clear hc hf hb1 hb3 HC
 by_cases hr0:r=0
 ·subst hr0
  obtain ⟨n,hm,h1,h6,hln,hkn,hch⟩:=HOK.o (by first | rfl | trivial)
  subst hm
  have KT:=Aa fun (W:World) (hB:Below (w.heap.size+1+1+1) w1 W)=>I5 w n h1 h6 _ _ _ _ (O va vn vc) l k HL.o HK.o hln hkn W (hB1.trans (hB.mono (by omega))) (Nat.le_trans (by omega) hB.size) (by rw [hB.cell (p:=⟨w.heap.size+1,0,none⟩) (by simp <;> omega)];exact c0) (by rw [hB.cell (p:=⟨w.heap.size+1,1,none⟩) (by simp <;> omega)];exact c1) (by rw [hB.cell (p:=⟨w.heap.size+1+1,0,none⟩) (by simp <;> omega)];exact c2) (by rw [hB.cell (p:=⟨w.heap.size+1+1,1,none⟩) (by simp <;> omega)];exact c3)
  have E0:=Aa e0
  have E1:=Aa e1
  have F0:=Aa f0
  have F1:=Aa f1
  clear c0 c1 c2 c3 e0 e1 f0 f1 hln hkn hch HOK HL HK HV
  have hz3:w.heap.size+1+1+1<=w1.heap.size:=by omega
  have hz4:w.heap.size+1+1+1 < w1.heap.size:=by omega
  have hltN:w.heap.size < w.heap.size+1+1+1:=by omega
  have HZ4:=Aa hz4
  have HLN:=Aa hltN
  have HZ3:=Aa hz3
  clear hz3 hz4 hltN
  go_wp2_with fail
  first | go_region_held3 (fun W=>W.cell? ⟨w.heap.size,0,none⟩=some (U zd n)/\W.cell? ⟨w.heap.size,1,none⟩=some (O va vn vc)/\Below (w.heap.size+1+1+1) w1 W) (first | assumption | exact ⟨a0,a1',below_drewN (Below.refl _ _) 1⟩ | exact Pk (by assumption) hbq HZ3.o | exact Pk (by assumption) hbp HZ3.o | exact QT (QT (by assumption) HLN.o (Nat.le_refl _) _) HLN.o (Nat.le_refl _) _ | fail) (first | (go_at_call 70;have hsec:=ep0;refine (KT.o _ (by assumption:_/\_/\_).2.2).2.mono ?_;rintro e wq ⟨g2,rfl,hg2,hg2',ho2,hbq⟩;have eq0:wq.cell? ⟨w.heap.size+1+1+1,0,none⟩=some (O none 0 0):=(by rw [(Am hbq).1 _ _ (bL ep0)];exact ep0);have eq1:wq.cell? ⟨w.heap.size+1+1+1,1,none⟩=some (O none 0 0):=(by rw [(Am hbq).1 _ _ (bL ep0)];exact ep1);have fq0:wq.frozen? ⟨w.heap.size+1+1+1,0,none⟩=false:=(by rw [(Am hbq).2 _ _ (bL ep0)];exact fp0);have fq1:wq.frozen? ⟨w.heap.size+1+1+1,1,none⟩=false:=(by rw [(Am hbq).2 _ _ (bL ep0)];exact fp1)) | (go_at_call 70;refine (KT.o _ (by assumption:_/\_/\_).2.2).1.mono ?_;rintro e wp ⟨g1,rfl,hg1,hg1',ho1,hbp⟩;have ep0:wp.cell? ⟨w.heap.size+1+1+1,0,none⟩=some (O none 0 0):=(by rw [(Am hbp).1 _ _ HZ4.o];exact E0.o);have ep1:wp.cell? ⟨w.heap.size+1+1+1,1,none⟩=some (O none 0 0):=(by rw [(Am hbp).1 _ _ HZ4.o];exact E1.o);have fp0:wp.frozen? ⟨w.heap.size+1+1+1,0,none⟩=false:=(by rw [(Am hbp).2 _ _ HZ4.o];exact F0.o);have fp1:wp.frozen? ⟨w.heap.size+1+1+1,1,none⟩=false:=(by rw [(Am hbp).2 _ _ HZ4.o];exact F1.o))) | fail
  all_goals go_wp2_with fail
  all_goals
   refine bodyPost_ret (v:=zk #[zh #[O (some ⟨g1,0,none⟩) n n,O (some ⟨g2,0,none⟩) n n],U zd 0]) (by simp [results,Tryz.results46,go_sem,eq0,eq1]) rfl ⟨_,rfl,Gq (w:=w) (wa:=w1.drew) (q:=w.heap.size+1+1+1) (f1:=Hl l.r k.r) (f2:=Lr l.w k.w) hB1.size HZ4.o ho1 hg1' hbp.size ho2 hbq hg2 _ _,?_⟩
   have hd1:Ov w w1.drew:=below_drewN hB1 1
   have hd2:=hd1.trans (hbp.mono hd1.size)
   have hd3:=hd2.trans (hbq.mono hd2.size)
   exact (hd3.setCell (by simp;omega) _).setCell (by simp;omega) _
 ·have hne:(r != 0)=true:=by simpa using hr0
  go_wp2_with fail
  refine bodyPost_ret (v:=zk #[zh #[O none 0 0,O none 0 0],U zd r]) (by simp [results,Tryz.results46,go_sem,e0,e1]) rfl ⟨_,rfl,Gs _ _,(hB1.setCell (by simp;omega) _).setCell (by simp;omega) _⟩
attribute [local go_sem ↓] Go.wp_at_zero Go.wp_at_succ
theorem I0 (gn:List (Nat × Nat)) (n who:Nat) (ps:List Pol):ps.all (Hz (acts gn n who))=Fg gn n who ps:=rfl
theorem Pj {wB W W':World} {b0 o0 b1 o1 b2 o2:Nat} {v0 v1 v2:Value} (h:W.cell? ⟨b0,o0,none⟩=some v0/\W.cell? ⟨b1,o1,none⟩=some v1/\W.cell? ⟨b2,o2,none⟩=some v2/\Ov wB W) (hb:Ov W W'):W'.cell? ⟨b0,o0,none⟩=some v0/\W'.cell? ⟨b1,o1,none⟩=some v1/\W'.cell? ⟨b2,o2,none⟩=some v2/\Ov wB W':=Qp h hb
theorem Qx (args:Array Value) (w:World):(callFunc 71 args).run Tryz.prog w=.ok (.enter 71 args) w:=by simp [go_sem]
theorem JD (ab lb ob n who:Nat) (hn:n<=6) (hw:who < n) (gn:List (Nat × Nat)) (pv:Value) (ps:List Pol) (w:World) (h0:w.cell? ⟨ab,0,none⟩=some (O (some ⟨ob,0,none⟩) n n)) (h1:w.cell? ⟨lb,0,none⟩=some pv) (hr:CF w ob n gn n) (hp:AN w pv ps) (hps:ps.length<=4/\∀ p∈ps,ET n p) :
  Calls Tryz.prog 71 #[U zd who,zi (some ⟨ab,0,none⟩),zi (some ⟨lb,0,none⟩)] w fun e w'=>e=zj (zg (Fg gn n who ps))/\Ov w w':=by
 obtain ⟨kb,hne,hc,hk⟩:=hr who hw
 have hrow:Ad w kb n (acts gn n who):=⟨BG _ _ _,fun i hi=>(hk i hi).1⟩
 have hM:=fun (W:World) (hB:Ov w W)=>EW kb n (acts gn n who) pv ps W hn (EB hrow hB) (Ak hp hB) hps
 simp only [I0] at hM
 obtain ⟨pa,pn,pc,rfl⟩:=Aw hp
 obtain ⟨r,hr⟩:=nm (Fg gn n who ps)
 rw [<-hr] at hM ⊢
 have KM:=Aa hM
 have i0:(0:Int)<=(who:Int):=by omega
 have i1:(who:Int) < (n:Int):=by omega
 clear hM hr hp hrow hk hne
 go_enter Tryz.func71,Tryz.ntmps71
 go_wp2_with fail
 first | go_region_held3 (fun W=>W.cell? ⟨ab,0,none⟩=some (O (some ⟨ob,0,none⟩) n n)/\W.cell? ⟨ob,who,none⟩=some (O (some ⟨kb,0,none⟩) n n)/\W.cell? ⟨lb,0,none⟩=some (O pa pn pc)/\Ov w W) (first | assumption | exact ⟨h0,hc,h1,below_drewN (Below.refl _ _) 1⟩ | exact Pj (by assumption) hbp | fail) (first | (go_at_call 72;refine (KM.o _ (by assumption:_/\_/\_/\_).2.2.2).mono ?_;rintro e wp ⟨rfl,hbp⟩)) | fail
 all_goals obtain ⟨-,-,-,hB⟩:=(by assumption:wp.cell? _=_/\_/\_/\_)
 all_goals go_wp2_with fail
 all_goals go_ret
 all_goals exact ⟨rfl,hB⟩
theorem J5 (args:Array Value) (w:World):(callFunc 73 args).run Tryz.prog w=.ok (.enter 73 args) w:=by simp [go_sem]
theorem JC (ab lb ob n who:Nat) (hn:n<=6) (hw:who < n) (gn:List (Nat × Nat)) (pv:Value) (ps:List Pol) (w:World) (h0:w.cell? ⟨ab,0,none⟩=some (O (some ⟨ob,0,none⟩) n n)) (h1:w.cell? ⟨lb,1,none⟩=some pv) (hr:CF w ob n gn n) (hp:AN w pv ps) (hps:ps.length<=4/\∀ p∈ps,ET n p) :
  Calls Tryz.prog 73 #[U zd who,zi (some ⟨ab,0,none⟩),zi (some ⟨lb,0,none⟩)] w fun e w'=>e=zj (zg (Fg gn n who ps))/\Ov w w':=by
 obtain ⟨kb,hne,hc,hk⟩:=hr who hw
 have hrow:Ad w kb n (acts gn n who):=⟨BG _ _ _,fun i hi=>(hk i hi).1⟩
 have hM:=fun (W:World) (hB:Ov w W)=>EW kb n (acts gn n who) pv ps W hn (EB hrow hB) (Ak hp hB) hps
 simp only [I0] at hM
 obtain ⟨pa,pn,pc,rfl⟩:=Aw hp
 obtain ⟨r,hr⟩:=nm (Fg gn n who ps)
 rw [<-hr] at hM ⊢
 have KM:=Aa hM
 have i0:(0:Int)<=(who:Int):=by omega
 have i1:(who:Int) < (n:Int):=by omega
 clear hM hr hp hrow hk hne
 go_enter Tryz.func73,Tryz.ntmps73
 go_wp2_with fail
 first | go_region_held3 (fun W=>W.cell? ⟨ab,0,none⟩=some (O (some ⟨ob,0,none⟩) n n)/\W.cell? ⟨ob,who,none⟩=some (O (some ⟨kb,0,none⟩) n n)/\W.cell? ⟨lb,1,none⟩=some (O pa pn pc)/\Ov w W) (first | assumption | exact ⟨h0,hc,h1,below_drewN (Below.refl _ _) 1⟩ | exact Pj (by assumption) hbp | fail) (first | (go_at_call 72;refine (KM.o _ (by assumption:_/\_/\_/\_).2.2.2).mono ?_;rintro e wp ⟨rfl,hbp⟩)) | fail
 all_goals obtain ⟨-,-,-,hB⟩:=(by assumption:wp.cell? _=_/\_/\_/\_)
 all_goals go_wp2_with fail
 all_goals go_ret
 all_goals exact ⟨rfl,hB⟩
theorem H6 (n:Nat) (h1:1<=n) (hn:n<=6) (ab lb ob:Nat) (gn:List (Nat × Nat)) (v pr pw:Value) (bl:Lab) (w3:World) (h0:w3.cell? ⟨ab,0,none⟩=some (O (some ⟨ob,0,none⟩) n n)) (l0:w3.cell? ⟨lb,0,none⟩=some pr) (l1:w3.cell? ⟨lb,1,none⟩=some pw) (hr:CF w3 ob n gn n) (hp:AN w3 pr bl.r) (hq:AN w3 pw bl.w) (hin:M2 n bl) (W:World) (hB:Ov w3 W) :
  (Calls Tryz.prog 70 #[zh #[U zd n,v],.func (.func 71) #[] #[zi (some ⟨ab,0,none⟩),zi (some ⟨lb,0,none⟩)]] W fun e w'=>∃ g,e=zj (O (some ⟨g,0,none⟩) n n)/\W.heap.size<=g/\g < w'.heap.size/\w'.ownsRow W.heap.size 4 1 (O (some ⟨g,0,none⟩) n n) n (AZ (B3 (fun i=>Fg gn n i bl.r) n))/\Ov W w') /\
  (Calls Tryz.prog 70 #[zh #[U zd n,v],.func (.func 73) #[] #[zi (some ⟨ab,0,none⟩),zi (some ⟨lb,0,none⟩)]] W fun e w'=>∃ g,e=zj (O (some ⟨g,0,none⟩) n n)/\W.heap.size<=g/\g < w'.heap.size/\w'.ownsRow W.heap.size 4 1 (O (some ⟨g,0,none⟩) n n) n (AZ (B3 (fun i=>Fg gn n i bl.w) n))/\Ov W w'):=by
 have up:∀ (W':World),Ov W W'->∀ b o v,w3.cell? ⟨b,o,none⟩=some v->W'.cell? ⟨b,o,none⟩=some v:=fun W' hb b o v h=>by rw [(Am hb).1 _ _ (Nat.lt_of_lt_of_le (bL h) hB.size),(Am hB).1 _ _ (bL h)];exact h
 refine ⟨D5 71 _ _ (fun i=>Fg gn n i bl.r) n h1 hn v W (Aa fun i hi W' hb=>?_) Qx,D5 73 _ _ (fun i=>Fg gn n i bl.w) n h1 hn v W (Aa fun i hi W' hb=>?_) J5⟩
 ·have hB':Ov w3 W':=hB.trans (hb.mono hB.size)
  exact JD ab lb ob n i hn hi gn pr bl.r W' (up W' hb _ _ _ h0) (up W' hb _ _ _ l0) (Ea hr hB') (Ak hp hB') hin.1
 ·have hB':Ov w3 W':=hB.trans (hb.mono hB.size)
  exact JC ab lb ob n i hn hi gn pw bl.w W' (up W' hb _ _ _ h0) (up W' hb _ _ _ l1) (Ea hr hB') (Ak hq hB') hin.2
theorem QS {wB W:World} {b o0 o1 q:Nat} {v0 v1 u:Value} (h:W.cell? ⟨b,o0,none⟩=some v0/\W.cell? ⟨b,o1,none⟩=some v1/\(W.cell? ⟨q,0,none⟩=some u->Ov wB W)) (hq:W.cell? ⟨q,0,none⟩=some u):Ov wB W:=h.2.2 hq
theorem Pi {wB W W':World} {b o0 o1 q:Nat} {v0 v1 u:Value} (h:W.cell? ⟨b,o0,none⟩=some v0/\W.cell? ⟨b,o1,none⟩=some v1/\(W.cell? ⟨q,0,none⟩=some u->Ov wB W)) (hq:W.cell? ⟨q,0,none⟩=some u) (hb:Ov W W'):W'.cell? ⟨b,o0,none⟩=some v0/\W'.cell? ⟨b,o1,none⟩=some v1/\(W'.cell? ⟨q,0,none⟩=some u->Ov wB W'):=by
 obtain ⟨h0,h1,h2⟩:=h
 have hB:=h2 hq
 obtain ⟨hc,hf⟩:=Am hb
 exact ⟨by rw [hc _ _ (bL h0)];exact h0,by rw [hc _ _ (bL h1)];exact h1,fun _=>hB.trans (hb.mono hB.size)⟩
theorem Ro {wB W:World} {b o0 o1 q g n:Nat} {v0 v1 u y:Value} (h:W.cell? ⟨b,o0,none⟩=some v0/\W.cell? ⟨b,o1,none⟩=some v1/\(W.cell? ⟨q,0,none⟩=some (O none 0 0)->Ov wB W)) (hb:b≠q) (hq:W.cell? ⟨q,0,none⟩=some u) :
  ((W.setCell ⟨q,0,none⟩ (O (some ⟨g,0,none⟩) n n)).setCell ⟨q,1,none⟩ y).cell? ⟨b,o0,none⟩=some v0/\((W.setCell ⟨q,0,none⟩ (O (some ⟨g,0,none⟩) n n)).setCell ⟨q,1,none⟩ y).cell? ⟨b,o1,none⟩=some v1/\(((W.setCell ⟨q,0,none⟩ (O (some ⟨g,0,none⟩) n n)).setCell ⟨q,1,none⟩ y).cell? ⟨q,0,none⟩=some (O none 0 0)->Ov wB ((W.setCell ⟨q,0,none⟩ (O (some ⟨g,0,none⟩) n n)).setCell ⟨q,1,none⟩ y)):=by
 obtain ⟨h0,h1,h2⟩:=h
 have hne:∀ o,((W.setCell ⟨q,0,none⟩ (O (some ⟨g,0,none⟩) n n)).setCell ⟨q,1,none⟩ y).cell? ⟨b,o,none⟩=W.cell? ⟨b,o,none⟩:=fun o=>by
  rw [World.cell?_setCell_other _ _ _ _ (by intro e;injection e with e;exact hb e.symm),World.cell?_setCell_other _ _ _ _ (by intro e;injection e with e;exact hb e.symm)]
 refine ⟨by rw [hne];exact h0,by rw [hne];exact h1,fun e=>?_⟩
 rw [World.cell?_setCell_other _ _ _ _ (by simp),World.cell?_setCell_same _ _ _ hq] at e
 cases e
theorem NV {m:Int} {gs:List (Int × Int)} {bl:Lab} (h:A3 m gs bl=0):∃ n:Nat,m=n/\1<=n/\n<=6/\(Ay gs).map toI=gs/\(Ay gs).length<=20/\(∀ g∈Ay gs,g.1 < n/\g.2 < n)/\M2 n bl/\AL m gs=0:=by
 unfold A3 at h
 split at h
 ·rename_i hc
  obtain ⟨n,hm,h1,h2,h3,h4,h5⟩:=EI hc
  subst hm
  exact ⟨n,rfl,h1,h2,h3,h4,h5,Hb h,hc⟩
 ·rename_i hc
  exact absurd h hc
theorem NU:OK:=by
 intro m v gs pr pw bl w hv hp hq
 have HV:=Aa hv
 have HP:=Aa hp
 have HQ:=Aa hq
 obtain ⟨va,vn,vc,rfl⟩:=Cp hv
 obtain ⟨pa,pn,pc,rfl⟩:=Aw hp
 obtain ⟨qa,qn,qc,rfl⟩:=Aw hq
 have hb3:Ov w (((w.alloc (ze #[U zd m,O va vn vc] 24)).alloc (ze #[O pa pn pc,O qa qn qc] 39)).alloc (ze #[O none 0 0,O none 0 0] 50)):=((bA w _).alloc (by simp) _).alloc (by simp;omega) _
 have hcall:=Kw m (O va vn vc) gs (O pa pn pc) (O qa qn qc) bl _ (Af HV.o hb3) (Ak HP.o hb3) (Ak HQ.o hb3)
 have hok:=fun h=>NV (m:=m) (gs:=gs) (bl:=bl) h
 obtain ⟨r,hr⟩:=nm (A3 m gs bl)
 rw [<-hr] at hcall hok ⊢
 have HC:=Aa hcall
 have HOK:=Aa hok
 clear hv hp hq hcall hok hr
 go_enter Tryz.func23,Tryz.ntmps23
 go_wp2_with fail
 refine (HC.o).mono ?_
 rintro e w1 ⟨rfl,hb1⟩
 have hB1:=hb3.trans (hb1.mono (by simp <;> omega))
 have hz1:=hb1.size
 simp at hz1
 obtain ⟨hc,hf⟩:=Am hb1
 have a0:w1.cell? ⟨w.heap.size,0,none⟩=some (U zd m):=by rw [hc _ _ (by simp <;> omega)];simp [go_sem]
 have a1:w1.cell? ⟨w.heap.size,1,none⟩=some (O va vn vc):=by rw [hc _ _ (by simp <;> omega)];simp [go_sem]
 have c0:w1.cell? ⟨w.heap.size+1,0,none⟩=some (O pa pn pc):=by rw [hc _ _ (by simp <;> omega)];simp [go_sem]
 have c1:w1.cell? ⟨w.heap.size+1,1,none⟩=some (O qa qn qc):=by rw [hc _ _ (by simp <;> omega)];simp [go_sem]
 have e0:w1.cell? ⟨w.heap.size+1+1,0,none⟩=some (O none 0 0):=by rw [hc _ _ (by simp <;> omega)];simp [go_sem]
 have e1:w1.cell? ⟨w.heap.size+1+1,1,none⟩=some (O none 0 0):=by rw [hc _ _ (by simp <;> omega)];simp [go_sem]
 have f0:w1.frozen? ⟨w.heap.size+1+1,0,none⟩=false:=by rw [hf _ _ (by simp <;> omega)];simp [go_sem]
 have f1:w1.frozen? ⟨w.heap.size+1+1,1,none⟩=false:=by rw [hf _ _ (by simp <;> omega)];simp [go_sem]
 clear hc hf hb1 hb3 HC
 by_cases hr0:r=0
 ·subst hr0
  obtain ⟨n,hm,h1,h6,hgs,hlen,hgb,hin,hch⟩:=HOK.o (by first | rfl | trivial)
  subst hm
  have hfor:=Ni n h1 h6 (O va vn vc) (Ay gs) w1 (by rw [hgs];exact Af HV.o hB1) hlen hgb (by rw [hgs];exact hch)
  have HFOR:=Aa hfor
  have HIN:=Aa hin
  clear hfor hin hgs hlen hgb hch HOK HV
  go_wp2_with fail
  refine (HFOR.o).mono ?_
  rintro e w2 ⟨ob,rfl,hrows,hb2⟩
  obtain ⟨w3,hw3⟩:=nm (w2.alloc (ze #[O (some ⟨ob,0,none⟩) n n] 137))
  have hb23:Ov w2 w3:=by rw [hw3];exact bA w2 _
  have hb13:Ov w1 w3:=hb2.trans (hb23.mono hb2.size)
  have hB3:=hB1.trans (hb13.mono hB1.size)
  have hz3:=hb13.size
  have up:∀ b o v,w1.cell? ⟨b,o,none⟩=some v->w3.cell? ⟨b,o,none⟩=some v:=fun b o v h=>by rw [(Am hb13).1 _ _ (bL h)];exact h
  have hab:w3.cell? ⟨w2.heap.size,0,none⟩=some (O (some ⟨ob,0,none⟩) n n):=by rw [hw3];simp [go_sem]
  have KT:=Aa fun (W:World) (hB:Ov w3 W)=>H6 n h1 h6 w2.heap.size (w.heap.size+1) ob (Ay gs) (O va vn vc) _ _ bl w3 hab (up _ _ _ c0) (up _ _ _ c1) (Ea hrows hb23) (Ak HP.o hB3) (Ak HQ.o hB3) HIN.o W hB
  have b0:=up _ _ _ a0
  have b1:=up _ _ _ a1
  have E0:=Aa (up _ _ _ e0)
  have E1:=Aa (up _ _ _ e1)
  have F0:Hx (w3.frozen? ⟨w.heap.size+1+1,0,none⟩=false):=by rw [(Am hb13).2 _ _ (bL e0)];exact f0
  have F1:Hx (w3.frozen? ⟨w.heap.size+1+1,1,none⟩=false):=by rw [(Am hb13).2 _ _ (bL e0)];exact f1
  have HZ4:Hx (w.heap.size+1+1 < w3.heap.size):=by show _ < _;omega
  have HNE:Hx (w.heap.size≠w.heap.size+1+1):=by show _≠_;omega
  have HW3:=Aa hw3
  have ED:Hx (w3.drew.cell? ⟨w.heap.size+1+1,0,none⟩=some (O none 0 0)):=E0.o
  clear a0 a1 c0 c1 e0 e1 f0 f1 hab up hrows hb2 hb23 hb13 hw3 HP HQ HIN HFOR hB1
  go_wp2_with fail
  rw [<-HW3.o]
  clear HW3
  first | go_region_held3 (fun W=>W.cell? ⟨w.heap.size,0,none⟩=some (U zd n)/\W.cell? ⟨w.heap.size,1,none⟩=some (O va vn vc)/\(W.cell? ⟨w.heap.size+1+1,0,none⟩=some (O none 0 0)->Ov w3 W)) (first | assumption | exact ⟨b0,b1,fun _=>below_drewN (Below.refl _ _) 1⟩ | exact Pi (by assumption) ep0 hbq | exact Pi (by assumption) ED.o hbp | exact Ro (by assumption) HNE.o eq0 | fail) (first | (go_at_call 70;have hsec:=ep0;refine (KT.o _ (QS (by assumption) ep0)).2.mono ?_;rintro e wq ⟨g2,rfl,hg2,hg2',ho2,hbq⟩;have eq0:wq.cell? ⟨w.heap.size+1+1,0,none⟩=some (O none 0 0):=(by rw [(Am hbq).1 _ _ (bL ep0)];exact ep0);have eq1:wq.cell? ⟨w.heap.size+1+1,1,none⟩=some (O none 0 0):=(by rw [(Am hbq).1 _ _ (bL ep0)];exact ep1);have fq0:wq.frozen? ⟨w.heap.size+1+1,0,none⟩=false:=(by rw [(Am hbq).2 _ _ (bL ep0)];exact fp0);have fq1:wq.frozen? ⟨w.heap.size+1+1,1,none⟩=false:=(by rw [(Am hbq).2 _ _ (bL ep0)];exact fp1)) | (go_at_call 70;refine (KT.o _ (QS (by assumption) ED.o)).1.mono ?_;rintro e wp ⟨g1,rfl,hg1,hg1',ho1,hbp⟩;have ep0:wp.cell? ⟨w.heap.size+1+1,0,none⟩=some (O none 0 0):=(by rw [(Am hbp).1 _ _ HZ4.o];exact E0.o);have ep1:wp.cell? ⟨w.heap.size+1+1,1,none⟩=some (O none 0 0):=(by rw [(Am hbp).1 _ _ HZ4.o];exact E1.o);have fp0:wp.frozen? ⟨w.heap.size+1+1,0,none⟩=false:=(by rw [(Am hbp).2 _ _ HZ4.o];exact F0.o);have fp1:wp.frozen? ⟨w.heap.size+1+1,1,none⟩=false:=(by rw [(Am hbp).2 _ _ HZ4.o];exact F1.o))) | fail
  all_goals go_wp2_with fail
  all_goals
   refine bodyPost_ret (v:=zk #[zh #[O (some ⟨g1,0,none⟩) n n,O (some ⟨g2,0,none⟩) n n],U zd 0]) (by simp [results,Tryz.results23,go_sem,eq0,eq1]) rfl ⟨_,rfl,Gq (w:=w) (wa:=w3.drew) (q:=w.heap.size+1+1) (f1:=fun i=>Fg (Ay gs) n i bl.r) (f2:=fun i=>Fg (Ay gs) n i bl.w) hB3.size HZ4.o ho1 hg1' hbp.size ho2 hbq hg2 _ _,?_⟩
   have hd1:Ov w w3.drew:=below_drewN hB3 1
   have hd2:=hd1.trans (hbp.mono hd1.size)
   have hd3:=hd2.trans (hbq.mono hd2.size)
   exact (hd3.setCell (by simp;omega) _).setCell (by simp;omega) _
 ·have hne:(r != 0)=true:=by simpa using hr0
  go_wp2_with fail
  exact bodyPost_ret (v:=zk #[zh #[O none 0 0,O none 0 0],U zd r]) (by simp [results,Tryz.results23,go_sem,e0,e1]) rfl ⟨_,rfl,Gs _ _,(hB1.setCell (by simp;omega) _).setCell (by simp;omega) _⟩
end Go.Proofs.YtfffpjkcfnekaaaGreat
namespace Go.Proofs.YtfffpjkcfnekaaaGreat.Ex
open Go.RowKit
open Go.Value renaming slice -> O, int -> U, bool -> zg, agg -> zh, pointer -> zi, tuple -> zk
open Go.IntKind renaming i64 -> zd
open Go.Obj renaming cells -> ze
open Go.Ending renaming returned -> zj
theorem BV {w:World} {B B' e s:Nat} {v:Value} {n:Nat} {xs:List Value} (h:w.ownsRow B e s v n xs) (hb:B'<=B):w.ownsRow B' e s v n xs:=by
 obtain ⟨h1,h | ⟨g,cap,cur,h2,h3,h4⟩⟩:=h
 ·exact ⟨h1,Or.inl h⟩
 ·exact ⟨h1,Or.inr ⟨g,cap,cur,h2,Nat.le_trans hb h3,h4⟩⟩
theorem AG {w:World} {B e s:Nat} {v:Value} {n:Nat} {xs:List Value} (h:w.ownsRow B e s v n xs):∃ a n c,v=O a n c:=by
 obtain ⟨h1,⟨h,_⟩ | ⟨g,cap,cur,h2,h3,h4⟩⟩:=h
 ·exact ⟨_,_,_,h⟩
 ·exact ⟨_,_,_,h2⟩
theorem Nk (m:Int) (ga gn gc) (sa sn sc ya yn yc oa on oc va vn vc fa fn fc ba bn bc la ln lc ka kn kc gs) (lr lw kr kw:Value) (l k) (w:World) (hg:AF w (O ga gn gc) gs) (hl:A5 w (zh #[lr,lw]) l) (hk:A5 w (zh #[kr,kw]) k) (h2:EF m gs l k=0) :
  Calls Tryz.prog 57 #[zh #[U zd m,O ga gn gc,O sa sn sc,O ya yn yc,O oa on oc,O va vn vc,O fa fn fc,O ba bn bc,O la ln lc,O ka kn kc],zh #[lr,lw],zh #[kr,kw]] w fun e w'=>e=zj (zg (AE l k m.toNat))/\Ov w w':=by
 have hbel:Ov w (((w.alloc (ze #[U zd m,O ga gn gc,O sa sn sc,O ya yn yc,O oa on oc,O va vn vc,O fa fn fc,O ba bn bc,O la ln lc,O ka kn kc] 108)).alloc (ze #[lr,lw] 50)).alloc (ze #[kr,kw] 50)):=((bA w _).alloc (by simp) _).alloc (by simp;omega) _
 have K:=Aa (Om m (O ga gn gc) gs (zh #[lr,lw]) (zh #[kr,kw]) l k _ (Af hg hbel) (AJ hl hbel) (AJ hk hbel))
 rw [h2] at K
 obtain ⟨a1,n1,c1',rfl⟩:∃ a n c,lr=O a n c:=by obtain ⟨x,y,e,⟨a,c,e2,-⟩,-⟩:=hl;simp at e;obtain ⟨rfl,rfl⟩:=e;exact ⟨_,_,_,e2⟩
 obtain ⟨a2,n2,c2',rfl⟩:∃ a n c,lw=O a n c:=by obtain ⟨x,y,e,-,⟨a,c,e2,-⟩⟩:=hl;simp at e;obtain ⟨rfl,rfl⟩:=e;exact ⟨_,_,_,e2⟩
 obtain ⟨a3,n3,c3',rfl⟩:∃ a n c,kr=O a n c:=by obtain ⟨x,y,e,⟨a,c,e2,-⟩,-⟩:=hk;simp at e;obtain ⟨rfl,rfl⟩:=e;exact ⟨_,_,_,e2⟩
 obtain ⟨a4,n4,c4',rfl⟩:∃ a n c,kw=O a n c:=by obtain ⟨x,y,e,-,⟨a,c,e2,-⟩⟩:=hk;simp at e;obtain ⟨rfl,rfl⟩:=e;exact ⟨_,_,_,e2⟩
 obtain ⟨c0,c1⟩:=rc2 (QJ w [U zd m,O ga gn gc,O sa sn sc,O ya yn yc,O oa on oc,O va vn vc,O fa fn fc,O ba bn bc,O la ln lc,O ka kn kc] 108 (ze #[O a1 n1 c1',O a2 n2 c2'] 50) (ze #[O a3 n3 c3',O a4 n4 c4'] 50))
 obtain ⟨d0,d1⟩:=rc2 (QI w (ze #[U zd m,O ga gn gc,O sa sn sc,O ya yn yc,O oa on oc,O va vn vc,O fa fn fc,O ba bn bc,O la ln lc,O ka kn kc] 108) [O a1 n1 c1',O a2 n2 c2'] 50 (ze #[O a3 n3 c3',O a4 n4 c4'] 50))
 obtain ⟨e0,e1⟩:=rc2 (Rc w (ze #[U zd m,O ga gn gc,O sa sn sc,O ya yn yc,O oa on oc,O va vn vc,O fa fn fc,O ba bn bc,O la ln lc,O ka kn kc] 108) (ze #[O a1 n1 c1',O a2 n2 c2'] 50) [O a3 n3 c3',O a4 n4 c4'] 50)
 clear hg hl hk h2
 go_enter Tryz.func57,Tryz.ntmps57
 go_wp2_with fail
 refine (K.o).mono ?_
 rintro e w1 ⟨rfl,hb1⟩
 have hB1:=hbel.trans (hb1.mono (by simp <;> omega))
 clear K c0 c1 d0 d1 e0 e1
 go_wp2_with fail
 exact bodyPost_ret (v:=zg (AE l k m.toNat)) (by simp [results,Tryz.results57,go_sem]) rfl ⟨rfl,hB1⟩
theorem Ku (m:Int) (ga gn gc) (sa sn sc ya yn yc oa on oc va vn vc fa fn fc ba bn bc la ln lc ka kn kc gs) (lr lw kr kw:Value) (l k) (w:World) (hg:AF w (O ga gn gc) gs) (hl:A5 w (zh #[lr,lw]) l) (hk:A5 w (zh #[kr,kw]) k) (h2:EF m gs l k=0) :
  Calls Tryz.prog 58 #[zh #[U zd m,O ga gn gc,O sa sn sc,O ya yn yc,O oa on oc,O va vn vc,O fa fn fc,O ba bn bc,O la ln lc,O ka kn kc],zh #[lr,lw],zh #[kr,kw]] w fun e w'=>∃ vj,e=zj vj/\AY w w' vj (BE l k m.toNat)/\Ov w w':=by
 have hbel:Ov w ((((w.alloc (ze #[U zd m,O ga gn gc,O sa sn sc,O ya yn yc,O oa on oc,O va vn vc,O fa fn fc,O ba bn bc,O la ln lc,O ka kn kc] 108)).alloc (ze #[lr,lw] 50)).alloc (ze #[kr,kw] 50)).alloc (ze #[O none 0 0,O none 0 0] 50)):=(((bA w _).alloc (by simp) _).alloc (by simp;omega) _).alloc (by simp;omega) _
 have K:=Aa (Qm m (O ga gn gc) gs (zh #[lr,lw]) (zh #[kr,kw]) l k _ (Af hg hbel) (AJ hl hbel) (AJ hk hbel))
 rw [h2] at K
 obtain ⟨a1,n1,c1',rfl⟩:∃ a n c,lr=O a n c:=by obtain ⟨x,y,e,⟨a,c,e2,-⟩,-⟩:=hl;simp at e;obtain ⟨rfl,rfl⟩:=e;exact ⟨_,_,_,e2⟩
 obtain ⟨a2,n2,c2',rfl⟩:∃ a n c,lw=O a n c:=by obtain ⟨x,y,e,-,⟨a,c,e2,-⟩⟩:=hl;simp at e;obtain ⟨rfl,rfl⟩:=e;exact ⟨_,_,_,e2⟩
 obtain ⟨a3,n3,c3',rfl⟩:∃ a n c,kr=O a n c:=by obtain ⟨x,y,e,⟨a,c,e2,-⟩,-⟩:=hk;simp at e;obtain ⟨rfl,rfl⟩:=e;exact ⟨_,_,_,e2⟩
 obtain ⟨a4,n4,c4',rfl⟩:∃ a n c,kw=O a n c:=by obtain ⟨x,y,e,-,⟨a,c,e2,-⟩⟩:=hk;simp at e;obtain ⟨rfl,rfl⟩:=e;exact ⟨_,_,_,e2⟩
 obtain ⟨c0,c1⟩:=rc2 (QJ w [U zd m,O ga gn gc,O sa sn sc,O ya yn yc,O oa on oc,O va vn vc,O fa fn fc,O ba bn bc,O la ln lc,O ka kn kc] 108 (ze #[O a1 n1 c1',O a2 n2 c2'] 50) (ze #[O a3 n3 c3',O a4 n4 c4'] 50))
 obtain ⟨d0,d1⟩:=rc2 (QI w (ze #[U zd m,O ga gn gc,O sa sn sc,O ya yn yc,O oa on oc,O va vn vc,O fa fn fc,O ba bn bc,O la ln lc,O ka kn kc] 108) [O a1 n1 c1',O a2 n2 c2'] 50 (ze #[O a3 n3 c3',O a4 n4 c4'] 50))
 obtain ⟨e0,e1⟩:=rc2 (Rc w (ze #[U zd m,O ga gn gc,O sa sn sc,O ya yn yc,O oa on oc,O va vn vc,O fa fn fc,O ba bn bc,O la ln lc,O ka kn kc] 108) (ze #[O a1 n1 c1',O a2 n2 c2'] 50) [O a3 n3 c3',O a4 n4 c4'] 50)
 clear hg hl hk h2
 go_enter Tryz.func58,Tryz.ntmps58
 go_wp2_with fail
 refine (K.o).mono ?_
 rintro e w1 ⟨vj,rfl,hf,hb1⟩
 rw [if_pos trivial] at hf
 have hB1:=hbel.trans (hb1.mono (by simp <;> omega))
 obtain ⟨vr,vw,rfl,hr,hw,hap⟩:=hf
 have hr1:=BV (B':=w.heap.size+1+1+1+1) hr (by simp)
 have hw1:=BV (B':=w.heap.size+1+1+1+1) hw (by simp)
 obtain ⟨p1,q1,r1,rfl⟩:=AG hr1
 obtain ⟨p2,q2,r2,rfl⟩:=AG hw1
 have hbz:Ov w1 (w1.alloc (ze #[O p1 q1 r1,O p2 q2 r2] 50)):=bA w1 _
 have hlt:w.heap.size+1+1+1 < w1.heap.size:=by have:=hb1.size;simp at this;omega
 obtain ⟨hc,hfr⟩:=Am hb1
 obtain ⟨hc2,hfr2⟩:=Am hbz
 have x0:(w1.alloc (ze #[O p1 q1 r1,O p2 q2 r2] 50)).cell? ⟨w.heap.size+1+1+1,0,none⟩=some (O none 0 0):=by rw [hc2 _ _ (by first | omega | (simp <;> omega)),hc _ _ (by first | omega | (simp <;> omega))];simp [go_sem]
 have x1:(w1.alloc (ze #[O p1 q1 r1,O p2 q2 r2] 50)).cell? ⟨w.heap.size+1+1+1,1,none⟩=some (O none 0 0):=by rw [hc2 _ _ (by first | omega | (simp <;> omega)),hc _ _ (by first | omega | (simp <;> omega))];simp [go_sem]
 have f0:(w1.alloc (ze #[O p1 q1 r1,O p2 q2 r2] 50)).frozen? ⟨w.heap.size+1+1+1,0,none⟩=false:=by rw [hfr2 _ _ (by first | omega | (simp <;> omega)),hfr _ _ (by first | omega | (simp <;> omega))];simp [go_sem]
 have f1:(w1.alloc (ze #[O p1 q1 r1,O p2 q2 r2] 50)).frozen? ⟨w.heap.size+1+1+1,1,none⟩=false:=by rw [hfr2 _ _ (by first | omega | (simp <;> omega)),hfr _ _ (by first | omega | (simp <;> omega))];simp [go_sem]
 have HR:=Aa (CT hr1 hbz)
 have HW:=Aa (CT hw1 hbz)
 have HB:=Aa (hB1.trans (hbz.mono hB1.size))
 have HAP:=Aa hap
 have HLT:=Aa hlt
 clear K c0 c1 d0 d1 e0 e1 hr hw hr1 hw1 hap hc hfr hc2 hfr2 hb1 hB1 hbel hlt hbz
 go_wp2_with fail
 exact bodyPost_ret (v:=zh #[O p1 q1 r1,O p2 q2 r2]) (by simp [results,Tryz.results58,go_sem,x0,x1]) rfl ⟨_,rfl,⟨_,_,rfl,BV (Ba (Ba HR.o (by simp) _) (by simp) _) (by omega),BV (Ba (Ba HW.o (by simp) _) (by simp) _) (by omega),HAP.o⟩,(HB.o.setCell (by simp;omega) _).setCell (by simp;omega) _⟩
theorem JB (m:Int) (ga gn gc) (sa sn sc ya yn yc oa on oc va vn vc fa fn fc ba bn bc la ln lc ka kn kc gs) (pr pw:Value) (bl:Lab) (w:World) (hg:AF w (O ga gn gc) gs) (hl:AN w pr bl.r) (hk:AN w pw bl.w) (h2:A3 m gs bl=0) :
  Calls Tryz.prog 114 #[zh #[U zd m,O ga gn gc,O sa sn sc,O ya yn yc,O oa on oc,O va vn vc,O fa fn fc,O ba bn bc,O la ln lc,O ka kn kc],zh #[pr,pw]] w fun e w'=>∃ vj,e=zj vj/\AY w w' vj (Av (Ay gs) m.toNat bl)/\Ov w w':=by
 obtain ⟨a1,n1,z1,rfl⟩:=Aw hl
 obtain ⟨a2,n2,z2,rfl⟩:=Aw hk
 have hbel:Ov w (((w.alloc (ze #[U zd m,O ga gn gc,O sa sn sc,O ya yn yc,O oa on oc,O va vn vc,O fa fn fc,O ba bn bc,O la ln lc,O ka kn kc] 108)).alloc (ze #[O a1 n1 z1,O a2 n2 z2] 39)).alloc (ze #[O none 0 0,O none 0 0] 50)):=((bA w _).alloc (by simp) _).alloc (by simp;omega) _
 have K:=Aa (NU m (O ga gn gc) gs (O a1 n1 z1) (O a2 n2 z2) bl _ (Af hg hbel) (Ak hl hbel) (Ak hk hbel))
 rw [h2] at K
 obtain ⟨c0,c1⟩:=rc2 (QJ w [U zd m,O ga gn gc,O sa sn sc,O ya yn yc,O oa on oc,O va vn vc,O fa fn fc,O ba bn bc,O la ln lc,O ka kn kc] 108 (ze #[O a1 n1 z1,O a2 n2 z2] 39) (ze #[O none 0 0,O none 0 0] 50))
 obtain ⟨d0,d1⟩:=rc2 (QI w (ze #[U zd m,O ga gn gc,O sa sn sc,O ya yn yc,O oa on oc,O va vn vc,O fa fn fc,O ba bn bc,O la ln lc,O ka kn kc] 108) [O a1 n1 z1,O a2 n2 z2] 39 (ze #[O none 0 0,O none 0 0] 50))
 clear hg hl hk h2
 go_enter Tryz.func114,Tryz.ntmps114
 go_wp2_with fail
 refine (K.o).mono ?_
 rintro e w1 ⟨vj,rfl,hf,hb1⟩
 rw [if_pos trivial] at hf
 have hB1:=hbel.trans (hb1.mono (by simp <;> omega))
 obtain ⟨vr,vw,rfl,hr,hw,hap⟩:=hf
 have hr1:=BV (B':=w.heap.size+1+1+1) hr (by simp)
 have hw1:=BV (B':=w.heap.size+1+1+1) hw (by simp)
 obtain ⟨p1,q1,r1,rfl⟩:=AG hr1
 obtain ⟨p2,q2,r2,rfl⟩:=AG hw1
 have hbz:Ov w1 (w1.alloc (ze #[O p1 q1 r1,O p2 q2 r2] 50)):=bA w1 _
 have hlt:w.heap.size+1+1 < w1.heap.size:=by have:=hb1.size;simp at this;omega
 obtain ⟨hc,hfr⟩:=Am hb1
 obtain ⟨hc2,hfr2⟩:=Am hbz
 have x0:(w1.alloc (ze #[O p1 q1 r1,O p2 q2 r2] 50)).cell? ⟨w.heap.size+1+1,0,none⟩=some (O none 0 0):=by rw [hc2 _ _ (by first | omega | (simp <;> omega)),hc _ _ (by first | omega | (simp <;> omega))];simp [go_sem]
 have x1:(w1.alloc (ze #[O p1 q1 r1,O p2 q2 r2] 50)).cell? ⟨w.heap.size+1+1,1,none⟩=some (O none 0 0):=by rw [hc2 _ _ (by first | omega | (simp <;> omega)),hc _ _ (by first | omega | (simp <;> omega))];simp [go_sem]
 have f0:(w1.alloc (ze #[O p1 q1 r1,O p2 q2 r2] 50)).frozen? ⟨w.heap.size+1+1,0,none⟩=false:=by rw [hfr2 _ _ (by first | omega | (simp <;> omega)),hfr _ _ (by first | omega | (simp <;> omega))];simp [go_sem]
 have f1:(w1.alloc (ze #[O p1 q1 r1,O p2 q2 r2] 50)).frozen? ⟨w.heap.size+1+1,1,none⟩=false:=by rw [hfr2 _ _ (by first | omega | (simp <;> omega)),hfr _ _ (by first | omega | (simp <;> omega))];simp [go_sem]
 have HR:=Aa (CT hr1 hbz)
 have HW:=Aa (CT hw1 hbz)
 have HB:=Aa (hB1.trans (hbz.mono hB1.size))
 have HAP:=Aa hap
 have HLT:=Aa hlt
 clear K c0 c1 d0 d1 hr hw hr1 hw1 hap hc hfr hc2 hfr2 hb1 hB1 hbel hlt hbz
 go_wp2_with fail
 exact bodyPost_ret (v:=zh #[O p1 q1 r1,O p2 q2 r2]) (by simp [results,Tryz.results114,go_sem,x0,x1]) rfl ⟨_,rfl,⟨_,_,rfl,BV (Ba (Ba HR.o (by simp) _) (by simp) _) (by omega),BV (Ba (Ba HW.o (by simp) _) (by simp) _) (by omega),HAP.o⟩,(HB.o.setCell (by simp;omega) _).setCell (by simp;omega) _⟩
end Go.Proofs.YtfffpjkcfnekaaaGreat.Ex
namespace Go.Proofs.YtfffpjkcfnekaaaGreat.Ex
def Bs (n:Nat):Lev:=⟨List.replicate n true,List.replicate n false⟩
def AD:Nat->D->List Int
 | 0,_=>[]
 | k+1,d=>if AK d=2 then [A6 d] else (AX d).flatMap (AD k)
def A4 (n:Nat) (L:List Lev) (l:Lev) (vs:List Int):Lev:=vs.foldl (fun l v=>BE l (L.getD v.toNat AU) n) l
section walk
variable {σ:Type} (n K:Nat) (lev:σ->List Lev) (step:Int->D->Lev->σ->σ)
def FF (cnt:D->Nat) (cnt1:List D->Nat) (rec:List D->Int->Lev->σ->σ) (p:Lev) (q:Int × σ) (d:D):Int × σ:=
 (q.1+(cnt d:Int),rec (Al d) (q.1+1+(cnt1 (Ai d):Int)) (A4 n (lev (step q.1 d p q.2)) p (AD K (Ap d)))
  (rec (Ai d) (q.1+1) (A4 n (lev (step q.1 d p q.2)) p (AD K (Ap d))) (step q.1 d p q.2)))
def goS:Nat->List D->Int->Lev->σ->σ
 | 0,_,_,_,st=>st
 | k+1,l,a,p,st=>(l.foldl (FF n K lev step (CJ (k+1)) (AC k) (goS k) p) (a,st)).2
def goF (flev:σ->List Lev) (kf:Nat) (q:Int × σ) (x:Nat × FnD):Int × σ:=
 (q.1+(AC kf x.2.body:Int),goS n K lev step kf x.2.body q.1 ((flev q.2).getD x.1 AU) q.2)
def Ev (flev:σ->List Lev) (kf:Nat) (fs:List FnD) (main:List D) (st:σ):σ:=
 let q:=((List.range fs.length).zip fs).foldl (goF n K lev step flev kf) (0,st)
 goS n K lev step kf main q.1 (Bs n) q.2
theorem Hg {P:Nat->D->Prop} {P1:D->Prop} (hP:∀ k d,P (k+1) d->P1 d/\(∀ s∈Ai d,P k s)/\∀ s∈Al d,P k s) {R:σ->σ->Prop} (hr:∀ st,R st st) (ht:∀ {a b c},R a b->R b c->R a c) (hs:∀ a d p st,P1 d->R st (step a d p st)) :
  ∀ (k:Nat) (l:List D) (a:Int) (p:Lev) (st:σ),(∀ s∈l,P k s)->R st (goS n K lev step k l a p st):=by
 intro k
 induction k with
 | zero=>intro l a p st _;exact hr st
 | succ k ih=>
  intro l
  unfold goS
  induction l with
  | nil=>intro a p st _;exact hr st
  | cons d l ihl=>
   intro a p st hl
   obtain ⟨h1,h2,h3⟩:=hP k d (hl d (by simp))
   rw [List.foldl_cons]
   refine ht ?_ (ihl _ p _ fun s hs=>hl s (by simp [hs]))
   exact ht (hs _ _ _ _ h1) (ht (ih _ _ _ _ h2) (ih _ _ _ _ h3))
theorem I7 {P Pm:Nat->D->Prop} {P1:D->Prop} (hPm:∀ k d,Pm (k+1) d->P1 d/\(∀ s∈Ai d,Pm k s)/\∀ s∈Al d,Pm k s) {Q:Nat->Nat->D->Prop} (hQ:∀ i k d,Q i (k+1) d->P1 d/\(∀ s∈Ai d,Q i k s)/\∀ s∈Al d,Q i k s)
  {R:σ->σ->Prop} (hr:∀ st,R st st) (ht:∀ {a b c},R a b->R b c->R a c) (hs:∀ a d p st,P1 d->R st (step a d p st)) (flev:σ->List Lev) (kf:Nat) (fs:List FnD) (main:List D) (st:σ) (hf:∀ i (h:i < fs.length),∀ s∈fs[i].body,Q i kf s) (hm:∀ s∈main,Pm kf s) :
  R st (Ev n K lev step flev kf fs main st):=by
 unfold Ev
 have h:∀ (xs:List (Nat × FnD)) (q:Int × σ),(∀ x∈xs,∀ s∈x.2.body,Q x.1 kf s)->R q.2 (xs.foldl (goF n K lev step flev kf) q).2:=by
  intro xs
  induction xs with
  | nil=>intro q _;exact hr _
  | cons x xs ih=>
   intro q hx
   rw [List.foldl_cons]
   exact ht (Hg n K lev step (hQ x.1) hr ht hs _ _ _ _ _ (hx x (by simp))) (ih (goF n K lev step flev kf q x) fun y hy=>hx y (by simp [hy]))
 refine ht (h _ (0,st) fun x hx=>?_) (Hg n K lev step hPm hr ht hs _ _ _ _ _ hm)
 obtain ⟨i,hi,rfl⟩:=List.getElem_of_mem hx
 simp at hi
 simp only [List.getElem_zip,List.getElem_range]
 exact hf i hi
end walk
theorem F2 (f:Nat->Bool) {n i:Nat} (h:i < n):(B3 f n)[i]?.getD false=f i:=by simp [B3,h]
theorem FT {n:Nat} {L:List Lev}:∀ (vs:List Int) (l:Lev),l.len n->(A4 n L l vs).len n
 | [],_,h=>h
 | v::vs,l,_=>FT vs _ ⟨AO _ _,AO _ _⟩
section ask
variable {σ:Type} (n K:Nat) (lev:σ->List Lev) (known:List Bool) (ins:List Lev) (fs:List FnD) (flow:Lev->Bool × Nat->σ->σ)
def toVar (l:Lev) (v:Int) (st:σ):σ:=if known.getD v.toNat false=true then st else flow l (true,v.toNat) st
def GD (p:Lev) (st:σ) (q:Int × D):σ:=toVar known flow (A4 n (lev st) p (AD K q.2)) q.1 st
def Io (d:D) (p:Lev) (st:σ):σ:=
 let st1:=((Cv fs (Ae d)).ps.zip (Ah d)).foldl (GD n K lev known flow p) st
 flow p (false,(Ae d).toNat) (toVar known flow (A4 n (lev st1) p (AD K (Cv fs (Ae d)).res)) (Ao d) st1)
def DC (a:Int) (d:D) (p:Lev) (st:σ):σ:=
 if Ag d=1 then toVar known flow (A4 n (lev st) p (AD K (Ap d))) (Ao d) st
 else if Ag d=2 then Io n K lev known fs flow d p st
 else if Ag d=3 then toVar known flow (BE p (ins.getD (Ae d).toNat AU) n) (Ao d) st
 else if Ag d=5 then toVar known flow ⟨p.r,(A4 n (lev st) p (AD K (Ap d))).w⟩ (Ao d) st
 else if Ag d=6 then toVar known flow ⟨(A4 n (lev st) p (AD K (Ap d))).r,p.w⟩ (Ao d) st
 else st
end ask
structure ISt where
 vs:List Lev
 fs:List Lev
 more:Bool
def ISt.at (st:ISt) (i:Bool × Nat):Lev:=if i.1=true then st.vs.getD i.2 AU else st.fs.getD i.2 AU
def ISt.up (st:ISt) (i:Bool × Nat) (l:Lev):ISt:=if i.1=true then ⟨st.vs.set i.2 l,st.fs,true⟩ else ⟨st.vs,st.fs.set i.2 l,true⟩
def C5 (n:Nat) (l:Lev) (i:Bool × Nat) (st:ISt):ISt:=if AE l (st.at i) n=true then st else st.up i (BE (st.at i) l n)
def G8 (n K kf:Nat) (known:List Bool) (ins:List Lev) (fs:List FnD) (main:List D) (st:ISt):ISt:=
 Ev n K ISt.vs (DC n K ISt.vs known ins fs (C5 n)) ISt.fs kf fs main st
def GA (n:Nat) (l:Lev):Nat:=((List.range n).map fun i=>(if l.r[i]?.getD false=true then 1 else 0)+(if l.w[i]?.getD false=true then 0 else 1)).sum
def Dn (n:Nat) (st:ISt):Nat:=(st.vs.map (GA n)).sum+(st.fs.map (GA n)).sum
theorem Mw {f g:Nat->Nat}:∀ {n:Nat},(∀ i,i < n->f i<=g i)->((List.range n).map f).sum<=((List.range n).map g).sum
 | 0,_=>by simp
 | n+1,h=>by
  rw [List.range_succ,List.map_append,List.map_append,List.sum_append,List.sum_append]
  have:=Mw (n:=n) fun i hi=>h i (by omega)
  have:=h n (by omega)
  simp
  omega
theorem Mv {f g:Nat->Nat}:∀ {n:Nat},(∀ i,i < n->f i<=g i)->(∃ i,i < n/\f i < g i)->((List.range n).map f).sum < ((List.range n).map g).sum
 | 0,_,⟨i,h,_⟩=>by omega
 | n+1,h,⟨i,hi,hlt⟩=>by
  rw [List.range_succ,List.map_append,List.map_append,List.sum_append,List.sum_append]
  by_cases hn:i=n
  ·subst hn
   have:=Mw (n:=i) fun j hj=>h j (by omega)
   simp
   omega
  ·have:=Mv (n:=n) (fun j hj=>h j (by omega)) ⟨i,by omega,hlt⟩
   have:=h n (by omega)
   simp
   omega
theorem Hk {n:Nat} {x l:Lev} (h:¬ AE l x n=true):GA n (BE x l n) < GA n x:=by
 have hx:∃ i,i < n/\¬ ((x.r[i]?.getD false=true->l.r[i]?.getD false=true)/\(l.w[i]?.getD false=true->x.w[i]?.getD false=true)):=by
  refine Classical.byContradiction fun hne=>h (Gt.2 fun i hi=>Classical.byContradiction fun hc=>hne ⟨i,hi,hc⟩)
 obtain ⟨i,hi,hc⟩:=hx
 unfold GA
 refine Mv (fun j hj=>?_) ⟨i,hi,?_⟩
 ·simp only [BE,F2 _ hj,Hl,Lr]
  cases l.r[j]?.getD false <;> cases x.r[j]?.getD false <;> cases l.w[j]?.getD false <;> cases x.w[j]?.getD false <;> simp
 ·simp only [BE,F2 _ hi,Hl,Lr]
  revert hc
  cases l.r[i]?.getD false <;> cases x.r[i]?.getD false <;> cases l.w[i]?.getD false <;> cases x.w[i]?.getD false <;> simp
theorem Ht {f:Lev->Nat} {y:Lev}:∀ {l:List Lev} {i:Nat},i < l.length->f y < f (l.getD i AU)->((l.set i y).map f).sum < (l.map f).sum
 | [],i,h,_=>by simp at h
 | x::l,0,_,h=>by simp at h ⊢;omega
 | x::l,i+1,hi,h=>by
  have:=Ht (l:=l) (i:=i) (by simpa using hi) (by simpa using h)
  simp only [List.set_cons_succ,List.map_cons,List.sum_cons]
  omega
theorem Gh (l k) (n:Nat):(BE l k n).len n:=⟨AO _ _,AO _ _⟩
theorem LR (n:Nat) (l) (i:Bool × Nat) (st:ISt) (hi:i.1=true->i.2 < st.vs.length) (hi2:i.1=false->i.2 < st.fs.length):C5 n l i st=st\/(Dn n (C5 n l i st) < Dn n st/\(C5 n l i st).vs.length=st.vs.length/\(C5 n l i st).fs.length=st.fs.length):=by
 unfold C5
 split
 ·exact Or.inl rfl
 ·rename_i h
  obtain ⟨b,j⟩:=i
  cases b with
  | true=>
   simp only [ISt.up,ISt.at,if_true] at h ⊢
   refine Or.inr ⟨?_,by simp,by simp⟩
   have:=Ht (f:=GA n) (l:=st.vs) (i:=j) (hi rfl) (Hk h)
   unfold Dn
   dsimp only
   omega
  | false=>
   simp only [ISt.up,ISt.at,Bool.false_eq_true,if_false] at h ⊢
   refine Or.inr ⟨?_,by simp,by simp⟩
   have:=Ht (f:=GA n) (l:=st.fs) (i:=j) (hi2 rfl) (Hk h)
   unfold Dn
   dsimp only
   omega
def inR (nv nf:Nat) (fs:List FnD) (d:D):Prop:=
 ((Ag d=1\/Ag d=2\/Ag d=3\/Ag d=5\/Ag d=6)->(Ao d).toNat < nv)/\(Ag d=2->(Ae d).toNat < nf/\∀ v∈(Cv fs (Ae d)).ps,v.toNat < nv)
def CA (n nv nf:Nat) (a b:ISt):Prop:=(a.vs.length=nv/\a.fs.length=nf)->(b.vs.length=nv/\b.fs.length=nf)/\Dn n b<=Dn n a/\(b.more=true->a.more=true\/Dn n b < Dn n a)
theorem CA.refl (n nv nf:Nat) (a:ISt):CA n nv nf a a:=fun h=>⟨h,Nat.le_refl _,Or.inl⟩
theorem CA.trans {n nv nf:Nat} {a b c:ISt} (h:CA n nv nf a b) (k:CA n nv nf b c):CA n nv nf a c:=fun ha=>by
 obtain ⟨h1,h2,h3⟩:=h ha
 obtain ⟨k1,k2,k3⟩:=k h1
 refine ⟨k1,Nat.le_trans k2 h2,fun hc=>?_⟩
 rcases k3 hc with hb | hb
 ·rcases h3 hb with h | h
  ·exact Or.inl h
  ·exact Or.inr (by omega)
 ·exact Or.inr (by omega)
theorem Gz (n nv nf:Nat) (l) (i:Bool × Nat) (st:ISt) (hi:i.1=true->i.2 < nv) (hi2:i.1=false->i.2 < nf):CA n nv nf st (C5 n l i st):=fun h=>by
 rcases LR n l i st (by rw [h.1];exact hi) (by rw [h.2];exact hi2) with e | ⟨h1,h2,h3⟩
 ·rw [e];exact ⟨h,Nat.le_refl _,Or.inl⟩
 ·exact ⟨⟨h2.trans h.1,h3.trans h.2⟩,by omega,fun _=>Or.inr h1⟩
theorem Nv (n nv nf K:Nat) (known:List Bool) (ins fs) (a:Int) (d p) (st:ISt) (hd:inR nv nf fs d):CA n nv nf st (DC n K ISt.vs known ins fs (C5 n) a d p st):=by
 have h1:∀ l (v:Int) st,v.toNat < nv->CA n nv nf st (toVar known (C5 n) l v st):=by
  intro l v st hv
  unfold toVar
  split
  ·exact CA.refl n nv nf _
  ·exact Gz n nv nf _ _ _ (fun _=>hv) (fun h=>by cases h)
 have h2:∀ (xs:List (Int × D)) st,(∀ x∈xs,x.1.toNat < nv)->CA n nv nf st (xs.foldl (GD n K ISt.vs known (C5 n) p) st):=by
  intro xs
  induction xs with
  | nil=>intro st _;exact CA.refl n nv nf _
  | cons x xs ih=>intro st hx;rw [List.foldl_cons];exact (h1 _ _ _ (hx x (by simp))).trans (ih _ fun y hy=>hx y (by simp [hy]))
 unfold DC
 split
 ·rename_i hk;exact h1 _ _ _ (hd.1 (by omega))
 split
 ·rename_i hk
  unfold Io
  refine (h2 _ _ fun x hx=>?_).trans ((h1 _ _ _ (hd.1 (by omega))).trans (Gz n nv nf _ _ _ (fun h=>by cases h) (fun _=>(hd.2 hk).1)))
  exact (hd.2 hk).2 _ (List.of_mem_zip (a:=x.1) (b:=x.2) hx).1
 split
 ·rename_i hk;exact h1 _ _ _ (hd.1 (by omega))
 split
 ·rename_i hk;exact h1 _ _ _ (hd.1 (by omega))
 split
 ·rename_i hk;exact h1 _ _ _ (hd.1 (by omega))
 ·exact CA.refl n nv nf _
end Go.Proofs.YtfffpjkcfnekaaaGreat.Ex
