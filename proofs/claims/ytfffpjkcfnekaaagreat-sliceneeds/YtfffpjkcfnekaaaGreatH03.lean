/- The small functions of actors: is one of so many; a number between two; the first grant of which something holds. -/
import Derived.Test.YtfffpjkcfnekaaaGreatH01
import Derived.WalkKit
import Derived.WalkSpells
import Derived.WalkLawsBesides
import Derived.RowKit
import Derived.Laws.MakeOwn
import Derived.WalkSmall
import Derived.Deep.RegionHeld3
import Derived.Deep.CutRange
set_option linter.unusedVariables false
set_option maxHeartbeats 8000000
set_option maxRecDepth 100000
namespace Go.Proofs.YtfffpjkcfnekaaaGreat
open Go.RowKit
open Go.Value renaming slice -> O, int -> zd, bool -> ze, agg -> zg, pointer -> zi, tuple -> zj
open Go.IntKind renaming i64 -> U
open Go.Obj renaming cells -> zf
open Go.Ending renaming returned -> zh
theorem Aa {p:Prop} (h:p):Hx p:=h
theorem AI {W w1:World} (hb:Ov W w1):(∀ b o,b < W.heap.size->w1.cell? ⟨b,o,none⟩=W.cell? ⟨b,o,none⟩)/\(∀ b o,b < W.heap.size->w1.frozen? ⟨b,o,none⟩=W.frozen? ⟨b,o,none⟩):=
 ⟨fun b o h=>hb.cell (p:=⟨b,o,none⟩) h,fun b o h=>hb.frozen (p:=⟨b,o,none⟩) h⟩
def AN (m x:Int):Bool:=decide (0<=x/\x < m)
theorem FA (m x:Int) (s:Value) (w:World) :
  Calls Tryz.prog 168 #[zg #[zd U m,s],zd U x] w fun e w'=>e=zh (ze (AN m x))/\Ov w w':=by
 have hbel:Ov w (w.alloc (zf #[zd U m,s] 24)):=bA w _
 by_cases h1:(0:Int)<=x
 ·by_cases h2:x < m
  ·go_enter Tryz.func168,Tryz.ntmps168
   go_wp2
   go_ret
   exact ⟨by simp [AN];omega,hbel⟩
  ·go_enter Tryz.func168,Tryz.ntmps168
   go_wp2
   go_ret
   exact ⟨by simp [AN];omega,hbel⟩
 ·go_enter Tryz.func168,Tryz.ntmps168
  go_wp2
  go_ret
  exact ⟨by simp [AN];omega,hbel⟩
theorem BK (x a b:Int) (w:World) :
  Calls Tryz.prog 76 #[zd U x,zd U a,zd U b] w fun e w'=>e=zh (ze (decide (a<=x/\x<=b)))/\w'=w:=by
 by_cases h1:a<=x
 ·by_cases h2:x<=b
  ·go_enter Tryz.func76,Tryz.ntmps76
   go_wp2
   go_ret
   exact ⟨by simp;omega,rfl⟩
  ·go_enter Tryz.func76,Tryz.ntmps76
   go_wp2
   go_ret
   exact ⟨by simp;omega,rfl⟩
 ·go_enter Tryz.func76,Tryz.ntmps76
  go_wp2
  go_ret
  exact ⟨by simp;omega,rfl⟩
theorem CD (m x:Int) (hm:1<=m/\m<=6) (s:Value) (w:World) :
  Calls Tryz.prog 25 #[zg #[zd U m,s],zd U x] w fun e w'=>e=zh (ze (AN m x))/\Ov w w':=by
 have hbel:Ov w (w.alloc (zf #[zd U m,s] 24)):=bA w _
 go_enter Tryz.func25,Tryz.ntmps25
 go_wp2_with fail
 refine (BK x 0 (m - 1) _).mono ?_
 rintro e w' ⟨rfl,rfl⟩
 go_wp2_with fail
 go_ret
 exact ⟨congrArg (fun b=>Ending.returned (ze b)) (by rw [Bool.eq_iff_iff];simp [AN];omega),hbel⟩
def Bk (w:World) (v:Value) (gs:List (Int × Int)):Prop:=
 ∃ ao cap,v=O ao gs.length cap/\(gs≠[]->∃ b off,ao=some ⟨b,off,none⟩/\∀ i (h:i < gs.length),w.cell? ⟨b,off+i*2,none⟩=some (zd U gs[i].1)/\w.cell? ⟨b,off+i*2+1,none⟩=some (zd U gs[i].2))
theorem Bq {w w':World} {v:Value} {gs:List (Int × Int)} (h:Bk w v gs) (hb:Ov w w'):Bk w' v gs:=by
 obtain ⟨ao,cap,rfl,hc⟩:=h
 refine ⟨ao,cap,rfl,fun hne=>?_⟩
 obtain ⟨b,off,rfl,hcl⟩:=hc hne
 refine ⟨b,off,rfl,fun i hi=>?_⟩
 obtain ⟨h1,h2⟩:=hcl i hi
 have hlt:=bL h1
 exact ⟨by rw [(AI hb).1 _ _ hlt];exact h1,by rw [(AI hb).1 _ _ hlt];exact h2⟩
def Eo (p:Int × Int->Bool) (gs:List (Int × Int)):Int:=match gs.findIdx? p with | some i=>i | none=>-1
theorem JZ {p:Int × Int->Bool} {gs:List (Int × Int)} {k:Nat} (hk:k < gs.length) (h:(gs.take k).all (fun g=>!p g)=true) (hp:p gs[k]=true):Eo p gs=k:=by
 have:gs.findIdx? p=some k:=by
  rw [List.findIdx?_eq_some_iff_getElem]
  refine ⟨hk,hp,fun j hj=>?_⟩
  have:=List.all_eq_true.1 h gs[j] (by rw [List.mem_take_iff_getElem];exact ⟨j,by omega,rfl⟩)
  simpa using this
 simp [Eo,this]
theorem Hd {p:Int × Int->Bool} {gs:List (Int × Int)} (h:gs.all (fun g=>!p g)=true):Eo p gs=-1:=by
 have:gs.findIdx? p=none:=by
  rw [List.findIdx?_eq_none_iff]
  intro x hx
  have:=List.all_eq_true.1 h x hx
  simpa using this
 simp [Eo,this]
theorem Fg (F:FuncId) (cv:Value) (p:Int × Int->Bool) (v:Value) (gs) (w:World) (hv:Bk w v gs) (hn:gs.length<=20)
  (hF:Hx (∀ (i:Nat) (h:i < gs.length) (w1:World),Ov w w1->Calls Tryz.prog F #[zg #[zd U gs[i].1,zd U gs[i].2],cv] w1 fun e w2=>e=zh (ze (p gs[i]))/\Ov w1 w2))
  (hC:∀ (args:Array Value) (w:World),(callFunc F args).run Tryz.prog w=.ok (.enter F args) w) :
  Calls Tryz.prog 193 #[v,.func (.func F) #[] #[cv]] w fun e w'=>e=zh (zd U (Eo p gs))/\Ov w w':=by
 obtain ⟨ao,cap,rfl,hcc⟩:=hv
 go_enter Tryz.func193,Tryz.ntmps193
 go_wp2_with fail
 go_loopw [8] (fun i wr=>∃ k:Nat,k<=gs.length/\i=zd U k/\(gs.take k).all (fun g=>!p g)=true/\Ov w wr) (fun i _=>gs.length - (intOf i).toNat)
 case atStart=>exact ⟨0,Nat.zero_le _,rfl,rfl,Below.refl _ w⟩
 case round=>
  obtain ⟨k,hk,rfl,hall,hbel⟩:=hrel
  by_cases hkl:k < gs.length
  ·obtain ⟨b,off,rfl,hcl⟩:=hcc (by rintro rfl;simp at hkl)
   obtain ⟨q0,q1⟩:=hcl k hkl
   have hlt:=bL q0
   rw [<-(AI hbel).1 _ _ hlt] at q0 q1
   have hcall:=hF.o k hkl
   have hat:=fun (hp:p gs[k]=true)=>JZ hkl hall hp
   have htk:p gs[k]=false->(gs.take (k+1)).all (fun g=>!p g)=true:=fun hp=>by
    rw [List.take_succ_eq_append_getElem hkl,List.all_append,hall]
    simp [hp]
   obtain ⟨r,hr⟩:=nm (p gs[k])
   obtain ⟨g0,hg0⟩:=nm (gs[k].1)
   obtain ⟨g1,hg1⟩:=nm (gs[k].2)
   rw [<-hr] at hcall hat htk
   rw [<-hg0] at q0 hcall
   rw [<-hg1] at q1 hcall
   have HC:=Aa hcall
   have HA:=Aa hat
   have HT:=Aa htk
   clear hr hg0 hg1 hcall hat htk hcl hcc hF
   cases r with
   | true=>
    go_wp2_with fail
    refine (HC.o _ hbel).mono ?_
    rintro e w2 ⟨rfl,hb2⟩
    have hbel2:Ov w w2:=hbel.trans (hb2.mono hbel.size)
    go_wp2_with fail
    go_ret
    exact ⟨by rw [HA.o (by first | rfl | trivial)];rfl,hbel2⟩
   | false=>
    go_wp2_with fail
    refine (HC.o _ hbel).mono ?_
    rintro e w2 ⟨rfl,hb2⟩
    have hbel2:Ov w w2:=hbel.trans (hb2.mono hbel.size)
    go_wp2_with fail
    exact ⟨⟨k+1,by omega,by go_num,HT.o (by first | rfl | trivial),hbel2⟩,by simp [intOf];omega⟩
  ·have hke:k=gs.length:=by omega
   rw [hke,List.take_length] at hall
   have hx:=Hd hall
   clear hall hcc hF
   go_wp2_with fail
   go_ret
   exact ⟨by rw [hx];rfl,hbel⟩
def DA (m:Int) (g:Int × Int):Bool:=!AN m g.1 || !AN m g.2
def AX (m:Int) (gs:List (Int × Int)):Int:=if 1<=m/\m<=6 then (if gs.length<=20 then (if gs.any (DA m)=true then 5 else 0) else 2) else 3
theorem MG (args:Array Value) (w:World):(callFunc 167 args).run Tryz.prog w=.ok (.enter 167 args) w:=by simp [go_sem]
theorem Hm (m:Int) (s:Value) (b:Nat) (g:Int × Int) (w:World) (h0:w.cell? ⟨b,0,none⟩=some (zd U m)) (h1:w.cell? ⟨b,1,none⟩=some s) :
  Calls Tryz.prog 167 #[zg #[zd U g.1,zd U g.2],zi (some ⟨b,0,none⟩)] w fun e w'=>e=zh (ze (DA m g))/\Ov w w':=by
 obtain ⟨g0,g1⟩:=g
 have hlt:=bL h0
 have hne:b≠w.heap.size:=by have:b < w.heap.size:=hlt;omega
 simp only
 have H1:=fun w=>FA m g0 s w
 have H2:=fun w=>FA m g1 s w
 obtain ⟨r1,hr1⟩:=nm (AN m g0)
 obtain ⟨r2,hr2⟩:=nm (AN m g1)
 have hbad:DA m (g0,g1)=(!r1 || !r2):=by rw [hr1,hr2];rfl
 rw [<-hr1] at H1
 rw [<-hr2] at H2
 rw [hbad]
 have K1:=Aa H1
 have K2:=Aa H2
 clear H1 H2 hr1 hr2 hbad
 have hal:Ov w (w.alloc (zf #[zd U g0,zd U g1] 169)):=bA w _
 cases r1 with
 | true=>
  go_enter Tryz.func167,Tryz.ntmps167
  go_wp2_with fail
  refine (K1.o _).mono ?_
  rintro e w1 ⟨rfl,hb1⟩
  obtain ⟨hc,hf⟩:=AI hb1
  have hlt2:b < (w.alloc (zf #[zd U g0,zd U g1] 169)).heap.size:=by simp;exact Nat.lt_succ_of_lt hlt
  have c0:w1.cell? ⟨b,0,none⟩=some (zd U m):=by rw [hc _ _ hlt2,(AI hal).1 _ _ hlt];exact h0
  have c1:w1.cell? ⟨b,1,none⟩=some s:=by rw [hc _ _ hlt2,(AI hal).1 _ _ hlt];exact h1
  have e1:w1.cell? ⟨w.heap.size,1,none⟩=some (zd U g1):=by rw [hc _ _ (by simp)];simp [go_sem]
  have hbel:Ov w w1:=hal.trans (hb1.mono (by simp))
  clear hc hf hb1
  go_wp2_with fail
  refine (K2.o _).mono ?_
  rintro e w2 ⟨rfl,hb2⟩
  have hbel2:Ov w w2:=hbel.trans (hb2.mono hbel.size)
  go_wp2_with fail
  go_ret
  exact ⟨by simp,hbel2⟩
 | false=>
  go_enter Tryz.func167,Tryz.ntmps167
  go_wp2_with fail
  refine (K1.o _).mono ?_
  rintro e w1 ⟨rfl,hb1⟩
  have hbel:Ov w w1:=hal.trans (hb1.mono (by simp))
  go_wp2_with fail
  go_ret
  exact ⟨by simp,hbel⟩
theorem Li (p:Int × Int->Bool) (gs):decide (0<=Eo p gs)=gs.any p:=by
 unfold Eo
 cases h:gs.findIdx? p with
 | none=>
  have:gs.any p=false:=by rw [List.any_eq_false];intro x hx;have:=(List.findIdx?_eq_none_iff.1 h) x hx;simpa using this
  rw [this];rfl
 | some i=>
  obtain ⟨hi,hp,_⟩:=List.findIdx?_eq_some_iff_getElem.1 h
  have:gs.any p=true:=List.any_eq_true.2 ⟨_,List.getElem_mem hi,hp⟩
  rw [this];simp
theorem Ef (m:Int) (s:Value) (b:Nat) (v:Value) (gs) (w:World) (hv:Bk w v gs) (hn:gs.length<=20)
  (h0:w.cell? ⟨b,0,none⟩=some (zd U m)) (h1:w.cell? ⟨b,1,none⟩=some s) :
  Calls Tryz.prog 166 #[v,.func (.func 167) #[] #[zi (some ⟨b,0,none⟩)]] w fun e w'=>e=zh (ze (gs.any (DA m)))/\Ov w w':=by
 have hI:=Fg 167 (zi (some ⟨b,0,none⟩)) (DA m) v gs w hv hn (Aa fun i hi w1 hb=>by
  have hlt:=bL h0
  exact Hm m s b gs[i] w1 (by rw [(AI hb).1 _ _ hlt];exact h0) (by rw [(AI hb).1 _ _ hlt];exact h1)) MG
 have hx:=Li (DA m) gs
 obtain ⟨r,hr⟩:=nm (Eo (DA m) gs)
 rw [<-hr] at hI hx
 rw [<-hx]
 have HI:=Aa hI
 clear hI hx hr hv
 obtain ⟨u,hu⟩:=nm v
 go_enter Tryz.func166,Tryz.ntmps166
 go_wp2_with fail
 refine (HI.o).mono ?_
 rintro e w1 ⟨rfl,hb1⟩
 go_wp2_with fail
 go_ret
 exact ⟨by simp,hb1⟩
theorem check_any (m:Int) (v:Value) (gs) (w:World) (hv:Bk w v gs) :
  Calls Tryz.prog 109 #[zg #[zd U m,v]] w fun e w'=>e=zh (zd U (AX m gs))/\Ov w w':=by
 have hbel:Ov w (w.alloc (zf #[zd U m,v] 24)):=bA w _
 by_cases h1:m < 1
 ·have hE:AX m gs=3:=by unfold AX;rw [if_neg (by omega)]
  have HE:=Aa hE
  clear hE
  go_enter Tryz.func109,Tryz.ntmps109
  go_wp2_with fail
  go_ret
  exact ⟨by rw [HE.o];rfl,hbel⟩
 by_cases h6:6 < m
 ·have hE:AX m gs=3:=by unfold AX;rw [if_neg (by omega)]
  have HE:=Aa hE
  clear hE
  go_enter Tryz.func109,Tryz.ntmps109
  go_wp2_with fail
  go_ret
  exact ⟨by rw [HE.o];rfl,hbel⟩
 have hvo:=Bq hv hbel
 obtain ⟨ao,cap,hve,-⟩:=hv
 by_cases hn:gs.length<=20
 ·have hE:AX m gs=if gs.any (DA m)=true then 5 else 0:=by unfold AX;rw [if_pos (by omega),if_pos hn]
  have hC:=Ef m v w.heap.size v gs (w.alloc (zf #[zd U m,v] 24)) hvo hn (by simp [go_sem]) (by simp [go_sem])
  obtain ⟨r,hr⟩:=nm (gs.any (DA m))
  rw [<-hr] at hE hC
  subst hve
  have HE:=Aa hE
  have HC:=Aa hC
  clear hE hC hr hvo
  cases r with
  | true=>
   go_enter Tryz.func109,Tryz.ntmps109
   go_wp2_with fail
   refine (HC.o).mono ?_
   rintro e w1 ⟨rfl,hb1⟩
   have hbel1:Ov w w1:=hbel.trans (hb1.mono (by simp))
   go_wp2_with fail
   go_ret
   exact ⟨by rw [HE.o];rfl,hbel1⟩
  | false=>
   go_enter Tryz.func109,Tryz.ntmps109
   go_wp2_with fail
   refine (HC.o).mono ?_
   rintro e w1 ⟨rfl,hb1⟩
   have hbel1:Ov w w1:=hbel.trans (hb1.mono (by simp))
   go_wp2_with fail
   go_ret
   exact ⟨by rw [HE.o];rfl,hbel1⟩
 ·have hE:AX m gs=2:=by unfold AX;rw [if_pos (by omega),if_neg hn]
  have HE:=Aa hE
  subst hve
  clear hE hvo
  go_enter Tryz.func109,Tryz.ntmps109
  go_wp2_with fail
  go_ret
  exact ⟨by rw [HE.o];rfl,hbel⟩
def toI (g:Nat × Nat):Int × Int:=((g.1:Int),(g.2:Int))
def Fj (gs:List (Int × Int)):List (Nat × Nat):=gs.map fun g=>(g.1.toNat,g.2.toNat)
theorem Hk {m:Int} {gs:List (Int × Int)} (h:AX m gs=0):∃ n:Nat,m=n/\1<=n/\n<=6/\(Fj gs).map toI=gs/\(Fj gs).length<=20/\∀ g∈Fj gs,g.1 < n/\g.2 < n:=by
 unfold AX at h
 split at h
 ·split at h
  ·split at h
   ·cases h
   ·rename_i hm hl hb
    have hb':∀ g∈gs,AN m g.1=true/\AN m g.2=true:=fun g hg=>by
     have h1:¬ DA m g=true:=fun hh=>hb (List.any_eq_true.2 ⟨g,hg,hh⟩)
     simp [DA] at h1
     exact h1
    refine ⟨m.toNat,by omega,by omega,by omega,?_,by simpa [Fj] using hl,fun g hg=>?_⟩
    ·unfold Fj
     rw [List.map_map]
     conv=>rhs;rw [<-List.map_id gs]
     apply List.map_congr_left
     intro g hg
     obtain ⟨h1,h2⟩:=hb' g hg
     simp [AN] at h1 h2
     simp only [Function.comp,toI,id]
     ext <;> simp <;> omega
    ·obtain ⟨g',hg',rfl⟩:=List.mem_map.1 hg
     obtain ⟨h1,h2⟩:=hb' g' hg'
     simp [AN] at h1 h2
     simp only
     omega
  ·cases h
 ·cases h
theorem EY {w w0 w1:World} {b0 o0 b1 o1 b2 o2 b3 o3:Nat} {v0 v1 v2 v3:Value} (h:w0.cell? ⟨b0,o0,none⟩=some v0/\w0.cell? ⟨b1,o1,none⟩=some v1/\w0.cell? ⟨b2,o2,none⟩=some v2/\w0.cell? ⟨b3,o3,none⟩=some v3/\Ov w w0)
  (hb:Ov w0 w1):w1.cell? ⟨b0,o0,none⟩=some v0/\w1.cell? ⟨b1,o1,none⟩=some v1/\w1.cell? ⟨b2,o2,none⟩=some v2/\w1.cell? ⟨b3,o3,none⟩=some v3/\Ov w w1:=by
 obtain ⟨h0,h1,h2,h3,hB⟩:=h
 obtain ⟨hc,hf⟩:=AI hb
 refine ⟨?_,?_,?_,?_,?_⟩
 ·rw [hc _ _ (bL h0)];exact h0
 ·rw [hc _ _ (bL h1)];exact h1
 ·rw [hc _ _ (bL h2)];exact h2
 ·rw [hc _ _ (bL h3)];exact h3
 ·exact hB.trans (hb.mono hB.size)
theorem FI (m:Int) (v:Value) (gs) (w:World) (hv:Bk w v gs) :
  Calls Tryz.prog 93 #[zg #[zd U m,v]] w fun e w'=>e=zh (zd U (AX m gs))/\Ov w w':=by
 have hbel:Ov w (w.alloc (zf #[zd U m,v] 24)):=bA w _
 have hB:=BK m 1 6
 by_cases hm:1<=m/\m<=6
 ·have hd:decide (1<=m/\m<=6)=true:=decide_eq_true hm
  rw [hd] at hB
  have HB:=Aa hB
  clear hB hd
  have hvo:=Bq hv hbel
  obtain ⟨ao,cap,rfl,hcc⟩:=hv
  by_cases hn:gs.length<=20
  ·have hE:AX m gs=if gs.any (DA m)=true then 5 else 0:=by unfold AX;rw [if_pos hm,if_pos hn]
   have HE:=Aa hE
   clear hE
   go_enter Tryz.func93,Tryz.ntmps93
   go_wp2_with fail
   refine (HB.o _).mono ?_
   rintro e w1 ⟨rfl,rfl⟩
   go_wp2_with fail
   go_loopw [3] (fun i wr=>∃ k:Nat,k<=gs.length/\i=zd U k/\(gs.take k).any (DA m)=false/\wr.cell? ⟨w.heap.size,0,none⟩=some (zd U m)/\wr.cell? ⟨w.heap.size,1,none⟩=some (O ao gs.length cap)/\Ov w wr) (fun i _=>gs.length - (intOf i).toNat)
   case atStart=>exact ⟨0,Nat.zero_le _,rfl,rfl,by simp [go_sem],by simp [go_sem],hbel⟩
   case round=>
    obtain ⟨k,hk,rfl,hall,a0,a1,hbl⟩:=hrel
    have hz:=bL a0
    by_cases hkl:k < gs.length
    ·obtain ⟨b,off,rfl,hcl⟩:=hcc (by rintro rfl;simp at hkl)
     obtain ⟨q0,q1⟩:=hcl k hkl
     have hlt:=bL q0
     rw [<-(AI hbl).1 _ _ hlt] at q0 q1
     have K1:=fun w=>CD m gs[k].1 hm (O (some ⟨b,off,none⟩) gs.length cap) w
     have K2:=fun w=>CD m gs[k].2 hm (O (some ⟨b,off,none⟩) gs.length cap) w
     have htk:(gs.take (k+1)).any (DA m)=(!AN m gs[k].1 || !AN m gs[k].2):=by
      rw [List.take_succ_eq_append_getElem hkl,List.any_append,hall]
      simp [DA]
     have hany:(!AN m gs[k].1 || !AN m gs[k].2)=true->gs.any (DA m)=true:=fun h=>List.any_eq_true.2 ⟨gs[k],List.getElem_mem hkl,h⟩
     obtain ⟨g0,hg0⟩:=nm (gs[k].1)
     obtain ⟨g1,hg1⟩:=nm (gs[k].2)
     rw [<-hg0,<-hg1] at htk hany
     rw [<-hg0] at q0 K1
     rw [<-hg1] at q1 K2
     obtain ⟨r1,hr1⟩:=nm (AN m g0)
     obtain ⟨r2,hr2⟩:=nm (AN m g1)
     rw [<-hr1,<-hr2] at htk hany
     rw [<-hr1] at K1
     rw [<-hr2] at K2
     have k1:=Aa K1
     have k2:=Aa K2
     have HA:=Aa hany
     have HT:=Aa htk
     clear K1 K2 hany htk hr1 hr2 hg0 hg1 hcl hcc hvo
     cases r1 with
     | false=>
      go_wp2_with fail
      refine wp_region_held_drew (S:=(fun w'=>w'.cell? ⟨w.heap.size,0,none⟩=some (zd U m)/\w'.cell? ⟨w.heap.size,1,none⟩=some (O (some ⟨b,off,none⟩) gs.length cap)/\w'.cell? ⟨b,off+k*2,none⟩=some (zd U g0)/\w'.cell? ⟨b,off+k*2+1,none⟩=some (zd U g1)/\Ov w w')) (by kernel_rfl) ⟨a0,a1,q0,q1,below_drewN hbl 1⟩ (fun hHeld=>?_)
      refine kT 0 ?_
      refine kT 1 ?_
      refine kT 2 ?_
      refine kT 3 ?_
      refine kT 4 ?_
      refine kT 5 ?_
      refine kT 6 ?_
      refine rdA 7 rfl fun K hK=>?_
      go_simp
      go_at_call 25
      refine (k1.o _).mono ?_
      rintro e w1 ⟨rfl,hb1⟩
      refine hK.out _ _ (EY hHeld hb1) (fun hHeld=>?_)
      refine kT 8 ?_
      refine kT 9 ?_
      refine kU 10 ?_
      refine kU 11 ?_
      refine kU 12 ?_
      refine kU 13 ?_
      refine kU 14 ?_
      refine kU 15 ?_
      refine kU 16 ?_
      refine kU 17 ?_
      refine kU 18 ?_
      refine kT 19 ?_
      refine gE ?_
      go_wp2_with fail
      go_ret
      exact ⟨by rw [HE.o,if_pos (HA.o (by simp))];rfl,hHeld.2.2.2.2⟩
     | true=>
      cases r2 with
      | false=>
       go_wp2_with fail
       first | go_region_held3 (fun w'=>w'.cell? ⟨w.heap.size,0,none⟩=some (zd U m)/\w'.cell? ⟨w.heap.size,1,none⟩=some (O (some ⟨b,off,none⟩) gs.length cap)/\w'.cell? ⟨b,off+k*2,none⟩=some (zd U g0)/\w'.cell? ⟨b,off+k*2+1,none⟩=some (zd U g1)/\Ov w w') (first | assumption | exact ⟨a0,a1,q0,q1,below_drewN hbl 1⟩ | exact EY (by assumption) hb1) (first | (go_at_call 25;(first | refine (k1.o _).mono ?_ | refine (k2.o _).mono ?_);rintro e w1 ⟨rfl,hb1⟩)) | fail
       all_goals go_wp2_with fail
       all_goals go_ret
       all_goals exact ⟨by rw [HE.o,if_pos (HA.o (by simp))];rfl,(by assumption:_/\_/\_/\_/\_).2.2.2.2⟩
      | true=>
       go_wp2_with fail
       first | go_region_held3 (fun w'=>w'.cell? ⟨w.heap.size,0,none⟩=some (zd U m)/\w'.cell? ⟨w.heap.size,1,none⟩=some (O (some ⟨b,off,none⟩) gs.length cap)/\w'.cell? ⟨b,off+k*2,none⟩=some (zd U g0)/\w'.cell? ⟨b,off+k*2+1,none⟩=some (zd U g1)/\Ov w w') (first | assumption | exact ⟨a0,a1,q0,q1,below_drewN hbl 1⟩ | exact EY (by assumption) hb1) (first | (go_at_call 25;(first | refine (k1.o _).mono ?_ | refine (k2.o _).mono ?_);rintro e w1 ⟨rfl,hb1⟩)) | fail
       all_goals go_wp2_with fail
       all_goals exact ⟨⟨k+1,by omega,by go_num,HT.o,(by assumption:_/\_/\_/\_/\_).1,(by assumption:_/\_/\_/\_/\_).2.1,(by assumption:_/\_/\_/\_/\_).2.2.2.2⟩,by simp [intOf];omega⟩
    ·have hke:k=gs.length:=by omega
     rw [hke,List.take_length] at hall
     have hx:AX m gs=0:=by rw [HE.o,hall];rfl
     clear hall hcc HE
     have HX:=Aa hx
     clear hx
     go_wp2_with fail
     go_ret
     exact ⟨by rw [HX.o];rfl,hbl⟩
  ·have hE:AX m gs=2:=by unfold AX;rw [if_pos hm,if_neg hn]
   have HE:=Aa hE
   clear hE
   go_enter Tryz.func93,Tryz.ntmps93
   go_wp2_with fail
   refine (HB.o _).mono ?_
   rintro e w1 ⟨rfl,rfl⟩
   go_wp2_with fail
   go_ret
   exact ⟨by rw [HE.o];rfl,hbel⟩
 ·have hd:decide (1<=m/\m<=6)=false:=decide_eq_false hm
  rw [hd] at hB
  have HB:=Aa hB
  have hE:AX m gs=3:=by unfold AX;rw [if_neg hm]
  have HE:=Aa hE
  clear hB hd hE
  go_enter Tryz.func93,Tryz.ntmps93
  go_wp2_with fail
  refine (HB.o _).mono ?_
  rintro e w1 ⟨rfl,rfl⟩
  go_wp2_with fail
  go_ret
  exact ⟨by rw [HE.o];rfl,hbel⟩
def Dy (w:World) (v:Value) (l:List Bool):Prop:=
 ∃ ao cap,v=O ao l.length cap/\(l≠[]->∃ b off,ao=some ⟨b,off,none⟩/\∀ i (h:i < l.length),w.cell? ⟨b,off+i,none⟩=some (ze l[i]))
theorem EW {w:World} {v:Value} {l:List Bool} (h:Dy w v l) {i:Nat} (hi:i < l.length):∃ b off cap,v=O (some ⟨b,off,none⟩) l.length cap/\w.cell? ⟨b,off+i,none⟩=some (ze l[i]):=by
 obtain ⟨ao,cap,rfl,hc⟩:=h
 obtain ⟨b,off,rfl,hcl⟩:=hc (by rintro rfl;simp at hi)
 exact ⟨b,off,cap,rfl,hcl i hi⟩
theorem FD {a b:List Bool} {k:Nat} (hka:k < a.length) (hkb:k < b.length) (hne:a[k]≠b[k]):a≠b:=by
 rintro rfl
 exact hne rfl
theorem Fd (va vb:Value) (a b:List Bool) (w:World) (ha:Dy w va a) (hb:Dy w vb b) (hla:a.length<=9223372036854775807) :
  Calls Tryz.prog 43 #[va,vb] w fun e w'=>e=zh (ze (decide (a=b)))/\∃ n,w'=w.drewN n:=by
 have HA:=Aa ha
 have HB:=Aa hb
 obtain ⟨ao,ca,rfl,-⟩:=ha
 obtain ⟨bo,cb,rfl,-⟩:=hb
 by_cases hl:a.length=b.length
 ·have hl2:((a.length:Int) != b.length)=false:=by simp [hl]
  have HL:=Aa hl
  clear hl
  go_enter Tryz.func43,Tryz.ntmps43
  go_wp2_with fail
  go_loopw [5] (fun i wr=>∃ k n:Nat,k<=a.length/\i=zd U k/\a.take k=b.take k/\wr=w.drewN n) (fun i _=>a.length - (intOf i).toNat)
  case atStart=>exact ⟨0,0,Nat.zero_le _,rfl,rfl,rfl⟩
  case round=>
   obtain ⟨k,n,hk,rfl,heq,rfl⟩:=hrel
   by_cases hkl:k < a.length
   ·have hkb:k < b.length:=by have:=HL.o;omega
    obtain ⟨b1,o1,c1,e1,q1⟩:=EW HA.o hkl
    obtain ⟨b2,o2,c2,e2,q2⟩:=EW HB.o hkb
    injection e1 with e1a e1b e1c
    injection e2 with e2a e2b e2c
    subst e1a e1c e2a e2c
    have htk:a[k]=b[k]->a.take (k+1)=b.take (k+1):=fun h=>by
     rw [List.take_succ_eq_append_getElem hkl,List.take_succ_eq_append_getElem hkb,heq,h]
    have hne:a[k]≠b[k]->decide (a=b)=false:=fun h=>decide_eq_false (FD hkl hkb h)
    obtain ⟨x,hx⟩:=nm (a[k])
    obtain ⟨y,hy⟩:=nm (b[k])
    rw [<-hx] at q1
    rw [<-hy] at q2
    rw [<-hx,<-hy] at htk hne
    have HT:=Aa htk
    have HN:=Aa hne
    clear htk hne heq hx hy e1b e2b
    cases x <;> cases y
    all_goals go_wp2_with fail
    all_goals go_region
    all_goals go_wp2_with fail
    all_goals first
     | exact ⟨⟨k+1,n+1,by omega,by go_num,HT.o (by first | rfl | trivial),by first | rfl | trivial⟩,by simp [intOf];omega⟩
     | (go_ret;exact ⟨by rw [HN.o (by decide)];rfl,n+1,rfl⟩)
   ·have hke:k=a.length:=by omega
    have hab:a=b:=by
     have h2:k=b.length:=by have:=HL.o;omega
     rw [hke,List.take_length] at heq
     rw [heq,<-hke,h2,List.take_length]
    have hd:decide (a=b)=true:=decide_eq_true hab
    have HD:=Aa hd
    clear hd hab heq
    go_wp2_with fail
    go_ret
    exact ⟨by rw [HD.o];rfl,n,rfl⟩
 ·have hl2:((a.length:Int) != b.length)=true:=by simp;omega
  have hd:decide (a=b)=false:=decide_eq_false (fun h=>hl (by rw [h]))
  rw [hd]
  clear hd
  go_enter Tryz.func43,Tryz.ntmps43
  go_wp2_with fail
  go_ret
  exact ⟨rfl,0,rfl⟩
structure Lev where
 r:List Bool
 w:List Bool
def Aq (w:World) (v:Value) (l:List Int):Prop:=
 ∃ ao cap,v=O ao l.length cap/\(l≠[]->∃ b off,ao=some ⟨b,off,none⟩/\∀ i (h:i < l.length),w.cell? ⟨b,off+i,none⟩=some (zd U l[i]))
theorem Cp {w w':World} {v:Value} {l:List Int} (h:Aq w v l) (hb:Ov w w'):Aq w' v l:=by
 obtain ⟨ao,cap,rfl,hc⟩:=h
 refine ⟨ao,cap,rfl,fun hne=>?_⟩
 obtain ⟨b,off,rfl,hcl⟩:=hc hne
 refine ⟨b,off,rfl,fun i hi=>?_⟩
 have h1:=hcl i hi
 rw [(AI hb).1 _ _ (bL h1)]
 exact h1
structure Pol where
 owner:Int
 names:List Int
def Az (w:World) (v:Value) (ps:List Pol):Prop:=
 ∃ ao cap,v=O ao ps.length cap/\(ps≠[]->∃ b off,ao=some ⟨b,off,none⟩/\∀ i (h:i < ps.length),w.cell? ⟨b,off+i*2,none⟩=some (zd U ps[i].owner)/\∃ nv,w.cell? ⟨b,off+i*2+1,none⟩=some nv/\Aq w nv ps[i].names)
theorem Au {w w':World} {v:Value} {ps:List Pol} (h:Az w v ps) (hb:Ov w w'):Az w' v ps:=by
 obtain ⟨ao,cap,rfl,hc⟩:=h
 refine ⟨ao,cap,rfl,fun hne=>?_⟩
 obtain ⟨b,off,rfl,hcl⟩:=hc hne
 refine ⟨b,off,rfl,fun i hi=>?_⟩
 obtain ⟨h1,nv,h2,h3⟩:=hcl i hi
 exact ⟨by rw [(AI hb).1 _ _ (bL h1)];exact h1,nv,by rw [(AI hb).1 _ _ (bL h2)];exact h2,Cp h3 hb⟩
def H4 (n:Nat) (p:Pol):Prop:=(0<=p.owner/\p.owner < n)/\p.names.length<=6/\∀ x∈p.names,0<=x/\x < (n:Int)
theorem J3 {w w0 w1:World} {b0 o0 b1 o1 b2 o2:Nat} {v0 v1 v2:Value} (h:w0.cell? ⟨b0,o0,none⟩=some v0/\w0.cell? ⟨b1,o1,none⟩=some v1/\w0.cell? ⟨b2,o2,none⟩=some v2/\Ov w w0)
  (hb:Ov w0 w1):w1.cell? ⟨b0,o0,none⟩=some v0/\w1.cell? ⟨b1,o1,none⟩=some v1/\w1.cell? ⟨b2,o2,none⟩=some v2/\Ov w w1:=by
 obtain ⟨h0,h1,h2,hB⟩:=h
 obtain ⟨hc,hf⟩:=AI hb
 refine ⟨?_,?_,?_,hB.trans (hb.mono hB.size)⟩
 ·rw [hc _ _ (bL h0)];exact h0
 ·rw [hc _ _ (bL h1)];exact h1
 ·rw [hc _ _ (bL h2)];exact h2
def Cn:List Int->Bool
 | x::y::l=>decide (x < y) && Cn (y::l)
 | _=>true
def Ch (m:Int) (p:Pol):Int:=
 if AN m p.owner=true then (if p.names.length<=6 then (if p.names.all (AN m)=true then (if Cn p.names=true then 0 else 4) else 5) else 2) else 5
def Bv (m:Int):List Pol->Int
 | []=>0
 | p::ps=>if Ch m p=0 then Bv m ps else Ch m p
def AV (m:Int) (ps:List Pol):Int:=if ps.length<=4 then Bv m ps else 2
theorem DD {m:Int} {ps:List Pol} {k:Nat} (hk:k < ps.length):Bv m (ps.drop k)=if Ch m ps[k]=0 then Bv m (ps.drop (k+1)) else Ch m ps[k]:=by
 rw [List.drop_eq_getElem_cons hk]
 rfl
theorem Dk (l:List Int):Cn l=true ↔ ∀ i (h:i+1 < l.length),l[i] < l[i+1]:=by
 induction l with
 | nil=>simp [Cn]
 | cons x l ih=>
  cases l with
  | nil=>simp [Cn]
  | cons y l=>
   simp only [Cn,Bool.and_eq_true,decide_eq_true_eq,ih]
   constructor
   ·rintro ⟨h1,h2⟩ i hi
    cases i with
    | zero=>exact h1
    | succ i=>exact h2 i (by simpa using hi)
   ·intro h
    exact ⟨h 0 (by simp),fun i hi=>h (i+1) (by simpa using hi)⟩
theorem CK (m:Int) (hm:1<=m/\m<=6) (v vp:Value) (ps:List Pol) (w:World) (hp:Az w vp ps) :
  Calls Tryz.prog 156 #[zg #[zd U m,v],vp] w fun e w'=>e=zh (zd U (AV m ps))/\Ov w w':=by
 have KI:=Aa fun (x:Int) (W:World)=>CD m x hm v W
 obtain ⟨ao,cap,rfl,hcc⟩:=hp
 have HCC:=Aa hcc
 have hbel:Ov w (w.alloc (zf #[zd U m,v] 24)):=bA w _
 clear hcc
 by_cases hps:ps.length<=4
 ·have hE:AV m ps=Bv m ps:=by unfold AV;rw [if_pos hps]
  have HE:=Aa hE
  clear hE
  go_enter Tryz.func156,Tryz.ntmps156
  go_wp2_with fail
  go_loopw [5] (fun i wr=>∃ k:Nat,k<=ps.length/\i=zd U k/\Bv m ps=Bv m (ps.drop k)/\wr.cell? ⟨w.heap.size,0,none⟩=some (zd U m)/\wr.cell? ⟨w.heap.size,1,none⟩=some v/\Ov w wr) (fun i _=>ps.length - (intOf i).toNat)
  case atStart=>exact ⟨0,Nat.zero_le _,rfl,rfl,by simp [go_sem],by simp [go_sem],hbel⟩
  case round=>
   clear hbel
   obtain ⟨k,hk,rfl,hfe,c0,c1,hbl⟩:=hrel
   by_cases hkl:k < ps.length
   ·obtain ⟨b,off,rfl,hcl⟩:=HCC.o (by rintro rfl;simp at hkl)
    obtain ⟨q0,nv,q1,q2⟩:=hcl k hkl
    have lt0:=bL q0
    rw [DD hkl] at hfe
    have hpol:Ch m ps[k]=if AN m ps[k].owner=true then (if ps[k].names.length<=6 then (if ps[k].names.all (AN m)=true then (if Cn ps[k].names=true then 0 else 4) else 5) else 2) else 5:=rfl
    obtain ⟨pe,hpe⟩:=nm (Ch m ps[k])
    obtain ⟨ow,how⟩:=nm (ps[k].owner)
    obtain ⟨ns,hns⟩:=nm (ps[k].names)
    rw [<-hpe] at hpol hfe
    rw [<-how] at q0 hpol
    rw [<-hns] at q2 hpol
    have hfe1:pe≠0->AV m ps=pe:=fun h=>by rw [HE.o,hfe,if_neg h]
    have hfe0:pe=0->Bv m ps=Bv m (ps.drop (k+1)):=fun h=>by rw [hfe,if_pos h]
    obtain ⟨nao,ncap,rfl,hnn⟩:=q2
    have HQ1:=Aa q1
    rw [<-(AI hbl).1 _ _ lt0] at q0 q1
    have HP:=Aa hpol
    have HF1:=Aa hfe1
    have HF0:=Aa hfe0
    have HNN:=Aa hnn
    have hcall:=KI.o ow
    obtain ⟨x,hx⟩:=nm (AN m ow)
    rw [<-hx] at hcall
    have HX:=Aa hx
    have HCALL:=Aa hcall
    clear hpol hfe1 hfe0 hnn hcall hx hpe how hns hcl hfe
    cases x with
    | false=>
     have h5:pe=5:=by rw [HP.o,<-HX.o];rfl
     have hr:AV m ps=5:=by rw [HF1.o (by omega),h5]
     have HR:=Aa hr
     clear h5 hr q1
     go_wp2_with fail
     first | go_region_held3 (fun w'=>w'.cell? ⟨w.heap.size,0,none⟩=some (zd U m)/\w'.cell? ⟨w.heap.size,1,none⟩=some v/\w'.cell? ⟨b,off+k*2,none⟩=some (zd U ow)/\Ov w w') (first | assumption | exact ⟨c0,c1,q0,below_drewN hbl 1⟩ | exact J3 (by assumption) hb1) (first | (go_at_call 25;refine (HCALL.o _).mono ?_;rintro e w1 ⟨rfl,hb1⟩)) | fail
     all_goals obtain ⟨d0,d1,d2,dB⟩:=(by assumption:_/\_/\_/\Below _ _ _)
     all_goals go_wp2_with fail
     all_goals go_ret
     all_goals exact ⟨by rw [HR.o];rfl,dB⟩
    | true=>
     go_wp2_with fail
     first | go_region_held3 (fun w'=>w'.cell? ⟨w.heap.size,0,none⟩=some (zd U m)/\w'.cell? ⟨w.heap.size,1,none⟩=some v/\w'.cell? ⟨b,off+k*2,none⟩=some (zd U ow)/\Ov w w') (first | assumption | exact ⟨c0,c1,q0,below_drewN hbl 1⟩ | exact J3 (by assumption) hb1) (first | (go_at_call 25;refine (HCALL.o _).mono ?_;rintro e w1 ⟨rfl,hb1⟩)) | fail
     all_goals obtain ⟨d0,d1,d2,dB⟩:=(by assumption:_/\_/\_/\Below _ _ _)
     clear c0 c1 hbl q0 q1 d2 HCALL
     have r1:=HQ1.o
     rw [<-(AI dB).1 _ _ lt0] at r1
     by_cases hnl:ns.length<=6
     ·have hpe2:pe=if ns.all (AN m)=true then (if Cn ns=true then 0 else 4) else 5:=by rw [HP.o,<-HX.o,if_pos rfl,if_pos hnl]
      have HP2:=Aa hpe2
      clear hpe2
      go_wp2_with fail
      go_loopw [6] (fun i wr'=>∃ j:Nat,j<=ns.length/\i=zd U j/\(ns.take j).all (AN m)=true/\wr'.cell? ⟨w.heap.size,0,none⟩=some (zd U m)/\wr'.cell? ⟨w.heap.size,1,none⟩=some v/\Ov w wr') (fun i _=>ns.length - (intOf i).toNat)
      case atStart=>exact ⟨0,Nat.zero_le _,rfl,rfl,d0,d1,dB⟩
      case round=>
       clear d0 d1 dB r1
       obtain ⟨j,hj,rfl,hall,d0,d1,dB⟩:=hrel
       have r1:=HQ1.o
       rw [<-(AI dB).1 _ _ lt0] at r1
       by_cases hjl:j < ns.length
       ·obtain ⟨nb,no,rfl,hnc⟩:=HNN.o (by rintro rfl;simp at hjl)
        have e1:=hnc j hjl
        rw [<-(AI dB).1 _ _ (bL e1)] at e1
        have hnext:AN m ns[j]=true->(ns.take (j+1)).all (AN m)=true:=fun h=>by
         rw [List.take_succ_eq_append_getElem hjl,List.all_append,hall]
         simp [h]
        have hstop:AN m ns[j]=false->ns.all (AN m)=false:=fun h=>by
         rw [List.all_eq_false]
         exact ⟨ns[j],List.getElem_mem hjl,by simp [h]⟩
        obtain ⟨y,hye⟩:=nm (ns[j])
        rw [<-hye] at e1 hnext hstop
        have hcall:=KI.o y
        obtain ⟨z,hz⟩:=nm (AN m y)
        rw [<-hz] at hcall hnext hstop
        have HCL:=Aa hcall
        have HNX:=Aa hnext
        have HSP:=Aa hstop
        clear hcall hnext hstop hz hye hnc hall
        cases z with
        | true=>
         go_wp2_with fail
         first | go_region_held3 (fun w'=>w'.cell? ⟨w.heap.size,0,none⟩=some (zd U m)/\w'.cell? ⟨w.heap.size,1,none⟩=some v/\w'.cell? ⟨b,off+k*2+1,none⟩=some (O (some ⟨nb,no,none⟩) ns.length ncap)/\w'.cell? ⟨nb,no+j,none⟩=some (zd U y)/\Ov w w') (first | assumption | exact ⟨d0,d1,r1,e1,below_drewN dB 1⟩ | exact EY (by assumption) hb1) (first | (go_at_call 25;refine (HCL.o _).mono ?_;rintro e w1 ⟨rfl,hb1⟩)) | fail
         all_goals obtain ⟨f0,f1,-,-,fB⟩:=(by assumption:_/\_/\_/\_/\Below _ _ _)
         all_goals go_wp2_with fail
         all_goals exact ⟨⟨j+1,by omega,by go_num,HNX.o (by first | rfl | trivial),f0,f1,fB⟩,by simp [intOf];omega⟩
        | false=>
         have h5:pe=5:=by rw [HP2.o,HSP.o (by first | rfl | trivial)];rfl
         have hr:AV m ps=5:=by rw [HF1.o (by omega),h5]
         have HR:=Aa hr
         clear h5 hr
         go_wp2_with fail
         first | go_region_held3 (fun w'=>w'.cell? ⟨w.heap.size,0,none⟩=some (zd U m)/\w'.cell? ⟨w.heap.size,1,none⟩=some v/\w'.cell? ⟨b,off+k*2+1,none⟩=some (O (some ⟨nb,no,none⟩) ns.length ncap)/\w'.cell? ⟨nb,no+j,none⟩=some (zd U y)/\Ov w w') (first | assumption | exact ⟨d0,d1,r1,e1,below_drewN dB 1⟩ | exact EY (by assumption) hb1) (first | (go_at_call 25;refine (HCL.o _).mono ?_;rintro e w1 ⟨rfl,hb1⟩)) | fail
         all_goals obtain ⟨f0,f1,-,-,fB⟩:=(by assumption:_/\_/\_/\_/\Below _ _ _)
         all_goals go_wp2_with fail
         all_goals go_ret
         all_goals exact ⟨by rw [HR.o];rfl,fB⟩
       ·have hje:j=ns.length:=by omega
        subst hje
        rw [List.take_length] at hall
        have hpe3:pe=if Cn ns=true then 0 else 4:=by rw [HP2.o,hall];rfl
        have HP3:=Aa hpe3
        clear hpe3 hall
        go_wp2_with fail
        go_loopw [7] (fun i wr'=>∃ j n:Nat,i=zd U (j+1)/\(j=0\/j+1<=ns.length)/\(∀ i (h:i+1 < ns.length),i < j->ns[i] < ns[i+1])/\wr'=wr.drewN n) (fun i _=>ns.length - (intOf i).toNat)
        case atStart=>exact ⟨0,0,rfl,Or.inl rfl,fun i _ hi=>absurd hi (Nat.not_lt_zero _),rfl⟩
        case round=>
         obtain ⟨i,q,rfl,hi,hris,rfl⟩:=hrel
         by_cases hil:i+1 < ns.length
         ·obtain ⟨nb,no,rfl,hnc⟩:=HNN.o (by rintro rfl;simp at hil)
          have e1:=hnc (i+1) hil
          have e0:=hnc i (by omega)
          rw [<-(AI dB).1 _ _ (bL e1)] at e1
          rw [<-(AI dB).1 _ _ (bL e0)] at e0
          have hnz:(0:Int)<=(i:Int)+1:=by omega
          have hnext:ns[i] < ns[i+1]->∀ a (h:a+1 < ns.length),a < i+1->ns[a] < ns[a+1]:=fun hh a h ha=>by
           by_cases e:a=i
           ·subst e;exact hh
           ·exact hris a h (by omega)
          have hstop:¬ ns[i] < ns[i+1]->Cn ns=false:=fun hh=>by
           cases hr:Cn ns with
           | false=>rfl
           | true=>exact absurd ((Dk ns).1 hr i hil) hh
          obtain ⟨y1,hy1⟩:=nm (ns[i+1])
          obtain ⟨y0,hy0⟩:=nm (ns[i])
          rw [<-hy1,<-hy0] at hnext hstop
          rw [<-hy1] at e1
          rw [<-hy0] at e0
          have HNX:=Aa hnext
          have HSP:=Aa hstop
          clear hnext hstop hy1 hy0 hnc hris
          by_cases hlt:y1<=y0
          ·have h4:pe=4:=by rw [HP3.o,HSP.o (by omega)];rfl
           have hr:AV m ps=4:=by rw [HF1.o (by omega),h4]
           have HR:=Aa hr
           clear h4 hr
           go_wp2_with fail
           go_region
           go_wp2_with fail
           go_ret
           exact ⟨by rw [HR.o];rfl,below_drewN dB _⟩
          ·go_wp2_with fail
           go_region
           go_wp2_with fail
           exact ⟨⟨i+1,q+1,by go_num,Or.inr (by omega),HNX.o (by omega),by first | rfl | trivial⟩,by simp [intOf];omega⟩
         ·have hr0:Cn ns=true:=(Dk ns).2 fun a h=>hris a h (by omega)
          have h0:pe=0:=by rw [HP3.o,hr0];rfl
          have hn:=HF0.o h0
          have HN:=Aa hn
          clear hr0 h0 hn hris
          go_wp2_with fail
          exact ⟨⟨k+1,by omega,by go_num,HN.o,d0,d1,below_drewN dB q⟩,by simp [intOf];omega⟩
     ·have h2:pe=2:=by rw [HP.o,<-HX.o,if_pos rfl,if_neg hnl]
      have hr:AV m ps=2:=by rw [HF1.o (by omega),h2]
      have HR:=Aa hr
      clear h2 hr
      go_wp2_with fail
      go_ret
      exact ⟨by rw [HR.o];rfl,dB⟩
   ·have hke:k=ps.length:=by omega
    have hz:AV m ps=0:=by rw [HE.o,hfe,hke,List.drop_length];rfl
    have HZ:=Aa hz
    clear hz hfe
    go_wp2_with fail
    go_ret
    exact ⟨by rw [HZ.o];rfl,hbl⟩
 ·have hE:AV m ps=2:=by unfold AV;rw [if_neg hps]
  rw [hE]
  clear hE
  go_enter Tryz.func156,Tryz.ntmps156
  go_wp2_with fail
  go_ret
  exact ⟨rfl,hbel⟩
def GE (p:Int->Bool) (l:List Int):Int:=match l.findIdx? p with | some i=>i | none=>-1
theorem Lj {p:Int->Bool} {l:List Int} {k:Nat} (hk:k < l.length) (h:(l.take k).all (fun g=>!p g)=true) (hp:p l[k]=true):GE p l=k:=by
 have:l.findIdx? p=some k:=by
  rw [List.findIdx?_eq_some_iff_getElem]
  refine ⟨hk,hp,fun j hj=>?_⟩
  have:=List.all_eq_true.1 h l[j] (by rw [List.mem_take_iff_getElem];exact ⟨j,by omega,rfl⟩)
  simpa using this
 simp [GE,this]
theorem I6 {p:Int->Bool} {l:List Int} (h:l.all (fun g=>!p g)=true):GE p l=-1:=by
 have:l.findIdx? p=none:=by
  rw [List.findIdx?_eq_none_iff]
  intro x hx
  have:=List.all_eq_true.1 h x hx
  simpa using this
 simp [GE,this]
theorem J0 (p:Int->Bool) (l):decide (0<=GE p l)=l.any p:=by
 unfold GE
 cases h:l.findIdx? p with
 | none=>
  have:l.any p=false:=by rw [List.any_eq_false];intro x hx;have:=(List.findIdx?_eq_none_iff.1 h) x hx;simpa using this
  rw [this];rfl
 | some i=>
  obtain ⟨hi,hp,_⟩:=List.findIdx?_eq_some_iff_getElem.1 h
  have:l.any p=true:=List.any_eq_true.2 ⟨_,List.getElem_mem hi,hp⟩
  rw [this];simp
theorem FX (F:FuncId) (cv:Value) (p:Int->Bool) (v:Value) (l) (w:World) (hv:Aq w v l) (hn:l.length<=6)
  (hF:Hx (∀ (i:Nat) (h:i < l.length) (w1:World),Ov w w1->Calls Tryz.prog F #[zd U l[i],cv] w1 fun e w2=>e=zh (ze (p l[i]))/\Ov w1 w2))
  (hC:∀ (args:Array Value) (w:World),(callFunc F args).run Tryz.prog w=.ok (.enter F args) w) :
  Calls Tryz.prog 190 #[v,.func (.func F) #[] #[cv]] w fun e w'=>e=zh (zd U (GE p l))/\Ov w w':=by
 obtain ⟨ao,cap,rfl,hcc⟩:=hv
 go_enter Tryz.func190,Tryz.ntmps190
 go_wp2_with fail
 go_loopw [8] (fun i wr=>∃ k:Nat,k<=l.length/\i=zd U k/\(l.take k).all (fun g=>!p g)=true/\Ov w wr) (fun i _=>l.length - (intOf i).toNat)
 case atStart=>exact ⟨0,Nat.zero_le _,rfl,rfl,Below.refl _ w⟩
 case round=>
  obtain ⟨k,hk,rfl,hall,hbel⟩:=hrel
  by_cases hkl:k < l.length
  ·obtain ⟨b,off,rfl,hcl⟩:=hcc (by rintro rfl;simp at hkl)
   have q0:=hcl k hkl
   have hlt:=bL q0
   rw [<-(AI hbel).1 _ _ hlt] at q0
   have hcall:=hF.o k hkl
   have hat:=fun (hp:p l[k]=true)=>Lj hkl hall hp
   have htk:p l[k]=false->(l.take (k+1)).all (fun g=>!p g)=true:=fun hp=>by
    rw [List.take_succ_eq_append_getElem hkl,List.all_append,hall]
    simp [hp]
   obtain ⟨r,hr⟩:=nm (p l[k])
   obtain ⟨g0,hg0⟩:=nm (l[k])
   rw [<-hr] at hcall hat htk
   rw [<-hg0] at q0 hcall
   have HC:=Aa hcall
   have HA:=Aa hat
   have HT:=Aa htk
   clear hr hg0 hcall hat htk hcl hcc hF
   cases r with
   | true=>
    go_wp2_with fail
    refine (HC.o _ hbel).mono ?_
    rintro e w2 ⟨rfl,hb2⟩
    have hbel2:Ov w w2:=hbel.trans (hb2.mono hbel.size)
    go_wp2_with fail
    go_ret
    exact ⟨by rw [HA.o (by first | rfl | trivial)];rfl,hbel2⟩
   | false=>
    go_wp2_with fail
    refine (HC.o _ hbel).mono ?_
    rintro e w2 ⟨rfl,hb2⟩
    have hbel2:Ov w w2:=hbel.trans (hb2.mono hbel.size)
    go_wp2_with fail
    exact ⟨⟨k+1,by omega,by go_num,HT.o (by first | rfl | trivial),hbel2⟩,by simp [intOf];omega⟩
  ·have hke:k=l.length:=by omega
   rw [hke,List.take_length] at hall
   have hx:=I6 hall
   clear hall hcc hF
   go_wp2_with fail
   go_ret
   exact ⟨by rw [hx];rfl,hbel⟩
theorem Ev (F:FuncId) (cv:Value) (p:Int->Bool) (v:Value) (l) (w:World) (hv:Aq w v l) (hn:l.length<=6)
  (hF:Hx (∀ (i:Nat) (h:i < l.length) (w1:World),Ov w w1->Calls Tryz.prog F #[zd U l[i],cv] w1 fun e w2=>e=zh (ze (p l[i]))/\Ov w1 w2))
  (hC:∀ (args:Array Value) (w:World),(callFunc F args).run Tryz.prog w=.ok (.enter F args) w) :
  Calls Tryz.prog 124 #[v,.func (.func F) #[] #[cv]] w fun e w'=>e=zh (ze (l.any p))/\Ov w w':=by
 have hI:=FX F cv p v l w hv hn hF hC
 have hx:=J0 p l
 obtain ⟨r,hr⟩:=nm (GE p l)
 rw [<-hr] at hI hx
 rw [<-hx]
 have HI:=Aa hI
 clear hI hx hr hv hC hF
 obtain ⟨u,hu⟩:=nm v
 go_enter Tryz.func124,Tryz.ntmps124
 go_wp2_with fail
 refine (HI.o).mono ?_
 rintro e w1 ⟨rfl,hb1⟩
 go_wp2_with fail
 go_ret
 exact ⟨by simp,hb1⟩
theorem MD (args:Array Value) (w:World):(callFunc 213 args).run Tryz.prog w=.ok (.enter 213 args) w:=by simp [go_sem]
theorem EV (m x:Int) (b:Nat) (w:World) (h0:w.cell? ⟨b,0,none⟩=some (zd U m)) :
  Calls Tryz.prog 213 #[zd U x,zi (some ⟨b,0,none⟩)] w fun e w'=>e=zh (ze (!AN m x))/\Ov w w':=by
 by_cases h1:x < 0
 ·have hx:AN m x=false:=by simp [AN];omega
  rw [hx]
  clear hx
  go_enter Tryz.func213,Tryz.ntmps213
  go_wp2_with fail
  go_ret
  exact ⟨by simp,Below.refl _ w⟩
 ·by_cases h2:m<=x
  ·have hx:AN m x=false:=by simp [AN];omega
   rw [hx]
   clear hx
   go_enter Tryz.func213,Tryz.ntmps213
   go_wp2_with fail
   go_ret
   exact ⟨by simp,Below.refl _ w⟩
  ·have hx:AN m x=true:=by simp [AN];omega
   rw [hx]
   clear hx
   go_enter Tryz.func213,Tryz.ntmps213
   go_wp2_with fail
   go_ret
   exact ⟨by simp,Below.refl _ w⟩
theorem Jw (v:Value) (l) (w:World) (hv:Aq w v l) (hn:l.length<=6) :
  Calls Tryz.prog 214 #[v] w fun e w'=>e=zh (ze (Cn l))/\Ov w w':=by
 obtain ⟨ao,cap,rfl,hcc⟩:=hv
 have HCC:=Aa hcc
 clear hcc
 go_enter Tryz.func214,Tryz.ntmps214
 go_wp2_with fail
 go_loopw [3] (fun i wr=>∃ k n:Nat,k<=6/\i=zd U ((k:Int)+1)/\(∀ j (h:j+1 < l.length),j < k->l[j] < l[j+1])/\wr=w.drewN n) (fun i _=>10 - (intOf i).toNat)
 case atStart=>exact ⟨0,0,Nat.zero_le _,rfl,fun j _ h=>absurd h (Nat.not_lt_zero _),rfl⟩
 case round=>
  obtain ⟨k,n,hk,rfl,hall,rfl⟩:=hrel
  by_cases hkl:k+1 < l.length
  ·obtain ⟨b,off,rfl,hcl⟩:=HCC.o (by rintro rfl;simp at hkl)
   have q0:=hcl k (by omega)
   have q1:=hcl (k+1) hkl
   have hnext:l[k] < l[k+1]->∀ j (h:j+1 < l.length),j < k+1->l[j] < l[j+1]:=fun h j hj hjk=>by
    by_cases e:j=k
    ·subst e;exact h
    ·exact hall j hj (by omega)
   have hstop:¬ l[k] < l[k+1]->Cn l=false:=fun h=>by
    rw [Bool.eq_false_iff]
    intro hh
    exact h ((Dk l).1 hh k hkl)
   obtain ⟨x,hx⟩:=nm (l[k])
   obtain ⟨y,hy⟩:=nm (l[k+1])
   rw [<-hx] at q0
   rw [<-hy] at q1
   rw [<-hx,<-hy] at hnext hstop
   have HN:=Aa hnext
   have HS:=Aa hstop
   have k1:((k:Int)+1) < (l.length:Int):=by omega
   have a1:(0:Int)<=(k:Int)+1:=by omega
   have a2:(0:Int)<=(k:Int):=by omega
   have a3:(k:Int) < (l.length:Int):=by omega
   have q1':w.cell? ⟨b,off+(k+1),none⟩=some (zd U y):=q1
   clear hnext hstop hx hy hcl hall HCC q1
   by_cases hxy:y<=x
   ·go_wp2_with fail
    go_region
    go_wp2_with fail
    go_ret
    exact ⟨by rw [HS.o (by omega)];rfl,below_drewN (Below.refl _ w) (n+1)⟩
   ·go_wp2_with fail
    go_region
    go_wp2_with fail
    exact ⟨⟨k+1,n+1,by omega,by go_num,HN.o (by omega),by first | rfl | trivial⟩,by simp [intOf];omega⟩
  ·have hr:Cn l=true:=(Dk l).2 fun j hj=>hall j hj (by omega)
   have HR:=Aa hr
   have k1:¬ ((k:Int)+1) < (l.length:Int):=by omega
   clear hr hall HCC
   go_wp2_with fail
   go_ret
   exact ⟨by rw [HR.o];rfl,below_drewN (Below.refl _ w) n⟩
theorem Ew (m:Int) (s:Value) (p:Pol) (nv:Value) (w:World) (hp:Aq w nv p.names) :
  Calls Tryz.prog 169 #[zg #[zd U m,s],zg #[zd U p.owner,nv]] w fun e w'=>e=zh (zd U (Ch m p))/\Ov w w':=by
 obtain ⟨ow,names⟩:=p
 have hE:Ch m ⟨ow,names⟩=if AN m ow=true then (if names.length<=6 then (if (names.any fun x=>!AN m x)=true then 5 else (if Cn names=true then 0 else 4)) else 2) else 5:=by
  unfold Ch
  have:names.all (AN m)=!(names.any fun x=>!AN m x):=by rw [List.any_eq_not_all_not];simp
  simp only [this]
  cases (names.any fun x=>!AN m x) <;> simp
 simp only at hp ⊢
 have hbel:Ov w ((w.alloc (zf #[zd U m,s] 24)).alloc (zf #[zd U ow,nv] 87)):=(bA w _).alloc (by simp) _
 have HP:=Aa fun (W:World) (hb:Ov w W)=>Cp hp hb
 have hN:=fun (W:World) (h:W.cell? ⟨w.heap.size,0,none⟩=some (zd U m))=>EV m ow w.heap.size W h
 have hK:=fun (W:World) (hn:names.length<=6) (hB:Ov w W) (h:W.cell? ⟨w.heap.size,0,none⟩=some (zd U m))=>Ev 213 (zi (some ⟨w.heap.size,0,none⟩)) (fun x=>!AN m x) nv names W (Cp hp hB) hn (Aa fun i hi w1 hb=>EV m names[i] w.heap.size w1 (by rw [(AI hb).1 _ _ (bL h)];exact h)) MD
 have hR:=fun (W:World) (hn:names.length<=6) (hB:Ov w W)=>Jw nv names W (Cp hp hB) hn
 obtain ⟨r1,hr1⟩:=nm (AN m ow)
 obtain ⟨r2,hr2⟩:=nm (names.any fun x=>!AN m x)
 obtain ⟨r3,hr3⟩:=nm (Cn names)
 rw [<-hr1,<-hr2,<-hr3] at hE
 rw [<-hr1] at hN
 rw [<-hr2] at hK
 rw [<-hr3] at hR
 have KN:=Aa hN
 have KK:=Aa hK
 have KR:=Aa hR
 have HE:=Aa hE
 obtain ⟨ao,cap,rfl,-⟩:=hp
 clear hN hK hR hE hr1 hr2 hr3
 cases r1 with
 | false=>
  go_enter Tryz.func169,Tryz.ntmps169
  go_wp2_with fail
  refine (KN.o _ (by simp [go_sem])).mono ?_
  rintro e w1 ⟨rfl,hb1⟩
  have hbel1:Ov w w1:=hbel.trans (hb1.mono (by simp;omega))
  go_wp2_with fail
  go_ret
  exact ⟨by rw [HE.o];rfl,hbel1⟩
 | true=>
  go_enter Tryz.func169,Tryz.ntmps169
  go_wp2_with fail
  refine (KN.o _ (by simp [go_sem])).mono ?_
  rintro e w1 ⟨rfl,hb1⟩
  obtain ⟨hc,hf⟩:=AI hb1
  have c0:w1.cell? ⟨w.heap.size,0,none⟩=some (zd U m):=by rw [hc _ _ (by simp;omega)];simp [go_sem]
  have c1:w1.cell? ⟨w.heap.size+1,1,none⟩=some (O ao names.length cap):=by rw [hc _ _ (by simp)];simp [go_sem]
  have hbel1:Ov w w1:=hbel.trans (hb1.mono (by simp;omega))
  clear hc hf hb1 hbel KN
  by_cases hn:names.length<=6
  ·go_wp2_with fail
   refine (KK.o _ hn hbel1 c0).mono ?_
   rintro e w2 ⟨rfl,hb2⟩
   have hbel2:Ov w w2:=hbel1.trans (hb2.mono hbel1.size)
   have d1:w2.cell? ⟨w.heap.size+1,1,none⟩=some (O ao names.length cap):=by rw [(AI hb2).1 _ _ (bL c1)];exact c1
   clear c0 c1 KK
   cases r2 with
   | true=>
    go_wp2_with fail
    go_ret
    exact ⟨by rw [HE.o];simp [hn],hbel2⟩
   | false=>
    go_wp2_with fail
    refine (KR.o _ hn hbel2).mono ?_
    rintro e w3 ⟨rfl,hb3⟩
    have hbel3:Ov w w3:=hbel2.trans (hb3.mono hbel2.size)
    clear d1 KR
    cases r3
    all_goals go_wp2_with fail
    all_goals go_ret
    all_goals exact ⟨by rw [HE.o];simp [hn],hbel3⟩
  ·go_wp2_with fail
   go_ret
   exact ⟨by rw [HE.o];simp [hn],hbel1⟩
theorem I4 {w:World} {v:Value} {ps:List Pol} (h:Az w v ps) {i:Nat} (hi:i < ps.length):∃ b off cap nv,v=O (some ⟨b,off,none⟩) ps.length cap/\w.cell? ⟨b,off+i*2,none⟩=some (zd U ps[i].owner)/\w.cell? ⟨b,off+i*2+1,none⟩=some nv/\Aq w nv ps[i].names:=by
 obtain ⟨ao,cap,rfl,hc⟩:=h
 obtain ⟨b,off,rfl,hcl⟩:=hc (by rintro rfl;simp at hi)
 obtain ⟨h1,nv,h2,h3⟩:=hcl i hi
 exact ⟨b,off,cap,nv,rfl,h1,h2,h3⟩
theorem C8 (m:Int) (s vp:Value) (ps:List Pol) (w:World) (hp:Az w vp ps) :
  Calls Tryz.prog 110 #[zg #[zd U m,s],vp] w fun e w'=>e=zh (zd U (AV m ps))/\Ov w w':=by
 have HP:=Aa hp
 obtain ⟨ao,cap,rfl,-⟩:=hp
 have hbel:Ov w (w.alloc (zf #[zd U m,s] 24)):=bA w _
 have hE:AV m ps=if ps.length<=4 then Bv m ps else 2:=rfl
 have KP:=Aa fun (p:Pol) (nv:Value) (W:World) (h:Aq W nv p.names)=>Ew m s p nv W h
 by_cases hn:ps.length<=4
 ·rw [if_pos hn] at hE
  have HE:=Aa hE
  clear hE
  go_enter Tryz.func110,Tryz.ntmps110
  go_wp2_with fail
  go_loopw [13] (fun i wr=>∃ k:Nat,k<=ps.length/\i=zd U k/\Bv m ps=Bv m (ps.drop k)/\Ov w wr/\wr.cell? ⟨w.heap.size,0,none⟩=some (zd U m)/\wr.cell? ⟨w.heap.size,1,none⟩=some s) (fun i _=>ps.length - (intOf i).toNat)
  case atStart=>exact ⟨0,Nat.zero_le _,rfl,rfl,hbel,by simp [go_sem],by simp [go_sem]⟩
  case round=>
   obtain ⟨k,hk,rfl,hfe,hbw,c0,c1⟩:=hrel
   by_cases hkl:k < ps.length
   ·obtain ⟨b,off,cap',nv,hve,q0,q1,q2⟩:=I4 (Au HP.o hbw) hkl
    injection hve with e1 e2 e3
    subst e1 e3
    clear e2
    have hfd:=DD (m:=m) hkl
    rw [<-hfe] at hfd
    have ltb:=bL q0
    have ltw:=bL c0
    have hal:Ov wr (wr.alloc (zf #[zd U ps[k].owner,nv] 87)):=bA wr _
    have hcall:=KP.o ps[k] nv (wr.alloc (zf #[zd U ps[k].owner,nv] 87)) (Cp q2 hal)
    obtain ⟨r,hr⟩:=nm (Ch m ps[k])
    obtain ⟨ow,how⟩:=nm (ps[k].owner)
    rw [<-hr] at hfd hcall
    rw [<-how] at q0 hal hcall
    obtain ⟨nl,nc,nlen,hnv⟩:∃ a c n,nv=O a n c:=by obtain ⟨a,c,e,_⟩:=q2;exact ⟨a,c,_,e⟩
    subst hnv
    have HC:=Aa hcall
    have HF:=Aa hfd
    have hbw2:=hbw.trans (hal.mono hbw.size)
    clear hr how hcall hfd q2 hfe
    by_cases hr0:r=0
    ·subst hr0
     go_wp2_with fail
     refine (HC.o).mono ?_
     rintro e w2 ⟨rfl,hb2⟩
     have hb3:=hbw2.trans (hb2.mono hbw2.size)
     have ltw':w.heap.size < (wr.alloc (zf #[zd U ow,O nl nlen nc] 87)).heap.size:=by simp;exact Nat.lt_succ_of_lt ltw
     have d0:w2.cell? ⟨w.heap.size,0,none⟩=some (zd U m):=by rw [(AI hb2).1 _ _ ltw',(AI hal).1 _ _ ltw];exact c0
     have d1:w2.cell? ⟨w.heap.size,1,none⟩=some s:=by rw [(AI hb2).1 _ _ ltw',(AI hal).1 _ _ ltw];exact c1
     clear hbw2 hb2 hal q0 q1 c0 c1 HC
     go_wp2_with fail
     exact ⟨⟨k+1,by omega,by go_num,by rw [HF.o];simp,hb3,d0,d1⟩,by simp [intOf];omega⟩
    ·have hne:(r != 0)=true:=by simpa using hr0
     go_wp2_with fail
     refine (HC.o).mono ?_
     rintro e w2 ⟨rfl,hb2⟩
     have hb3:=hbw2.trans (hb2.mono hbw2.size)
     clear hbw2 hb2 hal q0 q1 c0 c1 HC
     go_wp2_with fail
     go_ret
     exact ⟨by rw [HE.o,HF.o];simp [hr0],hb3⟩
   ·have hke:k=ps.length:=by omega
    have hz:Bv m ps=0:=by rw [hfe,hke,List.drop_length];rfl
    have HZ:=Aa hz
    clear hz hfe c0 c1
    go_wp2_with fail
    go_ret
    exact ⟨by rw [HE.o,HZ.o];rfl,hbw⟩
 ·rw [if_neg hn] at hE
  have HE:=Aa hE
  clear hE
  go_enter Tryz.func110,Tryz.ntmps110
  go_wp2_with fail
  go_ret
  exact ⟨by rw [HE.o];rfl,hbel⟩
end Go.Proofs.YtfffpjkcfnekaaaGreat
