/- The small functions of actors: is one of so many; a number between two; the first grant of which something holds. -/
import Derived.Test.YtfffpjkcfnekaaaGreatG01
import Derived.WalkKit
import Derived.WalkSpells
import Derived.WalkLawsBesides
import Derived.RowKit
import Derived.Laws.MakeOwn
import Derived.WalkSmall
import Derived.Deep.RegionHeld3
import Derived.Deep.CutRange
set_option linter.unusedVariables false
set_option maxHeartbeats 8000000
set_option maxRecDepth 100000
namespace Go.Proofs.YtfffpjkcfnekaaaGreat
open Go.RowKit
open Go.Value renaming slice -> O, int -> zd, bool -> ze, agg -> zg, pointer -> zi, tuple -> zj
open Go.IntKind renaming i64 -> U
open Go.Obj renaming cells -> zf
open Go.Ending renaming returned -> zh
theorem Aa {p:Prop} (h:p):Hx p:=h
theorem AM {W w1:World} (hb:Ov W w1):(∀ b o,b < W.heap.size->w1.cell? ⟨b,o,none⟩=W.cell? ⟨b,o,none⟩)/\(∀ b o,b < W.heap.size->w1.frozen? ⟨b,o,none⟩=W.frozen? ⟨b,o,none⟩):=
 ⟨fun b o h=>hb.cell (p:=⟨b,o,none⟩) h,fun b o h=>hb.frozen (p:=⟨b,o,none⟩) h⟩
def Bn (m x:Int):Bool:=decide (0<=x/\x < m)
theorem Fb (m x:Int) (s:Value) (w:World) :
  Calls Tryz.prog 168 #[zg #[zd U m,s],zd U x] w fun e w'=>e=zh (ze (Bn m x))/\Ov w w':=by
 have hbel:Ov w (w.alloc (zf #[zd U m,s] 24)):=bA w _
 by_cases h1:(0:Int)<=x
 ·by_cases h2:x < m
  ·go_enter Tryz.func168,Tryz.ntmps168
   go_wp2
   go_ret
   exact ⟨by simp [Bn];omega,hbel⟩
  ·go_enter Tryz.func168,Tryz.ntmps168
   go_wp2
   go_ret
   exact ⟨by simp [Bn];omega,hbel⟩
 ·go_enter Tryz.func168,Tryz.ntmps168
  go_wp2
  go_ret
  exact ⟨by simp [Bn];omega,hbel⟩
def Bf (w:World) (v:Value) (gs:List (Int × Int)):Prop:=
 ∃ ao cap,v=O ao gs.length cap/\(gs≠[]->∃ b off,ao=some ⟨b,off,none⟩/\∀ i (h:i < gs.length),w.cell? ⟨b,off+i*2,none⟩=some (zd U gs[i].1)/\w.cell? ⟨b,off+i*2+1,none⟩=some (zd U gs[i].2))
theorem Bz {w w':World} {v:Value} {gs:List (Int × Int)} (h:Bf w v gs) (hb:Ov w w'):Bf w' v gs:=by
 obtain ⟨ao,cap,rfl,hc⟩:=h
 refine ⟨ao,cap,rfl,fun hne=>?_⟩
 obtain ⟨b,off,rfl,hcl⟩:=hc hne
 refine ⟨b,off,rfl,fun i hi=>?_⟩
 obtain ⟨h1,h2⟩:=hcl i hi
 have hlt:=bL h1
 exact ⟨by rw [(AM hb).1 _ _ hlt];exact h1,by rw [(AM hb).1 _ _ hlt];exact h2⟩
def D2 (p:Int × Int->Bool) (gs:List (Int × Int)):Int:=match gs.findIdx? p with | some i=>i | none=>-1
theorem Jm {p:Int × Int->Bool} {gs:List (Int × Int)} {k:Nat} (hk:k < gs.length) (h:(gs.take k).all (fun g=>!p g)=true) (hp:p gs[k]=true):D2 p gs=k:=by
 have:gs.findIdx? p=some k:=by
  rw [List.findIdx?_eq_some_iff_getElem]
  refine ⟨hk,hp,fun j hj=>?_⟩
  have:=List.all_eq_true.1 h gs[j] (by rw [List.mem_take_iff_getElem];exact ⟨j,by omega,rfl⟩)
  simpa using this
 simp [D2,this]
theorem GK {p:Int × Int->Bool} {gs:List (Int × Int)} (h:gs.all (fun g=>!p g)=true):D2 p gs=-1:=by
 have:gs.findIdx? p=none:=by
  rw [List.findIdx?_eq_none_iff]
  intro x hx
  have:=List.all_eq_true.1 h x hx
  simpa using this
 simp [D2,this]
theorem EP (F:FuncId) (cv:Value) (p:Int × Int->Bool) (v:Value) (gs) (w:World) (hv:Bf w v gs) (hn:gs.length<=20)
  (hF:Hx (∀ (i:Nat) (h:i < gs.length) (w1:World),Ov w w1->Calls Tryz.prog F #[zg #[zd U gs[i].1,zd U gs[i].2],cv] w1 fun e w2=>e=zh (ze (p gs[i]))/\Ov w1 w2))
  (hC:∀ (args:Array Value) (w:World),(callFunc F args).run Tryz.prog w=.ok (.enter F args) w) :
  Calls Tryz.prog 193 #[v,.func (.func F) #[] #[cv]] w fun e w'=>e=zh (zd U (D2 p gs))/\Ov w w':=by
 obtain ⟨ao,cap,rfl,hcc⟩:=hv
 go_enter Tryz.func193,Tryz.ntmps193
 go_wp2_with fail
 go_loopw [8] (fun i wr=>∃ k:Nat,k<=gs.length/\i=zd U k/\(gs.take k).all (fun g=>!p g)=true/\Ov w wr) (fun i _=>gs.length - (intOf i).toNat)
 case atStart=>exact ⟨0,Nat.zero_le _,rfl,rfl,Below.refl _ w⟩
 case round=>
  obtain ⟨k,hk,rfl,hall,hbel⟩:=hrel
  by_cases hkl:k < gs.length
  ·obtain ⟨b,off,rfl,hcl⟩:=hcc (by rintro rfl;simp at hkl)
   obtain ⟨q0,q1⟩:=hcl k hkl
   have hlt:=bL q0
   rw [<-(AM hbel).1 _ _ hlt] at q0 q1
   have hcall:=hF.o k hkl
   have hat:=fun (hp:p gs[k]=true)=>Jm hkl hall hp
   have htk:p gs[k]=false->(gs.take (k+1)).all (fun g=>!p g)=true:=fun hp=>by
    rw [List.take_succ_eq_append_getElem hkl,List.all_append,hall]
    simp [hp]
   obtain ⟨r,hr⟩:=nm (p gs[k])
   obtain ⟨g0,hg0⟩:=nm (gs[k].1)
   obtain ⟨g1,hg1⟩:=nm (gs[k].2)
   rw [<-hr] at hcall hat htk
   rw [<-hg0] at q0 hcall
   rw [<-hg1] at q1 hcall
   have HC:=Aa hcall
   have HA:=Aa hat
   have HT:=Aa htk
   clear hr hg0 hg1 hcall hat htk hcl hcc hF
   cases r with
   | true=>
    go_wp2_with fail
    refine (HC.o _ hbel).mono ?_
    rintro e w2 ⟨rfl,hb2⟩
    have hbel2:Ov w w2:=hbel.trans (hb2.mono hbel.size)
    go_wp2_with fail
    go_ret
    exact ⟨by rw [HA.o (by first | rfl | trivial)];rfl,hbel2⟩
   | false=>
    go_wp2_with fail
    refine (HC.o _ hbel).mono ?_
    rintro e w2 ⟨rfl,hb2⟩
    have hbel2:Ov w w2:=hbel.trans (hb2.mono hbel.size)
    go_wp2_with fail
    exact ⟨⟨k+1,by omega,by go_num,HT.o (by first | rfl | trivial),hbel2⟩,by simp [intOf];omega⟩
  ·have hke:k=gs.length:=by omega
   rw [hke,List.take_length] at hall
   have hx:=GK hall
   clear hall hcc hF
   go_wp2_with fail
   go_ret
   exact ⟨by rw [hx];rfl,hbel⟩
def EI (m:Int) (g:Int × Int):Bool:=!Bn m g.1 || !Bn m g.2
def Ba (m:Int) (gs:List (Int × Int)):Int:=if 1<=m/\m<=6 then (if gs.length<=20 then (if gs.any (EI m)=true then 5 else 0) else 2) else 3
theorem LW (args:Array Value) (w:World):(callFunc 167 args).run Tryz.prog w=.ok (.enter 167 args) w:=by simp [go_sem]
theorem GR (m:Int) (s:Value) (b:Nat) (g:Int × Int) (w:World) (h0:w.cell? ⟨b,0,none⟩=some (zd U m)) (h1:w.cell? ⟨b,1,none⟩=some s) :
  Calls Tryz.prog 167 #[zg #[zd U g.1,zd U g.2],zi (some ⟨b,0,none⟩)] w fun e w'=>e=zh (ze (EI m g))/\Ov w w':=by
 obtain ⟨g0,g1⟩:=g
 have hlt:=bL h0
 have hne:b≠w.heap.size:=by have:b < w.heap.size:=hlt;omega
 simp only
 have H1:=fun w=>Fb m g0 s w
 have H2:=fun w=>Fb m g1 s w
 obtain ⟨r1,hr1⟩:=nm (Bn m g0)
 obtain ⟨r2,hr2⟩:=nm (Bn m g1)
 have hbad:EI m (g0,g1)=(!r1 || !r2):=by rw [hr1,hr2];rfl
 rw [<-hr1] at H1
 rw [<-hr2] at H2
 rw [hbad]
 have K1:=Aa H1
 have K2:=Aa H2
 clear H1 H2 hr1 hr2 hbad
 have hal:Ov w (w.alloc (zf #[zd U g0,zd U g1] 169)):=bA w _
 cases r1 with
 | true=>
  go_enter Tryz.func167,Tryz.ntmps167
  go_wp2_with fail
  refine (K1.o _).mono ?_
  rintro e w1 ⟨rfl,hb1⟩
  obtain ⟨hc,hf⟩:=AM hb1
  have hlt2:b < (w.alloc (zf #[zd U g0,zd U g1] 169)).heap.size:=by simp;exact Nat.lt_succ_of_lt hlt
  have c0:w1.cell? ⟨b,0,none⟩=some (zd U m):=by rw [hc _ _ hlt2,(AM hal).1 _ _ hlt];exact h0
  have c1:w1.cell? ⟨b,1,none⟩=some s:=by rw [hc _ _ hlt2,(AM hal).1 _ _ hlt];exact h1
  have e1:w1.cell? ⟨w.heap.size,1,none⟩=some (zd U g1):=by rw [hc _ _ (by simp)];simp [go_sem]
  have hbel:Ov w w1:=hal.trans (hb1.mono (by simp))
  clear hc hf hb1
  go_wp2_with fail
  refine (K2.o _).mono ?_
  rintro e w2 ⟨rfl,hb2⟩
  have hbel2:Ov w w2:=hbel.trans (hb2.mono hbel.size)
  go_wp2_with fail
  go_ret
  exact ⟨by simp,hbel2⟩
 | false=>
  go_enter Tryz.func167,Tryz.ntmps167
  go_wp2_with fail
  refine (K1.o _).mono ?_
  rintro e w1 ⟨rfl,hb1⟩
  have hbel:Ov w w1:=hal.trans (hb1.mono (by simp))
  go_wp2_with fail
  go_ret
  exact ⟨by simp,hbel⟩
theorem J6 (p:Int × Int->Bool) (gs):decide (0<=D2 p gs)=gs.any p:=by
 unfold D2
 cases h:gs.findIdx? p with
 | none=>
  have:gs.any p=false:=by rw [List.any_eq_false];intro x hx;have:=(List.findIdx?_eq_none_iff.1 h) x hx;simpa using this
  rw [this];rfl
 | some i=>
  obtain ⟨hi,hp,_⟩:=List.findIdx?_eq_some_iff_getElem.1 h
  have:gs.any p=true:=List.any_eq_true.2 ⟨_,List.getElem_mem hi,hp⟩
  rw [this];simp
theorem DU (m:Int) (s:Value) (b:Nat) (v:Value) (gs) (w:World) (hv:Bf w v gs) (hn:gs.length<=20)
  (h0:w.cell? ⟨b,0,none⟩=some (zd U m)) (h1:w.cell? ⟨b,1,none⟩=some s) :
  Calls Tryz.prog 166 #[v,.func (.func 167) #[] #[zi (some ⟨b,0,none⟩)]] w fun e w'=>e=zh (ze (gs.any (EI m)))/\Ov w w':=by
 have hI:=EP 167 (zi (some ⟨b,0,none⟩)) (EI m) v gs w hv hn (Aa fun i hi w1 hb=>by
  have hlt:=bL h0
  exact GR m s b gs[i] w1 (by rw [(AM hb).1 _ _ hlt];exact h0) (by rw [(AM hb).1 _ _ hlt];exact h1)) LW
 have hx:=J6 (EI m) gs
 obtain ⟨r,hr⟩:=nm (D2 (EI m) gs)
 rw [<-hr] at hI hx
 rw [<-hx]
 have HI:=Aa hI
 clear hI hx hr hv
 obtain ⟨u,hu⟩:=nm v
 go_enter Tryz.func166,Tryz.ntmps166
 go_wp2_with fail
 refine (HI.o).mono ?_
 rintro e w1 ⟨rfl,hb1⟩
 go_wp2_with fail
 go_ret
 exact ⟨by simp,hb1⟩
theorem check_any (m:Int) (v:Value) (gs) (w:World) (hv:Bf w v gs) :
  Calls Tryz.prog 109 #[zg #[zd U m,v]] w fun e w'=>e=zh (zd U (Ba m gs))/\Ov w w':=by
 have hbel:Ov w (w.alloc (zf #[zd U m,v] 24)):=bA w _
 by_cases h1:m < 1
 ·have hE:Ba m gs=3:=by unfold Ba;rw [if_neg (by omega)]
  have HE:=Aa hE
  clear hE
  go_enter Tryz.func109,Tryz.ntmps109
  go_wp2_with fail
  go_ret
  exact ⟨by rw [HE.o];rfl,hbel⟩
 by_cases h6:6 < m
 ·have hE:Ba m gs=3:=by unfold Ba;rw [if_neg (by omega)]
  have HE:=Aa hE
  clear hE
  go_enter Tryz.func109,Tryz.ntmps109
  go_wp2_with fail
  go_ret
  exact ⟨by rw [HE.o];rfl,hbel⟩
 have hvo:=Bz hv hbel
 obtain ⟨ao,cap,hve,-⟩:=hv
 by_cases hn:gs.length<=20
 ·have hE:Ba m gs=if gs.any (EI m)=true then 5 else 0:=by unfold Ba;rw [if_pos (by omega),if_pos hn]
  have hC:=DU m v w.heap.size v gs (w.alloc (zf #[zd U m,v] 24)) hvo hn (by simp [go_sem]) (by simp [go_sem])
  obtain ⟨r,hr⟩:=nm (gs.any (EI m))
  rw [<-hr] at hE hC
  subst hve
  have HE:=Aa hE
  have HC:=Aa hC
  clear hE hC hr hvo
  cases r with
  | true=>
   go_enter Tryz.func109,Tryz.ntmps109
   go_wp2_with fail
   refine (HC.o).mono ?_
   rintro e w1 ⟨rfl,hb1⟩
   have hbel1:Ov w w1:=hbel.trans (hb1.mono (by simp))
   go_wp2_with fail
   go_ret
   exact ⟨by rw [HE.o];rfl,hbel1⟩
  | false=>
   go_enter Tryz.func109,Tryz.ntmps109
   go_wp2_with fail
   refine (HC.o).mono ?_
   rintro e w1 ⟨rfl,hb1⟩
   have hbel1:Ov w w1:=hbel.trans (hb1.mono (by simp))
   go_wp2_with fail
   go_ret
   exact ⟨by rw [HE.o];rfl,hbel1⟩
 ·have hE:Ba m gs=2:=by unfold Ba;rw [if_pos (by omega),if_neg hn]
  have HE:=Aa hE
  subst hve
  clear hE hvo
  go_enter Tryz.func109,Tryz.ntmps109
  go_wp2_with fail
  go_ret
  exact ⟨by rw [HE.o];rfl,hbel⟩
def toI (g:Nat × Nat):Int × Int:=((g.1:Int),(g.2:Int))
def ES (gs:List (Int × Int)):List (Nat × Nat):=gs.map fun g=>(g.1.toNat,g.2.toNat)
theorem JD {m:Int} {gs:List (Int × Int)} (h:Ba m gs=0):∃ n:Nat,m=n/\1<=n/\n<=6/\(ES gs).map toI=gs/\(ES gs).length<=20/\∀ g∈ES gs,g.1 < n/\g.2 < n:=by
 unfold Ba at h
 split at h
 ·split at h
  ·split at h
   ·cases h
   ·rename_i hm hl hb
    have hb':∀ g∈gs,Bn m g.1=true/\Bn m g.2=true:=fun g hg=>by
     have h1:¬ EI m g=true:=fun hh=>hb (List.any_eq_true.2 ⟨g,hg,hh⟩)
     simp [EI] at h1
     exact h1
    refine ⟨m.toNat,by omega,by omega,by omega,?_,by simpa [ES] using hl,fun g hg=>?_⟩
    ·unfold ES
     rw [List.map_map]
     conv=>rhs;rw [<-List.map_id gs]
     apply List.map_congr_left
     intro g hg
     obtain ⟨h1,h2⟩:=hb' g hg
     simp [Bn] at h1 h2
     simp only [Function.comp,toI,id]
     ext <;> simp <;> omega
    ·obtain ⟨g',hg',rfl⟩:=List.mem_map.1 hg
     obtain ⟨h1,h2⟩:=hb' g' hg'
     simp [Bn] at h1 h2
     simp only
     omega
  ·cases h
 ·cases h
def Dg (w:World) (v:Value) (l:List Bool):Prop:=
 ∃ ao cap,v=O ao l.length cap/\(l≠[]->∃ b off,ao=some ⟨b,off,none⟩/\∀ i (h:i < l.length),w.cell? ⟨b,off+i,none⟩=some (ze l[i]))
theorem Ew {w:World} {v:Value} {l:List Bool} (h:Dg w v l) {i:Nat} (hi:i < l.length):∃ b off cap,v=O (some ⟨b,off,none⟩) l.length cap/\w.cell? ⟨b,off+i,none⟩=some (ze l[i]):=by
 obtain ⟨ao,cap,rfl,hc⟩:=h
 obtain ⟨b,off,rfl,hcl⟩:=hc (by rintro rfl;simp at hi)
 exact ⟨b,off,cap,rfl,hcl i hi⟩
theorem Fe {a b:List Bool} {k:Nat} (hka:k < a.length) (hkb:k < b.length) (hne:a[k]≠b[k]):a≠b:=by
 rintro rfl
 exact hne rfl
theorem EM (va vb:Value) (a b:List Bool) (w:World) (ha:Dg w va a) (hb:Dg w vb b) (hla:a.length<=9223372036854775807) :
  Calls Tryz.prog 43 #[va,vb] w fun e w'=>e=zh (ze (decide (a=b)))/\∃ n,w'=w.drewN n:=by
 have HA:=Aa ha
 have HB:=Aa hb
 obtain ⟨ao,ca,rfl,-⟩:=ha
 obtain ⟨bo,cb,rfl,-⟩:=hb
 by_cases hl:a.length=b.length
 ·have hl2:((a.length:Int) != b.length)=false:=by simp [hl]
  have HL:=Aa hl
  clear hl
  go_enter Tryz.func43,Tryz.ntmps43
  go_wp2_with fail
  go_loopw [5] (fun i wr=>∃ k n:Nat,k<=a.length/\i=zd U k/\a.take k=b.take k/\wr=w.drewN n) (fun i _=>a.length - (intOf i).toNat)
  case atStart=>exact ⟨0,0,Nat.zero_le _,rfl,rfl,rfl⟩
  case round=>
   obtain ⟨k,n,hk,rfl,heq,rfl⟩:=hrel
   by_cases hkl:k < a.length
   ·have hkb:k < b.length:=by have:=HL.o;omega
    obtain ⟨b1,o1,c1,e1,q1⟩:=Ew HA.o hkl
    obtain ⟨b2,o2,c2,e2,q2⟩:=Ew HB.o hkb
    injection e1 with e1a e1b e1c
    injection e2 with e2a e2b e2c
    subst e1a e1c e2a e2c
    have htk:a[k]=b[k]->a.take (k+1)=b.take (k+1):=fun h=>by
     rw [List.take_succ_eq_append_getElem hkl,List.take_succ_eq_append_getElem hkb,heq,h]
    have hne:a[k]≠b[k]->decide (a=b)=false:=fun h=>decide_eq_false (Fe hkl hkb h)
    obtain ⟨x,hx⟩:=nm (a[k])
    obtain ⟨y,hy⟩:=nm (b[k])
    rw [<-hx] at q1
    rw [<-hy] at q2
    rw [<-hx,<-hy] at htk hne
    have HT:=Aa htk
    have HN:=Aa hne
    clear htk hne heq hx hy e1b e2b
    cases x <;> cases y
    all_goals go_wp2_with fail
    all_goals go_region
    all_goals go_wp2_with fail
    all_goals first
     | exact ⟨⟨k+1,n+1,by omega,by go_num,HT.o (by first | rfl | trivial),by first | rfl | trivial⟩,by simp [intOf];omega⟩
     | (go_ret;exact ⟨by rw [HN.o (by decide)];rfl,n+1,rfl⟩)
   ·have hke:k=a.length:=by omega
    have hab:a=b:=by
     have h2:k=b.length:=by have:=HL.o;omega
     rw [hke,List.take_length] at heq
     rw [heq,<-hke,h2,List.take_length]
    have hd:decide (a=b)=true:=decide_eq_true hab
    have HD:=Aa hd
    clear hd hab heq
    go_wp2_with fail
    go_ret
    exact ⟨by rw [HD.o];rfl,n,rfl⟩
 ·have hl2:((a.length:Int) != b.length)=true:=by simp;omega
  have hd:decide (a=b)=false:=decide_eq_false (fun h=>hl (by rw [h]))
  rw [hd]
  clear hd
  go_enter Tryz.func43,Tryz.ntmps43
  go_wp2_with fail
  go_ret
  exact ⟨rfl,0,rfl⟩
structure Lev where
 r:List Bool
 w:List Bool
def Ar (w:World) (v:Value) (l:List Int):Prop:=
 ∃ ao cap,v=O ao l.length cap/\(l≠[]->∃ b off,ao=some ⟨b,off,none⟩/\∀ i (h:i < l.length),w.cell? ⟨b,off+i,none⟩=some (zd U l[i]))
theorem B9 {w w':World} {v:Value} {l:List Int} (h:Ar w v l) (hb:Ov w w'):Ar w' v l:=by
 obtain ⟨ao,cap,rfl,hc⟩:=h
 refine ⟨ao,cap,rfl,fun hne=>?_⟩
 obtain ⟨b,off,rfl,hcl⟩:=hc hne
 refine ⟨b,off,rfl,fun i hi=>?_⟩
 have h1:=hcl i hi
 rw [(AM hb).1 _ _ (bL h1)]
 exact h1
structure Pol where
 owner:Int
 names:List Int
def AD (w:World) (v:Value) (ps:List Pol):Prop:=
 ∃ ao cap,v=O ao ps.length cap/\(ps≠[]->∃ b off,ao=some ⟨b,off,none⟩/\∀ i (h:i < ps.length),w.cell? ⟨b,off+i*2,none⟩=some (zd U ps[i].owner)/\∃ nv,w.cell? ⟨b,off+i*2+1,none⟩=some nv/\Ar w nv ps[i].names)
theorem Ap {w w':World} {v:Value} {ps:List Pol} (h:AD w v ps) (hb:Ov w w'):AD w' v ps:=by
 obtain ⟨ao,cap,rfl,hc⟩:=h
 refine ⟨ao,cap,rfl,fun hne=>?_⟩
 obtain ⟨b,off,rfl,hcl⟩:=hc hne
 refine ⟨b,off,rfl,fun i hi=>?_⟩
 obtain ⟨h1,nv,h2,h3⟩:=hcl i hi
 exact ⟨by rw [(AM hb).1 _ _ (bL h1)];exact h1,nv,by rw [(AM hb).1 _ _ (bL h2)];exact h2,B9 h3 hb⟩
def G7 (n:Nat) (p:Pol):Prop:=(0<=p.owner/\p.owner < n)/\p.names.length<=6/\∀ x∈p.names,0<=x/\x < (n:Int)
def CY:List Int->Bool
 | x::y::l=>decide (x < y) && CY (y::l)
 | _=>true
def Ci (m:Int) (p:Pol):Int:=
 if Bn m p.owner=true then (if p.names.length<=6 then (if p.names.all (Bn m)=true then (if CY p.names=true then 0 else 4) else 5) else 2) else 5
def BL (m:Int):List Pol->Int
 | []=>0
 | p::ps=>if Ci m p=0 then BL m ps else Ci m p
def BM (m:Int) (ps:List Pol):Int:=if ps.length<=4 then BL m ps else 2
theorem ET {m:Int} {ps:List Pol} {k:Nat} (hk:k < ps.length):BL m (ps.drop k)=if Ci m ps[k]=0 then BL m (ps.drop (k+1)) else Ci m ps[k]:=by
 rw [List.drop_eq_getElem_cons hk]
 rfl
theorem E2 (l:List Int):CY l=true ↔ ∀ i (h:i+1 < l.length),l[i] < l[i+1]:=by
 induction l with
 | nil=>simp [CY]
 | cons x l ih=>
  cases l with
  | nil=>simp [CY]
  | cons y l=>
   simp only [CY,Bool.and_eq_true,decide_eq_true_eq,ih]
   constructor
   ·rintro ⟨h1,h2⟩ i hi
    cases i with
    | zero=>exact h1
    | succ i=>exact h2 i (by simpa using hi)
   ·intro h
    exact ⟨h 0 (by simp),fun i hi=>h (i+1) (by simpa using hi)⟩
def Ga (p:Int->Bool) (l:List Int):Int:=match l.findIdx? p with | some i=>i | none=>-1
theorem J7 {p:Int->Bool} {l:List Int} {k:Nat} (hk:k < l.length) (h:(l.take k).all (fun g=>!p g)=true) (hp:p l[k]=true):Ga p l=k:=by
 have:l.findIdx? p=some k:=by
  rw [List.findIdx?_eq_some_iff_getElem]
  refine ⟨hk,hp,fun j hj=>?_⟩
  have:=List.all_eq_true.1 h l[j] (by rw [List.mem_take_iff_getElem];exact ⟨j,by omega,rfl⟩)
  simpa using this
 simp [Ga,this]
theorem Im {p:Int->Bool} {l:List Int} (h:l.all (fun g=>!p g)=true):Ga p l=-1:=by
 have:l.findIdx? p=none:=by
  rw [List.findIdx?_eq_none_iff]
  intro x hx
  have:=List.all_eq_true.1 h x hx
  simpa using this
 simp [Ga,this]
theorem Jn (p:Int->Bool) (l):decide (0<=Ga p l)=l.any p:=by
 unfold Ga
 cases h:l.findIdx? p with
 | none=>
  have:l.any p=false:=by rw [List.any_eq_false];intro x hx;have:=(List.findIdx?_eq_none_iff.1 h) x hx;simpa using this
  rw [this];rfl
 | some i=>
  obtain ⟨hi,hp,_⟩:=List.findIdx?_eq_some_iff_getElem.1 h
  have:l.any p=true:=List.any_eq_true.2 ⟨_,List.getElem_mem hi,hp⟩
  rw [this];simp
theorem Fw (F:FuncId) (cv:Value) (p:Int->Bool) (v:Value) (l) (w:World) (hv:Ar w v l) (hn:l.length<=6)
  (hF:Hx (∀ (i:Nat) (h:i < l.length) (w1:World),Ov w w1->Calls Tryz.prog F #[zd U l[i],cv] w1 fun e w2=>e=zh (ze (p l[i]))/\Ov w1 w2))
  (hC:∀ (args:Array Value) (w:World),(callFunc F args).run Tryz.prog w=.ok (.enter F args) w) :
  Calls Tryz.prog 190 #[v,.func (.func F) #[] #[cv]] w fun e w'=>e=zh (zd U (Ga p l))/\Ov w w':=by
 obtain ⟨ao,cap,rfl,hcc⟩:=hv
 go_enter Tryz.func190,Tryz.ntmps190
 go_wp2_with fail
 go_loopw [8] (fun i wr=>∃ k:Nat,k<=l.length/\i=zd U k/\(l.take k).all (fun g=>!p g)=true/\Ov w wr) (fun i _=>l.length - (intOf i).toNat)
 case atStart=>exact ⟨0,Nat.zero_le _,rfl,rfl,Below.refl _ w⟩
 case round=>
  obtain ⟨k,hk,rfl,hall,hbel⟩:=hrel
  by_cases hkl:k < l.length
  ·obtain ⟨b,off,rfl,hcl⟩:=hcc (by rintro rfl;simp at hkl)
   have q0:=hcl k hkl
   have hlt:=bL q0
   rw [<-(AM hbel).1 _ _ hlt] at q0
   have hcall:=hF.o k hkl
   have hat:=fun (hp:p l[k]=true)=>J7 hkl hall hp
   have htk:p l[k]=false->(l.take (k+1)).all (fun g=>!p g)=true:=fun hp=>by
    rw [List.take_succ_eq_append_getElem hkl,List.all_append,hall]
    simp [hp]
   obtain ⟨r,hr⟩:=nm (p l[k])
   obtain ⟨g0,hg0⟩:=nm (l[k])
   rw [<-hr] at hcall hat htk
   rw [<-hg0] at q0 hcall
   have HC:=Aa hcall
   have HA:=Aa hat
   have HT:=Aa htk
   clear hr hg0 hcall hat htk hcl hcc hF
   cases r with
   | true=>
    go_wp2_with fail
    refine (HC.o _ hbel).mono ?_
    rintro e w2 ⟨rfl,hb2⟩
    have hbel2:Ov w w2:=hbel.trans (hb2.mono hbel.size)
    go_wp2_with fail
    go_ret
    exact ⟨by rw [HA.o (by first | rfl | trivial)];rfl,hbel2⟩
   | false=>
    go_wp2_with fail
    refine (HC.o _ hbel).mono ?_
    rintro e w2 ⟨rfl,hb2⟩
    have hbel2:Ov w w2:=hbel.trans (hb2.mono hbel.size)
    go_wp2_with fail
    exact ⟨⟨k+1,by omega,by go_num,HT.o (by first | rfl | trivial),hbel2⟩,by simp [intOf];omega⟩
  ·have hke:k=l.length:=by omega
   rw [hke,List.take_length] at hall
   have hx:=Im hall
   clear hall hcc hF
   go_wp2_with fail
   go_ret
   exact ⟨by rw [hx];rfl,hbel⟩
theorem D6 (F:FuncId) (cv:Value) (p:Int->Bool) (v:Value) (l) (w:World) (hv:Ar w v l) (hn:l.length<=6)
  (hF:Hx (∀ (i:Nat) (h:i < l.length) (w1:World),Ov w w1->Calls Tryz.prog F #[zd U l[i],cv] w1 fun e w2=>e=zh (ze (p l[i]))/\Ov w1 w2))
  (hC:∀ (args:Array Value) (w:World),(callFunc F args).run Tryz.prog w=.ok (.enter F args) w) :
  Calls Tryz.prog 124 #[v,.func (.func F) #[] #[cv]] w fun e w'=>e=zh (ze (l.any p))/\Ov w w':=by
 have hI:=Fw F cv p v l w hv hn hF hC
 have hx:=Jn p l
 obtain ⟨r,hr⟩:=nm (Ga p l)
 rw [<-hr] at hI hx
 rw [<-hx]
 have HI:=Aa hI
 clear hI hx hr hv hC hF
 obtain ⟨u,hu⟩:=nm v
 go_enter Tryz.func124,Tryz.ntmps124
 go_wp2_with fail
 refine (HI.o).mono ?_
 rintro e w1 ⟨rfl,hb1⟩
 go_wp2_with fail
 go_ret
 exact ⟨by simp,hb1⟩
theorem LT (args:Array Value) (w:World):(callFunc 213 args).run Tryz.prog w=.ok (.enter 213 args) w:=by simp [go_sem]
theorem Ev (m x:Int) (b:Nat) (w:World) (h0:w.cell? ⟨b,0,none⟩=some (zd U m)) :
  Calls Tryz.prog 213 #[zd U x,zi (some ⟨b,0,none⟩)] w fun e w'=>e=zh (ze (!Bn m x))/\Ov w w':=by
 by_cases h1:x < 0
 ·have hx:Bn m x=false:=by simp [Bn];omega
  rw [hx]
  clear hx
  go_enter Tryz.func213,Tryz.ntmps213
  go_wp2_with fail
  go_ret
  exact ⟨by simp,Below.refl _ w⟩
 ·by_cases h2:m<=x
  ·have hx:Bn m x=false:=by simp [Bn];omega
   rw [hx]
   clear hx
   go_enter Tryz.func213,Tryz.ntmps213
   go_wp2_with fail
   go_ret
   exact ⟨by simp,Below.refl _ w⟩
  ·have hx:Bn m x=true:=by simp [Bn];omega
   rw [hx]
   clear hx
   go_enter Tryz.func213,Tryz.ntmps213
   go_wp2_with fail
   go_ret
   exact ⟨by simp,Below.refl _ w⟩
theorem IT (v:Value) (l) (w:World) (hv:Ar w v l) (hn:l.length<=6) :
  Calls Tryz.prog 214 #[v] w fun e w'=>e=zh (ze (CY l))/\Ov w w':=by
 obtain ⟨ao,cap,rfl,hcc⟩:=hv
 have HCC:=Aa hcc
 clear hcc
 go_enter Tryz.func214,Tryz.ntmps214
 go_wp2_with fail
 go_loopw [3] (fun i wr=>∃ k n:Nat,k<=6/\i=zd U ((k:Int)+1)/\(∀ j (h:j+1 < l.length),j < k->l[j] < l[j+1])/\wr=w.drewN n) (fun i _=>10 - (intOf i).toNat)
 case atStart=>exact ⟨0,0,Nat.zero_le _,rfl,fun j _ h=>absurd h (Nat.not_lt_zero _),rfl⟩
 case round=>
  obtain ⟨k,n,hk,rfl,hall,rfl⟩:=hrel
  by_cases hkl:k+1 < l.length
  ·obtain ⟨b,off,rfl,hcl⟩:=HCC.o (by rintro rfl;simp at hkl)
   have q0:=hcl k (by omega)
   have q1:=hcl (k+1) hkl
   have hnext:l[k] < l[k+1]->∀ j (h:j+1 < l.length),j < k+1->l[j] < l[j+1]:=fun h j hj hjk=>by
    by_cases e:j=k
    ·subst e;exact h
    ·exact hall j hj (by omega)
   have hstop:¬ l[k] < l[k+1]->CY l=false:=fun h=>by
    rw [Bool.eq_false_iff]
    intro hh
    exact h ((E2 l).1 hh k hkl)
   obtain ⟨x,hx⟩:=nm (l[k])
   obtain ⟨y,hy⟩:=nm (l[k+1])
   rw [<-hx] at q0
   rw [<-hy] at q1
   rw [<-hx,<-hy] at hnext hstop
   have HN:=Aa hnext
   have HS:=Aa hstop
   have k1:((k:Int)+1) < (l.length:Int):=by omega
   have a1:(0:Int)<=(k:Int)+1:=by omega
   have a2:(0:Int)<=(k:Int):=by omega
   have a3:(k:Int) < (l.length:Int):=by omega
   have q1':w.cell? ⟨b,off+(k+1),none⟩=some (zd U y):=q1
   clear hnext hstop hx hy hcl hall HCC q1
   by_cases hxy:y<=x
   ·go_wp2_with fail
    go_region
    go_wp2_with fail
    go_ret
    exact ⟨by rw [HS.o (by omega)];rfl,below_drewN (Below.refl _ w) (n+1)⟩
   ·go_wp2_with fail
    go_region
    go_wp2_with fail
    exact ⟨⟨k+1,n+1,by omega,by go_num,HN.o (by omega),by first | rfl | trivial⟩,by simp [intOf];omega⟩
  ·have hr:CY l=true:=(E2 l).2 fun j hj=>hall j hj (by omega)
   have HR:=Aa hr
   have k1:¬ ((k:Int)+1) < (l.length:Int):=by omega
   clear hr hall HCC
   go_wp2_with fail
   go_ret
   exact ⟨by rw [HR.o];rfl,below_drewN (Below.refl _ w) n⟩
theorem D7 (m:Int) (s:Value) (p:Pol) (nv:Value) (w:World) (hp:Ar w nv p.names) :
  Calls Tryz.prog 169 #[zg #[zd U m,s],zg #[zd U p.owner,nv]] w fun e w'=>e=zh (zd U (Ci m p))/\Ov w w':=by
 obtain ⟨ow,names⟩:=p
 have hE:Ci m ⟨ow,names⟩=if Bn m ow=true then (if names.length<=6 then (if (names.any fun x=>!Bn m x)=true then 5 else (if CY names=true then 0 else 4)) else 2) else 5:=by
  unfold Ci
  have:names.all (Bn m)=!(names.any fun x=>!Bn m x):=by rw [List.any_eq_not_all_not];simp
  simp only [this]
  cases (names.any fun x=>!Bn m x) <;> simp
 simp only at hp ⊢
 have hbel:Ov w ((w.alloc (zf #[zd U m,s] 24)).alloc (zf #[zd U ow,nv] 87)):=(bA w _).alloc (by simp) _
 have HP:=Aa fun (W:World) (hb:Ov w W)=>B9 hp hb
 have hN:=fun (W:World) (h:W.cell? ⟨w.heap.size,0,none⟩=some (zd U m))=>Ev m ow w.heap.size W h
 have hK:=fun (W:World) (hn:names.length<=6) (hB:Ov w W) (h:W.cell? ⟨w.heap.size,0,none⟩=some (zd U m))=>D6 213 (zi (some ⟨w.heap.size,0,none⟩)) (fun x=>!Bn m x) nv names W (B9 hp hB) hn (Aa fun i hi w1 hb=>Ev m names[i] w.heap.size w1 (by rw [(AM hb).1 _ _ (bL h)];exact h)) LT
 have hR:=fun (W:World) (hn:names.length<=6) (hB:Ov w W)=>IT nv names W (B9 hp hB) hn
 obtain ⟨r1,hr1⟩:=nm (Bn m ow)
 obtain ⟨r2,hr2⟩:=nm (names.any fun x=>!Bn m x)
 obtain ⟨r3,hr3⟩:=nm (CY names)
 rw [<-hr1,<-hr2,<-hr3] at hE
 rw [<-hr1] at hN
 rw [<-hr2] at hK
 rw [<-hr3] at hR
 have KN:=Aa hN
 have KK:=Aa hK
 have KR:=Aa hR
 have HE:=Aa hE
 obtain ⟨ao,cap,rfl,-⟩:=hp
 clear hN hK hR hE hr1 hr2 hr3
 cases r1 with
 | false=>
  go_enter Tryz.func169,Tryz.ntmps169
  go_wp2_with fail
  refine (KN.o _ (by simp [go_sem])).mono ?_
  rintro e w1 ⟨rfl,hb1⟩
  have hbel1:Ov w w1:=hbel.trans (hb1.mono (by simp;omega))
  go_wp2_with fail
  go_ret
  exact ⟨by rw [HE.o];rfl,hbel1⟩
 | true=>
  go_enter Tryz.func169,Tryz.ntmps169
  go_wp2_with fail
  refine (KN.o _ (by simp [go_sem])).mono ?_
  rintro e w1 ⟨rfl,hb1⟩
  obtain ⟨hc,hf⟩:=AM hb1
  have c0:w1.cell? ⟨w.heap.size,0,none⟩=some (zd U m):=by rw [hc _ _ (by simp;omega)];simp [go_sem]
  have c1:w1.cell? ⟨w.heap.size+1,1,none⟩=some (O ao names.length cap):=by rw [hc _ _ (by simp)];simp [go_sem]
  have hbel1:Ov w w1:=hbel.trans (hb1.mono (by simp;omega))
  clear hc hf hb1 hbel KN
  by_cases hn:names.length<=6
  ·go_wp2_with fail
   refine (KK.o _ hn hbel1 c0).mono ?_
   rintro e w2 ⟨rfl,hb2⟩
   have hbel2:Ov w w2:=hbel1.trans (hb2.mono hbel1.size)
   have d1:w2.cell? ⟨w.heap.size+1,1,none⟩=some (O ao names.length cap):=by rw [(AM hb2).1 _ _ (bL c1)];exact c1
   clear c0 c1 KK
   cases r2 with
   | true=>
    go_wp2_with fail
    go_ret
    exact ⟨by rw [HE.o];simp [hn],hbel2⟩
   | false=>
    go_wp2_with fail
    refine (KR.o _ hn hbel2).mono ?_
    rintro e w3 ⟨rfl,hb3⟩
    have hbel3:Ov w w3:=hbel2.trans (hb3.mono hbel2.size)
    clear d1 KR
    cases r3
    all_goals go_wp2_with fail
    all_goals go_ret
    all_goals exact ⟨by rw [HE.o];simp [hn],hbel3⟩
  ·go_wp2_with fail
   go_ret
   exact ⟨by rw [HE.o];simp [hn],hbel1⟩
theorem Ik {w:World} {v:Value} {ps:List Pol} (h:AD w v ps) {i:Nat} (hi:i < ps.length):∃ b off cap nv,v=O (some ⟨b,off,none⟩) ps.length cap/\w.cell? ⟨b,off+i*2,none⟩=some (zd U ps[i].owner)/\w.cell? ⟨b,off+i*2+1,none⟩=some nv/\Ar w nv ps[i].names:=by
 obtain ⟨ao,cap,rfl,hc⟩:=h
 obtain ⟨b,off,rfl,hcl⟩:=hc (by rintro rfl;simp at hi)
 obtain ⟨h1,nv,h2,h3⟩:=hcl i hi
 exact ⟨b,off,cap,nv,rfl,h1,h2,h3⟩
theorem CU (m:Int) (s vp:Value) (ps:List Pol) (w:World) (hp:AD w vp ps) :
  Calls Tryz.prog 110 #[zg #[zd U m,s],vp] w fun e w'=>e=zh (zd U (BM m ps))/\Ov w w':=by
 have HP:=Aa hp
 obtain ⟨ao,cap,rfl,-⟩:=hp
 have hbel:Ov w (w.alloc (zf #[zd U m,s] 24)):=bA w _
 have hE:BM m ps=if ps.length<=4 then BL m ps else 2:=rfl
 have KP:=Aa fun (p:Pol) (nv:Value) (W:World) (h:Ar W nv p.names)=>D7 m s p nv W h
 by_cases hn:ps.length<=4
 ·rw [if_pos hn] at hE
  have HE:=Aa hE
  clear hE
  go_enter Tryz.func110,Tryz.ntmps110
  go_wp2_with fail
  go_loopw [13] (fun i wr=>∃ k:Nat,k<=ps.length/\i=zd U k/\BL m ps=BL m (ps.drop k)/\Ov w wr/\wr.cell? ⟨w.heap.size,0,none⟩=some (zd U m)/\wr.cell? ⟨w.heap.size,1,none⟩=some s) (fun i _=>ps.length - (intOf i).toNat)
  case atStart=>exact ⟨0,Nat.zero_le _,rfl,rfl,hbel,by simp [go_sem],by simp [go_sem]⟩
  case round=>
   obtain ⟨k,hk,rfl,hfe,hbw,c0,c1⟩:=hrel
   by_cases hkl:k < ps.length
   ·obtain ⟨b,off,cap',nv,hve,q0,q1,q2⟩:=Ik (Ap HP.o hbw) hkl
    injection hve with e1 e2 e3
    subst e1 e3
    clear e2
    have hfd:=ET (m:=m) hkl
    rw [<-hfe] at hfd
    have ltb:=bL q0
    have ltw:=bL c0
    have hal:Ov wr (wr.alloc (zf #[zd U ps[k].owner,nv] 87)):=bA wr _
    have hcall:=KP.o ps[k] nv (wr.alloc (zf #[zd U ps[k].owner,nv] 87)) (B9 q2 hal)
    obtain ⟨r,hr⟩:=nm (Ci m ps[k])
    obtain ⟨ow,how⟩:=nm (ps[k].owner)
    rw [<-hr] at hfd hcall
    rw [<-how] at q0 hal hcall
    obtain ⟨nl,nc,nlen,hnv⟩:∃ a c n,nv=O a n c:=by obtain ⟨a,c,e,_⟩:=q2;exact ⟨a,c,_,e⟩
    subst hnv
    have HC:=Aa hcall
    have HF:=Aa hfd
    have hbw2:=hbw.trans (hal.mono hbw.size)
    clear hr how hcall hfd q2 hfe
    by_cases hr0:r=0
    ·subst hr0
     go_wp2_with fail
     refine (HC.o).mono ?_
     rintro e w2 ⟨rfl,hb2⟩
     have hb3:=hbw2.trans (hb2.mono hbw2.size)
     have ltw':w.heap.size < (wr.alloc (zf #[zd U ow,O nl nlen nc] 87)).heap.size:=by simp;exact Nat.lt_succ_of_lt ltw
     have d0:w2.cell? ⟨w.heap.size,0,none⟩=some (zd U m):=by rw [(AM hb2).1 _ _ ltw',(AM hal).1 _ _ ltw];exact c0
     have d1:w2.cell? ⟨w.heap.size,1,none⟩=some s:=by rw [(AM hb2).1 _ _ ltw',(AM hal).1 _ _ ltw];exact c1
     clear hbw2 hb2 hal q0 q1 c0 c1 HC
     go_wp2_with fail
     exact ⟨⟨k+1,by omega,by go_num,by rw [HF.o];simp,hb3,d0,d1⟩,by simp [intOf];omega⟩
    ·have hne:(r != 0)=true:=by simpa using hr0
     go_wp2_with fail
     refine (HC.o).mono ?_
     rintro e w2 ⟨rfl,hb2⟩
     have hb3:=hbw2.trans (hb2.mono hbw2.size)
     clear hbw2 hb2 hal q0 q1 c0 c1 HC
     go_wp2_with fail
     go_ret
     exact ⟨by rw [HE.o,HF.o];simp [hr0],hb3⟩
   ·have hke:k=ps.length:=by omega
    have hz:BL m ps=0:=by rw [hfe,hke,List.drop_length];rfl
    have HZ:=Aa hz
    clear hz hfe c0 c1
    go_wp2_with fail
    go_ret
    exact ⟨by rw [HE.o,HZ.o];rfl,hbw⟩
 ·rw [if_neg hn] at hE
  have HE:=Aa hE
  clear hE
  go_enter Tryz.func110,Tryz.ntmps110
  go_wp2_with fail
  go_ret
  exact ⟨by rw [HE.o];rfl,hbel⟩
end Go.Proofs.YtfffpjkcfnekaaaGreat
