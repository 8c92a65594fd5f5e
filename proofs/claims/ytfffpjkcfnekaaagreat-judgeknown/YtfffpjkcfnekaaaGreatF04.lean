/- Plain: who acts for whom: the least set that holds one and goes on along the grants; found by growing it one by one, or by going over all grants again and again. -/
import Derived.RowKit
import Derived.Test.YtfffpjkcfnekaaaGreatF01
import Derived.WalkKit
import Derived.WalkSpells
import Derived.WalkLawsBesides
import Derived.Laws.MakeOwn
import Derived.WalkSmall
set_option linter.unusedVariables false
set_option maxHeartbeats 8000000
set_option maxRecDepth 100000
namespace Go.Proofs.YtfffpjkcfnekaaaGreat
open Go.RowKit
open Go.Value renaming slice -> O, int -> U, bool -> zg, agg -> zh, pointer -> zj, tuple -> zm
open Go.IntKind renaming i64 -> zd
open Go.Obj renaming cells -> ze
open Go.Ending renaming returned -> zk
def Reach (gs:List (Nat × Nat)) (w k:Nat):Prop:=∀ S:Nat->Prop,S w->(∀ g∈gs,S g.1->S g.2)->S k
theorem I5 (gs:List (Nat × Nat)) (w:Nat):Reach gs w w:=fun _ h _=>h
theorem I4 {gs:List (Nat × Nat)} {w:Nat} {g:Nat × Nat} (hg:g∈gs) (h:Reach gs w g.1):Reach gs w g.2:=fun S h0 hS=>hS g hg (h S h0 hS)
def De (gs:List (Nat × Nat)) (w:Nat) (l:List Bool):Prop:=l[w]? = some true/\∀ k:Nat,l[k]? = some true->Reach gs w k
def DN (gs:List (Nat × Nat)) (l:List Bool):Prop:=∀ g∈gs,l[g.1]? = some true->l[g.2]? = some true
theorem GA {gs:List (Nat × Nat)} {w:Nat} {l:List Bool} {g:Nat × Nat} (h:De gs w l) (hg:g∈gs) (hk:l[g.1]? = some true):De gs w (l.set g.2 true):=by
 refine ⟨?_,fun k hk2=>?_⟩
 ·rw [List.getElem?_set]
  split
  ·split
   ·rfl
   ·rename_i e h1
    subst e
    have h0:=h.1
    rw [List.getElem?_eq_none (by omega)] at h0
    cases h0
  ·exact h.1
 ·rw [List.getElem?_set] at hk2
  split at hk2
  ·rename_i e
   subst e
   exact I4 hg (h.2 _ hk)
  ·exact h.2 k hk2
theorem GG {gs:List (Nat × Nat)} {w:Nat} {l:List Bool} (h:De gs w l) (hc:DN gs l) (k:Nat):l[k]? = some true ↔ Reach gs w k:=
 ⟨fun e=>h.2 k e,fun hr=>hr (fun k=>l[k]? = some true) h.1 hc⟩
theorem K8 {gs:List (Nat × Nat)} {w:Nat} {l m:List Bool} (h:De gs w l) (hc:DN gs l) (h2:De gs w m) (hc2:DN gs m) (hl:l.length=m.length):l=m:=by
 apply List.ext_getElem?
 intro k
 have e:=(GG h hc k).trans (GG h2 hc2 k).symm
 by_cases hk:k < l.length
 ·have hk2:k < m.length:=by omega
  rw [List.getElem?_eq_getElem hk,List.getElem?_eq_getElem hk2] at e ⊢
  simp only [Option.some.injEq] at e ⊢
  exact Bool.eq_iff_iff.2 e
 ·rw [List.getElem?_eq_none (by omega),List.getElem?_eq_none (by omega)]
def Dm (l:List Bool) (g:Nat × Nat):List Bool:=if l[g.1]? = some true then l.set g.2 true else l
def Gp (gs:List (Nat × Nat)) (l:List Bool):List Bool:=gs.foldl Dm l
theorem G6 (l:List Bool) (g:Nat × Nat):(Dm l g).length=l.length:=by
 unfold Dm;split <;> simp
theorem Ih (gs:List (Nat × Nat)) (l:List Bool):(Gp gs l).length=l.length:=by
 unfold Gp
 induction gs generalizing l with
 | nil=>rfl
 | cons g gs ih=>rw [List.foldl_cons,ih,G6]
theorem H9 (l:List Bool) (g:Nat × Nat):Dm l g=l\/l.count true < (Dm l g).count true:=by
 unfold Dm
 split
 ·by_cases h:g.2 < l.length
  ·by_cases hb:l[g.2]=true
   ·left
    rw [<-hb]
    exact List.set_getElem_self h
   ·right
    have hb':l[g.2]=false:=by simpa using hb
    rw [List.count_set h]
    rw [hb']
    simp
  ·left
   exact List.set_eq_of_length_le (by omega)
 ·exact Or.inl rfl
theorem I9 (gs:List (Nat × Nat)) (l:List Bool):(Gp gs l=l/\∀ g∈gs,Dm l g=l)\/l.count true < (Gp gs l).count true:=by
 unfold Gp
 induction gs generalizing l with
 | nil=>exact Or.inl ⟨rfl,by simp⟩
 | cons g gs ih=>
  rw [List.foldl_cons]
  rcases H9 l g with h | h
  ·rw [h]
   rcases ih l with ⟨h1,h2⟩ | h1
   ·left
    refine ⟨h1,fun g' hg'=>?_⟩
    rcases List.mem_cons.1 hg' with rfl | hg'
    ·exact h
    ·exact h2 g' hg'
   ·exact Or.inr h1
  ·right
   rcases ih (Dm l g) with ⟨h1,_⟩ | h1
   ·rw [h1];exact h
   ·omega
theorem Fy {gs:List (Nat × Nat)} {l:List Bool} (hb:∀ g∈gs,g.2 < l.length) (h:∀ g∈gs,Dm l g=l):DN gs l:=fun g hg hk=>by
 have:=h g hg
 unfold Dm at this
 rw [if_pos hk] at this
 rw [<-this,List.getElem?_set_self (hb g hg)]
theorem I6 {gs hs:List (Nat × Nat)} {w:Nat} {l:List Bool} (h:De gs w l) (hm:∀ g∈hs,g∈gs):De gs w (Gp hs l):=by
 unfold Gp
 induction hs generalizing l with
 | nil=>exact h
 | cons g hs ih=>
  rw [List.foldl_cons]
  refine ih ?_ fun g' hg'=>hm g' (List.mem_cons_of_mem _ hg')
  unfold Dm
  split
  ·rename_i hk
   exact GA h (hm g (by simp)) hk
  ·exact h
def B8 (gs:List (Nat × Nat)):Nat->List Bool->List Bool
 | 0,l=>l
 | n+1,l=>Gp gs (B8 gs n l)
theorem Dl (gs:List (Nat × Nat)) (n:Nat) (l:List Bool):(B8 gs n l).length=l.length:=by
 induction n with
 | zero=>rfl
 | succ n ih=>rw [B8,Ih,ih]
theorem G9 {gs:List (Nat × Nat)} {w n:Nat} {l:List Bool} (h:De gs w l):De gs w (B8 gs n l):=by
 induction n with
 | zero=>exact h
 | succ n ih=>exact I6 ih fun _ h=>h
theorem Ha (gs:List (Nat × Nat)) (n:Nat) (l:List Bool) (hb:∀ g∈gs,g.2 < l.length):DN gs (B8 gs n l)\/l.count true+n<=(B8 gs n l).count true:=by
 induction n with
 | zero=>right;simp [B8]
 | succ n ih=>
  rw [B8]
  have hb':∀ g∈gs,g.2 < (B8 gs n l).length:=by rw [Dl];exact hb
  rcases I9 gs (B8 gs n l) with ⟨h1,h2⟩ | h1
  ·left
   rw [h1]
   exact Fy hb' h2
  ·rcases ih with ih | ih
   ·left
    have hst:∀ g∈gs,Dm (B8 gs n l) g=B8 gs n l:=fun g hg=>by
     unfold Dm
     split
     ·rename_i hk
      have:=ih g hg hk
      obtain ⟨hl,he⟩:=List.getElem?_eq_some_iff.1 this
      rw [<-he]
      exact List.set_getElem_self hl
     ·rfl
    have:Gp gs (B8 gs n l)=B8 gs n l:=by
     generalize B8 gs n l=m at hst
     unfold Gp
     clear h1 ih hb hb'
     induction gs with
     | nil=>rfl
     | cons g gs ih2=>
      rw [List.foldl_cons,hst g (by simp)]
      exact ih2 fun g' hg'=>hst g' (List.mem_cons_of_mem _ hg')
    rw [this]
    exact ih
   ·right;omega
theorem Gn {gs:List (Nat × Nat)} {w:Nat} {l:List Bool} (h:De gs w l) (hb:∀ g∈gs,g.2 < l.length):DN gs (B8 gs l.length l):=by
 rcases Ha gs l.length l hb with h1 | h1
 ·exact h1
 ·have h2:=List.count_le_length (a:=true) (l:=B8 gs l.length l)
  rw [Dl] at h2
  have h3:0 < l.count true:=List.count_pos_iff.2 (List.mem_of_getElem? h.1)
  omega
def start (n w:Nat):List Bool:=(List.replicate n false).set w true
theorem DW (gs:List (Nat × Nat)) {n w:Nat} (h:w < n):De gs w (start n w):=by
 unfold start
 refine ⟨by rw [List.getElem?_set_self (by simpa using h)],fun k hk=>?_⟩
 rw [List.getElem?_set] at hk
 split at hk
 ·rename_i e;subst e;exact I5 _ _
 ·rw [List.getElem?_replicate] at hk
  split at hk <;> cases hk
def acts (gs:List (Nat × Nat)) (n w:Nat):List Bool:=B8 gs n (start n w)
theorem Cx (n w:Nat):(start n w).length=n:=by simp [start]
theorem BO (gs:List (Nat × Nat)) (n w:Nat):(acts gs n w).length=n:=by rw [acts,Dl,Cx]
theorem JP (gs:List (Nat × Nat)) {n w:Nat} (h:w < n):De gs w (acts gs n w):=G9 (DW gs h)
theorem IV {gs:List (Nat × Nat)} {n w:Nat} (h:w < n) (hb:∀ g∈gs,g.2 < n):DN gs (acts gs n w):=by
 have:=Gn (gs:=gs) (DW gs h) (by rw [Cx];exact hb)
 rw [Cx] at this
 exact this
theorem MB {gs:List (Nat × Nat)} {n w:Nat} (h:w < n) (hb:∀ g∈gs,g.2 < n) {l:List Bool} (hl:l.length=n) (h1:De gs w l) (h2:DN gs l):l=acts gs n w:=
 K8 h1 h2 (JP gs h) (IV h hb) (by rw [hl,BO])
theorem Aa {p:Prop} (h:p):Hx p:=h
theorem Al {W w1:World} (hb:Ov W w1):(∀ b o,b < W.heap.size->w1.cell? ⟨b,o,none⟩=W.cell? ⟨b,o,none⟩)/\(∀ b o,b < W.heap.size->w1.frozen? ⟨b,o,none⟩=W.frozen? ⟨b,o,none⟩):=
 ⟨fun b o h=>hb.cell (p:=⟨b,o,none⟩) h,fun b o h=>hb.frozen (p:=⟨b,o,none⟩) h⟩
def BJ (m x:Int):Bool:=decide (0<=x/\x < m)
theorem GI (m x:Int) (s:Value) (w:World) :
  Calls Tryz.prog 168 #[zh #[U zd m,s],U zd x] w fun e w'=>e=zk (zg (BJ m x))/\Ov w w':=by
 have hbel:Ov w (w.alloc (ze #[U zd m,s] 24)):=bA w _
 by_cases h1:(0:Int)<=x
 ·by_cases h2:x < m
  ·go_enter Tryz.func168,Tryz.ntmps168
   go_wp2
   go_ret
   exact ⟨by simp [BJ];omega,hbel⟩
  ·go_enter Tryz.func168,Tryz.ntmps168
   go_wp2
   go_ret
   exact ⟨by simp [BJ];omega,hbel⟩
 ·go_enter Tryz.func168,Tryz.ntmps168
  go_wp2
  go_ret
  exact ⟨by simp [BJ];omega,hbel⟩
def Az (w:World) (v:Value) (gs:List (Int × Int)):Prop:=
 ∃ ao cap,v=O ao gs.length cap/\(gs≠[]->∃ b off,ao=some ⟨b,off,none⟩/\∀ i (h:i < gs.length),w.cell? ⟨b,off+i*2,none⟩=some (U zd gs[i].1)/\w.cell? ⟨b,off+i*2+1,none⟩=some (U zd gs[i].2))
theorem Af {w w':World} {v:Value} {gs:List (Int × Int)} (h:Az w v gs) (hb:Ov w w'):Az w' v gs:=by
 obtain ⟨ao,cap,rfl,hc⟩:=h
 refine ⟨ao,cap,rfl,fun hne=>?_⟩
 obtain ⟨b,off,rfl,hcl⟩:=hc hne
 refine ⟨b,off,rfl,fun i hi=>?_⟩
 obtain ⟨h1,h2⟩:=hcl i hi
 have hlt:=bL h1
 exact ⟨by rw [(Al hb).1 _ _ hlt];exact h1,by rw [(Al hb).1 _ _ hlt];exact h2⟩
def Dr (p:Int × Int->Bool) (gs:List (Int × Int)):Int:=match gs.findIdx? p with | some i=>i | none=>-1
theorem Mj {p:Int × Int->Bool} {gs:List (Int × Int)} {k:Nat} (hk:k < gs.length) (h:(gs.take k).all (fun g=>!p g)=true) (hp:p gs[k]=true):Dr p gs=k:=by
 have:gs.findIdx? p=some k:=by
  rw [List.findIdx?_eq_some_iff_getElem]
  refine ⟨hk,hp,fun j hj=>?_⟩
  have:=List.all_eq_true.1 h gs[j] (by rw [List.mem_take_iff_getElem];exact ⟨j,by omega,rfl⟩)
  simpa using this
 simp [Dr,this]
theorem Jn {p:Int × Int->Bool} {gs:List (Int × Int)} (h:gs.all (fun g=>!p g)=true):Dr p gs=-1:=by
 have:gs.findIdx? p=none:=by
  rw [List.findIdx?_eq_none_iff]
  intro x hx
  have:=List.all_eq_true.1 h x hx
  simpa using this
 simp [Dr,this]
theorem Em (F:FuncId) (cv:Value) (p:Int × Int->Bool) (v:Value) (gs) (w:World) (hv:Az w v gs) (hn:gs.length<=20)
  (hF:Hx (∀ (i:Nat) (h:i < gs.length) (w1:World),Ov w w1->Calls Tryz.prog F #[zh #[U zd gs[i].1,U zd gs[i].2],cv] w1 fun e w2=>e=zk (zg (p gs[i]))/\Ov w1 w2))
  (hC:∀ (args:Array Value) (w:World),(callFunc F args).run Tryz.prog w=.ok (.enter F args) w) :
  Calls Tryz.prog 193 #[v,.func (.func F) #[] #[cv]] w fun e w'=>e=zk (U zd (Dr p gs))/\Ov w w':=by
 obtain ⟨ao,cap,rfl,hcc⟩:=hv
 go_enter Tryz.func193,Tryz.ntmps193
 go_wp2_with fail
 go_loopw [8] (fun i wr=>∃ k:Nat,k<=gs.length/\i=U zd k/\(gs.take k).all (fun g=>!p g)=true/\Ov w wr) (fun i _=>gs.length - (intOf i).toNat)
 case atStart=>exact ⟨0,Nat.zero_le _,rfl,rfl,Below.refl _ w⟩
 case round=>
  obtain ⟨k,hk,rfl,hall,hbel⟩:=hrel
  by_cases hkl:k < gs.length
  ·obtain ⟨b,off,rfl,hcl⟩:=hcc (by rintro rfl;simp at hkl)
   obtain ⟨q0,q1⟩:=hcl k hkl
   have hlt:=bL q0
   rw [<-(Al hbel).1 _ _ hlt] at q0 q1
   have hcall:=hF.o k hkl
   have hat:=fun (hp:p gs[k]=true)=>Mj hkl hall hp
   have htk:p gs[k]=false->(gs.take (k+1)).all (fun g=>!p g)=true:=fun hp=>by
    rw [List.take_succ_eq_append_getElem hkl,List.all_append,hall]
    simp [hp]
   obtain ⟨r,hr⟩:=nm (p gs[k])
   obtain ⟨g0,hg0⟩:=nm (gs[k].1)
   obtain ⟨g1,hg1⟩:=nm (gs[k].2)
   rw [<-hr] at hcall hat htk
   rw [<-hg0] at q0 hcall
   rw [<-hg1] at q1 hcall
   have HC:=Aa hcall
   have HA:=Aa hat
   have HT:=Aa htk
   clear hr hg0 hg1 hcall hat htk hcl hcc hF
   cases r with
   | true=>
    go_wp2_with fail
    refine (HC.o _ hbel).mono ?_
    rintro e w2 ⟨rfl,hb2⟩
    have hbel2:Ov w w2:=hbel.trans (hb2.mono hbel.size)
    go_wp2_with fail
    go_ret
    exact ⟨by rw [HA.o (by first | rfl | trivial)];rfl,hbel2⟩
   | false=>
    go_wp2_with fail
    refine (HC.o _ hbel).mono ?_
    rintro e w2 ⟨rfl,hb2⟩
    have hbel2:Ov w w2:=hbel.trans (hb2.mono hbel.size)
    go_wp2_with fail
    exact ⟨⟨k+1,by omega,by go_num,HT.o (by first | rfl | trivial),hbel2⟩,by simp [intOf];omega⟩
  ·have hke:k=gs.length:=by omega
   rw [hke,List.take_length] at hall
   have hx:=Jn hall
   clear hall hcc hF
   go_wp2_with fail
   go_ret
   exact ⟨by rw [hx];rfl,hbel⟩
def Gj (m:Int) (g:Int × Int):Bool:=!BJ m g.1 || !BJ m g.2
def AU (m:Int) (gs:List (Int × Int)):Int:=if 1<=m/\m<=6 then (if gs.length<=20 then (if gs.any (Gj m)=true then 5 else 0) else 2) else 3
theorem OW (args:Array Value) (w:World):(callFunc 167 args).run Tryz.prog w=.ok (.enter 167 args) w:=by simp [go_sem]
theorem OV (args:Array Value) (w:World):(callFunc 192 args).run Tryz.prog w=.ok (.enter 192 args) w:=by simp [go_sem]
theorem JB (m:Int) (s:Value) (b:Nat) (g:Int × Int) (w:World) (h0:w.cell? ⟨b,0,none⟩=some (U zd m)) (h1:w.cell? ⟨b,1,none⟩=some s) :
  Calls Tryz.prog 167 #[zh #[U zd g.1,U zd g.2],zj (some ⟨b,0,none⟩)] w fun e w'=>e=zk (zg (Gj m g))/\Ov w w':=by
 obtain ⟨g0,g1⟩:=g
 have hlt:=bL h0
 have hne:b≠w.heap.size:=by have:b < w.heap.size:=hlt;omega
 simp only
 have H1:=fun w=>GI m g0 s w
 have H2:=fun w=>GI m g1 s w
 obtain ⟨r1,hr1⟩:=nm (BJ m g0)
 obtain ⟨r2,hr2⟩:=nm (BJ m g1)
 have hbad:Gj m (g0,g1)=(!r1 || !r2):=by rw [hr1,hr2];rfl
 rw [<-hr1] at H1
 rw [<-hr2] at H2
 rw [hbad]
 have K1:=Aa H1
 have K2:=Aa H2
 clear H1 H2 hr1 hr2 hbad
 have hal:Ov w (w.alloc (ze #[U zd g0,U zd g1] 169)):=bA w _
 cases r1 with
 | true=>
  go_enter Tryz.func167,Tryz.ntmps167
  go_wp2_with fail
  refine (K1.o _).mono ?_
  rintro e w1 ⟨rfl,hb1⟩
  obtain ⟨hc,hf⟩:=Al hb1
  have hlt2:b < (w.alloc (ze #[U zd g0,U zd g1] 169)).heap.size:=by simp;exact Nat.lt_succ_of_lt hlt
  have c0:w1.cell? ⟨b,0,none⟩=some (U zd m):=by rw [hc _ _ hlt2,(Al hal).1 _ _ hlt];exact h0
  have c1:w1.cell? ⟨b,1,none⟩=some s:=by rw [hc _ _ hlt2,(Al hal).1 _ _ hlt];exact h1
  have e1:w1.cell? ⟨w.heap.size,1,none⟩=some (U zd g1):=by rw [hc _ _ (by simp)];simp [go_sem]
  have hbel:Ov w w1:=hal.trans (hb1.mono (by simp))
  clear hc hf hb1
  go_wp2_with fail
  refine (K2.o _).mono ?_
  rintro e w2 ⟨rfl,hb2⟩
  have hbel2:Ov w w2:=hbel.trans (hb2.mono hbel.size)
  go_wp2_with fail
  go_ret
  exact ⟨by simp,hbel2⟩
 | false=>
  go_enter Tryz.func167,Tryz.ntmps167
  go_wp2_with fail
  refine (K1.o _).mono ?_
  rintro e w1 ⟨rfl,hb1⟩
  have hbel:Ov w w1:=hal.trans (hb1.mono (by simp))
  go_wp2_with fail
  go_ret
  exact ⟨by simp,hbel⟩
theorem MZ (p:Int × Int->Bool) (gs):decide (0<=Dr p gs)=gs.any p:=by
 unfold Dr
 cases h:gs.findIdx? p with
 | none=>
  have:gs.any p=false:=by rw [List.any_eq_false];intro x hx;have:=(List.findIdx?_eq_none_iff.1 h) x hx;simpa using this
  rw [this];rfl
 | some i=>
  obtain ⟨hi,hp,_⟩:=List.findIdx?_eq_some_iff_getElem.1 h
  have:gs.any p=true:=List.any_eq_true.2 ⟨_,List.getElem_mem hi,hp⟩
  rw [this];simp
theorem Fd (m:Int) (s:Value) (b:Nat) (v:Value) (gs) (w:World) (hv:Az w v gs) (hn:gs.length<=20)
  (h0:w.cell? ⟨b,0,none⟩=some (U zd m)) (h1:w.cell? ⟨b,1,none⟩=some s) :
  Calls Tryz.prog 166 #[v,.func (.func 167) #[] #[zj (some ⟨b,0,none⟩)]] w fun e w'=>e=zk (zg (gs.any (Gj m)))/\Ov w w':=by
 have hI:=Em 167 (zj (some ⟨b,0,none⟩)) (Gj m) v gs w hv hn (Aa fun i hi w1 hb=>by
  have hlt:=bL h0
  exact JB m s b gs[i] w1 (by rw [(Al hb).1 _ _ hlt];exact h0) (by rw [(Al hb).1 _ _ hlt];exact h1)) OW
 have hx:=MZ (Gj m) gs
 obtain ⟨r,hr⟩:=nm (Dr (Gj m) gs)
 rw [<-hr] at hI hx
 rw [<-hx]
 have HI:=Aa hI
 clear hI hx hr hv
 obtain ⟨u,hu⟩:=nm v
 go_enter Tryz.func166,Tryz.ntmps166
 go_wp2_with fail
 refine (HI.o).mono ?_
 rintro e w1 ⟨rfl,hb1⟩
 go_wp2_with fail
 go_ret
 exact ⟨by simp,hb1⟩
theorem check_any (m:Int) (v:Value) (gs) (w:World) (hv:Az w v gs) :
  Calls Tryz.prog 109 #[zh #[U zd m,v]] w fun e w'=>e=zk (U zd (AU m gs))/\Ov w w':=by
 have hbel:Ov w (w.alloc (ze #[U zd m,v] 24)):=bA w _
 by_cases h1:m < 1
 ·have hE:AU m gs=3:=by unfold AU;rw [if_neg (by omega)]
  have HE:=Aa hE
  clear hE
  go_enter Tryz.func109,Tryz.ntmps109
  go_wp2_with fail
  go_ret
  exact ⟨by rw [HE.o];rfl,hbel⟩
 by_cases h6:6 < m
 ·have hE:AU m gs=3:=by unfold AU;rw [if_neg (by omega)]
  have HE:=Aa hE
  clear hE
  go_enter Tryz.func109,Tryz.ntmps109
  go_wp2_with fail
  go_ret
  exact ⟨by rw [HE.o];rfl,hbel⟩
 have hvo:=Af hv hbel
 obtain ⟨ao,cap,hve,-⟩:=hv
 by_cases hn:gs.length<=20
 ·have hE:AU m gs=if gs.any (Gj m)=true then 5 else 0:=by unfold AU;rw [if_pos (by omega),if_pos hn]
  have hC:=Fd m v w.heap.size v gs (w.alloc (ze #[U zd m,v] 24)) hvo hn (by simp [go_sem]) (by simp [go_sem])
  obtain ⟨r,hr⟩:=nm (gs.any (Gj m))
  rw [<-hr] at hE hC
  subst hve
  have HE:=Aa hE
  have HC:=Aa hC
  clear hE hC hr hvo
  cases r with
  | true=>
   go_enter Tryz.func109,Tryz.ntmps109
   go_wp2_with fail
   refine (HC.o).mono ?_
   rintro e w1 ⟨rfl,hb1⟩
   have hbel1:Ov w w1:=hbel.trans (hb1.mono (by simp))
   go_wp2_with fail
   go_ret
   exact ⟨by rw [HE.o];rfl,hbel1⟩
  | false=>
   go_enter Tryz.func109,Tryz.ntmps109
   go_wp2_with fail
   refine (HC.o).mono ?_
   rintro e w1 ⟨rfl,hb1⟩
   have hbel1:Ov w w1:=hbel.trans (hb1.mono (by simp))
   go_wp2_with fail
   go_ret
   exact ⟨by rw [HE.o];rfl,hbel1⟩
 ·have hE:AU m gs=2:=by unfold AU;rw [if_pos (by omega),if_neg hn]
  have HE:=Aa hE
  subst hve
  clear hE hvo
  go_enter Tryz.func109,Tryz.ntmps109
  go_wp2_with fail
  go_ret
  exact ⟨by rw [HE.o];rfl,hbel⟩
def toI (g:Nat × Nat):Int × Int:=((g.1:Int),(g.2:Int))
def Cr (w:World) (kb:Nat) (l:List Bool):Prop:=∀ i (h:i < l.length),w.cell? ⟨kb,i,none⟩=some (zg l[i])/\w.frozen? ⟨kb,i,none⟩=false
theorem FZ {w w':World} {kb:Nat} {l:List Bool} (h:Cr w kb l) (hb:Ov w w'):Cr w' kb l:=fun i hi=>by
 obtain ⟨h1,h2⟩:=h i hi
 have hlt:=bL h1
 exact ⟨by rw [(Al hb).1 _ _ hlt];exact h1,by rw [(Al hb).2 _ _ hlt];exact h2⟩
theorem K7 {w:World} {kb:Nat} {l:List Bool} (h:Cr w kb l) {j:Nat} (hj:j < l.length) (c:Bool):Cr (w.setCell ⟨kb,j,none⟩ (zg c)) kb (l.set j c):=fun i hi=>by
 have hi':i < l.length:=by simpa using hi
 obtain ⟨h1,h2⟩:=h i hi'
 refine ⟨?_,?_⟩
 ·by_cases e:j=i
  ·subst e
   rw [World.cell?_setCell_same _ _ _ h1]
   simp
  ·rw [World.cell?_setCell_other _ _ _ _ (by intro h;exact e (by injection h)),List.getElem_set_ne e]
   exact h1
 ·rw [World.frozen?_setCell]
  exact h2
def DQ (l:List Bool) (g:Int × Int):Bool:=(l[g.1.toNat]?.getD false) && !(l[g.2.toNat]?.getD false)
theorem K0 (kp kb:Nat) (l:List Bool) (g:Nat × Nat) (w:World) (hl:l.length<=6) (hkp:w.cell? ⟨kp,0,none⟩=some (O (some ⟨kb,0,none⟩) l.length l.length)) (hk:Cr w kb l)
  (h0:g.1 < l.length) (h1:g.2 < l.length) :
  Calls Tryz.prog 192 #[zh #[U zd (toI g).1,U zd (toI g).2],zj (some ⟨kp,0,none⟩)] w fun e w'=>e=zk (zg (DQ l (toI g)))/\Ov w w':=by
 obtain ⟨g0,g1⟩:=g
 simp only [toI] at h0 h1 ⊢
 have hle:DQ l ((g0:Int),(g1:Int))=(l[g0] && !l[g1]):=by simp [DQ,h0,h1]
 rw [hle]
 obtain ⟨c0,-⟩:=hk g0 h0
 obtain ⟨c1,-⟩:=hk g1 h1
 obtain ⟨b0,e0⟩:=nm (l[g0])
 obtain ⟨b1,e1⟩:=nm (l[g1])
 rw [<-e0] at c0
 rw [<-e1] at c1
 rw [<-e0,<-e1]
 have lt1:=bL hkp
 have lt2:=bL c0
 have hbel:Ov w (w.alloc (ze #[U zd g0,U zd g1] 169)):=bA w _
 clear e0 e1 hle hk
 cases b0 with
 | true=>
  go_enter Tryz.func192,Tryz.ntmps192
  go_wp2_with fail
  go_ret
  exact ⟨by simp,hbel⟩
 | false=>
  go_enter Tryz.func192,Tryz.ntmps192
  go_wp2_with fail
  go_ret
  exact ⟨by simp,hbel⟩
theorem Tryz.info4:(Tryz.prog.info? 4).map (fun i=>(i.zero,i.size,i.bytes))=some (some (zg false),1,1):=by kernel_rfl
theorem DD (n:Nat) (hn:n<=6) (w:World):(Instr.makeSlice 48 (U zd n) (U zd n)).run Tryz.prog w=.ok (O (some ⟨w.heap.size,0,none⟩) n n) (w.alloc (.cells (List.replicate n (Value.bool false)).toArray 4)):=by
 cases hi:Tryz.prog.info? 4 with
 | none=>have:=Tryz.info4;rw [hi] at this;cases this
 | some i=>
  have h4:=Tryz.info4
  rw [hi] at h4
  simp only [Option.map_some,Option.some.injEq,Prod.mk.injEq] at h4
  obtain ⟨hz,h1,h2⟩:=h4
  have:=run_make (P:=Tryz.prog) w 48 4 i (zg false) Tryz.underlying48 hi hz zd zd (n:Int) (n:Int) (by omega) (by omega) (by rw [h2];omega) (by omega)
  rw [this,h1]
  simp only [Int.toNat_natCast,Nat.mul_one]
  have e:madeCells (Value.bool false).cells n=(List.replicate n (Value.bool false)).toArray:=by
   apply Array.ext
   ·simp [madeCells]
   ·intro j h1 h2
    simp [madeCells,Value.cells,Nat.mod_one]
  rw [e]
def Ea (w:World) (n:Nat) (v:Value) (l:List Bool) (W:World):Prop:=
 W.cell? ⟨w.heap.size,0,none⟩=some (U zd n)/\W.cell? ⟨w.heap.size,1,none⟩=some v/\W.cell? ⟨w.heap.size+1+1,0,none⟩=some (O (some ⟨w.heap.size+1,0,none⟩) n n)/\Cr W (w.heap.size+1) l/\Ov w W
theorem Ea.over {w W W':World} {n:Nat} {v:Value} {l:List Bool} (h:Ea w n v l W) (hb:Ov W W'):Ea w n v l W':=by
 obtain ⟨h0,h1,h2,h3,h4⟩:=h
 obtain ⟨hc,hf⟩:=Al hb
 refine ⟨?_,?_,?_,FZ h3 hb,h4.trans (hb.mono h4.size)⟩
 ·rw [hc _ _ (bL h0)];exact h0
 ·rw [hc _ _ (bL h1)];exact h1
 ·rw [hc _ _ (bL h2)];exact h2
theorem Gl {w W:World} {n:Nat} {v:Value} {l:List Bool} {gn:List (Nat × Nat)} (hn:n<=6) (h:Ea w n v l W) (hl:l.length=n) (hv:Az w v (gn.map toI)) (hlen:gn.length<=20) (hb:∀ g∈gn,g.1 < n/\g.2 < n) :
  Calls Tryz.prog 193 #[v,.func (.func 192) #[] #[zj (some ⟨w.heap.size+1+1,0,none⟩)]] W fun e w'=>e=zk (U zd (Dr (DQ l) (gn.map toI)))/\Ea w n v l w':=by
 refine (Em 192 (zj (some ⟨w.heap.size+1+1,0,none⟩)) (DQ l) v (gn.map toI) W (Af hv h.2.2.2.2) (by simpa using hlen) (Aa fun i hi w1 hb1=>?_) OV).mono ?_
 ·have hi':i < gn.length:=by simpa using hi
  have hs:=h.over hb1
  have hg:=hb gn[i] (List.getElem_mem hi')
  have:=K0 (w.heap.size+1+1) (w.heap.size+1) l gn[i] w1 (by omega) (by rw [hl];exact hs.2.2.1) hs.2.2.2.1 (by omega) (by omega)
  simpa using this
 ·rintro e w' ⟨rfl,hb1⟩
  exact ⟨rfl,h.over hb1⟩
def isF:Option Value->Bool
 | some (zg false)=>true
 | _=>false
def Hp (kb n:Nat) (W:World):Nat:=(List.range n).countP fun i=>isF (W.cell? ⟨kb,i,none⟩)
theorem GM {W:World} {kb:Nat} {l:List Bool} (h:Cr W kb l):Hp kb l.length W=l.count false:=by
 have:l=(List.range l.length).map fun i=>l[i]?.getD false:=by
  apply List.ext_getElem
  ·simp
  ·intro i h1 h2
   simp [h1]
 unfold Hp
 conv=>rhs;rw [this]
 rw [List.count_eq_countP,List.countP_map]
 apply List.countP_congr
 intro i hi
 have hi':i < l.length:=by simpa using hi
 rw [(h i hi').1]
 simp only [Function.comp,hi',List.getElem?_eq_getElem,Option.getD_some]
 cases l[i] <;> simp [isF]
theorem Fx {l:List Bool} {j:Nat} (hj:j < l.length) (h:l[j]=false):(l.set j true).count false < l.count false:=by
 rw [List.count_set hj]
 have hm:0 < l.count false:=List.count_pos_iff.2 (List.mem_iff_getElem.2 ⟨j,hj,h⟩)
 simp [h]
 omega
theorem Le (l:List Bool) (gn:List (Nat × Nat)) (n:Nat) (hl:l.length=n) (hb:∀ g∈gn,g.1 < n/\g.2 < n) :
  (Dr (DQ l) (gn.map toI)=-1/\DN gn l)\/∃ (k:Nat) (h:k < gn.length),Dr (DQ l) (gn.map toI)=k/\l[gn[k].1]? = some true/\l[gn[k].2]? = some false:=by
 have hd:∀ g∈gn,DQ l (toI g)=true ↔ l[g.1]? = some true/\l[g.2]? = some false:=fun g hg=>by
  obtain ⟨h0,h1⟩:=hb g hg
  have e0:l[g.1]? = some l[g.1]:=List.getElem?_eq_getElem (by omega)
  have e1:l[g.2]? = some l[g.2]:=List.getElem?_eq_getElem (by omega)
  simp only [DQ,toI,Int.toNat_natCast,e0,e1,Option.getD_some,Option.some.injEq]
  cases l[g.1] <;> cases l[g.2] <;> simp
 unfold Dr
 cases hf:(gn.map toI).findIdx? (DQ l) with
 | none=>
  left
  refine ⟨rfl,fun g hg hk=>?_⟩
  have h1:=(List.findIdx?_eq_none_iff.1 hf) (toI g) (List.mem_map_of_mem hg)
  have h2:¬ (l[g.1]? = some true/\l[g.2]? = some false):=fun h=>by rw [(hd g hg).2 h] at h1;cases h1
  have hg2:g.2 < l.length:=by have:=hb g hg;omega
  have e1:l[g.2]? = some l[g.2]:=List.getElem?_eq_getElem hg2
  rw [e1] at h2 ⊢
  cases hx:l[g.2] with
  | true=>rfl
  | false=>exact absurd ⟨hk,by rw [hx]⟩ h2
 | some k=>
  right
  obtain ⟨hi,hp,_⟩:=List.findIdx?_eq_some_iff_getElem.1 hf
  have hi':k < gn.length:=by simpa using hi
  have hp':DQ l (toI gn[k])=true:=by simpa using hp
  exact ⟨k,hi',rfl,(hd _ (List.getElem_mem hi')).1 hp'⟩
theorem IW (n who:Nat) (hn:n<=6) (hw:who < n) (v:Value) (gn:List (Nat × Nat)) (w:World) (hv:Az w v (gn.map toI)) (hlen:gn.length<=20) (hb:∀ g∈gn,g.1 < n/\g.2 < n) :
  Calls Tryz.prog 127 #[zh #[U zd n,v],U zd who] w fun e w'=>∃ kb,w.heap.size<=kb/\kb < w'.heap.size/\e=zk (O (some ⟨kb,0,none⟩) n n)/\Cr w' kb (acts gn n who)/\Ov w w':=by
 have hmk:=fun w=>DD n hn w
 have hst:Ea w n v (start n who) (((w.alloc (Obj.cells #[Value.int IntKind.i64 n,v] 24)).alloc (Obj.cells ((Array.replicate n (Value.bool false)).setIfInBounds who (Value.bool true)) 4)).alloc (Obj.cells #[Value.slice (some { block:=w.heap.size+1,off:=0 }) n n] 48)):=by
  refine ⟨by simp [go_sem],by simp [go_sem],by simp [go_sem],fun i hi=>?_,?_⟩
  ·have hi':i < n:=by simpa [start] using hi
   refine ⟨?_,by simp [go_sem]⟩
   simp [go_sem,start,List.getElem_set,hi']
   by_cases e:who=i
   ·simp [e]
   ·simp [e,hi']
  ·exact ((bA w _).alloc (by simp) _).alloc (by simp;omega) _
 have HI:=Aa (Gl hn hst (Cx n who) hv hlen hb)
 clear hst
 go_enter Tryz.func127,Tryz.ntmps127
 go_wp2_with fail
 refine (HI.o).mono ?_
 rintro e w1 ⟨rfl,hst⟩
 clear HI hmk
 go_wp2_with fail
 go_loopw [7] (fun i wr=>∃ l:List Bool,l.length=n/\De gn who l/\i=U zd (Dr (DQ l) (gn.map toI))/\Ea w n v l wr) (fun _ wr=>Hp (w.heap.size+1) n wr)
 case atStart=>exact ⟨_,Cx n who,DW gn hw,rfl,hst⟩
 case round=>
  obtain ⟨l,hl,hsd,rfl,hst2⟩:=hrel
  clear hst
  rcases Le l gn n hl hb with ⟨hi,hcl⟩ | ⟨k,hk,hi,hkt,hkf⟩
  ·have he:l=acts gn n who:=MB hw (fun g hg=>(hb g hg).2) hl hsd hcl
   rw [hi]
   obtain ⟨s0,s1,s2,s3,s4⟩:=hst2
   have hz:=bL s2
   have hz':w.heap.size+1 < wr.heap.size:=by have:w.heap.size+1+1 < wr.heap.size:=hz;omega
   rw [he] at s3
   clear hcl hsd he hi
   go_wp2_with fail
   go_ret
   exact ⟨w.heap.size+1,by omega,hz',rfl,s3,s4⟩
  ·obtain ⟨hg1,hg2⟩:=hb _ (List.getElem_mem hk)
   have hs1:=hst2
   obtain ⟨s0,s1,s2,s3,s4⟩:=hst2
   obtain ⟨ao,cap,hve,hcc⟩:=hv
   rw [List.length_map] at hve
   subst hve
   obtain ⟨b,off,rfl,hcl⟩:=hcc (by intro h;rw [List.map_eq_nil_iff] at h;rw [h] at hk;simp at hk)
   obtain ⟨q0,q1⟩:=hcl k (by simpa using hk)
   have hlt:=bL q0
   rw [<-(Al s4).1 _ _ hlt] at q0 q1
   simp only [List.getElem_map,toI] at q0 q1
   obtain ⟨d1,d2⟩:=s3 gn[k].2 (by omega)
   have hfal:l[gn[k].2]=false:=by have:=hkf;rw [List.getElem?_eq_getElem (by omega)] at this;exact Option.some.inj this
   rw [hfal] at d1
   obtain ⟨gw,hgw⟩:=nm (gn[k].1)
   obtain ⟨gf,hgf⟩:=nm (gn[k].2)
   simp only [<-hgw,<-hgf] at q0 q1 d1 d2 hg1 hg2 hkt hkf hfal
   rw [hi]
   have hset:=K7 (w:=wr.drew) s3 (j:=gf) (by omega) true
   have hsn:De gn who (l.set gf true):=by rw [hgf];exact GA hsd (List.getElem_mem hk) (by rw [<-hgw];exact hkt)
   have hln:(l.set gf true).length=n:=by simpa using hl
   have hlm:Hp (w.heap.size+1) n wr=l.count false:=by rw [<-hl];exact GM s3
   have hct:=Fx (l:=l) (j:=gf) (by omega) hfal
   have hst3:Ea w n (O (some ⟨b,off,none⟩) gn.length cap) (l.set gf true) (wr.drew.setCell ⟨w.heap.size+1,gf,none⟩ (zg true)):=by
    refine ⟨?_,?_,?_,hset,(below_drewN s4 1).setCell (by simp) _⟩
    ·rw [World.cell?_setCell_other _ _ _ _ (by simp)];exact s0
    ·rw [World.cell?_setCell_other _ _ _ _ (by simp)];exact s1
    ·rw [World.cell?_setCell_other _ _ _ _ (by simp)];exact s2
   have hv':Az w (O (some ⟨b,off,none⟩) gn.length cap) (gn.map toI):=⟨_,_,by rw [List.length_map],hcc⟩
   have HI:=Aa (Gl hn hst3 hln hv' hlen hb)
   obtain ⟨t0,t1,t2,-,-⟩:=hst3
   have HS:=Aa hsn
   clear hcl hcc hset hsn hsd hs1 hv' s3 hkt hkf hfal hgw hgf hb q0
   go_wp2_with fail
   go_region
   go_wp2_with fail
   refine (HI.o).mono ?_
   rintro e w2 ⟨rfl,hst4⟩
   clear HI
   go_wp2_with fail
   refine ⟨⟨l.set gf true,hln,HS.o,rfl,hst4⟩,?_⟩
   have h1:=GM hst4.2.2.2.1
   rw [hln] at h1
   omega
def AD (gs:List (Int × Int)):List (Nat × Nat):=gs.map fun g=>(g.1.toNat,g.2.toNat)
theorem D5 {m:Int} {gs:List (Int × Int)} (h:AU m gs=0):∃ n:Nat,m=n/\1<=n/\n<=6/\(AD gs).map toI=gs/\(AD gs).length<=20/\∀ g∈AD gs,g.1 < n/\g.2 < n:=by
 unfold AU at h
 split at h
 ·split at h
  ·split at h
   ·cases h
   ·rename_i hm hl hb
    have hb':∀ g∈gs,BJ m g.1=true/\BJ m g.2=true:=fun g hg=>by
     have h1:¬ Gj m g=true:=fun hh=>hb (List.any_eq_true.2 ⟨g,hg,hh⟩)
     simp [Gj] at h1
     exact h1
    refine ⟨m.toNat,by omega,by omega,by omega,?_,by simpa [AD] using hl,fun g hg=>?_⟩
    ·unfold AD
     rw [List.map_map]
     conv=>rhs;rw [<-List.map_id gs]
     apply List.map_congr_left
     intro g hg
     obtain ⟨h1,h2⟩:=hb' g hg
     simp [BJ] at h1 h2
     simp only [Function.comp,toI,id]
     ext <;> simp <;> omega
    ·obtain ⟨g',hg',rfl⟩:=List.mem_map.1 hg
     obtain ⟨h1,h2⟩:=hb' g' hg'
     simp [BJ] at h1 h2
     simp only
     omega
  ·cases h
 ·cases h
theorem Tryz.info35:(Tryz.prog.info? 48).map (fun i=>(i.zero,i.size,i.bytes))=some (some (O none 0 0),1,24):=by kernel_rfl
theorem OB (n:Nat) (hn:n<=6) (w:World):(Instr.makeSlice 137 (U zd n) (U zd n)).run Tryz.prog w=.ok (O (some ⟨w.heap.size,0,none⟩) n n) (w.alloc (.cells (List.replicate n (Value.slice none 0 0)).toArray 48)):=by
 cases hi:Tryz.prog.info? 48 with
 | none=>have:=Tryz.info35;rw [hi] at this;cases this
 | some i=>
  have h4:=Tryz.info35
  rw [hi] at h4
  simp only [Option.map_some,Option.some.injEq,Prod.mk.injEq] at h4
  obtain ⟨hz,h1,h2⟩:=h4
  have:=run_make (P:=Tryz.prog) w 137 48 i (O none 0 0) Tryz.underlying137 hi hz zd zd (n:Int) (n:Int) (by omega) (by omega) (by rw [h2];omega) (by omega)
  rw [this,h1]
  simp only [Int.toNat_natCast,Nat.mul_one]
  have e:madeCells (Value.slice none 0 0).cells n=(List.replicate n (Value.slice none 0 0)).toArray:=by
   apply Array.ext
   ·simp [madeCells]
   ·intro j h1 h2
    simp [madeCells,Value.cells,Nat.mod_one]
  rw [e]
def CL (W:World) (ob n:Nat) (gn:List (Nat × Nat)) (k:Nat):Prop:=∀ i,i < k->∃ kb,kb≠ob/\W.cell? ⟨ob,i,none⟩=some (O (some ⟨kb,0,none⟩) n n)/\Cr W kb (acts gn n i)
theorem Ed {W W':World} {ob n k:Nat} {gn:List (Nat × Nat)} (h:CL W ob n gn k) (hb:Ov W W'):CL W' ob n gn k:=fun i hi=>by
 obtain ⟨kb,h1,h2,h3⟩:=h i hi
 exact ⟨kb,h1,by rw [(Al hb).1 _ _ (bL h2)];exact h2,FZ h3 hb⟩
theorem Fp {w:World} {kb:Nat} {l:List Bool} (h:Cr w kb l) {p:Addr} (hp:p.block≠kb) (u:Value):Cr (w.setCell p u) kb l:=fun i hi=>by
 obtain ⟨h1,h2⟩:=h i hi
 refine ⟨?_,?_⟩
 ·rw [World.cell?_setCell_other _ _ _ _ (by intro h;exact hp (by rw [h]))]
  exact h1
 ·rw [World.frozen?_setCell]
  exact h2
theorem LX {W:World} {ob n k kb:Nat} {gn:List (Nat × Nat)} (h:CL W ob n gn k) {u:Value} (hu:W.cell? ⟨ob,k,none⟩=some u) (hkb:kb≠ob) (hk:Cr W kb (acts gn n k)) :
  CL (W.setCell ⟨ob,k,none⟩ (O (some ⟨kb,0,none⟩) n n)) ob n gn (k+1):=fun i hi=>by
 by_cases e:i=k
 ·subst e
  exact ⟨kb,hkb,World.cell?_setCell_same _ _ _ hu,Fp hk (fun h=>hkb h.symm) _⟩
 ·obtain ⟨kc,h1,h2,h3⟩:=h i (by omega)
  refine ⟨kc,h1,?_,Fp h3 (fun h=>h1 h.symm) _⟩
  rw [World.cell?_setCell_other _ _ _ _ (by intro h;injection h with _ h;exact e h.symm)]
  exact h2
def IY (W:World) (ob n:Nat):Prop:=∀ i,i < n->(∃ u,W.cell? ⟨ob,i,none⟩=some u)/\W.frozen? ⟨ob,i,none⟩=false
theorem I1 {W W':World} {ob n:Nat} (h:IY W ob n) (hb:Ov W W'):IY W' ob n:=fun i hi=>by
 obtain ⟨⟨u,h1⟩,h2⟩:=h i hi
 have hlt:=bL h1
 exact ⟨⟨u,by rw [(Al hb).1 _ _ hlt];exact h1⟩,by rw [(Al hb).2 _ _ hlt];exact h2⟩
theorem Kn {W:World} {ob n k:Nat} (h:IY W ob n) (hk:k < n) (v:Value):IY (W.setCell ⟨ob,k,none⟩ v) ob n:=fun i hi=>by
 obtain ⟨⟨u,h1⟩,h2⟩:=h i hi
 refine ⟨?_,by rw [World.frozen?_setCell];exact h2⟩
 by_cases e:k=i
 ·subst e
  exact ⟨v,World.cell?_setCell_same _ _ _ h1⟩
 ·exact ⟨u,by rw [World.cell?_setCell_other _ _ _ _ (by intro h;injection h with _ h;exact e h)];exact h1⟩
def GU (w:World) (n:Nat) (v:Value) (gn:List (Nat × Nat)) (ob k:Nat) (W:World):Prop:=
 W.cell? ⟨w.heap.size,0,none⟩=some (U zd n)/\W.cell? ⟨w.heap.size,1,none⟩=some v/\IY W ob n/\CL W ob n gn k/\Ov w W/\w.heap.size < ob/\ob < W.heap.size
theorem GU.over {w W W':World} {n ob k:Nat} {v:Value} {gn:List (Nat × Nat)} (h:GU w n v gn ob k W) (hb:Ov W W'):GU w n v gn ob k W':=by
 obtain ⟨h0,h1,h2,h3,h4,h5,h6⟩:=h
 obtain ⟨hc,hf⟩:=Al hb
 refine ⟨?_,?_,I1 h2 hb,Ed h3 hb,h4.trans (hb.mono h4.size),h5,Nat.lt_of_lt_of_le h6 hb.size⟩
 ·rw [hc _ _ (bL h0)];exact h0
 ·rw [hc _ _ (bL h1)];exact h1
theorem Mn (n:Nat) (h1:1<=n) (hn:n<=6) (v:Value) (gn:List (Nat × Nat)) (w:World) (hv:Az w v (gn.map toI)) (hlen:gn.length<=20) (hb:∀ g∈gn,g.1 < n/\g.2 < n) (hE:AU n (gn.map toI)=0) :
  Calls Tryz.prog 69 #[zh #[U zd n,v]] w fun e w'=>∃ ob,e=zk (zm #[O (some ⟨ob,0,none⟩) n n,U zd 0])/\CL w' ob n gn n/\Ov w w':=by
 have hmk:=fun w=>OB n hn w
 have hbel:Ov w (w.alloc (ze #[U zd n,v] 24)):=bA w _
 have hC:=check_any n v (gn.map toI) (w.alloc (ze #[U zd n,v] 24)) (Af hv hbel)
 rw [hE] at hC
 have HC:=Aa hC
 have HA:=Aa fun (who:Nat) (hw:who < n) (W:World) (hW:Ov w W)=>IW n who hn hw v gn W (Af hv hW) hlen hb
 clear hC hE hv
 go_enter Tryz.func69,Tryz.ntmps69
 go_wp2_with fail
 refine (HC.o).mono ?_
 rintro e w1 ⟨rfl,hb1⟩
 obtain ⟨hc,hf⟩:=Al hb1
 have c0:w1.cell? ⟨w.heap.size,0,none⟩=some (U zd n):=by rw [hc _ _ (by simp)];simp [go_sem]
 have c1:w1.cell? ⟨w.heap.size,1,none⟩=some v:=by rw [hc _ _ (by simp)];simp [go_sem]
 have hbel1:Ov w w1:=hbel.trans (hb1.mono (by simp))
 have hz:w.heap.size < w1.heap.size:=bL c0
 have hst:GU w n v gn w1.heap.size 0 (w1.alloc (.cells (List.replicate n (Value.slice none 0 0)).toArray 48)):=by
  have hal:Ov w1 (w1.alloc (.cells (List.replicate n (Value.slice none 0 0)).toArray 48)):=bA w1 _
  refine ⟨?_,?_,fun i hi=>⟨⟨O none 0 0,by simp [go_sem,hi]⟩,by simp [go_sem]⟩,fun i hi=>absurd hi (Nat.not_lt_zero _),hbel1.trans (hal.mono (by omega)),hz,by simp⟩
  ·rw [(Al hal).1 _ _ hz];exact c0
  ·rw [(Al hal).1 _ _ hz];exact c1
 clear HC hc hf hb1 hbel
 go_wp2_with fail
 go_loopw [17] (fun i wr=>∃ k:Nat,k<=n/\i=U zd k/\GU w n v gn w1.heap.size k wr) (fun i _=>n - (intOf i).toNat)
 case atStart=>exact ⟨0,Nat.zero_le _,rfl,by simpa using hst⟩
 case round=>
  clear hst hmk c0 c1
  obtain ⟨k,hk,rfl,hs1⟩:=hrel
  by_cases hkn:k < n
  ·have HS:=Aa hs1
   obtain ⟨s0,s1,-,-,s4,-,s6⟩:=hs1
   go_wp2_with fail
   refine (HA.o k hkn _ s4).mono ?_
   rintro e w2 ⟨kb,hkb,hkb2,rfl,hkn2,hb2⟩
   have hs2:=HS.o.over hb2
   clear s0 s1 s4
   obtain ⟨⟨u,d1⟩,d2⟩:=hs2.2.2.1 k hkn
   have hne:kb≠w1.heap.size:=by omega
   have hs3:GU w n v gn w1.heap.size (k+1) (w2.setCell ⟨w1.heap.size,k,none⟩ (O (some ⟨kb,0,none⟩) n n)):=by
    obtain ⟨r0,r1,r2,r3,r4,r5,r6⟩:=hs2
    refine ⟨?_,?_,Kn r2 hkn _,LX r3 d1 hne hkn2,r4.setCell (by simp;omega) _,r5,by simpa using r6⟩
    ·rw [World.cell?_setCell_other _ _ _ _ (by simp)];exact r0
    ·rw [World.cell?_setCell_other _ _ _ _ (by simp)];exact r1
   clear hs2 HS hkn2
   go_wp2_with fail
   exact ⟨⟨k+1,by omega,by go_num,hs3⟩,by simp [intOf];omega⟩
  ·have hke:k=n:=by omega
   subst hke
   obtain ⟨-,-,-,s3,s4,-,-⟩:=hs1
   go_wp2_with fail
   go_ret2
   exact ⟨w1.heap.size,rfl,s3,s4⟩
end Go.Proofs.YtfffpjkcfnekaaaGreat
