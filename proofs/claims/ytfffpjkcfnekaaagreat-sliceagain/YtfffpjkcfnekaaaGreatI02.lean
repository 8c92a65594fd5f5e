/- Plain: who acts for whom: the least set that holds one and goes on along the grants; found by growing it one by one, or by going over all grants again and again. -/
import Derived.RowKit
import Derived.Test.YtfffpjkcfnekaaaGreatI01
import Derived.WalkKit
import Derived.WalkSpells
import Derived.WalkLawsBesides
import Derived.Laws.MakeOwn
import Derived.WalkSmall
import Derived.Deep.RegionHeld3
import Derived.Deep.CutRange
set_option linter.unusedVariables false
set_option maxHeartbeats 8000000
set_option maxRecDepth 100000
namespace Go.Proofs.YtfffpjkcfnekaaaGreat
open Go.RowKit
open Go.Value renaming slice -> O, int -> zd, bool -> zg, agg -> zh, pointer -> zj, tuple -> zm
open Go.IntKind renaming i64 -> U
open Go.Obj renaming cells -> ze
open Go.Ending renaming returned -> zk
def Reach (gs:List (Nat × Nat)) (w k:Nat):Prop:=∀ S:Nat->Prop,S w->(∀ g∈gs,S g.1->S g.2)->S k
theorem Le (gs:List (Nat × Nat)) (w:Nat):Reach gs w w:=fun _ h _=>h
theorem Ld {gs:List (Nat × Nat)} {w:Nat} {g:Nat × Nat} (hg:g∈gs) (h:Reach gs w g.1):Reach gs w g.2:=fun S h0 hS=>hS g hg (h S h0 hS)
def Du (gs:List (Nat × Nat)) (w:Nat) (l:List Bool):Prop:=l[w]? = some true/\∀ k:Nat,l[k]? = some true->Reach gs w k
def D7 (gs:List (Nat × Nat)) (l:List Bool):Prop:=∀ g∈gs,l[g.1]? = some true->l[g.2]? = some true
theorem Ic {gs:List (Nat × Nat)} {w:Nat} {l:List Bool} {g:Nat × Nat} (h:Du gs w l) (hg:g∈gs) (hk:l[g.1]? = some true):Du gs w (l.set g.2 true):=by
 refine ⟨?_,fun k b=>?_⟩
 ·rw [List.getElem?_set]
  split
  ·split
   ·rfl
   ·rename_i e d
    subst e;have c:=h.1;rw [List.getElem?_eq_none (by omega)] at c;cases c
  ·exact h.1
 ·rw [List.getElem?_set] at b
  split at b
  ·rename_i e
   subst e;exact Ld hg (h.2 _ hk)
  ·exact h.2 k b
theorem Iu {gs:List (Nat × Nat)} {w:Nat} {l:List Bool} (h:Du gs w l) (hc:D7 gs l) (k:Nat):l[k]? = some true ↔ Reach gs w k:=
 ⟨fun e=>h.2 k e,fun hr=>hr (fun k=>l[k]? = some true) h.1 hc⟩
theorem Nh {gs:List (Nat × Nat)} {w:Nat} {l m:List Bool} (h:Du gs w l) (hc:D7 gs l) (h2:Du gs w m) (hc2:D7 gs m) (hl:l.length=m.length):l=m:=by
 apply List.ext_getElem?;intro k;have e:=(Iu h hc k).trans (Iu h2 hc2 k).symm;by_cases hk:k < l.length
 ·have b:k < m.length:=by omega
  rw [List.getElem?_eq_getElem hk,List.getElem?_eq_getElem b] at e ⊢;simp only [Option.some.injEq] at e ⊢;exact Bool.eq_iff_iff.2 e
 ·rw [List.getElem?_eq_none (by omega),List.getElem?_eq_none (by omega)]
def DH (l:List Bool) (g:Nat × Nat):List Bool:=if l[g.1]? = some true then l.set g.2 true else l
def H5 (gs:List (Nat × Nat)) (l:List Bool):List Bool:=gs.foldl DH l
theorem IZ (l:List Bool) (g:Nat × Nat):(DH l g).length=l.length:=by
 unfold DH;split <;> simp
theorem JI (gs:List (Nat × Nat)) (l:List Bool):(H5 gs l).length=l.length:=by
 unfold H5
 induction gs generalizing l with
 | nil=>rfl
 | cons g gs ih=>rw [List.foldl_cons,ih,IZ]
theorem Jz (l:List Bool) (g:Nat × Nat):DH l g=l\/l.count true < (DH l g).count true:=by
 unfold DH;split
 ·by_cases h:g.2 < l.length
  ·by_cases hb:l[g.2]=true
   ·left
    rw [<-hb];exact List.set_getElem_self h
   ·right
    have b:l[g.2]=false:=by simpa using hb
    rw [List.count_set h];rw [b];simp
  ·left
   exact List.set_eq_of_length_le (by omega)
 ·exact Or.inl rfl
theorem Lh (gs:List (Nat × Nat)) (l:List Bool):(H5 gs l=l/\∀ g∈gs,DH l g=l)\/l.count true < (H5 gs l).count true:=by
 unfold H5
 induction gs generalizing l with
 | nil=>exact Or.inl ⟨rfl,by simp⟩
 | cons g gs ih=>
  rw [List.foldl_cons];rcases Jz l g with h | h
  ·rw [h]
   rcases ih l with ⟨h1,c⟩ | h1
   ·left
    refine ⟨h1,fun d b=>?_⟩;rcases List.mem_cons.1 b with rfl | b
    ·exact h
    ·exact c d b
   ·exact Or.inr h1
  ·right
   rcases ih (DH l g) with ⟨h1,_⟩ | h1
   ·rw [h1];exact h
   ·omega
theorem Gr {gs:List (Nat × Nat)} {l:List Bool} (hb:∀ g∈gs,g.2 < l.length) (h:∀ g∈gs,DH l g=l):D7 gs l:=fun g hg hk=>by
 have:=h g hg;unfold DH at this;rw [if_pos hk] at this;rw [<-this,List.getElem?_set_self (hb g hg)]
theorem Lf {gs hs:List (Nat × Nat)} {w:Nat} {l:List Bool} (h:Du gs w l) (hm:∀ g∈hs,g∈gs):Du gs w (H5 hs l):=by
 unfold H5
 induction hs generalizing l with
 | nil=>exact h
 | cons g hs ih=>
  rw [List.foldl_cons];refine ih ?_ fun c b=>hm c (List.mem_cons_of_mem _ b);unfold DH;split
  ·rename_i hk
   exact Ic h (hm g (by simp)) hk
  ·exact h
def Ce (gs:List (Nat × Nat)):Nat->List Bool->List Bool
 | 0,l=>l
 | n+1,l=>H5 gs (Ce gs n l)
theorem DE (gs:List (Nat × Nat)) (n:Nat) (l:List Bool):(Ce gs n l).length=l.length:=by
 induction n with
 | zero=>rfl
 | succ n ih=>rw [Ce,JI,ih]
theorem I4 {gs:List (Nat × Nat)} {w n:Nat} {l:List Bool} (h:Du gs w l):Du gs w (Ce gs n l):=by
 induction n with
 | zero=>exact h
 | succ n ih=>exact Lf ih fun _ h=>h
theorem I5 (gs:List (Nat × Nat)) (n:Nat) (l:List Bool) (hb:∀ g∈gs,g.2 < l.length):D7 gs (Ce gs n l)\/l.count true+n<=(Ce gs n l).count true:=by
 induction n with
 | zero=>right;simp [Ce]
 | succ n ih=>
  rw [Ce];have c:∀ g∈gs,g.2 < (Ce gs n l).length:=by rw [DE];exact hb
  rcases Lh gs (Ce gs n l) with ⟨h1,h⟩ | h1
  ·left
   rw [h1];exact Gr c h
  ·rcases ih with ih | ih
   ·left
    have b:∀ g∈gs,DH (Ce gs n l) g=Ce gs n l:=fun g e=>by
     unfold DH;split
     ·rename_i hk
      have:=ih g e hk;obtain ⟨hl,f⟩:=List.getElem?_eq_some_iff.1 this;rw [<-f];exact List.set_getElem_self hl
     ·rfl
    have:H5 gs (Ce gs n l)=Ce gs n l:=by
     generalize Ce gs n l=m at b;unfold H5;clear h1 ih hb c
     induction gs with
     | nil=>rfl
     | cons g gs ih2=>
      rw [List.foldl_cons,b g (by simp)];exact ih2 fun i d=>b i (List.mem_cons_of_mem _ d)
    rw [this];exact ih
   ·right;omega
theorem H4 {gs:List (Nat × Nat)} {w:Nat} {l:List Bool} (h:Du gs w l) (hb:∀ g∈gs,g.2 < l.length):D7 gs (Ce gs l.length l):=by
 rcases I5 gs l.length l hb with h1 | h1
 ·exact h1
 ·have b:=List.count_le_length (a:=true) (l:=Ce gs l.length l)
  rw [DE] at b;have c:0 < l.count true:=List.count_pos_iff.2 (List.mem_of_getElem? h.1);omega
def start (n w:Nat):List Bool:=(List.replicate n false).set w true
theorem Eg (gs:List (Nat × Nat)) {n w:Nat} (h:w < n):Du gs w (start n w):=by
 unfold start;refine ⟨by rw [List.getElem?_set_self (by simpa using h)],fun k hk=>?_⟩;rw [List.getElem?_set] at hk;split at hk
 ·rename_i e;subst e;exact Le _ _
 ·rw [List.getElem?_replicate] at hk
  split at hk <;> cases hk
def acts (gs:List (Nat × Nat)) (n w:Nat):List Bool:=Ce gs n (start n w)
theorem CR (n w:Nat):(start n w).length=n:=by simp [start]
theorem BW (gs:List (Nat × Nat)) (n w:Nat):(acts gs n w).length=n:=by rw [acts,DE,CR]
theorem Mc (gs:List (Nat × Nat)) {n w:Nat} (h:w < n):Du gs w (acts gs n w):=I4 (Eg gs h)
theorem Ku {gs:List (Nat × Nat)} {n w:Nat} (h:w < n) (hb:∀ g∈gs,g.2 < n):D7 gs (acts gs n w):=by
 have:=H4 (gs:=gs) (Eg gs h) (by rw [CR];exact hb);rw [CR] at this;exact this
theorem Pw {gs:List (Nat × Nat)} {n w:Nat} (h:w < n) (hb:∀ g∈gs,g.2 < n) {l:List Bool} (hl:l.length=n) (h1:Du gs w l) (h2:D7 gs l):l=acts gs n w:=
 Nh h1 h2 (Mc gs h) (Ku h hb) (by rw [hl,BW])
theorem Aa {p:Prop} (h:p):Hx p:=h
theorem Am {W w1:World} (hb:Ov W w1):(∀ b o,b < W.heap.size->w1.cell? ⟨b,o,none⟩=W.cell? ⟨b,o,none⟩)/\(∀ b o,b < W.heap.size->w1.frozen? ⟨b,o,none⟩=W.frozen? ⟨b,o,none⟩):=
 ⟨fun b o h=>hb.cell (p:=⟨b,o,none⟩) h,fun b o h=>hb.frozen (p:=⟨b,o,none⟩) h⟩
def A9 (m x:Int):Bool:=decide (0<=x/\x < m)
theorem Iw (m x:Int) (s:Value) (w:World) :
  Calls Tryz.prog 168 #[zh #[zd U m,s],zd U x] w fun e w'=>e=zk (zg (A9 m x))/\Ov w w':=by
 have b:Ov w (w.alloc (ze #[zd U m,s] 24)):=bA w _;by_cases h1:(0:Int)<=x
 ·by_cases h2:x < m
  ·go_enter Tryz.func168,Tryz.ntmps168
   go_wp2
   go_ret;exact ⟨by simp [A9];omega,b⟩
  ·go_enter Tryz.func168,Tryz.ntmps168
   go_wp2
   go_ret;exact ⟨by simp [A9];omega,b⟩
 ·go_enter Tryz.func168,Tryz.ntmps168
  go_wp2
  go_ret;exact ⟨by simp [A9];omega,b⟩
theorem CQ (x a b:Int) (w:World) :
  Calls Tryz.prog 76 #[zd U x,zd U a,zd U b] w fun e w'=>e=zk (zg (decide (a<=x/\x<=b)))/\w'=w:=by
 by_cases h1:a<=x
 ·by_cases h2:x<=b
  ·go_enter Tryz.func76,Tryz.ntmps76
   go_wp2
   go_ret;exact ⟨by simp;omega,rfl⟩
  ·go_enter Tryz.func76,Tryz.ntmps76
   go_wp2
   go_ret;exact ⟨by simp;omega,rfl⟩
 ·go_enter Tryz.func76,Tryz.ntmps76
  go_wp2
  go_ret;exact ⟨by simp;omega,rfl⟩
theorem Dy (m x:Int) (hm:1<=m/\m<=6) (s:Value) (w:World) :
  Calls Tryz.prog 25 #[zh #[zd U m,s],zd U x] w fun e w'=>e=zk (zg (A9 m x))/\Ov w w':=by
 have c:Ov w (w.alloc (ze #[zd U m,s] 24)):=bA w _;go_enter Tryz.func25,Tryz.ntmps25;go_wp2_with fail;refine (CQ x 0 (m - 1) _).mono ?_;rintro e w' ⟨rfl,rfl⟩;go_wp2_with fail;go_ret;exact ⟨congrArg (fun b=>Ending.returned (zg b)) (by rw [Bool.eq_iff_iff];simp [A9];omega),c⟩
def AB (w:World) (v:Value) (gs:List (Int × Int)):Prop:=
 ∃ ao cap,v=O ao gs.length cap/\(gs≠[]->∃ b off,ao=some ⟨b,off,none⟩/\∀ i (h:i < gs.length),w.cell? ⟨b,off+i*2,none⟩=some (zd U gs[i].1)/\w.cell? ⟨b,off+i*2+1,none⟩=some (zd U gs[i].2))
theorem Aj {w w':World} {v:Value} {gs:List (Int × Int)} (h:AB w v gs) (hb:Ov w w'):AB w' v gs:=by
 obtain ⟨q,f,rfl,l⟩:=h;refine ⟨q,f,rfl,fun d=>?_⟩;obtain ⟨b,off,rfl,e⟩:=l d;refine ⟨b,off,rfl,fun i k=>?_⟩;obtain ⟨g,p⟩:=e i k;have c:=bL g;exact ⟨by rw [(Am hb).1 _ _ c];exact g,by rw [(Am hb).1 _ _ c];exact p⟩
def DM (p:Int × Int->Bool) (gs:List (Int × Int)):Int:=match gs.findIdx? p with | some i=>i | none=>-1
theorem O5 {p:Int × Int->Bool} {gs:List (Int × Int)} {k:Nat} (hk:k < gs.length) (h:(gs.take k).all (fun g=>!p g)=true) (hp:p gs[k]=true):DM p gs=k:=by
 have:gs.findIdx? p=some k:=by
  rw [List.findIdx?_eq_some_iff_getElem];refine ⟨hk,hp,fun j b=>?_⟩;have:=List.all_eq_true.1 h gs[j] (by rw [List.mem_take_iff_getElem];exact ⟨j,by omega,rfl⟩);simpa using this
 simp [DM,this]
theorem LA {p:Int × Int->Bool} {gs:List (Int × Int)} (h:gs.all (fun g=>!p g)=true):DM p gs=-1:=by
 have:gs.findIdx? p=none:=by
  rw [List.findIdx?_eq_none_iff];intro x b;have:=List.all_eq_true.1 h x b;simpa using this
 simp [DM,this]
theorem EY (F:FuncId) (cv:Value) (p:Int × Int->Bool) (v:Value) (gs) (w:World) (hv:AB w v gs) (hn:gs.length<=20)
  (hF:Hx (∀ (i:Nat) (h:i < gs.length) (w1:World),Ov w w1->Calls Tryz.prog F #[zh #[zd U gs[i].1,zd U gs[i].2],cv] w1 fun e w2=>e=zk (zg (p gs[i]))/\Ov w1 w2))
  (hC:∀ (args:Array Value) (w:World),(callFunc F args).run Tryz.prog w=.ok (.enter F args) w) :
  Calls Tryz.prog 193 #[v,.func (.func F) #[] #[cv]] w fun e w'=>e=zk (zd U (DM p gs))/\Ov w w':=by
 obtain ⟨Q,L,rfl,s⟩:=hv;go_enter Tryz.func193,Tryz.ntmps193;go_wp2_with fail;go_loopw [8] (fun i wr=>∃ k:Nat,k<=gs.length/\i=zd U k/\(gs.take k).all (fun g=>!p g)=true/\Ov w wr) (fun i _=>gs.length - (intOf i).toNat)
 case atStart=>exact ⟨0,Nat.zero_le _,rfl,rfl,Below.refl _ w⟩
 case round=>
  obtain ⟨k,hk,rfl,f,c⟩:=hrel;by_cases hkl:k < gs.length
  ·obtain ⟨b,off,rfl,A⟩:=s (by rintro rfl;simp at hkl)
   obtain ⟨B,H⟩:=A k hkl;have E:=bL B;rw [<-(Am c).1 _ _ E] at B H;have d:=hF.o k hkl;have u:=fun (C:p gs[k]=true)=>O5 hkl f C;have q:p gs[k]=false->(gs.take (k+1)).all (fun g=>!p g)=true:=fun C=>by
    rw [List.take_succ_eq_append_getElem hkl,List.all_append,f];simp [C]
   obtain ⟨r,I⟩:=nm (p gs[k]);obtain ⟨P,z⟩:=nm (gs[k].1);obtain ⟨O,y⟩:=nm (gs[k].2);rw [<-I] at d u q;rw [<-z] at B d;rw [<-y] at H d;have J:=Aa d;have N:=Aa u;have M:=Aa q;clear I z y d u q A s hF
   cases r with
   | true=>
    go_wp2_with fail;refine (J.o _ c).mono ?_;rintro e w2 ⟨rfl,t⟩;have l:Ov w w2:=c.trans (t.mono c.size);go_wp2_with fail;go_ret;exact ⟨by rw [N.o (by first | rfl | trivial)];rfl,l⟩
   | false=>
    go_wp2_with fail;refine (J.o _ c).mono ?_;rintro e w2 ⟨rfl,t⟩;have l:Ov w w2:=c.trans (t.mono c.size);go_wp2_with fail;exact ⟨⟨k+1,by omega,by go_num,M.o (by first | rfl | trivial),l⟩,by simp [intOf];omega⟩
  ·have G:k=gs.length:=by omega
   rw [G,List.take_length] at f;have K:=LA f;clear f s hF;go_wp2_with fail;go_ret;exact ⟨by rw [K];rfl,c⟩
def ES (m:Int) (g:Int × Int):Bool:=!A9 m g.1 || !A9 m g.2
def AN (m:Int) (gs:List (Int × Int)):Int:=if 1<=m/\m<=6 then (if gs.length<=20 then (if gs.any (ES m)=true then 5 else 0) else 2) else 3
theorem R1 (args:Array Value) (w:World):(callFunc 167 args).run Tryz.prog w=.ok (.enter 167 args) w:=by simp [go_sem]
theorem R0 (args:Array Value) (w:World):(callFunc 192 args).run Tryz.prog w=.ok (.enter 192 args) w:=by simp [go_sem]
theorem LV (m:Int) (s:Value) (b:Nat) (g:Int × Int) (w:World) (h0:w.cell? ⟨b,0,none⟩=some (zd U m)) (h1:w.cell? ⟨b,1,none⟩=some s) :
  Calls Tryz.prog 167 #[zh #[zd U g.1,zd U g.2],zj (some ⟨b,0,none⟩)] w fun e w'=>e=zk (zg (ES m g))/\Ov w w':=by
 obtain ⟨y,u⟩:=g;have f:=bL h0;have I:b≠w.heap.size:=by have:b < w.heap.size:=f;omega
 simp only;have C:=fun w=>Iw m y s w;have B:=fun w=>Iw m u s w;obtain ⟨E,p⟩:=nm (A9 m y);obtain ⟨H,l⟩:=nm (A9 m u);have k:ES m (y,u)=(!E || !H):=by rw [p,l];rfl
 rw [<-p] at C;rw [<-l] at B;rw [k];have F:=Aa C;have K:=Aa B;clear C B p l k;have h:Ov w (w.alloc (ze #[zd U y,zd U u] 169)):=bA w _
 cases E with
 | true=>
  go_enter Tryz.func167,Tryz.ntmps167;go_wp2_with fail;refine (F.o _).mono ?_;rintro e t ⟨rfl,d⟩;obtain ⟨z,J⟩:=Am d;have i:b < (w.alloc (ze #[zd U y,zd U u] 169)).heap.size:=by simp;exact Nat.lt_succ_of_lt f
  have c0:t.cell? ⟨b,0,none⟩=some (zd U m):=by rw [z _ _ i,(Am h).1 _ _ f];exact h0
  have c1:t.cell? ⟨b,1,none⟩=some s:=by rw [z _ _ i,(Am h).1 _ _ f];exact h1
  have L:t.cell? ⟨w.heap.size,1,none⟩=some (zd U u):=by rw [z _ _ (by simp)];simp [go_sem]
  have c:Ov w t:=h.trans (d.mono (by simp));clear z J d;go_wp2_with fail;refine (K.o _).mono ?_;rintro e G ⟨rfl,A⟩;have q:Ov w G:=c.trans (A.mono c.size);go_wp2_with fail;go_ret;exact ⟨by simp,q⟩
 | false=>
  go_enter Tryz.func167,Tryz.ntmps167;go_wp2_with fail;refine (F.o _).mono ?_;rintro e t ⟨rfl,d⟩;have c:Ov w t:=h.trans (d.mono (by simp));go_wp2_with fail;go_ret;exact ⟨by simp,c⟩
theorem P9 (p:Int × Int->Bool) (gs):decide (0<=DM p gs)=gs.any p:=by
 unfold DM
 cases h:gs.findIdx? p with
 | none=>
  have:gs.any p=false:=by rw [List.any_eq_false];intro x b;have:=(List.findIdx?_eq_none_iff.1 h) x b;simpa using this
  rw [this];rfl
 | some i=>
  obtain ⟨d,c,_⟩:=List.findIdx?_eq_some_iff_getElem.1 h;have:gs.any p=true:=List.any_eq_true.2 ⟨_,List.getElem_mem d,c⟩;rw [this];simp
theorem F8 (m:Int) (s:Value) (b:Nat) (v:Value) (gs) (w:World) (hv:AB w v gs) (hn:gs.length<=20)
  (h0:w.cell? ⟨b,0,none⟩=some (zd U m)) (h1:w.cell? ⟨b,1,none⟩=some s) :
  Calls Tryz.prog 166 #[v,.func (.func 167) #[] #[zj (some ⟨b,0,none⟩)]] w fun e w'=>e=zk (zg (gs.any (ES m)))/\Ov w w':=by
 have g:=EY 167 (zj (some ⟨b,0,none⟩)) (ES m) v gs w hv hn (Aa fun i t h l=>by
  have c:=bL h0;exact LV m s b gs[i] h (by rw [(Am l).1 _ _ c];exact h0) (by rw [(Am l).1 _ _ c];exact h1)) R1
 have d:=P9 (ES m) gs;obtain ⟨r,k⟩:=nm (DM (ES m) gs);rw [<-k] at g d;rw [<-d];have p:=Aa g;clear g d k hv;obtain ⟨u,q⟩:=nm v;go_enter Tryz.func166,Tryz.ntmps166;go_wp2_with fail;refine (p.o).mono ?_;rintro e h ⟨rfl,f⟩;go_wp2_with fail;go_ret;exact ⟨by simp,f⟩
theorem check_any (m:Int) (v:Value) (gs) (w:World) (hv:AB w v gs) :
  Calls Tryz.prog 109 #[zh #[zd U m,v]] w fun e w'=>e=zk (zd U (AN m gs))/\Ov w w':=by
 have b:Ov w (w.alloc (ze #[zd U m,v] 24)):=bA w _;by_cases h1:m < 1
 ·have d:AN m gs=3:=by unfold AN;rw [if_neg (by omega)]
  have f:=Aa d;clear d;go_enter Tryz.func109,Tryz.ntmps109;go_wp2_with fail;go_ret;exact ⟨by rw [f.o];rfl,b⟩
 by_cases h6:6 < m
 ·have d:AN m gs=3:=by unfold AN;rw [if_neg (by omega)]
  have f:=Aa d;clear d;go_enter Tryz.func109,Tryz.ntmps109;go_wp2_with fail;go_ret;exact ⟨by rw [f.o];rfl,b⟩
 have g:=Aj hv b;obtain ⟨t,s,i,-⟩:=hv;by_cases hn:gs.length<=20
 ·have d:AN m gs=if gs.any (ES m)=true then 5 else 0:=by unfold AN;rw [if_pos (by omega),if_pos hn]
  have l:=F8 m v w.heap.size v gs (w.alloc (ze #[zd U m,v] 24)) g hn (by simp [go_sem]) (by simp [go_sem]);obtain ⟨r,p⟩:=nm (gs.any (ES m));rw [<-p] at d l;subst i;have f:=Aa d;have q:=Aa l;clear d l p g
  cases r with
  | true=>
   go_enter Tryz.func109,Tryz.ntmps109;go_wp2_with fail;refine (q.o).mono ?_;rintro e k ⟨rfl,h⟩;have c:Ov w k:=b.trans (h.mono (by simp));go_wp2_with fail;go_ret;exact ⟨by rw [f.o];rfl,c⟩
  | false=>
   go_enter Tryz.func109,Tryz.ntmps109;go_wp2_with fail;refine (q.o).mono ?_;rintro e k ⟨rfl,h⟩;have c:Ov w k:=b.trans (h.mono (by simp));go_wp2_with fail;go_ret;exact ⟨by rw [f.o];rfl,c⟩
 ·have d:AN m gs=2:=by unfold AN;rw [if_pos (by omega),if_neg hn]
  have f:=Aa d;subst i;clear d g;go_enter Tryz.func109,Tryz.ntmps109;go_wp2_with fail;go_ret;exact ⟨by rw [f.o];rfl,b⟩
def toI (g:Nat × Nat):Int × Int:=((g.1:Int),(g.2:Int))
def CD (w:World) (kb:Nat) (l:List Bool):Prop:=∀ i (h:i < l.length),w.cell? ⟨kb,i,none⟩=some (zg l[i])/\w.frozen? ⟨kb,i,none⟩=false
theorem GZ {w w':World} {kb:Nat} {l:List Bool} (h:CD w kb l) (hb:Ov w w'):CD w' kb l:=fun i hi=>by
 obtain ⟨h1,h2⟩:=h i hi;have hlt:=bL h1;exact ⟨by rw [(Am hb).1 _ _ hlt];exact h1,by rw [(Am hb).2 _ _ hlt];exact h2⟩
theorem Ng {w:World} {kb:Nat} {l:List Bool} (h:CD w kb l) {j:Nat} (hj:j < l.length) (c:Bool):CD (w.setCell ⟨kb,j,none⟩ (zg c)) kb (l.set j c):=fun i hi=>by
 have hi':i < l.length:=by simpa using hi
 obtain ⟨b,d⟩:=h i hi';refine ⟨?_,?_⟩
 ·by_cases e:j=i
  ·subst e
   rw [World.cell?_setCell_same _ _ _ b];simp
  ·rw [World.cell?_setCell_other _ _ _ _ (by intro h;exact e (by injection h)),List.getElem_set_ne e]
   exact b
 ·rw [World.frozen?_setCell]
  exact d
def D8 (l:List Bool) (g:Int × Int):Bool:=(l[g.1.toNat]?.getD false) && !(l[g.2.toNat]?.getD false)
theorem Nf (kp kb:Nat) (l:List Bool) (g:Nat × Nat) (w:World) (hl:l.length<=6) (hkp:w.cell? ⟨kp,0,none⟩=some (O (some ⟨kb,0,none⟩) l.length l.length)) (hk:CD w kb l)
  (h0:g.1 < l.length) (h1:g.2 < l.length) :
  Calls Tryz.prog 192 #[zh #[zd U (toI g).1,zd U (toI g).2],zj (some ⟨kp,0,none⟩)] w fun e w'=>e=zk (zg (D8 l (toI g)))/\Ov w w':=by
 obtain ⟨f,d⟩:=g;simp only [toI] at h0 h1 ⊢;have c:D8 l ((f:Int),(d:Int))=(l[f] && !l[d]):=by simp [D8,h0,h1]
 rw [c];obtain ⟨c0,-⟩:=hk f h0;obtain ⟨c1,-⟩:=hk d h1;obtain ⟨q,i⟩:=nm (l[f]);obtain ⟨s,h⟩:=nm (l[d]);rw [<-i] at c0;rw [<-h] at c1;rw [<-i,<-h];have p:=bL hkp;have k:=bL c0;have b:Ov w (w.alloc (ze #[zd U f,zd U d] 169)):=bA w _;clear i h c hk
 cases q with
 | true=>
  go_enter Tryz.func192,Tryz.ntmps192;go_wp2_with fail;go_ret;exact ⟨by simp,b⟩
 | false=>
  go_enter Tryz.func192,Tryz.ntmps192;go_wp2_with fail;go_ret;exact ⟨by simp,b⟩
theorem Tryz.info4:(Tryz.prog.info? 4).map (fun i=>(i.zero,i.size,i.bytes))=some (some (zg false),1,1):=by kernel_rfl
theorem DV (n:Nat) (hn:n<=6) (w:World):(Instr.makeSlice 48 (zd U n) (zd U n)).run Tryz.prog w=.ok (O (some ⟨w.heap.size,0,none⟩) n n) (w.alloc (.cells (List.replicate n (Value.bool false)).toArray 4)):=by
 cases hi:Tryz.prog.info? 4 with
 | none=>have:=Tryz.info4;rw [hi] at this;cases this
 | some i=>
  have b:=Tryz.info4;rw [hi] at b;simp only [Option.map_some,Option.some.injEq,Prod.mk.injEq] at b;obtain ⟨f,d,c⟩:=b;have:=run_make (P:=Tryz.prog) w 48 4 i (zg false) Tryz.underlying48 hi f U U (n:Int) (n:Int) (by omega) (by omega) (by rw [c];omega) (by omega);rw [this,d];simp only [Int.toNat_natCast,Nat.mul_one];have e:madeCells (Value.bool false).cells n=(List.replicate n (Value.bool false)).toArray:=by
   apply Array.ext
   ·simp [madeCells]
   ·intro j d c
    simp [madeCells,Value.cells,Nat.mod_one]
  rw [e]
def EB (w:World) (n:Nat) (v:Value) (l:List Bool) (W:World):Prop:=
 W.cell? ⟨w.heap.size,0,none⟩=some (zd U n)/\W.cell? ⟨w.heap.size,1,none⟩=some v/\W.cell? ⟨w.heap.size+1+1,0,none⟩=some (O (some ⟨w.heap.size+1,0,none⟩) n n)/\CD W (w.heap.size+1) l/\Ov w W
theorem EB.over {w W W':World} {n:Nat} {v:Value} {l:List Bool} (h:EB w n v l W) (hb:Ov W W'):EB w n v l W':=by
 obtain ⟨f,e,d,g,c⟩:=h;obtain ⟨b,i⟩:=Am hb;refine ⟨?_,?_,?_,GZ g hb,c.trans (hb.mono c.size)⟩
 ·rw [b _ _ (bL f)];exact f
 ·rw [b _ _ (bL e)];exact e
 ·rw [b _ _ (bL d)];exact d
theorem Hz {w W:World} {n:Nat} {v:Value} {l:List Bool} {gn:List (Nat × Nat)} (hn:n<=6) (h:EB w n v l W) (hl:l.length=n) (hv:AB w v (gn.map toI)) (hlen:gn.length<=20) (hb:∀ g∈gn,g.1 < n/\g.2 < n) :
  Calls Tryz.prog 193 #[v,.func (.func 192) #[] #[zj (some ⟨w.heap.size+1+1,0,none⟩)]] W fun e w'=>e=zk (zd U (DM (D8 l) (gn.map toI)))/\EB w n v l w':=by
 refine (EY 192 (zj (some ⟨w.heap.size+1+1,0,none⟩)) (D8 l) v (gn.map toI) W (Aj hv h.2.2.2.2) (by simpa using hlen) (Aa fun i k f b=>?_) R0).mono ?_
 ·have c:i < gn.length:=by simpa using k
  have d:=h.over b;have p:=hb gn[i] (List.getElem_mem c);have:=Nf (w.heap.size+1+1) (w.heap.size+1) l gn[i] f (by omega) (by rw [hl];exact d.2.2.1) d.2.2.2.1 (by omega) (by omega);simpa using this
 ·rintro e w' ⟨rfl,b⟩
  exact ⟨rfl,h.over b⟩
def isF:Option Value->Bool
 | some (zg false)=>true
 | _=>false
def Jj (kb n:Nat) (W:World):Nat:=(List.range n).countP fun i=>isF (W.cell? ⟨kb,i,none⟩)
theorem IG {W:World} {kb:Nat} {l:List Bool} (h:CD W kb l):Jj kb l.length W=l.count false:=by
 have:l=(List.range l.length).map fun i=>l[i]?.getD false:=by
  apply List.ext_getElem
  ·simp
  ·intro i d e
   simp [d]
 unfold Jj
 conv=>rhs;rw [this]
 rw [List.count_eq_countP,List.countP_map];apply List.countP_congr;intro i c;have b:i < l.length:=by simpa using c
 rw [(h i b).1];simp only [Function.comp,b,List.getElem?_eq_getElem,Option.getD_some];cases l[i] <;> simp [isF]
theorem Gq {l:List Bool} {j:Nat} (hj:j < l.length) (h:l[j]=false):(l.set j true).count false < l.count false:=by
 rw [List.count_set hj];have b:0 < l.count false:=List.count_pos_iff.2 (List.mem_iff_getElem.2 ⟨j,hj,h⟩);simp [h];omega
theorem Nm (l:List Bool) (gn:List (Nat × Nat)) (n:Nat) (hl:l.length=n) (hb:∀ g∈gn,g.1 < n/\g.2 < n) :
  (DM (D8 l) (gn.map toI)=-1/\D7 gn l)\/∃ (k:Nat) (h:k < gn.length),DM (D8 l) (gn.map toI)=k/\l[gn[k].1]? = some true/\l[gn[k].2]? = some false:=by
 have p:∀ g∈gn,D8 l (toI g)=true ↔ l[g.1]? = some true/\l[g.2]? = some false:=fun g c=>by
  obtain ⟨y,f⟩:=hb g c;have u:l[g.1]? = some l[g.1]:=List.getElem?_eq_getElem (by omega);have i:l[g.2]? = some l[g.2]:=List.getElem?_eq_getElem (by omega);simp only [D8,toI,Int.toNat_natCast,u,i,Option.getD_some,Option.some.injEq];cases l[g.1] <;> cases l[g.2] <;> simp
 unfold DM
 cases hf:(gn.map toI).findIdx? (D8 l) with
 | none=>
  left;refine ⟨rfl,fun g c hk=>?_⟩;have f:=(List.findIdx?_eq_none_iff.1 hf) (toI g) (List.mem_map_of_mem c);have q:¬ (l[g.1]? = some true/\l[g.2]? = some false):=fun h=>by rw [(p g c).2 h] at f;cases f
  have e:g.2 < l.length:=by have:=hb g c;omega
  have i:l[g.2]? = some l[g.2]:=List.getElem?_eq_getElem e;rw [i] at q ⊢
  cases hx:l[g.2] with
  | true=>rfl
  | false=>exact absurd ⟨hk,by rw [hx]⟩ q
 | some k=>
  right;obtain ⟨t,s,_⟩:=List.findIdx?_eq_some_iff_getElem.1 hf;have b:k < gn.length:=by simpa using t
  have d:D8 l (toI gn[k])=true:=by simpa using s
  exact ⟨k,b,rfl,(p _ (List.getElem_mem b)).1 d⟩
theorem Kv (n who:Nat) (hn:n<=6) (hw:who < n) (v:Value) (gn:List (Nat × Nat)) (w:World) (hv:AB w v (gn.map toI)) (hlen:gn.length<=20) (hb:∀ g∈gn,g.1 < n/\g.2 < n) :
  Calls Tryz.prog 127 #[zh #[zd U n,v],zd U who] w fun e w'=>∃ kb,w.heap.size<=kb/\kb < w'.heap.size/\e=zk (O (some ⟨kb,0,none⟩) n n)/\CD w' kb (acts gn n who)/\Ov w w':=by
 have W:=fun w=>DV n hn w;have f:EB w n v (start n who) (((w.alloc (Obj.cells #[Value.int IntKind.i64 n,v] 24)).alloc (Obj.cells ((Array.replicate n (Value.bool false)).setIfInBounds who (Value.bool true)) 4)).alloc (Obj.cells #[Value.slice (some { block:=w.heap.size+1,off:=0 }) n n] 48)):=by
  refine ⟨by simp [go_sem],by simp [go_sem],by simp [go_sem],fun i H=>?_,?_⟩
  ·have M:i < n:=by simpa [start] using H
   refine ⟨?_,by simp [go_sem]⟩;simp [go_sem,start,List.getElem_set,M];by_cases e:who=i
   ·simp [e]
   ·simp [e,M]
  ·exact ((bA w _).alloc (by simp) _).alloc (by simp;omega) _
 have P:=Aa (Hz hn f (CR n who) hv hlen hb);clear f;go_enter Tryz.func127,Tryz.ntmps127;go_wp2_with fail;refine (P.o).mono ?_;rintro e w1 ⟨rfl,f⟩;clear P W;go_wp2_with fail;go_loopw [7] (fun i wr=>∃ l:List Bool,l.length=n/\Du gn who l/\i=zd U (DM (D8 l) (gn.map toI))/\EB w n v l wr) (fun _ wr=>Jj (w.heap.size+1) n wr)
 case atStart=>exact ⟨_,CR n who,Eg gn hw,rfl,f⟩
 case round=>
  obtain ⟨l,hl,q,rfl,d⟩:=hrel;clear f;rcases Nm l gn n hl hb with ⟨H,p⟩ | ⟨k,hk,H,A,B⟩
  ·have he:l=acts gn n who:=Pw hw (fun g hg=>(hb g hg).2) hl q p
   rw [H];obtain ⟨s0,s1,R,y,Q⟩:=d;have hz:=bL R;have T:w.heap.size+1 < wr.heap.size:=by have:w.heap.size+1+1 < wr.heap.size:=hz;omega
   rw [he] at y;clear p q he H;go_wp2_with fail;go_ret;exact ⟨w.heap.size+1,by omega,T,rfl,y,Q⟩
  ·obtain ⟨Z,Y⟩:=hb _ (List.getElem_mem hk)
   have V:=d;obtain ⟨s0,s1,R,y,Q⟩:=d;obtain ⟨ao,N,J,F⟩:=hv;rw [List.length_map] at J;subst J;obtain ⟨b,off,rfl,p⟩:=F (by intro h;rw [List.map_eq_nil_iff] at h;rw [h] at hk;simp at hk);obtain ⟨I,S⟩:=p k (by simpa using hk);have X:=bL I;rw [<-(Am Q).1 _ _ X] at I S;simp only [List.getElem_map,toI] at I S;obtain ⟨d1,d2⟩:=y gn[k].2 (by omega);have c:l[gn[k].2]=false:=by have:=B;rw [List.getElem?_eq_getElem (by omega)] at this;exact Option.some.inj this
   rw [c] at d1;obtain ⟨gw,C⟩:=nm (gn[k].1);obtain ⟨G,E⟩:=nm (gn[k].2);simp only [<-C,<-E] at I S d1 d2 Z Y A B c;rw [H];have u:=Ng (w:=wr.drew) y (j:=G) (by omega) true;have L:Du gn who (l.set G true):=by rw [E];exact Ic q (List.getElem_mem hk) (by rw [<-C];exact A)
   have z:(l.set G true).length=n:=by simpa using hl
   have af:Jj (w.heap.size+1) n wr=l.count false:=by rw [<-hl];exact IG y
   have ah:=Gq (l:=l) (j:=G) (by omega) c;have t:EB w n (O (some ⟨b,off,none⟩) gn.length N) (l.set G true) (wr.drew.setCell ⟨w.heap.size+1,G,none⟩ (zg true)):=by
    refine ⟨?_,?_,?_,u,(below_drewN Q 1).setCell (by simp) _⟩
    ·rw [World.cell?_setCell_other _ _ _ _ (by simp)];exact s0
    ·rw [World.cell?_setCell_other _ _ _ _ (by simp)];exact s1
    ·rw [World.cell?_setCell_other _ _ _ _ (by simp)];exact R
   have K:AB w (O (some ⟨b,off,none⟩) gn.length N) (gn.map toI):=⟨_,_,by rw [List.length_map],F⟩;have P:=Aa (Hz hn t z K hlen hb);obtain ⟨t0,t1,t2,-,-⟩:=t;have HS:=Aa L;clear p F u L q V K y A B c C E hb I;go_wp2_with fail;go_region;go_wp2_with fail;refine (P.o).mono ?_;rintro e w2 ⟨rfl,s⟩;clear P;go_wp2_with fail;refine ⟨⟨l.set G true,z,HS.o,rfl,s⟩,?_⟩;have h1:=IG s.2.2.2.1;rw [z] at h1;omega
def AE (gs:List (Int × Int)):List (Nat × Nat):=gs.map fun g=>(g.1.toNat,g.2.toNat)
theorem Fh {m:Int} {gs:List (Int × Int)} (h:AN m gs=0):∃ n:Nat,m=n/\1<=n/\n<=6/\(AE gs).map toI=gs/\(AE gs).length<=20/\∀ g∈AE gs,g.1 < n/\g.2 < n:=by
 unfold AN at h;split at h
 ·split at h
  ·split at h
   ·cases h
   ·rename_i p hl k
    have d:∀ g∈gs,A9 m g.1=true/\A9 m g.2=true:=fun g c=>by
     have b:¬ ES m g=true:=fun i=>k (List.any_eq_true.2 ⟨g,c,i⟩);simp [ES] at b;exact b
    refine ⟨m.toNat,by omega,by omega,by omega,?_,by simpa [AE] using hl,fun g c=>?_⟩
    ·unfold AE
     rw [List.map_map]
     conv=>rhs;rw [<-List.map_id gs]
     apply List.map_congr_left;intro g c;obtain ⟨b,f⟩:=d g c;simp [A9] at b f;simp only [Function.comp,toI,id]
     ext <;> simp <;> omega
    ·obtain ⟨l,e,rfl⟩:=List.mem_map.1 c
     obtain ⟨b,f⟩:=d l e;simp [A9] at b f;simp only;omega
  ·cases h
 ·cases h
theorem Tryz.info35:(Tryz.prog.info? 48).map (fun i=>(i.zero,i.size,i.bytes))=some (some (O none 0 0),1,24):=by kernel_rfl
theorem RD (n:Nat) (hn:n<=6) (w:World):(Instr.makeSlice 137 (zd U n) (zd U n)).run Tryz.prog w=.ok (O (some ⟨w.heap.size,0,none⟩) n n) (w.alloc (.cells (List.replicate n (Value.slice none 0 0)).toArray 48)):=by
 cases hi:Tryz.prog.info? 48 with
 | none=>have:=Tryz.info35;rw [hi] at this;cases this
 | some i=>
  have b:=Tryz.info35;rw [hi] at b;simp only [Option.map_some,Option.some.injEq,Prod.mk.injEq] at b;obtain ⟨f,d,c⟩:=b;have:=run_make (P:=Tryz.prog) w 137 48 i (O none 0 0) Tryz.underlying137 hi f U U (n:Int) (n:Int) (by omega) (by omega) (by rw [c];omega) (by omega);rw [this,d];simp only [Int.toNat_natCast,Nat.mul_one];have e:madeCells (Value.slice none 0 0).cells n=(List.replicate n (Value.slice none 0 0)).toArray:=by
   apply Array.ext
   ·simp [madeCells]
   ·intro j d c
    simp [madeCells,Value.cells,Nat.mod_one]
  rw [e]
def C4 (W:World) (ob n:Nat) (gn:List (Nat × Nat)) (k:Nat):Prop:=∀ i,i < k->∃ kb,kb≠ob/\W.cell? ⟨ob,i,none⟩=some (O (some ⟨kb,0,none⟩) n n)/\CD W kb (acts gn n i)
theorem EI {W W':World} {ob n k:Nat} {gn:List (Nat × Nat)} (h:C4 W ob n gn k) (hb:Ov W W'):C4 W' ob n gn k:=fun i hi=>by
 obtain ⟨kb,h1,h2,h3⟩:=h i hi;exact ⟨kb,h1,by rw [(Am hb).1 _ _ (bL h2)];exact h2,GZ h3 hb⟩
theorem Gi {w:World} {kb:Nat} {l:List Bool} (h:CD w kb l) {p:Addr} (hp:p.block≠kb) (u:Value):CD (w.setCell p u) kb l:=fun i hi=>by
 obtain ⟨h1,h2⟩:=h i hi;refine ⟨?_,?_⟩
 ·rw [World.cell?_setCell_other _ _ _ _ (by intro h;exact hp (by rw [h]))]
  exact h1
 ·rw [World.frozen?_setCell]
  exact h2
theorem Oy {W:World} {ob n k kb:Nat} {gn:List (Nat × Nat)} (h:C4 W ob n gn k) {u:Value} (hu:W.cell? ⟨ob,k,none⟩=some u) (hkb:kb≠ob) (hk:CD W kb (acts gn n k)) :
  C4 (W.setCell ⟨ob,k,none⟩ (O (some ⟨kb,0,none⟩) n n)) ob n gn (k+1):=fun i hi=>by
 by_cases e:i=k
 ·subst e
  exact ⟨kb,hkb,World.cell?_setCell_same _ _ _ hu,Gi hk (fun h=>hkb h.symm) _⟩
 ·obtain ⟨kc,h1,h2,h3⟩:=h i (by omega)
  refine ⟨kc,h1,?_,Gi h3 (fun h=>h1 h.symm) _⟩;rw [World.cell?_setCell_other _ _ _ _ (by intro h;injection h with _ h;exact e h.symm)];exact h2
def Kx (W:World) (ob n:Nat):Prop:=∀ i,i < n->(∃ u,W.cell? ⟨ob,i,none⟩=some u)/\W.frozen? ⟨ob,i,none⟩=false
theorem K0 {W W':World} {ob n:Nat} (h:Kx W ob n) (hb:Ov W W'):Kx W' ob n:=fun i hi=>by
 obtain ⟨⟨u,h1⟩,h2⟩:=h i hi;have hlt:=bL h1;exact ⟨⟨u,by rw [(Am hb).1 _ _ hlt];exact h1⟩,by rw [(Am hb).2 _ _ hlt];exact h2⟩
theorem MT {W:World} {ob n k:Nat} (h:Kx W ob n) (hk:k < n) (v:Value):Kx (W.setCell ⟨ob,k,none⟩ v) ob n:=fun i hi=>by
 obtain ⟨⟨u,h1⟩,h2⟩:=h i hi;refine ⟨?_,by rw [World.frozen?_setCell];exact h2⟩;by_cases e:k=i
 ·subst e
  exact ⟨v,World.cell?_setCell_same _ _ _ h1⟩
 ·exact ⟨u,by rw [World.cell?_setCell_other _ _ _ _ (by intro h;injection h with _ h;exact e h)];exact h1⟩
def IR (w:World) (n:Nat) (v:Value) (gn:List (Nat × Nat)) (ob k:Nat) (W:World):Prop:=
 W.cell? ⟨w.heap.size,0,none⟩=some (zd U n)/\W.cell? ⟨w.heap.size,1,none⟩=some v/\Kx W ob n/\C4 W ob n gn k/\Ov w W/\w.heap.size < ob/\ob < W.heap.size
theorem IR.over {w W W':World} {n ob k:Nat} {v:Value} {gn:List (Nat × Nat)} (h:IR w n v gn ob k W) (hb:Ov W W'):IR w n v gn ob k W':=by
 obtain ⟨e,d,l,i,c,g,f⟩:=h;obtain ⟨b,p⟩:=Am hb;refine ⟨?_,?_,K0 l hb,EI i hb,c.trans (hb.mono c.size),g,Nat.lt_of_lt_of_le f hb.size⟩
 ·rw [b _ _ (bL e)];exact e
 ·rw [b _ _ (bL d)];exact d
theorem O9 (n:Nat) (h1:1<=n) (hn:n<=6) (v:Value) (gn:List (Nat × Nat)) (w:World) (hv:AB w v (gn.map toI)) (hlen:gn.length<=20) (hb:∀ g∈gn,g.1 < n/\g.2 < n) (hE:AN n (gn.map toI)=0) :
  Calls Tryz.prog 69 #[zh #[zd U n,v]] w fun e w'=>∃ ob,e=zk (zm #[O (some ⟨ob,0,none⟩) n n,zd U 0])/\C4 w' ob n gn n/\Ov w w':=by
 have C:=fun w=>RD n hn w;have c:Ov w (w.alloc (ze #[zd U n,v] 24)):=bA w _;have I:=check_any n v (gn.map toI) (w.alloc (ze #[zd U n,v] 24)) (Aj hv c);rw [hE] at I;have M:=Aa I;have HA:=Aa fun (s:Nat) (hw:s < n) (W:World) (hW:Ov w W)=>Kv n s hn hw v gn W (Aj hv hW) hlen hb;clear I hE hv;go_enter Tryz.func69,Tryz.ntmps69;go_wp2_with fail;refine (M.o).mono ?_;rintro e b ⟨rfl,p⟩;obtain ⟨G,hf⟩:=Am p;have c0:b.cell? ⟨w.heap.size,0,none⟩=some (zd U n):=by rw [G _ _ (by simp)];simp [go_sem]
 have c1:b.cell? ⟨w.heap.size,1,none⟩=some v:=by rw [G _ _ (by simp)];simp [go_sem]
 have l:Ov w b:=c.trans (p.mono (by simp));have z:w.heap.size < b.heap.size:=bL c0;have t:IR w n v gn b.heap.size 0 (b.alloc (.cells (List.replicate n (Value.slice none 0 0)).toArray 48)):=by
  have q:Ov b (b.alloc (.cells (List.replicate n (Value.slice none 0 0)).toArray 48)):=bA b _;refine ⟨?_,?_,fun i F=>⟨⟨O none 0 0,by simp [go_sem,F]⟩,by simp [go_sem]⟩,fun i F=>absurd F (Nat.not_lt_zero _),l.trans (q.mono (by omega)),z,by simp⟩
  ·rw [(Am q).1 _ _ z];exact c0
  ·rw [(Am q).1 _ _ z];exact c1
 clear M G hf p c;go_wp2_with fail;go_loopw [17] (fun i wr=>∃ k:Nat,k<=n/\i=zd U k/\IR w n v gn b.heap.size k wr) (fun i _=>n - (intOf i).toNat)
 case atStart=>exact ⟨0,Nat.zero_le _,rfl,by simpa using t⟩
 case round=>
  clear t C c0 c1;obtain ⟨k,hk,rfl,h⟩:=hrel;by_cases hkn:k < n
  ·have L:=Aa h
   obtain ⟨R,Q,-,-,y,-,s6⟩:=h;go_wp2_with fail;refine (HA.o k hkn _ y).mono ?_;rintro e N ⟨J,ab,K,rfl,d,H⟩;have f:=L.o.over H;clear R Q y;obtain ⟨⟨u,d1⟩,d2⟩:=f.2.2.1 k hkn;have B:J≠b.heap.size:=by omega
   have A:IR w n v gn b.heap.size (k+1) (N.setCell ⟨b.heap.size,k,none⟩ (O (some ⟨J,0,none⟩) n n)):=by
    obtain ⟨r0,Z,Y,X,V,T,S⟩:=f;refine ⟨?_,?_,MT Y hkn _,Oy X d1 B d,V.setCell (by simp;omega) _,T,by simpa using S⟩
    ·rw [World.cell?_setCell_other _ _ _ _ (by simp)];exact r0
    ·rw [World.cell?_setCell_other _ _ _ _ (by simp)];exact Z
   clear f L d;go_wp2_with fail;exact ⟨⟨k+1,by omega,by go_num,A⟩,by simp [intOf];omega⟩
  ·have E:k=n:=by omega
   subst E;obtain ⟨-,-,-,P,y,-,-⟩:=h;go_wp2_with fail
   go_ret2
   exact ⟨b.heap.size,rfl,P,y⟩
theorem Iz {w w0 w1:World} {b0 o0 b1 o1 b2 o2 b3 o3:Nat} {v0 v1 v2 v3:Value} (h:w0.cell? ⟨b0,o0,none⟩=some v0/\w0.cell? ⟨b1,o1,none⟩=some v1/\w0.cell? ⟨b2,o2,none⟩=some v2/\w0.cell? ⟨b3,o3,none⟩=some v3/\Ov w w0)
  (hb:Ov w0 w1):w1.cell? ⟨b0,o0,none⟩=some v0/\w1.cell? ⟨b1,o1,none⟩=some v1/\w1.cell? ⟨b2,o2,none⟩=some v2/\w1.cell? ⟨b3,o3,none⟩=some v3/\Ov w w1:=by
 obtain ⟨g,f,e,d,c⟩:=h;obtain ⟨b,i⟩:=Am hb;refine ⟨?_,?_,?_,?_,?_⟩
 ·rw [b _ _ (bL g)];exact g
 ·rw [b _ _ (bL f)];exact f
 ·rw [b _ _ (bL e)];exact e
 ·rw [b _ _ (bL d)];exact d
 ·exact c.trans (hb.mono c.size)
theorem I1 (m:Int) (v:Value) (gs) (w:World) (hv:AB w v gs) :
  Calls Tryz.prog 93 #[zh #[zd U m,v]] w fun e w'=>e=zk (zd U (AN m gs))/\Ov w w':=by
 have d:Ov w (w.alloc (ze #[zd U m,v] 24)):=bA w _;have F:=CQ m 1 6;by_cases hm:1<=m/\m<=6
 ·have I:decide (1<=m/\m<=6)=true:=decide_eq_true hm
  rw [I] at F;have R:=Aa F;clear F I;have V:=Aj hv d;obtain ⟨ao,l,rfl,C⟩:=hv;by_cases hn:gs.length<=20
  ·have t:AN m gs=if gs.any (ES m)=true then 5 else 0:=by unfold AN;rw [if_pos hm,if_pos hn]
   have u:=Aa t;clear t;go_enter Tryz.func93,Tryz.ntmps93;go_wp2_with fail;refine (R.o _).mono ?_;rintro e G ⟨rfl,rfl⟩;go_wp2_with fail;go_loopw [3] (fun i wr=>∃ k:Nat,k<=gs.length/\i=zd U k/\(gs.take k).any (ES m)=false/\wr.cell? ⟨w.heap.size,0,none⟩=some (zd U m)/\wr.cell? ⟨w.heap.size,1,none⟩=some (O ao gs.length l)/\Ov w wr) (fun i _=>gs.length - (intOf i).toNat)
   case atStart=>exact ⟨0,Nat.zero_le _,rfl,rfl,by simp [go_sem],by simp [go_sem],d⟩
   case round=>
    obtain ⟨k,hk,rfl,g,N,Y,p⟩:=hrel;have hz:=bL N;by_cases hkl:k < gs.length
    ·obtain ⟨b,off,rfl,J⟩:=C (by rintro rfl;simp at hkl)
     obtain ⟨E,H⟩:=J k hkl;have W:=bL E;rw [<-(Am p).1 _ _ W] at E H;have Q:=fun w=>Dy m gs[k].1 hm (O (some ⟨b,off,none⟩) gs.length l) w;have P:=fun w=>Dy m gs[k].2 hm (O (some ⟨b,off,none⟩) gs.length l) w;have s:(gs.take (k+1)).any (ES m)=(!A9 m gs[k].1 || !A9 m gs[k].2):=by
      rw [List.take_succ_eq_append_getElem hkl,List.any_append,g];simp [ES]
     have f:(!A9 m gs[k].1 || !A9 m gs[k].2)=true->gs.any (ES m)=true:=fun h=>List.any_eq_true.2 ⟨gs[k],List.getElem_mem hkl,h⟩;obtain ⟨M,B⟩:=nm (gs[k].1);obtain ⟨L,A⟩:=nm (gs[k].2);rw [<-B,<-A] at s f;rw [<-B] at E Q;rw [<-A] at H P;obtain ⟨r1,z⟩:=nm (A9 m M);obtain ⟨r2,y⟩:=nm (A9 m L);rw [<-z,<-y] at s f;rw [<-z] at Q;rw [<-y] at P;have T:=Aa Q;have Z:=Aa P;have HA:=Aa f;have HT:=Aa s;clear Q P f s z y B A J C V
     cases r1 with
     | false=>
      go_wp2_with fail;refine wp_region_held_drew (S:=(fun w'=>w'.cell? ⟨w.heap.size,0,none⟩=some (zd U m)/\w'.cell? ⟨w.heap.size,1,none⟩=some (O (some ⟨b,off,none⟩) gs.length l)/\w'.cell? ⟨b,off+k*2,none⟩=some (zd U M)/\w'.cell? ⟨b,off+k*2+1,none⟩=some (zd U L)/\Ov w w')) (by kernel_rfl) ⟨N,Y,E,H,below_drewN p 1⟩ (fun c=>?_);refine kT 0 ?_;refine kT 1 ?_;refine kT 2 ?_;refine kT 3 ?_;refine kT 4 ?_;refine kT 5 ?_;refine kT 6 ?_;refine rdA 7 rfl fun K hK=>?_;go_simp
      go_at_call 25
      refine (T.o _).mono ?_;rintro e G ⟨rfl,q⟩;refine hK.out _ _ (Iz c q) (fun c=>?_);refine kT 8 ?_;refine kT 9 ?_;refine kU 10 ?_;refine kU 11 ?_;refine kU 12 ?_;refine kU 13 ?_;refine kU 14 ?_;refine kU 15 ?_;refine kU 16 ?_;refine kU 17 ?_;refine kU 18 ?_;refine kT 19 ?_;refine gE ?_;go_wp2_with fail;go_ret;exact ⟨by rw [u.o,if_pos (HA.o (by simp))];rfl,c.2.2.2.2⟩
     | true=>
      cases r2 with
      | false=>
       go_wp2_with fail;first | go_region_held3 (fun w'=>w'.cell? ⟨w.heap.size,0,none⟩=some (zd U m)/\w'.cell? ⟨w.heap.size,1,none⟩=some (O (some ⟨b,off,none⟩) gs.length l)/\w'.cell? ⟨b,off+k*2,none⟩=some (zd U M)/\w'.cell? ⟨b,off+k*2+1,none⟩=some (zd U L)/\Ov w w') (first | assumption | exact ⟨N,Y,E,H,below_drewN p 1⟩ | exact Iz (by assumption) q) (first | (go_at_call 25;(first | refine (T.o _).mono ?_ | refine (Z.o _).mono ?_);rintro e G ⟨rfl,q⟩)) | fail
       all_goals go_wp2_with fail
       all_goals go_ret
       all_goals exact ⟨by rw [u.o,if_pos (HA.o (by simp))];rfl,(by assumption:_/\_/\_/\_/\_).2.2.2.2⟩
      | true=>
       go_wp2_with fail;first | go_region_held3 (fun w'=>w'.cell? ⟨w.heap.size,0,none⟩=some (zd U m)/\w'.cell? ⟨w.heap.size,1,none⟩=some (O (some ⟨b,off,none⟩) gs.length l)/\w'.cell? ⟨b,off+k*2,none⟩=some (zd U M)/\w'.cell? ⟨b,off+k*2+1,none⟩=some (zd U L)/\Ov w w') (first | assumption | exact ⟨N,Y,E,H,below_drewN p 1⟩ | exact Iz (by assumption) q) (first | (go_at_call 25;(first | refine (T.o _).mono ?_ | refine (Z.o _).mono ?_);rintro e G ⟨rfl,q⟩)) | fail
       all_goals go_wp2_with fail
       all_goals exact ⟨⟨k+1,by omega,by go_num,HT.o,(by assumption:_/\_/\_/\_/\_).1,(by assumption:_/\_/\_/\_/\_).2.1,(by assumption:_/\_/\_/\_/\_).2.2.2.2⟩,by simp [intOf];omega⟩
    ·have X:k=gs.length:=by omega
     rw [X,List.take_length] at g;have hx:AN m gs=0:=by rw [u.o,g];rfl
     clear g C u;have HX:=Aa hx;clear hx;go_wp2_with fail;go_ret;exact ⟨by rw [HX.o];rfl,p⟩
  ·have t:AN m gs=2:=by unfold AN;rw [if_pos hm,if_neg hn]
   have u:=Aa t;clear t;go_enter Tryz.func93,Tryz.ntmps93;go_wp2_with fail;refine (R.o _).mono ?_;rintro e G ⟨rfl,rfl⟩;go_wp2_with fail;go_ret;exact ⟨by rw [u.o];rfl,d⟩
 ·have I:decide (1<=m/\m<=6)=false:=decide_eq_false hm
  rw [I] at F;have R:=Aa F;have t:AN m gs=3:=by unfold AN;rw [if_neg hm]
  have u:=Aa t;clear F I t;go_enter Tryz.func93,Tryz.ntmps93;go_wp2_with fail;refine (R.o _).mono ?_;rintro e G ⟨rfl,rfl⟩;go_wp2_with fail;go_ret;exact ⟨by rw [u.o];rfl,d⟩
def A3 (w:World) (v:Value) (l:List Bool):Prop:=
 ∃ ao cap,v=O ao l.length cap/\(l≠[]->∃ b off,ao=some ⟨b,off,none⟩/\∀ i (h:i < l.length),w.cell? ⟨b,off+i,none⟩=some (zg l[i]))
theorem A4 {w w':World} {v:Value} {l:List Bool} (h:A3 w v l) (hb:Ov w w'):A3 w' v l:=by
 obtain ⟨p,e,rfl,k⟩:=h;refine ⟨p,e,rfl,fun c=>?_⟩;obtain ⟨b,off,rfl,d⟩:=k c;refine ⟨b,off,rfl,fun i g=>?_⟩;have f:=d i g;rw [(Am hb).1 _ _ (bL f)];exact f
theorem G9 {w:World} {v:Value} {l:List Bool} (h:A3 w v l) {i:Nat} (hi:i < l.length):∃ b off cap,v=O (some ⟨b,off,none⟩) l.length cap/\w.cell? ⟨b,off+i,none⟩=some (zg l[i]):=by
 obtain ⟨e,cap,rfl,d⟩:=h;obtain ⟨b,off,rfl,c⟩:=d (by rintro rfl;simp at hi);exact ⟨b,off,cap,rfl,c i hi⟩
theorem IX {a b:List Bool} {k:Nat} (hka:k < a.length) (hkb:k < b.length) (hne:a[k]≠b[k]):a≠b:=by
 rintro rfl;exact hne rfl
theorem H3 (va vb:Value) (a b:List Bool) (w:World) (ha:A3 w va a) (hb:A3 w vb b) (hla:a.length<=9223372036854775807) :
  Calls Tryz.prog 43 #[va,vb] w fun e w'=>e=zk (zg (decide (a=b)))/\∃ n,w'=w.drewN n:=by
 have Q:=Aa ha;have P:=Aa hb;obtain ⟨ao,V,rfl,-⟩:=ha;obtain ⟨X,T,rfl,-⟩:=hb;by_cases hl:a.length=b.length
 ·have u:((a.length:Int) != b.length)=false:=by simp [hl]
  have G:=Aa hl;clear hl;go_enter Tryz.func43,Tryz.ntmps43;go_wp2_with fail;go_loopw [5] (fun i wr=>∃ k n:Nat,k<=a.length/\i=zd U k/\a.take k=b.take k/\wr=w.drewN n) (fun i _=>a.length - (intOf i).toNat)
  case atStart=>exact ⟨0,0,Nat.zero_le _,rfl,rfl,rfl⟩
  case round=>
   obtain ⟨k,n,hk,rfl,c,rfl⟩:=hrel;by_cases hkl:k < a.length
   ·have g:k < b.length:=by have:=G.o;omega
    obtain ⟨Z,S,c1,L,I⟩:=G9 Q.o hkl;obtain ⟨Y,R,W,K,H⟩:=G9 P.o g;injection L with F E C;injection K with B A z;subst F C B z;have d:a[k]=b[k]->a.take (k+1)=b.take (k+1):=fun h=>by
     rw [List.take_succ_eq_append_getElem hkl,List.take_succ_eq_append_getElem g,c,h]
    have f:a[k]≠b[k]->decide (a=b)=false:=fun h=>decide_eq_false (IX hkl g h);obtain ⟨x,t⟩:=nm (a[k]);obtain ⟨y,s⟩:=nm (b[k]);rw [<-t] at I;rw [<-s] at H;rw [<-t,<-s] at d f;have M:=Aa d;have N:=Aa f;clear d f c t s E A;cases x <;> cases y
    all_goals go_wp2_with fail
    all_goals go_region
    all_goals go_wp2_with fail
    all_goals first
     | exact ⟨⟨k+1,n+1,by omega,by go_num,M.o (by first | rfl | trivial),by first | rfl | trivial⟩,by simp [intOf];omega⟩
     | (go_ret;exact ⟨by rw [N.o (by decide)];rfl,n+1,rfl⟩)
   ·have l:k=a.length:=by omega
    have q:a=b:=by
     have J:k=b.length:=by have:=G.o;omega
     rw [l,List.take_length] at c;rw [c,<-l,J,List.take_length]
    have p:decide (a=b)=true:=decide_eq_true q;have O:=Aa p;clear p q c;go_wp2_with fail;go_ret;exact ⟨by rw [O.o];rfl,n,rfl⟩
 ·have u:((a.length:Int) != b.length)=true:=by simp;omega
  have p:decide (a=b)=false:=decide_eq_false (fun h=>hl (by rw [h]));rw [p];clear p;go_enter Tryz.func43,Tryz.ntmps43;go_wp2_with fail;go_ret;exact ⟨rfl,0,rfl⟩
structure Lev where
 r:List Bool
 w:List Bool
def Bn (W:World) (v:Value) (l:Lev):Prop:=∃ vr vw,v=zh #[vr,vw]/\A3 W vr l.r/\A3 W vw l.w
theorem AW {W W':World} {v:Value} {l:Lev} (h:Bn W v l) (hb:Ov W W'):Bn W' v l:=by
 obtain ⟨c,b,rfl,e,d⟩:=h;exact ⟨c,b,rfl,A4 e hb,A4 d hb⟩
def CV (m:Int) (l:Lev):Int:=if (l.r.length:Int)=m/\(l.w.length:Int)=m then 0 else 1
def Rz (l m:Lev) (i:Nat):Bool:=!((m.r[i]?.getD false && !(l.r[i]?.getD false)) || (l.w[i]?.getD false && !(m.w[i]?.getD false)))
def Aw (l m:Lev) (n:Nat):Bool:=(List.range n).all (Rz l m)
theorem AA {l m:Lev} {n:Nat}:Aw l m n=true ↔ ∀ i,i < n->(m.r[i]?.getD false=true->l.r[i]?.getD false=true)/\(l.w[i]?.getD false=true->m.w[i]?.getD false=true):=by
 unfold Aw;rw [List.all_eq_true];constructor
 ·intro h i b
  have:=h i (List.mem_range.2 b);unfold Rz at this;revert this;cases m.r[i]?.getD false <;> cases l.r[i]?.getD false <;> cases l.w[i]?.getD false <;> cases m.w[i]?.getD false <;> simp
 ·intro h i b
  have:=h i (List.mem_range.1 b);unfold Rz;revert this;cases m.r[i]?.getD false <;> cases l.r[i]?.getD false <;> cases l.w[i]?.getD false <;> cases m.w[i]?.getD false <;> simp
theorem CL {w:World} {v:Value} {l:List Bool} {n:Nat} (h:A3 w v l) (hl:l.length=n) (h1:1<=n) :
  ∃ b off cap,v=O (some ⟨b,off,none⟩) n cap/\∀ i,i < n->w.cell? ⟨b,off+i,none⟩=some (zg (l[i]?.getD false)):=by
 obtain ⟨g,cap,rfl,e⟩:=h;obtain ⟨b,off,rfl,d⟩:=e (by rintro rfl;simp at hl;omega);refine ⟨b,off,cap,by rw [hl],fun i f=>?_⟩;have c:i < l.length:=by omega
 rw [d i c];simp [c]
def Lev.len (l:Lev) (n:Nat):Prop:=l.r.length=n/\l.w.length=n
def AQ (w:World) (v:Value) (l:List Int):Prop:=
 ∃ ao cap,v=O ao l.length cap/\(l≠[]->∃ b off,ao=some ⟨b,off,none⟩/\∀ i (h:i < l.length),w.cell? ⟨b,off+i,none⟩=some (zd U l[i]))
theorem Be {w w':World} {v:Value} {l:List Int} (h:AQ w v l) (hb:Ov w w'):AQ w' v l:=by
 obtain ⟨p,e,rfl,k⟩:=h;refine ⟨p,e,rfl,fun c=>?_⟩;obtain ⟨b,off,rfl,d⟩:=k c;refine ⟨b,off,rfl,fun i g=>?_⟩;have f:=d i g;rw [(Am hb).1 _ _ (bL f)];exact f
structure Pol where
 owner:Int
 names:List Int
def Au (w:World) (v:Value) (ps:List Pol):Prop:=
 ∃ ao cap,v=O ao ps.length cap/\(ps≠[]->∃ b off,ao=some ⟨b,off,none⟩/\∀ i (h:i < ps.length),w.cell? ⟨b,off+i*2,none⟩=some (zd U ps[i].owner)/\∃ nv,w.cell? ⟨b,off+i*2+1,none⟩=some nv/\AQ w nv ps[i].names)
theorem Ah {w w':World} {v:Value} {ps:List Pol} (h:Au w v ps) (hb:Ov w w'):Au w' v ps:=by
 obtain ⟨s,e,rfl,p⟩:=h;refine ⟨s,e,rfl,fun c=>?_⟩;obtain ⟨b,off,rfl,d⟩:=p c;refine ⟨b,off,rfl,fun i l=>?_⟩;obtain ⟨g,k,f,q⟩:=d i l;exact ⟨by rw [(Am hb).1 _ _ (bL g)];exact g,k,by rw [(Am hb).1 _ _ (bL f)];exact f,Be q hb⟩
def Ec (gn:List (Nat × Nat)) (n who:Nat) (x:Int):Bool:=(acts gn n who)[x.toNat]?.getD false
def Tb (gn:List (Nat × Nat)) (n who:Nat) (p:Pol):Bool:=Ec gn n who p.owner || p.names.any (Ec gn n who)
def FW (gn:List (Nat × Nat)) (n who:Nat) (ps:List Pol):Bool:=ps.all (Tb gn n who)
def Ft (n:Nat) (p:Pol):Prop:=(0<=p.owner/\p.owner < n)/\p.names.length<=6/\∀ x∈p.names,0<=x/\x < (n:Int)
theorem LB {w w0 w1:World} {b0 o0 b1 o1 b2 o2:Nat} {v0 v1 v2:Value} (h:w0.cell? ⟨b0,o0,none⟩=some v0/\w0.cell? ⟨b1,o1,none⟩=some v1/\w0.cell? ⟨b2,o2,none⟩=some v2/\Ov w w0)
  (hb:Ov w0 w1):w1.cell? ⟨b0,o0,none⟩=some v0/\w1.cell? ⟨b1,o1,none⟩=some v1/\w1.cell? ⟨b2,o2,none⟩=some v2/\Ov w w1:=by
 obtain ⟨f,e,d,c⟩:=h;obtain ⟨b,g⟩:=Am hb;refine ⟨?_,?_,?_,c.trans (hb.mono c.size)⟩
 ·rw [b _ _ (bL f)];exact f
 ·rw [b _ _ (bL e)];exact e
 ·rw [b _ _ (bL d)];exact d
def C8:List Int->Bool
 | x::y::l=>decide (x < y) && C8 (y::l)
 | _=>true
def C1 (m:Int) (p:Pol):Int:=
 if A9 m p.owner=true then (if p.names.length<=6 then (if p.names.all (A9 m)=true then (if C8 p.names=true then 0 else 4) else 5) else 2) else 5
def BR (m:Int):List Pol->Int
 | []=>0
 | p::ps=>if C1 m p=0 then BR m ps else C1 m p
def Bd (m:Int) (ps:List Pol):Int:=if ps.length<=4 then BR m ps else 2
theorem E2 {m:Int} {ps:List Pol} {k:Nat} (hk:k < ps.length):BR m (ps.drop k)=if C1 m ps[k]=0 then BR m (ps.drop (k+1)) else C1 m ps[k]:=by
 rw [List.drop_eq_getElem_cons hk];rfl
theorem EJ (l:List Int):C8 l=true ↔ ∀ i (h:i+1 < l.length),l[i] < l[i+1]:=by
 induction l with
 | nil=>simp [C8]
 | cons x l ih=>
  cases l with
  | nil=>simp [C8]
  | cons y l=>
   simp only [C8,Bool.and_eq_true,decide_eq_true_eq,ih];constructor
   ·rintro ⟨d,c⟩ i b
    cases i with
    | zero=>exact d
    | succ i=>exact c i (by simpa using b)
   ·intro h
    exact ⟨h 0 (by simp),fun i b=>h (i+1) (by simpa using b)⟩
theorem DB (m:Int) (hm:1<=m/\m<=6) (v vp:Value) (ps:List Pol) (w:World) (hp:Au w vp ps) :
  Calls Tryz.prog 156 #[zh #[zd U m,v],vp] w fun e w'=>e=zk (zd U (Bd m ps))/\Ov w w':=by
 have KI:=Aa fun (x:Int) (W:World)=>Dy m x hm v W;obtain ⟨ao,bs,rfl,al⟩:=hp;have a8:=Aa al;have G:Ov w (w.alloc (ze #[zd U m,v] 24)):=bA w _;clear al;by_cases hps:ps.length<=4
 ·have hE:Bd m ps=BR m ps:=by unfold Bd;rw [if_pos hps]
  have HE:=Aa hE;clear hE;go_enter Tryz.func156,Tryz.ntmps156;go_wp2_with fail;go_loopw [5] (fun i wr=>∃ k:Nat,k<=ps.length/\i=zd U k/\BR m ps=BR m (ps.drop k)/\wr.cell? ⟨w.heap.size,0,none⟩=some (zd U m)/\wr.cell? ⟨w.heap.size,1,none⟩=some v/\Ov w wr) (fun i _=>ps.length - (intOf i).toNat)
  case atStart=>exact ⟨0,Nat.zero_le _,rfl,rfl,by simp [go_sem],by simp [go_sem],G⟩
  case round=>
   clear G;obtain ⟨k,hk,rfl,s,c0,c1,F⟩:=hrel;by_cases hkl:k < ps.length
   ·obtain ⟨b,off,rfl,ak⟩:=a8.o (by rintro rfl;simp at hkl)
    obtain ⟨q0,nv,q1,q2⟩:=ak k hkl;have Q:=bL q0;rw [E2 hkl] at s;have l:C1 m ps[k]=if A9 m ps[k].owner=true then (if ps[k].names.length<=6 then (if ps[k].names.all (A9 m)=true then (if C8 ps[k].names=true then 0 else 4) else 5) else 2) else 5:=rfl;obtain ⟨H,ag⟩:=nm (C1 m ps[k]);obtain ⟨ow,ah⟩:=nm (ps[k].owner);obtain ⟨c,ai⟩:=nm (ps[k].names);rw [<-ag] at l s;rw [<-ah] at q0 l;rw [<-ai] at q2 l;have N:H≠0->Bd m ps=H:=fun h=>by rw [HE.o,s,if_neg h]
    have P:H=0->BR m ps=BR m (ps.drop (k+1)):=fun h=>by rw [s,if_pos h]
    obtain ⟨bp,K,rfl,aj⟩:=q2;have aq:=Aa q1;rw [<-(Am F).1 _ _ Q] at q0 q1;have HP:=Aa l;have J:=Aa N;have a7:=Aa P;have av:=Aa aj;have g:=KI.o ow;obtain ⟨x,hx⟩:=nm (A9 m ow);rw [<-hx] at g;have HX:=Aa hx;have u:=Aa g;clear l N P aj g hx ag ah ai ak s
    cases x with
    | false=>
     have h5:H=5:=by rw [HP.o,<-HX.o];rfl
     have B:Bd m ps=5:=by rw [J.o (by omega),h5]
     have Y:=Aa B;clear h5 B q1;go_wp2_with fail;first | go_region_held3 (fun w'=>w'.cell? ⟨w.heap.size,0,none⟩=some (zd U m)/\w'.cell? ⟨w.heap.size,1,none⟩=some v/\w'.cell? ⟨b,off+k*2,none⟩=some (zd U ow)/\Ov w w') (first | assumption | exact ⟨c0,c1,q0,below_drewN F 1⟩ | exact LB (by assumption) hb1) (first | (go_at_call 25;refine (u.o _).mono ?_;rintro e w1 ⟨rfl,hb1⟩)) | fail
     all_goals obtain ⟨V,T,d2,t⟩:=(by assumption:_/\_/\_/\Below _ _ _)
     all_goals go_wp2_with fail
     all_goals go_ret
     all_goals exact ⟨by rw [Y.o];rfl,t⟩
    | true=>
     go_wp2_with fail;first | go_region_held3 (fun w'=>w'.cell? ⟨w.heap.size,0,none⟩=some (zd U m)/\w'.cell? ⟨w.heap.size,1,none⟩=some v/\w'.cell? ⟨b,off+k*2,none⟩=some (zd U ow)/\Ov w w') (first | assumption | exact ⟨c0,c1,q0,below_drewN F 1⟩ | exact LB (by assumption) hb1) (first | (go_at_call 25;refine (u.o _).mono ?_;rintro e w1 ⟨rfl,hb1⟩)) | fail
     all_goals obtain ⟨V,T,d2,t⟩:=(by assumption:_/\_/\_/\Below _ _ _)
     clear c0 c1 F q0 q1 d2 u;have r1:=aq.o;rw [<-(Am t).1 _ _ Q] at r1;by_cases hnl:c.length<=6
     ·have M:H=if c.all (A9 m)=true then (if C8 c=true then 0 else 4) else 5:=by rw [HP.o,<-HX.o,if_pos rfl,if_pos hnl]
      have au:=Aa M;clear M;go_wp2_with fail;go_loopw [6] (fun i E=>∃ j:Nat,j<=c.length/\i=zd U j/\(c.take j).all (A9 m)=true/\E.cell? ⟨w.heap.size,0,none⟩=some (zd U m)/\E.cell? ⟨w.heap.size,1,none⟩=some v/\Ov w E) (fun i _=>c.length - (intOf i).toNat)
      case atStart=>exact ⟨0,Nat.zero_le _,rfl,rfl,V,T,t⟩
      case round=>
       clear V T t r1;obtain ⟨j,hj,rfl,p,V,T,t⟩:=hrel;have r1:=aq.o;rw [<-(Am t).1 _ _ Q] at r1;by_cases hjl:j < c.length
       ·obtain ⟨nb,no,rfl,C⟩:=av.o (by rintro rfl;simp at hjl)
        have I:=C j hjl;rw [<-(Am t).1 _ _ (bL I)] at I;have f:A9 m c[j]=true->(c.take (j+1)).all (A9 m)=true:=fun h=>by
         rw [List.take_succ_eq_append_getElem hjl,List.all_append,p];simp [h]
        have d:A9 m c[j]=false->c.all (A9 m)=false:=fun h=>by
         rw [List.all_eq_false];exact ⟨c[j],List.getElem_mem hjl,by simp [h]⟩
        obtain ⟨y,ae⟩:=nm (c[j]);rw [<-ae] at I f d;have g:=KI.o y;obtain ⟨z,hz⟩:=nm (A9 m y);rw [<-hz] at g f d;have aw:=Aa g;have Z:=Aa f;have X:=Aa d;clear g f d hz ae C p
        cases z with
        | true=>
         go_wp2_with fail;first | go_region_held3 (fun w'=>w'.cell? ⟨w.heap.size,0,none⟩=some (zd U m)/\w'.cell? ⟨w.heap.size,1,none⟩=some v/\w'.cell? ⟨b,off+k*2+1,none⟩=some (O (some ⟨nb,no,none⟩) c.length K)/\w'.cell? ⟨nb,no+j,none⟩=some (zd U y)/\Ov w w') (first | assumption | exact ⟨V,T,r1,I,below_drewN t 1⟩ | exact Iz (by assumption) hb1) (first | (go_at_call 25;refine (aw.o _).mono ?_;rintro e w1 ⟨rfl,hb1⟩)) | fail
         all_goals obtain ⟨f0,f1,-,-,fB⟩:=(by assumption:_/\_/\_/\_/\Below _ _ _)
         all_goals go_wp2_with fail
         all_goals exact ⟨⟨j+1,by omega,by go_num,Z.o (by first | rfl | trivial),f0,f1,fB⟩,by simp [intOf];omega⟩
        | false=>
         have h5:H=5:=by rw [au.o,X.o (by first | rfl | trivial)];rfl
         have B:Bd m ps=5:=by rw [J.o (by omega),h5]
         have Y:=Aa B;clear h5 B;go_wp2_with fail;first | go_region_held3 (fun w'=>w'.cell? ⟨w.heap.size,0,none⟩=some (zd U m)/\w'.cell? ⟨w.heap.size,1,none⟩=some v/\w'.cell? ⟨b,off+k*2+1,none⟩=some (O (some ⟨nb,no,none⟩) c.length K)/\w'.cell? ⟨nb,no+j,none⟩=some (zd U y)/\Ov w w') (first | assumption | exact ⟨V,T,r1,I,below_drewN t 1⟩ | exact Iz (by assumption) hb1) (first | (go_at_call 25;refine (aw.o _).mono ?_;rintro e w1 ⟨rfl,hb1⟩)) | fail
         all_goals obtain ⟨f0,f1,-,-,fB⟩:=(by assumption:_/\_/\_/\_/\Below _ _ _)
         all_goals go_wp2_with fail
         all_goals go_ret
         all_goals exact ⟨by rw [Y.o];rfl,fB⟩
       ·have a2:j=c.length:=by omega
        subst a2;rw [List.take_length] at p;have L:H=if C8 c=true then 0 else 4:=by rw [au.o,p];rfl
        have ar:=Aa L;clear L p;go_wp2_with fail;go_loopw [7] (fun i E=>∃ j n:Nat,i=zd U (j+1)/\(j=0\/j+1<=c.length)/\(∀ i (h:i+1 < c.length),i < j->c[i] < c[i+1])/\E=wr.drewN n) (fun i _=>c.length - (intOf i).toNat)
        case atStart=>exact ⟨0,0,rfl,Or.inl rfl,fun i _ hi=>absurd hi (Nat.not_lt_zero _),rfl⟩
        case round=>
         obtain ⟨i,q,rfl,hi,A,rfl⟩:=hrel;by_cases hil:i+1 < c.length
         ·obtain ⟨nb,no,rfl,C⟩:=av.o (by rintro rfl;simp at hil)
          have I:=C (i+1) hil;have e0:=C i (by omega);rw [<-(Am t).1 _ _ (bL I)] at I;rw [<-(Am t).1 _ _ (bL e0)] at e0;have br:(0:Int)<=(i:Int)+1:=by omega
          have f:c[i] < c[i+1]->∀ a (h:a+1 < c.length),a < i+1->c[a] < c[a+1]:=fun hh a h ha=>by
           by_cases e:a=i
           ·subst e;exact hh
           ·exact A a h (by omega)
          have d:¬ c[i] < c[i+1]->C8 c=false:=fun hh=>by
           cases B:C8 c with
           | false=>rfl
           | true=>exact absurd ((EJ c).1 B i hil) hh
          obtain ⟨y1,R⟩:=nm (c[i+1]);obtain ⟨y0,S⟩:=nm (c[i]);rw [<-R,<-S] at f d;rw [<-R] at I;rw [<-S] at e0;have Z:=Aa f;have X:=Aa d;clear f d R S C A;by_cases hlt:y1<=y0
          ·have h4:H=4:=by rw [ar.o,X.o (by omega)];rfl
           have B:Bd m ps=4:=by rw [J.o (by omega),h4]
           have Y:=Aa B;clear h4 B;go_wp2_with fail;go_region;go_wp2_with fail;go_ret;exact ⟨by rw [Y.o];rfl,below_drewN t _⟩
          ·go_wp2_with fail
           go_region;go_wp2_with fail;exact ⟨⟨i+1,q+1,by go_num,Or.inr (by omega),Z.o (by omega),by first | rfl | trivial⟩,by simp [intOf];omega⟩
         ·have af:C8 c=true:=(EJ c).2 fun a h=>A a h (by omega)
          have h0:H=0:=by rw [ar.o,af];rfl
          have hn:=a7.o h0;have HN:=Aa hn;clear af h0 hn A;go_wp2_with fail;exact ⟨⟨k+1,by omega,by go_num,HN.o,V,T,below_drewN t q⟩,by simp [intOf];omega⟩
     ·have h2:H=2:=by rw [HP.o,<-HX.o,if_pos rfl,if_neg hnl]
      have B:Bd m ps=2:=by rw [J.o (by omega),h2]
      have Y:=Aa B;clear h2 B;go_wp2_with fail;go_ret;exact ⟨by rw [Y.o];rfl,t⟩
   ·have a1:k=ps.length:=by omega
    have hz:Bd m ps=0:=by rw [HE.o,s,a1,List.drop_length];rfl
    have HZ:=Aa hz;clear hz s;go_wp2_with fail;go_ret;exact ⟨by rw [HZ.o];rfl,F⟩
 ·have hE:Bd m ps=2:=by unfold Bd;rw [if_neg hps]
  rw [hE];clear hE;go_enter Tryz.func156,Tryz.ntmps156;go_wp2_with fail;go_ret;exact ⟨rfl,G⟩
def J8 (p:Int->Bool) (l:List Int):Int:=match l.findIdx? p with | some i=>i | none=>-1
theorem Qa {p:Int->Bool} {l:List Int} {k:Nat} (hk:k < l.length) (h:(l.take k).all (fun g=>!p g)=true) (hp:p l[k]=true):J8 p l=k:=by
 have:l.findIdx? p=some k:=by
  rw [List.findIdx?_eq_some_iff_getElem];refine ⟨hk,hp,fun j b=>?_⟩;have:=List.all_eq_true.1 h l[j] (by rw [List.mem_take_iff_getElem];exact ⟨j,by omega,rfl⟩);simpa using this
 simp [J8,this]
theorem Nn {p:Int->Bool} {l:List Int} (h:l.all (fun g=>!p g)=true):J8 p l=-1:=by
 have:l.findIdx? p=none:=by
  rw [List.findIdx?_eq_none_iff];intro x b;have:=List.all_eq_true.1 h x b;simpa using this
 simp [J8,this]
theorem O6 (p:Int->Bool) (l):decide (0<=J8 p l)=l.any p:=by
 unfold J8
 cases h:l.findIdx? p with
 | none=>
  have:l.any p=false:=by rw [List.any_eq_false];intro x b;have:=(List.findIdx?_eq_none_iff.1 h) x b;simpa using this
  rw [this];rfl
 | some i=>
  obtain ⟨d,c,_⟩:=List.findIdx?_eq_some_iff_getElem.1 h;have:l.any p=true:=List.any_eq_true.2 ⟨_,List.getElem_mem d,c⟩;rw [this];simp
theorem Ja (F:FuncId) (cv:Value) (p:Int->Bool) (v:Value) (l) (w:World) (hv:AQ w v l) (hn:l.length<=6)
  (hF:Hx (∀ (i:Nat) (h:i < l.length) (w1:World),Ov w w1->Calls Tryz.prog F #[zd U l[i],cv] w1 fun e w2=>e=zk (zg (p l[i]))/\Ov w1 w2))
  (hC:∀ (args:Array Value) (w:World),(callFunc F args).run Tryz.prog w=.ok (.enter F args) w) :
  Calls Tryz.prog 190 #[v,.func (.func F) #[] #[cv]] w fun e w'=>e=zk (zd U (J8 p l))/\Ov w w':=by
 obtain ⟨O,K,rfl,t⟩:=hv;go_enter Tryz.func190,Tryz.ntmps190;go_wp2_with fail;go_loopw [8] (fun i wr=>∃ k:Nat,k<=l.length/\i=zd U k/\(l.take k).all (fun g=>!p g)=true/\Ov w wr) (fun i _=>l.length - (intOf i).toNat)
 case atStart=>exact ⟨0,Nat.zero_le _,rfl,rfl,Below.refl _ w⟩
 case round=>
  obtain ⟨k,hk,rfl,f,c⟩:=hrel;by_cases hkl:k < l.length
  ·obtain ⟨b,off,rfl,A⟩:=t (by rintro rfl;simp at hkl)
   have B:=A k hkl;have E:=bL B;rw [<-(Am c).1 _ _ E] at B;have d:=hF.o k hkl;have y:=fun (C:p l[k]=true)=>Qa hkl f C;have s:p l[k]=false->(l.take (k+1)).all (fun g=>!p g)=true:=fun C=>by
    rw [List.take_succ_eq_append_getElem hkl,List.all_append,f];simp [C]
   obtain ⟨r,H⟩:=nm (p l[k]);obtain ⟨N,z⟩:=nm (l[k]);rw [<-H] at d y s;rw [<-z] at B d;have I:=Aa d;have M:=Aa y;have L:=Aa s;clear H z d y s A t hF
   cases r with
   | true=>
    go_wp2_with fail;refine (I.o _ c).mono ?_;rintro e w2 ⟨rfl,u⟩;have q:Ov w w2:=c.trans (u.mono c.size);go_wp2_with fail;go_ret;exact ⟨by rw [M.o (by first | rfl | trivial)];rfl,q⟩
   | false=>
    go_wp2_with fail;refine (I.o _ c).mono ?_;rintro e w2 ⟨rfl,u⟩;have q:Ov w w2:=c.trans (u.mono c.size);go_wp2_with fail;exact ⟨⟨k+1,by omega,by go_num,L.o (by first | rfl | trivial),q⟩,by simp [intOf];omega⟩
  ·have G:k=l.length:=by omega
   rw [G,List.take_length] at f;have J:=Nn f;clear f t hF;go_wp2_with fail;go_ret;exact ⟨by rw [J];rfl,c⟩
theorem Ea (F:FuncId) (cv:Value) (p:Int->Bool) (v:Value) (l) (w:World) (hv:AQ w v l) (hn:l.length<=6)
  (hF:Hx (∀ (i:Nat) (h:i < l.length) (w1:World),Ov w w1->Calls Tryz.prog F #[zd U l[i],cv] w1 fun e w2=>e=zk (zg (p l[i]))/\Ov w1 w2))
  (hC:∀ (args:Array Value) (w:World),(callFunc F args).run Tryz.prog w=.ok (.enter F args) w) :
  Calls Tryz.prog 124 #[v,.func (.func F) #[] #[cv]] w fun e w'=>e=zk (zg (l.any p))/\Ov w w':=by
 have d:=Ja F cv p v l w hv hn hF hC;have b:=O6 p l;obtain ⟨r,f⟩:=nm (J8 p l);rw [<-f] at d b;rw [<-b];have g:=Aa d;clear d b f hv hC hF;obtain ⟨u,k⟩:=nm v;go_enter Tryz.func124,Tryz.ntmps124;go_wp2_with fail;refine (g.o).mono ?_;rintro e w1 ⟨rfl,c⟩;go_wp2_with fail;go_ret;exact ⟨by simp,c⟩
theorem RT (args:Array Value) (w:World):(callFunc 213 args).run Tryz.prog w=.ok (.enter 213 args) w:=by simp [go_sem]
theorem RU (args:Array Value) (w:World):(callFunc 128 args).run Tryz.prog w=.ok (.enter 128 args) w:=by simp [go_sem]
theorem G8 (m x:Int) (b:Nat) (w:World) (h0:w.cell? ⟨b,0,none⟩=some (zd U m)) :
  Calls Tryz.prog 213 #[zd U x,zj (some ⟨b,0,none⟩)] w fun e w'=>e=zk (zg (!A9 m x))/\Ov w w':=by
 by_cases h1:x < 0
 ·have c:A9 m x=false:=by simp [A9];omega
  rw [c];clear c;go_enter Tryz.func213,Tryz.ntmps213;go_wp2_with fail;go_ret;exact ⟨by simp,Below.refl _ w⟩
 ·by_cases h2:m<=x
  ·have c:A9 m x=false:=by simp [A9];omega
   rw [c];clear c;go_enter Tryz.func213,Tryz.ntmps213;go_wp2_with fail;go_ret;exact ⟨by simp,Below.refl _ w⟩
  ·have c:A9 m x=true:=by simp [A9];omega
   rw [c];clear c;go_enter Tryz.func213,Tryz.ntmps213;go_wp2_with fail;go_ret;exact ⟨by simp,Below.refl _ w⟩
theorem Oz (v:Value) (l) (w:World) (hv:AQ w v l) (hn:l.length<=6) :
  Calls Tryz.prog 214 #[v] w fun e w'=>e=zk (zg (C8 l))/\Ov w w':=by
 obtain ⟨L,H,rfl,q⟩:=hv;have p:=Aa q;clear q;go_enter Tryz.func214,Tryz.ntmps214;go_wp2_with fail;go_loopw [3] (fun i wr=>∃ k n:Nat,k<=6/\i=zd U ((k:Int)+1)/\(∀ j (h:j+1 < l.length),j < k->l[j] < l[j+1])/\wr=w.drewN n) (fun i _=>10 - (intOf i).toNat)
 case atStart=>exact ⟨0,0,Nat.zero_le _,rfl,fun j _ h=>absurd h (Nat.not_lt_zero _),rfl⟩
 case round=>
  obtain ⟨k,n,hk,rfl,f,rfl⟩:=hrel;by_cases hkl:k+1 < l.length
  ·obtain ⟨b,off,rfl,g⟩:=p.o (by rintro rfl;simp at hkl)
   have C:=g k (by omega);have s:=g (k+1) hkl;have d:l[k] < l[k+1]->∀ j (h:j+1 < l.length),j < k+1->l[j] < l[j+1]:=fun h j z F=>by
    by_cases e:j=k
    ·subst e;exact h
    ·exact f j z (by omega)
   have c:¬ l[k] < l[k+1]->C8 l=false:=fun h=>by
    rw [Bool.eq_false_iff];intro G;exact h ((EJ l).1 G k hkl)
   obtain ⟨x,u⟩:=nm (l[k]);obtain ⟨y,t⟩:=nm (l[k+1]);rw [<-u] at C;rw [<-t] at s;rw [<-u,<-t] at d c;have K:=Aa d;have I:=Aa c;have E:((k:Int)+1) < (l.length:Int):=by omega
   have O:(0:Int)<=(k:Int)+1:=by omega
   have N:(0:Int)<=(k:Int):=by omega
   have M:(k:Int) < (l.length:Int):=by omega
   have B:w.cell? ⟨b,off+(k+1),none⟩=some (zd U y):=s;clear d c u t g f p s;by_cases hxy:y<=x
   ·go_wp2_with fail
    go_region;go_wp2_with fail;go_ret;exact ⟨by rw [I.o (by omega)];rfl,below_drewN (Below.refl _ w) (n+1)⟩
   ·go_wp2_with fail
    go_region;go_wp2_with fail;exact ⟨⟨k+1,n+1,by omega,by go_num,K.o (by omega),by first | rfl | trivial⟩,by simp [intOf];omega⟩
  ·have A:C8 l=true:=(EJ l).2 fun j z=>f j z (by omega)
   have J:=Aa A;have E:¬ ((k:Int)+1) < (l.length:Int):=by omega
   clear A f p;go_wp2_with fail;go_ret;exact ⟨by rw [J.o];rfl,below_drewN (Below.refl _ w) n⟩
theorem Gs (m:Int) (s:Value) (p:Pol) (nv:Value) (w:World) (hp:AQ w nv p.names) :
  Calls Tryz.prog 169 #[zh #[zd U m,s],zh #[zd U p.owner,nv]] w fun e w'=>e=zk (zd U (C1 m p))/\Ov w w':=by
 obtain ⟨y,names⟩:=p;have J:C1 m ⟨y,names⟩=if A9 m y=true then (if names.length<=6 then (if (names.any fun x=>!A9 m x)=true then 5 else (if C8 names=true then 0 else 4)) else 2) else 5:=by
  unfold C1;have:names.all (A9 m)=!(names.any fun x=>!A9 m x):=by rw [List.any_eq_not_all_not];simp
  simp only [this];cases (names.any fun x=>!A9 m x) <;> simp
 simp only at hp ⊢;have d:Ov w ((w.alloc (ze #[zd U m,s] 24)).alloc (ze #[zd U y,nv] 87)):=(bA w _).alloc (by simp) _;have HP:=Aa fun (W:World) (F:Ov w W)=>Be hp F;have H:=fun (W:World) (h:W.cell? ⟨w.heap.size,0,none⟩=some (zd U m))=>G8 m y w.heap.size W h;have I:=fun (W:World) (g:names.length<=6) (K:Ov w W) (h:W.cell? ⟨w.heap.size,0,none⟩=some (zd U m))=>Ea 213 (zj (some ⟨w.heap.size,0,none⟩)) (fun x=>!A9 m x) nv names W (Be hp K) g (Aa fun i Z k F=>G8 m names[i] w.heap.size k (by rw [(Am F).1 _ _ (bL h)];exact h)) RT;have G:=fun (W:World) (g:names.length<=6) (K:Ov w W)=>Oz nv names W (Be hp K) g;obtain ⟨V,t⟩:=nm (A9 m y);obtain ⟨T,q⟩:=nm (names.any fun x=>!A9 m x);obtain ⟨S,l⟩:=nm (C8 names);rw [<-t,<-q,<-l] at J;rw [<-t] at H;rw [<-q] at I;rw [<-l] at G;have L:=Aa H;have Q:=Aa I;have P:=Aa G;have B:=Aa J;obtain ⟨N,A,rfl,-⟩:=hp;clear H I G J t q l
 cases V with
 | false=>
  go_enter Tryz.func169,Tryz.ntmps169;go_wp2_with fail;refine (L.o _ (by simp [go_sem])).mono ?_;rintro e k ⟨rfl,f⟩;have b:Ov w k:=d.trans (f.mono (by simp;omega));go_wp2_with fail;go_ret;exact ⟨by rw [B.o];rfl,b⟩
 | true=>
  go_enter Tryz.func169,Tryz.ntmps169;go_wp2_with fail;refine (L.o _ (by simp [go_sem])).mono ?_;rintro e k ⟨rfl,f⟩;obtain ⟨C,X⟩:=Am f;have c0:k.cell? ⟨w.heap.size,0,none⟩=some (zd U m):=by rw [C _ _ (by simp;omega)];simp [go_sem]
  have c1:k.cell? ⟨w.heap.size+1,1,none⟩=some (O N names.length A):=by rw [C _ _ (by simp)];simp [go_sem]
  have b:Ov w k:=d.trans (f.mono (by simp;omega));clear C X f d L;by_cases g:names.length<=6
  ·go_wp2_with fail
   refine (Q.o _ g b c0).mono ?_;rintro e M ⟨rfl,z⟩;have c:Ov w M:=b.trans (z.mono b.size);have Y:M.cell? ⟨w.heap.size+1,1,none⟩=some (O N names.length A):=by rw [(Am z).1 _ _ (bL c1)];exact c1
   clear c0 c1 Q
   cases T with
   | true=>
    go_wp2_with fail;go_ret;exact ⟨by rw [B.o];simp [g],c⟩
   | false=>
    go_wp2_with fail;refine (P.o _ g c).mono ?_;rintro e R ⟨rfl,E⟩;have u:Ov w R:=c.trans (E.mono c.size);clear Y P;cases S;all_goals go_wp2_with fail
    all_goals go_ret
    all_goals exact ⟨by rw [B.o];simp [g],u⟩
  ·go_wp2_with fail
   go_ret;exact ⟨by rw [B.o];simp [g],b⟩
theorem Iv {w:World} {v:Value} {ps:List Pol} (h:Au w v ps) {i:Nat} (hi:i < ps.length):∃ b off cap nv,v=O (some ⟨b,off,none⟩) ps.length cap/\w.cell? ⟨b,off+i*2,none⟩=some (zd U ps[i].owner)/\w.cell? ⟨b,off+i*2+1,none⟩=some nv/\AQ w nv ps[i].names:=by
 obtain ⟨k,cap,rfl,d⟩:=h;obtain ⟨b,off,rfl,c⟩:=d (by rintro rfl;simp at hi);obtain ⟨g,nv,f,e⟩:=c i hi;exact ⟨b,off,cap,nv,rfl,g,f,e⟩
theorem D9 (m:Int) (s vp:Value) (ps:List Pol) (w:World) (hp:Au w vp ps) :
  Calls Tryz.prog 110 #[zh #[zd U m,s],vp] w fun e w'=>e=zk (zd U (Bd m ps))/\Ov w w':=by
 have HP:=Aa hp;obtain ⟨ao,ah,rfl,-⟩:=hp;have z:Ov w (w.alloc (ze #[zd U m,s] 24)):=bA w _;have E:Bd m ps=if ps.length<=4 then BR m ps else 2:=rfl;have KP:=Aa fun (p:Pol) (A:Value) (W:World) (h:AQ W A p.names)=>Gs m s p A W h;by_cases hn:ps.length<=4
 ·rw [if_pos hn] at E
  have I:=Aa E;clear E;go_enter Tryz.func110,Tryz.ntmps110;go_wp2_with fail;go_loopw [13] (fun i wr=>∃ k:Nat,k<=ps.length/\i=zd U k/\BR m ps=BR m (ps.drop k)/\Ov w wr/\wr.cell? ⟨w.heap.size,0,none⟩=some (zd U m)/\wr.cell? ⟨w.heap.size,1,none⟩=some s) (fun i _=>ps.length - (intOf i).toNat)
  case atStart=>exact ⟨0,Nat.zero_le _,rfl,rfl,z,by simp [go_sem],by simp [go_sem]⟩
  case round=>
   obtain ⟨k,hk,rfl,q,u,c0,c1⟩:=hrel;by_cases hkl:k < ps.length
   ·obtain ⟨b,off,T,A,M,H,Q,L⟩:=Iv (Ah HP.o u) hkl
    injection M with e1 e2 e3;subst e1 e3;clear e2;have t:=E2 (m:=m) hkl;rw [<-q] at t;have aa:=bL H;have B:=bL c0;have l:Ov wr (wr.alloc (ze #[zd U ps[k].owner,A] 87)):=bA wr _;have f:=KP.o ps[k] A (wr.alloc (ze #[zd U ps[k].owner,A] 87)) (Be L l);obtain ⟨r,S⟩:=nm (C1 m ps[k]);obtain ⟨X,G⟩:=nm (ps[k].owner);rw [<-S] at t f;rw [<-G] at H l f;obtain ⟨Y,Z,F,N⟩:∃ a c n,A=O a n c:=by obtain ⟨a,c,e,_⟩:=L;exact ⟨a,c,_,e⟩
    subst N;have J:=Aa f;have V:=Aa t;have d:=u.trans (l.mono u.size);clear S G f t L q;by_cases hr0:r=0
    ·subst hr0
     go_wp2_with fail;refine (J.o).mono ?_;rintro e K ⟨rfl,g⟩;have C:=d.trans (g.mono d.size);have y:w.heap.size < (wr.alloc (ze #[zd U X,O Y F Z] 87)).heap.size:=by simp;exact Nat.lt_succ_of_lt B
     have d0:K.cell? ⟨w.heap.size,0,none⟩=some (zd U m):=by rw [(Am g).1 _ _ y,(Am l).1 _ _ B];exact c0
     have d1:K.cell? ⟨w.heap.size,1,none⟩=some s:=by rw [(Am g).1 _ _ y,(Am l).1 _ _ B];exact c1
     clear d g l H Q c0 c1 J;go_wp2_with fail;exact ⟨⟨k+1,by omega,by go_num,by rw [V.o];simp,C,d0,d1⟩,by simp [intOf];omega⟩
    ·have ab:(r != 0)=true:=by simpa using hr0
     go_wp2_with fail;refine (J.o).mono ?_;rintro e K ⟨rfl,g⟩;have C:=d.trans (g.mono d.size);clear d g l H Q c0 c1 J;go_wp2_with fail;go_ret;exact ⟨by rw [I.o,V.o];simp [hr0],C⟩
   ·have P:k=ps.length:=by omega
    have R:BR m ps=0:=by rw [q,P,List.drop_length];rfl
    have HZ:=Aa R;clear R q c0 c1;go_wp2_with fail;go_ret;exact ⟨by rw [I.o,HZ.o];rfl,u⟩
 ·rw [if_neg hn] at E
  have I:=Aa E;clear E;go_enter Tryz.func110,Tryz.ntmps110;go_wp2_with fail;go_ret;exact ⟨by rw [I.o];rfl,z⟩
end Go.Proofs.YtfffpjkcfnekaaaGreat
