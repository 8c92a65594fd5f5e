/- The document's reader in memory: what stands next, what is needed. -/
import Derived.Test.YtipngnjffjajpaaGreatDoorI15
import Derived.Test.YtipngnjffjajpaaGreatDoorI07
set_option linter.unusedVariables false
set_option maxHeartbeats 8000000
set_option maxRecDepth 100000
namespace Go.Proofs.YtipngnjffjajpaaGreatDoor.Tx
open Go.RowKit
open Go.Value renaming int -> A, slice -> O, bool -> zc, agg -> ze, pointer -> zf, tuple -> zh
open Go.IntKind renaming i64 -> J
open Go.Obj renaming cells -> zd
open Go.Ending renaming returned -> zg
def Sd (rb:Nat) (tv:Value) (ts:List Tok) (en:Nat) (s:Sg) (w:World):Prop:=
 w.heap[rb]? = some (Obj.cells #[tv,A J (s.1:Int),A J (en:Int),zc s.2] 58 (0,0))/\s.1<=ts.length/\ts.length<=6000/\∃ ao cap,tv=O ao ts.length cap /\
  (ts≠[]->∃ b off,ao=some ⟨b,off,none⟩/\b≠rb/\∀ (j:Nat) (u:Value),(AF ts)[j]? = some u->w.cell? ⟨b,off+j,none⟩=some u)
section
variable {rb:Nat} {tv:Value} {ts:List Tok} {en:Nat} {s s':Sg} {w w' V V':World}
theorem Sd.keep (h:Sd rb tv ts en s w) (hg:w.grownBy w' (some rb)) (hb:w'.heap[rb]? = some (Obj.cells #[tv,A J (s'.1:Int),A J (en:Int),zc s'.2] 58 (0,0))) (hm:s'.1<=ts.length):Sd rb tv ts en s' w':=by
 obtain ⟨_,_,t,v,l,n,r⟩:=h;refine ⟨hb,hm,t,v,l,n,fun f=>?_⟩;obtain ⟨b,c,i,a,g⟩:=r f;exact ⟨b,c,i,a,fun j u q=>hg.cell (g j u q) (by simpa using a)⟩
theorem Sd.below (h:Sd rb tv ts en s w) (hb:Ov w w'):Sd rb tv ts en s w':=by
 obtain ⟨n,x,v,y,l,q,t⟩:=h;refine ⟨by rw [hb.block rb (Array.getElem?_eq_some_iff.1 n).1];exact n,x,v,y,l,q,fun c=>?_⟩;obtain ⟨b,a,i,g,f⟩:=t c;exact ⟨b,a,i,g,fun j u r=>ce1 hb (f j u r)⟩
theorem Sd.lt (h:Sd rb tv ts en s w):rb < w.heap.size:=(Array.getElem?_eq_some_iff.1 h.1).1
theorem Sd.cells (h:Sd rb tv ts en s w):w.cell? ⟨rb,0,none⟩=some tv/\w.cell? ⟨rb,1,none⟩=some (A J (s.1:Int))/\w.cell? ⟨rb,2,none⟩=some (A J (en:Int))/\w.cell? ⟨rb,3,none⟩=some (zc s.2)/\w.frozen? ⟨rb,1,none⟩=false/\w.frozen? ⟨rb,3,none⟩=false:=by
 have:=h.1;refine ⟨?_,?_,?_,?_,?_,?_⟩ <;> simp [World.cell?,World.frozen?,this]
theorem Sd.next (h:Sd rb tv ts en s w) (hn:s.1 < ts.length) :
  Sd rb tv ts en (s.1+1,s.2) (w.setCell ⟨rb,1,none⟩ (A J ((s.1:Int)+1)))/\w.grownBy (w.setCell ⟨rb,1,none⟩ (A J ((s.1:Int)+1))) (some rb):=by
 have a:w.grownBy (w.setCell ⟨rb,1,none⟩ (A J ((s.1:Int)+1))) (some rb):=CT;refine ⟨h.keep a ?_ hn,a⟩;have:=h.1;simp [World.setCell,Array.getElem?_modify,this]
theorem Sd.fail (h:Sd rb tv ts en s w):Sd rb tv ts en (s.1,true) (w.setCell ⟨rb,3,none⟩ (zc true))/\w.grownBy (w.setCell ⟨rb,3,none⟩ (zc true)) (some rb):=by
 have a:w.grownBy (w.setCell ⟨rb,3,none⟩ (zc true)) (some rb):=CT;refine ⟨h.keep a ?_ h.2.1,a⟩;have:=h.1;simp [World.setCell,Array.getElem?_modify,this]
structure Rq (rb:Nat) (tv:Value) (ts:List Tok) (en:Nat) (w:World) (m:Nat) (s:Sg) (V:World):Prop where
 st0:∃ s0,Sd rb tv ts en s0 w
 st:Sd rb tv ts en s V
 gr:w.grownBy V (some rb)
 le:m<=s.1
theorem Rq.start (h:Sd rb tv ts en s w):Rq rb tv ts en w s.1 s w:=⟨⟨s,h⟩,h,Ad w _,Nat.le_refl _⟩
variable {m b j:Nat} {u:Value}
theorem Rq.rlt (h:Rq rb tv ts en w m s V):rb < w.heap.size:=by obtain ⟨b,a⟩:=h.st0;exact a.lt
theorem Rq.size (h:Rq rb tv ts en w m s V):w.heap.size<=V.heap.size:=h.gr.size
theorem Rq.call (h:Rq rb tv ts en w m s V) (hg:V.grownBy V' (some rb)) (hs:Sd rb tv ts en s' V') (hl:s.1<=s'.1):Rq rb tv ts en w m s' V':=⟨h.st0,hs,Ae h.gr hg,Nat.le_trans h.le hl⟩
theorem Rq.over (h:Rq rb tv ts en w m s V) (hb:Ov V V'):Rq rb tv ts en w m s V':=⟨h.st0,h.st.below hb,Ae h.gr (Ag hb),h.le⟩
theorem Rq.set (h:Rq rb tv ts en w m s V) (hb:w.heap.size<=b):Rq rb tv ts en w m s (V.setCell ⟨b,j,none⟩ u):=by
 obtain ⟨f,a⟩:=h.st0;have hr:=a.lt;have c:=AI h.gr (p:=⟨b,j,none⟩) hb u;exact ⟨⟨f,a⟩,a.keep c (by rw [Below.heap_setCell _ _ _ _ (by show rb≠b;omega)];exact h.st.1) h.st.2.1,c,h.le⟩
theorem Rq.row {B T q k:Nat} {v:Value} {xs:List Value} (h:Rq rb tv ts en w m s V) (ho:V.ownsRow B T q v k xs) (hB:w.heap.size<=B) (hg:V.grownBy V' v.ownBlock):Rq rb tv ts en w m s V':=by
 obtain ⟨j,g⟩:=h.st0;have hr:=g.lt;have b:∀ i,i < w.heap.size->some i≠v.ownBlock:=fun i f e=>by have:=(AK ho e.symm).1;omega
 have a:=h.gr;have c:w.grownBy V' (some rb):=⟨hg.os.trans a.os,hg.tape.trans a.tape,hg.output.trans a.output,Nat.le_trans a.size hg.size,fun i f l=>(hg.block i (Nat.lt_of_lt_of_le f a.size) (b i f)).trans (a.block i f l)⟩;exact ⟨⟨j,g⟩,g.keep c (by rw [hg.block rb (Nat.lt_of_lt_of_le hr a.size) (b rb hr)];exact h.st.1) h.st.2.1,c,h.le⟩
theorem Rq.box (h:Rq rb tv ts en w m s V) (hg:V.grownBy V' (some b)) (hb:w.heap.size<=b):Rq rb tv ts en w m s V':=by
 obtain ⟨j,f⟩:=h.st0;have hr:=f.lt;have a:=h.gr;have c:w.grownBy V' (some rb):=⟨hg.os.trans a.os,hg.tape.trans a.tape,hg.output.trans a.output,Nat.le_trans a.size hg.size,fun i g l=>(hg.block i (Nat.lt_of_lt_of_le g a.size) (fun e=>by injection e with e;omega)).trans (a.block i g l)⟩;exact ⟨⟨j,f⟩,f.keep c (by rw [hg.block rb (Nat.lt_of_lt_of_le hr a.size) (fun e=>by injection e with e;omega)];exact h.st.1) h.st.2.1,c,h.le⟩
theorem GG {x y z:World} {r b:Nat} (h:x.grownBy y (some r)) (hg:y.grownBy z (some b)) (hb:x.heap.size<=b):x.grownBy z (some r):=
 ⟨hg.os.trans h.os,hg.tape.trans h.tape,hg.output.trans h.output,Nat.le_trans h.size hg.size,fun i hi hn=>(hg.block i (Nat.lt_of_lt_of_le hi h.size) (fun e=>by injection e with e;omega)).trans (h.block i hi hn)⟩
def Qo (rb:Nat) (tv:Value) (ts:List Tok) (en:Nat) (w:World) (s s':Sg) (w':World):Prop:=w.grownBy w' (some rb)/\Sd rb tv ts en s' w'/\s.1<=s'.1
theorem Qo.rq (h:Rq rb tv ts en w m s V) (hq:Qo rb tv ts en V s s' V'):Rq rb tv ts en w m s' V':=h.call hq.1 hq.2.1 hq.2.2
theorem B5 (s:Sg) (w:World) (h:Sd rb tv ts en s w):Ro 28 #[zf (some ⟨rb,0,none⟩)] w (A J (AA ts en s.1)):=by
 obtain ⟨C,B,y,x,-,-⟩:=h.cells;obtain ⟨n,v⟩:=s;obtain ⟨_,t,u,E,q,rfl,f⟩:=h;dsimp only at *;by_cases hlt:n < ts.length
 ·obtain ⟨b,j,rfl,l,c⟩:=f (by rintro rfl;simp at hlt)
  obtain ⟨i,r,g⟩:=Fy c hlt;have a:AA ts en n=ts[n].pos:=by simp [AA,hlt]
  rw [a];clear a c f i g;go_enter Tryz.func28,Tryz.ntmps28
  go_wp2
  go_quiet ((fail))
  go_wp2
  go_quiet ((fail))
  go_wp2
  go_ret;exact ⟨rfl,below_drewN (below_drewN (Below.refl _ w) _) _⟩
 ·have a:AA ts en n=en:=by simp [AA,hlt]
  rw [a];clear a f;go_enter Tryz.func28,Tryz.ntmps28
  go_wp2
  go_quiet ((fail))
  go_wp2
  go_ret;exact ⟨rfl,below_drewN (Below.refl _ w) _⟩
theorem AP (k:Nat) (hk:k<=1) (s:Sg) (w:World) (h:Sd rb tv ts en s w):Ro 57 #[zf (some ⟨rb,0,none⟩),A J (k:Int)] w (.string (tx ts s k)):=by
 obtain ⟨G,F,E,C,-,-⟩:=h.cells;obtain ⟨n,v⟩:=s;obtain ⟨_,y,B,H,x,rfl,f⟩:=h;dsimp only at *
 cases v with
 | true=>
  have a:tx ts (n,true) k=⟨#[]⟩:=rfl;rw [a];clear a f;go_enter Tryz.func57,Tryz.ntmps57
  go_wp2
  go_quiet ((fail))
  go_wp2
  go_ret;exact ⟨rfl,below_drewN (Below.refl _ w) _⟩
 | false=>
  by_cases hlt:n+k < ts.length
  ·obtain ⟨b,q,rfl,u,c⟩:=f (by rintro rfl;simp at hlt)
   obtain ⟨l,j,i⟩:=Fy c hlt;have a:tx ts (n,false) k=ts[n+k].text:=by simp [tx,Au,hlt]
   rw [a];generalize ts[n+k].text=tt at i ⊢;clear a c f l j;generalize ts.length=nl at *;have r:(n:Int)+(k:Int) < (nl:Int):=by omega
   have t:decide ((nl:Int)<=(n:Int)+(k:Int))=false:=by simp;omega
   have g:decide (nl<=n+k)=false:=by simp;omega
   go_enter Tryz.func57,Tryz.ntmps57
   go_wp2
   go_quiet ((fail))
   go_wp2
   go_quiet ((fail))
   go_wp2
   go_ret;exact ⟨rfl,below_drewN (below_drewN (Below.refl _ w) _) _⟩
  ·have a:tx ts (n,false) k=⟨#[]⟩:=by simp [tx,Au,hlt]
   rw [a];clear a f;generalize ts.length=nl at *;have r:¬ (n:Int)+(k:Int) < (nl:Int):=by omega
   have t:decide ((nl:Int)<=(n:Int)+(k:Int))=true:=by simp;omega
   have g:decide (nl<=n+k)=true:=by simp;omega
   go_enter Tryz.func57,Tryz.ntmps57
   go_wp2
   go_quiet ((fail))
   go_wp2
   go_ret;exact ⟨rfl,below_drewN (Below.refl _ w) _⟩
theorem J0 (a b:List UInt8):(a == b)=decide (a=b):=by by_cases h:a=b <;> simp [h]
theorem teq (t x:ByteArray):(t.toList == x.toList)=decide (t.data.toList=x.data.toList):=by
 rw [ByteArray.toList_eq,ByteArray.toList_eq];exact J0 _ _
theorem IW (t:ByteArray) (l:List UInt8):(t.toList == l)=decide (t.data.toList=l):=by
 rw [ByteArray.toList_eq];exact J0 _ _
theorem CO {t:ByteArray} {s:Sg} {k:Nat} {l:List UInt8} (ht:t=tx ts s k) (h:tl ts s k=l):(t.toList == l)=true:=by
 rw [IW,ht];exact decide_eq_true h
theorem A9 {t:ByteArray} {s:Sg} {k:Nat} {l:List UInt8} (ht:t=tx ts s k) (h:¬ tl ts s k=l):(t.toList == l)=false:=by
 rw [IW,ht];exact decide_eq_false h
theorem Hw {s:Sg} {k:Nat} (h:tl ts s k≠[]):s.2=false/\s.1+k < ts.length:=by
 unfold tl tx at h;split at h
 ·exact absurd rfl h
 ·rename_i a
  exact ⟨by simpa using a,GW h⟩
theorem Ot (x:ByteArray) (hx:x.data.toList≠[]) (s:Sg) (w:World) (h:Sd rb tv ts en s w):Calls Tryz.prog 26 #[zf (some ⟨rb,0,none⟩),.string x] w fun e w'=>e=zg (zh #[])/\Qo rb tv ts en w s (Af ts x.data.toList s) w':=by
 obtain ⟨v,u,q,F,j,i⟩:=h.cells;obtain ⟨n,I⟩:=s;dsimp only at *
 cases I with
 | true=>
  have a:Af ts x.data.toList (n,true)=(n,true):=rfl;rw [a];have y:=Aa h;clear a h hx j i;go_enter Tryz.func26,Tryz.ntmps26;go_wp2_with fail;refine bodyPost_ret (results_none rfl _ _ _) rfl ?_;exact ⟨rfl,Ad w _,y.o,Nat.le_refl _⟩
 | false=>
  obtain ⟨t,f⟩:=nm (tx ts (n,false) 0);have KT:Hx (Ro 57 #[zf (some ⟨rb,0,none⟩),A J 0] w (.string t)):=by rw [f];exact AP 0 (by omega) (n,false) w h
  have y:=Aa h;have H:n<=6000:=Nat.le_trans h.2.1 h.2.2.1;by_cases hq:t.data.toList=x.data.toList
  ·have a:Af ts x.data.toList (n,false)=(n+1,false):=by unfold Af tl;rw [if_neg (by simp),<-f,if_pos hq]
   have g:n < ts.length:=(Hw (ts:=ts) (s:=(n,false)) (k:=0) (by unfold tl;rw [<-f,hq];exact hx)).2;rw [a];have C:=Aa g;have B:(t.toList == x.toList)=true:=by rw [teq];simpa using hq
   clear a h hx f hq g v u q j i;go_enter Tryz.func26,Tryz.ntmps26;go_wp2_with fail;refine KT.o.mono ?_;rintro e G ⟨rfl,b⟩;have c:=y.o.below b;obtain ⟨v,u,q,F,j,i⟩:=c.cells;have l:=Aa (c.next C.o);have E:=Aa (Ag (r:=some rb) b);clear b c KT;dsimp only at *;go_wp2_with fail;go_end0;exact ⟨rfl,Ae E.o l.o.2,l.o.1,Nat.le_succ _⟩
  ·have a:Af ts x.data.toList (n,false)=(n,true):=by unfold Af tl;rw [if_neg (by simp),<-f,if_neg hq]
   rw [a];have B:(t.toList == x.toList)=false:=by rw [teq];simpa using hq
   clear a h hx f hq v u q j i;go_enter Tryz.func26,Tryz.ntmps26;go_wp2_with fail;refine KT.o.mono ?_;rintro e G ⟨rfl,b⟩;have c:=y.o.below b;obtain ⟨v,u,q,F,j,i⟩:=c.cells;have l:=Aa c.fail;have E:=Aa (Ag (r:=some rb) b);clear b c KT;dsimp only at *;go_wp2_with fail;go_end0;exact ⟨rfl,Ae E.o l.o.2,l.o.1,Nat.le_refl _⟩
end
theorem Oe (l:List UInt8):Cv l=true ↔ (tk l).1=2:=by
 cases l with
 | nil=>simp [Cv,tk]
 | cons c m=>
  simp only [Cv,tk];by_cases hL:isL c=true
  ·rw [if_pos hL]
   have:isD c=false:=by
    unfold isL at hL;unfold isD;simp at hL ⊢;omega
   simp [this]
  ·rw [if_neg hL]
   by_cases hD:isD c=true
   ·rw [if_pos hD];simp [hD]
   ·rw [if_neg hD]
    simp only [hD];split
    ·simp
    ·split <;> simp
theorem En {ts:List Tok} (hall:ts.all Ak=true):OQ ts:=by
 have b:∀ t:Tok,Ak t=true->nmS t.text.data.toList=Bo t/\Cv t.text.data.toList=decide (t.kind=2):=fun t c=>by
  obtain ⟨k,a,x⟩:=t;obtain ⟨j,i,g,f⟩:=(Cz k a x).1 c;constructor
  ·unfold nmS Bo CD
   have e:(⟨x.data.toList.toArray⟩:ByteArray)=x:=(Aj rfl).symm;dsimp only;rw [e];congr 1;by_cases hk:k=1
   ·subst hk
    rw [show Ak ⟨1,0,x⟩=true from (Cz 1 0 x).2 ⟨j,i,g,f⟩];rfl
   ·have:Ak ⟨1,0,x⟩=false:=by
     rw [Bool.eq_false_iff];intro h;obtain ⟨_,_,l,_⟩:=(Cz 1 0 x).1 h;exact hk (by omega)
    rw [this];simp [hk]
  ·dsimp only
   rw [Bool.eq_iff_iff,Oe,decide_eq_true_eq];omega
 constructor <;> intro n
 ·by_cases h:n < ts.length
  ·exact (b _ (List.all_eq_true.1 hall _ (Dc h))).1
  ·have e:Au ts n=⟨0,0,⟨#[]⟩⟩:=by simp [Au,h]
   rw [e];decide
 ·by_cases h:n < ts.length
  ·exact (b _ (List.all_eq_true.1 hall _ (Dc h))).2
  ·have e:Au ts n=⟨0,0,⟨#[]⟩⟩:=by simp [Au,h]
   rw [e];decide
theorem J7 {l:List UInt8} (h:(tk l).1=2) (hl:(tk l).2=l.length):∀ c∈l,isD c=true:=by
 cases l with
 | nil=>intro c a;cases a
 | cons c m=>
  simp only [tk] at h hl;by_cases hL:isL c=true
  ·rw [if_pos hL] at h;cases h
  ·rw [if_neg hL] at h hl
   by_cases hD:isD c=true
   ·rw [if_pos hD] at hl
    exact D9 hl
   ·rw [if_neg hD] at h
    split at h
    ·cases h
    ·split at h <;> cases h
theorem Nw (l:List UInt8):∀ acc:Nat,acc<=l.foldl (fun n c=>10*n+(c.toNat - 48)) acc:=by
 induction l with
 | nil=>intro acc;exact Nat.le_refl _
 | cons c l ih=>intro acc;exact Nat.le_trans (show acc<=10*acc+(c.toNat - 48) by omega) (ih _)
theorem Kq (l:List UInt8) (j:Nat) (hj:j < l.length):Dl (l.take (j+1))=10*Dl (l.take j)+(l[j].toNat - 48):=by
 unfold Dl;rw [List.take_succ_eq_append_getElem hj,List.foldl_append];rfl
theorem JQ (l:List UInt8) (j:Nat):Dl (l.take j)<=Dl l:=by
 have h:=Nw (l.drop j) (Dl (l.take j));have e:Dl l=(l.take j++l.drop j).foldl (fun n c=>10*n+(c.toNat - 48)) 0:=by rw [List.take_append_drop];rfl
 rw [e,List.foldl_append];exact h
theorem CX (t:ByteArray) (h0:0 < t.size):Cv t.data.toList=isD t[0]:=by
 have e:t[0]=t.data.toList[0]'h0:=rfl;obtain ⟨c,m,a⟩:∃ c m,t.data.toList=c::m:=by
  cases a:t.data.toList with
  | nil=>have b:t.data.toList.length=t.size:=rfl;rw [a] at b;simp at b;omega
  | cons c m=>exact ⟨c,m,rfl⟩
 rw [e];simp only [a,Cv,List.getElem_cons_zero]
section
variable {rb:Nat} {tv:Value} {ts:List Tok} {en:Nat}
theorem JC (hall:ts.all Ak=true) (s:Sg) (k:Nat):(tx ts s k).size<=6000:=by
 unfold tx;split
 ·exact Nat.zero_le _
 ·by_cases h:s.1+k < ts.length
  ·exact Cp (List.all_eq_true.1 hall _ (Dc h))
  ·have e:Au ts (s.1+k)=⟨0,0,⟨#[]⟩⟩:=by simp [Au,h]
   rw [e];exact Nat.zero_le _
theorem B2 (hall:ts.all Ak=true) (s:Sg) (w:World) (h:Sd rb tv ts en s w):Calls Tryz.prog 58 #[zf (some ⟨rb,0,none⟩)] w fun e w'=>e=zg (.string (Ay ts s).1)/\Qo rb tv ts en w s (Ay ts s).2 w':=by
 obtain ⟨t,g⟩:=nm (tx ts s 0);have KT:Hx (Ro 57 #[zf (some ⟨rb,0,none⟩),A J 0] w (.string t)):=by rw [g];exact AP 0 (by omega) s w h
 have c:t.size<=maxLen:=by rw [g];exact Nat.le_trans (JC hall s 0) (by unfold maxLen;omega)
 obtain ⟨q,i⟩:=nm (nmS t.data.toList);have n:Hx (∀ X,Ro 77 #[.string t] X (zc q)):=fun X=>by rw [i];exact AG t X c
 have x:=Aa h;have C:s.1<=6000:=Nat.le_trans h.2.1 h.2.2.1;have hr:Ay ts s=if q=true then (t,(s.1+1,s.2)) else (noS,(s.1,true)):=by unfold Ay tl B8;rw [<-g,<-i]
 cases q with
 | true=>
  have j:s.1 < ts.length:=(Hw (ts:=ts) (s:=s) (k:=0) (by
   unfold tl;rw [<-g];intro e;rw [e,EH] at i;cases i)).2
  rw [hr,if_pos rfl];have u:=Aa j;clear hr h g i j c;go_enter Tryz.func58,Tryz.ntmps58;go_wp2_with fail;refine KT.o.mono ?_;rintro e B ⟨rfl,a⟩;have b:=Aa a;clear a KT;go_wp2_with fail;refine (n.o _).mono ?_;rintro e y ⟨rfl,a⟩;have f:=x.o.below (Ab b.o a);obtain ⟨K,I,H,G,F,E⟩:=f.cells;have l:=Aa (f.next u.o);have v:=Aa (Ag (r:=some rb) (Ab b.o a));clear a f n;go_wp2_with fail;go_ret;exact ⟨rfl,Ae v.o l.o.2,l.o.1,Nat.le_succ _⟩
 | false=>
  rw [hr,if_neg (by simp)];clear hr h g i c;go_enter Tryz.func58,Tryz.ntmps58;go_wp2_with fail;refine KT.o.mono ?_;rintro e B ⟨rfl,a⟩;have b:=Aa a;clear a KT;go_wp2_with fail;refine (n.o _).mono ?_;rintro e y ⟨rfl,a⟩;have f:=x.o.below (Ab b.o a);obtain ⟨K,I,H,G,F,E⟩:=f.cells;have l:=Aa f.fail;have v:=Aa (Ag (r:=some rb) (Ab b.o a));clear a f n;go_wp2_with fail;go_ret;exact ⟨rfl,Ae v.o l.o.2,l.o.1,Nat.le_refl _⟩
theorem Gr (hall:ts.all Ak=true) (s:Sg) (h:Cv (tl ts s 0)=true):s.1 < ts.length/\(tx ts s 0).size<=18/\Dl (tl ts s 0)<=9999999/\∀ c∈tl ts s 0,isD c=true:=by
 obtain ⟨i,b⟩:=Hw (ts:=ts) (s:=s) (k:=0) (by intro e;rw [e] at h;cases h);have e:tx ts s 0=(Au ts s.1).text:=by unfold tx;rw [if_neg (by rw [i];simp)];rfl
 unfold tl at h ⊢;rw [e] at h ⊢;have a:s.1 < ts.length:=b;have g:Ak (Au ts s.1)=true:=List.all_eq_true.1 hall _ (Dc a);have f:(Au ts s.1).kind=2:=by have:=(En hall).nu s.1;rw [h] at this;simpa using this.symm
 obtain ⟨q,-,-,n⟩:=Hr g f;obtain ⟨-,-,l,j⟩:=(Cz (Au ts s.1).kind (Au ts s.1).pos (Au ts s.1).text).1 g;exact ⟨b,q,n,J7 (by rw [f] at l;omega) j⟩
theorem FV (hall:ts.all Ak=true) (s:Sg) (w:World) (h:Sd rb tv ts en s w):Calls Tryz.prog 103 #[zf (some ⟨rb,0,none⟩)] w fun e w'=>e=zg (A J (DH ts s).1)/\Qo rb tv ts en w s (DH ts s).2 w':=by
 obtain ⟨t,F⟩:=nm (tx ts s 0);have KT:Hx (Ro 57 #[zf (some ⟨rb,0,none⟩),A J 0] w (.string t)):=by rw [F];exact AP 0 (by omega) s w h
 have U:=Aa h;have ai:s.1<=6000:=Nat.le_trans h.2.1 h.2.2.1;have b:tl ts s 0=t.data.toList:=by unfold tl;rw [F]
 by_cases hq:Cv (tl ts s 0)=true
 ·have hr:DH ts s=((Dl t.data.toList:Int),(s.1+1,s.2)):=by unfold DH;rw [if_pos hq,b]
  obtain ⟨H,R,g,l⟩:=Gr hall s hq;rw [<-F] at R;rw [b] at g l hq;rw [hr];obtain ⟨nn,y⟩:=nm (Dl t.data.toList);rw [<-y];have V:=Aa y;clear y;have S:0 < t.size:=by
   have e:t.data.toList.length=t.size:=rfl
   cases hl:t.data.toList with
   | nil=>rw [hl] at hq;cases hq
   | cons c m=>rw [hl] at e;simp at e;omega
  have G:(t.toList == [])=false:=by
   rw [IW];simp;intro e;rw [e] at hq;cases hq
  have n:isD t[0]=true:=by rw [<-CX t S];exact hq
  have K:Hx (∀ X,Calls Tryz.prog 101 #[A .u8 (t[0].toNat:Int)] X fun e w'=>e=zg (zc true)/\X=w'):=fun X=>by
   have:=A3 t[0] X;rw [n] at this;exact this.mono fun e w' h=>⟨h.1,h.2.symm⟩
  have W:=Aa H;have Y:=Aa l;have L:=Aa g;have ah:t.size<=9223372036854775807:=by omega
  clear hr h F b hq H l g n;go_enter Tryz.func103,Tryz.ntmps103;go_wp2_with fail;refine KT.o.mono ?_;rintro e N ⟨rfl,v⟩;have u:=Aa v;clear v KT;go_wp2_with fail;refine (K.o _).mono ?_;rintro e w2 ⟨rfl,rfl⟩;clear K;go_wp2_with fail;go_loopw [4,5] (fun a i wr=>∃ j:Nat,j<=t.size/\i=A J (j:Int)/\a=A J (Dl (t.data.toList.take j):Int)/\N=wr) (fun _ i _=>t.size - (intOf i).toNat)
  case atStart=>exact ⟨0,Nat.zero_le _,rfl,rfl,rfl⟩
  case round=>
   obtain ⟨j,hj,rfl,rfl,rfl⟩:=hrel;by_cases hjl:j < t.size
   ·have Q:(j:Int) < (t.size:Int):=by omega
    have C:t.data.toList[j]'hjl=t[j]:=rfl;have E:=Y.o t[j] (by rw [<-C];exact List.getElem_mem _);have f:=Kq t.data.toList j hjl;rw [C] at f;have P:=JQ t.data.toList (j+1);have O:=L.o;have aj:48<=t[j].toNat/\t[j].toNat<=57:=by unfold isD at E;simpa using E
    obtain ⟨n0,B⟩:=nm (Dl (t.data.toList.take j));rw [<-B] at f ⊢;have T:=Aa f;have ak:n0<=9999999:=by rw [B];exact Nat.le_trans (JQ _ _) L.o
    clear f P O B E C;go_wp2_with fail;refine ⟨⟨j+1,by omega,by go_num,?_,by trivial⟩,by simp [intOf];omega⟩;have f:=T.o;rw [f];go_num
   ·have Q:¬ (j:Int) < (t.size:Int):=by omega
    have I:t.data.toList.take j=t.data.toList:=List.take_of_length_le (by show t.size<=j;omega);rw [I,<-V.o];have q:=U.o.below u.o;obtain ⟨c0,c1,c2,c3,f1,Z⟩:=q.cells;have x:=Aa (q.next W.o);have M:=Aa (Ag (r:=some rb) u.o);clear q I;go_wp2_with fail;go_ret;exact ⟨rfl,Ae M.o x.o.2,x.o.1,Nat.le_succ _⟩
 ·have hr:DH ts s=(0,(s.1,true)):=by unfold DH;rw [if_neg hq];rfl
  rw [b] at hq;rw [hr];by_cases hemp:t.data.toList=[]
  ·have G:(t.toList == [])=true:=by rw [IW];simpa using hemp
   clear hr h F b hq hemp;go_enter Tryz.func103,Tryz.ntmps103;go_wp2_with fail;refine KT.o.mono ?_;rintro e N ⟨rfl,v⟩;have q:=U.o.below v;obtain ⟨c0,c1,c2,c3,f1,Z⟩:=q.cells;have x:=Aa q.fail;have M:=Aa (Ag (r:=some rb) v);clear v q KT;go_wp2_with fail;go_ret;exact ⟨rfl,Ae M.o x.o.2,x.o.1,Nat.le_refl _⟩
  ·have G:(t.toList == [])=false:=by rw [IW];simpa using hemp
   have S:0 < t.size:=by
    have e:t.data.toList.length=t.size:=rfl;have:=List.length_pos_iff.2 hemp;omega
   have n:isD t[0]=false:=by rw [<-CX t S];simpa using hq
   have K:Hx (∀ X,Calls Tryz.prog 101 #[A .u8 (t[0].toNat:Int)] X fun e w'=>e=zg (zc false)/\X=w'):=fun X=>by
    have:=A3 t[0] X;rw [n] at this;exact this.mono fun e w' h=>⟨h.1,h.2.symm⟩
   clear hr h F b hq hemp n;go_enter Tryz.func103,Tryz.ntmps103;go_wp2_with fail;refine KT.o.mono ?_;rintro e N ⟨rfl,v⟩;have u:=Aa v;clear v KT;go_wp2_with fail;refine (K.o _).mono ?_;rintro e w2 ⟨rfl,rfl⟩;have q:=U.o.below u.o;obtain ⟨c0,c1,c2,c3,f1,Z⟩:=q.cells;have x:=Aa q.fail;have M:=Aa (Ag (r:=some rb) u.o);clear q K;go_wp2_with fail;go_ret;exact ⟨rfl,Ae M.o x.o.2,x.o.1,Nat.le_refl _⟩
end
end Go.Proofs.YtipngnjffjajpaaGreatDoor.Tx
