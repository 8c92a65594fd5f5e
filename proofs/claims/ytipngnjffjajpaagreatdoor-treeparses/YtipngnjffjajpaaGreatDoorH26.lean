/- The document's reader in memory: names and numbers. -/
import Derived.Test.YtipngnjffjajpaaGreatDoorH25
set_option linter.unusedVariables false
set_option maxHeartbeats 8000000
set_option maxRecDepth 100000
namespace Go.Proofs.YtipngnjffjajpaaGreatDoor.Tx
open Go.RowKit
open Go.Value renaming int -> M, slice -> U, bool -> zc, pointer -> zd, agg -> zf, tuple -> zh
open Go.IntKind renaming i64 -> O
open Go.Obj renaming cells -> ze
open Go.Ending renaming returned -> zg
theorem Mw (l:List UInt8):CH l=true ↔ (tk l).1=2:=by
 cases l with
 | nil=>simp [CH,tk]
 | cons c m=>
  simp only [CH,tk];by_cases hL:isL c=true
  ·rw [if_pos hL]
   have:isD c=false:=by
    unfold isL at hL;unfold isD;simp at hL ⊢;omega
   simp [this]
  ·rw [if_neg hL]
   by_cases hD:isD c=true
   ·rw [if_pos hD];simp [hD]
   ·rw [if_neg hD]
    simp only [hD];split
    ·simp
    ·split <;> simp
theorem Eo {ts:List Tok} (hall:ts.all An=true):M1 ts:=by
 have b:∀ t:Tok,An t=true->nmS t.text.data.toList=AU t/\CH t.text.data.toList=decide (t.kind=2):=fun t c=>by
  obtain ⟨k,a,x⟩:=t;obtain ⟨j,i,g,f⟩:=(C9 k a x).1 c;constructor
  ·unfold nmS AU Cz
   have e:(⟨x.data.toList.toArray⟩:ByteArray)=x:=(Aq rfl).symm;dsimp only;rw [e];congr 1;by_cases hk:k=1
   ·subst hk
    rw [show An ⟨1,0,x⟩=true from (C9 1 0 x).2 ⟨j,i,g,f⟩];rfl
   ·have:An ⟨1,0,x⟩=false:=by
     rw [Bool.eq_false_iff];intro h;obtain ⟨_,_,l,_⟩:=(C9 1 0 x).1 h;exact hk (by omega)
    rw [this];simp [hk]
  ·dsimp only
   rw [Bool.eq_iff_iff,Mw,decide_eq_true_eq];omega
 constructor <;> intro n
 ·by_cases h:n < ts.length
  ·exact (b _ (List.all_eq_true.1 hall _ (CK h))).1
  ·have e:Ah ts n=⟨0,0,⟨#[]⟩⟩:=by simp [Ah,h]
   rw [e];decide
 ·by_cases h:n < ts.length
  ·exact (b _ (List.all_eq_true.1 hall _ (CK h))).2
  ·have e:Ah ts n=⟨0,0,⟨#[]⟩⟩:=by simp [Ah,h]
   rw [e];decide
theorem JE {l:List UInt8} (h:(tk l).1=2) (hl:(tk l).2=l.length):∀ c∈l,isD c=true:=by
 cases l with
 | nil=>intro c a;cases a
 | cons c m=>
  simp only [tk] at h hl;by_cases hL:isL c=true
  ·rw [if_pos hL] at h;cases h
  ·rw [if_neg hL] at h hl
   by_cases hD:isD c=true
   ·rw [if_pos hD] at hl
    exact Ed hl
   ·rw [if_neg hD] at h
    split at h
    ·cases h
    ·split at h <;> cases h
theorem L7 (l:List UInt8):∀ acc:Nat,acc<=l.foldl (fun n c=>10*n+(c.toNat - 48)) acc:=by
 induction l with
 | nil=>intro acc;exact Nat.le_refl _
 | cons c l ih=>intro acc;exact Nat.le_trans (show acc<=10*acc+(c.toNat - 48) by omega) (ih _)
theorem JY (l:List UInt8) (j:Nat) (hj:j < l.length):CX (l.take (j+1))=10*CX (l.take j)+(l[j].toNat - 48):=by
 unfold CX;rw [List.take_succ_eq_append_getElem hj,List.foldl_append];rfl
theorem Jp (l:List UInt8) (j:Nat):CX (l.take j)<=CX l:=by
 have h:=L7 (l.drop j) (CX (l.take j));have e:CX l=(l.take j++l.drop j).foldl (fun n c=>10*n+(c.toNat - 48)) 0:=by rw [List.take_append_drop];rfl
 rw [e,List.foldl_append];exact h
theorem C8 (t:ByteArray) (h0:0 < t.size):CH t.data.toList=isD t[0]:=by
 have e:t[0]=t.data.toList[0]'h0:=rfl;obtain ⟨c,m,a⟩:∃ c m,t.data.toList=c::m:=by
  cases a:t.data.toList with
  | nil=>have b:t.data.toList.length=t.size:=rfl;rw [a] at b;simp at b;omega
  | cons c m=>exact ⟨c,m,rfl⟩
 rw [e];simp only [a,CH,List.getElem_cons_zero]
section
variable {rb:Nat} {tv:Value} {ts:List Tok} {en:Nat}
theorem Jc (hall:ts.all An=true) (s:Sg) (k:Nat):(tx ts s k).size<=6000:=by
 unfold tx;split
 ·exact Nat.zero_le _
 ·by_cases h:s.1+k < ts.length
  ·exact CA (List.all_eq_true.1 hall _ (CK h))
  ·have e:Ah ts (s.1+k)=⟨0,0,⟨#[]⟩⟩:=by simp [Ah,h]
   rw [e];exact Nat.zero_le _
theorem Ce (hall:ts.all An=true) (s:Sg) (w:World) (h:Sd rb tv ts en s w):Calls Tryz.prog 58 #[zd (some ⟨rb,0,none⟩)] w fun e w'=>e=zg (.string (AJ ts s).1)/\Qo rb tv ts en w s (AJ ts s).2 w':=by
 obtain ⟨t,g⟩:=nm (tx ts s 0);have m:Hx (Ro 57 #[zd (some ⟨rb,0,none⟩),M O 0] w (.string t)):=by rw [g];exact AY 0 (by omega) s w h
 have c:t.size<=maxLen:=by rw [g];exact Nat.le_trans (Jc hall s 0) (by unfold maxLen;omega)
 obtain ⟨q,i⟩:=nm (nmS t.data.toList);have n:Hx (∀ X,Ro 77 #[.string t] X (zc q)):=fun X=>by rw [i];exact AV t X c
 have x:=Aa h;have B:s.1<=6000:=Nat.le_trans h.2.1 h.2.2.1;have hr:AJ ts s=if q=true then (t,(s.1+1,s.2)) else (noS,(s.1,true)):=by unfold AJ tl Ci;rw [<-g,<-i]
 cases q with
 | true=>
  have j:s.1 < ts.length:=(G3 (ts:=ts) (s:=s) (k:=0) (by
   unfold tl;rw [<-g];intro e;rw [e,EE] at i;cases i)).2
  rw [hr,if_pos rfl];have u:=Aa j;clear hr h g i j c;go_enter Tryz.func58,Tryz.ntmps58;go_wp2_with fail;refine m.o.mono ?_;rintro e A ⟨rfl,a⟩;have b:=Aa a;clear a m;go_wp2_with fail;refine (n.o _).mono ?_;rintro e y ⟨rfl,a⟩;have f:=x.o.below (Ab b.o a);obtain ⟨I,H,G,F,E,C⟩:=f.cells;have l:=Aa (f.next u.o);have v:=Aa (Ad (r:=some rb) (Ab b.o a));clear a f n;go_wp2_with fail;go_ret;exact ⟨rfl,Ac v.o l.o.2,l.o.1,Nat.le_succ _⟩
 | false=>
  rw [hr,if_neg (by simp)];clear hr h g i c;go_enter Tryz.func58,Tryz.ntmps58;go_wp2_with fail;refine m.o.mono ?_;rintro e A ⟨rfl,a⟩;have b:=Aa a;clear a m;go_wp2_with fail;refine (n.o _).mono ?_;rintro e y ⟨rfl,a⟩;have f:=x.o.below (Ab b.o a);obtain ⟨I,H,G,F,E,C⟩:=f.cells;have l:=Aa f.fail;have v:=Aa (Ad (r:=some rb) (Ab b.o a));clear a f n;go_wp2_with fail;go_ret;exact ⟨rfl,Ac v.o l.o.2,l.o.1,Nat.le_refl _⟩
theorem Gd (hall:ts.all An=true) (s:Sg) (h:CH (tl ts s 0)=true):s.1 < ts.length/\(tx ts s 0).size<=18/\CX (tl ts s 0)<=9999999/\∀ c∈tl ts s 0,isD c=true:=by
 obtain ⟨i,b⟩:=G3 (ts:=ts) (s:=s) (k:=0) (by intro e;rw [e] at h;cases h);have e:tx ts s 0=(Ah ts s.1).text:=by unfold tx;rw [if_neg (by rw [i];simp)];rfl
 unfold tl at h ⊢;rw [e] at h ⊢;have a:s.1 < ts.length:=b;have g:An (Ah ts s.1)=true:=List.all_eq_true.1 hall _ (CK a);have f:(Ah ts s.1).kind=2:=by have:=(Eo hall).nu s.1;rw [h] at this;simpa using this.symm
 obtain ⟨n,-,-,m⟩:=DC g f;obtain ⟨-,-,l,j⟩:=(C9 (Ah ts s.1).kind (Ah ts s.1).pos (Ah ts s.1).text).1 g;exact ⟨b,n,m,JE (by rw [f] at l;omega) j⟩
theorem FN (hall:ts.all An=true) (s:Sg) (w:World) (h:Sd rb tv ts en s w):Calls Tryz.prog 103 #[zd (some ⟨rb,0,none⟩)] w fun e w'=>e=zg (M O (DQ ts s).1)/\Qo rb tv ts en w s (DQ ts s).2 w':=by
 obtain ⟨t,E⟩:=nm (tx ts s 0);have F:Hx (Ro 57 #[zd (some ⟨rb,0,none⟩),M O 0] w (.string t)):=by rw [E];exact AY 0 (by omega) s w h
 have V:=Aa h;have aj:s.1<=6000:=Nat.le_trans h.2.1 h.2.2.1;have b:tl ts s 0=t.data.toList:=by unfold tl;rw [E]
 by_cases hq:CH (tl ts s 0)=true
 ·have hr:DQ ts s=((CX t.data.toList:Int),(s.1+1,s.2)):=by unfold DQ;rw [if_pos hq,b]
  obtain ⟨H,S,g,k⟩:=Gd hall s hq;rw [<-E] at S;rw [b] at g k hq;rw [hr];obtain ⟨nn,y⟩:=nm (CX t.data.toList);rw [<-y];have W:=Aa y;clear y;have T:0 < t.size:=by
   have e:t.data.toList.length=t.size:=rfl
   cases hl:t.data.toList with
   | nil=>rw [hl] at hq;cases hq
   | cons c m=>rw [hl] at e;simp at e;omega
  have G:(t.toList == [])=false:=by
   rw [It];simp;intro e;rw [e] at hq;cases hq
  have l:isD t[0]=true:=by rw [<-C8 t T];exact hq
  have J:Hx (∀ X,Calls Tryz.prog 101 #[M .u8 (t[0].toNat:Int)] X fun e w'=>e=zg (zc true)/\X=w'):=fun X=>by
   have:=Bb t[0] X;rw [l] at this;exact this.mono fun e w' h=>⟨h.1,h.2.symm⟩
  have Y:=Aa H;have Z:=Aa k;have K:=Aa g;have ai:t.size<=9223372036854775807:=by omega
  clear hr h E b hq H k g l;go_enter Tryz.func103,Tryz.ntmps103;go_wp2_with fail;refine F.o.mono ?_;rintro e N ⟨rfl,v⟩;have u:=Aa v;clear v F;go_wp2_with fail;refine (J.o _).mono ?_;rintro e w2 ⟨rfl,rfl⟩;clear J;go_wp2_with fail;go_loopw [4,5] (fun a i wr=>∃ j:Nat,j<=t.size/\i=M O (j:Int)/\a=M O (CX (t.data.toList.take j):Int)/\N=wr) (fun _ i _=>t.size - (intOf i).toNat)
  case atStart=>exact ⟨0,Nat.zero_le _,rfl,rfl,rfl⟩
  case round=>
   obtain ⟨j,hj,rfl,rfl,rfl⟩:=hrel;by_cases hjl:j < t.size
   ·have R:(j:Int) < (t.size:Int):=by omega
    have B:t.data.toList[j]'hjl=t[j]:=rfl;have C:=Z.o t[j] (by rw [<-B];exact List.getElem_mem _);have f:=JY t.data.toList j hjl;rw [B] at f;have Q:=Jp t.data.toList (j+1);have P:=K.o;have ak:48<=t[j].toNat/\t[j].toNat<=57:=by unfold isD at C;simpa using C
    obtain ⟨n0,A⟩:=nm (CX (t.data.toList.take j));rw [<-A] at f ⊢;have U:=Aa f;have al:n0<=9999999:=by rw [A];exact Nat.le_trans (Jp _ _) K.o
    clear f Q P A C B;go_wp2_with fail;refine ⟨⟨j+1,by omega,by go_num,?_,by trivial⟩,by simp [intOf];omega⟩;have f:=U.o;rw [f];go_num
   ·have R:¬ (j:Int) < (t.size:Int):=by omega
    have I:t.data.toList.take j=t.data.toList:=List.take_of_length_le (by show t.size<=j;omega);rw [I,<-W.o];have n:=V.o.below u.o;obtain ⟨c0,c1,c2,c3,f1,f3⟩:=n.cells;have x:=Aa (n.next Y.o);have L:=Aa (Ad (r:=some rb) u.o);clear n I;go_wp2_with fail;go_ret;exact ⟨rfl,Ac L.o x.o.2,x.o.1,Nat.le_succ _⟩
 ·have hr:DQ ts s=(0,(s.1,true)):=by unfold DQ;rw [if_neg hq];rfl
  rw [b] at hq;rw [hr];by_cases hemp:t.data.toList=[]
  ·have G:(t.toList == [])=true:=by rw [It];simpa using hemp
   clear hr h E b hq hemp;go_enter Tryz.func103,Tryz.ntmps103;go_wp2_with fail;refine F.o.mono ?_;rintro e N ⟨rfl,v⟩;have n:=V.o.below v;obtain ⟨c0,c1,c2,c3,f1,f3⟩:=n.cells;have x:=Aa n.fail;have L:=Aa (Ad (r:=some rb) v);clear v n F;go_wp2_with fail;go_ret;exact ⟨rfl,Ac L.o x.o.2,x.o.1,Nat.le_refl _⟩
  ·have G:(t.toList == [])=false:=by rw [It];simpa using hemp
   have T:0 < t.size:=by
    have e:t.data.toList.length=t.size:=rfl;have:=List.length_pos_iff.2 hemp;omega
   have l:isD t[0]=false:=by rw [<-C8 t T];simpa using hq
   have J:Hx (∀ X,Calls Tryz.prog 101 #[M .u8 (t[0].toNat:Int)] X fun e w'=>e=zg (zc false)/\X=w'):=fun X=>by
    have:=Bb t[0] X;rw [l] at this;exact this.mono fun e w' h=>⟨h.1,h.2.symm⟩
   clear hr h E b hq hemp l;go_enter Tryz.func103,Tryz.ntmps103;go_wp2_with fail;refine F.o.mono ?_;rintro e N ⟨rfl,v⟩;have u:=Aa v;clear v F;go_wp2_with fail;refine (J.o _).mono ?_;rintro e w2 ⟨rfl,rfl⟩;have n:=V.o.below u.o;obtain ⟨c0,c1,c2,c3,f1,f3⟩:=n.cells;have x:=Aa n.fail;have L:=Aa (Ad (r:=some rb) u.o);clear n J;go_wp2_with fail;go_ret;exact ⟨rfl,Ac L.o x.o.2,x.o.1,Nat.le_refl _⟩
end
end Go.Proofs.YtipngnjffjajpaaGreatDoor.Tx
