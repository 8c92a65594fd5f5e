/- Plain: the tokens of a text stand in it one behind the other. -/
import Derived.Test.YtipngnjffjajpaaGreatDoorH02
import Derived.Lib.SmallJoins
import Derived.Lib.AtoiErrMem
import Derived.Deep.AppendLies
set_option linter.unusedVariables false
set_option maxHeartbeats 8000000
set_option maxRecDepth 100000
namespace Go.Proofs.YtipngnjffjajpaaGreatDoor
open Go.RowKit
open Go.Value renaming int -> M, slice -> U, bool -> zc, pointer -> zd, agg -> zf, tuple -> zh
open Go.IntKind renaming i64 -> O
open Go.Obj renaming cells -> ze
open Go.Ending renaming returned -> zg
def LX (s:ByteArray):Nat->List Tok->Prop
 | _,[]=>True
 | a,t::ts=>∃ p:Nat,t.pos=p/\a<=p/\0 < t.text.size/\p+t.text.size<=s.size/\t.text=s.extract p (p+t.text.size)/\LX s (p+t.text.size) ts
theorem I4 (s:ByteArray):∀ (f:Nat) (note:Bool) (i:Nat) (ts:List Tok),Bl s f note i=.inl ts->LX s i ts:=by
 intro f
 induction f with
 | zero=>intro note i ts h;simp only [Bl,Sum.inl.injEq] at h;subst h;exact trivial
 | succ f ih=>
  intro note i ts h;simp only [Bl] at h;split at h
  ·rename_i j
   split at h
   ·rename_i k
    have b:=B5 k
    cases hr:Bl s f false (AA s (AR note s.data.toList i)).2 with
    | inl c=>
     rw [hr] at h;simp only [Sum.inl.injEq] at h;subst h;have g:(s.extract (AR note s.data.toList i) (AA s (AR note s.data.toList i)).2).size=(AA s (AR note s.data.toList i)).2 - AR note s.data.toList i:=by
      rw [ByteArray.size_extract,Nat.min_eq_left b.2]
     have a:AR note s.data.toList i+(s.extract (AR note s.data.toList i) (AA s (AR note s.data.toList i)).2).size=(AA s (AR note s.data.toList i)).2:=by omega
     refine ⟨AR note s.data.toList i,rfl,DN _ _ _,?_,?_,?_,?_⟩
     ·show 0 < (s.extract _ _).size
      omega
     ·show _+(s.extract _ _).size<=_
      omega
     ·show s.extract _ _=s.extract _ (_+(s.extract _ _).size)
      rw [a]
     ·show LX s (_+(s.extract _ _).size) c
      rw [a];exact ih _ _ _ hr
    | inr x=>rw [hr] at h;simp at h
   ·simp at h
  ·simp only [Sum.inl.injEq] at h;subst h;exact trivial
theorem Hj {s:ByteArray} (h:A8 s=0) (hne:∀ x,Cc s=.inr x->x.2≠0):Cc s=.inl (AB s):=by
 cases hs:Cc s with
 | inl a=>simp [AB,hs]
 | inr x=>simp [A8,hs] at h;exact absurd h (hne x hs)
theorem JM (s:ByteArray):∀ (f:Nat) (note:Bool) (i:Nat) (x:Nat × Nat),Bl s f note i=.inr x->x.2≠0:=by
 intro f
 induction f with
 | zero=>intro note i x h;simp [Bl] at h
 | succ f ih=>
  intro note i x h;simp only [Bl] at h;split at h
  ·split at h
   ·cases hr:Bl s f false (AA s (AR note s.data.toList i)).2 with
    | inl b=>rw [hr] at h;simp at h
    | inr y=>rw [hr] at h;simp only [Sum.inr.injEq] at h;subst h;exact ih _ _ _ hr
   ·rename_i a
    simp only [Sum.inr.injEq] at h;subst h;exact a
  ·simp at h
theorem L3 {s:ByteArray} (h:A8 s=0):Cc s=.inl (AB s):=Hj h fun x hx=>JM s _ _ _ x hx
theorem Fo (n a b:Int) (w:World) :
  Calls Tryz.prog 76 #[M O n,M O a,M O b] w fun e w'=>e=zg (zc (decide (a<=n/\n<=b)))/\w'=w:=by
 by_cases h1:a<=n
 ·go_enter Tryz.func76,Tryz.ntmps76
  go_wp2
  go_ret;exact ⟨by simp [h1],rfl⟩
 ·go_enter Tryz.func76,Tryz.ntmps76
  go_wp2
  go_ret;exact ⟨by simp;omega,rfl⟩
theorem Jw (c:UInt8):c.toNat < 256:=c.toNat_lt
theorem B6 (c:UInt8) (w:World) :
  Calls Tryz.prog 100 #[M .u8 (c.toNat:Int)] w fun e w'=>e=zg (zc (isL c))/\w'=w:=by
 have f:=Jw c;have e:decide ((97:Int)<=(c.toNat:Int)/\(c.toNat:Int)<=122)=isL c:=by
  unfold isL;rw [decide_eq_decide];omega
 have a:=fun w=>Fo (c.toNat:Int) 97 122 w;rw [e] at a;have b:=Aa a;clear a e;go_enter Tryz.func100,Tryz.ntmps100;go_wp2_with fail;refine (b.out _).mono ?_;rintro e w' ⟨rfl,rfl⟩;go_wp2_with fail;go_ret;exact ⟨rfl,rfl⟩
theorem Bb (c:UInt8) (w:World) :
  Calls Tryz.prog 101 #[M .u8 (c.toNat:Int)] w fun e w'=>e=zg (zc (isD c))/\w'=w:=by
 have f:=Jw c;have e:decide ((48:Int)<=(c.toNat:Int)/\(c.toNat:Int)<=57)=isD c:=by
  unfold isD;rw [decide_eq_decide];omega
 have a:=fun w=>Fo (c.toNat:Int) 48 57 w;rw [e] at a;have b:=Aa a;clear a e;go_enter Tryz.func101,Tryz.ntmps101;go_wp2_with fail;refine (b.out _).mono ?_;rintro e w' ⟨rfl,rfl⟩;go_wp2_with fail;go_ret;exact ⟨rfl,rfl⟩
theorem Gx (s:ByteArray) (a:Nat) (ha:a < s.size) (hs:s.size<=6000) (hL:isL s[a]=true) (w:World) :
  Calls Tryz.prog 56 #[.string s,M O (a:Int)] w fun e w'=>e=zg (zh #[M O 1,M O ((AG isN s.data.toList a - a:Nat):Int)])/\w'=w:=by
 have i:=B6 s[a];rw [hL] at i;have u:=Aa i;have c:AG isN s.data.toList (a+1)=AG isN s.data.toList a:=(C3 (by simpa using ha) (by show isN s[a]=true;simp [isN,hL])).symm;clear i hL;go_enter Tryz.func56,Tryz.ntmps56;go_wp2_with fail;refine (u.out _).mono ?_;rintro e w' ⟨rfl,rfl⟩;go_wp2_with fail
 go_loop [7] (fun n=>∃ k:Nat,1<=k/\a+k<=s.size/\n=M O k/\Hid (AG isN s.data.toList (a+k)=AG isN s.data.toList a)) (fun n=>s.size - (intOf n).toNat)
 case atStart=>exact ⟨1,Nat.le_refl _,by omega,rfl,c⟩
 case round=>
  obtain ⟨k,E,F,rfl,y⟩:=hrel;clear c u;by_cases hlt:a+k < s.size
  ·have g:isN s[a+k]=true->AG isN s.data.toList (a+(k+1))=AG isN s.data.toList a:=fun h=>by
    rw [<-y.out];exact (C3 (by simpa using hlt) h).symm
   have f:isN s[a+k]=false->AG isN s.data.toList a=a+k:=fun h=>by
    rw [<-y.out];exact Ei (by simpa using hlt) h
   have v:=Aa g;have x:=Aa f;clear g f;by_cases hL:isL s[a+k]=true
   ·have i:=B6 s[a+k]
    rw [hL] at i;have u:=Aa i;have l:isN s[a+k]=true:=by simp [isN,hL]
    have A:=Aa l;clear i hL l;go_wp2_with fail;refine (u.out _).mono ?_;rintro e w' ⟨rfl,rfl⟩;go_wp2_with fail;exact ⟨⟨k+1,by omega,by omega,by go_num,v.out A.out⟩,by simp [intOf];omega⟩
   have j:isL s[a+k]=false:=by simpa using hL
   have i:=B6 s[a+k];rw [j] at i;have u:=Aa i;clear i hL;by_cases hD:isD s[a+k]=true
   ·have m:=Bb s[a+k]
    rw [hD] at m;have C:=Aa m;have l:isN s[a+k]=true:=by simp [isN,hD]
    have A:=Aa l;clear m hD l j;go_wp2_with fail;refine (u.out _).mono ?_;rintro e w' ⟨rfl,rfl⟩;go_wp2_with fail;refine (C.out _).mono ?_;rintro e w' ⟨rfl,rfl⟩;go_wp2_with fail;exact ⟨⟨k+1,by omega,by omega,by go_num,v.out A.out⟩,by simp [intOf];omega⟩
   ·have r:isD s[a+k]=false:=by simpa using hD
    have m:=Bb s[a+k];rw [r] at m;have C:=Aa m;have l:isN s[a+k]=false:=by simp [isN,r,j]
    have b:=x.out l;have B:=Aa b;clear m hD r l j b;go_wp2_with fail;refine (u.out _).mono ?_;rintro e w' ⟨rfl,rfl⟩;go_wp2_with fail;refine (C.out _).mono ?_;rintro e w' ⟨rfl,rfl⟩;go_wp2_with fail
    go_ret2
    exact ⟨by rw [B.out,Nat.add_sub_cancel_left];rfl,rfl⟩
  ·have b:AG isN s.data.toList a=a+k:=by
    rw [<-y.out];exact EQ (by simp;omega)
   have B:=Aa b;clear b;go_wp2_with fail
   go_ret2
   exact ⟨by rw [B.out,Nat.add_sub_cancel_left];rfl,rfl⟩
theorem Fw (s:ByteArray) (a:Nat) (ha:a < s.size) (hs:s.size<=6000) (hL:isL s[a]=false) (hD:isD s[a]=true) (w:World) :
  Calls Tryz.prog 56 #[.string s,M O (a:Int)] w fun e w'=>e=zg (zh #[M O 2,M O ((AG isD s.data.toList a - a:Nat):Int)])/\w'=w:=by
 have m:=B6 s[a];rw [hL] at m;have A:=Aa m;have i:=Bb s[a];rw [hD] at i;have l:=Aa i;have c:AG isD s.data.toList (a+1)=AG isD s.data.toList a:=(C3 (by simpa using ha) hD).symm;clear m hL i hD;go_enter Tryz.func56,Tryz.ntmps56;go_wp2_with fail;refine (A.out _).mono ?_;rintro e w' ⟨rfl,rfl⟩;go_wp2_with fail;refine (l.out _).mono ?_;rintro e w' ⟨rfl,rfl⟩;go_wp2_with fail
 go_loop [7] (fun n=>∃ k:Nat,1<=k/\a+k<=s.size/\n=M O k/\Hid (AG isD s.data.toList (a+k)=AG isD s.data.toList a)) (fun n=>s.size - (intOf n).toNat)
 case atStart=>exact ⟨1,Nat.le_refl _,by omega,rfl,c⟩
 case round=>
  obtain ⟨k,B,E,rfl,v⟩:=hrel;clear c A l;by_cases hlt:a+k < s.size
  ·have g:isD s[a+k]=true->AG isD s.data.toList (a+(k+1))=AG isD s.data.toList a:=fun h=>by
    rw [<-v.out];exact (C3 (by simpa using hlt) h).symm
   have f:isD s[a+k]=false->AG isD s.data.toList a=a+k:=fun h=>by
    rw [<-v.out];exact Ei (by simpa using hlt) h
   have r:=Aa g;have u:=Aa f;clear g f;by_cases hD:isD s[a+k]=true
   ·have i:=Bb s[a+k]
    rw [hD] at i;have l:=Aa i;have y:=r.out hD;have C:=Aa y;clear i hD y;go_wp2_with fail;refine (l.out _).mono ?_;rintro e w' ⟨rfl,rfl⟩;go_wp2_with fail;exact ⟨⟨k+1,by omega,by omega,by go_num,C.out⟩,by simp [intOf];omega⟩
   ·have j:isD s[a+k]=false:=by simpa using hD
    have i:=Bb s[a+k];rw [j] at i;have l:=Aa i;have b:=u.out j;have x:=Aa b;clear i hD j b;go_wp2_with fail;refine (l.out _).mono ?_;rintro e w' ⟨rfl,rfl⟩;go_wp2_with fail
    go_ret2
    exact ⟨by rw [x.out,Nat.add_sub_cancel_left];rfl,rfl⟩
  ·have b:AG isD s.data.toList a=a+k:=by
    rw [<-v.out];exact EQ (by simp;omega)
   have x:=Aa b;clear b;go_wp2_with fail
   go_ret2
   exact ⟨by rw [x.out,Nat.add_sub_cancel_left];rfl,rfl⟩
theorem Dz (s:ByteArray) (a:Nat) (ha:a < s.size):Cs s a=true ↔ s[a].toNat=61/\∃ h:a+1 < s.size,s[a+1].toNat=61:=by
 have i:a < s.data.toList.length:=by simpa using ha
 have j:s.data.toList[a]=s[a]:=rfl;unfold Cs;rw [List.drop_eq_getElem_cons i,j,beq_iff_eq];by_cases h1:a+1 < s.size
 ·have b:a+1 < s.data.toList.length:=by simpa using h1
  have c:s.data.toList[a+1]=s[a+1]:=rfl;rw [List.drop_eq_getElem_cons b,c];simp only [List.take_succ_cons,List.take_zero,List.cons.injEq,and_true];rw [Bg,Bg];constructor
  ·rintro ⟨g,f⟩;exact ⟨g,h1,f⟩
  ·rintro ⟨g,_,f⟩;exact ⟨g,f⟩
 ·rw [List.drop_of_length_le (l:=s.data.toList) (by simp;omega)]
  constructor
  ·intro h;simp at h
  ·rintro ⟨_,h,_⟩;exact absurd h h1
theorem Gb (l:List UInt8) (c:UInt8):0<=Lib.indexByte l c ↔ c∈l:=by
 induction l with
 | nil=>simp [Lib.indexByte]
 | cons b l ih=>
  have g:=Lib.indexByte_ge l c;unfold Lib.indexByte;by_cases h:(b == c)=true
  ·rw [if_pos h]
   have:=beq_iff_eq.1 h;simp [this]
  ·rw [if_neg h]
   have a:¬ c=b:=fun e=>h (by simp [e]);by_cases h2:(Lib.indexByte l c == -1)=true
   ·rw [if_pos h2]
    have f:Lib.indexByte l c=-1:=beq_iff_eq.1 h2;rw [f] at ih;simp only [List.mem_cons,a,false_or];rw [<-ih]
   ·rw [if_neg h2]
    have f:¬ Lib.indexByte l c=-1:=fun e=>h2 (by simp [e]);simp only [List.mem_cons,a,false_or];rw [<-ih];omega
theorem D8 (c:UInt8):isS c=true ↔ c∈Dw.data.toList:=by
 unfold isS;rw [decide_eq_true_eq,Gb]
theorem G4 (s:ByteArray) (a:Nat) (ha:a < s.size) (hs:s.size<=6000) (hL:isL s[a]=false) (hD:isD s[a]=false) (hE:Cs s a=true) (w:World) :
  Calls Tryz.prog 56 #[.string s,M O (a:Int)] w fun e w'=>e=zg (zh #[M O 3,M O 2])/\w'=w:=by
 have b:=B6 s[a];rw [hL] at b;have j:=Aa b;have c:=Bb s[a];rw [hD] at c;have k:=Aa c;obtain ⟨i,f,g⟩:=(Dz s a ha).1 hE;have m:((s[a].toNat:Int) == 61)=true:=beq_iff_eq.2 (by omega);have l:((s[a+1].toNat:Int) == 61)=true:=beq_iff_eq.2 (by omega);clear b hL c hD i g hE;go_enter Tryz.func56,Tryz.ntmps56;go_wp2_with fail;refine (j.out _).mono ?_;rintro e w' ⟨rfl,rfl⟩;go_wp2_with fail;refine (k.out _).mono ?_;rintro e w' ⟨rfl,rfl⟩;go_wp2_with fail
 go_ret2
 exact ⟨rfl,rfl⟩
theorem Ep (s:ByteArray) (a:Nat) (ha:a < s.size) (hs:s.size<=6000) (hL:isL s[a]=false) (hD:isD s[a]=false) (hE:Cs s a=false) (kd ln:Int) (H3:Hid (isS s[a]=true->kd=3/\ln=1)) (H0:Hid (isS s[a]=false->kd=0/\ln=0)) (w:World) :
  Calls Tryz.prog 56 #[.string s,M O (a:Int)] w fun e w'=>e=zg (zh #[M O kd,M O ln])/\w'=w:=by
 have C:=B6 s[a];rw [hL] at C;have G:=Aa C;have E:=Bb s[a];rw [hD] at E;have H:=Aa E;clear C hL E hD;go_enter Tryz.func56,Tryz.ntmps56;go_wp2_with fail;refine (G.out _).mono ?_;rintro e w' ⟨rfl,rfl⟩;go_wp2_with fail;refine (H.out _).mono ?_;rintro e w' ⟨rfl,rfl⟩;clear G H;obtain ⟨b,y⟩:∃ b,b=Dw:=⟨_,rfl⟩;have I:b.size<=13:=by rw [y];decide
 have c:=Aa y;clear y;by_cases h1:s[a].toNat=61
 ·have K:((s[a].toNat:Int) == 61)=true:=beq_iff_eq.2 (by omega)
  by_cases hlt:a+1 < s.size
  ·have J:¬ s[a+1].toNat=61:=fun h=>by
    have:=(Dz s a ha).2 ⟨h1,hlt,h⟩;rw [hE] at this;cases this
   have L:((s[a+1].toNat:Int) == 61)=false:=beq_eq_false_iff_ne.2 (by omega);clear J h1 hE;go_wp2_with fail;rw [show (ByteArray.mk #[123,125,40,41,59,58,33,44,61,43,45,42,60])=b from c.out.symm]
   go_loop [9] (fun i=>∃ k:Nat,k<=b.size/\i=M O k/\Hid (∀ j (h:j < b.size),j < k->b[j]≠s[a])) (fun i=>b.size - (intOf i).toNat)
   case atStart=>exact ⟨0,Nat.zero_le _,rfl,fun j h x=>absurd x (Nat.not_lt_zero _)⟩
   case round=>
    obtain ⟨k,F,rfl,g⟩:=hrel;by_cases hkl:k < b.size
    ·by_cases hc:b[k]=s[a]
     ·have B:((b[k].toNat:Int) == (s[a].toNat:Int))=true:=beq_iff_eq.2 (by rw [hc])
      have f:isS s[a]=true:=(D8 _).2 (by rw [<-c.out,<-hc];exact List.getElem_mem (l:=b.data.toList) (by simpa using hkl));have m:=Aa f;clear hc f;go_wp2_with fail
      go_ret2
      exact ⟨by obtain ⟨rfl,rfl⟩:=H3.out m.out;rfl,rfl⟩
     ·have B:((b[k].toNat:Int) == (s[a].toNat:Int))=false:=beq_eq_false_iff_ne.2 (fun h=>hc ((Bg _ _).2 (by omega)))
      have v:∀ j (h:j < b.size),j < k+1->b[j]≠s[a]:=fun j h x=>by
       rcases Nat.lt_or_ge j k with h3 | h3
       ·exact g.out j h h3
       ·obtain rfl:j=k:=by omega
        exact hc
      have n:=Aa v;clear hc v g;go_wp2_with fail;exact ⟨⟨k+1,by omega,by go_num,n⟩,by simp [intOf];omega⟩
    ·have f:isS s[a]=false:=by
      rw [<-Bool.not_eq_true,D8];intro r;rw [<-c.out] at r;obtain ⟨j,u,A⟩:=List.getElem_of_mem r;exact g.out j (by simpa using u) (by simp at u;omega) A
     have m:=Aa f;clear f g;go_wp2_with fail
     go_ret2
     exact ⟨by obtain ⟨rfl,rfl⟩:=H0.out m.out;rfl,rfl⟩
  ·clear h1 hE
   go_wp2_with fail;rw [show (ByteArray.mk #[123,125,40,41,59,58,33,44,61,43,45,42,60])=b from c.out.symm]
   go_loop [9] (fun i=>∃ k:Nat,k<=b.size/\i=M O k/\Hid (∀ j (h:j < b.size),j < k->b[j]≠s[a])) (fun i=>b.size - (intOf i).toNat)
   case atStart=>exact ⟨0,Nat.zero_le _,rfl,fun j h x=>absurd x (Nat.not_lt_zero _)⟩
   case round=>
    obtain ⟨k,F,rfl,g⟩:=hrel;by_cases hkl:k < b.size
    ·by_cases hc:b[k]=s[a]
     ·have B:((b[k].toNat:Int) == (s[a].toNat:Int))=true:=beq_iff_eq.2 (by rw [hc])
      have f:isS s[a]=true:=(D8 _).2 (by rw [<-c.out,<-hc];exact List.getElem_mem (l:=b.data.toList) (by simpa using hkl));have m:=Aa f;clear hc f;go_wp2_with fail
      go_ret2
      exact ⟨by obtain ⟨rfl,rfl⟩:=H3.out m.out;rfl,rfl⟩
     ·have B:((b[k].toNat:Int) == (s[a].toNat:Int))=false:=beq_eq_false_iff_ne.2 (fun h=>hc ((Bg _ _).2 (by omega)))
      have v:∀ j (h:j < b.size),j < k+1->b[j]≠s[a]:=fun j h x=>by
       rcases Nat.lt_or_ge j k with h3 | h3
       ·exact g.out j h h3
       ·obtain rfl:j=k:=by omega
        exact hc
      have n:=Aa v;clear hc v g;go_wp2_with fail;exact ⟨⟨k+1,by omega,by go_num,n⟩,by simp [intOf];omega⟩
    ·have f:isS s[a]=false:=by
      rw [<-Bool.not_eq_true,D8];intro r;rw [<-c.out] at r;obtain ⟨j,u,A⟩:=List.getElem_of_mem r;exact g.out j (by simpa using u) (by simp at u;omega) A
     have m:=Aa f;clear f g;go_wp2_with fail
     go_ret2
     exact ⟨by obtain ⟨rfl,rfl⟩:=H0.out m.out;rfl,rfl⟩
 ·have K:((s[a].toNat:Int) == 61)=false:=beq_eq_false_iff_ne.2 (by omega)
  clear h1 hE;go_wp2_with fail;rw [show (ByteArray.mk #[123,125,40,41,59,58,33,44,61,43,45,42,60])=b from c.out.symm]
  go_loop [9] (fun i=>∃ k:Nat,k<=b.size/\i=M O k/\Hid (∀ j (h:j < b.size),j < k->b[j]≠s[a])) (fun i=>b.size - (intOf i).toNat)
  case atStart=>exact ⟨0,Nat.zero_le _,rfl,fun j h x=>absurd x (Nat.not_lt_zero _)⟩
  case round=>
   obtain ⟨k,F,rfl,g⟩:=hrel;by_cases hkl:k < b.size
   ·by_cases hc:b[k]=s[a]
    ·have B:((b[k].toNat:Int) == (s[a].toNat:Int))=true:=beq_iff_eq.2 (by rw [hc])
     have f:isS s[a]=true:=(D8 _).2 (by rw [<-c.out,<-hc];exact List.getElem_mem (l:=b.data.toList) (by simpa using hkl));have m:=Aa f;clear hc f;go_wp2_with fail
     go_ret2
     exact ⟨by obtain ⟨rfl,rfl⟩:=H3.out m.out;rfl,rfl⟩
    ·have B:((b[k].toNat:Int) == (s[a].toNat:Int))=false:=beq_eq_false_iff_ne.2 (fun h=>hc ((Bg _ _).2 (by omega)))
     have v:∀ j (h:j < b.size),j < k+1->b[j]≠s[a]:=fun j h x=>by
      rcases Nat.lt_or_ge j k with h3 | h3
      ·exact g.out j h h3
      ·obtain rfl:j=k:=by omega
       exact hc
     have n:=Aa v;clear hc v g;go_wp2_with fail;exact ⟨⟨k+1,by omega,by go_num,n⟩,by simp [intOf];omega⟩
   ·have f:isS s[a]=false:=by
     rw [<-Bool.not_eq_true,D8];intro r;rw [<-c.out] at r;obtain ⟨j,u,A⟩:=List.getElem_of_mem r;exact g.out j (by simpa using u) (by simp at u;omega) A
    have m:=Aa f;clear f g;go_wp2_with fail
    go_ret2
    exact ⟨by obtain ⟨rfl,rfl⟩:=H0.out m.out;rfl,rfl⟩
def De (s:ByteArray) (a:Nat):Nat:=(AA s a).2 - a
theorem Fe (s:ByteArray) (a:Nat) (ha:a < s.size) (hs:s.size<=6000) (w:World) :
  Calls Tryz.prog 56 #[.string s,M O (a:Int)] w fun e w'=>e=zg (zh #[M O ((AA s a).1:Int),M O (De s a:Int)])/\w'=w:=by
 by_cases hL:isL s[a]=true
 ·have f:AA s a=(1,AG isN s.data.toList a):=by simp [AA,ha,hL]
  unfold De;rw [f];exact Gx s a ha hs hL w
 have b:isL s[a]=false:=by simpa using hL
 by_cases hD:isD s[a]=true
 ·have f:AA s a=(2,AG isD s.data.toList a):=by simp [AA,ha,b,hD]
  unfold De;rw [f];exact Fw s a ha hs b hD w
 have c:isD s[a]=false:=by simpa using hD
 by_cases hE:Cs s a=true
 ·have f:AA s a=(3,a+2):=by simp [AA,ha,b,c,hE]
  unfold De;rw [f,Nat.add_sub_cancel_left];exact G4 s a ha hs b c hE w
 have g:Cs s a=false:=by simpa using hE
 by_cases hS:isS s[a]=true
 ·have f:AA s a=(3,a+1):=by simp [AA,ha,b,c,g,hS]
  unfold De;rw [f,Nat.add_sub_cancel_left];exact Ep s a ha hs b c g 3 1 (fun _=>⟨rfl,rfl⟩) (fun h=>by rw [hS] at h;cases h) w
 ·have f:AA s a=(0,a):=by simp [AA,ha,b,c,g,hS]
  unfold De;rw [f,Nat.sub_self];exact Ep s a ha hs b c g 0 0 (fun h=>absurd h hS) (fun _=>⟨rfl,rfl⟩) w
theorem Ic (x:ByteArray):x.extract 0 x.size=x:=by
 apply ByteArray.ext;simp
theorem IW {x:ByteArray} (h0:0 < x.size) (hk:¬ (AA x 0).1=0):AR false x.data.toList 0=0:=by
 have f:0 < x.data.toList.length:=by simpa using h0
 have g:x.data.toList[0]=x[0]:=rfl;have a:¬ x[0].toNat=35/\CI x[0]=false:=by
  by_cases h35:x[0].toNat=35
  ·have e:x[0]=35:=(Bg _ _).2 h35
   exfalso;apply hk;have b:Cs x 0=false:=by
    rw [<-Bool.not_eq_true,Dz x 0 h0];rintro ⟨h,_⟩;omega
   simp [AA,h0,e,b,show isL 35=false from rfl,show isD 35=false from rfl,show isS 35=false from rfl]
  ·refine ⟨h35,?_⟩
   rw [<-Bool.not_eq_true];intro c;simp only [CI,decide_eq_true_eq] at c;apply hk;have b:Cs x 0=false:=by
    rw [<-Bool.not_eq_true,Dz x 0 h0];rintro ⟨h,_⟩;omega
   rcases c with h | h | h
   ·have e:x[0]=32:=(Bg _ _).2 h
    simp [AA,h0,e,b,show isL 32=false from rfl,show isD 32=false from rfl,show isS 32=false from rfl]
   ·have e:x[0]=9:=(Bg _ _).2 h
    simp [AA,h0,e,b,show isL 9=false from rfl,show isD 9=false from rfl,show isS 9=false from rfl]
   ·have e:x[0]=10:=(Bg _ _).2 h
    simp [AA,h0,e,b,show isL 10=false from rfl,show isD 10=false from rfl,show isS 10=false from rfl]
 exact Ej f a.1 a.2
theorem Ff {x:ByteArray} {j:Nat} (h:AH x j=0):¬ (AA x j).1=0:=by
 intro a;simp [AH,a] at h
theorem I7 {x:ByteArray} (h0:0 < x.size) (he:AH x 0=0) (hn:(AA x 0).2=x.size):Cc x=.inl [⟨(AA x 0).1,0,x⟩]:=by
 have b:=IW h0 (Ff he);unfold Cc;obtain ⟨m,a⟩:∃ m,x.size=m+1:=⟨x.size - 1,by omega⟩;simp only [Bl,b,h0,he,if_true,hn];rw [a];simp only [Bl];rw [<-a,Gf (by simp)];simp only [Nat.lt_irrefl,if_false];simp only [FA,hn,Ic];rfl
theorem A9 (k a:Int) (x:ByteArray):An ⟨k,a,x⟩=true ↔ 0 < x.size/\x.size<=6000/\AH x 0=0/\((AA x 0).1:Int)=k/\(AA x 0).2=x.size:=by
 constructor
 ·intro h
  simp only [An,Bool.and_eq_true,decide_eq_true_eq] at h;obtain ⟨⟨F,E⟩,j⟩:=h;have b:=L3 E;generalize hT:AB x=T at j b
  match T,j,b with
  | [u],j,b=>
   simp only [Bool.and_eq_true,beq_iff_eq] at j;obtain ⟨B,G⟩:=j;have i:u.text=x:=by
    apply ByteArray.ext;exact Array.toList_inj.1 G
   obtain ⟨p,H,_,c,l,C,_⟩:=I4 x _ _ _ _ b;rw [i] at c l C;have v:p=0:=by omega
   unfold Cc at b;simp only [Bl] at b;split at b
   ·rename_i J
    split at b
    ·rename_i g
     have f:=B5 g;generalize hr:Bl x x.size false (AA x (AR false x.data.toList 0)).2=R at b
     cases R with
     | inl O=>
      simp only [Sum.inl.injEq,List.cons.injEq] at b;obtain ⟨m,_⟩:=b;have K:AR false x.data.toList 0=0:=by
       have:u.pos=((AR false x.data.toList 0:Nat):Int):=by rw [<-m];rfl
       rw [H,v] at this;omega
      rw [K] at m g f;have A:((AA x 0).1:Int)=k:=by rw [<-B,<-m];rfl
      have n:x.extract 0 (AA x 0).2=x:=by
       have M:(FA x 0).text=x:=by rw [m];exact i
       exact M
      have r:=congrArg ByteArray.size n;rw [ByteArray.size_extract,Nat.min_eq_left f.2] at r;exact ⟨c,F,g,A,by omega⟩
     | inr y=>simp at b
    ·simp at b
   ·simp at b
 ·rintro ⟨N,F,E,B,I⟩
  have b:=I7 N E I;have hT:AB x=[⟨(AA x 0).1,0,x⟩]:=by simp [AB,b]
  have L:A8 x=0:=by simp [A8,b]
  simp [An,F,hT,L,B]
theorem IR (k a:Int) (x:ByteArray) (al:Bool) (hal:Hid (al=An ⟨k,a,x⟩)) (hx:x.size<=maxLen) (w:World) :
  Calls Tryz.prog 112 #[M O k,.string x] w fun e w'=>e=zg (zc al)/\w'=w:=by
 unfold maxLen at hx;by_cases h0:0 < x.size
 ·have J:¬ x.toList=[]:=by
   rw [ByteArray.toList_eq];intro h;have:=congrArg List.length h;simp at this;rw [this] at h0;simp at h0
  have P:(x.toList == [])=false:=by simpa using J
  by_cases h6:x.size<=6000
  ·have L:decide ((6000:Int) < (x.size:Int))=false:=decide_eq_false (by omega)
   by_cases hk0:k=0
   ·have N:(k == 0)=true:=beq_iff_eq.2 hk0
    have b:al=false:=by rw [hal.out];rw [<-Bool.not_eq_true,A9];rintro ⟨_,_,m,v,r⟩;exact Ff m (by omega)
    have f:=Aa b;clear b hk0;go_enter Tryz.func112,Tryz.ntmps112;go_wp2_with fail;go_ret;exact ⟨by rw [f.out];rfl,rfl⟩
   have N:(k == 0)=false:=beq_eq_false_iff_ne.2 hk0;have C:=Fy (s:=x) (j:=0);have G:=Fe x 0 h0 h6;obtain ⟨i,u⟩:∃ i,i=(AA x 0).1:=⟨_,rfl⟩;obtain ⟨n,F⟩:∃ n,n=(AA x 0).2:=⟨_,rfl⟩;have B:De x 0=n:=by unfold De;rw [F];rfl
   rw [<-u,B] at G;rw [<-u] at C;have c:AA x 0=(i,n):=by rw [u,F]
   have K:n<=x.size:=by rw [F];exact Fx (Nat.zero_le _)
   have y:=Aa G;have l:=Mf h0;clear G B u F;by_cases e1:(i:Int)=k
   ·by_cases e2:n=x.size
    ·have H:((n:Int) == (x.size:Int))=true:=beq_iff_eq.2 (by omega)
     subst e1;have E:((i:Int) == (i:Int))=true:=by simp
     rcases (show i=0\/i=1\/i=2\/i=3 by omega) with rfl | rfl | rfl | rfl
     ·exact absurd rfl hk0
     ·by_cases h12:12 < n
      ·have b:al=false:=by rw [hal.out];rw [<-Bool.not_eq_true,A9];rintro ⟨_,_,m,_⟩;simp [AH,c,h12] at m
       clear c l hk0;go_enter Tryz.func112,Tryz.ntmps112;have f:=Aa b;clear b;go_wp2_with fail;refine (y.out _).mono ?_;rintro e w' ⟨rfl,rfl⟩;go_wp2_with fail;go_ret;exact ⟨by rw [f.out];first | rfl | (simp;omega) | simp,rfl⟩
      ·have b:al=true:=hal.out.trans ((A9 _ _ _).2 ⟨h0,h6,by simp [AH,c,h12],by rw [c],by rw [c];exact e2⟩)
       clear c l hk0;go_enter Tryz.func112,Tryz.ntmps112;have f:=Aa b;clear b;go_wp2_with fail;refine (y.out _).mono ?_;rintro e w' ⟨rfl,rfl⟩;go_wp2_with fail;go_ret;exact ⟨by rw [f.out];first | rfl | (simp;omega) | simp,rfl⟩
     ·by_cases h7:7 < n
      ·have b:al=false:=by rw [hal.out];rw [<-Bool.not_eq_true,A9];rintro ⟨_,_,m,_⟩;simp [AH,c,h7] at m
       clear c l hk0;go_enter Tryz.func112,Tryz.ntmps112;have f:=Aa b;clear b;go_wp2_with fail;refine (y.out _).mono ?_;rintro e w' ⟨rfl,rfl⟩;go_wp2_with fail;go_ret;exact ⟨by rw [f.out];first | rfl | (simp;omega) | simp,rfl⟩
      by_cases h1:1 < n
      ·by_cases h48:x[0].toNat=48
       ·have I:((x[0].toNat:Int) == 48)=true:=beq_iff_eq.2 (by omega)
        have g:x[0]=48:=(Bg _ _).2 h48;have b:al=false:=by
         rw [hal.out];rw [<-Bool.not_eq_true,A9];rintro ⟨_,_,m,_⟩;simp only [AH,c,l,g] at m;simp [h1,h7] at m
        clear h48 g;clear c l hk0;go_enter Tryz.func112,Tryz.ntmps112;have f:=Aa b;clear b;go_wp2_with fail;refine (y.out _).mono ?_;rintro e w' ⟨rfl,rfl⟩;go_wp2_with fail;go_ret;exact ⟨by rw [f.out];first | rfl | (simp;omega) | simp,rfl⟩
       ·have I:((x[0].toNat:Int) == 48)=false:=beq_eq_false_iff_ne.2 (by omega)
        have g:¬ x[0]=48:=fun h=>h48 (by rw [h];rfl);have b:al=true:=hal.out.trans ((A9 _ _ _).2 ⟨h0,h6,by simp only [AH,c,l];simp [h1,h7,g],by rw [c],by rw [c];exact e2⟩);clear h48 g;clear c l hk0;go_enter Tryz.func112,Tryz.ntmps112;have f:=Aa b;clear b;go_wp2_with fail;refine (y.out _).mono ?_;rintro e w' ⟨rfl,rfl⟩;go_wp2_with fail;go_ret;exact ⟨by rw [f.out];first | rfl | (simp;omega) | simp,rfl⟩
      ·have b:al=true:=hal.out.trans ((A9 _ _ _).2 ⟨h0,h6,by simp only [AH,c];simp [h1,h7],by rw [c],by rw [c];exact e2⟩)
       clear c l hk0;go_enter Tryz.func112,Tryz.ntmps112;have f:=Aa b;clear b;go_wp2_with fail;refine (y.out _).mono ?_;rintro e w' ⟨rfl,rfl⟩;go_wp2_with fail;go_ret;exact ⟨by rw [f.out];first | rfl | (simp;omega) | simp,rfl⟩
     ·have b:al=true:=hal.out.trans ((A9 _ _ _).2 ⟨h0,h6,by simp [AH,c],by rw [c],by rw [c];exact e2⟩)
      clear c l hk0;go_enter Tryz.func112,Tryz.ntmps112;have f:=Aa b;clear b;go_wp2_with fail;refine (y.out _).mono ?_;rintro e w' ⟨rfl,rfl⟩;go_wp2_with fail;go_ret;exact ⟨by rw [f.out];first | rfl | (simp;omega) | simp,rfl⟩
    ·have H:((n:Int) == (x.size:Int))=false:=beq_eq_false_iff_ne.2 (by omega)
     have E:((i:Int) == k)=true:=beq_iff_eq.2 e1;have b:al=false:=by rw [hal.out];rw [<-Bool.not_eq_true,A9];rintro ⟨_,_,m,v,r⟩;rw [c] at r;exact e2 r
     clear e1 e2;clear c l hk0;go_enter Tryz.func112,Tryz.ntmps112;have f:=Aa b;clear b;go_wp2_with fail;refine (y.out _).mono ?_;rintro e w' ⟨rfl,rfl⟩;go_wp2_with fail;go_ret;exact ⟨by rw [f.out];first | rfl | (simp;omega) | simp,rfl⟩
   ·have E:((i:Int) == k)=false:=beq_eq_false_iff_ne.2 e1
    have b:al=false:=by rw [hal.out];rw [<-Bool.not_eq_true,A9];rintro ⟨_,_,m,v,r⟩;rw [c] at v;exact e1 v
    clear e1;clear c l hk0;go_enter Tryz.func112,Tryz.ntmps112;have f:=Aa b;clear b;go_wp2_with fail;refine (y.out _).mono ?_;rintro e w' ⟨rfl,rfl⟩;go_wp2_with fail;go_ret;exact ⟨by rw [f.out];first | rfl | (simp;omega) | simp,rfl⟩
  ·have L:decide ((6000:Int) < (x.size:Int))=true:=decide_eq_true (by omega)
   have b:al=false:=by rw [hal.out];rw [<-Bool.not_eq_true,A9];rintro ⟨_,h,_⟩;exact h6 h
   have f:=Aa b;clear b;go_enter Tryz.func112,Tryz.ntmps112;go_wp2_with fail;go_ret;exact ⟨by rw [f.out];rfl,rfl⟩
 ·have A:x=⟨#[]⟩:=by
   apply ByteArray.ext;exact Array.eq_empty_of_size_eq_zero (by show x.size=0;omega)
  have b:al=false:=by rw [hal.out];rw [<-Bool.not_eq_true,A9];rintro ⟨h,_⟩;exact h0 h
  have f:=Aa b;have J:x.toList=[]:=by rw [A,ByteArray.toList_eq]
  clear b A;go_enter Tryz.func112,Tryz.ntmps112;go_wp2_with fail;go_ret;exact ⟨by rw [f.out];rfl,rfl⟩
theorem Ia (k a:Int) (x:ByteArray) (hx:x.size<=maxLen) (w:World) :
  Calls Tryz.prog 112 #[M O k,.string x] w fun e w'=>e=zg (zc (An ⟨k,a,x⟩))/\w'=w:=
 IR k a x _ rfl hx w
def A1 (l:List UInt8):Int:=
 if l=[43] then 3 else
 if l=[45] then 4 else
 if l=[42] then 5 else
 if l=[60] then 6 else
 if l=[61,61] then 7 else
 0
theorem Dq (x:ByteArray) (w:World) :
  Calls Tryz.prog 168 #[.string x] w fun e w'=>e=zg (M O (A1 x.data.toList))/\w'=w:=by
 by_cases h0:x.data.toList=[43]
 ·obtain rfl:=Aq h0
  clear h0;go_enter Tryz.func168,Tryz.ntmps168
  go_wp2
  go_ret;exact ⟨rfl,rfl⟩
 by_cases h1:x.data.toList=[45]
 ·obtain rfl:=Aq h1
  clear h0 h1;go_enter Tryz.func168,Tryz.ntmps168
  go_wp2
  go_ret;exact ⟨rfl,rfl⟩
 by_cases h2:x.data.toList=[42]
 ·obtain rfl:=Aq h2
  clear h0 h1 h2;go_enter Tryz.func168,Tryz.ntmps168
  go_wp2
  go_ret;exact ⟨rfl,rfl⟩
 by_cases h3:x.data.toList=[60]
 ·obtain rfl:=Aq h3
  clear h0 h1 h2 h3;go_enter Tryz.func168,Tryz.ntmps168
  go_wp2
  go_ret;exact ⟨rfl,rfl⟩
 by_cases h4:x.data.toList=[61,61]
 ·obtain rfl:=Aq h4
  clear h0 h1 h2 h3 h4;go_enter Tryz.func168,Tryz.ntmps168
  go_wp2
  go_ret;exact ⟨rfl,rfl⟩
 have hr:A1 x.data.toList=0:=by simp [A1,h0,h1,h2,h3,h4]
 have a:=Aa hr;have i:=Ax h0;have g:=Ax h1;have f:=Ax h2;have c:=Ax h3;have b:=Ax h4;clear hr h0 h1 h2 h3 h4;go_enter Tryz.func168,Tryz.ntmps168
 go_wp2
 go_ret;exact ⟨by rw [a.out];rfl,rfl⟩
def AX (l:List UInt8):Int:=
 if l=[97,99,116,111,114] then 1 else
 if l=[103,114,97,110,116] then 2 else
 if l=[115,112,101,97,107] then 3 else
 if l=[105,110] then 4 else
 if l=[111,117,116] then 5 else
 if l=[118,97,114] then 6 else
 if l=[102,117,110,99] then 7 else
 0
theorem BJ (x:ByteArray) (w:World) :
  Calls Tryz.prog 94 #[.string x] w fun e w'=>e=zg (M O (AX x.data.toList))/\w'=w:=by
 by_cases h0:x.data.toList=[97,99,116,111,114]
 ·obtain rfl:=Aq h0
  clear h0;go_enter Tryz.func94,Tryz.ntmps94
  go_wp2
  go_ret;exact ⟨rfl,rfl⟩
 by_cases h1:x.data.toList=[103,114,97,110,116]
 ·obtain rfl:=Aq h1
  clear h0 h1;go_enter Tryz.func94,Tryz.ntmps94
  go_wp2
  go_ret;exact ⟨rfl,rfl⟩
 by_cases h2:x.data.toList=[115,112,101,97,107]
 ·obtain rfl:=Aq h2
  clear h0 h1 h2;go_enter Tryz.func94,Tryz.ntmps94
  go_wp2
  go_ret;exact ⟨rfl,rfl⟩
 by_cases h3:x.data.toList=[105,110]
 ·obtain rfl:=Aq h3
  clear h0 h1 h2 h3;go_enter Tryz.func94,Tryz.ntmps94
  go_wp2
  go_ret;exact ⟨rfl,rfl⟩
 by_cases h4:x.data.toList=[111,117,116]
 ·obtain rfl:=Aq h4
  clear h0 h1 h2 h3 h4;go_enter Tryz.func94,Tryz.ntmps94
  go_wp2
  go_ret;exact ⟨rfl,rfl⟩
 by_cases h5:x.data.toList=[118,97,114]
 ·obtain rfl:=Aq h5
  clear h0 h1 h2 h3 h4 h5;go_enter Tryz.func94,Tryz.ntmps94
  go_wp2
  go_ret;exact ⟨rfl,rfl⟩
 by_cases h6:x.data.toList=[102,117,110,99]
 ·obtain rfl:=Aq h6
  clear h0 h1 h2 h3 h4 h5 h6;go_enter Tryz.func94,Tryz.ntmps94
  go_wp2
  go_ret;exact ⟨rfl,rfl⟩
 have hr:AX x.data.toList=0:=by simp [AX,h0,h1,h2,h3,h4,h5,h6]
 have a:=Aa hr;have k:=Ax h0;have j:=Ax h1;have i:=Ax h2;have g:=Ax h3;have f:=Ax h4;have c:=Ax h5;have b:=Ax h6;clear hr h0 h1 h2 h3 h4 h5 h6;go_enter Tryz.func94,Tryz.ntmps94
 go_wp2
 go_ret;exact ⟨by rw [a.out];rfl,rfl⟩
theorem Dr (l:List UInt8) (h:¬ A1 l=0):l≠[]:=by
 rintro rfl;exact h rfl
theorem Dx (rb:Nat) (tv:Value) (ts:List Tok) (en n:Nat) (w:World) (h:St rb tv ts en n w) (hx:¬ A1 (Ah ts n).text.data.toList=0) :
  Calls Tryz.prog 156 #[zd (some ⟨rb,0,none⟩)] w fun e w'=>e=zg (M O (A1 (Ah ts n).text.data.toList))/\w.grownBy w' (some rb)/\St rb tv ts en (n+1) w':=by
 have B:n < ts.length:=Cb (Dr _ hx);have H:=h.2.2.1;have i:=Bd rb tv ts en n w h;have j:=Dq (Ah ts n).text;obtain ⟨A,f⟩:∃ y,y=(Ah ts n).kind:=⟨_,rfl⟩;obtain ⟨v,b⟩:∃ y,y=(Ah ts n).pos:=⟨_,rfl⟩;obtain ⟨tx,a⟩:∃ y,y=(Ah ts n).text:=⟨_,rfl⟩;rw [<-f,<-b,<-a] at i;rw [<-a] at j hx ⊢;unfold AI at i;obtain ⟨x,c⟩:∃ y,y=A1 tx.data.toList:=⟨_,rfl⟩;rw [<-c] at j hx ⊢;have N:(x == 0)=false:=by simpa using hx
 have m:=Aa i;have u:=Aa j;have E:=Bu A v tx;clear i f b a j c hx;go_enter Tryz.func156,Tryz.ntmps156;go_wp2_with fail;refine (m.out).mono ?_;rintro e G ⟨rfl,k⟩;go_wp2_with fail;refine (u.out _).mono ?_;rintro e F ⟨rfl,rfl⟩;have l:=h.below k;obtain ⟨L,K,J,I⟩:=l.cells;have C:=Ad (r:=some rb) k;have g:=Aa (Cw l B);clear m u h l k;go_wp2_with fail;go_ret;exact ⟨rfl,Ac C g.out.2,g.out.1⟩
theorem Hw (rb:Nat) (tv:Value) (ts:List Tok) (en n:Nat) (w:World) (h:St rb tv ts en n w) (hx:A1 (Ah ts n).text.data.toList=0) :
  Calls Tryz.prog 156 #[zd (some ⟨rb,0,none⟩)] w fun e w'=>e=Ai (Ar ts en n)/\Below w.heap.size w w':=by
 have f:=Bd rb tv ts en n w h;have g:=Dq (Ah ts n).text;rw [hx] at g;obtain ⟨u,c⟩:∃ y,y=(Ah ts n).kind:=⟨_,rfl⟩;obtain ⟨r,b⟩:∃ y,y=(Ah ts n).pos:=⟨_,rfl⟩;obtain ⟨tx,a⟩:∃ y,y=(Ah ts n).text:=⟨_,rfl⟩;rw [<-c,<-b,<-a] at f;rw [<-a] at g;unfold AI at f;have k:=Aa f;have l:=Aa g;have v:=Bu u r tx;clear f c b a g hx;go_enter Tryz.func156,Tryz.ntmps156;go_wp2_with fail;refine (k.out).mono ?_;rintro e A ⟨rfl,j⟩;go_wp2_with fail;refine (l.out _).mono ?_;rintro e m ⟨rfl,rfl⟩;have x:=Aa (BK rb tv ts en n _ (h.below j));clear k l h;go_wp2_with fail;refine (x.out).mono ?_;rintro e m ⟨rfl,i⟩;unfold Ai;go_wp2_with fail;exact ⟨rfl,rfl,j.trans (i.mono j.size)⟩
def CX (l:List UInt8):Nat:=l.foldl (fun n c=>10*n+(c.toNat - 48)) 0
theorem LK (l:List UInt8) (h:∀ c∈l,isD c=true):∀ acc,Lib.decFrom acc l=some (l.foldl (fun n c=>10*n+(c.toNat - 48)) acc):=by
 induction l with
 | nil=>intro acc;rfl
 | cons c l ih=>
  intro acc;have b:=h c (by simp);simp only [isD,decide_eq_true_eq] at b;have a:Lib.digitVal c=some (c.toNat - 48):=by
   unfold Lib.digitVal;rw [if_pos (by first | exact b | (simp;omega) | omega)]
  simp only [Lib.decFrom,a,List.foldl_cons];rw [ih (fun d a=>h d (by simp [a]))];congr 2;omega
theorem Ed {p:UInt8->Bool} {l:List UInt8} (h:(l.takeWhile p).length=l.length):∀ c∈l,p c=true:=by
 have e:l.takeWhile p=l:=(List.takeWhile_prefix p).eq_of_length h;intro c a;rw [<-e] at a;exact List.all_eq_true.1 (List.all_takeWhile) c a
theorem DC {t:Tok} (ha:An t=true) (hk:t.kind=2):t.text.size<=18/\Lib.atoi t.text.data.toList=some (CX t.text.data.toList:Int)/\t.text.data.toList≠[]/\CX t.text.data.toList<=9999999:=by
 obtain ⟨C,G,u,F,r⟩:=(A9 t.kind t.pos t.text).1 ha;have b:(AA t.text 0).1=2:=by omega
 have m:AA t.text 0=(2,AG isD t.text.data.toList 0):=by
  by_cases hL:isL t.text[0]=true
  ·have:AA t.text 0=(1,AG isN t.text.data.toList 0):=by simp [AA,C,hL]
   rw [this] at b;simp at b
  by_cases m:isD t.text[0]=true
  ·simp [AA,C,hL,m]
  ·have:¬ (AA t.text 0).1=2:=by
    unfold AA;rw [dif_pos C,if_neg hL,if_neg m];split
    ·simp
    ·split <;> simp
   exact absurd b this
 rw [m] at r;simp only at r;have x:(t.text.data.toList.takeWhile isD).length=t.text.data.toList.length:=by
  have:=r;simp only [AG,List.drop_zero,Nat.zero_add] at this;rw [this];rfl
 have a:=Ed x;have g:t.text.size<=7:=by
  simp only [AH,m] at u;rw [if_neg (by omega)] at u;split at u
  ·cases u
  ·rename_i i
   simp only [Nat.sub_zero] at i;rw [r] at i;simp at i;omega
 have f:t.text.data.toList≠[]:=by
  intro h;have:=congrArg List.length h;have e:t.text.data.toList.length=t.text.size:=rfl;simp only [List.length_nil] at this;omega
 refine ⟨by omega,?_,f,?_⟩
 ·match hl:t.text.data.toList,a,f with
  | c::l,a,_=>
   have j:=a c (by simp);simp only [isD,decide_eq_true_eq] at j;have y:(c == 45)=false:=by rw [beq_eq_false_iff_ne];rintro rfl;simp at j
   have A:(c == 43)=false:=by rw [beq_eq_false_iff_ne];rintro rfl;simp at j
   simp only [Lib.atoi,y,A];have:=LK (c::l) a 0;simp only [Lib.decNat,List.isEmpty_cons];simp only [Bool.false_eq_true,if_false];rw [this];rfl
 ·have v:∀ (l:List UInt8) (acc k:Nat),(∀ c∈l,isD c=true)->acc < 10 ^ k->l.foldl (fun n c=>10*n+(c.toNat - 48)) acc < 10 ^ (k+l.length):=by
   intro l
   induction l with
   | nil=>intro acc k _ h;simpa using h
   | cons c l ih=>
    intro acc k E h;have j:=E c (by simp);simp only [isD,decide_eq_true_eq] at j;have B:10*acc+(c.toNat - 48) < 10 ^ (k+1):=by rw [Nat.pow_succ];omega
    have:=ih _ (k+1) (fun d i=>E d (by simp [i])) B;simp only [List.foldl_cons,List.length_cons];rw [show k+(l.length+1)=k+1+l.length by omega];exact this
  have K:=v t.text.data.toList 0 0 a (by decide);have J:t.text.data.toList.length<=7:=g;have I:10 ^ (0+t.text.data.toList.length)<=10 ^ 7:=Nat.pow_le_pow_right (by decide) (by omega);have H:(10:Nat) ^ 7=10000000:=by decide
  unfold CX;omega
theorem EY {ts:List Tok} {n:Nat} (h:(Ah ts n).kind=2):n < ts.length:=by
 rcases Nat.lt_or_ge n ts.length with h1 | h1
 ·exact h1
 ·exfalso
  have e:ts[n]? = none:=List.getElem?_eq_none h1;simp [Ah,e] at h
theorem CK {ts:List Tok} {n:Nat} (h:n < ts.length):Ah ts n∈ts:=by
 have:Ah ts n=ts[n]:=by simp [Ah,h]
 rw [this];exact List.getElem_mem h
theorem FM (rb:Nat) (tv:Value) (ts:List Tok) (hall:ts.all An=true) (en n:Nat) (w:World) (h:St rb tv ts en n w) (hx:(Ah ts n).kind=2) :
  Calls Tryz.prog 155 #[zd (some ⟨rb,0,none⟩)] w fun e w'=>e=zg (M O (CX (Ah ts n).text.data.toList:Int))/\w.grownBy w' (some rb)/\St rb tv ts en (n+1) w':=by
 have B:=EY hx;have U:=h.2.2.1;obtain ⟨G,F,Q,P⟩:=DC (List.all_eq_true.1 hall _ (CK B)) hx;have k:=Tryz.strconv_Atoi (Ah ts n).text _ G F;have i:=Bd rb tv ts en n w h;rw [hx] at i;obtain ⟨m,g⟩:∃ y,y=(Ah ts n).pos:=⟨_,rfl⟩;obtain ⟨T,j⟩:∃ y,y=(CX (Ah ts n).text.data.toList:Int):=⟨_,rfl⟩;rw [<-j] at k ⊢;obtain ⟨tx,a⟩:∃ y,y=(Ah ts n).text:=⟨_,rfl⟩;rw [<-g,<-a] at i;rw [<-a] at k;unfold AI at i;have H:=Aa i;have R:=Aa k;clear i g a k j hx G F Q P;go_enter Tryz.func155,Tryz.ntmps155;go_wp2_with fail;refine (H.out).mono ?_;rintro e f ⟨rfl,E⟩;have l:=h.below E;have C:=l.lt;obtain ⟨N,L,K,J⟩:=l.cells;have I:=Ad (r:=some rb) E;obtain ⟨s1,A⟩:=Cw l B;have c:Below (f.setCell ⟨rb,1,none⟩ (M O ((n:Int)+1))).heap.size (f.setCell ⟨rb,1,none⟩ (M O ((n:Int)+1))) ((f.setCell ⟨rb,1,none⟩ (M O ((n:Int)+1))).alloc (Obj.cells #[M O 2,M O m,.string tx] 44)):=(Below.refl _ _).alloc (Nat.le_refl _) _;have u:=Aa (s1.below c);have v:=Aa (Ac (Ac I A) (Ad c));clear H h s1 A c l;go_wp2_with fail;refine (R.out _).mono ?_;rintro e S ⟨rfl,x,rfl⟩;have b:=Lib.bytesWorld_below ((f.setCell ⟨rb,1,none⟩ (M O ((n:Int)+1))).alloc (Obj.cells #[M O 2,M O m,.string tx] 44)) 5 x;generalize Lib.bytesWorld ((f.setCell ⟨rb,1,none⟩ (M O ((n:Int)+1))).alloc (Obj.cells #[M O 2,M O m,.string tx] 44)) 5 x=w3 at b ⊢;clear N L K J;go_wp2_with fail;go_ret;exact ⟨rfl,Ac v.out (Ad b),u.out.below b⟩
theorem JX (rb:Nat) (tv:Value) (ts:List Tok) (en n:Nat) (w:World) (h:St rb tv ts en n w) (hx:¬ (Ah ts n).kind=2) :
  Calls Tryz.prog 155 #[zd (some ⟨rb,0,none⟩)] w fun e w'=>e=Ai (Ar ts en n)/\Below w.heap.size w w':=by
 have g:=Bd rb tv ts en n w h;obtain ⟨j,a⟩:∃ y,y=(Ah ts n).kind:=⟨_,rfl⟩;obtain ⟨r,f⟩:∃ y,y=(Ah ts n).pos:=⟨_,rfl⟩;obtain ⟨tx,c⟩:∃ y,y=(Ah ts n).text:=⟨_,rfl⟩;rw [<-a,<-f,<-c] at g;rw [<-a] at hx;unfold AI at g;have l:=Aa g;have x:(j != 2)=true:=by simpa using hx
 clear g a f c hx;go_enter Tryz.func155,Tryz.ntmps155;go_wp2_with fail;refine (l.out).mono ?_;rintro e m ⟨rfl,k⟩;have b:Below w.heap.size w (m.alloc (Obj.cells #[M O j,M O r,.string tx] 44)):=k.alloc k.size _;have u:=Aa (BK rb tv ts en n _ (h.below b));clear l h;go_wp2_with fail;refine (u.out).mono ?_;rintro e v ⟨rfl,i⟩;unfold Ai;go_wp2_with fail;exact ⟨rfl,rfl,b.trans (i.mono b.size)⟩
abbrev D:=DataW Empty
def dI (n:Int):D:=.lit (.int O n)
def dS (x:ByteArray):D:=.lit (.string x.data.toList)
def dB (b:Bool):D:=.lit (.bool b)
def dL (l:List D):D:=.slice l []
def eD (k a n:Int) (name:ByteArray) (args:List D):D:=.agg [dI k,dI a,dI n,dS name,dL args]
def RS (S:Nat->Prop) (size:Nat) (R:List Value->D->Prop) (w:World) (v:Value) (ds:List D):Prop:=
 ∃ ao cap,v=U ao ds.length cap/\(ds≠[]->∃ b off,ao=some ⟨b,off,none⟩/\S b /\
  ∀ (i:Nat) (d:D),ds[i]? = some d->∃ cs:List Value,cs.length=size/\(∀ (j:Nat) (u:Value),cs[j]? = some u->w.cell? ⟨b,off+i*size+j,none⟩=some u)/\R cs d)
theorem RS.nil (S:Nat->Prop) (size:Nat) (R:List Value->D->Prop) (w:World) (ao:Option Addr) (cap:Nat):RS S size R w (U ao 0 cap) []:=⟨ao,cap,rfl,fun h=>absurd rfl h⟩
theorem RS.mono {S S':Nat->Prop} {size:Nat} {R R':List Value->D->Prop} {w w':World} {v:Value} {ds:List D} (h:RS S size R w v ds) (hS:∀ b,S b->b < w.heap.size->S' b)
  (hw:∀ b,S b->b < w.heap.size->w'.heap[b]? = w.heap[b]?) (hs:0 < size) (hR:∀ cs d,d∈ds->R cs d->R' cs d):RS S' size R' w' v ds:=by
 obtain ⟨E,x,B,C⟩:=h;refine ⟨E,x,B,fun g=>?_⟩;obtain ⟨b,f,r,m,l⟩:=C g;have k:b < w.heap.size:=by
  cases ds with
  | nil=>exact absurd rfl g
  | cons d ds=>
   obtain ⟨cs,y,c,_⟩:=l 0 d rfl;obtain ⟨u,n⟩:∃ u,cs[0]? = some u:=⟨cs[0]'(by omega),List.getElem?_eq_getElem (by omega)⟩;exact World.block_lt_of_cell? w _ (c 0 u n)
 refine ⟨b,f,r,hS b m k,fun i d A=>?_⟩;obtain ⟨cs,y,c,hr⟩:=l i d A;refine ⟨cs,y,fun j u n=>?_,hR cs d (List.mem_of_getElem? A) hr⟩;rw [World.cell?_of_block (a:=⟨b,f+i*size+j,none⟩) (hw b m k)];exact c j u n
def RE (S:Nat->Prop) (w:World):Nat->List Value->D->Prop
 | 0,_,_=>False
 | k+1,cs,d=>∃ (kd a n:Int) (x:ByteArray) (v:Value) (ds:List D),cs=[M O kd,M O a,M O n,.string x,v]/\d=eD kd a n x ds/\RS S 5 (RE S w k) w v ds
theorem RE.mono {S S':Nat->Prop} {w w':World} (hS:∀ b,S b->b < w.heap.size->S' b) (hw:∀ b,S b->b < w.heap.size->w'.heap[b]? = w.heap[b]?) :
  ∀ (k m:Nat) (cs:List Value) (d:D),k<=m->RE S w k cs d->RE S' w' m cs d:=by
 intro k
 induction k with
 | zero=>intro m cs d _ h;exact h.elim
 | succ k ih=>
  intro m cs d i h;obtain ⟨c,rfl⟩:∃ c,m=c + 1:=⟨m - 1,by omega⟩;obtain ⟨g,a,n,x,v,r,f,l,hr⟩:=h;exact ⟨g,a,n,x,v,r,f,l,hr.mono hS hw (by decide) (fun cs d _ j=>ih c cs d (by omega) j)⟩
def pE (ts:List Tok) (en:Nat):Nat->Nat->Nat->Sum (D × Nat) Nat
 | 0,_,n=>.inr n
 | f+1,deep,n=>
  if (Ah ts n).kind=2 then .inl (eD 1 (Ar ts en n) (CX (Ah ts n).text.data.toList) ⟨#[]⟩ [],n+1)
  else if isT ts n [45]=true then
   if isT ts (n+1) [48]=true then .inr (n+1)
   else if (Ah ts (n+1)).kind=2 then .inl (eD 1 (Ar ts en n) (-(CX (Ah ts (n+1)).text.data.toList:Int)) ⟨#[]⟩ [],n+2)
   else .inr (n+1)
  else if AU (Ah ts n)=true then .inl (eD 2 (Ar ts en n) 0 (Ah ts n).text [],n+1)
  else if deep < 60/\isT ts n [40]=true then
   match pE ts en f (deep+1) (n+1) with
   | .inr m=>.inr m
   | .inl (a,n1)=>
    if A1 (Ah ts n1).text.data.toList=0 then .inr n1
    else match pE ts en f (deep+1) (n1+1) with
     | .inr m=>.inr m
     | .inl (b,n2)=>if isT ts n2 [41]=true then .inl (eD (A1 (Ah ts n1).text.data.toList) (Ar ts en n) 0 ⟨#[]⟩ [a,b],n2+1) else .inr n2
  else .inr n
theorem Ag {w w':World} {rb g:Nat} {o:Obj} (h:w.heap[g]? = some o) (hg:w.grownBy w' (some rb)) (hne:g≠rb):w'.heap[g]? = some o:=by
 rw [hg.block g (Array.getElem?_eq_some_iff.1 h).1 (by simpa using hne)];exact h
theorem Az {w w':World} {g:Nat} {o:Obj} (h:w.heap[g]? = some o) (hb:Below w.heap.size w w'):w'.heap[g]? = some o:=by
 rw [hb.block g (Array.getElem?_eq_some_iff.1 h).1];exact h
theorem C1 {w:World} {g T:Nat} {a b c d e:Value} (h:w.heap[g]? = some (Obj.cells #[a,b,c,d,e] T (0,0))) :
  w.cell? ⟨g,0,none⟩=some a/\w.cell? ⟨g,1,none⟩=some b/\w.cell? ⟨g,2,none⟩=some c/\w.cell? ⟨g,3,none⟩=some d/\w.cell? ⟨g,4,none⟩=some e/\(∀ j,w.frozen? ⟨g,j,none⟩=false)/\g < w.heap.size:=by
 refine ⟨?_,?_,?_,?_,?_,fun j=>Lib.frozen_of_heap h j,(Array.getElem?_eq_some_iff.1 h).1⟩ <;> rw [Lib.cell_of_heap h] <;> rfl
theorem Aj {w w4:World} {r:Option Nat} (h:w.grownBy w4 r) {p:Addr} (hp:w.heap.size<=p.block) (u:Value):w.grownBy (w4.setCell p u) r:=
 ⟨h.os,h.tape,h.output,by have:=h.size;simp [World.setCell];omega,fun k hk hne=>by rw [Below.heap_setCell _ _ _ _ (by omega)];exact h.block k hk hne⟩
theorem Dj {w w4:World} {r:Option Nat} (h:w.grownBy w4 r) (o:Obj):w.grownBy (w4.alloc o) r:=
 ⟨h.os,h.tape,h.output,by have:=h.size;simp;omega,fun k hk hne=>by rw [Below.heap_alloc _ _ _ (by have:=h.size;omega)];exact h.block k hk hne⟩
theorem Au {w:World} {g:Nat} {o:Obj} {p:Addr} {u:Value} (h:w.heap[g]? = some o) (hne:g≠p.block):(w.setCell p u).heap[g]? = some o:=by
 rw [Below.heap_setCell _ _ _ _ hne];exact h
theorem Cg {w:World} {g:Nat} {o o':Obj} (h:w.heap[g]? = some o):(w.alloc o').heap[g]? = some o:=by
 rw [Below.heap_alloc _ _ _ (Array.getElem?_eq_some_iff.1 h).1];exact h
def Cq (rb:Nat) (tv:Value) (ts:List Tok) (en:Nat) (k:Nat) (w:World) (res:Sum (D × Nat) Nat) (e:Ending) (w':World):Prop:=
 w.grownBy w' (some rb)/\match res with
  | .inl (d,n)=>∃ cs:List Value,e=zg (.agg cs.toArray)/\RE (fun b=>w.heap.size<=b) w' k cs d/\St rb tv ts en n w'
  | .inr m=>e=Ai (Ar ts en m)
end Go.Proofs.YtipngnjffjajpaaGreatDoor
