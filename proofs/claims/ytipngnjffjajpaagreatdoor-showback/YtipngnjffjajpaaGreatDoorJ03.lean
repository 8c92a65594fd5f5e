/- Plain: the tokens of a text stand in it one behind the other. -/
import Derived.Test.YtipngnjffjajpaaGreatDoorJ02
import Derived.Lib.SmallJoins
import Derived.Lib.AtoiErrMem
import Derived.Deep.AppendLies
set_option linter.unusedVariables false
set_option maxHeartbeats 8000000
set_option maxRecDepth 100000
namespace Go.Proofs.YtipngnjffjajpaaGreatDoor
open Go.RowKit
open Go.Value renaming int -> I, slice -> zc, bool -> zd, pointer -> zf, agg -> zg, tuple -> zi
open Go.IntKind renaming i64 -> O
open Go.Obj renaming cells -> ze
open Go.Ending renaming returned -> zh
def Ot (s:ByteArray):Nat->List Tok->Prop
 | _,[]=>True
 | a,t::ts=>∃ p:Nat,t.pos=p/\a<=p/\0 < t.text.size/\p+t.text.size<=s.size/\t.text=s.extract p (p+t.text.size)/\Ot s (p+t.text.size) ts
theorem Lp (s:ByteArray):∀ (f:Nat) (note:Bool) (i:Nat) (ts:List Tok),Bi s f note i=.inl ts->Ot s i ts:=by
 intro f
 induction f with
 | zero=>intro note i ts h;simp only [Bi,Sum.inl.injEq] at h;subst h;exact trivial
 | succ f ih=>
  intro note i ts h;simp only [Bi] at h;split at h
  ·rename_i j
   split at h
   ·rename_i l
    have b:=Ca l
    cases hr:Bi s f false (Ay s (AJ note s.data.toList i)).2 with
    | inl c=>
     rw [hr] at h;simp only [Sum.inl.injEq] at h;subst h;have g:(s.extract (AJ note s.data.toList i) (Ay s (AJ note s.data.toList i)).2).size=(Ay s (AJ note s.data.toList i)).2 - AJ note s.data.toList i:=by
      rw [ByteArray.size_extract,Nat.min_eq_left b.2]
     have a:AJ note s.data.toList i+(s.extract (AJ note s.data.toList i) (Ay s (AJ note s.data.toList i)).2).size=(Ay s (AJ note s.data.toList i)).2:=by omega
     refine ⟨AJ note s.data.toList i,rfl,El _ _ _,?_,?_,?_,?_⟩
     ·show 0 < (s.extract _ _).size
      omega
     ·show _+(s.extract _ _).size<=_
      omega
     ·show s.extract _ _=s.extract _ (_+(s.extract _ _).size)
      rw [a]
     ·show Ot s (_+(s.extract _ _).size) c
      rw [a];exact ih _ _ _ hr
    | inr x=>rw [hr] at h;simp at h
   ·simp at h
  ·simp only [Sum.inl.injEq] at h;subst h;exact trivial
theorem Jn {s:ByteArray} (h:AZ s=0) (hne:∀ x,B6 s=.inr x->x.2≠0):B6 s=.inl (An s):=by
 cases hs:B6 s with
 | inl a=>simp [An,hs]
 | inr x=>simp [AZ,hs] at h;exact absurd h (hne x hs)
theorem Mj (s:ByteArray):∀ (f:Nat) (note:Bool) (i:Nat) (x:Nat × Nat),Bi s f note i=.inr x->x.2≠0:=by
 intro f
 induction f with
 | zero=>intro note i x h;simp [Bi] at h
 | succ f ih=>
  intro note i x h;simp only [Bi] at h;split at h
  ·split at h
   ·cases hr:Bi s f false (Ay s (AJ note s.data.toList i)).2 with
    | inl b=>rw [hr] at h;simp at h
    | inr y=>rw [hr] at h;simp only [Sum.inr.injEq] at h;subst h;exact ih _ _ _ hr
   ·rename_i a
    simp only [Sum.inr.injEq] at h;subst h;exact a
  ·simp at h
theorem O0 {s:ByteArray} (h:AZ s=0):B6 s=.inl (An s):=Jn h fun x hx=>Mj s _ _ _ x hx
theorem F6 (n a b:Int) (w:World) :
  Calls Tryz.prog 76 #[I O n,I O a,I O b] w fun e w'=>e=zh (zd (decide (a<=n/\n<=b)))/\w'=w:=by
 by_cases h1:a<=n
 ·go_enter Tryz.func76,Tryz.ntmps76
  go_wp2
  go_ret;exact ⟨by simp [h1],rfl⟩
 ·go_enter Tryz.func76,Tryz.ntmps76
  go_wp2
  go_ret;exact ⟨by simp;omega,rfl⟩
theorem L4 (c:UInt8):c.toNat < 256:=c.toNat_lt
theorem Cc (c:UInt8) (w:World) :
  Calls Tryz.prog 100 #[I .u8 (c.toNat:Int)] w fun e w'=>e=zh (zd (isL c))/\w'=w:=by
 have f:=L4 c;have e:decide ((97:Int)<=(c.toNat:Int)/\(c.toNat:Int)<=122)=isL c:=by
  unfold isL;rw [decide_eq_decide];omega
 have a:=fun w=>F6 (c.toNat:Int) 97 122 w;rw [e] at a;have b:=Aa a;clear a e;go_enter Tryz.func100,Tryz.ntmps100;go_wp2_with fail;refine (b.out _).mono ?_;rintro e w' ⟨rfl,rfl⟩;go_wp2_with fail;go_ret;exact ⟨rfl,rfl⟩
theorem Bg (c:UInt8) (w:World) :
  Calls Tryz.prog 101 #[I .u8 (c.toNat:Int)] w fun e w'=>e=zh (zd (isD c))/\w'=w:=by
 have f:=L4 c;have e:decide ((48:Int)<=(c.toNat:Int)/\(c.toNat:Int)<=57)=isD c:=by
  unfold isD;rw [decide_eq_decide];omega
 have a:=fun w=>F6 (c.toNat:Int) 48 57 w;rw [e] at a;have b:=Aa a;clear a e;go_enter Tryz.func101,Tryz.ntmps101;go_wp2_with fail;refine (b.out _).mono ?_;rintro e w' ⟨rfl,rfl⟩;go_wp2_with fail;go_ret;exact ⟨rfl,rfl⟩
theorem Ih (s:ByteArray) (a:Nat) (ha:a < s.size) (hs:s.size<=6000) (hL:isL s[a]=true) (w:World) :
  Calls Tryz.prog 56 #[.string s,I O (a:Int)] w fun e w'=>e=zh (zi #[I O 1,I O ((AC isN s.data.toList a - a:Nat):Int)])/\w'=w:=by
 have i:=Cc s[a];rw [hL] at i;have v:=Aa i;have c:AC isN s.data.toList (a+1)=AC isN s.data.toList a:=(Dm (by simpa using ha) (by show isN s[a]=true;simp [isN,hL])).symm;clear i hL;go_enter Tryz.func56,Tryz.ntmps56;go_wp2_with fail;refine (v.out _).mono ?_;rintro e w' ⟨rfl,rfl⟩;go_wp2_with fail
 go_loop [7] (fun n=>∃ k:Nat,1<=k/\a+k<=s.size/\n=I O k/\Hid (AC isN s.data.toList (a+k)=AC isN s.data.toList a)) (fun n=>s.size - (intOf n).toNat)
 case atStart=>exact ⟨1,Nat.le_refl _,by omega,rfl,c⟩
 case round=>
  obtain ⟨k,F,G,rfl,A⟩:=hrel;clear c v;by_cases hlt:a+k < s.size
  ·have g:isN s[a+k]=true->AC isN s.data.toList (a+(k+1))=AC isN s.data.toList a:=fun h=>by
    rw [<-A.out];exact (Dm (by simpa using hlt) h).symm
   have f:isN s[a+k]=false->AC isN s.data.toList a=a+k:=fun h=>by
    rw [<-A.out];exact E5 (by simpa using hlt) h
   have x:=Aa g;have y:=Aa f;clear g f;by_cases hL:isL s[a+k]=true
   ·have i:=Cc s[a+k]
    rw [hL] at i;have v:=Aa i;have l:isN s[a+k]=true:=by simp [isN,hL]
    have B:=Aa l;clear i hL l;go_wp2_with fail;refine (v.out _).mono ?_;rintro e w' ⟨rfl,rfl⟩;go_wp2_with fail;exact ⟨⟨k+1,by omega,by omega,by go_num,x.out B.out⟩,by simp [intOf];omega⟩
   have j:isL s[a+k]=false:=by simpa using hL
   have i:=Cc s[a+k];rw [j] at i;have v:=Aa i;clear i hL;by_cases hD:isD s[a+k]=true
   ·have r:=Bg s[a+k]
    rw [hD] at r;have E:=Aa r;have l:isN s[a+k]=true:=by simp [isN,hD]
    have B:=Aa l;clear r hD l j;go_wp2_with fail;refine (v.out _).mono ?_;rintro e w' ⟨rfl,rfl⟩;go_wp2_with fail;refine (E.out _).mono ?_;rintro e w' ⟨rfl,rfl⟩;go_wp2_with fail;exact ⟨⟨k+1,by omega,by omega,by go_num,x.out B.out⟩,by simp [intOf];omega⟩
   ·have u:isD s[a+k]=false:=by simpa using hD
    have r:=Bg s[a+k];rw [u] at r;have E:=Aa r;have l:isN s[a+k]=false:=by simp [isN,u,j]
    have b:=y.out l;have C:=Aa b;clear r hD u l j b;go_wp2_with fail;refine (v.out _).mono ?_;rintro e w' ⟨rfl,rfl⟩;go_wp2_with fail;refine (E.out _).mono ?_;rintro e w' ⟨rfl,rfl⟩;go_wp2_with fail
    go_ret2
    exact ⟨by rw [C.out,Nat.add_sub_cancel_left];rfl,rfl⟩
  ·have b:AC isN s.data.toList a=a+k:=by
    rw [<-A.out];exact FK (by simp;omega)
   have C:=Aa b;clear b;go_wp2_with fail
   go_ret2
   exact ⟨by rw [C.out,Nat.add_sub_cancel_left];rfl,rfl⟩
theorem Gr (s:ByteArray) (a:Nat) (ha:a < s.size) (hs:s.size<=6000) (hL:isL s[a]=false) (hD:isD s[a]=true) (w:World) :
  Calls Tryz.prog 56 #[.string s,I O (a:Int)] w fun e w'=>e=zh (zi #[I O 2,I O ((AC isD s.data.toList a - a:Nat):Int)])/\w'=w:=by
 have r:=Cc s[a];rw [hL] at r;have B:=Aa r;have i:=Bg s[a];rw [hD] at i;have l:=Aa i;have c:AC isD s.data.toList (a+1)=AC isD s.data.toList a:=(Dm (by simpa using ha) hD).symm;clear r hL i hD;go_enter Tryz.func56,Tryz.ntmps56;go_wp2_with fail;refine (B.out _).mono ?_;rintro e w' ⟨rfl,rfl⟩;go_wp2_with fail;refine (l.out _).mono ?_;rintro e w' ⟨rfl,rfl⟩;go_wp2_with fail
 go_loop [7] (fun n=>∃ k:Nat,1<=k/\a+k<=s.size/\n=I O k/\Hid (AC isD s.data.toList (a+k)=AC isD s.data.toList a)) (fun n=>s.size - (intOf n).toNat)
 case atStart=>exact ⟨1,Nat.le_refl _,by omega,rfl,c⟩
 case round=>
  obtain ⟨k,C,F,rfl,x⟩:=hrel;clear c B l;by_cases hlt:a+k < s.size
  ·have g:isD s[a+k]=true->AC isD s.data.toList (a+(k+1))=AC isD s.data.toList a:=fun h=>by
    rw [<-x.out];exact (Dm (by simpa using hlt) h).symm
   have f:isD s[a+k]=false->AC isD s.data.toList a=a+k:=fun h=>by
    rw [<-x.out];exact E5 (by simpa using hlt) h
   have u:=Aa g;have v:=Aa f;clear g f;by_cases hD:isD s[a+k]=true
   ·have i:=Bg s[a+k]
    rw [hD] at i;have l:=Aa i;have A:=u.out hD;have E:=Aa A;clear i hD A;go_wp2_with fail;refine (l.out _).mono ?_;rintro e w' ⟨rfl,rfl⟩;go_wp2_with fail;exact ⟨⟨k+1,by omega,by omega,by go_num,E.out⟩,by simp [intOf];omega⟩
   ·have j:isD s[a+k]=false:=by simpa using hD
    have i:=Bg s[a+k];rw [j] at i;have l:=Aa i;have b:=v.out j;have y:=Aa b;clear i hD j b;go_wp2_with fail;refine (l.out _).mono ?_;rintro e w' ⟨rfl,rfl⟩;go_wp2_with fail
    go_ret2
    exact ⟨by rw [y.out,Nat.add_sub_cancel_left];rfl,rfl⟩
  ·have b:AC isD s.data.toList a=a+k:=by
    rw [<-x.out];exact FK (by simp;omega)
   have y:=Aa b;clear b;go_wp2_with fail
   go_ret2
   exact ⟨by rw [y.out,Nat.add_sub_cancel_left];rfl,rfl⟩
theorem D0 (s:ByteArray) (a:Nat) (ha:a < s.size):CB s a=true ↔ s[a].toNat=61/\∃ h:a+1 < s.size,s[a+1].toNat=61:=by
 have i:a < s.data.toList.length:=by simpa using ha
 have j:s.data.toList[a]=s[a]:=rfl;unfold CB;rw [List.drop_eq_getElem_cons i,j,beq_iff_eq];by_cases h1:a+1 < s.size
 ·have b:a+1 < s.data.toList.length:=by simpa using h1
  have c:s.data.toList[a+1]=s[a+1]:=rfl;rw [List.drop_eq_getElem_cons b,c];simp only [List.take_succ_cons,List.take_zero,List.cons.injEq,and_true];rw [Bl,Bl];constructor
  ·rintro ⟨g,f⟩;exact ⟨g,h1,f⟩
  ·rintro ⟨g,_,f⟩;exact ⟨g,f⟩
 ·rw [List.drop_of_length_le (l:=s.data.toList) (by simp;omega)]
  constructor
  ·intro h;simp at h
  ·rintro ⟨_,h,_⟩;exact absurd h h1
theorem Hg (l:List UInt8) (c:UInt8):0<=Lib.indexByte l c ↔ c∈l:=by
 induction l with
 | nil=>simp [Lib.indexByte]
 | cons b l ih=>
  have g:=Lib.indexByte_ge l c;unfold Lib.indexByte;by_cases h:(b == c)=true
  ·rw [if_pos h]
   have:=beq_iff_eq.1 h;simp [this]
  ·rw [if_neg h]
   have a:¬ c=b:=fun e=>h (by simp [e]);by_cases h2:(Lib.indexByte l c == -1)=true
   ·rw [if_pos h2]
    have f:Lib.indexByte l c=-1:=beq_iff_eq.1 h2;rw [f] at ih;simp only [List.mem_cons,a,false_or];rw [<-ih]
   ·rw [if_neg h2]
    have f:¬ Lib.indexByte l c=-1:=fun e=>h2 (by simp [e]);simp only [List.mem_cons,a,false_or];rw [<-ih];omega
theorem EQ (c:UInt8):isS c=true ↔ c∈DU.data.toList:=by
 unfold isS;rw [decide_eq_true_eq,Hg]
theorem I7 (s:ByteArray) (a:Nat) (ha:a < s.size) (hs:s.size<=6000) (hL:isL s[a]=false) (hD:isD s[a]=false) (hE:CB s a=true) (w:World) :
  Calls Tryz.prog 56 #[.string s,I O (a:Int)] w fun e w'=>e=zh (zi #[I O 3,I O 2])/\w'=w:=by
 have b:=Cc s[a];rw [hL] at b;have j:=Aa b;have c:=Bg s[a];rw [hD] at c;have l:=Aa c;obtain ⟨i,f,g⟩:=(D0 s a ha).1 hE;have r:((s[a].toNat:Int) == 61)=true:=beq_iff_eq.2 (by omega);have n:((s[a+1].toNat:Int) == 61)=true:=beq_iff_eq.2 (by omega);clear b hL c hD i g hE;go_enter Tryz.func56,Tryz.ntmps56;go_wp2_with fail;refine (j.out _).mono ?_;rintro e w' ⟨rfl,rfl⟩;go_wp2_with fail;refine (l.out _).mono ?_;rintro e w' ⟨rfl,rfl⟩;go_wp2_with fail
 go_ret2
 exact ⟨rfl,rfl⟩
theorem Fc (s:ByteArray) (a:Nat) (ha:a < s.size) (hs:s.size<=6000) (hL:isL s[a]=false) (hD:isD s[a]=false) (hE:CB s a=false) (kd ln:Int) (H3:Hid (isS s[a]=true->kd=3/\ln=1)) (H0:Hid (isS s[a]=false->kd=0/\ln=0)) (w:World) :
  Calls Tryz.prog 56 #[.string s,I O (a:Int)] w fun e w'=>e=zh (zi #[I O kd,I O ln])/\w'=w:=by
 have C:=Cc s[a];rw [hL] at C;have G:=Aa C;have E:=Bg s[a];rw [hD] at E;have H:=Aa E;clear C hL E hD;go_enter Tryz.func56,Tryz.ntmps56;go_wp2_with fail;refine (G.out _).mono ?_;rintro e w' ⟨rfl,rfl⟩;go_wp2_with fail;refine (H.out _).mono ?_;rintro e w' ⟨rfl,rfl⟩;clear G H;obtain ⟨sg,y⟩:∃ sg,sg=DU:=⟨_,rfl⟩;have J:sg.size<=13:=by rw [y];decide
 have b:=Aa y;clear y;by_cases h1:s[a].toNat=61
 ·have L:((s[a].toNat:Int) == 61)=true:=beq_iff_eq.2 (by omega)
  by_cases hlt:a+1 < s.size
  ·have K:¬ s[a+1].toNat=61:=fun h=>by
    have:=(D0 s a ha).2 ⟨h1,hlt,h⟩;rw [hE] at this;cases this
   have M:((s[a+1].toNat:Int) == 61)=false:=beq_eq_false_iff_ne.2 (by omega);clear K h1 hE;go_wp2_with fail;rw [show (ByteArray.mk #[123,125,40,41,59,58,33,44,61,43,45,42,60])=sg from b.out.symm]
   go_loop [9] (fun i=>∃ k:Nat,k<=sg.size/\i=I O k/\Hid (∀ j (h:j < sg.size),j < k->sg[j]≠s[a])) (fun i=>sg.size - (intOf i).toNat)
   case atStart=>exact ⟨0,Nat.zero_le _,rfl,fun j h x=>absurd x (Nat.not_lt_zero _)⟩
   case round=>
    obtain ⟨k,F,rfl,f⟩:=hrel;by_cases hkl:k < sg.size
    ·by_cases hc:sg[k]=s[a]
     ·have B:((sg[k].toNat:Int) == (s[a].toNat:Int))=true:=beq_iff_eq.2 (by rw [hc])
      have c:isS s[a]=true:=(EQ _).2 (by rw [<-b.out,<-hc];exact List.getElem_mem (l:=sg.data.toList) (by simpa using hkl));have g:=Aa c;clear hc c;go_wp2_with fail
      go_ret2
      exact ⟨by obtain ⟨rfl,rfl⟩:=H3.out g.out;rfl,rfl⟩
     ·have B:((sg[k].toNat:Int) == (s[a].toNat:Int))=false:=beq_eq_false_iff_ne.2 (fun h=>hc ((Bl _ _).2 (by omega)))
      have v:∀ j (h:j < sg.size),j < k+1->sg[j]≠s[a]:=fun j h x=>by
       rcases Nat.lt_or_ge j k with h3 | h3
       ·exact f.out j h h3
       ·obtain rfl:j=k:=by omega
        exact hc
      have n:=Aa v;clear hc v f;go_wp2_with fail;exact ⟨⟨k+1,by omega,by go_num,n⟩,by simp [intOf];omega⟩
    ·have c:isS s[a]=false:=by
      rw [<-Bool.not_eq_true,EQ];intro r;rw [<-b.out] at r;obtain ⟨j,u,A⟩:=List.getElem_of_mem r;exact f.out j (by simpa using u) (by simp at u;omega) A
     have g:=Aa c;clear c f;go_wp2_with fail
     go_ret2
     exact ⟨by obtain ⟨rfl,rfl⟩:=H0.out g.out;rfl,rfl⟩
  ·clear h1 hE
   go_wp2_with fail;rw [show (ByteArray.mk #[123,125,40,41,59,58,33,44,61,43,45,42,60])=sg from b.out.symm]
   go_loop [9] (fun i=>∃ k:Nat,k<=sg.size/\i=I O k/\Hid (∀ j (h:j < sg.size),j < k->sg[j]≠s[a])) (fun i=>sg.size - (intOf i).toNat)
   case atStart=>exact ⟨0,Nat.zero_le _,rfl,fun j h x=>absurd x (Nat.not_lt_zero _)⟩
   case round=>
    obtain ⟨k,F,rfl,f⟩:=hrel;by_cases hkl:k < sg.size
    ·by_cases hc:sg[k]=s[a]
     ·have B:((sg[k].toNat:Int) == (s[a].toNat:Int))=true:=beq_iff_eq.2 (by rw [hc])
      have c:isS s[a]=true:=(EQ _).2 (by rw [<-b.out,<-hc];exact List.getElem_mem (l:=sg.data.toList) (by simpa using hkl));have g:=Aa c;clear hc c;go_wp2_with fail
      go_ret2
      exact ⟨by obtain ⟨rfl,rfl⟩:=H3.out g.out;rfl,rfl⟩
     ·have B:((sg[k].toNat:Int) == (s[a].toNat:Int))=false:=beq_eq_false_iff_ne.2 (fun h=>hc ((Bl _ _).2 (by omega)))
      have v:∀ j (h:j < sg.size),j < k+1->sg[j]≠s[a]:=fun j h x=>by
       rcases Nat.lt_or_ge j k with h3 | h3
       ·exact f.out j h h3
       ·obtain rfl:j=k:=by omega
        exact hc
      have n:=Aa v;clear hc v f;go_wp2_with fail;exact ⟨⟨k+1,by omega,by go_num,n⟩,by simp [intOf];omega⟩
    ·have c:isS s[a]=false:=by
      rw [<-Bool.not_eq_true,EQ];intro r;rw [<-b.out] at r;obtain ⟨j,u,A⟩:=List.getElem_of_mem r;exact f.out j (by simpa using u) (by simp at u;omega) A
     have g:=Aa c;clear c f;go_wp2_with fail
     go_ret2
     exact ⟨by obtain ⟨rfl,rfl⟩:=H0.out g.out;rfl,rfl⟩
 ·have L:((s[a].toNat:Int) == 61)=false:=beq_eq_false_iff_ne.2 (by omega)
  clear h1 hE;go_wp2_with fail;rw [show (ByteArray.mk #[123,125,40,41,59,58,33,44,61,43,45,42,60])=sg from b.out.symm]
  go_loop [9] (fun i=>∃ k:Nat,k<=sg.size/\i=I O k/\Hid (∀ j (h:j < sg.size),j < k->sg[j]≠s[a])) (fun i=>sg.size - (intOf i).toNat)
  case atStart=>exact ⟨0,Nat.zero_le _,rfl,fun j h x=>absurd x (Nat.not_lt_zero _)⟩
  case round=>
   obtain ⟨k,F,rfl,f⟩:=hrel;by_cases hkl:k < sg.size
   ·by_cases hc:sg[k]=s[a]
    ·have B:((sg[k].toNat:Int) == (s[a].toNat:Int))=true:=beq_iff_eq.2 (by rw [hc])
     have c:isS s[a]=true:=(EQ _).2 (by rw [<-b.out,<-hc];exact List.getElem_mem (l:=sg.data.toList) (by simpa using hkl));have g:=Aa c;clear hc c;go_wp2_with fail
     go_ret2
     exact ⟨by obtain ⟨rfl,rfl⟩:=H3.out g.out;rfl,rfl⟩
    ·have B:((sg[k].toNat:Int) == (s[a].toNat:Int))=false:=beq_eq_false_iff_ne.2 (fun h=>hc ((Bl _ _).2 (by omega)))
     have v:∀ j (h:j < sg.size),j < k+1->sg[j]≠s[a]:=fun j h x=>by
      rcases Nat.lt_or_ge j k with h3 | h3
      ·exact f.out j h h3
      ·obtain rfl:j=k:=by omega
       exact hc
     have n:=Aa v;clear hc v f;go_wp2_with fail;exact ⟨⟨k+1,by omega,by go_num,n⟩,by simp [intOf];omega⟩
   ·have c:isS s[a]=false:=by
     rw [<-Bool.not_eq_true,EQ];intro r;rw [<-b.out] at r;obtain ⟨j,u,A⟩:=List.getElem_of_mem r;exact f.out j (by simpa using u) (by simp at u;omega) A
    have g:=Aa c;clear c f;go_wp2_with fail
    go_ret2
    exact ⟨by obtain ⟨rfl,rfl⟩:=H0.out g.out;rfl,rfl⟩
def DC (s:ByteArray) (a:Nat):Nat:=(Ay s a).2 - a
theorem FZ (s:ByteArray) (a:Nat) (ha:a < s.size) (hs:s.size<=6000) (w:World) :
  Calls Tryz.prog 56 #[.string s,I O (a:Int)] w fun e w'=>e=zh (zi #[I O ((Ay s a).1:Int),I O (DC s a:Int)])/\w'=w:=by
 by_cases hL:isL s[a]=true
 ·have f:Ay s a=(1,AC isN s.data.toList a):=by simp [Ay,ha,hL]
  unfold DC;rw [f];exact Ih s a ha hs hL w
 have b:isL s[a]=false:=by simpa using hL
 by_cases hD:isD s[a]=true
 ·have f:Ay s a=(2,AC isD s.data.toList a):=by simp [Ay,ha,b,hD]
  unfold DC;rw [f];exact Gr s a ha hs b hD w
 have c:isD s[a]=false:=by simpa using hD
 by_cases hE:CB s a=true
 ·have f:Ay s a=(3,a+2):=by simp [Ay,ha,b,c,hE]
  unfold DC;rw [f,Nat.add_sub_cancel_left];exact I7 s a ha hs b c hE w
 have g:CB s a=false:=by simpa using hE
 by_cases hS:isS s[a]=true
 ·have f:Ay s a=(3,a+1):=by simp [Ay,ha,b,c,g,hS]
  unfold DC;rw [f,Nat.add_sub_cancel_left];exact Fc s a ha hs b c g 3 1 (fun _=>⟨rfl,rfl⟩) (fun h=>by rw [hS] at h;cases h) w
 ·have f:Ay s a=(0,a):=by simp [Ay,ha,b,c,g,hS]
  unfold DC;rw [f,Nat.sub_self];exact Fc s a ha hs b c g 0 0 (fun h=>absurd h hS) (fun _=>⟨rfl,rfl⟩) w
theorem JP (x:ByteArray):x.extract 0 x.size=x:=by
 apply ByteArray.ext;simp
theorem Lj {x:ByteArray} (h0:0 < x.size) (hk:¬ (Ay x 0).1=0):AJ false x.data.toList 0=0:=by
 have f:0 < x.data.toList.length:=by simpa using h0
 have g:x.data.toList[0]=x[0]:=rfl;have a:¬ x[0].toNat=35/\Cw x[0]=false:=by
  by_cases h35:x[0].toNat=35
  ·have e:x[0]=35:=(Bl _ _).2 h35
   exfalso;apply hk;have b:CB x 0=false:=by
    rw [<-Bool.not_eq_true,D0 x 0 h0];rintro ⟨h,_⟩;omega
   simp [Ay,h0,e,b,show isL 35=false from rfl,show isD 35=false from rfl,show isS 35=false from rfl]
  ·refine ⟨h35,?_⟩
   rw [<-Bool.not_eq_true];intro c;simp only [Cw,decide_eq_true_eq] at c;apply hk;have b:CB x 0=false:=by
    rw [<-Bool.not_eq_true,D0 x 0 h0];rintro ⟨h,_⟩;omega
   rcases c with h | h | h
   ·have e:x[0]=32:=(Bl _ _).2 h
    simp [Ay,h0,e,b,show isL 32=false from rfl,show isD 32=false from rfl,show isS 32=false from rfl]
   ·have e:x[0]=9:=(Bl _ _).2 h
    simp [Ay,h0,e,b,show isL 9=false from rfl,show isD 9=false from rfl,show isS 9=false from rfl]
   ·have e:x[0]=10:=(Bl _ _).2 h
    simp [Ay,h0,e,b,show isL 10=false from rfl,show isD 10=false from rfl,show isS 10=false from rfl]
 exact E6 f a.1 a.2
theorem F0 {x:ByteArray} {j:Nat} (h:AE x j=0):¬ (Ay x j).1=0:=by
 intro a;simp [AE,a] at h
theorem Lu {x:ByteArray} (h0:0 < x.size) (he:AE x 0=0) (hn:(Ay x 0).2=x.size):B6 x=.inl [⟨(Ay x 0).1,0,x⟩]:=by
 have b:=Lj h0 (F0 he);unfold B6;obtain ⟨m,a⟩:∃ m,x.size=m+1:=⟨x.size - 1,by omega⟩;simp only [Bi,b,h0,he,if_true,hn];rw [a];simp only [Bi];rw [<-a,Hl (by simp)];simp only [Nat.lt_irrefl,if_false];simp only [Fe,hn,JP];rfl
theorem Ba (k a:Int) (x:ByteArray):Ao ⟨k,a,x⟩=true ↔ 0 < x.size/\x.size<=6000/\AE x 0=0/\((Ay x 0).1:Int)=k/\(Ay x 0).2=x.size:=by
 constructor
 ·intro h
  simp only [Ao,Bool.and_eq_true,decide_eq_true_eq] at h;obtain ⟨⟨G,F⟩,j⟩:=h;have b:=O0 F;generalize hT:An x=T at j b
  match T,j,b with
  | [u],j,b=>
   simp only [Bool.and_eq_true,beq_iff_eq] at j;obtain ⟨C,H⟩:=j;have i:u.text=x:=by
    apply ByteArray.ext;exact Array.toList_inj.1 H
   obtain ⟨p,I,_,c,l,E,_⟩:=Lp x _ _ _ _ b;rw [i] at c l E;have A:p=0:=by omega
   unfold B6 at b;simp only [Bi] at b;split at b
   ·rename_i K
    split at b
    ·rename_i g
     have f:=Ca g;generalize hr:Bi x x.size false (Ay x (AJ false x.data.toList 0)).2=R at b
     cases R with
     | inl P=>
      simp only [Sum.inl.injEq,List.cons.injEq] at b;obtain ⟨n,_⟩:=b;have L:AJ false x.data.toList 0=0:=by
       have:u.pos=((AJ false x.data.toList 0:Nat):Int):=by rw [<-n];rfl
       rw [I,A] at this;omega
      rw [L] at n g f;have B:((Ay x 0).1:Int)=k:=by rw [<-C,<-n];rfl
      have r:x.extract 0 (Ay x 0).2=x:=by
       have N:(Fe x 0).text=x:=by rw [n];exact i
       exact N
      have v:=congrArg ByteArray.size r;rw [ByteArray.size_extract,Nat.min_eq_left f.2] at v;exact ⟨c,G,g,B,by omega⟩
     | inr y=>simp at b
    ·simp at b
   ·simp at b
 ·rintro ⟨O,G,F,C,J⟩
  have b:=Lu O F J;have hT:An x=[⟨(Ay x 0).1,0,x⟩]:=by simp [An,b]
  have M:AZ x=0:=by simp [AZ,b]
  simp [Ao,G,hT,M,C]
theorem KI (k a:Int) (x:ByteArray) (al:Bool) (hal:Hid (al=Ao ⟨k,a,x⟩)) (hx:x.size<=maxLen) (w:World) :
  Calls Tryz.prog 112 #[I O k,.string x] w fun e w'=>e=zh (zd al)/\w'=w:=by
 unfold maxLen at hx;by_cases h0:0 < x.size
 ·have K:¬ x.toList=[]:=by
   rw [ByteArray.toList_eq];intro h;have:=congrArg List.length h;simp at this;rw [this] at h0;simp at h0
  have P:(x.toList == [])=false:=by simpa using K
  by_cases h6:x.size<=6000
  ·have M:decide ((6000:Int) < (x.size:Int))=false:=decide_eq_false (by omega)
   by_cases hk0:k=0
   ·have N:(k == 0)=true:=beq_iff_eq.2 hk0
    have b:al=false:=by rw [hal.out];rw [<-Bool.not_eq_true,Ba];rintro ⟨_,_,r,y,u⟩;exact F0 r (by omega)
    have f:=Aa b;clear b hk0;go_enter Tryz.func112,Tryz.ntmps112;go_wp2_with fail;go_ret;exact ⟨by rw [f.out];rfl,rfl⟩
   have N:(k == 0)=false:=beq_eq_false_iff_ne.2 hk0;have C:=Gt (s:=x) (j:=0);have G:=FZ x 0 h0 h6;obtain ⟨i,v⟩:∃ i,i=(Ay x 0).1:=⟨_,rfl⟩;obtain ⟨n,F⟩:∃ n,n=(Ay x 0).2:=⟨_,rfl⟩;have B:DC x 0=n:=by unfold DC;rw [F];rfl
   rw [<-v,B] at G;rw [<-v] at C;have c:Ay x 0=(i,n):=by rw [v,F]
   have L:n<=x.size:=by rw [F];exact Gs (Nat.zero_le _)
   have HT:=Aa G;have l:=Po h0;clear G B v F;by_cases e1:(i:Int)=k
   ·by_cases e2:n=x.size
    ·have H:((n:Int) == (x.size:Int))=true:=beq_iff_eq.2 (by omega)
     subst e1;have E:((i:Int) == (i:Int))=true:=by simp
     rcases (show i=0\/i=1\/i=2\/i=3 by omega) with rfl | rfl | rfl | rfl
     ·exact absurd rfl hk0
     ·by_cases h12:12 < n
      ·have b:al=false:=by rw [hal.out];rw [<-Bool.not_eq_true,Ba];rintro ⟨_,_,r,_⟩;simp [AE,c,h12] at r
       clear c l hk0;go_enter Tryz.func112,Tryz.ntmps112;have f:=Aa b;clear b;go_wp2_with fail;refine (HT.out _).mono ?_;rintro e w' ⟨rfl,rfl⟩;go_wp2_with fail;go_ret;exact ⟨by rw [f.out];first | rfl | (simp;omega) | simp,rfl⟩
      ·have b:al=true:=hal.out.trans ((Ba _ _ _).2 ⟨h0,h6,by simp [AE,c,h12],by rw [c],by rw [c];exact e2⟩)
       clear c l hk0;go_enter Tryz.func112,Tryz.ntmps112;have f:=Aa b;clear b;go_wp2_with fail;refine (HT.out _).mono ?_;rintro e w' ⟨rfl,rfl⟩;go_wp2_with fail;go_ret;exact ⟨by rw [f.out];first | rfl | (simp;omega) | simp,rfl⟩
     ·by_cases h7:7 < n
      ·have b:al=false:=by rw [hal.out];rw [<-Bool.not_eq_true,Ba];rintro ⟨_,_,r,_⟩;simp [AE,c,h7] at r
       clear c l hk0;go_enter Tryz.func112,Tryz.ntmps112;have f:=Aa b;clear b;go_wp2_with fail;refine (HT.out _).mono ?_;rintro e w' ⟨rfl,rfl⟩;go_wp2_with fail;go_ret;exact ⟨by rw [f.out];first | rfl | (simp;omega) | simp,rfl⟩
      by_cases h1:1 < n
      ·by_cases h48:x[0].toNat=48
       ·have J:((x[0].toNat:Int) == 48)=true:=beq_iff_eq.2 (by omega)
        have g:x[0]=48:=(Bl _ _).2 h48;have b:al=false:=by
         rw [hal.out];rw [<-Bool.not_eq_true,Ba];rintro ⟨_,_,r,_⟩;simp only [AE,c,l,g] at r;simp [h1,h7] at r
        clear h48 g;clear c l hk0;go_enter Tryz.func112,Tryz.ntmps112;have f:=Aa b;clear b;go_wp2_with fail;refine (HT.out _).mono ?_;rintro e w' ⟨rfl,rfl⟩;go_wp2_with fail;go_ret;exact ⟨by rw [f.out];first | rfl | (simp;omega) | simp,rfl⟩
       ·have J:((x[0].toNat:Int) == 48)=false:=beq_eq_false_iff_ne.2 (by omega)
        have g:¬ x[0]=48:=fun h=>h48 (by rw [h];rfl);have b:al=true:=hal.out.trans ((Ba _ _ _).2 ⟨h0,h6,by simp only [AE,c,l];simp [h1,h7,g],by rw [c],by rw [c];exact e2⟩);clear h48 g;clear c l hk0;go_enter Tryz.func112,Tryz.ntmps112;have f:=Aa b;clear b;go_wp2_with fail;refine (HT.out _).mono ?_;rintro e w' ⟨rfl,rfl⟩;go_wp2_with fail;go_ret;exact ⟨by rw [f.out];first | rfl | (simp;omega) | simp,rfl⟩
      ·have b:al=true:=hal.out.trans ((Ba _ _ _).2 ⟨h0,h6,by simp only [AE,c];simp [h1,h7],by rw [c],by rw [c];exact e2⟩)
       clear c l hk0;go_enter Tryz.func112,Tryz.ntmps112;have f:=Aa b;clear b;go_wp2_with fail;refine (HT.out _).mono ?_;rintro e w' ⟨rfl,rfl⟩;go_wp2_with fail;go_ret;exact ⟨by rw [f.out];first | rfl | (simp;omega) | simp,rfl⟩
     ·have b:al=true:=hal.out.trans ((Ba _ _ _).2 ⟨h0,h6,by simp [AE,c],by rw [c],by rw [c];exact e2⟩)
      clear c l hk0;go_enter Tryz.func112,Tryz.ntmps112;have f:=Aa b;clear b;go_wp2_with fail;refine (HT.out _).mono ?_;rintro e w' ⟨rfl,rfl⟩;go_wp2_with fail;go_ret;exact ⟨by rw [f.out];first | rfl | (simp;omega) | simp,rfl⟩
    ·have H:((n:Int) == (x.size:Int))=false:=beq_eq_false_iff_ne.2 (by omega)
     have E:((i:Int) == k)=true:=beq_iff_eq.2 e1;have b:al=false:=by rw [hal.out];rw [<-Bool.not_eq_true,Ba];rintro ⟨_,_,r,y,u⟩;rw [c] at u;exact e2 u
     clear e1 e2;clear c l hk0;go_enter Tryz.func112,Tryz.ntmps112;have f:=Aa b;clear b;go_wp2_with fail;refine (HT.out _).mono ?_;rintro e w' ⟨rfl,rfl⟩;go_wp2_with fail;go_ret;exact ⟨by rw [f.out];first | rfl | (simp;omega) | simp,rfl⟩
   ·have E:((i:Int) == k)=false:=beq_eq_false_iff_ne.2 e1
    have b:al=false:=by rw [hal.out];rw [<-Bool.not_eq_true,Ba];rintro ⟨_,_,r,y,u⟩;rw [c] at y;exact e1 y
    clear e1;clear c l hk0;go_enter Tryz.func112,Tryz.ntmps112;have f:=Aa b;clear b;go_wp2_with fail;refine (HT.out _).mono ?_;rintro e w' ⟨rfl,rfl⟩;go_wp2_with fail;go_ret;exact ⟨by rw [f.out];first | rfl | (simp;omega) | simp,rfl⟩
  ·have M:decide ((6000:Int) < (x.size:Int))=true:=decide_eq_true (by omega)
   have b:al=false:=by rw [hal.out];rw [<-Bool.not_eq_true,Ba];rintro ⟨_,h,_⟩;exact h6 h
   have f:=Aa b;clear b;go_enter Tryz.func112,Tryz.ntmps112;go_wp2_with fail;go_ret;exact ⟨by rw [f.out];rfl,rfl⟩
 ·have A:x=⟨#[]⟩:=by
   apply ByteArray.ext;exact Array.eq_empty_of_size_eq_zero (by show x.size=0;omega)
  have b:al=false:=by rw [hal.out];rw [<-Bool.not_eq_true,Ba];rintro ⟨h,_⟩;exact h0 h
  have f:=Aa b;have K:x.toList=[]:=by rw [A,ByteArray.toList_eq]
  clear b A;go_enter Tryz.func112,Tryz.ntmps112;go_wp2_with fail;go_ret;exact ⟨by rw [f.out];rfl,rfl⟩
theorem JJ (k a:Int) (x:ByteArray) (hx:x.size<=maxLen) (w:World) :
  Calls Tryz.prog 112 #[I O k,.string x] w fun e w'=>e=zh (zd (Ao ⟨k,a,x⟩))/\w'=w:=
 KI k a x _ rfl hx w
def A0 (l:List UInt8):Int:=
 if l=[43] then 3 else
 if l=[45] then 4 else
 if l=[42] then 5 else
 if l=[60] then 6 else
 if l=[61,61] then 7 else
 0
theorem DM (x:ByteArray) (w:World) :
  Calls Tryz.prog 168 #[.string x] w fun e w'=>e=zh (I O (A0 x.data.toList))/\w'=w:=by
 by_cases h0:x.data.toList=[43]
 ·obtain rfl:=Au h0
  clear h0;go_enter Tryz.func168,Tryz.ntmps168
  go_wp2
  go_ret;exact ⟨rfl,rfl⟩
 by_cases h1:x.data.toList=[45]
 ·obtain rfl:=Au h1
  clear h0 h1;go_enter Tryz.func168,Tryz.ntmps168
  go_wp2
  go_ret;exact ⟨rfl,rfl⟩
 by_cases h2:x.data.toList=[42]
 ·obtain rfl:=Au h2
  clear h0 h1 h2;go_enter Tryz.func168,Tryz.ntmps168
  go_wp2
  go_ret;exact ⟨rfl,rfl⟩
 by_cases h3:x.data.toList=[60]
 ·obtain rfl:=Au h3
  clear h0 h1 h2 h3;go_enter Tryz.func168,Tryz.ntmps168
  go_wp2
  go_ret;exact ⟨rfl,rfl⟩
 by_cases h4:x.data.toList=[61,61]
 ·obtain rfl:=Au h4
  clear h0 h1 h2 h3 h4;go_enter Tryz.func168,Tryz.ntmps168
  go_wp2
  go_ret;exact ⟨rfl,rfl⟩
 have hr:A0 x.data.toList=0:=by simp [A0,h0,h1,h2,h3,h4]
 have a:=Aa hr;have i:=AA h0;have g:=AA h1;have f:=AA h2;have c:=AA h3;have b:=AA h4;clear hr h0 h1 h2 h3 h4;go_enter Tryz.func168,Tryz.ntmps168
 go_wp2
 go_ret;exact ⟨by rw [a.out];rfl,rfl⟩
def AK (l:List UInt8):Int:=
 if l=[97,99,116,111,114] then 1 else
 if l=[103,114,97,110,116] then 2 else
 if l=[115,112,101,97,107] then 3 else
 if l=[105,110] then 4 else
 if l=[111,117,116] then 5 else
 if l=[118,97,114] then 6 else
 if l=[102,117,110,99] then 7 else
 0
theorem BN (x:ByteArray) (w:World) :
  Calls Tryz.prog 94 #[.string x] w fun e w'=>e=zh (I O (AK x.data.toList))/\w'=w:=by
 by_cases h0:x.data.toList=[97,99,116,111,114]
 ·obtain rfl:=Au h0
  clear h0;go_enter Tryz.func94,Tryz.ntmps94
  go_wp2
  go_ret;exact ⟨rfl,rfl⟩
 by_cases h1:x.data.toList=[103,114,97,110,116]
 ·obtain rfl:=Au h1
  clear h0 h1;go_enter Tryz.func94,Tryz.ntmps94
  go_wp2
  go_ret;exact ⟨rfl,rfl⟩
 by_cases h2:x.data.toList=[115,112,101,97,107]
 ·obtain rfl:=Au h2
  clear h0 h1 h2;go_enter Tryz.func94,Tryz.ntmps94
  go_wp2
  go_ret;exact ⟨rfl,rfl⟩
 by_cases h3:x.data.toList=[105,110]
 ·obtain rfl:=Au h3
  clear h0 h1 h2 h3;go_enter Tryz.func94,Tryz.ntmps94
  go_wp2
  go_ret;exact ⟨rfl,rfl⟩
 by_cases h4:x.data.toList=[111,117,116]
 ·obtain rfl:=Au h4
  clear h0 h1 h2 h3 h4;go_enter Tryz.func94,Tryz.ntmps94
  go_wp2
  go_ret;exact ⟨rfl,rfl⟩
 by_cases h5:x.data.toList=[118,97,114]
 ·obtain rfl:=Au h5
  clear h0 h1 h2 h3 h4 h5;go_enter Tryz.func94,Tryz.ntmps94
  go_wp2
  go_ret;exact ⟨rfl,rfl⟩
 by_cases h6:x.data.toList=[102,117,110,99]
 ·obtain rfl:=Au h6
  clear h0 h1 h2 h3 h4 h5 h6;go_enter Tryz.func94,Tryz.ntmps94
  go_wp2
  go_ret;exact ⟨rfl,rfl⟩
 have hr:AK x.data.toList=0:=by simp [AK,h0,h1,h2,h3,h4,h5,h6]
 have a:=Aa hr;have l:=AA h0;have j:=AA h1;have i:=AA h2;have g:=AA h3;have f:=AA h4;have c:=AA h5;have b:=AA h6;clear hr h0 h1 h2 h3 h4 h5 h6;go_enter Tryz.func94,Tryz.ntmps94
 go_wp2
 go_ret;exact ⟨by rw [a.out];rfl,rfl⟩
theorem DN (l:List UInt8) (h:¬ A0 l=0):l≠[]:=by
 rintro rfl;exact h rfl
theorem DX (rb:Nat) (tv:Value) (ts:List Tok) (en n:Nat) (w:World) (h:St rb tv ts en n w) (hx:¬ A0 (Ag ts n).text.data.toList=0) :
  Calls Tryz.prog 156 #[zf (some ⟨rb,0,none⟩)] w fun e w'=>e=zh (I O (A0 (Ag ts n).text.data.toList))/\w.grownBy w' (some rb)/\St rb tv ts en (n+1) w':=by
 have E:n < ts.length:=Cm (DN _ hx);have K:=h.2.2.1;have i:=Bj rb tv ts en n w h;have j:=DM (Ag ts n).text;obtain ⟨C,f⟩:∃ y,y=(Ag ts n).kind:=⟨_,rfl⟩;obtain ⟨A,b⟩:∃ y,y=(Ag ts n).pos:=⟨_,rfl⟩;obtain ⟨tx,a⟩:∃ y,y=(Ag ts n).text:=⟨_,rfl⟩;rw [<-f,<-b,<-a] at i;rw [<-a] at j hx ⊢;unfold AG at i;obtain ⟨B,c⟩:∃ y,y=A0 tx.data.toList:=⟨_,rfl⟩;rw [<-c] at j hx ⊢;have Q:(B == 0)=false:=by simpa using hx
 have v:=Aa i;have x:=Aa j;have G:=Bz C A tx;clear i f b a j c hx;go_enter Tryz.func156,Tryz.ntmps156;go_wp2_with fail;refine (v.out).mono ?_;rintro e J ⟨rfl,l⟩;go_wp2_with fail;refine (x.out _).mono ?_;rintro e H ⟨rfl,rfl⟩;have u:=h.below l;obtain ⟨P,N,M,L⟩:=u.cells;have F:=Ad (r:=some rb) l;have g:=Aa (CG u E);clear v x h u l;go_wp2_with fail;go_ret;exact ⟨rfl,Ab F g.out.2,g.out.1⟩
theorem Jz (rb:Nat) (tv:Value) (ts:List Tok) (en n:Nat) (w:World) (h:St rb tv ts en n w) (hx:A0 (Ag ts n).text.data.toList=0) :
  Calls Tryz.prog 156 #[zf (some ⟨rb,0,none⟩)] w fun e w'=>e=Ai (Av ts en n)/\Below w.heap.size w w':=by
 have f:=Bj rb tv ts en n w h;have g:=DM (Ag ts n).text;rw [hx] at g;obtain ⟨x,c⟩:∃ y,y=(Ag ts n).kind:=⟨_,rfl⟩;obtain ⟨v,b⟩:∃ y,y=(Ag ts n).pos:=⟨_,rfl⟩;obtain ⟨tx,a⟩:∃ y,y=(Ag ts n).text:=⟨_,rfl⟩;rw [<-c,<-b,<-a] at f;rw [<-a] at g;unfold AG at f;have l:=Aa f;have r:=Aa g;have A:=Bz x v tx;clear f c b a g hx;go_enter Tryz.func156,Tryz.ntmps156;go_wp2_with fail;refine (l.out).mono ?_;rintro e C ⟨rfl,j⟩;go_wp2_with fail;refine (r.out _).mono ?_;rintro e u ⟨rfl,rfl⟩;have B:=Aa (BQ rb tv ts en n _ (h.below j));clear l r h;go_wp2_with fail;refine (B.out).mono ?_;rintro e u ⟨rfl,i⟩;unfold Ai;go_wp2_with fail;exact ⟨rfl,rfl,j.trans (i.mono j.size)⟩
def CF (l:List UInt8):Nat:=l.foldl (fun n c=>10*n+(c.toNat - 48)) 0
theorem Oa (l:List UInt8) (h:∀ c∈l,isD c=true):∀ acc,Lib.decFrom acc l=some (l.foldl (fun n c=>10*n+(c.toNat - 48)) acc):=by
 induction l with
 | nil=>intro acc;rfl
 | cons c l ih=>
  intro acc;have b:=h c (by simp);simp only [isD,decide_eq_true_eq] at b;have a:Lib.digitVal c=some (c.toNat - 48):=by
   unfold Lib.digitVal;rw [if_pos (by first | exact b | (simp;omega) | omega)]
  simp only [Lib.decFrom,a,List.foldl_cons];rw [ih (fun d a=>h d (by simp [a]))];congr 2;omega
theorem EV {p:UInt8->Bool} {l:List UInt8} (h:(l.takeWhile p).length=l.length):∀ c∈l,p c=true:=by
 have e:l.takeWhile p=l:=(List.takeWhile_prefix p).eq_of_length h;intro c a;rw [<-e] at a;exact List.all_eq_true.1 (List.all_takeWhile) c a
theorem D4 {t:Tok} (ha:Ao t=true) (hk:t.kind=2):t.text.size<=18/\Lib.atoi t.text.data.toList=some (CF t.text.data.toList:Int)/\t.text.data.toList≠[]/\CF t.text.data.toList<=9999999:=by
 obtain ⟨E,H,v,G,u⟩:=(Ba t.kind t.pos t.text).1 ha;have b:(Ay t.text 0).1=2:=by omega
 have r:Ay t.text 0=(2,AC isD t.text.data.toList 0):=by
  by_cases hL:isL t.text[0]=true
  ·have:Ay t.text 0=(1,AC isN t.text.data.toList 0):=by simp [Ay,E,hL]
   rw [this] at b;simp at b
  by_cases r:isD t.text[0]=true
  ·simp [Ay,E,hL,r]
  ·have:¬ (Ay t.text 0).1=2:=by
    unfold Ay;rw [dif_pos E,if_neg hL,if_neg r];split
    ·simp
    ·split <;> simp
   exact absurd b this
 rw [r] at u;simp only at u;have y:(t.text.data.toList.takeWhile isD).length=t.text.data.toList.length:=by
  have:=u;simp only [AC,List.drop_zero,Nat.zero_add] at this;rw [this];rfl
 have a:=EV y;have g:t.text.size<=7:=by
  simp only [AE,r] at v;rw [if_neg (by omega)] at v;split at v
  ·cases v
  ·rename_i i
   simp only [Nat.sub_zero] at i;rw [u] at i;simp at i;omega
 have f:t.text.data.toList≠[]:=by
  intro h;have:=congrArg List.length h;have e:t.text.data.toList.length=t.text.size:=rfl;simp only [List.length_nil] at this;omega
 refine ⟨by omega,?_,f,?_⟩
 ·match hl:t.text.data.toList,a,f with
  | c::l,a,_=>
   have j:=a c (by simp);simp only [isD,decide_eq_true_eq] at j;have A:(c == 45)=false:=by rw [beq_eq_false_iff_ne];rintro rfl;simp at j
   have B:(c == 43)=false:=by rw [beq_eq_false_iff_ne];rintro rfl;simp at j
   simp only [Lib.atoi,A,B];have:=Oa (c::l) a 0;simp only [Lib.decNat,List.isEmpty_cons];simp only [Bool.false_eq_true,if_false];rw [this];rfl
 ·have x:∀ (l:List UInt8) (acc k:Nat),(∀ c∈l,isD c=true)->acc < 10 ^ k->l.foldl (fun n c=>10*n+(c.toNat - 48)) acc < 10 ^ (k+l.length):=by
   intro l
   induction l with
   | nil=>intro acc k _ h;simpa using h
   | cons c l ih=>
    intro acc k F h;have j:=F c (by simp);simp only [isD,decide_eq_true_eq] at j;have C:10*acc+(c.toNat - 48) < 10 ^ (k+1):=by rw [Nat.pow_succ];omega
    have:=ih _ (k+1) (fun d i=>F d (by simp [i])) C;simp only [List.foldl_cons,List.length_cons];rw [show k+(l.length+1)=k+1+l.length by omega];exact this
  have L:=x t.text.data.toList 0 0 a (by decide);have K:t.text.data.toList.length<=7:=g;have J:10 ^ (0+t.text.data.toList.length)<=10 ^ 7:=Nat.pow_le_pow_right (by decide) (by omega);have I:(10:Nat) ^ 7=10000000:=by decide
  unfold CF;omega
theorem FU {ts:List Tok} {n:Nat} (h:(Ag ts n).kind=2):n < ts.length:=by
 rcases Nat.lt_or_ge n ts.length with h1 | h1
 ·exact h1
 ·exfalso
  have e:ts[n]? = none:=List.getElem?_eq_none h1;simp [Ag,e] at h
theorem CQ {ts:List Tok} {n:Nat} (h:n < ts.length):Ag ts n∈ts:=by
 have:Ag ts n=ts[n]:=by simp [Ag,h]
 rw [this];exact List.getElem_mem h
theorem GE (rb:Nat) (tv:Value) (ts:List Tok) (hall:ts.all Ao=true) (en n:Nat) (w:World) (h:St rb tv ts en n w) (hx:(Ag ts n).kind=2) :
  Calls Tryz.prog 155 #[zf (some ⟨rb,0,none⟩)] w fun e w'=>e=zh (I O (CF (Ag ts n).text.data.toList:Int))/\w.grownBy w' (some rb)/\St rb tv ts en (n+1) w':=by
 have E:=FU hx;have W:=h.2.2.1;obtain ⟨J,H,S,R⟩:=D4 (List.all_eq_true.1 hall _ (CQ E)) hx;have l:=Tryz.strconv_Atoi (Ag ts n).text _ J H;have i:=Bj rb tv ts en n w h;rw [hx] at i;obtain ⟨v,g⟩:∃ y,y=(Ag ts n).pos:=⟨_,rfl⟩;obtain ⟨V,j⟩:∃ y,y=(CF (Ag ts n).text.data.toList:Int):=⟨_,rfl⟩;rw [<-j] at l ⊢;obtain ⟨tx,a⟩:∃ y,y=(Ag ts n).text:=⟨_,rfl⟩;rw [<-g,<-a] at i;rw [<-a] at l;unfold AG at i;have K:=Aa i;have T:=Aa l;clear i g a l j hx J H S R;go_enter Tryz.func155,Tryz.ntmps155;go_wp2_with fail;refine (K.out).mono ?_;rintro e f ⟨rfl,G⟩;have u:=h.below G;have F:=u.lt;obtain ⟨Q,P,N,M⟩:=u.cells;have L:=Ad (r:=some rb) G;obtain ⟨s1,C⟩:=CG u E;have c:Below (f.setCell ⟨rb,1,none⟩ (I O ((n:Int)+1))).heap.size (f.setCell ⟨rb,1,none⟩ (I O ((n:Int)+1))) ((f.setCell ⟨rb,1,none⟩ (I O ((n:Int)+1))).alloc (Obj.cells #[I O 2,I O v,.string tx] 44)):=(Below.refl _ _).alloc (Nat.le_refl _) _;have x:=Aa (s1.below c);have A:=Aa (Ab (Ab L C) (Ad c));clear K h s1 C c u;go_wp2_with fail;refine (T.out _).mono ?_;rintro e U ⟨rfl,B,rfl⟩;have b:=Lib.bytesWorld_below ((f.setCell ⟨rb,1,none⟩ (I O ((n:Int)+1))).alloc (Obj.cells #[I O 2,I O v,.string tx] 44)) 5 B;generalize Lib.bytesWorld ((f.setCell ⟨rb,1,none⟩ (I O ((n:Int)+1))).alloc (Obj.cells #[I O 2,I O v,.string tx] 44)) 5 B=w3 at b ⊢;clear Q P N M;go_wp2_with fail;go_ret;exact ⟨rfl,Ab A.out (Ad b),x.out.below b⟩
theorem Mu (rb:Nat) (tv:Value) (ts:List Tok) (en n:Nat) (w:World) (h:St rb tv ts en n w) (hx:¬ (Ag ts n).kind=2) :
  Calls Tryz.prog 155 #[zf (some ⟨rb,0,none⟩)] w fun e w'=>e=Ai (Av ts en n)/\Below w.heap.size w w':=by
 have g:=Bj rb tv ts en n w h;obtain ⟨j,a⟩:∃ y,y=(Ag ts n).kind:=⟨_,rfl⟩;obtain ⟨v,f⟩:∃ y,y=(Ag ts n).pos:=⟨_,rfl⟩;obtain ⟨tx,c⟩:∃ y,y=(Ag ts n).text:=⟨_,rfl⟩;rw [<-a,<-f,<-c] at g;rw [<-a] at hx;unfold AG at g;have r:=Aa g;have B:(j != 2)=true:=by simpa using hx
 clear g a f c hx;go_enter Tryz.func155,Tryz.ntmps155;go_wp2_with fail;refine (r.out).mono ?_;rintro e u ⟨rfl,l⟩;have b:Below w.heap.size w (u.alloc (Obj.cells #[I O j,I O v,.string tx] 44)):=l.alloc l.size _;have x:=Aa (BQ rb tv ts en n _ (h.below b));clear r h;go_wp2_with fail;refine (x.out).mono ?_;rintro e A ⟨rfl,i⟩;unfold Ai;go_wp2_with fail;exact ⟨rfl,rfl,b.trans (i.mono b.size)⟩
abbrev D:=DataW Empty
def dI (n:Int):D:=.lit (.int O n)
def dS (x:ByteArray):D:=.lit (.string x.data.toList)
def dB (b:Bool):D:=.lit (.bool b)
def dL (l:List D):D:=.slice l []
def eD (k a n:Int) (name:ByteArray) (args:List D):D:=.agg [dI k,dI a,dI n,dS name,dL args]
def Fz0 (w:World) (b off:Nat):Prop:=b < w.heap.size/\w.frozen? ⟨b,off,none⟩=false
theorem Fz0.of_block {w w':World} {b off:Nat} (h:Fz0 w b off) (hw:w'.heap[b]? = w.heap[b]?):Fz0 w' b off:=by
 refine ⟨?_,by rw [World.frozen?_of_block (a:=⟨b,off,none⟩) hw];exact h.2⟩;rw [Array.getElem?_eq_getElem h.1] at hw;exact (Array.getElem?_eq_some_iff.1 hw).1
theorem Fz0.new {w:World} {b off T:Nat} {c:Array Value} (h:w.heap[b]? = some (.cells c T (0,0))):Fz0 w b off:=⟨(Array.getElem?_eq_some_iff.1 h).1,Lib.frozen_of_heap h off⟩
def RS (S:Nat->Prop) (size:Nat) (R:List Value->D->Prop) (w:World) (v:Value) (ds:List D):Prop:=
 ∃ ao cap,v=zc ao ds.length cap/\(ds≠[]->∃ b off,ao=some ⟨b,off,none⟩/\S b/\Fz0 w b off /\
  ∀ (i:Nat) (d:D),ds[i]? = some d->∃ cs:List Value,cs.length=size/\(∀ (j:Nat) (u:Value),cs[j]? = some u->w.cell? ⟨b,off+i*size+j,none⟩=some u)/\R cs d)
theorem RS.nil (S:Nat->Prop) (size:Nat) (R:List Value->D->Prop) (w:World) (ao:Option Addr) (cap:Nat):RS S size R w (zc ao 0 cap) []:=⟨ao,cap,rfl,fun h=>absurd rfl h⟩
theorem RS.mono {S S':Nat->Prop} {size:Nat} {R R':List Value->D->Prop} {w w':World} {v:Value} {ds:List D} (h:RS S size R w v ds) (hS:∀ b,S b->b < w.heap.size->S' b)
  (hw:∀ b,S b->b < w.heap.size->w'.heap[b]? = w.heap[b]?) (hs:0 < size) (hR:∀ cs d,d∈ds->R cs d->R' cs d):RS S' size R' w' v ds:=by
 obtain ⟨H,B,F,G⟩:=h;refine ⟨H,B,F,fun n=>?_⟩;obtain ⟨b,l,A,g,y,r⟩:=G n;have c:b < w.heap.size:=by
  cases ds with
  | nil=>exact absurd rfl n
  | cons d ds=>
   obtain ⟨cs,C,f,_⟩:=r 0 d rfl;obtain ⟨u,x⟩:∃ u,cs[0]? = some u:=⟨cs[0]'(by omega),List.getElem?_eq_getElem (by omega)⟩;exact World.block_lt_of_cell? w _ (f 0 u x)
 refine ⟨b,l,A,hS b g c,y.of_block (hw b g c),fun i d E=>?_⟩;obtain ⟨cs,C,f,hr⟩:=r i d E;refine ⟨cs,C,fun j u x=>?_,hR cs d (List.mem_of_getElem? E) hr⟩;rw [World.cell?_of_block (a:=⟨b,l+i*size+j,none⟩) (hw b g c)];exact f j u x
def RE (S:Nat->Prop) (w:World):Nat->List Value->D->Prop
 | 0,_,_=>False
 | k+1,cs,d=>∃ (kd a n:Int) (x:ByteArray) (v:Value) (ds:List D),cs=[I O kd,I O a,I O n,.string x,v]/\d=eD kd a n x ds/\RS S 5 (RE S w k) w v ds
theorem RE.mono {S S':Nat->Prop} {w w':World} (hS:∀ b,S b->b < w.heap.size->S' b) (hw:∀ b,S b->b < w.heap.size->w'.heap[b]? = w.heap[b]?) :
  ∀ (k m:Nat) (cs:List Value) (d:D),k<=m->RE S w k cs d->RE S' w' m cs d:=by
 intro k
 induction k with
 | zero=>intro m cs d _ h;exact h.elim
 | succ k ih=>
  intro m cs d i h;obtain ⟨c,rfl⟩:∃ c,m=c + 1:=⟨m - 1,by omega⟩;obtain ⟨g,a,n,x,v,r,f,l,hr⟩:=h;exact ⟨g,a,n,x,v,r,f,l,hr.mono hS hw (by decide) (fun cs d _ j=>ih c cs d (by omega) j)⟩
def pE (ts:List Tok) (en:Nat):Nat->Nat->Nat->Sum (D × Nat) Nat
 | 0,_,n=>.inr n
 | f+1,deep,n=>
  if (Ag ts n).kind=2 then .inl (eD 1 (Av ts en n) (CF (Ag ts n).text.data.toList) ⟨#[]⟩ [],n+1)
  else if isT ts n [45]=true then
   if isT ts (n+1) [48]=true then .inr (n+1)
   else if (Ag ts (n+1)).kind=2 then .inl (eD 1 (Av ts en n) (-(CF (Ag ts (n+1)).text.data.toList:Int)) ⟨#[]⟩ [],n+2)
   else .inr (n+1)
  else if AN (Ag ts n)=true then .inl (eD 2 (Av ts en n) 0 (Ag ts n).text [],n+1)
  else if deep < 60/\isT ts n [40]=true then
   match pE ts en f (deep+1) (n+1) with
   | .inr m=>.inr m
   | .inl (a,n1)=>
    if A0 (Ag ts n1).text.data.toList=0 then .inr n1
    else match pE ts en f (deep+1) (n1+1) with
     | .inr m=>.inr m
     | .inl (b,n2)=>if isT ts n2 [41]=true then .inl (eD (A0 (Ag ts n1).text.data.toList) (Av ts en n) 0 ⟨#[]⟩ [a,b],n2+1) else .inr n2
  else .inr n
theorem Ae {w w':World} {rb g:Nat} {o:Obj} (h:w.heap[g]? = some o) (hg:w.grownBy w' (some rb)) (hne:g≠rb):w'.heap[g]? = some o:=by
 rw [hg.block g (Array.getElem?_eq_some_iff.1 h).1 (by simpa using hne)];exact h
theorem Aw {w w':World} {g:Nat} {o:Obj} (h:w.heap[g]? = some o) (hb:Below w.heap.size w w'):w'.heap[g]? = some o:=by
 rw [hb.block g (Array.getElem?_eq_some_iff.1 h).1];exact h
theorem De {w:World} {g T:Nat} {a b c d e:Value} (h:w.heap[g]? = some (Obj.cells #[a,b,c,d,e] T (0,0))) :
  w.cell? ⟨g,0,none⟩=some a/\w.cell? ⟨g,1,none⟩=some b/\w.cell? ⟨g,2,none⟩=some c/\w.cell? ⟨g,3,none⟩=some d/\w.cell? ⟨g,4,none⟩=some e/\(∀ j,w.frozen? ⟨g,j,none⟩=false)/\g < w.heap.size:=by
 refine ⟨?_,?_,?_,?_,?_,fun j=>Lib.frozen_of_heap h j,(Array.getElem?_eq_some_iff.1 h).1⟩ <;> rw [Lib.cell_of_heap h] <;> rfl
theorem Ak {w w4:World} {r:Option Nat} (h:w.grownBy w4 r) {p:Addr} (hp:w.heap.size<=p.block) (u:Value):w.grownBy (w4.setCell p u) r:=
 ⟨h.os,h.tape,h.output,by have:=h.size;simp [World.setCell];omega,fun k hk hne=>by rw [Below.heap_setCell _ _ _ _ (by omega)];exact h.block k hk hne⟩
theorem DG {w w4:World} {r:Option Nat} (h:w.grownBy w4 r) (o:Obj):w.grownBy (w4.alloc o) r:=
 ⟨h.os,h.tape,h.output,by have:=h.size;simp;omega,fun k hk hne=>by rw [Below.heap_alloc _ _ _ (by have:=h.size;omega)];exact h.block k hk hne⟩
theorem Ap {w:World} {g:Nat} {o:Obj} {p:Addr} {u:Value} (h:w.heap[g]? = some o) (hne:g≠p.block):(w.setCell p u).heap[g]? = some o:=by
 rw [Below.heap_setCell _ _ _ _ hne];exact h
theorem Cj {w:World} {g:Nat} {o o':Obj} (h:w.heap[g]? = some o):(w.alloc o').heap[g]? = some o:=by
 rw [Below.heap_alloc _ _ _ (Array.getElem?_eq_some_iff.1 h).1];exact h
def Cx (rb:Nat) (tv:Value) (ts:List Tok) (en:Nat) (k:Nat) (w:World) (res:Sum (D × Nat) Nat) (e:Ending) (w':World):Prop:=
 w.grownBy w' (some rb)/\match res with
  | .inl (d,n)=>∃ cs:List Value,e=zh (.agg cs.toArray)/\RE (fun b=>w.heap.size<=b) w' k cs d/\St rb tv ts en n w'
  | .inr m=>e=Ai (Av ts en m)
end Go.Proofs.YtipngnjffjajpaaGreatDoor
