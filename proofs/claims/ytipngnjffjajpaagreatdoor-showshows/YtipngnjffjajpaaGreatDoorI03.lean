/- Plain: the tokens of a text stand in it one behind the other. -/
import Derived.Test.YtipngnjffjajpaaGreatDoorI02
set_option linter.unusedVariables false
set_option maxHeartbeats 8000000
set_option maxRecDepth 100000
namespace Go.Proofs.YtipngnjffjajpaaGreatDoor
open Go.RowKit
open Go.Value renaming int -> A, slice -> O, bool -> zc, agg -> ze, pointer -> zf, tuple -> zh
open Go.IntKind renaming i64 -> J
open Go.Obj renaming cells -> zd
open Go.Ending renaming returned -> zg
def MX (s:ByteArray):Nat->List Tok->Prop
 | _,[]=>True
 | a,t::ts=>∃ p:Nat,t.pos=p/\a<=p/\0 < t.text.size/\p+t.text.size<=s.size/\t.text=s.extract p (p+t.text.size)/\MX s (p+t.text.size) ts
theorem Jr (s:ByteArray):∀ (f:Nat) (note:Bool) (i:Nat) (ts:List Tok),Bd s f note i=.inl ts->MX s i ts:=by
 intro f
 induction f with
 | zero=>intro note i ts h;simp only [Bd,Sum.inl.injEq] at h;subst h;exact trivial
 | succ f ih=>
  intro note i ts h;simp only [Bd] at h;split at h
  ·rename_i j
   split at h
   ·rename_i l
    have b:=BM l
    cases hr:Bd s f false (Al s (AE note s.data.toList i)).2 with
    | inl c=>
     rw [hr] at h;simp only [Sum.inl.injEq] at h;subst h;have g:(s.extract (AE note s.data.toList i) (Al s (AE note s.data.toList i)).2).size=(Al s (AE note s.data.toList i)).2 - AE note s.data.toList i:=by
      rw [ByteArray.size_extract,Nat.min_eq_left b.2]
     have a:AE note s.data.toList i+(s.extract (AE note s.data.toList i) (Al s (AE note s.data.toList i)).2).size=(Al s (AE note s.data.toList i)).2:=by omega
     refine ⟨AE note s.data.toList i,rfl,DF _ _ _,?_,?_,?_,?_⟩
     ·show 0 < (s.extract _ _).size
      omega
     ·show _+(s.extract _ _).size<=_
      omega
     ·show s.extract _ _=s.extract _ (_+(s.extract _ _).size)
      rw [a]
     ·show MX s (_+(s.extract _ _).size) c
      rw [a];exact ih _ _ _ hr
    | inr x=>rw [hr] at h;simp at h
   ·simp at h
  ·simp only [Sum.inl.injEq] at h;subst h;exact trivial
theorem Ii {s:ByteArray} (h:A7 s=0) (hne:∀ x,BZ s=.inr x->x.2≠0):BZ s=.inl (Aw s):=by
 cases hs:BZ s with
 | inl a=>simp [Aw,hs]
 | inr x=>simp [A7,hs] at h;exact absurd h (hne x hs)
theorem Kg (s:ByteArray):∀ (f:Nat) (note:Bool) (i:Nat) (x:Nat × Nat),Bd s f note i=.inr x->x.2≠0:=by
 intro f
 induction f with
 | zero=>intro note i x h;simp [Bd] at h
 | succ f ih=>
  intro note i x h;simp only [Bd] at h;split at h
  ·split at h
   ·cases hr:Bd s f false (Al s (AE note s.data.toList i)).2 with
    | inl b=>rw [hr] at h;simp at h
    | inr y=>rw [hr] at h;simp only [Sum.inr.injEq] at h;subst h;exact ih _ _ _ hr
   ·rename_i a
    simp only [Sum.inr.injEq] at h;subst h;exact a
  ·simp at h
theorem Nn {s:ByteArray} (h:A7 s=0):BZ s=.inl (Aw s):=Ii h fun x hx=>Kg s _ _ _ x hx
theorem Fo (n a b:Int) (w:World) :
  Calls Tryz.prog 76 #[A J n,A J a,A J b] w fun e w'=>e=zg (zc (decide (a<=n/\n<=b)))/\w'=w:=by
 by_cases h1:a<=n
 ·go_enter Tryz.func76,Tryz.ntmps76
  go_wp2
  go_ret;exact ⟨by simp [h1],rfl⟩
 ·go_enter Tryz.func76,Tryz.ntmps76
  go_wp2
  go_ret;exact ⟨by simp;omega,rfl⟩
theorem JY (c:UInt8):c.toNat < 256:=c.toNat_lt
theorem BN (c:UInt8) (w:World) :
  Calls Tryz.prog 100 #[A .u8 (c.toNat:Int)] w fun e w'=>e=zg (zc (isL c))/\w'=w:=by
 have f:=JY c;have e:decide ((97:Int)<=(c.toNat:Int)/\(c.toNat:Int)<=122)=isL c:=by
  unfold isL;rw [decide_eq_decide];omega
 have a:=fun w=>Fo (c.toNat:Int) 97 122 w;rw [e] at a;have b:=Aa a;clear a e;go_enter Tryz.func100,Tryz.ntmps100;go_wp2_with fail;refine (b.out _).mono ?_;rintro e w' ⟨rfl,rfl⟩;go_wp2_with fail;go_ret;exact ⟨rfl,rfl⟩
theorem A3 (c:UInt8) (w:World) :
  Calls Tryz.prog 101 #[A .u8 (c.toNat:Int)] w fun e w'=>e=zg (zc (isD c))/\w'=w:=by
 have f:=JY c;have e:decide ((48:Int)<=(c.toNat:Int)/\(c.toNat:Int)<=57)=isD c:=by
  unfold isD;rw [decide_eq_decide];omega
 have a:=fun w=>Fo (c.toNat:Int) 48 57 w;rw [e] at a;have b:=Aa a;clear a e;go_enter Tryz.func101,Tryz.ntmps101;go_wp2_with fail;refine (b.out _).mono ?_;rintro e w' ⟨rfl,rfl⟩;go_wp2_with fail;go_ret;exact ⟨rfl,rfl⟩
theorem GN (s:ByteArray) (a:Nat) (ha:a < s.size) (hs:s.size<=6000) (hL:isL s[a]=true) (w:World) :
  Calls Tryz.prog 56 #[.string s,A J (a:Int)] w fun e w'=>e=zg (zh #[A J 1,A J ((Ar isN s.data.toList a - a:Nat):Int)])/\w'=w:=by
 have i:=BN s[a];rw [hL] at i;have t:=Aa i;have c:Ar isN s.data.toList (a+1)=Ar isN s.data.toList a:=(CV (by simpa using ha) (by show isN s[a]=true;simp [isN,hL])).symm;clear i hL;go_enter Tryz.func56,Tryz.ntmps56;go_wp2_with fail;refine (t.out _).mono ?_;rintro e w' ⟨rfl,rfl⟩;go_wp2_with fail
 go_loop [7] (fun n=>∃ k:Nat,1<=k/\a+k<=s.size/\n=A J k/\Hid (Ar isN s.data.toList (a+k)=Ar isN s.data.toList a)) (fun n=>s.size - (intOf n).toNat)
 case atStart=>exact ⟨1,Nat.le_refl _,by omega,rfl,c⟩
 case round=>
  obtain ⟨k,E,F,rfl,x⟩:=hrel;clear c t;by_cases hlt:a+k < s.size
  ·have g:isN s[a+k]=true->Ar isN s.data.toList (a+(k+1))=Ar isN s.data.toList a:=fun h=>by
    rw [<-x.out];exact (CV (by simpa using hlt) h).symm
   have f:isN s[a+k]=false->Ar isN s.data.toList a=a+k:=fun h=>by
    rw [<-x.out];exact Ee (by simpa using hlt) h
   have u:=Aa g;have v:=Aa f;clear g f;by_cases hL:isL s[a+k]=true
   ·have i:=BN s[a+k]
    rw [hL] at i;have t:=Aa i;have l:isN s[a+k]=true:=by simp [isN,hL]
    have y:=Aa l;clear i hL l;go_wp2_with fail;refine (t.out _).mono ?_;rintro e w' ⟨rfl,rfl⟩;go_wp2_with fail;exact ⟨⟨k+1,by omega,by omega,by go_num,u.out y.out⟩,by simp [intOf];omega⟩
   have j:isL s[a+k]=false:=by simpa using hL
   have i:=BN s[a+k];rw [j] at i;have t:=Aa i;clear i hL;by_cases hD:isD s[a+k]=true
   ·have q:=A3 s[a+k]
    rw [hD] at q;have C:=Aa q;have l:isN s[a+k]=true:=by simp [isN,hD]
    have y:=Aa l;clear q hD l j;go_wp2_with fail;refine (t.out _).mono ?_;rintro e w' ⟨rfl,rfl⟩;go_wp2_with fail;refine (C.out _).mono ?_;rintro e w' ⟨rfl,rfl⟩;go_wp2_with fail;exact ⟨⟨k+1,by omega,by omega,by go_num,u.out y.out⟩,by simp [intOf];omega⟩
   ·have r:isD s[a+k]=false:=by simpa using hD
    have q:=A3 s[a+k];rw [r] at q;have C:=Aa q;have l:isN s[a+k]=false:=by simp [isN,r,j]
    have b:=v.out l;have B:=Aa b;clear q hD r l j b;go_wp2_with fail;refine (t.out _).mono ?_;rintro e w' ⟨rfl,rfl⟩;go_wp2_with fail;refine (C.out _).mono ?_;rintro e w' ⟨rfl,rfl⟩;go_wp2_with fail
    go_ret2
    exact ⟨by rw [B.out,Nat.add_sub_cancel_left];rfl,rfl⟩
  ·have b:Ar isN s.data.toList a=a+k:=by
    rw [<-x.out];exact EZ (by simp;omega)
   have B:=Aa b;clear b;go_wp2_with fail
   go_ret2
   exact ⟨by rw [B.out,Nat.add_sub_cancel_left];rfl,rfl⟩
theorem FC (s:ByteArray) (a:Nat) (ha:a < s.size) (hs:s.size<=6000) (hL:isL s[a]=false) (hD:isD s[a]=true) (w:World) :
  Calls Tryz.prog 56 #[.string s,A J (a:Int)] w fun e w'=>e=zg (zh #[A J 2,A J ((Ar isD s.data.toList a - a:Nat):Int)])/\w'=w:=by
 have q:=BN s[a];rw [hL] at q;have y:=Aa q;have i:=A3 s[a];rw [hD] at i;have l:=Aa i;have c:Ar isD s.data.toList (a+1)=Ar isD s.data.toList a:=(CV (by simpa using ha) hD).symm;clear q hL i hD;go_enter Tryz.func56,Tryz.ntmps56;go_wp2_with fail;refine (y.out _).mono ?_;rintro e w' ⟨rfl,rfl⟩;go_wp2_with fail;refine (l.out _).mono ?_;rintro e w' ⟨rfl,rfl⟩;go_wp2_with fail
 go_loop [7] (fun n=>∃ k:Nat,1<=k/\a+k<=s.size/\n=A J k/\Hid (Ar isD s.data.toList (a+k)=Ar isD s.data.toList a)) (fun n=>s.size - (intOf n).toNat)
 case atStart=>exact ⟨1,Nat.le_refl _,by omega,rfl,c⟩
 case round=>
  obtain ⟨k,B,E,rfl,u⟩:=hrel;clear c y l;by_cases hlt:a+k < s.size
  ·have g:isD s[a+k]=true->Ar isD s.data.toList (a+(k+1))=Ar isD s.data.toList a:=fun h=>by
    rw [<-u.out];exact (CV (by simpa using hlt) h).symm
   have f:isD s[a+k]=false->Ar isD s.data.toList a=a+k:=fun h=>by
    rw [<-u.out];exact Ee (by simpa using hlt) h
   have r:=Aa g;have t:=Aa f;clear g f;by_cases hD:isD s[a+k]=true
   ·have i:=A3 s[a+k]
    rw [hD] at i;have l:=Aa i;have x:=r.out hD;have C:=Aa x;clear i hD x;go_wp2_with fail;refine (l.out _).mono ?_;rintro e w' ⟨rfl,rfl⟩;go_wp2_with fail;exact ⟨⟨k+1,by omega,by omega,by go_num,C.out⟩,by simp [intOf];omega⟩
   ·have j:isD s[a+k]=false:=by simpa using hD
    have i:=A3 s[a+k];rw [j] at i;have l:=Aa i;have b:=t.out j;have v:=Aa b;clear i hD j b;go_wp2_with fail;refine (l.out _).mono ?_;rintro e w' ⟨rfl,rfl⟩;go_wp2_with fail
    go_ret2
    exact ⟨by rw [v.out,Nat.add_sub_cancel_left];rfl,rfl⟩
  ·have b:Ar isD s.data.toList a=a+k:=by
    rw [<-u.out];exact EZ (by simp;omega)
   have v:=Aa b;clear b;go_wp2_with fail
   go_ret2
   exact ⟨by rw [v.out,Nat.add_sub_cancel_left];rfl,rfl⟩
theorem Dp (s:ByteArray) (a:Nat) (ha:a < s.size):Cg s a=true ↔ s[a].toNat=61/\∃ h:a+1 < s.size,s[a+1].toNat=61:=by
 have i:a < s.data.toList.length:=by simpa using ha
 have j:s.data.toList[a]=s[a]:=rfl;unfold Cg;rw [List.drop_eq_getElem_cons i,j,beq_iff_eq];by_cases h1:a+1 < s.size
 ·have b:a+1 < s.data.toList.length:=by simpa using h1
  have c:s.data.toList[a+1]=s[a+1]:=rfl;rw [List.drop_eq_getElem_cons b,c];simp only [List.take_succ_cons,List.take_zero,List.cons.injEq,and_true];rw [A6,A6];constructor
  ·rintro ⟨g,f⟩;exact ⟨g,h1,f⟩
  ·rintro ⟨g,_,f⟩;exact ⟨g,f⟩
 ·rw [List.drop_of_length_le (l:=s.data.toList) (by simp;omega)]
  constructor
  ·intro h;simp at h
  ·rintro ⟨_,h,_⟩;exact absurd h h1
theorem Gn (l:List UInt8) (c:UInt8):0<=Lib.indexByte l c ↔ c∈l:=by
 induction l with
 | nil=>simp [Lib.indexByte]
 | cons b l ih=>
  have g:=Lib.indexByte_ge l c;unfold Lib.indexByte;by_cases h:(b == c)=true
  ·rw [if_pos h]
   have:=beq_iff_eq.1 h;simp [this]
  ·rw [if_neg h]
   have a:¬ c=b:=fun e=>h (by simp [e]);by_cases h2:(Lib.indexByte l c == -1)=true
   ·rw [if_pos h2]
    have f:Lib.indexByte l c=-1:=beq_iff_eq.1 h2;rw [f] at ih;simp only [List.mem_cons,a,false_or];rw [<-ih]
   ·rw [if_neg h2]
    have f:¬ Lib.indexByte l c=-1:=fun e=>h2 (by simp [e]);simp only [List.mem_cons,a,false_or];rw [<-ih];omega
theorem D5 (c:UInt8):isS c=true ↔ c∈Di.data.toList:=by
 unfold isS;rw [decide_eq_true_eq,Gn]
theorem Hy (s:ByteArray) (a:Nat) (ha:a < s.size) (hs:s.size<=6000) (hL:isL s[a]=false) (hD:isD s[a]=false) (hE:Cg s a=true) (w:World) :
  Calls Tryz.prog 56 #[.string s,A J (a:Int)] w fun e w'=>e=zg (zh #[A J 3,A J 2])/\w'=w:=by
 have b:=BN s[a];rw [hL] at b;have j:=Aa b;have c:=A3 s[a];rw [hD] at c;have l:=Aa c;obtain ⟨i,f,g⟩:=(Dp s a ha).1 hE;have q:((s[a].toNat:Int) == 61)=true:=beq_iff_eq.2 (by omega);have n:((s[a+1].toNat:Int) == 61)=true:=beq_iff_eq.2 (by omega);clear b hL c hD i g hE;go_enter Tryz.func56,Tryz.ntmps56;go_wp2_with fail;refine (j.out _).mono ?_;rintro e w' ⟨rfl,rfl⟩;go_wp2_with fail;refine (l.out _).mono ?_;rintro e w' ⟨rfl,rfl⟩;go_wp2_with fail
 go_ret2
 exact ⟨rfl,rfl⟩
theorem Eo (s:ByteArray) (a:Nat) (ha:a < s.size) (hs:s.size<=6000) (hL:isL s[a]=false) (hD:isD s[a]=false) (hE:Cg s a=false) (kd ln:Int) (H3:Hid (isS s[a]=true->kd=3/\ln=1)) (H0:Hid (isS s[a]=false->kd=0/\ln=0)) (w:World) :
  Calls Tryz.prog 56 #[.string s,A J (a:Int)] w fun e w'=>e=zg (zh #[A J kd,A J ln])/\w'=w:=by
 have B:=BN s[a];rw [hL] at B;have F:=Aa B;have C:=A3 s[a];rw [hD] at C;have G:=Aa C;clear B hL C hD;go_enter Tryz.func56,Tryz.ntmps56;go_wp2_with fail;refine (F.out _).mono ?_;rintro e w' ⟨rfl,rfl⟩;go_wp2_with fail;refine (G.out _).mono ?_;rintro e w' ⟨rfl,rfl⟩;clear F G;obtain ⟨sg,v⟩:∃ sg,sg=Di:=⟨_,rfl⟩;have H:sg.size<=13:=by rw [v];decide
 have b:=Aa v;clear v;by_cases h1:s[a].toNat=61
 ·have K:((s[a].toNat:Int) == 61)=true:=beq_iff_eq.2 (by omega)
  by_cases hlt:a+1 < s.size
  ·have I:¬ s[a+1].toNat=61:=fun h=>by
    have:=(Dp s a ha).2 ⟨h1,hlt,h⟩;rw [hE] at this;cases this
   have L:((s[a+1].toNat:Int) == 61)=false:=beq_eq_false_iff_ne.2 (by omega);clear I h1 hE;go_wp2_with fail;rw [show (ByteArray.mk #[123,125,40,41,59,58,33,44,61,43,45,42,60])=sg from b.out.symm]
   go_loop [9] (fun i=>∃ k:Nat,k<=sg.size/\i=A J k/\Hid (∀ j (h:j < sg.size),j < k->sg[j]≠s[a])) (fun i=>sg.size - (intOf i).toNat)
   case atStart=>exact ⟨0,Nat.zero_le _,rfl,fun j h u=>absurd u (Nat.not_lt_zero _)⟩
   case round=>
    obtain ⟨k,E,rfl,f⟩:=hrel;by_cases hkl:k < sg.size
    ·by_cases hc:sg[k]=s[a]
     ·have y:((sg[k].toNat:Int) == (s[a].toNat:Int))=true:=beq_iff_eq.2 (by rw [hc])
      have c:isS s[a]=true:=(D5 _).2 (by rw [<-b.out,<-hc];exact List.getElem_mem (l:=sg.data.toList) (by simpa using hkl));have g:=Aa c;clear hc c;go_wp2_with fail
      go_ret2
      exact ⟨by obtain ⟨rfl,rfl⟩:=H3.out g.out;rfl,rfl⟩
     ·have y:((sg[k].toNat:Int) == (s[a].toNat:Int))=false:=beq_eq_false_iff_ne.2 (fun h=>hc ((A6 _ _).2 (by omega)))
      have t:∀ j (h:j < sg.size),j < k+1->sg[j]≠s[a]:=fun j h u=>by
       rcases Nat.lt_or_ge j k with h3 | h3
       ·exact f.out j h h3
       ·obtain rfl:j=k:=by omega
        exact hc
      have n:=Aa t;clear hc t f;go_wp2_with fail;exact ⟨⟨k+1,by omega,by go_num,n⟩,by simp [intOf];omega⟩
    ·have c:isS s[a]=false:=by
      rw [<-Bool.not_eq_true,D5];intro q;rw [<-b.out] at q;obtain ⟨j,r,x⟩:=List.getElem_of_mem q;exact f.out j (by simpa using r) (by simp at r;omega) x
     have g:=Aa c;clear c f;go_wp2_with fail
     go_ret2
     exact ⟨by obtain ⟨rfl,rfl⟩:=H0.out g.out;rfl,rfl⟩
  ·clear h1 hE
   go_wp2_with fail;rw [show (ByteArray.mk #[123,125,40,41,59,58,33,44,61,43,45,42,60])=sg from b.out.symm]
   go_loop [9] (fun i=>∃ k:Nat,k<=sg.size/\i=A J k/\Hid (∀ j (h:j < sg.size),j < k->sg[j]≠s[a])) (fun i=>sg.size - (intOf i).toNat)
   case atStart=>exact ⟨0,Nat.zero_le _,rfl,fun j h u=>absurd u (Nat.not_lt_zero _)⟩
   case round=>
    obtain ⟨k,E,rfl,f⟩:=hrel;by_cases hkl:k < sg.size
    ·by_cases hc:sg[k]=s[a]
     ·have y:((sg[k].toNat:Int) == (s[a].toNat:Int))=true:=beq_iff_eq.2 (by rw [hc])
      have c:isS s[a]=true:=(D5 _).2 (by rw [<-b.out,<-hc];exact List.getElem_mem (l:=sg.data.toList) (by simpa using hkl));have g:=Aa c;clear hc c;go_wp2_with fail
      go_ret2
      exact ⟨by obtain ⟨rfl,rfl⟩:=H3.out g.out;rfl,rfl⟩
     ·have y:((sg[k].toNat:Int) == (s[a].toNat:Int))=false:=beq_eq_false_iff_ne.2 (fun h=>hc ((A6 _ _).2 (by omega)))
      have t:∀ j (h:j < sg.size),j < k+1->sg[j]≠s[a]:=fun j h u=>by
       rcases Nat.lt_or_ge j k with h3 | h3
       ·exact f.out j h h3
       ·obtain rfl:j=k:=by omega
        exact hc
      have n:=Aa t;clear hc t f;go_wp2_with fail;exact ⟨⟨k+1,by omega,by go_num,n⟩,by simp [intOf];omega⟩
    ·have c:isS s[a]=false:=by
      rw [<-Bool.not_eq_true,D5];intro q;rw [<-b.out] at q;obtain ⟨j,r,x⟩:=List.getElem_of_mem q;exact f.out j (by simpa using r) (by simp at r;omega) x
     have g:=Aa c;clear c f;go_wp2_with fail
     go_ret2
     exact ⟨by obtain ⟨rfl,rfl⟩:=H0.out g.out;rfl,rfl⟩
 ·have K:((s[a].toNat:Int) == 61)=false:=beq_eq_false_iff_ne.2 (by omega)
  clear h1 hE;go_wp2_with fail;rw [show (ByteArray.mk #[123,125,40,41,59,58,33,44,61,43,45,42,60])=sg from b.out.symm]
  go_loop [9] (fun i=>∃ k:Nat,k<=sg.size/\i=A J k/\Hid (∀ j (h:j < sg.size),j < k->sg[j]≠s[a])) (fun i=>sg.size - (intOf i).toNat)
  case atStart=>exact ⟨0,Nat.zero_le _,rfl,fun j h u=>absurd u (Nat.not_lt_zero _)⟩
  case round=>
   obtain ⟨k,E,rfl,f⟩:=hrel;by_cases hkl:k < sg.size
   ·by_cases hc:sg[k]=s[a]
    ·have y:((sg[k].toNat:Int) == (s[a].toNat:Int))=true:=beq_iff_eq.2 (by rw [hc])
     have c:isS s[a]=true:=(D5 _).2 (by rw [<-b.out,<-hc];exact List.getElem_mem (l:=sg.data.toList) (by simpa using hkl));have g:=Aa c;clear hc c;go_wp2_with fail
     go_ret2
     exact ⟨by obtain ⟨rfl,rfl⟩:=H3.out g.out;rfl,rfl⟩
    ·have y:((sg[k].toNat:Int) == (s[a].toNat:Int))=false:=beq_eq_false_iff_ne.2 (fun h=>hc ((A6 _ _).2 (by omega)))
     have t:∀ j (h:j < sg.size),j < k+1->sg[j]≠s[a]:=fun j h u=>by
      rcases Nat.lt_or_ge j k with h3 | h3
      ·exact f.out j h h3
      ·obtain rfl:j=k:=by omega
       exact hc
     have n:=Aa t;clear hc t f;go_wp2_with fail;exact ⟨⟨k+1,by omega,by go_num,n⟩,by simp [intOf];omega⟩
   ·have c:isS s[a]=false:=by
     rw [<-Bool.not_eq_true,D5];intro q;rw [<-b.out] at q;obtain ⟨j,r,x⟩:=List.getElem_of_mem q;exact f.out j (by simpa using r) (by simp at r;omega) x
    have g:=Aa c;clear c f;go_wp2_with fail
    go_ret2
    exact ⟨by obtain ⟨rfl,rfl⟩:=H0.out g.out;rfl,rfl⟩
def C4 (s:ByteArray) (a:Nat):Nat:=(Al s a).2 - a
theorem Fd (s:ByteArray) (a:Nat) (ha:a < s.size) (hs:s.size<=6000) (w:World) :
  Calls Tryz.prog 56 #[.string s,A J (a:Int)] w fun e w'=>e=zg (zh #[A J ((Al s a).1:Int),A J (C4 s a:Int)])/\w'=w:=by
 by_cases hL:isL s[a]=true
 ·have f:Al s a=(1,Ar isN s.data.toList a):=by simp [Al,ha,hL]
  unfold C4;rw [f];exact GN s a ha hs hL w
 have b:isL s[a]=false:=by simpa using hL
 by_cases hD:isD s[a]=true
 ·have f:Al s a=(2,Ar isD s.data.toList a):=by simp [Al,ha,b,hD]
  unfold C4;rw [f];exact FC s a ha hs b hD w
 have c:isD s[a]=false:=by simpa using hD
 by_cases hE:Cg s a=true
 ·have f:Al s a=(3,a+2):=by simp [Al,ha,b,c,hE]
  unfold C4;rw [f,Nat.add_sub_cancel_left];exact Hy s a ha hs b c hE w
 have g:Cg s a=false:=by simpa using hE
 by_cases hS:isS s[a]=true
 ·have f:Al s a=(3,a+1):=by simp [Al,ha,b,c,g,hS]
  unfold C4;rw [f,Nat.add_sub_cancel_left];exact Eo s a ha hs b c g 3 1 (fun _=>⟨rfl,rfl⟩) (fun h=>by rw [hS] at h;cases h) w
 ·have f:Al s a=(0,a):=by simp [Al,ha,b,c,g,hS]
  unfold C4;rw [f,Nat.sub_self];exact Eo s a ha hs b c g 0 0 (fun h=>absurd h hS) (fun _=>⟨rfl,rfl⟩) w
theorem II (x:ByteArray):x.extract 0 x.size=x:=by
 apply ByteArray.ext;simp
theorem Jk {x:ByteArray} (h0:0 < x.size) (hk:¬ (Al x 0).1=0):AE false x.data.toList 0=0:=by
 have f:0 < x.data.toList.length:=by simpa using h0
 have g:x.data.toList[0]=x[0]:=rfl;have a:¬ x[0].toNat=35/\Cw x[0]=false:=by
  by_cases h35:x[0].toNat=35
  ·have e:x[0]=35:=(A6 _ _).2 h35
   exfalso;apply hk;have b:Cg x 0=false:=by
    rw [<-Bool.not_eq_true,Dp x 0 h0];rintro ⟨h,_⟩;omega
   simp [Al,h0,e,b,show isL 35=false from rfl,show isD 35=false from rfl,show isS 35=false from rfl]
  ·refine ⟨h35,?_⟩
   rw [<-Bool.not_eq_true];intro c;simp only [Cw,decide_eq_true_eq] at c;apply hk;have b:Cg x 0=false:=by
    rw [<-Bool.not_eq_true,Dp x 0 h0];rintro ⟨h,_⟩;omega
   rcases c with h | h | h
   ·have e:x[0]=32:=(A6 _ _).2 h
    simp [Al,h0,e,b,show isL 32=false from rfl,show isD 32=false from rfl,show isS 32=false from rfl]
   ·have e:x[0]=9:=(A6 _ _).2 h
    simp [Al,h0,e,b,show isL 9=false from rfl,show isD 9=false from rfl,show isS 9=false from rfl]
   ·have e:x[0]=10:=(A6 _ _).2 h
    simp [Al,h0,e,b,show isL 10=false from rfl,show isD 10=false from rfl,show isS 10=false from rfl]
 exact Eg f a.1 a.2
theorem Fe {x:ByteArray} {j:Nat} (h:Av x j=0):¬ (Al x j).1=0:=by
 intro a;simp [Av,a] at h
theorem Jw {x:ByteArray} (h0:0 < x.size) (he:Av x 0=0) (hn:(Al x 0).2=x.size):BZ x=.inl [⟨(Al x 0).1,0,x⟩]:=by
 have b:=Jk h0 (Fe he);unfold BZ;obtain ⟨m,a⟩:∃ m,x.size=m+1:=⟨x.size - 1,by omega⟩;simp only [Bd,b,h0,he,if_true,hn];rw [a];simp only [Bd];rw [<-a,Gt (by simp)];simp only [Nat.lt_irrefl,if_false];simp only [FF,hn,II];rfl
theorem A0 (k a:Int) (x:ByteArray):Ak ⟨k,a,x⟩=true ↔ 0 < x.size/\x.size<=6000/\Av x 0=0/\((Al x 0).1:Int)=k/\(Al x 0).2=x.size:=by
 constructor
 ·intro h
  simp only [Ak,Bool.and_eq_true,decide_eq_true_eq] at h;obtain ⟨⟨E,C⟩,j⟩:=h;have b:=Nn C;generalize hT:Aw x=T at j b
  match T,j,b with
  | [u],j,b=>
   simp only [Bool.and_eq_true,beq_iff_eq] at j;obtain ⟨A,F⟩:=j;have i:u.text=x:=by
    apply ByteArray.ext;exact Array.toList_inj.1 F
   obtain ⟨p,G,_,c,l,B,_⟩:=Jr x _ _ _ _ b;rw [i] at c l B;have t:p=0:=by omega
   unfold BZ at b;simp only [Bd] at b;split at b
   ·rename_i I
    split at b
    ·rename_i g
     have f:=BM g;generalize hr:Bd x x.size false (Al x (AE false x.data.toList 0)).2=R at b
     cases R with
     | inl N=>
      simp only [Sum.inl.injEq,List.cons.injEq] at b;obtain ⟨n,_⟩:=b;have J:AE false x.data.toList 0=0:=by
       have:u.pos=((AE false x.data.toList 0:Nat):Int):=by rw [<-n];rfl
       rw [G,t] at this;omega
      rw [J] at n g f;have v:((Al x 0).1:Int)=k:=by rw [<-A,<-n];rfl
      have q:x.extract 0 (Al x 0).2=x:=by
       have L:(FF x 0).text=x:=by rw [n];exact i
       exact L
      have r:=congrArg ByteArray.size q;rw [ByteArray.size_extract,Nat.min_eq_left f.2] at r;exact ⟨c,E,g,v,by omega⟩
     | inr y=>simp at b
    ·simp at b
   ·simp at b
 ·rintro ⟨M,E,C,A,H⟩
  have b:=Jw M C H;have hT:Aw x=[⟨(Al x 0).1,0,x⟩]:=by simp [Aw,b]
  have K:A7 x=0:=by simp [A7,b]
  simp [Ak,E,hT,K,A]
theorem Jh (k a:Int) (x:ByteArray) (al:Bool) (hal:Hid (al=Ak ⟨k,a,x⟩)) (hx:x.size<=maxLen) (w:World) :
  Calls Tryz.prog 112 #[A J k,.string x] w fun e w'=>e=zg (zc al)/\w'=w:=by
 unfold maxLen at hx;by_cases h0:0 < x.size
 ·have I:¬ x.toList=[]:=by
   rw [ByteArray.toList_eq];intro h;have:=congrArg List.length h;simp at this;rw [this] at h0;simp at h0
  have N:(x.toList == [])=false:=by simpa using I
  by_cases h6:x.size<=6000
  ·have L:decide ((6000:Int) < (x.size:Int))=false:=decide_eq_false (by omega)
   by_cases hk0:k=0
   ·have M:(k == 0)=true:=beq_iff_eq.2 hk0
    have b:al=false:=by rw [hal.out];rw [<-Bool.not_eq_true,A0];rintro ⟨_,_,q,u,r⟩;exact Fe q (by omega)
    have f:=Aa b;clear b hk0;go_enter Tryz.func112,Tryz.ntmps112;go_wp2_with fail;go_ret;exact ⟨by rw [f.out];rfl,rfl⟩
   have M:(k == 0)=false:=beq_eq_false_iff_ne.2 hk0;have B:=FE (s:=x) (j:=0);have F:=Fd x 0 h0 h6;obtain ⟨i,t⟩:∃ i,i=(Al x 0).1:=⟨_,rfl⟩;obtain ⟨n,E⟩:∃ n,n=(Al x 0).2:=⟨_,rfl⟩;have y:C4 x 0=n:=by unfold C4;rw [E];rfl
   rw [<-t,y] at F;rw [<-t] at B;have c:Al x 0=(i,n):=by rw [t,E]
   have K:n<=x.size:=by rw [E];exact FD (Nat.zero_le _)
   have HT:=Aa F;have l:=NG h0;clear F y t E;by_cases e1:(i:Int)=k
   ·by_cases e2:n=x.size
    ·have G:((n:Int) == (x.size:Int))=true:=beq_iff_eq.2 (by omega)
     subst e1;have C:((i:Int) == (i:Int))=true:=by simp
     rcases (show i=0\/i=1\/i=2\/i=3 by omega) with rfl | rfl | rfl | rfl
     ·exact absurd rfl hk0
     ·by_cases h12:12 < n
      ·have b:al=false:=by rw [hal.out];rw [<-Bool.not_eq_true,A0];rintro ⟨_,_,q,_⟩;simp [Av,c,h12] at q
       clear c l hk0;go_enter Tryz.func112,Tryz.ntmps112;have f:=Aa b;clear b;go_wp2_with fail;refine (HT.out _).mono ?_;rintro e w' ⟨rfl,rfl⟩;go_wp2_with fail;go_ret;exact ⟨by rw [f.out];first | rfl | (simp;omega) | simp,rfl⟩
      ·have b:al=true:=hal.out.trans ((A0 _ _ _).2 ⟨h0,h6,by simp [Av,c,h12],by rw [c],by rw [c];exact e2⟩)
       clear c l hk0;go_enter Tryz.func112,Tryz.ntmps112;have f:=Aa b;clear b;go_wp2_with fail;refine (HT.out _).mono ?_;rintro e w' ⟨rfl,rfl⟩;go_wp2_with fail;go_ret;exact ⟨by rw [f.out];first | rfl | (simp;omega) | simp,rfl⟩
     ·by_cases h7:7 < n
      ·have b:al=false:=by rw [hal.out];rw [<-Bool.not_eq_true,A0];rintro ⟨_,_,q,_⟩;simp [Av,c,h7] at q
       clear c l hk0;go_enter Tryz.func112,Tryz.ntmps112;have f:=Aa b;clear b;go_wp2_with fail;refine (HT.out _).mono ?_;rintro e w' ⟨rfl,rfl⟩;go_wp2_with fail;go_ret;exact ⟨by rw [f.out];first | rfl | (simp;omega) | simp,rfl⟩
      by_cases h1:1 < n
      ·by_cases h48:x[0].toNat=48
       ·have H:((x[0].toNat:Int) == 48)=true:=beq_iff_eq.2 (by omega)
        have g:x[0]=48:=(A6 _ _).2 h48;have b:al=false:=by
         rw [hal.out];rw [<-Bool.not_eq_true,A0];rintro ⟨_,_,q,_⟩;simp only [Av,c,l,g] at q;simp [h1,h7] at q
        clear h48 g;clear c l hk0;go_enter Tryz.func112,Tryz.ntmps112;have f:=Aa b;clear b;go_wp2_with fail;refine (HT.out _).mono ?_;rintro e w' ⟨rfl,rfl⟩;go_wp2_with fail;go_ret;exact ⟨by rw [f.out];first | rfl | (simp;omega) | simp,rfl⟩
       ·have H:((x[0].toNat:Int) == 48)=false:=beq_eq_false_iff_ne.2 (by omega)
        have g:¬ x[0]=48:=fun h=>h48 (by rw [h];rfl);have b:al=true:=hal.out.trans ((A0 _ _ _).2 ⟨h0,h6,by simp only [Av,c,l];simp [h1,h7,g],by rw [c],by rw [c];exact e2⟩);clear h48 g;clear c l hk0;go_enter Tryz.func112,Tryz.ntmps112;have f:=Aa b;clear b;go_wp2_with fail;refine (HT.out _).mono ?_;rintro e w' ⟨rfl,rfl⟩;go_wp2_with fail;go_ret;exact ⟨by rw [f.out];first | rfl | (simp;omega) | simp,rfl⟩
      ·have b:al=true:=hal.out.trans ((A0 _ _ _).2 ⟨h0,h6,by simp only [Av,c];simp [h1,h7],by rw [c],by rw [c];exact e2⟩)
       clear c l hk0;go_enter Tryz.func112,Tryz.ntmps112;have f:=Aa b;clear b;go_wp2_with fail;refine (HT.out _).mono ?_;rintro e w' ⟨rfl,rfl⟩;go_wp2_with fail;go_ret;exact ⟨by rw [f.out];first | rfl | (simp;omega) | simp,rfl⟩
     ·have b:al=true:=hal.out.trans ((A0 _ _ _).2 ⟨h0,h6,by simp [Av,c],by rw [c],by rw [c];exact e2⟩)
      clear c l hk0;go_enter Tryz.func112,Tryz.ntmps112;have f:=Aa b;clear b;go_wp2_with fail;refine (HT.out _).mono ?_;rintro e w' ⟨rfl,rfl⟩;go_wp2_with fail;go_ret;exact ⟨by rw [f.out];first | rfl | (simp;omega) | simp,rfl⟩
    ·have G:((n:Int) == (x.size:Int))=false:=beq_eq_false_iff_ne.2 (by omega)
     have C:((i:Int) == k)=true:=beq_iff_eq.2 e1;have b:al=false:=by rw [hal.out];rw [<-Bool.not_eq_true,A0];rintro ⟨_,_,q,u,r⟩;rw [c] at r;exact e2 r
     clear e1 e2;clear c l hk0;go_enter Tryz.func112,Tryz.ntmps112;have f:=Aa b;clear b;go_wp2_with fail;refine (HT.out _).mono ?_;rintro e w' ⟨rfl,rfl⟩;go_wp2_with fail;go_ret;exact ⟨by rw [f.out];first | rfl | (simp;omega) | simp,rfl⟩
   ·have C:((i:Int) == k)=false:=beq_eq_false_iff_ne.2 e1
    have b:al=false:=by rw [hal.out];rw [<-Bool.not_eq_true,A0];rintro ⟨_,_,q,u,r⟩;rw [c] at u;exact e1 u
    clear e1;clear c l hk0;go_enter Tryz.func112,Tryz.ntmps112;have f:=Aa b;clear b;go_wp2_with fail;refine (HT.out _).mono ?_;rintro e w' ⟨rfl,rfl⟩;go_wp2_with fail;go_ret;exact ⟨by rw [f.out];first | rfl | (simp;omega) | simp,rfl⟩
  ·have L:decide ((6000:Int) < (x.size:Int))=true:=decide_eq_true (by omega)
   have b:al=false:=by rw [hal.out];rw [<-Bool.not_eq_true,A0];rintro ⟨_,h,_⟩;exact h6 h
   have f:=Aa b;clear b;go_enter Tryz.func112,Tryz.ntmps112;go_wp2_with fail;go_ret;exact ⟨by rw [f.out];rfl,rfl⟩
 ·have v:x=⟨#[]⟩:=by
   apply ByteArray.ext;exact Array.eq_empty_of_size_eq_zero (by show x.size=0;omega)
  have b:al=false:=by rw [hal.out];rw [<-Bool.not_eq_true,A0];rintro ⟨h,_⟩;exact h0 h
  have f:=Aa b;have I:x.toList=[]:=by rw [v,ByteArray.toList_eq]
  clear b v;go_enter Tryz.func112,Tryz.ntmps112;go_wp2_with fail;go_ret;exact ⟨by rw [f.out];rfl,rfl⟩
theorem IB (k a:Int) (x:ByteArray) (hx:x.size<=maxLen) (w:World) :
  Calls Tryz.prog 112 #[A J k,.string x] w fun e w'=>e=zg (zc (Ak ⟨k,a,x⟩))/\w'=w:=
 Jh k a x _ rfl hx w
end Go.Proofs.YtipngnjffjajpaaGreatDoor
