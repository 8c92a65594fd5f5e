/- Plain: the tokens of a text stand in it one behind the other. -/
import Derived.Test.YtipngnjffjajpaaGreatDoorK02
import Derived.Lib.SmallJoins
import Derived.Lib.AtoiErrMem
import Derived.Deep.AppendLies
set_option linter.unusedVariables false
set_option maxHeartbeats 8000000
set_option maxRecDepth 100000
namespace Go.Proofs.YtipngnjffjajpaaGreatDoor
open Go.RowKit
open Go.Value renaming int -> O, slice -> zd, bool -> ze, agg -> zf, pointer -> zh, tuple -> zj
open Go.IntKind renaming i64 -> zc
open Go.Obj renaming cells -> zg
open Go.Ending renaming returned -> zi
def Pm (s:ByteArray):Nat->List Tok->Prop
 | _,[]=>True
 | a,t::ts=>∃ p:Nat,t.pos=p/\a<=p/\0 < t.text.size/\p+t.text.size<=s.size/\t.text=s.extract p (p+t.text.size)/\Pm s (p+t.text.size) ts
theorem LP (s:ByteArray):∀ (f:Nat) (note:Bool) (i:Nat) (ts:List Tok),Bv s f note i=.inl ts->Pm s i ts:=by
 intro f
 induction f with
 | zero=>intro note i ts h;simp only [Bv,Sum.inl.injEq] at h;subst h;exact trivial
 | succ f ih=>
  intro note i ts h;simp only [Bv] at h;split at h
  ·rename_i j
   split at h
   ·rename_i l
    have b:=Ca l
    cases hr:Bv s f false (Aw s (AI note s.data.toList i)).2 with
    | inl c=>
     rw [hr] at h;simp only [Sum.inl.injEq] at h;subst h;have g:(s.extract (AI note s.data.toList i) (Aw s (AI note s.data.toList i)).2).size=(Aw s (AI note s.data.toList i)).2 - AI note s.data.toList i:=by
      rw [ByteArray.size_extract,Nat.min_eq_left b.2]
     have a:AI note s.data.toList i+(s.extract (AI note s.data.toList i) (Aw s (AI note s.data.toList i)).2).size=(Aw s (AI note s.data.toList i)).2:=by omega
     refine ⟨AI note s.data.toList i,rfl,EI _ _ _,?_,?_,?_,?_⟩
     ·show 0 < (s.extract _ _).size
      omega
     ·show _+(s.extract _ _).size<=_
      omega
     ·show s.extract _ _=s.extract _ (_+(s.extract _ _).size)
      rw [a]
     ·show Pm s (_+(s.extract _ _).size) c
      rw [a];exact ih _ _ _ hr
    | inr x=>rw [hr] at h;simp at h
   ·simp at h
  ·simp only [Sum.inl.injEq] at h;subst h;exact trivial
theorem JU {s:ByteArray} (h:AZ s=0) (hne:∀ x,Ch s=.inr x->x.2≠0):Ch s=.inl (Aq s):=by
 cases hs:Ch s with
 | inl a=>simp [Aq,hs]
 | inr x=>simp [AZ,hs] at h;exact absurd h (hne x hs)
theorem MM (s:ByteArray):∀ (f:Nat) (note:Bool) (i:Nat) (x:Nat × Nat),Bv s f note i=.inr x->x.2≠0:=by
 intro f
 induction f with
 | zero=>intro note i x h;simp [Bv] at h
 | succ f ih=>
  intro note i x h;simp only [Bv] at h;split at h
  ·split at h
   ·cases hr:Bv s f false (Aw s (AI note s.data.toList i)).2 with
    | inl b=>rw [hr] at h;simp at h
    | inr y=>rw [hr] at h;simp only [Sum.inr.injEq] at h;subst h;exact ih _ _ _ hr
   ·rename_i a
    simp only [Sum.inr.injEq] at h;subst h;exact a
  ·simp at h
theorem PM {s:ByteArray} (h:AZ s=0):Ch s=.inl (Aq s):=JU h fun x hx=>MM s _ _ _ x hx
theorem Gu (n a b:Int) (w:World) :
  Calls Tryz.prog 76 #[O zc n,O zc a,O zc b] w fun e w'=>e=zi (ze (decide (a<=n/\n<=b)))/\w'=w:=by
 by_cases h1:a<=n
 ·go_enter Tryz.func76,Tryz.ntmps76
  go_wp2
  go_ret;exact ⟨by simp [h1],rfl⟩
 ·go_enter Tryz.func76,Tryz.ntmps76
  go_wp2
  go_ret;exact ⟨by simp;omega,rfl⟩
theorem Mv (c:UInt8):c.toNat < 256:=c.toNat_lt
theorem Cb (c:UInt8) (w:World) :
  Calls Tryz.prog 100 #[O .u8 (c.toNat:Int)] w fun e w'=>e=zi (ze (isL c))/\w'=w:=by
 have f:=Mv c;have e:decide ((97:Int)<=(c.toNat:Int)/\(c.toNat:Int)<=122)=isL c:=by
  unfold isL;rw [decide_eq_decide];omega
 have a:=fun w=>Gu (c.toNat:Int) 97 122 w;rw [e] at a;have b:=Aa a;clear a e;go_enter Tryz.func100,Tryz.ntmps100;go_wp2_with fail;refine (b.out _).mono ?_;rintro e w' ⟨rfl,rfl⟩;go_wp2_with fail;go_ret;exact ⟨rfl,rfl⟩
theorem Bi (c:UInt8) (w:World) :
  Calls Tryz.prog 101 #[O .u8 (c.toNat:Int)] w fun e w'=>e=zi (ze (isD c))/\w'=w:=by
 have f:=Mv c;have e:decide ((48:Int)<=(c.toNat:Int)/\(c.toNat:Int)<=57)=isD c:=by
  unfold isD;rw [decide_eq_decide];omega
 have a:=fun w=>Gu (c.toNat:Int) 48 57 w;rw [e] at a;have b:=Aa a;clear a e;go_enter Tryz.func101,Tryz.ntmps101;go_wp2_with fail;refine (b.out _).mono ?_;rintro e w' ⟨rfl,rfl⟩;go_wp2_with fail;go_ret;exact ⟨rfl,rfl⟩
theorem IR (s:ByteArray) (a:Nat) (ha:a < s.size) (hs:s.size<=6000) (hL:isL s[a]=true) (w:World) :
  Calls Tryz.prog 56 #[.string s,O zc (a:Int)] w fun e w'=>e=zi (zj #[O zc 1,O zc ((Az isN s.data.toList a - a:Nat):Int)])/\w'=w:=by
 have i:=Cb s[a];rw [hL] at i;have v:=Aa i;have c:Az isN s.data.toList (a+1)=Az isN s.data.toList a:=(DA (by simpa using ha) (by show isN s[a]=true;simp [isN,hL])).symm;clear i hL;go_enter Tryz.func56,Tryz.ntmps56;go_wp2_with fail;refine (v.out _).mono ?_;rintro e w' ⟨rfl,rfl⟩;go_wp2_with fail
 go_loop [7] (fun n=>∃ k:Nat,1<=k/\a+k<=s.size/\n=O zc k/\Hid (Az isN s.data.toList (a+k)=Az isN s.data.toList a)) (fun n=>s.size - (intOf n).toNat)
 case atStart=>exact ⟨1,Nat.le_refl _,by omega,rfl,c⟩
 case round=>
  obtain ⟨k,F,G,rfl,A⟩:=hrel;clear c v;by_cases hlt:a+k < s.size
  ·have g:isN s[a+k]=true->Az isN s.data.toList (a+(k+1))=Az isN s.data.toList a:=fun h=>by
    rw [<-A.out];exact (DA (by simpa using hlt) h).symm
   have f:isN s[a+k]=false->Az isN s.data.toList a=a+k:=fun h=>by
    rw [<-A.out];exact Fp (by simpa using hlt) h
   have x:=Aa g;have y:=Aa f;clear g f;by_cases hL:isL s[a+k]=true
   ·have i:=Cb s[a+k]
    rw [hL] at i;have v:=Aa i;have l:isN s[a+k]=true:=by simp [isN,hL]
    have B:=Aa l;clear i hL l;go_wp2_with fail;refine (v.out _).mono ?_;rintro e w' ⟨rfl,rfl⟩;go_wp2_with fail;exact ⟨⟨k+1,by omega,by omega,by go_num,x.out B.out⟩,by simp [intOf];omega⟩
   have j:isL s[a+k]=false:=by simpa using hL
   have i:=Cb s[a+k];rw [j] at i;have v:=Aa i;clear i hL;by_cases hD:isD s[a+k]=true
   ·have r:=Bi s[a+k]
    rw [hD] at r;have E:=Aa r;have l:isN s[a+k]=true:=by simp [isN,hD]
    have B:=Aa l;clear r hD l j;go_wp2_with fail;refine (v.out _).mono ?_;rintro e w' ⟨rfl,rfl⟩;go_wp2_with fail;refine (E.out _).mono ?_;rintro e w' ⟨rfl,rfl⟩;go_wp2_with fail;exact ⟨⟨k+1,by omega,by omega,by go_num,x.out B.out⟩,by simp [intOf];omega⟩
   ·have u:isD s[a+k]=false:=by simpa using hD
    have r:=Bi s[a+k];rw [u] at r;have E:=Aa r;have l:isN s[a+k]=false:=by simp [isN,u,j]
    have b:=y.out l;have C:=Aa b;clear r hD u l j b;go_wp2_with fail;refine (v.out _).mono ?_;rintro e w' ⟨rfl,rfl⟩;go_wp2_with fail;refine (E.out _).mono ?_;rintro e w' ⟨rfl,rfl⟩;go_wp2_with fail
    go_ret2
    exact ⟨by rw [C.out,Nat.add_sub_cancel_left];rfl,rfl⟩
  ·have b:Az isN s.data.toList a=a+k:=by
    rw [<-A.out];exact F4 (by simp;omega)
   have C:=Aa b;clear b;go_wp2_with fail
   go_ret2
   exact ⟨by rw [C.out,Nat.add_sub_cancel_left];rfl,rfl⟩
theorem GP (s:ByteArray) (a:Nat) (ha:a < s.size) (hs:s.size<=6000) (hL:isL s[a]=false) (hD:isD s[a]=true) (w:World) :
  Calls Tryz.prog 56 #[.string s,O zc (a:Int)] w fun e w'=>e=zi (zj #[O zc 2,O zc ((Az isD s.data.toList a - a:Nat):Int)])/\w'=w:=by
 have r:=Cb s[a];rw [hL] at r;have B:=Aa r;have i:=Bi s[a];rw [hD] at i;have l:=Aa i;have c:Az isD s.data.toList (a+1)=Az isD s.data.toList a:=(DA (by simpa using ha) hD).symm;clear r hL i hD;go_enter Tryz.func56,Tryz.ntmps56;go_wp2_with fail;refine (B.out _).mono ?_;rintro e w' ⟨rfl,rfl⟩;go_wp2_with fail;refine (l.out _).mono ?_;rintro e w' ⟨rfl,rfl⟩;go_wp2_with fail
 go_loop [7] (fun n=>∃ k:Nat,1<=k/\a+k<=s.size/\n=O zc k/\Hid (Az isD s.data.toList (a+k)=Az isD s.data.toList a)) (fun n=>s.size - (intOf n).toNat)
 case atStart=>exact ⟨1,Nat.le_refl _,by omega,rfl,c⟩
 case round=>
  obtain ⟨k,C,F,rfl,x⟩:=hrel;clear c B l;by_cases hlt:a+k < s.size
  ·have g:isD s[a+k]=true->Az isD s.data.toList (a+(k+1))=Az isD s.data.toList a:=fun h=>by
    rw [<-x.out];exact (DA (by simpa using hlt) h).symm
   have f:isD s[a+k]=false->Az isD s.data.toList a=a+k:=fun h=>by
    rw [<-x.out];exact Fp (by simpa using hlt) h
   have u:=Aa g;have v:=Aa f;clear g f;by_cases hD:isD s[a+k]=true
   ·have i:=Bi s[a+k]
    rw [hD] at i;have l:=Aa i;have A:=u.out hD;have E:=Aa A;clear i hD A;go_wp2_with fail;refine (l.out _).mono ?_;rintro e w' ⟨rfl,rfl⟩;go_wp2_with fail;exact ⟨⟨k+1,by omega,by omega,by go_num,E.out⟩,by simp [intOf];omega⟩
   ·have j:isD s[a+k]=false:=by simpa using hD
    have i:=Bi s[a+k];rw [j] at i;have l:=Aa i;have b:=v.out j;have y:=Aa b;clear i hD j b;go_wp2_with fail;refine (l.out _).mono ?_;rintro e w' ⟨rfl,rfl⟩;go_wp2_with fail
    go_ret2
    exact ⟨by rw [y.out,Nat.add_sub_cancel_left];rfl,rfl⟩
  ·have b:Az isD s.data.toList a=a+k:=by
    rw [<-x.out];exact F4 (by simp;omega)
   have y:=Aa b;clear b;go_wp2_with fail
   go_ret2
   exact ⟨by rw [y.out,Nat.add_sub_cancel_left];rfl,rfl⟩
theorem Ej (s:ByteArray) (a:Nat) (ha:a < s.size):CG s a=true ↔ s[a].toNat=61/\∃ h:a+1 < s.size,s[a+1].toNat=61:=by
 have i:a < s.data.toList.length:=by simpa using ha
 have j:s.data.toList[a]=s[a]:=rfl;unfold CG;rw [List.drop_eq_getElem_cons i,j,beq_iff_eq];by_cases h1:a+1 < s.size
 ·have b:a+1 < s.data.toList.length:=by simpa using h1
  have c:s.data.toList[a+1]=s[a+1]:=rfl;rw [List.drop_eq_getElem_cons b,c];simp only [List.take_succ_cons,List.take_zero,List.cons.injEq,and_true];rw [Bo,Bo];constructor
  ·rintro ⟨g,f⟩;exact ⟨g,h1,f⟩
  ·rintro ⟨g,_,f⟩;exact ⟨g,f⟩
 ·rw [List.drop_of_length_le (l:=s.data.toList) (by simp;omega)]
  constructor
  ·intro h;simp at h
  ·rintro ⟨_,h,_⟩;exact absurd h h1
theorem Ii (l:List UInt8) (c:UInt8):0<=Lib.indexByte l c ↔ c∈l:=by
 induction l with
 | nil=>simp [Lib.indexByte]
 | cons b l ih=>
  have g:=Lib.indexByte_ge l c;unfold Lib.indexByte;by_cases h:(b == c)=true
  ·rw [if_pos h]
   have:=beq_iff_eq.1 h;simp [this]
  ·rw [if_neg h]
   have a:¬ c=b:=fun e=>h (by simp [e]);by_cases h2:(Lib.indexByte l c == -1)=true
   ·rw [if_pos h2]
    have f:Lib.indexByte l c=-1:=beq_iff_eq.1 h2;rw [f] at ih;simp only [List.mem_cons,a,false_or];rw [<-ih]
   ·rw [if_neg h2]
    have f:¬ Lib.indexByte l c=-1:=fun e=>h2 (by simp [e]);simp only [List.mem_cons,a,false_or];rw [<-ih];omega
theorem Fd (c:UInt8):isS c=true ↔ c∈Ef.data.toList:=by
 unfold isS;rw [decide_eq_true_eq,Ii]
theorem JD (s:ByteArray) (a:Nat) (ha:a < s.size) (hs:s.size<=6000) (hL:isL s[a]=false) (hD:isD s[a]=false) (hE:CG s a=true) (w:World) :
  Calls Tryz.prog 56 #[.string s,O zc (a:Int)] w fun e w'=>e=zi (zj #[O zc 3,O zc 2])/\w'=w:=by
 have b:=Cb s[a];rw [hL] at b;have j:=Aa b;have c:=Bi s[a];rw [hD] at c;have l:=Aa c;obtain ⟨i,f,g⟩:=(Ej s a ha).1 hE;have r:((s[a].toNat:Int) == 61)=true:=beq_iff_eq.2 (by omega);have n:((s[a+1].toNat:Int) == 61)=true:=beq_iff_eq.2 (by omega);clear b hL c hD i g hE;go_enter Tryz.func56,Tryz.ntmps56;go_wp2_with fail;refine (j.out _).mono ?_;rintro e w' ⟨rfl,rfl⟩;go_wp2_with fail;refine (l.out _).mono ?_;rintro e w' ⟨rfl,rfl⟩;go_wp2_with fail
 go_ret2
 exact ⟨rfl,rfl⟩
theorem Fx (s:ByteArray) (a:Nat) (ha:a < s.size) (hs:s.size<=6000) (hL:isL s[a]=false) (hD:isD s[a]=false) (hE:CG s a=false) (kd ln:Int) (H3:Hid (isS s[a]=true->kd=3/\ln=1)) (H0:Hid (isS s[a]=false->kd=0/\ln=0)) (w:World) :
  Calls Tryz.prog 56 #[.string s,O zc (a:Int)] w fun e w'=>e=zi (zj #[O zc kd,O zc ln])/\w'=w:=by
 have C:=Cb s[a];rw [hL] at C;have G:=Aa C;have E:=Bi s[a];rw [hD] at E;have H:=Aa E;clear C hL E hD;go_enter Tryz.func56,Tryz.ntmps56;go_wp2_with fail;refine (G.out _).mono ?_;rintro e w' ⟨rfl,rfl⟩;go_wp2_with fail;refine (H.out _).mono ?_;rintro e w' ⟨rfl,rfl⟩;clear G H;obtain ⟨sg,y⟩:∃ sg,sg=Ef:=⟨_,rfl⟩;have I:sg.size<=13:=by rw [y];decide
 have b:=Aa y;clear y;by_cases h1:s[a].toNat=61
 ·have K:((s[a].toNat:Int) == 61)=true:=beq_iff_eq.2 (by omega)
  by_cases hlt:a+1 < s.size
  ·have J:¬ s[a+1].toNat=61:=fun h=>by
    have:=(Ej s a ha).2 ⟨h1,hlt,h⟩;rw [hE] at this;cases this
   have L:((s[a+1].toNat:Int) == 61)=false:=beq_eq_false_iff_ne.2 (by omega);clear J h1 hE;go_wp2_with fail;rw [show (ByteArray.mk #[123,125,40,41,59,58,33,44,61,43,45,42,60])=sg from b.out.symm]
   go_loop [9] (fun i=>∃ k:Nat,k<=sg.size/\i=O zc k/\Hid (∀ j (h:j < sg.size),j < k->sg[j]≠s[a])) (fun i=>sg.size - (intOf i).toNat)
   case atStart=>exact ⟨0,Nat.zero_le _,rfl,fun j h x=>absurd x (Nat.not_lt_zero _)⟩
   case round=>
    obtain ⟨k,F,rfl,f⟩:=hrel;by_cases hkl:k < sg.size
    ·by_cases hc:sg[k]=s[a]
     ·have B:((sg[k].toNat:Int) == (s[a].toNat:Int))=true:=beq_iff_eq.2 (by rw [hc])
      have c:isS s[a]=true:=(Fd _).2 (by rw [<-b.out,<-hc];exact List.getElem_mem (l:=sg.data.toList) (by simpa using hkl));have g:=Aa c;clear hc c;go_wp2_with fail
      go_ret2
      exact ⟨by obtain ⟨rfl,rfl⟩:=H3.out g.out;rfl,rfl⟩
     ·have B:((sg[k].toNat:Int) == (s[a].toNat:Int))=false:=beq_eq_false_iff_ne.2 (fun h=>hc ((Bo _ _).2 (by omega)))
      have v:∀ j (h:j < sg.size),j < k+1->sg[j]≠s[a]:=fun j h x=>by
       rcases Nat.lt_or_ge j k with h3 | h3
       ·exact f.out j h h3
       ·obtain rfl:j=k:=by omega
        exact hc
      have n:=Aa v;clear hc v f;go_wp2_with fail;exact ⟨⟨k+1,by omega,by go_num,n⟩,by simp [intOf];omega⟩
    ·have c:isS s[a]=false:=by
      rw [<-Bool.not_eq_true,Fd];intro r;rw [<-b.out] at r;obtain ⟨j,u,A⟩:=List.getElem_of_mem r;exact f.out j (by simpa using u) (by simp at u;omega) A
     have g:=Aa c;clear c f;go_wp2_with fail
     go_ret2
     exact ⟨by obtain ⟨rfl,rfl⟩:=H0.out g.out;rfl,rfl⟩
  ·clear h1 hE
   go_wp2_with fail;rw [show (ByteArray.mk #[123,125,40,41,59,58,33,44,61,43,45,42,60])=sg from b.out.symm]
   go_loop [9] (fun i=>∃ k:Nat,k<=sg.size/\i=O zc k/\Hid (∀ j (h:j < sg.size),j < k->sg[j]≠s[a])) (fun i=>sg.size - (intOf i).toNat)
   case atStart=>exact ⟨0,Nat.zero_le _,rfl,fun j h x=>absurd x (Nat.not_lt_zero _)⟩
   case round=>
    obtain ⟨k,F,rfl,f⟩:=hrel;by_cases hkl:k < sg.size
    ·by_cases hc:sg[k]=s[a]
     ·have B:((sg[k].toNat:Int) == (s[a].toNat:Int))=true:=beq_iff_eq.2 (by rw [hc])
      have c:isS s[a]=true:=(Fd _).2 (by rw [<-b.out,<-hc];exact List.getElem_mem (l:=sg.data.toList) (by simpa using hkl));have g:=Aa c;clear hc c;go_wp2_with fail
      go_ret2
      exact ⟨by obtain ⟨rfl,rfl⟩:=H3.out g.out;rfl,rfl⟩
     ·have B:((sg[k].toNat:Int) == (s[a].toNat:Int))=false:=beq_eq_false_iff_ne.2 (fun h=>hc ((Bo _ _).2 (by omega)))
      have v:∀ j (h:j < sg.size),j < k+1->sg[j]≠s[a]:=fun j h x=>by
       rcases Nat.lt_or_ge j k with h3 | h3
       ·exact f.out j h h3
       ·obtain rfl:j=k:=by omega
        exact hc
      have n:=Aa v;clear hc v f;go_wp2_with fail;exact ⟨⟨k+1,by omega,by go_num,n⟩,by simp [intOf];omega⟩
    ·have c:isS s[a]=false:=by
      rw [<-Bool.not_eq_true,Fd];intro r;rw [<-b.out] at r;obtain ⟨j,u,A⟩:=List.getElem_of_mem r;exact f.out j (by simpa using u) (by simp at u;omega) A
     have g:=Aa c;clear c f;go_wp2_with fail
     go_ret2
     exact ⟨by obtain ⟨rfl,rfl⟩:=H0.out g.out;rfl,rfl⟩
 ·have K:((s[a].toNat:Int) == 61)=false:=beq_eq_false_iff_ne.2 (by omega)
  clear h1 hE;go_wp2_with fail;rw [show (ByteArray.mk #[123,125,40,41,59,58,33,44,61,43,45,42,60])=sg from b.out.symm]
  go_loop [9] (fun i=>∃ k:Nat,k<=sg.size/\i=O zc k/\Hid (∀ j (h:j < sg.size),j < k->sg[j]≠s[a])) (fun i=>sg.size - (intOf i).toNat)
  case atStart=>exact ⟨0,Nat.zero_le _,rfl,fun j h x=>absurd x (Nat.not_lt_zero _)⟩
  case round=>
   obtain ⟨k,F,rfl,f⟩:=hrel;by_cases hkl:k < sg.size
   ·by_cases hc:sg[k]=s[a]
    ·have B:((sg[k].toNat:Int) == (s[a].toNat:Int))=true:=beq_iff_eq.2 (by rw [hc])
     have c:isS s[a]=true:=(Fd _).2 (by rw [<-b.out,<-hc];exact List.getElem_mem (l:=sg.data.toList) (by simpa using hkl));have g:=Aa c;clear hc c;go_wp2_with fail
     go_ret2
     exact ⟨by obtain ⟨rfl,rfl⟩:=H3.out g.out;rfl,rfl⟩
    ·have B:((sg[k].toNat:Int) == (s[a].toNat:Int))=false:=beq_eq_false_iff_ne.2 (fun h=>hc ((Bo _ _).2 (by omega)))
     have v:∀ j (h:j < sg.size),j < k+1->sg[j]≠s[a]:=fun j h x=>by
      rcases Nat.lt_or_ge j k with h3 | h3
      ·exact f.out j h h3
      ·obtain rfl:j=k:=by omega
       exact hc
     have n:=Aa v;clear hc v f;go_wp2_with fail;exact ⟨⟨k+1,by omega,by go_num,n⟩,by simp [intOf];omega⟩
   ·have c:isS s[a]=false:=by
     rw [<-Bool.not_eq_true,Fd];intro r;rw [<-b.out] at r;obtain ⟨j,u,A⟩:=List.getElem_of_mem r;exact f.out j (by simpa using u) (by simp at u;omega) A
    have g:=Aa c;clear c f;go_wp2_with fail
    go_ret2
    exact ⟨by obtain ⟨rfl,rfl⟩:=H0.out g.out;rfl,rfl⟩
def DU (s:ByteArray) (a:Nat):Nat:=(Aw s a).2 - a
theorem Gh (s:ByteArray) (a:Nat) (ha:a < s.size) (hs:s.size<=6000) (w:World) :
  Calls Tryz.prog 56 #[.string s,O zc (a:Int)] w fun e w'=>e=zi (zj #[O zc ((Aw s a).1:Int),O zc (DU s a:Int)])/\w'=w:=by
 by_cases hL:isL s[a]=true
 ·have f:Aw s a=(1,Az isN s.data.toList a):=by simp [Aw,ha,hL]
  unfold DU;rw [f];exact IR s a ha hs hL w
 have b:isL s[a]=false:=by simpa using hL
 by_cases hD:isD s[a]=true
 ·have f:Aw s a=(2,Az isD s.data.toList a):=by simp [Aw,ha,b,hD]
  unfold DU;rw [f];exact GP s a ha hs b hD w
 have c:isD s[a]=false:=by simpa using hD
 by_cases hE:CG s a=true
 ·have f:Aw s a=(3,a+2):=by simp [Aw,ha,b,c,hE]
  unfold DU;rw [f,Nat.add_sub_cancel_left];exact JD s a ha hs b c hE w
 have g:CG s a=false:=by simpa using hE
 by_cases hS:isS s[a]=true
 ·have f:Aw s a=(3,a+1):=by simp [Aw,ha,b,c,g,hS]
  unfold DU;rw [f,Nat.add_sub_cancel_left];exact Fx s a ha hs b c g 3 1 (fun _=>⟨rfl,rfl⟩) (fun h=>by rw [hS] at h;cases h) w
 ·have f:Aw s a=(0,a):=by simp [Aw,ha,b,c,g,hS]
  unfold DU;rw [f,Nat.sub_self];exact Fx s a ha hs b c g 0 0 (fun h=>absurd h hS) (fun _=>⟨rfl,rfl⟩) w
theorem Ko (x:ByteArray):x.extract 0 x.size=x:=by
 apply ByteArray.ext;simp
theorem LF {x:ByteArray} (h0:0 < x.size) (hk:¬ (Aw x 0).1=0):AI false x.data.toList 0=0:=by
 have f:0 < x.data.toList.length:=by simpa using h0
 have g:x.data.toList[0]=x[0]:=rfl;have a:¬ x[0].toNat=35/\C7 x[0]=false:=by
  by_cases h35:x[0].toNat=35
  ·have e:x[0]=35:=(Bo _ _).2 h35
   exfalso;apply hk;have b:CG x 0=false:=by
    rw [<-Bool.not_eq_true,Ej x 0 h0];rintro ⟨h,_⟩;omega
   simp [Aw,h0,e,b,show isL 35=false from rfl,show isD 35=false from rfl,show isS 35=false from rfl]
  ·refine ⟨h35,?_⟩
   rw [<-Bool.not_eq_true];intro c;simp only [C7,decide_eq_true_eq] at c;apply hk;have b:CG x 0=false:=by
    rw [<-Bool.not_eq_true,Ej x 0 h0];rintro ⟨h,_⟩;omega
   rcases c with h | h | h
   ·have e:x[0]=32:=(Bo _ _).2 h
    simp [Aw,h0,e,b,show isL 32=false from rfl,show isD 32=false from rfl,show isS 32=false from rfl]
   ·have e:x[0]=9:=(Bo _ _).2 h
    simp [Aw,h0,e,b,show isL 9=false from rfl,show isD 9=false from rfl,show isS 9=false from rfl]
   ·have e:x[0]=10:=(Bo _ _).2 h
    simp [Aw,h0,e,b,show isL 10=false from rfl,show isD 10=false from rfl,show isS 10=false from rfl]
 exact Fq f a.1 a.2
theorem Gi {x:ByteArray} {j:Nat} (h:AA x j=0):¬ (Aw x j).1=0:=by
 intro a;simp [AA,a] at h
theorem LX {x:ByteArray} (h0:0 < x.size) (he:AA x 0=0) (hn:(Aw x 0).2=x.size):Ch x=.inl [⟨(Aw x 0).1,0,x⟩]:=by
 have b:=LF h0 (Gi he);unfold Ch;obtain ⟨m,a⟩:∃ m,x.size=m+1:=⟨x.size - 1,by omega⟩;simp only [Bv,b,h0,he,if_true,hn];rw [a];simp only [Bv];rw [<-a,Ip (by simp)];simp only [Nat.lt_irrefl,if_false];simp only [GS,hn,Ko];rfl
theorem Be (k a:Int) (x:ByteArray):Ai ⟨k,a,x⟩=true ↔ 0 < x.size/\x.size<=6000/\AA x 0=0/\((Aw x 0).1:Int)=k/\(Aw x 0).2=x.size:=by
 constructor
 ·intro h
  simp only [Ai,Bool.and_eq_true,decide_eq_true_eq] at h;obtain ⟨⟨G,F⟩,j⟩:=h;have b:=PM F;generalize hT:Aq x=T at j b
  match T,j,b with
  | [u],j,b=>
   simp only [Bool.and_eq_true,beq_iff_eq] at j;obtain ⟨C,H⟩:=j;have i:u.text=x:=by
    apply ByteArray.ext;exact Array.toList_inj.1 H
   obtain ⟨p,I,_,c,l,E,_⟩:=LP x _ _ _ _ b;rw [i] at c l E;have A:p=0:=by omega
   unfold Ch at b;simp only [Bv] at b;split at b
   ·rename_i K
    split at b
    ·rename_i g
     have f:=Ca g;generalize hr:Bv x x.size false (Aw x (AI false x.data.toList 0)).2=R at b
     cases R with
     | inl P=>
      simp only [Sum.inl.injEq,List.cons.injEq] at b;obtain ⟨n,_⟩:=b;have L:AI false x.data.toList 0=0:=by
       have:u.pos=((AI false x.data.toList 0:Nat):Int):=by rw [<-n];rfl
       rw [I,A] at this;omega
      rw [L] at n g f;have B:((Aw x 0).1:Int)=k:=by rw [<-C,<-n];rfl
      have r:x.extract 0 (Aw x 0).2=x:=by
       have N:(GS x 0).text=x:=by rw [n];exact i
       exact N
      have v:=congrArg ByteArray.size r;rw [ByteArray.size_extract,Nat.min_eq_left f.2] at v;exact ⟨c,G,g,B,by omega⟩
     | inr y=>simp at b
    ·simp at b
   ·simp at b
 ·rintro ⟨O,G,F,C,J⟩
  have b:=LX O F J;have hT:Aq x=[⟨(Aw x 0).1,0,x⟩]:=by simp [Aq,b]
  have M:AZ x=0:=by simp [AZ,b]
  simp [Ai,G,hT,M,C]
theorem LB (k a:Int) (x:ByteArray) (al:Bool) (hal:Hid (al=Ai ⟨k,a,x⟩)) (hx:x.size<=maxLen) (w:World) :
  Calls Tryz.prog 112 #[O zc k,.string x] w fun e w'=>e=zi (ze al)/\w'=w:=by
 unfold maxLen at hx;by_cases h0:0 < x.size
 ·have J:¬ x.toList=[]:=by
   rw [ByteArray.toList_eq];intro h;have:=congrArg List.length h;simp at this;rw [this] at h0;simp at h0
  have N:(x.toList == [])=false:=by simpa using J
  by_cases h6:x.size<=6000
  ·have L:decide ((6000:Int) < (x.size:Int))=false:=decide_eq_false (by omega)
   by_cases hk0:k=0
   ·have M:(k == 0)=true:=beq_iff_eq.2 hk0
    have b:al=false:=by rw [hal.out];rw [<-Bool.not_eq_true,Be];rintro ⟨_,_,r,y,u⟩;exact Gi r (by omega)
    have f:=Aa b;clear b hk0;go_enter Tryz.func112,Tryz.ntmps112;go_wp2_with fail;go_ret;exact ⟨by rw [f.out];rfl,rfl⟩
   have M:(k == 0)=false:=beq_eq_false_iff_ne.2 hk0;have C:=GR (s:=x) (j:=0);have G:=Gh x 0 h0 h6;obtain ⟨i,v⟩:∃ i,i=(Aw x 0).1:=⟨_,rfl⟩;obtain ⟨n,F⟩:∃ n,n=(Aw x 0).2:=⟨_,rfl⟩;have B:DU x 0=n:=by unfold DU;rw [F];rfl
   rw [<-v,B] at G;rw [<-v] at C;have c:Aw x 0=(i,n):=by rw [v,F]
   have K:n<=x.size:=by rw [F];exact GQ (Nat.zero_le _)
   have HT:=Aa G;have l:=P8 h0;clear G B v F;by_cases e1:(i:Int)=k
   ·by_cases e2:n=x.size
    ·have H:((n:Int) == (x.size:Int))=true:=beq_iff_eq.2 (by omega)
     subst e1;have E:((i:Int) == (i:Int))=true:=by simp
     rcases (show i=0\/i=1\/i=2\/i=3 by omega) with rfl | rfl | rfl | rfl
     ·exact absurd rfl hk0
     ·by_cases h12:12 < n
      ·have b:al=false:=by rw [hal.out];rw [<-Bool.not_eq_true,Be];rintro ⟨_,_,r,_⟩;simp [AA,c,h12] at r
       clear c l hk0;go_enter Tryz.func112,Tryz.ntmps112;have f:=Aa b;clear b;go_wp2_with fail;refine (HT.out _).mono ?_;rintro e w' ⟨rfl,rfl⟩;go_wp2_with fail;go_ret;exact ⟨by rw [f.out];first | rfl | (simp;omega) | simp,rfl⟩
      ·have b:al=true:=hal.out.trans ((Be _ _ _).2 ⟨h0,h6,by simp [AA,c,h12],by rw [c],by rw [c];exact e2⟩)
       clear c l hk0;go_enter Tryz.func112,Tryz.ntmps112;have f:=Aa b;clear b;go_wp2_with fail;refine (HT.out _).mono ?_;rintro e w' ⟨rfl,rfl⟩;go_wp2_with fail;go_ret;exact ⟨by rw [f.out];first | rfl | (simp;omega) | simp,rfl⟩
     ·by_cases h7:7 < n
      ·have b:al=false:=by rw [hal.out];rw [<-Bool.not_eq_true,Be];rintro ⟨_,_,r,_⟩;simp [AA,c,h7] at r
       clear c l hk0;go_enter Tryz.func112,Tryz.ntmps112;have f:=Aa b;clear b;go_wp2_with fail;refine (HT.out _).mono ?_;rintro e w' ⟨rfl,rfl⟩;go_wp2_with fail;go_ret;exact ⟨by rw [f.out];first | rfl | (simp;omega) | simp,rfl⟩
      by_cases h1:1 < n
      ·by_cases h48:x[0].toNat=48
       ·have I:((x[0].toNat:Int) == 48)=true:=beq_iff_eq.2 (by omega)
        have g:x[0]=48:=(Bo _ _).2 h48;have b:al=false:=by
         rw [hal.out];rw [<-Bool.not_eq_true,Be];rintro ⟨_,_,r,_⟩;simp only [AA,c,l,g] at r;simp [h1,h7] at r
        clear h48 g;clear c l hk0;go_enter Tryz.func112,Tryz.ntmps112;have f:=Aa b;clear b;go_wp2_with fail;refine (HT.out _).mono ?_;rintro e w' ⟨rfl,rfl⟩;go_wp2_with fail;go_ret;exact ⟨by rw [f.out];first | rfl | (simp;omega) | simp,rfl⟩
       ·have I:((x[0].toNat:Int) == 48)=false:=beq_eq_false_iff_ne.2 (by omega)
        have g:¬ x[0]=48:=fun h=>h48 (by rw [h];rfl);have b:al=true:=hal.out.trans ((Be _ _ _).2 ⟨h0,h6,by simp only [AA,c,l];simp [h1,h7,g],by rw [c],by rw [c];exact e2⟩);clear h48 g;clear c l hk0;go_enter Tryz.func112,Tryz.ntmps112;have f:=Aa b;clear b;go_wp2_with fail;refine (HT.out _).mono ?_;rintro e w' ⟨rfl,rfl⟩;go_wp2_with fail;go_ret;exact ⟨by rw [f.out];first | rfl | (simp;omega) | simp,rfl⟩
      ·have b:al=true:=hal.out.trans ((Be _ _ _).2 ⟨h0,h6,by simp only [AA,c];simp [h1,h7],by rw [c],by rw [c];exact e2⟩)
       clear c l hk0;go_enter Tryz.func112,Tryz.ntmps112;have f:=Aa b;clear b;go_wp2_with fail;refine (HT.out _).mono ?_;rintro e w' ⟨rfl,rfl⟩;go_wp2_with fail;go_ret;exact ⟨by rw [f.out];first | rfl | (simp;omega) | simp,rfl⟩
     ·have b:al=true:=hal.out.trans ((Be _ _ _).2 ⟨h0,h6,by simp [AA,c],by rw [c],by rw [c];exact e2⟩)
      clear c l hk0;go_enter Tryz.func112,Tryz.ntmps112;have f:=Aa b;clear b;go_wp2_with fail;refine (HT.out _).mono ?_;rintro e w' ⟨rfl,rfl⟩;go_wp2_with fail;go_ret;exact ⟨by rw [f.out];first | rfl | (simp;omega) | simp,rfl⟩
    ·have H:((n:Int) == (x.size:Int))=false:=beq_eq_false_iff_ne.2 (by omega)
     have E:((i:Int) == k)=true:=beq_iff_eq.2 e1;have b:al=false:=by rw [hal.out];rw [<-Bool.not_eq_true,Be];rintro ⟨_,_,r,y,u⟩;rw [c] at u;exact e2 u
     clear e1 e2;clear c l hk0;go_enter Tryz.func112,Tryz.ntmps112;have f:=Aa b;clear b;go_wp2_with fail;refine (HT.out _).mono ?_;rintro e w' ⟨rfl,rfl⟩;go_wp2_with fail;go_ret;exact ⟨by rw [f.out];first | rfl | (simp;omega) | simp,rfl⟩
   ·have E:((i:Int) == k)=false:=beq_eq_false_iff_ne.2 e1
    have b:al=false:=by rw [hal.out];rw [<-Bool.not_eq_true,Be];rintro ⟨_,_,r,y,u⟩;rw [c] at y;exact e1 y
    clear e1;clear c l hk0;go_enter Tryz.func112,Tryz.ntmps112;have f:=Aa b;clear b;go_wp2_with fail;refine (HT.out _).mono ?_;rintro e w' ⟨rfl,rfl⟩;go_wp2_with fail;go_ret;exact ⟨by rw [f.out];first | rfl | (simp;omega) | simp,rfl⟩
  ·have L:decide ((6000:Int) < (x.size:Int))=true:=decide_eq_true (by omega)
   have b:al=false:=by rw [hal.out];rw [<-Bool.not_eq_true,Be];rintro ⟨_,h,_⟩;exact h6 h
   have f:=Aa b;clear b;go_enter Tryz.func112,Tryz.ntmps112;go_wp2_with fail;go_ret;exact ⟨by rw [f.out];rfl,rfl⟩
 ·have A:x=⟨#[]⟩:=by
   apply ByteArray.ext;exact Array.eq_empty_of_size_eq_zero (by show x.size=0;omega)
  have b:al=false:=by rw [hal.out];rw [<-Bool.not_eq_true,Be];rintro ⟨h,_⟩;exact h0 h
  have f:=Aa b;have J:x.toList=[]:=by rw [A,ByteArray.toList_eq]
  clear b A;go_enter Tryz.func112,Tryz.ntmps112;go_wp2_with fail;go_ret;exact ⟨by rw [f.out];rfl,rfl⟩
theorem Kj (k a:Int) (x:ByteArray) (hx:x.size<=maxLen) (w:World) :
  Calls Tryz.prog 112 #[O zc k,.string x] w fun e w'=>e=zi (ze (Ai ⟨k,a,x⟩))/\w'=w:=
 LB k a x _ rfl hx w
def A0 (l:List UInt8):Int:=
 if l=[43] then 3 else
 if l=[45] then 4 else
 if l=[42] then 5 else
 if l=[60] then 6 else
 if l=[61,61] then 7 else
 0
theorem D6 (x:ByteArray) (w:World) :
  Calls Tryz.prog 168 #[.string x] w fun e w'=>e=zi (O zc (A0 x.data.toList))/\w'=w:=by
 by_cases h0:x.data.toList=[43]
 ·obtain rfl:=An h0
  clear h0;go_enter Tryz.func168,Tryz.ntmps168
  go_wp2
  go_ret;exact ⟨rfl,rfl⟩
 by_cases h1:x.data.toList=[45]
 ·obtain rfl:=An h1
  clear h0 h1;go_enter Tryz.func168,Tryz.ntmps168
  go_wp2
  go_ret;exact ⟨rfl,rfl⟩
 by_cases h2:x.data.toList=[42]
 ·obtain rfl:=An h2
  clear h0 h1 h2;go_enter Tryz.func168,Tryz.ntmps168
  go_wp2
  go_ret;exact ⟨rfl,rfl⟩
 by_cases h3:x.data.toList=[60]
 ·obtain rfl:=An h3
  clear h0 h1 h2 h3;go_enter Tryz.func168,Tryz.ntmps168
  go_wp2
  go_ret;exact ⟨rfl,rfl⟩
 by_cases h4:x.data.toList=[61,61]
 ·obtain rfl:=An h4
  clear h0 h1 h2 h3 h4;go_enter Tryz.func168,Tryz.ntmps168
  go_wp2
  go_ret;exact ⟨rfl,rfl⟩
 have hr:A0 x.data.toList=0:=by simp [A0,h0,h1,h2,h3,h4]
 have a:=Aa hr;have i:=Av h0;have g:=Av h1;have f:=Av h2;have c:=Av h3;have b:=Av h4;clear hr h0 h1 h2 h3 h4;go_enter Tryz.func168,Tryz.ntmps168
 go_wp2
 go_ret;exact ⟨by rw [a.out];rfl,rfl⟩
def AN (l:List UInt8):Int:=
 if l=[97,99,116,111,114] then 1 else
 if l=[103,114,97,110,116] then 2 else
 if l=[115,112,101,97,107] then 3 else
 if l=[105,110] then 4 else
 if l=[111,117,116] then 5 else
 if l=[118,97,114] then 6 else
 if l=[102,117,110,99] then 7 else
 0
theorem BU (x:ByteArray) (w:World) :
  Calls Tryz.prog 94 #[.string x] w fun e w'=>e=zi (O zc (AN x.data.toList))/\w'=w:=by
 by_cases h0:x.data.toList=[97,99,116,111,114]
 ·obtain rfl:=An h0
  clear h0;go_enter Tryz.func94,Tryz.ntmps94
  go_wp2
  go_ret;exact ⟨rfl,rfl⟩
 by_cases h1:x.data.toList=[103,114,97,110,116]
 ·obtain rfl:=An h1
  clear h0 h1;go_enter Tryz.func94,Tryz.ntmps94
  go_wp2
  go_ret;exact ⟨rfl,rfl⟩
 by_cases h2:x.data.toList=[115,112,101,97,107]
 ·obtain rfl:=An h2
  clear h0 h1 h2;go_enter Tryz.func94,Tryz.ntmps94
  go_wp2
  go_ret;exact ⟨rfl,rfl⟩
 by_cases h3:x.data.toList=[105,110]
 ·obtain rfl:=An h3
  clear h0 h1 h2 h3;go_enter Tryz.func94,Tryz.ntmps94
  go_wp2
  go_ret;exact ⟨rfl,rfl⟩
 by_cases h4:x.data.toList=[111,117,116]
 ·obtain rfl:=An h4
  clear h0 h1 h2 h3 h4;go_enter Tryz.func94,Tryz.ntmps94
  go_wp2
  go_ret;exact ⟨rfl,rfl⟩
 by_cases h5:x.data.toList=[118,97,114]
 ·obtain rfl:=An h5
  clear h0 h1 h2 h3 h4 h5;go_enter Tryz.func94,Tryz.ntmps94
  go_wp2
  go_ret;exact ⟨rfl,rfl⟩
 by_cases h6:x.data.toList=[102,117,110,99]
 ·obtain rfl:=An h6
  clear h0 h1 h2 h3 h4 h5 h6;go_enter Tryz.func94,Tryz.ntmps94
  go_wp2
  go_ret;exact ⟨rfl,rfl⟩
 have hr:AN x.data.toList=0:=by simp [AN,h0,h1,h2,h3,h4,h5,h6]
 have a:=Aa hr;have l:=Av h0;have j:=Av h1;have i:=Av h2;have g:=Av h3;have f:=Av h4;have c:=Av h5;have b:=Av h6;clear hr h0 h1 h2 h3 h4 h5 h6;go_enter Tryz.func94,Tryz.ntmps94
 go_wp2
 go_ret;exact ⟨by rw [a.out];rfl,rfl⟩
theorem D7 (l:List UInt8) (h:¬ A0 l=0):l≠[]:=by
 rintro rfl;exact h rfl
theorem Eg (rb:Nat) (tv:Value) (ts:List Tok) (en n:Nat) (w:World) (h:St rb tv ts en n w) (hx:¬ A0 (Ag ts n).text.data.toList=0) :
  Calls Tryz.prog 156 #[zh (some ⟨rb,0,none⟩)] w fun e w'=>e=zi (O zc (A0 (Ag ts n).text.data.toList))/\w.grownBy w' (some rb)/\St rb tv ts en (n+1) w':=by
 have E:n < ts.length:=Cj (D7 _ hx);have J:=h.2.2.1;have i:=Bk rb tv ts en n w h;have j:=D6 (Ag ts n).text;obtain ⟨C,f⟩:∃ y,y=(Ag ts n).kind:=⟨_,rfl⟩;obtain ⟨A,b⟩:∃ y,y=(Ag ts n).pos:=⟨_,rfl⟩;obtain ⟨tx,a⟩:∃ y,y=(Ag ts n).text:=⟨_,rfl⟩;rw [<-f,<-b,<-a] at i;rw [<-a] at j hx ⊢;unfold AC at i;obtain ⟨B,c⟩:∃ y,y=A0 tx.data.toList:=⟨_,rfl⟩;rw [<-c] at j hx ⊢;have P:(B == 0)=false:=by simpa using hx
 have v:=Aa i;have x:=Aa j;have G:=BK C A tx;clear i f b a j c hx;go_enter Tryz.func156,Tryz.ntmps156;go_wp2_with fail;refine (v.out).mono ?_;rintro e I ⟨rfl,l⟩;go_wp2_with fail;refine (x.out _).mono ?_;rintro e H ⟨rfl,rfl⟩;have u:=h.below l;obtain ⟨N,M,L,K⟩:=u.cells;have F:=Ae (r:=some rb) l;have g:=Aa (CL u E);clear v x h u l;go_wp2_with fail;go_ret;exact ⟨rfl,Ac F g.out.2,g.out.1⟩
theorem J8 (rb:Nat) (tv:Value) (ts:List Tok) (en n:Nat) (w:World) (h:St rb tv ts en n w) (hx:A0 (Ag ts n).text.data.toList=0) :
  Calls Tryz.prog 156 #[zh (some ⟨rb,0,none⟩)] w fun e w'=>e=Ah (Al ts en n)/\Below w.heap.size w w':=by
 have f:=Bk rb tv ts en n w h;have g:=D6 (Ag ts n).text;rw [hx] at g;obtain ⟨x,c⟩:∃ y,y=(Ag ts n).kind:=⟨_,rfl⟩;obtain ⟨v,b⟩:∃ y,y=(Ag ts n).pos:=⟨_,rfl⟩;obtain ⟨tx,a⟩:∃ y,y=(Ag ts n).text:=⟨_,rfl⟩;rw [<-c,<-b,<-a] at f;rw [<-a] at g;unfold AC at f;have l:=Aa f;have r:=Aa g;have A:=BK x v tx;clear f c b a g hx;go_enter Tryz.func156,Tryz.ntmps156;go_wp2_with fail;refine (l.out).mono ?_;rintro e C ⟨rfl,j⟩;go_wp2_with fail;refine (r.out _).mono ?_;rintro e u ⟨rfl,rfl⟩;have B:=Aa (BV rb tv ts en n _ (h.below j));clear l r h;go_wp2_with fail;refine (B.out).mono ?_;rintro e u ⟨rfl,i⟩;unfold Ah;go_wp2_with fail;exact ⟨rfl,rfl,j.trans (i.mono j.size)⟩
def Dm (l:List UInt8):Nat:=l.foldl (fun n c=>10*n+(c.toNat - 48)) 0
theorem O6 (l:List UInt8) (h:∀ c∈l,isD c=true):∀ acc,Lib.decFrom acc l=some (l.foldl (fun n c=>10*n+(c.toNat - 48)) acc):=by
 induction l with
 | nil=>intro acc;rfl
 | cons c l ih=>
  intro acc;have b:=h c (by simp);simp only [isD,decide_eq_true_eq] at b;have a:Lib.digitVal c=some (c.toNat - 48):=by
   unfold Lib.digitVal;rw [if_pos (by first | exact b | (simp;omega) | omega)]
  simp only [Lib.decFrom,a,List.foldl_cons];rw [ih (fun d a=>h d (by simp [a]))];congr 2;omega
theorem Fi {p:UInt8->Bool} {l:List UInt8} (h:(l.takeWhile p).length=l.length):∀ c∈l,p c=true:=by
 have e:l.takeWhile p=l:=(List.takeWhile_prefix p).eq_of_length h;intro c a;rw [<-e] at a;exact List.all_eq_true.1 (List.all_takeWhile) c a
theorem En {t:Tok} (ha:Ai t=true) (hk:t.kind=2):t.text.size<=18/\Lib.atoi t.text.data.toList=some (Dm t.text.data.toList:Int)/\t.text.data.toList≠[]/\Dm t.text.data.toList<=9999999:=by
 obtain ⟨E,H,v,G,u⟩:=(Be t.kind t.pos t.text).1 ha;have b:(Aw t.text 0).1=2:=by omega
 have r:Aw t.text 0=(2,Az isD t.text.data.toList 0):=by
  by_cases hL:isL t.text[0]=true
  ·have:Aw t.text 0=(1,Az isN t.text.data.toList 0):=by simp [Aw,E,hL]
   rw [this] at b;simp at b
  by_cases r:isD t.text[0]=true
  ·simp [Aw,E,hL,r]
  ·have:¬ (Aw t.text 0).1=2:=by
    unfold Aw;rw [dif_pos E,if_neg hL,if_neg r];split
    ·simp
    ·split <;> simp
   exact absurd b this
 rw [r] at u;simp only at u;have y:(t.text.data.toList.takeWhile isD).length=t.text.data.toList.length:=by
  have:=u;simp only [Az,List.drop_zero,Nat.zero_add] at this;rw [this];rfl
 have a:=Fi y;have g:t.text.size<=7:=by
  simp only [AA,r] at v;rw [if_neg (by omega)] at v;split at v
  ·cases v
  ·rename_i i
   simp only [Nat.sub_zero] at i;rw [u] at i;simp at i;omega
 have f:t.text.data.toList≠[]:=by
  intro h;have:=congrArg List.length h;have e:t.text.data.toList.length=t.text.size:=rfl;simp only [List.length_nil] at this;omega
 refine ⟨by omega,?_,f,?_⟩
 ·match hl:t.text.data.toList,a,f with
  | c::l,a,_=>
   have j:=a c (by simp);simp only [isD,decide_eq_true_eq] at j;have A:(c == 45)=false:=by rw [beq_eq_false_iff_ne];rintro rfl;simp at j
   have B:(c == 43)=false:=by rw [beq_eq_false_iff_ne];rintro rfl;simp at j
   simp only [Lib.atoi,A,B];have:=O6 (c::l) a 0;simp only [Lib.decNat,List.isEmpty_cons];simp only [Bool.false_eq_true,if_false];rw [this];rfl
 ·have x:∀ (l:List UInt8) (acc k:Nat),(∀ c∈l,isD c=true)->acc < 10 ^ k->l.foldl (fun n c=>10*n+(c.toNat - 48)) acc < 10 ^ (k+l.length):=by
   intro l
   induction l with
   | nil=>intro acc k _ h;simpa using h
   | cons c l ih=>
    intro acc k F h;have j:=F c (by simp);simp only [isD,decide_eq_true_eq] at j;have C:10*acc+(c.toNat - 48) < 10 ^ (k+1):=by rw [Nat.pow_succ];omega
    have:=ih _ (k+1) (fun d i=>F d (by simp [i])) C;simp only [List.foldl_cons,List.length_cons];rw [show k+(l.length+1)=k+1+l.length by omega];exact this
  have L:=x t.text.data.toList 0 0 a (by decide);have K:t.text.data.toList.length<=7:=g;have J:10 ^ (0+t.text.data.toList.length)<=10 ^ 7:=Nat.pow_le_pow_right (by decide) (by omega);have I:(10:Nat) ^ 7=10000000:=by decide
  unfold Dm;omega
theorem Gd {ts:List Tok} {n:Nat} (h:(Ag ts n).kind=2):n < ts.length:=by
 rcases Nat.lt_or_ge n ts.length with h1 | h1
 ·exact h1
 ·exfalso
  have e:ts[n]? = none:=List.getElem?_eq_none h1;simp [Ag,e] at h
theorem Db {ts:List Tok} {n:Nat} (h:n < ts.length):Ag ts n∈ts:=by
 have:Ag ts n=ts[n]:=by simp [Ag,h]
 rw [this];exact List.getElem_mem h
theorem G6 (rb:Nat) (tv:Value) (ts:List Tok) (hall:ts.all Ai=true) (en n:Nat) (w:World) (h:St rb tv ts en n w) (hx:(Ag ts n).kind=2) :
  Calls Tryz.prog 155 #[zh (some ⟨rb,0,none⟩)] w fun e w'=>e=zi (O zc (Dm (Ag ts n).text.data.toList:Int))/\w.grownBy w' (some rb)/\St rb tv ts en (n+1) w':=by
 have C:=Gd hx;have U:=h.2.2.1;obtain ⟨H,G,Q,P⟩:=En (List.all_eq_true.1 hall _ (Db C)) hx;have j:=Tryz.strconv_Atoi (Ag ts n).text _ H G;have g:=Bk rb tv ts en n w h;rw [hx] at g;obtain ⟨u,f⟩:∃ y,y=(Ag ts n).pos:=⟨_,rfl⟩;obtain ⟨T,i⟩:∃ y,y=(Dm (Ag ts n).text.data.toList:Int):=⟨_,rfl⟩;rw [<-i] at j ⊢;obtain ⟨tx,a⟩:∃ y,y=(Ag ts n).text:=⟨_,rfl⟩;rw [<-f,<-a] at g;rw [<-a] at j;unfold AC at g;have I:=Aa g;have R:=Aa j;clear g f a j i hx H G Q P;go_enter Tryz.func155,Tryz.ntmps155;go_wp2_with fail;refine (I.out).mono ?_;rintro e c ⟨rfl,F⟩;have l:=h.below F;have E:=l.lt;obtain ⟨N,M,L,K⟩:=l.cells;have J:=Ae (r:=some rb) F;obtain ⟨s1,B⟩:=CL l C;have hal:Below (c.setCell ⟨rb,1,none⟩ (O zc ((n:Int)+1))).heap.size (c.setCell ⟨rb,1,none⟩ (O zc ((n:Int)+1))) ((c.setCell ⟨rb,1,none⟩ (O zc ((n:Int)+1))).alloc (Obj.cells #[O zc 2,O zc u,.string tx] 44)):=(Below.refl _ _).alloc (Nat.le_refl _) _;have v:=Aa (s1.below hal);have x:=Aa (Ac (Ac J B) (Ae hal));clear I h s1 B hal l;go_wp2_with fail;refine (R.out _).mono ?_;rintro e S ⟨rfl,A,rfl⟩;have b:=Lib.bytesWorld_below ((c.setCell ⟨rb,1,none⟩ (O zc ((n:Int)+1))).alloc (Obj.cells #[O zc 2,O zc u,.string tx] 44)) 5 A;generalize Lib.bytesWorld ((c.setCell ⟨rb,1,none⟩ (O zc ((n:Int)+1))).alloc (Obj.cells #[O zc 2,O zc u,.string tx] 44)) 5 A=w3 at b ⊢;clear N M L K;go_wp2_with fail;go_ret;exact ⟨rfl,Ac x.out (Ae b),v.out.below b⟩
theorem MZ (rb:Nat) (tv:Value) (ts:List Tok) (en n:Nat) (w:World) (h:St rb tv ts en n w) (hx:¬ (Ag ts n).kind=2) :
  Calls Tryz.prog 155 #[zh (some ⟨rb,0,none⟩)] w fun e w'=>e=Ah (Al ts en n)/\Below w.heap.size w w':=by
 have f:=Bk rb tv ts en n w h;obtain ⟨i,a⟩:∃ y,y=(Ag ts n).kind:=⟨_,rfl⟩;obtain ⟨u,c⟩:∃ y,y=(Ag ts n).pos:=⟨_,rfl⟩;obtain ⟨tx,b⟩:∃ y,y=(Ag ts n).text:=⟨_,rfl⟩;rw [<-a,<-c,<-b] at f;rw [<-a] at hx;unfold AC at f;have l:=Aa f;have A:(i != 2)=true:=by simpa using hx
 clear f a c b hx;go_enter Tryz.func155,Tryz.ntmps155;go_wp2_with fail;refine (l.out).mono ?_;rintro e r ⟨rfl,j⟩;have hal:Below w.heap.size w (r.alloc (Obj.cells #[O zc i,O zc u,.string tx] 44)):=j.alloc j.size _;have v:=Aa (BV rb tv ts en n _ (h.below hal));clear l h;go_wp2_with fail;refine (v.out).mono ?_;rintro e x ⟨rfl,g⟩;unfold Ah;go_wp2_with fail;exact ⟨rfl,rfl,hal.trans (g.mono hal.size)⟩
abbrev D:=DataW Empty
def dI (n:Int):D:=.lit (.int zc n)
def dS (x:ByteArray):D:=.lit (.string x.data.toList)
def dB (b:Bool):D:=.lit (.bool b)
def dL (l:List D):D:=.slice l []
def eD (k a n:Int) (name:ByteArray) (args:List D):D:=.agg [dI k,dI a,dI n,dS name,dL args]
def Fz0 (w:World) (b off n:Nat):Prop:=b < w.heap.size/\∀ i,i < n->w.frozen? ⟨b,off+i,none⟩=false
theorem Fz0.of_block {w w':World} {b off n:Nat} (h:Fz0 w b off n) (hw:w'.heap[b]? = w.heap[b]?):Fz0 w' b off n:=by
 refine ⟨?_,fun i c=>by rw [World.frozen?_of_block (a:=⟨b,off+i,none⟩) hw];exact h.2 i c⟩;rw [Array.getElem?_eq_getElem h.1] at hw;exact (Array.getElem?_eq_some_iff.1 hw).1
theorem Fz0.new {w:World} {b off n T:Nat} {c:Array Value} (h:w.heap[b]? = some (.cells c T (0,0))):Fz0 w b off n:=⟨(Array.getElem?_eq_some_iff.1 h).1,fun i _=>Lib.frozen_of_heap h (off+i)⟩
def RS (S:Nat->Prop) (size:Nat) (R:List Value->D->Prop) (w:World) (v:Value) (ds:List D):Prop:=
 ∃ ao cap,v=zd ao ds.length cap/\(ds≠[]->∃ b off,ao=some ⟨b,off,none⟩/\S b/\Fz0 w b off (ds.length*size) /\
  ∀ (i:Nat) (d:D),ds[i]? = some d->∃ cs:List Value,cs.length=size/\(∀ (j:Nat) (u:Value),cs[j]? = some u->w.cell? ⟨b,off+i*size+j,none⟩=some u)/\R cs d)
theorem RS.nil (S:Nat->Prop) (size:Nat) (R:List Value->D->Prop) (w:World) (ao:Option Addr) (cap:Nat):RS S size R w (zd ao 0 cap) []:=⟨ao,cap,rfl,fun h=>absurd rfl h⟩
theorem RS.mono {S S':Nat->Prop} {size:Nat} {R R':List Value->D->Prop} {w w':World} {v:Value} {ds:List D} (h:RS S size R w v ds) (hS:∀ b,S b->b < w.heap.size->S' b)
  (hw:∀ b,S b->b < w.heap.size->w'.heap[b]? = w.heap[b]?) (hs:0 < size) (hR:∀ cs d,d∈ds->R cs d->R' cs d):RS S' size R' w' v ds:=by
 obtain ⟨H,B,F,G⟩:=h;refine ⟨H,B,F,fun n=>?_⟩;obtain ⟨b,l,A,g,y,r⟩:=G n;have c:b < w.heap.size:=by
  cases ds with
  | nil=>exact absurd rfl n
  | cons d ds=>
   obtain ⟨cs,C,f,_⟩:=r 0 d rfl;obtain ⟨u,x⟩:∃ u,cs[0]? = some u:=⟨cs[0]'(by omega),List.getElem?_eq_getElem (by omega)⟩;exact World.block_lt_of_cell? w _ (f 0 u x)
 refine ⟨b,l,A,hS b g c,y.of_block (hw b g c),fun i d E=>?_⟩;obtain ⟨cs,C,f,hr⟩:=r i d E;refine ⟨cs,C,fun j u x=>?_,hR cs d (List.mem_of_getElem? E) hr⟩;rw [World.cell?_of_block (a:=⟨b,l+i*size+j,none⟩) (hw b g c)];exact f j u x
def RE (S:Nat->Prop) (w:World):Nat->List Value->D->Prop
 | 0,_,_=>False
 | k+1,cs,d=>∃ (kd a n:Int) (x:ByteArray) (v:Value) (ds:List D),cs=[O zc kd,O zc a,O zc n,.string x,v]/\d=eD kd a n x ds/\RS S 5 (RE S w k) w v ds
theorem RE.mono {S S':Nat->Prop} {w w':World} (hS:∀ b,S b->b < w.heap.size->S' b) (hw:∀ b,S b->b < w.heap.size->w'.heap[b]? = w.heap[b]?) :
  ∀ (k m:Nat) (cs:List Value) (d:D),k<=m->RE S w k cs d->RE S' w' m cs d:=by
 intro k
 induction k with
 | zero=>intro m cs d _ h;exact h.elim
 | succ k ih=>
  intro m cs d i h;obtain ⟨c,rfl⟩:∃ c,m=c + 1:=⟨m - 1,by omega⟩;obtain ⟨g,a,n,x,v,r,f,l,hr⟩:=h;exact ⟨g,a,n,x,v,r,f,l,hr.mono hS hw (by decide) (fun cs d _ j=>ih c cs d (by omega) j)⟩
def pE (ts:List Tok) (en:Nat):Nat->Nat->Nat->Sum (D × Nat) Nat
 | 0,_,n=>.inr n
 | f+1,deep,n=>
  if (Ag ts n).kind=2 then .inl (eD 1 (Al ts en n) (Dm (Ag ts n).text.data.toList) ⟨#[]⟩ [],n+1)
  else if isT ts n [45]=true then
   if isT ts (n+1) [48]=true then .inr (n+1)
   else if (Ag ts (n+1)).kind=2 then .inl (eD 1 (Al ts en n) (-(Dm (Ag ts (n+1)).text.data.toList:Int)) ⟨#[]⟩ [],n+2)
   else .inr (n+1)
  else if AJ (Ag ts n)=true then .inl (eD 2 (Al ts en n) 0 (Ag ts n).text [],n+1)
  else if deep < 60/\isT ts n [40]=true then
   match pE ts en f (deep+1) (n+1) with
   | .inr m=>.inr m
   | .inl (a,n1)=>
    if A0 (Ag ts n1).text.data.toList=0 then .inr n1
    else match pE ts en f (deep+1) (n1+1) with
     | .inr m=>.inr m
     | .inl (b,n2)=>if isT ts n2 [41]=true then .inl (eD (A0 (Ag ts n1).text.data.toList) (Al ts en n) 0 ⟨#[]⟩ [a,b],n2+1) else .inr n2
  else .inr n
theorem Af {w w':World} {rb g:Nat} {o:Obj} (h:w.heap[g]? = some o) (hg:w.grownBy w' (some rb)) (hne:g≠rb):w'.heap[g]? = some o:=by
 rw [hg.block g (Array.getElem?_eq_some_iff.1 h).1 (by simpa using hne)];exact h
theorem Au {w w':World} {g:Nat} {o:Obj} (h:w.heap[g]? = some o) (hb:Below w.heap.size w w'):w'.heap[g]? = some o:=by
 rw [hb.block g (Array.getElem?_eq_some_iff.1 h).1];exact h
theorem Dv {w:World} {g T:Nat} {a b c d e:Value} (h:w.heap[g]? = some (Obj.cells #[a,b,c,d,e] T (0,0))) :
  w.cell? ⟨g,0,none⟩=some a/\w.cell? ⟨g,1,none⟩=some b/\w.cell? ⟨g,2,none⟩=some c/\w.cell? ⟨g,3,none⟩=some d/\w.cell? ⟨g,4,none⟩=some e/\(∀ j,w.frozen? ⟨g,j,none⟩=false)/\g < w.heap.size:=by
 refine ⟨?_,?_,?_,?_,?_,fun j=>Lib.frozen_of_heap h j,(Array.getElem?_eq_some_iff.1 h).1⟩ <;> rw [Lib.cell_of_heap h] <;> rfl
theorem Aj {w w4:World} {r:Option Nat} (h:w.grownBy w4 r) {p:Addr} (hp:w.heap.size<=p.block) (u:Value):w.grownBy (w4.setCell p u) r:=
 ⟨h.os,h.tape,h.output,by have:=h.size;simp [World.setCell];omega,fun k hk hne=>by rw [Below.heap_setCell _ _ _ _ (by omega)];exact h.block k hk hne⟩
theorem DZ {w w4:World} {r:Option Nat} (h:w.grownBy w4 r) (o:Obj):w.grownBy (w4.alloc o) r:=
 ⟨h.os,h.tape,h.output,by have:=h.size;simp;omega,fun k hk hne=>by rw [Below.heap_alloc _ _ _ (by have:=h.size;omega)];exact h.block k hk hne⟩
theorem Am {w:World} {g:Nat} {o:Obj} {p:Addr} {u:Value} (h:w.heap[g]? = some o) (hne:g≠p.block):(w.setCell p u).heap[g]? = some o:=by
 rw [Below.heap_setCell _ _ _ _ hne];exact h
theorem Cn {w:World} {g:Nat} {o o':Obj} (h:w.heap[g]? = some o):(w.alloc o').heap[g]? = some o:=by
 rw [Below.heap_alloc _ _ _ (Array.getElem?_eq_some_iff.1 h).1];exact h
def CC (rb:Nat) (tv:Value) (ts:List Tok) (en:Nat) (k:Nat) (w:World) (res:Sum (D × Nat) Nat) (e:Ending) (w':World):Prop:=
 w.grownBy w' (some rb)/\match res with
  | .inl (d,n)=>∃ cs:List Value,e=zi (.agg cs.toArray)/\RE (fun b=>w.heap.size<=b) w' k cs d/\St rb tv ts en n w'
  | .inr m=>e=Ah (Al ts en m)
end Go.Proofs.YtipngnjffjajpaaGreatDoor
