/- The small functions of package token return what they say: letters, digits, and how far one goes on. -/
import Derived.Test.YtipngnjffjajpaaGreatDoorRows
import Derived.WalkKit
import Derived.WalkSpells
import Derived.WalkLawsBesides
import Derived.Test.YtipngnjffjajpaaGreatDoorShelf
import Derived.Lib.Strings
import Derived.Lib.Bytealg
set_option linter.unusedVariables false
set_option maxHeartbeats 8000000
set_option maxRecDepth 100000
namespace Go.Proofs.YtipngnjffjajpaaGreatDoor
open Go.RowKit
open Go.Value renaming int -> A, slice -> O, bool -> zc, agg -> ze, pointer -> zf, tuple -> zh
open Go.IntKind renaming i64 -> J
open Go.Obj renaming cells -> zd
open Go.Ending renaming returned -> zg
theorem Aa {p:Prop} (h:p):Hid p:=h
def isL (c:UInt8):Bool:=decide (97<=c.toNat/\c.toNat<=122)
def isD (c:UInt8):Bool:=decide (48<=c.toNat/\c.toNat<=57)
def isN (c:UInt8):Bool:=isL c || isD c
def C2 (c:UInt8):Bool:=decide (¬ c.toNat=10)
theorem Bu (c:UInt8) (w:World) :
  Calls Tryz.prog 116 #[A .u8 (c.toNat:Int)] w fun e w'=>e=zg (zc (isL c))/\w'=w:=by
 by_cases h1:(97:Int)<=(c.toNat:Int)
 ·by_cases h2:(c.toNat:Int)<=122
  ·go_enter Tryz.func116,Tryz.ntmps116
   go_wp2
   go_ret;exact ⟨by simp [isL];omega,rfl⟩
  ·go_enter Tryz.func116,Tryz.ntmps116
   go_wp2
   go_ret;exact ⟨by simp [isL];omega,rfl⟩
 ·go_enter Tryz.func116,Tryz.ntmps116
  go_wp2
  go_ret;exact ⟨by simp [isL];omega,rfl⟩
theorem BC (c:UInt8) (w:World) :
  Calls Tryz.prog 118 #[A .u8 (c.toNat:Int)] w fun e w'=>e=zg (zc (isD c))/\w'=w:=by
 by_cases h1:(48:Int)<=(c.toNat:Int)
 ·by_cases h2:(c.toNat:Int)<=57
  ·go_enter Tryz.func118,Tryz.ntmps118
   go_wp2
   go_ret;exact ⟨by simp [isD];omega,rfl⟩
  ·go_enter Tryz.func118,Tryz.ntmps118
   go_wp2
   go_ret;exact ⟨by simp [isD];omega,rfl⟩
 ·go_enter Tryz.func118,Tryz.ntmps118
  go_wp2
  go_ret;exact ⟨by simp [isD];omega,rfl⟩
theorem Ks (c:UInt8) (w:World) :
  Calls Tryz.prog 115 #[A .u8 (c.toNat:Int)] w fun e w'=>e=zg (zc (C2 c))/\w'=w:=by
 go_enter Tryz.func115,Tryz.ntmps115
 go_wp2
 go_ret;exact ⟨congrArg (fun b=>Ending.returned (zc b)) (by rw [Bool.eq_iff_iff];simp [C2];omega),rfl⟩
theorem EJ (c:UInt8) (w:World) :
  Calls Tryz.prog 141 #[A .u8 (c.toNat:Int)] w fun e w'=>e=zg (zc (isN c))/\w'=w:=by
 by_cases h:isL c=true
 ·go_enter Tryz.func141,Tryz.ntmps141
  go_wp2_with fail;refine (Bu c _).mono ?_;rintro e w' ⟨rfl,rfl⟩;go_wp2_with fail;go_ret;exact ⟨by simp [isN,h],rfl⟩
 ·go_enter Tryz.func141,Tryz.ntmps141
  go_wp2_with fail;refine (Bu c _).mono ?_;rintro e w' ⟨rfl,rfl⟩;go_wp2_with fail;refine (BC c _).mono ?_;rintro e w' ⟨rfl,rfl⟩;go_wp2_with fail;go_ret;exact ⟨by simp [isN,h],rfl⟩
def Ar (p:UInt8->Bool) (l:List UInt8) (i:Nat):Nat:=i+((l.drop i).takeWhile p).length
theorem CV {p:UInt8->Bool} {l:List UInt8} {i:Nat} (h:i < l.length) (hp:p l[i]=true):Ar p l i=Ar p l (i+1):=by
 unfold Ar;rw [List.drop_eq_getElem_cons h,List.takeWhile_cons,if_pos hp];simp;omega
theorem Ee {p:UInt8->Bool} {l:List UInt8} {i:Nat} (h:i < l.length) (hp:p l[i]=false):Ar p l i=i:=by
 unfold Ar;rw [List.drop_eq_getElem_cons h,List.takeWhile_cons,if_neg (by simp [hp])];simp
theorem EZ {p:UInt8->Bool} {l:List UInt8} {i:Nat} (h:l.length<=i):Ar p l i=i:=by
 unfold Ar;rw [List.drop_of_length_le h];simp
theorem Da (F:FuncId) (p:UInt8->Bool) (hF:Hid (∀ (c:UInt8) (w:World),Calls Tryz.prog F #[A .u8 (c.toNat:Int)] w fun e w'=>e=zg (zc (p c))/\w'=w))
  (hC:∀ (args:Array Value) (w:World),(callFunc F args).run Tryz.prog w=.ok (.enter F args) w) (s:ByteArray) (a:Nat) (ha:a<=s.size) (hs:s.size<=6000) (w:World) :
  Calls Tryz.prog 114 #[.string s,A J (a:Int),.func (.func F) #[] #[]] w fun e w'=>e=zg (A J (Ar p s.data.toList a:Nat))/\w'=w:=by
 go_enter Tryz.func114,Tryz.ntmps114
 go_wp2
 go_loop [1] (fun i=>∃ k:Nat,k<=s.size/\i=A J k/\Ar p s.data.toList k=Ar p s.data.toList a) (fun i=>s.size - (intOf i).toNat)
 case atStart=>exact ⟨a,ha,rfl,rfl⟩
 case round=>
  obtain ⟨k,l,rfl,b⟩:=hrel;have g:=Aa b;clear b;by_cases hlt:k < s.size
  ·go_wp2_with fail
   refine (hF.out _ _).mono ?_;rintro e w' ⟨rfl,rfl⟩;by_cases hp:p s[k]=true
   ·go_wp2_with fail
    refine ⟨⟨k+1,by omega,by go_num,?_⟩,by simp [intOf];omega⟩;rw [<-g.out];exact (CV (by simpa using hlt) hp).symm
   ·have f:p s[k]=false:=by simpa using hp
    go_wp2_with fail;go_ret;refine ⟨?_,rfl⟩;have:=g.out;rw [Ee (by simpa using hlt) f] at this;simp [<-this]
  ·go_wp2_with fail
   go_ret;have j:k=s.size:=by omega
   refine ⟨?_,rfl⟩;have:=g.out;rw [EZ (by simp;omega)] at this;simp [<-this]
def Cw (c:UInt8):Bool:=decide (c.toNat=32\/c.toNat=9\/c.toNat=10)
def Ca:Bool->List UInt8->Nat
 | _,[]=>0
 | true,c::l=>1+Ca (C2 c) l
 | false,c::l=>if c.toNat=35 then 1+Ca true l else if Cw c=true then 1+Ca false l else 0
def AE (note:Bool) (l:List UInt8) (i:Nat):Nat:=i+Ca note (l.drop i)
theorem LF (note:Bool) (l:List UInt8):Ca note l<=l.length:=by
 induction l generalizing note with
 | nil=>cases note <;> simp [Ca]
 | cons c l ih=>
  cases note with
  | true=>simp only [Ca,List.length_cons];have:=ih (C2 c);omega
  | false=>
   have b:=ih true;have a:=ih false;simp only [Ca,List.length_cons];split
   ·omega
   ·split <;> omega
theorem LG {note:Bool} {l:List UInt8} {i:Nat} (h:i<=l.length):AE note l i<=l.length:=by
 have:=LF note (l.drop i);simp only [List.length_drop] at this;unfold AE;omega
theorem I1 (l:List UInt8):Ca true l=(l.takeWhile C2).length+Ca false (l.drop (l.takeWhile C2).length):=by
 induction l with
 | nil=>simp [Ca]
 | cons c l ih=>
  by_cases h:C2 c=true
  ·rw [List.takeWhile_cons,if_pos h]
   simp only [Ca,h,List.length_cons,List.drop_succ_cons];omega
  ·have b:C2 c=false:=by simpa using h
   rw [List.takeWhile_cons,if_neg h];simp only [Ca,b,List.length_nil,List.drop_zero];have a:c.toNat=10:=by simpa [C2] using h
   rw [if_neg (by omega),if_pos (by simp [Cw,a])];omega
theorem Fh {l:List UInt8} {i:Nat} (h:i < l.length) (h35:¬ l[i].toNat=35) (hb:Cw l[i]=true):AE false l i=AE false l (i+1):=by
 unfold AE;rw [List.drop_eq_getElem_cons h];simp only [Ca,h35,hb,if_true,if_false];omega
theorem I2 {l:List UInt8} {i:Nat} (h:i < l.length) (h35:l[i].toNat=35):AE false l i=AE false l (Ar C2 l i):=by
 unfold AE Ar;have e:Ca false (l.drop i)=Ca true (l.drop i):=by
  rw [List.drop_eq_getElem_cons h];simp [Ca,h35,C2]
 rw [e,I1,List.drop_drop];omega
theorem Eg {l:List UInt8} {i:Nat} (h:i < l.length) (h35:¬ l[i].toNat=35) (hb:Cw l[i]=false):AE false l i=i:=by
 unfold AE;rw [List.drop_eq_getElem_cons h];simp [Ca,h35,hb]
theorem Gt {note:Bool} {l:List UInt8} {i:Nat} (h:l.length<=i):AE note l i=i:=by
 unfold AE;rw [List.drop_of_length_le h];simp [Ca]
theorem FK {p:UInt8->Bool} {l:List UInt8} {i:Nat} (h:i < l.length) (hp:p l[i]=true):i < Ar p l i:=by
 unfold Ar;rw [List.drop_eq_getElem_cons h,List.takeWhile_cons,if_pos hp];simp
theorem B9 {p:UInt8->Bool} {l:List UInt8} {i:Nat} (h:i<=l.length):Ar p l i<=l.length:=by
 unfold Ar;have:=(List.takeWhile_sublist p (l:=l.drop i)).length_le;simp only [List.length_drop] at this;omega
theorem OO (args:Array Value) (w:World):(callFunc 115 args).run Tryz.prog w=.ok (.enter 115 args) w:=by simp [go_sem]
theorem Jt (args:Array Value) (w:World):(callFunc 118 args).run Tryz.prog w=.ok (.enter 118 args) w:=by simp [go_sem]
theorem MO (args:Array Value) (w:World):(callFunc 141 args).run Tryz.prog w=.ok (.enter 141 args) w:=by simp [go_sem]
theorem H5 (s:ByteArray) (a:Nat) (ha:a<=s.size) (hs:s.size<=6000) (w:World) :
  Calls Tryz.prog 81 #[.string s,A J (a:Int)] w fun e w'=>e=zg (A J (AE false s.data.toList a:Nat))/\w'=w:=by
 go_enter Tryz.func81,Tryz.ntmps81
 go_wp2
 go_loop [1] (fun i=>∃ k:Nat,k<=s.size/\i=A J k/\AE false s.data.toList k=AE false s.data.toList a) (fun i=>s.size - (intOf i).toNat)
 case atStart=>exact ⟨a,ha,rfl,rfl⟩
 case round=>
  obtain ⟨k,G,rfl,n⟩:=hrel;have t:=Aa n;clear n;by_cases hlt:k < s.size
  ·have f:¬ s[k].toNat=35->Cw s[k]=true->AE false s.data.toList (k+1)=AE false s.data.toList a:=fun b I=>by
    rw [<-t.out];exact (Fh (by simpa using hlt) b I).symm
   have c:=Aa f;clear f;by_cases h32:s[k].toNat=32
   ·have j:((s[k].toNat:Int) == 32)=true:=by simp;omega
    have q:=Aa h32;clear h32;go_wp2_with fail;exact ⟨⟨k+1,by omega,by go_num,c.out (by have:=q.out;omega) (by simp [Cw,q.out])⟩,by simp [intOf];omega⟩
   by_cases h9:s[k].toNat=9
   ·have C:((s[k].toNat:Int) == 9)=true:=by simp;omega
    have j:((s[k].toNat:Int) == 32)=false:=by simp;omega
    have F:=Aa h9;clear h9 h32;go_wp2_with fail;exact ⟨⟨k+1,by omega,by go_num,c.out (by have:=F.out;omega) (by simp [Cw,F.out])⟩,by simp [intOf];omega⟩
   by_cases h10:s[k].toNat=10
   ·have x:((s[k].toNat:Int) == 10)=true:=by simp;omega
    have j:((s[k].toNat:Int) == 32)=false:=by simp;omega
    have C:((s[k].toNat:Int) == 9)=false:=by simp;omega
    have r:=Aa h10;clear h9 h32 h10;go_wp2_with fail;exact ⟨⟨k+1,by omega,by go_num,c.out (by have:=r.out;omega) (by simp [Cw,r.out])⟩,by simp [intOf];omega⟩
   have j:((s[k].toNat:Int) == 32)=false:=by simp;omega
   have C:((s[k].toNat:Int) == 9)=false:=by simp;omega
   have x:((s[k].toNat:Int) == 10)=false:=by simp;omega
   have B:Cw s[k]=false:=by simp [Cw];omega
   have K:=Aa B;clear B h32 h9;by_cases b:s[k].toNat=35
   ·have v:((s[k].toNat:Int) == 35)=true:=by simp;omega
    have H:k < Ar C2 s.data.toList k:=FK (by simpa using hlt) (by simp [C2];exact h10);have u:Ar C2 s.data.toList k<=s.size:=by have:=B9 (p:=C2) (l:=s.data.toList) (i:=k) (by simp;omega);simpa using this
    have e:AE false s.data.toList (Ar C2 s.data.toList k)=AE false s.data.toList a:=by
     rw [<-t.out];exact (I2 (by simpa using hlt) b).symm
    have E:=Aa e;clear e b h10;go_wp2_with fail;refine (Da 115 C2 (Aa Ks) OO s k G hs _).mono ?_;rintro e w' ⟨rfl,rfl⟩;go_wp2_with fail;exact ⟨⟨_,u,rfl,E.out⟩,by simp [intOf];omega⟩
   ·have v:((s[k].toNat:Int) == 35)=false:=by simp;omega
    have g:AE false s.data.toList k=k:=Eg (by simpa using hlt) b K.out;have y:=Aa g;clear b g h10;go_wp2_with fail;go_ret;refine ⟨?_,rfl⟩;have:=t.out;rw [y.out] at this;simp [<-this]
  ·go_wp2_with fail
   go_ret;refine ⟨?_,rfl⟩;have:=t.out;rw [Gt (by simp;omega)] at this;simp [<-this]
end Go.Proofs.YtipngnjffjajpaaGreatDoor
namespace Go.Proofs.YtipngnjffjajpaaGreatDoor
open Go.RowKit
open Go.Value renaming int -> A, slice -> O, bool -> zc, agg -> ze, pointer -> zf, tuple -> zh
open Go.IntKind renaming i64 -> J
open Go.Obj renaming cells -> zd
open Go.Ending renaming returned -> zg
theorem Dy {W w1:World} (hb:Below W.heap.size W w1):(∀ b o,b < W.heap.size->w1.cell? ⟨b,o,none⟩=W.cell? ⟨b,o,none⟩)/\(∀ b o,b < W.heap.size->w1.frozen? ⟨b,o,none⟩=W.frozen? ⟨b,o,none⟩):=
 ⟨fun b o h=>hb.cell (p:=⟨b,o,none⟩) h,fun b o h=>hb.frozen (p:=⟨b,o,none⟩) h⟩
theorem Tryz.info5:(Tryz.prog.info? 5).map (fun i=>(i.zero,i.size,i.bytes))=some (some (A .u8 0),1,1):=by kernel_rfl
theorem Lm (s:ByteArray) (w:World) (hlim:s.size<=6000) :
  Calls Tryz.prog 158 #[.string s] w fun e w'=>e=zg (.string s)/\Below w.heap.size w w':=by
 go_enter Tryz.func158,Tryz.ntmps158;go_wp2_with fail;refine (Tryz.stringslite_Clone s _ (by omega)).mono ?_;rintro e w' ⟨rfl,a⟩;go_wp2_with fail;go_ret;exact ⟨rfl,a⟩
theorem ET (s:ByteArray) (k:Int) (a b:Nat) (hs:s.size<=6000) (hab:a<=b) (hb:b<=s.size) (w:World) :
  Calls Tryz.prog 142 #[.string s,A J k,A J (a:Int),A J (b:Int)] w fun e w'=>
   e=zg (ze #[A J k,A J (a:Int),.string (s.extract a b)])/\Below w.heap.size w w':=by
 go_enter Tryz.func142,Tryz.ntmps142;go_wp2_with fail;refine (Lm (s.extract a b) _ (by simp;omega)).mono ?_;rintro e f ⟨rfl,c⟩;have i:Below (w.heap.size+1) (w.alloc (Obj.cells #[Value.int IntKind.i64 0,Value.int IntKind.i64 0,Value.string { data:=#[] }] 44)) f:=by simpa using c
 obtain ⟨j,n⟩:=Dy c;have l:w.heap.size < f.heap.size:=by have:=c.size;simp at this;omega
 go_wp2_with fail;refine bodyPost_ret (v:=ze #[A J k,A J (a:Int),.string (s.extract a b)]) (by simp [results,Tryz.results142,go_sem,j]) rfl ⟨rfl,?_⟩;have g:Below w.heap.size w f:=((Below.refl _ w).alloc (Nat.le_refl _) _).trans (c.mono (by simp));exact ((g.setCell (by simp) _).setCell (by simp) _).setCell (by simp) _
theorem EL (s t:ByteArray) (hs:s.size<=6000) (ht:t.size<=6000) (w:World) :
  Calls Tryz.prog 159 #[.string s,.string t] w fun e w'=>e=zg (zc (decide (t.size<=s.size) && ((s.extract 0 t.size).toList == t.toList)))/\w'=w:=by
 by_cases h:t.size<=s.size
 ·go_enter Tryz.func159,Tryz.ntmps159
  go_wp2
  go_ret;exact ⟨by simp [h],rfl⟩
 ·go_enter Tryz.func159,Tryz.ntmps159
  go_wp2
  go_ret;exact ⟨by simp [h],rfl⟩
theorem C8 (s t:ByteArray) (hs:s.size<=6000) (ht:t.size<=6000) (w:World) :
  Calls Tryz.prog 143 #[.string s,.string t] w fun e w'=>e=zg (zc (decide (t.size<=s.size) && ((s.extract 0 t.size).toList == t.toList)))/\w'=w:=by
 go_enter Tryz.func143,Tryz.ntmps143;go_wp2_with fail;refine (EL s t hs ht _).mono ?_;rintro e w' ⟨rfl,rfl⟩;go_wp2_with fail;go_ret;exact ⟨rfl,rfl⟩
theorem Tryz.run44 (args:Array Value) (w:World):(callFunc 171 args).run Tryz.prog w=((Extern.BytealgIndexByte.indexByte args).run Tryz.prog w).andThen fun v w'=>.ok (.value v) w':=
 run_callFunc_indexByte Tryz.func171 (by kernel_rfl) (by kernel_rfl) (by kernel_rfl) (by kernel_rfl) args w
theorem EK (s:ByteArray) (c:UInt8) (w:World) :
  Calls Tryz.prog 160 #[.string s,A .u8 (c.toNat:Int)] w fun e w'=>e=zg (A J (Lib.indexByte s.data.toList c))/\w'=w:=by
 have a:∀ w,(callFunc 171 #[.string s,A .u8 (c.toNat:Int)]).run Tryz.prog w=.ok (.value (A J (Lib.indexByte s.data.toList c))) w:=fun w=>by
  rw [Tryz.run44,Lib.run_indexByteString];simp [Result.andThen]
 go_enter Tryz.func160,Tryz.ntmps160
 go_wp2
 go_ret;exact ⟨rfl,rfl⟩
theorem Ed (s:ByteArray) (c:UInt8) (w:World) :
  Calls Tryz.prog 144 #[.string s,A .u8 (c.toNat:Int)] w fun e w'=>e=zg (A J (Lib.indexByte s.data.toList c))/\w'=w:=by
 go_enter Tryz.func144,Tryz.ntmps144;go_wp2_with fail;refine (EK s c _).mono ?_;rintro e w' ⟨rfl,rfl⟩;go_wp2_with fail;go_ret;exact ⟨rfl,rfl⟩
def BF (a e:Int):Ending:=.panicked [{ v:=.iface 116 (ze #[A J a,A J e]),recovered:=false }]
def AN (k a:Int) (t:ByteArray):Value:=ze #[A J k,A J a,.string t]
theorem Nx (s:ByteArray) (a:Nat) (ha:a<=s.size) (hs:s.size<=6000) (h:Ar isN s.data.toList a - a<=12) (w:World) :
  Calls Tryz.prog 117 #[.string s,A J (a:Int)] w fun e w'=>e=zg (AN 1 a (s.extract a (Ar isN s.data.toList a)))/\Below w.heap.size w w':=by
 have g:Ar isN s.data.toList a<=s.size:=by have:=B9 (p:=isN) (l:=s.data.toList) (i:=a) (by simpa using ha);simpa using this
 have j:a<=Ar isN s.data.toList a:=by unfold Ar;omega
 obtain ⟨b,q⟩:∃ b,b=Ar isN s.data.toList a:=⟨_,rfl⟩;rw [<-q] at h g j ⊢;have c:=Da 141 isN (Aa EJ) MO s a ha hs;rw [<-q] at c;have r:=Aa c;clear q c;go_enter Tryz.func117,Tryz.ntmps117;go_wp2_with fail;refine (r.out _).mono ?_;rintro e w' ⟨rfl,rfl⟩;go_wp2_with fail;refine (ET s 1 a b hs j g _).mono ?_;rintro e t ⟨rfl,f⟩;obtain ⟨u,y⟩:=Dy f;have x:w.heap.size < t.heap.size:=by have:=f.size;simp at this;omega
 go_wp2_with fail;refine bodyPost_ret (v:=AN 1 a (s.extract a b)) (by simp [AN,results,Tryz.results117,go_sem,u]) rfl ⟨rfl,?_⟩;have n:Below w.heap.size w t:=((Below.refl _ w).alloc (Nat.le_refl _) _).trans (f.mono (by simp));exact ((n.setCell (by simp) _).setCell (by simp) _).setCell (by simp) _
theorem Mp (s:ByteArray) (a:Nat) (ha:a<=s.size) (hs:s.size<=6000) (h:12 < Ar isN s.data.toList a - a) (w:World) :
  Calls Tryz.prog 117 #[.string s,A J (a:Int)] w fun e w'=>e=BF a 2/\Below w.heap.size w w':=by
 have f:Ar isN s.data.toList a<=s.size:=by have:=B9 (p:=isN) (l:=s.data.toList) (i:=a) (by simpa using ha);simpa using this
 have g:a<=Ar isN s.data.toList a:=by unfold Ar;omega
 obtain ⟨b,j⟩:∃ b,b=Ar isN s.data.toList a:=⟨_,rfl⟩;rw [<-j] at h f g;have c:=Da 141 isN (Aa EJ) MO s a ha hs;rw [<-j] at c;have n:=Aa c;clear j c;go_enter Tryz.func117,Tryz.ntmps117;go_wp2_with fail;refine (n.out _).mono ?_;rintro e w' ⟨rfl,rfl⟩;go_wp2_with fail;exact ⟨rfl,rfl,(Below.refl _ w).alloc (Nat.le_refl _) _⟩
theorem Kp (s:ByteArray) (a:Nat) (ha:a < s.size) (hs:s.size<=6000) (h:Ar isD s.data.toList a - a<=7) (h2:s[a].toNat=48->Ar isD s.data.toList a - a<=1) (w:World) :
  Calls Tryz.prog 119 #[.string s,A J (a:Int)] w fun e w'=>e=zg (AN 2 a (s.extract a (Ar isD s.data.toList a)))/\Below w.heap.size w w':=by
 have g:Ar isD s.data.toList a<=s.size:=by have:=B9 (p:=isD) (l:=s.data.toList) (i:=a) (by simp;omega);simpa using this
 have j:a<=Ar isD s.data.toList a:=by unfold Ar;omega
 obtain ⟨b,u⟩:∃ b,b=Ar isD s.data.toList a:=⟨_,rfl⟩;rw [<-u] at h h2 g j ⊢;have f:=Da 118 isD (Aa BC) Jt s a (by omega) hs;rw [<-u] at f;have r:=Aa f;clear u f;by_cases h48:s[a].toNat=48
 ·have x:((s[a].toNat:Int) == 48)=true:=by simp;omega
  have C:=h2 h48;clear h2 h48;go_enter Tryz.func119,Tryz.ntmps119;go_wp2_with fail;refine (r.out _).mono ?_;rintro e w' ⟨rfl,rfl⟩;go_wp2_with fail;refine (ET s 2 a b hs j g _).mono ?_;rintro e q ⟨rfl,c⟩;obtain ⟨t,B⟩:=Dy c;have y:w.heap.size < q.heap.size:=by have:=c.size;simp at this;omega
  go_wp2_with fail;refine bodyPost_ret (v:=AN 2 a (s.extract a b)) (by simp [AN,results,Tryz.results119,go_sem,t]) rfl ⟨rfl,?_⟩;have n:Below w.heap.size w q:=((Below.refl _ w).alloc (Nat.le_refl _) _).trans (c.mono (by simp));exact ((n.setCell (by simp) _).setCell (by simp) _).setCell (by simp) _
 ·have x:((s[a].toNat:Int) == 48)=false:=by simp;omega
  clear h2 h48;go_enter Tryz.func119,Tryz.ntmps119;go_wp2_with fail;refine (r.out _).mono ?_;rintro e w' ⟨rfl,rfl⟩;go_wp2_with fail;refine (ET s 2 a b hs j g _).mono ?_;rintro e q ⟨rfl,c⟩;obtain ⟨t,B⟩:=Dy c;have y:w.heap.size < q.heap.size:=by have:=c.size;simp at this;omega
  go_wp2_with fail;refine bodyPost_ret (v:=AN 2 a (s.extract a b)) (by simp [AN,results,Tryz.results119,go_sem,t]) rfl ⟨rfl,?_⟩;have n:Below w.heap.size w q:=((Below.refl _ w).alloc (Nat.le_refl _) _).trans (c.mono (by simp));exact ((n.setCell (by simp) _).setCell (by simp) _).setCell (by simp) _
theorem Ir (s:ByteArray) (a:Nat) (ha:a < s.size) (hs:s.size<=6000) (h:7 < Ar isD s.data.toList a - a) (w:World) :
  Calls Tryz.prog 119 #[.string s,A J (a:Int)] w fun e w'=>e=BF a 2/\Below w.heap.size w w':=by
 have f:Ar isD s.data.toList a<=s.size:=by have:=B9 (p:=isD) (l:=s.data.toList) (i:=a) (by simp;omega);simpa using this
 have g:a<=Ar isD s.data.toList a:=by unfold Ar;omega
 obtain ⟨b,j⟩:∃ b,b=Ar isD s.data.toList a:=⟨_,rfl⟩;rw [<-j] at h f g;have c:=Da 118 isD (Aa BC) Jt s a (by omega) hs;rw [<-j] at c;have n:=Aa c;clear j c;go_enter Tryz.func119,Tryz.ntmps119;go_wp2_with fail;refine (n.out _).mono ?_;rintro e w' ⟨rfl,rfl⟩;go_wp2_with fail;exact ⟨rfl,rfl,(Below.refl _ w).alloc (Nat.le_refl _) _⟩
theorem Gk (s:ByteArray) (a:Nat) (ha:a < s.size) (hs:s.size<=6000) (h:Ar isD s.data.toList a - a<=7) (h1:1 < Ar isD s.data.toList a - a) (h48:s[a].toNat=48) (w:World) :
  Calls Tryz.prog 119 #[.string s,A J (a:Int)] w fun e w'=>e=BF a 1/\Below w.heap.size w w':=by
 have f:Ar isD s.data.toList a<=s.size:=by have:=B9 (p:=isD) (l:=s.data.toList) (i:=a) (by simp;omega);simpa using this
 have g:a<=Ar isD s.data.toList a:=by unfold Ar;omega
 obtain ⟨b,j⟩:∃ b,b=Ar isD s.data.toList a:=⟨_,rfl⟩;rw [<-j] at h h1 f g;have c:=Da 118 isD (Aa BC) Jt s a (by omega) hs;rw [<-j] at c;have n:=Aa c;have q:((s[a].toNat:Int) == 48)=true:=by simp;omega
 clear j c h48;go_enter Tryz.func119,Tryz.ntmps119;go_wp2_with fail;refine (n.out _).mono ?_;rintro e w' ⟨rfl,rfl⟩;go_wp2_with fail;exact ⟨rfl,rfl,(Below.refl _ w).alloc (Nat.le_refl _) _⟩
def C9:ByteArray:=⟨#[61,61]⟩
def Di:ByteArray:=⟨#[123,125,40,41,59,58,33,44,61,43,45,42,60]⟩
def F1 (s:ByteArray) (a:Nat):Bool:=decide (C9.size<=(s.extract a s.size).size) && (((s.extract a s.size).extract 0 C9.size).toList == C9.toList)
def isS (c:UInt8):Bool:=decide (0<=Lib.indexByte Di.data.toList c)
theorem Fb {s:ByteArray} {a:Nat} (h:F1 s a=true):a+2<=s.size:=by
 simp only [F1,Bool.and_eq_true,decide_eq_true_eq] at h;have b:=h.1;simp [C9] at b;have:(ByteArray.mk #[61,61]).size=2:=rfl;omega
theorem LL (s:ByteArray) (a:Nat) (ha:a < s.size) (hs:s.size<=6000) (h:F1 s a=true) (w:World) :
  Calls Tryz.prog 120 #[.string s,A J (a:Int)] w fun e w'=>e=zg (AN 3 a (s.extract a (a+2)))/\Below w.heap.size w w':=by
 have j:=Fb h;have c:=C8 (s.extract a s.size) C9 (by simp;omega) (by decide);have e:(decide (C9.size<=(s.extract a s.size).size) && (((s.extract a s.size).extract 0 C9.size).toList == C9.toList))=true:=h;rw [e] at c;unfold C9 at c;have l:=Aa c;clear c e h;go_enter Tryz.func120,Tryz.ntmps120;go_wp2_with fail;refine (l.out _).mono ?_;rintro e w' ⟨rfl,rfl⟩;go_wp2_with fail;refine (ET s 3 a (a+2) hs (by omega) j _).mono ?_;rintro e g ⟨rfl,b⟩;obtain ⟨i,q⟩:=Dy b;have n:w.heap.size < g.heap.size:=by have:=b.size;simp at this;omega
 go_wp2_with fail;refine bodyPost_ret (v:=AN 3 a (s.extract a (a+2))) (by simp [AN,results,Tryz.results120,go_sem,i]) rfl ⟨rfl,?_⟩;have f:Below w.heap.size w g:=((Below.refl _ w).alloc (Nat.le_refl _) _).trans (b.mono (by simp));exact ((f.setCell (by simp) _).setCell (by simp) _).setCell (by simp) _
theorem LM (s:ByteArray) (a:Nat) (ha:a < s.size) (hs:s.size<=6000) (h:F1 s a=false) (hS:isS s[a]=true) (w:World) :
  Calls Tryz.prog 120 #[.string s,A J (a:Int)] w fun e w'=>e=zg (AN 3 a (s.extract a (a+1)))/\Below w.heap.size w w':=by
 have c:=C8 (s.extract a s.size) C9 (by simp;omega) (by decide);have e:(decide (C9.size<=(s.extract a s.size).size) && (((s.extract a s.size).extract 0 C9.size).toList == C9.toList))=false:=h;rw [e] at c;unfold C9 at c;have r:=Aa c;have f:=Ed Di s[a];obtain ⟨q,g⟩:∃ q,q=Lib.indexByte Di.data.toList s[a]:=⟨_,rfl⟩;rw [<-g] at f;have l:0<=q:=by rw [g];simpa [isS] using hS
 unfold Di at f;have t:=Aa f;clear c e h f g hS;go_enter Tryz.func120,Tryz.ntmps120;go_wp2_with fail;refine (r.out _).mono ?_;rintro e w' ⟨rfl,rfl⟩;go_wp2_with fail;refine (t.out _).mono ?_;rintro e w' ⟨rfl,rfl⟩;go_wp2_with fail;refine (ET s 3 a (a+1) hs (by omega) (by omega) _).mono ?_;rintro e j ⟨rfl,b⟩;obtain ⟨n,x⟩:=Dy b;have u:w.heap.size < j.heap.size:=by have:=b.size;simp at this;omega
 go_wp2_with fail;refine bodyPost_ret (v:=AN 3 a (s.extract a (a+1))) (by simp [AN,results,Tryz.results120,go_sem,n]) rfl ⟨rfl,?_⟩;have i:Below w.heap.size w j:=((Below.refl _ w).alloc (Nat.le_refl _) _).trans (b.mono (by simp));exact ((i.setCell (by simp) _).setCell (by simp) _).setCell (by simp) _
theorem Kf (s:ByteArray) (a:Nat) (ha:a < s.size) (hs:s.size<=6000) (h:F1 s a=false) (hS:isS s[a]=false) (w:World) :
  Calls Tryz.prog 120 #[.string s,A J (a:Int)] w fun e w'=>e=BF a 1/\Below w.heap.size w w':=by
 have b:=C8 (s.extract a s.size) C9 (by simp;omega) (by decide);have e:(decide (C9.size<=(s.extract a s.size).size) && (((s.extract a s.size).extract 0 C9.size).toList == C9.toList))=false:=h;rw [e] at b;unfold C9 at b;have i:=Aa b;have c:=Ed Di s[a];obtain ⟨q,f⟩:∃ q,q=Lib.indexByte Di.data.toList s[a]:=⟨_,rfl⟩;rw [<-f] at c;have g:q < 0:=by rw [f];simpa [isS] using hS
 unfold Di at c;have j:=Aa c;clear b e h c f hS;go_enter Tryz.func120,Tryz.ntmps120;go_wp2_with fail;refine (i.out _).mono ?_;rintro e w' ⟨rfl,rfl⟩;go_wp2_with fail;refine (j.out _).mono ?_;rintro e w' ⟨rfl,rfl⟩;go_wp2_with fail;exact ⟨rfl,rfl,(Below.refl _ w).alloc (Nat.le_refl _) _⟩
def Cg (s:ByteArray) (a:Nat):Bool:=(s.data.toList.drop a).take 2 == [61,61]
theorem DM (s:ByteArray) (a:Nat):F1 s a=Cg s a:=by
 have f:(s.extract a s.size).data.toList=s.data.toList.drop a:=by
  rw [Lib.extract_data,List.take_of_length_le];rw [List.length_drop,Array.length_toList];exact Nat.le_refl _
 have l:C9.size=2:=rfl;have j:C9.toList=[61,61]:=by rw [ByteArray.toList_eq];rfl
 have i:((s.extract a s.size).extract 0 2).toList=(s.data.toList.drop a).take 2:=by rw [Lib.extract_toList,f];rfl
 have g:(s.extract a s.size).size=(s.data.toList.drop a).length:=by rw [<-f];rfl
 simp only [F1,Cg,l,j,i,g];by_cases h:(List.take 2 (List.drop a s.data.toList) == [61,61])=true
 ·have c:=beq_iff_eq.1 h
  have b:=congrArg List.length c;rw [List.length_take] at b;simp only [List.length_cons,List.length_nil] at b;rw [h];simp;simp at b;omega
 ·have c:(List.take 2 (List.drop a s.data.toList) == [61,61])=false:=by simpa using h
  rw [c];simp
def Al (s:ByteArray) (i:Nat):Nat × Nat:=
 if h:i < s.size then
  if isL s[i]=true then (1,Ar isN s.data.toList i)
  else if isD s[i]=true then (2,Ar isD s.data.toList i)
  else if Cg s i=true then (3,i+2)
  else if isS s[i]=true then (3,i+1)
  else (0,i)
 else (0,i)
def Av (s:ByteArray) (i:Nat):Nat:=
 if (Al s i).1=0 then 1
 else if (Al s i).1=1/\12 < (Al s i).2 - i\/(Al s i).1=2/\7 < (Al s i).2 - i then 2
 else if (Al s i).1=2/\1 < (Al s i).2 - i/\s.data.toList[i]? = some 48 then 1
 else 0
def Bb (s:ByteArray) (a:Nat):Ending:=
 if Av s a=0 then zg (AN (Al s a).1 a (s.extract a (Al s a).2)) else BF a (Av s a)
theorem A6 (c d:UInt8):c=d ↔ c.toNat=d.toNat:=by
 constructor
 ·intro h;rw [h]
 ·intro h;exact UInt8.toNat_inj.1 h
theorem NG {s:ByteArray} {a:Nat} (ha:a < s.size):s.data.toList[a]? = some s[a]:=by
 rw [List.getElem?_eq_getElem (by simpa using ha)];rfl
theorem G2 (s:ByteArray) (a:Nat) (ha:a < s.size) (x:ByteArray) (hL:isL s[a]=true)
  (HN:Hid (∀ w,Calls Tryz.prog 117 #[.string s,A J (a:Int)] w fun e w'=>e=zg (AN 1 a x)/\Below w.heap.size w w')) (w:World) :
  Calls Tryz.prog 82 #[.string s,A J (a:Int)] w fun e w'=>e=zg (AN 1 a x)/\Below w.heap.size w w':=by
 have c:=Bu s[a];rw [hL] at c;have j:=Aa c;clear c hL;go_enter Tryz.func82,Tryz.ntmps82;go_wp2_with fail;refine (j.out _).mono ?_;rintro e w' ⟨rfl,rfl⟩;go_wp2_with fail;refine (HN.out _).mono ?_;rintro e g ⟨rfl,b⟩;unfold AN;obtain ⟨i,n⟩:=Dy b;have l:w.heap.size < g.heap.size:=by have:=b.size;simp at this;omega
 go_wp2_with fail;refine bodyPost_ret (v:=AN 1 a x) (by simp [AN,results,Tryz.results82,go_sem,i]) rfl ⟨rfl,?_⟩;have f:Below w.heap.size w g:=((Below.refl _ w).alloc (Nat.le_refl _) _).trans (b.mono (by simp));exact ((f.setCell (by simp) _).setCell (by simp) _).setCell (by simp) _
theorem Gm (s:ByteArray) (a:Nat) (ha:a < s.size) (x:Int) (hL:isL s[a]=true)
  (HN:Hid (∀ w,Calls Tryz.prog 117 #[.string s,A J (a:Int)] w fun e w'=>e=BF a x/\Below w.heap.size w w')) (w:World) :
  Calls Tryz.prog 82 #[.string s,A J (a:Int)] w fun e w'=>e=BF a x/\Below w.heap.size w w':=by
 have b:=Bu s[a];rw [hL] at b;have i:=Aa b;clear b hL;go_enter Tryz.func82,Tryz.ntmps82;go_wp2_with fail;refine (i.out _).mono ?_;rintro e w' ⟨rfl,rfl⟩;go_wp2_with fail;refine (HN.out _).mono ?_;rintro e g ⟨rfl,c⟩;have f:Below w.heap.size w g:=((Below.refl _ w).alloc (Nat.le_refl _) _).trans (c.mono (by simp));unfold BF;go_wp2_with fail;exact ⟨rfl,rfl,f⟩
theorem FW (s:ByteArray) (a:Nat) (ha:a < s.size) (x:ByteArray) (hL:isL s[a]=false) (hD:isD s[a]=true)
  (HN:Hid (∀ w,Calls Tryz.prog 119 #[.string s,A J (a:Int)] w fun e w'=>e=zg (AN 2 a x)/\Below w.heap.size w w')) (w:World) :
  Calls Tryz.prog 82 #[.string s,A J (a:Int)] w fun e w'=>e=zg (AN 2 a x)/\Below w.heap.size w w':=by
 have c:=Bu s[a];rw [hL] at c;have l:=Aa c;clear c hL;have f:=BC s[a];rw [hD] at f;have n:=Aa f;clear f hD;go_enter Tryz.func82,Tryz.ntmps82;go_wp2_with fail;refine (l.out _).mono ?_;rintro e w' ⟨rfl,rfl⟩;go_wp2_with fail;refine (n.out _).mono ?_;rintro e w' ⟨rfl,rfl⟩;go_wp2_with fail;refine (HN.out _).mono ?_;rintro e i ⟨rfl,b⟩;unfold AN;obtain ⟨j,r⟩:=Dy b;have q:w.heap.size < i.heap.size:=by have:=b.size;simp at this;omega
 go_wp2_with fail;refine bodyPost_ret (v:=AN 2 a x) (by simp [AN,results,Tryz.results82,go_sem,j]) rfl ⟨rfl,?_⟩;have g:Below w.heap.size w i:=((Below.refl _ w).alloc (Nat.le_refl _) _).trans (b.mono (by simp));exact ((g.setCell (by simp) _).setCell (by simp) _).setCell (by simp) _
theorem Du (s:ByteArray) (a:Nat) (ha:a < s.size) (x:Int) (hL:isL s[a]=false) (hD:isD s[a]=true)
  (HN:Hid (∀ w,Calls Tryz.prog 119 #[.string s,A J (a:Int)] w fun e w'=>e=BF a x/\Below w.heap.size w w')) (w:World) :
  Calls Tryz.prog 82 #[.string s,A J (a:Int)] w fun e w'=>e=BF a x/\Below w.heap.size w w':=by
 have b:=Bu s[a];rw [hL] at b;have j:=Aa b;clear b hL;have c:=BC s[a];rw [hD] at c;have l:=Aa c;clear c hD;go_enter Tryz.func82,Tryz.ntmps82;go_wp2_with fail;refine (j.out _).mono ?_;rintro e w' ⟨rfl,rfl⟩;go_wp2_with fail;refine (l.out _).mono ?_;rintro e w' ⟨rfl,rfl⟩;go_wp2_with fail;refine (HN.out _).mono ?_;rintro e i ⟨rfl,f⟩;have g:Below w.heap.size w i:=((Below.refl _ w).alloc (Nat.le_refl _) _).trans (f.mono (by simp));unfold BF;go_wp2_with fail;exact ⟨rfl,rfl,g⟩
theorem EI (s:ByteArray) (a:Nat) (ha:a < s.size) (x:ByteArray) (hL:isL s[a]=false) (hD:isD s[a]=false)
  (HN:Hid (∀ w,Calls Tryz.prog 120 #[.string s,A J (a:Int)] w fun e w'=>e=zg (AN 3 a x)/\Below w.heap.size w w')) (w:World) :
  Calls Tryz.prog 82 #[.string s,A J (a:Int)] w fun e w'=>e=zg (AN 3 a x)/\Below w.heap.size w w':=by
 have c:=Bu s[a];rw [hL] at c;have l:=Aa c;clear c hL;have f:=BC s[a];rw [hD] at f;have n:=Aa f;clear f hD;go_enter Tryz.func82,Tryz.ntmps82;go_wp2_with fail;refine (l.out _).mono ?_;rintro e w' ⟨rfl,rfl⟩;go_wp2_with fail;refine (n.out _).mono ?_;rintro e w' ⟨rfl,rfl⟩;go_wp2_with fail;refine (HN.out _).mono ?_;rintro e i ⟨rfl,b⟩;unfold AN;obtain ⟨j,r⟩:=Dy b;have q:w.heap.size < i.heap.size:=by have:=b.size;simp at this;omega
 go_wp2_with fail;refine bodyPost_ret (v:=AN 3 a x) (by simp [AN,results,Tryz.results82,go_sem,j]) rfl ⟨rfl,?_⟩;have g:Below w.heap.size w i:=((Below.refl _ w).alloc (Nat.le_refl _) _).trans (b.mono (by simp));exact ((g.setCell (by simp) _).setCell (by simp) _).setCell (by simp) _
theorem Gl (s:ByteArray) (a:Nat) (ha:a < s.size) (x:Int) (hL:isL s[a]=false) (hD:isD s[a]=false)
  (HN:Hid (∀ w,Calls Tryz.prog 120 #[.string s,A J (a:Int)] w fun e w'=>e=BF a x/\Below w.heap.size w w')) (w:World) :
  Calls Tryz.prog 82 #[.string s,A J (a:Int)] w fun e w'=>e=BF a x/\Below w.heap.size w w':=by
 have b:=Bu s[a];rw [hL] at b;have j:=Aa b;clear b hL;have c:=BC s[a];rw [hD] at c;have l:=Aa c;clear c hD;go_enter Tryz.func82,Tryz.ntmps82;go_wp2_with fail;refine (j.out _).mono ?_;rintro e w' ⟨rfl,rfl⟩;go_wp2_with fail;refine (l.out _).mono ?_;rintro e w' ⟨rfl,rfl⟩;go_wp2_with fail;refine (HN.out _).mono ?_;rintro e i ⟨rfl,f⟩;have g:Below w.heap.size w i:=((Below.refl _ w).alloc (Nat.le_refl _) _).trans (f.mono (by simp));unfold BF;go_wp2_with fail;exact ⟨rfl,rfl,g⟩
theorem Mn (s:ByteArray) (a:Nat) (ha:a < s.size) (hs:s.size<=6000) (w:World) :
  Calls Tryz.prog 82 #[.string s,A J (a:Int)] w fun e w'=>e=Bb s a/\Below w.heap.size w w':=by
 by_cases hL:isL s[a]=true
 ·have c:Al s a=(1,Ar isN s.data.toList a):=by simp [Al,ha,hL]
  by_cases h12:Ar isN s.data.toList a - a<=12
  ·have f:Bb s a=zg (AN 1 a (s.extract a (Ar isN s.data.toList a))):=by
    have:Av s a=0:=by simp [Av,c];omega
    simp [Bb,this,c]
   rw [f];exact G2 s a ha _ hL (Aa (Nx s a (by omega) hs h12)) w
  ·have f:Bb s a=BF a 2:=by
    have:Av s a=2:=by simp [Av,c];omega
    simp [Bb,this]
   rw [f];exact Gm s a ha _ hL (Aa (Mp s a (by omega) hs (by omega))) w
 have b:isL s[a]=false:=by simpa using hL
 by_cases hD:isD s[a]=true
 ·have c:Al s a=(2,Ar isD s.data.toList a):=by simp [Al,ha,b,hD]
  by_cases h7:Ar isD s.data.toList a - a<=7
  ·by_cases h48:s[a].toNat=48/\1 < Ar isD s.data.toList a - a
   ·have f:Bb s a=BF a 1:=by
     have l:s[a]=48:=(A6 _ _).2 h48.1;have:Av s a=1:=by
      simp only [Av,c,NG ha,l];rw [if_neg (by omega),if_neg (by omega),if_pos ⟨trivial,h48.2,trivial⟩]
     simp [Bb,this]
    rw [f];exact Du s a ha _ b hD (Aa (Gk s a ha hs h7 h48.2 h48.1)) w
   ·have f:Bb s a=zg (AN 2 a (s.extract a (Ar isD s.data.toList a))):=by
     have:Av s a=0:=by
      simp only [Av,c,NG ha];rw [if_neg (by omega),if_neg (by omega),if_neg];rintro ⟨_,q,n⟩;exact h48 ⟨(A6 _ _).1 (Option.some.inj n),q⟩
     simp [Bb,this,c]
    rw [f];exact FW s a ha _ b hD (Aa (Kp s a ha hs h7 (fun h=>by omega))) w
  ·have f:Bb s a=BF a 2:=by
    have:Av s a=2:=by simp [Av,c];omega
    simp [Bb,this]
   rw [f];exact Du s a ha _ b hD (Aa (Ir s a ha hs (by omega))) w
 have g:isD s[a]=false:=by simpa using hD
 by_cases hE:Cg s a=true
 ·have c:Al s a=(3,a+2):=by simp [Al,ha,b,g,hE]
  have f:Bb s a=zg (AN 3 a (s.extract a (a+2))):=by
   have:Av s a=0:=by simp [Av,c]
   simp [Bb,this,c]
  rw [f];exact EI s a ha _ b g (Aa (LL s a ha hs (by rw [DM];exact hE))) w
 have i:Cg s a=false:=by simpa using hE
 by_cases hS:isS s[a]=true
 ·have c:Al s a=(3,a+1):=by simp [Al,ha,b,g,i,hS]
  have f:Bb s a=zg (AN 3 a (s.extract a (a+1))):=by
   have:Av s a=0:=by simp [Av,c]
   simp [Bb,this,c]
  rw [f];exact EI s a ha _ b g (Aa (LM s a ha hs (by rw [DM];exact i) hS)) w
 have j:isS s[a]=false:=by simpa using hS
 have c:Al s a=(0,a):=by simp [Al,ha,b,g,i,j]
 have f:Bb s a=BF a 1:=by
  have:Av s a=1:=by simp [Av,c]
  simp [Bb,this]
 rw [f];exact Gl s a ha _ b g (Aa (Kf s a ha hs (by rw [DM];exact i) j)) w
structure Tok where
 kind:Int
 pos:Int
 text:ByteArray
def DB (t:Tok):List Value:=[A J t.kind,A J t.pos,.string t.text]
def AF (ts:List Tok):List Value:=ts.flatMap DB
theorem DA (ts:List Tok) (t:Tok):AF (ts++[t])=AF ts++DB t:=by simp [AF]
def FF (s:ByteArray) (j:Nat):Tok:=⟨(Al s j).1,j,s.extract j (Al s j).2⟩
def Bd (s:ByteArray):Nat->Bool->Nat->Sum (List Tok) (Nat × Nat)
 | 0,_,_=>.inl []
 | f+1,note,i=>
  if AE note s.data.toList i < s.size then
   if Av s (AE note s.data.toList i)=0 then
    match Bd s f false (Al s (AE note s.data.toList i)).2 with
    | .inl ts=>.inl (FF s (AE note s.data.toList i)::ts)
    | .inr x=>.inr x
   else .inr (AE note s.data.toList i,Av s (AE note s.data.toList i))
  else .inl []
def pre (ts:List Tok):Sum (List Tok) (Nat × Nat)->Sum (List Tok) (Nat × Nat)
 | .inl us=>.inl (ts++us)
 | .inr x=>.inr x
theorem JM (r:Sum (List Tok) (Nat × Nat)):pre [] r=r:=by cases r <;> rfl
def BZ (s:ByteArray):Sum (List Tok) (Nat × Nat):=Bd s (s.size+1) false 0
def Aw (s:ByteArray):List Tok:=match BZ s with | .inl ts=>ts | .inr _=>[]
def BS (s:ByteArray):Nat:=match BZ s with | .inl _=>0 | .inr x=>x.1
def A7 (s:ByteArray):Nat:=match BZ s with | .inl _=>0 | .inr x=>x.2
theorem BM {s:ByteArray} {j:Nat} (h:Av s j=0):j < (Al s j).2/\(Al s j).2<=s.size:=by
 by_cases hj:j < s.size
 ·have b:j < s.data.toList.length:=by simpa using hj
  have c:s.data.toList[j]=s[j]:=rfl;by_cases hL:isL s[j]=true
  ·have a:Al s j=(1,Ar isN s.data.toList j):=by simp [Al,hj,hL]
   rw [a];exact ⟨FK b (by rw [c];simp [isN,hL]),by have:=B9 (p:=isN) (l:=s.data.toList) (i:=j) (by omega);simpa using this⟩
  by_cases hD:isD s[j]=true
  ·have a:Al s j=(2,Ar isD s.data.toList j):=by simp [Al,hj,hL,hD]
   rw [a];exact ⟨FK b (by rw [c];exact hD),by have:=B9 (p:=isD) (l:=s.data.toList) (i:=j) (by omega);simpa using this⟩
  by_cases hE:Cg s j=true
  ·have a:Al s j=(3,j+2):=by simp [Al,hj,hL,hD,hE]
   rw [a];have:=Fb ((DM s j).trans hE);exact ⟨by simp,by simpa using this⟩
  by_cases hS:isS s[j]=true
  ·have a:Al s j=(3,j+1):=by simp [Al,hj,hL,hD,hE,hS]
   rw [a];exact ⟨by simp,by simp;omega⟩
  have a:Al s j=(0,j):=by simp [Al,hj,hL,hD,hE,hS]
  simp [Av,a] at h
 ·have a:Al s j=(0,j):=by simp [Al,hj]
  simp [Av,a] at h
theorem FE {s:ByteArray} {j:Nat}:(Al s j).1<=3:=by
 unfold Al
 repeat (first | split | simp)
theorem Lv (s:ByteArray) (j:Nat):j<=(Al s j).2:=by
 unfold Al;split
 ·split
  ·show j<=Ar isN s.data.toList j
   unfold Ar;omega
  ·split
   ·show j<=Ar isD s.data.toList j
    unfold Ar;omega
   ·split
    ·show j<=j+2;omega
    ·split
     ·show j<=j+1;omega
     ·exact Nat.le_refl _
 ·exact Nat.le_refl _
theorem FD {s:ByteArray} {i:Nat} (hi:i<=s.size):(Al s i).2<=s.size:=by
 unfold Al;split
 ·rename_i h
  split
  ·have:=B9 (p:=isN) (l:=s.data.toList) (i:=i) (by simpa using hi);simpa using this
  ·split
   ·have:=B9 (p:=isD) (l:=s.data.toList) (i:=i) (by simpa using hi);simpa using this
   ·split
    ·rename_i a
     exact Fb ((DM s i).trans a)
    ·split
     ·exact h
     ·exact hi
 ·exact hi
theorem Gx {s:ByteArray} {f i:Nat} {note:Bool} {ts:List Tok} (h:BZ s=pre ts (Bd s (f+1) note i)) (hlt:AE note s.data.toList i < s.size)
  (he:Av s (AE note s.data.toList i)=0):BZ s=pre (ts++[FF s (AE note s.data.toList i)]) (Bd s f false (Al s (AE note s.data.toList i)).2):=by
 rw [h];simp only [Bd,hlt,he,if_true];cases Bd s f false (Al s (AE note s.data.toList i)).2 <;> simp [pre]
theorem Gw {s:ByteArray} {f i:Nat} {note:Bool} {ts:List Tok} (h:BZ s=pre ts (Bd s (f+1) note i)) (hlt:AE note s.data.toList i < s.size)
  (he:¬ Av s (AE note s.data.toList i)=0):BZ s=.inr (AE note s.data.toList i,Av s (AE note s.data.toList i)):=by
 rw [h];simp only [Bd,hlt,he,if_true,if_false];rfl
theorem Ih {s:ByteArray} {f i:Nat} {note:Bool} {ts:List Tok} (h:BZ s=pre ts (Bd s (f+1) note i)) (hlt:¬ AE note s.data.toList i < s.size):BZ s=.inl ts:=by
 rw [h];simp only [Bd,hlt,if_false];simp [pre]
theorem DF (note:Bool) (l:List UInt8) (i:Nat):i<=AE note l i:=by unfold AE;omega
theorem EF {w w':World} {base:Nat} {e:TypeId} {size:Nat} {v:Value} {n:Nat} {xs:List Value} (h:w.ownsRow base e size v n xs) (hb:Below w.heap.size w w'):w'.ownsRow base e size v n xs:=by
 obtain ⟨l,a⟩:=h;refine ⟨l,?_⟩;rcases a with a | ⟨g,c,b,i,j,f,r⟩
 ·exact Or.inl a
 ·refine Or.inr ⟨g,c,b,i,j,?_,r⟩
  rw [hb.block g ?_]
  ·exact f
  ·exact (Array.getElem?_eq_some_iff.1 f).1
end Go.Proofs.YtipngnjffjajpaaGreatDoor
