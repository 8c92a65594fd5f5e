/- Package tree's Check: the parts of expressions. -/
import Derived.Test.YtipngnjffjajpaaGreatDoorH19
set_option linter.unusedVariables false
set_option maxHeartbeats 8000000
set_option maxRecDepth 100000
namespace Go.Proofs.YtipngnjffjajpaaGreatDoor.Tx
open Go.RowKit
open Go.Value renaming int -> M, slice -> U, bool -> zc, pointer -> zd, agg -> zf, tuple -> zh
open Go.IntKind renaming i64 -> O
open Go.Obj renaming cells -> ze
open Go.Ending renaming returned -> zg
abbrev Ro (F:FuncId) (args:Array Value) (w:World) (r:Value):Prop:=Calls Tryz.prog F args w fun e w'=>e=zg r/\Ov w w'
theorem LS.at {α:Type} {size:Nat} {R:List Value->α->Prop} {w:World} {ao:Option Addr} {n c:Nat} {l:List α} (h:LS size R w (U ao n c) l) {j:Nat} (hj:j < l.length) :
  ∃ b off,ao=some ⟨b,off,none⟩/\∃ cs:List Value,cs.length=size/\(∀ (i:Nat) (u:Value),cs[i]? = some u->w.cell? ⟨b,off+j*size+i,none⟩=some u)/\R cs l[j]:=by
 obtain ⟨-,x,v,e,m⟩:=h;injection e with r A y;subst r;obtain ⟨b,off,k,g⟩:=m (by rintro rfl;simp at hj);obtain ⟨cs,q1,f,a⟩:=g j l[j] (List.getElem?_eq_getElem hj);exact ⟨b,off,k,cs,q1,f,a⟩
theorem LS.max {α:Type} {size:Nat} {R:List Value->α->Prop} {w:World} {v:Value} {l:List α} (h:LS size R w v l):l.length<=9223372036854775807:=h.1
theorem DB {α β:Type} {F:β->α->β} {l:List α} {j:Nat} (hj:j < l.length) (s:β):(l.drop j).foldl F s=(l.drop (j+1)).foldl F (F s l[j]):=by
 rw [List.drop_eq_getElem_cons hj,List.foldl_cons]
theorem Ho (k:Nat):∀ (l:List D) (t:Int),t < 0->l.foldl (fun l a=>if l < 0 then l else plK k a l) t=t
 | [],t,h=>rfl
 | a::l,t,h=>by rw [List.foldl_cons,if_pos h];exact Ho k l t h
theorem Hp:∀ (k:Nat) (cs:List Value) (d:D) (w:World) (L:Int),ZE w k cs d->0<=L->L<=15->Ro 139 #[.agg cs.toArray,M O L] w (M O (plK k d L)):=by
 intro k
 induction k with
 | zero=>intro cs d w L h;exact h.elim
 | succ k ih=>
  intro cs d w L h L0 L1;obtain ⟨P,a,n,x,ao,c,B,rfl,rfl,-,R⟩:=h;have HC:=Aa R;have IH:=Aa ih;have HL:=R.max;obtain ⟨fin,y⟩:=nm (B.foldl (fun l a=>if l < 0 then l else plK k a l) (L - 1));have v:plK (k+1) (eD P a n x B) L=fin:=by rw [y];rfl
  rw [v];have HF:=Aa y;obtain ⟨C,F⟩:=nm B.length;rw [<-F] at HL ⊢;have HN:=Aa F;have A:=bA w (ze #[M O P,M O a,M O n,.string x,U ao C c] 49);clear R ih v y F;show Ro 139 #[zf #[M O P,M O a,M O n,.string x,U ao C c],M O L] w _;go_enter Tryz.func139,Tryz.ntmps139;go_wp2_with fail;go_loopw [1,12] (fun c i wr=>∃ (j:Nat) (t:Int),j<=C/\i=M O j/\c=M O t/\-1<=t/\t<=15/\(B.drop j).foldl (fun l a=>if l < 0 then l else plK k a l) t=fin/\Ov w wr) (fun _ i _=>C - (intOf i).toNat)
  case atStart=>exact ⟨0,L - 1,Nat.zero_le _,rfl,by go_num,by omega,by omega,HF.o.symm,A⟩
  case round=>
   clear A;obtain ⟨j,t,hj,rfl,rfl,t1,t2,u,g⟩:=hrel;by_cases hjl:j < C
   ·have m:j < B.length:=by have:=HN.o;omega
    obtain ⟨b,G,rfl,cs,H,f,hr⟩:=HC.o.at m;rw [DB m] at u;by_cases ht0:t < 0
    ·rw [if_pos ht0,Ho k _ _ ht0] at u
     obtain ⟨k0,k1,k2,k3,q,q1,q2,rfl⟩:=hr.cells;have c0:wr.cell? ⟨b,G+j*5,none⟩=_:=ce1 g (f 0 _ rfl);have c1:=ce1 g (f 1 _ rfl);have c2:=ce1 g (f 2 _ rfl);have Z:=ce1 g (f 3 _ rfl);have Y:=ce1 g (f 4 _ rfl);have K:=Aa u;have N:=Aa g;clear f H hr u g m;have Q:(j:Int) < (C:Int):=by omega
     go_wp2_with fail;go_ret;exact ⟨by rw [K.o];rfl,Ab N.o (bA _ _)⟩
    ·rw [if_neg ht0] at u
     have V:=MA k B[j] t (by omega);obtain ⟨W,I⟩:=nm B[j];rw [<-I] at u V hr;obtain ⟨r,E⟩:=nm (plK k W t);have KC:Hx (∀ X,Ov wr X->Ro 139 #[.agg cs.toArray,M O t] X (M O r)):=fun X hX=>by rw [E];exact IH.o cs W X t ((hr.over g).over hX) (by omega) (by omega)
     obtain ⟨k0,k1,k2,k3,q,q1,q2,rfl⟩:=hr.cells;have c0:wr.cell? ⟨b,G+j*5,none⟩=_:=ce1 g (f 0 _ rfl);have c1:=ce1 g (f 1 _ rfl);have c2:=ce1 g (f 2 _ rfl);have Z:=ce1 g (f 3 _ rfl);have Y:=ce1 g (f 4 _ rfl);rw [<-E] at u V;have K:=Aa u;have N:=Aa g;have Q:(j:Int) < (C:Int):=by omega
     clear f H hr u g m E I;go_wp2_with fail;refine (KC.o _ (bA _ _)).mono ?_;rintro e w1 ⟨rfl,J⟩;have S:Hx (Ov w w1):=Ab N.o (Ab (bA _ _) J);clear J c0 c1 c2 Z Y KC;go_wp2_with fail;exact ⟨⟨j+1,r,by omega,by go_num,rfl,by omega,by omega,K.o,S.o⟩,by simp [intOf];omega⟩
   ·have T:B.drop j=[]:=List.drop_eq_nil_of_le (by have:=HN.o;omega)
    rw [T] at u;have K:=Aa u;have N:=Aa g;clear u g T;go_wp2_with fail;go_ret;exact ⟨by rw [<-K.o];rfl,N.o⟩
theorem JA {α:Type} (p:α->Bool) (l:List α):(!l.all fun x=>!p x)=l.any p:=by
 induction l with
 | nil=>rfl
 | cons a l ih=>rw [List.all_cons,List.any_cons,<-ih];cases p a <;> simp
theorem EO (k:Nat) (cs:List Value) (d:D) (w:World) (h:ZE w k cs d):Ro 104 #[.agg cs.toArray] w (zc (CU k d)):=by
 obtain ⟨r,hr⟩:=nm (plK k d 15);have c:Hx (∀ X,Ov w X->Ro 139 #[.agg cs.toArray,M O 15] X (M O r)):=fun X g=>by rw [hr];exact Hp k cs d X 15 (h.over g) (by omega) (by omega)
 obtain ⟨j,k1,k2,k3,q,q1,i,rfl⟩:=h.cells;unfold CU;rw [<-hr];clear h hr;go_enter Tryz.func104,Tryz.ntmps104;go_wp2_with fail;refine (c.o _ (bA _ _)).mono ?_;rintro e f ⟨rfl,a⟩;have b:Hx (Ov w f):=Ab (bA _ _) a;clear a c;go_wp2_with fail;go_ret;exact ⟨rfl,b.o⟩
theorem JZ (k:Nat) (cs:List Value) (d:D) (w:World) (h:ZE w k cs d):Ro 140 #[.agg cs.toArray] w (zc (!CU k d)):=by
 obtain ⟨r,hr⟩:=nm (CU k d);have c:Hx (∀ X,Ov w X->Ro 104 #[.agg cs.toArray] X (zc r)):=fun X g=>by rw [hr];exact EO k cs d X (h.over g)
 obtain ⟨j,k1,k2,k3,q,q1,i,rfl⟩:=h.cells;rw [<-hr];clear h hr;go_enter Tryz.func140,Tryz.ntmps140;go_wp2_with fail;refine (c.o _ (bA _ _)).mono ?_;rintro e f ⟨rfl,a⟩;have b:Hx (Ov w f):=Ab (bA _ _) a;clear a c;go_wp2_with fail;go_ret;exact ⟨rfl,b.o⟩
end Go.Proofs.YtipngnjffjajpaaGreatDoor.Tx
