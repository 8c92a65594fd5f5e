/- Package tree's Check: the parts of expressions. -/
import Derived.Test.YtipngnjffjajpaaGreatDoorJ15
set_option linter.unusedVariables false
set_option maxHeartbeats 8000000
set_option maxRecDepth 100000
namespace Go.Proofs.YtipngnjffjajpaaGreatDoor.Tx
open Go.RowKit
open Go.Value renaming int -> I, slice -> zc, bool -> zd, pointer -> zf, agg -> zg, tuple -> zi
open Go.IntKind renaming i64 -> O
open Go.Obj renaming cells -> ze
open Go.Ending renaming returned -> zh
abbrev Ro (F:FuncId) (args:Array Value) (w:World) (r:Value):Prop:=Calls Tryz.prog F args w fun e w'=>e=zh r/\Ov w w'
theorem LS.at {α:Type} {size:Nat} {R:List Value->α->Prop} {w:World} {ao:Option Addr} {n c:Nat} {l:List α} (h:LS size R w (zc ao n c) l) {j:Nat} (hj:j < l.length) :
  ∃ b off,ao=some ⟨b,off,none⟩/\∃ cs:List Value,cs.length=size/\(∀ (i:Nat) (u:Value),cs[i]? = some u->w.cell? ⟨b,off+j*size+i,none⟩=some u)/\R cs l[j]:=by
 obtain ⟨-,A,y,e,v⟩:=h;injection e with x C B;subst x;obtain ⟨b,off,r,-,g⟩:=v (by rintro rfl;simp at hj);obtain ⟨cs,q1,f,a⟩:=g j l[j] (List.getElem?_eq_getElem hj);exact ⟨b,off,r,cs,q1,f,a⟩
theorem LS.fz {α:Type} {size:Nat} {R:List Value->α->Prop} {w:World} {ao:Option Addr} {n c:Nat} {l:List α} (h:LS size R w (zc ao n c) l) (hl:l≠[]):∃ b off,ao=some ⟨b,off,none⟩/\Fz0 w b off:=by
 obtain ⟨-,r,j,e,g⟩:=h;injection e with i v u;subst i;obtain ⟨b,off,f,a,-⟩:=g hl;exact ⟨b,off,f,a⟩
theorem LS.max {α:Type} {size:Nat} {R:List Value->α->Prop} {w:World} {v:Value} {l:List α} (h:LS size R w v l):l.length<=9223372036854775807:=h.1
theorem D3 {α β:Type} {F:β->α->β} {l:List α} {j:Nat} (hj:j < l.length) (s:β):(l.drop j).foldl F s=(l.drop (j+1)).foldl F (F s l[j]):=by
 rw [List.drop_eq_getElem_cons hj,List.foldl_cons]
theorem Ju (k:Nat):∀ (l:List D) (t:Int),t < 0->l.foldl (fun l a=>if l < 0 then l else plK k a l) t=t
 | [],t,h=>rfl
 | a::l,t,h=>by rw [List.foldl_cons,if_pos h];exact Ju k l t h
theorem Jv:∀ (k:Nat) (cs:List Value) (d:D) (w:World) (L:Int),ZE w k cs d->0<=L->L<=15->Ro 139 #[.agg cs.toArray,I O L] w (I O (plK k d L)):=by
 intro k
 induction k with
 | zero=>intro cs d w L h;exact h.elim
 | succ k ih=>
  intro cs d w L h L0 L1;obtain ⟨Q,a,n,x,ao,c,C,rfl,rfl,-,S⟩:=h;have HC:=Aa S;have IH:=Aa ih;have HL:=S.max;obtain ⟨fin,A⟩:=nm (C.foldl (fun l a=>if l < 0 then l else plK k a l) (L - 1));have y:plK (k+1) (eD Q a n x C) L=fin:=by rw [A];rfl
  rw [y];have HF:=Aa A;obtain ⟨E,G⟩:=nm C.length;rw [<-G] at HL ⊢;have HN:=Aa G;have B:=bA w (ze #[I O Q,I O a,I O n,.string x,zc ao E c] 49);clear S ih y A G;show Ro 139 #[zg #[I O Q,I O a,I O n,.string x,zc ao E c],I O L] w _;go_enter Tryz.func139,Tryz.ntmps139;go_wp2_with fail;go_loopw [1,12] (fun c i wr=>∃ (j:Nat) (t:Int),j<=E/\i=I O j/\c=I O t/\-1<=t/\t<=15/\(C.drop j).foldl (fun l a=>if l < 0 then l else plK k a l) t=fin/\Ov w wr) (fun _ i _=>E - (intOf i).toNat)
  case atStart=>exact ⟨0,L - 1,Nat.zero_le _,rfl,by go_num,by omega,by omega,HF.o.symm,B⟩
  case round=>
   clear B;obtain ⟨j,t,hj,rfl,rfl,t1,t2,v,g⟩:=hrel;by_cases hjl:j < E
   ·have u:j < C.length:=by have:=HN.o;omega
    obtain ⟨b,H,rfl,cs,J,f,hr⟩:=HC.o.at u;rw [D3 u] at v;by_cases ht0:t < 0
    ·rw [if_pos ht0,Ju k _ _ ht0] at v
     obtain ⟨k0,k1,k2,k3,q,q1,q2,rfl⟩:=hr.cells;have c0:wr.cell? ⟨b,H+j*5,none⟩=_:=ce1 g (f 0 _ rfl);have c1:=ce1 g (f 1 _ rfl);have c2:=ce1 g (f 2 _ rfl);have Z:=ce1 g (f 3 _ rfl);have Y:=ce1 g (f 4 _ rfl);have N:=Aa v;have P:=Aa g;clear f J hr v g u;have R:(j:Int) < (E:Int):=by omega
     go_wp2_with fail;go_ret;exact ⟨by rw [N.o];rfl,Ac P.o (bA _ _)⟩
    ·rw [if_neg ht0] at v
     have V:=Kr k C[j] t (by omega);obtain ⟨W,K⟩:=nm C[j];rw [<-K] at v V hr;obtain ⟨r,F⟩:=nm (plK k W t);have KC:Hx (∀ X,Ov wr X->Ro 139 #[.agg cs.toArray,I O t] X (I O r)):=fun X hX=>by rw [F];exact IH.o cs W X t ((hr.over g).over hX) (by omega) (by omega)
     obtain ⟨k0,k1,k2,k3,q,q1,q2,rfl⟩:=hr.cells;have c0:wr.cell? ⟨b,H+j*5,none⟩=_:=ce1 g (f 0 _ rfl);have c1:=ce1 g (f 1 _ rfl);have c2:=ce1 g (f 2 _ rfl);have Z:=ce1 g (f 3 _ rfl);have Y:=ce1 g (f 4 _ rfl);rw [<-F] at v V;have N:=Aa v;have P:=Aa g;have R:(j:Int) < (E:Int):=by omega
     clear f J hr v g u F K;go_wp2_with fail;refine (KC.o _ (bA _ _)).mono ?_;rintro e w1 ⟨rfl,M⟩;have T:Hx (Ov w w1):=Ac P.o (Ac (bA _ _) M);clear M c0 c1 c2 Z Y KC;go_wp2_with fail;exact ⟨⟨j+1,r,by omega,by go_num,rfl,by omega,by omega,N.o,T.o⟩,by simp [intOf];omega⟩
   ·have U:C.drop j=[]:=List.drop_eq_nil_of_le (by have:=HN.o;omega)
    rw [U] at v;have N:=Aa v;have P:=Aa g;clear v g U;go_wp2_with fail;go_ret;exact ⟨by rw [<-N.o];rfl,P.o⟩
theorem L7 {α:Type} (p:α->Bool) (l:List α):(!l.all fun x=>!p x)=l.any p:=by
 induction l with
 | nil=>rfl
 | cons a l ih=>rw [List.all_cons,List.any_cons,<-ih];cases p a <;> simp
theorem FH (k:Nat) (cs:List Value) (d:D) (w:World) (h:ZE w k cs d):Ro 104 #[.agg cs.toArray] w (zd (Bn k d)):=by
 obtain ⟨r,hr⟩:=nm (plK k d 15);have c:Hx (∀ X,Ov w X->Ro 139 #[.agg cs.toArray,I O 15] X (I O r)):=fun X g=>by rw [hr];exact Jv k cs d X 15 (h.over g) (by omega) (by omega)
 obtain ⟨u,n,l,j,q,q1,i,rfl⟩:=h.cells;unfold Bn;rw [<-hr];clear h hr;go_enter Tryz.func104,Tryz.ntmps104;go_wp2_with fail;refine (c.o _ (bA _ _)).mono ?_;rintro e f ⟨rfl,a⟩;have b:Hx (Ov w f):=Ac (bA _ _) a;clear a c;go_wp2_with fail;go_ret;exact ⟨rfl,b.o⟩
theorem Mw (k:Nat) (cs:List Value) (d:D) (w:World) (h:ZE w k cs d):Ro 140 #[.agg cs.toArray] w (zd (!Bn k d)):=by
 obtain ⟨r,hr⟩:=nm (Bn k d);have c:Hx (∀ X,Ov w X->Ro 104 #[.agg cs.toArray] X (zd r)):=fun X g=>by rw [hr];exact FH k cs d X (h.over g)
 obtain ⟨u,n,l,j,q,q1,i,rfl⟩:=h.cells;rw [<-hr];clear h hr;go_enter Tryz.func140,Tryz.ntmps140;go_wp2_with fail;refine (c.o _ (bA _ _)).mono ?_;rintro e f ⟨rfl,a⟩;have b:Hx (Ov w f):=Ac (bA _ _) a;clear a c;go_wp2_with fail;go_ret;exact ⟨rfl,b.o⟩
theorem Lv {k:Nat} (F:FuncId) (hC:∀ (args:Array Value) (w:World),(callFunc F args).run Tryz.prog w=.ok (.enter F args) w) (p:D->Bool) (l:List D) (ao:Option Addr) (cap:Nat) (w:World) (hp:∀ (cs:List Value) (d:D) (X:World),d∈l->ZE X k cs d->Ro F #[.agg cs.toArray] X (zd (p d))) (hc:LS 5 (ZE w k) w (zc ao l.length cap) l) :
  Ro 111 #[zc ao l.length cap,.func (.func F) #[] #[]] w (zd (l.all p)):=by
 have HC:=Aa hc;have G:=Aa hp;have HL:=hc.max;obtain ⟨fin,g⟩:=nm (l.all p);rw [<-g];have HF:=Aa g;obtain ⟨B,v⟩:=nm l.length;rw [<-v] at HL ⊢;have N:=Aa v;clear hc hp g v;go_enter Tryz.func111,Tryz.ntmps111;go_wp2_with fail;go_loopw [9] (fun i wr=>∃ (j:Nat),j<=B/\i=I O j/\(l.drop j).all p=fin/\Ov w wr) (fun i _=>B - (intOf i).toNat)
 case atStart=>exact ⟨0,Nat.zero_le _,rfl,HF.o.symm,Below.refl _ _⟩
 case round=>
  obtain ⟨j,hj,rfl,hp,n⟩:=hrel;by_cases hjl:j < B
  ·have a:j < l.length:=by have:=N.o;omega
   obtain ⟨b,C,rfl,cs,E,c,hr⟩:=HC.o.at a;rw [List.drop_eq_getElem_cons a,List.all_cons] at hp;have f:=List.getElem_mem a;obtain ⟨L,x⟩:=nm l[j];rw [<-x] at hp hr f;obtain ⟨J,u⟩:=nm (p L);rw [<-u] at hp;have M:Hx (∀ X,Ov wr X->Ro F #[.agg cs.toArray] X (zd J)):=fun X R=>by rw [u];exact G.o cs L X f ((hr.over n).over R)
   obtain ⟨c0,c1,c2,c3,aa,Y,Z,rfl⟩:=hr.cells;have W:wr.cell? ⟨b,C+j*5,none⟩=_:=ce1 n (c 0 _ rfl);have V:=ce1 n (c 1 _ rfl);have U:=ce1 n (c 2 _ rfl);have T:=ce1 n (c 3 _ rfl);have S:=ce1 n (c 4 _ rfl);have r:=Aa hp;have H:=Aa n;have Q:(j:Int) < (B:Int):=by omega
   clear c E hr hp n a u x f;go_wp2_with fail;refine (M.o _ (bA _ _)).mono ?_;rintro e P ⟨rfl,y⟩;have A:Hx (Ov w P):=Ac H.o (Ac (bA _ _) y);clear y W V U T S M
   cases J with
   | true=>
    have hp:=r.o;rw [Bool.true_and] at hp;replace r:=Aa hp;clear hp;go_wp2_with fail;exact ⟨⟨j+1,by omega,by go_num,r.o,A.o⟩,by simp [intOf];omega⟩
   | false=>
    have hp:=r.o;rw [Bool.false_and] at hp;replace r:=Aa hp;clear hp;go_wp2_with fail;go_ret;exact ⟨by rw [<-r.o];rfl,A.o⟩
  ·have K:l.drop j=[]:=List.drop_eq_nil_of_le (by have:=N.o;omega)
   rw [K] at hp;have r:=Aa hp;have H:=Aa n;clear hp n K;go_wp2_with fail;go_ret;exact ⟨by rw [<-r.o];rfl,H.o⟩
theorem Lw {ke k:Nat} (F:FuncId) (hC:∀ (args:Array Value) (w:World),(callFunc F args).run Tryz.prog w=.ok (.enter F args) w) (p:D->Bool) (l:List D) (ao:Option Addr) (cap:Nat) (w:World) (hp:∀ (cs:List Value) (d:D) (X:World),d∈l->ZC X ke k cs d->Ro F #[.agg cs.toArray] X (zd (p d))) (hc:LS 12 (ZC w ke k) w (zc ao l.length cap) l) :
  Ro 35 #[zc ao l.length cap,.func (.func F) #[] #[]] w (zd (l.all p)):=by
 have HC:=Aa hc;have J:=Aa hp;have HL:=hc.max;obtain ⟨fin,n⟩:=nm (l.all p);rw [<-n];have HF:=Aa n;obtain ⟨B,v⟩:=nm l.length;rw [<-v] at HL ⊢;have W:=Aa v;clear hc hp n v;go_enter Tryz.func35,Tryz.ntmps35;go_wp2_with fail;go_loopw [9] (fun i wr=>∃ (j:Nat),j<=B/\i=I O j/\(l.drop j).all p=fin/\Ov w wr) (fun i _=>B - (intOf i).toNat)
 case atStart=>exact ⟨0,Nat.zero_le _,rfl,HF.o.symm,Below.refl _ _⟩
 case round=>
  obtain ⟨j,hj,rfl,hp,c⟩:=hrel;by_cases hjl:j < B
  ·have f:j < l.length:=by have:=W.o;omega
   obtain ⟨b,C,rfl,cs,E,a,hr⟩:=HC.o.at f;rw [List.drop_eq_getElem_cons f,List.all_cons] at hp;have g:=List.getElem_mem f;obtain ⟨N,x⟩:=nm l[j];rw [<-x] at hp hr g;obtain ⟨L,u⟩:=nm (p N);rw [<-u] at hp;have V:Hx (∀ X,Ov wr X->Ro F #[.agg cs.toArray] X (zd L)):=fun X hX=>by rw [u];exact J.o cs N X g ((hr.over c).over hX)
   obtain ⟨c0,c1,c2,c3,c4,c5,c6,c7,ar,ap,aq,an,al,am,U,S,T,R,P,Q,rfl⟩:=hr.cells;have d0:wr.cell? ⟨b,C+j*12,none⟩=_:=ce1 c (a 0 _ rfl);have d1:=ce1 c (a 1 _ rfl);have d2:=ce1 c (a 2 _ rfl);have d3:=ce1 c (a 3 _ rfl);have d4:=ce1 c (a 4 _ rfl);have d5:=ce1 c (a 5 _ rfl);have d6:=ce1 c (a 6 _ rfl);have d7:=ce1 c (a 7 _ rfl);have d8:=ce1 c (a 8 _ rfl);have d9:=ce1 c (a 9 _ rfl);have H:=ce1 c (a 10 _ rfl);have G:=ce1 c (a 11 _ rfl);have r:=Aa hp;have K:=Aa c;have Z:(j:Int) < (B:Int):=by omega
   clear a E hr hp c f u x g;go_wp2_with fail;refine (V.o _ (bA _ _)).mono ?_;rintro e Y ⟨rfl,y⟩;have A:Hx (Ov w Y):=Ac K.o (Ac (bA _ _) y);clear y d0 d1 d2 d3 d4 d5 d6 d7 d8 d9 H G V
   cases L with
   | true=>
    have hp:=r.o;rw [Bool.true_and] at hp;replace r:=Aa hp;clear hp;go_wp2_with fail;exact ⟨⟨j+1,by omega,by go_num,r.o,A.o⟩,by simp [intOf];omega⟩
   | false=>
    have hp:=r.o;rw [Bool.false_and] at hp;replace r:=Aa hp;clear hp;go_wp2_with fail;go_ret;exact ⟨by rw [<-r.o];rfl,A.o⟩
  ·have M:l.drop j=[]:=List.drop_eq_nil_of_le (by have:=W.o;omega)
   rw [M] at hp;have r:=Aa hp;have K:=Aa c;clear hp c M;go_wp2_with fail;go_ret;exact ⟨by rw [<-r.o];rfl,K.o⟩
theorem Ok  (F:FuncId) (hC:∀ (args:Array Value) (w:World),(callFunc F args).run Tryz.prog w=.ok (.enter F args) w) (p:D->Bool) (l:List D) (ao:Option Addr) (cap:Nat) (w:World) (hp:∀ (cs:List Value) (d:D) (X:World),d∈l->ZP X cs d->Ro F #[.agg cs.toArray] X (zd (p d))) (hc:LS 4 (ZP w) w (zc ao l.length cap) l) :
  Ro 105 #[zc ao l.length cap,.func (.func F) #[] #[]] w (zd (l.all p)):=by
 have HC:=Aa hc;have G:=Aa hp;have HL:=hc.max;obtain ⟨fin,f⟩:=nm (l.all p);rw [<-f];have HF:=Aa f;obtain ⟨B,v⟩:=nm l.length;rw [<-v] at HL ⊢;have N:=Aa v;clear hc hp f v;go_enter Tryz.func105,Tryz.ntmps105;go_wp2_with fail;go_loopw [9] (fun i wr=>∃ (j:Nat),j<=B/\i=I O j/\(l.drop j).all p=fin/\Ov w wr) (fun i _=>B - (intOf i).toNat)
 case atStart=>exact ⟨0,Nat.zero_le _,rfl,HF.o.symm,Below.refl _ _⟩
 case round=>
  obtain ⟨j,hj,rfl,hp,n⟩:=hrel;by_cases hjl:j < B
  ·have a:j < l.length:=by have:=N.o;omega
   obtain ⟨b,C,rfl,cs,E,g,hr⟩:=HC.o.at a;rw [List.drop_eq_getElem_cons a,List.all_cons] at hp;have c:=List.getElem_mem a;obtain ⟨L,x⟩:=nm l[j];rw [<-x] at hp hr c;obtain ⟨J,u⟩:=nm (p L);rw [<-u] at hp;have M:Hx (∀ X,Ov wr X->Ro F #[.agg cs.toArray] X (zd J)):=fun X R=>by rw [u];exact G.o cs L X c ((hr.over n).over R)
   obtain ⟨c0,c1,c2,Z,W,Y,rfl⟩:=hr.cells;have V:wr.cell? ⟨b,C+j*4,none⟩=_:=ce1 n (g 0 _ rfl);have U:=ce1 n (g 1 _ rfl);have T:=ce1 n (g 2 _ rfl);have S:=ce1 n (g 3 _ rfl);have r:=Aa hp;have H:=Aa n;have Q:(j:Int) < (B:Int):=by omega
   clear g E hr hp n a u x c;go_wp2_with fail;refine (M.o _ (bA _ _)).mono ?_;rintro e P ⟨rfl,y⟩;have A:Hx (Ov w P):=Ac H.o (Ac (bA _ _) y);clear y V U T S M
   cases J with
   | true=>
    have hp:=r.o;rw [Bool.true_and] at hp;replace r:=Aa hp;clear hp;go_wp2_with fail;exact ⟨⟨j+1,by omega,by go_num,r.o,A.o⟩,by simp [intOf];omega⟩
   | false=>
    have hp:=r.o;rw [Bool.false_and] at hp;replace r:=Aa hp;clear hp;go_wp2_with fail;go_ret;exact ⟨by rw [<-r.o];rfl,A.o⟩
  ·have K:l.drop j=[]:=List.drop_eq_nil_of_le (by have:=N.o;omega)
   rw [K] at hp;have r:=Aa hp;have H:=Aa n;clear hp n K;go_wp2_with fail;go_ret;exact ⟨by rw [<-r.o];rfl,H.o⟩
theorem QI {ke k:Nat} (F:FuncId) (hC:∀ (args:Array Value) (w:World),(callFunc F args).run Tryz.prog w=.ok (.enter F args) w) (p:D->Bool) (l:List D) (ao:Option Addr) (cap:Nat) (w:World) (hp:∀ (cs:List Value) (d:D) (X:World),d∈l->ZD X ke k cs d->Ro F #[.agg cs.toArray] X (zd (p d))) (hc:LS 13 (ZD w ke k) w (zc ao l.length cap) l) :
  Ro 33 #[zc ao l.length cap,.func (.func F) #[] #[]] w (zd (l.all p)):=by
 have HC:=Aa hc;have K:=Aa hp;have HL:=hc.max;obtain ⟨fin,n⟩:=nm (l.all p);rw [<-n];have HF:=Aa n;obtain ⟨B,v⟩:=nm l.length;rw [<-v] at HL ⊢;have U:=Aa v;clear hc hp n v;go_enter Tryz.func33,Tryz.ntmps33;go_wp2_with fail;go_loopw [9] (fun i wr=>∃ (j:Nat),j<=B/\i=I O j/\(l.drop j).all p=fin/\Ov w wr) (fun i _=>B - (intOf i).toNat)
 case atStart=>exact ⟨0,Nat.zero_le _,rfl,HF.o.symm,Below.refl _ _⟩
 case round=>
  obtain ⟨j,hj,rfl,hp,c⟩:=hrel;by_cases hjl:j < B
  ·have f:j < l.length:=by have:=U.o;omega
   obtain ⟨b,C,rfl,cs,E,a,hr⟩:=HC.o.at f;rw [List.drop_eq_getElem_cons f,List.all_cons] at hp;have g:=List.getElem_mem f;obtain ⟨P,x⟩:=nm l[j];rw [<-x] at hp hr g;obtain ⟨M,u⟩:=nm (p P);rw [<-u] at hp;have T:Hx (∀ X,Ov wr X->Ro F #[.agg cs.toArray] X (zd M)):=fun X Y=>by rw [u];exact K.o cs P X g ((hr.over c).over Y)
   obtain ⟨c0,c1,c2,c3,c4,au,aq,ar,ap,am,an,al,aj,ak,c8,c9,aw,av,S,Q,R,rfl⟩:=hr.cells;have d0:wr.cell? ⟨b,C+j*13,none⟩=_:=ce1 c (a 0 _ rfl);have d1:=ce1 c (a 1 _ rfl);have d2:=ce1 c (a 2 _ rfl);have d3:=ce1 c (a 3 _ rfl);have d4:=ce1 c (a 4 _ rfl);have d5:=ce1 c (a 5 _ rfl);have d6:=ce1 c (a 6 _ rfl);have d7:=ce1 c (a 7 _ rfl);have d8:=ce1 c (a 8 _ rfl);have Z:=ce1 c (a 9 _ rfl);have J:=ce1 c (a 10 _ rfl);have H:=ce1 c (a 11 _ rfl);have G:=ce1 c (a 12 _ rfl);have r:=Aa hp;have L:=Aa c;have W:(j:Int) < (B:Int):=by omega
   clear a E hr hp c f u x g;go_wp2_with fail;refine (T.o _ (bA _ _)).mono ?_;rintro e V ⟨rfl,y⟩;have A:Hx (Ov w V):=Ac L.o (Ac (bA _ _) y);clear y d0 d1 d2 d3 d4 d5 d6 d7 d8 Z J H G T
   cases M with
   | true=>
    have hp:=r.o;rw [Bool.true_and] at hp;replace r:=Aa hp;clear hp;go_wp2_with fail;exact ⟨⟨j+1,by omega,by go_num,r.o,A.o⟩,by simp [intOf];omega⟩
   | false=>
    have hp:=r.o;rw [Bool.false_and] at hp;replace r:=Aa hp;clear hp;go_wp2_with fail;go_ret;exact ⟨by rw [<-r.o];rfl,A.o⟩
  ·have N:l.drop j=[]:=List.drop_eq_nil_of_le (by have:=U.o;omega)
   rw [N] at hp;have r:=Aa hp;have L:=Aa c;clear hp c N;go_wp2_with fail;go_ret;exact ⟨by rw [<-r.o];rfl,L.o⟩
theorem Ol  (F:FuncId) (hC:∀ (args:Array Value) (w:World),(callFunc F args).run Tryz.prog w=.ok (.enter F args) w) (p:ByteArray->Bool) (l:List ByteArray) (ao:Option Addr) (cap:Nat) (w:World) (hp:∀ (x:ByteArray) (X:World),x.size<=maxLen->Ro F #[.string x] X (zd (p x))) (hc:LS 1 ZN w (zc ao l.length cap) l) :
  Ro 110 #[zc ao l.length cap,.func (.func F) #[] #[]] w (zd (l.all p)):=by
 have V:=Aa hc;have J:=Aa hp;have T:=hc.max;obtain ⟨fin,c⟩:=nm (l.all p);rw [<-c];have U:=Aa c;obtain ⟨C,r⟩:=nm l.length;rw [<-r] at T ⊢;have P:=Aa r;clear hc hp c r;go_enter Tryz.func110,Tryz.ntmps110;go_wp2_with fail;go_loopw [9] (fun i wr=>∃ (j:Nat),j<=C/\i=I O j/\(l.drop j).all p=fin/\Ov w wr) (fun i _=>C - (intOf i).toNat)
 case atStart=>exact ⟨0,Nat.zero_le _,rfl,U.o.symm,Below.refl _ _⟩
 case round=>
  obtain ⟨j,W,rfl,hp,A⟩:=hrel;by_cases hjl:j < C
  ·have a:j < l.length:=by have:=P.o;omega
   obtain ⟨b,G,rfl,Z,H,u,hr⟩:=V.o.at a;rw [List.drop_eq_getElem_cons a,List.all_cons] at hp;have f:=List.getElem_mem a;obtain ⟨E,v⟩:=nm l[j];rw [<-v] at hp hr f;obtain ⟨L,n⟩:=nm (p E);rw [<-n] at hp;have N:Hx (∀ X,Ov wr X->Ro F #[.string E] X (zd L)):=fun X Y=>by rw [n];exact J.o E X hr.2
   rw [hr.1] at u;have S:wr.cell? ⟨b,G+j,none⟩=some (.string E):=ce1 A (by have:=u 0 _ rfl;simpa using this);have g:=Aa hp;have K:=Aa A;have R:(j:Int) < (C:Int):=by omega
   clear u H hr hp A a n v f;go_wp2_with fail;refine (N.o _ (Below.refl _ _)).mono ?_;rintro e Q ⟨rfl,y⟩;have B:Hx (Ov w Q):=Ac K.o y;clear y S N
   cases L with
   | true=>
    have hp:=g.o;rw [Bool.true_and] at hp;replace g:=Aa hp;clear hp;go_wp2_with fail;exact ⟨⟨j+1,by omega,by go_num,g.o,B.o⟩,by simp [intOf];omega⟩
   | false=>
    have hp:=g.o;rw [Bool.false_and] at hp;replace g:=Aa hp;clear hp;go_wp2_with fail;go_ret;exact ⟨by rw [<-g.o];rfl,B.o⟩
  ·have M:l.drop j=[]:=List.drop_eq_nil_of_le (by have:=P.o;omega)
   rw [M] at hp;have g:=Aa hp;have K:=Aa A;clear hp A M;go_wp2_with fail;go_ret;exact ⟨by rw [<-g.o];rfl,K.o⟩
theorem G0 (x:ByteArray):(⟨x.data.toList.toArray⟩:ByteArray)=x:=by simp
theorem Rb (x:ByteArray):CZ [⟨1,0,x⟩]=if Ao ⟨1,0,x⟩=true then 0 else 1:=by
 unfold CZ;by_cases h:Ao ⟨1,0,x⟩=true
 ·have a:x.size<=6000:=CI h
  have:BS [⟨1,0,x⟩]<=6001:=by simp [BS];omega
  simp [h,this]
 ·simp [h]
theorem DQ (x:ByteArray) (w:World) (hx:x.size<=maxLen):Ro 65 #[.string x] w (zd (nmS x.data.toList)):=by
 obtain ⟨fin,a⟩:=nm (nmS x.data.toList);rw [<-a];unfold nmS at a;rw [G0] at a;obtain ⟨p,n⟩:=nm (Ao ⟨1,0,x⟩);obtain ⟨q,l⟩:=nm (Cy x);have C:Hx (fin=(p && !q)):=by show _=_;rw [a,n,l];rfl
 have A:Hx (∀ X,Ov w X->Ro 108 #[.string x] X (zd q)):=fun X _=>by rw [l];exact (GP x X).mono fun e v ⟨J,H⟩=>⟨J,H ▸ Below.refl _ _⟩
 obtain ⟨V,i⟩:=nm (w.alloc (ze #[I O 1,I O 0,.string x] 44));obtain ⟨st,c⟩:=nm (DY [⟨1,0,x⟩]);have B:Hx (Calls Tryz.prog 18 #[zc (some ⟨w.heap.size,0,none⟩) 1 1] V fun e v=>e=zh (zi #[.string st,I O (if p=true then 0 else 1)])/\Ov V v):=by
  have h:=Oq (zc (some ⟨w.heap.size,0,none⟩) 1 1) [⟨1,0,x⟩] V ⟨_,_,rfl,fun _=>⟨_,_,rfl,fun j u G=>?_⟩⟩ (by simp) (fun t y=>by simp at y;subst y;exact hx)
  ·rw [Rb,<-n,<-c] at h
   exact h
  ·rw [i,Nat.zero_add]
   exact Ax w [I O 1,I O 0,.string x] 44 j u G
 have g:Hx (Ov w V):=by show Ov _ _;rw [i];exact bA _ _
 clear a n l c hx;go_enter Tryz.func65,Tryz.ntmps65;go_wp2_with fail;rw [<-i];clear i;refine B.o.mono ?_;rintro e F ⟨rfl,f⟩;have b:Hx (Ov w F):=Ac g.o f;clear f B g
 cases p with
 | false=>
  rw [if_neg (by simp)];go_wp2_with fail;go_ret;exact ⟨by have h:=C.o;simp at h;rw [h];rfl,b.o⟩
 | true=>
  rw [if_pos rfl];go_wp2_with fail;refine (A.o _ b.o).mono ?_;rintro e E ⟨rfl,f⟩;have r:Hx (Ov w E):=Ac b.o f;clear f A;go_wp2_with fail;go_ret;exact ⟨by have h:=C.o;simp at h;rw [h];rfl,r.o⟩
theorem BE (x:ByteArray) (m:Bool) (w:World) (hx:x.size<=maxLen):Ro 66 #[.string x,zd m] w (zd (nfS x.data.toList m)):=by
 obtain ⟨fin,a⟩:=nm (nfS x.data.toList m);rw [<-a]
 cases m with
 | true=>
  have g:Hx (Ro 65 #[.string x] w (zd fin)):=by rw [a];exact DQ x w hx
  clear a hx;go_enter Tryz.func66,Tryz.ntmps66;go_wp2_with fail;refine g.o.mono ?_;rintro e j ⟨rfl,f⟩;have c:=Aa f;clear f g;go_wp2_with fail;go_ret;exact ⟨rfl,c.o⟩
 | false=>
  by_cases h0:x.data.toList=[]
  ·obtain rfl:=Au h0
   have b:=Aa a;clear a hx h0;go_enter Tryz.func66,Tryz.ntmps66;go_wp2_with fail;go_ret;exact ⟨by rw [b.o];rfl,Below.refl _ _⟩
  ·have i:=AA h0
   have b:Hx (fin=false):=by show _=_;rw [a];unfold nfS;simpa using h0
   clear a hx h0;go_enter Tryz.func66,Tryz.ntmps66;go_wp2_with fail;go_ret;exact ⟨by rw [b.o];rfl,Below.refl _ _⟩
theorem Pd (ke k:Nat) (cs:List Value) (d:D) (w:World) (h:ZC w ke k cs d):Ro 107 #[.agg cs.toArray] w (zd (B7 ke d)):=by
 cases k with
 | zero=>exact h.elim
 | succ k=>
  obtain ⟨K,a,x,y,Q,P,N,M,q,q1,J,e,G,F,b,W,U,H,Y,V,L,rfl,rfl,-,-,he,hA,-,-⟩:=h;obtain ⟨fin,c⟩:=nm (B7 ke (stD K a x y e b H L));rw [<-c];unfold B7 at c;simp only [gSs] at c;obtain ⟨ql,R⟩:=nm (Bn ke e);obtain ⟨qa,S⟩:=nm (b.all fun x=>!Bn ke x);rw [<-L7,<-R,<-S] at c;have HF:=Aa c;have KL:Hx (∀ X,Ov w X->Ro 104 #[zg #[I O Q,I O P,I O N,.string M,zc q q1 J]] X (zd ql)):=fun X hX=>by rw [R];exact FH ke _ e X (he.over hX)
  have KA:Hx (∀ X,Ov w X->Ro 111 #[zc G b.length F,.func (.func 140) #[] #[]] X (zd qa)):=fun X hX=>by rw [S];exact Lv 140 (fun b w=>by simp [go_sem]) (fun x=>!Bn ke x) b G F X (fun cs d X _ h=>Mw ke cs d X h) (C2 hX hA)
  have an:=hA.max;clear c R S he hA;show Ro 107 #[zg #[I O K,I O a,.string x,.string y,I O Q,I O P,I O N,.string M,zc q q1 J,zc G b.length F,zc W H.length U,zc Y L.length V]] w _;go_enter Tryz.func107,Tryz.ntmps107;by_cases h4:4 < b.length
  ·have hi:(4:Int) < (b.length:Int):=by omega
   go_wp2_with fail;go_ret;exact ⟨by have h:=HF.o;simp [h4] at h;rw [h];rfl,bA w (ze #[I O K,I O a,.string x,.string y,I O Q,I O P,I O N,.string M,zc q q1 J,zc G b.length F,zc W H.length U,zc Y L.length V] 55)⟩
  ·have hi:¬ (4:Int) < (b.length:Int):=by omega
   go_wp2_with fail;refine (KL.o _ (bA w (ze #[I O K,I O a,.string x,.string y,I O Q,I O P,I O N,.string M,zc q q1 J,zc G b.length F,zc W H.length U,zc Y L.length V] 55))).mono ?_;rintro e w1 ⟨rfl,T⟩;have aa:Hx (Ov w w1):=Ac (bA w (ze #[I O K,I O a,.string x,.string y,I O Q,I O P,I O N,.string M,zc q q1 J,zc G b.length F,zc W H.length U,zc Y L.length V] 55)) T;have i:Hx (Af [I O K,I O a,.string x,.string y,I O Q,I O P,I O N,.string M,zc q q1 J,zc G b.length F,zc W H.length U,zc Y L.length V] w1 w.heap.size):=Af.over (Ax w [I O K,I O a,.string x,.string y,I O Q,I O P,I O N,.string M,zc q q1 J,zc G b.length F,zc W H.length U,zc Y L.length V] 55) T;clear T  KL
   cases ql with
   | true=>
    obtain ⟨E,C,B,A,v,u,r,n,l,j,g,f⟩:=AU i.o;go_wp2_with fail;go_ret;exact ⟨by have h:=HF.o;simp [h4] at h;rw [h];rfl,aa.o⟩
   | false=>
    obtain ⟨E,C,B,A,v,u,r,n,l,j,g,f⟩:=AU i.o;go_wp2_with fail;refine (KA.o _ aa.o).mono ?_;rintro e w2 ⟨rfl,T⟩;have ae:Hx (Ov w w2):=Ac aa.o T;have Z:Hx (Af [I O K,I O a,.string x,.string y,I O Q,I O P,I O N,.string M,zc q q1 J,zc G b.length F,zc W H.length U,zc Y L.length V] w2 w.heap.size):=i.o.over T;clear T E C B A v u r n l j g f KA;obtain ⟨E,C,B,A,v,u,r,n,l,j,g,f⟩:=AU Z.o;go_wp2_with fail;go_ret;exact ⟨by have h:=HF.o;simp [h4] at h;rw [h];rfl,ae.o⟩
theorem Qk (cs:List Value) (d:D) (w:World) (h:ZP w cs d):Ro 106 #[.agg cs.toArray] w (zd (!decide (6 < (gL 3 d).length))):=by
 obtain ⟨a,o,wr,g,f,c,rfl,rfl,-,i⟩:=h;obtain ⟨fin,b⟩:=nm (!decide (6 < (gL 3 (Dv a o wr c)).length));rw [<-b];simp only [gPp,List.length_map] at b;have j:=Aa b;have n:=i.max;clear b i;show Ro 106 #[zg #[I O a,.string o,zd wr,zc g c.length f]] w _;go_enter Tryz.func106,Tryz.ntmps106;by_cases h6:6 < c.length
 ·have l:¬ (c.length:Int)<=6:=by omega
  go_wp2_with fail;go_ret;exact ⟨by have h:=j.o;simp [h6] at h;rw [h];(first | rfl | (simp;done) | (simp;assumption) | (simp;omega)),bA w (ze #[I O a,.string o,zd wr,zc g c.length f] 53)⟩
 ·have l:(c.length:Int)<=6:=by omega
  go_wp2_with fail;go_ret;exact ⟨by have h:=j.o;simp [h6] at h;rw [h];(first | rfl | (simp;done) | (simp;assumption) | (simp;omega)),bA w (ze #[I O a,.string o,zd wr,zc g c.length f] 53)⟩
theorem Pe (ke kc:Nat) (cs:List Value) (d:D) (w:World) (h:ZD w ke kc cs d):Ro 63 #[.agg cs.toArray] w (zd (BH ke d)):=by
 obtain ⟨N,a,x,y,P,L,K,j,W,U,n,Y,V,b,T,S,R,Q,q,q1,M,r,rfl,rfl,-,-,hL,hP,-,hR⟩:=h;obtain ⟨fin,c⟩:=nm (BH ke (deD N a x y P j n b r));rw [<-c];unfold BH at c;simp only [gDd,List.length_map] at c;obtain ⟨ql,Z⟩:=nm (Bn ke r);obtain ⟨qa,aa⟩:=nm (j.all fun p=>!decide (6 < (gL 3 p).length));rw [<-L7,<-Z,<-aa] at c;have HF:=Aa c;have KL:Hx (∀ X,Ov w X->Ro 104 #[zg #[I O T,I O S,I O R,.string Q,zc q q1 M]] X (zd ql)):=fun X hX=>by rw [Z];exact FH ke _ r X (hR.over hX)
 have KA:Hx (∀ X,Ov w X->Ro 105 #[zc L j.length K,.func (.func 106) #[] #[]] X (zd qa)):=fun X hX=>by rw [aa];exact Ok 106 (fun ao w=>by simp [go_sem]) (fun p=>!decide (6 < (gL 3 p).length)) j L K X (fun cs d X _ h=>Qk cs d X h) (DP hX hL)
 have aw:=hL.max;have av:=hP.max;clear c Z aa hL hP hR;show Ro 63 #[zg #[I O N,I O a,.string x,.string y,zd P,zc L j.length K,zc W n.length U,zc Y b.length V,I O T,I O S,I O R,.string Q,zc q q1 M]] w _;go_enter Tryz.func63,Tryz.ntmps63;by_cases h4:4 < j.length
 ·have hi:(4:Int) < (j.length:Int):=by omega
  go_wp2_with fail;go_ret;exact ⟨by have h:=HF.o;simp [h4] at h;rw [h];rfl,bA w (ze #[I O N,I O a,.string x,.string y,zd P,zc L j.length K,zc W n.length U,zc Y b.length V,I O T,I O S,I O R,.string Q,zc q q1 M] 51)⟩
 ·have hi:¬ (4:Int) < (j.length:Int):=by omega
  by_cases h5:4 < n.length
  ·have af:(4:Int) < (n.length:Int):=by omega
   go_wp2_with fail;go_ret;exact ⟨by have h:=HF.o;simp [h4,h5] at h;rw [h];rfl,bA w (ze #[I O N,I O a,.string x,.string y,zd P,zc L j.length K,zc W n.length U,zc Y b.length V,I O T,I O S,I O R,.string Q,zc q q1 M] 51)⟩
  ·have af:¬ (4:Int) < (n.length:Int):=by omega
   go_wp2_with fail;refine (KL.o _ (bA w (ze #[I O N,I O a,.string x,.string y,zd P,zc L j.length K,zc W n.length U,zc Y b.length V,I O T,I O S,I O R,.string Q,zc q q1 M] 51))).mono ?_;rintro e w1 ⟨rfl,hb⟩;have ad:Hx (Ov w w1):=Ac (bA w (ze #[I O N,I O a,.string x,.string y,zd P,zc L j.length K,zc W n.length U,zc Y b.length V,I O T,I O S,I O R,.string Q,zc q q1 M] 51)) hb;have l:Hx (Af [I O N,I O a,.string x,.string y,zd P,zc L j.length K,zc W n.length U,zc Y b.length V,I O T,I O S,I O R,.string Q,zc q q1 M] w1 w.heap.size):=Af.over (Ax w [I O N,I O a,.string x,.string y,zd P,zc L j.length K,zc W n.length U,zc Y b.length V,I O T,I O S,I O R,.string Q,zc q q1 M] 51) hb;clear hb  KL
   cases ql with
   | true=>
    obtain ⟨J,H,G,F,E,C,B,A,v,u,i,g,f⟩:=AI l.o;go_wp2_with fail;go_ret;exact ⟨by have h:=HF.o;simp [h4,h5] at h;rw [h];rfl,ad.o⟩
   | false=>
    obtain ⟨J,H,G,F,E,C,B,A,v,u,i,g,f⟩:=AI l.o;go_wp2_with fail;refine (KA.o _ ad.o).mono ?_;rintro e w2 ⟨rfl,hb⟩;have ai:Hx (Ov w w2):=Ac ad.o hb;have ac:Hx (Af [I O N,I O a,.string x,.string y,zd P,zc L j.length K,zc W n.length U,zc Y b.length V,I O T,I O S,I O R,.string Q,zc q q1 M] w2 w.heap.size):=l.o.over hb;clear hb J H G F E C B A v u i g f KA;obtain ⟨J,H,G,F,E,C,B,A,v,u,i,g,f⟩:=AI ac.o;go_wp2_with fail;go_ret;exact ⟨by have h:=HF.o;simp [h4,h5] at h;rw [h];rfl,ai.o⟩
theorem ND (k:Nat) (cs:List Value) (d:D) (w:World) (h:ZE w k cs d):Ro 71 #[.agg cs.toArray] w (zd (Dd d)):=by
 cases k with
 | zero=>exact h.elim
 | succ k=>
  obtain ⟨i,a,n,x,u,c,g,rfl,rfl,-,l⟩:=h;obtain ⟨fin,b⟩:=nm (Dd (eD i a n x g));rw [<-b];unfold Dd at b;simp only [gEe] at b;have A:=l.max;clear l;show Ro 71 #[zg #[I O i,I O a,I O n,.string x,zc u g.length c]] w _;by_cases h1:i=0
  ·by_cases h2:n=0
   ·by_cases h3:x.data.toList=[]
    ·have j:=Au h3
     by_cases h4:g=[]
     ·have f:Hx (fin=true):=by show _=_;rw [b,h1,h2,h3,h4];rfl
      clear b;subst h4;subst h1;subst h2;subst j;go_enter Tryz.func71,Tryz.ntmps71;go_wp2_with fail;go_ret;exact ⟨by rw [f.o];(first | rfl | (simp;done) | (simp;assumption) | (simp;omega)),bA _ _⟩
     ·have y:0 < g.length:=List.length_pos_iff.2 h4
      have v:¬ (g.length:Int)=0:=by omega
      have f:Hx (fin=false):=by show _=_;rw [b];simp [h4]
      clear b;subst h1;subst h2;subst j;go_enter Tryz.func71,Tryz.ntmps71;go_wp2_with fail;go_ret;exact ⟨by rw [f.o];(first | rfl | (simp;done) | (simp;assumption) | (simp;omega)),bA _ _⟩
    ·have r:=AA h3
     have f:Hx (fin=false):=by show _=_;rw [b,show x.data.toList.isEmpty=false by simpa using h3];simp
     clear b;subst h1;subst h2;go_enter Tryz.func71,Tryz.ntmps71;go_wp2_with fail;go_ret;exact ⟨by rw [f.o];(first | rfl | (simp;done) | (simp;assumption) | (simp;omega)),bA _ _⟩
   ·have f:Hx (fin=false):=by show _=_;rw [b];simp [h2]
    clear b;subst h1;go_enter Tryz.func71,Tryz.ntmps71;go_wp2_with fail;go_ret;exact ⟨by rw [f.o];(first | rfl | (simp;done) | (simp;assumption) | (simp;omega)),bA _ _⟩
  ·have f:Hx (fin=false):=by show _=_;rw [b];simp [h1]
   clear b;go_enter Tryz.func71,Tryz.ntmps71;go_wp2_with fail;go_ret;exact ⟨by rw [f.o];(first | rfl | (simp;done) | (simp;assumption) | (simp;omega)),bA _ _⟩
theorem Fb:∀ (k:Nat) (cs:List Value) (d:D) (w:World),ZE w k cs d->Ro 70 #[.agg cs.toArray] w (zd (efK k d)):=by
 intro k
 induction k with
 | zero=>intro cs d w h;exact h.elim
 | succ k ih=>
  intro cs d w h;obtain ⟨Q,a,n,x,E,c,T,rfl,rfl,P,V⟩:=h;obtain ⟨fin,v⟩:=nm (efK (k+1) (eD Q a n x T));rw [<-v];simp only [efK,gEe] at v;obtain ⟨M,R⟩:=nm (T.all (efK k));rw [<-R] at v;have N:Hx (∀ X,Ov w X->Ro 111 #[zc E T.length c,.func (.func 70) #[] #[]] X (zd M)):=fun X Z=>by rw [R];exact Lv 70 (fun W w=>by simp [go_sem]) (efK k) T E c X (fun cs d X _ h=>ih cs d X h) (C2 Z V)
  have HL:=V.max;clear R ih V;show Ro 70 #[zg #[I O Q,I O a,I O n,.string x,zc E T.length c]] w _;obtain ⟨y,U⟩:=nm T.length;rw [<-U] at v N HL ⊢;clear U;by_cases hlo:Q < 1
  ·have r:Hx (fin=false):=by show _=_;rw [v,decide_eq_false (show ¬ 1<=Q by omega)];simp
   clear v;go_enter Tryz.func70,Tryz.ntmps70;go_wp2_with fail;go_ret;exact ⟨by rw [r.o];(first | rfl | (simp;done) | (simp;assumption) | (simp;omega)),bA _ _⟩
  by_cases hhi:7 < Q
  ·have r:Hx (fin=false):=by show _=_;rw [v,decide_eq_false (show ¬ Q<=7 by omega)];simp
   clear v;go_enter Tryz.func70,Tryz.ntmps70;go_wp2_with fail;go_ret;exact ⟨by rw [r.o];(first | rfl | (simp;done) | (simp;assumption) | (simp;omega)),bA _ _⟩
  have Y:Q=1\/Q=2\/Q=3\/Q=4\/Q=5\/Q=6\/Q=7:=by omega
  clear hlo hhi;rcases Y with rfl | rfl | rfl | rfl | rfl | rfl | rfl
  ·obtain ⟨G,A⟩:=nm (nfS x.data.toList false)
   have F:Hx (fin=(decide ((-9999999:Int)<=n) && decide (n<=9999999) && G && decide (y=0) && M)):=by show _=_;rw [v,A];simp
   have L:Hx (∀ X,Ov w X->Ro 66 #[.string x,zd false] X (zd G)):=fun X _=>by rw [A];exact BE x false X P
   clear v A P;go_enter Tryz.func70,Tryz.ntmps70;by_cases h1:(-9999999:Int)<=n
   ·by_cases h2:n<=9999999
    ·go_wp2_with fail
     refine (L.o _ (bA w (ze #[I O 1,I O a,I O n,.string x,zc E y c] 49))).mono ?_;rintro e K ⟨rfl,B⟩;have u:Hx (Ov w K):=Ac (bA w (ze #[I O 1,I O a,I O n,.string x,zc E y c] 49)) B;have b:Hx (Af [I O 1,I O a,I O n,.string x,zc E y c] K w.heap.size):=Af.over (Ax w [I O 1,I O a,I O n,.string x,zc E y c] 49) B;clear B  L
     cases G with
     | true=>
      by_cases h3:y=0
      ·subst h3
       obtain ⟨l,j,i,g,f⟩:=rc5 b.o;go_wp2_with fail;refine (N.o _ u.o).mono ?_;rintro e J ⟨rfl,B⟩;have H:Hx (Ov w J):=Ac u.o B;have C:Hx (Af [I O 1,I O a,I O n,.string x,zc E 0 c] J w.heap.size):=b.o.over B;clear B l j i g f N;have r:Hx (fin=M):=by have h:=F.o;simp [h1,h2] at h;exact h
       obtain ⟨l,j,i,g,f⟩:=rc5 C.o;go_wp2_with fail;go_ret;exact ⟨by rw [r.o];(first | rfl | (simp;done) | (simp;assumption) | (simp;omega)),H.o⟩
      ·have S:¬ (y:Int)=0:=by omega
       have r:Hx (fin=false):=by have h:=F.o;simp [h3] at h;exact h
       obtain ⟨l,j,i,g,f⟩:=rc5 b.o;go_wp2_with fail;go_ret;exact ⟨by rw [r.o];(first | rfl | (simp;done) | (simp;assumption) | (simp;omega)),u.o⟩
     | false=>
      have r:Hx (fin=false):=by have h:=F.o;simp at h;exact h
      obtain ⟨l,j,i,g,f⟩:=rc5 b.o;go_wp2_with fail;go_ret;exact ⟨by rw [r.o];(first | rfl | (simp;done) | (simp;assumption) | (simp;omega)),u.o⟩
    ·have r:Hx (fin=false):=by have h:=F.o;simp [h2] at h;exact h
     go_wp2_with fail;go_ret;exact ⟨by rw [r.o];(first | rfl | (simp;done) | (simp;assumption) | (simp;omega)),bA w (ze #[I O 1,I O a,I O n,.string x,zc E y c] 49)⟩
   ·have r:Hx (fin=false):=by have h:=F.o;simp [h1] at h;exact h
    go_wp2_with fail;go_ret;exact ⟨by rw [r.o];(first | rfl | (simp;done) | (simp;assumption) | (simp;omega)),bA w (ze #[I O 1,I O a,I O n,.string x,zc E y c] 49)⟩
  ·obtain ⟨G,A⟩:=nm (nfS x.data.toList true)
   have F:Hx (fin=(decide ((0:Int)<=n) && decide (n<=0) && G && decide (y=0) && M)):=by show _=_;rw [v,A];simp
   have L:Hx (∀ X,Ov w X->Ro 66 #[.string x,zd true] X (zd G)):=fun X _=>by rw [A];exact BE x true X P
   clear v A P;go_enter Tryz.func70,Tryz.ntmps70;by_cases h1:0<=n
   ·by_cases h2:n<=0
    ·go_wp2_with fail
     refine (L.o _ (bA w (ze #[I O 2,I O a,I O n,.string x,zc E y c] 49))).mono ?_;rintro e K ⟨rfl,B⟩;have u:Hx (Ov w K):=Ac (bA w (ze #[I O 2,I O a,I O n,.string x,zc E y c] 49)) B;have b:Hx (Af [I O 2,I O a,I O n,.string x,zc E y c] K w.heap.size):=Af.over (Ax w [I O 2,I O a,I O n,.string x,zc E y c] 49) B;clear B  L
     cases G with
     | true=>
      by_cases h3:y=0
      ·subst h3
       obtain ⟨l,j,i,g,f⟩:=rc5 b.o;go_wp2_with fail;refine (N.o _ u.o).mono ?_;rintro e J ⟨rfl,B⟩;have H:Hx (Ov w J):=Ac u.o B;have C:Hx (Af [I O 2,I O a,I O n,.string x,zc E 0 c] J w.heap.size):=b.o.over B;clear B l j i g f N;have r:Hx (fin=M):=by have h:=F.o;simp [h1,h2] at h;exact h
       obtain ⟨l,j,i,g,f⟩:=rc5 C.o;go_wp2_with fail;go_ret;exact ⟨by rw [r.o];(first | rfl | (simp;done) | (simp;assumption) | (simp;omega)),H.o⟩
      ·have S:¬ (y:Int)=0:=by omega
       have r:Hx (fin=false):=by have h:=F.o;simp [h3] at h;exact h
       obtain ⟨l,j,i,g,f⟩:=rc5 b.o;go_wp2_with fail;go_ret;exact ⟨by rw [r.o];(first | rfl | (simp;done) | (simp;assumption) | (simp;omega)),u.o⟩
     | false=>
      have r:Hx (fin=false):=by have h:=F.o;simp at h;exact h
      obtain ⟨l,j,i,g,f⟩:=rc5 b.o;go_wp2_with fail;go_ret;exact ⟨by rw [r.o];(first | rfl | (simp;done) | (simp;assumption) | (simp;omega)),u.o⟩
    ·have r:Hx (fin=false):=by have h:=F.o;simp [h2] at h;exact h
     go_wp2_with fail;go_ret;exact ⟨by rw [r.o];(first | rfl | (simp;done) | (simp;assumption) | (simp;omega)),bA w (ze #[I O 2,I O a,I O n,.string x,zc E y c] 49)⟩
   ·have r:Hx (fin=false):=by have h:=F.o;simp [h1] at h;exact h
    go_wp2_with fail;go_ret;exact ⟨by rw [r.o];(first | rfl | (simp;done) | (simp;assumption) | (simp;omega)),bA w (ze #[I O 2,I O a,I O n,.string x,zc E y c] 49)⟩
  ·obtain ⟨G,A⟩:=nm (nfS x.data.toList false)
   have F:Hx (fin=(decide ((0:Int)<=n) && decide (n<=0) && G && decide (y=2) && M)):=by show _=_;rw [v,A];simp
   have L:Hx (∀ X,Ov w X->Ro 66 #[.string x,zd false] X (zd G)):=fun X _=>by rw [A];exact BE x false X P
   clear v A P;go_enter Tryz.func70,Tryz.ntmps70;by_cases h1:0<=n
   ·by_cases h2:n<=0
    ·go_wp2_with fail
     refine (L.o _ (bA w (ze #[I O 3,I O a,I O n,.string x,zc E y c] 49))).mono ?_;rintro e K ⟨rfl,B⟩;have u:Hx (Ov w K):=Ac (bA w (ze #[I O 3,I O a,I O n,.string x,zc E y c] 49)) B;have b:Hx (Af [I O 3,I O a,I O n,.string x,zc E y c] K w.heap.size):=Af.over (Ax w [I O 3,I O a,I O n,.string x,zc E y c] 49) B;clear B  L
     cases G with
     | true=>
      by_cases h3:y=2
      ·subst h3
       obtain ⟨l,j,i,g,f⟩:=rc5 b.o;go_wp2_with fail;refine (N.o _ u.o).mono ?_;rintro e J ⟨rfl,B⟩;have H:Hx (Ov w J):=Ac u.o B;have C:Hx (Af [I O 3,I O a,I O n,.string x,zc E 2 c] J w.heap.size):=b.o.over B;clear B l j i g f N;have r:Hx (fin=M):=by have h:=F.o;simp [h1,h2] at h;exact h
       obtain ⟨l,j,i,g,f⟩:=rc5 C.o;go_wp2_with fail;go_ret;exact ⟨by rw [r.o];(first | rfl | (simp;done) | (simp;assumption) | (simp;omega)),H.o⟩
      ·have S:¬ (y:Int)=2:=by omega
       have r:Hx (fin=false):=by have h:=F.o;simp [h3] at h;exact h
       obtain ⟨l,j,i,g,f⟩:=rc5 b.o;go_wp2_with fail;go_ret;exact ⟨by rw [r.o];(first | rfl | (simp;done) | (simp;assumption) | (simp;omega)),u.o⟩
     | false=>
      have r:Hx (fin=false):=by have h:=F.o;simp at h;exact h
      obtain ⟨l,j,i,g,f⟩:=rc5 b.o;go_wp2_with fail;go_ret;exact ⟨by rw [r.o];(first | rfl | (simp;done) | (simp;assumption) | (simp;omega)),u.o⟩
    ·have r:Hx (fin=false):=by have h:=F.o;simp [h2] at h;exact h
     go_wp2_with fail;go_ret;exact ⟨by rw [r.o];(first | rfl | (simp;done) | (simp;assumption) | (simp;omega)),bA w (ze #[I O 3,I O a,I O n,.string x,zc E y c] 49)⟩
   ·have r:Hx (fin=false):=by have h:=F.o;simp [h1] at h;exact h
    go_wp2_with fail;go_ret;exact ⟨by rw [r.o];(first | rfl | (simp;done) | (simp;assumption) | (simp;omega)),bA w (ze #[I O 3,I O a,I O n,.string x,zc E y c] 49)⟩
  ·obtain ⟨G,A⟩:=nm (nfS x.data.toList false)
   have F:Hx (fin=(decide ((0:Int)<=n) && decide (n<=0) && G && decide (y=2) && M)):=by show _=_;rw [v,A];simp
   have L:Hx (∀ X,Ov w X->Ro 66 #[.string x,zd false] X (zd G)):=fun X _=>by rw [A];exact BE x false X P
   clear v A P;go_enter Tryz.func70,Tryz.ntmps70;by_cases h1:0<=n
   ·by_cases h2:n<=0
    ·go_wp2_with fail
     refine (L.o _ (bA w (ze #[I O 4,I O a,I O n,.string x,zc E y c] 49))).mono ?_;rintro e K ⟨rfl,B⟩;have u:Hx (Ov w K):=Ac (bA w (ze #[I O 4,I O a,I O n,.string x,zc E y c] 49)) B;have b:Hx (Af [I O 4,I O a,I O n,.string x,zc E y c] K w.heap.size):=Af.over (Ax w [I O 4,I O a,I O n,.string x,zc E y c] 49) B;clear B  L
     cases G with
     | true=>
      by_cases h3:y=2
      ·subst h3
       obtain ⟨l,j,i,g,f⟩:=rc5 b.o;go_wp2_with fail;refine (N.o _ u.o).mono ?_;rintro e J ⟨rfl,B⟩;have H:Hx (Ov w J):=Ac u.o B;have C:Hx (Af [I O 4,I O a,I O n,.string x,zc E 2 c] J w.heap.size):=b.o.over B;clear B l j i g f N;have r:Hx (fin=M):=by have h:=F.o;simp [h1,h2] at h;exact h
       obtain ⟨l,j,i,g,f⟩:=rc5 C.o;go_wp2_with fail;go_ret;exact ⟨by rw [r.o];(first | rfl | (simp;done) | (simp;assumption) | (simp;omega)),H.o⟩
      ·have S:¬ (y:Int)=2:=by omega
       have r:Hx (fin=false):=by have h:=F.o;simp [h3] at h;exact h
       obtain ⟨l,j,i,g,f⟩:=rc5 b.o;go_wp2_with fail;go_ret;exact ⟨by rw [r.o];(first | rfl | (simp;done) | (simp;assumption) | (simp;omega)),u.o⟩
     | false=>
      have r:Hx (fin=false):=by have h:=F.o;simp at h;exact h
      obtain ⟨l,j,i,g,f⟩:=rc5 b.o;go_wp2_with fail;go_ret;exact ⟨by rw [r.o];(first | rfl | (simp;done) | (simp;assumption) | (simp;omega)),u.o⟩
    ·have r:Hx (fin=false):=by have h:=F.o;simp [h2] at h;exact h
     go_wp2_with fail;go_ret;exact ⟨by rw [r.o];(first | rfl | (simp;done) | (simp;assumption) | (simp;omega)),bA w (ze #[I O 4,I O a,I O n,.string x,zc E y c] 49)⟩
   ·have r:Hx (fin=false):=by have h:=F.o;simp [h1] at h;exact h
    go_wp2_with fail;go_ret;exact ⟨by rw [r.o];(first | rfl | (simp;done) | (simp;assumption) | (simp;omega)),bA w (ze #[I O 4,I O a,I O n,.string x,zc E y c] 49)⟩
  ·obtain ⟨G,A⟩:=nm (nfS x.data.toList false)
   have F:Hx (fin=(decide ((0:Int)<=n) && decide (n<=0) && G && decide (y=2) && M)):=by show _=_;rw [v,A];simp
   have L:Hx (∀ X,Ov w X->Ro 66 #[.string x,zd false] X (zd G)):=fun X _=>by rw [A];exact BE x false X P
   clear v A P;go_enter Tryz.func70,Tryz.ntmps70;by_cases h1:0<=n
   ·by_cases h2:n<=0
    ·go_wp2_with fail
     refine (L.o _ (bA w (ze #[I O 5,I O a,I O n,.string x,zc E y c] 49))).mono ?_;rintro e K ⟨rfl,B⟩;have u:Hx (Ov w K):=Ac (bA w (ze #[I O 5,I O a,I O n,.string x,zc E y c] 49)) B;have b:Hx (Af [I O 5,I O a,I O n,.string x,zc E y c] K w.heap.size):=Af.over (Ax w [I O 5,I O a,I O n,.string x,zc E y c] 49) B;clear B  L
     cases G with
     | true=>
      by_cases h3:y=2
      ·subst h3
       obtain ⟨l,j,i,g,f⟩:=rc5 b.o;go_wp2_with fail;refine (N.o _ u.o).mono ?_;rintro e J ⟨rfl,B⟩;have H:Hx (Ov w J):=Ac u.o B;have C:Hx (Af [I O 5,I O a,I O n,.string x,zc E 2 c] J w.heap.size):=b.o.over B;clear B l j i g f N;have r:Hx (fin=M):=by have h:=F.o;simp [h1,h2] at h;exact h
       obtain ⟨l,j,i,g,f⟩:=rc5 C.o;go_wp2_with fail;go_ret;exact ⟨by rw [r.o];(first | rfl | (simp;done) | (simp;assumption) | (simp;omega)),H.o⟩
      ·have S:¬ (y:Int)=2:=by omega
       have r:Hx (fin=false):=by have h:=F.o;simp [h3] at h;exact h
       obtain ⟨l,j,i,g,f⟩:=rc5 b.o;go_wp2_with fail;go_ret;exact ⟨by rw [r.o];(first | rfl | (simp;done) | (simp;assumption) | (simp;omega)),u.o⟩
     | false=>
      have r:Hx (fin=false):=by have h:=F.o;simp at h;exact h
      obtain ⟨l,j,i,g,f⟩:=rc5 b.o;go_wp2_with fail;go_ret;exact ⟨by rw [r.o];(first | rfl | (simp;done) | (simp;assumption) | (simp;omega)),u.o⟩
    ·have r:Hx (fin=false):=by have h:=F.o;simp [h2] at h;exact h
     go_wp2_with fail;go_ret;exact ⟨by rw [r.o];(first | rfl | (simp;done) | (simp;assumption) | (simp;omega)),bA w (ze #[I O 5,I O a,I O n,.string x,zc E y c] 49)⟩
   ·have r:Hx (fin=false):=by have h:=F.o;simp [h1] at h;exact h
    go_wp2_with fail;go_ret;exact ⟨by rw [r.o];(first | rfl | (simp;done) | (simp;assumption) | (simp;omega)),bA w (ze #[I O 5,I O a,I O n,.string x,zc E y c] 49)⟩
  ·obtain ⟨G,A⟩:=nm (nfS x.data.toList false)
   have F:Hx (fin=(decide ((0:Int)<=n) && decide (n<=0) && G && decide (y=2) && M)):=by show _=_;rw [v,A];simp
   have L:Hx (∀ X,Ov w X->Ro 66 #[.string x,zd false] X (zd G)):=fun X _=>by rw [A];exact BE x false X P
   clear v A P;go_enter Tryz.func70,Tryz.ntmps70;by_cases h1:0<=n
   ·by_cases h2:n<=0
    ·go_wp2_with fail
     refine (L.o _ (bA w (ze #[I O 6,I O a,I O n,.string x,zc E y c] 49))).mono ?_;rintro e K ⟨rfl,B⟩;have u:Hx (Ov w K):=Ac (bA w (ze #[I O 6,I O a,I O n,.string x,zc E y c] 49)) B;have b:Hx (Af [I O 6,I O a,I O n,.string x,zc E y c] K w.heap.size):=Af.over (Ax w [I O 6,I O a,I O n,.string x,zc E y c] 49) B;clear B  L
     cases G with
     | true=>
      by_cases h3:y=2
      ·subst h3
       obtain ⟨l,j,i,g,f⟩:=rc5 b.o;go_wp2_with fail;refine (N.o _ u.o).mono ?_;rintro e J ⟨rfl,B⟩;have H:Hx (Ov w J):=Ac u.o B;have C:Hx (Af [I O 6,I O a,I O n,.string x,zc E 2 c] J w.heap.size):=b.o.over B;clear B l j i g f N;have r:Hx (fin=M):=by have h:=F.o;simp [h1,h2] at h;exact h
       obtain ⟨l,j,i,g,f⟩:=rc5 C.o;go_wp2_with fail;go_ret;exact ⟨by rw [r.o];(first | rfl | (simp;done) | (simp;assumption) | (simp;omega)),H.o⟩
      ·have S:¬ (y:Int)=2:=by omega
       have r:Hx (fin=false):=by have h:=F.o;simp [h3] at h;exact h
       obtain ⟨l,j,i,g,f⟩:=rc5 b.o;go_wp2_with fail;go_ret;exact ⟨by rw [r.o];(first | rfl | (simp;done) | (simp;assumption) | (simp;omega)),u.o⟩
     | false=>
      have r:Hx (fin=false):=by have h:=F.o;simp at h;exact h
      obtain ⟨l,j,i,g,f⟩:=rc5 b.o;go_wp2_with fail;go_ret;exact ⟨by rw [r.o];(first | rfl | (simp;done) | (simp;assumption) | (simp;omega)),u.o⟩
    ·have r:Hx (fin=false):=by have h:=F.o;simp [h2] at h;exact h
     go_wp2_with fail;go_ret;exact ⟨by rw [r.o];(first | rfl | (simp;done) | (simp;assumption) | (simp;omega)),bA w (ze #[I O 6,I O a,I O n,.string x,zc E y c] 49)⟩
   ·have r:Hx (fin=false):=by have h:=F.o;simp [h1] at h;exact h
    go_wp2_with fail;go_ret;exact ⟨by rw [r.o];(first | rfl | (simp;done) | (simp;assumption) | (simp;omega)),bA w (ze #[I O 6,I O a,I O n,.string x,zc E y c] 49)⟩
  ·obtain ⟨G,A⟩:=nm (nfS x.data.toList false)
   have F:Hx (fin=(decide ((0:Int)<=n) && decide (n<=0) && G && decide (y=2) && M)):=by show _=_;rw [v,A];simp
   have L:Hx (∀ X,Ov w X->Ro 66 #[.string x,zd false] X (zd G)):=fun X _=>by rw [A];exact BE x false X P
   clear v A P;go_enter Tryz.func70,Tryz.ntmps70;by_cases h1:0<=n
   ·by_cases h2:n<=0
    ·go_wp2_with fail
     refine (L.o _ (bA w (ze #[I O 7,I O a,I O n,.string x,zc E y c] 49))).mono ?_;rintro e K ⟨rfl,B⟩;have u:Hx (Ov w K):=Ac (bA w (ze #[I O 7,I O a,I O n,.string x,zc E y c] 49)) B;have b:Hx (Af [I O 7,I O a,I O n,.string x,zc E y c] K w.heap.size):=Af.over (Ax w [I O 7,I O a,I O n,.string x,zc E y c] 49) B;clear B  L
     cases G with
     | true=>
      by_cases h3:y=2
      ·subst h3
       obtain ⟨l,j,i,g,f⟩:=rc5 b.o;go_wp2_with fail;refine (N.o _ u.o).mono ?_;rintro e J ⟨rfl,B⟩;have H:Hx (Ov w J):=Ac u.o B;have C:Hx (Af [I O 7,I O a,I O n,.string x,zc E 2 c] J w.heap.size):=b.o.over B;clear B l j i g f N;have r:Hx (fin=M):=by have h:=F.o;simp [h1,h2] at h;exact h
       obtain ⟨l,j,i,g,f⟩:=rc5 C.o;go_wp2_with fail;go_ret;exact ⟨by rw [r.o];(first | rfl | (simp;done) | (simp;assumption) | (simp;omega)),H.o⟩
      ·have S:¬ (y:Int)=2:=by omega
       have r:Hx (fin=false):=by have h:=F.o;simp [h3] at h;exact h
       obtain ⟨l,j,i,g,f⟩:=rc5 b.o;go_wp2_with fail;go_ret;exact ⟨by rw [r.o];(first | rfl | (simp;done) | (simp;assumption) | (simp;omega)),u.o⟩
     | false=>
      have r:Hx (fin=false):=by have h:=F.o;simp at h;exact h
      obtain ⟨l,j,i,g,f⟩:=rc5 b.o;go_wp2_with fail;go_ret;exact ⟨by rw [r.o];(first | rfl | (simp;done) | (simp;assumption) | (simp;omega)),u.o⟩
    ·have r:Hx (fin=false):=by have h:=F.o;simp [h2] at h;exact h
     go_wp2_with fail;go_ret;exact ⟨by rw [r.o];(first | rfl | (simp;done) | (simp;assumption) | (simp;omega)),bA w (ze #[I O 7,I O a,I O n,.string x,zc E y c] 49)⟩
   ·have r:Hx (fin=false):=by have h:=F.o;simp [h1] at h;exact h
    go_wp2_with fail;go_ret;exact ⟨by rw [r.o];(first | rfl | (simp;done) | (simp;assumption) | (simp;omega)),bA w (ze #[I O 7,I O a,I O n,.string x,zc E y c] 49)⟩
theorem JD {k:Nat} (F:FuncId) (hC:∀ (args:Array Value) (w:World),(callFunc F args).run Tryz.prog w=.ok (.enter F args) w) (p:D->Bool) (l:List D) (ao:Option Addr) (cap:Nat) (may:Bool) (w:World) (hp:∀ (cs:List Value) (d:D) (X:World),d∈l->ZE X k cs d->Ro F #[.agg cs.toArray] X (zd (p d))) (hc:LS 5 (ZE w k) w (zc ao l.length cap) l) :
  Ro 72 #[zc ao l.length cap,zd may,.func (.func F) #[] #[]] w (zd (lfS l may p)):=by
 obtain ⟨fin,a⟩:=nm (lfS l may p);rw [<-a];unfold lfS at a;obtain ⟨r,b⟩:=nm (l.all p);have x:l.isEmpty=decide (l.length=0):=by cases l <;> simp
 rw [<-b,x] at a;have i:Hx (∀ X,Ov w X->Ro 111 #[zc ao l.length cap,.func (.func F) #[] #[]] X (zd r)):=fun X y=>by rw [b];exact Lv F hC p l ao cap X hp (C2 y hc)
 have A:=hc.max;obtain ⟨v,f⟩:=nm l.length;rw [<-f] at a i A ⊢;have u:=Aa a;clear b hc hp f a x;go_enter Tryz.func72,Tryz.ntmps72
 cases may with
 | true=>
  go_wp2_with fail;refine (i.o _ (Below.refl _ _)).mono ?_;rintro e n ⟨rfl,g⟩;have c:Hx (Ov w n):=Ac (Below.refl _ _) g;clear g  i;have j:Hx (fin=r):=by have h:=u.o;simp at h;exact h
  go_wp2_with fail;go_ret;exact ⟨by rw [j.o];(first | rfl | (simp;done) | (simp;assumption) | (simp;omega)),c.o⟩
 | false=>
  by_cases h0:v=0
  ·subst h0
   go_wp2_with fail;refine (i.o _ (Below.refl _ _)).mono ?_;rintro e n ⟨rfl,g⟩;have c:Hx (Ov w n):=Ac (Below.refl _ _) g;clear g  i;have j:Hx (fin=r):=by have h:=u.o;simp at h;exact h
   go_wp2_with fail;go_ret;exact ⟨by rw [j.o];(first | rfl | (simp;done) | (simp;assumption) | (simp;omega)),c.o⟩
  ·have B:¬ (v:Int)=0:=by omega
   have j:Hx (fin=false):=by have h:=u.o;simp [h0] at h;exact h
   go_wp2_with fail;go_ret;exact ⟨by rw [j.o];(first | rfl | (simp;done) | (simp;assumption) | (simp;omega)),Below.refl _ _⟩
theorem F5 {ke k:Nat} (F:FuncId) (hC:∀ (args:Array Value) (w:World),(callFunc F args).run Tryz.prog w=.ok (.enter F args) w) (p:D->Bool) (l:List D) (ao:Option Addr) (cap:Nat) (may:Bool) (w:World) (hp:∀ (cs:List Value) (d:D) (X:World),d∈l->ZC X ke k cs d->Ro F #[.agg cs.toArray] X (zd (p d))) (hc:LS 12 (ZC w ke k) w (zc ao l.length cap) l) :
  Ro 73 #[zc ao l.length cap,zd may,.func (.func F) #[] #[]] w (zd (lfS l may p)):=by
 obtain ⟨fin,a⟩:=nm (lfS l may p);rw [<-a];unfold lfS at a;obtain ⟨r,b⟩:=nm (l.all p);have x:l.isEmpty=decide (l.length=0):=by cases l <;> simp
 rw [<-b,x] at a;have i:Hx (∀ X,Ov w X->Ro 35 #[zc ao l.length cap,.func (.func F) #[] #[]] X (zd r)):=fun X y=>by rw [b];exact Lw F hC p l ao cap X hp (A6 y hc)
 have A:=hc.max;obtain ⟨v,f⟩:=nm l.length;rw [<-f] at a i A ⊢;have u:=Aa a;clear b hc hp f a x;go_enter Tryz.func73,Tryz.ntmps73
 cases may with
 | true=>
  go_wp2_with fail;refine (i.o _ (Below.refl _ _)).mono ?_;rintro e n ⟨rfl,g⟩;have c:Hx (Ov w n):=Ac (Below.refl _ _) g;clear g  i;have j:Hx (fin=r):=by have h:=u.o;simp at h;exact h
  go_wp2_with fail;go_ret;exact ⟨by rw [j.o];(first | rfl | (simp;done) | (simp;assumption) | (simp;omega)),c.o⟩
 | false=>
  by_cases h0:v=0
  ·subst h0
   go_wp2_with fail;refine (i.o _ (Below.refl _ _)).mono ?_;rintro e n ⟨rfl,g⟩;have c:Hx (Ov w n):=Ac (Below.refl _ _) g;clear g  i;have j:Hx (fin=r):=by have h:=u.o;simp at h;exact h
   go_wp2_with fail;go_ret;exact ⟨by rw [j.o];(first | rfl | (simp;done) | (simp;assumption) | (simp;omega)),c.o⟩
  ·have B:¬ (v:Int)=0:=by omega
   have j:Hx (fin=false):=by have h:=u.o;simp [h0] at h;exact h
   go_wp2_with fail;go_ret;exact ⟨by rw [j.o];(first | rfl | (simp;done) | (simp;assumption) | (simp;omega)),Below.refl _ _⟩
end Go.Proofs.YtipngnjffjajpaaGreatDoor.Tx
