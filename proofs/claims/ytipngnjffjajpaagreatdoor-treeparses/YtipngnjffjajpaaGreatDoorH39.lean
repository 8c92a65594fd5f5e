/- The document's answer: CheckTree of any tree. -/
import Derived.Test.YtipngnjffjajpaaGreatDoorH35
import Derived.Test.YtipngnjffjajpaaGreatDoorH36
import Derived.Test.YtipngnjffjajpaaGreatDoorH38
set_option linter.unusedVariables false
set_option maxHeartbeats 8000000
set_option maxRecDepth 100000
namespace Go.Proofs.YtipngnjffjajpaaGreatDoor.Tx
open Go.RowKit
open Go.Value renaming int -> M, slice -> U, bool -> zc, pointer -> zd, agg -> zf, tuple -> zh
open Go.IntKind renaming i64 -> O
open Go.Obj renaming cells -> ze
open Go.Ending renaming returned -> zg
theorem IT (kd a:Int) (x y:ByteArray) (gv:Bool) (aL:Option Addr) (nL cL:Nat) (aP:Option Addr) (nP cP:Nat) (aB:Option Addr) (nB cB:Nat) (e0 e1 e2:Int) (e3:ByteArray) (q:Option Addr) (q1 q2:Nat) (w:World) (hk:¬ (1<=kd/\kd<=7)):Ro 38 #[zf #[M O kd,M O a,.string x,.string y,zc gv,U aL nL cL,U aP nP cP,U aB nB cB,M O e0,M O e1,M O e2,.string e3,U q q1 q2]] w (zc false):=by
 have F:Hx (∀ X,Ov w X->Ro 76 #[M O kd,M O 1,M O 7] X (zc false)):=fun X _=>by
  have h:=AM kd 1 7 X;rw [show (decide (1<=kd) && decide (kd<=7))=false by simp;omega] at h;exact h
 clear hk;go_enter Tryz.func38,Tryz.ntmps38;go_wp2_with fail;refine (F.o _ (bA w (ze #[M O kd,M O a,.string x,.string y,zc gv,U aL nL cL,U aP nP cP,U aB nB cB,M O e0,M O e1,M O e2,.string e3,U q q1 q2] 51))).mono ?_;rintro e k ⟨rfl,i⟩;have j:Hx (Ov w k):=Ab (bA w (ze #[M O kd,M O a,.string x,.string y,zc gv,U aL nL cL,U aP nP cP,U aB nB cB,M O e0,M O e1,M O e2,.string e3,U q q1 q2] 51)) i;have b:Hx (Ae [M O kd,M O a,.string x,.string y,zc gv,U aL nL cL,U aP nP cP,U aB nB cB,M O e0,M O e1,M O e2,.string e3,U q q1 q2] k w.heap.size):=Ae.over (AW w [M O kd,M O a,.string x,.string y,zc gv,U aL nL cL,U aP nP cP,U aB nB cB,M O e0,M O e1,M O e2,.string e3,U q q1 q2] 51) i;clear i  F;obtain ⟨E,C,B,A,v,u,r,n,m,l,g,f,c⟩:=Ap b.o;go_wp2_with fail;go_ret;exact ⟨rfl,j.o⟩
theorem LE (ke kc:Nat) (cs:List Value) (d:D) (w:World) (h:ZD w ke kc cs d):Ro 38 #[.agg cs.toArray] w (zc (dfK ke kc d)):=by
 obtain ⟨J,a,x,y,K,A,n,g,v,m,f,B,u,b,l,k,j,i,q,q1,c,r,rfl,rfl,E,C,H,G,I,F⟩:=h;by_cases hk:1<=J/\J<=7
 ·have M:J=1\/J=2\/J=3\/J=4\/J=5\/J=6\/J=7:=by omega
  clear hk;rcases M with rfl | rfl | rfl | rfl | rfl | rfl | rfl <;> cases K
  ·exact Kj ke kc a x y A n g v m f B u b l k j i q q1 c r w E C H G I F
  ·exact Ki ke kc a x y A n g v m f B u b l k j i q q1 c r w E C H G I F
  ·exact Kh ke kc a x y A n g v m f B u b l k j i q q1 c r w E C H G I F
  ·exact Kg ke kc a x y A n g v m f B u b l k j i q q1 c r w E C H G I F
  ·exact Kf ke kc a x y A n g v m f B u b l k j i q q1 c r w E C H G I F
  ·exact Ke ke kc a x y A n g v m f B u b l k j i q q1 c r w E C H G I F
  ·exact Kd ke kc a x y A n g v m f B u b l k j i q q1 c r w E C H G I F
  ·exact Kc ke kc a x y A n g v m f B u b l k j i q q1 c r w E C H G I F
  ·exact Kb ke kc a x y A n g v m f B u b l k j i q q1 c r w E C H G I F
  ·exact Ka ke kc a x y A n g v m f B u b l k j i q q1 c r w E C H G I F
  ·exact J9 ke kc a x y A n g v m f B u b l k j i q q1 c r w E C H G I F
  ·exact J8 ke kc a x y A n g v m f B u b l k j i q q1 c r w E C H G I F
  ·exact J7 ke kc a x y A n g v m f B u b l k j i q q1 c r w E C H G I F
  ·exact J6 ke kc a x y A n g v m f B u b l k j i q q1 c r w E C H G I F
 ·have L:dfK ke kc (deD J a x y K g f b r)=false:=by
   unfold dfK;simp only [gDd];rw [show (decide (1<=J) && decide (J<=7))=false by simp;omega];simp
  rw [L];exact IT J a x y K A _ n v _ m B _ u l k j i q q1 c w hk
theorem Fm (ke kc:Nat) (ds l:List D) (v:Value) (w:World) (h:ZT w ke kc v ds l):Ro 15 #[v] w (M O (ckT ke kc ds l)):=by
 have N:Hx (∀ X,Ov w X->Ro 37 #[v] X (zc (Eg ke kc ds l))):=fun X J=>by rw [Mc];exact Ir ke kc ds l v X (h.over J)
 obtain ⟨ao,c,L,K,rfl,Y,hM⟩:=h;obtain ⟨fin,g⟩:=nm (ckT ke kc ds l);rw [<-g];unfold ckT at g;obtain ⟨qm,A⟩:=nm (Eg ke kc ds l);obtain ⟨qd,m⟩:=nm (ds.all (dfK ke kc));obtain ⟨ql,B⟩:=nm (l.all (sfK ke kc));rw [<-A,<-m,<-B] at g;have S:=Aa g;have P:=Aa m;have Q:Hx (∀ X,Ov w X->Ro 37 #[zf #[U ao ds.length c,U L l.length K]] X (zc qm)):=by rw [A];exact N
 have KL:Hx (∀ X,Ov w X->Ro 39 #[U L l.length K] X (zc ql)):=fun X J=>by rw [B];exact Bc ke kc l L K X (Ay J hM)
 have HD:=Aa Y;have HL:=Y.max;obtain ⟨y,E⟩:=nm ds.length;rw [<-E] at Q HL ⊢;have HN:=Aa E;clear g A m B Y hM N E;generalize l.length=nl at Q KL ⊢;go_enter Tryz.func15,Tryz.ntmps15;go_wp2_with fail;refine (Q.o _ (bA _ _)).mono ?_;rintro e W1 ⟨rfl,u⟩;have x:Hx (Ov w W1):=Ab (bA _ _) u;have G:Hx (Ae [U ao y c,U L nl K] W1 w.heap.size):=Ae.over (AW w [U ao y c,U L nl K] 25) u;clear u Q;generalize w.heap.size=bt at G ⊢;obtain ⟨s0,s1⟩:=rc2 G.o
 cases qm with
 | true=>
  have F:Hx (fin=2):=by have h:=S.o;simp at h;exact h
  go_wp2_with fail;go_ret;exact ⟨by rw [F.o];rfl,x.o⟩
 | false=>
  go_wp2_with fail;clear s0 s1;go_loopw [3] (fun i wr=>∃ (j:Nat),j<=y/\i=M O j/\(ds.drop j).all (dfK ke kc)=qd/\Ov W1 wr) (fun i _=>y - (intOf i).toNat)
  case atStart=>exact ⟨0,Nat.zero_le _,rfl,P.o.symm,Below.refl _ _⟩
  case round=>
   obtain ⟨j,hj,rfl,k,H⟩:=hrel;obtain ⟨s0,s1⟩:=rc2 (G.o.over H);by_cases hjl:j < y
   ·have n:j < ds.length:=by have:=HN.o;omega
    have W:(j:Int) < (y:Int):=by omega
    obtain ⟨b,V,rfl,cs,I,f,hr⟩:=HD.o.at n;rw [List.drop_eq_getElem_cons n,List.all_cons] at k;generalize ds[j]=dj at k hr;have a:Ov w wr:=Ab x.o H;obtain ⟨q9,C⟩:=nm (dfK ke kc dj);rw [<-C] at k;have KC:Hx (∀ X,Ov wr X->Ro 38 #[.agg cs.toArray] X (zc q9)):=fun X J=>by rw [C];exact LE ke kc cs dj X ((hr.over a).over J)
    obtain ⟨ap,a0,x0,y0,g0,l0,l1,l2,p0,p1,p2,b0,b1,b2,e0,e1,e2,e3,q0,q1,q2,rfl⟩:=hr.cells;have d0:wr.cell? ⟨b,V+j*13,none⟩=_:=ce1 a (f 0 _ rfl);have d1:=ce1 a (f 1 _ rfl);have d2:=ce1 a (f 2 _ rfl);have d3:=ce1 a (f 3 _ rfl);have d4:=ce1 a (f 4 _ rfl);have d5:=ce1 a (f 5 _ rfl);have d6:=ce1 a (f 6 _ rfl);have d7:=ce1 a (f 7 _ rfl);have d8:=ce1 a (f 8 _ rfl);have d9:=ce1 a (f 9 _ rfl);have ab:=ce1 a (f 10 _ rfl);have aa:=ce1 a (f 11 _ rfl);have Z:=ce1 a (f 12 _ rfl);have R:=Aa k;have T:=Aa H;clear k H f I hr C n a;go_wp2_with fail;refine (KC.o _ (Below.refl _ _)).mono ?_;rintro e W2 ⟨rfl,u⟩;have r:=Aa (Ab T.o u);clear u KC d0 d1 d2 d3 d4 d5 d6 d7 d8 d9 ab aa Z s0 s1
    cases q9 with
    | true=>
     have k:=R.o;rw [Bool.true_and] at k;replace R:=Aa k;clear k;go_wp2_with fail;exact ⟨⟨j+1,by omega,by go_num,R.o,r.o⟩,by simp [intOf];omega⟩
    | false=>
     have k:=R.o;rw [Bool.false_and] at k;subst k;have F:Hx (fin=1):=by have h:=S.o;simp at h;exact h
     go_wp2_with fail;go_ret;exact ⟨by rw [F.o];rfl,Ab x.o r.o⟩
   ·have hd:ds.drop j=[]:=List.drop_eq_nil_of_le (by have:=HN.o;omega)
    have W:¬ (j:Int) < (y:Int):=by omega
    rw [hd] at k;have m:true=qd:=by rw [<-k];rfl
    subst m;have T:=Aa (Ab x.o H);clear k hd H P;go_wp2_with fail;refine (KL.o _ T.o).mono ?_;rintro e W2 ⟨rfl,u⟩;have r:=Aa (Ab T.o u);clear u KL s0 s1
    cases ql with
    | true=>
     have F:Hx (fin=0):=by have h:=S.o;simp at h;exact h
     go_wp2_with fail;go_ret;exact ⟨by rw [F.o];rfl,r.o⟩
    | false=>
     have F:Hx (fin=1):=by have h:=S.o;simp at h;exact h
     go_wp2_with fail;go_ret;exact ⟨by rw [F.o];rfl,r.o⟩
end Go.Proofs.YtipngnjffjajpaaGreatDoor.Tx
