/- Package tree's Check: expressions that are fine. -/
import Derived.Test.YtipngnjffjajpaaGreatDoorH22
set_option linter.unusedVariables false
set_option maxHeartbeats 8000000
set_option maxRecDepth 100000
namespace Go.Proofs.YtipngnjffjajpaaGreatDoor.Tx
open Go.RowKit
open Go.Value renaming int -> M, slice -> U, bool -> zc, pointer -> zd, agg -> zf, tuple -> zh
open Go.IntKind renaming i64 -> O
open Go.Obj renaming cells -> ze
open Go.Ending renaming returned -> zg
theorem Em:∀ (k:Nat) (cs:List Value) (d:D) (w:World),ZE w k cs d->Ro 70 #[.agg cs.toArray] w (zc (efK k d)):=by
 intro k
 induction k with
 | zero=>intro cs d w h;exact h.elim
 | succ k ih=>
  intro cs d w h;obtain ⟨P,a,n,x,C,c,S,rfl,rfl,N,V⟩:=h;obtain ⟨fin,u⟩:=nm (efK (k+1) (eD P a n x S));rw [<-u];simp only [efK,gEe] at u;obtain ⟨K,Q⟩:=nm (S.all (efK k));rw [<-Q] at u;have L:Hx (∀ X,Ov w X->Ro 111 #[U C S.length c,.func (.func 70) #[] #[]] X (zc K)):=fun X Z=>by rw [Q];exact I8 70 (fun W w=>by simp [go_sem]) (efK k) S C c X (fun cs d X _ h=>ih cs d X h) (B2 Z V)
  have HL:=V.max;clear Q ih V;show Ro 70 #[zf #[M O P,M O a,M O n,.string x,U C S.length c]] w _;obtain ⟨v,T⟩:=nm S.length;rw [<-T] at u L HL ⊢;clear T;by_cases hlo:P < 1
  ·have m:Hx (fin=false):=by show _=_;rw [u,decide_eq_false (show ¬ 1<=P by omega)];simp
   clear u;go_enter Tryz.func70,Tryz.ntmps70;go_wp2_with fail;go_ret;exact ⟨by rw [m.o];(first | rfl | (simp;done) | (simp;assumption) | (simp;omega)),bA _ _⟩
  by_cases hhi:7 < P
  ·have m:Hx (fin=false):=by show _=_;rw [u,decide_eq_false (show ¬ P<=7 by omega)];simp
   clear u;go_enter Tryz.func70,Tryz.ntmps70;go_wp2_with fail;go_ret;exact ⟨by rw [m.o];(first | rfl | (simp;done) | (simp;assumption) | (simp;omega)),bA _ _⟩
  have Y:P=1\/P=2\/P=3\/P=4\/P=5\/P=6\/P=7:=by omega
  clear hlo hhi;rcases Y with rfl | rfl | rfl | rfl | rfl | rfl | rfl
  ·obtain ⟨F,y⟩:=nm (nfS x.data.toList false)
   have E:Hx (fin=(decide ((-9999999:Int)<=n) && decide (n<=9999999) && F && decide (v=0) && K)):=by show _=_;rw [u,y];simp
   have J:Hx (∀ X,Ov w X->Ro 66 #[.string x,zc false] X (zc F)):=fun X _=>by rw [y];exact BC x false X N
   clear u y N;go_enter Tryz.func70,Tryz.ntmps70;by_cases h1:(-9999999:Int)<=n
   ·by_cases h2:n<=9999999
    ·go_wp2_with fail
     refine (J.o _ (bA w (ze #[M O 1,M O a,M O n,.string x,U C v c] 49))).mono ?_;rintro e I ⟨rfl,A⟩;have r:Hx (Ov w I):=Ab (bA w (ze #[M O 1,M O a,M O n,.string x,U C v c] 49)) A;have b:Hx (Ae [M O 1,M O a,M O n,.string x,U C v c] I w.heap.size):=Ae.over (AW w [M O 1,M O a,M O n,.string x,U C v c] 49) A;clear A  J
     cases F with
     | true=>
      by_cases h3:v=0
      ·subst h3
       obtain ⟨l,j,i,g,f⟩:=rc5 b.o;go_wp2_with fail;refine (L.o _ r.o).mono ?_;rintro e H ⟨rfl,A⟩;have G:Hx (Ov w H):=Ab r.o A;have B:Hx (Ae [M O 1,M O a,M O n,.string x,U C 0 c] H w.heap.size):=b.o.over A;clear A l j i g f L;have m:Hx (fin=K):=by have h:=E.o;simp [h1,h2] at h;exact h
       obtain ⟨l,j,i,g,f⟩:=rc5 B.o;go_wp2_with fail;go_ret;exact ⟨by rw [m.o];(first | rfl | (simp;done) | (simp;assumption) | (simp;omega)),G.o⟩
      ·have R:¬ (v:Int)=0:=by omega
       have m:Hx (fin=false):=by have h:=E.o;simp [h3] at h;exact h
       obtain ⟨l,j,i,g,f⟩:=rc5 b.o;go_wp2_with fail;go_ret;exact ⟨by rw [m.o];(first | rfl | (simp;done) | (simp;assumption) | (simp;omega)),r.o⟩
     | false=>
      have m:Hx (fin=false):=by have h:=E.o;simp at h;exact h
      obtain ⟨l,j,i,g,f⟩:=rc5 b.o;go_wp2_with fail;go_ret;exact ⟨by rw [m.o];(first | rfl | (simp;done) | (simp;assumption) | (simp;omega)),r.o⟩
    ·have m:Hx (fin=false):=by have h:=E.o;simp [h2] at h;exact h
     go_wp2_with fail;go_ret;exact ⟨by rw [m.o];(first | rfl | (simp;done) | (simp;assumption) | (simp;omega)),bA w (ze #[M O 1,M O a,M O n,.string x,U C v c] 49)⟩
   ·have m:Hx (fin=false):=by have h:=E.o;simp [h1] at h;exact h
    go_wp2_with fail;go_ret;exact ⟨by rw [m.o];(first | rfl | (simp;done) | (simp;assumption) | (simp;omega)),bA w (ze #[M O 1,M O a,M O n,.string x,U C v c] 49)⟩
  ·obtain ⟨F,y⟩:=nm (nfS x.data.toList true)
   have E:Hx (fin=(decide ((0:Int)<=n) && decide (n<=0) && F && decide (v=0) && K)):=by show _=_;rw [u,y];simp
   have J:Hx (∀ X,Ov w X->Ro 66 #[.string x,zc true] X (zc F)):=fun X _=>by rw [y];exact BC x true X N
   clear u y N;go_enter Tryz.func70,Tryz.ntmps70;by_cases h1:0<=n
   ·by_cases h2:n<=0
    ·go_wp2_with fail
     refine (J.o _ (bA w (ze #[M O 2,M O a,M O n,.string x,U C v c] 49))).mono ?_;rintro e I ⟨rfl,A⟩;have r:Hx (Ov w I):=Ab (bA w (ze #[M O 2,M O a,M O n,.string x,U C v c] 49)) A;have b:Hx (Ae [M O 2,M O a,M O n,.string x,U C v c] I w.heap.size):=Ae.over (AW w [M O 2,M O a,M O n,.string x,U C v c] 49) A;clear A  J
     cases F with
     | true=>
      by_cases h3:v=0
      ·subst h3
       obtain ⟨l,j,i,g,f⟩:=rc5 b.o;go_wp2_with fail;refine (L.o _ r.o).mono ?_;rintro e H ⟨rfl,A⟩;have G:Hx (Ov w H):=Ab r.o A;have B:Hx (Ae [M O 2,M O a,M O n,.string x,U C 0 c] H w.heap.size):=b.o.over A;clear A l j i g f L;have m:Hx (fin=K):=by have h:=E.o;simp [h1,h2] at h;exact h
       obtain ⟨l,j,i,g,f⟩:=rc5 B.o;go_wp2_with fail;go_ret;exact ⟨by rw [m.o];(first | rfl | (simp;done) | (simp;assumption) | (simp;omega)),G.o⟩
      ·have R:¬ (v:Int)=0:=by omega
       have m:Hx (fin=false):=by have h:=E.o;simp [h3] at h;exact h
       obtain ⟨l,j,i,g,f⟩:=rc5 b.o;go_wp2_with fail;go_ret;exact ⟨by rw [m.o];(first | rfl | (simp;done) | (simp;assumption) | (simp;omega)),r.o⟩
     | false=>
      have m:Hx (fin=false):=by have h:=E.o;simp at h;exact h
      obtain ⟨l,j,i,g,f⟩:=rc5 b.o;go_wp2_with fail;go_ret;exact ⟨by rw [m.o];(first | rfl | (simp;done) | (simp;assumption) | (simp;omega)),r.o⟩
    ·have m:Hx (fin=false):=by have h:=E.o;simp [h2] at h;exact h
     go_wp2_with fail;go_ret;exact ⟨by rw [m.o];(first | rfl | (simp;done) | (simp;assumption) | (simp;omega)),bA w (ze #[M O 2,M O a,M O n,.string x,U C v c] 49)⟩
   ·have m:Hx (fin=false):=by have h:=E.o;simp [h1] at h;exact h
    go_wp2_with fail;go_ret;exact ⟨by rw [m.o];(first | rfl | (simp;done) | (simp;assumption) | (simp;omega)),bA w (ze #[M O 2,M O a,M O n,.string x,U C v c] 49)⟩
  ·obtain ⟨F,y⟩:=nm (nfS x.data.toList false)
   have E:Hx (fin=(decide ((0:Int)<=n) && decide (n<=0) && F && decide (v=2) && K)):=by show _=_;rw [u,y];simp
   have J:Hx (∀ X,Ov w X->Ro 66 #[.string x,zc false] X (zc F)):=fun X _=>by rw [y];exact BC x false X N
   clear u y N;go_enter Tryz.func70,Tryz.ntmps70;by_cases h1:0<=n
   ·by_cases h2:n<=0
    ·go_wp2_with fail
     refine (J.o _ (bA w (ze #[M O 3,M O a,M O n,.string x,U C v c] 49))).mono ?_;rintro e I ⟨rfl,A⟩;have r:Hx (Ov w I):=Ab (bA w (ze #[M O 3,M O a,M O n,.string x,U C v c] 49)) A;have b:Hx (Ae [M O 3,M O a,M O n,.string x,U C v c] I w.heap.size):=Ae.over (AW w [M O 3,M O a,M O n,.string x,U C v c] 49) A;clear A  J
     cases F with
     | true=>
      by_cases h3:v=2
      ·subst h3
       obtain ⟨l,j,i,g,f⟩:=rc5 b.o;go_wp2_with fail;refine (L.o _ r.o).mono ?_;rintro e H ⟨rfl,A⟩;have G:Hx (Ov w H):=Ab r.o A;have B:Hx (Ae [M O 3,M O a,M O n,.string x,U C 2 c] H w.heap.size):=b.o.over A;clear A l j i g f L;have m:Hx (fin=K):=by have h:=E.o;simp [h1,h2] at h;exact h
       obtain ⟨l,j,i,g,f⟩:=rc5 B.o;go_wp2_with fail;go_ret;exact ⟨by rw [m.o];(first | rfl | (simp;done) | (simp;assumption) | (simp;omega)),G.o⟩
      ·have R:¬ (v:Int)=2:=by omega
       have m:Hx (fin=false):=by have h:=E.o;simp [h3] at h;exact h
       obtain ⟨l,j,i,g,f⟩:=rc5 b.o;go_wp2_with fail;go_ret;exact ⟨by rw [m.o];(first | rfl | (simp;done) | (simp;assumption) | (simp;omega)),r.o⟩
     | false=>
      have m:Hx (fin=false):=by have h:=E.o;simp at h;exact h
      obtain ⟨l,j,i,g,f⟩:=rc5 b.o;go_wp2_with fail;go_ret;exact ⟨by rw [m.o];(first | rfl | (simp;done) | (simp;assumption) | (simp;omega)),r.o⟩
    ·have m:Hx (fin=false):=by have h:=E.o;simp [h2] at h;exact h
     go_wp2_with fail;go_ret;exact ⟨by rw [m.o];(first | rfl | (simp;done) | (simp;assumption) | (simp;omega)),bA w (ze #[M O 3,M O a,M O n,.string x,U C v c] 49)⟩
   ·have m:Hx (fin=false):=by have h:=E.o;simp [h1] at h;exact h
    go_wp2_with fail;go_ret;exact ⟨by rw [m.o];(first | rfl | (simp;done) | (simp;assumption) | (simp;omega)),bA w (ze #[M O 3,M O a,M O n,.string x,U C v c] 49)⟩
  ·obtain ⟨F,y⟩:=nm (nfS x.data.toList false)
   have E:Hx (fin=(decide ((0:Int)<=n) && decide (n<=0) && F && decide (v=2) && K)):=by show _=_;rw [u,y];simp
   have J:Hx (∀ X,Ov w X->Ro 66 #[.string x,zc false] X (zc F)):=fun X _=>by rw [y];exact BC x false X N
   clear u y N;go_enter Tryz.func70,Tryz.ntmps70;by_cases h1:0<=n
   ·by_cases h2:n<=0
    ·go_wp2_with fail
     refine (J.o _ (bA w (ze #[M O 4,M O a,M O n,.string x,U C v c] 49))).mono ?_;rintro e I ⟨rfl,A⟩;have r:Hx (Ov w I):=Ab (bA w (ze #[M O 4,M O a,M O n,.string x,U C v c] 49)) A;have b:Hx (Ae [M O 4,M O a,M O n,.string x,U C v c] I w.heap.size):=Ae.over (AW w [M O 4,M O a,M O n,.string x,U C v c] 49) A;clear A  J
     cases F with
     | true=>
      by_cases h3:v=2
      ·subst h3
       obtain ⟨l,j,i,g,f⟩:=rc5 b.o;go_wp2_with fail;refine (L.o _ r.o).mono ?_;rintro e H ⟨rfl,A⟩;have G:Hx (Ov w H):=Ab r.o A;have B:Hx (Ae [M O 4,M O a,M O n,.string x,U C 2 c] H w.heap.size):=b.o.over A;clear A l j i g f L;have m:Hx (fin=K):=by have h:=E.o;simp [h1,h2] at h;exact h
       obtain ⟨l,j,i,g,f⟩:=rc5 B.o;go_wp2_with fail;go_ret;exact ⟨by rw [m.o];(first | rfl | (simp;done) | (simp;assumption) | (simp;omega)),G.o⟩
      ·have R:¬ (v:Int)=2:=by omega
       have m:Hx (fin=false):=by have h:=E.o;simp [h3] at h;exact h
       obtain ⟨l,j,i,g,f⟩:=rc5 b.o;go_wp2_with fail;go_ret;exact ⟨by rw [m.o];(first | rfl | (simp;done) | (simp;assumption) | (simp;omega)),r.o⟩
     | false=>
      have m:Hx (fin=false):=by have h:=E.o;simp at h;exact h
      obtain ⟨l,j,i,g,f⟩:=rc5 b.o;go_wp2_with fail;go_ret;exact ⟨by rw [m.o];(first | rfl | (simp;done) | (simp;assumption) | (simp;omega)),r.o⟩
    ·have m:Hx (fin=false):=by have h:=E.o;simp [h2] at h;exact h
     go_wp2_with fail;go_ret;exact ⟨by rw [m.o];(first | rfl | (simp;done) | (simp;assumption) | (simp;omega)),bA w (ze #[M O 4,M O a,M O n,.string x,U C v c] 49)⟩
   ·have m:Hx (fin=false):=by have h:=E.o;simp [h1] at h;exact h
    go_wp2_with fail;go_ret;exact ⟨by rw [m.o];(first | rfl | (simp;done) | (simp;assumption) | (simp;omega)),bA w (ze #[M O 4,M O a,M O n,.string x,U C v c] 49)⟩
  ·obtain ⟨F,y⟩:=nm (nfS x.data.toList false)
   have E:Hx (fin=(decide ((0:Int)<=n) && decide (n<=0) && F && decide (v=2) && K)):=by show _=_;rw [u,y];simp
   have J:Hx (∀ X,Ov w X->Ro 66 #[.string x,zc false] X (zc F)):=fun X _=>by rw [y];exact BC x false X N
   clear u y N;go_enter Tryz.func70,Tryz.ntmps70;by_cases h1:0<=n
   ·by_cases h2:n<=0
    ·go_wp2_with fail
     refine (J.o _ (bA w (ze #[M O 5,M O a,M O n,.string x,U C v c] 49))).mono ?_;rintro e I ⟨rfl,A⟩;have r:Hx (Ov w I):=Ab (bA w (ze #[M O 5,M O a,M O n,.string x,U C v c] 49)) A;have b:Hx (Ae [M O 5,M O a,M O n,.string x,U C v c] I w.heap.size):=Ae.over (AW w [M O 5,M O a,M O n,.string x,U C v c] 49) A;clear A  J
     cases F with
     | true=>
      by_cases h3:v=2
      ·subst h3
       obtain ⟨l,j,i,g,f⟩:=rc5 b.o;go_wp2_with fail;refine (L.o _ r.o).mono ?_;rintro e H ⟨rfl,A⟩;have G:Hx (Ov w H):=Ab r.o A;have B:Hx (Ae [M O 5,M O a,M O n,.string x,U C 2 c] H w.heap.size):=b.o.over A;clear A l j i g f L;have m:Hx (fin=K):=by have h:=E.o;simp [h1,h2] at h;exact h
       obtain ⟨l,j,i,g,f⟩:=rc5 B.o;go_wp2_with fail;go_ret;exact ⟨by rw [m.o];(first | rfl | (simp;done) | (simp;assumption) | (simp;omega)),G.o⟩
      ·have R:¬ (v:Int)=2:=by omega
       have m:Hx (fin=false):=by have h:=E.o;simp [h3] at h;exact h
       obtain ⟨l,j,i,g,f⟩:=rc5 b.o;go_wp2_with fail;go_ret;exact ⟨by rw [m.o];(first | rfl | (simp;done) | (simp;assumption) | (simp;omega)),r.o⟩
     | false=>
      have m:Hx (fin=false):=by have h:=E.o;simp at h;exact h
      obtain ⟨l,j,i,g,f⟩:=rc5 b.o;go_wp2_with fail;go_ret;exact ⟨by rw [m.o];(first | rfl | (simp;done) | (simp;assumption) | (simp;omega)),r.o⟩
    ·have m:Hx (fin=false):=by have h:=E.o;simp [h2] at h;exact h
     go_wp2_with fail;go_ret;exact ⟨by rw [m.o];(first | rfl | (simp;done) | (simp;assumption) | (simp;omega)),bA w (ze #[M O 5,M O a,M O n,.string x,U C v c] 49)⟩
   ·have m:Hx (fin=false):=by have h:=E.o;simp [h1] at h;exact h
    go_wp2_with fail;go_ret;exact ⟨by rw [m.o];(first | rfl | (simp;done) | (simp;assumption) | (simp;omega)),bA w (ze #[M O 5,M O a,M O n,.string x,U C v c] 49)⟩
  ·obtain ⟨F,y⟩:=nm (nfS x.data.toList false)
   have E:Hx (fin=(decide ((0:Int)<=n) && decide (n<=0) && F && decide (v=2) && K)):=by show _=_;rw [u,y];simp
   have J:Hx (∀ X,Ov w X->Ro 66 #[.string x,zc false] X (zc F)):=fun X _=>by rw [y];exact BC x false X N
   clear u y N;go_enter Tryz.func70,Tryz.ntmps70;by_cases h1:0<=n
   ·by_cases h2:n<=0
    ·go_wp2_with fail
     refine (J.o _ (bA w (ze #[M O 6,M O a,M O n,.string x,U C v c] 49))).mono ?_;rintro e I ⟨rfl,A⟩;have r:Hx (Ov w I):=Ab (bA w (ze #[M O 6,M O a,M O n,.string x,U C v c] 49)) A;have b:Hx (Ae [M O 6,M O a,M O n,.string x,U C v c] I w.heap.size):=Ae.over (AW w [M O 6,M O a,M O n,.string x,U C v c] 49) A;clear A  J
     cases F with
     | true=>
      by_cases h3:v=2
      ·subst h3
       obtain ⟨l,j,i,g,f⟩:=rc5 b.o;go_wp2_with fail;refine (L.o _ r.o).mono ?_;rintro e H ⟨rfl,A⟩;have G:Hx (Ov w H):=Ab r.o A;have B:Hx (Ae [M O 6,M O a,M O n,.string x,U C 2 c] H w.heap.size):=b.o.over A;clear A l j i g f L;have m:Hx (fin=K):=by have h:=E.o;simp [h1,h2] at h;exact h
       obtain ⟨l,j,i,g,f⟩:=rc5 B.o;go_wp2_with fail;go_ret;exact ⟨by rw [m.o];(first | rfl | (simp;done) | (simp;assumption) | (simp;omega)),G.o⟩
      ·have R:¬ (v:Int)=2:=by omega
       have m:Hx (fin=false):=by have h:=E.o;simp [h3] at h;exact h
       obtain ⟨l,j,i,g,f⟩:=rc5 b.o;go_wp2_with fail;go_ret;exact ⟨by rw [m.o];(first | rfl | (simp;done) | (simp;assumption) | (simp;omega)),r.o⟩
     | false=>
      have m:Hx (fin=false):=by have h:=E.o;simp at h;exact h
      obtain ⟨l,j,i,g,f⟩:=rc5 b.o;go_wp2_with fail;go_ret;exact ⟨by rw [m.o];(first | rfl | (simp;done) | (simp;assumption) | (simp;omega)),r.o⟩
    ·have m:Hx (fin=false):=by have h:=E.o;simp [h2] at h;exact h
     go_wp2_with fail;go_ret;exact ⟨by rw [m.o];(first | rfl | (simp;done) | (simp;assumption) | (simp;omega)),bA w (ze #[M O 6,M O a,M O n,.string x,U C v c] 49)⟩
   ·have m:Hx (fin=false):=by have h:=E.o;simp [h1] at h;exact h
    go_wp2_with fail;go_ret;exact ⟨by rw [m.o];(first | rfl | (simp;done) | (simp;assumption) | (simp;omega)),bA w (ze #[M O 6,M O a,M O n,.string x,U C v c] 49)⟩
  ·obtain ⟨F,y⟩:=nm (nfS x.data.toList false)
   have E:Hx (fin=(decide ((0:Int)<=n) && decide (n<=0) && F && decide (v=2) && K)):=by show _=_;rw [u,y];simp
   have J:Hx (∀ X,Ov w X->Ro 66 #[.string x,zc false] X (zc F)):=fun X _=>by rw [y];exact BC x false X N
   clear u y N;go_enter Tryz.func70,Tryz.ntmps70;by_cases h1:0<=n
   ·by_cases h2:n<=0
    ·go_wp2_with fail
     refine (J.o _ (bA w (ze #[M O 7,M O a,M O n,.string x,U C v c] 49))).mono ?_;rintro e I ⟨rfl,A⟩;have r:Hx (Ov w I):=Ab (bA w (ze #[M O 7,M O a,M O n,.string x,U C v c] 49)) A;have b:Hx (Ae [M O 7,M O a,M O n,.string x,U C v c] I w.heap.size):=Ae.over (AW w [M O 7,M O a,M O n,.string x,U C v c] 49) A;clear A  J
     cases F with
     | true=>
      by_cases h3:v=2
      ·subst h3
       obtain ⟨l,j,i,g,f⟩:=rc5 b.o;go_wp2_with fail;refine (L.o _ r.o).mono ?_;rintro e H ⟨rfl,A⟩;have G:Hx (Ov w H):=Ab r.o A;have B:Hx (Ae [M O 7,M O a,M O n,.string x,U C 2 c] H w.heap.size):=b.o.over A;clear A l j i g f L;have m:Hx (fin=K):=by have h:=E.o;simp [h1,h2] at h;exact h
       obtain ⟨l,j,i,g,f⟩:=rc5 B.o;go_wp2_with fail;go_ret;exact ⟨by rw [m.o];(first | rfl | (simp;done) | (simp;assumption) | (simp;omega)),G.o⟩
      ·have R:¬ (v:Int)=2:=by omega
       have m:Hx (fin=false):=by have h:=E.o;simp [h3] at h;exact h
       obtain ⟨l,j,i,g,f⟩:=rc5 b.o;go_wp2_with fail;go_ret;exact ⟨by rw [m.o];(first | rfl | (simp;done) | (simp;assumption) | (simp;omega)),r.o⟩
     | false=>
      have m:Hx (fin=false):=by have h:=E.o;simp at h;exact h
      obtain ⟨l,j,i,g,f⟩:=rc5 b.o;go_wp2_with fail;go_ret;exact ⟨by rw [m.o];(first | rfl | (simp;done) | (simp;assumption) | (simp;omega)),r.o⟩
    ·have m:Hx (fin=false):=by have h:=E.o;simp [h2] at h;exact h
     go_wp2_with fail;go_ret;exact ⟨by rw [m.o];(first | rfl | (simp;done) | (simp;assumption) | (simp;omega)),bA w (ze #[M O 7,M O a,M O n,.string x,U C v c] 49)⟩
   ·have m:Hx (fin=false):=by have h:=E.o;simp [h1] at h;exact h
    go_wp2_with fail;go_ret;exact ⟨by rw [m.o];(first | rfl | (simp;done) | (simp;assumption) | (simp;omega)),bA w (ze #[M O 7,M O a,M O n,.string x,U C v c] 49)⟩
theorem H4 {k:Nat} (F:FuncId) (hC:∀ (args:Array Value) (w:World),(callFunc F args).run Tryz.prog w=.ok (.enter F args) w) (p:D->Bool) (l:List D) (ao:Option Addr) (cap:Nat) (may:Bool) (w:World) (hp:∀ (cs:List Value) (d:D) (X:World),d∈l->ZE X k cs d->Ro F #[.agg cs.toArray] X (zc (p d))) (hc:LS 5 (ZE w k) w (U ao l.length cap) l) :
  Ro 72 #[U ao l.length cap,zc may,.func (.func F) #[] #[]] w (zc (lfS l may p)):=by
 obtain ⟨fin,a⟩:=nm (lfS l may p);rw [<-a];unfold lfS at a;obtain ⟨n,b⟩:=nm (l.all p);have v:l.isEmpty=decide (l.length=0):=by cases l <;> simp
 rw [<-b,v] at a;have i:Hx (∀ X,Ov w X->Ro 111 #[U ao l.length cap,.func (.func F) #[] #[]] X (zc n)):=fun X x=>by rw [b];exact I8 F hC p l ao cap X hp (B2 x hc)
 have y:=hc.max;obtain ⟨u,f⟩:=nm l.length;rw [<-f] at a i y ⊢;have r:=Aa a;clear b hc hp f a v;go_enter Tryz.func72,Tryz.ntmps72
 cases may with
 | true=>
  go_wp2_with fail;refine (i.o _ (Below.refl _ _)).mono ?_;rintro e m ⟨rfl,g⟩;have c:Hx (Ov w m):=Ab (Below.refl _ _) g;clear g  i;have j:Hx (fin=n):=by have h:=r.o;simp at h;exact h
  go_wp2_with fail;go_ret;exact ⟨by rw [j.o];(first | rfl | (simp;done) | (simp;assumption) | (simp;omega)),c.o⟩
 | false=>
  by_cases h0:u=0
  ·subst h0
   go_wp2_with fail;refine (i.o _ (Below.refl _ _)).mono ?_;rintro e m ⟨rfl,g⟩;have c:Hx (Ov w m):=Ab (Below.refl _ _) g;clear g  i;have j:Hx (fin=n):=by have h:=r.o;simp at h;exact h
   go_wp2_with fail;go_ret;exact ⟨by rw [j.o];(first | rfl | (simp;done) | (simp;assumption) | (simp;omega)),c.o⟩
  ·have A:¬ (u:Int)=0:=by omega
   have j:Hx (fin=false):=by have h:=r.o;simp [h0] at h;exact h
   go_wp2_with fail;go_ret;exact ⟨by rw [j.o];(first | rfl | (simp;done) | (simp;assumption) | (simp;omega)),Below.refl _ _⟩
theorem Fk {ke k:Nat} (F:FuncId) (hC:∀ (args:Array Value) (w:World),(callFunc F args).run Tryz.prog w=.ok (.enter F args) w) (p:D->Bool) (l:List D) (ao:Option Addr) (cap:Nat) (may:Bool) (w:World) (hp:∀ (cs:List Value) (d:D) (X:World),d∈l->ZC X ke k cs d->Ro F #[.agg cs.toArray] X (zc (p d))) (hc:LS 12 (ZC w ke k) w (U ao l.length cap) l) :
  Ro 73 #[U ao l.length cap,zc may,.func (.func F) #[] #[]] w (zc (lfS l may p)):=by
 obtain ⟨fin,a⟩:=nm (lfS l may p);rw [<-a];unfold lfS at a;obtain ⟨n,b⟩:=nm (l.all p);have v:l.isEmpty=decide (l.length=0):=by cases l <;> simp
 rw [<-b,v] at a;have i:Hx (∀ X,Ov w X->Ro 35 #[U ao l.length cap,.func (.func F) #[] #[]] X (zc n)):=fun X x=>by rw [b];exact I9 F hC p l ao cap X hp (Ay x hc)
 have y:=hc.max;obtain ⟨u,f⟩:=nm l.length;rw [<-f] at a i y ⊢;have r:=Aa a;clear b hc hp f a v;go_enter Tryz.func73,Tryz.ntmps73
 cases may with
 | true=>
  go_wp2_with fail;refine (i.o _ (Below.refl _ _)).mono ?_;rintro e m ⟨rfl,g⟩;have c:Hx (Ov w m):=Ab (Below.refl _ _) g;clear g  i;have j:Hx (fin=n):=by have h:=r.o;simp at h;exact h
  go_wp2_with fail;go_ret;exact ⟨by rw [j.o];(first | rfl | (simp;done) | (simp;assumption) | (simp;omega)),c.o⟩
 | false=>
  by_cases h0:u=0
  ·subst h0
   go_wp2_with fail;refine (i.o _ (Below.refl _ _)).mono ?_;rintro e m ⟨rfl,g⟩;have c:Hx (Ov w m):=Ab (Below.refl _ _) g;clear g  i;have j:Hx (fin=n):=by have h:=r.o;simp at h;exact h
   go_wp2_with fail;go_ret;exact ⟨by rw [j.o];(first | rfl | (simp;done) | (simp;assumption) | (simp;omega)),c.o⟩
  ·have A:¬ (u:Int)=0:=by omega
   have j:Hx (fin=false):=by have h:=r.o;simp [h0] at h;exact h
   go_wp2_with fail;go_ret;exact ⟨by rw [j.o];(first | rfl | (simp;done) | (simp;assumption) | (simp;omega)),Below.refl _ _⟩
end Go.Proofs.YtipngnjffjajpaaGreatDoor.Tx
