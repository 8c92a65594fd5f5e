/- Package tree's Check: expressions that are fine. -/
import Derived.Test.YtipngnjffjajpaaGreatDoorI05
set_option linter.unusedVariables false
set_option maxHeartbeats 8000000
set_option maxRecDepth 100000
namespace Go.Proofs.YtipngnjffjajpaaGreatDoor.Tx
open Go.RowKit
open Go.Value renaming int -> A, slice -> O, bool -> zc, agg -> ze, pointer -> zf, tuple -> zh
open Go.IntKind renaming i64 -> J
open Go.Obj renaming cells -> zd
open Go.Ending renaming returned -> zg
theorem Em:∀ (k:Nat) (cs:List Value) (d:D) (w:World),ZE w k cs d->Ro 70 #[.agg cs.toArray] w (zc (efK k d)):=by
 intro k
 induction k with
 | zero=>intro cs d w h;exact h.elim
 | succ k ih=>
  intro cs d w h;obtain ⟨Q,a,n,x,E,c,T,rfl,rfl,P,V⟩:=h;obtain ⟨q,u⟩:=nm (efK (k+1) (eD Q a n x T));rw [<-u];simp only [efK,gEe] at u;obtain ⟨M,R⟩:=nm (T.all (efK k));rw [<-R] at u;have N:Hx (∀ X,Ov w X->Ro 111 #[O E T.length c,.func (.func 70) #[] #[]] X (zc M)):=fun X Z=>by rw [R];exact Jx 70 (fun W w=>by simp [go_sem]) (efK k) T E c X (fun cs d X _ h=>ih cs d X h) (Co Z V)
  have HL:=V.max;clear R ih V;show Ro 70 #[ze #[A J Q,A J a,A J n,.string x,O E T.length c]] w _;obtain ⟨v,U⟩:=nm T.length;rw [<-U] at u N HL ⊢;clear U;by_cases hlo:Q < 1
  ·have r:Hx (q=false):=by show _=_;rw [u,decide_eq_false (show ¬ 1<=Q by omega)];simp
   clear u;go_enter Tryz.func70,Tryz.ntmps70;go_wp2_with fail;go_ret;exact ⟨by rw [r.o];(first | rfl | (simp;done) | (simp;assumption) | (simp;omega)),bA _ _⟩
  by_cases hhi:7 < Q
  ·have r:Hx (q=false):=by show _=_;rw [u,decide_eq_false (show ¬ Q<=7 by omega)];simp
   clear u;go_enter Tryz.func70,Tryz.ntmps70;go_wp2_with fail;go_ret;exact ⟨by rw [r.o];(first | rfl | (simp;done) | (simp;assumption) | (simp;omega)),bA _ _⟩
  have Y:Q=1\/Q=2\/Q=3\/Q=4\/Q=5\/Q=6\/Q=7:=by omega
  clear hlo hhi;rcases Y with rfl | rfl | rfl | rfl | rfl | rfl | rfl
  ·obtain ⟨G,y⟩:=nm (nfS x.data.toList false)
   have F:Hx (q=(decide ((-9999999:Int)<=n) && decide (n<=9999999) && G && decide (v=0) && M)):=by show _=_;rw [u,y];simp
   have L:Hx (∀ X,Ov w X->Ro 66 #[.string x,zc false] X (zc G)):=fun X _=>by rw [y];exact Bn x false X P
   clear u y P;go_enter Tryz.func70,Tryz.ntmps70;by_cases h1:(-9999999:Int)<=n
   ·by_cases h2:n<=9999999
    ·go_wp2_with fail
     refine (L.o _ (bA w (zd #[A J 1,A J a,A J n,.string x,O E v c] 49))).mono ?_;rintro e K ⟨rfl,B⟩;have t:Hx (Ov w K):=Ab (bA w (zd #[A J 1,A J a,A J n,.string x,O E v c] 49)) B;have b:Hx (Ac [A J 1,A J a,A J n,.string x,O E v c] K w.heap.size):=Ac.over (Ai w [A J 1,A J a,A J n,.string x,O E v c] 49) B;clear B  L
     cases G with
     | true=>
      by_cases h3:v=0
      ·subst h3
       obtain ⟨l,j,i,g,f⟩:=rc5 b.o;go_wp2_with fail;refine (N.o _ t.o).mono ?_;rintro e I ⟨rfl,B⟩;have H:Hx (Ov w I):=Ab t.o B;have C:Hx (Ac [A J 1,A J a,A J n,.string x,O E 0 c] I w.heap.size):=b.o.over B;clear B l j i g f N;have r:Hx (q=M):=by have h:=F.o;simp [h1,h2] at h;exact h
       obtain ⟨l,j,i,g,f⟩:=rc5 C.o;go_wp2_with fail;go_ret;exact ⟨by rw [r.o];(first | rfl | (simp;done) | (simp;assumption) | (simp;omega)),H.o⟩
      ·have S:¬ (v:Int)=0:=by omega
       have r:Hx (q=false):=by have h:=F.o;simp [h3] at h;exact h
       obtain ⟨l,j,i,g,f⟩:=rc5 b.o;go_wp2_with fail;go_ret;exact ⟨by rw [r.o];(first | rfl | (simp;done) | (simp;assumption) | (simp;omega)),t.o⟩
     | false=>
      have r:Hx (q=false):=by have h:=F.o;simp at h;exact h
      obtain ⟨l,j,i,g,f⟩:=rc5 b.o;go_wp2_with fail;go_ret;exact ⟨by rw [r.o];(first | rfl | (simp;done) | (simp;assumption) | (simp;omega)),t.o⟩
    ·have r:Hx (q=false):=by have h:=F.o;simp [h2] at h;exact h
     go_wp2_with fail;go_ret;exact ⟨by rw [r.o];(first | rfl | (simp;done) | (simp;assumption) | (simp;omega)),bA w (zd #[A J 1,A J a,A J n,.string x,O E v c] 49)⟩
   ·have r:Hx (q=false):=by have h:=F.o;simp [h1] at h;exact h
    go_wp2_with fail;go_ret;exact ⟨by rw [r.o];(first | rfl | (simp;done) | (simp;assumption) | (simp;omega)),bA w (zd #[A J 1,A J a,A J n,.string x,O E v c] 49)⟩
  ·obtain ⟨G,y⟩:=nm (nfS x.data.toList true)
   have F:Hx (q=(decide ((0:Int)<=n) && decide (n<=0) && G && decide (v=0) && M)):=by show _=_;rw [u,y];simp
   have L:Hx (∀ X,Ov w X->Ro 66 #[.string x,zc true] X (zc G)):=fun X _=>by rw [y];exact Bn x true X P
   clear u y P;go_enter Tryz.func70,Tryz.ntmps70;by_cases h1:0<=n
   ·by_cases h2:n<=0
    ·go_wp2_with fail
     refine (L.o _ (bA w (zd #[A J 2,A J a,A J n,.string x,O E v c] 49))).mono ?_;rintro e K ⟨rfl,B⟩;have t:Hx (Ov w K):=Ab (bA w (zd #[A J 2,A J a,A J n,.string x,O E v c] 49)) B;have b:Hx (Ac [A J 2,A J a,A J n,.string x,O E v c] K w.heap.size):=Ac.over (Ai w [A J 2,A J a,A J n,.string x,O E v c] 49) B;clear B  L
     cases G with
     | true=>
      by_cases h3:v=0
      ·subst h3
       obtain ⟨l,j,i,g,f⟩:=rc5 b.o;go_wp2_with fail;refine (N.o _ t.o).mono ?_;rintro e I ⟨rfl,B⟩;have H:Hx (Ov w I):=Ab t.o B;have C:Hx (Ac [A J 2,A J a,A J n,.string x,O E 0 c] I w.heap.size):=b.o.over B;clear B l j i g f N;have r:Hx (q=M):=by have h:=F.o;simp [h1,h2] at h;exact h
       obtain ⟨l,j,i,g,f⟩:=rc5 C.o;go_wp2_with fail;go_ret;exact ⟨by rw [r.o];(first | rfl | (simp;done) | (simp;assumption) | (simp;omega)),H.o⟩
      ·have S:¬ (v:Int)=0:=by omega
       have r:Hx (q=false):=by have h:=F.o;simp [h3] at h;exact h
       obtain ⟨l,j,i,g,f⟩:=rc5 b.o;go_wp2_with fail;go_ret;exact ⟨by rw [r.o];(first | rfl | (simp;done) | (simp;assumption) | (simp;omega)),t.o⟩
     | false=>
      have r:Hx (q=false):=by have h:=F.o;simp at h;exact h
      obtain ⟨l,j,i,g,f⟩:=rc5 b.o;go_wp2_with fail;go_ret;exact ⟨by rw [r.o];(first | rfl | (simp;done) | (simp;assumption) | (simp;omega)),t.o⟩
    ·have r:Hx (q=false):=by have h:=F.o;simp [h2] at h;exact h
     go_wp2_with fail;go_ret;exact ⟨by rw [r.o];(first | rfl | (simp;done) | (simp;assumption) | (simp;omega)),bA w (zd #[A J 2,A J a,A J n,.string x,O E v c] 49)⟩
   ·have r:Hx (q=false):=by have h:=F.o;simp [h1] at h;exact h
    go_wp2_with fail;go_ret;exact ⟨by rw [r.o];(first | rfl | (simp;done) | (simp;assumption) | (simp;omega)),bA w (zd #[A J 2,A J a,A J n,.string x,O E v c] 49)⟩
  ·obtain ⟨G,y⟩:=nm (nfS x.data.toList false)
   have F:Hx (q=(decide ((0:Int)<=n) && decide (n<=0) && G && decide (v=2) && M)):=by show _=_;rw [u,y];simp
   have L:Hx (∀ X,Ov w X->Ro 66 #[.string x,zc false] X (zc G)):=fun X _=>by rw [y];exact Bn x false X P
   clear u y P;go_enter Tryz.func70,Tryz.ntmps70;by_cases h1:0<=n
   ·by_cases h2:n<=0
    ·go_wp2_with fail
     refine (L.o _ (bA w (zd #[A J 3,A J a,A J n,.string x,O E v c] 49))).mono ?_;rintro e K ⟨rfl,B⟩;have t:Hx (Ov w K):=Ab (bA w (zd #[A J 3,A J a,A J n,.string x,O E v c] 49)) B;have b:Hx (Ac [A J 3,A J a,A J n,.string x,O E v c] K w.heap.size):=Ac.over (Ai w [A J 3,A J a,A J n,.string x,O E v c] 49) B;clear B  L
     cases G with
     | true=>
      by_cases h3:v=2
      ·subst h3
       obtain ⟨l,j,i,g,f⟩:=rc5 b.o;go_wp2_with fail;refine (N.o _ t.o).mono ?_;rintro e I ⟨rfl,B⟩;have H:Hx (Ov w I):=Ab t.o B;have C:Hx (Ac [A J 3,A J a,A J n,.string x,O E 2 c] I w.heap.size):=b.o.over B;clear B l j i g f N;have r:Hx (q=M):=by have h:=F.o;simp [h1,h2] at h;exact h
       obtain ⟨l,j,i,g,f⟩:=rc5 C.o;go_wp2_with fail;go_ret;exact ⟨by rw [r.o];(first | rfl | (simp;done) | (simp;assumption) | (simp;omega)),H.o⟩
      ·have S:¬ (v:Int)=2:=by omega
       have r:Hx (q=false):=by have h:=F.o;simp [h3] at h;exact h
       obtain ⟨l,j,i,g,f⟩:=rc5 b.o;go_wp2_with fail;go_ret;exact ⟨by rw [r.o];(first | rfl | (simp;done) | (simp;assumption) | (simp;omega)),t.o⟩
     | false=>
      have r:Hx (q=false):=by have h:=F.o;simp at h;exact h
      obtain ⟨l,j,i,g,f⟩:=rc5 b.o;go_wp2_with fail;go_ret;exact ⟨by rw [r.o];(first | rfl | (simp;done) | (simp;assumption) | (simp;omega)),t.o⟩
    ·have r:Hx (q=false):=by have h:=F.o;simp [h2] at h;exact h
     go_wp2_with fail;go_ret;exact ⟨by rw [r.o];(first | rfl | (simp;done) | (simp;assumption) | (simp;omega)),bA w (zd #[A J 3,A J a,A J n,.string x,O E v c] 49)⟩
   ·have r:Hx (q=false):=by have h:=F.o;simp [h1] at h;exact h
    go_wp2_with fail;go_ret;exact ⟨by rw [r.o];(first | rfl | (simp;done) | (simp;assumption) | (simp;omega)),bA w (zd #[A J 3,A J a,A J n,.string x,O E v c] 49)⟩
  ·obtain ⟨G,y⟩:=nm (nfS x.data.toList false)
   have F:Hx (q=(decide ((0:Int)<=n) && decide (n<=0) && G && decide (v=2) && M)):=by show _=_;rw [u,y];simp
   have L:Hx (∀ X,Ov w X->Ro 66 #[.string x,zc false] X (zc G)):=fun X _=>by rw [y];exact Bn x false X P
   clear u y P;go_enter Tryz.func70,Tryz.ntmps70;by_cases h1:0<=n
   ·by_cases h2:n<=0
    ·go_wp2_with fail
     refine (L.o _ (bA w (zd #[A J 4,A J a,A J n,.string x,O E v c] 49))).mono ?_;rintro e K ⟨rfl,B⟩;have t:Hx (Ov w K):=Ab (bA w (zd #[A J 4,A J a,A J n,.string x,O E v c] 49)) B;have b:Hx (Ac [A J 4,A J a,A J n,.string x,O E v c] K w.heap.size):=Ac.over (Ai w [A J 4,A J a,A J n,.string x,O E v c] 49) B;clear B  L
     cases G with
     | true=>
      by_cases h3:v=2
      ·subst h3
       obtain ⟨l,j,i,g,f⟩:=rc5 b.o;go_wp2_with fail;refine (N.o _ t.o).mono ?_;rintro e I ⟨rfl,B⟩;have H:Hx (Ov w I):=Ab t.o B;have C:Hx (Ac [A J 4,A J a,A J n,.string x,O E 2 c] I w.heap.size):=b.o.over B;clear B l j i g f N;have r:Hx (q=M):=by have h:=F.o;simp [h1,h2] at h;exact h
       obtain ⟨l,j,i,g,f⟩:=rc5 C.o;go_wp2_with fail;go_ret;exact ⟨by rw [r.o];(first | rfl | (simp;done) | (simp;assumption) | (simp;omega)),H.o⟩
      ·have S:¬ (v:Int)=2:=by omega
       have r:Hx (q=false):=by have h:=F.o;simp [h3] at h;exact h
       obtain ⟨l,j,i,g,f⟩:=rc5 b.o;go_wp2_with fail;go_ret;exact ⟨by rw [r.o];(first | rfl | (simp;done) | (simp;assumption) | (simp;omega)),t.o⟩
     | false=>
      have r:Hx (q=false):=by have h:=F.o;simp at h;exact h
      obtain ⟨l,j,i,g,f⟩:=rc5 b.o;go_wp2_with fail;go_ret;exact ⟨by rw [r.o];(first | rfl | (simp;done) | (simp;assumption) | (simp;omega)),t.o⟩
    ·have r:Hx (q=false):=by have h:=F.o;simp [h2] at h;exact h
     go_wp2_with fail;go_ret;exact ⟨by rw [r.o];(first | rfl | (simp;done) | (simp;assumption) | (simp;omega)),bA w (zd #[A J 4,A J a,A J n,.string x,O E v c] 49)⟩
   ·have r:Hx (q=false):=by have h:=F.o;simp [h1] at h;exact h
    go_wp2_with fail;go_ret;exact ⟨by rw [r.o];(first | rfl | (simp;done) | (simp;assumption) | (simp;omega)),bA w (zd #[A J 4,A J a,A J n,.string x,O E v c] 49)⟩
  ·obtain ⟨G,y⟩:=nm (nfS x.data.toList false)
   have F:Hx (q=(decide ((0:Int)<=n) && decide (n<=0) && G && decide (v=2) && M)):=by show _=_;rw [u,y];simp
   have L:Hx (∀ X,Ov w X->Ro 66 #[.string x,zc false] X (zc G)):=fun X _=>by rw [y];exact Bn x false X P
   clear u y P;go_enter Tryz.func70,Tryz.ntmps70;by_cases h1:0<=n
   ·by_cases h2:n<=0
    ·go_wp2_with fail
     refine (L.o _ (bA w (zd #[A J 5,A J a,A J n,.string x,O E v c] 49))).mono ?_;rintro e K ⟨rfl,B⟩;have t:Hx (Ov w K):=Ab (bA w (zd #[A J 5,A J a,A J n,.string x,O E v c] 49)) B;have b:Hx (Ac [A J 5,A J a,A J n,.string x,O E v c] K w.heap.size):=Ac.over (Ai w [A J 5,A J a,A J n,.string x,O E v c] 49) B;clear B  L
     cases G with
     | true=>
      by_cases h3:v=2
      ·subst h3
       obtain ⟨l,j,i,g,f⟩:=rc5 b.o;go_wp2_with fail;refine (N.o _ t.o).mono ?_;rintro e I ⟨rfl,B⟩;have H:Hx (Ov w I):=Ab t.o B;have C:Hx (Ac [A J 5,A J a,A J n,.string x,O E 2 c] I w.heap.size):=b.o.over B;clear B l j i g f N;have r:Hx (q=M):=by have h:=F.o;simp [h1,h2] at h;exact h
       obtain ⟨l,j,i,g,f⟩:=rc5 C.o;go_wp2_with fail;go_ret;exact ⟨by rw [r.o];(first | rfl | (simp;done) | (simp;assumption) | (simp;omega)),H.o⟩
      ·have S:¬ (v:Int)=2:=by omega
       have r:Hx (q=false):=by have h:=F.o;simp [h3] at h;exact h
       obtain ⟨l,j,i,g,f⟩:=rc5 b.o;go_wp2_with fail;go_ret;exact ⟨by rw [r.o];(first | rfl | (simp;done) | (simp;assumption) | (simp;omega)),t.o⟩
     | false=>
      have r:Hx (q=false):=by have h:=F.o;simp at h;exact h
      obtain ⟨l,j,i,g,f⟩:=rc5 b.o;go_wp2_with fail;go_ret;exact ⟨by rw [r.o];(first | rfl | (simp;done) | (simp;assumption) | (simp;omega)),t.o⟩
    ·have r:Hx (q=false):=by have h:=F.o;simp [h2] at h;exact h
     go_wp2_with fail;go_ret;exact ⟨by rw [r.o];(first | rfl | (simp;done) | (simp;assumption) | (simp;omega)),bA w (zd #[A J 5,A J a,A J n,.string x,O E v c] 49)⟩
   ·have r:Hx (q=false):=by have h:=F.o;simp [h1] at h;exact h
    go_wp2_with fail;go_ret;exact ⟨by rw [r.o];(first | rfl | (simp;done) | (simp;assumption) | (simp;omega)),bA w (zd #[A J 5,A J a,A J n,.string x,O E v c] 49)⟩
  ·obtain ⟨G,y⟩:=nm (nfS x.data.toList false)
   have F:Hx (q=(decide ((0:Int)<=n) && decide (n<=0) && G && decide (v=2) && M)):=by show _=_;rw [u,y];simp
   have L:Hx (∀ X,Ov w X->Ro 66 #[.string x,zc false] X (zc G)):=fun X _=>by rw [y];exact Bn x false X P
   clear u y P;go_enter Tryz.func70,Tryz.ntmps70;by_cases h1:0<=n
   ·by_cases h2:n<=0
    ·go_wp2_with fail
     refine (L.o _ (bA w (zd #[A J 6,A J a,A J n,.string x,O E v c] 49))).mono ?_;rintro e K ⟨rfl,B⟩;have t:Hx (Ov w K):=Ab (bA w (zd #[A J 6,A J a,A J n,.string x,O E v c] 49)) B;have b:Hx (Ac [A J 6,A J a,A J n,.string x,O E v c] K w.heap.size):=Ac.over (Ai w [A J 6,A J a,A J n,.string x,O E v c] 49) B;clear B  L
     cases G with
     | true=>
      by_cases h3:v=2
      ·subst h3
       obtain ⟨l,j,i,g,f⟩:=rc5 b.o;go_wp2_with fail;refine (N.o _ t.o).mono ?_;rintro e I ⟨rfl,B⟩;have H:Hx (Ov w I):=Ab t.o B;have C:Hx (Ac [A J 6,A J a,A J n,.string x,O E 2 c] I w.heap.size):=b.o.over B;clear B l j i g f N;have r:Hx (q=M):=by have h:=F.o;simp [h1,h2] at h;exact h
       obtain ⟨l,j,i,g,f⟩:=rc5 C.o;go_wp2_with fail;go_ret;exact ⟨by rw [r.o];(first | rfl | (simp;done) | (simp;assumption) | (simp;omega)),H.o⟩
      ·have S:¬ (v:Int)=2:=by omega
       have r:Hx (q=false):=by have h:=F.o;simp [h3] at h;exact h
       obtain ⟨l,j,i,g,f⟩:=rc5 b.o;go_wp2_with fail;go_ret;exact ⟨by rw [r.o];(first | rfl | (simp;done) | (simp;assumption) | (simp;omega)),t.o⟩
     | false=>
      have r:Hx (q=false):=by have h:=F.o;simp at h;exact h
      obtain ⟨l,j,i,g,f⟩:=rc5 b.o;go_wp2_with fail;go_ret;exact ⟨by rw [r.o];(first | rfl | (simp;done) | (simp;assumption) | (simp;omega)),t.o⟩
    ·have r:Hx (q=false):=by have h:=F.o;simp [h2] at h;exact h
     go_wp2_with fail;go_ret;exact ⟨by rw [r.o];(first | rfl | (simp;done) | (simp;assumption) | (simp;omega)),bA w (zd #[A J 6,A J a,A J n,.string x,O E v c] 49)⟩
   ·have r:Hx (q=false):=by have h:=F.o;simp [h1] at h;exact h
    go_wp2_with fail;go_ret;exact ⟨by rw [r.o];(first | rfl | (simp;done) | (simp;assumption) | (simp;omega)),bA w (zd #[A J 6,A J a,A J n,.string x,O E v c] 49)⟩
  ·obtain ⟨G,y⟩:=nm (nfS x.data.toList false)
   have F:Hx (q=(decide ((0:Int)<=n) && decide (n<=0) && G && decide (v=2) && M)):=by show _=_;rw [u,y];simp
   have L:Hx (∀ X,Ov w X->Ro 66 #[.string x,zc false] X (zc G)):=fun X _=>by rw [y];exact Bn x false X P
   clear u y P;go_enter Tryz.func70,Tryz.ntmps70;by_cases h1:0<=n
   ·by_cases h2:n<=0
    ·go_wp2_with fail
     refine (L.o _ (bA w (zd #[A J 7,A J a,A J n,.string x,O E v c] 49))).mono ?_;rintro e K ⟨rfl,B⟩;have t:Hx (Ov w K):=Ab (bA w (zd #[A J 7,A J a,A J n,.string x,O E v c] 49)) B;have b:Hx (Ac [A J 7,A J a,A J n,.string x,O E v c] K w.heap.size):=Ac.over (Ai w [A J 7,A J a,A J n,.string x,O E v c] 49) B;clear B  L
     cases G with
     | true=>
      by_cases h3:v=2
      ·subst h3
       obtain ⟨l,j,i,g,f⟩:=rc5 b.o;go_wp2_with fail;refine (N.o _ t.o).mono ?_;rintro e I ⟨rfl,B⟩;have H:Hx (Ov w I):=Ab t.o B;have C:Hx (Ac [A J 7,A J a,A J n,.string x,O E 2 c] I w.heap.size):=b.o.over B;clear B l j i g f N;have r:Hx (q=M):=by have h:=F.o;simp [h1,h2] at h;exact h
       obtain ⟨l,j,i,g,f⟩:=rc5 C.o;go_wp2_with fail;go_ret;exact ⟨by rw [r.o];(first | rfl | (simp;done) | (simp;assumption) | (simp;omega)),H.o⟩
      ·have S:¬ (v:Int)=2:=by omega
       have r:Hx (q=false):=by have h:=F.o;simp [h3] at h;exact h
       obtain ⟨l,j,i,g,f⟩:=rc5 b.o;go_wp2_with fail;go_ret;exact ⟨by rw [r.o];(first | rfl | (simp;done) | (simp;assumption) | (simp;omega)),t.o⟩
     | false=>
      have r:Hx (q=false):=by have h:=F.o;simp at h;exact h
      obtain ⟨l,j,i,g,f⟩:=rc5 b.o;go_wp2_with fail;go_ret;exact ⟨by rw [r.o];(first | rfl | (simp;done) | (simp;assumption) | (simp;omega)),t.o⟩
    ·have r:Hx (q=false):=by have h:=F.o;simp [h2] at h;exact h
     go_wp2_with fail;go_ret;exact ⟨by rw [r.o];(first | rfl | (simp;done) | (simp;assumption) | (simp;omega)),bA w (zd #[A J 7,A J a,A J n,.string x,O E v c] 49)⟩
   ·have r:Hx (q=false):=by have h:=F.o;simp [h1] at h;exact h
    go_wp2_with fail;go_ret;exact ⟨by rw [r.o];(first | rfl | (simp;done) | (simp;assumption) | (simp;omega)),bA w (zd #[A J 7,A J a,A J n,.string x,O E v c] 49)⟩
theorem Iu {k:Nat} (F:FuncId) (hC:∀ (args:Array Value) (w:World),(callFunc F args).run Tryz.prog w=.ok (.enter F args) w) (p:D->Bool) (l:List D) (ao:Option Addr) (cap:Nat) (may:Bool) (w:World) (hp:∀ (cs:List Value) (d:D) (X:World),d∈l->ZE X k cs d->Ro F #[.agg cs.toArray] X (zc (p d))) (hc:LS 5 (ZE w k) w (O ao l.length cap) l) :
  Ro 72 #[O ao l.length cap,zc may,.func (.func F) #[] #[]] w (zc (lfS l may p)):=by
 obtain ⟨c,a⟩:=nm (lfS l may p);rw [<-a];unfold lfS at a;obtain ⟨r,b⟩:=nm (l.all p);have v:l.isEmpty=decide (l.length=0):=by cases l <;> simp
 rw [<-b,v] at a;have j:Hx (∀ X,Ov w X->Ro 111 #[O ao l.length cap,.func (.func F) #[] #[]] X (zc r)):=fun X x=>by rw [b];exact Jx F hC p l ao cap X hp (Co x hc)
 have y:=hc.max;obtain ⟨u,g⟩:=nm l.length;rw [<-g] at a j y ⊢;have t:=Aa a;clear b hc hp g a v;go_enter Tryz.func72,Tryz.ntmps72
 cases may with
 | true=>
  go_wp2_with fail;refine (j.o _ (Below.refl _ _)).mono ?_;rintro e q ⟨rfl,i⟩;have f:Hx (Ov w q):=Ab (Below.refl _ _) i;clear i  j;have n:Hx (c=r):=by have h:=t.o;simp at h;exact h
  go_wp2_with fail;go_ret;exact ⟨by rw [n.o];(first | rfl | (simp;done) | (simp;assumption) | (simp;omega)),f.o⟩
 | false=>
  by_cases h0:u=0
  ·subst h0
   go_wp2_with fail;refine (j.o _ (Below.refl _ _)).mono ?_;rintro e q ⟨rfl,i⟩;have f:Hx (Ov w q):=Ab (Below.refl _ _) i;clear i  j;have n:Hx (c=r):=by have h:=t.o;simp at h;exact h
   go_wp2_with fail;go_ret;exact ⟨by rw [n.o];(first | rfl | (simp;done) | (simp;assumption) | (simp;omega)),f.o⟩
  ·have A:¬ (u:Int)=0:=by omega
   have n:Hx (c=false):=by have h:=t.o;simp [h0] at h;exact h
   go_wp2_with fail;go_ret;exact ⟨by rw [n.o];(first | rfl | (simp;done) | (simp;assumption) | (simp;omega)),Below.refl _ _⟩
theorem Fl {ke k:Nat} (F:FuncId) (hC:∀ (args:Array Value) (w:World),(callFunc F args).run Tryz.prog w=.ok (.enter F args) w) (p:D->Bool) (l:List D) (ao:Option Addr) (cap:Nat) (may:Bool) (w:World) (hp:∀ (cs:List Value) (d:D) (X:World),d∈l->ZC X ke k cs d->Ro F #[.agg cs.toArray] X (zc (p d))) (hc:LS 12 (ZC w ke k) w (O ao l.length cap) l) :
  Ro 73 #[O ao l.length cap,zc may,.func (.func F) #[] #[]] w (zc (lfS l may p)):=by
 obtain ⟨c,a⟩:=nm (lfS l may p);rw [<-a];unfold lfS at a;obtain ⟨r,b⟩:=nm (l.all p);have v:l.isEmpty=decide (l.length=0):=by cases l <;> simp
 rw [<-b,v] at a;have j:Hx (∀ X,Ov w X->Ro 35 #[O ao l.length cap,.func (.func F) #[] #[]] X (zc r)):=fun X x=>by rw [b];exact Jy F hC p l ao cap X hp (Ao x hc)
 have y:=hc.max;obtain ⟨u,g⟩:=nm l.length;rw [<-g] at a j y ⊢;have t:=Aa a;clear b hc hp g a v;go_enter Tryz.func73,Tryz.ntmps73
 cases may with
 | true=>
  go_wp2_with fail;refine (j.o _ (Below.refl _ _)).mono ?_;rintro e q ⟨rfl,i⟩;have f:Hx (Ov w q):=Ab (Below.refl _ _) i;clear i  j;have n:Hx (c=r):=by have h:=t.o;simp at h;exact h
  go_wp2_with fail;go_ret;exact ⟨by rw [n.o];(first | rfl | (simp;done) | (simp;assumption) | (simp;omega)),f.o⟩
 | false=>
  by_cases h0:u=0
  ·subst h0
   go_wp2_with fail;refine (j.o _ (Below.refl _ _)).mono ?_;rintro e q ⟨rfl,i⟩;have f:Hx (Ov w q):=Ab (Below.refl _ _) i;clear i  j;have n:Hx (c=r):=by have h:=t.o;simp at h;exact h
   go_wp2_with fail;go_ret;exact ⟨by rw [n.o];(first | rfl | (simp;done) | (simp;assumption) | (simp;omega)),f.o⟩
  ·have A:¬ (u:Int)=0:=by omega
   have n:Hx (c=false):=by have h:=t.o;simp [h0] at h;exact h
   go_wp2_with fail;go_ret;exact ⟨by rw [n.o];(first | rfl | (simp;done) | (simp;assumption) | (simp;omega)),Below.refl _ _⟩
theorem BH (f:List UInt8->Bool) (ns:List ByteArray):((ns.map dS).all fun x=>f (asS x))=ns.all fun x=>f x.data.toList:=by
 rw [List.all_map];rfl
theorem BG {α:Type} (l:List α):l.isEmpty=decide (l.length=0):=by cases l <;> simp
theorem GU (cs:List Value) (d:D) (w:World) (h:ZP w cs d):Ro 109 #[.agg cs.toArray] w (zc (BW d)):=by
 obtain ⟨a,o,wr,q,n,l,rfl,rfl,L,C⟩:=h;obtain ⟨B,b⟩:=nm (BW (C1 a o wr l));rw [<-b];unfold BW at b;simp only [gPp,BH nmS] at b;obtain ⟨I,r⟩:=nm (nmS o.data.toList);obtain ⟨K,t⟩:=nm (l.all fun x=>nmS x.data.toList);rw [<-r,<-t] at b;have Q:=Aa b;have N:Hx (∀ X,Ov w X->Ro 65 #[.string o] X (zc I)):=fun X _=>by rw [r];exact De o X L
 have P:Hx (∀ X,Ov w X->Ro 110 #[O q l.length n,.func (.func 65) #[] #[]] X (zc K)):=fun X S=>by rw [t];exact MR 65 (fun M w=>by simp [go_sem]) _ l q n X (fun x X R=>De x X R) (BB S C)
 have T:=C.max;clear b r t C L;show Ro 109 #[ze #[A J a,.string o,zc wr,O q l.length n]] w _;go_enter Tryz.func109,Tryz.ntmps109;go_wp2_with fail;refine (N.o _ (bA w (zd #[A J a,.string o,zc wr,O q l.length n] 53))).mono ?_;rintro e H ⟨rfl,u⟩;have y:Hx (Ov w H):=Ab (bA w (zd #[A J a,.string o,zc wr,O q l.length n] 53)) u;have c:Hx (Ac [A J a,.string o,zc wr,O q l.length n] H w.heap.size):=Ac.over (Ai w [A J a,.string o,zc wr,O q l.length n] 53) u;clear u  N
 cases I with
 | true=>
  obtain ⟨j,i,g,f⟩:=rc4 c.o;go_wp2_with fail;refine (P.o _ (y.o)).mono ?_;rintro e G ⟨rfl,u⟩;have F:Hx (Ov w G):=Ab (y.o) u;have v:Hx (Ac [A J a,.string o,zc wr,O q l.length n] G w.heap.size):=c.o.over u;clear u j i g f P;have E:Hx (B=K):=by have h:=Q.o;simp at h;exact h
  obtain ⟨j,i,g,f⟩:=rc4 v.o;go_wp2_with fail;go_ret;exact ⟨by rw [E.o];(first | rfl | (simp;done) | (simp;assumption) | (simp;omega)),F.o⟩
 | false=>
  have E:Hx (B=false):=by have h:=Q.o;simp at h;exact h
  obtain ⟨j,i,g,f⟩:=rc4 c.o;go_wp2_with fail;go_ret;exact ⟨by rw [E.o];(first | rfl | (simp;done) | (simp;assumption) | (simp;omega)),y.o⟩
theorem Iy (ke kc:Nat) (cs:List Value) (d:D) (w:World) (h:ZD w ke kc cs d):Ro 67 #[.agg cs.toArray] w (zc (CJ d)):=by
 obtain ⟨kd,a,x,y,gv,g,f,lb,C,v,ps,E,B,ab,u,t,n,l,q,j,i,r,rfl,rfl,-,-,hL,hP,hB,-⟩:=h;obtain ⟨F,b⟩:=nm (CJ (deD kd a x y gv lb ps ab r));rw [<-b];unfold CJ at b;simp only [gDd] at b;obtain ⟨qa,ae⟩:=nm (lb.all BW);have he:(lb≠[])=(lb.length≠0):=by simp
 simp only [<-ae,he] at b;have KA:Hx (∀ X,Ov w X->Ro 105 #[O g lb.length f,.func (.func 109) #[] #[]] X (zc qa)):=fun X hX=>by rw [ae];exact MQ 109 (fun al w=>by simp [go_sem]) BW lb g f X (fun cs d X _ h=>GU cs d X h) (CF hX hL)
 have aj:=hL.max;clear ae hL hP hB he;show Ro 67 #[ze #[A J kd,A J a,.string x,.string y,zc gv,O g lb.length f,O C ps.length v,O E ab.length B,A J u,A J t,A J n,.string l,O q j i]] w _;generalize lb.length=nL at b KA aj ⊢;generalize ps.length=nP at ⊢;generalize ab.length=nB at ⊢
 cases gv with
 | false=>
  by_cases h0:nL=0
  ·subst h0
   by_cases h4:kd=4
   ·subst h4
    have G:Hx (F=false):=by show _=_;rw [b];simp
    clear b;go_enter Tryz.func67,Tryz.ntmps67;go_wp2_with fail;go_ret;exact ⟨by rw [G.o];(first | rfl | (simp;done) | (simp;assumption) | (simp;omega)),bA w (zd #[A J 4,A J a,.string x,.string y,zc false,O g 0 f,O C nP v,O E nB B,A J u,A J t,A J n,.string l,O q j i] 51)⟩
   by_cases h5:kd=5
   ·subst h5
    have G:Hx (F=false):=by show _=_;rw [b];simp
    clear b;go_enter Tryz.func67,Tryz.ntmps67;go_wp2_with fail;go_ret;exact ⟨by rw [G.o];(first | rfl | (simp;done) | (simp;assumption) | (simp;omega)),bA w (zd #[A J 5,A J a,.string x,.string y,zc false,O g 0 f,O C nP v,O E nB B,A J u,A J t,A J n,.string l,O q j i] 51)⟩
   by_cases h6:kd=6
   ·subst h6
    have G:Hx (F=qa):=by show _=_;rw [b];simp
    clear b;go_enter Tryz.func67,Tryz.ntmps67;go_wp2_with fail;refine (KA.o _ (bA w (zd #[A J 6,A J a,.string x,.string y,zc false,O g 0 f,O C nP v,O E nB B,A J u,A J t,A J n,.string l,O q j i] 51))).mono ?_;rintro e N ⟨rfl,L⟩;have M:Hx (Ov w N):=Ab (bA w (zd #[A J 6,A J a,.string x,.string y,zc false,O g 0 f,O C nP v,O E nB B,A J u,A J t,A J n,.string l,O q j i] 51)) L;have c:Hx (Ac [A J 6,A J a,.string x,.string y,zc false,O g 0 f,O C nP v,O E nB B,A J u,A J t,A J n,.string l,O q j i] N w.heap.size):=Ac.over (Ai w [A J 6,A J a,.string x,.string y,zc false,O g 0 f,O C nP v,O E nB B,A J u,A J t,A J n,.string l,O q j i] 51) L;clear L  KA;obtain ⟨Z,Y,W,V,U,T,S,R,Q,P,K,I,H⟩:=Ah c.o;go_wp2_with fail;go_ret;exact ⟨by rw [G.o];(first | rfl | (simp;done) | (simp;assumption) | (simp;omega)),M.o⟩
   have G:Hx (F=true):=by show _=_;rw [b];simp [h4,h5,h6]
   clear b;go_enter Tryz.func67,Tryz.ntmps67;go_wp2_with fail;go_ret;exact ⟨by rw [G.o];(first | rfl | (simp;done) | (simp;assumption) | (simp;omega)),bA w (zd #[A J kd,A J a,.string x,.string y,zc false,O g 0 f,O C nP v,O E nB B,A J u,A J t,A J n,.string l,O q j i] 51)⟩
  ·have hi:(0:Int) < (nL:Int):=by omega
   have hn:0 < nL:=by omega
   have G:Hx (F=false):=by show _=_;rw [b];simp [h0]
   clear b;go_enter Tryz.func67,Tryz.ntmps67;go_wp2_with fail;go_ret;exact ⟨by rw [G.o];(first | rfl | (simp;done) | (simp;assumption) | (simp;omega)),bA w (zd #[A J kd,A J a,.string x,.string y,zc false,O g nL f,O C nP v,O E nB B,A J u,A J t,A J n,.string l,O q j i] 51)⟩
 | true=>
  by_cases h4:kd=4
  ·subst h4
   have G:Hx (F=qa):=by show _=_;rw [b];simp
   clear b;go_enter Tryz.func67,Tryz.ntmps67;go_wp2_with fail;refine (KA.o _ (bA w (zd #[A J 4,A J a,.string x,.string y,zc true,O g nL f,O C nP v,O E nB B,A J u,A J t,A J n,.string l,O q j i] 51))).mono ?_;rintro e N ⟨rfl,L⟩;have M:Hx (Ov w N):=Ab (bA w (zd #[A J 4,A J a,.string x,.string y,zc true,O g nL f,O C nP v,O E nB B,A J u,A J t,A J n,.string l,O q j i] 51)) L;have c:Hx (Ac [A J 4,A J a,.string x,.string y,zc true,O g nL f,O C nP v,O E nB B,A J u,A J t,A J n,.string l,O q j i] N w.heap.size):=Ac.over (Ai w [A J 4,A J a,.string x,.string y,zc true,O g nL f,O C nP v,O E nB B,A J u,A J t,A J n,.string l,O q j i] 51) L;clear L  KA;obtain ⟨Z,Y,W,V,U,T,S,R,Q,P,K,I,H⟩:=Ah c.o;go_wp2_with fail;go_ret;exact ⟨by rw [G.o];(first | rfl | (simp;done) | (simp;assumption) | (simp;omega)),M.o⟩
  by_cases h5:kd=5
  ·subst h5
   have G:Hx (F=qa):=by show _=_;rw [b];simp
   clear b;go_enter Tryz.func67,Tryz.ntmps67;go_wp2_with fail;refine (KA.o _ (bA w (zd #[A J 5,A J a,.string x,.string y,zc true,O g nL f,O C nP v,O E nB B,A J u,A J t,A J n,.string l,O q j i] 51))).mono ?_;rintro e N ⟨rfl,L⟩;have M:Hx (Ov w N):=Ab (bA w (zd #[A J 5,A J a,.string x,.string y,zc true,O g nL f,O C nP v,O E nB B,A J u,A J t,A J n,.string l,O q j i] 51)) L;have c:Hx (Ac [A J 5,A J a,.string x,.string y,zc true,O g nL f,O C nP v,O E nB B,A J u,A J t,A J n,.string l,O q j i] N w.heap.size):=Ac.over (Ai w [A J 5,A J a,.string x,.string y,zc true,O g nL f,O C nP v,O E nB B,A J u,A J t,A J n,.string l,O q j i] 51) L;clear L  KA;obtain ⟨Z,Y,W,V,U,T,S,R,Q,P,K,I,H⟩:=Ah c.o;go_wp2_with fail;go_ret;exact ⟨by rw [G.o];(first | rfl | (simp;done) | (simp;assumption) | (simp;omega)),M.o⟩
  by_cases h6:kd=6
  ·subst h6
   have G:Hx (F=qa):=by show _=_;rw [b];simp
   clear b;go_enter Tryz.func67,Tryz.ntmps67;go_wp2_with fail;refine (KA.o _ (bA w (zd #[A J 6,A J a,.string x,.string y,zc true,O g nL f,O C nP v,O E nB B,A J u,A J t,A J n,.string l,O q j i] 51))).mono ?_;rintro e N ⟨rfl,L⟩;have M:Hx (Ov w N):=Ab (bA w (zd #[A J 6,A J a,.string x,.string y,zc true,O g nL f,O C nP v,O E nB B,A J u,A J t,A J n,.string l,O q j i] 51)) L;have c:Hx (Ac [A J 6,A J a,.string x,.string y,zc true,O g nL f,O C nP v,O E nB B,A J u,A J t,A J n,.string l,O q j i] N w.heap.size):=Ac.over (Ai w [A J 6,A J a,.string x,.string y,zc true,O g nL f,O C nP v,O E nB B,A J u,A J t,A J n,.string l,O q j i] 51) L;clear L  KA;obtain ⟨Z,Y,W,V,U,T,S,R,Q,P,K,I,H⟩:=Ah c.o;go_wp2_with fail;go_ret;exact ⟨by rw [G.o];(first | rfl | (simp;done) | (simp;assumption) | (simp;omega)),M.o⟩
  have G:Hx (F=false):=by show _=_;rw [b];simp [h4,h5,h6]
  clear b;go_enter Tryz.func67,Tryz.ntmps67;go_wp2_with fail;go_ret;exact ⟨by rw [G.o];(first | rfl | (simp;done) | (simp;assumption) | (simp;omega)),bA w (zd #[A J kd,A J a,.string x,.string y,zc true,O g nL f,O C nP v,O E nB B,A J u,A J t,A J n,.string l,O q j i] 51)⟩
theorem Ml (kd:Int) (w:World):Ro 69 #[A J kd] w (zh #[ze #[zc (EN kd),zc (EP kd),zc (Ej kd),zc (EQ kd),zc (EO kd),zc (Ek kd)],zc (hOk kd)]):=by
 by_cases hk:1<=kd/\kd<=8
 ·have h:kd=1\/kd=2\/kd=3\/kd=4\/kd=5\/kd=6\/kd=7\/kd=8:=by omega
  clear hk;rcases h with rfl | rfl | rfl | rfl | rfl | rfl | rfl | rfl
  ·show Ro 69 #[A J 1] w (zh #[ze #[zc true,zc false,zc true,zc false,zc false,zc false],zc true])
   go_enter Tryz.func69,Tryz.ntmps69;go_wp2_with fail;exact bodyPost_ret (v:=zh #[ze #[zc true,zc false,zc true,zc false,zc false,zc false],zc true]) (by simp [results,Tryz.results69,go_sem]) rfl ⟨rfl,bA _ _⟩
  ·show Ro 69 #[A J 2] w (zh #[ze #[zc true,zc true,zc false,zc true,zc false,zc false],zc true])
   go_enter Tryz.func69,Tryz.ntmps69;go_wp2_with fail;exact bodyPost_ret (v:=zh #[ze #[zc true,zc true,zc false,zc true,zc false,zc false],zc true]) (by simp [results,Tryz.results69,go_sem]) rfl ⟨rfl,bA _ _⟩
  ·show Ro 69 #[A J 3] w (zh #[ze #[zc true,zc true,zc false,zc false,zc false,zc false],zc true])
   go_enter Tryz.func69,Tryz.ntmps69;go_wp2_with fail;exact bodyPost_ret (v:=zh #[ze #[zc true,zc true,zc false,zc false,zc false,zc false],zc true]) (by simp [results,Tryz.results69,go_sem]) rfl ⟨rfl,bA _ _⟩
  ·show Ro 69 #[A J 4] w (zh #[ze #[zc false,zc true,zc true,zc false,zc false,zc false],zc true])
   go_enter Tryz.func69,Tryz.ntmps69;go_wp2_with fail;exact bodyPost_ret (v:=zh #[ze #[zc false,zc true,zc true,zc false,zc false,zc false],zc true]) (by simp [results,Tryz.results69,go_sem]) rfl ⟨rfl,bA _ _⟩
  ·show Ro 69 #[A J 5] w (zh #[ze #[zc true,zc false,zc true,zc false,zc false,zc false],zc true])
   go_enter Tryz.func69,Tryz.ntmps69;go_wp2_with fail;exact bodyPost_ret (v:=zh #[ze #[zc true,zc false,zc true,zc false,zc false,zc false],zc true]) (by simp [results,Tryz.results69,go_sem]) rfl ⟨rfl,bA _ _⟩
  ·show Ro 69 #[A J 6] w (zh #[ze #[zc true,zc false,zc true,zc false,zc false,zc false],zc true])
   go_enter Tryz.func69,Tryz.ntmps69;go_wp2_with fail;exact bodyPost_ret (v:=zh #[ze #[zc true,zc false,zc true,zc false,zc false,zc false],zc true]) (by simp [results,Tryz.results69,go_sem]) rfl ⟨rfl,bA _ _⟩
  ·show Ro 69 #[A J 7] w (zh #[ze #[zc false,zc false,zc true,zc false,zc true,zc true],zc true])
   go_enter Tryz.func69,Tryz.ntmps69;go_wp2_with fail;exact bodyPost_ret (v:=zh #[ze #[zc false,zc false,zc true,zc false,zc true,zc true],zc true]) (by simp [results,Tryz.results69,go_sem]) rfl ⟨rfl,bA _ _⟩
  ·show Ro 69 #[A J 8] w (zh #[ze #[zc false,zc false,zc true,zc false,zc true,zc false],zc true])
   go_enter Tryz.func69,Tryz.ntmps69;go_wp2_with fail;exact bodyPost_ret (v:=zh #[ze #[zc false,zc false,zc true,zc false,zc true,zc false],zc true]) (by simp [results,Tryz.results69,go_sem]) rfl ⟨rfl,bA _ _⟩
 ·have n:∀ j:Int,1<=j->j<=8->¬ kd=j:=fun j _ _ _=>hk (by omega)
  have C:(kd == 1)=false:=by simp;omega
  have B:(kd == 2)=false:=by simp;omega
  have y:(kd == 3)=false:=by simp;omega
  have x:(kd == 4)=false:=by simp;omega
  have u:(kd == 5)=false:=by simp;omega
  have t:(kd == 6)=false:=by simp;omega
  have r:(kd == 7)=false:=by simp;omega
  have q:(kd == 8)=false:=by simp;omega
  have l:EN kd=false:=by unfold EN;simp;omega
  have i:EP kd=false:=by unfold EP;simp;omega
  have g:Ej kd=false:=by unfold Ej;simp;omega
  have f:EQ kd=false:=by unfold EQ;simp;omega
  have c:EO kd=false:=by unfold EO;simp;omega
  have b:Ek kd=false:=by unfold Ek;simp;omega
  have a:hOk kd=false:=by unfold hOk;simp;omega
  rw [l,i,g,f,c,b,a];clear hk n l i g f c b a;go_enter Tryz.func69,Tryz.ntmps69;go_wp2_with fail;exact bodyPost_ret (v:=zh #[ze #[zc false,zc false,zc false,zc false,zc false,zc false],zc false]) (by simp [results,Tryz.results69,go_sem]) rfl ⟨rfl,bA _ _⟩
end Go.Proofs.YtipngnjffjajpaaGreatDoor.Tx
