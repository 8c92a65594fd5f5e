/- Package tree's Check: policies, labels, functions, commands, declarations that are fine. -/
import Derived.Test.YtipngnjffjajpaaGreatDoorH23
set_option linter.unusedVariables false
set_option maxHeartbeats 8000000
set_option maxRecDepth 100000
namespace Go.Proofs.YtipngnjffjajpaaGreatDoor.Tx
open Go.RowKit
open Go.Value renaming int -> M, slice -> U, bool -> zc, pointer -> zd, agg -> zf, tuple -> zh
open Go.IntKind renaming i64 -> O
open Go.Obj renaming cells -> ze
open Go.Ending renaming returned -> zg
theorem BW (f:List UInt8->Bool) (ns:List ByteArray):((ns.map dS).all fun x=>f (asS x))=ns.all fun x=>f x.data.toList:=by
 rw [List.all_map];rfl
theorem BV {α:Type} (l:List α):l.isEmpty=decide (l.length=0):=by cases l <;> simp
theorem GC (cs:List Value) (d:D) (w:World) (h:ZP w cs d):Ro 109 #[.agg cs.toArray] w (zc (Cv d)):=by
 obtain ⟨a,o,wr,m,l,k,rfl,rfl,I,A⟩:=h;obtain ⟨fin,b⟩:=nm (Cv (Dp a o wr k));rw [<-b];unfold Cv at b;simp only [gPp,BW nmS] at b;obtain ⟨G,n⟩:=nm (nmS o.data.toList);obtain ⟨H,r⟩:=nm (k.all fun x=>nmS x.data.toList);rw [<-n,<-r] at b;have N:=Aa b;have K:Hx (∀ X,Ov w X->Ro 65 #[.string o] X (zc G)):=fun X _=>by rw [n];exact Dt o X I
 have L:Hx (∀ X,Ov w X->Ro 110 #[U m k.length l,.func (.func 65) #[] #[]] X (zc H)):=fun X Q=>by rw [r];exact LT 65 (fun J w=>by simp [go_sem]) _ k m l X (fun x X P=>Dt x X P) (Br Q A)
 have R:=A.max;clear b n r A I;show Ro 109 #[zf #[M O a,.string o,zc wr,U m k.length l]] w _;go_enter Tryz.func109,Tryz.ntmps109;go_wp2_with fail;refine (K.o _ (bA w (ze #[M O a,.string o,zc wr,U m k.length l] 53))).mono ?_;rintro e F ⟨rfl,u⟩;have y:Hx (Ov w F):=Ab (bA w (ze #[M O a,.string o,zc wr,U m k.length l] 53)) u;have c:Hx (Ae [M O a,.string o,zc wr,U m k.length l] F w.heap.size):=Ae.over (AW w [M O a,.string o,zc wr,U m k.length l] 53) u;clear u  K
 cases G with
 | true=>
  obtain ⟨j,i,g,f⟩:=rc4 c.o;go_wp2_with fail;refine (L.o _ (y.o)).mono ?_;rintro e E ⟨rfl,u⟩;have C:Hx (Ov w E):=Ab (y.o) u;have v:Hx (Ae [M O a,.string o,zc wr,U m k.length l] E w.heap.size):=c.o.over u;clear u j i g f L;have B:Hx (fin=H):=by have h:=N.o;simp at h;exact h
  obtain ⟨j,i,g,f⟩:=rc4 v.o;go_wp2_with fail;go_ret;exact ⟨by rw [B.o];(first | rfl | (simp;done) | (simp;assumption) | (simp;omega)),C.o⟩
 | false=>
  have B:Hx (fin=false):=by have h:=N.o;simp at h;exact h
  obtain ⟨j,i,g,f⟩:=rc4 c.o;go_wp2_with fail;go_ret;exact ⟨by rw [B.o];(first | rfl | (simp;done) | (simp;assumption) | (simp;omega)),y.o⟩
theorem H5 (ke kc:Nat) (cs:List Value) (d:D) (w:World) (h:ZD w ke kc cs d):Ro 67 #[.agg cs.toArray] w (zc (Ds d)):=by
 obtain ⟨W,a,x,y,gv,g,f,lb,v,n,ps,A,u,Y,m,l,k,j,q,q1,i,r,rfl,rfl,-,-,hL,hP,hB,-⟩:=h;obtain ⟨fin,b⟩:=nm (Ds (deD W a x y gv lb ps Y r));rw [<-b];unfold Ds at b;simp only [gDd] at b;obtain ⟨qa,ab⟩:=nm (lb.all Cv);have he:(lb≠[])=(lb.length≠0):=by simp
 simp only [<-ab,he] at b;have Z:Hx (∀ X,Ov w X->Ro 105 #[U g lb.length f,.func (.func 109) #[] #[]] X (zc qa)):=fun X hX=>by rw [ab];exact LR 109 (fun ai w=>by simp [go_sem]) Cv lb g f X (fun cs d X _ h=>GC cs d X h) (FQ hX hL)
 have ag:=hL.max;clear ab hL hP hB he;show Ro 67 #[zf #[M O W,M O a,.string x,.string y,zc gv,U g lb.length f,U v ps.length n,U A Y.length u,M O m,M O l,M O k,.string j,U q q1 i]] w _;generalize lb.length=nL at b Z ag ⊢;generalize ps.length=nP at ⊢;generalize Y.length=nB at ⊢
 cases gv with
 | false=>
  by_cases h0:nL=0
  ·subst h0
   by_cases h4:W=4
   ·subst h4
    have B:Hx (fin=false):=by show _=_;rw [b];simp
    clear b;go_enter Tryz.func67,Tryz.ntmps67;go_wp2_with fail;go_ret;exact ⟨by rw [B.o];(first | rfl | (simp;done) | (simp;assumption) | (simp;omega)),bA w (ze #[M O 4,M O a,.string x,.string y,zc false,U g 0 f,U v nP n,U A nB u,M O m,M O l,M O k,.string j,U q q1 i] 51)⟩
   by_cases h5:W=5
   ·subst h5
    have B:Hx (fin=false):=by show _=_;rw [b];simp
    clear b;go_enter Tryz.func67,Tryz.ntmps67;go_wp2_with fail;go_ret;exact ⟨by rw [B.o];(first | rfl | (simp;done) | (simp;assumption) | (simp;omega)),bA w (ze #[M O 5,M O a,.string x,.string y,zc false,U g 0 f,U v nP n,U A nB u,M O m,M O l,M O k,.string j,U q q1 i] 51)⟩
   by_cases h6:W=6
   ·subst h6
    have B:Hx (fin=qa):=by show _=_;rw [b];simp
    clear b;go_enter Tryz.func67,Tryz.ntmps67;go_wp2_with fail;refine (Z.o _ (bA w (ze #[M O 6,M O a,.string x,.string y,zc false,U g 0 f,U v nP n,U A nB u,M O m,M O l,M O k,.string j,U q q1 i] 51))).mono ?_;rintro e I ⟨rfl,G⟩;have H:Hx (Ov w I):=Ab (bA w (ze #[M O 6,M O a,.string x,.string y,zc false,U g 0 f,U v nP n,U A nB u,M O m,M O l,M O k,.string j,U q q1 i] 51)) G;have c:Hx (Ae [M O 6,M O a,.string x,.string y,zc false,U g 0 f,U v nP n,U A nB u,M O m,M O l,M O k,.string j,U q q1 i] I w.heap.size):=Ae.over (AW w [M O 6,M O a,.string x,.string y,zc false,U g 0 f,U v nP n,U A nB u,M O m,M O l,M O k,.string j,U q q1 i] 51) G;clear G  Z;obtain ⟨V,T,S,R,Q,P,N,L,K,J,F,E,C⟩:=Ap c.o;go_wp2_with fail;go_ret;exact ⟨by rw [B.o];(first | rfl | (simp;done) | (simp;assumption) | (simp;omega)),H.o⟩
   have B:Hx (fin=true):=by show _=_;rw [b];simp [h4,h5,h6]
   clear b;go_enter Tryz.func67,Tryz.ntmps67;go_wp2_with fail;go_ret;exact ⟨by rw [B.o];(first | rfl | (simp;done) | (simp;assumption) | (simp;omega)),bA w (ze #[M O W,M O a,.string x,.string y,zc false,U g 0 f,U v nP n,U A nB u,M O m,M O l,M O k,.string j,U q q1 i] 51)⟩
  ·have hi:(0:Int) < (nL:Int):=by omega
   have hn:0 < nL:=by omega
   have B:Hx (fin=false):=by show _=_;rw [b];simp [h0]
   clear b;go_enter Tryz.func67,Tryz.ntmps67;go_wp2_with fail;go_ret;exact ⟨by rw [B.o];(first | rfl | (simp;done) | (simp;assumption) | (simp;omega)),bA w (ze #[M O W,M O a,.string x,.string y,zc false,U g nL f,U v nP n,U A nB u,M O m,M O l,M O k,.string j,U q q1 i] 51)⟩
 | true=>
  by_cases h4:W=4
  ·subst h4
   have B:Hx (fin=qa):=by show _=_;rw [b];simp
   clear b;go_enter Tryz.func67,Tryz.ntmps67;go_wp2_with fail;refine (Z.o _ (bA w (ze #[M O 4,M O a,.string x,.string y,zc true,U g nL f,U v nP n,U A nB u,M O m,M O l,M O k,.string j,U q q1 i] 51))).mono ?_;rintro e I ⟨rfl,G⟩;have H:Hx (Ov w I):=Ab (bA w (ze #[M O 4,M O a,.string x,.string y,zc true,U g nL f,U v nP n,U A nB u,M O m,M O l,M O k,.string j,U q q1 i] 51)) G;have c:Hx (Ae [M O 4,M O a,.string x,.string y,zc true,U g nL f,U v nP n,U A nB u,M O m,M O l,M O k,.string j,U q q1 i] I w.heap.size):=Ae.over (AW w [M O 4,M O a,.string x,.string y,zc true,U g nL f,U v nP n,U A nB u,M O m,M O l,M O k,.string j,U q q1 i] 51) G;clear G  Z;obtain ⟨V,T,S,R,Q,P,N,L,K,J,F,E,C⟩:=Ap c.o;go_wp2_with fail;go_ret;exact ⟨by rw [B.o];(first | rfl | (simp;done) | (simp;assumption) | (simp;omega)),H.o⟩
  by_cases h5:W=5
  ·subst h5
   have B:Hx (fin=qa):=by show _=_;rw [b];simp
   clear b;go_enter Tryz.func67,Tryz.ntmps67;go_wp2_with fail;refine (Z.o _ (bA w (ze #[M O 5,M O a,.string x,.string y,zc true,U g nL f,U v nP n,U A nB u,M O m,M O l,M O k,.string j,U q q1 i] 51))).mono ?_;rintro e I ⟨rfl,G⟩;have H:Hx (Ov w I):=Ab (bA w (ze #[M O 5,M O a,.string x,.string y,zc true,U g nL f,U v nP n,U A nB u,M O m,M O l,M O k,.string j,U q q1 i] 51)) G;have c:Hx (Ae [M O 5,M O a,.string x,.string y,zc true,U g nL f,U v nP n,U A nB u,M O m,M O l,M O k,.string j,U q q1 i] I w.heap.size):=Ae.over (AW w [M O 5,M O a,.string x,.string y,zc true,U g nL f,U v nP n,U A nB u,M O m,M O l,M O k,.string j,U q q1 i] 51) G;clear G  Z;obtain ⟨V,T,S,R,Q,P,N,L,K,J,F,E,C⟩:=Ap c.o;go_wp2_with fail;go_ret;exact ⟨by rw [B.o];(first | rfl | (simp;done) | (simp;assumption) | (simp;omega)),H.o⟩
  by_cases h6:W=6
  ·subst h6
   have B:Hx (fin=qa):=by show _=_;rw [b];simp
   clear b;go_enter Tryz.func67,Tryz.ntmps67;go_wp2_with fail;refine (Z.o _ (bA w (ze #[M O 6,M O a,.string x,.string y,zc true,U g nL f,U v nP n,U A nB u,M O m,M O l,M O k,.string j,U q q1 i] 51))).mono ?_;rintro e I ⟨rfl,G⟩;have H:Hx (Ov w I):=Ab (bA w (ze #[M O 6,M O a,.string x,.string y,zc true,U g nL f,U v nP n,U A nB u,M O m,M O l,M O k,.string j,U q q1 i] 51)) G;have c:Hx (Ae [M O 6,M O a,.string x,.string y,zc true,U g nL f,U v nP n,U A nB u,M O m,M O l,M O k,.string j,U q q1 i] I w.heap.size):=Ae.over (AW w [M O 6,M O a,.string x,.string y,zc true,U g nL f,U v nP n,U A nB u,M O m,M O l,M O k,.string j,U q q1 i] 51) G;clear G  Z;obtain ⟨V,T,S,R,Q,P,N,L,K,J,F,E,C⟩:=Ap c.o;go_wp2_with fail;go_ret;exact ⟨by rw [B.o];(first | rfl | (simp;done) | (simp;assumption) | (simp;omega)),H.o⟩
  have B:Hx (fin=false):=by show _=_;rw [b];simp [h4,h5,h6]
  clear b;go_enter Tryz.func67,Tryz.ntmps67;go_wp2_with fail;go_ret;exact ⟨by rw [B.o];(first | rfl | (simp;done) | (simp;assumption) | (simp;omega)),bA w (ze #[M O W,M O a,.string x,.string y,zc true,U g nL f,U v nP n,U A nB u,M O m,M O l,M O k,.string j,U q q1 i] 51)⟩
theorem Lx (kd:Int) (w:World):Ro 69 #[M O kd] w (zh #[zf #[zc (E6 kd),zc (E8 kd),zc (E9 kd),zc (Fb kd),zc (E7 kd),zc (Fa kd)],zc (hOk kd)]):=by
 by_cases hk:1<=kd/\kd<=8
 ·have h:kd=1\/kd=2\/kd=3\/kd=4\/kd=5\/kd=6\/kd=7\/kd=8:=by omega
  clear hk;rcases h with rfl | rfl | rfl | rfl | rfl | rfl | rfl | rfl
  ·show Ro 69 #[M O 1] w (zh #[zf #[zc true,zc false,zc true,zc false,zc false,zc false],zc true])
   go_enter Tryz.func69,Tryz.ntmps69;go_wp2_with fail;exact bodyPost_ret (v:=zh #[zf #[zc true,zc false,zc true,zc false,zc false,zc false],zc true]) (by simp [results,Tryz.results69,go_sem]) rfl ⟨rfl,bA _ _⟩
  ·show Ro 69 #[M O 2] w (zh #[zf #[zc true,zc true,zc false,zc true,zc false,zc false],zc true])
   go_enter Tryz.func69,Tryz.ntmps69;go_wp2_with fail;exact bodyPost_ret (v:=zh #[zf #[zc true,zc true,zc false,zc true,zc false,zc false],zc true]) (by simp [results,Tryz.results69,go_sem]) rfl ⟨rfl,bA _ _⟩
  ·show Ro 69 #[M O 3] w (zh #[zf #[zc true,zc true,zc false,zc false,zc false,zc false],zc true])
   go_enter Tryz.func69,Tryz.ntmps69;go_wp2_with fail;exact bodyPost_ret (v:=zh #[zf #[zc true,zc true,zc false,zc false,zc false,zc false],zc true]) (by simp [results,Tryz.results69,go_sem]) rfl ⟨rfl,bA _ _⟩
  ·show Ro 69 #[M O 4] w (zh #[zf #[zc false,zc true,zc true,zc false,zc false,zc false],zc true])
   go_enter Tryz.func69,Tryz.ntmps69;go_wp2_with fail;exact bodyPost_ret (v:=zh #[zf #[zc false,zc true,zc true,zc false,zc false,zc false],zc true]) (by simp [results,Tryz.results69,go_sem]) rfl ⟨rfl,bA _ _⟩
  ·show Ro 69 #[M O 5] w (zh #[zf #[zc true,zc false,zc true,zc false,zc false,zc false],zc true])
   go_enter Tryz.func69,Tryz.ntmps69;go_wp2_with fail;exact bodyPost_ret (v:=zh #[zf #[zc true,zc false,zc true,zc false,zc false,zc false],zc true]) (by simp [results,Tryz.results69,go_sem]) rfl ⟨rfl,bA _ _⟩
  ·show Ro 69 #[M O 6] w (zh #[zf #[zc true,zc false,zc true,zc false,zc false,zc false],zc true])
   go_enter Tryz.func69,Tryz.ntmps69;go_wp2_with fail;exact bodyPost_ret (v:=zh #[zf #[zc true,zc false,zc true,zc false,zc false,zc false],zc true]) (by simp [results,Tryz.results69,go_sem]) rfl ⟨rfl,bA _ _⟩
  ·show Ro 69 #[M O 7] w (zh #[zf #[zc false,zc false,zc true,zc false,zc true,zc true],zc true])
   go_enter Tryz.func69,Tryz.ntmps69;go_wp2_with fail;exact bodyPost_ret (v:=zh #[zf #[zc false,zc false,zc true,zc false,zc true,zc true],zc true]) (by simp [results,Tryz.results69,go_sem]) rfl ⟨rfl,bA _ _⟩
  ·show Ro 69 #[M O 8] w (zh #[zf #[zc false,zc false,zc true,zc false,zc true,zc false],zc true])
   go_enter Tryz.func69,Tryz.ntmps69;go_wp2_with fail;exact bodyPost_ret (v:=zh #[zf #[zc false,zc false,zc true,zc false,zc true,zc false],zc true]) (by simp [results,Tryz.results69,go_sem]) rfl ⟨rfl,bA _ _⟩
 ·have l:∀ j:Int,1<=j->j<=8->¬ kd=j:=fun j _ _ _=>hk (by omega)
  have B:(kd == 1)=false:=by simp;omega
  have A:(kd == 2)=false:=by simp;omega
  have y:(kd == 3)=false:=by simp;omega
  have x:(kd == 4)=false:=by simp;omega
  have u:(kd == 5)=false:=by simp;omega
  have r:(kd == 6)=false:=by simp;omega
  have n:(kd == 7)=false:=by simp;omega
  have m:(kd == 8)=false:=by simp;omega
  have k:E6 kd=false:=by unfold E6;simp;omega
  have i:E8 kd=false:=by unfold E8;simp;omega
  have g:E9 kd=false:=by unfold E9;simp;omega
  have f:Fb kd=false:=by unfold Fb;simp;omega
  have c:E7 kd=false:=by unfold E7;simp;omega
  have b:Fa kd=false:=by unfold Fa;simp;omega
  have a:hOk kd=false:=by unfold hOk;simp;omega
  rw [k,i,g,f,c,b,a];clear hk l k i g f c b a;go_enter Tryz.func69,Tryz.ntmps69;go_wp2_with fail;exact bodyPost_ret (v:=zh #[zf #[zc false,zc false,zc false,zc false,zc false,zc false],zc false]) (by simp [results,Tryz.results69,go_sem]) rfl ⟨rfl,bA _ _⟩
end Go.Proofs.YtipngnjffjajpaaGreatDoor.Tx
