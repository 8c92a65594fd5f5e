/- Package tree's Check: policies, labels, functions, commands, declarations that are fine. -/
import Derived.Test.YtipngnjffjajpaaGreatDoorJ16
set_option linter.unusedVariables false
set_option maxHeartbeats 8000000
set_option maxRecDepth 100000
namespace Go.Proofs.YtipngnjffjajpaaGreatDoor.Tx
open Go.RowKit
open Go.Value renaming int -> I, slice -> zc, bool -> zd, pointer -> zf, agg -> zg, tuple -> zi
open Go.IntKind renaming i64 -> O
open Go.Obj renaming cells -> ze
open Go.Ending renaming returned -> zh
theorem G3 (f:List UInt8->Bool) (ns:List ByteArray):((ns.map dS).all fun x=>f (asS x))=ns.all fun x=>f x.data.toList:=by
 rw [List.all_map];rfl
theorem IW {α:Type} (l:List α):l.isEmpty=decide (l.length=0):=by cases l <;> simp
theorem It (cs:List Value) (d:D) (w:World) (h:ZP w cs d):Ro 109 #[.agg cs.toArray] w (zd (Da d)):=by
 obtain ⟨a,o,wr,r,n,l,rfl,rfl,L,C⟩:=h;obtain ⟨fin,b⟩:=nm (Da (Dv a o wr l));rw [<-b];unfold Da at b;simp only [gPp,G3 nmS] at b;obtain ⟨J,u⟩:=nm (nmS o.data.toList);obtain ⟨K,v⟩:=nm (l.all fun x=>nmS x.data.toList);rw [<-u,<-v] at b;have Q:=Aa b;have N:Hx (∀ X,Ov w X->Ro 65 #[.string o] X (zd J)):=fun X _=>by rw [u];exact DQ o X L
 have P:Hx (∀ X,Ov w X->Ro 110 #[zc r l.length n,.func (.func 65) #[] #[]] X (zd K)):=fun X S=>by rw [v];exact Ol 65 (fun M w=>by simp [go_sem]) _ l r n X (fun x X R=>DQ x X R) (Ds S C)
 have T:=C.max;clear b u v C L;show Ro 109 #[zg #[I O a,.string o,zd wr,zc r l.length n]] w _;go_enter Tryz.func109,Tryz.ntmps109;go_wp2_with fail;refine (N.o _ (bA w (ze #[I O a,.string o,zd wr,zc r l.length n] 53))).mono ?_;rintro e H ⟨rfl,y⟩;have B:Hx (Ov w H):=Ac (bA w (ze #[I O a,.string o,zd wr,zc r l.length n] 53)) y;have c:Hx (Af [I O a,.string o,zd wr,zc r l.length n] H w.heap.size):=Af.over (Ax w [I O a,.string o,zd wr,zc r l.length n] 53) y;clear y  N
 cases J with
 | true=>
  obtain ⟨j,i,g,f⟩:=rc4 c.o;go_wp2_with fail;refine (P.o _ (B.o)).mono ?_;rintro e G ⟨rfl,y⟩;have F:Hx (Ov w G):=Ac (B.o) y;have A:Hx (Af [I O a,.string o,zd wr,zc r l.length n] G w.heap.size):=c.o.over y;clear y j i g f P;have E:Hx (fin=K):=by have h:=Q.o;simp at h;exact h
  obtain ⟨j,i,g,f⟩:=rc4 A.o;go_wp2_with fail;go_ret;exact ⟨by rw [E.o];(first | rfl | (simp;done) | (simp;assumption) | (simp;omega)),F.o⟩
 | false=>
  have E:Hx (fin=false):=by have h:=Q.o;simp at h;exact h
  obtain ⟨j,i,g,f⟩:=rc4 c.o;go_wp2_with fail;go_ret;exact ⟨by rw [E.o];(first | rfl | (simp;done) | (simp;assumption) | (simp;omega)),B.o⟩
theorem JG (ke kc:Nat) (cs:List Value) (d:D) (w:World) (h:ZD w ke kc cs d):Ro 67 #[.agg cs.toArray] w (zd (Eb d)):=by
 obtain ⟨Y,a,x,y,gv,g,f,lb,B,v,ps,C,A,Z,u,n,l,j,q,q1,i,r,rfl,rfl,-,-,hL,hP,hB,-⟩:=h;obtain ⟨fin,b⟩:=nm (Eb (deD Y a x y gv lb ps Z r));rw [<-b];unfold Eb at b;simp only [gDd] at b;obtain ⟨qa,ac⟩:=nm (lb.all Da);have he:(lb≠[])=(lb.length≠0):=by simp
 simp only [<-ac,he] at b;have KA:Hx (∀ X,Ov w X->Ro 105 #[zc g lb.length f,.func (.func 109) #[] #[]] X (zd qa)):=fun X hX=>by rw [ac];exact Ok 109 (fun aj w=>by simp [go_sem]) Da lb g f X (fun cs d X _ h=>It cs d X h) (DP hX hL)
 have ah:=hL.max;clear ac hL hP hB he;show Ro 67 #[zg #[I O Y,I O a,.string x,.string y,zd gv,zc g lb.length f,zc B ps.length v,zc C Z.length A,I O u,I O n,I O l,.string j,zc q q1 i]] w _;generalize lb.length=nL at b KA ah ⊢;generalize ps.length=nP at ⊢;generalize Z.length=nB at ⊢
 cases gv with
 | false=>
  by_cases h0:nL=0
  ·subst h0
   by_cases h4:Y=4
   ·subst h4
    have E:Hx (fin=false):=by show _=_;rw [b];simp
    clear b;go_enter Tryz.func67,Tryz.ntmps67;go_wp2_with fail;go_ret;exact ⟨by rw [E.o];(first | rfl | (simp;done) | (simp;assumption) | (simp;omega)),bA w (ze #[I O 4,I O a,.string x,.string y,zd false,zc g 0 f,zc B nP v,zc C nB A,I O u,I O n,I O l,.string j,zc q q1 i] 51)⟩
   by_cases h5:Y=5
   ·subst h5
    have E:Hx (fin=false):=by show _=_;rw [b];simp
    clear b;go_enter Tryz.func67,Tryz.ntmps67;go_wp2_with fail;go_ret;exact ⟨by rw [E.o];(first | rfl | (simp;done) | (simp;assumption) | (simp;omega)),bA w (ze #[I O 5,I O a,.string x,.string y,zd false,zc g 0 f,zc B nP v,zc C nB A,I O u,I O n,I O l,.string j,zc q q1 i] 51)⟩
   by_cases h6:Y=6
   ·subst h6
    have E:Hx (fin=qa):=by show _=_;rw [b];simp
    clear b;go_enter Tryz.func67,Tryz.ntmps67;go_wp2_with fail;refine (KA.o _ (bA w (ze #[I O 6,I O a,.string x,.string y,zd false,zc g 0 f,zc B nP v,zc C nB A,I O u,I O n,I O l,.string j,zc q q1 i] 51))).mono ?_;rintro e L ⟨rfl,J⟩;have K:Hx (Ov w L):=Ac (bA w (ze #[I O 6,I O a,.string x,.string y,zd false,zc g 0 f,zc B nP v,zc C nB A,I O u,I O n,I O l,.string j,zc q q1 i] 51)) J;have c:Hx (Af [I O 6,I O a,.string x,.string y,zd false,zc g 0 f,zc B nP v,zc C nB A,I O u,I O n,I O l,.string j,zc q q1 i] L w.heap.size):=Af.over (Ax w [I O 6,I O a,.string x,.string y,zd false,zc g 0 f,zc B nP v,zc C nB A,I O u,I O n,I O l,.string j,zc q q1 i] 51) J;clear J  KA;obtain ⟨W,V,U,T,S,R,Q,P,N,M,H,G,F⟩:=AI c.o;go_wp2_with fail;go_ret;exact ⟨by rw [E.o];(first | rfl | (simp;done) | (simp;assumption) | (simp;omega)),K.o⟩
   have E:Hx (fin=true):=by show _=_;rw [b];simp [h4,h5,h6]
   clear b;go_enter Tryz.func67,Tryz.ntmps67;go_wp2_with fail;go_ret;exact ⟨by rw [E.o];(first | rfl | (simp;done) | (simp;assumption) | (simp;omega)),bA w (ze #[I O Y,I O a,.string x,.string y,zd false,zc g 0 f,zc B nP v,zc C nB A,I O u,I O n,I O l,.string j,zc q q1 i] 51)⟩
  ·have hi:(0:Int) < (nL:Int):=by omega
   have hn:0 < nL:=by omega
   have E:Hx (fin=false):=by show _=_;rw [b];simp [h0]
   clear b;go_enter Tryz.func67,Tryz.ntmps67;go_wp2_with fail;go_ret;exact ⟨by rw [E.o];(first | rfl | (simp;done) | (simp;assumption) | (simp;omega)),bA w (ze #[I O Y,I O a,.string x,.string y,zd false,zc g nL f,zc B nP v,zc C nB A,I O u,I O n,I O l,.string j,zc q q1 i] 51)⟩
 | true=>
  by_cases h4:Y=4
  ·subst h4
   have E:Hx (fin=qa):=by show _=_;rw [b];simp
   clear b;go_enter Tryz.func67,Tryz.ntmps67;go_wp2_with fail;refine (KA.o _ (bA w (ze #[I O 4,I O a,.string x,.string y,zd true,zc g nL f,zc B nP v,zc C nB A,I O u,I O n,I O l,.string j,zc q q1 i] 51))).mono ?_;rintro e L ⟨rfl,J⟩;have K:Hx (Ov w L):=Ac (bA w (ze #[I O 4,I O a,.string x,.string y,zd true,zc g nL f,zc B nP v,zc C nB A,I O u,I O n,I O l,.string j,zc q q1 i] 51)) J;have c:Hx (Af [I O 4,I O a,.string x,.string y,zd true,zc g nL f,zc B nP v,zc C nB A,I O u,I O n,I O l,.string j,zc q q1 i] L w.heap.size):=Af.over (Ax w [I O 4,I O a,.string x,.string y,zd true,zc g nL f,zc B nP v,zc C nB A,I O u,I O n,I O l,.string j,zc q q1 i] 51) J;clear J  KA;obtain ⟨W,V,U,T,S,R,Q,P,N,M,H,G,F⟩:=AI c.o;go_wp2_with fail;go_ret;exact ⟨by rw [E.o];(first | rfl | (simp;done) | (simp;assumption) | (simp;omega)),K.o⟩
  by_cases h5:Y=5
  ·subst h5
   have E:Hx (fin=qa):=by show _=_;rw [b];simp
   clear b;go_enter Tryz.func67,Tryz.ntmps67;go_wp2_with fail;refine (KA.o _ (bA w (ze #[I O 5,I O a,.string x,.string y,zd true,zc g nL f,zc B nP v,zc C nB A,I O u,I O n,I O l,.string j,zc q q1 i] 51))).mono ?_;rintro e L ⟨rfl,J⟩;have K:Hx (Ov w L):=Ac (bA w (ze #[I O 5,I O a,.string x,.string y,zd true,zc g nL f,zc B nP v,zc C nB A,I O u,I O n,I O l,.string j,zc q q1 i] 51)) J;have c:Hx (Af [I O 5,I O a,.string x,.string y,zd true,zc g nL f,zc B nP v,zc C nB A,I O u,I O n,I O l,.string j,zc q q1 i] L w.heap.size):=Af.over (Ax w [I O 5,I O a,.string x,.string y,zd true,zc g nL f,zc B nP v,zc C nB A,I O u,I O n,I O l,.string j,zc q q1 i] 51) J;clear J  KA;obtain ⟨W,V,U,T,S,R,Q,P,N,M,H,G,F⟩:=AI c.o;go_wp2_with fail;go_ret;exact ⟨by rw [E.o];(first | rfl | (simp;done) | (simp;assumption) | (simp;omega)),K.o⟩
  by_cases h6:Y=6
  ·subst h6
   have E:Hx (fin=qa):=by show _=_;rw [b];simp
   clear b;go_enter Tryz.func67,Tryz.ntmps67;go_wp2_with fail;refine (KA.o _ (bA w (ze #[I O 6,I O a,.string x,.string y,zd true,zc g nL f,zc B nP v,zc C nB A,I O u,I O n,I O l,.string j,zc q q1 i] 51))).mono ?_;rintro e L ⟨rfl,J⟩;have K:Hx (Ov w L):=Ac (bA w (ze #[I O 6,I O a,.string x,.string y,zd true,zc g nL f,zc B nP v,zc C nB A,I O u,I O n,I O l,.string j,zc q q1 i] 51)) J;have c:Hx (Af [I O 6,I O a,.string x,.string y,zd true,zc g nL f,zc B nP v,zc C nB A,I O u,I O n,I O l,.string j,zc q q1 i] L w.heap.size):=Af.over (Ax w [I O 6,I O a,.string x,.string y,zd true,zc g nL f,zc B nP v,zc C nB A,I O u,I O n,I O l,.string j,zc q q1 i] 51) J;clear J  KA;obtain ⟨W,V,U,T,S,R,Q,P,N,M,H,G,F⟩:=AI c.o;go_wp2_with fail;go_ret;exact ⟨by rw [E.o];(first | rfl | (simp;done) | (simp;assumption) | (simp;omega)),K.o⟩
  have E:Hx (fin=false):=by show _=_;rw [b];simp [h4,h5,h6]
  clear b;go_enter Tryz.func67,Tryz.ntmps67;go_wp2_with fail;go_ret;exact ⟨by rw [E.o];(first | rfl | (simp;done) | (simp;assumption) | (simp;omega)),bA w (ze #[I O Y,I O a,.string x,.string y,zd true,zc g nL f,zc B nP v,zc C nB A,I O u,I O n,I O l,.string j,zc q q1 i] 51)⟩
theorem NC (kd:Int) (w:World):Ro 69 #[I O kd] w (zi #[zg #[zd (Lb kd),zd (Ld kd),zd (Hh kd),zd (JM kd),zd (Lc kd),zd (JL kd)],zd (hOk kd)]):=by
 by_cases hk:1<=kd/\kd<=8
 ·have h:kd=1\/kd=2\/kd=3\/kd=4\/kd=5\/kd=6\/kd=7\/kd=8:=by omega
  clear hk;rcases h with rfl | rfl | rfl | rfl | rfl | rfl | rfl | rfl
  ·show Ro 69 #[I O 1] w (zi #[zg #[zd true,zd false,zd true,zd false,zd false,zd false],zd true])
   go_enter Tryz.func69,Tryz.ntmps69;go_wp2_with fail;exact bodyPost_ret (v:=zi #[zg #[zd true,zd false,zd true,zd false,zd false,zd false],zd true]) (by simp [results,Tryz.results69,go_sem]) rfl ⟨rfl,bA _ _⟩
  ·show Ro 69 #[I O 2] w (zi #[zg #[zd true,zd true,zd false,zd true,zd false,zd false],zd true])
   go_enter Tryz.func69,Tryz.ntmps69;go_wp2_with fail;exact bodyPost_ret (v:=zi #[zg #[zd true,zd true,zd false,zd true,zd false,zd false],zd true]) (by simp [results,Tryz.results69,go_sem]) rfl ⟨rfl,bA _ _⟩
  ·show Ro 69 #[I O 3] w (zi #[zg #[zd true,zd true,zd false,zd false,zd false,zd false],zd true])
   go_enter Tryz.func69,Tryz.ntmps69;go_wp2_with fail;exact bodyPost_ret (v:=zi #[zg #[zd true,zd true,zd false,zd false,zd false,zd false],zd true]) (by simp [results,Tryz.results69,go_sem]) rfl ⟨rfl,bA _ _⟩
  ·show Ro 69 #[I O 4] w (zi #[zg #[zd false,zd true,zd true,zd false,zd false,zd false],zd true])
   go_enter Tryz.func69,Tryz.ntmps69;go_wp2_with fail;exact bodyPost_ret (v:=zi #[zg #[zd false,zd true,zd true,zd false,zd false,zd false],zd true]) (by simp [results,Tryz.results69,go_sem]) rfl ⟨rfl,bA _ _⟩
  ·show Ro 69 #[I O 5] w (zi #[zg #[zd true,zd false,zd true,zd false,zd false,zd false],zd true])
   go_enter Tryz.func69,Tryz.ntmps69;go_wp2_with fail;exact bodyPost_ret (v:=zi #[zg #[zd true,zd false,zd true,zd false,zd false,zd false],zd true]) (by simp [results,Tryz.results69,go_sem]) rfl ⟨rfl,bA _ _⟩
  ·show Ro 69 #[I O 6] w (zi #[zg #[zd true,zd false,zd true,zd false,zd false,zd false],zd true])
   go_enter Tryz.func69,Tryz.ntmps69;go_wp2_with fail;exact bodyPost_ret (v:=zi #[zg #[zd true,zd false,zd true,zd false,zd false,zd false],zd true]) (by simp [results,Tryz.results69,go_sem]) rfl ⟨rfl,bA _ _⟩
  ·show Ro 69 #[I O 7] w (zi #[zg #[zd false,zd false,zd true,zd false,zd true,zd true],zd true])
   go_enter Tryz.func69,Tryz.ntmps69;go_wp2_with fail;exact bodyPost_ret (v:=zi #[zg #[zd false,zd false,zd true,zd false,zd true,zd true],zd true]) (by simp [results,Tryz.results69,go_sem]) rfl ⟨rfl,bA _ _⟩
  ·show Ro 69 #[I O 8] w (zi #[zg #[zd false,zd false,zd true,zd false,zd true,zd false],zd true])
   go_enter Tryz.func69,Tryz.ntmps69;go_wp2_with fail;exact bodyPost_ret (v:=zi #[zg #[zd false,zd false,zd true,zd false,zd true,zd false],zd true]) (by simp [results,Tryz.results69,go_sem]) rfl ⟨rfl,bA _ _⟩
 ·have n:∀ j:Int,1<=j->j<=8->¬ kd=j:=fun j _ _ _=>hk (by omega)
  have E:(kd == 1)=false:=by simp;omega
  have C:(kd == 2)=false:=by simp;omega
  have B:(kd == 3)=false:=by simp;omega
  have A:(kd == 4)=false:=by simp;omega
  have y:(kd == 5)=false:=by simp;omega
  have x:(kd == 6)=false:=by simp;omega
  have u:(kd == 7)=false:=by simp;omega
  have r:(kd == 8)=false:=by simp;omega
  have l:Lb kd=false:=by unfold Lb;simp;omega
  have i:Ld kd=false:=by unfold Ld;simp;omega
  have g:Hh kd=false:=by unfold Hh;simp;omega
  have f:JM kd=false:=by unfold JM;simp;omega
  have c:Lc kd=false:=by unfold Lc;simp;omega
  have b:JL kd=false:=by unfold JL;simp;omega
  have a:hOk kd=false:=by unfold hOk;simp;omega
  rw [l,i,g,f,c,b,a];clear hk n l i g f c b a;go_enter Tryz.func69,Tryz.ntmps69;go_wp2_with fail;exact bodyPost_ret (v:=zi #[zg #[zd false,zd false,zd false,zd false,zd false,zd false],zd false]) (by simp [results,Tryz.results69,go_sem]) rfl ⟨rfl,bA _ _⟩
theorem Gu (ke:Nat):∀ (k:Nat) (cs:List Value) (d:D) (w:World),ZC w ke k cs d->Ro 36 #[.agg cs.toArray] w (zd (sfK ke k d)):=by
 intro k
 induction k with
 | zero=>intro cs d w h;exact h.elim
 | succ k ih=>
  intro cs d w h;obtain ⟨S,a,x,y,e0,e1,e2,Z,q,q1,Y,e,aA,cA,R,aT,cT,th,aE,cE,el,rfl,rfl,hx,hy,he,hA,hT,hE⟩:=h;obtain ⟨fin,W⟩:=nm (sfK ke (k+1) (stD S a x y e R th el));rw [<-W];simp only [sfK,gSs] at W;obtain ⟨b0,bj⟩:=nm (Lb S);obtain ⟨b1,bi⟩:=nm (Ld S);obtain ⟨b2,bh⟩:=nm (Hh S);obtain ⟨b3,bg⟩:=nm (JM S);obtain ⟨b4,bf⟩:=nm (Lc S);obtain ⟨b5,be⟩:=nm (JL S);obtain ⟨ok,bd⟩:=nm (hOk S);have KS:Hx (∀ X,Ov w X->Ro 69 #[I O S] X (zi #[zg #[zd b0,zd b1,zd b2,zd b3,zd b4,zd b5],zd ok])):=fun X _=>by rw [bj,bi,bh,bg,bf,be,bd];exact NC S X
  rw [<-bj,<-bi,<-bh,<-bg,<-bf,<-be,<-bd] at W;clear bj bi bh bg bf be bd;obtain ⟨qv,a8⟩:=nm (nfS x.data.toList b0);obtain ⟨qy,a6⟩:=nm (nfS y.data.toList b1);obtain ⟨qe,bb⟩:=nm (efK ke e);obtain ⟨qx,a7⟩:=nm (Dd e);obtain ⟨qa,bc⟩:=nm (lfS R b3 (efK ke));obtain ⟨qt,a9⟩:=nm (lfS th b4 (sfK ke k));obtain ⟨ql,ba⟩:=nm (lfS el b5 (sfK ke k));rw [<-a8,<-a6,<-bb,<-a7,<-bc,<-a9,<-ba] at W;have HF:=Aa W;have KV:Hx (∀ X,Ov w X->Ro 66 #[.string x,zd b0] X (zd qv)):=fun X _=>by rw [a8];exact BE x b0 X hx
  have KY:Hx (∀ X,Ov w X->Ro 66 #[.string y,zd b1] X (zd qy)):=fun X _=>by rw [a6];exact BE y b1 X hy
  have KX:Hx (∀ X,Ov w X->Ro 70 #[zg #[I O e0,I O e1,I O e2,.string Z,zc q q1 Y]] X (zd qe)):=fun X hX=>by rw [bb];exact Fb ke _ e X (he.over hX)
  have KO:Hx (∀ X,Ov w X->Ro 71 #[zg #[I O e0,I O e1,I O e2,.string Z,zc q q1 Y]] X (zd qx)):=fun X hX=>by rw [a7];exact ND ke _ e X (he.over hX)
  have KA:Hx (∀ X,Ov w X->Ro 72 #[zc aA R.length cA,zd b3,.func (.func 70) #[] #[]] X (zd qa)):=fun X hX=>by rw [bc];exact JD 70 (fun R w=>by simp [go_sem]) (efK ke) R aA cA b3 X (fun cs d X _ h=>Fb ke cs d X h) (C2 hX hA)
  have KT:Hx (∀ X,Ov w X->Ro 73 #[zc aT th.length cT,zd b4,.func (.func 36) #[] #[]] X (zd qt)):=fun X hX=>by rw [a9];exact F5 36 (fun R w=>by simp [go_sem]) (sfK ke k) th aT cT b4 X (fun cs d X _ h=>ih cs d X h) (A6 hX hT)
  have KE:Hx (∀ X,Ov w X->Ro 73 #[zc aE el.length cE,zd b5,.func (.func 36) #[] #[]] X (zd ql)):=fun X hX=>by rw [ba];exact F5 36 (fun R w=>by simp [go_sem]) (sfK ke k) el aE cE b5 X (fun cs d X _ h=>ih cs d X h) (A6 hX hE)
  clear W a8 a6 bb a7 bc a9 ba hx hy he hA hT hE ih;show Ro 36 #[zg #[I O S,I O a,.string x,.string y,I O e0,I O e1,I O e2,.string Z,zc q q1 Y,zc aA R.length cA,zc aT th.length cT,zc aE el.length cE]] w _;generalize R.length=nA at KA ⊢;generalize th.length=nT at KT ⊢;generalize el.length=nE at KE ⊢;go_enter Tryz.func36,Tryz.ntmps36;go_wp2_with fail;refine (KS.o _ (bA w (ze #[I O S,I O a,.string x,.string y,I O e0,I O e1,I O e2,.string Z,zc q q1 Y,zc aA nA cA,zc aT nT cT,zc aE nE cE] 55))).mono ?_;rintro e w1 ⟨rfl,J⟩;have bm:Hx (Ov w w1):=Ac (bA w (ze #[I O S,I O a,.string x,.string y,I O e0,I O e1,I O e2,.string Z,zc q q1 Y,zc aA nA cA,zc aT nT cT,zc aE nE cE] 55)) J;have au:Hx (Af [I O S,I O a,.string x,.string y,I O e0,I O e1,I O e2,.string Z,zc q q1 Y,zc aA nA cA,zc aT nT cT,zc aE nE cE] w1 w.heap.size):=Af.over (Ax w [I O S,I O a,.string x,.string y,I O e0,I O e1,I O e2,.string Z,zc q q1 Y,zc aA nA cA,zc aT nT cT,zc aE nE cE] 55) J;clear J  KS
  cases ok with
  | true=>
   obtain ⟨A,v,u,r,n,l,j,i,g,f,c,b⟩:=AU (Aa (au.o.over (bA w1 (ze #[zd b0,zd b1,zd b2,zd b3,zd b4,zd b5] 106)))).o;go_wp2_with fail;refine (KV.o _ (Ac bm.o (bA _ _))).mono ?_;rintro e w2 ⟨rfl,J⟩;have bl:Hx (Ov w w2):=Ac (Ac bm.o (bA _ _)) J;have ar:Hx (Af [I O S,I O a,.string x,.string y,I O e0,I O e1,I O e2,.string Z,zc q q1 Y,zc aA nA cA,zc aT nT cT,zc aE nE cE] w2 w.heap.size):=(au.o.over (bA _ _)).over J;have ap:Hx (Af [zd b0,zd b1,zd b2,zd b3,zd b4,zd b5] w2 w1.heap.size):=Af.over (Ax w1 [zd b0,zd b1,zd b2,zd b3,zd b4,zd b5] 106) J;clear J A v u r n l j i g f c b KV
   cases qv with
   | true=>
    obtain ⟨A,v,u,r,n,l,j,i,g,f,c,b⟩:=AU ar.o;obtain ⟨H,G,F,E,C,B⟩:=rc6 ap.o;go_wp2_with fail;refine (KY.o _ (bl.o)).mono ?_;rintro e w3 ⟨rfl,J⟩;have a0:Hx (Ov w w3):=Ac (bl.o) J;have U:Hx (Af [I O S,I O a,.string x,.string y,I O e0,I O e1,I O e2,.string Z,zc q q1 Y,zc aA nA cA,zc aT nT cT,zc aE nE cE] w3 w.heap.size):=ar.o.over J;have T:Hx (Af [zd b0,zd b1,zd b2,zd b3,zd b4,zd b5] w3 w1.heap.size):=ap.o.over J;clear J A v u r n l j i g f c b H G F E C B KY
    cases qy with
    | true=>
     cases b2 with
     | true=>
      obtain ⟨A,v,u,r,n,l,j,i,g,f,c,b⟩:=AU U.o;obtain ⟨H,G,F,E,C,B⟩:=rc6 T.o;go_wp2_with fail;refine (KX.o _ (a0.o)).mono ?_;rintro e w4 ⟨rfl,J⟩;have ax:Hx (Ov w w4):=Ac (a0.o) J;have Q:Hx (Af [I O S,I O a,.string x,.string y,I O e0,I O e1,I O e2,.string Z,zc q q1 Y,zc aA nA cA,zc aT nT cT,zc aE nE cE] w4 w.heap.size):=U.o.over J;have M:Hx (Af [zd b0,zd b1,zd true,zd b3,zd b4,zd b5] w4 w1.heap.size):=T.o.over J;clear J A v u r n l j i g f c b H G F E C B KX
      cases qe with
      | true=>
       obtain ⟨A,v,u,r,n,l,j,i,g,f,c,b⟩:=AU Q.o;obtain ⟨H,G,F,E,C,B⟩:=rc6 M.o;go_wp2_with fail;refine (KA.o _ (ax.o)).mono ?_;rintro e w5 ⟨rfl,J⟩;have aw:Hx (Ov w w5):=Ac (ax.o) J;have P:Hx (Af [I O S,I O a,.string x,.string y,I O e0,I O e1,I O e2,.string Z,zc q q1 Y,zc aA nA cA,zc aT nT cT,zc aE nE cE] w5 w.heap.size):=Q.o.over J;have L:Hx (Af [zd b0,zd b1,zd true,zd b3,zd b4,zd b5] w5 w1.heap.size):=M.o.over J;clear J A v u r n l j i g f c b H G F E C B KA
       cases qa with
       | true=>
        obtain ⟨A,v,u,r,n,l,j,i,g,f,c,b⟩:=AU P.o;obtain ⟨H,G,F,E,C,B⟩:=rc6 L.o;go_wp2_with fail;refine (KT.o _ (aw.o)).mono ?_;rintro e w6 ⟨rfl,J⟩;have av:Hx (Ov w w6):=Ac (aw.o) J;have N:Hx (Af [I O S,I O a,.string x,.string y,I O e0,I O e1,I O e2,.string Z,zc q q1 Y,zc aA nA cA,zc aT nT cT,zc aE nE cE] w6 w.heap.size):=P.o.over J;have K:Hx (Af [zd b0,zd b1,zd true,zd b3,zd b4,zd b5] w6 w1.heap.size):=L.o.over J;clear J A v u r n l j i g f c b H G F E C B KT
        cases qt with
        | true=>
         obtain ⟨A,v,u,r,n,l,j,i,g,f,c,b⟩:=AU N.o;obtain ⟨H,G,F,E,C,B⟩:=rc6 K.o;go_wp2_with fail;refine (KE.o _ (av.o)).mono ?_;rintro e w7 ⟨rfl,J⟩;have bk:Hx (Ov w w7):=Ac (av.o) J;have aq:Hx (Af [I O S,I O a,.string x,.string y,I O e0,I O e1,I O e2,.string Z,zc q q1 Y,zc aA nA cA,zc aT nT cT,zc aE nE cE] w7 w.heap.size):=N.o.over J;have ao:Hx (Af [zd b0,zd b1,zd true,zd b3,zd b4,zd b5] w7 w1.heap.size):=K.o.over J;clear J A v u r n l j i g f c b H G F E C B KE;have V:Hx (fin=ql):=by have h:=HF.o;simp at h;exact h
         obtain ⟨A,v,u,r,n,l,j,i,g,f,c,b⟩:=AU aq.o;obtain ⟨H,G,F,E,C,B⟩:=rc6 ao.o;go_wp2_with fail;go_ret;exact ⟨by rw [V.o];(first | rfl | (simp;done) | (simp;assumption) | (simp;omega)),bk.o⟩
        | false=>
         have V:Hx (fin=false):=by have h:=HF.o;simp at h;exact h
         obtain ⟨A,v,u,r,n,l,j,i,g,f,c,b⟩:=AU N.o;obtain ⟨H,G,F,E,C,B⟩:=rc6 K.o;go_wp2_with fail;go_ret;exact ⟨by rw [V.o];(first | rfl | (simp;done) | (simp;assumption) | (simp;omega)),av.o⟩
       | false=>
        have V:Hx (fin=false):=by have h:=HF.o;simp at h;exact h
        obtain ⟨A,v,u,r,n,l,j,i,g,f,c,b⟩:=AU P.o;obtain ⟨H,G,F,E,C,B⟩:=rc6 L.o;go_wp2_with fail;go_ret;exact ⟨by rw [V.o];(first | rfl | (simp;done) | (simp;assumption) | (simp;omega)),aw.o⟩
      | false=>
       have V:Hx (fin=false):=by have h:=HF.o;simp at h;exact h
       obtain ⟨A,v,u,r,n,l,j,i,g,f,c,b⟩:=AU Q.o;obtain ⟨H,G,F,E,C,B⟩:=rc6 M.o;go_wp2_with fail;go_ret;exact ⟨by rw [V.o];(first | rfl | (simp;done) | (simp;assumption) | (simp;omega)),ax.o⟩
     | false=>
      obtain ⟨A,v,u,r,n,l,j,i,g,f,c,b⟩:=AU U.o;obtain ⟨H,G,F,E,C,B⟩:=rc6 T.o;go_wp2_with fail;refine (KO.o _ (a0.o)).mono ?_;rintro e w4 ⟨rfl,J⟩;have ax:Hx (Ov w w4):=Ac (a0.o) J;have Q:Hx (Af [I O S,I O a,.string x,.string y,I O e0,I O e1,I O e2,.string Z,zc q q1 Y,zc aA nA cA,zc aT nT cT,zc aE nE cE] w4 w.heap.size):=U.o.over J;have M:Hx (Af [zd b0,zd b1,zd false,zd b3,zd b4,zd b5] w4 w1.heap.size):=T.o.over J;clear J A v u r n l j i g f c b H G F E C B KO
      cases qx with
      | true=>
       obtain ⟨A,v,u,r,n,l,j,i,g,f,c,b⟩:=AU Q.o;obtain ⟨H,G,F,E,C,B⟩:=rc6 M.o;go_wp2_with fail;refine (KA.o _ (ax.o)).mono ?_;rintro e w5 ⟨rfl,J⟩;have aw:Hx (Ov w w5):=Ac (ax.o) J;have P:Hx (Af [I O S,I O a,.string x,.string y,I O e0,I O e1,I O e2,.string Z,zc q q1 Y,zc aA nA cA,zc aT nT cT,zc aE nE cE] w5 w.heap.size):=Q.o.over J;have L:Hx (Af [zd b0,zd b1,zd false,zd b3,zd b4,zd b5] w5 w1.heap.size):=M.o.over J;clear J A v u r n l j i g f c b H G F E C B KA
       cases qa with
       | true=>
        obtain ⟨A,v,u,r,n,l,j,i,g,f,c,b⟩:=AU P.o;obtain ⟨H,G,F,E,C,B⟩:=rc6 L.o;go_wp2_with fail;refine (KT.o _ (aw.o)).mono ?_;rintro e w6 ⟨rfl,J⟩;have av:Hx (Ov w w6):=Ac (aw.o) J;have N:Hx (Af [I O S,I O a,.string x,.string y,I O e0,I O e1,I O e2,.string Z,zc q q1 Y,zc aA nA cA,zc aT nT cT,zc aE nE cE] w6 w.heap.size):=P.o.over J;have K:Hx (Af [zd b0,zd b1,zd false,zd b3,zd b4,zd b5] w6 w1.heap.size):=L.o.over J;clear J A v u r n l j i g f c b H G F E C B KT
        cases qt with
        | true=>
         obtain ⟨A,v,u,r,n,l,j,i,g,f,c,b⟩:=AU N.o;obtain ⟨H,G,F,E,C,B⟩:=rc6 K.o;go_wp2_with fail;refine (KE.o _ (av.o)).mono ?_;rintro e w7 ⟨rfl,J⟩;have bk:Hx (Ov w w7):=Ac (av.o) J;have aq:Hx (Af [I O S,I O a,.string x,.string y,I O e0,I O e1,I O e2,.string Z,zc q q1 Y,zc aA nA cA,zc aT nT cT,zc aE nE cE] w7 w.heap.size):=N.o.over J;have ao:Hx (Af [zd b0,zd b1,zd false,zd b3,zd b4,zd b5] w7 w1.heap.size):=K.o.over J;clear J A v u r n l j i g f c b H G F E C B KE;have V:Hx (fin=ql):=by have h:=HF.o;simp at h;exact h
         obtain ⟨A,v,u,r,n,l,j,i,g,f,c,b⟩:=AU aq.o;obtain ⟨H,G,F,E,C,B⟩:=rc6 ao.o;go_wp2_with fail;go_ret;exact ⟨by rw [V.o];(first | rfl | (simp;done) | (simp;assumption) | (simp;omega)),bk.o⟩
        | false=>
         have V:Hx (fin=false):=by have h:=HF.o;simp at h;exact h
         obtain ⟨A,v,u,r,n,l,j,i,g,f,c,b⟩:=AU N.o;obtain ⟨H,G,F,E,C,B⟩:=rc6 K.o;go_wp2_with fail;go_ret;exact ⟨by rw [V.o];(first | rfl | (simp;done) | (simp;assumption) | (simp;omega)),av.o⟩
       | false=>
        have V:Hx (fin=false):=by have h:=HF.o;simp at h;exact h
        obtain ⟨A,v,u,r,n,l,j,i,g,f,c,b⟩:=AU P.o;obtain ⟨H,G,F,E,C,B⟩:=rc6 L.o;go_wp2_with fail;go_ret;exact ⟨by rw [V.o];(first | rfl | (simp;done) | (simp;assumption) | (simp;omega)),aw.o⟩
      | false=>
       have V:Hx (fin=false):=by have h:=HF.o;simp at h;exact h
       obtain ⟨A,v,u,r,n,l,j,i,g,f,c,b⟩:=AU Q.o;obtain ⟨H,G,F,E,C,B⟩:=rc6 M.o;go_wp2_with fail;go_ret;exact ⟨by rw [V.o];(first | rfl | (simp;done) | (simp;assumption) | (simp;omega)),ax.o⟩
    | false=>
     have V:Hx (fin=false):=by have h:=HF.o;simp at h;exact h
     obtain ⟨A,v,u,r,n,l,j,i,g,f,c,b⟩:=AU U.o;obtain ⟨H,G,F,E,C,B⟩:=rc6 T.o;go_wp2_with fail;go_ret;exact ⟨by rw [V.o];(first | rfl | (simp;done) | (simp;assumption) | (simp;omega)),a0.o⟩
   | false=>
    have V:Hx (fin=false):=by have h:=HF.o;simp at h;exact h
    obtain ⟨A,v,u,r,n,l,j,i,g,f,c,b⟩:=AU ar.o;obtain ⟨H,G,F,E,C,B⟩:=rc6 ap.o;go_wp2_with fail;go_ret;exact ⟨by rw [V.o];(first | rfl | (simp;done) | (simp;assumption) | (simp;omega)),bl.o⟩
  | false=>
   have V:Hx (fin=false):=by have h:=HF.o;simp at h;exact h
   obtain ⟨A,v,u,r,n,l,j,i,g,f,c,b⟩:=AU au.o;go_wp2_with fail;go_ret;exact ⟨by rw [V.o];(first | rfl | (simp;done) | (simp;assumption) | (simp;omega)),Ac bm.o (bA _ _)⟩
theorem GU (ke kc:Nat) (cs:List Value) (d:D) (w:World) (h:ZD w ke kc cs d):Ro 68 #[.agg cs.toArray] w (zd (Ec ke kc d)):=by
 obtain ⟨kd,a,x,y,U,W,V,lb,R,P,ps,S,Q,G,N,M,L,K,q,q1,H,r,rfl,rfl,-,-,hL,hP,hB,hR⟩:=h;obtain ⟨fin,b⟩:=nm (Ec ke kc (deD kd a x y U lb ps G r));rw [<-b];unfold Ec at b;simp only [gDd,G3 nmS,IW,List.length_map] at b;obtain ⟨qp,ad⟩:=nm (ps.all fun x=>nmS x.data.toList);obtain ⟨qb,ae⟩:=nm (G.all (sfK ke kc));obtain ⟨qr,ac⟩:=nm (efK ke r);obtain ⟨qx,ab⟩:=nm (Dd r);rw [<-ad,<-ae,<-ac,<-ab] at b;have KP:Hx (∀ X,Ov w X->Ro 110 #[zc R ps.length P,.func (.func 65) #[] #[]] X (zd qp)):=fun X hX=>by rw [ad];exact Ol 65 (fun ak w=>by simp [go_sem]) _ ps R P X (fun x X hx=>DQ x X hx) (Ds hX hP)
 have KB:Hx (∀ X,Ov w X->Ro 35 #[zc S G.length Q,.func (.func 36) #[] #[]] X (zd qb)):=fun X hX=>by rw [ae];exact Lw 36 (fun ak w=>by simp [go_sem]) (sfK ke kc) G S Q X (fun cs d X _ h=>Gu ke kc cs d X h) (A6 hX hB)
 have KR:Hx (∀ X,Ov w X->Ro 70 #[zg #[I O N,I O M,I O L,.string K,zc q q1 H]] X (zd qr)):=fun X hX=>by rw [ac];exact Fb ke _ r X (hR.over hX)
 have KO:Hx (∀ X,Ov w X->Ro 71 #[zg #[I O N,I O M,I O L,.string K,zc q q1 H]] X (zd qx)):=fun X hX=>by rw [ab];exact ND ke _ r X (hR.over hX)
 have ar:=hP.max;have au:=hB.max;clear ad ae ac ab hL hP hB hR;show Ro 68 #[zg #[I O kd,I O a,.string x,.string y,zd U,zc W lb.length V,zc R ps.length P,zc S G.length Q,I O N,I O M,I O L,.string K,zc q q1 H]] w _;generalize lb.length=nL at ⊢;generalize ps.length=nP at b KP ar ⊢;generalize G.length=nB at b KB au ⊢;by_cases h7:kd=7
 ·subst h7
  rw [if_pos rfl] at b;have HF:=Aa b;clear b;go_enter Tryz.func68,Tryz.ntmps68;go_wp2_with fail;refine (KP.o _ (bA w (ze #[I O 7,I O a,.string x,.string y,zd U,zc W nL V,zc R nP P,zc S nB Q,I O N,I O M,I O L,.string K,zc q q1 H] 51))).mono ?_;rintro e w1 ⟨rfl,J⟩;have Z:Hx (Ov w w1):=Ac (bA w (ze #[I O 7,I O a,.string x,.string y,zd U,zc W nL V,zc R nP P,zc S nB Q,I O N,I O M,I O L,.string K,zc q q1 H] 51)) J;have F:Hx (Af [I O 7,I O a,.string x,.string y,zd U,zc W nL V,zc R nP P,zc S nB Q,I O N,I O M,I O L,.string K,zc q q1 H] w1 w.heap.size):=Af.over (Ax w [I O 7,I O a,.string x,.string y,zd U,zc W nL V,zc R nP P,zc S nB Q,I O N,I O M,I O L,.string K,zc q q1 H] 51) J;clear J  KP
  cases qp with
  | true=>
   obtain ⟨E,C,B,A,v,u,n,l,j,i,g,f,c⟩:=AI F.o;go_wp2_with fail;refine (KB.o _ (Z.o)).mono ?_;rintro e w2 ⟨rfl,J⟩;have ah:Hx (Ov w w2):=Ac (Z.o) J;have T:Hx (Af [I O 7,I O a,.string x,.string y,zd U,zc W nL V,zc R nP P,zc S nB Q,I O N,I O M,I O L,.string K,zc q q1 H] w2 w.heap.size):=F.o.over J;clear J E C B A v u n l j i g f c KB
   cases qb with
   | true=>
    obtain ⟨E,C,B,A,v,u,n,l,j,i,g,f,c⟩:=AI T.o;go_wp2_with fail;refine (KR.o _ (ah.o)).mono ?_;rintro e w3 ⟨rfl,J⟩;have aw:Hx (Ov w w3):=Ac (ah.o) J;have ag:Hx (Af [I O 7,I O a,.string x,.string y,zd U,zc W nL V,zc R nP P,zc S nB Q,I O N,I O M,I O L,.string K,zc q q1 H] w3 w.heap.size):=T.o.over J;clear J E C B A v u n l j i g f c KR;have Y:Hx (fin=qr):=by have h:=HF.o;simp at h;exact h
    obtain ⟨E,C,B,A,v,u,n,l,j,i,g,f,c⟩:=AI ag.o;go_wp2_with fail;go_ret;exact ⟨by rw [Y.o];(first | rfl | (simp;done) | (simp;assumption) | (simp;omega)),aw.o⟩
   | false=>
    have Y:Hx (fin=false):=by have h:=HF.o;simp at h;exact h
    obtain ⟨E,C,B,A,v,u,n,l,j,i,g,f,c⟩:=AI T.o;go_wp2_with fail;go_ret;exact ⟨by rw [Y.o];(first | rfl | (simp;done) | (simp;assumption) | (simp;omega)),ah.o⟩
  | false=>
   have Y:Hx (fin=false):=by have h:=HF.o;simp at h;exact h
   obtain ⟨E,C,B,A,v,u,n,l,j,i,g,f,c⟩:=AI F.o;go_wp2_with fail;go_ret;exact ⟨by rw [Y.o];(first | rfl | (simp;done) | (simp;assumption) | (simp;omega)),Z.o⟩
 by_cases h1:nP=0
 ·subst h1
  by_cases h2:nB=0
  ·subst h2
   have Y:Hx (fin=qx):=by show _=_;rw [b];simp [h7]
   clear b;go_enter Tryz.func68,Tryz.ntmps68;go_wp2_with fail;refine (KO.o _ (bA w (ze #[I O kd,I O a,.string x,.string y,zd U,zc W nL V,zc R 0 P,zc S 0 Q,I O N,I O M,I O L,.string K,zc q q1 H] 51))).mono ?_;rintro e w1 ⟨rfl,J⟩;have Z:Hx (Ov w w1):=Ac (bA w (ze #[I O kd,I O a,.string x,.string y,zd U,zc W nL V,zc R 0 P,zc S 0 Q,I O N,I O M,I O L,.string K,zc q q1 H] 51)) J;have F:Hx (Af [I O kd,I O a,.string x,.string y,zd U,zc W nL V,zc R 0 P,zc S 0 Q,I O N,I O M,I O L,.string K,zc q q1 H] w1 w.heap.size):=Af.over (Ax w [I O kd,I O a,.string x,.string y,zd U,zc W nL V,zc R 0 P,zc S 0 Q,I O N,I O M,I O L,.string K,zc q q1 H] 51) J;clear J  KO;obtain ⟨E,C,B,A,v,u,n,l,j,i,g,f,c⟩:=AI F.o;go_wp2_with fail;go_ret;exact ⟨by rw [Y.o];(first | rfl | (simp;done) | (simp;assumption) | (simp;omega)),Z.o⟩
  ·have hi:¬ (nB:Int)=0:=by omega
   have Y:Hx (fin=false):=by show _=_;rw [b];simp [h7,h2]
   clear b;go_enter Tryz.func68,Tryz.ntmps68;go_wp2_with fail;go_ret;exact ⟨by rw [Y.o];(first | rfl | (simp;done) | (simp;assumption) | (simp;omega)),bA w (ze #[I O kd,I O a,.string x,.string y,zd U,zc W nL V,zc R 0 P,zc S nB Q,I O N,I O M,I O L,.string K,zc q q1 H] 51)⟩
 ·have hi:¬ (nP:Int)=0:=by omega
  have Y:Hx (fin=false):=by show _=_;rw [b];simp [h7,h1]
  clear b;go_enter Tryz.func68,Tryz.ntmps68;go_wp2_with fail;go_ret;exact ⟨by rw [Y.o];(first | rfl | (simp;done) | (simp;assumption) | (simp;omega)),bA w (ze #[I O kd,I O a,.string x,.string y,zd U,zc W nL V,zc R nP P,zc S nB Q,I O N,I O M,I O L,.string K,zc q q1 H] 51)⟩
theorem Lo (ke kc:Nat) (cs:List Value) (d:D) (w:World) (h:ZD w ke kc cs d):Ro 34 #[.agg cs.toArray] w (zd (dfK ke kc d)):=by
 have an:Hx (∀ X,Ov w X->Ro 67 #[.agg cs.toArray] X (zd (Eb d))):=fun X hX=>JG ke kc cs d X (h.over hX);have ap:Hx (∀ X,Ov w X->Ro 68 #[.agg cs.toArray] X (zd (Ec ke kc d))):=fun X hX=>GU ke kc cs d X (h.over hX);obtain ⟨L,a,x,y,M,Z,V,lb,Y,U,ps,aB,W,K,T,S,R,Q,q,q1,P,r,rfl,rfl,hx,hy,-,-,-,-⟩:=h;obtain ⟨fin,E⟩:=nm (dfK ke kc (deD L a x y M lb ps K r));rw [<-E];unfold dfK at E;obtain ⟨ql,al⟩:=nm (Eb (deD L a x y M lb ps K r));obtain ⟨qf,am⟩:=nm (Ec ke kc (deD L a x y M lb ps K r));rw [<-al,<-am] at E;rw [<-al] at an;rw [<-am] at ap;simp only [gDd] at E;obtain ⟨qn,ak⟩:=nm (nmS x.data.toList);rw [<-ak] at E;have KL:Hx (∀ X,Ov w X->Ro 67 #[zg #[I O L,I O a,.string x,.string y,zd M,zc Z lb.length V,zc Y ps.length U,zc aB K.length W,I O T,I O S,I O R,.string Q,zc q q1 P]] X (zd ql)):=an;have KF:Hx (∀ X,Ov w X->Ro 68 #[zg #[I O L,I O a,.string x,.string y,zd M,zc Z lb.length V,zc Y ps.length U,zc aB K.length W,I O T,I O S,I O R,.string Q,zc q q1 P]] X (zd qf)):=ap;have KN:Hx (∀ X,Ov w X->Ro 65 #[.string x] X (zd qn)):=fun X _=>by rw [ak];exact DQ x X hx
 clear al am ak an ap hx;show Ro 34 #[zg #[I O L,I O a,.string x,.string y,zd M,zc Z lb.length V,zc Y ps.length U,zc aB K.length W,I O T,I O S,I O R,.string Q,zc q q1 P]] w _;generalize lb.length=nL at KL KF ⊢;generalize ps.length=nP at KL KF ⊢;generalize K.length=nB at KL KF ⊢;by_cases hlo:L < 1
 ·have N:Hx (fin=false):=by show _=_;rw [E,decide_eq_false (show ¬ 1<=L by omega)];simp
  clear E;go_enter Tryz.func34,Tryz.ntmps34;go_wp2_with fail;go_ret;exact ⟨by rw [N.o];(first | rfl | (simp;done) | (simp;assumption) | (simp;omega)),bA _ _⟩
 by_cases hhi:7 < L
 ·have N:Hx (fin=false):=by show _=_;rw [E,decide_eq_false (show ¬ L<=7 by omega)];simp
  clear E;go_enter Tryz.func34,Tryz.ntmps34;go_wp2_with fail;go_ret;exact ⟨by rw [N.o];(first | rfl | (simp;done) | (simp;assumption) | (simp;omega)),bA _ _⟩
 rw [decide_eq_true (show 1<=L by omega),decide_eq_true (show L<=7 by omega)] at E;by_cases h2:L=2
 ·subst h2
  obtain ⟨qy,ab⟩:=nm (nfS y.data.toList true);have HF:Hx (fin=(qn && qy && ql && qf)):=by show _=_;rw [E,ab];simp
  have KY:Hx (∀ X,Ov w X->Ro 66 #[.string y,zd true] X (zd qy)):=fun X _=>by rw [ab];exact BE y true X hy
  clear E ab hy hlo hhi;go_enter Tryz.func34,Tryz.ntmps34;go_wp2_with fail;refine (KN.o _ (bA w (ze #[I O 2,I O a,.string x,.string y,zd M,zc Z nL V,zc Y nP U,zc aB nB W,I O T,I O S,I O R,.string Q,zc q q1 P] 51))).mono ?_;rintro e w1 ⟨rfl,F⟩;have af:Hx (Ov w w1):=Ac (bA w (ze #[I O 2,I O a,.string x,.string y,zd M,zc Z nL V,zc Y nP U,zc aB nB W,I O T,I O S,I O R,.string Q,zc q q1 P] 51)) F;have J:Hx (Af [I O 2,I O a,.string x,.string y,zd M,zc Z nL V,zc Y nP U,zc aB nB W,I O T,I O S,I O R,.string Q,zc q q1 P] w1 w.heap.size):=Af.over (Ax w [I O 2,I O a,.string x,.string y,zd M,zc Z nL V,zc Y nP U,zc aB nB W,I O T,I O S,I O R,.string Q,zc q q1 P] 51) F;clear F  KN
  cases qn with
  | true=>
   obtain ⟨C,B,A,v,u,n,l,j,i,g,f,c,b⟩:=AI J.o;go_wp2_with fail;refine (KY.o _ (af.o)).mono ?_;rintro e w2 ⟨rfl,F⟩;have ae:Hx (Ov w w2):=Ac (af.o) F;have H:Hx (Af [I O 2,I O a,.string x,.string y,zd M,zc Z nL V,zc Y nP U,zc aB nB W,I O T,I O S,I O R,.string Q,zc q q1 P] w2 w.heap.size):=J.o.over F;clear F C B A v u n l j i g f c b KY
   cases qy with
   | true=>
    obtain ⟨C,B,A,v,u,n,l,j,i,g,f,c,b⟩:=AI H.o;go_wp2_with fail;refine (KL.o _ (ae.o)).mono ?_;rintro e w3 ⟨rfl,F⟩;have ad:Hx (Ov w w3):=Ac (ae.o) F;have G:Hx (Af [I O 2,I O a,.string x,.string y,zd M,zc Z nL V,zc Y nP U,zc aB nB W,I O T,I O S,I O R,.string Q,zc q q1 P] w3 w.heap.size):=H.o.over F;clear F C B A v u n l j i g f c b KL
    cases ql with
    | true=>
     obtain ⟨C,B,A,v,u,n,l,j,i,g,f,c,b⟩:=AI G.o;go_wp2_with fail;refine (KF.o _ (ad.o)).mono ?_;rintro e w4 ⟨rfl,F⟩;have ar:Hx (Ov w w4):=Ac (ad.o) F;have ac:Hx (Af [I O 2,I O a,.string x,.string y,zd M,zc Z nL V,zc Y nP U,zc aB nB W,I O T,I O S,I O R,.string Q,zc q q1 P] w4 w.heap.size):=G.o.over F;clear F C B A v u n l j i g f c b KF;have N:Hx (fin=qf):=by have h:=HF.o;simp at h;exact h
     obtain ⟨C,B,A,v,u,n,l,j,i,g,f,c,b⟩:=AI ac.o;go_wp2_with fail;go_ret;exact ⟨by rw [N.o];(first | rfl | (simp;done) | (simp;assumption) | (simp;omega)),ar.o⟩
    | false=>
     have N:Hx (fin=false):=by have h:=HF.o;simp at h;exact h
     obtain ⟨C,B,A,v,u,n,l,j,i,g,f,c,b⟩:=AI G.o;go_wp2_with fail;go_ret;exact ⟨by rw [N.o];(first | rfl | (simp;done) | (simp;assumption) | (simp;omega)),ad.o⟩
   | false=>
    have N:Hx (fin=false):=by have h:=HF.o;simp at h;exact h
    obtain ⟨C,B,A,v,u,n,l,j,i,g,f,c,b⟩:=AI H.o;go_wp2_with fail;go_ret;exact ⟨by rw [N.o];(first | rfl | (simp;done) | (simp;assumption) | (simp;omega)),ae.o⟩
  | false=>
   have N:Hx (fin=false):=by have h:=HF.o;simp at h;exact h
   obtain ⟨C,B,A,v,u,n,l,j,i,g,f,c,b⟩:=AI J.o;go_wp2_with fail;go_ret;exact ⟨by rw [N.o];(first | rfl | (simp;done) | (simp;assumption) | (simp;omega)),af.o⟩
 ·obtain ⟨qy,ab⟩:=nm (nfS y.data.toList false)
  have HF:Hx (fin=(qn && qy && ql && qf)):=by show _=_;rw [E,ab,decide_eq_false h2];simp
  have KY:Hx (∀ X,Ov w X->Ro 66 #[.string y,zd false] X (zd qy)):=fun X _=>by rw [ab];exact BE y false X hy
  have b2:(L == 2)=false:=by simpa using h2
  clear E ab hy h2;go_enter Tryz.func34,Tryz.ntmps34;go_wp2_with fail;refine (KN.o _ (bA w (ze #[I O L,I O a,.string x,.string y,zd M,zc Z nL V,zc Y nP U,zc aB nB W,I O T,I O S,I O R,.string Q,zc q q1 P] 51))).mono ?_;rintro e w1 ⟨rfl,F⟩;have af:Hx (Ov w w1):=Ac (bA w (ze #[I O L,I O a,.string x,.string y,zd M,zc Z nL V,zc Y nP U,zc aB nB W,I O T,I O S,I O R,.string Q,zc q q1 P] 51)) F;have J:Hx (Af [I O L,I O a,.string x,.string y,zd M,zc Z nL V,zc Y nP U,zc aB nB W,I O T,I O S,I O R,.string Q,zc q q1 P] w1 w.heap.size):=Af.over (Ax w [I O L,I O a,.string x,.string y,zd M,zc Z nL V,zc Y nP U,zc aB nB W,I O T,I O S,I O R,.string Q,zc q q1 P] 51) F;clear F  KN
  cases qn with
  | true=>
   obtain ⟨C,B,A,v,u,n,l,j,i,g,f,c,b⟩:=AI J.o;go_wp2_with fail;refine (KY.o _ (af.o)).mono ?_;rintro e w2 ⟨rfl,F⟩;have ae:Hx (Ov w w2):=Ac (af.o) F;have H:Hx (Af [I O L,I O a,.string x,.string y,zd M,zc Z nL V,zc Y nP U,zc aB nB W,I O T,I O S,I O R,.string Q,zc q q1 P] w2 w.heap.size):=J.o.over F;clear F C B A v u n l j i g f c b KY
   cases qy with
   | true=>
    obtain ⟨C,B,A,v,u,n,l,j,i,g,f,c,b⟩:=AI H.o;go_wp2_with fail;refine (KL.o _ (ae.o)).mono ?_;rintro e w3 ⟨rfl,F⟩;have ad:Hx (Ov w w3):=Ac (ae.o) F;have G:Hx (Af [I O L,I O a,.string x,.string y,zd M,zc Z nL V,zc Y nP U,zc aB nB W,I O T,I O S,I O R,.string Q,zc q q1 P] w3 w.heap.size):=H.o.over F;clear F C B A v u n l j i g f c b KL
    cases ql with
    | true=>
     obtain ⟨C,B,A,v,u,n,l,j,i,g,f,c,b⟩:=AI G.o;go_wp2_with fail;refine (KF.o _ (ad.o)).mono ?_;rintro e w4 ⟨rfl,F⟩;have ar:Hx (Ov w w4):=Ac (ad.o) F;have ac:Hx (Af [I O L,I O a,.string x,.string y,zd M,zc Z nL V,zc Y nP U,zc aB nB W,I O T,I O S,I O R,.string Q,zc q q1 P] w4 w.heap.size):=G.o.over F;clear F C B A v u n l j i g f c b KF;have N:Hx (fin=qf):=by have h:=HF.o;simp at h;exact h
     obtain ⟨C,B,A,v,u,n,l,j,i,g,f,c,b⟩:=AI ac.o;go_wp2_with fail;go_ret;exact ⟨by rw [N.o];(first | rfl | (simp;done) | (simp;assumption) | (simp;omega)),ar.o⟩
    | false=>
     have N:Hx (fin=false):=by have h:=HF.o;simp at h;exact h
     obtain ⟨C,B,A,v,u,n,l,j,i,g,f,c,b⟩:=AI G.o;go_wp2_with fail;go_ret;exact ⟨by rw [N.o];(first | rfl | (simp;done) | (simp;assumption) | (simp;omega)),ad.o⟩
   | false=>
    have N:Hx (fin=false):=by have h:=HF.o;simp at h;exact h
    obtain ⟨C,B,A,v,u,n,l,j,i,g,f,c,b⟩:=AI H.o;go_wp2_with fail;go_ret;exact ⟨by rw [N.o];(first | rfl | (simp;done) | (simp;assumption) | (simp;omega)),ae.o⟩
  | false=>
   have N:Hx (fin=false):=by have h:=HF.o;simp at h;exact h
   obtain ⟨C,B,A,v,u,n,l,j,i,g,f,c,b⟩:=AI J.o;go_wp2_with fail;go_ret;exact ⟨by rw [N.o];(first | rfl | (simp;done) | (simp;assumption) | (simp;omega)),af.o⟩
end Go.Proofs.YtipngnjffjajpaaGreatDoor.Tx
