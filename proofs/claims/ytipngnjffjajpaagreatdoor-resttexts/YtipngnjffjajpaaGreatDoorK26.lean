/- Package tree's Check: commands, functions, declarations that are fine. -/
import Derived.Test.YtipngnjffjajpaaGreatDoorK08
import Derived.Test.YtipngnjffjajpaaGreatDoorK18
set_option linter.unusedVariables false
set_option maxHeartbeats 8000000
set_option maxRecDepth 100000
namespace Go.Proofs.YtipngnjffjajpaaGreatDoor.Tx
open Go.RowKit
open Go.Value renaming int -> O, slice -> zd, bool -> ze, agg -> zf, pointer -> zh, tuple -> zj
open Go.IntKind renaming i64 -> zc
open Go.Obj renaming cells -> zg
open Go.Ending renaming returned -> zi
theorem GV (ke:Nat):∀ (k:Nat) (cs:List Value) (d:D) (w:World),ZC w ke k cs d->Ro 36 #[.agg cs.toArray] w (ze (sfK ke k d)):=by
 intro k
 induction k with
 | zero=>intro cs d w h;exact h.elim
 | succ k ih=>
  intro cs d w h;obtain ⟨r,a,x,y,e0,e1,e2,e3,q,q1,q2,e,aA,cA,l,aT,cT,Q,aE,cE,R,rfl,rfl,hx,hy,he,hA,hT,hE⟩:=h;obtain ⟨fin,n⟩:=nm (sfK ke (k+1) (stD r a x y e l Q R));rw [<-n];simp only [sfK,gSs] at n;obtain ⟨Y,P⟩:=nm (FT r);obtain ⟨W,N⟩:=nm (FV r);obtain ⟨b2,M⟩:=nm (Ft r);obtain ⟨V,L⟩:=nm (FW r);obtain ⟨U,K⟩:=nm (FU r);obtain ⟨T,J⟩:=nm (Fu r);obtain ⟨ok,I⟩:=nm (hOk r);have KS:Hx (∀ X,Ov w X->Ro 69 #[O zc r] X (zj #[zf #[ze Y,ze W,ze b2,ze V,ze U,ze T],ze ok])):=fun X _=>by rw [P,N,M,L,K,J,I];exact Ot r X
  rw [<-P,<-N,<-M,<-L,<-K,<-J,<-I] at n;clear P N M L K J I;obtain ⟨qv,C⟩:=nm (nfS x.data.toList Y);obtain ⟨qy,A⟩:=nm (nfS y.data.toList W);obtain ⟨qe,G⟩:=nm (efK ke e);obtain ⟨qx,B⟩:=nm (CO e);obtain ⟨qa,H⟩:=nm (lfS l V (efK ke));obtain ⟨qt,E⟩:=nm (lfS Q U (sfK ke k));obtain ⟨ql,F⟩:=nm (lfS R T (sfK ke k));rw [<-C,<-A,<-G,<-B,<-H,<-E,<-F] at n;have S:=Aa n;have KV:Hx (∀ X,Ov w X->Ro 66 #[.string x,ze Y] X (ze qv)):=fun X _=>by rw [C];exact CE x Y X hx
  have KY:Hx (∀ X,Ov w X->Ro 66 #[.string y,ze W] X (ze qy)):=fun X _=>by rw [A];exact CE y W X hy
  have KX:Hx (∀ X,Ov w X->Ro 70 #[zf #[O zc e0,O zc e1,O zc e2,.string e3,zd q q1 q2]] X (ze qe)):=fun X v=>by rw [G];exact Fw ke _ e X (he.over v)
  have KO:Hx (∀ X,Ov w X->Ro 71 #[zf #[O zc e0,O zc e1,O zc e2,.string e3,zd q q1 q2]] X (ze qx)):=fun X v=>by rw [B];exact Ou ke _ e X (he.over v)
  have KA:Hx (∀ X,Ov w X->Ro 72 #[zd aA l.length cA,ze V,.func (.func 70) #[] #[]] X (ze qa)):=fun X v=>by rw [H];exact Kc 70 (fun l w=>by simp [go_sem]) (efK ke) l aA cA V X (fun cs d X _ h=>Fw ke cs d X h) (BQ v hA)
  have KT:Hx (∀ X,Ov w X->Ro 73 #[zd aT Q.length cT,ze U,.func (.func 36) #[] #[]] X (ze qt)):=fun X v=>by rw [E];exact Gs 36 (fun l w=>by simp [go_sem]) (sfK ke k) Q aT cT U X (fun cs d X _ h=>ih cs d X h) (Ar v hT)
  have Z:Hx (∀ X,Ov w X->Ro 73 #[zd aE R.length cE,ze T,.func (.func 36) #[] #[]] X (ze ql)):=fun X v=>by rw [F];exact Gs 36 (fun l w=>by simp [go_sem]) (sfK ke k) R aE cE T X (fun cs d X _ h=>ih cs d X h) (Ar v hE)
  clear n C A G B H E F hx hy he hA hT hE ih;show Ro 36 #[zf #[O zc r,O zc a,.string x,.string y,O zc e0,O zc e1,O zc e2,.string e3,zd q q1 q2,zd aA l.length cA,zd aT Q.length cT,zd aE R.length cE]] w _;generalize l.length=nA at KA ⊢;generalize Q.length=nT at KT ⊢;generalize R.length=nE at Z ⊢;go_enter Tryz.func36,Tryz.ntmps36;go_wp2_with fail;refine mo (KS.o _ (bA _ _)) fun w1 i=>?_;obtain ⟨c,j⟩:=rov i;clear i KS
  cases ok with
  | true=>
   have b:=Ad.all ((Aa (c.o.over (bA w1 (zg #[ze Y,ze W,ze b2,ze V,ze U,ze T] 106)))).o);go_wp2_with fail;refine mo (KV.o _ (Ab j.o (bA _ _))) fun w2 i=>?_;replace j:=Aa (Ab (Ab j.o (bA _ _)) i);replace c:=Aa ((c.o.over (bA _ _)).over i);have g:=(rov i).1;clear i b KV;cases qv
   case' true=>
    have b:=Ad.all c.o;have f:=Ad.all g.o;go_wp2_with fail;refine mo (KY.o _ j.o) fun w3 i=>?_;replace j:=Aa (Ab j.o i);replace c:=Aa (c.o.over i);replace g:=Aa (g.o.over i);clear i b f KY;cases qy
    case' true=>
     cases b2 with
     | true=>
      have b:=Ad.all c.o;have f:=Ad.all g.o;go_wp2_with fail;refine mo (KX.o _ j.o) fun w4 i=>?_;replace j:=Aa (Ab j.o i);replace c:=Aa (c.o.over i);replace g:=Aa (g.o.over i);clear i b f KX;cases qe
      case' true=>
       have b:=Ad.all c.o;have f:=Ad.all g.o;go_wp2_with fail;refine mo (KA.o _ j.o) fun w5 i=>?_;replace j:=Aa (Ab j.o i);replace c:=Aa (c.o.over i);replace g:=Aa (g.o.over i);clear i b f KA;cases qa
       case' true=>
        have b:=Ad.all c.o;have f:=Ad.all g.o;go_wp2_with fail;refine mo (KT.o _ j.o) fun w6 i=>?_;replace j:=Aa (Ab j.o i);replace c:=Aa (c.o.over i);replace g:=Aa (g.o.over i);clear i b f KT;cases qt
        case' true=>
         have b:=Ad.all c.o;have f:=Ad.all g.o;go_wp2_with fail;refine mo (Z.o _ j.o) fun w7 i=>?_;replace j:=Aa (Ab j.o i);replace c:=Aa (c.o.over i);replace g:=Aa (g.o.over i);clear i b f Z;have u:Hx (fin=ql):=by have h:=S.o;simp at h;exact h
         have b:=Ad.all c.o;have f:=Ad.all g.o;go_wp2_with fail;go_ret;exact ⟨by rw [u.o];(first | rfl | (simp;done) | (simp;assumption) | (simp;omega)),j.o⟩
      all_goals
       have u:Hx (fin=false):=by have h:=S.o;simp at h;exact h
       try have b:=Ad.all c.o
       try have f:=Ad.all g.o
       go_wp2_with fail;go_ret;exact ⟨by rw [u.o];(first | rfl | (simp;done) | (simp;assumption) | (simp;omega)),j.o⟩
     | false=>
      have b:=Ad.all c.o;have f:=Ad.all g.o;go_wp2_with fail;refine mo (KO.o _ j.o) fun w4 i=>?_;replace j:=Aa (Ab j.o i);replace c:=Aa (c.o.over i);replace g:=Aa (g.o.over i);clear i b f KO;cases qx
      case' true=>
       have b:=Ad.all c.o;have f:=Ad.all g.o;go_wp2_with fail;refine mo (KA.o _ j.o) fun w5 i=>?_;replace j:=Aa (Ab j.o i);replace c:=Aa (c.o.over i);replace g:=Aa (g.o.over i);clear i b f KA;cases qa
       case' true=>
        have b:=Ad.all c.o;have f:=Ad.all g.o;go_wp2_with fail;refine mo (KT.o _ j.o) fun w6 i=>?_;replace j:=Aa (Ab j.o i);replace c:=Aa (c.o.over i);replace g:=Aa (g.o.over i);clear i b f KT;cases qt
        case' true=>
         have b:=Ad.all c.o;have f:=Ad.all g.o;go_wp2_with fail;refine mo (Z.o _ j.o) fun w7 i=>?_;replace j:=Aa (Ab j.o i);replace c:=Aa (c.o.over i);replace g:=Aa (g.o.over i);clear i b f Z;have u:Hx (fin=ql):=by have h:=S.o;simp at h;exact h
         have b:=Ad.all c.o;have f:=Ad.all g.o;go_wp2_with fail;go_ret;exact ⟨by rw [u.o];(first | rfl | (simp;done) | (simp;assumption) | (simp;omega)),j.o⟩
      all_goals
       have u:Hx (fin=false):=by have h:=S.o;simp at h;exact h
       try have b:=Ad.all c.o
       try have f:=Ad.all g.o
       go_wp2_with fail;go_ret;exact ⟨by rw [u.o];(first | rfl | (simp;done) | (simp;assumption) | (simp;omega)),j.o⟩
   all_goals
    have u:Hx (fin=false):=by have h:=S.o;simp at h;exact h
    try have b:=Ad.all c.o
    try have f:=Ad.all g.o
    go_wp2_with fail;go_ret;exact ⟨by rw [u.o];(first | rfl | (simp;done) | (simp;assumption) | (simp;omega)),j.o⟩
  | false=>
   have u:Hx (fin=false):=by have h:=S.o;simp at h;exact h
   have b:=Ad.all c.o;go_wp2_with fail;go_ret;exact ⟨by rw [u.o];(first | rfl | (simp;done) | (simp;assumption) | (simp;omega)),Ab j.o (bA _ _)⟩
theorem Hf (ke kc:Nat) (cs:List Value) (d:D) (w:World) (h:ZD w ke kc cs d):Ro 68 #[.agg cs.toArray] w (ze (Ez ke kc d)):=by
 obtain ⟨H,a,x,y,gv,aL,cL,G,S,Q,C,T,R,g,P,N,M,L,q,q1,F,r,rfl,rfl,-,-,hL,J,K,I⟩:=h;obtain ⟨fin,b⟩:=nm (Ez ke kc (deD H a x y gv G C g r));rw [<-b];unfold Ez at b;simp only [gDd,D2 nmS,DS,List.length_map] at b;obtain ⟨qp,v⟩:=nm (C.all fun x=>nmS x.data.toList);obtain ⟨qb,A⟩:=nm (g.all (sfK ke kc));obtain ⟨qr,u⟩:=nm (efK ke r);obtain ⟨Z,n⟩:=nm (CO r);rw [<-v,<-A,<-u,<-n] at b;have U:Hx (∀ X,Ov w X->Ro 110 #[zd S C.length Q,.func (.func 65) #[] #[]] X (ze qp)):=fun X B=>by rw [v];exact Ph 65 (fun E w=>by simp [go_sem]) _ C S Q X (fun x X hx=>D8 x X hx) (Bu B J)
 have V:Hx (∀ X,Ov w X->Ro 35 #[zd T g.length R,.func (.func 36) #[] #[]] X (ze qb)):=fun X B=>by rw [A];exact LZ 36 (fun E w=>by simp [go_sem]) (sfK ke kc) g T R X (fun cs d X _ h=>GV ke kc cs d X h) (Ar B K)
 have KR:Hx (∀ X,Ov w X->Ro 70 #[zf #[O zc P,O zc N,O zc M,.string L,zd q q1 F]] X (ze qr)):=fun X B=>by rw [u];exact Fw ke _ r X (I.over B)
 have KO:Hx (∀ X,Ov w X->Ro 71 #[zf #[O zc P,O zc N,O zc M,.string L,zd q q1 F]] X (ze Z)):=fun X B=>by rw [n];exact Ou ke _ r X (I.over B)
 have W:=J.max;have Y:=K.max;clear v A u n hL J K I;show Ro 68 #[zf #[O zc H,O zc a,.string x,.string y,ze gv,zd aL G.length cL,zd S C.length Q,zd T g.length R,O zc P,O zc N,O zc M,.string L,zd q q1 F]] w _;generalize G.length=nL at ⊢;generalize C.length=nP at b U W ⊢;generalize g.length=nB at b V Y ⊢;by_cases h7:H=7
 ·subst h7
  rw [if_pos rfl] at b;have HF:=Aa b;clear b;go_enter Tryz.func68,Tryz.ntmps68;go_wp2_with fail;refine mo (U.o _ (bA _ _)) fun w1 i=>?_;obtain ⟨c,j⟩:=rov i;clear i U;cases qp
  case' true=>
   have f:=Ad.all c.o;go_wp2_with fail;refine mo (V.o _ j.o) fun w2 i=>?_;replace j:=Aa (Ab j.o i);replace c:=Aa (c.o.over i);clear i f V;cases qb
   case' true=>
    have f:=Ad.all c.o;go_wp2_with fail;refine mo (KR.o _ j.o) fun w3 i=>?_;replace j:=Aa (Ab j.o i);replace c:=Aa (c.o.over i);clear i f KR;have l:Hx (fin=qr):=by have h:=HF.o;simp at h;exact h
    have f:=Ad.all c.o;go_wp2_with fail;go_ret;exact ⟨by rw [l.o];(first | rfl | (simp;done) | (simp;assumption) | (simp;omega)),j.o⟩
  all_goals
   have l:Hx (fin=false):=by have h:=HF.o;simp at h;exact h
   have f:=Ad.all c.o;go_wp2_with fail;go_ret;exact ⟨by rw [l.o];(first | rfl | (simp;done) | (simp;assumption) | (simp;omega)),j.o⟩
 by_cases h1:nP=0
 ·subst h1
  by_cases h2:nB=0
  ·subst h2
   have l:Hx (fin=Z):=by show _=_;rw [b];simp [h7]
   clear b;go_enter Tryz.func68,Tryz.ntmps68;go_wp2_with fail;refine mo (KO.o _ (bA _ _)) fun w1 i=>?_;obtain ⟨c,j⟩:=rov i;clear i KO;have f:=Ad.all c.o;go_wp2_with fail;go_ret;exact ⟨by rw [l.o];(first | rfl | (simp;done) | (simp;assumption) | (simp;omega)),j.o⟩
  ·have hi:¬ (nB:Int)=0:=by omega
   have l:Hx (fin=false):=by show _=_;rw [b];simp [h7,h2]
   clear b;go_enter Tryz.func68,Tryz.ntmps68;go_wp2_with fail;go_ret;exact ⟨by rw [l.o];(first | rfl | (simp;done) | (simp;assumption) | (simp;omega)),bA _ _⟩
 ·have hi:¬ (nP:Int)=0:=by omega
  have l:Hx (fin=false):=by show _=_;rw [b];simp [h7,h1]
  clear b;go_enter Tryz.func68,Tryz.ntmps68;go_wp2_with fail;go_ret;exact ⟨by rw [l.o];(first | rfl | (simp;done) | (simp;assumption) | (simp;omega)),bA _ _⟩
theorem LM (ke kc:Nat) (cs:List Value) (d:D) (w:World) (h:ZD w ke kc cs d):Ro 34 #[.agg cs.toArray] w (ze (dfK ke kc d)):=by
 have G:Hx (∀ X,Ov w X->Ro 67 #[.agg cs.toArray] X (ze (Ew d))):=fun X U=>Kg ke kc cs d X (h.over U);have I:Hx (∀ X,Ov w X->Ro 68 #[.agg cs.toArray] X (ze (Ez ke kc d))):=fun X U=>Hf ke kc cs d X (h.over U);obtain ⟨n,a,x,y,K,aL,cL,B,aP,cP,A,aB,cB,i,Z,Y,W,V,q,q1,T,r,rfl,rfl,hx,R,-,-,-,-⟩:=h;obtain ⟨fin,f⟩:=nm (dfK ke kc (deD n a x y K B A i r));rw [<-f];unfold dfK at f;obtain ⟨M,E⟩:=nm (Ew (deD n a x y K B A i r));obtain ⟨N,F⟩:=nm (Ez ke kc (deD n a x y K B A i r));rw [<-E,<-F] at f;rw [<-E] at G;rw [<-F] at I;simp only [gDd] at f;obtain ⟨L,C⟩:=nm (nmS x.data.toList);rw [<-C] at f;have H:Hx (∀ X,Ov w X->Ro 67 #[zf #[O zc n,O zc a,.string x,.string y,ze K,zd aL B.length cL,zd aP A.length cP,zd aB i.length cB,O zc Z,O zc Y,O zc W,.string V,zd q q1 T]] X (ze M)):=G;have J:Hx (∀ X,Ov w X->Ro 68 #[zf #[O zc n,O zc a,.string x,.string y,ze K,zd aL B.length cL,zd aP A.length cP,zd aB i.length cB,O zc Z,O zc Y,O zc W,.string V,zd q q1 T]] X (ze N)):=I;have S:Hx (∀ X,Ov w X->Ro 65 #[.string x] X (ze L)):=fun X _=>by rw [C];exact D8 x X hx
 clear E F C G I hx;show Ro 34 #[zf #[O zc n,O zc a,.string x,.string y,ze K,zd aL B.length cL,zd aP A.length cP,zd aB i.length cB,O zc Z,O zc Y,O zc W,.string V,zd q q1 T]] w _;generalize B.length=nL at H J ⊢;generalize A.length=nP at H J ⊢;generalize i.length=nB at H J ⊢;by_cases hlo:n < 1
 ·have u:Hx (fin=false):=by show _=_;rw [f,decide_eq_false (show ¬ 1<=n by omega)];simp
  clear f;go_enter Tryz.func34,Tryz.ntmps34;go_wp2_with fail;go_ret;exact ⟨by rw [u.o];(first | rfl | (simp;done) | (simp;assumption) | (simp;omega)),bA _ _⟩
 by_cases hhi:7 < n
 ·have u:Hx (fin=false):=by show _=_;rw [f,decide_eq_false (show ¬ n<=7 by omega)];simp
  clear f;go_enter Tryz.func34,Tryz.ntmps34;go_wp2_with fail;go_ret;exact ⟨by rw [u.o];(first | rfl | (simp;done) | (simp;assumption) | (simp;omega)),bA _ _⟩
 rw [decide_eq_true (show 1<=n by omega),decide_eq_true (show n<=7 by omega)] at f;by_cases h2:n=2
 ·subst h2
  obtain ⟨v,l⟩:=nm (nfS y.data.toList true);have Q:Hx (fin=(L && v && M && N)):=by show _=_;rw [f,l];simp
  have P:Hx (∀ X,Ov w X->Ro 66 #[.string y,ze true] X (ze v)):=fun X _=>by rw [l];exact CE y true X R
  clear f l R hlo hhi;go_enter Tryz.func34,Tryz.ntmps34;go_wp2_with fail;refine mo (S.o _ (bA _ _)) fun w1 g=>?_;obtain ⟨c,j⟩:=rov g;clear g S;cases L
  case' true=>
   have b:=Ad.all c.o;go_wp2_with fail;refine mo (P.o _ j.o) fun w2 g=>?_;replace j:=Aa (Ab j.o g);replace c:=Aa (c.o.over g);clear g b P;cases v
   case' true=>
    have b:=Ad.all c.o;go_wp2_with fail;refine mo (H.o _ j.o) fun w3 g=>?_;replace j:=Aa (Ab j.o g);replace c:=Aa (c.o.over g);clear g b H;cases M
    case' true=>
     have b:=Ad.all c.o;go_wp2_with fail;refine mo (J.o _ j.o) fun w4 g=>?_;replace j:=Aa (Ab j.o g);replace c:=Aa (c.o.over g);clear g b J;have u:Hx (fin=N):=by have h:=Q.o;simp at h;exact h
     have b:=Ad.all c.o;go_wp2_with fail;go_ret;exact ⟨by rw [u.o];(first | rfl | (simp;done) | (simp;assumption) | (simp;omega)),j.o⟩
  all_goals
   have u:Hx (fin=false):=by have h:=Q.o;simp at h;exact h
   try have b:=Ad.all c.o
   go_wp2_with fail;go_ret;exact ⟨by rw [u.o];(first | rfl | (simp;done) | (simp;assumption) | (simp;omega)),j.o⟩
 ·obtain ⟨v,l⟩:=nm (nfS y.data.toList false)
  have Q:Hx (fin=(L && v && M && N)):=by show _=_;rw [f,l,decide_eq_false h2];simp
  have P:Hx (∀ X,Ov w X->Ro 66 #[.string y,ze false] X (ze v)):=fun X _=>by rw [l];exact CE y false X R
  have b2:(n == 2)=false:=by simpa using h2
  clear f l R h2;go_enter Tryz.func34,Tryz.ntmps34;go_wp2_with fail;refine mo (S.o _ (bA _ _)) fun w1 g=>?_;obtain ⟨c,j⟩:=rov g;clear g S;cases L
  case' true=>
   have b:=Ad.all c.o;go_wp2_with fail;refine mo (P.o _ j.o) fun w2 g=>?_;replace j:=Aa (Ab j.o g);replace c:=Aa (c.o.over g);clear g b P;cases v
   case' true=>
    have b:=Ad.all c.o;go_wp2_with fail;refine mo (H.o _ j.o) fun w3 g=>?_;replace j:=Aa (Ab j.o g);replace c:=Aa (c.o.over g);clear g b H;cases M
    case' true=>
     have b:=Ad.all c.o;go_wp2_with fail;refine mo (J.o _ j.o) fun w4 g=>?_;replace j:=Aa (Ab j.o g);replace c:=Aa (c.o.over g);clear g b J;have u:Hx (fin=N):=by have h:=Q.o;simp at h;exact h
     have b:=Ad.all c.o;go_wp2_with fail;go_ret;exact ⟨by rw [u.o];(first | rfl | (simp;done) | (simp;assumption) | (simp;omega)),j.o⟩
  all_goals
   have u:Hx (fin=false):=by have h:=Q.o;simp at h;exact h
   try have b:=Ad.all c.o
   go_wp2_with fail;go_ret;exact ⟨by rw [u.o];(first | rfl | (simp;done) | (simp;assumption) | (simp;omega)),j.o⟩
theorem Lk (ke k:Nat) (l:List D) (deep left:Int) (h1:-1<=left) (h2:left<=50):-1<=slK ke k l deep left/\slK ke k l deep left<=50:=by
 have h:=EG ke k l deep left h1 h2;have b:=Dn ke k l deep;rw [h];split <;> omega
theorem NL (ke:Nat) (rec:List D->Int->Int) (deep t:Int) (s:D):slF ke rec deep (t,false) s=if t - 1 < 0\/6 < deep\/CR ke s=true then (-1,true) else (rec (gL 7 s) (rec (gL 6 s) (t - 1)),false):=by
 unfold slF;rw [if_neg (by simp)]
theorem FC (ke:Nat) (rec:List D->Int->Int) (deep:Int):∀ (l:List D),(l.foldl (slF ke rec deep) (-1,true)).1=-1
 | []=>rfl
 | a::l=>by
  rw [List.foldl_cons];have:slF ke rec deep (-1,true) a=(-1,true):=by unfold slF;rw [if_pos rfl]
  rw [this];exact FC ke rec deep l
theorem H8 (ao:Option Addr) (cap:Nat) (w:World) (deep left:Int):Ro 64 #[zd ao 0 cap,O zc deep,O zc left] w (O zc left):=by
 go_enter Tryz.func64,Tryz.ntmps64;go_wp2_with fail;go_loopw [2,11] (fun c i wr=>c=O zc left/\i=O zc 0/\wr=w) (fun _ _ _=>0)
 case atStart=>exact ⟨rfl,rfl,rfl⟩
 case round=>
  obtain ⟨rfl,rfl,rfl⟩:=hrel;go_wp2_with fail;go_ret;exact ⟨rfl,Below.refl _ _⟩
theorem Gk (ke:Nat):∀ (k:Nat) (l:List D) (ao:Option Addr) (cap:Nat) (w:World) (deep left:Int),LS 12 (ZC w ke k) w (zd ao l.length cap) l->1<=deep->deep<=7->-1<=left->left<=50->Ro 64 #[zd ao l.length cap,O zc deep,O zc left] w (O zc (slK ke k l deep left)):=by
 intro k
 induction k with
 | zero=>
  intro l ao cap w deep left h _ _ _ _;have hl:l=[]:=by
   cases l with
   | nil=>rfl
   | cons a l=>
    obtain ⟨b,ag,-,cs,-,-,hr⟩:=h.at (j:=0) (by simp);exact hr.elim
  subst hl;exact H8 ao cap w deep left
 | succ k ih=>
  intro l ao cap w deep left hc g1 g2 g3 g4;have HC:=Aa hc;have IH:=Aa ih;have HL:=hc.max;obtain ⟨fin,u⟩:=nm (l.foldl (slF ke (fun l left=>slK ke k l (deep+1) left) deep) (left,false)).1;have n:slK ke (k+1) l deep left=fin:=by rw [u];rfl
  rw [n];have HF:=Aa u;obtain ⟨nn,J⟩:=nm l.length;rw [<-J] at HL ⊢;have HN:=Aa J;clear hc ih n u J;go_enter Tryz.func64,Tryz.ntmps64;go_wp2_with fail;go_loopw [2,11] (fun c i wr=>∃ (j:Nat) (t:Int),j<=nn/\i=O zc j/\c=O zc t/\-1<=t/\t<=50/\((l.drop j).foldl (slF ke (fun l left=>slK ke k l (deep+1) left) deep) (t,false)).1=fin/\Ov w wr) (fun _ i _=>nn - (intOf i).toNat)
  case atStart=>exact ⟨0,left,Nat.zero_le _,rfl,rfl,g3,g4,HF.o.symm,Below.refl _ _⟩
  case round=>
   obtain ⟨j,t,hj,rfl,rfl,t1,t2,f,C⟩:=hrel;by_cases hjl:j < nn
   ·have r:j < l.length:=by have:=HN.o;omega
    obtain ⟨b,ag,rfl,cs,Y,K,hr⟩:=HC.o.at r;rw [El r] at f;generalize l[j]=dj at f hr;have M:Hx (∀ X,Ov wr X->Ro 107 #[.agg cs.toArray] X (ze (CR ke dj))):=fun X B=>P1 ke (k+1) cs dj X ((hr.over C).over B);obtain ⟨kd,a,x,y,e0,e1,e2,e3,q,q1,q2,e,aA,cA,v,T,R,F,U,S,G,rfl,rfl,-,-,-,-,hT,hE⟩:=id hr;rw [NL] at f;simp only [gSs] at f;have L:Hx (∀ X (t:Int),Ov wr X->deep<=6->-1<=t->t<=50->Ro 64 #[zd T F.length R,O zc (deep+1),O zc t] X (O zc (slK ke k F (deep+1) t))):=fun X t B h6 h1 h2=>IH.o F T R X (deep+1) t (Ar B (Ar C hT)) (by omega) (by omega) h1 h2;have N:Hx (∀ X (t:Int),Ov wr X->deep<=6->-1<=t->t<=50->Ro 64 #[zd U G.length S,O zc (deep+1),O zc t] X (O zc (slK ke k G (deep+1) t))):=fun X t B h6 h1 h2=>IH.o G U S X (deep+1) t (Ar B (Ar C hE)) (by omega) (by omega) h1 h2;obtain ⟨qm,W⟩:=nm (CR ke (stD kd a x y e v F G));rw [<-W] at f M;have d0:=CK C K rfl;have dA:=CJ C K;have V:=Aa C;have a9:(j:Int) < (nn:Int):=by omega
    have Z:Hx (∀ X,Ov wr X->Ro 107 #[zf #[O zc kd,O zc a,.string x,.string y,O zc e0,O zc e1,O zc e2,.string e3,zd q q1 q2,zd aA v.length cA,zd T F.length R,zd U G.length S]] X (ze qm)):=M;clear K Y hr C r hT hE W M;generalize v.length=nA at Z d0 dA;generalize F.length=nT at Z L d0 dA;generalize G.length=nE at Z N d0 dA;by_cases ht0:t - 1 < 0
    ·rw [if_pos (Or.inl ht0)] at f
     have g:=Aa (f.symm.trans (FC ke _ deep _));clear f;go_wp2_with fail;go_ret;exact ⟨by rw [g.o];rfl,Ab V.o (bA _ _)⟩
    by_cases h6:6 < deep
    ·rw [if_pos (Or.inr (Or.inl h6))] at f
     have g:=Aa (f.symm.trans (FC ke _ deep _));clear f;go_wp2_with fail;go_ret;exact ⟨by rw [g.o];rfl,Ab V.o (bA _ _)⟩
    have g:=Aa f;clear f;go_wp2_with fail;refine mo (Z.o _ (bA _ _)) fun w1 A=>?_;have E:Hx (Ov wr w1):=Ab (bA _ _) A;have P:Hx (Ad [O zc kd,O zc a,.string x,.string y,O zc e0,O zc e1,O zc e2,.string e3,zd q q1 q2,zd aA nA cA,zd T nT R,zd U nE S] w1 wr.heap.size):=Ad.over (A5 wr [O zc kd,O zc a,.string x,.string y,O zc e0,O zc e1,O zc e2,.string e3,zd q q1 q2,zd aA nA cA,zd T nT R,zd U nE S] 55) A;clear A d0 dA Z
    cases qm with
    | true=>
     have f:=g.o;rw [if_pos (Or.inr (Or.inr rfl))] at f;replace g:=Aa (f.symm.trans (FC ke _ deep _));clear f;go_wp2_with fail;go_ret;exact ⟨by rw [g.o];rfl,Ab V.o E.o⟩
    | false=>
     have f:=g.o;rw [if_neg (by rintro (h | h | h) <;> first | omega | cases h)] at f
     obtain ⟨r1,I⟩:=nm (slK ke k F (deep+1) (t - 1));have ak:=Lk ke k F (deep+1) (t - 1) (by omega) (by omega);rw [<-I] at f ak;obtain ⟨r2,H⟩:=nm (slK ke k G (deep+1) r1);have aj:=Lk ke k G (deep+1) r1 (by omega) (by omega);rw [<-H] at f aj;have KT:Hx (∀ X,Ov wr X->Ro 64 #[zd T nT R,O zc (deep+1),O zc (t - 1)] X (O zc r1)):=fun X B=>by rw [I];exact L.o X (t - 1) B (by omega) (by omega) (by omega)
     have KE:Hx (∀ X,Ov wr X->Ro 64 #[zd U nE S,O zc (deep+1),O zc r1] X (O zc r2)):=fun X B=>by rw [H];exact N.o X r1 B (by omega) (by omega) (by omega)
     replace g:=Aa f;clear f I H L N;have mR:=AR P.o;go_wp2_with fail;refine mo (KT.o _ E.o) fun w2 A=>?_;have Q:=Aa (Ab E.o A);have aa:=Aa (P.o.over A);clear A mR KT P E;have mR:=AR aa.o;go_wp2_with fail;refine mo (KE.o _ Q.o) fun w3 A=>?_;have ay:Hx (Ov w w3):=Ab V.o (Ab Q.o A);clear A mR KE aa Q;go_wp2_with fail;exact ⟨⟨j+1,r2,by omega,by go_num,rfl,by omega,by omega,g.o,ay.o⟩,by simp [intOf];omega⟩
   ·have hd:l.drop j=[]:=List.drop_eq_nil_of_le (by have:=HN.o;omega)
    rw [hd] at f;have g:=Aa f;have V:=Aa C;clear f C hd;go_wp2_with fail;go_ret;exact ⟨by rw [<-g.o];rfl,V.o⟩
theorem MC (ke kc:Nat) (ds l:List D) (v:Value) (w:World) (h:ZT w ke kc v ds l):Ro 32 #[v] w (ze (Es ke kc ds l)):=by
 obtain ⟨ao,c,R,Q,rfl,hD,hM⟩:=h;obtain ⟨fin,f⟩:=nm (Es ke kc ds l);rw [<-f];unfold Es at f;have HD:=Aa hD;have HL:=hD.max;have M:Hx (∀ X (t:Int),Ov w X->-1<=t->t<=50->Ro 64 #[zd R l.length Q,O zc 1,O zc t] X (O zc (slK ke kc l 1 t))):=fun X t K h1 h2=>Gk ke kc l R Q X 1 t (Ar K hM) (by omega) (by omega) h1 h2;obtain ⟨E,I⟩:=nm ds.length;rw [<-I] at HL f ⊢;have HN:=Aa I;clear hD hM I;generalize l.length=nl at M ⊢;obtain ⟨V,W⟩:=nm (w.alloc (zg #[zd ao E c,zd R nl Q] 25));have C:=aov W;have a1:Hx (Ad [zd ao E c,zd R nl Q] V w.heap.size):=by show Ad _ _ _;rw [W];exact A5 w [zd ao E c,zd R nl Q] 25
 by_cases h30:30 < E
 ·have hi:(30:Int) < (E:Int):=by omega
  have HV:Hx (fin=true):=by show _=_;rw [f];simp [h30]
  clear f;go_enter Tryz.func32,Tryz.ntmps32;go_wp2_with fail;go_ret;exact ⟨by rw [HV.o];rfl,by rw [<-W];exact C.o⟩
 rw [decide_eq_false h30,Bool.false_or] at f;have HF:=Aa f;have hi:¬ (30:Int) < (E:Int):=by omega
 clear f;go_enter Tryz.func32,Tryz.ntmps32;go_wp2_with fail;rw [<-W];clear W;go_loopw [3,13] (fun c i wr=>∃ (j:Nat) (t:Int),j<=E/\i=O zc j/\c=O zc t/\-1<=t/\t<=50/\((ds.drop j).any (CS ke) || decide (slK ke kc l 1 ((ds.drop j).foldl (fun left d=>slK ke kc (gL 7 d) 1 left) t) < 0))=fin/\Ov V wr) (fun _ i _=>E - (intOf i).toNat)
 case atStart=>exact ⟨0,50,Nat.zero_le _,rfl,rfl,by omega,by omega,HF.o.symm,Below.refl _ _⟩
 case round=>
  obtain ⟨j,t,hj,rfl,rfl,t1,t2,u,P⟩:=hrel;by_cases hjl:j < E
  ·have A:j < ds.length:=by have:=HN.o;omega
   obtain ⟨b,bc,rfl,cs,U,J,hr⟩:=HD.o.at A;rw [List.drop_eq_getElem_cons A,List.any_cons,List.foldl_cons] at u;generalize ds[j]=dj at u hr;have B:Ov w wr:=Ab C.o P;have L:Hx (∀ X,Ov wr X->Ro 63 #[.agg cs.toArray] X (ze (CS ke dj))):=fun X K=>P2 ke kc cs dj X ((hr.over B).over K);obtain ⟨kd,a,x,y,gv,aL,cL,lb,aP,cP,ps,aB,Z,g,e0,e1,e2,e3,q,q1,q2,r,rfl,rfl,-,-,-,-,Y,-⟩:=id hr;simp only [gDd] at u;obtain ⟨r1,n⟩:=nm (slK ke kc g 1 t);have am:=Lk ke kc g 1 t (by omega) (by omega);rw [<-n] at u am;have KB:Hx (∀ X,Ov wr X->Ro 64 #[zd aB g.length Z,O zc 1,O zc t] X (O zc r1)):=fun X K=>by rw [n];exact Gk ke kc g aB Z X 1 t (Ar K (Ar B Y)) (by omega) (by omega) t1 t2
   obtain ⟨qm,T⟩:=nm (CS ke (deD kd a x y gv lb ps g r));rw [<-T] at u L;have d0:=CK B J rfl;have dA:=CJ B J;have S:=Aa P;have bd:(j:Int) < (E:Int):=by omega
   have H:Hx (∀ X,Ov wr X->Ro 63 #[zf #[O zc kd,O zc a,.string x,.string y,ze gv,zd aL lb.length cL,zd aP ps.length cP,zd aB g.length Z,O zc e0,O zc e1,O zc e2,.string e3,zd q q1 q2]] X (ze qm)):=L;have HP:=Aa u;clear J U hr P A Y T L B n u;generalize lb.length=nL at H d0 dA;generalize ps.length=nP at H d0 dA;generalize g.length=nB at H KB d0 dA;go_wp2_with fail;refine mo (H.o _ (bA _ _)) fun w1 F=>?_;have G:Hx (Ov wr w1):=Ab (bA _ _) F;have ac:Hx (Ad [O zc kd,O zc a,.string x,.string y,ze gv,zd aL nL cL,zd aP nP cP,zd aB nB Z,O zc e0,O zc e1,O zc e2,.string e3,zd q q1 q2] w1 wr.heap.size):=Ad.over (A5 wr [O zc kd,O zc a,.string x,.string y,ze gv,zd aL nL cL,zd aP nP cP,zd aB nB Z,O zc e0,O zc e1,O zc e2,.string e3,zd q q1 q2] 51) F;clear F d0 dA H
   cases qm with
   | true=>
    have HV:Hx (fin=true):=by have h:=HP.o;simp at h;exact h
    go_wp2_with fail;go_ret;exact ⟨by rw [HV.o];rfl,Ab C.o (Ab S.o G.o)⟩
   | false=>
    have u:=HP.o;rw [Bool.false_or] at u;replace HP:=Aa u;clear u;have mR:=B8 ac.o;go_wp2_with fail;refine mo (KB.o _ G.o) fun w2 F=>?_;have N:Hx (Ov V w2):=Ab S.o (Ab G.o F);clear F mR KB ac G;go_wp2_with fail;exact ⟨⟨j+1,r1,by omega,by go_num,rfl,by omega,by omega,HP.o,N.o⟩,by simp [intOf];omega⟩
  ·have hd:ds.drop j=[]:=List.drop_eq_nil_of_le (by have:=HN.o;omega)
   rw [hd] at u;obtain ⟨r1,n⟩:=nm (slK ke kc l 1 t);have H:Hx (∀ X,Ov w X->Ro 64 #[zd R nl Q,O zc 1,O zc t] X (O zc r1)):=fun X K=>by rw [n];exact M.o X t K t1 t2
   have HV:Hx (fin=decide (r1 < 0)):=by show _=_;rw [<-u,n];rfl
   have S:=Aa P;have mR:=rc2 (a1.o.over P);clear u hd n P M;go_wp2_with fail;refine mo (H.o _ (Ab C.o S.o)) fun w2 F=>?_;have N:Hx (Ov w w2):=Ab C.o (Ab S.o F);clear F H S;go_wp2_with fail;go_ret;exact ⟨by rw [HV.o];rfl,N.o⟩
theorem Jv (ke kc:Nat) (ds l:List D) (v:Value) (w:World) (h:ZT w ke kc v ds l):Ro 14 #[v] w (O zc (ckT ke kc ds l)):=by
 have I:Hx (∀ X,Ov w X->Ro 32 #[v] X (ze (Es ke kc ds l))):=fun X G=>MC ke kc ds l v X (h.over G);obtain ⟨A,c,B,y,rfl,V,U⟩:=h;obtain ⟨fin,f⟩:=nm (ckT ke kc ds l);rw [<-f];unfold ckT at f;obtain ⟨R,r⟩:=nm (Es ke kc ds l);obtain ⟨T,x⟩:=nm (ds.all (dfK ke kc));obtain ⟨S,u⟩:=nm (l.all (sfK ke kc));rw [<-r,<-x,<-u] at f;have L:=Aa f;have K:Hx (∀ X,Ov w X->Ro 32 #[zf #[zd A ds.length c,zd B l.length y]] X (ze R)):=by rw [r];exact I
 have P:Hx (∀ X,Ov w X->Ro 33 #[zd A ds.length c,.func (.func 34) #[] #[]] X (ze T)):=fun X G=>by rw [x];exact RF 34 (fun H w=>by simp [go_sem]) (dfK ke kc) ds A c X (fun M d X _ h=>LM ke kc M d X h) (Ha G V)
 have N:Hx (∀ X,Ov w X->Ro 35 #[zd B l.length y,.func (.func 36) #[] #[]] X (ze S)):=fun X G=>by rw [u];exact LZ 36 (fun H w=>by simp [go_sem]) (sfK ke kc) l B y X (fun M d X _ h=>GV ke kc M d X h) (Ar G U)
 clear f r x u V U I;generalize ds.length=nd at K P ⊢;generalize l.length=nl at K N ⊢;go_enter Tryz.func14,Tryz.ntmps14;go_wp2_with fail;refine mo (K.o _ (bA w (zg #[zd A nd c,zd B nl y] 25))) fun Q j=>?_;have F:Hx (Ov w Q):=Ab (bA w (zg #[zd A nd c,zd B nl y] 25)) j;have i:Hx (Ad [zd A nd c,zd B nl y] Q w.heap.size):=Ad.over (A5 w [zd A nd c,zd B nl y] 25) j;clear j  K
 cases R with
 | true=>
  have C:Hx (fin=2):=by have h:=L.o;simp at h;exact h
  obtain ⟨b,a⟩:=rc2 i.o;go_wp2_with fail;go_ret;exact ⟨by rw [C.o];rfl,F.o⟩
 | false=>
  obtain ⟨b,a⟩:=rc2 i.o;go_wp2_with fail;refine mo (P.o _ (F.o)) fun Y j=>?_;have E:=Aa (Ab (F.o) j);have g:=Aa (i.o.over j);clear j b a P
  cases T with
  | true=>
   obtain ⟨b,a⟩:=rc2 g.o;go_wp2_with fail;refine mo (N.o _ (E.o)) fun W j=>?_;have J:=Aa (Ab (E.o) j);have n:=Aa (g.o.over j);clear j b a N
   cases S with
   | true=>
    have C:Hx (fin=0):=by have h:=L.o;simp at h;exact h
    obtain ⟨b,a⟩:=rc2 n.o;go_wp2_with fail;go_ret;exact ⟨by rw [C.o];rfl,J.o⟩
   | false=>
    have C:Hx (fin=1):=by have h:=L.o;simp at h;exact h
    obtain ⟨b,a⟩:=rc2 n.o;go_wp2_with fail;go_ret;exact ⟨by rw [C.o];rfl,J.o⟩
  | false=>
   have C:Hx (fin=1):=by have h:=L.o;simp at h;exact h
   obtain ⟨b,a⟩:=rc2 g.o;go_wp2_with fail;go_ret;exact ⟨by rw [C.o];rfl,E.o⟩
def AV (s:ByteArray):Sum (List D × List D) (Int × Int):=
 if s.size<=6000 then
  if AZ s=0 then
   match DQ (Aq s) s.size with
   | .inr m=>.inr (Al (Aq s) s.size m,1)
   | .inl ((ds,l),_)=>if ckT 61 (2*(Aq s).length+3) ds l=0 then .inl (ds,l) else .inr (0,ckT 61 (2*(Aq s).length+3) ds l)
  else .inr ((Ci s:Int),(AZ s:Int))
 else .inr (0,2)
def Ny (s:ByteArray) (r:Sum (List D × List D) (Int × Int)) (e:Ending) (w':World):Prop:=match r with
 | .inl (ds,l)=>∃ v,e=zi (zj #[v,O zc 0,O zc 0])/\ZT w' 61 (2*(Aq s).length+3) v ds l
 | .inr (p,r)=>e=zi (zj #[zf #[zd none 0 0,zd none 0 0],O zc p,O zc r])
def Pk (B:Nat) (s:ByteArray) (r:Sum (List D × List D) (Int × Int)) (e:Ending) (w':World):Prop:=match r with
 | .inl (ds,l)=>∃ v,e=zi (zj #[v,O zc 0,O zc 0])/\Off B none w' (fun W=>ZT W 61 (2*(Aq s).length+3) v ds l)
 | .inr _=>True
def Ec (s:ByteArray) (w:World) (e:Ending) (w':World):Prop:=Ov w w'/\Ny s (AV s) e w'
theorem Iv (s:ByteArray):∀ (f:Nat) (note:Bool) (i:Nat) (ts:List Tok),Bv s f note i=.inl ts->ts.length<=s.size - i
 | 0,note,i,ts,h=>by
  have h':(Sum.inl []:Sum (List Tok) (Nat × Nat))=.inl ts:=h;injection h' with h';rw [<-h'];simp
 | f+1,note,i,ts,h=>by
  unfold Bv at h;have hge:=EI note s.data.toList i;split at h
  ·split at h
   ·rename_i hlt he
    have hk:=Ca he;revert h
    cases hr:Bv s f false (Aw s (AI note s.data.toList i)).2 with
    | inl ts'=>
     intro h;injection h with h;have:=Iv s f false _ ts' hr;rw [<-h,List.length_cons];omega
    | inr x=>intro h;cases h
   ·cases h
  ·injection h with h
   rw [<-h];simp
theorem JS (s:ByteArray) (h:s.size<=6000):(Aq s).length<=6000:=by
 unfold Aq;split
 ·rename_i a b
  have:=Iv s _ _ _ a b;omega
 ·simp
theorem Ml (s:ByteArray) (hs:s.size<=maxLen) (w:World):Calls Tryz.prog 10 #[.string s] w fun e w'=>Ec s w e w'/\Pk w.heap.size s (AV s) e w':=by
 have bm:s.size<=9223372036854775807:=hs;obtain ⟨S,I⟩:=nm (AV s);unfold Ec;rw [<-I];have HR:=Aa I;obtain ⟨V,hV⟩:=nm (w.alloc (zg #[zd none 0 0,zd none 0 0] 25));obtain ⟨x,N⟩:=nm w.heap.size;have a6:=aov hV;have aa:=A1 N hV;have a5:Hx (x < V.heap.size):=aa.o.lt;have B:=Aa N;have KS:=Aa (F0 s hs V);clear I hs;go_enter Tryz.func10,Tryz.ntmps10;go_wp2_with fail;rw [<-hV,<-N];clear hV N;refine KS.o.mono ?_;rintro e w1 ⟨v,ts,p,r,rfl,A,hb,E⟩;have ac:=Aa (Ab a6.o hb);have J:=Aa (aa.o.over hb);have bi:=hb.size;clear KS aa;obtain ⟨va,vn,vc,rfl⟩:=AP A;by_cases hgood:s.size<=6000/\AZ s=0
 ·obtain ⟨R,he⟩:=hgood
  rw [if_pos R] at E;obtain ⟨rfl,rfl,hr⟩:=E;rw [he] at hr;subst hr;have hk:=Cq A;have KR:=Aa (QR (en:=s.size) (DB s R) w1 (JE A (JS s R)));have y:=J3 (Aq s) s.size (DB s R)
  have f:AV s=match DQ (Aq s) s.size with
   | .inr m=>.inr (Al (Aq s) s.size m,1)
   | .inl ((ds,l),_)=>if ckT 61 (2*(Aq s).length+3) ds l=0 then .inl (ds,l) else .inr (0,ckT 61 (2*(Aq s).length+3) ds l):=by
   unfold AV;rw [if_pos R,if_pos he]
  have ap:=Aa (HR.o.trans f);have ao:=Aa y;clear A hb hk y f he;go_wp2_with fail;refine KR.o.mono ?_;rintro e H ⟨Q,u⟩;have ab:=Aa (Ab ac.o Q);have an:=Aa (J.o.over Q);have ba:=Q.size;have f:=ap.o;have y:=ao.o;clear KR ap ao Q;revert u f y;generalize DQ (Aq s) s.size=pt;intro u f y;rcases pt with ⟨⟨ds,l⟩,n⟩ | m
  ·obtain ⟨a,c,L,K,rfl,ai,ah,-,-⟩:=u
   obtain ⟨M,T⟩:=y (ds,l) n rfl;dsimp only at f M T;have hZ:∀ W:World,(∀ k,w1.heap.size<=k->k < H.heap.size->some k≠none->W.heap[k]? = H.heap[k]?)->ZT W 61 (2*(Aq s).length+3) (zf #[zd a ds.length c,zd L l.length K]) ds l:=fun W hW=>⟨a,c,L,K,rfl,(ai W hW).imp fun cs d hm hh=>hh.z (M d hm),(ah W hW).imp fun cs d hm hh=>hh.z (T d hm)⟩;have HZ:=Aa hZ;obtain ⟨ck,U⟩:=nm (ckT 61 (2*(Aq s).length+3) ds l);rw [<-U] at f;have KC:Hx (∀ X,Ov H X->Ro 14 #[zf #[zd a ds.length c,zd L l.length K]] X (O zc ck)):=fun X hX=>by
    rw [U];exact Jv 61 _ ds l _ X ((HZ.o H fun _ _ _ _=>rfl).over hX)
   have HP:=Aa f;clear f ai ah M T y hZ U;generalize ds.length=nd at KC HZ ⊢;generalize l.length=nl at KC HZ ⊢;have am:Hx (Bx H.heap.size [zd a nd c,zd L nl K] (H.alloc (zg #[zd a nd c,zd L nl K] 25))):=Bx.new H [zd a nd c,zd L nl K] 25;go_wp2_with fail;refine mo (KC.o _ (bA _ _)) fun w3 P=>?_;have C:Hx (Ov H w3):=Ab (bA _ _) P;have i:=Aa ((an.o.over (bA _ _)).over P);have a4:=Aa (am.o.over P);have a9:=C.o.size;clear KC P am;obtain ⟨t0,t1⟩:=rc2 i.o.row;have f0:=i.o.fz 0;have f1:=i.o.fz 1;obtain ⟨y0,y1⟩:=rc2 a4.o.row;have bn:=a5.o;have bl:x≠H.heap.size:=by omega
   have bb:H.heap.size≠x:=by omega
   by_cases hc0:ck=0
   ·subst hc0
    go_wp2_with fail;obtain ⟨G,b⟩:=nm ((w3.setCell ⟨x,0,none⟩ (zd a nd c)).setCell ⟨x,1,none⟩ (zd L nl K));have g:Bx x [zd a nd c,zd L nl K] G:=by rw [b];exact (i.o.set (j:=0) (by simp)).set (j:=1) (by simp)
    have F:Ov w G:=by rw [b];exact ((Ab ab.o C.o).setCell (by have:=B.o;simp;omega) _).setCell (by have:=B.o;simp;omega) _
    have aj:∀ k,w1.heap.size<=k->k < H.heap.size->G.heap[k]? = H.heap[k]?:=fun k h1 h2=>by
     rw [b,Below.heap_setCell _ _ _ _ (by show k≠x;omega),Below.heap_setCell _ _ _ _ (by show k≠x;omega)];exact C.o.block k h2
    have ay:=HZ.o G fun k h1 h2 _=>aj k h1 h2;have az:G.heap.size=w3.heap.size:=by rw [b];simp [World.setCell]
    have M:=ac.o.size;have a0:Off w.heap.size none G (fun W=>ZT W 61 (2*(Aq s).length+3) (zf #[zd a nd c,zd L nl K]) ds l):=fun W hW=>HZ.o W fun k h1 h2 h3=>(hW k (by omega) (by rw [az];exact Nat.lt_of_lt_of_le h2 C.o.size) h3).trans (aj k h1 h2);rw [<-b];have Z:=g.row 0 _ rfl;have Y:=g.row 1 _ rfl;refine bodyPost_ret (v:=zj #[zf #[zd a nd c,zd L nl K],O zc 0,O zc 0]) (by simp [results,Tryz.results10,go_sem,Z,Y]) rfl ⟨⟨F,?_⟩,?_⟩;all_goals rw [show S=.inl (ds,l) by have h:=HP.o;simpa using h]
    ·exact ⟨_,rfl,ay⟩
    ·exact ⟨_,rfl,a0⟩
   ·go_wp2_with fail
    obtain ⟨G,b⟩:=nm ((w3.setCell ⟨x,0,none⟩ (zd none 0 0)).setCell ⟨x,1,none⟩ (zd none 0 0));have g:Bx x [zd none 0 0,zd none 0 0] G:=by rw [b];exact (i.o.set (j:=0) (by simp)).set (j:=1) (by simp)
    have F:Ov w G:=by rw [b];exact ((Ab ab.o C.o).setCell (by have:=B.o;simp;omega) _).setCell (by have:=B.o;simp;omega) _
    rw [<-b];have Z:=g.row 0 _ rfl;have Y:=g.row 1 _ rfl;refine bodyPost_ret (v:=zj #[zf #[zd none 0 0,zd none 0 0],O zc 0,O zc ck]) (by simp [results,Tryz.results10,go_sem,Z,Y]) rfl ⟨⟨F,?_⟩,?_⟩;all_goals rw [show S=.inr (0,ck) from HP.o.trans (if_neg hc0)]
    ·exact rfl
    ·exact trivial
  ·obtain rfl:=u
   dsimp only at f;have HP:=Aa f;have i:Hx (Bx x [zd none 0 0,zd none 0 0] (H.alloc (zg #[zd none 0 0,zd none 0 0] 25))):=an.o.over (bA _ _);obtain ⟨t0,t1⟩:=rc2 i.o.row;have f0:=i.o.fz 0;have f1:=i.o.fz 1;clear f y;go_wp2_with fail;obtain ⟨G,b⟩:=nm (((H.alloc (zg #[zd none 0 0,zd none 0 0] 25)).setCell ⟨x,0,none⟩ (zd none 0 0)).setCell ⟨x,1,none⟩ (zd none 0 0));have g:Bx x [zd none 0 0,zd none 0 0] G:=by rw [b];exact (i.o.set (j:=0) (by simp)).set (j:=1) (by simp)
   have F:Ov w G:=by rw [b];exact ((Ab ab.o (bA _ _)).setCell (by have:=B.o;simp;omega) _).setCell (by have:=B.o;simp;omega) _
   rw [<-b];have Z:=g.row 0 _ rfl;have Y:=g.row 1 _ rfl;refine bodyPost_ret (v:=zj #[zf #[zd none 0 0,zd none 0 0],O zc (Al (Aq s) s.size m),O zc 1]) (by simp [results,Tryz.results10,go_sem,Z,Y]) rfl ⟨⟨F,?_⟩,?_⟩;all_goals rw [HP.o]
   ·exact rfl
   ·exact trivial
 ·have hr:S=.inr ((p:Int),(r:Int))/\r≠0:=by
   rw [HR.o];unfold AV;by_cases R:s.size<=6000
   ·rw [if_pos R] at E ⊢
    obtain ⟨-,rfl,rfl⟩:=E;have he:¬ AZ s=0:=fun h=>hgood ⟨R,h⟩;rw [if_neg he];exact ⟨rfl,he⟩
   ·rw [if_neg R] at E ⊢
    obtain ⟨-,rfl,rfl⟩:=E;exact ⟨rfl,by omega⟩
  obtain ⟨ag,bk⟩:=hr;have HP:=Aa ag;have bj:¬ (r:Int)=0:=by omega
  obtain ⟨t0,t1⟩:=rc2 J.o.row;have f0:=J.o.fz 0;have f1:=J.o.fz 1;clear A hb E ag hgood;go_wp2_with fail;obtain ⟨G,b⟩:=nm ((w1.setCell ⟨x,0,none⟩ (zd none 0 0)).setCell ⟨x,1,none⟩ (zd none 0 0));have g:Bx x [zd none 0 0,zd none 0 0] G:=by rw [b];exact (J.o.set (j:=0) (by simp)).set (j:=1) (by simp)
  have F:Ov w G:=by rw [b];exact ((ac.o).setCell (by have:=B.o;simp;omega) _).setCell (by have:=B.o;simp;omega) _
  rw [<-b];have Z:=g.row 0 _ rfl;have Y:=g.row 1 _ rfl;refine bodyPost_ret (v:=zj #[zf #[zd none 0 0,zd none 0 0],O zc (p:Int),O zc (r:Int)]) (by simp [results,Tryz.results10,go_sem,Z,Y]) rfl ⟨⟨F,?_⟩,?_⟩;all_goals rw [HP.o]
  ·exact rfl
  ·exact trivial
theorem PU (s:ByteArray) (hs:s.size<=maxLen) (w:World):Calls Tryz.prog 10 #[.string s] w (Ec s w):=(Ml s hs w).mono fun _ _ h=>h.1
end Go.Proofs.YtipngnjffjajpaaGreatDoor.Tx
