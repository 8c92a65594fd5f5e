/- Package tree's Check: commands, functions, declarations that are fine. -/
import Derived.Test.YtipngnjffjajpaaGreatDoorI06
import Derived.Test.YtipngnjffjajpaaGreatDoorI14
set_option linter.unusedVariables false
set_option maxHeartbeats 8000000
set_option maxRecDepth 100000
namespace Go.Proofs.YtipngnjffjajpaaGreatDoor.Tx
open Go.RowKit
open Go.Value renaming int -> A, slice -> O, bool -> zc, agg -> ze, pointer -> zf, tuple -> zh
open Go.IntKind renaming i64 -> J
open Go.Obj renaming cells -> zd
open Go.Ending renaming returned -> zg
theorem FI (ke:Nat):∀ (k:Nat) (cs:List Value) (d:D) (w:World),ZC w ke k cs d->Ro 36 #[.agg cs.toArray] w (zc (sfK ke k d)):=by
 intro k
 induction k with
 | zero=>intro cs d w h;exact h.elim
 | succ k ih=>
  intro cs d w h;obtain ⟨S,a,x,y,e0,e1,e2,e3,q,q1,Z,e,aA,cA,R,aT,cT,th,aE,cE,el,rfl,rfl,hx,hy,he,hA,hT,hE⟩:=h;obtain ⟨T,Y⟩:=nm (sfK ke (k+1) (stD S a x y e R th el));rw [<-Y];simp only [sfK,gSs] at Y;obtain ⟨b0,bl⟩:=nm (EN S);obtain ⟨b1,bk⟩:=nm (EP S);obtain ⟨b2,bj⟩:=nm (Ej S);obtain ⟨b3,bi⟩:=nm (EQ S);obtain ⟨b4,bh⟩:=nm (EO S);obtain ⟨b5,bg⟩:=nm (Ek S);obtain ⟨ok,bf⟩:=nm (hOk S);have KS:Hx (∀ X,Ov w X->Ro 69 #[A J S] X (zh #[ze #[zc b0,zc b1,zc b2,zc b3,zc b4,zc b5],zc ok])):=fun X _=>by rw [bl,bk,bj,bi,bh,bg,bf];exact Ml S X
  rw [<-bl,<-bk,<-bj,<-bi,<-bh,<-bg,<-bf] at Y;clear bl bk bj bi bh bg bf;obtain ⟨qv,ba⟩:=nm (nfS x.data.toList b0);obtain ⟨qy,a8⟩:=nm (nfS y.data.toList b1);obtain ⟨qe,bd⟩:=nm (efK ke e);obtain ⟨qx,a9⟩:=nm (BX e);obtain ⟨qa,be⟩:=nm (lfS R b3 (efK ke));obtain ⟨qt,bb⟩:=nm (lfS th b4 (sfK ke k));obtain ⟨ql,bc⟩:=nm (lfS el b5 (sfK ke k));rw [<-ba,<-a8,<-bd,<-a9,<-be,<-bb,<-bc] at Y;have HF:=Aa Y;have KV:Hx (∀ X,Ov w X->Ro 66 #[.string x,zc b0] X (zc qv)):=fun X _=>by rw [ba];exact Bn x b0 X hx
  have KY:Hx (∀ X,Ov w X->Ro 66 #[.string y,zc b1] X (zc qy)):=fun X _=>by rw [a8];exact Bn y b1 X hy
  have KX:Hx (∀ X,Ov w X->Ro 70 #[ze #[A J e0,A J e1,A J e2,.string e3,O q q1 Z]] X (zc qe)):=fun X hX=>by rw [bd];exact Em ke _ e X (he.over hX)
  have KO:Hx (∀ X,Ov w X->Ro 71 #[ze #[A J e0,A J e1,A J e2,.string e3,O q q1 Z]] X (zc qx)):=fun X hX=>by rw [a9];exact Mm ke _ e X (he.over hX)
  have KA:Hx (∀ X,Ov w X->Ro 72 #[O aA R.length cA,zc b3,.func (.func 70) #[] #[]] X (zc qa)):=fun X hX=>by rw [be];exact Iu 70 (fun R w=>by simp [go_sem]) (efK ke) R aA cA b3 X (fun cs d X _ h=>Em ke cs d X h) (Co hX hA)
  have KT:Hx (∀ X,Ov w X->Ro 73 #[O aT th.length cT,zc b4,.func (.func 36) #[] #[]] X (zc qt)):=fun X hX=>by rw [bb];exact Fl 36 (fun R w=>by simp [go_sem]) (sfK ke k) th aT cT b4 X (fun cs d X _ h=>ih cs d X h) (Ao hX hT)
  have KE:Hx (∀ X,Ov w X->Ro 73 #[O aE el.length cE,zc b5,.func (.func 36) #[] #[]] X (zc ql)):=fun X hX=>by rw [bc];exact Fl 36 (fun R w=>by simp [go_sem]) (sfK ke k) el aE cE b5 X (fun cs d X _ h=>ih cs d X h) (Ao hX hE)
  clear Y ba a8 bd a9 be bb bc hx hy he hA hT hE ih;show Ro 36 #[ze #[A J S,A J a,.string x,.string y,A J e0,A J e1,A J e2,.string e3,O q q1 Z,O aA R.length cA,O aT th.length cT,O aE el.length cE]] w _;generalize R.length=nA at KA ⊢;generalize th.length=nT at KT ⊢;generalize el.length=nE at KE ⊢;go_enter Tryz.func36,Tryz.ntmps36;go_wp2_with fail;refine (KS.o _ (bA w (zd #[A J S,A J a,.string x,.string y,A J e0,A J e1,A J e2,.string e3,O q q1 Z,O aA nA cA,O aT nT cT,O aE nE cE] 55))).mono ?_;rintro e w1 ⟨rfl,I⟩;have bo:Hx (Ov w w1):=Ab (bA w (zd #[A J S,A J a,.string x,.string y,A J e0,A J e1,A J e2,.string e3,O q q1 Z,O aA nA cA,O aT nT cT,O aE nE cE] 55)) I;have aw:Hx (Ac [A J S,A J a,.string x,.string y,A J e0,A J e1,A J e2,.string e3,O q q1 Z,O aA nA cA,O aT nT cT,O aE nE cE] w1 w.heap.size):=Ac.over (Ai w [A J S,A J a,.string x,.string y,A J e0,A J e1,A J e2,.string e3,O q q1 Z,O aA nA cA,O aT nT cT,O aE nE cE] 55) I;clear I  KS
  cases ok with
  | true=>
   obtain ⟨v,u,t,r,n,l,j,i,g,f,c,b⟩:=An (Aa (aw.o.over (bA w1 (zd #[zc b0,zc b1,zc b2,zc b3,zc b4,zc b5] 106)))).o;go_wp2_with fail;refine (KV.o _ (Ab bo.o (bA _ _))).mono ?_;rintro e w2 ⟨rfl,I⟩;have bn:Hx (Ov w w2):=Ab (Ab bo.o (bA _ _)) I;have av:Hx (Ac [A J S,A J a,.string x,.string y,A J e0,A J e1,A J e2,.string e3,O q q1 Z,O aA nA cA,O aT nT cT,O aE nE cE] w2 w.heap.size):=(aw.o.over (bA _ _)).over I;have ar:Hx (Ac [zc b0,zc b1,zc b2,zc b3,zc b4,zc b5] w2 w1.heap.size):=Ac.over (Ai w1 [zc b0,zc b1,zc b2,zc b3,zc b4,zc b5] 106) I;clear I v u t r n l j i g f c b KV
   cases qv with
   | true=>
    obtain ⟨v,u,t,r,n,l,j,i,g,f,c,b⟩:=An av.o;obtain ⟨H,G,F,E,C,B⟩:=rc6 ar.o;go_wp2_with fail;refine (KY.o _ (bn.o)).mono ?_;rintro e w3 ⟨rfl,I⟩;have a2:Hx (Ov w w3):=Ab (bn.o) I;have V:Hx (Ac [A J S,A J a,.string x,.string y,A J e0,A J e1,A J e2,.string e3,O q q1 Z,O aA nA cA,O aT nT cT,O aE nE cE] w3 w.heap.size):=av.o.over I;have U:Hx (Ac [zc b0,zc b1,zc b2,zc b3,zc b4,zc b5] w3 w1.heap.size):=ar.o.over I;clear I v u t r n l j i g f c b H G F E C B KY
    cases qy with
    | true=>
     cases b2 with
     | true=>
      obtain ⟨v,u,t,r,n,l,j,i,g,f,c,b⟩:=An V.o;obtain ⟨H,G,F,E,C,B⟩:=rc6 U.o;go_wp2_with fail;refine (KX.o _ (a2.o)).mono ?_;rintro e w4 ⟨rfl,I⟩;have az:Hx (Ov w w4):=Ab (a2.o) I;have Q:Hx (Ac [A J S,A J a,.string x,.string y,A J e0,A J e1,A J e2,.string e3,O q q1 Z,O aA nA cA,O aT nT cT,O aE nE cE] w4 w.heap.size):=V.o.over I;have M:Hx (Ac [zc b0,zc b1,zc true,zc b3,zc b4,zc b5] w4 w1.heap.size):=U.o.over I;clear I v u t r n l j i g f c b H G F E C B KX
      cases qe with
      | true=>
       obtain ⟨v,u,t,r,n,l,j,i,g,f,c,b⟩:=An Q.o;obtain ⟨H,G,F,E,C,B⟩:=rc6 M.o;go_wp2_with fail;refine (KA.o _ (az.o)).mono ?_;rintro e w5 ⟨rfl,I⟩;have ay:Hx (Ov w w5):=Ab (az.o) I;have P:Hx (Ac [A J S,A J a,.string x,.string y,A J e0,A J e1,A J e2,.string e3,O q q1 Z,O aA nA cA,O aT nT cT,O aE nE cE] w5 w.heap.size):=Q.o.over I;have L:Hx (Ac [zc b0,zc b1,zc true,zc b3,zc b4,zc b5] w5 w1.heap.size):=M.o.over I;clear I v u t r n l j i g f c b H G F E C B KA
       cases qa with
       | true=>
        obtain ⟨v,u,t,r,n,l,j,i,g,f,c,b⟩:=An P.o;obtain ⟨H,G,F,E,C,B⟩:=rc6 L.o;go_wp2_with fail;refine (KT.o _ (ay.o)).mono ?_;rintro e w6 ⟨rfl,I⟩;have ax:Hx (Ov w w6):=Ab (ay.o) I;have N:Hx (Ac [A J S,A J a,.string x,.string y,A J e0,A J e1,A J e2,.string e3,O q q1 Z,O aA nA cA,O aT nT cT,O aE nE cE] w6 w.heap.size):=P.o.over I;have K:Hx (Ac [zc b0,zc b1,zc true,zc b3,zc b4,zc b5] w6 w1.heap.size):=L.o.over I;clear I v u t r n l j i g f c b H G F E C B KT
        cases qt with
        | true=>
         obtain ⟨v,u,t,r,n,l,j,i,g,f,c,b⟩:=An N.o;obtain ⟨H,G,F,E,C,B⟩:=rc6 K.o;go_wp2_with fail;refine (KE.o _ (ax.o)).mono ?_;rintro e w7 ⟨rfl,I⟩;have bm:Hx (Ov w w7):=Ab (ax.o) I;have au:Hx (Ac [A J S,A J a,.string x,.string y,A J e0,A J e1,A J e2,.string e3,O q q1 Z,O aA nA cA,O aT nT cT,O aE nE cE] w7 w.heap.size):=N.o.over I;have aq:Hx (Ac [zc b0,zc b1,zc true,zc b3,zc b4,zc b5] w7 w1.heap.size):=K.o.over I;clear I v u t r n l j i g f c b H G F E C B KE;have W:Hx (T=ql):=by have h:=HF.o;simp at h;exact h
         obtain ⟨v,u,t,r,n,l,j,i,g,f,c,b⟩:=An au.o;obtain ⟨H,G,F,E,C,B⟩:=rc6 aq.o;go_wp2_with fail;go_ret;exact ⟨by rw [W.o];(first | rfl | (simp;done) | (simp;assumption) | (simp;omega)),bm.o⟩
        | false=>
         have W:Hx (T=false):=by have h:=HF.o;simp at h;exact h
         obtain ⟨v,u,t,r,n,l,j,i,g,f,c,b⟩:=An N.o;obtain ⟨H,G,F,E,C,B⟩:=rc6 K.o;go_wp2_with fail;go_ret;exact ⟨by rw [W.o];(first | rfl | (simp;done) | (simp;assumption) | (simp;omega)),ax.o⟩
       | false=>
        have W:Hx (T=false):=by have h:=HF.o;simp at h;exact h
        obtain ⟨v,u,t,r,n,l,j,i,g,f,c,b⟩:=An P.o;obtain ⟨H,G,F,E,C,B⟩:=rc6 L.o;go_wp2_with fail;go_ret;exact ⟨by rw [W.o];(first | rfl | (simp;done) | (simp;assumption) | (simp;omega)),ay.o⟩
      | false=>
       have W:Hx (T=false):=by have h:=HF.o;simp at h;exact h
       obtain ⟨v,u,t,r,n,l,j,i,g,f,c,b⟩:=An Q.o;obtain ⟨H,G,F,E,C,B⟩:=rc6 M.o;go_wp2_with fail;go_ret;exact ⟨by rw [W.o];(first | rfl | (simp;done) | (simp;assumption) | (simp;omega)),az.o⟩
     | false=>
      obtain ⟨v,u,t,r,n,l,j,i,g,f,c,b⟩:=An V.o;obtain ⟨H,G,F,E,C,B⟩:=rc6 U.o;go_wp2_with fail;refine (KO.o _ (a2.o)).mono ?_;rintro e w4 ⟨rfl,I⟩;have az:Hx (Ov w w4):=Ab (a2.o) I;have Q:Hx (Ac [A J S,A J a,.string x,.string y,A J e0,A J e1,A J e2,.string e3,O q q1 Z,O aA nA cA,O aT nT cT,O aE nE cE] w4 w.heap.size):=V.o.over I;have M:Hx (Ac [zc b0,zc b1,zc false,zc b3,zc b4,zc b5] w4 w1.heap.size):=U.o.over I;clear I v u t r n l j i g f c b H G F E C B KO
      cases qx with
      | true=>
       obtain ⟨v,u,t,r,n,l,j,i,g,f,c,b⟩:=An Q.o;obtain ⟨H,G,F,E,C,B⟩:=rc6 M.o;go_wp2_with fail;refine (KA.o _ (az.o)).mono ?_;rintro e w5 ⟨rfl,I⟩;have ay:Hx (Ov w w5):=Ab (az.o) I;have P:Hx (Ac [A J S,A J a,.string x,.string y,A J e0,A J e1,A J e2,.string e3,O q q1 Z,O aA nA cA,O aT nT cT,O aE nE cE] w5 w.heap.size):=Q.o.over I;have L:Hx (Ac [zc b0,zc b1,zc false,zc b3,zc b4,zc b5] w5 w1.heap.size):=M.o.over I;clear I v u t r n l j i g f c b H G F E C B KA
       cases qa with
       | true=>
        obtain ⟨v,u,t,r,n,l,j,i,g,f,c,b⟩:=An P.o;obtain ⟨H,G,F,E,C,B⟩:=rc6 L.o;go_wp2_with fail;refine (KT.o _ (ay.o)).mono ?_;rintro e w6 ⟨rfl,I⟩;have ax:Hx (Ov w w6):=Ab (ay.o) I;have N:Hx (Ac [A J S,A J a,.string x,.string y,A J e0,A J e1,A J e2,.string e3,O q q1 Z,O aA nA cA,O aT nT cT,O aE nE cE] w6 w.heap.size):=P.o.over I;have K:Hx (Ac [zc b0,zc b1,zc false,zc b3,zc b4,zc b5] w6 w1.heap.size):=L.o.over I;clear I v u t r n l j i g f c b H G F E C B KT
        cases qt with
        | true=>
         obtain ⟨v,u,t,r,n,l,j,i,g,f,c,b⟩:=An N.o;obtain ⟨H,G,F,E,C,B⟩:=rc6 K.o;go_wp2_with fail;refine (KE.o _ (ax.o)).mono ?_;rintro e w7 ⟨rfl,I⟩;have bm:Hx (Ov w w7):=Ab (ax.o) I;have au:Hx (Ac [A J S,A J a,.string x,.string y,A J e0,A J e1,A J e2,.string e3,O q q1 Z,O aA nA cA,O aT nT cT,O aE nE cE] w7 w.heap.size):=N.o.over I;have aq:Hx (Ac [zc b0,zc b1,zc false,zc b3,zc b4,zc b5] w7 w1.heap.size):=K.o.over I;clear I v u t r n l j i g f c b H G F E C B KE;have W:Hx (T=ql):=by have h:=HF.o;simp at h;exact h
         obtain ⟨v,u,t,r,n,l,j,i,g,f,c,b⟩:=An au.o;obtain ⟨H,G,F,E,C,B⟩:=rc6 aq.o;go_wp2_with fail;go_ret;exact ⟨by rw [W.o];(first | rfl | (simp;done) | (simp;assumption) | (simp;omega)),bm.o⟩
        | false=>
         have W:Hx (T=false):=by have h:=HF.o;simp at h;exact h
         obtain ⟨v,u,t,r,n,l,j,i,g,f,c,b⟩:=An N.o;obtain ⟨H,G,F,E,C,B⟩:=rc6 K.o;go_wp2_with fail;go_ret;exact ⟨by rw [W.o];(first | rfl | (simp;done) | (simp;assumption) | (simp;omega)),ax.o⟩
       | false=>
        have W:Hx (T=false):=by have h:=HF.o;simp at h;exact h
        obtain ⟨v,u,t,r,n,l,j,i,g,f,c,b⟩:=An P.o;obtain ⟨H,G,F,E,C,B⟩:=rc6 L.o;go_wp2_with fail;go_ret;exact ⟨by rw [W.o];(first | rfl | (simp;done) | (simp;assumption) | (simp;omega)),ay.o⟩
      | false=>
       have W:Hx (T=false):=by have h:=HF.o;simp at h;exact h
       obtain ⟨v,u,t,r,n,l,j,i,g,f,c,b⟩:=An Q.o;obtain ⟨H,G,F,E,C,B⟩:=rc6 M.o;go_wp2_with fail;go_ret;exact ⟨by rw [W.o];(first | rfl | (simp;done) | (simp;assumption) | (simp;omega)),az.o⟩
    | false=>
     have W:Hx (T=false):=by have h:=HF.o;simp at h;exact h
     obtain ⟨v,u,t,r,n,l,j,i,g,f,c,b⟩:=An V.o;obtain ⟨H,G,F,E,C,B⟩:=rc6 U.o;go_wp2_with fail;go_ret;exact ⟨by rw [W.o];(first | rfl | (simp;done) | (simp;assumption) | (simp;omega)),a2.o⟩
   | false=>
    have W:Hx (T=false):=by have h:=HF.o;simp at h;exact h
    obtain ⟨v,u,t,r,n,l,j,i,g,f,c,b⟩:=An av.o;obtain ⟨H,G,F,E,C,B⟩:=rc6 ar.o;go_wp2_with fail;go_ret;exact ⟨by rw [W.o];(first | rfl | (simp;done) | (simp;assumption) | (simp;omega)),bn.o⟩
  | false=>
   have W:Hx (T=false):=by have h:=HF.o;simp at h;exact h
   obtain ⟨v,u,t,r,n,l,j,i,g,f,c,b⟩:=An aw.o;go_wp2_with fail;go_ret;exact ⟨by rw [W.o];(first | rfl | (simp;done) | (simp;assumption) | (simp;omega)),Ab bo.o (bA _ _)⟩
theorem F2 (ke kc:Nat) (cs:List Value) (d:D) (w:World) (h:ZD w ke kc cs d):Ro 68 #[.agg cs.toArray] w (zc (CK ke kc d)):=by
 obtain ⟨kd,a,x,y,V,Z,Y,lb,S,Q,ps,T,R,G,P,N,M,L,q,I,H,r,rfl,rfl,-,-,hL,hP,hB,hR⟩:=h;obtain ⟨W,b⟩:=nm (CK ke kc (deD kd a x y V lb ps G r));rw [<-b];unfold CK at b;simp only [gDd,BH nmS,BG,List.length_map] at b;obtain ⟨qp,af⟩:=nm (ps.all fun x=>nmS x.data.toList);obtain ⟨qb,ag⟩:=nm (G.all (sfK ke kc));obtain ⟨qr,ae⟩:=nm (efK ke r);obtain ⟨qx,ad⟩:=nm (BX r);rw [<-af,<-ag,<-ae,<-ad] at b;have KP:Hx (∀ X,Ov w X->Ro 110 #[O S ps.length Q,.func (.func 65) #[] #[]] X (zc qp)):=fun X hX=>by rw [af];exact MR 65 (fun am w=>by simp [go_sem]) _ ps S Q X (fun x X hx=>De x X hx) (BB hX hP)
 have KB:Hx (∀ X,Ov w X->Ro 35 #[O T G.length R,.func (.func 36) #[] #[]] X (zc qb)):=fun X hX=>by rw [ag];exact Jy 36 (fun am w=>by simp [go_sem]) (sfK ke kc) G T R X (fun cs d X _ h=>FI ke kc cs d X h) (Ao hX hB)
 have KR:Hx (∀ X,Ov w X->Ro 70 #[ze #[A J P,A J N,A J M,.string L,O q I H]] X (zc qr)):=fun X hX=>by rw [ae];exact Em ke _ r X (hR.over hX)
 have KO:Hx (∀ X,Ov w X->Ro 71 #[ze #[A J P,A J N,A J M,.string L,O q I H]] X (zc qx)):=fun X hX=>by rw [ad];exact Mm ke _ r X (hR.over hX)
 have av:=hP.max;have aw:=hB.max;clear af ag ae ad hL hP hB hR;show Ro 68 #[ze #[A J kd,A J a,.string x,.string y,zc V,O Z lb.length Y,O S ps.length Q,O T G.length R,A J P,A J N,A J M,.string L,O q I H]] w _;generalize lb.length=nL at ⊢;generalize ps.length=nP at b KP av ⊢;generalize G.length=nB at b KB aw ⊢;by_cases h7:kd=7
 ·subst h7
  rw [if_pos rfl] at b;have HF:=Aa b;clear b;go_enter Tryz.func68,Tryz.ntmps68;go_wp2_with fail;refine (KP.o _ (bA w (zd #[A J 7,A J a,.string x,.string y,zc V,O Z nL Y,O S nP Q,O T nB R,A J P,A J N,A J M,.string L,O q I H] 51))).mono ?_;rintro e w1 ⟨rfl,K⟩;have ab:Hx (Ov w w1):=Ab (bA w (zd #[A J 7,A J a,.string x,.string y,zc V,O Z nL Y,O S nP Q,O T nB R,A J P,A J N,A J M,.string L,O q I H] 51)) K;have F:Hx (Ac [A J 7,A J a,.string x,.string y,zc V,O Z nL Y,O S nP Q,O T nB R,A J P,A J N,A J M,.string L,O q I H] w1 w.heap.size):=Ac.over (Ai w [A J 7,A J a,.string x,.string y,zc V,O Z nL Y,O S nP Q,O T nB R,A J P,A J N,A J M,.string L,O q I H] 51) K;clear K  KP
  cases qp with
  | true=>
   obtain ⟨E,C,B,v,u,t,n,l,j,i,g,f,c⟩:=Ah F.o;go_wp2_with fail;refine (KB.o _ (ab.o)).mono ?_;rintro e w2 ⟨rfl,K⟩;have aj:Hx (Ov w w2):=Ab (ab.o) K;have U:Hx (Ac [A J 7,A J a,.string x,.string y,zc V,O Z nL Y,O S nP Q,O T nB R,A J P,A J N,A J M,.string L,O q I H] w2 w.heap.size):=F.o.over K;clear K E C B v u t n l j i g f c KB
   cases qb with
   | true=>
    obtain ⟨E,C,B,v,u,t,n,l,j,i,g,f,c⟩:=Ah U.o;go_wp2_with fail;refine (KR.o _ (aj.o)).mono ?_;rintro e w3 ⟨rfl,K⟩;have ay:Hx (Ov w w3):=Ab (aj.o) K;have ai:Hx (Ac [A J 7,A J a,.string x,.string y,zc V,O Z nL Y,O S nP Q,O T nB R,A J P,A J N,A J M,.string L,O q I H] w3 w.heap.size):=U.o.over K;clear K E C B v u t n l j i g f c KR;have HV:Hx (W=qr):=by have h:=HF.o;simp at h;exact h
    obtain ⟨E,C,B,v,u,t,n,l,j,i,g,f,c⟩:=Ah ai.o;go_wp2_with fail;go_ret;exact ⟨by rw [HV.o];(first | rfl | (simp;done) | (simp;assumption) | (simp;omega)),ay.o⟩
   | false=>
    have HV:Hx (W=false):=by have h:=HF.o;simp at h;exact h
    obtain ⟨E,C,B,v,u,t,n,l,j,i,g,f,c⟩:=Ah U.o;go_wp2_with fail;go_ret;exact ⟨by rw [HV.o];(first | rfl | (simp;done) | (simp;assumption) | (simp;omega)),aj.o⟩
  | false=>
   have HV:Hx (W=false):=by have h:=HF.o;simp at h;exact h
   obtain ⟨E,C,B,v,u,t,n,l,j,i,g,f,c⟩:=Ah F.o;go_wp2_with fail;go_ret;exact ⟨by rw [HV.o];(first | rfl | (simp;done) | (simp;assumption) | (simp;omega)),ab.o⟩
 by_cases h1:nP=0
 ·subst h1
  by_cases h2:nB=0
  ·subst h2
   have HV:Hx (W=qx):=by show _=_;rw [b];simp [h7]
   clear b;go_enter Tryz.func68,Tryz.ntmps68;go_wp2_with fail;refine (KO.o _ (bA w (zd #[A J kd,A J a,.string x,.string y,zc V,O Z nL Y,O S 0 Q,O T 0 R,A J P,A J N,A J M,.string L,O q I H] 51))).mono ?_;rintro e w1 ⟨rfl,K⟩;have ab:Hx (Ov w w1):=Ab (bA w (zd #[A J kd,A J a,.string x,.string y,zc V,O Z nL Y,O S 0 Q,O T 0 R,A J P,A J N,A J M,.string L,O q I H] 51)) K;have F:Hx (Ac [A J kd,A J a,.string x,.string y,zc V,O Z nL Y,O S 0 Q,O T 0 R,A J P,A J N,A J M,.string L,O q I H] w1 w.heap.size):=Ac.over (Ai w [A J kd,A J a,.string x,.string y,zc V,O Z nL Y,O S 0 Q,O T 0 R,A J P,A J N,A J M,.string L,O q I H] 51) K;clear K  KO;obtain ⟨E,C,B,v,u,t,n,l,j,i,g,f,c⟩:=Ah F.o;go_wp2_with fail;go_ret;exact ⟨by rw [HV.o];(first | rfl | (simp;done) | (simp;assumption) | (simp;omega)),ab.o⟩
  ·have hi:¬ (nB:Int)=0:=by omega
   have HV:Hx (W=false):=by show _=_;rw [b];simp [h7,h2]
   clear b;go_enter Tryz.func68,Tryz.ntmps68;go_wp2_with fail;go_ret;exact ⟨by rw [HV.o];(first | rfl | (simp;done) | (simp;assumption) | (simp;omega)),bA w (zd #[A J kd,A J a,.string x,.string y,zc V,O Z nL Y,O S 0 Q,O T nB R,A J P,A J N,A J M,.string L,O q I H] 51)⟩
 ·have hi:¬ (nP:Int)=0:=by omega
  have HV:Hx (W=false):=by show _=_;rw [b];simp [h7,h1]
  clear b;go_enter Tryz.func68,Tryz.ntmps68;go_wp2_with fail;go_ret;exact ⟨by rw [HV.o];(first | rfl | (simp;done) | (simp;assumption) | (simp;omega)),bA w (zd #[A J kd,A J a,.string x,.string y,zc V,O Z nL Y,O S nP Q,O T nB R,A J P,A J N,A J M,.string L,O q I H] 51)⟩
theorem Jo (ke kc:Nat) (cs:List Value) (d:D) (w:World) (h:ZD w ke kc cs d):Ro 34 #[.agg cs.toArray] w (zc (dfK ke kc d)):=by
 have ap:Hx (∀ X,Ov w X->Ro 67 #[.agg cs.toArray] X (zc (CJ d))):=fun X hX=>Iy ke kc cs d X (h.over hX);have ar:Hx (∀ X,Ov w X->Ro 68 #[.agg cs.toArray] X (zc (CK ke kc d))):=fun X hX=>F2 ke kc cs d X (h.over hX);obtain ⟨M,a,x,y,N,aL,Y,lb,aP,W,ps,aB,Z,L,V,U,T,S,q,R,Q,r,rfl,rfl,hx,hy,-,-,-,-⟩:=h;obtain ⟨K,E⟩:=nm (dfK ke kc (deD M a x y N lb ps L r));rw [<-E];unfold dfK at E;obtain ⟨ql,an⟩:=nm (CJ (deD M a x y N lb ps L r));obtain ⟨qf,ao⟩:=nm (CK ke kc (deD M a x y N lb ps L r));rw [<-an,<-ao] at E;rw [<-an] at ap;rw [<-ao] at ar;simp only [gDd] at E;obtain ⟨qn,am⟩:=nm (nmS x.data.toList);rw [<-am] at E;have KL:Hx (∀ X,Ov w X->Ro 67 #[ze #[A J M,A J a,.string x,.string y,zc N,O aL lb.length Y,O aP ps.length W,O aB L.length Z,A J V,A J U,A J T,.string S,O q R Q]] X (zc ql)):=ap;have KF:Hx (∀ X,Ov w X->Ro 68 #[ze #[A J M,A J a,.string x,.string y,zc N,O aL lb.length Y,O aP ps.length W,O aB L.length Z,A J V,A J U,A J T,.string S,O q R Q]] X (zc qf)):=ar;have KN:Hx (∀ X,Ov w X->Ro 65 #[.string x] X (zc qn)):=fun X _=>by rw [am];exact De x X hx
 clear an ao am ap ar hx;show Ro 34 #[ze #[A J M,A J a,.string x,.string y,zc N,O aL lb.length Y,O aP ps.length W,O aB L.length Z,A J V,A J U,A J T,.string S,O q R Q]] w _;generalize lb.length=nL at KL KF ⊢;generalize ps.length=nP at KL KF ⊢;generalize L.length=nB at KL KF ⊢;by_cases hlo:M < 1
 ·have P:Hx (K=false):=by show _=_;rw [E,decide_eq_false (show ¬ 1<=M by omega)];simp
  clear E;go_enter Tryz.func34,Tryz.ntmps34;go_wp2_with fail;go_ret;exact ⟨by rw [P.o];(first | rfl | (simp;done) | (simp;assumption) | (simp;omega)),bA _ _⟩
 by_cases hhi:7 < M
 ·have P:Hx (K=false):=by show _=_;rw [E,decide_eq_false (show ¬ M<=7 by omega)];simp
  clear E;go_enter Tryz.func34,Tryz.ntmps34;go_wp2_with fail;go_ret;exact ⟨by rw [P.o];(first | rfl | (simp;done) | (simp;assumption) | (simp;omega)),bA _ _⟩
 rw [decide_eq_true (show 1<=M by omega),decide_eq_true (show M<=7 by omega)] at E;by_cases h2:M=2
 ·subst h2
  obtain ⟨qy,ad⟩:=nm (nfS y.data.toList true);have HF:Hx (K=(qn && qy && ql && qf)):=by show _=_;rw [E,ad];simp
  have KY:Hx (∀ X,Ov w X->Ro 66 #[.string y,zc true] X (zc qy)):=fun X _=>by rw [ad];exact Bn y true X hy
  clear E ad hy hlo hhi;go_enter Tryz.func34,Tryz.ntmps34;go_wp2_with fail;refine (KN.o _ (bA w (zd #[A J 2,A J a,.string x,.string y,zc N,O aL nL Y,O aP nP W,O aB nB Z,A J V,A J U,A J T,.string S,O q R Q] 51))).mono ?_;rintro e w1 ⟨rfl,F⟩;have ah:Hx (Ov w w1):=Ab (bA w (zd #[A J 2,A J a,.string x,.string y,zc N,O aL nL Y,O aP nP W,O aB nB Z,A J V,A J U,A J T,.string S,O q R Q] 51)) F;have I:Hx (Ac [A J 2,A J a,.string x,.string y,zc N,O aL nL Y,O aP nP W,O aB nB Z,A J V,A J U,A J T,.string S,O q R Q] w1 w.heap.size):=Ac.over (Ai w [A J 2,A J a,.string x,.string y,zc N,O aL nL Y,O aP nP W,O aB nB Z,A J V,A J U,A J T,.string S,O q R Q] 51) F;clear F  KN
  cases qn with
  | true=>
   obtain ⟨C,B,v,u,t,n,l,j,i,g,f,c,b⟩:=Ah I.o;go_wp2_with fail;refine (KY.o _ (ah.o)).mono ?_;rintro e w2 ⟨rfl,F⟩;have ag:Hx (Ov w w2):=Ab (ah.o) F;have H:Hx (Ac [A J 2,A J a,.string x,.string y,zc N,O aL nL Y,O aP nP W,O aB nB Z,A J V,A J U,A J T,.string S,O q R Q] w2 w.heap.size):=I.o.over F;clear F C B v u t n l j i g f c b KY
   cases qy with
   | true=>
    obtain ⟨C,B,v,u,t,n,l,j,i,g,f,c,b⟩:=Ah H.o;go_wp2_with fail;refine (KL.o _ (ag.o)).mono ?_;rintro e w3 ⟨rfl,F⟩;have af:Hx (Ov w w3):=Ab (ag.o) F;have G:Hx (Ac [A J 2,A J a,.string x,.string y,zc N,O aL nL Y,O aP nP W,O aB nB Z,A J V,A J U,A J T,.string S,O q R Q] w3 w.heap.size):=H.o.over F;clear F C B v u t n l j i g f c b KL
    cases ql with
    | true=>
     obtain ⟨C,B,v,u,t,n,l,j,i,g,f,c,b⟩:=Ah G.o;go_wp2_with fail;refine (KF.o _ (af.o)).mono ?_;rintro e w4 ⟨rfl,F⟩;have av:Hx (Ov w w4):=Ab (af.o) F;have ae:Hx (Ac [A J 2,A J a,.string x,.string y,zc N,O aL nL Y,O aP nP W,O aB nB Z,A J V,A J U,A J T,.string S,O q R Q] w4 w.heap.size):=G.o.over F;clear F C B v u t n l j i g f c b KF;have P:Hx (K=qf):=by have h:=HF.o;simp at h;exact h
     obtain ⟨C,B,v,u,t,n,l,j,i,g,f,c,b⟩:=Ah ae.o;go_wp2_with fail;go_ret;exact ⟨by rw [P.o];(first | rfl | (simp;done) | (simp;assumption) | (simp;omega)),av.o⟩
    | false=>
     have P:Hx (K=false):=by have h:=HF.o;simp at h;exact h
     obtain ⟨C,B,v,u,t,n,l,j,i,g,f,c,b⟩:=Ah G.o;go_wp2_with fail;go_ret;exact ⟨by rw [P.o];(first | rfl | (simp;done) | (simp;assumption) | (simp;omega)),af.o⟩
   | false=>
    have P:Hx (K=false):=by have h:=HF.o;simp at h;exact h
    obtain ⟨C,B,v,u,t,n,l,j,i,g,f,c,b⟩:=Ah H.o;go_wp2_with fail;go_ret;exact ⟨by rw [P.o];(first | rfl | (simp;done) | (simp;assumption) | (simp;omega)),ag.o⟩
  | false=>
   have P:Hx (K=false):=by have h:=HF.o;simp at h;exact h
   obtain ⟨C,B,v,u,t,n,l,j,i,g,f,c,b⟩:=Ah I.o;go_wp2_with fail;go_ret;exact ⟨by rw [P.o];(first | rfl | (simp;done) | (simp;assumption) | (simp;omega)),ah.o⟩
 ·obtain ⟨qy,ad⟩:=nm (nfS y.data.toList false)
  have HF:Hx (K=(qn && qy && ql && qf)):=by show _=_;rw [E,ad,decide_eq_false h2];simp
  have KY:Hx (∀ X,Ov w X->Ro 66 #[.string y,zc false] X (zc qy)):=fun X _=>by rw [ad];exact Bn y false X hy
  have b2:(M == 2)=false:=by simpa using h2
  clear E ad hy h2;go_enter Tryz.func34,Tryz.ntmps34;go_wp2_with fail;refine (KN.o _ (bA w (zd #[A J M,A J a,.string x,.string y,zc N,O aL nL Y,O aP nP W,O aB nB Z,A J V,A J U,A J T,.string S,O q R Q] 51))).mono ?_;rintro e w1 ⟨rfl,F⟩;have ah:Hx (Ov w w1):=Ab (bA w (zd #[A J M,A J a,.string x,.string y,zc N,O aL nL Y,O aP nP W,O aB nB Z,A J V,A J U,A J T,.string S,O q R Q] 51)) F;have I:Hx (Ac [A J M,A J a,.string x,.string y,zc N,O aL nL Y,O aP nP W,O aB nB Z,A J V,A J U,A J T,.string S,O q R Q] w1 w.heap.size):=Ac.over (Ai w [A J M,A J a,.string x,.string y,zc N,O aL nL Y,O aP nP W,O aB nB Z,A J V,A J U,A J T,.string S,O q R Q] 51) F;clear F  KN
  cases qn with
  | true=>
   obtain ⟨C,B,v,u,t,n,l,j,i,g,f,c,b⟩:=Ah I.o;go_wp2_with fail;refine (KY.o _ (ah.o)).mono ?_;rintro e w2 ⟨rfl,F⟩;have ag:Hx (Ov w w2):=Ab (ah.o) F;have H:Hx (Ac [A J M,A J a,.string x,.string y,zc N,O aL nL Y,O aP nP W,O aB nB Z,A J V,A J U,A J T,.string S,O q R Q] w2 w.heap.size):=I.o.over F;clear F C B v u t n l j i g f c b KY
   cases qy with
   | true=>
    obtain ⟨C,B,v,u,t,n,l,j,i,g,f,c,b⟩:=Ah H.o;go_wp2_with fail;refine (KL.o _ (ag.o)).mono ?_;rintro e w3 ⟨rfl,F⟩;have af:Hx (Ov w w3):=Ab (ag.o) F;have G:Hx (Ac [A J M,A J a,.string x,.string y,zc N,O aL nL Y,O aP nP W,O aB nB Z,A J V,A J U,A J T,.string S,O q R Q] w3 w.heap.size):=H.o.over F;clear F C B v u t n l j i g f c b KL
    cases ql with
    | true=>
     obtain ⟨C,B,v,u,t,n,l,j,i,g,f,c,b⟩:=Ah G.o;go_wp2_with fail;refine (KF.o _ (af.o)).mono ?_;rintro e w4 ⟨rfl,F⟩;have av:Hx (Ov w w4):=Ab (af.o) F;have ae:Hx (Ac [A J M,A J a,.string x,.string y,zc N,O aL nL Y,O aP nP W,O aB nB Z,A J V,A J U,A J T,.string S,O q R Q] w4 w.heap.size):=G.o.over F;clear F C B v u t n l j i g f c b KF;have P:Hx (K=qf):=by have h:=HF.o;simp at h;exact h
     obtain ⟨C,B,v,u,t,n,l,j,i,g,f,c,b⟩:=Ah ae.o;go_wp2_with fail;go_ret;exact ⟨by rw [P.o];(first | rfl | (simp;done) | (simp;assumption) | (simp;omega)),av.o⟩
    | false=>
     have P:Hx (K=false):=by have h:=HF.o;simp at h;exact h
     obtain ⟨C,B,v,u,t,n,l,j,i,g,f,c,b⟩:=Ah G.o;go_wp2_with fail;go_ret;exact ⟨by rw [P.o];(first | rfl | (simp;done) | (simp;assumption) | (simp;omega)),af.o⟩
   | false=>
    have P:Hx (K=false):=by have h:=HF.o;simp at h;exact h
    obtain ⟨C,B,v,u,t,n,l,j,i,g,f,c,b⟩:=Ah H.o;go_wp2_with fail;go_ret;exact ⟨by rw [P.o];(first | rfl | (simp;done) | (simp;assumption) | (simp;omega)),ag.o⟩
  | false=>
   have P:Hx (K=false):=by have h:=HF.o;simp at h;exact h
   obtain ⟨C,B,v,u,t,n,l,j,i,g,f,c,b⟩:=Ah I.o;go_wp2_with fail;go_ret;exact ⟨by rw [P.o];(first | rfl | (simp;done) | (simp;assumption) | (simp;omega)),ah.o⟩
theorem I0 (ke k:Nat) (l:List D) (deep left:Int) (h1:-1<=left) (h2:left<=50):-1<=slK ke k l deep left/\slK ke k l deep left<=50:=by
 have h:=DD ke k l deep left h1 h2;have b:=CM ke k l deep;rw [h];split <;> omega
theorem LE (ke:Nat) (rec:List D->Int->Int) (deep t:Int) (s:D):slF ke rec deep (t,false) s=if t - 1 < 0\/6 < deep\/Cm ke s=true then (-1,true) else (rec (gL 7 s) (rec (gL 6 s) (t - 1)),false):=by
 unfold slF;rw [if_neg (by simp)]
theorem Et (ke:Nat) (rec:List D->Int->Int) (deep:Int):∀ (l:List D),(l.foldl (slF ke rec deep) (-1,true)).1=-1
 | []=>rfl
 | a::l=>by
  rw [List.foldl_cons];have:slF ke rec deep (-1,true) a=(-1,true):=by unfold slF;rw [if_pos rfl]
  rw [this];exact Et ke rec deep l
theorem Gg (ao:Option Addr) (cap:Nat) (w:World) (deep left:Int):Ro 64 #[O ao 0 cap,A J deep,A J left] w (A J left):=by
 go_enter Tryz.func64,Tryz.ntmps64;go_wp2_with fail;go_loopw [2,11] (fun c i wr=>c=A J left/\i=A J 0/\wr=w) (fun _ _ _=>0)
 case atStart=>exact ⟨rfl,rfl,rfl⟩
 case round=>
  obtain ⟨rfl,rfl,rfl⟩:=hrel;go_wp2_with fail;go_ret;exact ⟨rfl,Below.refl _ _⟩
theorem Fg (ke:Nat):∀ (k:Nat) (l:List D) (ao:Option Addr) (cap:Nat) (w:World) (deep left:Int),LS 12 (ZC w ke k) w (O ao l.length cap) l->1<=deep->deep<=7->-1<=left->left<=50->Ro 64 #[O ao l.length cap,A J deep,A J left] w (A J (slK ke k l deep left)):=by
 intro k
 induction k with
 | zero=>
  intro l ao cap w deep left h _ _ _ _;have hl:l=[]:=by
   cases l with
   | nil=>rfl
   | cons a l=>
    obtain ⟨b,ae,-,cs,-,-,hr⟩:=h.at (j:=0) (by simp);exact hr.elim
  subst hl;exact Gg ao cap w deep left
 | succ k ih=>
  intro l ao cap w deep left hc g1 g2 g3 g4;have HC:=Aa hc;have IH:=Aa ih;have HL:=hc.max;obtain ⟨ah,B⟩:=nm (l.foldl (slF ke (fun l left=>slK ke k l (deep+1) left) deep) (left,false)).1;have u:slK ke (k+1) l deep left=ah:=by rw [B];rfl
  rw [u];have HF:=Aa B;obtain ⟨nn,R⟩:=nm l.length;rw [<-R] at HL ⊢;have HN:=Aa R;clear hc ih u B R;go_enter Tryz.func64,Tryz.ntmps64;go_wp2_with fail;go_loopw [2,11] (fun c i wr=>∃ (j:Nat) (t:Int),j<=nn/\i=A J j/\c=A J t/\-1<=t/\t<=50/\((l.drop j).foldl (slF ke (fun l left=>slK ke k l (deep+1) left) deep) (t,false)).1=ah/\Ov w wr) (fun _ i _=>nn - (intOf i).toNat)
  case atStart=>exact ⟨0,left,Nat.zero_le _,rfl,rfl,g3,g4,HF.o.symm,Below.refl _ _⟩
  case round=>
   obtain ⟨j,t,hj,rfl,rfl,t1,t2,g,n⟩:=hrel;by_cases hjl:j < nn
   ·have v:j < l.length:=by have:=HN.o;omega
    obtain ⟨b,ae,rfl,cs,ag,f,hr⟩:=HC.o.at v;rw [Dr v] at g;generalize l[j]=dj at g hr;have T:Hx (∀ X,Ov wr X->Ro 107 #[.agg cs.toArray] X (zc (Cm ke dj))):=fun X F=>Ny ke (k+1) cs dj X ((hr.over n).over F);obtain ⟨kd,a,x,y,e0,e1,e2,e3,q,q1,q2,e,aA,cA,C,aT,Y,K,aE,Z,L,rfl,rfl,-,-,-,-,hT,hE⟩:=id hr;rw [LE] at g;simp only [gSs] at g;have S:Hx (∀ X (t:Int),Ov wr X->deep<=6->-1<=t->t<=50->Ro 64 #[O aT K.length Y,A J (deep+1),A J t] X (A J (slK ke k K (deep+1) t))):=fun X t F h6 h1 h2=>IH.o K aT Y X (deep+1) t (Ao F (Ao n hT)) (by omega) (by omega) h1 h2;have U:Hx (∀ X (t:Int),Ov wr X->deep<=6->-1<=t->t<=50->Ro 64 #[O aE L.length Z,A J (deep+1),A J t] X (A J (slK ke k L (deep+1) t))):=fun X t F h6 h1 h2=>IH.o L aE Z X (deep+1) t (Ao F (Ao n hE)) (by omega) (by omega) h1 h2;obtain ⟨qm,af⟩:=nm (Cm ke (stD kd a x y e C K L));rw [<-af] at g T;have d0:wr.cell? ⟨b,ae+j*12,none⟩=_:=ce1 n (f 0 _ rfl);have d1:=ce1 n (f 1 _ rfl);have d2:=ce1 n (f 2 _ rfl);have d3:=ce1 n (f 3 _ rfl);have d4:=ce1 n (f 4 _ rfl);have d5:=ce1 n (f 5 _ rfl);have d6:=ce1 n (f 6 _ rfl);have d7:=ce1 n (f 7 _ rfl);have d8:=ce1 n (f 8 _ rfl);have d9:=ce1 n (f 9 _ rfl);have H:=ce1 n (f 10 _ rfl);have G:=ce1 n (f 11 _ rfl);have HB:=Aa n;have b3:(j:Int) < (nn:Int):=by omega
    have KM:Hx (∀ X,Ov wr X->Ro 107 #[ze #[A J kd,A J a,.string x,.string y,A J e0,A J e1,A J e2,.string e3,O q q1 q2,O aA C.length cA,O aT K.length Y,O aE L.length Z]] X (zc qm)):=T;clear f ag hr n v hT hE af T;generalize C.length=nA at KM d0 d1 d2 d3 d4 d5 d6 d7 d8 d9 H G;generalize K.length=nT at KM S d0 d1 d2 d3 d4 d5 d6 d7 d8 d9 H G;generalize L.length=nE at KM U d0 d1 d2 d3 d4 d5 d6 d7 d8 d9 H G;by_cases ht0:t - 1 < 0
    ·rw [if_pos (Or.inl ht0)] at g
     have r:=Aa (g.symm.trans (Et ke _ deep _));clear g;go_wp2_with fail;go_ret;exact ⟨by rw [r.o];rfl,Ab HB.o (bA _ _)⟩
    by_cases h6:6 < deep
    ·rw [if_pos (Or.inr (Or.inl h6))] at g
     have r:=Aa (g.symm.trans (Et ke _ deep _));clear g;go_wp2_with fail;go_ret;exact ⟨by rw [r.o];rfl,Ab HB.o (bA _ _)⟩
    have r:=Aa g;clear g;go_wp2_with fail;refine (KM.o _ (bA _ _)).mono ?_;rintro e w1 ⟨rfl,E⟩;have I:Hx (Ov wr w1):=Ab (bA _ _) E;have V:Hx (Ac [A J kd,A J a,.string x,.string y,A J e0,A J e1,A J e2,.string e3,O q q1 q2,O aA nA cA,O aT nT Y,O aE nE Z] w1 wr.heap.size):=Ac.over (Ai wr [A J kd,A J a,.string x,.string y,A J e0,A J e1,A J e2,.string e3,O q q1 q2,O aA nA cA,O aT nT Y,O aE nE Z] 55) E;clear E d0 d1 d2 d3 d4 d5 d6 d7 d8 d9 H G KM
    cases qm with
    | true=>
     have g:=r.o;rw [if_pos (Or.inr (Or.inr rfl))] at g;replace r:=Aa (g.symm.trans (Et ke _ deep _));clear g;go_wp2_with fail;go_ret;exact ⟨by rw [r.o];rfl,Ab HB.o I.o⟩
    | false=>
     have g:=r.o;rw [if_neg (by rintro (h | h | h) <;> first | omega | cases h)] at g
     obtain ⟨r1,Q⟩:=nm (slK ke k K (deep+1) (t - 1));have bd:=I0 ke k K (deep+1) (t - 1) (by omega) (by omega);rw [<-Q] at g bd;obtain ⟨r2,P⟩:=nm (slK ke k L (deep+1) r1);have bc:=I0 ke k L (deep+1) r1 (by omega) (by omega);rw [<-P] at g bc;have KT:Hx (∀ X,Ov wr X->Ro 64 #[O aT nT Y,A J (deep+1),A J (t - 1)] X (A J r1)):=fun X F=>by rw [Q];exact S.o X (t - 1) F (by omega) (by omega) (by omega)
     have KE:Hx (∀ X,Ov wr X->Ro 64 #[O aE nE Z,A J (deep+1),A J r1] X (A J r2)):=fun X F=>by rw [P];exact U.o X r1 F (by omega) (by omega) (by omega)
     replace r:=Aa g;clear g Q P S U;obtain ⟨m0,m1,m2,m3,m4,m5,m6,m7,m8,m9,N,M⟩:=An V.o;go_wp2_with fail;refine (KT.o _ I.o).mono ?_;rintro e w2 ⟨rfl,E⟩;have W:Hx (Ov wr w2):=Ab I.o E;have aj:=Aa (V.o.over E);clear E m0 m1 m2 m3 m4 m5 m6 m7 m8 m9 N M KT V I;obtain ⟨m0,m1,m2,m3,m4,m5,m6,m7,m8,m9,N,M⟩:=An aj.o;go_wp2_with fail;refine (KE.o _ W.o).mono ?_;rintro e w3 ⟨rfl,E⟩;have bo:Hx (Ov w w3):=Ab HB.o (Ab W.o E);clear E m0 m1 m2 m3 m4 m5 m6 m7 m8 m9 N M KE aj W;go_wp2_with fail;exact ⟨⟨j+1,r2,by omega,by go_num,rfl,by omega,by omega,r.o,bo.o⟩,by simp [intOf];omega⟩
   ·have hd:l.drop j=[]:=List.drop_eq_nil_of_le (by have:=HN.o;omega)
    rw [hd] at g;have r:=Aa g;have HB:=Aa n;clear g n hd;go_wp2_with fail;go_ret;exact ⟨by rw [<-r.o];rfl,HB.o⟩
theorem J6 (ke kc:Nat) (ds l:List D) (v:Value) (w:World) (h:ZT w ke kc v ds l):Ro 32 #[v] w (zc (Dv ke kc ds l)):=by
 obtain ⟨ao,c,Z,Y,rfl,hD,hM⟩:=h;obtain ⟨I,n⟩:=nm (Dv ke kc ds l);rw [<-n];unfold Dv at n;have HD:=Aa hD;have HL:=hD.max;have T:Hx (∀ X (t:Int),Ov w X->-1<=t->t<=50->Ro 64 #[O Z l.length Y,A J 1,A J t] X (A J (slK ke kc l 1 t))):=fun X t R h1 h2=>Fg ke kc l Z Y X 1 t (Ao R hM) (by omega) (by omega) h1 h2;obtain ⟨G,Q⟩:=nm ds.length;rw [<-Q] at HL n ⊢;have HN:=Aa Q;clear hD hM Q;generalize l.length=nl at T ⊢;obtain ⟨V,hV⟩:=nm (w.alloc (zd #[O ao G c,O Z nl Y] 25));have F:Hx (Ov w V):=by show Ov _ _;rw [hV];exact bA _ _
 have bo:Hx (Ac [O ao G c,O Z nl Y] V w.heap.size):=by show Ac _ _ _;rw [hV];exact Ai w [O ao G c,O Z nl Y] 25
 by_cases h30:30 < G
 ·have hi:(30:Int) < (G:Int):=by omega
  have HV:Hx (I=true):=by show _=_;rw [n];simp [h30]
  clear n;go_enter Tryz.func32,Tryz.ntmps32;go_wp2_with fail;go_ret;exact ⟨by rw [HV.o];rfl,by rw [<-hV];exact F.o⟩
 rw [decide_eq_false h30,Bool.false_or] at n;have HF:=Aa n;have hi:¬ (30:Int) < (G:Int):=by omega
 clear n;go_enter Tryz.func32,Tryz.ntmps32;go_wp2_with fail;rw [<-hV];clear hV;go_loopw [3,13] (fun c i wr=>∃ (j:Nat) (t:Int),j<=G/\i=A J j/\c=A J t/\-1<=t/\t<=50/\((ds.drop j).any (Cn ke) || decide (slK ke kc l 1 ((ds.drop j).foldl (fun left d=>slK ke kc (gL 7 d) 1 left) t) < 0))=I/\Ov V wr) (fun _ i _=>G - (intOf i).toNat)
 case atStart=>exact ⟨0,50,Nat.zero_le _,rfl,rfl,by omega,by omega,HF.o.symm,Below.refl _ _⟩
 case round=>
  obtain ⟨j,t,hj,rfl,rfl,t1,t2,C,W⟩:=hrel;by_cases hjl:j < G
  ·have E:j < ds.length:=by have:=HN.o;omega
   obtain ⟨b,a5,rfl,cs,ad,g,hr⟩:=HD.o.at E;rw [List.drop_eq_getElem_cons E,List.any_cons,List.foldl_cons] at C;generalize ds[j]=dj at C hr;have f:Ov w wr:=Ab F.o W;have S:Hx (∀ X,Ov wr X->Ro 63 #[.agg cs.toArray] X (zc (Cn ke dj))):=fun X R=>Nz ke kc cs dj X ((hr.over f).over R);obtain ⟨kd,a,x,y,gv,aL,cL,lb,aP,cP,ps,aB,cB,u,e0,e1,e2,e3,q,q1,q2,r,rfl,rfl,-,-,-,-,af,-⟩:=id hr;simp only [gDd] at C;obtain ⟨r1,B⟩:=nm (slK ke kc u 1 t);have bc:=I0 ke kc u 1 t (by omega) (by omega);rw [<-B] at C bc;have KB:Hx (∀ X,Ov wr X->Ro 64 #[O aB u.length cB,A J 1,A J t] X (A J r1)):=fun X R=>by rw [B];exact Fg ke kc u aB cB X 1 t (Ao R (Ao f af)) (by omega) (by omega) t1 t2
   obtain ⟨qm,ac⟩:=nm (Cn ke (deD kd a x y gv lb ps u r));rw [<-ac] at C S;have d0:wr.cell? ⟨b,a5+j*13,none⟩=_:=ce1 f (g 0 _ rfl);have d1:=ce1 f (g 1 _ rfl);have d2:=ce1 f (g 2 _ rfl);have d3:=ce1 f (g 3 _ rfl);have d4:=ce1 f (g 4 _ rfl);have d5:=ce1 f (g 5 _ rfl);have d6:=ce1 f (g 6 _ rfl);have d7:=ce1 f (g 7 _ rfl);have d8:=ce1 f (g 8 _ rfl);have d9:=ce1 f (g 9 _ rfl);have M:=ce1 f (g 10 _ rfl);have L:=ce1 f (g 11 _ rfl);have K:=ce1 f (g 12 _ rfl);have HB:=Aa W;have b7:(j:Int) < (G:Int):=by omega
   have P:Hx (∀ X,Ov wr X->Ro 63 #[ze #[A J kd,A J a,.string x,.string y,zc gv,O aL lb.length cL,O aP ps.length cP,O aB u.length cB,A J e0,A J e1,A J e2,.string e3,O q q1 q2]] X (zc qm)):=S;have HP:=Aa C;clear g ad hr W E af ac S f B C;generalize lb.length=nL at P d0 d1 d2 d3 d4 d5 d6 d7 d8 d9 M L K;generalize ps.length=nP at P d0 d1 d2 d3 d4 d5 d6 d7 d8 d9 M L K;generalize u.length=nB at P KB d0 d1 d2 d3 d4 d5 d6 d7 d8 d9 M L K;go_wp2_with fail;refine (P.o _ (bA _ _)).mono ?_;rintro e w1 ⟨rfl,H⟩;have N:Hx (Ov wr w1):=Ab (bA _ _) H;have aj:Hx (Ac [A J kd,A J a,.string x,.string y,zc gv,O aL nL cL,O aP nP cP,O aB nB cB,A J e0,A J e1,A J e2,.string e3,O q q1 q2] w1 wr.heap.size):=Ac.over (Ai wr [A J kd,A J a,.string x,.string y,zc gv,O aL nL cL,O aP nP cP,O aB nB cB,A J e0,A J e1,A J e2,.string e3,O q q1 q2] 51) H;clear H d0 d1 d2 d3 d4 d5 d6 d7 d8 d9 M L K P
   cases qm with
   | true=>
    have HV:Hx (I=true):=by have h:=HP.o;simp at h;exact h
    go_wp2_with fail;go_ret;exact ⟨by rw [HV.o];rfl,Ab F.o (Ab HB.o N.o)⟩
   | false=>
    have C:=HP.o;rw [Bool.false_or] at C;replace HP:=Aa C;clear C;obtain ⟨m0,m1,m2,m3,m4,m5,m6,m7,m8,m9,a8,a7,a6⟩:=Ah aj.o;go_wp2_with fail;refine (KB.o _ N.o).mono ?_;rintro e w2 ⟨rfl,H⟩;have U:Hx (Ov V w2):=Ab HB.o (Ab N.o H);clear H m0 m1 m2 m3 m4 m5 m6 m7 m8 m9 a8 a7 a6 KB aj N;go_wp2_with fail;exact ⟨⟨j+1,r1,by omega,by go_num,rfl,by omega,by omega,HP.o,U.o⟩,by simp [intOf];omega⟩
  ·have hd:ds.drop j=[]:=List.drop_eq_nil_of_le (by have:=HN.o;omega)
   rw [hd] at C;obtain ⟨r1,B⟩:=nm (slK ke kc l 1 t);have P:Hx (∀ X,Ov w X->Ro 64 #[O Z nl Y,A J 1,A J t] X (A J r1)):=fun X R=>by rw [B];exact T.o X t R t1 t2
   have HV:Hx (I=decide (r1 < 0)):=by show _=_;rw [<-C,B];rfl
   have HB:=Aa W;obtain ⟨m0,m1⟩:=rc2 (bo.o.over W);clear C hd B W T;go_wp2_with fail;refine (P.o _ (Ab F.o HB.o)).mono ?_;rintro e w2 ⟨rfl,H⟩;have U:Hx (Ov w w2):=Ab F.o (Ab HB.o H);clear H m0 m1 P HB;go_wp2_with fail;go_ret;exact ⟨by rw [HV.o];rfl,U.o⟩
theorem N0 (ke kc:Nat) (ds l:List D) (v:Value) (w:World) (h:ZT w ke kc v ds l):Ro 14 #[v] w (A J (ckT ke kc ds l)):=by
 have I:Hx (∀ X,Ov w X->Ro 32 #[v] X (zc (Dv ke kc ds l))):=fun X G=>J6 ke kc ds l v X (h.over G);obtain ⟨t,c,u,r,rfl,Z,Y⟩:=h;obtain ⟨q,f⟩:=nm (ckT ke kc ds l);rw [<-f];unfold ckT at f;obtain ⟨U,x⟩:=nm (Dv ke kc ds l);obtain ⟨W,B⟩:=nm (ds.all (dfK ke kc));obtain ⟨V,y⟩:=nm (l.all (sfK ke kc));rw [<-x,<-B,<-y] at f;have M:=Aa f;have L:Hx (∀ X,Ov w X->Ro 32 #[ze #[O t ds.length c,O u l.length r]] X (zc U)):=by rw [x];exact I
 have Q:Hx (∀ X,Ov w X->Ro 33 #[O t ds.length c,.func (.func 34) #[] #[]] X (zc W)):=fun X G=>by rw [B];exact OP 34 (fun H w=>by simp [go_sem]) (dfK ke kc) ds t c X (fun N d X _ h=>Jo ke kc N d X h) (FY G Z)
 have P:Hx (∀ X,Ov w X->Ro 35 #[O u l.length r,.func (.func 36) #[] #[]] X (zc V)):=fun X G=>by rw [y];exact Jy 36 (fun H w=>by simp [go_sem]) (sfK ke kc) l u r X (fun N d X _ h=>FI ke kc N d X h) (Ao G Y)
 clear f x B y Z Y I;generalize ds.length=nd at L Q ⊢;generalize l.length=nl at L P ⊢;go_enter Tryz.func14,Tryz.ntmps14;go_wp2_with fail;refine (L.o _ (bA w (zd #[O t nd c,O u nl r] 25))).mono ?_;rintro e T ⟨rfl,j⟩;have F:Hx (Ov w T):=Ab (bA w (zd #[O t nd c,O u nl r] 25)) j;have i:Hx (Ac [O t nd c,O u nl r] T w.heap.size):=Ac.over (Ai w [O t nd c,O u nl r] 25) j;clear j  L
 cases U with
 | true=>
  have C:Hx (q=2):=by have h:=M.o;simp at h;exact h
  obtain ⟨b,a⟩:=rc2 i.o;go_wp2_with fail;go_ret;exact ⟨by rw [C.o];rfl,F.o⟩
 | false=>
  obtain ⟨b,a⟩:=rc2 i.o;go_wp2_with fail;refine (Q.o _ (F.o)).mono ?_;rintro e S ⟨rfl,j⟩;have E:Hx (Ov w S):=Ab (F.o) j;have g:Hx (Ac [O t nd c,O u nl r] S w.heap.size):=i.o.over j;clear j b a Q
  cases W with
  | true=>
   obtain ⟨b,a⟩:=rc2 g.o;go_wp2_with fail;refine (P.o _ (E.o)).mono ?_;rintro e R ⟨rfl,j⟩;have K:Hx (Ov w R):=Ab (E.o) j;have n:Hx (Ac [O t nd c,O u nl r] R w.heap.size):=g.o.over j;clear j b a P
   cases V with
   | true=>
    have C:Hx (q=0):=by have h:=M.o;simp at h;exact h
    obtain ⟨b,a⟩:=rc2 n.o;go_wp2_with fail;go_ret;exact ⟨by rw [C.o];rfl,K.o⟩
   | false=>
    have C:Hx (q=1):=by have h:=M.o;simp at h;exact h
    obtain ⟨b,a⟩:=rc2 n.o;go_wp2_with fail;go_ret;exact ⟨by rw [C.o];rfl,K.o⟩
  | false=>
   have C:Hx (q=1):=by have h:=M.o;simp at h;exact h
   obtain ⟨b,a⟩:=rc2 g.o;go_wp2_with fail;go_ret;exact ⟨by rw [C.o];rfl,E.o⟩
def E5 (s:ByteArray):Sum (List D × List D) (Int × Int):=
 if s.size<=6000 then
  if A7 s=0 then
   match C3 (Aw s) s.size with
   | .inr m=>.inr (AA (Aw s) s.size m,1)
   | .inl ((ds,l),_)=>if ckT 61 (2*(Aw s).length+3) ds l=0 then .inl (ds,l) else .inr (0,ckT 61 (2*(Aw s).length+3) ds l)
  else .inr ((BS s:Int),(A7 s:Int))
 else .inr (0,2)
def Lr (s:ByteArray) (r:Sum (List D × List D) (Int × Int)) (e:Ending) (w':World):Prop:=match r with
 | .inl (ds,l)=>∃ v,e=zg (zh #[v,A J 0,A J 0])/\ZT w' 61 (2*(Aw s).length+3) v ds l
 | .inr (p,r)=>e=zg (zh #[ze #[O none 0 0,O none 0 0],A J p,A J r])
def GM (s:ByteArray) (w:World) (e:Ending) (w':World):Prop:=Ov w w'/\Lr s (E5 s) e w'
theorem Gy (s:ByteArray):∀ (f:Nat) (note:Bool) (i:Nat) (ts:List Tok),Bd s f note i=.inl ts->ts.length<=s.size - i
 | 0,note,i,ts,h=>by
  have h':(Sum.inl []:Sum (List Tok) (Nat × Nat))=.inl ts:=h;injection h' with h';rw [<-h'];simp
 | f+1,note,i,ts,h=>by
  unfold Bd at h;have hge:=DF note s.data.toList i;split at h
  ·split at h
   ·rename_i hlt he
    have hk:=BM he;revert h
    cases hr:Bd s f false (Al s (AE note s.data.toList i)).2 with
    | inl ts'=>
     intro h;injection h with h;have:=Gy s f false _ ts' hr;rw [<-h,List.length_cons];omega
    | inr x=>intro h;cases h
   ·cases h
  ·injection h with h
   rw [<-h];simp
theorem LV (s:ByteArray) (h:s.size<=6000):(Aw s).length<=6000:=by
 unfold Aw;split
 ·rename_i a b
  have:=Gy s _ _ _ a b;omega
 ·simp
end Go.Proofs.YtipngnjffjajpaaGreatDoor.Tx
