/- Package tree's Check: commands, functions, declarations that are fine. -/
import Derived.Test.YtipngnjffjajpaaGreatDoorH24
set_option linter.unusedVariables false
set_option maxHeartbeats 8000000
set_option maxRecDepth 100000
namespace Go.Proofs.YtipngnjffjajpaaGreatDoor.Tx
open Go.RowKit
open Go.Value renaming int -> M, slice -> U, bool -> zc, pointer -> zd, agg -> zf, tuple -> zh
open Go.IntKind renaming i64 -> O
open Go.Obj renaming cells -> ze
open Go.Ending renaming returned -> zg
theorem FC (ke:Nat):∀ (k:Nat) (cs:List Value) (d:D) (w:World),ZC w ke k cs d->Ro 36 #[.agg cs.toArray] w (zc (sfK ke k d)):=by
 intro k
 induction k with
 | zero=>intro cs d w h;exact h.elim
 | succ k ih=>
  intro cs d w h;obtain ⟨R,a,x,y,e0,e1,e2,Z,q,q1,Y,e,aA,cA,Q,aT,cT,th,aE,cE,el,rfl,rfl,hx,hy,he,hA,hT,hE⟩:=h;obtain ⟨fin,W⟩:=nm (sfK ke (k+1) (stD R a x y e Q th el));rw [<-W];simp only [sfK,gSs] at W;obtain ⟨b0,bj⟩:=nm (E6 R);obtain ⟨b1,bi⟩:=nm (E8 R);obtain ⟨b2,bh⟩:=nm (E9 R);obtain ⟨b3,bg⟩:=nm (Fb R);obtain ⟨b4,bf⟩:=nm (E7 R);obtain ⟨b5,be⟩:=nm (Fa R);obtain ⟨ok,bd⟩:=nm (hOk R);have KS:Hx (∀ X,Ov w X->Ro 69 #[M O R] X (zh #[zf #[zc b0,zc b1,zc b2,zc b3,zc b4,zc b5],zc ok])):=fun X _=>by rw [bj,bi,bh,bg,bf,be,bd];exact Lx R X
  rw [<-bj,<-bi,<-bh,<-bg,<-bf,<-be,<-bd] at W;clear bj bi bh bg bf be bd;obtain ⟨qv,a8⟩:=nm (nfS x.data.toList b0);obtain ⟨qy,a6⟩:=nm (nfS y.data.toList b1);obtain ⟨qe,bb⟩:=nm (efK ke e);obtain ⟨qx,a7⟩:=nm (CT e);obtain ⟨qa,bc⟩:=nm (lfS Q b3 (efK ke));obtain ⟨qt,a9⟩:=nm (lfS th b4 (sfK ke k));obtain ⟨ql,ba⟩:=nm (lfS el b5 (sfK ke k));rw [<-a8,<-a6,<-bb,<-a7,<-bc,<-a9,<-ba] at W;have HF:=Aa W;have KV:Hx (∀ X,Ov w X->Ro 66 #[.string x,zc b0] X (zc qv)):=fun X _=>by rw [a8];exact BC x b0 X hx
  have KY:Hx (∀ X,Ov w X->Ro 66 #[.string y,zc b1] X (zc qy)):=fun X _=>by rw [a6];exact BC y b1 X hy
  have KX:Hx (∀ X,Ov w X->Ro 70 #[zf #[M O e0,M O e1,M O e2,.string Z,U q q1 Y]] X (zc qe)):=fun X hX=>by rw [bb];exact Em ke _ e X (he.over hX)
  have KO:Hx (∀ X,Ov w X->Ro 71 #[zf #[M O e0,M O e1,M O e2,.string Z,U q q1 Y]] X (zc qx)):=fun X hX=>by rw [a7];exact Ly ke _ e X (he.over hX)
  have KA:Hx (∀ X,Ov w X->Ro 72 #[U aA Q.length cA,zc b3,.func (.func 70) #[] #[]] X (zc qa)):=fun X hX=>by rw [bc];exact H4 70 (fun Q w=>by simp [go_sem]) (efK ke) Q aA cA b3 X (fun cs d X _ h=>Em ke cs d X h) (B2 hX hA)
  have KT:Hx (∀ X,Ov w X->Ro 73 #[U aT th.length cT,zc b4,.func (.func 36) #[] #[]] X (zc qt)):=fun X hX=>by rw [a9];exact Fk 36 (fun Q w=>by simp [go_sem]) (sfK ke k) th aT cT b4 X (fun cs d X _ h=>ih cs d X h) (Ay hX hT)
  have KE:Hx (∀ X,Ov w X->Ro 73 #[U aE el.length cE,zc b5,.func (.func 36) #[] #[]] X (zc ql)):=fun X hX=>by rw [ba];exact Fk 36 (fun Q w=>by simp [go_sem]) (sfK ke k) el aE cE b5 X (fun cs d X _ h=>ih cs d X h) (Ay hX hE)
  clear W a8 a6 bb a7 bc a9 ba hx hy he hA hT hE ih;show Ro 36 #[zf #[M O R,M O a,.string x,.string y,M O e0,M O e1,M O e2,.string Z,U q q1 Y,U aA Q.length cA,U aT th.length cT,U aE el.length cE]] w _;generalize Q.length=nA at KA ⊢;generalize th.length=nT at KT ⊢;generalize el.length=nE at KE ⊢;go_enter Tryz.func36,Tryz.ntmps36;go_wp2_with fail;refine (KS.o _ (bA w (ze #[M O R,M O a,.string x,.string y,M O e0,M O e1,M O e2,.string Z,U q q1 Y,U aA nA cA,U aT nT cT,U aE nE cE] 55))).mono ?_;rintro e w1 ⟨rfl,H⟩;have bm:Hx (Ov w w1):=Ab (bA w (ze #[M O R,M O a,.string x,.string y,M O e0,M O e1,M O e2,.string Z,U q q1 Y,U aA nA cA,U aT nT cT,U aE nE cE] 55)) H;have au:Hx (Ae [M O R,M O a,.string x,.string y,M O e0,M O e1,M O e2,.string Z,U q q1 Y,U aA nA cA,U aT nT cT,U aE nE cE] w1 w.heap.size):=Ae.over (AW w [M O R,M O a,.string x,.string y,M O e0,M O e1,M O e2,.string Z,U q q1 Y,U aA nA cA,U aT nT cT,U aE nE cE] 55) H;clear H  KS
  cases ok with
  | true=>
   obtain ⟨v,u,r,n,m,l,j,i,g,f,c,b⟩:=AC (Aa (au.o.over (bA w1 (ze #[zc b0,zc b1,zc b2,zc b3,zc b4,zc b5] 106)))).o;go_wp2_with fail;refine (KV.o _ (Ab bm.o (bA _ _))).mono ?_;rintro e w2 ⟨rfl,H⟩;have bl:Hx (Ov w w2):=Ab (Ab bm.o (bA _ _)) H;have ar:Hx (Ae [M O R,M O a,.string x,.string y,M O e0,M O e1,M O e2,.string Z,U q q1 Y,U aA nA cA,U aT nT cT,U aE nE cE] w2 w.heap.size):=(au.o.over (bA _ _)).over H;have ap:Hx (Ae [zc b0,zc b1,zc b2,zc b3,zc b4,zc b5] w2 w1.heap.size):=Ae.over (AW w1 [zc b0,zc b1,zc b2,zc b3,zc b4,zc b5] 106) H;clear H v u r n m l j i g f c b KV
   cases qv with
   | true=>
    obtain ⟨v,u,r,n,m,l,j,i,g,f,c,b⟩:=AC ar.o;obtain ⟨G,F,E,C,B,A⟩:=rc6 ap.o;go_wp2_with fail;refine (KY.o _ (bl.o)).mono ?_;rintro e w3 ⟨rfl,H⟩;have a0:Hx (Ov w w3):=Ab (bl.o) H;have T:Hx (Ae [M O R,M O a,.string x,.string y,M O e0,M O e1,M O e2,.string Z,U q q1 Y,U aA nA cA,U aT nT cT,U aE nE cE] w3 w.heap.size):=ar.o.over H;have S:Hx (Ae [zc b0,zc b1,zc b2,zc b3,zc b4,zc b5] w3 w1.heap.size):=ap.o.over H;clear H v u r n m l j i g f c b G F E C B A KY
    cases qy with
    | true=>
     cases b2 with
     | true=>
      obtain ⟨v,u,r,n,m,l,j,i,g,f,c,b⟩:=AC T.o;obtain ⟨G,F,E,C,B,A⟩:=rc6 S.o;go_wp2_with fail;refine (KX.o _ (a0.o)).mono ?_;rintro e w4 ⟨rfl,H⟩;have ax:Hx (Ov w w4):=Ab (a0.o) H;have P:Hx (Ae [M O R,M O a,.string x,.string y,M O e0,M O e1,M O e2,.string Z,U q q1 Y,U aA nA cA,U aT nT cT,U aE nE cE] w4 w.heap.size):=T.o.over H;have K:Hx (Ae [zc b0,zc b1,zc true,zc b3,zc b4,zc b5] w4 w1.heap.size):=S.o.over H;clear H v u r n m l j i g f c b G F E C B A KX
      cases qe with
      | true=>
       obtain ⟨v,u,r,n,m,l,j,i,g,f,c,b⟩:=AC P.o;obtain ⟨G,F,E,C,B,A⟩:=rc6 K.o;go_wp2_with fail;refine (KA.o _ (ax.o)).mono ?_;rintro e w5 ⟨rfl,H⟩;have aw:Hx (Ov w w5):=Ab (ax.o) H;have N:Hx (Ae [M O R,M O a,.string x,.string y,M O e0,M O e1,M O e2,.string Z,U q q1 Y,U aA nA cA,U aT nT cT,U aE nE cE] w5 w.heap.size):=P.o.over H;have J:Hx (Ae [zc b0,zc b1,zc true,zc b3,zc b4,zc b5] w5 w1.heap.size):=K.o.over H;clear H v u r n m l j i g f c b G F E C B A KA
       cases qa with
       | true=>
        obtain ⟨v,u,r,n,m,l,j,i,g,f,c,b⟩:=AC N.o;obtain ⟨G,F,E,C,B,A⟩:=rc6 J.o;go_wp2_with fail;refine (KT.o _ (aw.o)).mono ?_;rintro e w6 ⟨rfl,H⟩;have av:Hx (Ov w w6):=Ab (aw.o) H;have L:Hx (Ae [M O R,M O a,.string x,.string y,M O e0,M O e1,M O e2,.string Z,U q q1 Y,U aA nA cA,U aT nT cT,U aE nE cE] w6 w.heap.size):=N.o.over H;have I:Hx (Ae [zc b0,zc b1,zc true,zc b3,zc b4,zc b5] w6 w1.heap.size):=J.o.over H;clear H v u r n m l j i g f c b G F E C B A KT
        cases qt with
        | true=>
         obtain ⟨v,u,r,n,m,l,j,i,g,f,c,b⟩:=AC L.o;obtain ⟨G,F,E,C,B,A⟩:=rc6 I.o;go_wp2_with fail;refine (KE.o _ (av.o)).mono ?_;rintro e w7 ⟨rfl,H⟩;have bk:Hx (Ov w w7):=Ab (av.o) H;have aq:Hx (Ae [M O R,M O a,.string x,.string y,M O e0,M O e1,M O e2,.string Z,U q q1 Y,U aA nA cA,U aT nT cT,U aE nE cE] w7 w.heap.size):=L.o.over H;have ao:Hx (Ae [zc b0,zc b1,zc true,zc b3,zc b4,zc b5] w7 w1.heap.size):=I.o.over H;clear H v u r n m l j i g f c b G F E C B A KE;have V:Hx (fin=ql):=by have h:=HF.o;simp at h;exact h
         obtain ⟨v,u,r,n,m,l,j,i,g,f,c,b⟩:=AC aq.o;obtain ⟨G,F,E,C,B,A⟩:=rc6 ao.o;go_wp2_with fail;go_ret;exact ⟨by rw [V.o];(first | rfl | (simp;done) | (simp;assumption) | (simp;omega)),bk.o⟩
        | false=>
         have V:Hx (fin=false):=by have h:=HF.o;simp at h;exact h
         obtain ⟨v,u,r,n,m,l,j,i,g,f,c,b⟩:=AC L.o;obtain ⟨G,F,E,C,B,A⟩:=rc6 I.o;go_wp2_with fail;go_ret;exact ⟨by rw [V.o];(first | rfl | (simp;done) | (simp;assumption) | (simp;omega)),av.o⟩
       | false=>
        have V:Hx (fin=false):=by have h:=HF.o;simp at h;exact h
        obtain ⟨v,u,r,n,m,l,j,i,g,f,c,b⟩:=AC N.o;obtain ⟨G,F,E,C,B,A⟩:=rc6 J.o;go_wp2_with fail;go_ret;exact ⟨by rw [V.o];(first | rfl | (simp;done) | (simp;assumption) | (simp;omega)),aw.o⟩
      | false=>
       have V:Hx (fin=false):=by have h:=HF.o;simp at h;exact h
       obtain ⟨v,u,r,n,m,l,j,i,g,f,c,b⟩:=AC P.o;obtain ⟨G,F,E,C,B,A⟩:=rc6 K.o;go_wp2_with fail;go_ret;exact ⟨by rw [V.o];(first | rfl | (simp;done) | (simp;assumption) | (simp;omega)),ax.o⟩
     | false=>
      obtain ⟨v,u,r,n,m,l,j,i,g,f,c,b⟩:=AC T.o;obtain ⟨G,F,E,C,B,A⟩:=rc6 S.o;go_wp2_with fail;refine (KO.o _ (a0.o)).mono ?_;rintro e w4 ⟨rfl,H⟩;have ax:Hx (Ov w w4):=Ab (a0.o) H;have P:Hx (Ae [M O R,M O a,.string x,.string y,M O e0,M O e1,M O e2,.string Z,U q q1 Y,U aA nA cA,U aT nT cT,U aE nE cE] w4 w.heap.size):=T.o.over H;have K:Hx (Ae [zc b0,zc b1,zc false,zc b3,zc b4,zc b5] w4 w1.heap.size):=S.o.over H;clear H v u r n m l j i g f c b G F E C B A KO
      cases qx with
      | true=>
       obtain ⟨v,u,r,n,m,l,j,i,g,f,c,b⟩:=AC P.o;obtain ⟨G,F,E,C,B,A⟩:=rc6 K.o;go_wp2_with fail;refine (KA.o _ (ax.o)).mono ?_;rintro e w5 ⟨rfl,H⟩;have aw:Hx (Ov w w5):=Ab (ax.o) H;have N:Hx (Ae [M O R,M O a,.string x,.string y,M O e0,M O e1,M O e2,.string Z,U q q1 Y,U aA nA cA,U aT nT cT,U aE nE cE] w5 w.heap.size):=P.o.over H;have J:Hx (Ae [zc b0,zc b1,zc false,zc b3,zc b4,zc b5] w5 w1.heap.size):=K.o.over H;clear H v u r n m l j i g f c b G F E C B A KA
       cases qa with
       | true=>
        obtain ⟨v,u,r,n,m,l,j,i,g,f,c,b⟩:=AC N.o;obtain ⟨G,F,E,C,B,A⟩:=rc6 J.o;go_wp2_with fail;refine (KT.o _ (aw.o)).mono ?_;rintro e w6 ⟨rfl,H⟩;have av:Hx (Ov w w6):=Ab (aw.o) H;have L:Hx (Ae [M O R,M O a,.string x,.string y,M O e0,M O e1,M O e2,.string Z,U q q1 Y,U aA nA cA,U aT nT cT,U aE nE cE] w6 w.heap.size):=N.o.over H;have I:Hx (Ae [zc b0,zc b1,zc false,zc b3,zc b4,zc b5] w6 w1.heap.size):=J.o.over H;clear H v u r n m l j i g f c b G F E C B A KT
        cases qt with
        | true=>
         obtain ⟨v,u,r,n,m,l,j,i,g,f,c,b⟩:=AC L.o;obtain ⟨G,F,E,C,B,A⟩:=rc6 I.o;go_wp2_with fail;refine (KE.o _ (av.o)).mono ?_;rintro e w7 ⟨rfl,H⟩;have bk:Hx (Ov w w7):=Ab (av.o) H;have aq:Hx (Ae [M O R,M O a,.string x,.string y,M O e0,M O e1,M O e2,.string Z,U q q1 Y,U aA nA cA,U aT nT cT,U aE nE cE] w7 w.heap.size):=L.o.over H;have ao:Hx (Ae [zc b0,zc b1,zc false,zc b3,zc b4,zc b5] w7 w1.heap.size):=I.o.over H;clear H v u r n m l j i g f c b G F E C B A KE;have V:Hx (fin=ql):=by have h:=HF.o;simp at h;exact h
         obtain ⟨v,u,r,n,m,l,j,i,g,f,c,b⟩:=AC aq.o;obtain ⟨G,F,E,C,B,A⟩:=rc6 ao.o;go_wp2_with fail;go_ret;exact ⟨by rw [V.o];(first | rfl | (simp;done) | (simp;assumption) | (simp;omega)),bk.o⟩
        | false=>
         have V:Hx (fin=false):=by have h:=HF.o;simp at h;exact h
         obtain ⟨v,u,r,n,m,l,j,i,g,f,c,b⟩:=AC L.o;obtain ⟨G,F,E,C,B,A⟩:=rc6 I.o;go_wp2_with fail;go_ret;exact ⟨by rw [V.o];(first | rfl | (simp;done) | (simp;assumption) | (simp;omega)),av.o⟩
       | false=>
        have V:Hx (fin=false):=by have h:=HF.o;simp at h;exact h
        obtain ⟨v,u,r,n,m,l,j,i,g,f,c,b⟩:=AC N.o;obtain ⟨G,F,E,C,B,A⟩:=rc6 J.o;go_wp2_with fail;go_ret;exact ⟨by rw [V.o];(first | rfl | (simp;done) | (simp;assumption) | (simp;omega)),aw.o⟩
      | false=>
       have V:Hx (fin=false):=by have h:=HF.o;simp at h;exact h
       obtain ⟨v,u,r,n,m,l,j,i,g,f,c,b⟩:=AC P.o;obtain ⟨G,F,E,C,B,A⟩:=rc6 K.o;go_wp2_with fail;go_ret;exact ⟨by rw [V.o];(first | rfl | (simp;done) | (simp;assumption) | (simp;omega)),ax.o⟩
    | false=>
     have V:Hx (fin=false):=by have h:=HF.o;simp at h;exact h
     obtain ⟨v,u,r,n,m,l,j,i,g,f,c,b⟩:=AC T.o;obtain ⟨G,F,E,C,B,A⟩:=rc6 S.o;go_wp2_with fail;go_ret;exact ⟨by rw [V.o];(first | rfl | (simp;done) | (simp;assumption) | (simp;omega)),a0.o⟩
   | false=>
    have V:Hx (fin=false):=by have h:=HF.o;simp at h;exact h
    obtain ⟨v,u,r,n,m,l,j,i,g,f,c,b⟩:=AC ar.o;obtain ⟨G,F,E,C,B,A⟩:=rc6 ap.o;go_wp2_with fail;go_ret;exact ⟨by rw [V.o];(first | rfl | (simp;done) | (simp;assumption) | (simp;omega)),bl.o⟩
  | false=>
   have V:Hx (fin=false):=by have h:=HF.o;simp at h;exact h
   obtain ⟨v,u,r,n,m,l,j,i,g,f,c,b⟩:=AC au.o;go_wp2_with fail;go_ret;exact ⟨by rw [V.o];(first | rfl | (simp;done) | (simp;assumption) | (simp;omega)),Ab bm.o (bA _ _)⟩
theorem FW (ke kc:Nat) (cs:List Value) (d:D) (w:World) (h:ZD w ke kc cs d):Ro 68 #[.agg cs.toArray] w (zc (Du ke kc d)):=by
 obtain ⟨Z,a,x,y,S,V,T,lb,P,L,ps,Q,N,E,K,J,I,H,q,q1,F,r,rfl,rfl,-,-,hL,hP,hB,hR⟩:=h;obtain ⟨fin,b⟩:=nm (Du ke kc (deD Z a x y S lb ps E r));rw [<-b];unfold Du at b;simp only [gDd,BW nmS,BV,List.length_map] at b;obtain ⟨qp,ac⟩:=nm (ps.all fun x=>nmS x.data.toList);obtain ⟨qb,ad⟩:=nm (E.all (sfK ke kc));obtain ⟨qr,ab⟩:=nm (efK ke r);obtain ⟨qx,aa⟩:=nm (CT r);rw [<-ac,<-ad,<-ab,<-aa] at b;have KP:Hx (∀ X,Ov w X->Ro 110 #[U P ps.length L,.func (.func 65) #[] #[]] X (zc qp)):=fun X hX=>by rw [ac];exact LT 65 (fun aj w=>by simp [go_sem]) _ ps P L X (fun x X hx=>Dt x X hx) (Br hX hP)
 have KB:Hx (∀ X,Ov w X->Ro 35 #[U Q E.length N,.func (.func 36) #[] #[]] X (zc qb)):=fun X hX=>by rw [ad];exact I9 36 (fun aj w=>by simp [go_sem]) (sfK ke kc) E Q N X (fun cs d X _ h=>FC ke kc cs d X h) (Ay hX hB)
 have KR:Hx (∀ X,Ov w X->Ro 70 #[zf #[M O K,M O J,M O I,.string H,U q q1 F]] X (zc qr)):=fun X hX=>by rw [ab];exact Em ke _ r X (hR.over hX)
 have KO:Hx (∀ X,Ov w X->Ro 71 #[zf #[M O K,M O J,M O I,.string H,U q q1 F]] X (zc qx)):=fun X hX=>by rw [aa];exact Ly ke _ r X (hR.over hX)
 have aq:=hP.max;have ar:=hB.max;clear ac ad ab aa hL hP hB hR;show Ro 68 #[zf #[M O Z,M O a,.string x,.string y,zc S,U V lb.length T,U P ps.length L,U Q E.length N,M O K,M O J,M O I,.string H,U q q1 F]] w _;generalize lb.length=nL at ⊢;generalize ps.length=nP at b KP aq ⊢;generalize E.length=nB at b KB ar ⊢;by_cases h7:Z=7
 ·subst h7
  rw [if_pos rfl] at b;have HF:=Aa b;clear b;go_enter Tryz.func68,Tryz.ntmps68;go_wp2_with fail;refine (KP.o _ (bA w (ze #[M O 7,M O a,.string x,.string y,zc S,U V nL T,U P nP L,U Q nB N,M O K,M O J,M O I,.string H,U q q1 F] 51))).mono ?_;rintro e w1 ⟨rfl,G⟩;have Y:Hx (Ov w w1):=Ab (bA w (ze #[M O 7,M O a,.string x,.string y,zc S,U V nL T,U P nP L,U Q nB N,M O K,M O J,M O I,.string H,U q q1 F] 51)) G;have C:Hx (Ae [M O 7,M O a,.string x,.string y,zc S,U V nL T,U P nP L,U Q nB N,M O K,M O J,M O I,.string H,U q q1 F] w1 w.heap.size):=Ae.over (AW w [M O 7,M O a,.string x,.string y,zc S,U V nL T,U P nP L,U Q nB N,M O K,M O J,M O I,.string H,U q q1 F] 51) G;clear G  KP
  cases qp with
  | true=>
   obtain ⟨B,A,v,u,n,m,l,k,j,i,g,f,c⟩:=Ap C.o;go_wp2_with fail;refine (KB.o _ (Y.o)).mono ?_;rintro e w2 ⟨rfl,G⟩;have ag:Hx (Ov w w2):=Ab (Y.o) G;have R:Hx (Ae [M O 7,M O a,.string x,.string y,zc S,U V nL T,U P nP L,U Q nB N,M O K,M O J,M O I,.string H,U q q1 F] w2 w.heap.size):=C.o.over G;clear G B A v u n m l k j i g f c KB
   cases qb with
   | true=>
    obtain ⟨B,A,v,u,n,m,l,k,j,i,g,f,c⟩:=Ap R.o;go_wp2_with fail;refine (KR.o _ (ag.o)).mono ?_;rintro e w3 ⟨rfl,G⟩;have av:Hx (Ov w w3):=Ab (ag.o) G;have af:Hx (Ae [M O 7,M O a,.string x,.string y,zc S,U V nL T,U P nP L,U Q nB N,M O K,M O J,M O I,.string H,U q q1 F] w3 w.heap.size):=R.o.over G;clear G B A v u n m l k j i g f c KR;have W:Hx (fin=qr):=by have h:=HF.o;simp at h;exact h
    obtain ⟨B,A,v,u,n,m,l,k,j,i,g,f,c⟩:=Ap af.o;go_wp2_with fail;go_ret;exact ⟨by rw [W.o];(first | rfl | (simp;done) | (simp;assumption) | (simp;omega)),av.o⟩
   | false=>
    have W:Hx (fin=false):=by have h:=HF.o;simp at h;exact h
    obtain ⟨B,A,v,u,n,m,l,k,j,i,g,f,c⟩:=Ap R.o;go_wp2_with fail;go_ret;exact ⟨by rw [W.o];(first | rfl | (simp;done) | (simp;assumption) | (simp;omega)),ag.o⟩
  | false=>
   have W:Hx (fin=false):=by have h:=HF.o;simp at h;exact h
   obtain ⟨B,A,v,u,n,m,l,k,j,i,g,f,c⟩:=Ap C.o;go_wp2_with fail;go_ret;exact ⟨by rw [W.o];(first | rfl | (simp;done) | (simp;assumption) | (simp;omega)),Y.o⟩
 by_cases h1:nP=0
 ·subst h1
  by_cases h2:nB=0
  ·subst h2
   have W:Hx (fin=qx):=by show _=_;rw [b];simp [h7]
   clear b;go_enter Tryz.func68,Tryz.ntmps68;go_wp2_with fail;refine (KO.o _ (bA w (ze #[M O Z,M O a,.string x,.string y,zc S,U V nL T,U P 0 L,U Q 0 N,M O K,M O J,M O I,.string H,U q q1 F] 51))).mono ?_;rintro e w1 ⟨rfl,G⟩;have Y:Hx (Ov w w1):=Ab (bA w (ze #[M O Z,M O a,.string x,.string y,zc S,U V nL T,U P 0 L,U Q 0 N,M O K,M O J,M O I,.string H,U q q1 F] 51)) G;have C:Hx (Ae [M O Z,M O a,.string x,.string y,zc S,U V nL T,U P 0 L,U Q 0 N,M O K,M O J,M O I,.string H,U q q1 F] w1 w.heap.size):=Ae.over (AW w [M O Z,M O a,.string x,.string y,zc S,U V nL T,U P 0 L,U Q 0 N,M O K,M O J,M O I,.string H,U q q1 F] 51) G;clear G  KO;obtain ⟨B,A,v,u,n,m,l,k,j,i,g,f,c⟩:=Ap C.o;go_wp2_with fail;go_ret;exact ⟨by rw [W.o];(first | rfl | (simp;done) | (simp;assumption) | (simp;omega)),Y.o⟩
  ·have hi:¬ (nB:Int)=0:=by omega
   have W:Hx (fin=false):=by show _=_;rw [b];simp [h7,h2]
   clear b;go_enter Tryz.func68,Tryz.ntmps68;go_wp2_with fail;go_ret;exact ⟨by rw [W.o];(first | rfl | (simp;done) | (simp;assumption) | (simp;omega)),bA w (ze #[M O Z,M O a,.string x,.string y,zc S,U V nL T,U P 0 L,U Q nB N,M O K,M O J,M O I,.string H,U q q1 F] 51)⟩
 ·have hi:¬ (nP:Int)=0:=by omega
  have W:Hx (fin=false):=by show _=_;rw [b];simp [h7,h1]
  clear b;go_enter Tryz.func68,Tryz.ntmps68;go_wp2_with fail;go_ret;exact ⟨by rw [W.o];(first | rfl | (simp;done) | (simp;assumption) | (simp;omega)),bA w (ze #[M O Z,M O a,.string x,.string y,zc S,U V nL T,U P nP L,U Q nB N,M O K,M O J,M O I,.string H,U q q1 F] 51)⟩
theorem I2 (ke kc:Nat) (cs:List Value) (d:D) (w:World) (h:ZD w ke kc cs d):Ro 34 #[.agg cs.toArray] w (zc (dfK ke kc d)):=by
 have am:Hx (∀ X,Ov w X->Ro 67 #[.agg cs.toArray] X (zc (Ds d))):=fun X hX=>H5 ke kc cs d X (h.over hX);have ao:Hx (∀ X,Ov w X->Ro 68 #[.agg cs.toArray] X (zc (Du ke kc d))):=fun X hX=>FW ke kc cs d X (h.over hX);obtain ⟨I,a,x,y,J,Y,T,lb,W,S,ps,Z,V,H,R,Q,P,N,q,q1,L,r,rfl,rfl,hx,hy,-,-,-,-⟩:=h;obtain ⟨fin,B⟩:=nm (dfK ke kc (deD I a x y J lb ps H r));rw [<-B];unfold dfK at B;obtain ⟨ql,ak⟩:=nm (Ds (deD I a x y J lb ps H r));obtain ⟨qf,al⟩:=nm (Du ke kc (deD I a x y J lb ps H r));rw [<-ak,<-al] at B;rw [<-ak] at am;rw [<-al] at ao;simp only [gDd] at B;obtain ⟨qn,aj⟩:=nm (nmS x.data.toList);rw [<-aj] at B;have KL:Hx (∀ X,Ov w X->Ro 67 #[zf #[M O I,M O a,.string x,.string y,zc J,U Y lb.length T,U W ps.length S,U Z H.length V,M O R,M O Q,M O P,.string N,U q q1 L]] X (zc ql)):=am;have KF:Hx (∀ X,Ov w X->Ro 68 #[zf #[M O I,M O a,.string x,.string y,zc J,U Y lb.length T,U W ps.length S,U Z H.length V,M O R,M O Q,M O P,.string N,U q q1 L]] X (zc qf)):=ao;have KN:Hx (∀ X,Ov w X->Ro 65 #[.string x] X (zc qn)):=fun X _=>by rw [aj];exact Dt x X hx
 clear ak al aj am ao hx;show Ro 34 #[zf #[M O I,M O a,.string x,.string y,zc J,U Y lb.length T,U W ps.length S,U Z H.length V,M O R,M O Q,M O P,.string N,U q q1 L]] w _;generalize lb.length=nL at KL KF ⊢;generalize ps.length=nP at KL KF ⊢;generalize H.length=nB at KL KF ⊢;by_cases hlo:I < 1
 ·have K:Hx (fin=false):=by show _=_;rw [B,decide_eq_false (show ¬ 1<=I by omega)];simp
  clear B;go_enter Tryz.func34,Tryz.ntmps34;go_wp2_with fail;go_ret;exact ⟨by rw [K.o];(first | rfl | (simp;done) | (simp;assumption) | (simp;omega)),bA _ _⟩
 by_cases hhi:7 < I
 ·have K:Hx (fin=false):=by show _=_;rw [B,decide_eq_false (show ¬ I<=7 by omega)];simp
  clear B;go_enter Tryz.func34,Tryz.ntmps34;go_wp2_with fail;go_ret;exact ⟨by rw [K.o];(first | rfl | (simp;done) | (simp;assumption) | (simp;omega)),bA _ _⟩
 rw [decide_eq_true (show 1<=I by omega),decide_eq_true (show I<=7 by omega)] at B;by_cases h2:I=2
 ·subst h2
  obtain ⟨qy,aa⟩:=nm (nfS y.data.toList true);have HF:Hx (fin=(qn && qy && ql && qf)):=by show _=_;rw [B,aa];simp
  have KY:Hx (∀ X,Ov w X->Ro 66 #[.string y,zc true] X (zc qy)):=fun X _=>by rw [aa];exact BC y true X hy
  clear B aa hy hlo hhi;go_enter Tryz.func34,Tryz.ntmps34;go_wp2_with fail;refine (KN.o _ (bA w (ze #[M O 2,M O a,.string x,.string y,zc J,U Y nL T,U W nP S,U Z nB V,M O R,M O Q,M O P,.string N,U q q1 L] 51))).mono ?_;rintro e w1 ⟨rfl,C⟩;have ae:Hx (Ov w w1):=Ab (bA w (ze #[M O 2,M O a,.string x,.string y,zc J,U Y nL T,U W nP S,U Z nB V,M O R,M O Q,M O P,.string N,U q q1 L] 51)) C;have G:Hx (Ae [M O 2,M O a,.string x,.string y,zc J,U Y nL T,U W nP S,U Z nB V,M O R,M O Q,M O P,.string N,U q q1 L] w1 w.heap.size):=Ae.over (AW w [M O 2,M O a,.string x,.string y,zc J,U Y nL T,U W nP S,U Z nB V,M O R,M O Q,M O P,.string N,U q q1 L] 51) C;clear C  KN
  cases qn with
  | true=>
   obtain ⟨A,v,u,n,m,l,k,j,i,g,f,c,b⟩:=Ap G.o;go_wp2_with fail;refine (KY.o _ (ae.o)).mono ?_;rintro e w2 ⟨rfl,C⟩;have ad:Hx (Ov w w2):=Ab (ae.o) C;have F:Hx (Ae [M O 2,M O a,.string x,.string y,zc J,U Y nL T,U W nP S,U Z nB V,M O R,M O Q,M O P,.string N,U q q1 L] w2 w.heap.size):=G.o.over C;clear C A v u n m l k j i g f c b KY
   cases qy with
   | true=>
    obtain ⟨A,v,u,n,m,l,k,j,i,g,f,c,b⟩:=Ap F.o;go_wp2_with fail;refine (KL.o _ (ad.o)).mono ?_;rintro e w3 ⟨rfl,C⟩;have ac:Hx (Ov w w3):=Ab (ad.o) C;have E:Hx (Ae [M O 2,M O a,.string x,.string y,zc J,U Y nL T,U W nP S,U Z nB V,M O R,M O Q,M O P,.string N,U q q1 L] w3 w.heap.size):=F.o.over C;clear C A v u n m l k j i g f c b KL
    cases ql with
    | true=>
     obtain ⟨A,v,u,n,m,l,k,j,i,g,f,c,b⟩:=Ap E.o;go_wp2_with fail;refine (KF.o _ (ac.o)).mono ?_;rintro e w4 ⟨rfl,C⟩;have aq:Hx (Ov w w4):=Ab (ac.o) C;have ab:Hx (Ae [M O 2,M O a,.string x,.string y,zc J,U Y nL T,U W nP S,U Z nB V,M O R,M O Q,M O P,.string N,U q q1 L] w4 w.heap.size):=E.o.over C;clear C A v u n m l k j i g f c b KF;have K:Hx (fin=qf):=by have h:=HF.o;simp at h;exact h
     obtain ⟨A,v,u,n,m,l,k,j,i,g,f,c,b⟩:=Ap ab.o;go_wp2_with fail;go_ret;exact ⟨by rw [K.o];(first | rfl | (simp;done) | (simp;assumption) | (simp;omega)),aq.o⟩
    | false=>
     have K:Hx (fin=false):=by have h:=HF.o;simp at h;exact h
     obtain ⟨A,v,u,n,m,l,k,j,i,g,f,c,b⟩:=Ap E.o;go_wp2_with fail;go_ret;exact ⟨by rw [K.o];(first | rfl | (simp;done) | (simp;assumption) | (simp;omega)),ac.o⟩
   | false=>
    have K:Hx (fin=false):=by have h:=HF.o;simp at h;exact h
    obtain ⟨A,v,u,n,m,l,k,j,i,g,f,c,b⟩:=Ap F.o;go_wp2_with fail;go_ret;exact ⟨by rw [K.o];(first | rfl | (simp;done) | (simp;assumption) | (simp;omega)),ad.o⟩
  | false=>
   have K:Hx (fin=false):=by have h:=HF.o;simp at h;exact h
   obtain ⟨A,v,u,n,m,l,k,j,i,g,f,c,b⟩:=Ap G.o;go_wp2_with fail;go_ret;exact ⟨by rw [K.o];(first | rfl | (simp;done) | (simp;assumption) | (simp;omega)),ae.o⟩
 ·obtain ⟨qy,aa⟩:=nm (nfS y.data.toList false)
  have HF:Hx (fin=(qn && qy && ql && qf)):=by show _=_;rw [B,aa,decide_eq_false h2];simp
  have KY:Hx (∀ X,Ov w X->Ro 66 #[.string y,zc false] X (zc qy)):=fun X _=>by rw [aa];exact BC y false X hy
  have b2:(I == 2)=false:=by simpa using h2
  clear B aa hy h2;go_enter Tryz.func34,Tryz.ntmps34;go_wp2_with fail;refine (KN.o _ (bA w (ze #[M O I,M O a,.string x,.string y,zc J,U Y nL T,U W nP S,U Z nB V,M O R,M O Q,M O P,.string N,U q q1 L] 51))).mono ?_;rintro e w1 ⟨rfl,C⟩;have ae:Hx (Ov w w1):=Ab (bA w (ze #[M O I,M O a,.string x,.string y,zc J,U Y nL T,U W nP S,U Z nB V,M O R,M O Q,M O P,.string N,U q q1 L] 51)) C;have G:Hx (Ae [M O I,M O a,.string x,.string y,zc J,U Y nL T,U W nP S,U Z nB V,M O R,M O Q,M O P,.string N,U q q1 L] w1 w.heap.size):=Ae.over (AW w [M O I,M O a,.string x,.string y,zc J,U Y nL T,U W nP S,U Z nB V,M O R,M O Q,M O P,.string N,U q q1 L] 51) C;clear C  KN
  cases qn with
  | true=>
   obtain ⟨A,v,u,n,m,l,k,j,i,g,f,c,b⟩:=Ap G.o;go_wp2_with fail;refine (KY.o _ (ae.o)).mono ?_;rintro e w2 ⟨rfl,C⟩;have ad:Hx (Ov w w2):=Ab (ae.o) C;have F:Hx (Ae [M O I,M O a,.string x,.string y,zc J,U Y nL T,U W nP S,U Z nB V,M O R,M O Q,M O P,.string N,U q q1 L] w2 w.heap.size):=G.o.over C;clear C A v u n m l k j i g f c b KY
   cases qy with
   | true=>
    obtain ⟨A,v,u,n,m,l,k,j,i,g,f,c,b⟩:=Ap F.o;go_wp2_with fail;refine (KL.o _ (ad.o)).mono ?_;rintro e w3 ⟨rfl,C⟩;have ac:Hx (Ov w w3):=Ab (ad.o) C;have E:Hx (Ae [M O I,M O a,.string x,.string y,zc J,U Y nL T,U W nP S,U Z nB V,M O R,M O Q,M O P,.string N,U q q1 L] w3 w.heap.size):=F.o.over C;clear C A v u n m l k j i g f c b KL
    cases ql with
    | true=>
     obtain ⟨A,v,u,n,m,l,k,j,i,g,f,c,b⟩:=Ap E.o;go_wp2_with fail;refine (KF.o _ (ac.o)).mono ?_;rintro e w4 ⟨rfl,C⟩;have aq:Hx (Ov w w4):=Ab (ac.o) C;have ab:Hx (Ae [M O I,M O a,.string x,.string y,zc J,U Y nL T,U W nP S,U Z nB V,M O R,M O Q,M O P,.string N,U q q1 L] w4 w.heap.size):=E.o.over C;clear C A v u n m l k j i g f c b KF;have K:Hx (fin=qf):=by have h:=HF.o;simp at h;exact h
     obtain ⟨A,v,u,n,m,l,k,j,i,g,f,c,b⟩:=Ap ab.o;go_wp2_with fail;go_ret;exact ⟨by rw [K.o];(first | rfl | (simp;done) | (simp;assumption) | (simp;omega)),aq.o⟩
    | false=>
     have K:Hx (fin=false):=by have h:=HF.o;simp at h;exact h
     obtain ⟨A,v,u,n,m,l,k,j,i,g,f,c,b⟩:=Ap E.o;go_wp2_with fail;go_ret;exact ⟨by rw [K.o];(first | rfl | (simp;done) | (simp;assumption) | (simp;omega)),ac.o⟩
   | false=>
    have K:Hx (fin=false):=by have h:=HF.o;simp at h;exact h
    obtain ⟨A,v,u,n,m,l,k,j,i,g,f,c,b⟩:=Ap F.o;go_wp2_with fail;go_ret;exact ⟨by rw [K.o];(first | rfl | (simp;done) | (simp;assumption) | (simp;omega)),ad.o⟩
  | false=>
   have K:Hx (fin=false):=by have h:=HF.o;simp at h;exact h
   obtain ⟨A,v,u,n,m,l,k,j,i,g,f,c,b⟩:=Ap G.o;go_wp2_with fail;go_ret;exact ⟨by rw [K.o];(first | rfl | (simp;done) | (simp;assumption) | (simp;omega)),ae.o⟩
end Go.Proofs.YtipngnjffjajpaaGreatDoor.Tx
