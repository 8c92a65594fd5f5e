/- Package tree's Check: too many commands; Check of any tree. -/
import Derived.Test.YtipngnjffjajpaaGreatDoorH40
set_option linter.unusedVariables false
set_option maxHeartbeats 8000000
set_option maxRecDepth 100000
namespace Go.Proofs.YtipngnjffjajpaaGreatDoor.Tx
open Go.RowKit
open Go.Value renaming int -> M, slice -> U, bool -> zc, pointer -> zd, agg -> zf, tuple -> zh
open Go.IntKind renaming i64 -> O
open Go.Obj renaming cells -> ze
open Go.Ending renaming returned -> zg
theorem Ix (ke k:Nat) (l:List D) (deep left:Int) (h1:-1<=left) (h2:left<=50):-1<=slK ke k l deep left/\slK ke k l deep left<=50:=by
 have h:=ER ke k l deep left h1 h2;have b:=Dl ke k l deep;rw [h];split <;> omega
theorem Lb (ke:Nat) (rec:List D->Int->Int) (deep t:Int) (s:D):slF ke rec deep (t,false) s=if t - 1 < 0\/6 < deep\/DF ke s=true then (-1,true) else (rec (gL 7 s) (rec (gL 6 s) (t - 1)),false):=by
 unfold slF;rw [if_neg (by simp)]
theorem Eu (ke:Nat) (rec:List D->Int->Int) (deep:Int):∀ (l:List D),(l.foldl (slF ke rec deep) (-1,true)).1=-1
 | []=>rfl
 | a::l=>by
  rw [List.foldl_cons];have:slF ke rec deep (-1,true) a=(-1,true):=by unfold slF;rw [if_pos rfl]
  rw [this];exact Eu ke rec deep l
theorem F5 (ao:Option Addr) (cap:Nat) (w:World) (deep left:Int):Ro 64 #[U ao 0 cap,M O deep,M O left] w (M O left):=by
 go_enter Tryz.func64,Tryz.ntmps64;go_wp2_with fail;go_loopw [2,11] (fun c i wr=>c=M O left/\i=M O 0/\wr=w) (fun _ _ _=>0)
 case atStart=>exact ⟨rfl,rfl,rfl⟩
 case round=>
  obtain ⟨rfl,rfl,rfl⟩:=hrel;go_wp2_with fail;go_ret;exact ⟨rfl,Below.refl _ _⟩
theorem Fg (ke:Nat):∀ (k:Nat) (l:List D) (ao:Option Addr) (cap:Nat) (w:World) (deep left:Int),LS 12 (ZC w ke k) w (U ao l.length cap) l->1<=deep->deep<=7->-1<=left->left<=50->Ro 64 #[U ao l.length cap,M O deep,M O left] w (M O (slK ke k l deep left)):=by
 intro k
 induction k with
 | zero=>
  intro l ao cap w deep left h _ _ _ _;have hl:l=[]:=by
   cases l with
   | nil=>rfl
   | cons a l=>
    obtain ⟨b,ac,-,cs,-,-,hr⟩:=h.at (j:=0) (by simp);exact hr.elim
  subst hl;exact F5 ao cap w deep left
 | succ k ih=>
  intro l ao cap w deep left hc g1 g2 g3 g4;have HC:=Aa hc;have IH:=Aa ih;have HL:=hc.max;obtain ⟨fin,v⟩:=nm (l.foldl (slF ke (fun l left=>slK ke k l (deep+1) left) deep) (left,false)).1;have r:slK ke (k+1) l deep left=fin:=by rw [v];rfl
  rw [r];have HF:=Aa v;obtain ⟨nn,P⟩:=nm l.length;rw [<-P] at HL ⊢;have HN:=Aa P;clear hc ih r v P;go_enter Tryz.func64,Tryz.ntmps64;go_wp2_with fail;go_loopw [2,11] (fun c i wr=>∃ (j:Nat) (t:Int),j<=nn/\i=M O j/\c=M O t/\-1<=t/\t<=50/\((l.drop j).foldl (slF ke (fun l left=>slK ke k l (deep+1) left) deep) (t,false)).1=fin/\Ov w wr) (fun _ i _=>nn - (intOf i).toNat)
  case atStart=>exact ⟨0,left,Nat.zero_le _,rfl,rfl,g3,g4,HF.o.symm,Below.refl _ _⟩
  case round=>
   obtain ⟨j,t,hj,rfl,rfl,t1,t2,g,m⟩:=hrel;by_cases hjl:j < nn
   ·have u:j < l.length:=by have:=HN.o;omega
    obtain ⟨b,ac,rfl,cs,ae,f,hr⟩:=HC.o.at u;rw [DB u] at g;generalize l[j]=dj at g hr;have R:Hx (∀ X,Ov wr X->Ro 107 #[.agg cs.toArray] X (zc (DF ke dj))):=fun X C=>Ma ke (k+1) cs dj X ((hr.over m).over C);obtain ⟨kd,a,x,y,e0,e1,e2,e3,q,q1,q2,e,aA,cA,A,Z,W,H,aE,Y,I,rfl,rfl,-,-,-,-,hT,hE⟩:=id hr;rw [Lb] at g;simp only [gSs] at g;have Q:Hx (∀ X (t:Int),Ov wr X->deep<=6->-1<=t->t<=50->Ro 64 #[U Z H.length W,M O (deep+1),M O t] X (M O (slK ke k H (deep+1) t))):=fun X t C h6 h1 h2=>IH.o H Z W X (deep+1) t (Ay C (Ay m hT)) (by omega) (by omega) h1 h2;have S:Hx (∀ X (t:Int),Ov wr X->deep<=6->-1<=t->t<=50->Ro 64 #[U aE I.length Y,M O (deep+1),M O t] X (M O (slK ke k I (deep+1) t))):=fun X t C h6 h1 h2=>IH.o I aE Y X (deep+1) t (Ay C (Ay m hE)) (by omega) (by omega) h1 h2;obtain ⟨qm,ad⟩:=nm (DF ke (stD kd a x y e A H I));rw [<-ad] at g R;have d0:wr.cell? ⟨b,ac+j*12,none⟩=_:=ce1 m (f 0 _ rfl);have d1:=ce1 m (f 1 _ rfl);have d2:=ce1 m (f 2 _ rfl);have d3:=ce1 m (f 3 _ rfl);have d4:=ce1 m (f 4 _ rfl);have d5:=ce1 m (f 5 _ rfl);have d6:=ce1 m (f 6 _ rfl);have d7:=ce1 m (f 7 _ rfl);have d8:=ce1 m (f 8 _ rfl);have d9:=ce1 m (f 9 _ rfl);have F:=ce1 m (f 10 _ rfl);have E:=ce1 m (f 11 _ rfl);have HB:=Aa m;have bz:(j:Int) < (nn:Int):=by omega
    have KM:Hx (∀ X,Ov wr X->Ro 107 #[zf #[M O kd,M O a,.string x,.string y,M O e0,M O e1,M O e2,.string e3,U q q1 q2,U aA A.length cA,U Z H.length W,U aE I.length Y]] X (zc qm)):=R;clear f ae hr m u hT hE ad R;generalize A.length=nA at KM d0 d1 d2 d3 d4 d5 d6 d7 d8 d9 F E;generalize H.length=nT at KM Q d0 d1 d2 d3 d4 d5 d6 d7 d8 d9 F E;generalize I.length=nE at KM S d0 d1 d2 d3 d4 d5 d6 d7 d8 d9 F E;by_cases ht0:t - 1 < 0
    ·rw [if_pos (Or.inl ht0)] at g
     have n:=Aa (g.symm.trans (Eu ke _ deep _));clear g;go_wp2_with fail;go_ret;exact ⟨by rw [n.o];rfl,Ab HB.o (bA _ _)⟩
    by_cases h6:6 < deep
    ·rw [if_pos (Or.inr (Or.inl h6))] at g
     have n:=Aa (g.symm.trans (Eu ke _ deep _));clear g;go_wp2_with fail;go_ret;exact ⟨by rw [n.o];rfl,Ab HB.o (bA _ _)⟩
    have n:=Aa g;clear g;go_wp2_with fail;refine (KM.o _ (bA _ _)).mono ?_;rintro e w1 ⟨rfl,B⟩;have G:Hx (Ov wr w1):=Ab (bA _ _) B;have T:Hx (Ae [M O kd,M O a,.string x,.string y,M O e0,M O e1,M O e2,.string e3,U q q1 q2,U aA nA cA,U Z nT W,U aE nE Y] w1 wr.heap.size):=Ae.over (AW wr [M O kd,M O a,.string x,.string y,M O e0,M O e1,M O e2,.string e3,U q q1 q2,U aA nA cA,U Z nT W,U aE nE Y] 55) B;clear B d0 d1 d2 d3 d4 d5 d6 d7 d8 d9 F E KM
    cases qm with
    | true=>
     have g:=n.o;rw [if_pos (Or.inr (Or.inr rfl))] at g;replace n:=Aa (g.symm.trans (Eu ke _ deep _));clear g;go_wp2_with fail;go_ret;exact ⟨by rw [n.o];rfl,Ab HB.o G.o⟩
    | false=>
     have g:=n.o;rw [if_neg (by rintro (h | h | h) <;> first | omega | cases h)] at g
     obtain ⟨r1,N⟩:=nm (slK ke k H (deep+1) (t - 1));have a9:=Ix ke k H (deep+1) (t - 1) (by omega) (by omega);rw [<-N] at g a9;obtain ⟨r2,L⟩:=nm (slK ke k I (deep+1) r1);have a8:=Ix ke k I (deep+1) r1 (by omega) (by omega);rw [<-L] at g a8;have KT:Hx (∀ X,Ov wr X->Ro 64 #[U Z nT W,M O (deep+1),M O (t - 1)] X (M O r1)):=fun X C=>by rw [N];exact Q.o X (t - 1) C (by omega) (by omega) (by omega)
     have KE:Hx (∀ X,Ov wr X->Ro 64 #[U aE nE Y,M O (deep+1),M O r1] X (M O r2)):=fun X C=>by rw [L];exact S.o X r1 C (by omega) (by omega) (by omega)
     replace n:=Aa g;clear g N L Q S;obtain ⟨m0,m1,m2,m3,m4,m5,m6,m7,m8,m9,K,J⟩:=AC T.o;go_wp2_with fail;refine (KT.o _ G.o).mono ?_;rintro e w2 ⟨rfl,B⟩;have V:Hx (Ov wr w2):=Ab G.o B;have ag:=Aa (T.o.over B);clear B m0 m1 m2 m3 m4 m5 m6 m7 m8 m9 K J KT T G;obtain ⟨m0,m1,m2,m3,m4,m5,m6,m7,m8,m9,K,J⟩:=AC ag.o;go_wp2_with fail;refine (KE.o _ V.o).mono ?_;rintro e w3 ⟨rfl,B⟩;have bk:Hx (Ov w w3):=Ab HB.o (Ab V.o B);clear B m0 m1 m2 m3 m4 m5 m6 m7 m8 m9 K J KE ag V;go_wp2_with fail;exact ⟨⟨j+1,r2,by omega,by go_num,rfl,by omega,by omega,n.o,bk.o⟩,by simp [intOf];omega⟩
   ·have hd:l.drop j=[]:=List.drop_eq_nil_of_le (by have:=HN.o;omega)
    rw [hd] at g;have n:=Aa g;have HB:=Aa m;clear g m hd;go_wp2_with fail;go_ret;exact ⟨by rw [<-n.o];rfl,HB.o⟩
theorem JD (ke kc:Nat) (ds l:List D) (v:Value) (w:World) (h:ZT w ke kc v ds l):Ro 32 #[v] w (zc (Eg ke kc ds l)):=by
 obtain ⟨ao,c,T,S,rfl,hD,hM⟩:=h;obtain ⟨fin,k⟩:=nm (Eg ke kc ds l);rw [<-k];unfold Eg at k;have HD:=Aa hD;have HL:=hD.max;have P:Hx (∀ X (t:Int),Ov w X->-1<=t->t<=50->Ro 64 #[U T l.length S,M O 1,M O t] X (M O (slK ke kc l 1 t))):=fun X t L h1 h2=>Fg ke kc l T S X 1 t (Ay L hM) (by omega) (by omega) h1 h2;obtain ⟨C,K⟩:=nm ds.length;rw [<-K] at HL k ⊢;have HN:=Aa K;clear hD hM K;generalize l.length=nl at P ⊢;obtain ⟨V,hV⟩:=nm (w.alloc (ze #[U ao C c,U T nl S] 25));have B:Hx (Ov w V):=by show Ov _ _;rw [hV];exact bA _ _
 have bj:Hx (Ae [U ao C c,U T nl S] V w.heap.size):=by show Ae _ _ _;rw [hV];exact AW w [U ao C c,U T nl S] 25
 by_cases h30:30 < C
 ·have hi:(30:Int) < (C:Int):=by omega
  have HV:Hx (fin=true):=by show _=_;rw [k];simp [h30]
  clear k;go_enter Tryz.func32,Tryz.ntmps32;go_wp2_with fail;go_ret;exact ⟨by rw [HV.o];rfl,by rw [<-hV];exact B.o⟩
 rw [decide_eq_false h30,Bool.false_or] at k;have HF:=Aa k;have hi:¬ (30:Int) < (C:Int):=by omega
 clear k;go_enter Tryz.func32,Tryz.ntmps32;go_wp2_with fail;rw [<-hV];clear hV;go_loopw [3,13] (fun c i wr=>∃ (j:Nat) (t:Int),j<=C/\i=M O j/\c=M O t/\-1<=t/\t<=50/\((ds.drop j).any (DV ke) || decide (slK ke kc l 1 ((ds.drop j).foldl (fun left d=>slK ke kc (gL 7 d) 1 left) t) < 0))=fin/\Ov V wr) (fun _ i _=>C - (intOf i).toNat)
 case atStart=>exact ⟨0,50,Nat.zero_le _,rfl,rfl,by omega,by omega,HF.o.symm,Below.refl _ _⟩
 case round=>
  obtain ⟨j,t,hj,rfl,rfl,t1,t2,u,R⟩:=hrel;by_cases hjl:j < C
  ·have A:j < ds.length:=by have:=HN.o;omega
   obtain ⟨b,az,rfl,cs,Z,g,hr⟩:=HD.o.at A;rw [List.drop_eq_getElem_cons A,List.any_cons,List.foldl_cons] at u;generalize ds[j]=dj at u hr;have f:Ov w wr:=Ab B.o R;have N:Hx (∀ X,Ov wr X->Ro 63 #[.agg cs.toArray] X (zc (DV ke dj))):=fun X L=>Mb ke kc cs dj X ((hr.over f).over L);obtain ⟨kd,a,x,y,gv,aL,cL,lb,aP,cP,ps,aB,cB,m,e0,e1,e2,e3,q,q1,q2,r,rfl,rfl,-,-,-,-,ab,-⟩:=id hr;simp only [gDd] at u;obtain ⟨r1,n⟩:=nm (slK ke kc m 1 t);have a7:=Ix ke kc m 1 t (by omega) (by omega);rw [<-n] at u a7;have KB:Hx (∀ X,Ov wr X->Ro 64 #[U aB m.length cB,M O 1,M O t] X (M O r1)):=fun X L=>by rw [n];exact Fg ke kc m aB cB X 1 t (Ay L (Ay f ab)) (by omega) (by omega) t1 t2
   obtain ⟨qm,Y⟩:=nm (DV ke (deD kd a x y gv lb ps m r));rw [<-Y] at u N;have d0:wr.cell? ⟨b,az+j*13,none⟩=_:=ce1 f (g 0 _ rfl);have d1:=ce1 f (g 1 _ rfl);have d2:=ce1 f (g 2 _ rfl);have d3:=ce1 f (g 3 _ rfl);have d4:=ce1 f (g 4 _ rfl);have d5:=ce1 f (g 5 _ rfl);have d6:=ce1 f (g 6 _ rfl);have d7:=ce1 f (g 7 _ rfl);have d8:=ce1 f (g 8 _ rfl);have d9:=ce1 f (g 9 _ rfl);have H:=ce1 f (g 10 _ rfl);have G:=ce1 f (g 11 _ rfl);have F:=ce1 f (g 12 _ rfl);have W:=Aa R;have b2:(j:Int) < (C:Int):=by omega
   have J:Hx (∀ X,Ov wr X->Ro 63 #[zf #[M O kd,M O a,.string x,.string y,zc gv,U aL lb.length cL,U aP ps.length cP,U aB m.length cB,M O e0,M O e1,M O e2,.string e3,U q q1 q2]] X (zc qm)):=N;have HP:=Aa u;clear g Z hr R A ab Y N f n u;generalize lb.length=nL at J d0 d1 d2 d3 d4 d5 d6 d7 d8 d9 H G F;generalize ps.length=nP at J d0 d1 d2 d3 d4 d5 d6 d7 d8 d9 H G F;generalize m.length=nB at J KB d0 d1 d2 d3 d4 d5 d6 d7 d8 d9 H G F;go_wp2_with fail;refine (J.o _ (bA _ _)).mono ?_;rintro e w1 ⟨rfl,E⟩;have I:Hx (Ov wr w1):=Ab (bA _ _) E;have af:Hx (Ae [M O kd,M O a,.string x,.string y,zc gv,U aL nL cL,U aP nP cP,U aB nB cB,M O e0,M O e1,M O e2,.string e3,U q q1 q2] w1 wr.heap.size):=Ae.over (AW wr [M O kd,M O a,.string x,.string y,zc gv,U aL nL cL,U aP nP cP,U aB nB cB,M O e0,M O e1,M O e2,.string e3,U q q1 q2] 51) E;clear E d0 d1 d2 d3 d4 d5 d6 d7 d8 d9 H G F J
   cases qm with
   | true=>
    have HV:Hx (fin=true):=by have h:=HP.o;simp at h;exact h
    go_wp2_with fail;go_ret;exact ⟨by rw [HV.o];rfl,Ab B.o (Ab W.o I.o)⟩
   | false=>
    have u:=HP.o;rw [Bool.false_or] at u;replace HP:=Aa u;clear u;obtain ⟨m0,m1,m2,m3,m4,m5,m6,m7,m8,m9,a3,a1,a0⟩:=Ap af.o;go_wp2_with fail;refine (KB.o _ I.o).mono ?_;rintro e w2 ⟨rfl,E⟩;have Q:Hx (Ov V w2):=Ab W.o (Ab I.o E);clear E m0 m1 m2 m3 m4 m5 m6 m7 m8 m9 a3 a1 a0 KB af I;go_wp2_with fail;exact ⟨⟨j+1,r1,by omega,by go_num,rfl,by omega,by omega,HP.o,Q.o⟩,by simp [intOf];omega⟩
  ·have hd:ds.drop j=[]:=List.drop_eq_nil_of_le (by have:=HN.o;omega)
   rw [hd] at u;obtain ⟨r1,n⟩:=nm (slK ke kc l 1 t);have J:Hx (∀ X,Ov w X->Ro 64 #[U T nl S,M O 1,M O t] X (M O r1)):=fun X L=>by rw [n];exact P.o X t L t1 t2
   have HV:Hx (fin=decide (r1 < 0)):=by show _=_;rw [<-u,n];rfl
   have W:=Aa R;obtain ⟨m0,m1⟩:=rc2 (bj.o.over R);clear u hd n R P;go_wp2_with fail;refine (J.o _ (Ab B.o W.o)).mono ?_;rintro e w2 ⟨rfl,E⟩;have Q:Hx (Ov w w2):=Ab B.o (Ab W.o E);clear E m0 m1 J W;go_wp2_with fail;go_ret;exact ⟨by rw [HV.o];rfl,Q.o⟩
theorem Jv (ke kc:Nat) (ds l:List D) (v:Value) (w:World) (h:ZT w ke kc v ds l):Ro 14 #[v] w (M O (ckT ke kc ds l)):=by
 have G:Hx (∀ X,Ov w X->Ro 32 #[v] X (zc (Eg ke kc ds l))):=fun X E=>JD ke kc ds l v X (h.over E);obtain ⟨n,c,r,m,rfl,Y,W⟩:=h;obtain ⟨fin,f⟩:=nm (ckT ke kc ds l);rw [<-f];unfold ckT at f;obtain ⟨S,u⟩:=nm (Eg ke kc ds l);obtain ⟨V,y⟩:=nm (ds.all (dfK ke kc));obtain ⟨T,x⟩:=nm (l.all (sfK ke kc));rw [<-u,<-y,<-x] at f;have J:=Aa f;have I:Hx (∀ X,Ov w X->Ro 32 #[zf #[U n ds.length c,U r l.length m]] X (zc S)):=by rw [u];exact G
 have N:Hx (∀ X,Ov w X->Ro 33 #[U n ds.length c,.func (.func 34) #[] #[]] X (zc V)):=fun X E=>by rw [y];exact M0 34 (fun F w=>by simp [go_sem]) (dfK ke kc) ds n c X (fun K d X _ h=>I2 ke kc K d X h) (LC E Y)
 have L:Hx (∀ X,Ov w X->Ro 35 #[U r l.length m,.func (.func 36) #[] #[]] X (zc T)):=fun X E=>by rw [x];exact I9 36 (fun F w=>by simp [go_sem]) (sfK ke kc) l r m X (fun K d X _ h=>FC ke kc K d X h) (Ay E W)
 clear f u y x Y W G;generalize ds.length=nd at I N ⊢;generalize l.length=nl at I L ⊢;go_enter Tryz.func14,Tryz.ntmps14;go_wp2_with fail;refine (I.o _ (bA w (ze #[U n nd c,U r nl m] 25))).mono ?_;rintro e R ⟨rfl,j⟩;have C:Hx (Ov w R):=Ab (bA w (ze #[U n nd c,U r nl m] 25)) j;have i:Hx (Ae [U n nd c,U r nl m] R w.heap.size):=Ae.over (AW w [U n nd c,U r nl m] 25) j;clear j  I
 cases S with
 | true=>
  have A:Hx (fin=2):=by have h:=J.o;simp at h;exact h
  obtain ⟨b,a⟩:=rc2 i.o;go_wp2_with fail;go_ret;exact ⟨by rw [A.o];rfl,C.o⟩
 | false=>
  obtain ⟨b,a⟩:=rc2 i.o;go_wp2_with fail;refine (N.o _ (C.o)).mono ?_;rintro e Q ⟨rfl,j⟩;have B:Hx (Ov w Q):=Ab (C.o) j;have g:Hx (Ae [U n nd c,U r nl m] Q w.heap.size):=i.o.over j;clear j b a N
  cases V with
  | true=>
   obtain ⟨b,a⟩:=rc2 g.o;go_wp2_with fail;refine (L.o _ (B.o)).mono ?_;rintro e P ⟨rfl,j⟩;have H:Hx (Ov w P):=Ab (B.o) j;have k:Hx (Ae [U n nd c,U r nl m] P w.heap.size):=g.o.over j;clear j b a L
   cases T with
   | true=>
    have A:Hx (fin=0):=by have h:=J.o;simp at h;exact h
    obtain ⟨b,a⟩:=rc2 k.o;go_wp2_with fail;go_ret;exact ⟨by rw [A.o];rfl,H.o⟩
   | false=>
    have A:Hx (fin=1):=by have h:=J.o;simp at h;exact h
    obtain ⟨b,a⟩:=rc2 k.o;go_wp2_with fail;go_ret;exact ⟨by rw [A.o];rfl,H.o⟩
  | false=>
   have A:Hx (fin=1):=by have h:=J.o;simp at h;exact h
   obtain ⟨b,a⟩:=rc2 g.o;go_wp2_with fail;go_ret;exact ⟨by rw [A.o];rfl,B.o⟩
end Go.Proofs.YtipngnjffjajpaaGreatDoor.Tx
