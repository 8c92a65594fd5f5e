/- Package tree's Check: too many commands; Check of any tree. -/
import Derived.Test.YtipngnjffjajpaaGreatDoorJ17
set_option linter.unusedVariables false
set_option maxHeartbeats 8000000
set_option maxRecDepth 100000
namespace Go.Proofs.YtipngnjffjajpaaGreatDoor.Tx
open Go.RowKit
open Go.Value renaming int -> I, slice -> zc, bool -> zd, pointer -> zf, agg -> zg, tuple -> zi
open Go.IntKind renaming i64 -> O
open Go.Obj renaming cells -> ze
open Go.Ending renaming returned -> zh
theorem Kj (ke k:Nat) (l:List D) (deep left:Int) (h1:-1<=left) (h2:left<=50):-1<=slK ke k l deep left/\slK ke k l deep left<=50:=by
 have h:=Ej ke k l deep left h1 h2;have b:=C4 ke k l deep;rw [h];split <;> omega
theorem M6 (ke:Nat) (rec:List D->Int->Int) (deep t:Int) (s:D):slF ke rec deep (t,false) s=if t - 1 < 0\/6 < deep\/B7 ke s=true then (-1,true) else (rec (gL 7 s) (rec (gL 6 s) (t - 1)),false):=by
 unfold slF;rw [if_neg (by simp)]
theorem Ff (ke:Nat) (rec:List D->Int->Int) (deep:Int):∀ (l:List D),(l.foldl (slF ke rec deep) (-1,true)).1=-1
 | []=>rfl
 | a::l=>by
  rw [List.foldl_cons];have:slF ke rec deep (-1,true) a=(-1,true):=by unfold slF;rw [if_pos rfl]
  rw [this];exact Ff ke rec deep l
theorem G9 (ao:Option Addr) (cap:Nat) (w:World) (deep left:Int):Ro 64 #[zc ao 0 cap,I O deep,I O left] w (I O left):=by
 go_enter Tryz.func64,Tryz.ntmps64;go_wp2_with fail;go_loopw [2,11] (fun c i wr=>c=I O left/\i=I O 0/\wr=w) (fun _ _ _=>0)
 case atStart=>exact ⟨rfl,rfl,rfl⟩
 case round=>
  obtain ⟨rfl,rfl,rfl⟩:=hrel;go_wp2_with fail;go_ret;exact ⟨rfl,Below.refl _ _⟩
theorem F1 (ke:Nat):∀ (k:Nat) (l:List D) (ao:Option Addr) (cap:Nat) (w:World) (deep left:Int),LS 12 (ZC w ke k) w (zc ao l.length cap) l->1<=deep->deep<=7->-1<=left->left<=50->Ro 64 #[zc ao l.length cap,I O deep,I O left] w (I O (slK ke k l deep left)):=by
 intro k
 induction k with
 | zero=>
  intro l ao cap w deep left h _ _ _ _;have hl:l=[]:=by
   cases l with
   | nil=>rfl
   | cons a l=>
    obtain ⟨b,ac,-,cs,-,-,hr⟩:=h.at (j:=0) (by simp);exact hr.elim
  subst hl;exact G9 ao cap w deep left
 | succ k ih=>
  intro l ao cap w deep left hc g1 g2 g3 g4;have HC:=Aa hc;have IH:=Aa ih;have HL:=hc.max;obtain ⟨fin,A⟩:=nm (l.foldl (slF ke (fun l left=>slK ke k l (deep+1) left) deep) (left,false)).1;have u:slK ke (k+1) l deep left=fin:=by rw [A];rfl
  rw [u];have HF:=Aa A;obtain ⟨nn,Q⟩:=nm l.length;rw [<-Q] at HL ⊢;have HN:=Aa Q;clear hc ih u A Q;go_enter Tryz.func64,Tryz.ntmps64;go_wp2_with fail;go_loopw [2,11] (fun c i wr=>∃ (j:Nat) (t:Int),j<=nn/\i=I O j/\c=I O t/\-1<=t/\t<=50/\((l.drop j).foldl (slF ke (fun l left=>slK ke k l (deep+1) left) deep) (t,false)).1=fin/\Ov w wr) (fun _ i _=>nn - (intOf i).toNat)
  case atStart=>exact ⟨0,left,Nat.zero_le _,rfl,rfl,g3,g4,HF.o.symm,Below.refl _ _⟩
  case round=>
   obtain ⟨j,t,hj,rfl,rfl,t1,t2,g,n⟩:=hrel;by_cases hjl:j < nn
   ·have v:j < l.length:=by have:=HN.o;omega
    obtain ⟨b,ac,rfl,cs,ae,f,hr⟩:=HC.o.at v;rw [D3 v] at g;generalize l[j]=dj at g hr;have S:Hx (∀ X,Ov wr X->Ro 107 #[.agg cs.toArray] X (zd (B7 ke dj))):=fun X E=>Pd ke (k+1) cs dj X ((hr.over n).over E);obtain ⟨kd,a,x,y,e0,e1,e2,e3,q,q1,q2,e,aA,cA,B,Z,W,J,aE,Y,K,rfl,rfl,-,-,-,-,hT,hE⟩:=id hr;rw [M6] at g;simp only [gSs] at g;have R:Hx (∀ X (t:Int),Ov wr X->deep<=6->-1<=t->t<=50->Ro 64 #[zc Z J.length W,I O (deep+1),I O t] X (I O (slK ke k J (deep+1) t))):=fun X t E h6 h1 h2=>IH.o J Z W X (deep+1) t (A6 E (A6 n hT)) (by omega) (by omega) h1 h2;have T:Hx (∀ X (t:Int),Ov wr X->deep<=6->-1<=t->t<=50->Ro 64 #[zc aE K.length Y,I O (deep+1),I O t] X (I O (slK ke k K (deep+1) t))):=fun X t E h6 h1 h2=>IH.o K aE Y X (deep+1) t (A6 E (A6 n hE)) (by omega) (by omega) h1 h2;obtain ⟨qm,ad⟩:=nm (B7 ke (stD kd a x y e B J K));rw [<-ad] at g S;have d0:wr.cell? ⟨b,ac+j*12,none⟩=_:=ce1 n (f 0 _ rfl);have d1:=ce1 n (f 1 _ rfl);have d2:=ce1 n (f 2 _ rfl);have d3:=ce1 n (f 3 _ rfl);have d4:=ce1 n (f 4 _ rfl);have d5:=ce1 n (f 5 _ rfl);have d6:=ce1 n (f 6 _ rfl);have d7:=ce1 n (f 7 _ rfl);have d8:=ce1 n (f 8 _ rfl);have d9:=ce1 n (f 9 _ rfl);have G:=ce1 n (f 10 _ rfl);have F:=ce1 n (f 11 _ rfl);have HB:=Aa n;have bw:(j:Int) < (nn:Int):=by omega
    have KM:Hx (∀ X,Ov wr X->Ro 107 #[zg #[I O kd,I O a,.string x,.string y,I O e0,I O e1,I O e2,.string e3,zc q q1 q2,zc aA B.length cA,zc Z J.length W,zc aE K.length Y]] X (zd qm)):=S;clear f ae hr n v hT hE ad S;generalize B.length=nA at KM d0 d1 d2 d3 d4 d5 d6 d7 d8 d9 G F;generalize J.length=nT at KM R d0 d1 d2 d3 d4 d5 d6 d7 d8 d9 G F;generalize K.length=nE at KM T d0 d1 d2 d3 d4 d5 d6 d7 d8 d9 G F;by_cases ht0:t - 1 < 0
    ·rw [if_pos (Or.inl ht0)] at g
     have r:=Aa (g.symm.trans (Ff ke _ deep _));clear g;go_wp2_with fail;go_ret;exact ⟨by rw [r.o];rfl,Ac HB.o (bA _ _)⟩
    by_cases h6:6 < deep
    ·rw [if_pos (Or.inr (Or.inl h6))] at g
     have r:=Aa (g.symm.trans (Ff ke _ deep _));clear g;go_wp2_with fail;go_ret;exact ⟨by rw [r.o];rfl,Ac HB.o (bA _ _)⟩
    have r:=Aa g;clear g;go_wp2_with fail;refine (KM.o _ (bA _ _)).mono ?_;rintro e w1 ⟨rfl,C⟩;have H:Hx (Ov wr w1):=Ac (bA _ _) C;have U:Hx (Af [I O kd,I O a,.string x,.string y,I O e0,I O e1,I O e2,.string e3,zc q q1 q2,zc aA nA cA,zc Z nT W,zc aE nE Y] w1 wr.heap.size):=Af.over (Ax wr [I O kd,I O a,.string x,.string y,I O e0,I O e1,I O e2,.string e3,zc q q1 q2,zc aA nA cA,zc Z nT W,zc aE nE Y] 55) C;clear C d0 d1 d2 d3 d4 d5 d6 d7 d8 d9 G F KM
    cases qm with
    | true=>
     have g:=r.o;rw [if_pos (Or.inr (Or.inr rfl))] at g;replace r:=Aa (g.symm.trans (Ff ke _ deep _));clear g;go_wp2_with fail;go_ret;exact ⟨by rw [r.o];rfl,Ac HB.o H.o⟩
    | false=>
     have g:=r.o;rw [if_neg (by rintro (h | h | h) <;> first | omega | cases h)] at g
     obtain ⟨r1,P⟩:=nm (slK ke k J (deep+1) (t - 1));have a9:=Kj ke k J (deep+1) (t - 1) (by omega) (by omega);rw [<-P] at g a9;obtain ⟨r2,N⟩:=nm (slK ke k K (deep+1) r1);have a8:=Kj ke k K (deep+1) r1 (by omega) (by omega);rw [<-N] at g a8;have KT:Hx (∀ X,Ov wr X->Ro 64 #[zc Z nT W,I O (deep+1),I O (t - 1)] X (I O r1)):=fun X E=>by rw [P];exact R.o X (t - 1) E (by omega) (by omega) (by omega)
     have KE:Hx (∀ X,Ov wr X->Ro 64 #[zc aE nE Y,I O (deep+1),I O r1] X (I O r2)):=fun X E=>by rw [N];exact T.o X r1 E (by omega) (by omega) (by omega)
     replace r:=Aa g;clear g P N R T;obtain ⟨m0,m1,m2,m3,m4,m5,m6,m7,m8,m9,M,L⟩:=AU U.o;go_wp2_with fail;refine (KT.o _ H.o).mono ?_;rintro e w2 ⟨rfl,C⟩;have V:Hx (Ov wr w2):=Ac H.o C;have ag:=Aa (U.o.over C);clear C m0 m1 m2 m3 m4 m5 m6 m7 m8 m9 M L KT U H;obtain ⟨m0,m1,m2,m3,m4,m5,m6,m7,m8,m9,M,L⟩:=AU ag.o;go_wp2_with fail;refine (KE.o _ V.o).mono ?_;rintro e w3 ⟨rfl,C⟩;have bk:Hx (Ov w w3):=Ac HB.o (Ac V.o C);clear C m0 m1 m2 m3 m4 m5 m6 m7 m8 m9 M L KE ag V;go_wp2_with fail;exact ⟨⟨j+1,r2,by omega,by go_num,rfl,by omega,by omega,r.o,bk.o⟩,by simp [intOf];omega⟩
   ·have hd:l.drop j=[]:=List.drop_eq_nil_of_le (by have:=HN.o;omega)
    rw [hd] at g;have r:=Aa g;have HB:=Aa n;clear g n hd;go_wp2_with fail;go_ret;exact ⟨by rw [<-r.o];rfl,HB.o⟩
theorem L9 (ke kc:Nat) (ds l:List D) (v:Value) (w:World) (h:ZT w ke kc v ds l):Ro 32 #[v] w (zd (C7 ke kc ds l)):=by
 obtain ⟨ao,c,W,U,rfl,hD,hM⟩:=h;obtain ⟨fin,n⟩:=nm (C7 ke kc ds l);rw [<-n];unfold C7 at n;have HD:=Aa hD;have HL:=hD.max;have R:Hx (∀ X (t:Int),Ov w X->-1<=t->t<=50->Ro 64 #[zc W l.length U,I O 1,I O t] X (I O (slK ke kc l 1 t))):=fun X t P h1 h2=>F1 ke kc l W U X 1 t (A6 P hM) (by omega) (by omega) h1 h2;obtain ⟨F,N⟩:=nm ds.length;rw [<-N] at HL n ⊢;have HN:=Aa N;clear hD hM N;generalize l.length=nl at R ⊢;obtain ⟨V,hV⟩:=nm (w.alloc (ze #[zc ao F c,zc W nl U] 25));have E:Hx (Ov w V):=by show Ov _ _;rw [hV];exact bA _ _
 have bk:Hx (Af [zc ao F c,zc W nl U] V w.heap.size):=by show Af _ _ _;rw [hV];exact Ax w [zc ao F c,zc W nl U] 25
 by_cases h30:30 < F
 ·have hi:(30:Int) < (F:Int):=by omega
  have HV:Hx (fin=true):=by show _=_;rw [n];simp [h30]
  clear n;go_enter Tryz.func32,Tryz.ntmps32;go_wp2_with fail;go_ret;exact ⟨by rw [HV.o];rfl,by rw [<-hV];exact E.o⟩
 rw [decide_eq_false h30,Bool.false_or] at n;have HF:=Aa n;have hi:¬ (30:Int) < (F:Int):=by omega
 clear n;go_enter Tryz.func32,Tryz.ntmps32;go_wp2_with fail;rw [<-hV];clear hV;go_loopw [3,13] (fun c i wr=>∃ (j:Nat) (t:Int),j<=F/\i=I O j/\c=I O t/\-1<=t/\t<=50/\((ds.drop j).any (BH ke) || decide (slK ke kc l 1 ((ds.drop j).foldl (fun left d=>slK ke kc (gL 7 d) 1 left) t) < 0))=fin/\Ov V wr) (fun _ i _=>F - (intOf i).toNat)
 case atStart=>exact ⟨0,50,Nat.zero_le _,rfl,rfl,by omega,by omega,HF.o.symm,Below.refl _ _⟩
 case round=>
  obtain ⟨j,t,hj,rfl,rfl,t1,t2,B,T⟩:=hrel;by_cases hjl:j < F
  ·have C:j < ds.length:=by have:=HN.o;omega
   obtain ⟨b,a0,rfl,cs,aa,g,hr⟩:=HD.o.at C;rw [List.drop_eq_getElem_cons C,List.any_cons,List.foldl_cons] at B;generalize ds[j]=dj at B hr;have f:Ov w wr:=Ac E.o T;have Q:Hx (∀ X,Ov wr X->Ro 63 #[.agg cs.toArray] X (zd (BH ke dj))):=fun X P=>Pe ke kc cs dj X ((hr.over f).over P);obtain ⟨kd,a,x,y,gv,aL,cL,lb,aP,cP,ps,aB,cB,u,e0,e1,e2,e3,q,q1,q2,r,rfl,rfl,-,-,-,-,ac,-⟩:=id hr;simp only [gDd] at B;obtain ⟨r1,A⟩:=nm (slK ke kc u 1 t);have a8:=Kj ke kc u 1 t (by omega) (by omega);rw [<-A] at B a8;have KB:Hx (∀ X,Ov wr X->Ro 64 #[zc aB u.length cB,I O 1,I O t] X (I O r1)):=fun X P=>by rw [A];exact F1 ke kc u aB cB X 1 t (A6 P (A6 f ac)) (by omega) (by omega) t1 t2
   obtain ⟨qm,Z⟩:=nm (BH ke (deD kd a x y gv lb ps u r));rw [<-Z] at B Q;have d0:wr.cell? ⟨b,a0+j*13,none⟩=_:=ce1 f (g 0 _ rfl);have d1:=ce1 f (g 1 _ rfl);have d2:=ce1 f (g 2 _ rfl);have d3:=ce1 f (g 3 _ rfl);have d4:=ce1 f (g 4 _ rfl);have d5:=ce1 f (g 5 _ rfl);have d6:=ce1 f (g 6 _ rfl);have d7:=ce1 f (g 7 _ rfl);have d8:=ce1 f (g 8 _ rfl);have d9:=ce1 f (g 9 _ rfl);have K:=ce1 f (g 10 _ rfl);have J:=ce1 f (g 11 _ rfl);have H:=ce1 f (g 12 _ rfl);have Y:=Aa T;have b3:(j:Int) < (F:Int):=by omega
   have M:Hx (∀ X,Ov wr X->Ro 63 #[zg #[I O kd,I O a,.string x,.string y,zd gv,zc aL lb.length cL,zc aP ps.length cP,zc aB u.length cB,I O e0,I O e1,I O e2,.string e3,zc q q1 q2]] X (zd qm)):=Q;have HP:=Aa B;clear g aa hr T C ac Z Q f A B;generalize lb.length=nL at M d0 d1 d2 d3 d4 d5 d6 d7 d8 d9 K J H;generalize ps.length=nP at M d0 d1 d2 d3 d4 d5 d6 d7 d8 d9 K J H;generalize u.length=nB at M KB d0 d1 d2 d3 d4 d5 d6 d7 d8 d9 K J H;go_wp2_with fail;refine (M.o _ (bA _ _)).mono ?_;rintro e w1 ⟨rfl,G⟩;have L:Hx (Ov wr w1):=Ac (bA _ _) G;have ag:Hx (Af [I O kd,I O a,.string x,.string y,zd gv,zc aL nL cL,zc aP nP cP,zc aB nB cB,I O e0,I O e1,I O e2,.string e3,zc q q1 q2] w1 wr.heap.size):=Af.over (Ax wr [I O kd,I O a,.string x,.string y,zd gv,zc aL nL cL,zc aP nP cP,zc aB nB cB,I O e0,I O e1,I O e2,.string e3,zc q q1 q2] 51) G;clear G d0 d1 d2 d3 d4 d5 d6 d7 d8 d9 K J H M
   cases qm with
   | true=>
    have HV:Hx (fin=true):=by have h:=HP.o;simp at h;exact h
    go_wp2_with fail;go_ret;exact ⟨by rw [HV.o];rfl,Ac E.o (Ac Y.o L.o)⟩
   | false=>
    have B:=HP.o;rw [Bool.false_or] at B;replace HP:=Aa B;clear B;obtain ⟨m0,m1,m2,m3,m4,m5,m6,m7,m8,m9,a4,a3,a1⟩:=AI ag.o;go_wp2_with fail;refine (KB.o _ L.o).mono ?_;rintro e w2 ⟨rfl,G⟩;have S:Hx (Ov V w2):=Ac Y.o (Ac L.o G);clear G m0 m1 m2 m3 m4 m5 m6 m7 m8 m9 a4 a3 a1 KB ag L;go_wp2_with fail;exact ⟨⟨j+1,r1,by omega,by go_num,rfl,by omega,by omega,HP.o,S.o⟩,by simp [intOf];omega⟩
  ·have hd:ds.drop j=[]:=List.drop_eq_nil_of_le (by have:=HN.o;omega)
   rw [hd] at B;obtain ⟨r1,A⟩:=nm (slK ke kc l 1 t);have M:Hx (∀ X,Ov w X->Ro 64 #[zc W nl U,I O 1,I O t] X (I O r1)):=fun X P=>by rw [A];exact R.o X t P t1 t2
   have HV:Hx (fin=decide (r1 < 0)):=by show _=_;rw [<-B,A];rfl
   have Y:=Aa T;obtain ⟨m0,m1⟩:=rc2 (bk.o.over T);clear B hd A T R;go_wp2_with fail;refine (M.o _ (Ac E.o Y.o)).mono ?_;rintro e w2 ⟨rfl,G⟩;have S:Hx (Ov w w2):=Ac E.o (Ac Y.o G);clear G m0 m1 M Y;go_wp2_with fail;go_ret;exact ⟨by rw [HV.o];rfl,S.o⟩
theorem I2 (ke kc:Nat) (ds l:List D) (v:Value) (w:World) (h:ZT w ke kc v ds l):Ro 14 #[v] w (I O (ckT ke kc ds l)):=by
 have J:Hx (∀ X,Ov w X->Ro 32 #[v] X (zd (C7 ke kc ds l))):=fun X G=>L9 ke kc ds l v X (h.over G);obtain ⟨u,c,x,r,rfl,Z,Y⟩:=h;obtain ⟨fin,f⟩:=nm (ckT ke kc ds l);rw [<-f];unfold ckT at f;obtain ⟨U,y⟩:=nm (C7 ke kc ds l);obtain ⟨W,B⟩:=nm (ds.all (dfK ke kc));obtain ⟨V,A⟩:=nm (l.all (sfK ke kc));rw [<-y,<-B,<-A] at f;have M:=Aa f;have L:Hx (∀ X,Ov w X->Ro 32 #[zg #[zc u ds.length c,zc x l.length r]] X (zd U)):=by rw [y];exact J
 have Q:Hx (∀ X,Ov w X->Ro 33 #[zc u ds.length c,.func (.func 34) #[] #[]] X (zd W)):=fun X G=>by rw [B];exact QI 34 (fun H w=>by simp [go_sem]) (dfK ke kc) ds u c X (fun N d X _ h=>Lo ke kc N d X h) (GL G Z)
 have P:Hx (∀ X,Ov w X->Ro 35 #[zc x l.length r,.func (.func 36) #[] #[]] X (zd V)):=fun X G=>by rw [A];exact Lw 36 (fun H w=>by simp [go_sem]) (sfK ke kc) l x r X (fun N d X _ h=>Gu ke kc N d X h) (A6 G Y)
 clear f y B A Z Y J;generalize ds.length=nd at L Q ⊢;generalize l.length=nl at L P ⊢;go_enter Tryz.func14,Tryz.ntmps14;go_wp2_with fail;refine (L.o _ (bA w (ze #[zc u nd c,zc x nl r] 25))).mono ?_;rintro e T ⟨rfl,j⟩;have F:Hx (Ov w T):=Ac (bA w (ze #[zc u nd c,zc x nl r] 25)) j;have i:Hx (Af [zc u nd c,zc x nl r] T w.heap.size):=Af.over (Ax w [zc u nd c,zc x nl r] 25) j;clear j  L
 cases U with
 | true=>
  have C:Hx (fin=2):=by have h:=M.o;simp at h;exact h
  obtain ⟨b,a⟩:=rc2 i.o;go_wp2_with fail;go_ret;exact ⟨by rw [C.o];rfl,F.o⟩
 | false=>
  obtain ⟨b,a⟩:=rc2 i.o;go_wp2_with fail;refine (Q.o _ (F.o)).mono ?_;rintro e S ⟨rfl,j⟩;have E:Hx (Ov w S):=Ac (F.o) j;have g:Hx (Af [zc u nd c,zc x nl r] S w.heap.size):=i.o.over j;clear j b a Q
  cases W with
  | true=>
   obtain ⟨b,a⟩:=rc2 g.o;go_wp2_with fail;refine (P.o _ (E.o)).mono ?_;rintro e R ⟨rfl,j⟩;have K:Hx (Ov w R):=Ac (E.o) j;have n:Hx (Af [zc u nd c,zc x nl r] R w.heap.size):=g.o.over j;clear j b a P
   cases V with
   | true=>
    have C:Hx (fin=0):=by have h:=M.o;simp at h;exact h
    obtain ⟨b,a⟩:=rc2 n.o;go_wp2_with fail;go_ret;exact ⟨by rw [C.o];rfl,K.o⟩
   | false=>
    have C:Hx (fin=1):=by have h:=M.o;simp at h;exact h
    obtain ⟨b,a⟩:=rc2 n.o;go_wp2_with fail;go_ret;exact ⟨by rw [C.o];rfl,K.o⟩
  | false=>
   have C:Hx (fin=1):=by have h:=M.o;simp at h;exact h
   obtain ⟨b,a⟩:=rc2 g.o;go_wp2_with fail;go_ret;exact ⟨by rw [C.o];rfl,E.o⟩
def Cz (s:ByteArray):Sum (List D × List D) (Int × Int):=
 if s.size<=6000 then
  if AZ s=0 then
   match D5 (An s) s.size with
   | .inr m=>.inr (Av (An s) s.size m,1)
   | .inl ((ds,l),_)=>if ckT 61 (2*(An s).length+3) ds l=0 then .inl (ds,l) else .inr (0,ckT 61 (2*(An s).length+3) ds l)
  else .inr ((Cf s:Int),(AZ s:Int))
 else .inr (0,2)
def FY (s:ByteArray) (r:Sum (List D × List D) (Int × Int)) (e:Ending) (w':World):Prop:=match r with
 | .inl (ds,l)=>∃ v,e=zh (zi #[v,I O 0,I O 0])/\ZT w' 61 (2*(An s).length+3) v ds l
 | .inr (p,r)=>e=zh (zi #[zg #[zc none 0 0,zc none 0 0],I O p,I O r])
def Ig (s:ByteArray) (w:World) (e:Ending) (w':World):Prop:=Ov w w'/\FY s (Cz s) e w'
theorem Hp (s:ByteArray):∀ (f:Nat) (note:Bool) (i:Nat) (ts:List Tok),Bi s f note i=.inl ts->ts.length<=s.size - i
 | 0,note,i,ts,h=>by
  have h':(Sum.inl []:Sum (List Tok) (Nat × Nat))=.inl ts:=h;injection h' with h';rw [<-h'];simp
 | f+1,note,i,ts,h=>by
  unfold Bi at h;have hge:=El note s.data.toList i;split at h
  ·split at h
   ·rename_i hlt he
    have hk:=Ca he;revert h
    cases hr:Bi s f false (Ay s (AJ note s.data.toList i)).2 with
    | inl ts'=>
     intro h;injection h with h;have:=Hp s f false _ ts' hr;rw [<-h,List.length_cons];omega
    | inr x=>intro h;cases h
   ·cases h
  ·injection h with h
   rw [<-h];simp
theorem Jl (s:ByteArray) (h:s.size<=6000):(An s).length<=6000:=by
 unfold An;split
 ·rename_i a b
  have:=Hp s _ _ _ a b;omega
 ·simp
theorem Gi (s:ByteArray) (hs:s.size<=maxLen) (w:World):Calls Tryz.prog 10 #[.string s] w (Ig s w):=by
 have bi:s.size<=9223372036854775807:=hs;obtain ⟨S,J⟩:=nm (Cz s);unfold Ig;rw [<-J];have HR:=Aa J;obtain ⟨V,hV⟩:=nm (w.alloc (ze #[zc none 0 0,zc none 0 0] 25));obtain ⟨x,L⟩:=nm w.heap.size;have a1:Hx (Ov w V):=by show Ov _ _;rw [hV];exact bA _ _
 have ab:Hx (Bx x [zc none 0 0,zc none 0 0] V):=by show Bx _ _ _;rw [hV,L];exact Bx.new w [zc none 0 0,zc none 0 0] 25
 have a0:Hx (x < V.heap.size):=ab.o.lt;have B:=Aa L;have KS:=Aa (J0 s hs V);clear J hs;go_enter Tryz.func10,Tryz.ntmps10;go_wp2_with fail;rw [<-hV,<-L];clear hV L;refine KS.o.mono ?_;rintro e w1 ⟨v,ts,p,r,rfl,A,hb,C⟩;have an:Hx (Ov w w1):=Ac a1.o hb;have K:=Aa (ab.o.over hb);have be:=hb.size;clear KS ab;obtain ⟨va,vn,vc,rfl⟩:=AP A;by_cases hgood:s.size<=6000/\AZ s=0
 ·obtain ⟨P,he⟩:=hgood
  rw [if_pos P] at C;obtain ⟨rfl,rfl,hr⟩:=C;rw [he] at hr;subst hr;have hk:=CY A;have KR:=Aa (P3 (en:=s.size) (Dn s P) w1 (I8 A (Jl s P)));have y:=Jw (An s) s.size (Dn s P)
  have f:Cz s=match D5 (An s) s.size with
   | .inr m=>.inr (Av (An s) s.size m,1)
   | .inl ((ds,l),_)=>if ckT 61 (2*(An s).length+3) ds l=0 then .inl (ds,l) else .inr (0,ckT 61 (2*(An s).length+3) ds l):=by
   unfold Cz;rw [if_pos P,if_pos he]
  have am:=Aa (HR.o.trans f);have al:=Aa y;clear A hb hk y f he;go_wp2_with fail;refine KR.o.mono ?_;rintro e G ⟨N,u⟩;have ac:Hx (Ov w G):=Ac an.o N;have ak:=Aa (K.o.over N);have a6:=N.size;have f:=am.o;have y:=al.o;clear KR am al N;revert u f y;generalize D5 (An s) s.size=pt;intro u f y;rcases pt with ⟨⟨ds,l⟩,n⟩ | m
  ·obtain ⟨a,c,R,Q,rfl,ah,ag,-,-⟩:=u
   obtain ⟨U,T⟩:=y (ds,l) n rfl;dsimp only at f U T;have hZ:∀ W:World,(∀ k,w1.heap.size<=k->k < G.heap.size->some k≠none->W.heap[k]? = G.heap[k]?)->ZT W 61 (2*(An s).length+3) (zg #[zc a ds.length c,zc R l.length Q]) ds l:=fun W hW=>⟨a,c,R,Q,rfl,(ah W hW).imp fun cs d hm hh=>hh.z (U d hm),(ag W hW).imp fun cs d hm hh=>hh.z (T d hm)⟩;have HZ:=Aa hZ;obtain ⟨ck,Y⟩:=nm (ckT 61 (2*(An s).length+3) ds l);rw [<-Y] at f;have KC:Hx (∀ X,Ov G X->Ro 14 #[zg #[zc a ds.length c,zc R l.length Q]] X (I O ck)):=fun X hX=>by
    rw [Y];exact I2 61 _ ds l _ X ((HZ.o G fun _ _ _ _=>rfl).over hX)
   have HP:=Aa f;clear f ah ag U T y hZ Y;generalize ds.length=nd at KC HZ ⊢;generalize l.length=nl at KC HZ ⊢;have aj:Hx (Bx G.heap.size [zc a nd c,zc R nl Q] (G.alloc (ze #[zc a nd c,zc R nl Q] 25))):=Bx.new G [zc a nd c,zc R nl Q] 25;go_wp2_with fail;refine (KC.o _ (bA _ _)).mono ?_;rintro e w3 ⟨rfl,M⟩;have F:Hx (Ov G w3):=Ac (bA _ _) M;have i:=Aa ((ak.o.over (bA _ _)).over M);have az:=Aa (aj.o.over M);have a5:=F.o.size;clear KC M aj;obtain ⟨t0,t1⟩:=rc2 i.o.row;have f0:=i.o.fz 0;have f1:=i.o.fz 1;obtain ⟨y0,y1⟩:=rc2 az.o.row;have bj:=a0.o;have bh:x≠G.heap.size:=by omega
   have a7:G.heap.size≠x:=by omega
   by_cases hc0:ck=0
   ·subst hc0
    go_wp2_with fail;obtain ⟨H,b⟩:=nm ((w3.setCell ⟨x,0,none⟩ (zc a nd c)).setCell ⟨x,1,none⟩ (zc R nl Q));have g:Bx x [zc a nd c,zc R nl Q] H:=by rw [b];exact (i.o.set (j:=0) (by simp)).set (j:=1) (by simp)
    have E:Ov w H:=by rw [b];exact ((Ac ac.o F.o).setCell (by have:=B.o;simp;omega) _).setCell (by have:=B.o;simp;omega) _
    have aw:=HZ.o H fun k h1 h2 _=>by
     rw [b,Below.heap_setCell _ _ _ _ (by show k≠x;omega),Below.heap_setCell _ _ _ _ (by show k≠x;omega)];exact F.o.block k h2
    rw [<-b];have d0:=g.row 0 _ rfl;have Z:=g.row 1 _ rfl;refine bodyPost_ret (v:=zi #[zg #[zc a nd c,zc R nl Q],I O 0,I O 0]) (by simp [results,Tryz.results10,go_sem,d0,Z]) rfl ⟨E,?_⟩;rw [show S=.inl (ds,l) by have h:=HP.o;simpa using h];exact ⟨_,rfl,aw⟩
   ·go_wp2_with fail
    obtain ⟨H,b⟩:=nm ((w3.setCell ⟨x,0,none⟩ (zc none 0 0)).setCell ⟨x,1,none⟩ (zc none 0 0));have g:Bx x [zc none 0 0,zc none 0 0] H:=by rw [b];exact (i.o.set (j:=0) (by simp)).set (j:=1) (by simp)
    have E:Ov w H:=by rw [b];exact ((Ac ac.o F.o).setCell (by have:=B.o;simp;omega) _).setCell (by have:=B.o;simp;omega) _
    rw [<-b];have d0:=g.row 0 _ rfl;have Z:=g.row 1 _ rfl;refine bodyPost_ret (v:=zi #[zg #[zc none 0 0,zc none 0 0],I O 0,I O ck]) (by simp [results,Tryz.results10,go_sem,d0,Z]) rfl ⟨E,?_⟩;rw [show S=.inr (0,ck) from HP.o.trans (if_neg hc0)];exact rfl
  ·obtain rfl:=u
   dsimp only at f;have HP:=Aa f;have i:Hx (Bx x [zc none 0 0,zc none 0 0] (G.alloc (ze #[zc none 0 0,zc none 0 0] 25))):=ak.o.over (bA _ _);obtain ⟨t0,t1⟩:=rc2 i.o.row;have f0:=i.o.fz 0;have f1:=i.o.fz 1;clear f y;go_wp2_with fail;obtain ⟨H,b⟩:=nm (((G.alloc (ze #[zc none 0 0,zc none 0 0] 25)).setCell ⟨x,0,none⟩ (zc none 0 0)).setCell ⟨x,1,none⟩ (zc none 0 0));have g:Bx x [zc none 0 0,zc none 0 0] H:=by rw [b];exact (i.o.set (j:=0) (by simp)).set (j:=1) (by simp)
   have E:Ov w H:=by rw [b];exact ((Ac ac.o (bA _ _)).setCell (by have:=B.o;simp;omega) _).setCell (by have:=B.o;simp;omega) _
   rw [<-b];have d0:=g.row 0 _ rfl;have Z:=g.row 1 _ rfl;refine bodyPost_ret (v:=zi #[zg #[zc none 0 0,zc none 0 0],I O (Av (An s) s.size m),I O 1]) (by simp [results,Tryz.results10,go_sem,d0,Z]) rfl ⟨E,?_⟩;rw [HP.o];exact rfl
 ·have hr:S=.inr ((p:Int),(r:Int))/\r≠0:=by
   rw [HR.o];unfold Cz;by_cases P:s.size<=6000
   ·rw [if_pos P] at C ⊢
    obtain ⟨-,rfl,rfl⟩:=C;have he:¬ AZ s=0:=fun h=>hgood ⟨P,h⟩;rw [if_neg he];exact ⟨rfl,he⟩
   ·rw [if_neg P] at C ⊢
    obtain ⟨-,rfl,rfl⟩:=C;exact ⟨rfl,by omega⟩
  obtain ⟨af,bg⟩:=hr;have HP:=Aa af;have bf:¬ (r:Int)=0:=by omega
  obtain ⟨t0,t1⟩:=rc2 K.o.row;have f0:=K.o.fz 0;have f1:=K.o.fz 1;clear A hb C af hgood;go_wp2_with fail;obtain ⟨H,b⟩:=nm ((w1.setCell ⟨x,0,none⟩ (zc none 0 0)).setCell ⟨x,1,none⟩ (zc none 0 0));have g:Bx x [zc none 0 0,zc none 0 0] H:=by rw [b];exact (K.o.set (j:=0) (by simp)).set (j:=1) (by simp)
  have E:Ov w H:=by rw [b];exact ((an.o).setCell (by have:=B.o;simp;omega) _).setCell (by have:=B.o;simp;omega) _
  rw [<-b];have d0:=g.row 0 _ rfl;have Z:=g.row 1 _ rfl;refine bodyPost_ret (v:=zi #[zg #[zc none 0 0,zc none 0 0],I O (p:Int),I O (r:Int)]) (by simp [results,Tryz.results10,go_sem,d0,Z]) rfl ⟨E,?_⟩;rw [HP.o];exact rfl
def AX:ByteArray:=⟨#[97,99,116,111,114,32,97,59,10,111,117,116,32,99,32,123,97,58,32,97,125,59,10,109,97,105,110,32,123,10,32,32,112,117,116,32,99,32,40,49,32,43,32,50,41,59,10,125,10]⟩
def Cg:List D:=[deD 1 0 ⟨#[97]⟩ noS false [] [] [] noE,deD 5 9 ⟨#[99]⟩ noS true [Dv 16 ⟨#[97]⟩ false [⟨#[97]⟩]] [] [] noE]
def Co:List D:=[stD 4 32 noS ⟨#[99]⟩ (eD 3 38 0 noS [eD 1 39 1 noS [],eD 1 43 2 noS []]) [] [] []]
theorem Jd:Cz AX=.inl (Cg,Co):=by kernel_rfl
theorem Ei:ckT 61 (2*(An AX).length+3) Cg Co=0:=by kernel_rfl
theorem QD {x y:ByteArray} (h:dS x=dS y):x=y:=by
 unfold dS at h;injection h with h;injection h with h;have:=Au h;rw [this]
theorem QE {x y:Int} (h:dI x=dI y):x=y:=by
 unfold dI at h;injection h with h;injection h with b a
theorem I6 (w:World):Ro 12 #[] w (zd true):=by
 have N:=Aa (Gi AX (by have h:AX.size=49:=rfl;rw [h];unfold maxLen;omega) w);go_enter Tryz.func12,Tryz.ntmps12;go_wp2_with fail;refine N.o.mono ?_;rintro e i ⟨r,g⟩;rw [Jd] at g;obtain ⟨v,rfl,H⟩:=g;have u:Hx (∀ X,Ov i X->Ro 14 #[v] X (I O 0)):=fun X U=>by
  have h:=I2 61 _ Cg Co v X (H.over U);rw [Ei] at h;exact h
 obtain ⟨a,c,a2,E,rfl,V,J⟩:=H;obtain ⟨b,f,rfl,W,S,l,hr⟩:=J.at (j:=0) (by decide);have A:ZC i 61 (2*(An AX).length+2+1) W (stD 4 32 noS ⟨#[99]⟩ (eD 3 38 0 noS [eD 1 39 1 noS [],eD 1 43 2 noS []]) [] [] []):=hr;obtain ⟨kd,Y,x,y,e0,C,B,e3,q,q1,q2,e,aA,cA,M,aT,cT,th,aE,cE,el,rfl,n,-⟩:=A;unfold stD at n;injection n with n;simp only [List.cons.injEq] at n;obtain ⟨T,-,-,R,-⟩:=n;obtain rfl:=QE T;obtain rfl:=QD R;have L:i.cell? ⟨b,f,none⟩=some (I O 4):=by have:=l 0 _ rfl;simpa using this
 have K:i.cell? ⟨b,f+3,none⟩=some (.string ⟨#[99]⟩):=by have:=l 3 _ rfl;simpa using this
 have G:=Aa r;replace u:Hx (∀ X,Ov i X->Ro 14 #[zg #[zc a 2 c,zc (some ⟨b,f,none⟩) 1 E]] X (I O 0)):=u;clear N r V J l S hr;have Q:(i.alloc (ze #[zc a 2 c,zc (some ⟨b,f,none⟩) 1 E] 25)).cell? ⟨b,f,none⟩=some (I O 4):=AQ L _;have P:(i.alloc (ze #[zc a 2 c,zc (some ⟨b,f,none⟩) 1 E] 25)).cell? ⟨b,f+3,none⟩=some (.string ⟨#[99]⟩):=AQ K _;have C:Cg.length=2:=rfl;have B:Co.length=1:=rfl;rw [C,B];clear C B L K;go_wp2_with fail;refine (u.o _ (bA _ _)).mono ?_;rintro e Z ⟨rfl,r⟩;have F:=Aa (Ac G.o (Ac (bA _ _) r));clear r u Q P;go_wp2_with fail;go_ret;exact ⟨rfl,F.o⟩
end Go.Proofs.YtipngnjffjajpaaGreatDoor.Tx
