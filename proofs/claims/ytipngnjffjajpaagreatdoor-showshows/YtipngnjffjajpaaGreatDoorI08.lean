/- The document's answer: commands. -/
import Derived.Test.YtipngnjffjajpaaGreatDoorI07
set_option linter.unusedVariables false
set_option maxHeartbeats 8000000
set_option maxRecDepth 100000
namespace Go.Proofs.YtipngnjffjajpaaGreatDoor.Tx
open Go.RowKit
open Go.Value renaming int -> A, slice -> O, bool -> zc, agg -> ze, pointer -> zf, tuple -> zh
open Go.IntKind renaming i64 -> J
open Go.Obj renaming cells -> zd
open Go.Ending renaming returned -> zg
theorem NC {w:World} {ke:Nat} {ao:Option Addr} {cap:Nat} {l:List D} (h:LS 12 (ZC w ke 0) w (O ao l.length cap) l):l=[]:=by
 cases l with
 | nil=>rfl
 | cons a l=>
  obtain ⟨b,c,-,f,-,-,hr⟩:=h.at (j:=0) (by simp);exact hr.elim
theorem DL (l:List D) (p:D->Bool):lfS l false p=l.isEmpty:=by unfold lfS;cases l <;> simp
theorem G4 (l:List D) (p:D->Bool):lfS l true p=l.all p:=by unfold lfS;simp
structure SfQ (kd:Int) (qs qx qy qo qe qa qT qE px py pA pT pE:Bool):Prop where
 k1:kd=1->qs=(qx && py && qe && pA && pT && pE)
 k2:kd=2->qs=(qx && qy && qo && qa && pT && pE)
 k3:kd=3->qs=(qx && qy && qo && pA && pT && pE)
 k4:kd=4->qs=(px && qy && qe && pA && pT && pE)
 k5:kd=5->qs=(qx && py && qe && pA && pT && pE)
 k6:kd=6->qs=(qx && py && qe && pA && pT && pE)
 k7:kd=7->qs=(px && py && qe && pA && qT && qE)
 k8:kd=8->qs=(px && py && qe && pA && qT && pE)
 z:¬ kd=1->¬ kd=2->¬ kd=3->¬ kd=4->¬ kd=5->¬ kd=6->¬ kd=7->¬ kd=8->qs=false
theorem sfQ (ke k:Nat) (kd a:Int) (x y:ByteArray) (e:D) (args th el:List D):SfQ kd (sfK ke (k+1) (stD kd a x y e args th el)) (nmS x.data.toList) (nmS y.data.toList) (BX e) (efK ke e) (args.all (efK ke)) (th.all (sfK ke k)) (el.all (sfK ke k)) x.data.toList.isEmpty y.data.toList.isEmpty args.isEmpty th.isEmpty el.isEmpty:=by
 constructor
 ·rintro rfl
  simp only [sfK,gSs];simp [EN,EP,Ej,EQ,EO,Ek,hOk,nfS,DL]
 ·rintro rfl
  simp only [sfK,gSs];simp [EN,EP,Ej,EQ,EO,Ek,hOk,nfS,DL,G4]
 ·rintro rfl
  simp only [sfK,gSs];simp [EN,EP,Ej,EQ,EO,Ek,hOk,nfS,DL]
 ·rintro rfl
  simp only [sfK,gSs];simp [EN,EP,Ej,EQ,EO,Ek,hOk,nfS,DL]
 ·rintro rfl
  simp only [sfK,gSs];simp [EN,EP,Ej,EQ,EO,Ek,hOk,nfS,DL]
 ·rintro rfl
  simp only [sfK,gSs];simp [EN,EP,Ej,EQ,EO,Ek,hOk,nfS,DL]
 ·rintro rfl
  simp only [sfK,gSs];simp [EN,EP,Ej,EQ,EO,Ek,hOk,nfS,DL,G4]
 ·rintro rfl
  simp only [sfK,gSs];simp [EN,EP,Ej,EQ,EO,Ek,hOk,nfS,DL,G4]
 ·intro n l j i g f c b
  have:hOk kd=false:=by unfold hOk;simp;omega
  simp only [sfK,gSs];rw [this];simp
theorem Hk {α:Type} (l:List α):((l.length:Int) == 0)=l.isEmpty:=by cases l <;> simp;omega
theorem A5 (ke:Nat):∀ (k:Nat) (l:List D) (ao:Option Addr) (cap:Nat) (w:World),LS 12 (ZC w ke k) w (O ao l.length cap) l->Ro 39 #[O ao l.length cap] w (zc (l.all (sfK ke k))):=by
 intro k
 induction k with
 | zero=>
  intro l ao cap w hc;obtain rfl:=NC hc;clear hc;go_enter Tryz.func39,Tryz.ntmps39;go_wp2_with fail;go_loopw [3] (fun i wr=>i=A J 0/\wr=w) (fun _ _=>0)
  case atStart=>exact ⟨rfl,rfl⟩
  case round=>
   obtain ⟨rfl,rfl⟩:=hrel;go_wp2_with fail;go_ret;exact ⟨rfl,Below.refl _ _⟩
 | succ k ih=>
  intro l ao cap w hc;have HC:=Aa hc;have IH:=Aa ih;have HL:=hc.max;obtain ⟨eu,br⟩:=nm (l.all (sfK ke (k+1)));rw [<-br];have HF:=Aa br;obtain ⟨nn,cx⟩:=nm l.length;rw [<-cx] at HL ⊢;have HN:=Aa cx;clear hc ih br cx;go_enter Tryz.func39,Tryz.ntmps39;go_wp2_with fail;go_loopw [3] (fun i wr=>∃ (j:Nat),j<=nn/\i=A J j/\(l.drop j).all (sfK ke (k+1))=eu/\Ov w wr) (fun i _=>nn - (intOf i).toNat)
  case atStart=>exact ⟨0,Nat.zero_le _,rfl,HF.o.symm,Below.refl _ _⟩
  case round=>
   obtain ⟨j,hj,rfl,g,Z⟩:=hrel;by_cases hjl:j < nn
   ·have bo:j < l.length:=by have:=HN.o;omega
    have eq:(j:Int) < (nn:Int):=by omega
    obtain ⟨b,en,rfl,cs,dx,U,hr⟩:=HC.o.at bo;rw [List.drop_eq_getElem_cons bo,List.all_cons] at g;generalize l[j]=dj at g hr;obtain ⟨W,a,x,y,e0,e1,e2,e3,q,q1,q2,e,aA,cA,I,aT,cT,th,aE,cE,el,rfl,rfl,hx,hy,he,hA,hT,hE⟩:=hr;have d0:wr.cell? ⟨b,en+j*12,none⟩=_:=ce1 Z (U 0 _ rfl);have d1:=ce1 Z (U 1 _ rfl);have d2:=ce1 Z (U 2 _ rfl);have d3:=ce1 Z (U 3 _ rfl);have d4:=ce1 Z (U 4 _ rfl);have d5:=ce1 Z (U 5 _ rfl);have d6:=ce1 Z (U 6 _ rfl);have d7:=ce1 Z (U 7 _ rfl);have d8:=ce1 Z (U 8 _ rfl);have d9:=ce1 Z (U 9 _ rfl);have c1:=ce1 Z (U 10 _ rfl);have c0:=ce1 Z (U 11 _ rfl);have HQ:=Aa (sfQ ke k W a x y e I th el);obtain ⟨C,cl⟩:=nm (sfK ke (k+1) (stD W a x y e I th el));obtain ⟨qx,ck⟩:=nm (nmS x.data.toList);obtain ⟨qy,cj⟩:=nm (nmS y.data.toList);obtain ⟨qo,cm⟩:=nm (BX e);obtain ⟨qe,cn⟩:=nm (efK ke e);obtain ⟨qa,co⟩:=nm (I.all (efK ke));obtain ⟨qT,cp⟩:=nm (th.all (sfK ke k));obtain ⟨qE,cq⟩:=nm (el.all (sfK ke k));obtain ⟨px,ct⟩:=nm x.data.toList.isEmpty;obtain ⟨py,cr⟩:=nm y.data.toList.isEmpty;obtain ⟨pA,cw⟩:=nm I.isEmpty;obtain ⟨pT,cu⟩:=nm th.isEmpty;obtain ⟨pE,cv⟩:=nm el.isEmpty;rw [<-cl,<-ck,<-cj,<-cm,<-cn,<-co,<-cp,<-cq,<-ct,<-cr,<-cw,<-cu,<-cv] at HQ;rw [<-cl] at g;have ea:Hx (x.toList.isEmpty=px):=by show _=_;rw [ct,ByteArray.toList_eq]
    have dz:Hx (y.toList.isEmpty=py):=by show _=_;rw [cr,ByteArray.toList_eq]
    have dp:Hx (((I.length:Int) == 0)=pA):=by show _=_;rw [cw,Hk]
    have c8:Hx (((th.length:Int) == 0)=pT):=by show _=_;rw [cu,Hk]
    have dm:Hx (((el.length:Int) == 0)=pE):=by show _=_;rw [cv,Hk]
    have KO:Hx (∀ X,Ov wr X->Ro 78 #[ze #[A J e0,A J e1,A J e2,.string e3,O q q1 q2]] X (zc qo)):=fun X hX=>by rw [cm];exact Bw ke _ e X ((he.over Z).over hX)
    have KE:Hx (∀ X,Ov wr X->Ro 79 #[ze #[A J e0,A J e1,A J e2,.string e3,O q q1 q2]] X (zc qe)):=fun X hX=>by rw [cn];exact Bk ke _ e X ((he.over Z).over hX)
    have KX:Hx (∀ X,Ov wr X->Ro 77 #[.string x] X (zc qx)):=fun X hX=>by rw [ck];exact AG x X hx
    have KY:Hx (∀ X,Ov wr X->Ro 77 #[.string y] X (zc qy)):=fun X hX=>by rw [cj];exact AG y X hy
    have KT:Hx (∀ X,Ov wr X->Ro 39 #[O aT th.length cT] X (zc qT)):=fun X hX=>by rw [cp];exact IH.o th aT cT X (Ao hX (Ao Z hT))
    have KL:Hx (∀ X,Ov wr X->Ro 39 #[O aE el.length cE] X (zc qE)):=fun X hX=>by rw [cq];exact IH.o el aE cE X (Ao hX (Ao Z hE))
    have ec:=Aa co;have fo:=hA.max;have fq:=Aa (Co Z hA);have dc:=Aa (rfl:I.length=I.length);have r:=Aa Z;have n:=Aa g;clear U dx Z bo g cl ck cj cm cn co cp cq ct cr cw cu cv hx hy he hA hT hE;obtain ⟨nA,cy⟩:=nm I.length;rw [<-cy] at d9 dp fo;replace dc:=Aa cy;clear cy;generalize th.length=nT at d0 d1 d2 d3 d4 d5 d6 d7 d8 d9 c1 c0 c8 KT;generalize el.length=nE at d0 d1 d2 d3 d4 d5 d6 d7 d8 d9 c1 c0 dm KL;obtain ⟨W1,b9⟩:=nm (wr.alloc (zd #[A J W,A J a,.string x,.string y,A J e0,A J e1,A J e2,.string e3,O q q1 q2,O aA nA cA,O aT nT cT,O aE nE cE] 55));obtain ⟨bq,cz⟩:=nm wr.heap.size;have eg:Hx (Ov wr W1):=by show Ov _ _;rw [b9];exact bA _ _
    have eb:Hx (Ac [A J W,A J a,.string x,.string y,A J e0,A J e1,A J e2,.string e3,O q q1 q2,O aA nA cA,O aT nT cT,O aE nE cE] W1 bq):=by show Ac _ _ _;rw [b9,cz];exact Ai wr [A J W,A J a,.string x,.string y,A J e0,A J e1,A J e2,.string e3,O q q1 q2,O aA nA cA,O aT nT cT,O aE nE cE] 55
    go_wp2_with fail;rw [<-b9,<-cz];clear b9 cz d0 d1 d2 d3 d4 d5 d6 d7 d8 d9 c1 c0;obtain ⟨m0,m1,m2,m3,m4,m5,m6,m7,m8,m9,H,G⟩:=An eb.o;refine Go.Proofs.YtipngnjffjajpaaGreatDoor.gS (fun Wz=>Below W1.heap.size W1 Wz) (Below.refl _ _).drew fun f=>?_;generalize W1.drew=Y2 at f ⊢;refine kO 0 ?_;refine kO 1 ?_;refine kO 2 ?_;refine kO 3 ?_;refine kO 4 ?_;refine kO 5 ?_;refine kO 6 ?_;refine kO 7 ?_;refine rdA 8 rfl fun K F=>?_;go_simp;refine (KO.o _ (Ab eg.o f)).mono ?_;rintro e W3 ⟨rfl,E⟩;have bw:Hx (Ov W1 W3):=Ab f E;clear E f KO;go_simp;refine xK F (bw.o) fun f=>?_;clear F K;refine kO 9 ?_;refine kO 10 ?_;refine kO 11 ?_;refine gE ?_;have ee:Hx (Ov wr W3):=Ab eg.o bw.o;have cf:Hx (Ac [A J W,A J a,.string x,.string y,A J e0,A J e1,A J e2,.string e3,O q q1 q2,O aA nA cA,O aT nT cT,O aE nE cE] W3 bq):=eb.o.over bw.o;clear f m0 m1 m2 m3 m4 m5 m6 m7 m8 m9 H G;go_wp2_with fail;obtain ⟨m0,m1,m2,m3,m4,m5,m6,m7,m8,m9,H,G⟩:=An cf.o;refine Go.Proofs.YtipngnjffjajpaaGreatDoor.gS (fun Wz=>Below W3.heap.size W3 Wz) (Below.refl _ _).drew fun f=>?_;generalize W3.drew=Y4 at f ⊢;refine kO 0 ?_;refine kO 1 ?_;refine kO 2 ?_;refine kO 3 ?_;refine kO 4 ?_;refine kO 5 ?_;refine kO 6 ?_;refine kO 7 ?_;refine kO 8 ?_;refine kO 9 ?_;refine kO 10 ?_;refine kO 11 ?_;refine kO 12 ?_;refine kO 13 ?_;refine kO 14 ?_;refine gE ?_;have u:Hx (Ov wr Y4):=Ab ee.o f;have v:Hx (Ac [A J W,A J a,.string x,.string y,A J e0,A J e1,A J e2,.string e3,O q q1 q2,O aA nA cA,O aT nT cT,O aE nE cE] Y4 bq):=cf.o.over f;clear f m0 m1 m2 m3 m4 m5 m6 m7 m8 m9 H G;rw [ea.o,dz.o,c8.o,dm.o,dp.o];clear ea dz c8 dm dp;by_cases h1:W=1
    ·have B:=Aa (HQ.o.k1 h1)
     subst h1;clear HQ;obtain ⟨n0,n1,n2,n3,n4,n5,n6,n7,n8,n9,M,L⟩:=An v.o;go_wp2_with fail;clear n0 n1 n2 n3 n4 n5 n6 n7 n8 n9 M L;obtain ⟨m0,m1,m2,m3,m4,m5,m6,m7,m8,m9,H,G⟩:=An v.o;refine Go.Proofs.YtipngnjffjajpaaGreatDoor.gS (fun Wz=>Below Y4.heap.size Y4 Wz) (Below.refl _ _).drew fun f=>?_;generalize Y4.drew=Y6 at f ⊢;refine kO 0 ?_;refine kO 1 ?_;refine kO 3 ?_;refine kO 4 ?_;refine rdA 2 rfl fun K F=>?_;go_simp;refine (KX.o _ (Ab u.o f)).mono ?_;rintro e W7 ⟨rfl,E⟩;have ed:Hx (Ov Y4 W7):=Ab f E;clear E f KX;go_simp;refine xK F (ed.o) fun f=>?_;clear F K;refine rdA 5 rfl fun K F=>?_;go_simp;refine (KE.o _ (Ab u.o f)).mono ?_;rintro e W8 ⟨rfl,E⟩;have bv:Hx (Ov Y4 W8):=Ab f E;clear E f KE;go_simp;refine xK F (bv.o) fun f=>?_;clear F K;refine kO 6 ?_;refine kO 7 ?_;refine gE ?_;have Y:Hx (Ov wr W8):=Ab u.o bv.o;have f3:Hx (Ac [A J 1,A J a,.string x,.string y,A J e0,A J e1,A J e2,.string e3,O q q1 q2,O aA nA cA,O aT nT cT,O aE nE cE] W8 bq):=v.o.over bv.o;clear f m0 m1 m2 m3 m4 m5 m6 m7 m8 m9 H G
     cases qx with
     | true=>
      cases py with
      | true=>
       cases qe with
       | true=>
        cases pT with
        | true=>
         cases pE with
         | true=>
          cases pA with
          | true=>
           have g:=n.o;rw [show C=true by have h:=B.o;simp at h;exact h,Bool.true_and] at g;replace n:=Aa g;clear g;go_wp2_with fail;exact ⟨⟨j+1,by omega,by go_num,n.o,Ab r.o Y.o⟩,by simp [intOf];omega⟩
          | false=>
           have g:=n.o;rw [show C=false by have h:=B.o;simp at h;exact h,Bool.false_and] at g;replace n:=Aa g;clear g;go_wp2_with fail;go_ret;exact ⟨by rw [<-n.o];rfl,Ab r.o Y.o⟩
         | false=>
          have g:=n.o;rw [show C=false by have h:=B.o;simp at h;exact h,Bool.false_and] at g;replace n:=Aa g;clear g;go_wp2_with fail;go_ret;exact ⟨by rw [<-n.o];rfl,Ab r.o Y.o⟩
        | false=>
         have g:=n.o;rw [show C=false by have h:=B.o;simp at h;exact h,Bool.false_and] at g;replace n:=Aa g;clear g;go_wp2_with fail;go_ret;exact ⟨by rw [<-n.o];rfl,Ab r.o Y.o⟩
       | false=>
        have g:=n.o;rw [show C=false by have h:=B.o;simp at h;exact h,Bool.false_and] at g;replace n:=Aa g;clear g;go_wp2_with fail;go_ret;exact ⟨by rw [<-n.o];rfl,Ab r.o Y.o⟩
      | false=>
       have g:=n.o;rw [show C=false by have h:=B.o;simp at h;exact h,Bool.false_and] at g;replace n:=Aa g;clear g;go_wp2_with fail;go_ret;exact ⟨by rw [<-n.o];rfl,Ab r.o Y.o⟩
     | false=>
      have g:=n.o;rw [show C=false by have h:=B.o;simp at h;exact h,Bool.false_and] at g;replace n:=Aa g;clear g;go_wp2_with fail;go_ret;exact ⟨by rw [<-n.o];rfl,Ab r.o Y.o⟩
    by_cases h5:W=5
    ·have B:=Aa (HQ.o.k5 h5)
     subst h5;clear HQ;obtain ⟨n0,n1,n2,n3,n4,n5,n6,n7,n8,n9,M,L⟩:=An v.o;go_wp2_with fail;clear n0 n1 n2 n3 n4 n5 n6 n7 n8 n9 M L;obtain ⟨m0,m1,m2,m3,m4,m5,m6,m7,m8,m9,H,G⟩:=An v.o;refine Go.Proofs.YtipngnjffjajpaaGreatDoor.gS (fun Wz=>Below Y4.heap.size Y4 Wz) (Below.refl _ _).drew fun f=>?_;generalize Y4.drew=Y9 at f ⊢;refine kO 0 ?_;refine kO 1 ?_;refine kO 3 ?_;refine kO 4 ?_;refine rdA 2 rfl fun K F=>?_;go_simp;refine (KX.o _ (Ab u.o f)).mono ?_;rintro e fg ⟨rfl,E⟩;have dl:Hx (Ov Y4 fg):=Ab f E;clear E f KX;go_simp;refine xK F (dl.o) fun f=>?_;clear F K;refine rdA 5 rfl fun K F=>?_;go_simp;refine (KE.o _ (Ab u.o f)).mono ?_;rintro e c7 ⟨rfl,E⟩;have bj:Hx (Ov Y4 c7):=Ab f E;clear E f KE;go_simp;refine xK F (bj.o) fun f=>?_;clear F K;refine kO 6 ?_;refine kO 7 ?_;refine gE ?_;have T:Hx (Ov wr c7):=Ab u.o bj.o;have fn:Hx (Ac [A J 5,A J a,.string x,.string y,A J e0,A J e1,A J e2,.string e3,O q q1 q2,O aA nA cA,O aT nT cT,O aE nE cE] c7 bq):=v.o.over bj.o;clear f m0 m1 m2 m3 m4 m5 m6 m7 m8 m9 H G
     cases qx with
     | true=>
      cases py with
      | true=>
       cases qe with
       | true=>
        cases pT with
        | true=>
         cases pE with
         | true=>
          cases pA with
          | true=>
           have g:=n.o;rw [show C=true by have h:=B.o;simp at h;exact h,Bool.true_and] at g;replace n:=Aa g;clear g;go_wp2_with fail;exact ⟨⟨j+1,by omega,by go_num,n.o,Ab r.o T.o⟩,by simp [intOf];omega⟩
          | false=>
           have g:=n.o;rw [show C=false by have h:=B.o;simp at h;exact h,Bool.false_and] at g;replace n:=Aa g;clear g;go_wp2_with fail;go_ret;exact ⟨by rw [<-n.o];rfl,Ab r.o T.o⟩
         | false=>
          have g:=n.o;rw [show C=false by have h:=B.o;simp at h;exact h,Bool.false_and] at g;replace n:=Aa g;clear g;go_wp2_with fail;go_ret;exact ⟨by rw [<-n.o];rfl,Ab r.o T.o⟩
        | false=>
         have g:=n.o;rw [show C=false by have h:=B.o;simp at h;exact h,Bool.false_and] at g;replace n:=Aa g;clear g;go_wp2_with fail;go_ret;exact ⟨by rw [<-n.o];rfl,Ab r.o T.o⟩
       | false=>
        have g:=n.o;rw [show C=false by have h:=B.o;simp at h;exact h,Bool.false_and] at g;replace n:=Aa g;clear g;go_wp2_with fail;go_ret;exact ⟨by rw [<-n.o];rfl,Ab r.o T.o⟩
      | false=>
       have g:=n.o;rw [show C=false by have h:=B.o;simp at h;exact h,Bool.false_and] at g;replace n:=Aa g;clear g;go_wp2_with fail;go_ret;exact ⟨by rw [<-n.o];rfl,Ab r.o T.o⟩
     | false=>
      have g:=n.o;rw [show C=false by have h:=B.o;simp at h;exact h,Bool.false_and] at g;replace n:=Aa g;clear g;go_wp2_with fail;go_ret;exact ⟨by rw [<-n.o];rfl,Ab r.o T.o⟩
    by_cases h6:W=6
    ·have B:=Aa (HQ.o.k6 h6)
     subst h6;clear HQ;obtain ⟨n0,n1,n2,n3,n4,n5,n6,n7,n8,n9,M,L⟩:=An v.o;go_wp2_with fail;clear n0 n1 n2 n3 n4 n5 n6 n7 n8 n9 M L;obtain ⟨m0,m1,m2,m3,m4,m5,m6,m7,m8,m9,H,G⟩:=An v.o;refine Go.Proofs.YtipngnjffjajpaaGreatDoor.gS (fun Wz=>Below Y4.heap.size Y4 Wz) (Below.refl _ _).drew fun f=>?_;generalize Y4.drew=Y12 at f ⊢;refine kO 0 ?_;refine kO 1 ?_;refine kO 3 ?_;refine kO 4 ?_;refine rdA 2 rfl fun K F=>?_;go_simp;refine (KX.o _ (Ab u.o f)).mono ?_;rintro e ff ⟨rfl,E⟩;have dk:Hx (Ov Y4 ff):=Ab f E;clear E f KX;go_simp;refine xK F (dk.o) fun f=>?_;clear F K;refine rdA 5 rfl fun K F=>?_;go_simp;refine (KE.o _ (Ab u.o f)).mono ?_;rintro e c6 ⟨rfl,E⟩;have bi:Hx (Ov Y4 c6):=Ab f E;clear E f KE;go_simp;refine xK F (bi.o) fun f=>?_;clear F K;refine kO 6 ?_;refine kO 7 ?_;refine gE ?_;have S:Hx (Ov wr c6):=Ab u.o bi.o;have fm:Hx (Ac [A J 6,A J a,.string x,.string y,A J e0,A J e1,A J e2,.string e3,O q q1 q2,O aA nA cA,O aT nT cT,O aE nE cE] c6 bq):=v.o.over bi.o;clear f m0 m1 m2 m3 m4 m5 m6 m7 m8 m9 H G
     cases qx with
     | true=>
      cases py with
      | true=>
       cases qe with
       | true=>
        cases pT with
        | true=>
         cases pE with
         | true=>
          cases pA with
          | true=>
           have g:=n.o;rw [show C=true by have h:=B.o;simp at h;exact h,Bool.true_and] at g;replace n:=Aa g;clear g;go_wp2_with fail;exact ⟨⟨j+1,by omega,by go_num,n.o,Ab r.o S.o⟩,by simp [intOf];omega⟩
          | false=>
           have g:=n.o;rw [show C=false by have h:=B.o;simp at h;exact h,Bool.false_and] at g;replace n:=Aa g;clear g;go_wp2_with fail;go_ret;exact ⟨by rw [<-n.o];rfl,Ab r.o S.o⟩
         | false=>
          have g:=n.o;rw [show C=false by have h:=B.o;simp at h;exact h,Bool.false_and] at g;replace n:=Aa g;clear g;go_wp2_with fail;go_ret;exact ⟨by rw [<-n.o];rfl,Ab r.o S.o⟩
        | false=>
         have g:=n.o;rw [show C=false by have h:=B.o;simp at h;exact h,Bool.false_and] at g;replace n:=Aa g;clear g;go_wp2_with fail;go_ret;exact ⟨by rw [<-n.o];rfl,Ab r.o S.o⟩
       | false=>
        have g:=n.o;rw [show C=false by have h:=B.o;simp at h;exact h,Bool.false_and] at g;replace n:=Aa g;clear g;go_wp2_with fail;go_ret;exact ⟨by rw [<-n.o];rfl,Ab r.o S.o⟩
      | false=>
       have g:=n.o;rw [show C=false by have h:=B.o;simp at h;exact h,Bool.false_and] at g;replace n:=Aa g;clear g;go_wp2_with fail;go_ret;exact ⟨by rw [<-n.o];rfl,Ab r.o S.o⟩
     | false=>
      have g:=n.o;rw [show C=false by have h:=B.o;simp at h;exact h,Bool.false_and] at g;replace n:=Aa g;clear g;go_wp2_with fail;go_ret;exact ⟨by rw [<-n.o];rfl,Ab r.o S.o⟩
    by_cases h2:W=2
    ·have B:=Aa (HQ.o.k2 h2)
     subst h2;clear HQ;obtain ⟨n0,n1,n2,n3,n4,n5,n6,n7,n8,n9,M,L⟩:=An v.o;go_wp2_with fail;clear n0 n1 n2 n3 n4 n5 n6 n7 n8 n9 M L;obtain ⟨m0,m1,m2,m3,m4,m5,m6,m7,m8,m9,H,G⟩:=An v.o;refine Go.Proofs.YtipngnjffjajpaaGreatDoor.gS (fun Wz=>Below Y4.heap.size Y4 Wz) (Below.refl _ _).drew fun f=>?_;generalize Y4.drew=Y15 at f ⊢;refine kO 0 ?_;refine kO 1 ?_;refine kO 3 ?_;refine kO 4 ?_;refine rdA 2 rfl fun K F=>?_;go_simp;refine (KX.o _ (Ab u.o f)).mono ?_;rintro e fe ⟨rfl,E⟩;have di:Hx (Ov Y4 fe):=Ab f E;clear E f KX;go_simp;refine xK F (di.o) fun f=>?_;clear F K;refine rdA 5 rfl fun K F=>?_;go_simp;refine (KY.o _ (Ab u.o f)).mono ?_;rintro e cb ⟨rfl,E⟩;have bh:Hx (Ov Y4 cb):=Ab f E;clear E f KY;go_simp;refine xK F (bh.o) fun f=>?_;clear F K;refine kO 6 ?_;refine kO 7 ?_;refine kO 8 ?_;refine gE ?_;have dn:Hx (Ov wr cb):=Ab u.o bh.o;have c9:Hx (Ac [A J 2,A J a,.string x,.string y,A J e0,A J e1,A J e2,.string e3,O q q1 q2,O aA nA cA,O aT nT cT,O aE nE cE] cb bq):=v.o.over bh.o;clear f m0 m1 m2 m3 m4 m5 m6 m7 m8 m9 H G;go_wp2_with fail;go_loopw [10,11] (fun c i ws=>∃ (i2:Nat) (t:Bool),i2<=nA/\i=A J i2/\c=zc t/\(t && (I.drop i2).all (efK ke))=qa/\Ov cb ws) (fun _ i _=>nA - (intOf i).toNat)
     case atStart=>exact ⟨0,true,Nat.zero_le _,rfl,rfl,by rw [Bool.true_and];exact ec.o.symm,Below.refl _ _⟩
     case round=>
      obtain ⟨i,t,gc,rfl,rfl,V,bt⟩:=hrel;have al:=Aa (Ab dn.o bt);have a1:=al.o;obtain ⟨n0,n1,n2,n3,n4,n5,n6,n7,n8,n9,M,L⟩:=An (c9.o.over bt);by_cases hil:i < nA
      ·have bp:i < I.length:=by have:=dc.o;omega
       have er:(i:Int) < (nA:Int):=by omega
       obtain ⟨ba,oa,rfl,ca,ep,bk,b0⟩:=fq.o.at bp;rw [List.drop_eq_getElem_cons bp,List.all_cons] at V;generalize I[i]=da at V b0;obtain ⟨rq,ci⟩:=nm (efK ke da);rw [<-ci] at V;have KQ:Hx (∀ X,Ov wr X->Ro 79 #[.agg ca.toArray] X (zc rq)):=fun X hX=>by rw [ci];exact Bk ke ca da X ((b0.over a1).over hX)
       obtain ⟨k0,k1,k2,k3,k4,k5,k6,rfl⟩:=b0.cells;have z0:wr.cell? ⟨ba,oa+i*5,none⟩=_:=ce1 a1 (bk 0 _ rfl);have z1:=ce1 a1 (bk 1 _ rfl);have z2:=ce1 a1 (bk 2 _ rfl);have z3:=ce1 a1 (bk 3 _ rfl);have z4:=ce1 a1 (bk 4 _ rfl);have ef:=Aa bt;clear bt a1 b0 bk ep ci bp
       cases t with
       | true=>
        rw [Bool.true_and] at V;have db:=Aa V;clear V;go_wp2_with fail;refine (KQ.o _ (Below.refl _ _)).mono ?_;rintro e W9 ⟨rfl,E⟩;have fp:=Aa (Ab ef.o E);clear E z0 z1 z2 z3 z4 n0 n1 n2 n3 n4 n5 n6 n7 n8 n9 M L KQ al;go_wp2_with fail;exact ⟨⟨i+1,rq,by omega,by go_num,rfl,db.o,fp.o⟩,by simp [intOf];omega⟩
       | false=>
        rw [Bool.false_and] at V;have db:=Aa V;clear V;go_wp2_with fail;exact ⟨⟨i+1,false,by omega,by go_num,rfl,by rw [Bool.false_and];exact db.o,ef.o⟩,by simp [intOf];omega⟩
      ·have hd:I.drop i=[]:=List.drop_eq_nil_of_le (by have:=dc.o;omega)
       have er:¬ (i:Int) < (nA:Int):=by omega
       rw [hd] at V;have eo:t=qa:=by rw [<-V];simp
       subst eo;clear hd V bt a1 ec
       cases qx with
       | true=>
        cases qy with
        | true=>
         cases qo with
         | true=>
          cases pT with
          | true=>
           cases pE with
           | true=>
            cases t with
            | true=>
             have g:=n.o;rw [show C=true by have h:=B.o;simp at h;exact h,Bool.true_and] at g;replace n:=Aa g;clear g;go_wp2_with fail;exact ⟨⟨j+1,by omega,by go_num,n.o,Ab r.o al.o⟩,by simp [intOf];omega⟩
            | false=>
             have g:=n.o;rw [show C=false by have h:=B.o;simp at h;exact h,Bool.false_and] at g;replace n:=Aa g;clear g;go_wp2_with fail;go_ret;exact ⟨by rw [<-n.o];rfl,Ab r.o al.o⟩
           | false=>
            have g:=n.o;rw [show C=false by have h:=B.o;simp at h;exact h,Bool.false_and] at g;replace n:=Aa g;clear g;go_wp2_with fail;go_ret;exact ⟨by rw [<-n.o];rfl,Ab r.o al.o⟩
          | false=>
           have g:=n.o;rw [show C=false by have h:=B.o;simp at h;exact h,Bool.false_and] at g;replace n:=Aa g;clear g;go_wp2_with fail;go_ret;exact ⟨by rw [<-n.o];rfl,Ab r.o al.o⟩
         | false=>
          have g:=n.o;rw [show C=false by have h:=B.o;simp at h;exact h,Bool.false_and] at g;replace n:=Aa g;clear g;go_wp2_with fail;go_ret;exact ⟨by rw [<-n.o];rfl,Ab r.o al.o⟩
        | false=>
         have g:=n.o;rw [show C=false by have h:=B.o;simp at h;exact h,Bool.false_and] at g;replace n:=Aa g;clear g;go_wp2_with fail;go_ret;exact ⟨by rw [<-n.o];rfl,Ab r.o al.o⟩
       | false=>
        have g:=n.o;rw [show C=false by have h:=B.o;simp at h;exact h,Bool.false_and] at g;replace n:=Aa g;clear g;go_wp2_with fail;go_ret;exact ⟨by rw [<-n.o];rfl,Ab r.o al.o⟩
    by_cases h3:W=3
    ·have B:=Aa (HQ.o.k3 h3)
     subst h3;clear HQ;obtain ⟨n0,n1,n2,n3,n4,n5,n6,n7,n8,n9,M,L⟩:=An v.o;go_wp2_with fail;clear n0 n1 n2 n3 n4 n5 n6 n7 n8 n9 M L;obtain ⟨m0,m1,m2,m3,m4,m5,m6,m7,m8,m9,H,G⟩:=An v.o;refine Go.Proofs.YtipngnjffjajpaaGreatDoor.gS (fun Wz=>Below Y4.heap.size Y4 Wz) (Below.refl _ _).drew fun f=>?_;generalize Y4.drew=Y18 at f ⊢;refine kO 0 ?_;refine kO 1 ?_;refine kO 3 ?_;refine kO 4 ?_;refine rdA 2 rfl fun K F=>?_;go_simp;refine (KX.o _ (Ab u.o f)).mono ?_;rintro e fd ⟨rfl,E⟩;have dh:Hx (Ov Y4 fd):=Ab f E;clear E f KX;go_simp;refine xK F (dh.o) fun f=>?_;clear F K;refine rdA 5 rfl fun K F=>?_;go_simp;refine (KY.o _ (Ab u.o f)).mono ?_;rintro e c5 ⟨rfl,E⟩;have bg:Hx (Ov Y4 c5):=Ab f E;clear E f KY;go_simp;refine xK F (bg.o) fun f=>?_;clear F K;refine kO 6 ?_;refine kO 7 ?_;refine gE ?_;have R:Hx (Ov wr c5):=Ab u.o bg.o;have fl:Hx (Ac [A J 3,A J a,.string x,.string y,A J e0,A J e1,A J e2,.string e3,O q q1 q2,O aA nA cA,O aT nT cT,O aE nE cE] c5 bq):=v.o.over bg.o;clear f m0 m1 m2 m3 m4 m5 m6 m7 m8 m9 H G
     cases qx with
     | true=>
      cases qy with
      | true=>
       cases qo with
       | true=>
        cases pT with
        | true=>
         cases pE with
         | true=>
          cases pA with
          | true=>
           have g:=n.o;rw [show C=true by have h:=B.o;simp at h;exact h,Bool.true_and] at g;replace n:=Aa g;clear g;go_wp2_with fail;exact ⟨⟨j+1,by omega,by go_num,n.o,Ab r.o R.o⟩,by simp [intOf];omega⟩
          | false=>
           have g:=n.o;rw [show C=false by have h:=B.o;simp at h;exact h,Bool.false_and] at g;replace n:=Aa g;clear g;go_wp2_with fail;go_ret;exact ⟨by rw [<-n.o];rfl,Ab r.o R.o⟩
         | false=>
          have g:=n.o;rw [show C=false by have h:=B.o;simp at h;exact h,Bool.false_and] at g;replace n:=Aa g;clear g;go_wp2_with fail;go_ret;exact ⟨by rw [<-n.o];rfl,Ab r.o R.o⟩
        | false=>
         have g:=n.o;rw [show C=false by have h:=B.o;simp at h;exact h,Bool.false_and] at g;replace n:=Aa g;clear g;go_wp2_with fail;go_ret;exact ⟨by rw [<-n.o];rfl,Ab r.o R.o⟩
       | false=>
        have g:=n.o;rw [show C=false by have h:=B.o;simp at h;exact h,Bool.false_and] at g;replace n:=Aa g;clear g;go_wp2_with fail;go_ret;exact ⟨by rw [<-n.o];rfl,Ab r.o R.o⟩
      | false=>
       have g:=n.o;rw [show C=false by have h:=B.o;simp at h;exact h,Bool.false_and] at g;replace n:=Aa g;clear g;go_wp2_with fail;go_ret;exact ⟨by rw [<-n.o];rfl,Ab r.o R.o⟩
     | false=>
      have g:=n.o;rw [show C=false by have h:=B.o;simp at h;exact h,Bool.false_and] at g;replace n:=Aa g;clear g;go_wp2_with fail;go_ret;exact ⟨by rw [<-n.o];rfl,Ab r.o R.o⟩
    by_cases h4:W=4
    ·have B:=Aa (HQ.o.k4 h4)
     subst h4;clear HQ;obtain ⟨n0,n1,n2,n3,n4,n5,n6,n7,n8,n9,M,L⟩:=An v.o;go_wp2_with fail;clear n0 n1 n2 n3 n4 n5 n6 n7 n8 n9 M L;obtain ⟨m0,m1,m2,m3,m4,m5,m6,m7,m8,m9,H,G⟩:=An v.o;refine Go.Proofs.YtipngnjffjajpaaGreatDoor.gS (fun Wz=>Below Y4.heap.size Y4 Wz) (Below.refl _ _).drew fun f=>?_;generalize Y4.drew=Y21 at f ⊢;refine kO 0 ?_;refine kO 1 ?_;refine kO 3 ?_;refine kO 4 ?_;refine rdA 2 rfl fun K F=>?_;go_simp;refine (KY.o _ (Ab u.o f)).mono ?_;rintro e fc ⟨rfl,E⟩;have dg:Hx (Ov Y4 fc):=Ab f E;clear E f KY;go_simp;refine xK F (dg.o) fun f=>?_;clear F K;refine rdA 5 rfl fun K F=>?_;go_simp;refine (KE.o _ (Ab u.o f)).mono ?_;rintro e c4 ⟨rfl,E⟩;have bf:Hx (Ov Y4 c4):=Ab f E;clear E f KE;go_simp;refine xK F (bf.o) fun f=>?_;clear F K;refine kO 6 ?_;refine kO 7 ?_;refine gE ?_;have Q:Hx (Ov wr c4):=Ab u.o bf.o;have fk:Hx (Ac [A J 4,A J a,.string x,.string y,A J e0,A J e1,A J e2,.string e3,O q q1 q2,O aA nA cA,O aT nT cT,O aE nE cE] c4 bq):=v.o.over bf.o;clear f m0 m1 m2 m3 m4 m5 m6 m7 m8 m9 H G
     cases px with
     | true=>
      cases qy with
      | true=>
       cases qe with
       | true=>
        cases pT with
        | true=>
         cases pE with
         | true=>
          cases pA with
          | true=>
           have g:=n.o;rw [show C=true by have h:=B.o;simp at h;exact h,Bool.true_and] at g;replace n:=Aa g;clear g;go_wp2_with fail;exact ⟨⟨j+1,by omega,by go_num,n.o,Ab r.o Q.o⟩,by simp [intOf];omega⟩
          | false=>
           have g:=n.o;rw [show C=false by have h:=B.o;simp at h;exact h,Bool.false_and] at g;replace n:=Aa g;clear g;go_wp2_with fail;go_ret;exact ⟨by rw [<-n.o];rfl,Ab r.o Q.o⟩
         | false=>
          have g:=n.o;rw [show C=false by have h:=B.o;simp at h;exact h,Bool.false_and] at g;replace n:=Aa g;clear g;go_wp2_with fail;go_ret;exact ⟨by rw [<-n.o];rfl,Ab r.o Q.o⟩
        | false=>
         have g:=n.o;rw [show C=false by have h:=B.o;simp at h;exact h,Bool.false_and] at g;replace n:=Aa g;clear g;go_wp2_with fail;go_ret;exact ⟨by rw [<-n.o];rfl,Ab r.o Q.o⟩
       | false=>
        have g:=n.o;rw [show C=false by have h:=B.o;simp at h;exact h,Bool.false_and] at g;replace n:=Aa g;clear g;go_wp2_with fail;go_ret;exact ⟨by rw [<-n.o];rfl,Ab r.o Q.o⟩
      | false=>
       have g:=n.o;rw [show C=false by have h:=B.o;simp at h;exact h,Bool.false_and] at g;replace n:=Aa g;clear g;go_wp2_with fail;go_ret;exact ⟨by rw [<-n.o];rfl,Ab r.o Q.o⟩
     | false=>
      have g:=n.o;rw [show C=false by have h:=B.o;simp at h;exact h,Bool.false_and] at g;replace n:=Aa g;clear g;go_wp2_with fail;go_ret;exact ⟨by rw [<-n.o];rfl,Ab r.o Q.o⟩
    by_cases h7:W=7
    ·have B:=Aa (HQ.o.k7 h7)
     subst h7;clear HQ;obtain ⟨n0,n1,n2,n3,n4,n5,n6,n7,n8,n9,M,L⟩:=An v.o;go_wp2_with fail;clear n0 n1 n2 n3 n4 n5 n6 n7 n8 n9 M L;obtain ⟨m0,m1,m2,m3,m4,m5,m6,m7,m8,m9,H,G⟩:=An v.o;refine Go.Proofs.YtipngnjffjajpaaGreatDoor.gS (fun Wz=>Below Y4.heap.size Y4 Wz) (Below.refl _ _).drew fun f=>?_;generalize Y4.drew=Y24 at f ⊢;refine kO 0 ?_;refine kO 1 ?_;refine kO 3 ?_;refine kO 4 ?_;refine kO 6 ?_;refine kO 7 ?_;refine rdA 2 rfl fun K F=>?_;go_simp;refine (KE.o _ (Ab u.o f)).mono ?_;rintro e fb ⟨rfl,E⟩;have df:Hx (Ov Y4 fb):=Ab f E;clear E f KE;go_simp;refine xK F (df.o) fun f=>?_;clear F K;refine rdA 5 rfl fun K F=>?_;go_simp;refine (KT.o _ (Ab u.o f)).mono ?_;rintro e fa ⟨rfl,E⟩;have de:Hx (Ov Y4 fa):=Ab f E;clear E f KT;go_simp;refine xK F (de.o) fun f=>?_;clear F K;refine rdA 8 rfl fun K F=>?_;go_simp;refine (KL.o _ (Ab u.o f)).mono ?_;rintro e c3 ⟨rfl,E⟩;have be:Hx (Ov Y4 c3):=Ab f E;clear E f KL;go_simp;refine xK F (be.o) fun f=>?_;clear F K;refine kO 9 ?_;refine kO 10 ?_;refine kO 11 ?_;refine gE ?_;have P:Hx (Ov wr c3):=Ab u.o be.o;have fj:Hx (Ac [A J 7,A J a,.string x,.string y,A J e0,A J e1,A J e2,.string e3,O q q1 q2,O aA nA cA,O aT nT cT,O aE nE cE] c3 bq):=v.o.over be.o;clear f m0 m1 m2 m3 m4 m5 m6 m7 m8 m9 H G
     cases px with
     | true=>
      cases py with
      | true=>
       cases qe with
       | true=>
        cases qT with
        | true=>
         cases qE with
         | true=>
          cases pA with
          | true=>
           have g:=n.o;rw [show C=true by have h:=B.o;simp at h;exact h,Bool.true_and] at g;replace n:=Aa g;clear g;go_wp2_with fail;exact ⟨⟨j+1,by omega,by go_num,n.o,Ab r.o P.o⟩,by simp [intOf];omega⟩
          | false=>
           have g:=n.o;rw [show C=false by have h:=B.o;simp at h;exact h,Bool.false_and] at g;replace n:=Aa g;clear g;go_wp2_with fail;go_ret;exact ⟨by rw [<-n.o];rfl,Ab r.o P.o⟩
         | false=>
          have g:=n.o;rw [show C=false by have h:=B.o;simp at h;exact h,Bool.false_and] at g;replace n:=Aa g;clear g;go_wp2_with fail;go_ret;exact ⟨by rw [<-n.o];rfl,Ab r.o P.o⟩
        | false=>
         have g:=n.o;rw [show C=false by have h:=B.o;simp at h;exact h,Bool.false_and] at g;replace n:=Aa g;clear g;go_wp2_with fail;go_ret;exact ⟨by rw [<-n.o];rfl,Ab r.o P.o⟩
       | false=>
        have g:=n.o;rw [show C=false by have h:=B.o;simp at h;exact h,Bool.false_and] at g;replace n:=Aa g;clear g;go_wp2_with fail;go_ret;exact ⟨by rw [<-n.o];rfl,Ab r.o P.o⟩
      | false=>
       have g:=n.o;rw [show C=false by have h:=B.o;simp at h;exact h,Bool.false_and] at g;replace n:=Aa g;clear g;go_wp2_with fail;go_ret;exact ⟨by rw [<-n.o];rfl,Ab r.o P.o⟩
     | false=>
      have g:=n.o;rw [show C=false by have h:=B.o;simp at h;exact h,Bool.false_and] at g;replace n:=Aa g;clear g;go_wp2_with fail;go_ret;exact ⟨by rw [<-n.o];rfl,Ab r.o P.o⟩
    by_cases h8:W=8
    ·have B:=Aa (HQ.o.k8 h8)
     subst h8;clear HQ;obtain ⟨n0,n1,n2,n3,n4,n5,n6,n7,n8,n9,M,L⟩:=An v.o;go_wp2_with fail;clear n0 n1 n2 n3 n4 n5 n6 n7 n8 n9 M L;obtain ⟨m0,m1,m2,m3,m4,m5,m6,m7,m8,m9,H,G⟩:=An v.o;refine Go.Proofs.YtipngnjffjajpaaGreatDoor.gS (fun Wz=>Below Y4.heap.size Y4 Wz) (Below.refl _ _).drew fun f=>?_;generalize Y4.drew=Y28 at f ⊢;refine kO 0 ?_;refine kO 1 ?_;refine kO 3 ?_;refine kO 4 ?_;refine rdA 2 rfl fun K F=>?_;go_simp;refine (KE.o _ (Ab u.o f)).mono ?_;rintro e e9 ⟨rfl,E⟩;have dd:Hx (Ov Y4 e9):=Ab f E;clear E f KE;go_simp;refine xK F (dd.o) fun f=>?_;clear F K;refine rdA 5 rfl fun K F=>?_;go_simp;refine (KT.o _ (Ab u.o f)).mono ?_;rintro e c2 ⟨rfl,E⟩;have bd:Hx (Ov Y4 c2):=Ab f E;clear E f KT;go_simp;refine xK F (bd.o) fun f=>?_;clear F K;refine kO 6 ?_;refine kO 7 ?_;refine gE ?_;have N:Hx (Ov wr c2):=Ab u.o bd.o;have fi:Hx (Ac [A J 8,A J a,.string x,.string y,A J e0,A J e1,A J e2,.string e3,O q q1 q2,O aA nA cA,O aT nT cT,O aE nE cE] c2 bq):=v.o.over bd.o;clear f m0 m1 m2 m3 m4 m5 m6 m7 m8 m9 H G
     cases px with
     | true=>
      cases py with
      | true=>
       cases qe with
       | true=>
        cases qT with
        | true=>
         cases pE with
         | true=>
          cases pA with
          | true=>
           have g:=n.o;rw [show C=true by have h:=B.o;simp at h;exact h,Bool.true_and] at g;replace n:=Aa g;clear g;go_wp2_with fail;exact ⟨⟨j+1,by omega,by go_num,n.o,Ab r.o N.o⟩,by simp [intOf];omega⟩
          | false=>
           have g:=n.o;rw [show C=false by have h:=B.o;simp at h;exact h,Bool.false_and] at g;replace n:=Aa g;clear g;go_wp2_with fail;go_ret;exact ⟨by rw [<-n.o];rfl,Ab r.o N.o⟩
         | false=>
          have g:=n.o;rw [show C=false by have h:=B.o;simp at h;exact h,Bool.false_and] at g;replace n:=Aa g;clear g;go_wp2_with fail;go_ret;exact ⟨by rw [<-n.o];rfl,Ab r.o N.o⟩
        | false=>
         have g:=n.o;rw [show C=false by have h:=B.o;simp at h;exact h,Bool.false_and] at g;replace n:=Aa g;clear g;go_wp2_with fail;go_ret;exact ⟨by rw [<-n.o];rfl,Ab r.o N.o⟩
       | false=>
        have g:=n.o;rw [show C=false by have h:=B.o;simp at h;exact h,Bool.false_and] at g;replace n:=Aa g;clear g;go_wp2_with fail;go_ret;exact ⟨by rw [<-n.o];rfl,Ab r.o N.o⟩
      | false=>
       have g:=n.o;rw [show C=false by have h:=B.o;simp at h;exact h,Bool.false_and] at g;replace n:=Aa g;clear g;go_wp2_with fail;go_ret;exact ⟨by rw [<-n.o];rfl,Ab r.o N.o⟩
     | false=>
      have g:=n.o;rw [show C=false by have h:=B.o;simp at h;exact h,Bool.false_and] at g;replace n:=Aa g;clear g;go_wp2_with fail;go_ret;exact ⟨by rw [<-n.o];rfl,Ab r.o N.o⟩
    have g:=n.o;rw [show C=false from HQ.o.z h1 h2 h3 h4 h5 h6 h7 h8,Bool.false_and] at g;replace n:=Aa g;clear g;have b1:(W == 1)=false:=by simpa using h1
    have b2:(W == 2)=false:=by simpa using h2
    have b3:(W == 3)=false:=by simpa using h3
    have b4:(W == 4)=false:=by simpa using h4
    have b5:(W == 5)=false:=by simpa using h5
    have b6:(W == 6)=false:=by simpa using h6
    have b7:(W == 7)=false:=by simpa using h7
    have b8:(W == 8)=false:=by simpa using h8
    clear h1 h2 h3 h4 h5 h6 h7 h8;obtain ⟨n0,n1,n2,n3,n4,n5,n6,n7,n8,n9,M,L⟩:=An v.o;go_wp2_with fail;go_ret;exact ⟨by rw [<-n.o];rfl,Ab r.o u.o⟩
   ·have hd:l.drop j=[]:=List.drop_eq_nil_of_le (by have:=HN.o;omega)
    rw [hd] at g;have n:=Aa g;have HB:=Aa Z;have eq:¬ (j:Int) < (nn:Int):=by omega
    clear g Z hd;go_wp2_with fail;go_ret;exact ⟨by rw [<-n.o];rfl,HB.o⟩
end Go.Proofs.YtipngnjffjajpaaGreatDoor.Tx
