/- The document's answer: commands. -/
import Derived.Test.YtipngnjffjajpaaGreatDoorH25
set_option linter.unusedVariables false
set_option maxHeartbeats 8000000
set_option maxRecDepth 100000
namespace Go.Proofs.YtipngnjffjajpaaGreatDoor.Tx
open Go.RowKit
open Go.Value renaming int -> M, slice -> U, bool -> zc, pointer -> zd, agg -> zf, tuple -> zh
open Go.IntKind renaming i64 -> O
open Go.Obj renaming cells -> ze
open Go.Ending renaming returned -> zg
theorem Md {w:World} {ke:Nat} {ao:Option Addr} {cap:Nat} {l:List D} (h:LS 12 (ZC w ke 0) w (U ao l.length cap) l):l=[]:=by
 cases l with
 | nil=>rfl
 | cons a l=>
  obtain ⟨b,c,-,f,-,-,hr⟩:=h.at (j:=0) (by simp);exact hr.elim
theorem DW (l:List D) (p:D->Bool):lfS l false p=l.isEmpty:=by unfold lfS;cases l <;> simp
theorem GL (l:List D) (p:D->Bool):lfS l true p=l.all p:=by unfold lfS;simp
structure SfQ (kd:Int) (qs qx qy qo qe qa qT qE px py pA pT pE:Bool):Prop where
 k1:kd=1->qs=(qx && py && qe && pA && pT && pE)
 k2:kd=2->qs=(qx && qy && qo && qa && pT && pE)
 k3:kd=3->qs=(qx && qy && qo && pA && pT && pE)
 k4:kd=4->qs=(px && qy && qe && pA && pT && pE)
 k5:kd=5->qs=(qx && py && qe && pA && pT && pE)
 k6:kd=6->qs=(qx && py && qe && pA && pT && pE)
 k7:kd=7->qs=(px && py && qe && pA && qT && qE)
 k8:kd=8->qs=(px && py && qe && pA && qT && pE)
 z:¬ kd=1->¬ kd=2->¬ kd=3->¬ kd=4->¬ kd=5->¬ kd=6->¬ kd=7->¬ kd=8->qs=false
theorem sfQ (ke k:Nat) (kd a:Int) (x y:ByteArray) (e:D) (args th el:List D):SfQ kd (sfK ke (k+1) (stD kd a x y e args th el)) (nmS x.data.toList) (nmS y.data.toList) (CT e) (efK ke e) (args.all (efK ke)) (th.all (sfK ke k)) (el.all (sfK ke k)) x.data.toList.isEmpty y.data.toList.isEmpty args.isEmpty th.isEmpty el.isEmpty:=by
 constructor
 ·rintro rfl
  simp only [sfK,gSs];simp [E6,E8,E9,Fb,E7,Fa,hOk,nfS,DW]
 ·rintro rfl
  simp only [sfK,gSs];simp [E6,E8,E9,Fb,E7,Fa,hOk,nfS,DW,GL]
 ·rintro rfl
  simp only [sfK,gSs];simp [E6,E8,E9,Fb,E7,Fa,hOk,nfS,DW]
 ·rintro rfl
  simp only [sfK,gSs];simp [E6,E8,E9,Fb,E7,Fa,hOk,nfS,DW]
 ·rintro rfl
  simp only [sfK,gSs];simp [E6,E8,E9,Fb,E7,Fa,hOk,nfS,DW]
 ·rintro rfl
  simp only [sfK,gSs];simp [E6,E8,E9,Fb,E7,Fa,hOk,nfS,DW]
 ·rintro rfl
  simp only [sfK,gSs];simp [E6,E8,E9,Fb,E7,Fa,hOk,nfS,DW,GL]
 ·rintro rfl
  simp only [sfK,gSs];simp [E6,E8,E9,Fb,E7,Fa,hOk,nfS,DW,GL]
 ·intro m l j i g f c b
  have:hOk kd=false:=by unfold hOk;simp;omega
  simp only [sfK,gSs];rw [this];simp
theorem GV {α:Type} (l:List α):((l.length:Int) == 0)=l.isEmpty:=by cases l <;> simp;omega
theorem Bc (ke:Nat):∀ (k:Nat) (l:List D) (ao:Option Addr) (cap:Nat) (w:World),LS 12 (ZC w ke k) w (U ao l.length cap) l->Ro 39 #[U ao l.length cap] w (zc (l.all (sfK ke k))):=by
 intro k
 induction k with
 | zero=>
  intro l ao cap w hc;obtain rfl:=Md hc;clear hc;go_enter Tryz.func39,Tryz.ntmps39;go_wp2_with fail;go_loopw [3] (fun i wr=>i=M O 0/\wr=w) (fun _ _=>0)
  case atStart=>exact ⟨rfl,rfl⟩
  case round=>
   obtain ⟨rfl,rfl⟩:=hrel;go_wp2_with fail;go_ret;exact ⟨rfl,Below.refl _ _⟩
 | succ k ih=>
  intro l ao cap w hc;have HC:=Aa hc;have IH:=Aa ih;have HL:=hc.max;obtain ⟨fin,bm⟩:=nm (l.all (sfK ke (k+1)));rw [<-bm];have HF:=Aa bm;obtain ⟨nn,ct⟩:=nm l.length;rw [<-ct] at HL ⊢;have HN:=Aa ct;clear hc ih bm ct;go_enter Tryz.func39,Tryz.ntmps39;go_wp2_with fail;go_loopw [3] (fun i wr=>∃ (j:Nat),j<=nn/\i=M O j/\(l.drop j).all (sfK ke (k+1))=fin/\Ov w wr) (fun i _=>nn - (intOf i).toNat)
  case atStart=>exact ⟨0,Nat.zero_le _,rfl,HF.o.symm,Below.refl _ _⟩
  case round=>
   obtain ⟨j,hj,rfl,g,Y⟩:=hrel;by_cases hjl:j < nn
   ·have bk:j < l.length:=by have:=HN.o;omega
    have en:(j:Int) < (nn:Int):=by omega
    obtain ⟨b,ej,rfl,cs,dt,S,hr⟩:=HC.o.at bk;rw [List.drop_eq_getElem_cons bk,List.all_cons] at g;generalize l[j]=dj at g hr;obtain ⟨V,a,x,y,e0,e1,e2,e3,q,q1,q2,e,aA,cA,G,aT,cT,th,aE,cE,el,rfl,rfl,hx,hy,he,hA,hT,hE⟩:=hr;have d0:wr.cell? ⟨b,ej+j*12,none⟩=_:=ce1 Y (S 0 _ rfl);have d1:=ce1 Y (S 1 _ rfl);have d2:=ce1 Y (S 2 _ rfl);have d3:=ce1 Y (S 3 _ rfl);have d4:=ce1 Y (S 4 _ rfl);have d5:=ce1 Y (S 5 _ rfl);have d6:=ce1 Y (S 6 _ rfl);have d7:=ce1 Y (S 7 _ rfl);have d8:=ce1 Y (S 8 _ rfl);have d9:=ce1 Y (S 9 _ rfl);have cx:=ce1 Y (S 10 _ rfl);have cw:=ce1 Y (S 11 _ rfl);have HQ:=Aa (sfQ ke k V a x y e G th el);obtain ⟨A,ch⟩:=nm (sfK ke (k+1) (stD V a x y e G th el));obtain ⟨qx,cg⟩:=nm (nmS x.data.toList);obtain ⟨qy,cf⟩:=nm (nmS y.data.toList);obtain ⟨qo,ci⟩:=nm (CT e);obtain ⟨qe,cj⟩:=nm (efK ke e);obtain ⟨qa,ck⟩:=nm (G.all (efK ke));obtain ⟨qT,cl⟩:=nm (th.all (sfK ke k));obtain ⟨qE,cm⟩:=nm (el.all (sfK ke k));obtain ⟨px,co⟩:=nm x.data.toList.isEmpty;obtain ⟨py,cn⟩:=nm y.data.toList.isEmpty;obtain ⟨pA,cr⟩:=nm G.isEmpty;obtain ⟨pT,cp⟩:=nm th.isEmpty;obtain ⟨pE,cq⟩:=nm el.isEmpty;rw [<-ch,<-cg,<-cf,<-ci,<-cj,<-ck,<-cl,<-cm,<-co,<-cn,<-cr,<-cp,<-cq] at HQ;rw [<-ch] at g;have dx:Hx (x.toList.isEmpty=px):=by show _=_;rw [co,ByteArray.toList_eq]
    have dw:Hx (y.toList.isEmpty=py):=by show _=_;rw [cn,ByteArray.toList_eq]
    have dk:Hx (((G.length:Int) == 0)=pA):=by show _=_;rw [cr,GV]
    have c4:Hx (((th.length:Int) == 0)=pT):=by show _=_;rw [cp,GV]
    have dh:Hx (((el.length:Int) == 0)=pE):=by show _=_;rw [cq,GV]
    have KO:Hx (∀ X,Ov wr X->Ro 78 #[zf #[M O e0,M O e1,M O e2,.string e3,U q q1 q2]] X (zc qo)):=fun X hX=>by rw [ci];exact BS ke _ e X ((he.over Y).over hX)
    have KE:Hx (∀ X,Ov wr X->Ro 79 #[zf #[M O e0,M O e1,M O e2,.string e3,U q q1 q2]] X (zc qe)):=fun X hX=>by rw [cj];exact Bw ke _ e X ((he.over Y).over hX)
    have KX:Hx (∀ X,Ov wr X->Ro 77 #[.string x] X (zc qx)):=fun X hX=>by rw [cg];exact AV x X hx
    have KY:Hx (∀ X,Ov wr X->Ro 77 #[.string y] X (zc qy)):=fun X hX=>by rw [cf];exact AV y X hy
    have KT:Hx (∀ X,Ov wr X->Ro 39 #[U aT th.length cT] X (zc qT)):=fun X hX=>by rw [cl];exact IH.o th aT cT X (Ay hX (Ay Y hT))
    have KL:Hx (∀ X,Ov wr X->Ro 39 #[U aE el.length cE] X (zc qE)):=fun X hX=>by rw [cm];exact IH.o el aE cE X (Ay hX (Ay Y hE))
    have dz:=Aa ck;have fk:=hA.max;have fm:=Aa (B2 Y hA);have c7:=Aa (rfl:G.length=G.length);have n:=Aa Y;have m:=Aa g;clear S dt Y bk g ch cg cf ci cj ck cl cm co cn cr cp cq hx hy he hA hT hE;obtain ⟨nA,cu⟩:=nm G.length;rw [<-cu] at d9 dk fk;replace c7:=Aa cu;clear cu;generalize th.length=nT at d0 d1 d2 d3 d4 d5 d6 d7 d8 d9 cx cw c4 KT;generalize el.length=nE at d0 d1 d2 d3 d4 d5 d6 d7 d8 d9 cx cw dh KL;obtain ⟨W1,bv⟩:=nm (wr.alloc (ze #[M O V,M O a,.string x,.string y,M O e0,M O e1,M O e2,.string e3,U q q1 q2,U aA nA cA,U aT nT cT,U aE nE cE] 55));obtain ⟨bq,cv⟩:=nm wr.heap.size;have ed:Hx (Ov wr W1):=by show Ov _ _;rw [bv];exact bA _ _
    have dy:Hx (Ae [M O V,M O a,.string x,.string y,M O e0,M O e1,M O e2,.string e3,U q q1 q2,U aA nA cA,U aT nT cT,U aE nE cE] W1 bq):=by show Ae _ _ _;rw [bv,cv];exact AW wr [M O V,M O a,.string x,.string y,M O e0,M O e1,M O e2,.string e3,U q q1 q2,U aA nA cA,U aT nT cT,U aE nE cE] 55
    go_wp2_with fail;rw [<-bv,<-cv];clear bv cv d0 d1 d2 d3 d4 d5 d6 d7 d8 d9 cx cw;obtain ⟨m0,m1,m2,m3,m4,m5,m6,m7,m8,Z,F,E⟩:=AC dy.o;refine Go.Proofs.YtipngnjffjajpaaGreatDoor.gS (fun Wz=>Below W1.heap.size W1 Wz) (Below.refl _ _).drew fun f=>?_;generalize W1.drew=Y2 at f ⊢;refine kO 0 ?_;refine kO 1 ?_;refine kO 2 ?_;refine kO 3 ?_;refine kO 4 ?_;refine kO 5 ?_;refine kO 6 ?_;refine kO 7 ?_;refine rdA 8 rfl fun K C=>?_;go_simp;refine (KO.o _ (Ab ed.o f)).mono ?_;rintro e W3 ⟨rfl,B⟩;have bs:Hx (Ov W1 W3):=Ab f B;clear B f KO;go_simp;refine xK C (bs.o) fun f=>?_;clear C K;refine kO 9 ?_;refine kO 10 ?_;refine kO 11 ?_;refine gE ?_;have eb:Hx (Ov wr W3):=Ab ed.o bs.o;have cb:Hx (Ae [M O V,M O a,.string x,.string y,M O e0,M O e1,M O e2,.string e3,U q q1 q2,U aA nA cA,U aT nT cT,U aE nE cE] W3 bq):=dy.o.over bs.o;clear f m0 m1 m2 m3 m4 m5 m6 m7 m8 Z F E;go_wp2_with fail;obtain ⟨m0,m1,m2,m3,m4,m5,m6,m7,m8,Z,F,E⟩:=AC cb.o;refine Go.Proofs.YtipngnjffjajpaaGreatDoor.gS (fun Wz=>Below W3.heap.size W3 Wz) (Below.refl _ _).drew fun f=>?_;generalize W3.drew=Y4 at f ⊢;refine kO 0 ?_;refine kO 1 ?_;refine kO 2 ?_;refine kO 3 ?_;refine kO 4 ?_;refine kO 5 ?_;refine kO 6 ?_;refine kO 7 ?_;refine kO 8 ?_;refine kO 9 ?_;refine kO 10 ?_;refine kO 11 ?_;refine kO 12 ?_;refine kO 13 ?_;refine kO 14 ?_;refine gE ?_;have r:Hx (Ov wr Y4):=Ab eb.o f;have u:Hx (Ae [M O V,M O a,.string x,.string y,M O e0,M O e1,M O e2,.string e3,U q q1 q2,U aA nA cA,U aT nT cT,U aE nE cE] Y4 bq):=cb.o.over f;clear f m0 m1 m2 m3 m4 m5 m6 m7 m8 Z F E;rw [dx.o,dw.o,c4.o,dh.o,dk.o];clear dx dw c4 dh dk;by_cases h1:V=1
    ·have v:=Aa (HQ.o.k1 h1)
     subst h1;clear HQ;obtain ⟨n0,n1,n2,n3,n4,n5,n6,n7,n8,n9,I,H⟩:=AC u.o;go_wp2_with fail;clear n0 n1 n2 n3 n4 n5 n6 n7 n8 n9 I H;obtain ⟨m0,m1,m2,m3,m4,m5,m6,m7,m8,Z,F,E⟩:=AC u.o;refine Go.Proofs.YtipngnjffjajpaaGreatDoor.gS (fun Wz=>Below Y4.heap.size Y4 Wz) (Below.refl _ _).drew fun f=>?_;generalize Y4.drew=Y6 at f ⊢;refine kO 0 ?_;refine kO 1 ?_;refine kO 3 ?_;refine kO 4 ?_;refine rdA 2 rfl fun K C=>?_;go_simp;refine (KX.o _ (Ab r.o f)).mono ?_;rintro e W7 ⟨rfl,B⟩;have ea:Hx (Ov Y4 W7):=Ab f B;clear B f KX;go_simp;refine xK C (ea.o) fun f=>?_;clear C K;refine rdA 5 rfl fun K C=>?_;go_simp;refine (KE.o _ (Ab r.o f)).mono ?_;rintro e W8 ⟨rfl,B⟩;have br:Hx (Ov Y4 W8):=Ab f B;clear B f KE;go_simp;refine xK C (br.o) fun f=>?_;clear C K;refine kO 6 ?_;refine kO 7 ?_;refine gE ?_;have W:Hx (Ov wr W8):=Ab r.o br.o;have fy:Hx (Ae [M O 1,M O a,.string x,.string y,M O e0,M O e1,M O e2,.string e3,U q q1 q2,U aA nA cA,U aT nT cT,U aE nE cE] W8 bq):=u.o.over br.o;clear f m0 m1 m2 m3 m4 m5 m6 m7 m8 Z F E
     cases qx with
     | true=>
      cases py with
      | true=>
       cases qe with
       | true=>
        cases pT with
        | true=>
         cases pE with
         | true=>
          cases pA with
          | true=>
           have g:=m.o;rw [show A=true by have h:=v.o;simp at h;exact h,Bool.true_and] at g;replace m:=Aa g;clear g;go_wp2_with fail;exact ⟨⟨j+1,by omega,by go_num,m.o,Ab n.o W.o⟩,by simp [intOf];omega⟩
          | false=>
           have g:=m.o;rw [show A=false by have h:=v.o;simp at h;exact h,Bool.false_and] at g;replace m:=Aa g;clear g;go_wp2_with fail;go_ret;exact ⟨by rw [<-m.o];rfl,Ab n.o W.o⟩
         | false=>
          have g:=m.o;rw [show A=false by have h:=v.o;simp at h;exact h,Bool.false_and] at g;replace m:=Aa g;clear g;go_wp2_with fail;go_ret;exact ⟨by rw [<-m.o];rfl,Ab n.o W.o⟩
        | false=>
         have g:=m.o;rw [show A=false by have h:=v.o;simp at h;exact h,Bool.false_and] at g;replace m:=Aa g;clear g;go_wp2_with fail;go_ret;exact ⟨by rw [<-m.o];rfl,Ab n.o W.o⟩
       | false=>
        have g:=m.o;rw [show A=false by have h:=v.o;simp at h;exact h,Bool.false_and] at g;replace m:=Aa g;clear g;go_wp2_with fail;go_ret;exact ⟨by rw [<-m.o];rfl,Ab n.o W.o⟩
      | false=>
       have g:=m.o;rw [show A=false by have h:=v.o;simp at h;exact h,Bool.false_and] at g;replace m:=Aa g;clear g;go_wp2_with fail;go_ret;exact ⟨by rw [<-m.o];rfl,Ab n.o W.o⟩
     | false=>
      have g:=m.o;rw [show A=false by have h:=v.o;simp at h;exact h,Bool.false_and] at g;replace m:=Aa g;clear g;go_wp2_with fail;go_ret;exact ⟨by rw [<-m.o];rfl,Ab n.o W.o⟩
    by_cases h5:V=5
    ·have v:=Aa (HQ.o.k5 h5)
     subst h5;clear HQ;obtain ⟨n0,n1,n2,n3,n4,n5,n6,n7,n8,n9,I,H⟩:=AC u.o;go_wp2_with fail;clear n0 n1 n2 n3 n4 n5 n6 n7 n8 n9 I H;obtain ⟨m0,m1,m2,m3,m4,m5,m6,m7,m8,Z,F,E⟩:=AC u.o;refine Go.Proofs.YtipngnjffjajpaaGreatDoor.gS (fun Wz=>Below Y4.heap.size Y4 Wz) (Below.refl _ _).drew fun f=>?_;generalize Y4.drew=Y9 at f ⊢;refine kO 0 ?_;refine kO 1 ?_;refine kO 3 ?_;refine kO 4 ?_;refine rdA 2 rfl fun K C=>?_;go_simp;refine (KX.o _ (Ab r.o f)).mono ?_;rintro e fc ⟨rfl,B⟩;have dg:Hx (Ov Y4 fc):=Ab f B;clear B f KX;go_simp;refine xK C (dg.o) fun f=>?_;clear C K;refine rdA 5 rfl fun K C=>?_;go_simp;refine (KE.o _ (Ab r.o f)).mono ?_;rintro e c3 ⟨rfl,B⟩;have bf:Hx (Ov Y4 c3):=Ab f B;clear B f KE;go_simp;refine xK C (bf.o) fun f=>?_;clear C K;refine kO 6 ?_;refine kO 7 ?_;refine gE ?_;have R:Hx (Ov wr c3):=Ab r.o bf.o;have fj:Hx (Ae [M O 5,M O a,.string x,.string y,M O e0,M O e1,M O e2,.string e3,U q q1 q2,U aA nA cA,U aT nT cT,U aE nE cE] c3 bq):=u.o.over bf.o;clear f m0 m1 m2 m3 m4 m5 m6 m7 m8 Z F E
     cases qx with
     | true=>
      cases py with
      | true=>
       cases qe with
       | true=>
        cases pT with
        | true=>
         cases pE with
         | true=>
          cases pA with
          | true=>
           have g:=m.o;rw [show A=true by have h:=v.o;simp at h;exact h,Bool.true_and] at g;replace m:=Aa g;clear g;go_wp2_with fail;exact ⟨⟨j+1,by omega,by go_num,m.o,Ab n.o R.o⟩,by simp [intOf];omega⟩
          | false=>
           have g:=m.o;rw [show A=false by have h:=v.o;simp at h;exact h,Bool.false_and] at g;replace m:=Aa g;clear g;go_wp2_with fail;go_ret;exact ⟨by rw [<-m.o];rfl,Ab n.o R.o⟩
         | false=>
          have g:=m.o;rw [show A=false by have h:=v.o;simp at h;exact h,Bool.false_and] at g;replace m:=Aa g;clear g;go_wp2_with fail;go_ret;exact ⟨by rw [<-m.o];rfl,Ab n.o R.o⟩
        | false=>
         have g:=m.o;rw [show A=false by have h:=v.o;simp at h;exact h,Bool.false_and] at g;replace m:=Aa g;clear g;go_wp2_with fail;go_ret;exact ⟨by rw [<-m.o];rfl,Ab n.o R.o⟩
       | false=>
        have g:=m.o;rw [show A=false by have h:=v.o;simp at h;exact h,Bool.false_and] at g;replace m:=Aa g;clear g;go_wp2_with fail;go_ret;exact ⟨by rw [<-m.o];rfl,Ab n.o R.o⟩
      | false=>
       have g:=m.o;rw [show A=false by have h:=v.o;simp at h;exact h,Bool.false_and] at g;replace m:=Aa g;clear g;go_wp2_with fail;go_ret;exact ⟨by rw [<-m.o];rfl,Ab n.o R.o⟩
     | false=>
      have g:=m.o;rw [show A=false by have h:=v.o;simp at h;exact h,Bool.false_and] at g;replace m:=Aa g;clear g;go_wp2_with fail;go_ret;exact ⟨by rw [<-m.o];rfl,Ab n.o R.o⟩
    by_cases h6:V=6
    ·have v:=Aa (HQ.o.k6 h6)
     subst h6;clear HQ;obtain ⟨n0,n1,n2,n3,n4,n5,n6,n7,n8,n9,I,H⟩:=AC u.o;go_wp2_with fail;clear n0 n1 n2 n3 n4 n5 n6 n7 n8 n9 I H;obtain ⟨m0,m1,m2,m3,m4,m5,m6,m7,m8,Z,F,E⟩:=AC u.o;refine Go.Proofs.YtipngnjffjajpaaGreatDoor.gS (fun Wz=>Below Y4.heap.size Y4 Wz) (Below.refl _ _).drew fun f=>?_;generalize Y4.drew=Y12 at f ⊢;refine kO 0 ?_;refine kO 1 ?_;refine kO 3 ?_;refine kO 4 ?_;refine rdA 2 rfl fun K C=>?_;go_simp;refine (KX.o _ (Ab r.o f)).mono ?_;rintro e fb ⟨rfl,B⟩;have df:Hx (Ov Y4 fb):=Ab f B;clear B f KX;go_simp;refine xK C (df.o) fun f=>?_;clear C K;refine rdA 5 rfl fun K C=>?_;go_simp;refine (KE.o _ (Ab r.o f)).mono ?_;rintro e c2 ⟨rfl,B⟩;have be:Hx (Ov Y4 c2):=Ab f B;clear B f KE;go_simp;refine xK C (be.o) fun f=>?_;clear C K;refine kO 6 ?_;refine kO 7 ?_;refine gE ?_;have Q:Hx (Ov wr c2):=Ab r.o be.o;have fi:Hx (Ae [M O 6,M O a,.string x,.string y,M O e0,M O e1,M O e2,.string e3,U q q1 q2,U aA nA cA,U aT nT cT,U aE nE cE] c2 bq):=u.o.over be.o;clear f m0 m1 m2 m3 m4 m5 m6 m7 m8 Z F E
     cases qx with
     | true=>
      cases py with
      | true=>
       cases qe with
       | true=>
        cases pT with
        | true=>
         cases pE with
         | true=>
          cases pA with
          | true=>
           have g:=m.o;rw [show A=true by have h:=v.o;simp at h;exact h,Bool.true_and] at g;replace m:=Aa g;clear g;go_wp2_with fail;exact ⟨⟨j+1,by omega,by go_num,m.o,Ab n.o Q.o⟩,by simp [intOf];omega⟩
          | false=>
           have g:=m.o;rw [show A=false by have h:=v.o;simp at h;exact h,Bool.false_and] at g;replace m:=Aa g;clear g;go_wp2_with fail;go_ret;exact ⟨by rw [<-m.o];rfl,Ab n.o Q.o⟩
         | false=>
          have g:=m.o;rw [show A=false by have h:=v.o;simp at h;exact h,Bool.false_and] at g;replace m:=Aa g;clear g;go_wp2_with fail;go_ret;exact ⟨by rw [<-m.o];rfl,Ab n.o Q.o⟩
        | false=>
         have g:=m.o;rw [show A=false by have h:=v.o;simp at h;exact h,Bool.false_and] at g;replace m:=Aa g;clear g;go_wp2_with fail;go_ret;exact ⟨by rw [<-m.o];rfl,Ab n.o Q.o⟩
       | false=>
        have g:=m.o;rw [show A=false by have h:=v.o;simp at h;exact h,Bool.false_and] at g;replace m:=Aa g;clear g;go_wp2_with fail;go_ret;exact ⟨by rw [<-m.o];rfl,Ab n.o Q.o⟩
      | false=>
       have g:=m.o;rw [show A=false by have h:=v.o;simp at h;exact h,Bool.false_and] at g;replace m:=Aa g;clear g;go_wp2_with fail;go_ret;exact ⟨by rw [<-m.o];rfl,Ab n.o Q.o⟩
     | false=>
      have g:=m.o;rw [show A=false by have h:=v.o;simp at h;exact h,Bool.false_and] at g;replace m:=Aa g;clear g;go_wp2_with fail;go_ret;exact ⟨by rw [<-m.o];rfl,Ab n.o Q.o⟩
    by_cases h2:V=2
    ·have v:=Aa (HQ.o.k2 h2)
     subst h2;clear HQ;obtain ⟨n0,n1,n2,n3,n4,n5,n6,n7,n8,n9,I,H⟩:=AC u.o;go_wp2_with fail;clear n0 n1 n2 n3 n4 n5 n6 n7 n8 n9 I H;obtain ⟨m0,m1,m2,m3,m4,m5,m6,m7,m8,Z,F,E⟩:=AC u.o;refine Go.Proofs.YtipngnjffjajpaaGreatDoor.gS (fun Wz=>Below Y4.heap.size Y4 Wz) (Below.refl _ _).drew fun f=>?_;generalize Y4.drew=Y15 at f ⊢;refine kO 0 ?_;refine kO 1 ?_;refine kO 3 ?_;refine kO 4 ?_;refine rdA 2 rfl fun K C=>?_;go_simp;refine (KX.o _ (Ab r.o f)).mono ?_;rintro e fa ⟨rfl,B⟩;have de:Hx (Ov Y4 fa):=Ab f B;clear B f KX;go_simp;refine xK C (de.o) fun f=>?_;clear C K;refine rdA 5 rfl fun K C=>?_;go_simp;refine (KY.o _ (Ab r.o f)).mono ?_;rintro e bw ⟨rfl,B⟩;have bd:Hx (Ov Y4 bw):=Ab f B;clear B f KY;go_simp;refine xK C (bd.o) fun f=>?_;clear C K;refine kO 6 ?_;refine kO 7 ?_;refine kO 8 ?_;refine gE ?_;have di:Hx (Ov wr bw):=Ab r.o bd.o;have c5:Hx (Ae [M O 2,M O a,.string x,.string y,M O e0,M O e1,M O e2,.string e3,U q q1 q2,U aA nA cA,U aT nT cT,U aE nE cE] bw bq):=u.o.over bd.o;clear f m0 m1 m2 m3 m4 m5 m6 m7 m8 Z F E;go_wp2_with fail;go_loopw [10,11] (fun c i ws=>∃ (i2:Nat) (t:Bool),i2<=nA/\i=M O i2/\c=zc t/\(t && (G.drop i2).all (efK ke))=qa/\Ov bw ws) (fun _ i _=>nA - (intOf i).toNat)
     case atStart=>exact ⟨0,true,Nat.zero_le _,rfl,rfl,by rw [Bool.true_and];exact dz.o.symm,Below.refl _ _⟩
     case round=>
      obtain ⟨i,t,f8,rfl,rfl,T,bo⟩:=hrel;have ak:=Aa (Ab di.o bo);have ay:=ak.o;obtain ⟨n0,n1,n2,n3,n4,n5,n6,n7,n8,n9,I,H⟩:=AC (c5.o.over bo);by_cases hil:i < nA
      ·have bl:i < G.length:=by have:=c7.o;omega
       have eo:(i:Int) < (nA:Int):=by omega
       obtain ⟨ba,oa,rfl,ca,em,bg,bu⟩:=fm.o.at bl;rw [List.drop_eq_getElem_cons bl,List.all_cons] at T;generalize G[i]=da at T bu;obtain ⟨rq,ce⟩:=nm (efK ke da);rw [<-ce] at T;have KQ:Hx (∀ X,Ov wr X->Ro 79 #[.agg ca.toArray] X (zc rq)):=fun X hX=>by rw [ce];exact Bw ke ca da X ((bu.over ay).over hX)
       obtain ⟨k0,k1,k2,k3,k4,k5,k6,rfl⟩:=bu.cells;have z0:wr.cell? ⟨ba,oa+i*5,none⟩=_:=ce1 ay (bg 0 _ rfl);have z1:=ce1 ay (bg 1 _ rfl);have z2:=ce1 ay (bg 2 _ rfl);have z3:=ce1 ay (bg 3 _ rfl);have z4:=ce1 ay (bg 4 _ rfl);have ec:=Aa bo;clear bo ay bu bg em ce bl
       cases t with
       | true=>
        rw [Bool.true_and] at T;have c6:=Aa T;clear T;go_wp2_with fail;refine (KQ.o _ (Below.refl _ _)).mono ?_;rintro e W9 ⟨rfl,B⟩;have fl:=Aa (Ab ec.o B);clear B z0 z1 z2 z3 z4 n0 n1 n2 n3 n4 n5 n6 n7 n8 n9 I H KQ ak;go_wp2_with fail;exact ⟨⟨i+1,rq,by omega,by go_num,rfl,c6.o,fl.o⟩,by simp [intOf];omega⟩
       | false=>
        rw [Bool.false_and] at T;have c6:=Aa T;clear T;go_wp2_with fail;exact ⟨⟨i+1,false,by omega,by go_num,rfl,by rw [Bool.false_and];exact c6.o,ec.o⟩,by simp [intOf];omega⟩
      ·have hd:G.drop i=[]:=List.drop_eq_nil_of_le (by have:=c7.o;omega)
       have eo:¬ (i:Int) < (nA:Int):=by omega
       rw [hd] at T;have ek:t=qa:=by rw [<-T];simp
       subst ek;clear hd T bo ay dz
       cases qx with
       | true=>
        cases qy with
        | true=>
         cases qo with
         | true=>
          cases pT with
          | true=>
           cases pE with
           | true=>
            cases t with
            | true=>
             have g:=m.o;rw [show A=true by have h:=v.o;simp at h;exact h,Bool.true_and] at g;replace m:=Aa g;clear g;go_wp2_with fail;exact ⟨⟨j+1,by omega,by go_num,m.o,Ab n.o ak.o⟩,by simp [intOf];omega⟩
            | false=>
             have g:=m.o;rw [show A=false by have h:=v.o;simp at h;exact h,Bool.false_and] at g;replace m:=Aa g;clear g;go_wp2_with fail;go_ret;exact ⟨by rw [<-m.o];rfl,Ab n.o ak.o⟩
           | false=>
            have g:=m.o;rw [show A=false by have h:=v.o;simp at h;exact h,Bool.false_and] at g;replace m:=Aa g;clear g;go_wp2_with fail;go_ret;exact ⟨by rw [<-m.o];rfl,Ab n.o ak.o⟩
          | false=>
           have g:=m.o;rw [show A=false by have h:=v.o;simp at h;exact h,Bool.false_and] at g;replace m:=Aa g;clear g;go_wp2_with fail;go_ret;exact ⟨by rw [<-m.o];rfl,Ab n.o ak.o⟩
         | false=>
          have g:=m.o;rw [show A=false by have h:=v.o;simp at h;exact h,Bool.false_and] at g;replace m:=Aa g;clear g;go_wp2_with fail;go_ret;exact ⟨by rw [<-m.o];rfl,Ab n.o ak.o⟩
        | false=>
         have g:=m.o;rw [show A=false by have h:=v.o;simp at h;exact h,Bool.false_and] at g;replace m:=Aa g;clear g;go_wp2_with fail;go_ret;exact ⟨by rw [<-m.o];rfl,Ab n.o ak.o⟩
       | false=>
        have g:=m.o;rw [show A=false by have h:=v.o;simp at h;exact h,Bool.false_and] at g;replace m:=Aa g;clear g;go_wp2_with fail;go_ret;exact ⟨by rw [<-m.o];rfl,Ab n.o ak.o⟩
    by_cases h3:V=3
    ·have v:=Aa (HQ.o.k3 h3)
     subst h3;clear HQ;obtain ⟨n0,n1,n2,n3,n4,n5,n6,n7,n8,n9,I,H⟩:=AC u.o;go_wp2_with fail;clear n0 n1 n2 n3 n4 n5 n6 n7 n8 n9 I H;obtain ⟨m0,m1,m2,m3,m4,m5,m6,m7,m8,Z,F,E⟩:=AC u.o;refine Go.Proofs.YtipngnjffjajpaaGreatDoor.gS (fun Wz=>Below Y4.heap.size Y4 Wz) (Below.refl _ _).drew fun f=>?_;generalize Y4.drew=Y18 at f ⊢;refine kO 0 ?_;refine kO 1 ?_;refine kO 3 ?_;refine kO 4 ?_;refine rdA 2 rfl fun K C=>?_;go_simp;refine (KX.o _ (Ab r.o f)).mono ?_;rintro e e9 ⟨rfl,B⟩;have dd:Hx (Ov Y4 e9):=Ab f B;clear B f KX;go_simp;refine xK C (dd.o) fun f=>?_;clear C K;refine rdA 5 rfl fun K C=>?_;go_simp;refine (KY.o _ (Ab r.o f)).mono ?_;rintro e c1 ⟨rfl,B⟩;have bc:Hx (Ov Y4 c1):=Ab f B;clear B f KY;go_simp;refine xK C (bc.o) fun f=>?_;clear C K;refine kO 6 ?_;refine kO 7 ?_;refine gE ?_;have P:Hx (Ov wr c1):=Ab r.o bc.o;have fh:Hx (Ae [M O 3,M O a,.string x,.string y,M O e0,M O e1,M O e2,.string e3,U q q1 q2,U aA nA cA,U aT nT cT,U aE nE cE] c1 bq):=u.o.over bc.o;clear f m0 m1 m2 m3 m4 m5 m6 m7 m8 Z F E
     cases qx with
     | true=>
      cases qy with
      | true=>
       cases qo with
       | true=>
        cases pT with
        | true=>
         cases pE with
         | true=>
          cases pA with
          | true=>
           have g:=m.o;rw [show A=true by have h:=v.o;simp at h;exact h,Bool.true_and] at g;replace m:=Aa g;clear g;go_wp2_with fail;exact ⟨⟨j+1,by omega,by go_num,m.o,Ab n.o P.o⟩,by simp [intOf];omega⟩
          | false=>
           have g:=m.o;rw [show A=false by have h:=v.o;simp at h;exact h,Bool.false_and] at g;replace m:=Aa g;clear g;go_wp2_with fail;go_ret;exact ⟨by rw [<-m.o];rfl,Ab n.o P.o⟩
         | false=>
          have g:=m.o;rw [show A=false by have h:=v.o;simp at h;exact h,Bool.false_and] at g;replace m:=Aa g;clear g;go_wp2_with fail;go_ret;exact ⟨by rw [<-m.o];rfl,Ab n.o P.o⟩
        | false=>
         have g:=m.o;rw [show A=false by have h:=v.o;simp at h;exact h,Bool.false_and] at g;replace m:=Aa g;clear g;go_wp2_with fail;go_ret;exact ⟨by rw [<-m.o];rfl,Ab n.o P.o⟩
       | false=>
        have g:=m.o;rw [show A=false by have h:=v.o;simp at h;exact h,Bool.false_and] at g;replace m:=Aa g;clear g;go_wp2_with fail;go_ret;exact ⟨by rw [<-m.o];rfl,Ab n.o P.o⟩
      | false=>
       have g:=m.o;rw [show A=false by have h:=v.o;simp at h;exact h,Bool.false_and] at g;replace m:=Aa g;clear g;go_wp2_with fail;go_ret;exact ⟨by rw [<-m.o];rfl,Ab n.o P.o⟩
     | false=>
      have g:=m.o;rw [show A=false by have h:=v.o;simp at h;exact h,Bool.false_and] at g;replace m:=Aa g;clear g;go_wp2_with fail;go_ret;exact ⟨by rw [<-m.o];rfl,Ab n.o P.o⟩
    by_cases h4:V=4
    ·have v:=Aa (HQ.o.k4 h4)
     subst h4;clear HQ;obtain ⟨n0,n1,n2,n3,n4,n5,n6,n7,n8,n9,I,H⟩:=AC u.o;go_wp2_with fail;clear n0 n1 n2 n3 n4 n5 n6 n7 n8 n9 I H;obtain ⟨m0,m1,m2,m3,m4,m5,m6,m7,m8,Z,F,E⟩:=AC u.o;refine Go.Proofs.YtipngnjffjajpaaGreatDoor.gS (fun Wz=>Below Y4.heap.size Y4 Wz) (Below.refl _ _).drew fun f=>?_;generalize Y4.drew=Y21 at f ⊢;refine kO 0 ?_;refine kO 1 ?_;refine kO 3 ?_;refine kO 4 ?_;refine rdA 2 rfl fun K C=>?_;go_simp;refine (KY.o _ (Ab r.o f)).mono ?_;rintro e e8 ⟨rfl,B⟩;have dc:Hx (Ov Y4 e8):=Ab f B;clear B f KY;go_simp;refine xK C (dc.o) fun f=>?_;clear C K;refine rdA 5 rfl fun K C=>?_;go_simp;refine (KE.o _ (Ab r.o f)).mono ?_;rintro e c0 ⟨rfl,B⟩;have bb:Hx (Ov Y4 c0):=Ab f B;clear B f KE;go_simp;refine xK C (bb.o) fun f=>?_;clear C K;refine kO 6 ?_;refine kO 7 ?_;refine gE ?_;have N:Hx (Ov wr c0):=Ab r.o bb.o;have fg:Hx (Ae [M O 4,M O a,.string x,.string y,M O e0,M O e1,M O e2,.string e3,U q q1 q2,U aA nA cA,U aT nT cT,U aE nE cE] c0 bq):=u.o.over bb.o;clear f m0 m1 m2 m3 m4 m5 m6 m7 m8 Z F E
     cases px with
     | true=>
      cases qy with
      | true=>
       cases qe with
       | true=>
        cases pT with
        | true=>
         cases pE with
         | true=>
          cases pA with
          | true=>
           have g:=m.o;rw [show A=true by have h:=v.o;simp at h;exact h,Bool.true_and] at g;replace m:=Aa g;clear g;go_wp2_with fail;exact ⟨⟨j+1,by omega,by go_num,m.o,Ab n.o N.o⟩,by simp [intOf];omega⟩
          | false=>
           have g:=m.o;rw [show A=false by have h:=v.o;simp at h;exact h,Bool.false_and] at g;replace m:=Aa g;clear g;go_wp2_with fail;go_ret;exact ⟨by rw [<-m.o];rfl,Ab n.o N.o⟩
         | false=>
          have g:=m.o;rw [show A=false by have h:=v.o;simp at h;exact h,Bool.false_and] at g;replace m:=Aa g;clear g;go_wp2_with fail;go_ret;exact ⟨by rw [<-m.o];rfl,Ab n.o N.o⟩
        | false=>
         have g:=m.o;rw [show A=false by have h:=v.o;simp at h;exact h,Bool.false_and] at g;replace m:=Aa g;clear g;go_wp2_with fail;go_ret;exact ⟨by rw [<-m.o];rfl,Ab n.o N.o⟩
       | false=>
        have g:=m.o;rw [show A=false by have h:=v.o;simp at h;exact h,Bool.false_and] at g;replace m:=Aa g;clear g;go_wp2_with fail;go_ret;exact ⟨by rw [<-m.o];rfl,Ab n.o N.o⟩
      | false=>
       have g:=m.o;rw [show A=false by have h:=v.o;simp at h;exact h,Bool.false_and] at g;replace m:=Aa g;clear g;go_wp2_with fail;go_ret;exact ⟨by rw [<-m.o];rfl,Ab n.o N.o⟩
     | false=>
      have g:=m.o;rw [show A=false by have h:=v.o;simp at h;exact h,Bool.false_and] at g;replace m:=Aa g;clear g;go_wp2_with fail;go_ret;exact ⟨by rw [<-m.o];rfl,Ab n.o N.o⟩
    by_cases h7:V=7
    ·have v:=Aa (HQ.o.k7 h7)
     subst h7;clear HQ;obtain ⟨n0,n1,n2,n3,n4,n5,n6,n7,n8,n9,I,H⟩:=AC u.o;go_wp2_with fail;clear n0 n1 n2 n3 n4 n5 n6 n7 n8 n9 I H;obtain ⟨m0,m1,m2,m3,m4,m5,m6,m7,m8,Z,F,E⟩:=AC u.o;refine Go.Proofs.YtipngnjffjajpaaGreatDoor.gS (fun Wz=>Below Y4.heap.size Y4 Wz) (Below.refl _ _).drew fun f=>?_;generalize Y4.drew=Y24 at f ⊢;refine kO 0 ?_;refine kO 1 ?_;refine kO 3 ?_;refine kO 4 ?_;refine kO 6 ?_;refine kO 7 ?_;refine rdA 2 rfl fun K C=>?_;go_simp;refine (KE.o _ (Ab r.o f)).mono ?_;rintro e e7 ⟨rfl,B⟩;have db:Hx (Ov Y4 e7):=Ab f B;clear B f KE;go_simp;refine xK C (db.o) fun f=>?_;clear C K;refine rdA 5 rfl fun K C=>?_;go_simp;refine (KT.o _ (Ab r.o f)).mono ?_;rintro e e6 ⟨rfl,B⟩;have c9:Hx (Ov Y4 e6):=Ab f B;clear B f KT;go_simp;refine xK C (c9.o) fun f=>?_;clear C K;refine rdA 8 rfl fun K C=>?_;go_simp;refine (KL.o _ (Ab r.o f)).mono ?_;rintro e cz ⟨rfl,B⟩;have a9:Hx (Ov Y4 cz):=Ab f B;clear B f KL;go_simp;refine xK C (a9.o) fun f=>?_;clear C K;refine kO 9 ?_;refine kO 10 ?_;refine kO 11 ?_;refine gE ?_;have L:Hx (Ov wr cz):=Ab r.o a9.o;have ff:Hx (Ae [M O 7,M O a,.string x,.string y,M O e0,M O e1,M O e2,.string e3,U q q1 q2,U aA nA cA,U aT nT cT,U aE nE cE] cz bq):=u.o.over a9.o;clear f m0 m1 m2 m3 m4 m5 m6 m7 m8 Z F E
     cases px with
     | true=>
      cases py with
      | true=>
       cases qe with
       | true=>
        cases qT with
        | true=>
         cases qE with
         | true=>
          cases pA with
          | true=>
           have g:=m.o;rw [show A=true by have h:=v.o;simp at h;exact h,Bool.true_and] at g;replace m:=Aa g;clear g;go_wp2_with fail;exact ⟨⟨j+1,by omega,by go_num,m.o,Ab n.o L.o⟩,by simp [intOf];omega⟩
          | false=>
           have g:=m.o;rw [show A=false by have h:=v.o;simp at h;exact h,Bool.false_and] at g;replace m:=Aa g;clear g;go_wp2_with fail;go_ret;exact ⟨by rw [<-m.o];rfl,Ab n.o L.o⟩
         | false=>
          have g:=m.o;rw [show A=false by have h:=v.o;simp at h;exact h,Bool.false_and] at g;replace m:=Aa g;clear g;go_wp2_with fail;go_ret;exact ⟨by rw [<-m.o];rfl,Ab n.o L.o⟩
        | false=>
         have g:=m.o;rw [show A=false by have h:=v.o;simp at h;exact h,Bool.false_and] at g;replace m:=Aa g;clear g;go_wp2_with fail;go_ret;exact ⟨by rw [<-m.o];rfl,Ab n.o L.o⟩
       | false=>
        have g:=m.o;rw [show A=false by have h:=v.o;simp at h;exact h,Bool.false_and] at g;replace m:=Aa g;clear g;go_wp2_with fail;go_ret;exact ⟨by rw [<-m.o];rfl,Ab n.o L.o⟩
      | false=>
       have g:=m.o;rw [show A=false by have h:=v.o;simp at h;exact h,Bool.false_and] at g;replace m:=Aa g;clear g;go_wp2_with fail;go_ret;exact ⟨by rw [<-m.o];rfl,Ab n.o L.o⟩
     | false=>
      have g:=m.o;rw [show A=false by have h:=v.o;simp at h;exact h,Bool.false_and] at g;replace m:=Aa g;clear g;go_wp2_with fail;go_ret;exact ⟨by rw [<-m.o];rfl,Ab n.o L.o⟩
    by_cases h8:V=8
    ·have v:=Aa (HQ.o.k8 h8)
     subst h8;clear HQ;obtain ⟨n0,n1,n2,n3,n4,n5,n6,n7,n8,n9,I,H⟩:=AC u.o;go_wp2_with fail;clear n0 n1 n2 n3 n4 n5 n6 n7 n8 n9 I H;obtain ⟨m0,m1,m2,m3,m4,m5,m6,m7,m8,Z,F,E⟩:=AC u.o;refine Go.Proofs.YtipngnjffjajpaaGreatDoor.gS (fun Wz=>Below Y4.heap.size Y4 Wz) (Below.refl _ _).drew fun f=>?_;generalize Y4.drew=Y28 at f ⊢;refine kO 0 ?_;refine kO 1 ?_;refine kO 3 ?_;refine kO 4 ?_;refine rdA 2 rfl fun K C=>?_;go_simp;refine (KE.o _ (Ab r.o f)).mono ?_;rintro e e5 ⟨rfl,B⟩;have c8:Hx (Ov Y4 e5):=Ab f B;clear B f KE;go_simp;refine xK C (c8.o) fun f=>?_;clear C K;refine rdA 5 rfl fun K C=>?_;go_simp;refine (KT.o _ (Ab r.o f)).mono ?_;rintro e cy ⟨rfl,B⟩;have a8:Hx (Ov Y4 cy):=Ab f B;clear B f KT;go_simp;refine xK C (a8.o) fun f=>?_;clear C K;refine kO 6 ?_;refine kO 7 ?_;refine gE ?_;have J:Hx (Ov wr cy):=Ab r.o a8.o;have fe:Hx (Ae [M O 8,M O a,.string x,.string y,M O e0,M O e1,M O e2,.string e3,U q q1 q2,U aA nA cA,U aT nT cT,U aE nE cE] cy bq):=u.o.over a8.o;clear f m0 m1 m2 m3 m4 m5 m6 m7 m8 Z F E
     cases px with
     | true=>
      cases py with
      | true=>
       cases qe with
       | true=>
        cases qT with
        | true=>
         cases pE with
         | true=>
          cases pA with
          | true=>
           have g:=m.o;rw [show A=true by have h:=v.o;simp at h;exact h,Bool.true_and] at g;replace m:=Aa g;clear g;go_wp2_with fail;exact ⟨⟨j+1,by omega,by go_num,m.o,Ab n.o J.o⟩,by simp [intOf];omega⟩
          | false=>
           have g:=m.o;rw [show A=false by have h:=v.o;simp at h;exact h,Bool.false_and] at g;replace m:=Aa g;clear g;go_wp2_with fail;go_ret;exact ⟨by rw [<-m.o];rfl,Ab n.o J.o⟩
         | false=>
          have g:=m.o;rw [show A=false by have h:=v.o;simp at h;exact h,Bool.false_and] at g;replace m:=Aa g;clear g;go_wp2_with fail;go_ret;exact ⟨by rw [<-m.o];rfl,Ab n.o J.o⟩
        | false=>
         have g:=m.o;rw [show A=false by have h:=v.o;simp at h;exact h,Bool.false_and] at g;replace m:=Aa g;clear g;go_wp2_with fail;go_ret;exact ⟨by rw [<-m.o];rfl,Ab n.o J.o⟩
       | false=>
        have g:=m.o;rw [show A=false by have h:=v.o;simp at h;exact h,Bool.false_and] at g;replace m:=Aa g;clear g;go_wp2_with fail;go_ret;exact ⟨by rw [<-m.o];rfl,Ab n.o J.o⟩
      | false=>
       have g:=m.o;rw [show A=false by have h:=v.o;simp at h;exact h,Bool.false_and] at g;replace m:=Aa g;clear g;go_wp2_with fail;go_ret;exact ⟨by rw [<-m.o];rfl,Ab n.o J.o⟩
     | false=>
      have g:=m.o;rw [show A=false by have h:=v.o;simp at h;exact h,Bool.false_and] at g;replace m:=Aa g;clear g;go_wp2_with fail;go_ret;exact ⟨by rw [<-m.o];rfl,Ab n.o J.o⟩
    have g:=m.o;rw [show A=false from HQ.o.z h1 h2 h3 h4 h5 h6 h7 h8,Bool.false_and] at g;replace m:=Aa g;clear g;have b1:(V == 1)=false:=by simpa using h1
    have b2:(V == 2)=false:=by simpa using h2
    have b3:(V == 3)=false:=by simpa using h3
    have b4:(V == 4)=false:=by simpa using h4
    have b5:(V == 5)=false:=by simpa using h5
    have b6:(V == 6)=false:=by simpa using h6
    have b7:(V == 7)=false:=by simpa using h7
    have b8:(V == 8)=false:=by simpa using h8
    clear h1 h2 h3 h4 h5 h6 h7 h8;obtain ⟨n0,n1,n2,n3,n4,n5,n6,n7,n8,n9,I,H⟩:=AC u.o;go_wp2_with fail;go_ret;exact ⟨by rw [<-m.o];rfl,Ab n.o r.o⟩
   ·have hd:l.drop j=[]:=List.drop_eq_nil_of_le (by have:=HN.o;omega)
    rw [hd] at g;have m:=Aa g;have HB:=Aa Y;have en:¬ (j:Int) < (nn:Int):=by omega
    clear g Y hd;go_wp2_with fail;go_ret;exact ⟨by rw [<-m.o];rfl,HB.o⟩
end Go.Proofs.YtipngnjffjajpaaGreatDoor.Tx
