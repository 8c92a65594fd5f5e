/- The document's answer: commands. -/
import Derived.Test.YtipngnjffjajpaaGreatDoorK08
set_option linter.unusedVariables false
set_option maxHeartbeats 8000000
set_option maxRecDepth 100000
namespace Go.Proofs.YtipngnjffjajpaaGreatDoor.Tx
open Go.RowKit
open Go.Value renaming int -> O, slice -> zd, bool -> ze, agg -> zf, pointer -> zh, tuple -> zj
open Go.IntKind renaming i64 -> zc
open Go.Obj renaming cells -> zg
open Go.Ending renaming returned -> zi
theorem P4 {w:World} {ke:Nat} {ao:Option Addr} {cap:Nat} {l:List D} (h:LS 12 (ZC w ke 0) w (zd ao l.length cap) l):l=[]:=by
 cases l with
 | nil=>rfl
 | cons a l=>
  obtain ⟨b,c,-,f,-,-,hr⟩:=h.at (j:=0) (by simp);exact hr.elim
theorem EQ (l:List D) (p:D->Bool):lfS l false p=l.isEmpty:=by unfold lfS;cases l <;> simp
theorem I9 (l:List D) (p:D->Bool):lfS l true p=l.all p:=by unfold lfS;simp
structure SfQ (kd:Int) (qs qx qy qo qe qa qT qE px py pA pT pE:Bool):Prop where
 k1:kd=1->qs=(qx && py && qe && pA && pT && pE)
 k2:kd=2->qs=(qx && qy && qo && qa && pT && pE)
 k3:kd=3->qs=(qx && qy && qo && pA && pT && pE)
 k4:kd=4->qs=(px && qy && qe && pA && pT && pE)
 k5:kd=5->qs=(qx && py && qe && pA && pT && pE)
 k6:kd=6->qs=(qx && py && qe && pA && pT && pE)
 k7:kd=7->qs=(px && py && qe && pA && qT && qE)
 k8:kd=8->qs=(px && py && qe && pA && qT && pE)
 z:¬ kd=1->¬ kd=2->¬ kd=3->¬ kd=4->¬ kd=5->¬ kd=6->¬ kd=7->¬ kd=8->qs=false
theorem sfQ (ke k:Nat) (kd a:Int) (x y:ByteArray) (e:D) (args th el:List D):SfQ kd (sfK ke (k+1) (stD kd a x y e args th el)) (nmS x.data.toList) (nmS y.data.toList) (CO e) (efK ke e) (args.all (efK ke)) (th.all (sfK ke k)) (el.all (sfK ke k)) x.data.toList.isEmpty y.data.toList.isEmpty args.isEmpty th.isEmpty el.isEmpty:=by
 constructor
 ·rintro rfl
  simp only [sfK,gSs];simp [FT,FV,Ft,FW,FU,Fu,hOk,nfS,EQ]
 ·rintro rfl
  simp only [sfK,gSs];simp [FT,FV,Ft,FW,FU,Fu,hOk,nfS,EQ,I9]
 ·rintro rfl
  simp only [sfK,gSs];simp [FT,FV,Ft,FW,FU,Fu,hOk,nfS,EQ]
 ·rintro rfl
  simp only [sfK,gSs];simp [FT,FV,Ft,FW,FU,Fu,hOk,nfS,EQ]
 ·rintro rfl
  simp only [sfK,gSs];simp [FT,FV,Ft,FW,FU,Fu,hOk,nfS,EQ]
 ·rintro rfl
  simp only [sfK,gSs];simp [FT,FV,Ft,FW,FU,Fu,hOk,nfS,EQ]
 ·rintro rfl
  simp only [sfK,gSs];simp [FT,FV,Ft,FW,FU,Fu,hOk,nfS,EQ,I9]
 ·rintro rfl
  simp only [sfK,gSs];simp [FT,FV,Ft,FW,FU,Fu,hOk,nfS,EQ,I9]
 ·intro n l j i g f c b
  have:hOk kd=false:=by unfold hOk;simp;omega
  simp only [sfK,gSs];rw [this];simp
theorem Jp {α:Type} (l:List α):((l.length:Int) == 0)=l.isEmpty:=by cases l <;> simp;omega
theorem Co (ke:Nat):∀ (k:Nat) (l:List D) (ao:Option Addr) (cap:Nat) (w:World),LS 12 (ZC w ke k) w (zd ao l.length cap) l->Ro 39 #[zd ao l.length cap] w (ze (l.all (sfK ke k))):=by
 intro k
 induction k with
 | zero=>
  intro l ao cap w hc;obtain rfl:=P4 hc;clear hc;go_enter Tryz.func39,Tryz.ntmps39;go_wp2_with fail;go_loopw [3] (fun i wr=>i=O zc 0/\wr=w) (fun _ _=>0)
  case atStart=>exact ⟨rfl,rfl⟩
  case round=>
   obtain ⟨rfl,rfl⟩:=hrel;go_wp2_with fail;go_ret;exact ⟨rfl,Below.refl _ _⟩
 | succ k ih=>
  intro l ao cap w hc;have HC:=Aa hc;have IH:=Aa ih;have HL:=hc.max;obtain ⟨fin,Z⟩:=nm (l.all (sfK ke (k+1)));rw [<-Z];have HF:=Aa Z;obtain ⟨nn,bf⟩:=nm l.length;rw [<-bf] at HL ⊢;have HN:=Aa bf;clear hc ih Z bf;go_enter Tryz.func39,Tryz.ntmps39;go_wp2_with fail;go_loopw [3] (fun i wr=>∃ (j:Nat),j<=nn/\i=O zc j/\(l.drop j).all (sfK ke (k+1))=fin/\Ov w wr) (fun i _=>nn - (intOf i).toNat)
  case atStart=>exact ⟨0,Nat.zero_le _,rfl,HF.o.symm,Below.refl _ _⟩
  case round=>
   obtain ⟨j,hj,rfl,r,hB⟩:=hrel;by_cases hjl:j < nn
   ·have W:j < l.length:=by have:=HN.o;omega
    have c3:(j:Int) < (nn:Int):=by omega
    obtain ⟨b,eo,rfl,cs,ch,bh,hr⟩:=HC.o.at W;rw [List.drop_eq_getElem_cons W,List.all_cons] at r;generalize l[j]=dj at r hr;obtain ⟨H,a,x,y,e0,e1,e2,e3,q,q1,q2,e,aA,cA,B,aT,cT,th,aE,cE,el,rfl,rfl,hx,hy,he,hA,hT,hE⟩:=hr;have d0:=CK hB bh rfl;have dA:=CJ hB bh;have L:=Aa (sfQ ke k H a x y e B th el);obtain ⟨M,a3⟩:=nm (sfK ke (k+1) (stD H a x y e B th el));obtain ⟨qx,a2⟩:=nm (nmS x.data.toList);obtain ⟨qy,a1⟩:=nm (nmS y.data.toList);obtain ⟨qo,a4⟩:=nm (CO e);obtain ⟨qe,a5⟩:=nm (efK ke e);obtain ⟨qa,a6⟩:=nm (B.all (efK ke));obtain ⟨qT,a7⟩:=nm (th.all (sfK ke k));obtain ⟨qE,a8⟩:=nm (el.all (sfK ke k));obtain ⟨px,bb⟩:=nm x.data.toList.isEmpty;obtain ⟨py,a9⟩:=nm y.data.toList.isEmpty;obtain ⟨pA,be⟩:=nm B.isEmpty;obtain ⟨pT,bc⟩:=nm th.isEmpty;obtain ⟨pE,bd⟩:=nm el.isEmpty;rw [<-a3,<-a2,<-a1,<-a4,<-a5,<-a6,<-a7,<-a8,<-bb,<-a9,<-be,<-bc,<-bd] at L;rw [<-a3] at r;have cl:Hx (x.toList.isEmpty=px):=by show _=_;rw [bb,ByteArray.toList_eq]
    have ck:Hx (y.toList.isEmpty=py):=by show _=_;rw [a9,ByteArray.toList_eq]
    have b9:Hx (((B.length:Int) == 0)=pA):=by show _=_;rw [be,Jp]
    have bk:Hx (((th.length:Int) == 0)=pT):=by show _=_;rw [bc,Jp]
    have bz:Hx (((el.length:Int) == 0)=pE):=by show _=_;rw [bd,Jp]
    have KO:Hx (∀ X,Ov wr X->Ro 78 #[zf #[O zc e0,O zc e1,O zc e2,.string e3,zd q q1 q2]] X (ze qo)):=fun X hX=>by rw [a4];exact Dt ke _ e X ((he.over hB).over hX)
    have V:Hx (∀ X,Ov wr X->Ro 79 #[zf #[O zc e0,O zc e1,O zc e2,.string e3,zd q q1 q2]] X (ze qe)):=fun X hX=>by rw [a5];exact CW ke _ e X ((he.over hB).over hX)
    have KX:Hx (∀ X,Ov wr X->Ro 77 #[.string x] X (ze qx)):=fun X hX=>by rw [a2];exact Bn x X hx
    have KY:Hx (∀ X,Ov wr X->Ro 77 #[.string y] X (ze qy)):=fun X hX=>by rw [a1];exact Bn y X hy
    have KT:Hx (∀ X,Ov wr X->Ro 39 #[zd aT th.length cT] X (ze qT)):=fun X hX=>by rw [a7];exact IH.o th aT cT X (Ar hX (Ar hB hT))
    have KL:Hx (∀ X,Ov wr X->Ro 39 #[zd aE el.length cE] X (ze qE)):=fun X hX=>by rw [a8];exact IH.o el aE cE X (Ar hX (Ar hB hE))
    have cn:=Aa a6;have d5:=hA.max;have d7:=Aa (BQ hB hA);have bn:=Aa (rfl:B.length=B.length);have C:=Aa hB;have A:=Aa r;clear bh ch hB W r a3 a2 a1 a4 a5 a6 a7 a8 bb a9 be bc bd hx hy he hA hT hE;obtain ⟨nA,bg⟩:=nm B.length;rw [<-bg] at dA b9 d5;replace bn:=Aa bg;clear bg;generalize th.length=nT at d0 dA bk KT;generalize el.length=nE at d0 dA bz KL;obtain ⟨W1,ap⟩:=nm (wr.alloc (zg #[O zc H,O zc a,.string x,.string y,O zc e0,O zc e1,O zc e2,.string e3,zd q q1 q2,zd aA nA cA,zd aT nT cT,zd aE nE cE] 55));obtain ⟨bq,bj⟩:=nm wr.heap.size;have cr:=aov ap;have cm:=C2 ap bj;go_wp2_with fail;rw [<-ap,<-bj];clear ap bj d0 dA;have G:=AR cm.o;refine Go.Proofs.YtipngnjffjajpaaGreatDoor.gS (fun I=>Below W1.heap.size W1 I) (Below.refl _ _).drew fun f=>?_;generalize W1.drew=Y2 at f ⊢;refine kO 0 ?_;refine kO 1 ?_;refine kO 2 ?_;refine kO 3 ?_;refine kO 4 ?_;refine kO 5 ?_;refine kO 6 ?_;refine kO 7 ?_;refine rdA 8 rfl fun K v=>?_;go_simp;refine mo (KO.o _ (Ab cr.o f)) fun W3 u=>?_;have af:Hx (Ov W1 W3):=Ab f u;clear u f KO;go_simp;refine xK v (af.o) fun f=>?_;clear v K;refine kO 9 ?_;refine kO 10 ?_;refine kO 11 ?_;refine gE ?_;have cp:=Aa (Ab cr.o af.o);have aw:=Aa (cm.o.over af.o);clear f G;go_wp2_with fail;have G:=AR aw.o;refine Go.Proofs.YtipngnjffjajpaaGreatDoor.gS (fun I=>Below W3.heap.size W3 I) (Below.refl _ _).drew fun f=>?_;generalize W3.drew=Y4 at f ⊢;refine kO 0 ?_;refine kO 1 ?_;refine kO 2 ?_;refine kO 3 ?_;refine kO 4 ?_;refine kO 5 ?_;refine kO 6 ?_;refine kO 7 ?_;refine kO 8 ?_;refine kO 9 ?_;refine kO 10 ?_;refine kO 11 ?_;refine kO 12 ?_;refine kO 13 ?_;refine kO 14 ?_;refine gE ?_;have g:=Aa (Ab cp.o f);have n:=Aa (aw.o.over f);clear f G;rw [cl.o,ck.o,bk.o,bz.o,b9.o];clear cl ck bk bz b9;by_cases h1:H=1
    ·have F:=Aa (L.o.k1 h1)
     subst h1;clear L;have J:=AR n.o;go_wp2_with fail;clear J;have G:=AR n.o;refine Go.Proofs.YtipngnjffjajpaaGreatDoor.gS (fun I=>Below Y4.heap.size Y4 I) (Below.refl _ _).drew fun f=>?_;generalize Y4.drew=Y6 at f ⊢;refine kO 0 ?_;refine kO 1 ?_;refine kO 3 ?_;refine kO 4 ?_;refine rdA 2 rfl fun K v=>?_;go_simp;refine mo (KX.o _ (Ab g.o f)) fun W7 u=>?_;have co:Hx (Ov Y4 W7):=Ab f u;clear u f KX;go_simp;refine xK v (co.o) fun f=>?_;clear v K;refine rdA 5 rfl fun K v=>?_;go_simp;refine mo (V.o _ (Ab g.o f)) fun W8 u=>?_;have ae:Hx (Ov Y4 W8):=Ab f u;clear u f V;go_simp;refine xK v (ae.o) fun f=>?_;clear v K;refine kO 6 ?_;refine kO 7 ?_;refine gE ?_;have ax:=Aa (Ab g.o ae.o);have ei:=Aa (n.o.over ae.o);clear f G;cases qx
     case' true=>
      cases py
      case' true=>
       cases qe
       case' true=>
        cases pT
        case' true=>
         cases pE
         case' true=>
          cases pA
          case' true=>
           have r:=A.o;rw [show M=true by have h:=F.o;simp at h;exact h,Bool.true_and] at r;replace A:=Aa r;clear r;go_wp2_with fail;exact ⟨⟨j+1,by omega,by go_num,A.o,Ab C.o ax.o⟩,by simp [intOf];omega⟩
     all_goals
      have r:=A.o;rw [show M=false by have h:=F.o;simp at h;exact h,Bool.false_and] at r;replace A:=Aa r;clear r;go_wp2_with fail;go_ret;exact ⟨by rw [<-A.o];rfl,Ab C.o ax.o⟩
    by_cases h5:H=5
    ·have F:=Aa (L.o.k5 h5)
     subst h5;clear L;have J:=AR n.o;go_wp2_with fail;clear J;have G:=AR n.o;refine Go.Proofs.YtipngnjffjajpaaGreatDoor.gS (fun I=>Below Y4.heap.size Y4 I) (Below.refl _ _).drew fun f=>?_;generalize Y4.drew=Y9 at f ⊢;refine kO 0 ?_;refine kO 1 ?_;refine kO 3 ?_;refine kO 4 ?_;refine rdA 2 rfl fun K v=>?_;go_simp;refine mo (KX.o _ (Ab g.o f)) fun dw u=>?_;have bw:Hx (Ov Y4 dw):=Ab f u;clear u f KX;go_simp;refine xK v (bw.o) fun f=>?_;clear v K;refine rdA 5 rfl fun K v=>?_;go_simp;refine mo (V.o _ (Ab g.o f)) fun dv u=>?_;have U:Hx (Ov Y4 dv):=Ab f u;clear u f V;go_simp;refine xK v (U.o) fun f=>?_;clear v K;refine kO 6 ?_;refine kO 7 ?_;refine gE ?_;have al:=Aa (Ab g.o U.o);have d4:=Aa (n.o.over U.o);clear f G;cases qx
     case' true=>
      cases py
      case' true=>
       cases qe
       case' true=>
        cases pT
        case' true=>
         cases pE
         case' true=>
          cases pA
          case' true=>
           have r:=A.o;rw [show M=true by have h:=F.o;simp at h;exact h,Bool.true_and] at r;replace A:=Aa r;clear r;go_wp2_with fail;exact ⟨⟨j+1,by omega,by go_num,A.o,Ab C.o al.o⟩,by simp [intOf];omega⟩
     all_goals
      have r:=A.o;rw [show M=false by have h:=F.o;simp at h;exact h,Bool.false_and] at r;replace A:=Aa r;clear r;go_wp2_with fail;go_ret;exact ⟨by rw [<-A.o];rfl,Ab C.o al.o⟩
    by_cases h6:H=6
    ·have F:=Aa (L.o.k6 h6)
     subst h6;clear L;have J:=AR n.o;go_wp2_with fail;clear J;have G:=AR n.o;refine Go.Proofs.YtipngnjffjajpaaGreatDoor.gS (fun I=>Below Y4.heap.size Y4 I) (Below.refl _ _).drew fun f=>?_;generalize Y4.drew=Y12 at f ⊢;refine kO 0 ?_;refine kO 1 ?_;refine kO 3 ?_;refine kO 4 ?_;refine rdA 2 rfl fun K v=>?_;go_simp;refine mo (KX.o _ (Ab g.o f)) fun du u=>?_;have bv:Hx (Ov Y4 du):=Ab f u;clear u f KX;go_simp;refine xK v (bv.o) fun f=>?_;clear v K;refine rdA 5 rfl fun K v=>?_;go_simp;refine mo (V.o _ (Ab g.o f)) fun dt u=>?_;have T:Hx (Ov Y4 dt):=Ab f u;clear u f V;go_simp;refine xK v (T.o) fun f=>?_;clear v K;refine kO 6 ?_;refine kO 7 ?_;refine gE ?_;have ak:=Aa (Ab g.o T.o);have d3:=Aa (n.o.over T.o);clear f G;cases qx
     case' true=>
      cases py
      case' true=>
       cases qe
       case' true=>
        cases pT
        case' true=>
         cases pE
         case' true=>
          cases pA
          case' true=>
           have r:=A.o;rw [show M=true by have h:=F.o;simp at h;exact h,Bool.true_and] at r;replace A:=Aa r;clear r;go_wp2_with fail;exact ⟨⟨j+1,by omega,by go_num,A.o,Ab C.o ak.o⟩,by simp [intOf];omega⟩
     all_goals
      have r:=A.o;rw [show M=false by have h:=F.o;simp at h;exact h,Bool.false_and] at r;replace A:=Aa r;clear r;go_wp2_with fail;go_ret;exact ⟨by rw [<-A.o];rfl,Ab C.o ak.o⟩
    by_cases h2:H=2
    ·have F:=Aa (L.o.k2 h2)
     subst h2;clear L;have J:=AR n.o;go_wp2_with fail;clear J;have G:=AR n.o;refine Go.Proofs.YtipngnjffjajpaaGreatDoor.gS (fun I=>Below Y4.heap.size Y4 I) (Below.refl _ _).drew fun f=>?_;generalize Y4.drew=Y15 at f ⊢;refine kO 0 ?_;refine kO 1 ?_;refine kO 3 ?_;refine kO 4 ?_;refine rdA 2 rfl fun K v=>?_;go_simp;refine mo (KX.o _ (Ab g.o f)) fun ds u=>?_;have bu:Hx (Ov Y4 ds):=Ab f u;clear u f KX;go_simp;refine xK v (bu.o) fun f=>?_;clear v K;refine rdA 5 rfl fun K v=>?_;go_simp;refine mo (KY.o _ (Ab g.o f)) fun cj u=>?_;have S:Hx (Ov Y4 cj):=Ab f u;clear u f KY;go_simp;refine xK v (S.o) fun f=>?_;clear v K;refine kO 6 ?_;refine kO 7 ?_;refine kO 8 ?_;refine gE ?_;have b0:=Aa (Ab g.o S.o);have bl:=Aa (n.o.over S.o);clear f G;go_wp2_with fail;go_loopw [10,11] (fun c i ws=>∃ (i2:Nat) (t:Bool),i2<=nA/\i=O zc i2/\c=ze t/\(t && (B.drop i2).all (efK ke))=qa/\Ov cj ws) (fun _ i _=>nA - (intOf i).toNat)
     case atStart=>exact ⟨0,true,Nat.zero_le _,rfl,rfl,by rw [Bool.true_and];exact cn.o.symm,Below.refl _ _⟩
     case round=>
      obtain ⟨i,t,ep,rfl,rfl,E,ac⟩:=hrel;have aq:=Aa (Ab b0.o ac);have ab:=aq.o;have J:=AR (bl.o.over ac);by_cases hil:i < nA
      case' pos=>
       have Y:i < B.length:=by have:=bn.o;omega
       have c4:(i:Int) < (nA:Int):=by omega
       obtain ⟨ba,oa,rfl,ca,c2,bi,an⟩:=d7.o.at Y;rw [List.drop_eq_getElem_cons Y,List.all_cons] at E;generalize B[i]=da at E an;obtain ⟨rq,a0⟩:=nm (efK ke da);rw [<-a0] at E;have KQ:Hx (∀ X,Ov wr X->Ro 79 #[.agg ca.toArray] X (ze rq)):=fun X hX=>by rw [a0];exact CW ke ca da X ((an.over ab).over hX)
       obtain ⟨k0,k1,k2,k3,k4,k5,k6,rfl⟩:=an.cells;have z0:=CK ab bi rfl;have zA:=CJ ab bi;have cq:=Aa ac;clear ac ab an bi c2 a0 Y
       cases t with
       | true=>
        rw [Bool.true_and] at E;have bm:=Aa E;clear E;go_wp2_with fail;refine mo (KQ.o _ (Below.refl _ _)) fun W9 u=>?_;have d6:=Aa (Ab cq.o u);clear u z0 zA J KQ aq;go_wp2_with fail;exact ⟨⟨i+1,rq,by omega,by go_num,rfl,bm.o,d6.o⟩,by simp [intOf];omega⟩
       | false=>
        rw [Bool.false_and] at E;have bm:=Aa E;clear E;go_wp2_with fail;exact ⟨⟨i+1,false,by omega,by go_num,rfl,by rw [Bool.false_and];exact bm.o,cq.o⟩,by simp [intOf];omega⟩
      case' neg=>
       have hd:B.drop i=[]:=List.drop_eq_nil_of_le (by have:=bn.o;omega);have c4:¬ (i:Int) < (nA:Int):=by omega
       rw [hd] at E;have c1:t=qa:=by rw [<-E];simp
       subst c1;clear hd E ac ab cn;cases qx
       case' true=>
        cases qy
        case' true=>
         cases qo
         case' true=>
          cases pT
          case' true=>
           cases pE
           case' true=>
            cases t
            case' true=>
             have r:=A.o;rw [show M=true by have h:=F.o;simp at h;exact h,Bool.true_and] at r;replace A:=Aa r;clear r;go_wp2_with fail;exact ⟨⟨j+1,by omega,by go_num,A.o,Ab C.o aq.o⟩,by simp [intOf];omega⟩
      all_goals
       have r:=A.o;rw [show M=false by have h:=F.o;simp at h;exact h,Bool.false_and] at r;replace A:=Aa r;clear r;go_wp2_with fail;go_ret;exact ⟨by rw [<-A.o];rfl,Ab C.o aq.o⟩
    by_cases h3:H=3
    ·have F:=Aa (L.o.k3 h3)
     subst h3;clear L;have J:=AR n.o;go_wp2_with fail;clear J;have G:=AR n.o;refine Go.Proofs.YtipngnjffjajpaaGreatDoor.gS (fun I=>Below Y4.heap.size Y4 I) (Below.refl _ _).drew fun f=>?_;generalize Y4.drew=Y18 at f ⊢;refine kO 0 ?_;refine kO 1 ?_;refine kO 3 ?_;refine kO 4 ?_;refine rdA 2 rfl fun K v=>?_;go_simp;refine mo (KX.o _ (Ab g.o f)) fun dr u=>?_;have bt:Hx (Ov Y4 dr):=Ab f u;clear u f KX;go_simp;refine xK v (bt.o) fun f=>?_;clear v K;refine rdA 5 rfl fun K v=>?_;go_simp;refine mo (KY.o _ (Ab g.o f)) fun dq u=>?_;have R:Hx (Ov Y4 dq):=Ab f u;clear u f KY;go_simp;refine xK v (R.o) fun f=>?_;clear v K;refine kO 6 ?_;refine kO 7 ?_;refine gE ?_;have aj:=Aa (Ab g.o R.o);have d2:=Aa (n.o.over R.o);clear f G;cases qx
     case' true=>
      cases qy
      case' true=>
       cases qo
       case' true=>
        cases pT
        case' true=>
         cases pE
         case' true=>
          cases pA
          case' true=>
           have r:=A.o;rw [show M=true by have h:=F.o;simp at h;exact h,Bool.true_and] at r;replace A:=Aa r;clear r;go_wp2_with fail;exact ⟨⟨j+1,by omega,by go_num,A.o,Ab C.o aj.o⟩,by simp [intOf];omega⟩
     all_goals
      have r:=A.o;rw [show M=false by have h:=F.o;simp at h;exact h,Bool.false_and] at r;replace A:=Aa r;clear r;go_wp2_with fail;go_ret;exact ⟨by rw [<-A.o];rfl,Ab C.o aj.o⟩
    by_cases h4:H=4
    ·have F:=Aa (L.o.k4 h4)
     subst h4;clear L;have J:=AR n.o;go_wp2_with fail;clear J;have G:=AR n.o;refine Go.Proofs.YtipngnjffjajpaaGreatDoor.gS (fun I=>Below Y4.heap.size Y4 I) (Below.refl _ _).drew fun f=>?_;generalize Y4.drew=Y21 at f ⊢;refine kO 0 ?_;refine kO 1 ?_;refine kO 3 ?_;refine kO 4 ?_;refine rdA 2 rfl fun K v=>?_;go_simp;refine mo (KY.o _ (Ab g.o f)) fun dp u=>?_;have bs:Hx (Ov Y4 dp):=Ab f u;clear u f KY;go_simp;refine xK v (bs.o) fun f=>?_;clear v K;refine rdA 5 rfl fun K v=>?_;go_simp;refine mo (V.o _ (Ab g.o f)) fun dn u=>?_;have Q:Hx (Ov Y4 dn):=Ab f u;clear u f V;go_simp;refine xK v (Q.o) fun f=>?_;clear v K;refine kO 6 ?_;refine kO 7 ?_;refine gE ?_;have ai:=Aa (Ab g.o Q.o);have d1:=Aa (n.o.over Q.o);clear f G;cases px
     case' true=>
      cases qy
      case' true=>
       cases qe
       case' true=>
        cases pT
        case' true=>
         cases pE
         case' true=>
          cases pA
          case' true=>
           have r:=A.o;rw [show M=true by have h:=F.o;simp at h;exact h,Bool.true_and] at r;replace A:=Aa r;clear r;go_wp2_with fail;exact ⟨⟨j+1,by omega,by go_num,A.o,Ab C.o ai.o⟩,by simp [intOf];omega⟩
     all_goals
      have r:=A.o;rw [show M=false by have h:=F.o;simp at h;exact h,Bool.false_and] at r;replace A:=Aa r;clear r;go_wp2_with fail;go_ret;exact ⟨by rw [<-A.o];rfl,Ab C.o ai.o⟩
    by_cases h7:H=7
    ·have F:=Aa (L.o.k7 h7)
     subst h7;clear L;have J:=AR n.o;go_wp2_with fail;clear J;have G:=AR n.o;refine Go.Proofs.YtipngnjffjajpaaGreatDoor.gS (fun I=>Below Y4.heap.size Y4 I) (Below.refl _ _).drew fun f=>?_;generalize Y4.drew=Y24 at f ⊢;refine kO 0 ?_;refine kO 1 ?_;refine kO 3 ?_;refine kO 4 ?_;refine kO 6 ?_;refine kO 7 ?_;refine rdA 2 rfl fun K v=>?_;go_simp;refine mo (V.o _ (Ab g.o f)) fun dm u=>?_;have br:Hx (Ov Y4 dm):=Ab f u;clear u f V;go_simp;refine xK v (br.o) fun f=>?_;clear v K;refine rdA 5 rfl fun K v=>?_;go_simp;refine mo (KT.o _ (Ab g.o f)) fun dl u=>?_;have bp:Hx (Ov Y4 dl):=Ab f u;clear u f KT;go_simp;refine xK v (bp.o) fun f=>?_;clear v K;refine rdA 8 rfl fun K v=>?_;go_simp;refine mo (KL.o _ (Ab g.o f)) fun dk u=>?_;have P:Hx (Ov Y4 dk):=Ab f u;clear u f KL;go_simp;refine xK v (P.o) fun f=>?_;clear v K;refine kO 9 ?_;refine kO 10 ?_;refine kO 11 ?_;refine gE ?_;have ah:=Aa (Ab g.o P.o);have dz:=Aa (n.o.over P.o);clear f G;cases px
     case' true=>
      cases py
      case' true=>
       cases qe
       case' true=>
        cases qT
        case' true=>
         cases qE
         case' true=>
          cases pA
          case' true=>
           have r:=A.o;rw [show M=true by have h:=F.o;simp at h;exact h,Bool.true_and] at r;replace A:=Aa r;clear r;go_wp2_with fail;exact ⟨⟨j+1,by omega,by go_num,A.o,Ab C.o ah.o⟩,by simp [intOf];omega⟩
     all_goals
      have r:=A.o;rw [show M=false by have h:=F.o;simp at h;exact h,Bool.false_and] at r;replace A:=Aa r;clear r;go_wp2_with fail;go_ret;exact ⟨by rw [<-A.o];rfl,Ab C.o ah.o⟩
    by_cases h8:H=8
    ·have F:=Aa (L.o.k8 h8)
     subst h8;clear L;have J:=AR n.o;go_wp2_with fail;clear J;have G:=AR n.o;refine Go.Proofs.YtipngnjffjajpaaGreatDoor.gS (fun I=>Below Y4.heap.size Y4 I) (Below.refl _ _).drew fun f=>?_;generalize Y4.drew=Y28 at f ⊢;refine kO 0 ?_;refine kO 1 ?_;refine kO 3 ?_;refine kO 4 ?_;refine rdA 2 rfl fun K v=>?_;go_simp;refine mo (V.o _ (Ab g.o f)) fun di u=>?_;have bo:Hx (Ov Y4 di):=Ab f u;clear u f V;go_simp;refine xK v (bo.o) fun f=>?_;clear v K;refine rdA 5 rfl fun K v=>?_;go_simp;refine mo (KT.o _ (Ab g.o f)) fun dh u=>?_;have N:Hx (Ov Y4 dh):=Ab f u;clear u f KT;go_simp;refine xK v (N.o) fun f=>?_;clear v K;refine kO 6 ?_;refine kO 7 ?_;refine gE ?_;have ag:=Aa (Ab g.o N.o);have dy:=Aa (n.o.over N.o);clear f G;cases px
     case' true=>
      cases py
      case' true=>
       cases qe
       case' true=>
        cases qT
        case' true=>
         cases pE
         case' true=>
          cases pA
          case' true=>
           have r:=A.o;rw [show M=true by have h:=F.o;simp at h;exact h,Bool.true_and] at r;replace A:=Aa r;clear r;go_wp2_with fail;exact ⟨⟨j+1,by omega,by go_num,A.o,Ab C.o ag.o⟩,by simp [intOf];omega⟩
     all_goals
      have r:=A.o;rw [show M=false by have h:=F.o;simp at h;exact h,Bool.false_and] at r;replace A:=Aa r;clear r;go_wp2_with fail;go_ret;exact ⟨by rw [<-A.o];rfl,Ab C.o ag.o⟩
    have r:=A.o;rw [show M=false from L.o.z h1 h2 h3 h4 h5 h6 h7 h8,Bool.false_and] at r;replace A:=Aa r;clear r;have b1:(H == 1)=false:=by simpa using h1
    have b2:(H == 2)=false:=by simpa using h2
    have b3:(H == 3)=false:=by simpa using h3
    have b4:(H == 4)=false:=by simpa using h4
    have b5:(H == 5)=false:=by simpa using h5
    have b6:(H == 6)=false:=by simpa using h6
    have b7:(H == 7)=false:=by simpa using h7
    have b8:(H == 8)=false:=by simpa using h8
    clear h1 h2 h3 h4 h5 h6 h7 h8;have J:=AR n.o;go_wp2_with fail;go_ret;exact ⟨by rw [<-A.o];rfl,Ab C.o g.o⟩
   ·have hd:l.drop j=[]:=List.drop_eq_nil_of_le (by have:=HN.o;omega)
    rw [hd] at r;have A:=Aa r;have HB:=Aa hB;have c3:¬ (j:Int) < (nn:Int):=by omega
    clear r hB hd;go_wp2_with fail;go_ret;exact ⟨by rw [<-A.o];rfl,HB.o⟩
end Go.Proofs.YtipngnjffjajpaaGreatDoor.Tx
