/- The document's answer: declarations. -/
import Derived.Test.YtipngnjffjajpaaGreatDoorH34
set_option linter.unusedVariables false
set_option maxHeartbeats 8000000
set_option maxRecDepth 100000
namespace Go.Proofs.YtipngnjffjajpaaGreatDoor.Tx
open Go.RowKit
open Go.Value renaming int -> M, slice -> U, bool -> zc, pointer -> zd, agg -> zf, tuple -> zh
open Go.IntKind renaming i64 -> O
open Go.Obj renaming cells -> ze
open Go.Ending renaming returned -> zg
theorem Kc (ke kc:Nat) (a:Int) (x y:ByteArray) (aL:Option Addr) (cL:Nat) (lb:List D) (aP:Option Addr) (cP:Nat) (ps:List ByteArray) (aB:Option Addr) (cB:Nat) (body:List D) (e0 e1 e2:Int) (e3:ByteArray) (q:Option Addr) (q1 q2:Nat) (r:D) (w:World) (hx:x.size<=maxLen) (hy:y.size<=maxLen) (hL:LS 4 (ZP w) w (U aL lb.length cL) lb) (hP:LS 1 ZN w (U aP ps.length cP) ps) (hB:LS 12 (ZC w ke kc) w (U aB body.length cB) body) (hR:ZE w ke [M O e0,M O e1,M O e2,.string e3,U q q1 q2] r) :
  Ro 38 #[zf #[M O 4,M O a,.string x,.string y,zc true,U aL lb.length cL,U aP ps.length cP,U aB body.length cB,M O e0,M O e1,M O e2,.string e3,U q q1 q2]] w (zc (dfK ke kc (deD 4 a x y true lb ps body r))):=by
 obtain ⟨fin,H⟩:=nm (dfK ke kc (deD 4 a x y true lb ps body r));rw [<-H];unfold dfK Ds Du at H;simp only [gDd,BW nmS,BV,List.length_map] at H;obtain ⟨qx,ap⟩:=nm (nmS x.data.toList);obtain ⟨qy,ao⟩:=nm (y.data.toList.isEmpty);obtain ⟨ql,N⟩:=nm (lb.all Cv);obtain ⟨qp,ar⟩:=nm (ps.all fun x=>nmS x.data.toList);obtain ⟨qb,av⟩:=nm (body.all (sfK ke kc));obtain ⟨qr,aq⟩:=nm (efK ke r);obtain ⟨qo,au⟩:=nm (CT r);obtain ⟨L,P⟩:=nm lb.length;obtain ⟨nP,T⟩:=nm ps.length;obtain ⟨nB,V⟩:=nm body.length;have ay:(lb≠[])=(L≠0):=by rw [P];simp
 have b5:L=0->ql=true:=fun h=>by rw [N,List.length_eq_zero_iff.1 (P.symm.trans h)];rfl
 simp only [<-ap,<-N,<-ar,<-av,<-aq,<-au,<-T,<-V,ay] at H;have HF:Hx (fin=(qx && qy && (true && ql) && (decide (nP=0) && decide (nB=0) && qo))):=by
  show _=_;rw [H,ao];by_cases h0:L=0
  ·simp [nfS]
  ·simp [nfS]
 have be:Hx (∀ X,Ov w X->Ro 76 #[M O 4,M O 1,M O 7] X (zc true)):=fun X _=>by simpa using AM 4 1 7 X
 have bd:Hx (∀ X,Ov w X->Ro 76 #[M O 4,M O 4,M O 6] X (zc true)):=fun X _=>by simpa using AM 4 4 6 X
 have KX:Hx (∀ X,Ov w X->Ro 77 #[.string x] X (zc qx)):=fun X _=>by rw [ap];exact AV x X hx
 have ag:=Aa ao;have KO:Hx (∀ X,Ov w X->Ro 78 #[zf #[M O e0,M O e1,M O e2,.string e3,U q q1 q2]] X (zc qo)):=fun X hX=>by rw [au];exact BS ke _ r X (hR.over hX)
 have KR:Hx (∀ X,Ov w X->Ro 79 #[zf #[M O e0,M O e1,M O e2,.string e3,U q q1 q2]] X (zc qr)):=fun X hX=>by rw [aq];exact Bw ke _ r X (hR.over hX)
 have b9:Hx (∀ X,Ov w X->Ro 39 #[U aB body.length cB] X (zc qb)):=fun X hX=>by rw [av];exact Bc ke kc body aB cB X (Ay hX hB)
 rw [<-V] at b9;have cg:=hL.max;have ce:=hP.max;have bi:=hB.max;rw [<-P] at cg;rw [<-T] at ce;rw [<-V] at bi;have ch:=Aa hL;have dl:=Aa hP;have bg:=Aa N;have dk:=Aa ar;have bh:=Aa P;have dm:=Aa T;rw [<-P,<-T,<-V];clear H ap ao N ar av aq au ay b5 hL hP hB hR P T V hx hy;go_enter Tryz.func38,Tryz.ntmps38;go_wp2_with fail;refine (be.o _ (bA w (ze #[M O 4,M O a,.string x,.string y,zc true,U aL L cL,U aP nP cP,U aB nB cB,M O e0,M O e1,M O e2,.string e3,U q q1 q2] 51))).mono ?_;rintro e w1 ⟨rfl,G⟩;have bm:Hx (Ov w w1):=Ab (bA w (ze #[M O 4,M O a,.string x,.string y,zc true,U aL L cL,U aP nP cP,U aB nB cB,M O e0,M O e1,M O e2,.string e3,U q q1 q2] 51)) G;have Z:Hx (Ae [M O 4,M O a,.string x,.string y,zc true,U aL L cL,U aP nP cP,U aB nB cB,M O e0,M O e1,M O e2,.string e3,U q q1 q2] w1 w.heap.size):=Ae.over (AW w [M O 4,M O a,.string x,.string y,zc true,U aL L cL,U aP nP cP,U aB nB cB,M O e0,M O e1,M O e2,.string e3,U q q1 q2] 51) G;clear G  be;obtain ⟨E,C,B,A,v,u,n,m,l,k,g,f,c⟩:=Ap Z.o;go_wp2_with fail;refine (KX.o _ (bm.o)).mono ?_;rintro e w2 ⟨rfl,G⟩;have am:Hx (Ov w w2):=Ab (bm.o) G;have J:Hx (Ae [M O 4,M O a,.string x,.string y,zc true,U aL L cL,U aP nP cP,U aB nB cB,M O e0,M O e1,M O e2,.string e3,U q q1 q2] w2 w.heap.size):=Z.o.over G;clear G E C B A v u n m l k g f c KX
 cases qx with
 | true=>
  by_cases hy0:y.data.toList=[]
  ·obtain rfl:=Aq hy0
   have an:qy=true:=by rw [ag.o];rfl
   subst an;clear hy0 ag;obtain ⟨E,C,B,A,v,u,n,m,l,k,g,f,c⟩:=Ap J.o;go_wp2_with fail;refine (bd.o _ (am.o)).mono ?_;rintro e w3 ⟨rfl,G⟩;have al:Hx (Ov w w3):=Ab (am.o) G;have I:Hx (Ae [M O 4,M O a,.string x,.string ⟨#[]⟩,zc true,U aL L cL,U aP nP cP,U aB nB cB,M O e0,M O e1,M O e2,.string e3,U q q1 q2] w3 w.heap.size):=J.o.over G;clear G E C B A v u n m l k g f c bd;obtain ⟨E,C,B,A,v,u,n,m,l,k,g,f,c⟩:=Ap I.o;go_wp2_with fail;clear E C B A v u n m l k g f c;go_loopw [3] (fun i wr=>∃ (j:Nat),j<=L/\i=M O j/\(lb.drop j).all Cv=ql/\Ov w3 wr) (fun i _=>L - (intOf i).toNat)
   case atStart=>exact ⟨0,Nat.zero_le _,rfl,bg.o.symm,Below.refl _ _⟩
   case round=>
    obtain ⟨j,hj,rfl,F,hB⟩:=hrel;by_cases hjl:j < L
    ·have W:j < lb.length:=by have:=bh.o;omega
     have b6:(j:Int) < (L:Int):=by omega
     obtain ⟨b,c4,rfl,cs,b3,ad,hr⟩:=ch.o.at W;rw [List.drop_eq_getElem_cons W,List.all_cons] at F;generalize lb[j]=dj at F hr;obtain ⟨pa,po,pw,pn,pc,ns,rfl,rfl,ho,hN⟩:=hr;unfold Cv at F;simp only [gPp,BW nmS] at F;obtain ⟨q8,aw⟩:=nm (nmS po.data.toList);obtain ⟨q9,S⟩:=nm (ns.all fun x=>nmS x.data.toList);rw [<-aw,<-S] at F;have a9:(q8 && q9 && (lb.drop (j+1)).all Cv)=ql:=F;have af:=Ab al.o hB;have KC:Hx (∀ X,Ov wr X->Ro 77 #[.string po] X (zc q8)):=fun X _=>by rw [aw];exact AV po X ho
     have cd:=Aa (Br af hN);have cc:=Aa S;obtain ⟨nN,az⟩:=nm ns.length;have cf:=hN.max;rw [<-az] at cf ad;have bf:=Aa az;have z1:=ce1 af (ad 1 _ rfl);have z3:=ce1 af (ad 3 _ rfl);have cb:=Aa z3;obtain ⟨n0,n1,n2,n3,n4,n5,n6,n7,n8,n9,b2,b1,b0⟩:=Ap (I.o.over hB);have HP:=Aa a9;have HB:=Aa hB;clear F a9 hB af ad b3 aw S W ho hN az;go_wp2_with fail;refine (KC.o _ (Below.refl _ _)).mono ?_;rintro e W6 ⟨rfl,G⟩;have a4:=Aa (Ab HB.o G);have bj:=Aa G;clear G KC z1 z3 n0 n1 n2 n3 n4 n5 n6 n7 n8 n9 b2 b1 b0
     cases q8 with
     | false=>
      have F:=HP.o;simp at F;subst F;have R:Hx (fin=false):=by have h:=HF.o;simp at h;exact h
      go_wp2_with fail;go_ret;exact ⟨by rw [R.o];rfl,Ab al.o a4.o⟩
     | true=>
      have F:=HP.o;rw [Bool.true_and] at F;replace HP:=Aa F;clear F;go_wp2_with fail;go_loopw [4] (fun i ws=>∃ (i2:Nat),i2<=nN/\i=M O i2/\(ns.drop i2).all (fun x=>nmS x.data.toList)=q9/\Ov W6 ws) (fun i _=>nN - (intOf i).toNat)
      case atStart=>exact ⟨0,Nat.zero_le _,rfl,cc.o.symm,Below.refl _ _⟩
      case round=>
       obtain ⟨i,df,rfl,K,Q⟩:=hrel;have ae:=Ab a4.o Q;obtain ⟨p0,p1,p2,p3,p4,p5,p6,p7,p8,p9,bz,bw,bv⟩:=Ap (I.o.over ae);have z3:=ce1 (Ab bj.o Q) cb.o;by_cases hil:i < nN
       ·have Y:i < ns.length:=by have:=bf.o;omega
        have b7:(i:Int) < (nN:Int):=by omega
        obtain ⟨ba,oa,rfl,ca,b4,a0,ac⟩:=cd.o.at Y;rw [List.drop_eq_getElem_cons Y,List.all_cons] at K;generalize ns[i]=da at K ac;obtain ⟨q7,ax⟩:=nm (nmS da.data.toList);rw [<-ax] at K;have KQ:Hx (∀ X,Ov wr X->Ro 77 #[.string da] X (zc q7)):=fun X _=>by rw [ax];exact AV da X ac.2
        rw [ac.1] at a0;have y0:wr.cell? ⟨ba,oa+i,none⟩=some (.string da):=ce1 (Ab bj.o Q) (by have:=a0 0 _ rfl;simpa using this);have aj:=Aa K;have a3:=Aa Q;clear K Q ae a0 b4 ac ax Y;go_wp2_with fail;refine (KQ.o _ (Below.refl _ _)).mono ?_;rintro e W7 ⟨rfl,G⟩;have bl:=Aa (Ab a3.o G);clear G KQ y0 z3 p0 p1 p2 p3 p4 p5 p6 p7 p8 p9 bz bw bv
        cases q7 with
        | true=>
         have F:=aj.o;rw [Bool.true_and] at F;replace aj:=Aa F;clear F;go_wp2_with fail;exact ⟨⟨i+1,by omega,by go_num,aj.o,bl.o⟩,by simp [intOf];omega⟩
        | false=>
         have F:=aj.o;rw [Bool.false_and] at F;subst F;have F:=HP.o;rw [Bool.false_and] at F;subst F;have R:Hx (fin=false):=by have h:=HF.o;simp at h;exact h
         go_wp2_with fail;go_ret;exact ⟨by rw [R.o];rfl,Ab al.o (Ab a4.o bl.o)⟩
       ·have hd:ns.drop i=[]:=List.drop_eq_nil_of_le (by have:=bf.o;omega)
        have b7:¬ (i:Int) < (nN:Int):=by omega
        rw [hd] at K;have S:true=q9:=by rw [<-K];rfl
        subst S;have F:=HP.o;rw [Bool.true_and] at F;replace HP:=Aa F;have a3:=Aa ae;clear F hd K Q ae;go_wp2_with fail;exact ⟨⟨j+1,by omega,by go_num,HP.o,a3.o⟩,by simp [intOf];omega⟩
    ·have hd:lb.drop j=[]:=List.drop_eq_nil_of_le (by have:=bh.o;omega)
     have b6:¬ (j:Int) < (L:Int):=by omega
     rw [hd] at F;have N:true=ql:=by rw [<-F];rfl
     subst N;have ak:=Aa (Ab al.o hB);have ah:=Aa (I.o.over hB);clear F hd hB bg;by_cases h1:nP=0
     ·subst h1
      by_cases h2:nB=0
      ·subst h2
       obtain ⟨E,C,B,A,v,u,n,m,l,k,g,f,c⟩:=Ap ah.o;go_wp2_with fail;refine (KO.o _ (ak.o)).mono ?_;rintro e a6 ⟨rfl,G⟩;have bk:Hx (Ov w a6):=Ab (ak.o) G;have ai:Hx (Ae [M O 4,M O a,.string x,.string ⟨#[]⟩,zc true,U aL L cL,U aP 0 cP,U aB 0 cB,M O e0,M O e1,M O e2,.string e3,U q q1 q2] a6 w.heap.size):=ah.o.over G;clear G E C B A v u n m l k g f c KO;have R:Hx (fin=qo):=by have h:=HF.o;simp at h;exact h
       obtain ⟨E,C,B,A,v,u,n,m,l,k,g,f,c⟩:=Ap ai.o;go_wp2_with fail;go_ret;exact ⟨by rw [R.o];(first | rfl | (simp;done) | (simp;assumption) | (simp;omega)),bk.o⟩
      ·have hi:¬ (nB:Int)=0:=by omega
       have R:Hx (fin=false):=by have h:=HF.o;simp [h2] at h;exact h
       obtain ⟨E,C,B,A,v,u,n,m,l,k,g,f,c⟩:=Ap ah.o;go_wp2_with fail;go_ret;exact ⟨by rw [R.o];(first | rfl | (simp;done) | (simp;assumption) | (simp;omega)),ak.o⟩
     ·have hi:¬ (nP:Int)=0:=by omega
      have R:Hx (fin=false):=by have h:=HF.o;simp [h1] at h;exact h
      obtain ⟨E,C,B,A,v,u,n,m,l,k,g,f,c⟩:=Ap ah.o;go_wp2_with fail;go_ret;exact ⟨by rw [R.o];(first | rfl | (simp;done) | (simp;assumption) | (simp;omega)),ak.o⟩
  ·have ay:=Ax hy0
   have an:qy=false:=by rw [ag.o];simpa using hy0
   subst an;clear hy0 ag;have R:Hx (fin=false):=by have h:=HF.o;simp at h;exact h
   obtain ⟨E,C,B,A,v,u,n,m,l,k,g,f,c⟩:=Ap J.o;go_wp2_with fail;go_ret;exact ⟨by rw [R.o];(first | rfl | (simp;done) | (simp;assumption) | (simp;omega)),am.o⟩
 | false=>
  have R:Hx (fin=false):=by have h:=HF.o;simp at h;exact h
  obtain ⟨E,C,B,A,v,u,n,m,l,k,g,f,c⟩:=Ap J.o;go_wp2_with fail;go_ret;exact ⟨by rw [R.o];(first | rfl | (simp;done) | (simp;assumption) | (simp;omega)),am.o⟩
theorem Kd (ke kc:Nat) (a:Int) (x y:ByteArray) (aL:Option Addr) (cL:Nat) (lb:List D) (aP:Option Addr) (cP:Nat) (ps:List ByteArray) (aB:Option Addr) (cB:Nat) (body:List D) (e0 e1 e2:Int) (e3:ByteArray) (q:Option Addr) (q1 q2:Nat) (r:D) (w:World) (hx:x.size<=maxLen) (hy:y.size<=maxLen) (hL:LS 4 (ZP w) w (U aL lb.length cL) lb) (hP:LS 1 ZN w (U aP ps.length cP) ps) (hB:LS 12 (ZC w ke kc) w (U aB body.length cB) body) (hR:ZE w ke [M O e0,M O e1,M O e2,.string e3,U q q1 q2] r) :
  Ro 38 #[zf #[M O 4,M O a,.string x,.string y,zc false,U aL lb.length cL,U aP ps.length cP,U aB body.length cB,M O e0,M O e1,M O e2,.string e3,U q q1 q2]] w (zc (dfK ke kc (deD 4 a x y false lb ps body r))):=by
 obtain ⟨fin,b⟩:=nm (dfK ke kc (deD 4 a x y false lb ps body r));rw [<-b];unfold dfK Ds Du at b;simp only [gDd,BW nmS,BV,List.length_map] at b;obtain ⟨qx,P⟩:=nm (nmS x.data.toList);obtain ⟨qy,N⟩:=nm (y.data.toList.isEmpty);obtain ⟨ql,I⟩:=nm (lb.all Cv);obtain ⟨qp,R⟩:=nm (ps.all fun x=>nmS x.data.toList);obtain ⟨qb,T⟩:=nm (body.all (sfK ke kc));obtain ⟨qr,Q⟩:=nm (efK ke r);obtain ⟨qo,S⟩:=nm (CT r);obtain ⟨K,E⟩:=nm lb.length;obtain ⟨Z,F⟩:=nm ps.length;obtain ⟨nB,G⟩:=nm body.length;have V:(lb≠[])=(K≠0):=by rw [E];simp
 have ai:K=0->ql=true:=fun h=>by rw [I,List.length_eq_zero_iff.1 (E.symm.trans h)];rfl
 simp only [<-P,<-I,<-R,<-T,<-Q,<-S,<-F,<-G,V] at b;have HF:Hx (fin=(qx && qy && false && (decide (Z=0) && decide (nB=0) && qo))):=by
  show _=_;rw [b,N];by_cases h0:K=0
  ·simp [nfS]
  ·simp [nfS]
 have ac:Hx (∀ X,Ov w X->Ro 76 #[M O 4,M O 1,M O 7] X (zc true)):=fun X _=>by simpa using AM 4 1 7 X
 have aw:Hx (∀ X,Ov w X->Ro 76 #[M O 4,M O 4,M O 6] X (zc true)):=fun X _=>by simpa using AM 4 4 6 X
 have KX:Hx (∀ X,Ov w X->Ro 77 #[.string x] X (zc qx)):=fun X _=>by rw [P];exact AV x X hx
 have J:=Aa N;have KO:Hx (∀ X,Ov w X->Ro 78 #[zf #[M O e0,M O e1,M O e2,.string e3,U q q1 q2]] X (zc qo)):=fun X hX=>by rw [S];exact BS ke _ r X (hR.over hX)
 have KR:Hx (∀ X,Ov w X->Ro 79 #[zf #[M O e0,M O e1,M O e2,.string e3,U q q1 q2]] X (zc qr)):=fun X hX=>by rw [Q];exact Bw ke _ r X (hR.over hX)
 have aj:Hx (∀ X,Ov w X->Ro 39 #[U aB body.length cB] X (zc qb)):=fun X hX=>by rw [T];exact Bc ke kc body aB cB X (Ay hX hB)
 rw [<-G] at aj;have al:=hL.max;have ak:=hP.max;have ae:=hB.max;rw [<-E] at al;rw [<-F] at ak;rw [<-G] at ae;have a2:=Aa hL;have az:=Aa hP;have ay:=Aa I;have ax:=Aa R;have a1:=Aa E;have a0:=Aa F;rw [<-E,<-F,<-G];clear b P N I R T Q S V ai hL hP hB hR E F G hx hy;go_enter Tryz.func38,Tryz.ntmps38;go_wp2_with fail;refine (ac.o _ (bA w (ze #[M O 4,M O a,.string x,.string y,zc false,U aL K cL,U aP Z cP,U aB nB cB,M O e0,M O e1,M O e2,.string e3,U q q1 q2] 51))).mono ?_;rintro e w1 ⟨rfl,W⟩;have af:Hx (Ov w w1):=Ab (bA w (ze #[M O 4,M O a,.string x,.string y,zc false,U aL K cL,U aP Z cP,U aB nB cB,M O e0,M O e1,M O e2,.string e3,U q q1 q2] 51)) W;have H:Hx (Ae [M O 4,M O a,.string x,.string y,zc false,U aL K cL,U aP Z cP,U aB nB cB,M O e0,M O e1,M O e2,.string e3,U q q1 q2] w1 w.heap.size):=Ae.over (AW w [M O 4,M O a,.string x,.string y,zc false,U aL K cL,U aP Z cP,U aB nB cB,M O e0,M O e1,M O e2,.string e3,U q q1 q2] 51) W;clear W  ac;obtain ⟨C,B,A,v,u,n,m,l,k,j,g,f,c⟩:=Ap H.o;go_wp2_with fail;refine (KX.o _ (af.o)).mono ?_;rintro e w2 ⟨rfl,W⟩;have Y:Hx (Ov w w2):=Ab (af.o) W;have i:Hx (Ae [M O 4,M O a,.string x,.string y,zc false,U aL K cL,U aP Z cP,U aB nB cB,M O e0,M O e1,M O e2,.string e3,U q q1 q2] w2 w.heap.size):=H.o.over W;clear W C B A v u n m l k j g f c KX
 cases qx with
 | true=>
  by_cases hy0:y.data.toList=[]
  ·obtain rfl:=Aq hy0
   have L:qy=true:=by rw [J.o];rfl
   subst L;clear hy0 J;have HV:Hx (fin=false):=by have h:=HF.o;simp at h;exact h
   obtain ⟨C,B,A,v,u,n,m,l,k,j,g,f,c⟩:=Ap i.o;go_wp2_with fail;go_ret;exact ⟨by rw [HV.o];(first | rfl | (simp;done) | (simp;assumption) | (simp;omega)),Y.o⟩
  ·have V:=Ax hy0
   have L:qy=false:=by rw [J.o];simpa using hy0
   subst L;clear hy0 J;have HV:Hx (fin=false):=by have h:=HF.o;simp at h;exact h
   obtain ⟨C,B,A,v,u,n,m,l,k,j,g,f,c⟩:=Ap i.o;go_wp2_with fail;go_ret;exact ⟨by rw [HV.o];(first | rfl | (simp;done) | (simp;assumption) | (simp;omega)),Y.o⟩
 | false=>
  have HV:Hx (fin=false):=by have h:=HF.o;simp at h;exact h
  obtain ⟨C,B,A,v,u,n,m,l,k,j,g,f,c⟩:=Ap i.o;go_wp2_with fail;go_ret;exact ⟨by rw [HV.o];(first | rfl | (simp;done) | (simp;assumption) | (simp;omega)),Y.o⟩
theorem Ka (ke kc:Nat) (a:Int) (x y:ByteArray) (aL:Option Addr) (cL:Nat) (lb:List D) (aP:Option Addr) (cP:Nat) (ps:List ByteArray) (aB:Option Addr) (cB:Nat) (body:List D) (e0 e1 e2:Int) (e3:ByteArray) (q:Option Addr) (q1 q2:Nat) (r:D) (w:World) (hx:x.size<=maxLen) (hy:y.size<=maxLen) (hL:LS 4 (ZP w) w (U aL lb.length cL) lb) (hP:LS 1 ZN w (U aP ps.length cP) ps) (hB:LS 12 (ZC w ke kc) w (U aB body.length cB) body) (hR:ZE w ke [M O e0,M O e1,M O e2,.string e3,U q q1 q2] r) :
  Ro 38 #[zf #[M O 5,M O a,.string x,.string y,zc true,U aL lb.length cL,U aP ps.length cP,U aB body.length cB,M O e0,M O e1,M O e2,.string e3,U q q1 q2]] w (zc (dfK ke kc (deD 5 a x y true lb ps body r))):=by
 obtain ⟨fin,H⟩:=nm (dfK ke kc (deD 5 a x y true lb ps body r));rw [<-H];unfold dfK Ds Du at H;simp only [gDd,BW nmS,BV,List.length_map] at H;obtain ⟨qx,ap⟩:=nm (nmS x.data.toList);obtain ⟨qy,ao⟩:=nm (y.data.toList.isEmpty);obtain ⟨ql,N⟩:=nm (lb.all Cv);obtain ⟨qp,ar⟩:=nm (ps.all fun x=>nmS x.data.toList);obtain ⟨qb,av⟩:=nm (body.all (sfK ke kc));obtain ⟨qr,aq⟩:=nm (efK ke r);obtain ⟨qo,au⟩:=nm (CT r);obtain ⟨L,P⟩:=nm lb.length;obtain ⟨nP,T⟩:=nm ps.length;obtain ⟨nB,V⟩:=nm body.length;have ay:(lb≠[])=(L≠0):=by rw [P];simp
 have b5:L=0->ql=true:=fun h=>by rw [N,List.length_eq_zero_iff.1 (P.symm.trans h)];rfl
 simp only [<-ap,<-N,<-ar,<-av,<-aq,<-au,<-T,<-V,ay] at H;have HF:Hx (fin=(qx && qy && (true && ql) && (decide (nP=0) && decide (nB=0) && qo))):=by
  show _=_;rw [H,ao];by_cases h0:L=0
  ·simp [nfS]
  ·simp [nfS]
 have be:Hx (∀ X,Ov w X->Ro 76 #[M O 5,M O 1,M O 7] X (zc true)):=fun X _=>by simpa using AM 5 1 7 X
 have bd:Hx (∀ X,Ov w X->Ro 76 #[M O 5,M O 4,M O 6] X (zc true)):=fun X _=>by simpa using AM 5 4 6 X
 have KX:Hx (∀ X,Ov w X->Ro 77 #[.string x] X (zc qx)):=fun X _=>by rw [ap];exact AV x X hx
 have ag:=Aa ao;have KO:Hx (∀ X,Ov w X->Ro 78 #[zf #[M O e0,M O e1,M O e2,.string e3,U q q1 q2]] X (zc qo)):=fun X hX=>by rw [au];exact BS ke _ r X (hR.over hX)
 have KR:Hx (∀ X,Ov w X->Ro 79 #[zf #[M O e0,M O e1,M O e2,.string e3,U q q1 q2]] X (zc qr)):=fun X hX=>by rw [aq];exact Bw ke _ r X (hR.over hX)
 have b9:Hx (∀ X,Ov w X->Ro 39 #[U aB body.length cB] X (zc qb)):=fun X hX=>by rw [av];exact Bc ke kc body aB cB X (Ay hX hB)
 rw [<-V] at b9;have cg:=hL.max;have ce:=hP.max;have bi:=hB.max;rw [<-P] at cg;rw [<-T] at ce;rw [<-V] at bi;have ch:=Aa hL;have dl:=Aa hP;have bg:=Aa N;have dk:=Aa ar;have bh:=Aa P;have dm:=Aa T;rw [<-P,<-T,<-V];clear H ap ao N ar av aq au ay b5 hL hP hB hR P T V hx hy;go_enter Tryz.func38,Tryz.ntmps38;go_wp2_with fail;refine (be.o _ (bA w (ze #[M O 5,M O a,.string x,.string y,zc true,U aL L cL,U aP nP cP,U aB nB cB,M O e0,M O e1,M O e2,.string e3,U q q1 q2] 51))).mono ?_;rintro e w1 ⟨rfl,G⟩;have bm:Hx (Ov w w1):=Ab (bA w (ze #[M O 5,M O a,.string x,.string y,zc true,U aL L cL,U aP nP cP,U aB nB cB,M O e0,M O e1,M O e2,.string e3,U q q1 q2] 51)) G;have Z:Hx (Ae [M O 5,M O a,.string x,.string y,zc true,U aL L cL,U aP nP cP,U aB nB cB,M O e0,M O e1,M O e2,.string e3,U q q1 q2] w1 w.heap.size):=Ae.over (AW w [M O 5,M O a,.string x,.string y,zc true,U aL L cL,U aP nP cP,U aB nB cB,M O e0,M O e1,M O e2,.string e3,U q q1 q2] 51) G;clear G  be;obtain ⟨E,C,B,A,v,u,n,m,l,k,g,f,c⟩:=Ap Z.o;go_wp2_with fail;refine (KX.o _ (bm.o)).mono ?_;rintro e w2 ⟨rfl,G⟩;have am:Hx (Ov w w2):=Ab (bm.o) G;have J:Hx (Ae [M O 5,M O a,.string x,.string y,zc true,U aL L cL,U aP nP cP,U aB nB cB,M O e0,M O e1,M O e2,.string e3,U q q1 q2] w2 w.heap.size):=Z.o.over G;clear G E C B A v u n m l k g f c KX
 cases qx with
 | true=>
  by_cases hy0:y.data.toList=[]
  ·obtain rfl:=Aq hy0
   have an:qy=true:=by rw [ag.o];rfl
   subst an;clear hy0 ag;obtain ⟨E,C,B,A,v,u,n,m,l,k,g,f,c⟩:=Ap J.o;go_wp2_with fail;refine (bd.o _ (am.o)).mono ?_;rintro e w3 ⟨rfl,G⟩;have al:Hx (Ov w w3):=Ab (am.o) G;have I:Hx (Ae [M O 5,M O a,.string x,.string ⟨#[]⟩,zc true,U aL L cL,U aP nP cP,U aB nB cB,M O e0,M O e1,M O e2,.string e3,U q q1 q2] w3 w.heap.size):=J.o.over G;clear G E C B A v u n m l k g f c bd;obtain ⟨E,C,B,A,v,u,n,m,l,k,g,f,c⟩:=Ap I.o;go_wp2_with fail;clear E C B A v u n m l k g f c;go_loopw [3] (fun i wr=>∃ (j:Nat),j<=L/\i=M O j/\(lb.drop j).all Cv=ql/\Ov w3 wr) (fun i _=>L - (intOf i).toNat)
   case atStart=>exact ⟨0,Nat.zero_le _,rfl,bg.o.symm,Below.refl _ _⟩
   case round=>
    obtain ⟨j,hj,rfl,F,hB⟩:=hrel;by_cases hjl:j < L
    ·have W:j < lb.length:=by have:=bh.o;omega
     have b6:(j:Int) < (L:Int):=by omega
     obtain ⟨b,c4,rfl,cs,b3,ad,hr⟩:=ch.o.at W;rw [List.drop_eq_getElem_cons W,List.all_cons] at F;generalize lb[j]=dj at F hr;obtain ⟨pa,po,pw,pn,pc,ns,rfl,rfl,ho,hN⟩:=hr;unfold Cv at F;simp only [gPp,BW nmS] at F;obtain ⟨q8,aw⟩:=nm (nmS po.data.toList);obtain ⟨q9,S⟩:=nm (ns.all fun x=>nmS x.data.toList);rw [<-aw,<-S] at F;have a9:(q8 && q9 && (lb.drop (j+1)).all Cv)=ql:=F;have af:=Ab al.o hB;have KC:Hx (∀ X,Ov wr X->Ro 77 #[.string po] X (zc q8)):=fun X _=>by rw [aw];exact AV po X ho
     have cd:=Aa (Br af hN);have cc:=Aa S;obtain ⟨nN,az⟩:=nm ns.length;have cf:=hN.max;rw [<-az] at cf ad;have bf:=Aa az;have z1:=ce1 af (ad 1 _ rfl);have z3:=ce1 af (ad 3 _ rfl);have cb:=Aa z3;obtain ⟨n0,n1,n2,n3,n4,n5,n6,n7,n8,n9,b2,b1,b0⟩:=Ap (I.o.over hB);have HP:=Aa a9;have HB:=Aa hB;clear F a9 hB af ad b3 aw S W ho hN az;go_wp2_with fail;refine (KC.o _ (Below.refl _ _)).mono ?_;rintro e W6 ⟨rfl,G⟩;have a4:=Aa (Ab HB.o G);have bj:=Aa G;clear G KC z1 z3 n0 n1 n2 n3 n4 n5 n6 n7 n8 n9 b2 b1 b0
     cases q8 with
     | false=>
      have F:=HP.o;simp at F;subst F;have R:Hx (fin=false):=by have h:=HF.o;simp at h;exact h
      go_wp2_with fail;go_ret;exact ⟨by rw [R.o];rfl,Ab al.o a4.o⟩
     | true=>
      have F:=HP.o;rw [Bool.true_and] at F;replace HP:=Aa F;clear F;go_wp2_with fail;go_loopw [4] (fun i ws=>∃ (i2:Nat),i2<=nN/\i=M O i2/\(ns.drop i2).all (fun x=>nmS x.data.toList)=q9/\Ov W6 ws) (fun i _=>nN - (intOf i).toNat)
      case atStart=>exact ⟨0,Nat.zero_le _,rfl,cc.o.symm,Below.refl _ _⟩
      case round=>
       obtain ⟨i,df,rfl,K,Q⟩:=hrel;have ae:=Ab a4.o Q;obtain ⟨p0,p1,p2,p3,p4,p5,p6,p7,p8,p9,bz,bw,bv⟩:=Ap (I.o.over ae);have z3:=ce1 (Ab bj.o Q) cb.o;by_cases hil:i < nN
       ·have Y:i < ns.length:=by have:=bf.o;omega
        have b7:(i:Int) < (nN:Int):=by omega
        obtain ⟨ba,oa,rfl,ca,b4,a0,ac⟩:=cd.o.at Y;rw [List.drop_eq_getElem_cons Y,List.all_cons] at K;generalize ns[i]=da at K ac;obtain ⟨q7,ax⟩:=nm (nmS da.data.toList);rw [<-ax] at K;have KQ:Hx (∀ X,Ov wr X->Ro 77 #[.string da] X (zc q7)):=fun X _=>by rw [ax];exact AV da X ac.2
        rw [ac.1] at a0;have y0:wr.cell? ⟨ba,oa+i,none⟩=some (.string da):=ce1 (Ab bj.o Q) (by have:=a0 0 _ rfl;simpa using this);have aj:=Aa K;have a3:=Aa Q;clear K Q ae a0 b4 ac ax Y;go_wp2_with fail;refine (KQ.o _ (Below.refl _ _)).mono ?_;rintro e W7 ⟨rfl,G⟩;have bl:=Aa (Ab a3.o G);clear G KQ y0 z3 p0 p1 p2 p3 p4 p5 p6 p7 p8 p9 bz bw bv
        cases q7 with
        | true=>
         have F:=aj.o;rw [Bool.true_and] at F;replace aj:=Aa F;clear F;go_wp2_with fail;exact ⟨⟨i+1,by omega,by go_num,aj.o,bl.o⟩,by simp [intOf];omega⟩
        | false=>
         have F:=aj.o;rw [Bool.false_and] at F;subst F;have F:=HP.o;rw [Bool.false_and] at F;subst F;have R:Hx (fin=false):=by have h:=HF.o;simp at h;exact h
         go_wp2_with fail;go_ret;exact ⟨by rw [R.o];rfl,Ab al.o (Ab a4.o bl.o)⟩
       ·have hd:ns.drop i=[]:=List.drop_eq_nil_of_le (by have:=bf.o;omega)
        have b7:¬ (i:Int) < (nN:Int):=by omega
        rw [hd] at K;have S:true=q9:=by rw [<-K];rfl
        subst S;have F:=HP.o;rw [Bool.true_and] at F;replace HP:=Aa F;have a3:=Aa ae;clear F hd K Q ae;go_wp2_with fail;exact ⟨⟨j+1,by omega,by go_num,HP.o,a3.o⟩,by simp [intOf];omega⟩
    ·have hd:lb.drop j=[]:=List.drop_eq_nil_of_le (by have:=bh.o;omega)
     have b6:¬ (j:Int) < (L:Int):=by omega
     rw [hd] at F;have N:true=ql:=by rw [<-F];rfl
     subst N;have ak:=Aa (Ab al.o hB);have ah:=Aa (I.o.over hB);clear F hd hB bg;by_cases h1:nP=0
     ·subst h1
      by_cases h2:nB=0
      ·subst h2
       obtain ⟨E,C,B,A,v,u,n,m,l,k,g,f,c⟩:=Ap ah.o;go_wp2_with fail;refine (KO.o _ (ak.o)).mono ?_;rintro e a6 ⟨rfl,G⟩;have bk:Hx (Ov w a6):=Ab (ak.o) G;have ai:Hx (Ae [M O 5,M O a,.string x,.string ⟨#[]⟩,zc true,U aL L cL,U aP 0 cP,U aB 0 cB,M O e0,M O e1,M O e2,.string e3,U q q1 q2] a6 w.heap.size):=ah.o.over G;clear G E C B A v u n m l k g f c KO;have R:Hx (fin=qo):=by have h:=HF.o;simp at h;exact h
       obtain ⟨E,C,B,A,v,u,n,m,l,k,g,f,c⟩:=Ap ai.o;go_wp2_with fail;go_ret;exact ⟨by rw [R.o];(first | rfl | (simp;done) | (simp;assumption) | (simp;omega)),bk.o⟩
      ·have hi:¬ (nB:Int)=0:=by omega
       have R:Hx (fin=false):=by have h:=HF.o;simp [h2] at h;exact h
       obtain ⟨E,C,B,A,v,u,n,m,l,k,g,f,c⟩:=Ap ah.o;go_wp2_with fail;go_ret;exact ⟨by rw [R.o];(first | rfl | (simp;done) | (simp;assumption) | (simp;omega)),ak.o⟩
     ·have hi:¬ (nP:Int)=0:=by omega
      have R:Hx (fin=false):=by have h:=HF.o;simp [h1] at h;exact h
      obtain ⟨E,C,B,A,v,u,n,m,l,k,g,f,c⟩:=Ap ah.o;go_wp2_with fail;go_ret;exact ⟨by rw [R.o];(first | rfl | (simp;done) | (simp;assumption) | (simp;omega)),ak.o⟩
  ·have ay:=Ax hy0
   have an:qy=false:=by rw [ag.o];simpa using hy0
   subst an;clear hy0 ag;have R:Hx (fin=false):=by have h:=HF.o;simp at h;exact h
   obtain ⟨E,C,B,A,v,u,n,m,l,k,g,f,c⟩:=Ap J.o;go_wp2_with fail;go_ret;exact ⟨by rw [R.o];(first | rfl | (simp;done) | (simp;assumption) | (simp;omega)),am.o⟩
 | false=>
  have R:Hx (fin=false):=by have h:=HF.o;simp at h;exact h
  obtain ⟨E,C,B,A,v,u,n,m,l,k,g,f,c⟩:=Ap J.o;go_wp2_with fail;go_ret;exact ⟨by rw [R.o];(first | rfl | (simp;done) | (simp;assumption) | (simp;omega)),am.o⟩
theorem Kb (ke kc:Nat) (a:Int) (x y:ByteArray) (aL:Option Addr) (cL:Nat) (lb:List D) (aP:Option Addr) (cP:Nat) (ps:List ByteArray) (aB:Option Addr) (cB:Nat) (body:List D) (e0 e1 e2:Int) (e3:ByteArray) (q:Option Addr) (q1 q2:Nat) (r:D) (w:World) (hx:x.size<=maxLen) (hy:y.size<=maxLen) (hL:LS 4 (ZP w) w (U aL lb.length cL) lb) (hP:LS 1 ZN w (U aP ps.length cP) ps) (hB:LS 12 (ZC w ke kc) w (U aB body.length cB) body) (hR:ZE w ke [M O e0,M O e1,M O e2,.string e3,U q q1 q2] r) :
  Ro 38 #[zf #[M O 5,M O a,.string x,.string y,zc false,U aL lb.length cL,U aP ps.length cP,U aB body.length cB,M O e0,M O e1,M O e2,.string e3,U q q1 q2]] w (zc (dfK ke kc (deD 5 a x y false lb ps body r))):=by
 obtain ⟨fin,b⟩:=nm (dfK ke kc (deD 5 a x y false lb ps body r));rw [<-b];unfold dfK Ds Du at b;simp only [gDd,BW nmS,BV,List.length_map] at b;obtain ⟨qx,P⟩:=nm (nmS x.data.toList);obtain ⟨qy,N⟩:=nm (y.data.toList.isEmpty);obtain ⟨ql,I⟩:=nm (lb.all Cv);obtain ⟨qp,R⟩:=nm (ps.all fun x=>nmS x.data.toList);obtain ⟨qb,T⟩:=nm (body.all (sfK ke kc));obtain ⟨qr,Q⟩:=nm (efK ke r);obtain ⟨qo,S⟩:=nm (CT r);obtain ⟨K,E⟩:=nm lb.length;obtain ⟨Z,F⟩:=nm ps.length;obtain ⟨nB,G⟩:=nm body.length;have V:(lb≠[])=(K≠0):=by rw [E];simp
 have ai:K=0->ql=true:=fun h=>by rw [I,List.length_eq_zero_iff.1 (E.symm.trans h)];rfl
 simp only [<-P,<-I,<-R,<-T,<-Q,<-S,<-F,<-G,V] at b;have HF:Hx (fin=(qx && qy && false && (decide (Z=0) && decide (nB=0) && qo))):=by
  show _=_;rw [b,N];by_cases h0:K=0
  ·simp [nfS]
  ·simp [nfS]
 have ac:Hx (∀ X,Ov w X->Ro 76 #[M O 5,M O 1,M O 7] X (zc true)):=fun X _=>by simpa using AM 5 1 7 X
 have aw:Hx (∀ X,Ov w X->Ro 76 #[M O 5,M O 4,M O 6] X (zc true)):=fun X _=>by simpa using AM 5 4 6 X
 have KX:Hx (∀ X,Ov w X->Ro 77 #[.string x] X (zc qx)):=fun X _=>by rw [P];exact AV x X hx
 have J:=Aa N;have KO:Hx (∀ X,Ov w X->Ro 78 #[zf #[M O e0,M O e1,M O e2,.string e3,U q q1 q2]] X (zc qo)):=fun X hX=>by rw [S];exact BS ke _ r X (hR.over hX)
 have KR:Hx (∀ X,Ov w X->Ro 79 #[zf #[M O e0,M O e1,M O e2,.string e3,U q q1 q2]] X (zc qr)):=fun X hX=>by rw [Q];exact Bw ke _ r X (hR.over hX)
 have aj:Hx (∀ X,Ov w X->Ro 39 #[U aB body.length cB] X (zc qb)):=fun X hX=>by rw [T];exact Bc ke kc body aB cB X (Ay hX hB)
 rw [<-G] at aj;have al:=hL.max;have ak:=hP.max;have ae:=hB.max;rw [<-E] at al;rw [<-F] at ak;rw [<-G] at ae;have a2:=Aa hL;have az:=Aa hP;have ay:=Aa I;have ax:=Aa R;have a1:=Aa E;have a0:=Aa F;rw [<-E,<-F,<-G];clear b P N I R T Q S V ai hL hP hB hR E F G hx hy;go_enter Tryz.func38,Tryz.ntmps38;go_wp2_with fail;refine (ac.o _ (bA w (ze #[M O 5,M O a,.string x,.string y,zc false,U aL K cL,U aP Z cP,U aB nB cB,M O e0,M O e1,M O e2,.string e3,U q q1 q2] 51))).mono ?_;rintro e w1 ⟨rfl,W⟩;have af:Hx (Ov w w1):=Ab (bA w (ze #[M O 5,M O a,.string x,.string y,zc false,U aL K cL,U aP Z cP,U aB nB cB,M O e0,M O e1,M O e2,.string e3,U q q1 q2] 51)) W;have H:Hx (Ae [M O 5,M O a,.string x,.string y,zc false,U aL K cL,U aP Z cP,U aB nB cB,M O e0,M O e1,M O e2,.string e3,U q q1 q2] w1 w.heap.size):=Ae.over (AW w [M O 5,M O a,.string x,.string y,zc false,U aL K cL,U aP Z cP,U aB nB cB,M O e0,M O e1,M O e2,.string e3,U q q1 q2] 51) W;clear W  ac;obtain ⟨C,B,A,v,u,n,m,l,k,j,g,f,c⟩:=Ap H.o;go_wp2_with fail;refine (KX.o _ (af.o)).mono ?_;rintro e w2 ⟨rfl,W⟩;have Y:Hx (Ov w w2):=Ab (af.o) W;have i:Hx (Ae [M O 5,M O a,.string x,.string y,zc false,U aL K cL,U aP Z cP,U aB nB cB,M O e0,M O e1,M O e2,.string e3,U q q1 q2] w2 w.heap.size):=H.o.over W;clear W C B A v u n m l k j g f c KX
 cases qx with
 | true=>
  by_cases hy0:y.data.toList=[]
  ·obtain rfl:=Aq hy0
   have L:qy=true:=by rw [J.o];rfl
   subst L;clear hy0 J;have HV:Hx (fin=false):=by have h:=HF.o;simp at h;exact h
   obtain ⟨C,B,A,v,u,n,m,l,k,j,g,f,c⟩:=Ap i.o;go_wp2_with fail;go_ret;exact ⟨by rw [HV.o];(first | rfl | (simp;done) | (simp;assumption) | (simp;omega)),Y.o⟩
  ·have V:=Ax hy0
   have L:qy=false:=by rw [J.o];simpa using hy0
   subst L;clear hy0 J;have HV:Hx (fin=false):=by have h:=HF.o;simp at h;exact h
   obtain ⟨C,B,A,v,u,n,m,l,k,j,g,f,c⟩:=Ap i.o;go_wp2_with fail;go_ret;exact ⟨by rw [HV.o];(first | rfl | (simp;done) | (simp;assumption) | (simp;omega)),Y.o⟩
 | false=>
  have HV:Hx (fin=false):=by have h:=HF.o;simp at h;exact h
  obtain ⟨C,B,A,v,u,n,m,l,k,j,g,f,c⟩:=Ap i.o;go_wp2_with fail;go_ret;exact ⟨by rw [HV.o];(first | rfl | (simp;done) | (simp;assumption) | (simp;omega)),Y.o⟩
theorem J8 (ke kc:Nat) (a:Int) (x y:ByteArray) (aL:Option Addr) (cL:Nat) (lb:List D) (aP:Option Addr) (cP:Nat) (ps:List ByteArray) (aB:Option Addr) (cB:Nat) (body:List D) (e0 e1 e2:Int) (e3:ByteArray) (q:Option Addr) (q1 q2:Nat) (r:D) (w:World) (hx:x.size<=maxLen) (hy:y.size<=maxLen) (hL:LS 4 (ZP w) w (U aL lb.length cL) lb) (hP:LS 1 ZN w (U aP ps.length cP) ps) (hB:LS 12 (ZC w ke kc) w (U aB body.length cB) body) (hR:ZE w ke [M O e0,M O e1,M O e2,.string e3,U q q1 q2] r) :
  Ro 38 #[zf #[M O 6,M O a,.string x,.string y,zc true,U aL lb.length cL,U aP ps.length cP,U aB body.length cB,M O e0,M O e1,M O e2,.string e3,U q q1 q2]] w (zc (dfK ke kc (deD 6 a x y true lb ps body r))):=by
 obtain ⟨fin,H⟩:=nm (dfK ke kc (deD 6 a x y true lb ps body r));rw [<-H];unfold dfK Ds Du at H;simp only [gDd,BW nmS,BV,List.length_map] at H;obtain ⟨qx,ap⟩:=nm (nmS x.data.toList);obtain ⟨qy,ao⟩:=nm (y.data.toList.isEmpty);obtain ⟨ql,N⟩:=nm (lb.all Cv);obtain ⟨qp,ar⟩:=nm (ps.all fun x=>nmS x.data.toList);obtain ⟨qb,av⟩:=nm (body.all (sfK ke kc));obtain ⟨qr,aq⟩:=nm (efK ke r);obtain ⟨qo,au⟩:=nm (CT r);obtain ⟨L,P⟩:=nm lb.length;obtain ⟨nP,T⟩:=nm ps.length;obtain ⟨nB,V⟩:=nm body.length;have ay:(lb≠[])=(L≠0):=by rw [P];simp
 have b5:L=0->ql=true:=fun h=>by rw [N,List.length_eq_zero_iff.1 (P.symm.trans h)];rfl
 simp only [<-ap,<-N,<-ar,<-av,<-aq,<-au,<-T,<-V,ay] at H;have HF:Hx (fin=(qx && qy && ql && (decide (nP=0) && decide (nB=0) && qo))):=by
  show _=_;rw [H,ao];by_cases h0:L=0
  ·simp [nfS]
  ·simp [nfS]
 have be:Hx (∀ X,Ov w X->Ro 76 #[M O 6,M O 1,M O 7] X (zc true)):=fun X _=>by simpa using AM 6 1 7 X
 have bd:Hx (∀ X,Ov w X->Ro 76 #[M O 6,M O 4,M O 6] X (zc true)):=fun X _=>by simpa using AM 6 4 6 X
 have KX:Hx (∀ X,Ov w X->Ro 77 #[.string x] X (zc qx)):=fun X _=>by rw [ap];exact AV x X hx
 have ag:=Aa ao;have KO:Hx (∀ X,Ov w X->Ro 78 #[zf #[M O e0,M O e1,M O e2,.string e3,U q q1 q2]] X (zc qo)):=fun X hX=>by rw [au];exact BS ke _ r X (hR.over hX)
 have KR:Hx (∀ X,Ov w X->Ro 79 #[zf #[M O e0,M O e1,M O e2,.string e3,U q q1 q2]] X (zc qr)):=fun X hX=>by rw [aq];exact Bw ke _ r X (hR.over hX)
 have b9:Hx (∀ X,Ov w X->Ro 39 #[U aB body.length cB] X (zc qb)):=fun X hX=>by rw [av];exact Bc ke kc body aB cB X (Ay hX hB)
 rw [<-V] at b9;have cg:=hL.max;have ce:=hP.max;have bi:=hB.max;rw [<-P] at cg;rw [<-T] at ce;rw [<-V] at bi;have ch:=Aa hL;have dl:=Aa hP;have bg:=Aa N;have dk:=Aa ar;have bh:=Aa P;have dm:=Aa T;rw [<-P,<-T,<-V];clear H ap ao N ar av aq au ay b5 hL hP hB hR P T V hx hy;go_enter Tryz.func38,Tryz.ntmps38;go_wp2_with fail;refine (be.o _ (bA w (ze #[M O 6,M O a,.string x,.string y,zc true,U aL L cL,U aP nP cP,U aB nB cB,M O e0,M O e1,M O e2,.string e3,U q q1 q2] 51))).mono ?_;rintro e w1 ⟨rfl,G⟩;have bm:Hx (Ov w w1):=Ab (bA w (ze #[M O 6,M O a,.string x,.string y,zc true,U aL L cL,U aP nP cP,U aB nB cB,M O e0,M O e1,M O e2,.string e3,U q q1 q2] 51)) G;have Z:Hx (Ae [M O 6,M O a,.string x,.string y,zc true,U aL L cL,U aP nP cP,U aB nB cB,M O e0,M O e1,M O e2,.string e3,U q q1 q2] w1 w.heap.size):=Ae.over (AW w [M O 6,M O a,.string x,.string y,zc true,U aL L cL,U aP nP cP,U aB nB cB,M O e0,M O e1,M O e2,.string e3,U q q1 q2] 51) G;clear G  be;obtain ⟨E,C,B,A,v,u,n,m,l,k,g,f,c⟩:=Ap Z.o;go_wp2_with fail;refine (KX.o _ (bm.o)).mono ?_;rintro e w2 ⟨rfl,G⟩;have am:Hx (Ov w w2):=Ab (bm.o) G;have J:Hx (Ae [M O 6,M O a,.string x,.string y,zc true,U aL L cL,U aP nP cP,U aB nB cB,M O e0,M O e1,M O e2,.string e3,U q q1 q2] w2 w.heap.size):=Z.o.over G;clear G E C B A v u n m l k g f c KX
 cases qx with
 | true=>
  by_cases hy0:y.data.toList=[]
  ·obtain rfl:=Aq hy0
   have an:qy=true:=by rw [ag.o];rfl
   subst an;clear hy0 ag;obtain ⟨E,C,B,A,v,u,n,m,l,k,g,f,c⟩:=Ap J.o;go_wp2_with fail;refine (bd.o _ (am.o)).mono ?_;rintro e w3 ⟨rfl,G⟩;have al:Hx (Ov w w3):=Ab (am.o) G;have I:Hx (Ae [M O 6,M O a,.string x,.string ⟨#[]⟩,zc true,U aL L cL,U aP nP cP,U aB nB cB,M O e0,M O e1,M O e2,.string e3,U q q1 q2] w3 w.heap.size):=J.o.over G;clear G E C B A v u n m l k g f c bd;obtain ⟨E,C,B,A,v,u,n,m,l,k,g,f,c⟩:=Ap I.o;go_wp2_with fail;clear E C B A v u n m l k g f c;go_loopw [3] (fun i wr=>∃ (j:Nat),j<=L/\i=M O j/\(lb.drop j).all Cv=ql/\Ov w3 wr) (fun i _=>L - (intOf i).toNat)
   case atStart=>exact ⟨0,Nat.zero_le _,rfl,bg.o.symm,Below.refl _ _⟩
   case round=>
    obtain ⟨j,hj,rfl,F,hB⟩:=hrel;by_cases hjl:j < L
    ·have W:j < lb.length:=by have:=bh.o;omega
     have b6:(j:Int) < (L:Int):=by omega
     obtain ⟨b,c4,rfl,cs,b3,ad,hr⟩:=ch.o.at W;rw [List.drop_eq_getElem_cons W,List.all_cons] at F;generalize lb[j]=dj at F hr;obtain ⟨pa,po,pw,pn,pc,ns,rfl,rfl,ho,hN⟩:=hr;unfold Cv at F;simp only [gPp,BW nmS] at F;obtain ⟨q8,aw⟩:=nm (nmS po.data.toList);obtain ⟨q9,S⟩:=nm (ns.all fun x=>nmS x.data.toList);rw [<-aw,<-S] at F;have a9:(q8 && q9 && (lb.drop (j+1)).all Cv)=ql:=F;have af:=Ab al.o hB;have KC:Hx (∀ X,Ov wr X->Ro 77 #[.string po] X (zc q8)):=fun X _=>by rw [aw];exact AV po X ho
     have cd:=Aa (Br af hN);have cc:=Aa S;obtain ⟨nN,az⟩:=nm ns.length;have cf:=hN.max;rw [<-az] at cf ad;have bf:=Aa az;have z1:=ce1 af (ad 1 _ rfl);have z3:=ce1 af (ad 3 _ rfl);have cb:=Aa z3;obtain ⟨n0,n1,n2,n3,n4,n5,n6,n7,n8,n9,b2,b1,b0⟩:=Ap (I.o.over hB);have HP:=Aa a9;have HB:=Aa hB;clear F a9 hB af ad b3 aw S W ho hN az;go_wp2_with fail;refine (KC.o _ (Below.refl _ _)).mono ?_;rintro e W6 ⟨rfl,G⟩;have a4:=Aa (Ab HB.o G);have bj:=Aa G;clear G KC z1 z3 n0 n1 n2 n3 n4 n5 n6 n7 n8 n9 b2 b1 b0
     cases q8 with
     | false=>
      have F:=HP.o;simp at F;subst F;have R:Hx (fin=false):=by have h:=HF.o;simp at h;exact h
      go_wp2_with fail;go_ret;exact ⟨by rw [R.o];rfl,Ab al.o a4.o⟩
     | true=>
      have F:=HP.o;rw [Bool.true_and] at F;replace HP:=Aa F;clear F;go_wp2_with fail;go_loopw [4] (fun i ws=>∃ (i2:Nat),i2<=nN/\i=M O i2/\(ns.drop i2).all (fun x=>nmS x.data.toList)=q9/\Ov W6 ws) (fun i _=>nN - (intOf i).toNat)
      case atStart=>exact ⟨0,Nat.zero_le _,rfl,cc.o.symm,Below.refl _ _⟩
      case round=>
       obtain ⟨i,df,rfl,K,Q⟩:=hrel;have ae:=Ab a4.o Q;obtain ⟨p0,p1,p2,p3,p4,p5,p6,p7,p8,p9,bz,bw,bv⟩:=Ap (I.o.over ae);have z3:=ce1 (Ab bj.o Q) cb.o;by_cases hil:i < nN
       ·have Y:i < ns.length:=by have:=bf.o;omega
        have b7:(i:Int) < (nN:Int):=by omega
        obtain ⟨ba,oa,rfl,ca,b4,a0,ac⟩:=cd.o.at Y;rw [List.drop_eq_getElem_cons Y,List.all_cons] at K;generalize ns[i]=da at K ac;obtain ⟨q7,ax⟩:=nm (nmS da.data.toList);rw [<-ax] at K;have KQ:Hx (∀ X,Ov wr X->Ro 77 #[.string da] X (zc q7)):=fun X _=>by rw [ax];exact AV da X ac.2
        rw [ac.1] at a0;have y0:wr.cell? ⟨ba,oa+i,none⟩=some (.string da):=ce1 (Ab bj.o Q) (by have:=a0 0 _ rfl;simpa using this);have aj:=Aa K;have a3:=Aa Q;clear K Q ae a0 b4 ac ax Y;go_wp2_with fail;refine (KQ.o _ (Below.refl _ _)).mono ?_;rintro e W7 ⟨rfl,G⟩;have bl:=Aa (Ab a3.o G);clear G KQ y0 z3 p0 p1 p2 p3 p4 p5 p6 p7 p8 p9 bz bw bv
        cases q7 with
        | true=>
         have F:=aj.o;rw [Bool.true_and] at F;replace aj:=Aa F;clear F;go_wp2_with fail;exact ⟨⟨i+1,by omega,by go_num,aj.o,bl.o⟩,by simp [intOf];omega⟩
        | false=>
         have F:=aj.o;rw [Bool.false_and] at F;subst F;have F:=HP.o;rw [Bool.false_and] at F;subst F;have R:Hx (fin=false):=by have h:=HF.o;simp at h;exact h
         go_wp2_with fail;go_ret;exact ⟨by rw [R.o];rfl,Ab al.o (Ab a4.o bl.o)⟩
       ·have hd:ns.drop i=[]:=List.drop_eq_nil_of_le (by have:=bf.o;omega)
        have b7:¬ (i:Int) < (nN:Int):=by omega
        rw [hd] at K;have S:true=q9:=by rw [<-K];rfl
        subst S;have F:=HP.o;rw [Bool.true_and] at F;replace HP:=Aa F;have a3:=Aa ae;clear F hd K Q ae;go_wp2_with fail;exact ⟨⟨j+1,by omega,by go_num,HP.o,a3.o⟩,by simp [intOf];omega⟩
    ·have hd:lb.drop j=[]:=List.drop_eq_nil_of_le (by have:=bh.o;omega)
     have b6:¬ (j:Int) < (L:Int):=by omega
     rw [hd] at F;have N:true=ql:=by rw [<-F];rfl
     subst N;have ak:=Aa (Ab al.o hB);have ah:=Aa (I.o.over hB);clear F hd hB bg;by_cases h1:nP=0
     ·subst h1
      by_cases h2:nB=0
      ·subst h2
       obtain ⟨E,C,B,A,v,u,n,m,l,k,g,f,c⟩:=Ap ah.o;go_wp2_with fail;refine (KO.o _ (ak.o)).mono ?_;rintro e a6 ⟨rfl,G⟩;have bk:Hx (Ov w a6):=Ab (ak.o) G;have ai:Hx (Ae [M O 6,M O a,.string x,.string ⟨#[]⟩,zc true,U aL L cL,U aP 0 cP,U aB 0 cB,M O e0,M O e1,M O e2,.string e3,U q q1 q2] a6 w.heap.size):=ah.o.over G;clear G E C B A v u n m l k g f c KO;have R:Hx (fin=qo):=by have h:=HF.o;simp at h;exact h
       obtain ⟨E,C,B,A,v,u,n,m,l,k,g,f,c⟩:=Ap ai.o;go_wp2_with fail;go_ret;exact ⟨by rw [R.o];(first | rfl | (simp;done) | (simp;assumption) | (simp;omega)),bk.o⟩
      ·have hi:¬ (nB:Int)=0:=by omega
       have R:Hx (fin=false):=by have h:=HF.o;simp [h2] at h;exact h
       obtain ⟨E,C,B,A,v,u,n,m,l,k,g,f,c⟩:=Ap ah.o;go_wp2_with fail;go_ret;exact ⟨by rw [R.o];(first | rfl | (simp;done) | (simp;assumption) | (simp;omega)),ak.o⟩
     ·have hi:¬ (nP:Int)=0:=by omega
      have R:Hx (fin=false):=by have h:=HF.o;simp [h1] at h;exact h
      obtain ⟨E,C,B,A,v,u,n,m,l,k,g,f,c⟩:=Ap ah.o;go_wp2_with fail;go_ret;exact ⟨by rw [R.o];(first | rfl | (simp;done) | (simp;assumption) | (simp;omega)),ak.o⟩
  ·have ay:=Ax hy0
   have an:qy=false:=by rw [ag.o];simpa using hy0
   subst an;clear hy0 ag;have R:Hx (fin=false):=by have h:=HF.o;simp at h;exact h
   obtain ⟨E,C,B,A,v,u,n,m,l,k,g,f,c⟩:=Ap J.o;go_wp2_with fail;go_ret;exact ⟨by rw [R.o];(first | rfl | (simp;done) | (simp;assumption) | (simp;omega)),am.o⟩
 | false=>
  have R:Hx (fin=false):=by have h:=HF.o;simp at h;exact h
  obtain ⟨E,C,B,A,v,u,n,m,l,k,g,f,c⟩:=Ap J.o;go_wp2_with fail;go_ret;exact ⟨by rw [R.o];(first | rfl | (simp;done) | (simp;assumption) | (simp;omega)),am.o⟩
theorem J9 (ke kc:Nat) (a:Int) (x y:ByteArray) (aL:Option Addr) (cL:Nat) (lb:List D) (aP:Option Addr) (cP:Nat) (ps:List ByteArray) (aB:Option Addr) (cB:Nat) (body:List D) (e0 e1 e2:Int) (e3:ByteArray) (q:Option Addr) (q1 q2:Nat) (r:D) (w:World) (hx:x.size<=maxLen) (hy:y.size<=maxLen) (hL:LS 4 (ZP w) w (U aL lb.length cL) lb) (hP:LS 1 ZN w (U aP ps.length cP) ps) (hB:LS 12 (ZC w ke kc) w (U aB body.length cB) body) (hR:ZE w ke [M O e0,M O e1,M O e2,.string e3,U q q1 q2] r) :
  Ro 38 #[zf #[M O 6,M O a,.string x,.string y,zc false,U aL lb.length cL,U aP ps.length cP,U aB body.length cB,M O e0,M O e1,M O e2,.string e3,U q q1 q2]] w (zc (dfK ke kc (deD 6 a x y false lb ps body r))):=by
 obtain ⟨fin,E⟩:=nm (dfK ke kc (deD 6 a x y false lb ps body r));rw [<-E];unfold dfK Ds Du at E;simp only [gDd,BW nmS,BV,List.length_map] at E;obtain ⟨qx,Z⟩:=nm (nmS x.data.toList);obtain ⟨qy,Y⟩:=nm (y.data.toList.isEmpty);obtain ⟨ql,S⟩:=nm (lb.all Cv);obtain ⟨qp,ab⟩:=nm (ps.all fun x=>nmS x.data.toList);obtain ⟨qb,ad⟩:=nm (body.all (sfK ke kc));obtain ⟨qr,aa⟩:=nm (efK ke r);obtain ⟨qo,ac⟩:=nm (CT r);obtain ⟨H,I⟩:=nm lb.length;obtain ⟨Q,J⟩:=nm ps.length;obtain ⟨R,K⟩:=nm body.length;have ae:(lb≠[])=(H≠0):=by rw [I];simp
 have ah:H=0->ql=true:=fun h=>by rw [S,List.length_eq_zero_iff.1 (I.symm.trans h)];rfl
 simp only [<-Z,<-S,<-ab,<-ad,<-aa,<-ac,<-J,<-K,ae] at E;have HF:Hx (fin=(qx && qy && decide (H=0) && (decide (Q=0) && decide (R=0) && qo))):=by
  show _=_;rw [E,Y];by_cases h0:H=0
  ·simp [h0,nfS,ah h0]
  ·simp [h0,nfS]
 have ak:Hx (∀ X,Ov w X->Ro 76 #[M O 6,M O 1,M O 7] X (zc true)):=fun X _=>by simpa using AM 6 1 7 X
 have aj:Hx (∀ X,Ov w X->Ro 76 #[M O 6,M O 4,M O 6] X (zc true)):=fun X _=>by simpa using AM 6 4 6 X
 have KX:Hx (∀ X,Ov w X->Ro 77 #[.string x] X (zc qx)):=fun X _=>by rw [Z];exact AV x X hx
 have T:=Aa Y;have KO:Hx (∀ X,Ov w X->Ro 78 #[zf #[M O e0,M O e1,M O e2,.string e3,U q q1 q2]] X (zc qo)):=fun X hX=>by rw [ac];exact BS ke _ r X (hR.over hX)
 have KR:Hx (∀ X,Ov w X->Ro 79 #[zf #[M O e0,M O e1,M O e2,.string e3,U q q1 q2]] X (zc qr)):=fun X hX=>by rw [aa];exact Bw ke _ r X (hR.over hX)
 have ar:Hx (∀ X,Ov w X->Ro 39 #[U aB body.length cB] X (zc qb)):=fun X hX=>by rw [ad];exact Bc ke kc body aB cB X (Ay hX hB)
 rw [<-K] at ar;have av:=hL.max;have au:=hP.max;have al:=hB.max;rw [<-I] at av;rw [<-J] at au;rw [<-K] at al;have bc:=Aa hL;have a9:=Aa hP;have a8:=Aa S;have a7:=Aa ab;have bb:=Aa I;have ba:=Aa J;rw [<-I,<-J,<-K];clear E Z Y S ab ad aa ac ae ah hL hP hB hR I J K hx hy;go_enter Tryz.func38,Tryz.ntmps38;go_wp2_with fail;refine (ak.o _ (bA w (ze #[M O 6,M O a,.string x,.string y,zc false,U aL H cL,U aP Q cP,U aB R cB,M O e0,M O e1,M O e2,.string e3,U q q1 q2] 51))).mono ?_;rintro e w1 ⟨rfl,G⟩;have am:Hx (Ov w w1):=Ab (bA w (ze #[M O 6,M O a,.string x,.string y,zc false,U aL H cL,U aP Q cP,U aB R cB,M O e0,M O e1,M O e2,.string e3,U q q1 q2] 51)) G;have N:Hx (Ae [M O 6,M O a,.string x,.string y,zc false,U aL H cL,U aP Q cP,U aB R cB,M O e0,M O e1,M O e2,.string e3,U q q1 q2] w1 w.heap.size):=Ae.over (AW w [M O 6,M O a,.string x,.string y,zc false,U aL H cL,U aP Q cP,U aB R cB,M O e0,M O e1,M O e2,.string e3,U q q1 q2] 51) G;clear G  ak;obtain ⟨B,A,v,u,n,m,l,k,j,g,f,c,b⟩:=Ap N.o;go_wp2_with fail;refine (KX.o _ (am.o)).mono ?_;rintro e w2 ⟨rfl,G⟩;have V:Hx (Ov w w2):=Ab (am.o) G;have F:Hx (Ae [M O 6,M O a,.string x,.string y,zc false,U aL H cL,U aP Q cP,U aB R cB,M O e0,M O e1,M O e2,.string e3,U q q1 q2] w2 w.heap.size):=N.o.over G;clear G B A v u n m l k j g f c b KX
 cases qx with
 | true=>
  by_cases hy0:y.data.toList=[]
  ·obtain rfl:=Aq hy0
   have W:qy=true:=by rw [T.o];rfl
   subst W;clear hy0 T;obtain ⟨B,A,v,u,n,m,l,k,j,g,f,c,b⟩:=Ap F.o;go_wp2_with fail;refine (aj.o _ (V.o)).mono ?_;rintro e w3 ⟨rfl,G⟩;have P:Hx (Ov w w3):=Ab (V.o) G;have C:Hx (Ae [M O 6,M O a,.string x,.string ⟨#[]⟩,zc false,U aL H cL,U aP Q cP,U aB R cB,M O e0,M O e1,M O e2,.string e3,U q q1 q2] w3 w.heap.size):=F.o.over G;clear G B A v u n m l k j g f c b aj;by_cases h0:H=0
   ·subst h0
    obtain ⟨B,A,v,u,n,m,l,k,j,g,f,c,b⟩:=Ap C.o;go_wp2_with fail;clear B A v u n m l k j g f c b;go_loopw [3] (fun i wr=>i=M O 0/\w3=wr) (fun _ _=>0)
    case atStart=>exact ⟨rfl,rfl⟩
    case round=>
     obtain ⟨rfl,rfl⟩:=hrel;by_cases h1:Q=0
     ·subst h1
      by_cases h2:R=0
      ·subst h2
       obtain ⟨B,A,v,u,n,m,l,k,j,g,f,c,b⟩:=Ap C.o;go_wp2_with fail;refine (KO.o _ (P.o)).mono ?_;rintro e w4 ⟨rfl,G⟩;have aw:Hx (Ov w w4):=Ab (P.o) G;have af:Hx (Ae [M O 6,M O a,.string x,.string ⟨#[]⟩,zc false,U aL 0 cL,U aP 0 cP,U aB 0 cB,M O e0,M O e1,M O e2,.string e3,U q q1 q2] w4 w.heap.size):=C.o.over G;clear G B A v u n m l k j g f c b KO;have L:Hx (fin=qo):=by have h:=HF.o;simp at h;exact h
       obtain ⟨B,A,v,u,n,m,l,k,j,g,f,c,b⟩:=Ap af.o;go_wp2_with fail;go_ret;exact ⟨by rw [L.o];(first | rfl | (simp;done) | (simp;assumption) | (simp;omega)),aw.o⟩
      ·have hi:¬ (R:Int)=0:=by omega
       have L:Hx (fin=false):=by have h:=HF.o;simp [h2] at h;exact h
       obtain ⟨B,A,v,u,n,m,l,k,j,g,f,c,b⟩:=Ap C.o;go_wp2_with fail;go_ret;exact ⟨by rw [L.o];(first | rfl | (simp;done) | (simp;assumption) | (simp;omega)),P.o⟩
     ·have hi:¬ (Q:Int)=0:=by omega
      have L:Hx (fin=false):=by have h:=HF.o;simp [h1] at h;exact h
      obtain ⟨B,A,v,u,n,m,l,k,j,g,f,c,b⟩:=Ap C.o;go_wp2_with fail;go_ret;exact ⟨by rw [L.o];(first | rfl | (simp;done) | (simp;assumption) | (simp;omega)),P.o⟩
   ·have hi:(0:Int) < (H:Int):=by omega
    have a6:0 < H:=by omega
    have L:Hx (fin=false):=by have h:=HF.o;simp [h0] at h;exact h
    obtain ⟨B,A,v,u,n,m,l,k,j,g,f,c,b⟩:=Ap C.o;go_wp2_with fail;go_ret;exact ⟨by rw [L.o];(first | rfl | (simp;done) | (simp;assumption) | (simp;omega)),P.o⟩
  ·have ae:=Ax hy0
   have W:qy=false:=by rw [T.o];simpa using hy0
   subst W;clear hy0 T;have L:Hx (fin=false):=by have h:=HF.o;simp at h;exact h
   obtain ⟨B,A,v,u,n,m,l,k,j,g,f,c,b⟩:=Ap F.o;go_wp2_with fail;go_ret;exact ⟨by rw [L.o];(first | rfl | (simp;done) | (simp;assumption) | (simp;omega)),V.o⟩
 | false=>
  have L:Hx (fin=false):=by have h:=HF.o;simp at h;exact h
  obtain ⟨B,A,v,u,n,m,l,k,j,g,f,c,b⟩:=Ap F.o;go_wp2_with fail;go_ret;exact ⟨by rw [L.o];(first | rfl | (simp;done) | (simp;assumption) | (simp;omega)),V.o⟩
end Go.Proofs.YtipngnjffjajpaaGreatDoor.Tx
