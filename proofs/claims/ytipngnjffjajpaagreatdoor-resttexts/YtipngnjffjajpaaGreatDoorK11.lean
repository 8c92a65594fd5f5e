/- The document's answer: declarations. -/
import Derived.Test.YtipngnjffjajpaaGreatDoorK09
set_option linter.unusedVariables false
set_option maxHeartbeats 8000000
set_option maxRecDepth 100000
namespace Go.Proofs.YtipngnjffjajpaaGreatDoor.Tx
open Go.RowKit
open Go.Value renaming int -> O, slice -> zd, bool -> ze, agg -> zf, pointer -> zh, tuple -> zj
open Go.IntKind renaming i64 -> zc
open Go.Obj renaming cells -> zg
open Go.Ending renaming returned -> zi
theorem OL (ke kc:Nat) (kd:Int) (hk:kd=4\/kd=5\/kd=6) (a:Int) (x y:ByteArray) (aL:Option Addr) (cL:Nat) (lb:List D) (aP:Option Addr) (cP:Nat) (ps:List ByteArray) (aB:Option Addr) (cB:Nat) (body:List D) (e0 e1 e2:Int) (e3:ByteArray) (q:Option Addr) (q1 q2:Nat) (r:D) (w:World) (hx:x.size<=maxLen) (hy:y.size<=maxLen) (hL:LS 4 (ZP w) w (zd aL lb.length cL) lb) (hP:LS 1 ZN w (zd aP ps.length cP) ps) (hB:LS 12 (ZC w ke kc) w (zd aB body.length cB) body) (hR:ZE w ke [O zc e0,O zc e1,O zc e2,.string e3,zd q q1 q2] r) :
  Ro 38 #[zf #[O zc kd,O zc a,.string x,.string y,ze true,zd aL lb.length cL,zd aP ps.length cP,zd aB body.length cB,O zc e0,O zc e1,O zc e2,.string e3,zd q q1 q2]] w (ze (dfK ke kc (deD kd a x y true lb ps body r))):=by
 obtain ⟨fin,g⟩:=nm (dfK ke kc (deD kd a x y true lb ps body r));rw [<-g];unfold dfK Ew Ez at g;simp only [gDd,D2 nmS,DS,List.length_map] at g;obtain ⟨qx,ad⟩:=nm (nmS x.data.toList);obtain ⟨qy,ac⟩:=nm (y.data.toList.isEmpty);obtain ⟨ql,v⟩:=nm (lb.all DC);obtain ⟨qp,af⟩:=nm (ps.all fun x=>nmS x.data.toList);obtain ⟨qb,ah⟩:=nm (body.all (sfK ke kc));obtain ⟨qr,ae⟩:=nm (efK ke r);obtain ⟨qo,ag⟩:=nm (CO r);obtain ⟨E,A⟩:=nm lb.length;obtain ⟨Z,H⟩:=nm ps.length;obtain ⟨nB,I⟩:=nm body.length;have ak:(lb≠[])=(E≠0):=by rw [A];simp
 have bk:E=0->ql=true:=fun h=>by rw [v,List.length_eq_zero_iff.1 (A.symm.trans h)];rfl
 simp only [<-ad,<-v,<-af,<-ah,<-ae,<-ag,<-H,<-I,ak] at g;have HF:Hx (fin=(qx && qy && ql && (decide (Z=0) && decide (nB=0) && qo))):=by
  show _=_;rw [g,ac];by_cases h0:E=0
  ·rcases hk with rfl | rfl | rfl <;> simp [nfS]
  ·rcases hk with rfl | rfl | rfl <;> simp [nfS]
 have a1:Hx (∀ X,Ov w X->Ro 76 #[O zc kd,O zc 1,O zc 7] X (ze true)):=fun X _=>by rw [<-show (decide (1<=kd) && decide (kd<=7))=true by simp;omega];exact Bp kd 1 7 X
 have a0:Hx (∀ X,Ov w X->Ro 76 #[O zc kd,O zc 4,O zc 6] X (ze true)):=fun X _=>by rw [<-show (decide (4<=kd) && decide (kd<=6))=true by simp;omega];exact Bp kd 4 6 X
 have KX:Hx (∀ X,Ov w X->Ro 77 #[.string x] X (ze qx)):=fun X _=>by rw [ad];exact Bn x X hx
 have R:=Aa ac;have KO:Hx (∀ X,Ov w X->Ro 78 #[zf #[O zc e0,O zc e1,O zc e2,.string e3,zd q q1 q2]] X (ze qo)):=fun X hX=>by rw [ag];exact Dt ke _ r X (hR.over hX)
 have KR:Hx (∀ X,Ov w X->Ro 79 #[zf #[O zc e0,O zc e1,O zc e2,.string e3,zd q q1 q2]] X (ze qr)):=fun X hX=>by rw [ae];exact CW ke _ r X (hR.over hX)
 have bs:Hx (∀ X,Ov w X->Ro 39 #[zd aB body.length cB] X (ze qb)):=fun X hX=>by rw [ah];exact Co ke kc body aB cB X (Ar hX hB)
 rw [<-I] at bs;have b0:=hL.max;have bw:=hP.max;have a5:=hB.max;rw [<-A] at b0;rw [<-H] at bw;rw [<-I] at a5;have b1:=Aa hL;have cq:=Aa hP;have a3:=Aa v;have cp:=Aa af;have a4:=Aa A;have cr:=Aa H;rw [<-A,<-H,<-I];clear g ad ac v af ah ae ag ak bk hL hP hB hR A H I hx hy;have h2:¬ kd=2:=by omega
 have h7:¬ kd=7:=by omega
 obtain ⟨e4,h4⟩:=nm (kd == 4);obtain ⟨e5,h5⟩:=nm (kd == 5);replace h4:=h4.symm;replace h5:=h5.symm;have bo:(e4=true/\e5=false)\/(e4=false/\e5=true)\/(e4=false/\e5=false):=by
  rcases hk with rfl | rfl | rfl
  ·exact Or.inl ⟨by rw [<-h4];rfl,by rw [<-h5];rfl⟩
  ·exact Or.inr (Or.inl ⟨by rw [<-h4];rfl,by rw [<-h5];rfl⟩)
  ·exact Or.inr (Or.inr ⟨by rw [<-h4];rfl,by rw [<-h5];rfl⟩)
 rcases bo with ⟨rfl,rfl⟩ | ⟨rfl,rfl⟩ | ⟨rfl,rfl⟩;clear hk;all_goals
  go_enter Tryz.func38,Tryz.ntmps38;go_wp2_with fail;refine mo (a1.o _ (bA w (zg #[O zc kd,O zc a,.string x,.string y,ze true,zd aL E cL,zd aP Z cP,zd aB nB cB,O zc e0,O zc e1,O zc e2,.string e3,zd q q1 q2] 51))) fun w1 f=>?_;have a9:Hx (Ov w w1):=Ab (bA w (zg #[O zc kd,O zc a,.string x,.string y,ze true,zd aL E cL,zd aP Z cP,zd aB nB cB,O zc e0,O zc e1,O zc e2,.string e3,zd q q1 q2] 51)) f;have L:Hx (Ad [O zc kd,O zc a,.string x,.string y,ze true,zd aL E cL,zd aP Z cP,zd aB nB cB,O zc e0,O zc e1,O zc e2,.string e3,zd q q1 q2] w1 w.heap.size):=Ad.over (A5 w [O zc kd,O zc a,.string x,.string y,ze true,zd aL E cL,zd aP Z cP,zd aB nB cB,O zc e0,O zc e1,O zc e2,.string e3,zd q q1 q2] 51) f;clear f  a1;have F:=Ad.all L.o;go_wp2_with fail;refine mo (KX.o _ (a9.o)) fun w2 f=>?_;have Y:=Aa (Ab (a9.o) f);have n:=Aa (L.o.over f);clear f F KX
  cases qx with
  | true=>
   by_cases hy0:y.data.toList=[]
   ·obtain rfl:=An hy0
    have ab:qy=true:=by rw [R.o];rfl
    subst ab;clear hy0 R;have F:=Ad.all n.o;go_wp2_with fail;refine mo (a0.o _ (Y.o)) fun w3 f=>?_;have W:=Aa (Ab (Y.o) f);have l:=Aa (n.o.over f);clear f F a0;have F:=Ad.all l.o;go_wp2_with fail;clear F;go_loopw [3] (fun i wr=>∃ (j:Nat),j<=E/\i=O zc j/\(lb.drop j).all DC=ql/\Ov w3 wr) (fun i _=>E - (intOf i).toNat)
    case atStart=>exact ⟨0,Nat.zero_le _,rfl,a3.o.symm,Below.refl _ _⟩
    case round=>
     obtain ⟨j,hj,rfl,c,hB⟩:=hrel;by_cases hjl:j < E
     ·have J:j < lb.length:=by have:=a4.o;omega
      have bl:(j:Int) < (E:Int):=by omega
      obtain ⟨b,ci,rfl,cs,bi,N,hr⟩:=b1.o.at J;rw [List.drop_eq_getElem_cons J,List.all_cons] at c;generalize lb[j]=dj at c hr;obtain ⟨pa,po,pw,pn,pc,ns,rfl,rfl,ho,hN⟩:=hr;unfold DC at c;simp only [gPp,D2 nmS] at c;obtain ⟨q8,ai⟩:=nm (nmS po.data.toList);obtain ⟨q9,G⟩:=nm (ns.all fun x=>nmS x.data.toList);rw [<-ai,<-G] at c;have av:(q8 && q9 && (lb.drop (j+1)).all DC)=ql:=c;have Q:=Ab W.o hB;have KC:Hx (∀ X,Ov wr X->Ro 77 #[.string po] X (ze q8)):=fun X _=>by rw [ai];exact Bn po X ho
      have bv:=Aa (Bu Q hN);have bu:=Aa G;obtain ⟨nN,al⟩:=nm ns.length;have bz:=hN.max;rw [<-al] at bz N;have a2:=Aa al;have z1:=ce1 Q (N 1 _ rfl);have z3:=ce1 Q (N 3 _ rfl);have bt:=Aa z3;have nR:=B8 (l.o.over hB);have HP:=Aa av;have HB:=Aa hB;clear c av hB Q N bi ai G J ho hN al;go_wp2_with fail;refine mo (KC.o _ (Below.refl _ _)) fun W6 f=>?_;have aq:=Aa (Ab HB.o f);have a6:=Aa f;clear f KC z1 z3 nR
      cases q8 with
      | false=>
       have c:=HP.o;simp at c;subst c;have C:Hx (fin=false):=by have h:=HF.o;simp at h;exact h
       go_wp2_with fail;go_ret;exact ⟨by rw [C.o];rfl,Ab W.o aq.o⟩
      | true=>
       have c:=HP.o;rw [Bool.true_and] at c;replace HP:=Aa c;clear c;go_wp2_with fail;go_loopw [4] (fun i ws=>∃ (i2:Nat),i2<=nN/\i=O zc i2/\(ns.drop i2).all (fun x=>nmS x.data.toList)=q9/\Ov W6 ws) (fun i _=>nN - (intOf i).toNat)
       case atStart=>exact ⟨0,Nat.zero_le _,rfl,bu.o.symm,Below.refl _ _⟩
       case round=>
        obtain ⟨i,cl,rfl,u,B⟩:=hrel;have P:=Ab aq.o B;have pR:=B8 (l.o.over P);have z3:=ce1 (Ab a6.o B) bt.o;by_cases hil:i < nN
        ·have K:i < ns.length:=by have:=a2.o;omega
         have bm:(i:Int) < (nN:Int):=by omega
         obtain ⟨ba,oa,rfl,ca,bj,am,M⟩:=bv.o.at K;rw [List.drop_eq_getElem_cons K,List.all_cons] at u;generalize ns[i]=da at u M;obtain ⟨q7,aj⟩:=nm (nmS da.data.toList);rw [<-aj] at u;have KQ:Hx (∀ X,Ov wr X->Ro 77 #[.string da] X (ze q7)):=fun X _=>by rw [aj];exact Bn da X M.2
         rw [M.1] at am;have y0:wr.cell? ⟨ba,oa+i,none⟩=some (.string da):=ce1 (Ab a6.o B) (by have:=am 0 _ rfl;simpa using this);have U:=Aa u;have ap:=Aa B;clear u B P am bj M aj K;go_wp2_with fail;refine mo (KQ.o _ (Below.refl _ _)) fun W7 f=>?_;have a8:=Aa (Ab ap.o f);clear f KQ y0 z3 pR
         cases q7 with
         | true=>
          have c:=U.o;rw [Bool.true_and] at c;replace U:=Aa c;clear c;go_wp2_with fail;exact ⟨⟨i+1,by omega,by go_num,U.o,a8.o⟩,by simp [intOf];omega⟩
         | false=>
          have c:=U.o;rw [Bool.false_and] at c;subst c;have c:=HP.o;rw [Bool.false_and] at c;subst c;have C:Hx (fin=false):=by have h:=HF.o;simp at h;exact h
          go_wp2_with fail;go_ret;exact ⟨by rw [C.o];rfl,Ab W.o (Ab aq.o a8.o)⟩
        ·have hd:ns.drop i=[]:=List.drop_eq_nil_of_le (by have:=a2.o;omega)
         have bm:¬ (i:Int) < (nN:Int):=by omega
         rw [hd] at u;have G:true=q9:=by rw [<-u];rfl
         subst G;have c:=HP.o;rw [Bool.true_and] at c;replace HP:=Aa c;have ap:=Aa P;clear c hd u B P;go_wp2_with fail;exact ⟨⟨j+1,by omega,by go_num,HP.o,ap.o⟩,by simp [intOf];omega⟩
     ·have hd:lb.drop j=[]:=List.drop_eq_nil_of_le (by have:=a4.o;omega)
      have bl:¬ (j:Int) < (E:Int):=by omega
      rw [hd] at c;have v:true=ql:=by rw [<-c];rfl
      subst v;have V:=Aa (Ab W.o hB);have S:=Aa (l.o.over hB);clear c hd hB a3;by_cases h1:Z=0
      ·subst h1
       by_cases h2:nB=0
       ·subst h2
        have F:=Ad.all S.o;go_wp2_with fail;refine mo (KO.o _ (V.o)) fun cd f=>?_;have a7:=Aa (Ab (V.o) f);have T:=Aa (S.o.over f);clear f F KO;have C:Hx (fin=qo):=by have h:=HF.o;simp at h;exact h
        have F:=Ad.all T.o;go_wp2_with fail;go_ret;exact ⟨by rw [C.o];(first | rfl | (simp;done) | (simp;assumption) | (simp;omega)),a7.o⟩
       ·have hi:¬ (nB:Int)=0:=by omega
        have C:Hx (fin=false):=by have h:=HF.o;simp [h2] at h;exact h
        have F:=Ad.all S.o;go_wp2_with fail;go_ret;exact ⟨by rw [C.o];(first | rfl | (simp;done) | (simp;assumption) | (simp;omega)),V.o⟩
      ·have hi:¬ (Z:Int)=0:=by omega
       have C:Hx (fin=false):=by have h:=HF.o;simp [h1] at h;exact h
       have F:=Ad.all S.o;go_wp2_with fail;go_ret;exact ⟨by rw [C.o];(first | rfl | (simp;done) | (simp;assumption) | (simp;omega)),V.o⟩
   ·have ak:=Av hy0
    have ab:qy=false:=by rw [R.o];simpa using hy0
    subst ab;clear hy0 R;have C:Hx (fin=false):=by have h:=HF.o;simp at h;exact h
    have F:=Ad.all n.o;go_wp2_with fail;go_ret;exact ⟨by rw [C.o];(first | rfl | (simp;done) | (simp;assumption) | (simp;omega)),Y.o⟩
  | false=>
   have C:Hx (fin=false):=by have h:=HF.o;simp at h;exact h
   have F:=Ad.all n.o;go_wp2_with fail;go_ret;exact ⟨by rw [C.o];(first | rfl | (simp;done) | (simp;assumption) | (simp;omega)),Y.o⟩
theorem Nc (ke kc:Nat) (a:Int) (x y:ByteArray) (aL:Option Addr) (cL:Nat) (lb:List D) (aP:Option Addr) (cP:Nat) (ps:List ByteArray) (aB:Option Addr) (cB:Nat) (body:List D) (e0 e1 e2:Int) (e3:ByteArray) (q:Option Addr) (q1 q2:Nat) (r:D) (w:World) (hx:x.size<=maxLen) (hy:y.size<=maxLen) (hL:LS 4 (ZP w) w (zd aL lb.length cL) lb) (hP:LS 1 ZN w (zd aP ps.length cP) ps) (hB:LS 12 (ZC w ke kc) w (zd aB body.length cB) body) (hR:ZE w ke [O zc e0,O zc e1,O zc e2,.string e3,zd q q1 q2] r) :
  Ro 38 #[zf #[O zc 2,O zc a,.string x,.string y,ze false,zd aL lb.length cL,zd aP ps.length cP,zd aB body.length cB,O zc e0,O zc e1,O zc e2,.string e3,zd q q1 q2]] w (ze (dfK ke kc (deD 2 a x y false lb ps body r))):=by
 obtain ⟨fin,c⟩:=nm (dfK ke kc (deD 2 a x y false lb ps body r));rw [<-c];unfold dfK Ew Ez at c;simp only [gDd,D2 nmS,DS,List.length_map] at c;obtain ⟨qx,J⟩:=nm (nmS x.data.toList);obtain ⟨qy,I⟩:=nm (nmS y.data.toList);obtain ⟨ql,F⟩:=nm (lb.all DC);obtain ⟨qp,L⟩:=nm (ps.all fun x=>nmS x.data.toList);obtain ⟨qb,N⟩:=nm (body.all (sfK ke kc));obtain ⟨qr,K⟩:=nm (efK ke r);obtain ⟨qo,M⟩:=nm (CO r);obtain ⟨u,n⟩:=nm lb.length;obtain ⟨G,v⟩:=nm ps.length;obtain ⟨H,A⟩:=nm body.length;have T:(lb≠[])=(u≠0):=by rw [n];simp
 have ad:u=0->ql=true:=fun h=>by rw [F,List.length_eq_zero_iff.1 (n.symm.trans h)];rfl
 simp only [<-J,<-F,<-L,<-N,<-K,<-M,<-v,<-A,T] at c;have S:Hx (fin=(qx && qy && (!false && decide (u=0)) && (decide (G=0) && decide (H=0) && qo))):=by
  show _=_;rw [c,I];by_cases h0:u=0
  ·simp [h0,nfS]
  ·simp [h0,nfS]
 have W:Hx (∀ X,Ov w X->Ro 76 #[O zc 2,O zc 1,O zc 7] X (ze true)):=fun X _=>by simpa using Bp 2 1 7 X
 have V:Hx (∀ X,Ov w X->Ro 76 #[O zc 2,O zc 4,O zc 6] X (ze false)):=fun X _=>by simpa using Bp 2 4 6 X
 have KX:Hx (∀ X,Ov w X->Ro 77 #[.string x] X (ze qx)):=fun X _=>by rw [J];exact Bn x X hx
 have KY:Hx (∀ X,Ov w X->Ro 77 #[.string y] X (ze qy)):=fun X _=>by rw [I];exact Bn y X hy
 have KO:Hx (∀ X,Ov w X->Ro 78 #[zf #[O zc e0,O zc e1,O zc e2,.string e3,zd q q1 q2]] X (ze qo)):=fun X U=>by rw [M];exact Dt ke _ r X (hR.over U)
 have KR:Hx (∀ X,Ov w X->Ro 79 #[zf #[O zc e0,O zc e1,O zc e2,.string e3,zd q q1 q2]] X (ze qr)):=fun X U=>by rw [K];exact CW ke _ r X (hR.over U)
 have ae:Hx (∀ X,Ov w X->Ro 39 #[zd aB body.length cB] X (ze qb)):=fun X U=>by rw [N];exact Co ke kc body aB cB X (Ar U hB)
 rw [<-A] at ae;have ag:=hL.max;have af:=hP.max;have Y:=hB.max;rw [<-n] at ag;rw [<-v] at af;rw [<-A] at Y;have az:=Aa hL;have aw:=Aa hP;have av:=Aa F;have au:=Aa L;have ay:=Aa n;have ax:=Aa v;rw [<-n,<-v,<-A];clear c J I F L N K M T ad hL hP hB hR n v A hx hy;go_enter Tryz.func38,Tryz.ntmps38;go_wp2_with fail;refine mo (W.o _ (bA w (zg #[O zc 2,O zc a,.string x,.string y,ze false,zd aL u cL,zd aP G cP,zd aB H cB,O zc e0,O zc e1,O zc e2,.string e3,zd q q1 q2] 51))) fun w1 f=>?_;have Z:Hx (Ov w w1):=Ab (bA w (zg #[O zc 2,O zc a,.string x,.string y,ze false,zd aL u cL,zd aP G cP,zd aB H cB,O zc e0,O zc e1,O zc e2,.string e3,zd q q1 q2] 51)) f;have C:Hx (Ad [O zc 2,O zc a,.string x,.string y,ze false,zd aL u cL,zd aP G cP,zd aB H cB,O zc e0,O zc e1,O zc e2,.string e3,zd q q1 q2] w1 w.heap.size):=Ad.over (A5 w [O zc 2,O zc a,.string x,.string y,ze false,zd aL u cL,zd aP G cP,zd aB H cB,O zc e0,O zc e1,O zc e2,.string e3,zd q q1 q2] 51) f;clear f  W;have g:=Ad.all C.o;go_wp2_with fail;refine mo (KX.o _ (Z.o)) fun w2 f=>?_;have R:=Aa (Ab (Z.o) f);have l:=Aa (C.o.over f);clear f g KX
 cases qx with
 | true=>
  have g:=Ad.all l.o;go_wp2_with fail;refine mo (KY.o _ (R.o)) fun w3 f=>?_;have Q:=Aa (Ab (R.o) f);have j:=Aa (l.o.over f);clear f g KY
  cases qy with
  | true=>
   have g:=Ad.all j.o;go_wp2_with fail;refine mo (V.o _ (Q.o)) fun w4 f=>?_;have E:=Aa (Ab (Q.o) f);have b:=Aa (j.o.over f);clear f g V;by_cases h0:u=0
   ·subst h0
    have g:=Ad.all b.o;go_wp2_with fail;clear g;go_loopw [3] (fun i wr=>i=O zc 0/\w4=wr) (fun _ _=>0)
    case atStart=>exact ⟨rfl,rfl⟩
    case round=>
     obtain ⟨rfl,rfl⟩:=hrel;by_cases h1:G=0
     ·subst h1
      by_cases h2:H=0
      ·subst h2
       have g:=Ad.all b.o;go_wp2_with fail;refine mo (KO.o _ (E.o)) fun w5 f=>?_;have ah:=Aa (Ab (E.o) f);have P:=Aa (b.o.over f);clear f g KO;have B:Hx (fin=qo):=by have h:=S.o;simp at h;exact h
       have g:=Ad.all P.o;go_wp2_with fail;go_ret;exact ⟨by rw [B.o];(first | rfl | (simp;done) | (simp;assumption) | (simp;omega)),ah.o⟩
      ·have hi:¬ (H:Int)=0:=by omega
       have B:Hx (fin=false):=by have h:=S.o;simp [h2] at h;exact h
       have g:=Ad.all b.o;go_wp2_with fail;go_ret;exact ⟨by rw [B.o];(first | rfl | (simp;done) | (simp;assumption) | (simp;omega)),E.o⟩
     ·have hi:¬ (G:Int)=0:=by omega
      have B:Hx (fin=false):=by have h:=S.o;simp [h1] at h;exact h
      have g:=Ad.all b.o;go_wp2_with fail;go_ret;exact ⟨by rw [B.o];(first | rfl | (simp;done) | (simp;assumption) | (simp;omega)),E.o⟩
   ·have hi:(0:Int) < (u:Int):=by omega
    have ar:0 < u:=by omega
    have B:Hx (fin=false):=by have h:=S.o;simp [h0] at h;exact h
    have g:=Ad.all b.o;go_wp2_with fail;go_ret;exact ⟨by rw [B.o];(first | rfl | (simp;done) | (simp;assumption) | (simp;omega)),E.o⟩
  | false=>
   have B:Hx (fin=false):=by have h:=S.o;simp at h;exact h
   have g:=Ad.all j.o;go_wp2_with fail;go_ret;exact ⟨by rw [B.o];(first | rfl | (simp;done) | (simp;assumption) | (simp;omega)),Q.o⟩
 | false=>
  have B:Hx (fin=false):=by have h:=S.o;simp at h;exact h
  have g:=Ad.all l.o;go_wp2_with fail;go_ret;exact ⟨by rw [B.o];(first | rfl | (simp;done) | (simp;assumption) | (simp;omega)),R.o⟩
theorem Nb (ke kc:Nat) (a:Int) (x y:ByteArray) (aL:Option Addr) (cL:Nat) (lb:List D) (aP:Option Addr) (cP:Nat) (ps:List ByteArray) (aB:Option Addr) (cB:Nat) (body:List D) (e0 e1 e2:Int) (e3:ByteArray) (q:Option Addr) (q1 q2:Nat) (r:D) (w:World) (hx:x.size<=maxLen) (hy:y.size<=maxLen) (hL:LS 4 (ZP w) w (zd aL lb.length cL) lb) (hP:LS 1 ZN w (zd aP ps.length cP) ps) (hB:LS 12 (ZC w ke kc) w (zd aB body.length cB) body) (hR:ZE w ke [O zc e0,O zc e1,O zc e2,.string e3,zd q q1 q2] r) :
  Ro 38 #[zf #[O zc 2,O zc a,.string x,.string y,ze true,zd aL lb.length cL,zd aP ps.length cP,zd aB body.length cB,O zc e0,O zc e1,O zc e2,.string e3,zd q q1 q2]] w (ze (dfK ke kc (deD 2 a x y true lb ps body r))):=by
 obtain ⟨fin,c⟩:=nm (dfK ke kc (deD 2 a x y true lb ps body r));rw [<-c];unfold dfK Ew Ez at c;simp only [gDd,D2 nmS,DS,List.length_map] at c;obtain ⟨P,A⟩:=nm (nmS x.data.toList);obtain ⟨N,v⟩:=nm (nmS y.data.toList);obtain ⟨ql,n⟩:=nm (lb.all DC);obtain ⟨qp,C⟩:=nm (ps.all fun x=>nmS x.data.toList);obtain ⟨qb,F⟩:=nm (body.all (sfK ke kc));obtain ⟨Z,B⟩:=nm (efK ke r);obtain ⟨V,E⟩:=nm (CO r);obtain ⟨M,g⟩:=nm lb.length;obtain ⟨nP,j⟩:=nm ps.length;obtain ⟨nB,l⟩:=nm body.length;have G:(lb≠[])=(M≠0):=by rw [g];simp
 have Q:M=0->ql=true:=fun h=>by rw [n,List.length_eq_zero_iff.1 (g.symm.trans h)];rfl
 simp only [<-A,<-n,<-C,<-F,<-B,<-E,<-j,<-l,G] at c;have U:Hx (fin=(P && N && (!true && decide (M=0)) && (decide (nP=0) && decide (nB=0) && V))):=by
  show _=_;rw [c,v];by_cases h0:M=0
  ·simp [nfS]
  ·simp [nfS]
 have J:Hx (∀ X,Ov w X->Ro 76 #[O zc 2,O zc 1,O zc 7] X (ze true)):=fun X _=>by simpa using Bp 2 1 7 X
 have I:Hx (∀ X,Ov w X->Ro 76 #[O zc 2,O zc 4,O zc 6] X (ze false)):=fun X _=>by simpa using Bp 2 4 6 X
 have Y:Hx (∀ X,Ov w X->Ro 77 #[.string x] X (ze P)):=fun X _=>by rw [A];exact Bn x X hx
 have W:Hx (∀ X,Ov w X->Ro 77 #[.string y] X (ze N)):=fun X _=>by rw [v];exact Bn y X hy
 have KO:Hx (∀ X,Ov w X->Ro 78 #[zf #[O zc e0,O zc e1,O zc e2,.string e3,zd q q1 q2]] X (ze V)):=fun X H=>by rw [E];exact Dt ke _ r X (hR.over H)
 have KR:Hx (∀ X,Ov w X->Ro 79 #[zf #[O zc e0,O zc e1,O zc e2,.string e3,zd q q1 q2]] X (ze Z)):=fun X H=>by rw [B];exact CW ke _ r X (hR.over H)
 have R:Hx (∀ X,Ov w X->Ro 39 #[zd aB body.length cB] X (ze qb)):=fun X H=>by rw [F];exact Co ke kc body aB cB X (Ar H hB)
 rw [<-l] at R;have T:=hL.max;have S:=hP.max;have L:=hB.max;rw [<-g] at T;rw [<-j] at S;rw [<-l] at L;have aj:=Aa hL;have ag:=Aa hP;have af:=Aa n;have ae:=Aa C;have ai:=Aa g;have ah:=Aa j;rw [<-g,<-j,<-l];clear c A v n C F B E G Q hL hP hB hR g j l hx hy;go_enter Tryz.func38,Tryz.ntmps38;go_wp2_with fail;refine mo (J.o _ (bA _ _)) fun w1 f=>?_;obtain ⟨b,i⟩:=rov f;clear f  J;have u:=Ad.all b.o;go_wp2_with fail;refine mo (Y.o _ i.o) fun w2 f=>?_;replace i:=Aa (Ab i.o f);replace b:=Aa (b.o.over f);clear f u Y
 cases P with
 | true=>
  have u:=Ad.all b.o;go_wp2_with fail;refine mo (W.o _ i.o) fun w3 f=>?_;replace i:=Aa (Ab i.o f);replace b:=Aa (b.o.over f);clear f u W
  cases N with
  | true=>
   have u:=Ad.all b.o;go_wp2_with fail;refine mo (I.o _ i.o) fun w4 f=>?_;replace i:=Aa (Ab i.o f);replace b:=Aa (b.o.over f);clear f u I;have K:Hx (fin=false):=by have h:=U.o;simp at h;exact h
   have u:=Ad.all b.o;go_wp2_with fail;go_ret;exact ⟨by rw [K.o];(first | rfl | (simp;done) | (simp;assumption) | (simp;omega)),i.o⟩
  | false=>
   have K:Hx (fin=false):=by have h:=U.o;simp at h;exact h
   have u:=Ad.all b.o;go_wp2_with fail;go_ret;exact ⟨by rw [K.o];(first | rfl | (simp;done) | (simp;assumption) | (simp;omega)),i.o⟩
 | false=>
  have K:Hx (fin=false):=by have h:=U.o;simp at h;exact h
  have u:=Ad.all b.o;go_wp2_with fail;go_ret;exact ⟨by rw [K.o];(first | rfl | (simp;done) | (simp;assumption) | (simp;omega)),i.o⟩
end Go.Proofs.YtipngnjffjajpaaGreatDoor.Tx
