/- The document's answer: declarations. -/
import Derived.Test.YtipngnjffjajpaaGreatDoorH34
set_option linter.unusedVariables false
set_option maxHeartbeats 8000000
set_option maxRecDepth 100000
namespace Go.Proofs.YtipngnjffjajpaaGreatDoor.Tx
open Go.RowKit
open Go.Value renaming int -> M, slice -> U, bool -> zc, pointer -> zd, agg -> zf, tuple -> zh
open Go.IntKind renaming i64 -> O
open Go.Obj renaming cells -> ze
open Go.Ending renaming returned -> zg
theorem Ki (ke kc:Nat) (a:Int) (x y:ByteArray) (aL:Option Addr) (cL:Nat) (lb:List D) (aP:Option Addr) (cP:Nat) (ps:List ByteArray) (aB:Option Addr) (cB:Nat) (body:List D) (e0 e1 e2:Int) (e3:ByteArray) (q:Option Addr) (q1 q2:Nat) (r:D) (w:World) (hx:x.size<=maxLen) (hy:y.size<=maxLen) (hL:LS 4 (ZP w) w (U aL lb.length cL) lb) (hP:LS 1 ZN w (U aP ps.length cP) ps) (hB:LS 12 (ZC w ke kc) w (U aB body.length cB) body) (hR:ZE w ke [M O e0,M O e1,M O e2,.string e3,U q q1 q2] r) :
  Ro 38 #[zf #[M O 1,M O a,.string x,.string y,zc true,U aL lb.length cL,U aP ps.length cP,U aB body.length cB,M O e0,M O e1,M O e2,.string e3,U q q1 q2]] w (zc (dfK ke kc (deD 1 a x y true lb ps body r))):=by
 obtain ⟨fin,B⟩:=nm (dfK ke kc (deD 1 a x y true lb ps body r));rw [<-B];unfold dfK Ds Du at B;simp only [gDd,BW nmS,BV,List.length_map] at B;obtain ⟨qx,T⟩:=nm (nmS x.data.toList);obtain ⟨qy,S⟩:=nm (y.data.toList.isEmpty);obtain ⟨ql,K⟩:=nm (lb.all Cv);obtain ⟨qp,W⟩:=nm (ps.all fun x=>nmS x.data.toList);obtain ⟨qb,Z⟩:=nm (body.all (sfK ke kc));obtain ⟨qr,V⟩:=nm (efK ke r);obtain ⟨qo,Y⟩:=nm (CT r);obtain ⟨J,E⟩:=nm lb.length;obtain ⟨P,F⟩:=nm ps.length;obtain ⟨Q,G⟩:=nm body.length;have aa:(lb≠[])=(J≠0):=by rw [E];simp
 have ak:J=0->ql=true:=fun h=>by rw [K,List.length_eq_zero_iff.1 (E.symm.trans h)];rfl
 simp only [<-T,<-K,<-W,<-Z,<-V,<-Y,<-F,<-G,aa] at B;have HF:Hx (fin=(qx && qy && (!true && decide (J=0)) && (decide (P=0) && decide (Q=0) && qo))):=by
  show _=_;rw [B,S];by_cases h0:J=0
  ·simp [nfS]
  ·simp [nfS]
 have ae:Hx (∀ X,Ov w X->Ro 76 #[M O 1,M O 1,M O 7] X (zc true)):=fun X _=>by simpa using AM 1 1 7 X
 have ad:Hx (∀ X,Ov w X->Ro 76 #[M O 1,M O 4,M O 6] X (zc false)):=fun X _=>by simpa using AM 1 4 6 X
 have KX:Hx (∀ X,Ov w X->Ro 77 #[.string x] X (zc qx)):=fun X _=>by rw [T];exact AV x X hx
 have L:=Aa S;have KO:Hx (∀ X,Ov w X->Ro 78 #[zf #[M O e0,M O e1,M O e2,.string e3,U q q1 q2]] X (zc qo)):=fun X hX=>by rw [Y];exact BS ke _ r X (hR.over hX)
 have KR:Hx (∀ X,Ov w X->Ro 79 #[zf #[M O e0,M O e1,M O e2,.string e3,U q q1 q2]] X (zc qr)):=fun X hX=>by rw [V];exact Bw ke _ r X (hR.over hX)
 have al:Hx (∀ X,Ov w X->Ro 39 #[U aB body.length cB] X (zc qb)):=fun X hX=>by rw [Z];exact Bc ke kc body aB cB X (Ay hX hB)
 rw [<-G] at al;have an:=hL.max;have am:=hP.max;have ag:=hB.max;rw [<-E] at an;rw [<-F] at am;rw [<-G] at ag;have a5:=Aa hL;have a2:=Aa hP;have a1:=Aa K;have a0:=Aa W;have a4:=Aa E;have a3:=Aa F;rw [<-E,<-F,<-G];clear B T S K W Z V Y aa ak hL hP hB hR E F G hx hy;go_enter Tryz.func38,Tryz.ntmps38;go_wp2_with fail;refine (ae.o _ (bA w (ze #[M O 1,M O a,.string x,.string y,zc true,U aL J cL,U aP P cP,U aB Q cB,M O e0,M O e1,M O e2,.string e3,U q q1 q2] 51))).mono ?_;rintro e w1 ⟨rfl,H⟩;have ah:Hx (Ov w w1):=Ab (bA w (ze #[M O 1,M O a,.string x,.string y,zc true,U aL J cL,U aP P cP,U aB Q cB,M O e0,M O e1,M O e2,.string e3,U q q1 q2] 51)) H;have I:Hx (Ae [M O 1,M O a,.string x,.string y,zc true,U aL J cL,U aP P cP,U aB Q cB,M O e0,M O e1,M O e2,.string e3,U q q1 q2] w1 w.heap.size):=Ae.over (AW w [M O 1,M O a,.string x,.string y,zc true,U aL J cL,U aP P cP,U aB Q cB,M O e0,M O e1,M O e2,.string e3,U q q1 q2] 51) H;clear H  ae;obtain ⟨A,v,u,n,m,l,k,j,i,g,f,c,b⟩:=Ap I.o;go_wp2_with fail;refine (KX.o _ (ah.o)).mono ?_;rintro e w2 ⟨rfl,H⟩;have N:Hx (Ov w w2):=Ab (ah.o) H;have C:Hx (Ae [M O 1,M O a,.string x,.string y,zc true,U aL J cL,U aP P cP,U aB Q cB,M O e0,M O e1,M O e2,.string e3,U q q1 q2] w2 w.heap.size):=I.o.over H;clear H A v u n m l k j i g f c b KX
 cases qx with
 | true=>
  by_cases hy0:y.data.toList=[]
  ·obtain rfl:=Aq hy0
   have R:qy=true:=by rw [L.o];rfl
   subst R;clear hy0 L;obtain ⟨A,v,u,n,m,l,k,j,i,g,f,c,b⟩:=Ap C.o;go_wp2_with fail;refine (ad.o _ (N.o)).mono ?_;rintro e w3 ⟨rfl,H⟩;have ap:Hx (Ov w w3):=Ab (N.o) H;have ab:Hx (Ae [M O 1,M O a,.string x,.string ⟨#[]⟩,zc true,U aL J cL,U aP P cP,U aB Q cB,M O e0,M O e1,M O e2,.string e3,U q q1 q2] w3 w.heap.size):=C.o.over H;clear H A v u n m l k j i g f c b ad;have HV:Hx (fin=false):=by have h:=HF.o;simp at h;exact h
   obtain ⟨A,v,u,n,m,l,k,j,i,g,f,c,b⟩:=Ap ab.o;go_wp2_with fail;go_ret;exact ⟨by rw [HV.o];(first | rfl | (simp;done) | (simp;assumption) | (simp;omega)),ap.o⟩
  ·have aa:=Ax hy0
   have R:qy=false:=by rw [L.o];simpa using hy0
   subst R;clear hy0 L;have HV:Hx (fin=false):=by have h:=HF.o;simp at h;exact h
   obtain ⟨A,v,u,n,m,l,k,j,i,g,f,c,b⟩:=Ap C.o;go_wp2_with fail;go_ret;exact ⟨by rw [HV.o];(first | rfl | (simp;done) | (simp;assumption) | (simp;omega)),N.o⟩
 | false=>
  have HV:Hx (fin=false):=by have h:=HF.o;simp at h;exact h
  obtain ⟨A,v,u,n,m,l,k,j,i,g,f,c,b⟩:=Ap C.o;go_wp2_with fail;go_ret;exact ⟨by rw [HV.o];(first | rfl | (simp;done) | (simp;assumption) | (simp;omega)),N.o⟩
theorem Kj (ke kc:Nat) (a:Int) (x y:ByteArray) (aL:Option Addr) (cL:Nat) (lb:List D) (aP:Option Addr) (cP:Nat) (ps:List ByteArray) (aB:Option Addr) (cB:Nat) (body:List D) (e0 e1 e2:Int) (e3:ByteArray) (q:Option Addr) (q1 q2:Nat) (r:D) (w:World) (hx:x.size<=maxLen) (hy:y.size<=maxLen) (hL:LS 4 (ZP w) w (U aL lb.length cL) lb) (hP:LS 1 ZN w (U aP ps.length cP) ps) (hB:LS 12 (ZC w ke kc) w (U aB body.length cB) body) (hR:ZE w ke [M O e0,M O e1,M O e2,.string e3,U q q1 q2] r) :
  Ro 38 #[zf #[M O 1,M O a,.string x,.string y,zc false,U aL lb.length cL,U aP ps.length cP,U aB body.length cB,M O e0,M O e1,M O e2,.string e3,U q q1 q2]] w (zc (dfK ke kc (deD 1 a x y false lb ps body r))):=by
 obtain ⟨fin,E⟩:=nm (dfK ke kc (deD 1 a x y false lb ps body r));rw [<-E];unfold dfK Ds Du at E;simp only [gDd,BW nmS,BV,List.length_map] at E;obtain ⟨qx,Z⟩:=nm (nmS x.data.toList);obtain ⟨qy,Y⟩:=nm (y.data.toList.isEmpty);obtain ⟨ql,S⟩:=nm (lb.all Cv);obtain ⟨qp,ab⟩:=nm (ps.all fun x=>nmS x.data.toList);obtain ⟨qb,ad⟩:=nm (body.all (sfK ke kc));obtain ⟨qr,aa⟩:=nm (efK ke r);obtain ⟨qo,ac⟩:=nm (CT r);obtain ⟨H,I⟩:=nm lb.length;obtain ⟨Q,J⟩:=nm ps.length;obtain ⟨R,K⟩:=nm body.length;have ae:(lb≠[])=(H≠0):=by rw [I];simp
 have aq:H=0->ql=true:=fun h=>by rw [S,List.length_eq_zero_iff.1 (I.symm.trans h)];rfl
 simp only [<-Z,<-S,<-ab,<-ad,<-aa,<-ac,<-J,<-K,ae] at E;have HF:Hx (fin=(qx && qy && (!false && decide (H=0)) && (decide (Q=0) && decide (R=0) && qo))):=by
  show _=_;rw [E,Y];by_cases h0:H=0
  ·simp [h0,nfS]
  ·simp [h0,nfS]
 have aj:Hx (∀ X,Ov w X->Ro 76 #[M O 1,M O 1,M O 7] X (zc true)):=fun X _=>by simpa using AM 1 1 7 X
 have ai:Hx (∀ X,Ov w X->Ro 76 #[M O 1,M O 4,M O 6] X (zc false)):=fun X _=>by simpa using AM 1 4 6 X
 have KX:Hx (∀ X,Ov w X->Ro 77 #[.string x] X (zc qx)):=fun X _=>by rw [Z];exact AV x X hx
 have T:=Aa Y;have KO:Hx (∀ X,Ov w X->Ro 78 #[zf #[M O e0,M O e1,M O e2,.string e3,U q q1 q2]] X (zc qo)):=fun X hX=>by rw [ac];exact BS ke _ r X (hR.over hX)
 have KR:Hx (∀ X,Ov w X->Ro 79 #[zf #[M O e0,M O e1,M O e2,.string e3,U q q1 q2]] X (zc qr)):=fun X hX=>by rw [aa];exact Bw ke _ r X (hR.over hX)
 have ar:Hx (∀ X,Ov w X->Ro 39 #[U aB body.length cB] X (zc qb)):=fun X hX=>by rw [ad];exact Bc ke kc body aB cB X (Ay hX hB)
 rw [<-K] at ar;have av:=hL.max;have au:=hP.max;have ak:=hB.max;rw [<-I] at av;rw [<-J] at au;rw [<-K] at ak;have bc:=Aa hL;have a9:=Aa hP;have a8:=Aa S;have a7:=Aa ab;have bb:=Aa I;have ba:=Aa J;rw [<-I,<-J,<-K];clear E Z Y S ab ad aa ac ae aq hL hP hB hR I J K hx hy;go_enter Tryz.func38,Tryz.ntmps38;go_wp2_with fail;refine (aj.o _ (bA w (ze #[M O 1,M O a,.string x,.string y,zc false,U aL H cL,U aP Q cP,U aB R cB,M O e0,M O e1,M O e2,.string e3,U q q1 q2] 51))).mono ?_;rintro e w1 ⟨rfl,G⟩;have al:Hx (Ov w w1):=Ab (bA w (ze #[M O 1,M O a,.string x,.string y,zc false,U aL H cL,U aP Q cP,U aB R cB,M O e0,M O e1,M O e2,.string e3,U q q1 q2] 51)) G;have N:Hx (Ae [M O 1,M O a,.string x,.string y,zc false,U aL H cL,U aP Q cP,U aB R cB,M O e0,M O e1,M O e2,.string e3,U q q1 q2] w1 w.heap.size):=Ae.over (AW w [M O 1,M O a,.string x,.string y,zc false,U aL H cL,U aP Q cP,U aB R cB,M O e0,M O e1,M O e2,.string e3,U q q1 q2] 51) G;clear G  aj;obtain ⟨B,A,v,u,n,m,l,k,j,g,f,c,b⟩:=Ap N.o;go_wp2_with fail;refine (KX.o _ (al.o)).mono ?_;rintro e w2 ⟨rfl,G⟩;have V:Hx (Ov w w2):=Ab (al.o) G;have F:Hx (Ae [M O 1,M O a,.string x,.string y,zc false,U aL H cL,U aP Q cP,U aB R cB,M O e0,M O e1,M O e2,.string e3,U q q1 q2] w2 w.heap.size):=N.o.over G;clear G B A v u n m l k j g f c b KX
 cases qx with
 | true=>
  by_cases hy0:y.data.toList=[]
  ·obtain rfl:=Aq hy0
   have W:qy=true:=by rw [T.o];rfl
   subst W;clear hy0 T;obtain ⟨B,A,v,u,n,m,l,k,j,g,f,c,b⟩:=Ap F.o;go_wp2_with fail;refine (ai.o _ (V.o)).mono ?_;rintro e w3 ⟨rfl,G⟩;have P:Hx (Ov w w3):=Ab (V.o) G;have C:Hx (Ae [M O 1,M O a,.string x,.string ⟨#[]⟩,zc false,U aL H cL,U aP Q cP,U aB R cB,M O e0,M O e1,M O e2,.string e3,U q q1 q2] w3 w.heap.size):=F.o.over G;clear G B A v u n m l k j g f c b ai;by_cases h0:H=0
   ·subst h0
    obtain ⟨B,A,v,u,n,m,l,k,j,g,f,c,b⟩:=Ap C.o;go_wp2_with fail;clear B A v u n m l k j g f c b;go_loopw [3] (fun i wr=>i=M O 0/\w3=wr) (fun _ _=>0)
    case atStart=>exact ⟨rfl,rfl⟩
    case round=>
     obtain ⟨rfl,rfl⟩:=hrel;by_cases h1:Q=0
     ·subst h1
      by_cases h2:R=0
      ·subst h2
       obtain ⟨B,A,v,u,n,m,l,k,j,g,f,c,b⟩:=Ap C.o;go_wp2_with fail;refine (KO.o _ (P.o)).mono ?_;rintro e w4 ⟨rfl,G⟩;have aw:Hx (Ov w w4):=Ab (P.o) G;have af:Hx (Ae [M O 1,M O a,.string x,.string ⟨#[]⟩,zc false,U aL 0 cL,U aP 0 cP,U aB 0 cB,M O e0,M O e1,M O e2,.string e3,U q q1 q2] w4 w.heap.size):=C.o.over G;clear G B A v u n m l k j g f c b KO;have L:Hx (fin=qo):=by have h:=HF.o;simp at h;exact h
       obtain ⟨B,A,v,u,n,m,l,k,j,g,f,c,b⟩:=Ap af.o;go_wp2_with fail;go_ret;exact ⟨by rw [L.o];(first | rfl | (simp;done) | (simp;assumption) | (simp;omega)),aw.o⟩
      ·have hi:¬ (R:Int)=0:=by omega
       have L:Hx (fin=false):=by have h:=HF.o;simp [h2] at h;exact h
       obtain ⟨B,A,v,u,n,m,l,k,j,g,f,c,b⟩:=Ap C.o;go_wp2_with fail;go_ret;exact ⟨by rw [L.o];(first | rfl | (simp;done) | (simp;assumption) | (simp;omega)),P.o⟩
     ·have hi:¬ (Q:Int)=0:=by omega
      have L:Hx (fin=false):=by have h:=HF.o;simp [h1] at h;exact h
      obtain ⟨B,A,v,u,n,m,l,k,j,g,f,c,b⟩:=Ap C.o;go_wp2_with fail;go_ret;exact ⟨by rw [L.o];(first | rfl | (simp;done) | (simp;assumption) | (simp;omega)),P.o⟩
   ·have hi:(0:Int) < (H:Int):=by omega
    have a6:0 < H:=by omega
    have L:Hx (fin=false):=by have h:=HF.o;simp [h0] at h;exact h
    obtain ⟨B,A,v,u,n,m,l,k,j,g,f,c,b⟩:=Ap C.o;go_wp2_with fail;go_ret;exact ⟨by rw [L.o];(first | rfl | (simp;done) | (simp;assumption) | (simp;omega)),P.o⟩
  ·have ae:=Ax hy0
   have W:qy=false:=by rw [T.o];simpa using hy0
   subst W;clear hy0 T;have L:Hx (fin=false):=by have h:=HF.o;simp at h;exact h
   obtain ⟨B,A,v,u,n,m,l,k,j,g,f,c,b⟩:=Ap F.o;go_wp2_with fail;go_ret;exact ⟨by rw [L.o];(first | rfl | (simp;done) | (simp;assumption) | (simp;omega)),V.o⟩
 | false=>
  have L:Hx (fin=false):=by have h:=HF.o;simp at h;exact h
  obtain ⟨B,A,v,u,n,m,l,k,j,g,f,c,b⟩:=Ap F.o;go_wp2_with fail;go_ret;exact ⟨by rw [L.o];(first | rfl | (simp;done) | (simp;assumption) | (simp;omega)),V.o⟩
theorem Kg (ke kc:Nat) (a:Int) (x y:ByteArray) (aL:Option Addr) (cL:Nat) (lb:List D) (aP:Option Addr) (cP:Nat) (ps:List ByteArray) (aB:Option Addr) (cB:Nat) (body:List D) (e0 e1 e2:Int) (e3:ByteArray) (q:Option Addr) (q1 q2:Nat) (r:D) (w:World) (hx:x.size<=maxLen) (hy:y.size<=maxLen) (hL:LS 4 (ZP w) w (U aL lb.length cL) lb) (hP:LS 1 ZN w (U aP ps.length cP) ps) (hB:LS 12 (ZC w ke kc) w (U aB body.length cB) body) (hR:ZE w ke [M O e0,M O e1,M O e2,.string e3,U q q1 q2] r) :
  Ro 38 #[zf #[M O 2,M O a,.string x,.string y,zc true,U aL lb.length cL,U aP ps.length cP,U aB body.length cB,M O e0,M O e1,M O e2,.string e3,U q q1 q2]] w (zc (dfK ke kc (deD 2 a x y true lb ps body r))):=by
 obtain ⟨fin,B⟩:=nm (dfK ke kc (deD 2 a x y true lb ps body r));rw [<-B];unfold dfK Ds Du at B;simp only [gDd,BW nmS,BV,List.length_map] at B;obtain ⟨qx,R⟩:=nm (nmS x.data.toList);obtain ⟨qy,Q⟩:=nm (nmS y.data.toList);obtain ⟨ql,L⟩:=nm (lb.all Cv);obtain ⟨qp,T⟩:=nm (ps.all fun x=>nmS x.data.toList);obtain ⟨qb,W⟩:=nm (body.all (sfK ke kc));obtain ⟨qr,S⟩:=nm (efK ke r);obtain ⟨qo,V⟩:=nm (CT r);obtain ⟨H,G⟩:=nm lb.length;obtain ⟨N,I⟩:=nm ps.length;obtain ⟨P,J⟩:=nm body.length;have ab:(lb≠[])=(H≠0):=by rw [G];simp
 have ak:H=0->ql=true:=fun h=>by rw [L,List.length_eq_zero_iff.1 (G.symm.trans h)];rfl
 simp only [<-R,<-L,<-T,<-W,<-S,<-V,<-I,<-J,ab] at B;have HF:Hx (fin=(qx && qy && (!true && decide (H=0)) && (decide (N=0) && decide (P=0) && qo))):=by
  show _=_;rw [B,Q];by_cases h0:H=0
  ·simp [nfS]
  ·simp [nfS]
 have ae:Hx (∀ X,Ov w X->Ro 76 #[M O 2,M O 1,M O 7] X (zc true)):=fun X _=>by simpa using AM 2 1 7 X
 have ad:Hx (∀ X,Ov w X->Ro 76 #[M O 2,M O 4,M O 6] X (zc false)):=fun X _=>by simpa using AM 2 4 6 X
 have KX:Hx (∀ X,Ov w X->Ro 77 #[.string x] X (zc qx)):=fun X _=>by rw [R];exact AV x X hx
 have KY:Hx (∀ X,Ov w X->Ro 77 #[.string y] X (zc qy)):=fun X _=>by rw [Q];exact AV y X hy
 have KO:Hx (∀ X,Ov w X->Ro 78 #[zf #[M O e0,M O e1,M O e2,.string e3,U q q1 q2]] X (zc qo)):=fun X hX=>by rw [V];exact BS ke _ r X (hR.over hX)
 have KR:Hx (∀ X,Ov w X->Ro 79 #[zf #[M O e0,M O e1,M O e2,.string e3,U q q1 q2]] X (zc qr)):=fun X hX=>by rw [S];exact Bw ke _ r X (hR.over hX)
 have al:Hx (∀ X,Ov w X->Ro 39 #[U aB body.length cB] X (zc qb)):=fun X hX=>by rw [W];exact Bc ke kc body aB cB X (Ay hX hB)
 rw [<-J] at al;have an:=hL.max;have am:=hP.max;have ag:=hB.max;rw [<-G] at an;rw [<-I] at am;rw [<-J] at ag;have a7:=Aa hL;have a4:=Aa hP;have a3:=Aa L;have a2:=Aa T;have a6:=Aa G;have a5:=Aa I;rw [<-G,<-I,<-J];clear B R Q L T W S V ab ak hL hP hB hR G I J hx hy;go_enter Tryz.func38,Tryz.ntmps38;go_wp2_with fail;refine (ae.o _ (bA w (ze #[M O 2,M O a,.string x,.string y,zc true,U aL H cL,U aP N cP,U aB P cB,M O e0,M O e1,M O e2,.string e3,U q q1 q2] 51))).mono ?_;rintro e w1 ⟨rfl,C⟩;have ah:Hx (Ov w w1):=Ab (bA w (ze #[M O 2,M O a,.string x,.string y,zc true,U aL H cL,U aP N cP,U aB P cB,M O e0,M O e1,M O e2,.string e3,U q q1 q2] 51)) C;have K:Hx (Ae [M O 2,M O a,.string x,.string y,zc true,U aL H cL,U aP N cP,U aB P cB,M O e0,M O e1,M O e2,.string e3,U q q1 q2] w1 w.heap.size):=Ae.over (AW w [M O 2,M O a,.string x,.string y,zc true,U aL H cL,U aP N cP,U aB P cB,M O e0,M O e1,M O e2,.string e3,U q q1 q2] 51) C;clear C  ae;obtain ⟨A,v,u,n,m,l,k,j,i,g,f,c,b⟩:=Ap K.o;go_wp2_with fail;refine (KX.o _ (ah.o)).mono ?_;rintro e w2 ⟨rfl,C⟩;have aa:Hx (Ov w w2):=Ab (ah.o) C;have F:Hx (Ae [M O 2,M O a,.string x,.string y,zc true,U aL H cL,U aP N cP,U aB P cB,M O e0,M O e1,M O e2,.string e3,U q q1 q2] w2 w.heap.size):=K.o.over C;clear C A v u n m l k j i g f c b KX
 cases qx with
 | true=>
  obtain ⟨A,v,u,n,m,l,k,j,i,g,f,c,b⟩:=Ap F.o;go_wp2_with fail;refine (KY.o _ (aa.o)).mono ?_;rintro e w3 ⟨rfl,C⟩;have Z:Hx (Ov w w3):=Ab (aa.o) C;have E:Hx (Ae [M O 2,M O a,.string x,.string y,zc true,U aL H cL,U aP N cP,U aB P cB,M O e0,M O e1,M O e2,.string e3,U q q1 q2] w3 w.heap.size):=F.o.over C;clear C A v u n m l k j i g f c b KY
  cases qy with
  | true=>
   obtain ⟨A,v,u,n,m,l,k,j,i,g,f,c,b⟩:=Ap E.o;go_wp2_with fail;refine (ad.o _ (Z.o)).mono ?_;rintro e w4 ⟨rfl,C⟩;have ap:Hx (Ov w w4):=Ab (Z.o) C;have Y:Hx (Ae [M O 2,M O a,.string x,.string y,zc true,U aL H cL,U aP N cP,U aB P cB,M O e0,M O e1,M O e2,.string e3,U q q1 q2] w4 w.heap.size):=E.o.over C;clear C A v u n m l k j i g f c b ad;have HV:Hx (fin=false):=by have h:=HF.o;simp at h;exact h
   obtain ⟨A,v,u,n,m,l,k,j,i,g,f,c,b⟩:=Ap Y.o;go_wp2_with fail;go_ret;exact ⟨by rw [HV.o];(first | rfl | (simp;done) | (simp;assumption) | (simp;omega)),ap.o⟩
  | false=>
   have HV:Hx (fin=false):=by have h:=HF.o;simp at h;exact h
   obtain ⟨A,v,u,n,m,l,k,j,i,g,f,c,b⟩:=Ap E.o;go_wp2_with fail;go_ret;exact ⟨by rw [HV.o];(first | rfl | (simp;done) | (simp;assumption) | (simp;omega)),Z.o⟩
 | false=>
  have HV:Hx (fin=false):=by have h:=HF.o;simp at h;exact h
  obtain ⟨A,v,u,n,m,l,k,j,i,g,f,c,b⟩:=Ap F.o;go_wp2_with fail;go_ret;exact ⟨by rw [HV.o];(first | rfl | (simp;done) | (simp;assumption) | (simp;omega)),aa.o⟩
theorem Kh (ke kc:Nat) (a:Int) (x y:ByteArray) (aL:Option Addr) (cL:Nat) (lb:List D) (aP:Option Addr) (cP:Nat) (ps:List ByteArray) (aB:Option Addr) (cB:Nat) (body:List D) (e0 e1 e2:Int) (e3:ByteArray) (q:Option Addr) (q1 q2:Nat) (r:D) (w:World) (hx:x.size<=maxLen) (hy:y.size<=maxLen) (hL:LS 4 (ZP w) w (U aL lb.length cL) lb) (hP:LS 1 ZN w (U aP ps.length cP) ps) (hB:LS 12 (ZC w ke kc) w (U aB body.length cB) body) (hR:ZE w ke [M O e0,M O e1,M O e2,.string e3,U q q1 q2] r) :
  Ro 38 #[zf #[M O 2,M O a,.string x,.string y,zc false,U aL lb.length cL,U aP ps.length cP,U aB body.length cB,M O e0,M O e1,M O e2,.string e3,U q q1 q2]] w (zc (dfK ke kc (deD 2 a x y false lb ps body r))):=by
 obtain ⟨fin,E⟩:=nm (dfK ke kc (deD 2 a x y false lb ps body r));rw [<-E];unfold dfK Ds Du at E;simp only [gDd,BW nmS,BV,List.length_map] at E;obtain ⟨qx,W⟩:=nm (nmS x.data.toList);obtain ⟨qy,V⟩:=nm (nmS y.data.toList);obtain ⟨ql,T⟩:=nm (lb.all Cv);obtain ⟨qp,Z⟩:=nm (ps.all fun x=>nmS x.data.toList);obtain ⟨qb,ab⟩:=nm (body.all (sfK ke kc));obtain ⟨qr,Y⟩:=nm (efK ke r);obtain ⟨qo,aa⟩:=nm (CT r);obtain ⟨I,J⟩:=nm lb.length;obtain ⟨R,K⟩:=nm ps.length;obtain ⟨S,L⟩:=nm body.length;have ag:(lb≠[])=(I≠0):=by rw [J];simp
 have aq:I=0->ql=true:=fun h=>by rw [T,List.length_eq_zero_iff.1 (J.symm.trans h)];rfl
 simp only [<-W,<-T,<-Z,<-ab,<-Y,<-aa,<-K,<-L,ag] at E;have HF:Hx (fin=(qx && qy && (!false && decide (I=0)) && (decide (R=0) && decide (S=0) && qo))):=by
  show _=_;rw [E,V];by_cases h0:I=0
  ·simp [h0,nfS]
  ·simp [h0,nfS]
 have aj:Hx (∀ X,Ov w X->Ro 76 #[M O 2,M O 1,M O 7] X (zc true)):=fun X _=>by simpa using AM 2 1 7 X
 have ai:Hx (∀ X,Ov w X->Ro 76 #[M O 2,M O 4,M O 6] X (zc false)):=fun X _=>by simpa using AM 2 4 6 X
 have KX:Hx (∀ X,Ov w X->Ro 77 #[.string x] X (zc qx)):=fun X _=>by rw [W];exact AV x X hx
 have KY:Hx (∀ X,Ov w X->Ro 77 #[.string y] X (zc qy)):=fun X _=>by rw [V];exact AV y X hy
 have KO:Hx (∀ X,Ov w X->Ro 78 #[zf #[M O e0,M O e1,M O e2,.string e3,U q q1 q2]] X (zc qo)):=fun X hX=>by rw [aa];exact BS ke _ r X (hR.over hX)
 have KR:Hx (∀ X,Ov w X->Ro 79 #[zf #[M O e0,M O e1,M O e2,.string e3,U q q1 q2]] X (zc qr)):=fun X hX=>by rw [Y];exact Bw ke _ r X (hR.over hX)
 have ar:Hx (∀ X,Ov w X->Ro 39 #[U aB body.length cB] X (zc qb)):=fun X hX=>by rw [ab];exact Bc ke kc body aB cB X (Ay hX hB)
 rw [<-L] at ar;have av:=hL.max;have au:=hP.max;have ak:=hB.max;rw [<-J] at av;rw [<-K] at au;rw [<-L] at ak;have be:=Aa hL;have bb:=Aa hP;have ba:=Aa T;have a9:=Aa Z;have bd:=Aa J;have bc:=Aa K;rw [<-J,<-K,<-L];clear E W V T Z ab Y aa ag aq hL hP hB hR J K L hx hy;go_enter Tryz.func38,Tryz.ntmps38;go_wp2_with fail;refine (aj.o _ (bA w (ze #[M O 2,M O a,.string x,.string y,zc false,U aL I cL,U aP R cP,U aB S cB,M O e0,M O e1,M O e2,.string e3,U q q1 q2] 51))).mono ?_;rintro e w1 ⟨rfl,F⟩;have al:Hx (Ov w w1):=Ab (bA w (ze #[M O 2,M O a,.string x,.string y,zc false,U aL I cL,U aP R cP,U aB S cB,M O e0,M O e1,M O e2,.string e3,U q q1 q2] 51)) F;have P:Hx (Ae [M O 2,M O a,.string x,.string y,zc false,U aL I cL,U aP R cP,U aB S cB,M O e0,M O e1,M O e2,.string e3,U q q1 q2] w1 w.heap.size):=Ae.over (AW w [M O 2,M O a,.string x,.string y,zc false,U aL I cL,U aP R cP,U aB S cB,M O e0,M O e1,M O e2,.string e3,U q q1 q2] 51) F;clear F  aj;obtain ⟨B,A,v,u,n,m,l,k,j,g,f,c,b⟩:=Ap P.o;go_wp2_with fail;refine (KX.o _ (al.o)).mono ?_;rintro e w2 ⟨rfl,F⟩;have ae:Hx (Ov w w2):=Ab (al.o) F;have H:Hx (Ae [M O 2,M O a,.string x,.string y,zc false,U aL I cL,U aP R cP,U aB S cB,M O e0,M O e1,M O e2,.string e3,U q q1 q2] w2 w.heap.size):=P.o.over F;clear F B A v u n m l k j g f c b KX
 cases qx with
 | true=>
  obtain ⟨B,A,v,u,n,m,l,k,j,g,f,c,b⟩:=Ap H.o;go_wp2_with fail;refine (KY.o _ (ae.o)).mono ?_;rintro e w3 ⟨rfl,F⟩;have ad:Hx (Ov w w3):=Ab (ae.o) F;have G:Hx (Ae [M O 2,M O a,.string x,.string y,zc false,U aL I cL,U aP R cP,U aB S cB,M O e0,M O e1,M O e2,.string e3,U q q1 q2] w3 w.heap.size):=H.o.over F;clear F B A v u n m l k j g f c b KY
  cases qy with
  | true=>
   obtain ⟨B,A,v,u,n,m,l,k,j,g,f,c,b⟩:=Ap G.o;go_wp2_with fail;refine (ai.o _ (ad.o)).mono ?_;rintro e w4 ⟨rfl,F⟩;have Q:Hx (Ov w w4):=Ab (ad.o) F;have C:Hx (Ae [M O 2,M O a,.string x,.string y,zc false,U aL I cL,U aP R cP,U aB S cB,M O e0,M O e1,M O e2,.string e3,U q q1 q2] w4 w.heap.size):=G.o.over F;clear F B A v u n m l k j g f c b ai;by_cases h0:I=0
   ·subst h0
    obtain ⟨B,A,v,u,n,m,l,k,j,g,f,c,b⟩:=Ap C.o;go_wp2_with fail;clear B A v u n m l k j g f c b;go_loopw [3] (fun i wr=>i=M O 0/\w4=wr) (fun _ _=>0)
    case atStart=>exact ⟨rfl,rfl⟩
    case round=>
     obtain ⟨rfl,rfl⟩:=hrel;by_cases h1:R=0
     ·subst h1
      by_cases h2:S=0
      ·subst h2
       obtain ⟨B,A,v,u,n,m,l,k,j,g,f,c,b⟩:=Ap C.o;go_wp2_with fail;refine (KO.o _ (Q.o)).mono ?_;rintro e w5 ⟨rfl,F⟩;have aw:Hx (Ov w w5):=Ab (Q.o) F;have ac:Hx (Ae [M O 2,M O a,.string x,.string y,zc false,U aL 0 cL,U aP 0 cP,U aB 0 cB,M O e0,M O e1,M O e2,.string e3,U q q1 q2] w5 w.heap.size):=C.o.over F;clear F B A v u n m l k j g f c b KO;have N:Hx (fin=qo):=by have h:=HF.o;simp at h;exact h
       obtain ⟨B,A,v,u,n,m,l,k,j,g,f,c,b⟩:=Ap ac.o;go_wp2_with fail;go_ret;exact ⟨by rw [N.o];(first | rfl | (simp;done) | (simp;assumption) | (simp;omega)),aw.o⟩
      ·have hi:¬ (S:Int)=0:=by omega
       have N:Hx (fin=false):=by have h:=HF.o;simp [h2] at h;exact h
       obtain ⟨B,A,v,u,n,m,l,k,j,g,f,c,b⟩:=Ap C.o;go_wp2_with fail;go_ret;exact ⟨by rw [N.o];(first | rfl | (simp;done) | (simp;assumption) | (simp;omega)),Q.o⟩
     ·have hi:¬ (R:Int)=0:=by omega
      have N:Hx (fin=false):=by have h:=HF.o;simp [h1] at h;exact h
      obtain ⟨B,A,v,u,n,m,l,k,j,g,f,c,b⟩:=Ap C.o;go_wp2_with fail;go_ret;exact ⟨by rw [N.o];(first | rfl | (simp;done) | (simp;assumption) | (simp;omega)),Q.o⟩
   ·have hi:(0:Int) < (I:Int):=by omega
    have a8:0 < I:=by omega
    have N:Hx (fin=false):=by have h:=HF.o;simp [h0] at h;exact h
    obtain ⟨B,A,v,u,n,m,l,k,j,g,f,c,b⟩:=Ap C.o;go_wp2_with fail;go_ret;exact ⟨by rw [N.o];(first | rfl | (simp;done) | (simp;assumption) | (simp;omega)),Q.o⟩
  | false=>
   have N:Hx (fin=false):=by have h:=HF.o;simp at h;exact h
   obtain ⟨B,A,v,u,n,m,l,k,j,g,f,c,b⟩:=Ap G.o;go_wp2_with fail;go_ret;exact ⟨by rw [N.o];(first | rfl | (simp;done) | (simp;assumption) | (simp;omega)),ad.o⟩
 | false=>
  have N:Hx (fin=false):=by have h:=HF.o;simp at h;exact h
  obtain ⟨B,A,v,u,n,m,l,k,j,g,f,c,b⟩:=Ap H.o;go_wp2_with fail;go_ret;exact ⟨by rw [N.o];(first | rfl | (simp;done) | (simp;assumption) | (simp;omega)),ae.o⟩
theorem Ke (ke kc:Nat) (a:Int) (x y:ByteArray) (aL:Option Addr) (cL:Nat) (lb:List D) (aP:Option Addr) (cP:Nat) (ps:List ByteArray) (aB:Option Addr) (cB:Nat) (body:List D) (e0 e1 e2:Int) (e3:ByteArray) (q:Option Addr) (q1 q2:Nat) (r:D) (w:World) (hx:x.size<=maxLen) (hy:y.size<=maxLen) (hL:LS 4 (ZP w) w (U aL lb.length cL) lb) (hP:LS 1 ZN w (U aP ps.length cP) ps) (hB:LS 12 (ZC w ke kc) w (U aB body.length cB) body) (hR:ZE w ke [M O e0,M O e1,M O e2,.string e3,U q q1 q2] r) :
  Ro 38 #[zf #[M O 3,M O a,.string x,.string y,zc true,U aL lb.length cL,U aP ps.length cP,U aB body.length cB,M O e0,M O e1,M O e2,.string e3,U q q1 q2]] w (zc (dfK ke kc (deD 3 a x y true lb ps body r))):=by
 obtain ⟨fin,B⟩:=nm (dfK ke kc (deD 3 a x y true lb ps body r));rw [<-B];unfold dfK Ds Du at B;simp only [gDd,BW nmS,BV,List.length_map] at B;obtain ⟨qx,T⟩:=nm (nmS x.data.toList);obtain ⟨qy,S⟩:=nm (y.data.toList.isEmpty);obtain ⟨ql,K⟩:=nm (lb.all Cv);obtain ⟨qp,W⟩:=nm (ps.all fun x=>nmS x.data.toList);obtain ⟨qb,Z⟩:=nm (body.all (sfK ke kc));obtain ⟨qr,V⟩:=nm (efK ke r);obtain ⟨qo,Y⟩:=nm (CT r);obtain ⟨J,E⟩:=nm lb.length;obtain ⟨P,F⟩:=nm ps.length;obtain ⟨Q,G⟩:=nm body.length;have aa:(lb≠[])=(J≠0):=by rw [E];simp
 have ak:J=0->ql=true:=fun h=>by rw [K,List.length_eq_zero_iff.1 (E.symm.trans h)];rfl
 simp only [<-T,<-K,<-W,<-Z,<-V,<-Y,<-F,<-G,aa] at B;have HF:Hx (fin=(qx && qy && (!true && decide (J=0)) && (decide (P=0) && decide (Q=0) && qo))):=by
  show _=_;rw [B,S];by_cases h0:J=0
  ·simp [nfS]
  ·simp [nfS]
 have ae:Hx (∀ X,Ov w X->Ro 76 #[M O 3,M O 1,M O 7] X (zc true)):=fun X _=>by simpa using AM 3 1 7 X
 have ad:Hx (∀ X,Ov w X->Ro 76 #[M O 3,M O 4,M O 6] X (zc false)):=fun X _=>by simpa using AM 3 4 6 X
 have KX:Hx (∀ X,Ov w X->Ro 77 #[.string x] X (zc qx)):=fun X _=>by rw [T];exact AV x X hx
 have L:=Aa S;have KO:Hx (∀ X,Ov w X->Ro 78 #[zf #[M O e0,M O e1,M O e2,.string e3,U q q1 q2]] X (zc qo)):=fun X hX=>by rw [Y];exact BS ke _ r X (hR.over hX)
 have KR:Hx (∀ X,Ov w X->Ro 79 #[zf #[M O e0,M O e1,M O e2,.string e3,U q q1 q2]] X (zc qr)):=fun X hX=>by rw [V];exact Bw ke _ r X (hR.over hX)
 have al:Hx (∀ X,Ov w X->Ro 39 #[U aB body.length cB] X (zc qb)):=fun X hX=>by rw [Z];exact Bc ke kc body aB cB X (Ay hX hB)
 rw [<-G] at al;have an:=hL.max;have am:=hP.max;have ag:=hB.max;rw [<-E] at an;rw [<-F] at am;rw [<-G] at ag;have a5:=Aa hL;have a2:=Aa hP;have a1:=Aa K;have a0:=Aa W;have a4:=Aa E;have a3:=Aa F;rw [<-E,<-F,<-G];clear B T S K W Z V Y aa ak hL hP hB hR E F G hx hy;go_enter Tryz.func38,Tryz.ntmps38;go_wp2_with fail;refine (ae.o _ (bA w (ze #[M O 3,M O a,.string x,.string y,zc true,U aL J cL,U aP P cP,U aB Q cB,M O e0,M O e1,M O e2,.string e3,U q q1 q2] 51))).mono ?_;rintro e w1 ⟨rfl,H⟩;have ah:Hx (Ov w w1):=Ab (bA w (ze #[M O 3,M O a,.string x,.string y,zc true,U aL J cL,U aP P cP,U aB Q cB,M O e0,M O e1,M O e2,.string e3,U q q1 q2] 51)) H;have I:Hx (Ae [M O 3,M O a,.string x,.string y,zc true,U aL J cL,U aP P cP,U aB Q cB,M O e0,M O e1,M O e2,.string e3,U q q1 q2] w1 w.heap.size):=Ae.over (AW w [M O 3,M O a,.string x,.string y,zc true,U aL J cL,U aP P cP,U aB Q cB,M O e0,M O e1,M O e2,.string e3,U q q1 q2] 51) H;clear H  ae;obtain ⟨A,v,u,n,m,l,k,j,i,g,f,c,b⟩:=Ap I.o;go_wp2_with fail;refine (KX.o _ (ah.o)).mono ?_;rintro e w2 ⟨rfl,H⟩;have N:Hx (Ov w w2):=Ab (ah.o) H;have C:Hx (Ae [M O 3,M O a,.string x,.string y,zc true,U aL J cL,U aP P cP,U aB Q cB,M O e0,M O e1,M O e2,.string e3,U q q1 q2] w2 w.heap.size):=I.o.over H;clear H A v u n m l k j i g f c b KX
 cases qx with
 | true=>
  by_cases hy0:y.data.toList=[]
  ·obtain rfl:=Aq hy0
   have R:qy=true:=by rw [L.o];rfl
   subst R;clear hy0 L;obtain ⟨A,v,u,n,m,l,k,j,i,g,f,c,b⟩:=Ap C.o;go_wp2_with fail;refine (ad.o _ (N.o)).mono ?_;rintro e w3 ⟨rfl,H⟩;have ap:Hx (Ov w w3):=Ab (N.o) H;have ab:Hx (Ae [M O 3,M O a,.string x,.string ⟨#[]⟩,zc true,U aL J cL,U aP P cP,U aB Q cB,M O e0,M O e1,M O e2,.string e3,U q q1 q2] w3 w.heap.size):=C.o.over H;clear H A v u n m l k j i g f c b ad;have HV:Hx (fin=false):=by have h:=HF.o;simp at h;exact h
   obtain ⟨A,v,u,n,m,l,k,j,i,g,f,c,b⟩:=Ap ab.o;go_wp2_with fail;go_ret;exact ⟨by rw [HV.o];(first | rfl | (simp;done) | (simp;assumption) | (simp;omega)),ap.o⟩
  ·have aa:=Ax hy0
   have R:qy=false:=by rw [L.o];simpa using hy0
   subst R;clear hy0 L;have HV:Hx (fin=false):=by have h:=HF.o;simp at h;exact h
   obtain ⟨A,v,u,n,m,l,k,j,i,g,f,c,b⟩:=Ap C.o;go_wp2_with fail;go_ret;exact ⟨by rw [HV.o];(first | rfl | (simp;done) | (simp;assumption) | (simp;omega)),N.o⟩
 | false=>
  have HV:Hx (fin=false):=by have h:=HF.o;simp at h;exact h
  obtain ⟨A,v,u,n,m,l,k,j,i,g,f,c,b⟩:=Ap C.o;go_wp2_with fail;go_ret;exact ⟨by rw [HV.o];(first | rfl | (simp;done) | (simp;assumption) | (simp;omega)),N.o⟩
theorem Kf (ke kc:Nat) (a:Int) (x y:ByteArray) (aL:Option Addr) (cL:Nat) (lb:List D) (aP:Option Addr) (cP:Nat) (ps:List ByteArray) (aB:Option Addr) (cB:Nat) (body:List D) (e0 e1 e2:Int) (e3:ByteArray) (q:Option Addr) (q1 q2:Nat) (r:D) (w:World) (hx:x.size<=maxLen) (hy:y.size<=maxLen) (hL:LS 4 (ZP w) w (U aL lb.length cL) lb) (hP:LS 1 ZN w (U aP ps.length cP) ps) (hB:LS 12 (ZC w ke kc) w (U aB body.length cB) body) (hR:ZE w ke [M O e0,M O e1,M O e2,.string e3,U q q1 q2] r) :
  Ro 38 #[zf #[M O 3,M O a,.string x,.string y,zc false,U aL lb.length cL,U aP ps.length cP,U aB body.length cB,M O e0,M O e1,M O e2,.string e3,U q q1 q2]] w (zc (dfK ke kc (deD 3 a x y false lb ps body r))):=by
 obtain ⟨fin,E⟩:=nm (dfK ke kc (deD 3 a x y false lb ps body r));rw [<-E];unfold dfK Ds Du at E;simp only [gDd,BW nmS,BV,List.length_map] at E;obtain ⟨qx,Z⟩:=nm (nmS x.data.toList);obtain ⟨qy,Y⟩:=nm (y.data.toList.isEmpty);obtain ⟨ql,S⟩:=nm (lb.all Cv);obtain ⟨qp,ab⟩:=nm (ps.all fun x=>nmS x.data.toList);obtain ⟨qb,ad⟩:=nm (body.all (sfK ke kc));obtain ⟨qr,aa⟩:=nm (efK ke r);obtain ⟨qo,ac⟩:=nm (CT r);obtain ⟨H,I⟩:=nm lb.length;obtain ⟨Q,J⟩:=nm ps.length;obtain ⟨R,K⟩:=nm body.length;have ae:(lb≠[])=(H≠0):=by rw [I];simp
 have aq:H=0->ql=true:=fun h=>by rw [S,List.length_eq_zero_iff.1 (I.symm.trans h)];rfl
 simp only [<-Z,<-S,<-ab,<-ad,<-aa,<-ac,<-J,<-K,ae] at E;have HF:Hx (fin=(qx && qy && (!false && decide (H=0)) && (decide (Q=0) && decide (R=0) && qo))):=by
  show _=_;rw [E,Y];by_cases h0:H=0
  ·simp [h0,nfS]
  ·simp [h0,nfS]
 have aj:Hx (∀ X,Ov w X->Ro 76 #[M O 3,M O 1,M O 7] X (zc true)):=fun X _=>by simpa using AM 3 1 7 X
 have ai:Hx (∀ X,Ov w X->Ro 76 #[M O 3,M O 4,M O 6] X (zc false)):=fun X _=>by simpa using AM 3 4 6 X
 have KX:Hx (∀ X,Ov w X->Ro 77 #[.string x] X (zc qx)):=fun X _=>by rw [Z];exact AV x X hx
 have T:=Aa Y;have KO:Hx (∀ X,Ov w X->Ro 78 #[zf #[M O e0,M O e1,M O e2,.string e3,U q q1 q2]] X (zc qo)):=fun X hX=>by rw [ac];exact BS ke _ r X (hR.over hX)
 have KR:Hx (∀ X,Ov w X->Ro 79 #[zf #[M O e0,M O e1,M O e2,.string e3,U q q1 q2]] X (zc qr)):=fun X hX=>by rw [aa];exact Bw ke _ r X (hR.over hX)
 have ar:Hx (∀ X,Ov w X->Ro 39 #[U aB body.length cB] X (zc qb)):=fun X hX=>by rw [ad];exact Bc ke kc body aB cB X (Ay hX hB)
 rw [<-K] at ar;have av:=hL.max;have au:=hP.max;have ak:=hB.max;rw [<-I] at av;rw [<-J] at au;rw [<-K] at ak;have bc:=Aa hL;have a9:=Aa hP;have a8:=Aa S;have a7:=Aa ab;have bb:=Aa I;have ba:=Aa J;rw [<-I,<-J,<-K];clear E Z Y S ab ad aa ac ae aq hL hP hB hR I J K hx hy;go_enter Tryz.func38,Tryz.ntmps38;go_wp2_with fail;refine (aj.o _ (bA w (ze #[M O 3,M O a,.string x,.string y,zc false,U aL H cL,U aP Q cP,U aB R cB,M O e0,M O e1,M O e2,.string e3,U q q1 q2] 51))).mono ?_;rintro e w1 ⟨rfl,G⟩;have al:Hx (Ov w w1):=Ab (bA w (ze #[M O 3,M O a,.string x,.string y,zc false,U aL H cL,U aP Q cP,U aB R cB,M O e0,M O e1,M O e2,.string e3,U q q1 q2] 51)) G;have N:Hx (Ae [M O 3,M O a,.string x,.string y,zc false,U aL H cL,U aP Q cP,U aB R cB,M O e0,M O e1,M O e2,.string e3,U q q1 q2] w1 w.heap.size):=Ae.over (AW w [M O 3,M O a,.string x,.string y,zc false,U aL H cL,U aP Q cP,U aB R cB,M O e0,M O e1,M O e2,.string e3,U q q1 q2] 51) G;clear G  aj;obtain ⟨B,A,v,u,n,m,l,k,j,g,f,c,b⟩:=Ap N.o;go_wp2_with fail;refine (KX.o _ (al.o)).mono ?_;rintro e w2 ⟨rfl,G⟩;have V:Hx (Ov w w2):=Ab (al.o) G;have F:Hx (Ae [M O 3,M O a,.string x,.string y,zc false,U aL H cL,U aP Q cP,U aB R cB,M O e0,M O e1,M O e2,.string e3,U q q1 q2] w2 w.heap.size):=N.o.over G;clear G B A v u n m l k j g f c b KX
 cases qx with
 | true=>
  by_cases hy0:y.data.toList=[]
  ·obtain rfl:=Aq hy0
   have W:qy=true:=by rw [T.o];rfl
   subst W;clear hy0 T;obtain ⟨B,A,v,u,n,m,l,k,j,g,f,c,b⟩:=Ap F.o;go_wp2_with fail;refine (ai.o _ (V.o)).mono ?_;rintro e w3 ⟨rfl,G⟩;have P:Hx (Ov w w3):=Ab (V.o) G;have C:Hx (Ae [M O 3,M O a,.string x,.string ⟨#[]⟩,zc false,U aL H cL,U aP Q cP,U aB R cB,M O e0,M O e1,M O e2,.string e3,U q q1 q2] w3 w.heap.size):=F.o.over G;clear G B A v u n m l k j g f c b ai;by_cases h0:H=0
   ·subst h0
    obtain ⟨B,A,v,u,n,m,l,k,j,g,f,c,b⟩:=Ap C.o;go_wp2_with fail;clear B A v u n m l k j g f c b;go_loopw [3] (fun i wr=>i=M O 0/\w3=wr) (fun _ _=>0)
    case atStart=>exact ⟨rfl,rfl⟩
    case round=>
     obtain ⟨rfl,rfl⟩:=hrel;by_cases h1:Q=0
     ·subst h1
      by_cases h2:R=0
      ·subst h2
       obtain ⟨B,A,v,u,n,m,l,k,j,g,f,c,b⟩:=Ap C.o;go_wp2_with fail;refine (KO.o _ (P.o)).mono ?_;rintro e w4 ⟨rfl,G⟩;have aw:Hx (Ov w w4):=Ab (P.o) G;have af:Hx (Ae [M O 3,M O a,.string x,.string ⟨#[]⟩,zc false,U aL 0 cL,U aP 0 cP,U aB 0 cB,M O e0,M O e1,M O e2,.string e3,U q q1 q2] w4 w.heap.size):=C.o.over G;clear G B A v u n m l k j g f c b KO;have L:Hx (fin=qo):=by have h:=HF.o;simp at h;exact h
       obtain ⟨B,A,v,u,n,m,l,k,j,g,f,c,b⟩:=Ap af.o;go_wp2_with fail;go_ret;exact ⟨by rw [L.o];(first | rfl | (simp;done) | (simp;assumption) | (simp;omega)),aw.o⟩
      ·have hi:¬ (R:Int)=0:=by omega
       have L:Hx (fin=false):=by have h:=HF.o;simp [h2] at h;exact h
       obtain ⟨B,A,v,u,n,m,l,k,j,g,f,c,b⟩:=Ap C.o;go_wp2_with fail;go_ret;exact ⟨by rw [L.o];(first | rfl | (simp;done) | (simp;assumption) | (simp;omega)),P.o⟩
     ·have hi:¬ (Q:Int)=0:=by omega
      have L:Hx (fin=false):=by have h:=HF.o;simp [h1] at h;exact h
      obtain ⟨B,A,v,u,n,m,l,k,j,g,f,c,b⟩:=Ap C.o;go_wp2_with fail;go_ret;exact ⟨by rw [L.o];(first | rfl | (simp;done) | (simp;assumption) | (simp;omega)),P.o⟩
   ·have hi:(0:Int) < (H:Int):=by omega
    have a6:0 < H:=by omega
    have L:Hx (fin=false):=by have h:=HF.o;simp [h0] at h;exact h
    obtain ⟨B,A,v,u,n,m,l,k,j,g,f,c,b⟩:=Ap C.o;go_wp2_with fail;go_ret;exact ⟨by rw [L.o];(first | rfl | (simp;done) | (simp;assumption) | (simp;omega)),P.o⟩
  ·have ae:=Ax hy0
   have W:qy=false:=by rw [T.o];simpa using hy0
   subst W;clear hy0 T;have L:Hx (fin=false):=by have h:=HF.o;simp at h;exact h
   obtain ⟨B,A,v,u,n,m,l,k,j,g,f,c,b⟩:=Ap F.o;go_wp2_with fail;go_ret;exact ⟨by rw [L.o];(first | rfl | (simp;done) | (simp;assumption) | (simp;omega)),V.o⟩
 | false=>
  have L:Hx (fin=false):=by have h:=HF.o;simp at h;exact h
  obtain ⟨B,A,v,u,n,m,l,k,j,g,f,c,b⟩:=Ap F.o;go_wp2_with fail;go_ret;exact ⟨by rw [L.o];(first | rfl | (simp;done) | (simp;assumption) | (simp;omega)),V.o⟩
theorem J6 (ke kc:Nat) (a:Int) (x y:ByteArray) (aL:Option Addr) (cL:Nat) (lb:List D) (aP:Option Addr) (cP:Nat) (ps:List ByteArray) (aB:Option Addr) (cB:Nat) (body:List D) (e0 e1 e2:Int) (e3:ByteArray) (q:Option Addr) (q1 q2:Nat) (r:D) (w:World) (hx:x.size<=maxLen) (hy:y.size<=maxLen) (hL:LS 4 (ZP w) w (U aL lb.length cL) lb) (hP:LS 1 ZN w (U aP ps.length cP) ps) (hB:LS 12 (ZC w ke kc) w (U aB body.length cB) body) (hR:ZE w ke [M O e0,M O e1,M O e2,.string e3,U q q1 q2] r) :
  Ro 38 #[zf #[M O 7,M O a,.string x,.string y,zc true,U aL lb.length cL,U aP ps.length cP,U aB body.length cB,M O e0,M O e1,M O e2,.string e3,U q q1 q2]] w (zc (dfK ke kc (deD 7 a x y true lb ps body r))):=by
 obtain ⟨fin,B⟩:=nm (dfK ke kc (deD 7 a x y true lb ps body r));rw [<-B];unfold dfK Ds Du at B;simp only [gDd,BW nmS,BV,List.length_map] at B;obtain ⟨qx,R⟩:=nm (nmS x.data.toList);obtain ⟨qy,Q⟩:=nm (y.data.toList.isEmpty);obtain ⟨ql,K⟩:=nm (lb.all Cv);obtain ⟨qp,T⟩:=nm (ps.all fun x=>nmS x.data.toList);obtain ⟨qb,W⟩:=nm (body.all (sfK ke kc));obtain ⟨qr,S⟩:=nm (efK ke r);obtain ⟨qo,V⟩:=nm (CT r);obtain ⟨J,E⟩:=nm lb.length;obtain ⟨nP,F⟩:=nm ps.length;obtain ⟨nB,G⟩:=nm body.length;have Y:(lb≠[])=(J≠0):=by rw [E];simp
 have ak:J=0->ql=true:=fun h=>by rw [K,List.length_eq_zero_iff.1 (E.symm.trans h)];rfl
 simp only [<-R,<-K,<-T,<-W,<-S,<-V,<-F,<-G,Y] at B;have HF:Hx (fin=(qx && qy && (!true && decide (J=0)) && (qp && qb && qr))):=by
  show _=_;rw [B,Q];by_cases h0:J=0
  ·simp [nfS]
  ·simp [nfS]
 have ae:Hx (∀ X,Ov w X->Ro 76 #[M O 7,M O 1,M O 7] X (zc true)):=fun X _=>by simpa using AM 7 1 7 X
 have ad:Hx (∀ X,Ov w X->Ro 76 #[M O 7,M O 4,M O 6] X (zc false)):=fun X _=>by simpa using AM 7 4 6 X
 have KX:Hx (∀ X,Ov w X->Ro 77 #[.string x] X (zc qx)):=fun X _=>by rw [R];exact AV x X hx
 have L:=Aa Q;have KO:Hx (∀ X,Ov w X->Ro 78 #[zf #[M O e0,M O e1,M O e2,.string e3,U q q1 q2]] X (zc qo)):=fun X hX=>by rw [V];exact BS ke _ r X (hR.over hX)
 have KR:Hx (∀ X,Ov w X->Ro 79 #[zf #[M O e0,M O e1,M O e2,.string e3,U q q1 q2]] X (zc qr)):=fun X hX=>by rw [S];exact Bw ke _ r X (hR.over hX)
 have al:Hx (∀ X,Ov w X->Ro 39 #[U aB body.length cB] X (zc qb)):=fun X hX=>by rw [W];exact Bc ke kc body aB cB X (Ay hX hB)
 rw [<-G] at al;have an:=hL.max;have am:=hP.max;have ag:=hB.max;rw [<-E] at an;rw [<-F] at am;rw [<-G] at ag;have a6:=Aa hL;have a3:=Aa hP;have a2:=Aa K;have a1:=Aa T;have a5:=Aa E;have a4:=Aa F;rw [<-E,<-F,<-G];clear B R Q K T W S V Y ak hL hP hB hR E F G hx hy;go_enter Tryz.func38,Tryz.ntmps38;go_wp2_with fail;refine (ae.o _ (bA w (ze #[M O 7,M O a,.string x,.string y,zc true,U aL J cL,U aP nP cP,U aB nB cB,M O e0,M O e1,M O e2,.string e3,U q q1 q2] 51))).mono ?_;rintro e w1 ⟨rfl,H⟩;have ah:Hx (Ov w w1):=Ab (bA w (ze #[M O 7,M O a,.string x,.string y,zc true,U aL J cL,U aP nP cP,U aB nB cB,M O e0,M O e1,M O e2,.string e3,U q q1 q2] 51)) H;have I:Hx (Ae [M O 7,M O a,.string x,.string y,zc true,U aL J cL,U aP nP cP,U aB nB cB,M O e0,M O e1,M O e2,.string e3,U q q1 q2] w1 w.heap.size):=Ae.over (AW w [M O 7,M O a,.string x,.string y,zc true,U aL J cL,U aP nP cP,U aB nB cB,M O e0,M O e1,M O e2,.string e3,U q q1 q2] 51) H;clear H  ae;obtain ⟨A,v,u,n,m,l,k,j,i,g,f,c,b⟩:=Ap I.o;go_wp2_with fail;refine (KX.o _ (ah.o)).mono ?_;rintro e w2 ⟨rfl,H⟩;have N:Hx (Ov w w2):=Ab (ah.o) H;have C:Hx (Ae [M O 7,M O a,.string x,.string y,zc true,U aL J cL,U aP nP cP,U aB nB cB,M O e0,M O e1,M O e2,.string e3,U q q1 q2] w2 w.heap.size):=I.o.over H;clear H A v u n m l k j i g f c b KX
 cases qx with
 | true=>
  by_cases hy0:y.data.toList=[]
  ·obtain rfl:=Aq hy0
   have P:qy=true:=by rw [L.o];rfl
   subst P;clear hy0 L;obtain ⟨A,v,u,n,m,l,k,j,i,g,f,c,b⟩:=Ap C.o;go_wp2_with fail;refine (ad.o _ (N.o)).mono ?_;rintro e w3 ⟨rfl,H⟩;have ap:Hx (Ov w w3):=Ab (N.o) H;have Z:Hx (Ae [M O 7,M O a,.string x,.string ⟨#[]⟩,zc true,U aL J cL,U aP nP cP,U aB nB cB,M O e0,M O e1,M O e2,.string e3,U q q1 q2] w3 w.heap.size):=C.o.over H;clear H A v u n m l k j i g f c b ad;have HV:Hx (fin=false):=by have h:=HF.o;simp at h;exact h
   obtain ⟨A,v,u,n,m,l,k,j,i,g,f,c,b⟩:=Ap Z.o;go_wp2_with fail;go_ret;exact ⟨by rw [HV.o];(first | rfl | (simp;done) | (simp;assumption) | (simp;omega)),ap.o⟩
  ·have Y:=Ax hy0
   have P:qy=false:=by rw [L.o];simpa using hy0
   subst P;clear hy0 L;have HV:Hx (fin=false):=by have h:=HF.o;simp at h;exact h
   obtain ⟨A,v,u,n,m,l,k,j,i,g,f,c,b⟩:=Ap C.o;go_wp2_with fail;go_ret;exact ⟨by rw [HV.o];(first | rfl | (simp;done) | (simp;assumption) | (simp;omega)),N.o⟩
 | false=>
  have HV:Hx (fin=false):=by have h:=HF.o;simp at h;exact h
  obtain ⟨A,v,u,n,m,l,k,j,i,g,f,c,b⟩:=Ap C.o;go_wp2_with fail;go_ret;exact ⟨by rw [HV.o];(first | rfl | (simp;done) | (simp;assumption) | (simp;omega)),N.o⟩
theorem J7 (ke kc:Nat) (a:Int) (x y:ByteArray) (aL:Option Addr) (cL:Nat) (lb:List D) (aP:Option Addr) (cP:Nat) (ps:List ByteArray) (aB:Option Addr) (cB:Nat) (body:List D) (e0 e1 e2:Int) (e3:ByteArray) (q:Option Addr) (q1 q2:Nat) (r:D) (w:World) (hx:x.size<=maxLen) (hy:y.size<=maxLen) (hL:LS 4 (ZP w) w (U aL lb.length cL) lb) (hP:LS 1 ZN w (U aP ps.length cP) ps) (hB:LS 12 (ZC w ke kc) w (U aB body.length cB) body) (hR:ZE w ke [M O e0,M O e1,M O e2,.string e3,U q q1 q2] r) :
  Ro 38 #[zf #[M O 7,M O a,.string x,.string y,zc false,U aL lb.length cL,U aP ps.length cP,U aB body.length cB,M O e0,M O e1,M O e2,.string e3,U q q1 q2]] w (zc (dfK ke kc (deD 7 a x y false lb ps body r))):=by
 obtain ⟨fin,H⟩:=nm (dfK ke kc (deD 7 a x y false lb ps body r));rw [<-H];unfold dfK Ds Du at H;simp only [gDd,BW nmS,BV,List.length_map] at H;obtain ⟨qx,ah⟩:=nm (nmS x.data.toList);obtain ⟨qy,ag⟩:=nm (y.data.toList.isEmpty);obtain ⟨ql,Z⟩:=nm (lb.all Cv);obtain ⟨qp,Q⟩:=nm (ps.all fun x=>nmS x.data.toList);obtain ⟨qb,ak⟩:=nm (body.all (sfK ke kc));obtain ⟨qr,ai⟩:=nm (efK ke r);obtain ⟨qo,aj⟩:=nm (CT r);obtain ⟨N,P⟩:=nm lb.length;obtain ⟨L,R⟩:=nm ps.length;obtain ⟨nB,S⟩:=nm body.length;have am:(lb≠[])=(N≠0):=by rw [P];simp
 have bh:N=0->ql=true:=fun h=>by rw [Z,List.length_eq_zero_iff.1 (P.symm.trans h)];rfl
 simp only [<-ah,<-Z,<-Q,<-ak,<-ai,<-aj,<-R,<-S,am] at H;have HF:Hx (fin=(qx && qy && (!false && decide (N=0)) && (qp && qb && qr))):=by
  show _=_;rw [H,ag];by_cases h0:N=0
  ·simp [h0,nfS]
  ·simp [h0,nfS]
 have az:Hx (∀ X,Ov w X->Ro 76 #[M O 7,M O 1,M O 7] X (zc true)):=fun X _=>by simpa using AM 7 1 7 X
 have ay:Hx (∀ X,Ov w X->Ro 76 #[M O 7,M O 4,M O 6] X (zc false)):=fun X _=>by simpa using AM 7 4 6 X
 have KX:Hx (∀ X,Ov w X->Ro 77 #[.string x] X (zc qx)):=fun X _=>by rw [ah];exact AV x X hx
 have aa:=Aa ag;have KO:Hx (∀ X,Ov w X->Ro 78 #[zf #[M O e0,M O e1,M O e2,.string e3,U q q1 q2]] X (zc qo)):=fun X hX=>by rw [aj];exact BS ke _ r X (hR.over hX)
 have KR:Hx (∀ X,Ov w X->Ro 79 #[zf #[M O e0,M O e1,M O e2,.string e3,U q q1 q2]] X (zc qr)):=fun X hX=>by rw [ai];exact Bw ke _ r X (hR.over hX)
 have ao:Hx (∀ X,Ov w X->Ro 39 #[U aB body.length cB] X (zc qb)):=fun X hX=>by rw [ak];exact Bc ke kc body aB cB X (Ay hX hB)
 rw [<-S] at ao;have bl:=hL.max;have bk:=hP.max;have a3:=hB.max;rw [<-P] at bl;rw [<-R] at bk;rw [<-S] at a3;have b9:=Aa hL;have bj:=Aa hP;have b7:=Aa Z;have a1:=Aa Q;have b8:=Aa P;have a2:=Aa R;rw [<-P,<-R,<-S];clear H ah ag Z Q ak ai aj am bh hL hP hB hR P R S hx hy;go_enter Tryz.func38,Tryz.ntmps38;go_wp2_with fail;refine (az.o _ (bA w (ze #[M O 7,M O a,.string x,.string y,zc false,U aL N cL,U aP L cP,U aB nB cB,M O e0,M O e1,M O e2,.string e3,U q q1 q2] 51))).mono ?_;rintro e w1 ⟨rfl,G⟩;have a7:Hx (Ov w w1):=Ab (bA w (ze #[M O 7,M O a,.string x,.string y,zc false,U aL N cL,U aP L cP,U aB nB cB,M O e0,M O e1,M O e2,.string e3,U q q1 q2] 51)) G;have W:Hx (Ae [M O 7,M O a,.string x,.string y,zc false,U aL N cL,U aP L cP,U aB nB cB,M O e0,M O e1,M O e2,.string e3,U q q1 q2] w1 w.heap.size):=Ae.over (AW w [M O 7,M O a,.string x,.string y,zc false,U aL N cL,U aP L cP,U aB nB cB,M O e0,M O e1,M O e2,.string e3,U q q1 q2] 51) G;clear G  az;obtain ⟨E,C,B,A,v,u,n,m,l,k,g,f,c⟩:=Ap W.o;go_wp2_with fail;refine (KX.o _ (a7.o)).mono ?_;rintro e w2 ⟨rfl,G⟩;have ad:Hx (Ov w w2):=Ab (a7.o) G;have J:Hx (Ae [M O 7,M O a,.string x,.string y,zc false,U aL N cL,U aP L cP,U aB nB cB,M O e0,M O e1,M O e2,.string e3,U q q1 q2] w2 w.heap.size):=W.o.over G;clear G E C B A v u n m l k g f c KX
 cases qx with
 | true=>
  by_cases hy0:y.data.toList=[]
  ·obtain rfl:=Aq hy0
   have af:qy=true:=by rw [aa.o];rfl
   subst af;clear hy0 aa;obtain ⟨E,C,B,A,v,u,n,m,l,k,g,f,c⟩:=Ap J.o;go_wp2_with fail;refine (ay.o _ (ad.o)).mono ?_;rintro e w3 ⟨rfl,G⟩;have ac:Hx (Ov w w3):=Ab (ad.o) G;have F:Hx (Ae [M O 7,M O a,.string x,.string ⟨#[]⟩,zc false,U aL N cL,U aP L cP,U aB nB cB,M O e0,M O e1,M O e2,.string e3,U q q1 q2] w3 w.heap.size):=J.o.over G;clear G E C B A v u n m l k g f c ay;by_cases h0:N=0
   ·subst h0
    obtain ⟨E,C,B,A,v,u,n,m,l,k,g,f,c⟩:=Ap F.o;go_wp2_with fail;clear E C B A v u n m l k g f c;go_loopw [3] (fun i wr=>i=M O 0/\w3=wr) (fun _ _=>0)
    case atStart=>exact ⟨rfl,rfl⟩
    case round=>
     obtain ⟨rfl,rfl⟩:=hrel;obtain ⟨E,C,B,A,v,u,n,m,l,k,g,f,c⟩:=Ap F.o;go_wp2_with fail;clear E C B A v u n m l k g f c;go_loopw [5] (fun i wr=>∃ (j:Nat),j<=L/\i=M O j/\(ps.drop j).all (fun x=>nmS x.data.toList)=qp/\Ov w3 wr) (fun i _=>L - (intOf i).toNat)
     case atStart=>exact ⟨0,Nat.zero_le _,rfl,a1.o.symm,Below.refl _ _⟩
     case round=>
      obtain ⟨j,hj,rfl,K,hB⟩:=hrel;obtain ⟨n0,n1,n2,n3,n4,n5,n6,n7,n8,n9,aw,av,au⟩:=Ap (F.o.over hB);by_cases hjl:j < L
      ·have T:j < ps.length:=by have:=a2.o;omega
       have bi:(j:Int) < (L:Int):=by omega
       obtain ⟨b,bf,rfl,cs,bg,an,hr⟩:=bj.o.at T;rw [List.drop_eq_getElem_cons T,List.all_cons] at K;generalize ps[j]=dj at K hr;obtain ⟨q9,al⟩:=nm (nmS dj.data.toList);rw [<-al] at K;have KC:Hx (∀ X,Ov wr X->Ro 77 #[.string dj] X (zc q9)):=fun X _=>by rw [al];exact AV dj X hr.2
       rw [hr.1] at an;have z0:wr.cell? ⟨b,bf+j,none⟩=some (.string dj):=ce1 (Ab ac.o hB) (by have:=an 0 _ rfl;simpa using this);have HP:=Aa K;have HB:=Aa hB;clear K hB an bg hr al T;go_wp2_with fail;refine (KC.o _ (Below.refl _ _)).mono ?_;rintro e W9 ⟨rfl,G⟩;have a6:=Aa (Ab HB.o G);clear G KC z0 n0 n1 n2 n3 n4 n5 n6 n7 n8 n9 aw av au
       cases q9 with
       | true=>
        have K:=HP.o;rw [Bool.true_and] at K;replace HP:=Aa K;clear K;go_wp2_with fail;exact ⟨⟨j+1,by omega,by go_num,HP.o,a6.o⟩,by simp [intOf];omega⟩
       | false=>
        have K:=HP.o;rw [Bool.false_and] at K;subst K;have V:Hx (fin=false):=by have h:=HF.o;simp at h;exact h
        go_wp2_with fail;go_ret;exact ⟨by rw [V.o];rfl,Ab ac.o a6.o⟩
      ·have hd:ps.drop j=[]:=List.drop_eq_nil_of_le (by have:=a2.o;omega)
       have bi:¬ (j:Int) < (L:Int):=by omega
       rw [hd] at K;have Q:true=qp:=by rw [<-K];rfl
       subst Q;have a4:=Aa (Ab ac.o hB);have a0:=Aa (F.o.over hB);clear K hd hB n0 n1 n2 n3 n4 n5 n6 n7 n8 n9 aw av au a1;obtain ⟨E,C,B,A,v,u,n,m,l,k,g,f,c⟩:=Ap a0.o;go_wp2_with fail;refine (ao.o _ (a4.o)).mono ?_;rintro e ar ⟨rfl,G⟩;have Y:Hx (Ov w ar):=Ab (a4.o) G;have I:Hx (Ae [M O 7,M O a,.string x,.string ⟨#[]⟩,zc false,U aL 0 cL,U aP L cP,U aB nB cB,M O e0,M O e1,M O e2,.string e3,U q q1 q2] ar w.heap.size):=a0.o.over G;clear G E C B A v u n m l k g f c ao
       cases qb with
       | true=>
        obtain ⟨E,C,B,A,v,u,n,m,l,k,g,f,c⟩:=Ap I.o;go_wp2_with fail;refine (KR.o _ (Y.o)).mono ?_;rintro e aq ⟨rfl,G⟩;have a5:Hx (Ov w aq):=Ab (Y.o) G;have ab:Hx (Ae [M O 7,M O a,.string x,.string ⟨#[]⟩,zc false,U aL 0 cL,U aP L cP,U aB nB cB,M O e0,M O e1,M O e2,.string e3,U q q1 q2] aq w.heap.size):=I.o.over G;clear G E C B A v u n m l k g f c KR;have V:Hx (fin=qr):=by have h:=HF.o;simp at h;exact h
        obtain ⟨E,C,B,A,v,u,n,m,l,k,g,f,c⟩:=Ap ab.o;go_wp2_with fail;go_ret;exact ⟨by rw [V.o];(first | rfl | (simp;done) | (simp;assumption) | (simp;omega)),a5.o⟩
       | false=>
        have V:Hx (fin=false):=by have h:=HF.o;simp at h;exact h
        obtain ⟨E,C,B,A,v,u,n,m,l,k,g,f,c⟩:=Ap I.o;go_wp2_with fail;go_ret;exact ⟨by rw [V.o];(first | rfl | (simp;done) | (simp;assumption) | (simp;omega)),Y.o⟩
   ·have hi:(0:Int) < (N:Int):=by omega
    have b6:0 < N:=by omega
    have V:Hx (fin=false):=by have h:=HF.o;simp [h0] at h;exact h
    obtain ⟨E,C,B,A,v,u,n,m,l,k,g,f,c⟩:=Ap F.o;go_wp2_with fail;go_ret;exact ⟨by rw [V.o];(first | rfl | (simp;done) | (simp;assumption) | (simp;omega)),ac.o⟩
  ·have am:=Ax hy0
   have af:qy=false:=by rw [aa.o];simpa using hy0
   subst af;clear hy0 aa;have V:Hx (fin=false):=by have h:=HF.o;simp at h;exact h
   obtain ⟨E,C,B,A,v,u,n,m,l,k,g,f,c⟩:=Ap J.o;go_wp2_with fail;go_ret;exact ⟨by rw [V.o];(first | rfl | (simp;done) | (simp;assumption) | (simp;omega)),ad.o⟩
 | false=>
  have V:Hx (fin=false):=by have h:=HF.o;simp at h;exact h
  obtain ⟨E,C,B,A,v,u,n,m,l,k,g,f,c⟩:=Ap J.o;go_wp2_with fail;go_ret;exact ⟨by rw [V.o];(first | rfl | (simp;done) | (simp;assumption) | (simp;omega)),ad.o⟩
end Go.Proofs.YtipngnjffjajpaaGreatDoor.Tx
