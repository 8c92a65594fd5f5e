/- The document's answer: declarations. -/
import Derived.Test.YtipngnjffjajpaaGreatDoorK09
set_option linter.unusedVariables false
set_option maxHeartbeats 8000000
set_option maxRecDepth 100000
namespace Go.Proofs.YtipngnjffjajpaaGreatDoor.Tx
open Go.RowKit
open Go.Value renaming int -> O, slice -> zd, bool -> ze, agg -> zf, pointer -> zh, tuple -> zj
open Go.IntKind renaming i64 -> zc
open Go.Obj renaming cells -> zg
open Go.Ending renaming returned -> zi
theorem OP (ke kc:Nat) (kd:Int) (hk:kd=1\/kd=3\/kd=7) (a:Int) (x y:ByteArray) (aL:Option Addr) (cL:Nat) (lb:List D) (aP:Option Addr) (cP:Nat) (ps:List ByteArray) (aB:Option Addr) (cB:Nat) (body:List D) (e0 e1 e2:Int) (e3:ByteArray) (q:Option Addr) (q1 q2:Nat) (r:D) (w:World) (hx:x.size<=maxLen) (hy:y.size<=maxLen) (hL:LS 4 (ZP w) w (zd aL lb.length cL) lb) (hP:LS 1 ZN w (zd aP ps.length cP) ps) (hB:LS 12 (ZC w ke kc) w (zd aB body.length cB) body) (hR:ZE w ke [O zc e0,O zc e1,O zc e2,.string e3,zd q q1 q2] r) :
  Ro 38 #[zf #[O zc kd,O zc a,.string x,.string y,ze true,zd aL lb.length cL,zd aP ps.length cP,zd aB body.length cB,O zc e0,O zc e1,O zc e2,.string e3,zd q q1 q2]] w (ze (dfK ke kc (deD kd a x y true lb ps body r))):=by
 obtain ⟨fin,b⟩:=nm (dfK ke kc (deD kd a x y true lb ps body r));rw [<-b];unfold dfK Ew Ez at b;simp only [gDd,D2 nmS,DS,List.length_map] at b;obtain ⟨Q,B⟩:=nm (nmS x.data.toList);obtain ⟨P,A⟩:=nm (y.data.toList.isEmpty);obtain ⟨ql,l⟩:=nm (lb.all DC);obtain ⟨qp,E⟩:=nm (ps.all fun x=>nmS x.data.toList);obtain ⟨qb,G⟩:=nm (body.all (sfK ke kc));obtain ⟨Z,C⟩:=nm (efK ke r);obtain ⟨qo,F⟩:=nm (CO r);obtain ⟨R,f⟩:=nm lb.length;obtain ⟨nP,g⟩:=nm ps.length;obtain ⟨nB,i⟩:=nm body.length;have H:(lb≠[])=(R≠0):=by rw [f];simp
 have S:R=0->ql=true:=fun h=>by rw [l,List.length_eq_zero_iff.1 (f.symm.trans h)];rfl
 simp only [<-B,<-l,<-E,<-G,<-C,<-F,<-g,<-i,H] at b;have W:Hx (fin=(Q && P && false)):=by
  show _=_;rw [b,A];by_cases h0:R=0
  ·rcases hk with rfl | rfl | rfl <;> simp [nfS]
  ·rcases hk with rfl | rfl | rfl <;> simp [nfS]
 have L:Hx (∀ X,Ov w X->Ro 76 #[O zc kd,O zc 1,O zc 7] X (ze true)):=fun X _=>by rw [<-show (decide (1<=kd) && decide (kd<=7))=true by simp;omega];exact Bp kd 1 7 X
 have K:Hx (∀ X,Ov w X->Ro 76 #[O zc kd,O zc 4,O zc 6] X (ze false)):=fun X _=>by rw [<-show (decide (4<=kd) && decide (kd<=6))=false by simp;omega];exact Bp kd 4 6 X
 have Y:Hx (∀ X,Ov w X->Ro 77 #[.string x] X (ze Q)):=fun X _=>by rw [B];exact Bn x X hx
 have n:=Aa A;have KO:Hx (∀ X,Ov w X->Ro 78 #[zf #[O zc e0,O zc e1,O zc e2,.string e3,zd q q1 q2]] X (ze qo)):=fun X J=>by rw [F];exact Dt ke _ r X (hR.over J)
 have KR:Hx (∀ X,Ov w X->Ro 79 #[zf #[O zc e0,O zc e1,O zc e2,.string e3,zd q q1 q2]] X (ze Z)):=fun X J=>by rw [C];exact CW ke _ r X (hR.over J)
 have T:Hx (∀ X,Ov w X->Ro 39 #[zd aB body.length cB] X (ze qb)):=fun X J=>by rw [G];exact Co ke kc body aB cB X (Ar J hB)
 rw [<-i] at T;have V:=hL.max;have U:=hP.max;have N:=hB.max;rw [<-f] at V;rw [<-g] at U;rw [<-i] at N;have ai:=Aa hL;have af:=Aa hP;have ae:=Aa l;have ad:=Aa E;have ah:=Aa f;have ag:=Aa g;rw [<-f,<-g,<-i];clear b B A l E G C F H S hL hP hB hR f g i hx hy;have h2:¬ kd=2:=by omega
 have h4:¬ kd=4:=by omega
 have h5:¬ kd=5:=by omega
 clear hk;go_enter Tryz.func38,Tryz.ntmps38;go_wp2_with fail;refine mo (L.o _ (bA _ _)) fun w1 j=>?_;obtain ⟨c,u⟩:=rov j;clear j  L;have I:=Ad.all c.o;go_wp2_with fail;refine mo (Y.o _ u.o) fun w2 j=>?_;replace u:=Aa (Ab u.o j);replace c:=Aa (c.o.over j);clear j I Y
 cases Q with
 | true=>
  by_cases hy0:y.data.toList=[]
  ·obtain rfl:=An hy0
   have v:P=true:=by rw [n.o];rfl
   subst v;clear hy0 n;have I:=Ad.all c.o;go_wp2_with fail;refine mo (K.o _ u.o) fun w3 j=>?_;replace u:=Aa (Ab u.o j);replace c:=Aa (c.o.over j);clear j I K;have M:Hx (fin=false):=by have h:=W.o;simp at h;exact h
   have I:=Ad.all c.o;go_wp2_with fail;go_ret;exact ⟨by rw [M.o];(first | rfl | (simp;done) | (simp;assumption) | (simp;omega)),u.o⟩
  ·have H:=Av hy0
   have v:P=false:=by rw [n.o];simpa using hy0
   subst v;clear hy0 n;have M:Hx (fin=false):=by have h:=W.o;simp at h;exact h
   have I:=Ad.all c.o;go_wp2_with fail;go_ret;exact ⟨by rw [M.o];(first | rfl | (simp;done) | (simp;assumption) | (simp;omega)),u.o⟩
 | false=>
  have M:Hx (fin=false):=by have h:=W.o;simp at h;exact h
  have I:=Ad.all c.o;go_wp2_with fail;go_ret;exact ⟨by rw [M.o];(first | rfl | (simp;done) | (simp;assumption) | (simp;omega)),u.o⟩
theorem OO (ke kc:Nat) (kd:Int) (hk:kd=4\/kd=5) (a:Int) (x y:ByteArray) (aL:Option Addr) (cL:Nat) (lb:List D) (aP:Option Addr) (cP:Nat) (ps:List ByteArray) (aB:Option Addr) (cB:Nat) (body:List D) (e0 e1 e2:Int) (e3:ByteArray) (q:Option Addr) (q1 q2:Nat) (r:D) (w:World) (hx:x.size<=maxLen) (hy:y.size<=maxLen) (hL:LS 4 (ZP w) w (zd aL lb.length cL) lb) (hP:LS 1 ZN w (zd aP ps.length cP) ps) (hB:LS 12 (ZC w ke kc) w (zd aB body.length cB) body) (hR:ZE w ke [O zc e0,O zc e1,O zc e2,.string e3,zd q q1 q2] r) :
  Ro 38 #[zf #[O zc kd,O zc a,.string x,.string y,ze false,zd aL lb.length cL,zd aP ps.length cP,zd aB body.length cB,O zc e0,O zc e1,O zc e2,.string e3,zd q q1 q2]] w (ze (dfK ke kc (deD kd a x y false lb ps body r))):=by
 obtain ⟨fin,b⟩:=nm (dfK ke kc (deD kd a x y false lb ps body r));rw [<-b];unfold dfK Ew Ez at b;simp only [gDd,D2 nmS,DS,List.length_map] at b;obtain ⟨Q,v⟩:=nm (nmS x.data.toList);obtain ⟨P,u⟩:=nm (y.data.toList.isEmpty);obtain ⟨ql,j⟩:=nm (lb.all DC);obtain ⟨qp,B⟩:=nm (ps.all fun x=>nmS x.data.toList);obtain ⟨qb,E⟩:=nm (body.all (sfK ke kc));obtain ⟨qr,A⟩:=nm (efK ke r);obtain ⟨qo,C⟩:=nm (CO r);obtain ⟨R,c⟩:=nm lb.length;obtain ⟨nP,g⟩:=nm ps.length;obtain ⟨nB,i⟩:=nm body.length;have F:(lb≠[])=(R≠0):=by rw [c];simp
 have S:R=0->ql=true:=fun h=>by rw [j,List.length_eq_zero_iff.1 (c.symm.trans h)];rfl
 simp only [<-v,<-j,<-B,<-E,<-A,<-C,<-g,<-i,F] at b;have Z:Hx (fin=(Q && P && false && (decide (nP=0) && decide (nB=0) && qo))):=by
  show _=_;rw [b,u];by_cases h0:R=0
  ·rcases hk with rfl | rfl <;> simp [nfS]
  ·rcases hk with rfl | rfl <;> simp [nfS]
 have J:Hx (∀ X,Ov w X->Ro 76 #[O zc kd,O zc 1,O zc 7] X (ze true)):=fun X _=>by rw [<-show (decide (1<=kd) && decide (kd<=7))=true by simp;omega];exact Bp kd 1 7 X
 have aj:Hx (∀ X,Ov w X->Ro 76 #[O zc kd,O zc 4,O zc 6] X (ze true)):=fun X _=>by rw [<-show (decide (4<=kd) && decide (kd<=6))=true by simp;omega];exact Bp kd 4 6 X
 have KX:Hx (∀ X,Ov w X->Ro 77 #[.string x] X (ze Q)):=fun X _=>by rw [v];exact Bn x X hx
 have l:=Aa u;have KO:Hx (∀ X,Ov w X->Ro 78 #[zf #[O zc e0,O zc e1,O zc e2,.string e3,zd q q1 q2]] X (ze qo)):=fun X I=>by rw [C];exact Dt ke _ r X (hR.over I)
 have KR:Hx (∀ X,Ov w X->Ro 79 #[zf #[O zc e0,O zc e1,O zc e2,.string e3,zd q q1 q2]] X (ze qr)):=fun X I=>by rw [A];exact CW ke _ r X (hR.over I)
 have V:Hx (∀ X,Ov w X->Ro 39 #[zd aB body.length cB] X (ze qb)):=fun X I=>by rw [E];exact Co ke kc body aB cB X (Ar I hB)
 rw [<-i] at V;have Y:=hL.max;have W:=hP.max;have L:=hB.max;rw [<-c] at Y;rw [<-g] at W;rw [<-i] at L;have ap:=Aa hL;have am:=Aa hP;have al:=Aa j;have ak:=Aa B;have ao:=Aa c;have an:=Aa g;rw [<-c,<-g,<-i];clear b v u j B E A C F S hL hP hB hR c g i hx hy;have h2:¬ kd=2:=by omega
 obtain ⟨e4,N⟩:=nm (kd == 4);obtain ⟨e5,T⟩:=nm (kd == 5);replace N:=N.symm;replace T:=T.symm;have U:e4=true\/e4=false/\e5=true:=by
  rcases hk with rfl | rfl
  ·exact Or.inl (by rw [<-N];rfl)
  ·exact Or.inr ⟨by rw [<-N];rfl,by rw [<-T];rfl⟩
 rcases U with rfl | ⟨rfl,rfl⟩;clear hk;all_goals
  go_enter Tryz.func38,Tryz.ntmps38;go_wp2_with fail;refine mo (J.o _ (bA _ _)) fun w1 G=>?_;obtain ⟨f,H⟩:=rov G;clear G  J;have M:=Ad.all f.o;go_wp2_with fail;refine mo (KX.o _ H.o) fun w2 G=>?_;replace H:=Aa (Ab H.o G);replace f:=Aa (f.o.over G);clear G M KX
  cases Q with
  | true=>
   by_cases hy0:y.data.toList=[]
   ·obtain rfl:=An hy0
    have n:P=true:=by rw [l.o];rfl
    subst n;clear hy0 l;have K:Hx (fin=false):=by have h:=Z.o;simp at h;exact h
    have M:=Ad.all f.o;go_wp2_with fail;go_ret;exact ⟨by rw [K.o];(first | rfl | (simp;done) | (simp;assumption) | (simp;omega)),H.o⟩
   ·have F:=Av hy0
    have n:P=false:=by rw [l.o];simpa using hy0
    subst n;clear hy0 l;have K:Hx (fin=false):=by have h:=Z.o;simp at h;exact h
    have M:=Ad.all f.o;go_wp2_with fail;go_ret;exact ⟨by rw [K.o];(first | rfl | (simp;done) | (simp;assumption) | (simp;omega)),H.o⟩
  | false=>
   have K:Hx (fin=false):=by have h:=Z.o;simp at h;exact h
   have M:=Ad.all f.o;go_wp2_with fail;go_ret;exact ⟨by rw [K.o];(first | rfl | (simp;done) | (simp;assumption) | (simp;omega)),H.o⟩
theorem OM (ke kc:Nat) (kd:Int) (hk:kd=1\/kd=3\/kd=6) (a:Int) (x y:ByteArray) (aL:Option Addr) (cL:Nat) (lb:List D) (aP:Option Addr) (cP:Nat) (ps:List ByteArray) (aB:Option Addr) (cB:Nat) (body:List D) (e0 e1 e2:Int) (e3:ByteArray) (q:Option Addr) (q1 q2:Nat) (r:D) (w:World) (hx:x.size<=maxLen) (hy:y.size<=maxLen) (hL:LS 4 (ZP w) w (zd aL lb.length cL) lb) (hP:LS 1 ZN w (zd aP ps.length cP) ps) (hB:LS 12 (ZC w ke kc) w (zd aB body.length cB) body) (hR:ZE w ke [O zc e0,O zc e1,O zc e2,.string e3,zd q q1 q2] r) :
  Ro 38 #[zf #[O zc kd,O zc a,.string x,.string y,ze false,zd aL lb.length cL,zd aP ps.length cP,zd aB body.length cB,O zc e0,O zc e1,O zc e2,.string e3,zd q q1 q2]] w (ze (dfK ke kc (deD kd a x y false lb ps body r))):=by
 obtain ⟨fin,c⟩:=nm (dfK ke kc (deD kd a x y false lb ps body r));rw [<-c];unfold dfK Ew Ez at c;simp only [gDd,D2 nmS,DS,List.length_map] at c;obtain ⟨qx,M⟩:=nm (nmS x.data.toList);obtain ⟨qy,L⟩:=nm (y.data.toList.isEmpty);obtain ⟨ql,E⟩:=nm (lb.all DC);obtain ⟨qp,P⟩:=nm (ps.all fun x=>nmS x.data.toList);obtain ⟨qb,R⟩:=nm (body.all (sfK ke kc));obtain ⟨qr,N⟩:=nm (efK ke r);obtain ⟨qo,Q⟩:=nm (CO r);obtain ⟨n,l⟩:=nm lb.length;obtain ⟨I,u⟩:=nm ps.length;obtain ⟨J,v⟩:=nm body.length;have S:(lb≠[])=(n≠0):=by rw [l];simp
 have V:n=0->ql=true:=fun h=>by rw [E,List.length_eq_zero_iff.1 (l.symm.trans h)];rfl
 simp only [<-M,<-E,<-P,<-R,<-N,<-Q,<-u,<-v,S] at c;have U:Hx (fin=(qx && qy && (!false && decide (n=0)) && (decide (I=0) && decide (J=0) && qo))):=by
  show _=_;rw [c,L];by_cases h0:n=0
  ·rcases hk with rfl | rfl | rfl <;> simp [V h0,h0,nfS]
  ·rcases hk with rfl | rfl | rfl <;> simp [h0,nfS]
 have aa:Hx (∀ X,Ov w X->Ro 76 #[O zc kd,O zc 1,O zc 7] X (ze true)):=fun X _=>by rw [<-show (decide (1<=kd) && decide (kd<=7))=true by simp;omega];exact Bp kd 1 7 X
 obtain ⟨Y,H⟩:=nm (decide (4<=kd) && decide (kd<=6));have Z:Hx (∀ X,Ov w X->Ro 76 #[O zc kd,O zc 4,O zc 6] X (ze Y)):=fun X _=>by rw [H];exact Bp kd 4 6 X
 clear H;have KX:Hx (∀ X,Ov w X->Ro 77 #[.string x] X (ze qx)):=fun X _=>by rw [M];exact Bn x X hx
 have F:=Aa L;have KO:Hx (∀ X,Ov w X->Ro 78 #[zf #[O zc e0,O zc e1,O zc e2,.string e3,zd q q1 q2]] X (ze qo)):=fun X W=>by rw [Q];exact Dt ke _ r X (hR.over W)
 have KR:Hx (∀ X,Ov w X->Ro 79 #[zf #[O zc e0,O zc e1,O zc e2,.string e3,zd q q1 q2]] X (ze qr)):=fun X W=>by rw [N];exact CW ke _ r X (hR.over W)
 have ah:Hx (∀ X,Ov w X->Ro 39 #[zd aB body.length cB] X (ze qb)):=fun X W=>by rw [R];exact Co ke kc body aB cB X (Ar W hB)
 rw [<-v] at ah;have aj:=hL.max;have ai:=hP.max;have ab:=hB.max;rw [<-l] at aj;rw [<-u] at ai;rw [<-v] at ab;have a1:=Aa hL;have ay:=Aa hP;have ax:=Aa E;have aw:=Aa P;have a0:=Aa l;have az:=Aa u;rw [<-l,<-u,<-v];clear c M L E P R N Q S V hL hP hB hR l u v hx hy;have h2:¬ kd=2:=by omega
 have h4:¬ kd=4:=by omega
 have h5:¬ kd=5:=by omega
 have h7:¬ kd=7:=by omega
 clear hk;cases Y;all_goals
  go_enter Tryz.func38,Tryz.ntmps38;go_wp2_with fail;refine mo (aa.o _ (bA w (zg #[O zc kd,O zc a,.string x,.string y,ze false,zd aL n cL,zd aP I cP,zd aB J cB,O zc e0,O zc e1,O zc e2,.string e3,zd q q1 q2] 51))) fun w1 g=>?_;have ac:Hx (Ov w w1):=Ab (bA w (zg #[O zc kd,O zc a,.string x,.string y,ze false,zd aL n cL,zd aP I cP,zd aB J cB,O zc e0,O zc e1,O zc e2,.string e3,zd q q1 q2] 51)) g;have B:Hx (Ad [O zc kd,O zc a,.string x,.string y,ze false,zd aL n cL,zd aP I cP,zd aB J cB,O zc e0,O zc e1,O zc e2,.string e3,zd q q1 q2] w1 w.heap.size):=Ad.over (A5 w [O zc kd,O zc a,.string x,.string y,ze false,zd aL n cL,zd aP I cP,zd aB J cB,O zc e0,O zc e1,O zc e2,.string e3,zd q q1 q2] 51) g;clear g  aa;have j:=Ad.all B.o;go_wp2_with fail;refine mo (KX.o _ (ac.o)) fun w2 g=>?_;have G:=Aa (Ab (ac.o) g);have f:=Aa (B.o.over g);clear g j KX
  cases qx with
  | true=>
   by_cases hy0:y.data.toList=[]
   ·obtain rfl:=An hy0
    have K:qy=true:=by rw [F.o];rfl
    subst K;clear hy0 F;have j:=Ad.all f.o;go_wp2_with fail;refine mo (Z.o _ (G.o)) fun w3 g=>?_;have C:=Aa (Ab (G.o) g);have b:=Aa (f.o.over g);clear g j Z;by_cases h0:n=0
    ·subst h0
     have j:=Ad.all b.o;go_wp2_with fail;clear j;go_loopw [3] (fun i wr=>i=O zc 0/\w3=wr) (fun _ _=>0)
     case atStart=>exact ⟨rfl,rfl⟩
     case round=>
      obtain ⟨rfl,rfl⟩:=hrel;by_cases h1:I=0
      ·subst h1
       by_cases h2:J=0
       ·subst h2
        have j:=Ad.all b.o;go_wp2_with fail;refine mo (KO.o _ (C.o)) fun w4 g=>?_;have ak:=Aa (Ab (C.o) g);have T:=Aa (b.o.over g);clear g j KO;have A:Hx (fin=qo):=by have h:=U.o;simp at h;exact h
        have j:=Ad.all T.o;go_wp2_with fail;go_ret;exact ⟨by rw [A.o];(first | rfl | (simp;done) | (simp;assumption) | (simp;omega)),ak.o⟩
       ·have hi:¬ (J:Int)=0:=by omega
        have A:Hx (fin=false):=by have h:=U.o;simp [h2] at h;exact h
        have j:=Ad.all b.o;go_wp2_with fail;go_ret;exact ⟨by rw [A.o];(first | rfl | (simp;done) | (simp;assumption) | (simp;omega)),C.o⟩
      ·have hi:¬ (I:Int)=0:=by omega
       have A:Hx (fin=false):=by have h:=U.o;simp [h1] at h;exact h
       have j:=Ad.all b.o;go_wp2_with fail;go_ret;exact ⟨by rw [A.o];(first | rfl | (simp;done) | (simp;assumption) | (simp;omega)),C.o⟩
    ·have hi:(0:Int) < (n:Int):=by omega
     have av:0 < n:=by omega
     have A:Hx (fin=false):=by have h:=U.o;simp [h0] at h;exact h
     have j:=Ad.all b.o;go_wp2_with fail;go_ret;exact ⟨by rw [A.o];(first | rfl | (simp;done) | (simp;assumption) | (simp;omega)),C.o⟩
   ·have S:=Av hy0
    have K:qy=false:=by rw [F.o];simpa using hy0
    subst K;clear hy0 F;have A:Hx (fin=false):=by have h:=U.o;simp at h;exact h
    have j:=Ad.all f.o;go_wp2_with fail;go_ret;exact ⟨by rw [A.o];(first | rfl | (simp;done) | (simp;assumption) | (simp;omega)),G.o⟩
  | false=>
   have A:Hx (fin=false):=by have h:=U.o;simp at h;exact h
   have j:=Ad.all f.o;go_wp2_with fail;go_ret;exact ⟨by rw [A.o];(first | rfl | (simp;done) | (simp;assumption) | (simp;omega)),G.o⟩
theorem Na (ke kc:Nat) (a:Int) (x y:ByteArray) (aL:Option Addr) (cL:Nat) (lb:List D) (aP:Option Addr) (cP:Nat) (ps:List ByteArray) (aB:Option Addr) (cB:Nat) (body:List D) (e0 e1 e2:Int) (e3:ByteArray) (q:Option Addr) (q1 q2:Nat) (r:D) (w:World) (hx:x.size<=maxLen) (hy:y.size<=maxLen) (hL:LS 4 (ZP w) w (zd aL lb.length cL) lb) (hP:LS 1 ZN w (zd aP ps.length cP) ps) (hB:LS 12 (ZC w ke kc) w (zd aB body.length cB) body) (hR:ZE w ke [O zc e0,O zc e1,O zc e2,.string e3,zd q q1 q2] r) :
  Ro 38 #[zf #[O zc 7,O zc a,.string x,.string y,ze false,zd aL lb.length cL,zd aP ps.length cP,zd aB body.length cB,O zc e0,O zc e1,O zc e2,.string e3,zd q q1 q2]] w (ze (dfK ke kc (deD 7 a x y false lb ps body r))):=by
 obtain ⟨fin,g⟩:=nm (dfK ke kc (deD 7 a x y false lb ps body r));rw [<-g];unfold dfK Ew Ez at g;simp only [gDd,D2 nmS,DS,List.length_map] at g;obtain ⟨qx,T⟩:=nm (nmS x.data.toList);obtain ⟨qy,S⟩:=nm (y.data.toList.isEmpty);obtain ⟨ql,L⟩:=nm (lb.all DC);obtain ⟨qp,C⟩:=nm (ps.all fun x=>nmS x.data.toList);obtain ⟨qb,W⟩:=nm (body.all (sfK ke kc));obtain ⟨qr,U⟩:=nm (efK ke r);obtain ⟨qo,V⟩:=nm (CO r);obtain ⟨B,A⟩:=nm lb.length;obtain ⟨K,E⟩:=nm ps.length;obtain ⟨nB,F⟩:=nm body.length;have Z:(lb≠[])=(B≠0):=by rw [A];simp
 have az:B=0->ql=true:=fun h=>by rw [L,List.length_eq_zero_iff.1 (A.symm.trans h)];rfl
 simp only [<-T,<-L,<-C,<-W,<-U,<-V,<-E,<-F,Z] at g;have HF:Hx (fin=(qx && qy && (!false && decide (B=0)) && (qp && qb && qr))):=by
  show _=_;rw [g,S];by_cases h0:B=0
  ·simp [h0,nfS]
  ·simp [h0,nfS]
 have af:Hx (∀ X,Ov w X->Ro 76 #[O zc 7,O zc 1,O zc 7] X (ze true)):=fun X _=>by simpa using Bp 7 1 7 X
 have ae:Hx (∀ X,Ov w X->Ro 76 #[O zc 7,O zc 4,O zc 6] X (ze false)):=fun X _=>by simpa using Bp 7 4 6 X
 have KX:Hx (∀ X,Ov w X->Ro 77 #[.string x] X (ze qx)):=fun X _=>by rw [T];exact Bn x X hx
 have M:=Aa S;have KO:Hx (∀ X,Ov w X->Ro 78 #[zf #[O zc e0,O zc e1,O zc e2,.string e3,zd q q1 q2]] X (ze qo)):=fun X hX=>by rw [V];exact Dt ke _ r X (hR.over hX)
 have KR:Hx (∀ X,Ov w X->Ro 79 #[zf #[O zc e0,O zc e1,O zc e2,.string e3,zd q q1 q2]] X (ze qr)):=fun X hX=>by rw [U];exact CW ke _ r X (hR.over hX)
 have ab:Hx (∀ X,Ov w X->Ro 39 #[zd aB body.length cB] X (ze qb)):=fun X hX=>by rw [W];exact Co ke kc body aB cB X (Ar hX hB)
 rw [<-F] at ab;have a3:=hL.max;have a2:=hP.max;have aj:=hB.max;rw [<-A] at a3;rw [<-E] at a2;rw [<-F] at aj;have bk:=Aa hL;have a1:=Aa hP;have bi:=Aa L;have ah:=Aa C;have bj:=Aa A;have ai:=Aa E;rw [<-A,<-E,<-F];clear g T S L C W U V Z az hL hP hB hR A E F hx hy;go_enter Tryz.func38,Tryz.ntmps38;go_wp2_with fail;refine mo (af.o _ (bA w (zg #[O zc 7,O zc a,.string x,.string y,ze false,zd aL B cL,zd aP K cP,zd aB nB cB,O zc e0,O zc e1,O zc e2,.string e3,zd q q1 q2] 51))) fun w1 f=>?_;have an:Hx (Ov w w1):=Ab (bA w (zg #[O zc 7,O zc a,.string x,.string y,ze false,zd aL B cL,zd aP K cP,zd aB nB cB,O zc e0,O zc e1,O zc e2,.string e3,zd q q1 q2] 51)) f;have I:Hx (Ad [O zc 7,O zc a,.string x,.string y,ze false,zd aL B cL,zd aP K cP,zd aB nB cB,O zc e0,O zc e1,O zc e2,.string e3,zd q q1 q2] w1 w.heap.size):=Ad.over (A5 w [O zc 7,O zc a,.string x,.string y,ze false,zd aL B cL,zd aP K cP,zd aB nB cB,O zc e0,O zc e1,O zc e2,.string e3,zd q q1 q2] 51) f;clear f  af;have u:=Ad.all I.o;go_wp2_with fail;refine mo (KX.o _ (an.o)) fun w2 f=>?_;have Q:=Aa (Ab (an.o) f);have n:=Aa (I.o.over f);clear f u KX
 cases qx with
 | true=>
  by_cases hy0:y.data.toList=[]
  ·obtain rfl:=An hy0
   have R:qy=true:=by rw [M.o];rfl
   subst R;clear hy0 M;have u:=Ad.all n.o;go_wp2_with fail;refine mo (ae.o _ (Q.o)) fun w3 f=>?_;have P:=Aa (Ab (Q.o) f);have c:=Aa (n.o.over f);clear f u ae;by_cases h0:B=0
   ·subst h0
    have u:=Ad.all c.o;go_wp2_with fail;clear u;go_loopw [3] (fun i wr=>i=O zc 0/\w3=wr) (fun _ _=>0)
    case atStart=>exact ⟨rfl,rfl⟩
    case round=>
     obtain ⟨rfl,rfl⟩:=hrel;have u:=Ad.all c.o;go_wp2_with fail;clear u;go_loopw [5] (fun i wr=>∃ (j:Nat),j<=K/\i=O zc j/\(ps.drop j).all (fun x=>nmS x.data.toList)=qp/\Ov w3 wr) (fun i _=>K - (intOf i).toNat)
     case atStart=>exact ⟨0,Nat.zero_le _,rfl,ah.o.symm,Below.refl _ _⟩
     case round=>
      obtain ⟨j,hj,rfl,v,hB⟩:=hrel;have nR:=B8 (c.o.over hB);by_cases hjl:j < K
      ·have G:j < ps.length:=by have:=ai.o;omega
       have a0:(j:Int) < (K:Int):=by omega
       obtain ⟨b,ax,rfl,cs,ay,aa,hr⟩:=a1.o.at G;rw [List.drop_eq_getElem_cons G,List.all_cons] at v;generalize ps[j]=dj at v hr;obtain ⟨q9,Y⟩:=nm (nmS dj.data.toList);rw [<-Y] at v;have KC:Hx (∀ X,Ov wr X->Ro 77 #[.string dj] X (ze q9)):=fun X _=>by rw [Y];exact Bn dj X hr.2
       rw [hr.1] at aa;have z0:wr.cell? ⟨b,ax+j,none⟩=some (.string dj):=ce1 (Ab P.o hB) (by have:=aa 0 _ rfl;simpa using this);have HP:=Aa v;have HB:=Aa hB;clear v hB aa ay hr Y G;go_wp2_with fail;refine mo (KC.o _ (Below.refl _ _)) fun W9 f=>?_;have am:=Aa (Ab HB.o f);clear f KC z0 nR
       cases q9 with
       | true=>
        have v:=HP.o;rw [Bool.true_and] at v;replace HP:=Aa v;clear v;go_wp2_with fail;exact ⟨⟨j+1,by omega,by go_num,HP.o,am.o⟩,by simp [intOf];omega⟩
       | false=>
        have v:=HP.o;rw [Bool.false_and] at v;subst v;have H:Hx (fin=false):=by have h:=HF.o;simp at h;exact h
        go_wp2_with fail;go_ret;exact ⟨by rw [H.o];rfl,Ab P.o am.o⟩
      ·have hd:ps.drop j=[]:=List.drop_eq_nil_of_le (by have:=ai.o;omega)
       have a0:¬ (j:Int) < (K:Int):=by omega
       rw [hd] at v;have C:true=qp:=by rw [<-v];rfl
       subst C;have ak:=Aa (Ab P.o hB);have ag:=Aa (c.o.over hB);clear v hd hB nR ah;have u:=Ad.all ag.o;go_wp2_with fail;refine mo (ab.o _ (ak.o)) fun be f=>?_;have J:=Aa (Ab (ak.o) f);have l:=Aa (ag.o.over f);clear f u ab
       cases qb with
       | true=>
        have u:=Ad.all l.o;go_wp2_with fail;refine mo (KR.o _ (J.o)) fun bd f=>?_;have al:=Aa (Ab (J.o) f);have N:=Aa (l.o.over f);clear f u KR;have H:Hx (fin=qr):=by have h:=HF.o;simp at h;exact h
        have u:=Ad.all N.o;go_wp2_with fail;go_ret;exact ⟨by rw [H.o];(first | rfl | (simp;done) | (simp;assumption) | (simp;omega)),al.o⟩
       | false=>
        have H:Hx (fin=false):=by have h:=HF.o;simp at h;exact h
        have u:=Ad.all l.o;go_wp2_with fail;go_ret;exact ⟨by rw [H.o];(first | rfl | (simp;done) | (simp;assumption) | (simp;omega)),J.o⟩
   ·have hi:(0:Int) < (B:Int):=by omega
    have bh:0 < B:=by omega
    have H:Hx (fin=false):=by have h:=HF.o;simp [h0] at h;exact h
    have u:=Ad.all c.o;go_wp2_with fail;go_ret;exact ⟨by rw [H.o];(first | rfl | (simp;done) | (simp;assumption) | (simp;omega)),P.o⟩
  ·have Z:=Av hy0
   have R:qy=false:=by rw [M.o];simpa using hy0
   subst R;clear hy0 M;have H:Hx (fin=false):=by have h:=HF.o;simp at h;exact h
   have u:=Ad.all n.o;go_wp2_with fail;go_ret;exact ⟨by rw [H.o];(first | rfl | (simp;done) | (simp;assumption) | (simp;omega)),Q.o⟩
 | false=>
  have H:Hx (fin=false):=by have h:=HF.o;simp at h;exact h
  have u:=Ad.all n.o;go_wp2_with fail;go_ret;exact ⟨by rw [H.o];(first | rfl | (simp;done) | (simp;assumption) | (simp;omega)),Q.o⟩
end Go.Proofs.YtipngnjffjajpaaGreatDoor.Tx
