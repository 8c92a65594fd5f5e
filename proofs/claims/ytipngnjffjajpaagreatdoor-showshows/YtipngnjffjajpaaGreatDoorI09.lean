/- The document's answer: declarations. -/
import Derived.Test.YtipngnjffjajpaaGreatDoorI08
set_option linter.unusedVariables false
set_option maxHeartbeats 8000000
set_option maxRecDepth 100000
namespace Go.Proofs.YtipngnjffjajpaaGreatDoor.Tx
open Go.RowKit
open Go.Value renaming int -> A, slice -> O, bool -> zc, agg -> ze, pointer -> zf, tuple -> zh
open Go.IntKind renaming i64 -> J
open Go.Obj renaming cells -> zd
open Go.Ending renaming returned -> zg
theorem Lc (ke kc:Nat) (a:Int) (x y:ByteArray) (aL:Option Addr) (cL:Nat) (lb:List D) (aP:Option Addr) (cP:Nat) (ps:List ByteArray) (aB:Option Addr) (cB:Nat) (body:List D) (e0 e1 e2:Int) (e3:ByteArray) (q:Option Addr) (q1 q2:Nat) (r:D) (w:World) (hx:x.size<=maxLen) (hy:y.size<=maxLen) (hL:LS 4 (ZP w) w (O aL lb.length cL) lb) (hP:LS 1 ZN w (O aP ps.length cP) ps) (hB:LS 12 (ZC w ke kc) w (O aB body.length cB) body) (hR:ZE w ke [A J e0,A J e1,A J e2,.string e3,O q q1 q2] r) :
  Ro 38 #[ze #[A J 1,A J a,.string x,.string y,zc true,O aL lb.length cL,O aP ps.length cP,O aB body.length cB,A J e0,A J e1,A J e2,.string e3,O q q1 q2]] w (zc (dfK ke kc (deD 1 a x y true lb ps body r))):=by
 obtain ⟨P,E⟩:=nm (dfK ke kc (deD 1 a x y true lb ps body r));rw [<-E];unfold dfK CJ CK at E;simp only [gDd,BH nmS,BG,List.length_map] at E;obtain ⟨qx,W⟩:=nm (nmS x.data.toList);obtain ⟨qy,V⟩:=nm (y.data.toList.isEmpty);obtain ⟨ql,N⟩:=nm (lb.all BW);obtain ⟨qp,Z⟩:=nm (ps.all fun x=>nmS x.data.toList);obtain ⟨qb,ab⟩:=nm (body.all (sfK ke kc));obtain ⟨qr,Y⟩:=nm (efK ke r);obtain ⟨qo,aa⟩:=nm (BX r);obtain ⟨M,G⟩:=nm lb.length;obtain ⟨S,H⟩:=nm ps.length;obtain ⟨T,I⟩:=nm body.length;have ac:(lb≠[])=(M≠0):=by rw [G];simp
 have am:M=0->ql=true:=fun h=>by rw [N,List.length_eq_zero_iff.1 (G.symm.trans h)];rfl
 simp only [<-W,<-N,<-Z,<-ab,<-Y,<-aa,<-H,<-I,ac] at E;have HF:Hx (P=(qx && qy && (!true && decide (M=0)) && (decide (S=0) && decide (T=0) && qo))):=by
  show _=_;rw [E,V];by_cases h0:M=0
  ·simp [nfS]
  ·simp [nfS]
 have ag:Hx (∀ X,Ov w X->Ro 76 #[A J 1,A J 1,A J 7] X (zc true)):=fun X _=>by simpa using AB 1 1 7 X
 have af:Hx (∀ X,Ov w X->Ro 76 #[A J 1,A J 4,A J 6] X (zc false)):=fun X _=>by simpa using AB 1 4 6 X
 have KX:Hx (∀ X,Ov w X->Ro 77 #[.string x] X (zc qx)):=fun X _=>by rw [W];exact AG x X hx
 have Q:=Aa V;have KO:Hx (∀ X,Ov w X->Ro 78 #[ze #[A J e0,A J e1,A J e2,.string e3,O q q1 q2]] X (zc qo)):=fun X hX=>by rw [aa];exact Bw ke _ r X (hR.over hX)
 have KR:Hx (∀ X,Ov w X->Ro 79 #[ze #[A J e0,A J e1,A J e2,.string e3,O q q1 q2]] X (zc qr)):=fun X hX=>by rw [Y];exact Bk ke _ r X (hR.over hX)
 have an:Hx (∀ X,Ov w X->Ro 39 #[O aB body.length cB] X (zc qb)):=fun X hX=>by rw [ab];exact A5 ke kc body aB cB X (Ao hX hB)
 rw [<-I] at an;have ap:=hL.max;have ao:=hP.max;have ai:=hB.max;rw [<-G] at ap;rw [<-H] at ao;rw [<-I] at ai;have a7:=Aa hL;have a4:=Aa hP;have a3:=Aa N;have a2:=Aa Z;have a6:=Aa G;have a5:=Aa H;rw [<-G,<-H,<-I];clear E W V N Z ab Y aa ac am hL hP hB hR G H I hx hy;go_enter Tryz.func38,Tryz.ntmps38;go_wp2_with fail;refine (ag.o _ (bA w (zd #[A J 1,A J a,.string x,.string y,zc true,O aL M cL,O aP S cP,O aB T cB,A J e0,A J e1,A J e2,.string e3,O q q1 q2] 51))).mono ?_;rintro e w1 ⟨rfl,K⟩;have aj:Hx (Ov w w1):=Ab (bA w (zd #[A J 1,A J a,.string x,.string y,zc true,O aL M cL,O aP S cP,O aB T cB,A J e0,A J e1,A J e2,.string e3,O q q1 q2] 51)) K;have L:Hx (Ac [A J 1,A J a,.string x,.string y,zc true,O aL M cL,O aP S cP,O aB T cB,A J e0,A J e1,A J e2,.string e3,O q q1 q2] w1 w.heap.size):=Ac.over (Ai w [A J 1,A J a,.string x,.string y,zc true,O aL M cL,O aP S cP,O aB T cB,A J e0,A J e1,A J e2,.string e3,O q q1 q2] 51) K;clear K  ag;obtain ⟨C,B,v,u,t,n,l,j,i,g,f,c,b⟩:=Ah L.o;go_wp2_with fail;refine (KX.o _ (aj.o)).mono ?_;rintro e w2 ⟨rfl,K⟩;have R:Hx (Ov w w2):=Ab (aj.o) K;have F:Hx (Ac [A J 1,A J a,.string x,.string y,zc true,O aL M cL,O aP S cP,O aB T cB,A J e0,A J e1,A J e2,.string e3,O q q1 q2] w2 w.heap.size):=L.o.over K;clear K C B v u t n l j i g f c b KX
 cases qx with
 | true=>
  by_cases hy0:y.data.toList=[]
  ·obtain rfl:=Aj hy0
   have U:qy=true:=by rw [Q.o];rfl
   subst U;clear hy0 Q;obtain ⟨C,B,v,u,t,n,l,j,i,g,f,c,b⟩:=Ah F.o;go_wp2_with fail;refine (af.o _ (R.o)).mono ?_;rintro e w3 ⟨rfl,K⟩;have ar:Hx (Ov w w3):=Ab (R.o) K;have ad:Hx (Ac [A J 1,A J a,.string x,.string ⟨#[]⟩,zc true,O aL M cL,O aP S cP,O aB T cB,A J e0,A J e1,A J e2,.string e3,O q q1 q2] w3 w.heap.size):=F.o.over K;clear K C B v u t n l j i g f c b af;have HV:Hx (P=false):=by have h:=HF.o;simp at h;exact h
   obtain ⟨C,B,v,u,t,n,l,j,i,g,f,c,b⟩:=Ah ad.o;go_wp2_with fail;go_ret;exact ⟨by rw [HV.o];(first | rfl | (simp;done) | (simp;assumption) | (simp;omega)),ar.o⟩
  ·have ac:=Aq hy0
   have U:qy=false:=by rw [Q.o];simpa using hy0
   subst U;clear hy0 Q;have HV:Hx (P=false):=by have h:=HF.o;simp at h;exact h
   obtain ⟨C,B,v,u,t,n,l,j,i,g,f,c,b⟩:=Ah F.o;go_wp2_with fail;go_ret;exact ⟨by rw [HV.o];(first | rfl | (simp;done) | (simp;assumption) | (simp;omega)),R.o⟩
 | false=>
  have HV:Hx (P=false):=by have h:=HF.o;simp at h;exact h
  obtain ⟨C,B,v,u,t,n,l,j,i,g,f,c,b⟩:=Ah F.o;go_wp2_with fail;go_ret;exact ⟨by rw [HV.o];(first | rfl | (simp;done) | (simp;assumption) | (simp;omega)),R.o⟩
theorem Ld (ke kc:Nat) (a:Int) (x y:ByteArray) (aL:Option Addr) (cL:Nat) (lb:List D) (aP:Option Addr) (cP:Nat) (ps:List ByteArray) (aB:Option Addr) (cB:Nat) (body:List D) (e0 e1 e2:Int) (e3:ByteArray) (q:Option Addr) (q1 q2:Nat) (r:D) (w:World) (hx:x.size<=maxLen) (hy:y.size<=maxLen) (hL:LS 4 (ZP w) w (O aL lb.length cL) lb) (hP:LS 1 ZN w (O aP ps.length cP) ps) (hB:LS 12 (ZC w ke kc) w (O aB body.length cB) body) (hR:ZE w ke [A J e0,A J e1,A J e2,.string e3,O q q1 q2] r) :
  Ro 38 #[ze #[A J 1,A J a,.string x,.string y,zc false,O aL lb.length cL,O aP ps.length cP,O aB body.length cB,A J e0,A J e1,A J e2,.string e3,O q q1 q2]] w (zc (dfK ke kc (deD 1 a x y false lb ps body r))):=by
 obtain ⟨K,G⟩:=nm (dfK ke kc (deD 1 a x y false lb ps body r));rw [<-G];unfold dfK CJ CK at G;simp only [gDd,BH nmS,BG,List.length_map] at G;obtain ⟨qx,ab⟩:=nm (nmS x.data.toList);obtain ⟨qy,aa⟩:=nm (y.data.toList.isEmpty);obtain ⟨ql,V⟩:=nm (lb.all BW);obtain ⟨qp,ad⟩:=nm (ps.all fun x=>nmS x.data.toList);obtain ⟨qb,af⟩:=nm (body.all (sfK ke kc));obtain ⟨qr,ac⟩:=nm (efK ke r);obtain ⟨qo,ae⟩:=nm (BX r);obtain ⟨L,M⟩:=nm lb.length;obtain ⟨T,N⟩:=nm ps.length;obtain ⟨U,P⟩:=nm body.length;have ag:(lb≠[])=(L≠0):=by rw [M];simp
 have au:L=0->ql=true:=fun h=>by rw [V,List.length_eq_zero_iff.1 (M.symm.trans h)];rfl
 simp only [<-ab,<-V,<-ad,<-af,<-ac,<-ae,<-N,<-P,ag] at G;have HF:Hx (K=(qx && qy && (!false && decide (L=0)) && (decide (T=0) && decide (U=0) && qo))):=by
  show _=_;rw [G,aa];by_cases h0:L=0
  ·simp [h0,nfS]
  ·simp [h0,nfS]
 have al:Hx (∀ X,Ov w X->Ro 76 #[A J 1,A J 1,A J 7] X (zc true)):=fun X _=>by simpa using AB 1 1 7 X
 have ak:Hx (∀ X,Ov w X->Ro 76 #[A J 1,A J 4,A J 6] X (zc false)):=fun X _=>by simpa using AB 1 4 6 X
 have KX:Hx (∀ X,Ov w X->Ro 77 #[.string x] X (zc qx)):=fun X _=>by rw [ab];exact AG x X hx
 have W:=Aa aa;have KO:Hx (∀ X,Ov w X->Ro 78 #[ze #[A J e0,A J e1,A J e2,.string e3,O q q1 q2]] X (zc qo)):=fun X hX=>by rw [ae];exact Bw ke _ r X (hR.over hX)
 have KR:Hx (∀ X,Ov w X->Ro 79 #[ze #[A J e0,A J e1,A J e2,.string e3,O q q1 q2]] X (zc qr)):=fun X hX=>by rw [ac];exact Bk ke _ r X (hR.over hX)
 have av:Hx (∀ X,Ov w X->Ro 39 #[O aB body.length cB] X (zc qb)):=fun X hX=>by rw [af];exact A5 ke kc body aB cB X (Ao hX hB)
 rw [<-P] at av;have ax:=hL.max;have aw:=hP.max;have am:=hB.max;rw [<-M] at ax;rw [<-N] at aw;rw [<-P] at am;have be:=Aa hL;have bb:=Aa hP;have ba:=Aa V;have a9:=Aa ad;have bd:=Aa M;have bc:=Aa N;rw [<-M,<-N,<-P];clear G ab aa V ad af ac ae ag au hL hP hB hR M N P hx hy;go_enter Tryz.func38,Tryz.ntmps38;go_wp2_with fail;refine (al.o _ (bA w (zd #[A J 1,A J a,.string x,.string y,zc false,O aL L cL,O aP T cP,O aB U cB,A J e0,A J e1,A J e2,.string e3,O q q1 q2] 51))).mono ?_;rintro e w1 ⟨rfl,I⟩;have an:Hx (Ov w w1):=Ab (bA w (zd #[A J 1,A J a,.string x,.string y,zc false,O aL L cL,O aP T cP,O aB U cB,A J e0,A J e1,A J e2,.string e3,O q q1 q2] 51)) I;have R:Hx (Ac [A J 1,A J a,.string x,.string y,zc false,O aL L cL,O aP T cP,O aB U cB,A J e0,A J e1,A J e2,.string e3,O q q1 q2] w1 w.heap.size):=Ac.over (Ai w [A J 1,A J a,.string x,.string y,zc false,O aL L cL,O aP T cP,O aB U cB,A J e0,A J e1,A J e2,.string e3,O q q1 q2] 51) I;clear I  al;obtain ⟨E,C,B,v,u,t,n,l,j,g,f,c,b⟩:=Ah R.o;go_wp2_with fail;refine (KX.o _ (an.o)).mono ?_;rintro e w2 ⟨rfl,I⟩;have Y:Hx (Ov w w2):=Ab (an.o) I;have H:Hx (Ac [A J 1,A J a,.string x,.string y,zc false,O aL L cL,O aP T cP,O aB U cB,A J e0,A J e1,A J e2,.string e3,O q q1 q2] w2 w.heap.size):=R.o.over I;clear I E C B v u t n l j g f c b KX
 cases qx with
 | true=>
  by_cases hy0:y.data.toList=[]
  ·obtain rfl:=Aj hy0
   have Z:qy=true:=by rw [W.o];rfl
   subst Z;clear hy0 W;obtain ⟨E,C,B,v,u,t,n,l,j,g,f,c,b⟩:=Ah H.o;go_wp2_with fail;refine (ak.o _ (Y.o)).mono ?_;rintro e w3 ⟨rfl,I⟩;have S:Hx (Ov w w3):=Ab (Y.o) I;have F:Hx (Ac [A J 1,A J a,.string x,.string ⟨#[]⟩,zc false,O aL L cL,O aP T cP,O aB U cB,A J e0,A J e1,A J e2,.string e3,O q q1 q2] w3 w.heap.size):=H.o.over I;clear I E C B v u t n l j g f c b ak;by_cases h0:L=0
   ·subst h0
    obtain ⟨E,C,B,v,u,t,n,l,j,g,f,c,b⟩:=Ah F.o;go_wp2_with fail;clear E C B v u t n l j g f c b;go_loopw [3] (fun i wr=>i=A J 0/\w3=wr) (fun _ _=>0)
    case atStart=>exact ⟨rfl,rfl⟩
    case round=>
     obtain ⟨rfl,rfl⟩:=hrel;by_cases h1:T=0
     ·subst h1
      by_cases h2:U=0
      ·subst h2
       obtain ⟨E,C,B,v,u,t,n,l,j,g,f,c,b⟩:=Ah F.o;go_wp2_with fail;refine (KO.o _ (S.o)).mono ?_;rintro e w4 ⟨rfl,I⟩;have ay:Hx (Ov w w4):=Ab (S.o) I;have ah:Hx (Ac [A J 1,A J a,.string x,.string ⟨#[]⟩,zc false,O aL 0 cL,O aP 0 cP,O aB 0 cB,A J e0,A J e1,A J e2,.string e3,O q q1 q2] w4 w.heap.size):=F.o.over I;clear I E C B v u t n l j g f c b KO;have Q:Hx (K=qo):=by have h:=HF.o;simp at h;exact h
       obtain ⟨E,C,B,v,u,t,n,l,j,g,f,c,b⟩:=Ah ah.o;go_wp2_with fail;go_ret;exact ⟨by rw [Q.o];(first | rfl | (simp;done) | (simp;assumption) | (simp;omega)),ay.o⟩
      ·have hi:¬ (U:Int)=0:=by omega
       have Q:Hx (K=false):=by have h:=HF.o;simp [h2] at h;exact h
       obtain ⟨E,C,B,v,u,t,n,l,j,g,f,c,b⟩:=Ah F.o;go_wp2_with fail;go_ret;exact ⟨by rw [Q.o];(first | rfl | (simp;done) | (simp;assumption) | (simp;omega)),S.o⟩
     ·have hi:¬ (T:Int)=0:=by omega
      have Q:Hx (K=false):=by have h:=HF.o;simp [h1] at h;exact h
      obtain ⟨E,C,B,v,u,t,n,l,j,g,f,c,b⟩:=Ah F.o;go_wp2_with fail;go_ret;exact ⟨by rw [Q.o];(first | rfl | (simp;done) | (simp;assumption) | (simp;omega)),S.o⟩
   ·have hi:(0:Int) < (L:Int):=by omega
    have a8:0 < L:=by omega
    have Q:Hx (K=false):=by have h:=HF.o;simp [h0] at h;exact h
    obtain ⟨E,C,B,v,u,t,n,l,j,g,f,c,b⟩:=Ah F.o;go_wp2_with fail;go_ret;exact ⟨by rw [Q.o];(first | rfl | (simp;done) | (simp;assumption) | (simp;omega)),S.o⟩
  ·have ag:=Aq hy0
   have Z:qy=false:=by rw [W.o];simpa using hy0
   subst Z;clear hy0 W;have Q:Hx (K=false):=by have h:=HF.o;simp at h;exact h
   obtain ⟨E,C,B,v,u,t,n,l,j,g,f,c,b⟩:=Ah H.o;go_wp2_with fail;go_ret;exact ⟨by rw [Q.o];(first | rfl | (simp;done) | (simp;assumption) | (simp;omega)),Y.o⟩
 | false=>
  have Q:Hx (K=false):=by have h:=HF.o;simp at h;exact h
  obtain ⟨E,C,B,v,u,t,n,l,j,g,f,c,b⟩:=Ah H.o;go_wp2_with fail;go_ret;exact ⟨by rw [Q.o];(first | rfl | (simp;done) | (simp;assumption) | (simp;omega)),Y.o⟩
theorem La (ke kc:Nat) (a:Int) (x y:ByteArray) (aL:Option Addr) (cL:Nat) (lb:List D) (aP:Option Addr) (cP:Nat) (ps:List ByteArray) (aB:Option Addr) (cB:Nat) (body:List D) (e0 e1 e2:Int) (e3:ByteArray) (q:Option Addr) (q1 q2:Nat) (r:D) (w:World) (hx:x.size<=maxLen) (hy:y.size<=maxLen) (hL:LS 4 (ZP w) w (O aL lb.length cL) lb) (hP:LS 1 ZN w (O aP ps.length cP) ps) (hB:LS 12 (ZC w ke kc) w (O aB body.length cB) body) (hR:ZE w ke [A J e0,A J e1,A J e2,.string e3,O q q1 q2] r) :
  Ro 38 #[ze #[A J 2,A J a,.string x,.string y,zc true,O aL lb.length cL,O aP ps.length cP,O aB body.length cB,A J e0,A J e1,A J e2,.string e3,O q q1 q2]] w (zc (dfK ke kc (deD 2 a x y true lb ps body r))):=by
 obtain ⟨Q,E⟩:=nm (dfK ke kc (deD 2 a x y true lb ps body r));rw [<-E];unfold dfK CJ CK at E;simp only [gDd,BH nmS,BG,List.length_map] at E;obtain ⟨qx,U⟩:=nm (nmS x.data.toList);obtain ⟨qy,T⟩:=nm (nmS y.data.toList);obtain ⟨ql,P⟩:=nm (lb.all BW);obtain ⟨qp,W⟩:=nm (ps.all fun x=>nmS x.data.toList);obtain ⟨qb,Z⟩:=nm (body.all (sfK ke kc));obtain ⟨qr,V⟩:=nm (efK ke r);obtain ⟨qo,Y⟩:=nm (BX r);obtain ⟨K,I⟩:=nm lb.length;obtain ⟨R,L⟩:=nm ps.length;obtain ⟨S,M⟩:=nm body.length;have ad:(lb≠[])=(K≠0):=by rw [I];simp
 have am:K=0->ql=true:=fun h=>by rw [P,List.length_eq_zero_iff.1 (I.symm.trans h)];rfl
 simp only [<-U,<-P,<-W,<-Z,<-V,<-Y,<-L,<-M,ad] at E;have HF:Hx (Q=(qx && qy && (!true && decide (K=0)) && (decide (R=0) && decide (S=0) && qo))):=by
  show _=_;rw [E,T];by_cases h0:K=0
  ·simp [nfS]
  ·simp [nfS]
 have ag:Hx (∀ X,Ov w X->Ro 76 #[A J 2,A J 1,A J 7] X (zc true)):=fun X _=>by simpa using AB 2 1 7 X
 have af:Hx (∀ X,Ov w X->Ro 76 #[A J 2,A J 4,A J 6] X (zc false)):=fun X _=>by simpa using AB 2 4 6 X
 have KX:Hx (∀ X,Ov w X->Ro 77 #[.string x] X (zc qx)):=fun X _=>by rw [U];exact AG x X hx
 have KY:Hx (∀ X,Ov w X->Ro 77 #[.string y] X (zc qy)):=fun X _=>by rw [T];exact AG y X hy
 have KO:Hx (∀ X,Ov w X->Ro 78 #[ze #[A J e0,A J e1,A J e2,.string e3,O q q1 q2]] X (zc qo)):=fun X hX=>by rw [Y];exact Bw ke _ r X (hR.over hX)
 have KR:Hx (∀ X,Ov w X->Ro 79 #[ze #[A J e0,A J e1,A J e2,.string e3,O q q1 q2]] X (zc qr)):=fun X hX=>by rw [V];exact Bk ke _ r X (hR.over hX)
 have an:Hx (∀ X,Ov w X->Ro 39 #[O aB body.length cB] X (zc qb)):=fun X hX=>by rw [Z];exact A5 ke kc body aB cB X (Ao hX hB)
 rw [<-M] at an;have ap:=hL.max;have ao:=hP.max;have ai:=hB.max;rw [<-I] at ap;rw [<-L] at ao;rw [<-M] at ai;have a9:=Aa hL;have a6:=Aa hP;have a5:=Aa P;have a4:=Aa W;have a8:=Aa I;have a7:=Aa L;rw [<-I,<-L,<-M];clear E U T P W Z V Y ad am hL hP hB hR I L M hx hy;go_enter Tryz.func38,Tryz.ntmps38;go_wp2_with fail;refine (ag.o _ (bA w (zd #[A J 2,A J a,.string x,.string y,zc true,O aL K cL,O aP R cP,O aB S cB,A J e0,A J e1,A J e2,.string e3,O q q1 q2] 51))).mono ?_;rintro e w1 ⟨rfl,F⟩;have aj:Hx (Ov w w1):=Ab (bA w (zd #[A J 2,A J a,.string x,.string y,zc true,O aL K cL,O aP R cP,O aB S cB,A J e0,A J e1,A J e2,.string e3,O q q1 q2] 51)) F;have N:Hx (Ac [A J 2,A J a,.string x,.string y,zc true,O aL K cL,O aP R cP,O aB S cB,A J e0,A J e1,A J e2,.string e3,O q q1 q2] w1 w.heap.size):=Ac.over (Ai w [A J 2,A J a,.string x,.string y,zc true,O aL K cL,O aP R cP,O aB S cB,A J e0,A J e1,A J e2,.string e3,O q q1 q2] 51) F;clear F  ag;obtain ⟨C,B,v,u,t,n,l,j,i,g,f,c,b⟩:=Ah N.o;go_wp2_with fail;refine (KX.o _ (aj.o)).mono ?_;rintro e w2 ⟨rfl,F⟩;have ac:Hx (Ov w w2):=Ab (aj.o) F;have H:Hx (Ac [A J 2,A J a,.string x,.string y,zc true,O aL K cL,O aP R cP,O aB S cB,A J e0,A J e1,A J e2,.string e3,O q q1 q2] w2 w.heap.size):=N.o.over F;clear F C B v u t n l j i g f c b KX
 cases qx with
 | true=>
  obtain ⟨C,B,v,u,t,n,l,j,i,g,f,c,b⟩:=Ah H.o;go_wp2_with fail;refine (KY.o _ (ac.o)).mono ?_;rintro e w3 ⟨rfl,F⟩;have ab:Hx (Ov w w3):=Ab (ac.o) F;have G:Hx (Ac [A J 2,A J a,.string x,.string y,zc true,O aL K cL,O aP R cP,O aB S cB,A J e0,A J e1,A J e2,.string e3,O q q1 q2] w3 w.heap.size):=H.o.over F;clear F C B v u t n l j i g f c b KY
  cases qy with
  | true=>
   obtain ⟨C,B,v,u,t,n,l,j,i,g,f,c,b⟩:=Ah G.o;go_wp2_with fail;refine (af.o _ (ab.o)).mono ?_;rintro e w4 ⟨rfl,F⟩;have ar:Hx (Ov w w4):=Ab (ab.o) F;have aa:Hx (Ac [A J 2,A J a,.string x,.string y,zc true,O aL K cL,O aP R cP,O aB S cB,A J e0,A J e1,A J e2,.string e3,O q q1 q2] w4 w.heap.size):=G.o.over F;clear F C B v u t n l j i g f c b af;have HV:Hx (Q=false):=by have h:=HF.o;simp at h;exact h
   obtain ⟨C,B,v,u,t,n,l,j,i,g,f,c,b⟩:=Ah aa.o;go_wp2_with fail;go_ret;exact ⟨by rw [HV.o];(first | rfl | (simp;done) | (simp;assumption) | (simp;omega)),ar.o⟩
  | false=>
   have HV:Hx (Q=false):=by have h:=HF.o;simp at h;exact h
   obtain ⟨C,B,v,u,t,n,l,j,i,g,f,c,b⟩:=Ah G.o;go_wp2_with fail;go_ret;exact ⟨by rw [HV.o];(first | rfl | (simp;done) | (simp;assumption) | (simp;omega)),ab.o⟩
 | false=>
  have HV:Hx (Q=false):=by have h:=HF.o;simp at h;exact h
  obtain ⟨C,B,v,u,t,n,l,j,i,g,f,c,b⟩:=Ah H.o;go_wp2_with fail;go_ret;exact ⟨by rw [HV.o];(first | rfl | (simp;done) | (simp;assumption) | (simp;omega)),ac.o⟩
theorem Lb (ke kc:Nat) (a:Int) (x y:ByteArray) (aL:Option Addr) (cL:Nat) (lb:List D) (aP:Option Addr) (cP:Nat) (ps:List ByteArray) (aB:Option Addr) (cB:Nat) (body:List D) (e0 e1 e2:Int) (e3:ByteArray) (q:Option Addr) (q1 q2:Nat) (r:D) (w:World) (hx:x.size<=maxLen) (hy:y.size<=maxLen) (hL:LS 4 (ZP w) w (O aL lb.length cL) lb) (hP:LS 1 ZN w (O aP ps.length cP) ps) (hB:LS 12 (ZC w ke kc) w (O aB body.length cB) body) (hR:ZE w ke [A J e0,A J e1,A J e2,.string e3,O q q1 q2] r) :
  Ro 38 #[ze #[A J 2,A J a,.string x,.string y,zc false,O aL lb.length cL,O aP ps.length cP,O aB body.length cB,A J e0,A J e1,A J e2,.string e3,O q q1 q2]] w (zc (dfK ke kc (deD 2 a x y false lb ps body r))):=by
 obtain ⟨I,G⟩:=nm (dfK ke kc (deD 2 a x y false lb ps body r));rw [<-G];unfold dfK CJ CK at G;simp only [gDd,BH nmS,BG,List.length_map] at G;obtain ⟨qx,Z⟩:=nm (nmS x.data.toList);obtain ⟨qy,Y⟩:=nm (nmS y.data.toList);obtain ⟨ql,W⟩:=nm (lb.all BW);obtain ⟨qp,ab⟩:=nm (ps.all fun x=>nmS x.data.toList);obtain ⟨qb,ad⟩:=nm (body.all (sfK ke kc));obtain ⟨qr,aa⟩:=nm (efK ke r);obtain ⟨qo,ac⟩:=nm (BX r);obtain ⟨M,N⟩:=nm lb.length;obtain ⟨U,P⟩:=nm ps.length;obtain ⟨V,Q⟩:=nm body.length;have ai:(lb≠[])=(M≠0):=by rw [N];simp
 have au:M=0->ql=true:=fun h=>by rw [W,List.length_eq_zero_iff.1 (N.symm.trans h)];rfl
 simp only [<-Z,<-W,<-ab,<-ad,<-aa,<-ac,<-P,<-Q,ai] at G;have HF:Hx (I=(qx && qy && (!false && decide (M=0)) && (decide (U=0) && decide (V=0) && qo))):=by
  show _=_;rw [G,Y];by_cases h0:M=0
  ·simp [h0,nfS]
  ·simp [h0,nfS]
 have al:Hx (∀ X,Ov w X->Ro 76 #[A J 2,A J 1,A J 7] X (zc true)):=fun X _=>by simpa using AB 2 1 7 X
 have ak:Hx (∀ X,Ov w X->Ro 76 #[A J 2,A J 4,A J 6] X (zc false)):=fun X _=>by simpa using AB 2 4 6 X
 have KX:Hx (∀ X,Ov w X->Ro 77 #[.string x] X (zc qx)):=fun X _=>by rw [Z];exact AG x X hx
 have KY:Hx (∀ X,Ov w X->Ro 77 #[.string y] X (zc qy)):=fun X _=>by rw [Y];exact AG y X hy
 have KO:Hx (∀ X,Ov w X->Ro 78 #[ze #[A J e0,A J e1,A J e2,.string e3,O q q1 q2]] X (zc qo)):=fun X hX=>by rw [ac];exact Bw ke _ r X (hR.over hX)
 have KR:Hx (∀ X,Ov w X->Ro 79 #[ze #[A J e0,A J e1,A J e2,.string e3,O q q1 q2]] X (zc qr)):=fun X hX=>by rw [aa];exact Bk ke _ r X (hR.over hX)
 have av:Hx (∀ X,Ov w X->Ro 39 #[O aB body.length cB] X (zc qb)):=fun X hX=>by rw [ad];exact A5 ke kc body aB cB X (Ao hX hB)
 rw [<-Q] at av;have ax:=hL.max;have aw:=hP.max;have am:=hB.max;rw [<-N] at ax;rw [<-P] at aw;rw [<-Q] at am;have bg:=Aa hL;have bd:=Aa hP;have bc:=Aa W;have bb:=Aa ab;have bf:=Aa N;have be:=Aa P;rw [<-N,<-P,<-Q];clear G Z Y W ab ad aa ac ai au hL hP hB hR N P Q hx hy;go_enter Tryz.func38,Tryz.ntmps38;go_wp2_with fail;refine (al.o _ (bA w (zd #[A J 2,A J a,.string x,.string y,zc false,O aL M cL,O aP U cP,O aB V cB,A J e0,A J e1,A J e2,.string e3,O q q1 q2] 51))).mono ?_;rintro e w1 ⟨rfl,H⟩;have an:Hx (Ov w w1):=Ab (bA w (zd #[A J 2,A J a,.string x,.string y,zc false,O aL M cL,O aP U cP,O aB V cB,A J e0,A J e1,A J e2,.string e3,O q q1 q2] 51)) H;have S:Hx (Ac [A J 2,A J a,.string x,.string y,zc false,O aL M cL,O aP U cP,O aB V cB,A J e0,A J e1,A J e2,.string e3,O q q1 q2] w1 w.heap.size):=Ac.over (Ai w [A J 2,A J a,.string x,.string y,zc false,O aL M cL,O aP U cP,O aB V cB,A J e0,A J e1,A J e2,.string e3,O q q1 q2] 51) H;clear H  al;obtain ⟨E,C,B,v,u,t,n,l,j,g,f,c,b⟩:=Ah S.o;go_wp2_with fail;refine (KX.o _ (an.o)).mono ?_;rintro e w2 ⟨rfl,H⟩;have ag:Hx (Ov w w2):=Ab (an.o) H;have L:Hx (Ac [A J 2,A J a,.string x,.string y,zc false,O aL M cL,O aP U cP,O aB V cB,A J e0,A J e1,A J e2,.string e3,O q q1 q2] w2 w.heap.size):=S.o.over H;clear H E C B v u t n l j g f c b KX
 cases qx with
 | true=>
  obtain ⟨E,C,B,v,u,t,n,l,j,g,f,c,b⟩:=Ah L.o;go_wp2_with fail;refine (KY.o _ (ag.o)).mono ?_;rintro e w3 ⟨rfl,H⟩;have af:Hx (Ov w w3):=Ab (ag.o) H;have K:Hx (Ac [A J 2,A J a,.string x,.string y,zc false,O aL M cL,O aP U cP,O aB V cB,A J e0,A J e1,A J e2,.string e3,O q q1 q2] w3 w.heap.size):=L.o.over H;clear H E C B v u t n l j g f c b KY
  cases qy with
  | true=>
   obtain ⟨E,C,B,v,u,t,n,l,j,g,f,c,b⟩:=Ah K.o;go_wp2_with fail;refine (ak.o _ (af.o)).mono ?_;rintro e w4 ⟨rfl,H⟩;have T:Hx (Ov w w4):=Ab (af.o) H;have F:Hx (Ac [A J 2,A J a,.string x,.string y,zc false,O aL M cL,O aP U cP,O aB V cB,A J e0,A J e1,A J e2,.string e3,O q q1 q2] w4 w.heap.size):=K.o.over H;clear H E C B v u t n l j g f c b ak;by_cases h0:M=0
   ·subst h0
    obtain ⟨E,C,B,v,u,t,n,l,j,g,f,c,b⟩:=Ah F.o;go_wp2_with fail;clear E C B v u t n l j g f c b;go_loopw [3] (fun i wr=>i=A J 0/\w4=wr) (fun _ _=>0)
    case atStart=>exact ⟨rfl,rfl⟩
    case round=>
     obtain ⟨rfl,rfl⟩:=hrel;by_cases h1:U=0
     ·subst h1
      by_cases h2:V=0
      ·subst h2
       obtain ⟨E,C,B,v,u,t,n,l,j,g,f,c,b⟩:=Ah F.o;go_wp2_with fail;refine (KO.o _ (T.o)).mono ?_;rintro e w5 ⟨rfl,H⟩;have ay:Hx (Ov w w5):=Ab (T.o) H;have ae:Hx (Ac [A J 2,A J a,.string x,.string y,zc false,O aL 0 cL,O aP 0 cP,O aB 0 cB,A J e0,A J e1,A J e2,.string e3,O q q1 q2] w5 w.heap.size):=F.o.over H;clear H E C B v u t n l j g f c b KO;have R:Hx (I=qo):=by have h:=HF.o;simp at h;exact h
       obtain ⟨E,C,B,v,u,t,n,l,j,g,f,c,b⟩:=Ah ae.o;go_wp2_with fail;go_ret;exact ⟨by rw [R.o];(first | rfl | (simp;done) | (simp;assumption) | (simp;omega)),ay.o⟩
      ·have hi:¬ (V:Int)=0:=by omega
       have R:Hx (I=false):=by have h:=HF.o;simp [h2] at h;exact h
       obtain ⟨E,C,B,v,u,t,n,l,j,g,f,c,b⟩:=Ah F.o;go_wp2_with fail;go_ret;exact ⟨by rw [R.o];(first | rfl | (simp;done) | (simp;assumption) | (simp;omega)),T.o⟩
     ·have hi:¬ (U:Int)=0:=by omega
      have R:Hx (I=false):=by have h:=HF.o;simp [h1] at h;exact h
      obtain ⟨E,C,B,v,u,t,n,l,j,g,f,c,b⟩:=Ah F.o;go_wp2_with fail;go_ret;exact ⟨by rw [R.o];(first | rfl | (simp;done) | (simp;assumption) | (simp;omega)),T.o⟩
   ·have hi:(0:Int) < (M:Int):=by omega
    have ba:0 < M:=by omega
    have R:Hx (I=false):=by have h:=HF.o;simp [h0] at h;exact h
    obtain ⟨E,C,B,v,u,t,n,l,j,g,f,c,b⟩:=Ah F.o;go_wp2_with fail;go_ret;exact ⟨by rw [R.o];(first | rfl | (simp;done) | (simp;assumption) | (simp;omega)),T.o⟩
  | false=>
   have R:Hx (I=false):=by have h:=HF.o;simp at h;exact h
   obtain ⟨E,C,B,v,u,t,n,l,j,g,f,c,b⟩:=Ah K.o;go_wp2_with fail;go_ret;exact ⟨by rw [R.o];(first | rfl | (simp;done) | (simp;assumption) | (simp;omega)),af.o⟩
 | false=>
  have R:Hx (I=false):=by have h:=HF.o;simp at h;exact h
  obtain ⟨E,C,B,v,u,t,n,l,j,g,f,c,b⟩:=Ah L.o;go_wp2_with fail;go_ret;exact ⟨by rw [R.o];(first | rfl | (simp;done) | (simp;assumption) | (simp;omega)),ag.o⟩
theorem K8 (ke kc:Nat) (a:Int) (x y:ByteArray) (aL:Option Addr) (cL:Nat) (lb:List D) (aP:Option Addr) (cP:Nat) (ps:List ByteArray) (aB:Option Addr) (cB:Nat) (body:List D) (e0 e1 e2:Int) (e3:ByteArray) (q:Option Addr) (q1 q2:Nat) (r:D) (w:World) (hx:x.size<=maxLen) (hy:y.size<=maxLen) (hL:LS 4 (ZP w) w (O aL lb.length cL) lb) (hP:LS 1 ZN w (O aP ps.length cP) ps) (hB:LS 12 (ZC w ke kc) w (O aB body.length cB) body) (hR:ZE w ke [A J e0,A J e1,A J e2,.string e3,O q q1 q2] r) :
  Ro 38 #[ze #[A J 3,A J a,.string x,.string y,zc true,O aL lb.length cL,O aP ps.length cP,O aB body.length cB,A J e0,A J e1,A J e2,.string e3,O q q1 q2]] w (zc (dfK ke kc (deD 3 a x y true lb ps body r))):=by
 obtain ⟨P,E⟩:=nm (dfK ke kc (deD 3 a x y true lb ps body r));rw [<-E];unfold dfK CJ CK at E;simp only [gDd,BH nmS,BG,List.length_map] at E;obtain ⟨qx,W⟩:=nm (nmS x.data.toList);obtain ⟨qy,V⟩:=nm (y.data.toList.isEmpty);obtain ⟨ql,N⟩:=nm (lb.all BW);obtain ⟨qp,Z⟩:=nm (ps.all fun x=>nmS x.data.toList);obtain ⟨qb,ab⟩:=nm (body.all (sfK ke kc));obtain ⟨qr,Y⟩:=nm (efK ke r);obtain ⟨qo,aa⟩:=nm (BX r);obtain ⟨M,G⟩:=nm lb.length;obtain ⟨S,H⟩:=nm ps.length;obtain ⟨T,I⟩:=nm body.length;have ac:(lb≠[])=(M≠0):=by rw [G];simp
 have am:M=0->ql=true:=fun h=>by rw [N,List.length_eq_zero_iff.1 (G.symm.trans h)];rfl
 simp only [<-W,<-N,<-Z,<-ab,<-Y,<-aa,<-H,<-I,ac] at E;have HF:Hx (P=(qx && qy && (!true && decide (M=0)) && (decide (S=0) && decide (T=0) && qo))):=by
  show _=_;rw [E,V];by_cases h0:M=0
  ·simp [nfS]
  ·simp [nfS]
 have ag:Hx (∀ X,Ov w X->Ro 76 #[A J 3,A J 1,A J 7] X (zc true)):=fun X _=>by simpa using AB 3 1 7 X
 have af:Hx (∀ X,Ov w X->Ro 76 #[A J 3,A J 4,A J 6] X (zc false)):=fun X _=>by simpa using AB 3 4 6 X
 have KX:Hx (∀ X,Ov w X->Ro 77 #[.string x] X (zc qx)):=fun X _=>by rw [W];exact AG x X hx
 have Q:=Aa V;have KO:Hx (∀ X,Ov w X->Ro 78 #[ze #[A J e0,A J e1,A J e2,.string e3,O q q1 q2]] X (zc qo)):=fun X hX=>by rw [aa];exact Bw ke _ r X (hR.over hX)
 have KR:Hx (∀ X,Ov w X->Ro 79 #[ze #[A J e0,A J e1,A J e2,.string e3,O q q1 q2]] X (zc qr)):=fun X hX=>by rw [Y];exact Bk ke _ r X (hR.over hX)
 have an:Hx (∀ X,Ov w X->Ro 39 #[O aB body.length cB] X (zc qb)):=fun X hX=>by rw [ab];exact A5 ke kc body aB cB X (Ao hX hB)
 rw [<-I] at an;have ap:=hL.max;have ao:=hP.max;have ai:=hB.max;rw [<-G] at ap;rw [<-H] at ao;rw [<-I] at ai;have a7:=Aa hL;have a4:=Aa hP;have a3:=Aa N;have a2:=Aa Z;have a6:=Aa G;have a5:=Aa H;rw [<-G,<-H,<-I];clear E W V N Z ab Y aa ac am hL hP hB hR G H I hx hy;go_enter Tryz.func38,Tryz.ntmps38;go_wp2_with fail;refine (ag.o _ (bA w (zd #[A J 3,A J a,.string x,.string y,zc true,O aL M cL,O aP S cP,O aB T cB,A J e0,A J e1,A J e2,.string e3,O q q1 q2] 51))).mono ?_;rintro e w1 ⟨rfl,K⟩;have aj:Hx (Ov w w1):=Ab (bA w (zd #[A J 3,A J a,.string x,.string y,zc true,O aL M cL,O aP S cP,O aB T cB,A J e0,A J e1,A J e2,.string e3,O q q1 q2] 51)) K;have L:Hx (Ac [A J 3,A J a,.string x,.string y,zc true,O aL M cL,O aP S cP,O aB T cB,A J e0,A J e1,A J e2,.string e3,O q q1 q2] w1 w.heap.size):=Ac.over (Ai w [A J 3,A J a,.string x,.string y,zc true,O aL M cL,O aP S cP,O aB T cB,A J e0,A J e1,A J e2,.string e3,O q q1 q2] 51) K;clear K  ag;obtain ⟨C,B,v,u,t,n,l,j,i,g,f,c,b⟩:=Ah L.o;go_wp2_with fail;refine (KX.o _ (aj.o)).mono ?_;rintro e w2 ⟨rfl,K⟩;have R:Hx (Ov w w2):=Ab (aj.o) K;have F:Hx (Ac [A J 3,A J a,.string x,.string y,zc true,O aL M cL,O aP S cP,O aB T cB,A J e0,A J e1,A J e2,.string e3,O q q1 q2] w2 w.heap.size):=L.o.over K;clear K C B v u t n l j i g f c b KX
 cases qx with
 | true=>
  by_cases hy0:y.data.toList=[]
  ·obtain rfl:=Aj hy0
   have U:qy=true:=by rw [Q.o];rfl
   subst U;clear hy0 Q;obtain ⟨C,B,v,u,t,n,l,j,i,g,f,c,b⟩:=Ah F.o;go_wp2_with fail;refine (af.o _ (R.o)).mono ?_;rintro e w3 ⟨rfl,K⟩;have ar:Hx (Ov w w3):=Ab (R.o) K;have ad:Hx (Ac [A J 3,A J a,.string x,.string ⟨#[]⟩,zc true,O aL M cL,O aP S cP,O aB T cB,A J e0,A J e1,A J e2,.string e3,O q q1 q2] w3 w.heap.size):=F.o.over K;clear K C B v u t n l j i g f c b af;have HV:Hx (P=false):=by have h:=HF.o;simp at h;exact h
   obtain ⟨C,B,v,u,t,n,l,j,i,g,f,c,b⟩:=Ah ad.o;go_wp2_with fail;go_ret;exact ⟨by rw [HV.o];(first | rfl | (simp;done) | (simp;assumption) | (simp;omega)),ar.o⟩
  ·have ac:=Aq hy0
   have U:qy=false:=by rw [Q.o];simpa using hy0
   subst U;clear hy0 Q;have HV:Hx (P=false):=by have h:=HF.o;simp at h;exact h
   obtain ⟨C,B,v,u,t,n,l,j,i,g,f,c,b⟩:=Ah F.o;go_wp2_with fail;go_ret;exact ⟨by rw [HV.o];(first | rfl | (simp;done) | (simp;assumption) | (simp;omega)),R.o⟩
 | false=>
  have HV:Hx (P=false):=by have h:=HF.o;simp at h;exact h
  obtain ⟨C,B,v,u,t,n,l,j,i,g,f,c,b⟩:=Ah F.o;go_wp2_with fail;go_ret;exact ⟨by rw [HV.o];(first | rfl | (simp;done) | (simp;assumption) | (simp;omega)),R.o⟩
theorem K9 (ke kc:Nat) (a:Int) (x y:ByteArray) (aL:Option Addr) (cL:Nat) (lb:List D) (aP:Option Addr) (cP:Nat) (ps:List ByteArray) (aB:Option Addr) (cB:Nat) (body:List D) (e0 e1 e2:Int) (e3:ByteArray) (q:Option Addr) (q1 q2:Nat) (r:D) (w:World) (hx:x.size<=maxLen) (hy:y.size<=maxLen) (hL:LS 4 (ZP w) w (O aL lb.length cL) lb) (hP:LS 1 ZN w (O aP ps.length cP) ps) (hB:LS 12 (ZC w ke kc) w (O aB body.length cB) body) (hR:ZE w ke [A J e0,A J e1,A J e2,.string e3,O q q1 q2] r) :
  Ro 38 #[ze #[A J 3,A J a,.string x,.string y,zc false,O aL lb.length cL,O aP ps.length cP,O aB body.length cB,A J e0,A J e1,A J e2,.string e3,O q q1 q2]] w (zc (dfK ke kc (deD 3 a x y false lb ps body r))):=by
 obtain ⟨K,G⟩:=nm (dfK ke kc (deD 3 a x y false lb ps body r));rw [<-G];unfold dfK CJ CK at G;simp only [gDd,BH nmS,BG,List.length_map] at G;obtain ⟨qx,ab⟩:=nm (nmS x.data.toList);obtain ⟨qy,aa⟩:=nm (y.data.toList.isEmpty);obtain ⟨ql,V⟩:=nm (lb.all BW);obtain ⟨qp,ad⟩:=nm (ps.all fun x=>nmS x.data.toList);obtain ⟨qb,af⟩:=nm (body.all (sfK ke kc));obtain ⟨qr,ac⟩:=nm (efK ke r);obtain ⟨qo,ae⟩:=nm (BX r);obtain ⟨L,M⟩:=nm lb.length;obtain ⟨T,N⟩:=nm ps.length;obtain ⟨U,P⟩:=nm body.length;have ag:(lb≠[])=(L≠0):=by rw [M];simp
 have au:L=0->ql=true:=fun h=>by rw [V,List.length_eq_zero_iff.1 (M.symm.trans h)];rfl
 simp only [<-ab,<-V,<-ad,<-af,<-ac,<-ae,<-N,<-P,ag] at G;have HF:Hx (K=(qx && qy && (!false && decide (L=0)) && (decide (T=0) && decide (U=0) && qo))):=by
  show _=_;rw [G,aa];by_cases h0:L=0
  ·simp [h0,nfS]
  ·simp [h0,nfS]
 have al:Hx (∀ X,Ov w X->Ro 76 #[A J 3,A J 1,A J 7] X (zc true)):=fun X _=>by simpa using AB 3 1 7 X
 have ak:Hx (∀ X,Ov w X->Ro 76 #[A J 3,A J 4,A J 6] X (zc false)):=fun X _=>by simpa using AB 3 4 6 X
 have KX:Hx (∀ X,Ov w X->Ro 77 #[.string x] X (zc qx)):=fun X _=>by rw [ab];exact AG x X hx
 have W:=Aa aa;have KO:Hx (∀ X,Ov w X->Ro 78 #[ze #[A J e0,A J e1,A J e2,.string e3,O q q1 q2]] X (zc qo)):=fun X hX=>by rw [ae];exact Bw ke _ r X (hR.over hX)
 have KR:Hx (∀ X,Ov w X->Ro 79 #[ze #[A J e0,A J e1,A J e2,.string e3,O q q1 q2]] X (zc qr)):=fun X hX=>by rw [ac];exact Bk ke _ r X (hR.over hX)
 have av:Hx (∀ X,Ov w X->Ro 39 #[O aB body.length cB] X (zc qb)):=fun X hX=>by rw [af];exact A5 ke kc body aB cB X (Ao hX hB)
 rw [<-P] at av;have ax:=hL.max;have aw:=hP.max;have am:=hB.max;rw [<-M] at ax;rw [<-N] at aw;rw [<-P] at am;have be:=Aa hL;have bb:=Aa hP;have ba:=Aa V;have a9:=Aa ad;have bd:=Aa M;have bc:=Aa N;rw [<-M,<-N,<-P];clear G ab aa V ad af ac ae ag au hL hP hB hR M N P hx hy;go_enter Tryz.func38,Tryz.ntmps38;go_wp2_with fail;refine (al.o _ (bA w (zd #[A J 3,A J a,.string x,.string y,zc false,O aL L cL,O aP T cP,O aB U cB,A J e0,A J e1,A J e2,.string e3,O q q1 q2] 51))).mono ?_;rintro e w1 ⟨rfl,I⟩;have an:Hx (Ov w w1):=Ab (bA w (zd #[A J 3,A J a,.string x,.string y,zc false,O aL L cL,O aP T cP,O aB U cB,A J e0,A J e1,A J e2,.string e3,O q q1 q2] 51)) I;have R:Hx (Ac [A J 3,A J a,.string x,.string y,zc false,O aL L cL,O aP T cP,O aB U cB,A J e0,A J e1,A J e2,.string e3,O q q1 q2] w1 w.heap.size):=Ac.over (Ai w [A J 3,A J a,.string x,.string y,zc false,O aL L cL,O aP T cP,O aB U cB,A J e0,A J e1,A J e2,.string e3,O q q1 q2] 51) I;clear I  al;obtain ⟨E,C,B,v,u,t,n,l,j,g,f,c,b⟩:=Ah R.o;go_wp2_with fail;refine (KX.o _ (an.o)).mono ?_;rintro e w2 ⟨rfl,I⟩;have Y:Hx (Ov w w2):=Ab (an.o) I;have H:Hx (Ac [A J 3,A J a,.string x,.string y,zc false,O aL L cL,O aP T cP,O aB U cB,A J e0,A J e1,A J e2,.string e3,O q q1 q2] w2 w.heap.size):=R.o.over I;clear I E C B v u t n l j g f c b KX
 cases qx with
 | true=>
  by_cases hy0:y.data.toList=[]
  ·obtain rfl:=Aj hy0
   have Z:qy=true:=by rw [W.o];rfl
   subst Z;clear hy0 W;obtain ⟨E,C,B,v,u,t,n,l,j,g,f,c,b⟩:=Ah H.o;go_wp2_with fail;refine (ak.o _ (Y.o)).mono ?_;rintro e w3 ⟨rfl,I⟩;have S:Hx (Ov w w3):=Ab (Y.o) I;have F:Hx (Ac [A J 3,A J a,.string x,.string ⟨#[]⟩,zc false,O aL L cL,O aP T cP,O aB U cB,A J e0,A J e1,A J e2,.string e3,O q q1 q2] w3 w.heap.size):=H.o.over I;clear I E C B v u t n l j g f c b ak;by_cases h0:L=0
   ·subst h0
    obtain ⟨E,C,B,v,u,t,n,l,j,g,f,c,b⟩:=Ah F.o;go_wp2_with fail;clear E C B v u t n l j g f c b;go_loopw [3] (fun i wr=>i=A J 0/\w3=wr) (fun _ _=>0)
    case atStart=>exact ⟨rfl,rfl⟩
    case round=>
     obtain ⟨rfl,rfl⟩:=hrel;by_cases h1:T=0
     ·subst h1
      by_cases h2:U=0
      ·subst h2
       obtain ⟨E,C,B,v,u,t,n,l,j,g,f,c,b⟩:=Ah F.o;go_wp2_with fail;refine (KO.o _ (S.o)).mono ?_;rintro e w4 ⟨rfl,I⟩;have ay:Hx (Ov w w4):=Ab (S.o) I;have ah:Hx (Ac [A J 3,A J a,.string x,.string ⟨#[]⟩,zc false,O aL 0 cL,O aP 0 cP,O aB 0 cB,A J e0,A J e1,A J e2,.string e3,O q q1 q2] w4 w.heap.size):=F.o.over I;clear I E C B v u t n l j g f c b KO;have Q:Hx (K=qo):=by have h:=HF.o;simp at h;exact h
       obtain ⟨E,C,B,v,u,t,n,l,j,g,f,c,b⟩:=Ah ah.o;go_wp2_with fail;go_ret;exact ⟨by rw [Q.o];(first | rfl | (simp;done) | (simp;assumption) | (simp;omega)),ay.o⟩
      ·have hi:¬ (U:Int)=0:=by omega
       have Q:Hx (K=false):=by have h:=HF.o;simp [h2] at h;exact h
       obtain ⟨E,C,B,v,u,t,n,l,j,g,f,c,b⟩:=Ah F.o;go_wp2_with fail;go_ret;exact ⟨by rw [Q.o];(first | rfl | (simp;done) | (simp;assumption) | (simp;omega)),S.o⟩
     ·have hi:¬ (T:Int)=0:=by omega
      have Q:Hx (K=false):=by have h:=HF.o;simp [h1] at h;exact h
      obtain ⟨E,C,B,v,u,t,n,l,j,g,f,c,b⟩:=Ah F.o;go_wp2_with fail;go_ret;exact ⟨by rw [Q.o];(first | rfl | (simp;done) | (simp;assumption) | (simp;omega)),S.o⟩
   ·have hi:(0:Int) < (L:Int):=by omega
    have a8:0 < L:=by omega
    have Q:Hx (K=false):=by have h:=HF.o;simp [h0] at h;exact h
    obtain ⟨E,C,B,v,u,t,n,l,j,g,f,c,b⟩:=Ah F.o;go_wp2_with fail;go_ret;exact ⟨by rw [Q.o];(first | rfl | (simp;done) | (simp;assumption) | (simp;omega)),S.o⟩
  ·have ag:=Aq hy0
   have Z:qy=false:=by rw [W.o];simpa using hy0
   subst Z;clear hy0 W;have Q:Hx (K=false):=by have h:=HF.o;simp at h;exact h
   obtain ⟨E,C,B,v,u,t,n,l,j,g,f,c,b⟩:=Ah H.o;go_wp2_with fail;go_ret;exact ⟨by rw [Q.o];(first | rfl | (simp;done) | (simp;assumption) | (simp;omega)),Y.o⟩
 | false=>
  have Q:Hx (K=false):=by have h:=HF.o;simp at h;exact h
  obtain ⟨E,C,B,v,u,t,n,l,j,g,f,c,b⟩:=Ah H.o;go_wp2_with fail;go_ret;exact ⟨by rw [Q.o];(first | rfl | (simp;done) | (simp;assumption) | (simp;omega)),Y.o⟩
theorem Kz (ke kc:Nat) (a:Int) (x y:ByteArray) (aL:Option Addr) (cL:Nat) (lb:List D) (aP:Option Addr) (cP:Nat) (ps:List ByteArray) (aB:Option Addr) (cB:Nat) (body:List D) (e0 e1 e2:Int) (e3:ByteArray) (q:Option Addr) (q1 q2:Nat) (r:D) (w:World) (hx:x.size<=maxLen) (hy:y.size<=maxLen) (hL:LS 4 (ZP w) w (O aL lb.length cL) lb) (hP:LS 1 ZN w (O aP ps.length cP) ps) (hB:LS 12 (ZC w ke kc) w (O aB body.length cB) body) (hR:ZE w ke [A J e0,A J e1,A J e2,.string e3,O q q1 q2] r) :
  Ro 38 #[ze #[A J 7,A J a,.string x,.string y,zc true,O aL lb.length cL,O aP ps.length cP,O aB body.length cB,A J e0,A J e1,A J e2,.string e3,O q q1 q2]] w (zc (dfK ke kc (deD 7 a x y true lb ps body r))):=by
 obtain ⟨P,E⟩:=nm (dfK ke kc (deD 7 a x y true lb ps body r));rw [<-E];unfold dfK CJ CK at E;simp only [gDd,BH nmS,BG,List.length_map] at E;obtain ⟨qx,U⟩:=nm (nmS x.data.toList);obtain ⟨qy,T⟩:=nm (y.data.toList.isEmpty);obtain ⟨ql,N⟩:=nm (lb.all BW);obtain ⟨qp,W⟩:=nm (ps.all fun x=>nmS x.data.toList);obtain ⟨qb,Z⟩:=nm (body.all (sfK ke kc));obtain ⟨qr,V⟩:=nm (efK ke r);obtain ⟨qo,Y⟩:=nm (BX r);obtain ⟨M,G⟩:=nm lb.length;obtain ⟨nP,H⟩:=nm ps.length;obtain ⟨nB,I⟩:=nm body.length;have aa:(lb≠[])=(M≠0):=by rw [G];simp
 have am:M=0->ql=true:=fun h=>by rw [N,List.length_eq_zero_iff.1 (G.symm.trans h)];rfl
 simp only [<-U,<-N,<-W,<-Z,<-V,<-Y,<-H,<-I,aa] at E;have HF:Hx (P=(qx && qy && (!true && decide (M=0)) && (qp && qb && qr))):=by
  show _=_;rw [E,T];by_cases h0:M=0
  ·simp [nfS]
  ·simp [nfS]
 have ag:Hx (∀ X,Ov w X->Ro 76 #[A J 7,A J 1,A J 7] X (zc true)):=fun X _=>by simpa using AB 7 1 7 X
 have af:Hx (∀ X,Ov w X->Ro 76 #[A J 7,A J 4,A J 6] X (zc false)):=fun X _=>by simpa using AB 7 4 6 X
 have KX:Hx (∀ X,Ov w X->Ro 77 #[.string x] X (zc qx)):=fun X _=>by rw [U];exact AG x X hx
 have Q:=Aa T;have KO:Hx (∀ X,Ov w X->Ro 78 #[ze #[A J e0,A J e1,A J e2,.string e3,O q q1 q2]] X (zc qo)):=fun X hX=>by rw [Y];exact Bw ke _ r X (hR.over hX)
 have KR:Hx (∀ X,Ov w X->Ro 79 #[ze #[A J e0,A J e1,A J e2,.string e3,O q q1 q2]] X (zc qr)):=fun X hX=>by rw [V];exact Bk ke _ r X (hR.over hX)
 have an:Hx (∀ X,Ov w X->Ro 39 #[O aB body.length cB] X (zc qb)):=fun X hX=>by rw [Z];exact A5 ke kc body aB cB X (Ao hX hB)
 rw [<-I] at an;have ap:=hL.max;have ao:=hP.max;have ai:=hB.max;rw [<-G] at ap;rw [<-H] at ao;rw [<-I] at ai;have a8:=Aa hL;have a5:=Aa hP;have a4:=Aa N;have a3:=Aa W;have a7:=Aa G;have a6:=Aa H;rw [<-G,<-H,<-I];clear E U T N W Z V Y aa am hL hP hB hR G H I hx hy;go_enter Tryz.func38,Tryz.ntmps38;go_wp2_with fail;refine (ag.o _ (bA w (zd #[A J 7,A J a,.string x,.string y,zc true,O aL M cL,O aP nP cP,O aB nB cB,A J e0,A J e1,A J e2,.string e3,O q q1 q2] 51))).mono ?_;rintro e w1 ⟨rfl,K⟩;have aj:Hx (Ov w w1):=Ab (bA w (zd #[A J 7,A J a,.string x,.string y,zc true,O aL M cL,O aP nP cP,O aB nB cB,A J e0,A J e1,A J e2,.string e3,O q q1 q2] 51)) K;have L:Hx (Ac [A J 7,A J a,.string x,.string y,zc true,O aL M cL,O aP nP cP,O aB nB cB,A J e0,A J e1,A J e2,.string e3,O q q1 q2] w1 w.heap.size):=Ac.over (Ai w [A J 7,A J a,.string x,.string y,zc true,O aL M cL,O aP nP cP,O aB nB cB,A J e0,A J e1,A J e2,.string e3,O q q1 q2] 51) K;clear K  ag;obtain ⟨C,B,v,u,t,n,l,j,i,g,f,c,b⟩:=Ah L.o;go_wp2_with fail;refine (KX.o _ (aj.o)).mono ?_;rintro e w2 ⟨rfl,K⟩;have R:Hx (Ov w w2):=Ab (aj.o) K;have F:Hx (Ac [A J 7,A J a,.string x,.string y,zc true,O aL M cL,O aP nP cP,O aB nB cB,A J e0,A J e1,A J e2,.string e3,O q q1 q2] w2 w.heap.size):=L.o.over K;clear K C B v u t n l j i g f c b KX
 cases qx with
 | true=>
  by_cases hy0:y.data.toList=[]
  ·obtain rfl:=Aj hy0
   have S:qy=true:=by rw [Q.o];rfl
   subst S;clear hy0 Q;obtain ⟨C,B,v,u,t,n,l,j,i,g,f,c,b⟩:=Ah F.o;go_wp2_with fail;refine (af.o _ (R.o)).mono ?_;rintro e w3 ⟨rfl,K⟩;have ar:Hx (Ov w w3):=Ab (R.o) K;have ab:Hx (Ac [A J 7,A J a,.string x,.string ⟨#[]⟩,zc true,O aL M cL,O aP nP cP,O aB nB cB,A J e0,A J e1,A J e2,.string e3,O q q1 q2] w3 w.heap.size):=F.o.over K;clear K C B v u t n l j i g f c b af;have HV:Hx (P=false):=by have h:=HF.o;simp at h;exact h
   obtain ⟨C,B,v,u,t,n,l,j,i,g,f,c,b⟩:=Ah ab.o;go_wp2_with fail;go_ret;exact ⟨by rw [HV.o];(first | rfl | (simp;done) | (simp;assumption) | (simp;omega)),ar.o⟩
  ·have aa:=Aq hy0
   have S:qy=false:=by rw [Q.o];simpa using hy0
   subst S;clear hy0 Q;have HV:Hx (P=false):=by have h:=HF.o;simp at h;exact h
   obtain ⟨C,B,v,u,t,n,l,j,i,g,f,c,b⟩:=Ah F.o;go_wp2_with fail;go_ret;exact ⟨by rw [HV.o];(first | rfl | (simp;done) | (simp;assumption) | (simp;omega)),R.o⟩
 | false=>
  have HV:Hx (P=false):=by have h:=HF.o;simp at h;exact h
  obtain ⟨C,B,v,u,t,n,l,j,i,g,f,c,b⟩:=Ah F.o;go_wp2_with fail;go_ret;exact ⟨by rw [HV.o];(first | rfl | (simp;done) | (simp;assumption) | (simp;omega)),R.o⟩
theorem KU (ke kc:Nat) (a:Int) (x y:ByteArray) (aL:Option Addr) (cL:Nat) (lb:List D) (aP:Option Addr) (cP:Nat) (ps:List ByteArray) (aB:Option Addr) (cB:Nat) (body:List D) (e0 e1 e2:Int) (e3:ByteArray) (q:Option Addr) (q1 q2:Nat) (r:D) (w:World) (hx:x.size<=maxLen) (hy:y.size<=maxLen) (hL:LS 4 (ZP w) w (O aL lb.length cL) lb) (hP:LS 1 ZN w (O aP ps.length cP) ps) (hB:LS 12 (ZC w ke kc) w (O aB body.length cB) body) (hR:ZE w ke [A J e0,A J e1,A J e2,.string e3,O q q1 q2] r) :
  Ro 38 #[ze #[A J 7,A J a,.string x,.string y,zc false,O aL lb.length cL,O aP ps.length cP,O aB body.length cB,A J e0,A J e1,A J e2,.string e3,O q q1 q2]] w (zc (dfK ke kc (deD 7 a x y false lb ps body r))):=by
 obtain ⟨P,K⟩:=nm (dfK ke kc (deD 7 a x y false lb ps body r));rw [<-K];unfold dfK CJ CK at K;simp only [gDd,BH nmS,BG,List.length_map] at K;obtain ⟨qx,aj⟩:=nm (nmS x.data.toList);obtain ⟨qy,ai⟩:=nm (y.data.toList.isEmpty);obtain ⟨ql,ab⟩:=nm (lb.all BW);obtain ⟨qp,T⟩:=nm (ps.all fun x=>nmS x.data.toList);obtain ⟨qb,am⟩:=nm (body.all (sfK ke kc));obtain ⟨qr,ak⟩:=nm (efK ke r);obtain ⟨qo,al⟩:=nm (BX r);obtain ⟨R,S⟩:=nm lb.length;obtain ⟨Q,U⟩:=nm ps.length;obtain ⟨nB,V⟩:=nm body.length;have ao:(lb≠[])=(R≠0):=by rw [S];simp
 have bj:R=0->ql=true:=fun h=>by rw [ab,List.length_eq_zero_iff.1 (S.symm.trans h)];rfl
 simp only [<-aj,<-ab,<-T,<-am,<-ak,<-al,<-U,<-V,ao] at K;have HF:Hx (P=(qx && qy && (!false && decide (R=0)) && (qp && qb && qr))):=by
  show _=_;rw [K,ai];by_cases h0:R=0
  ·simp [h0,nfS]
  ·simp [h0,nfS]
 have a1:Hx (∀ X,Ov w X->Ro 76 #[A J 7,A J 1,A J 7] X (zc true)):=fun X _=>by simpa using AB 7 1 7 X
 have a0:Hx (∀ X,Ov w X->Ro 76 #[A J 7,A J 4,A J 6] X (zc false)):=fun X _=>by simpa using AB 7 4 6 X
 have KX:Hx (∀ X,Ov w X->Ro 77 #[.string x] X (zc qx)):=fun X _=>by rw [aj];exact AG x X hx
 have ac:=Aa ai;have KO:Hx (∀ X,Ov w X->Ro 78 #[ze #[A J e0,A J e1,A J e2,.string e3,O q q1 q2]] X (zc qo)):=fun X hX=>by rw [al];exact Bw ke _ r X (hR.over hX)
 have KR:Hx (∀ X,Ov w X->Ro 79 #[ze #[A J e0,A J e1,A J e2,.string e3,O q q1 q2]] X (zc qr)):=fun X hX=>by rw [ak];exact Bk ke _ r X (hR.over hX)
 have aq:Hx (∀ X,Ov w X->Ro 39 #[O aB body.length cB] X (zc qb)):=fun X hX=>by rw [am];exact A5 ke kc body aB cB X (Ao hX hB)
 rw [<-V] at aq;have bn:=hL.max;have bm:=hP.max;have a5:=hB.max;rw [<-S] at bn;rw [<-U] at bm;rw [<-V] at a5;have cd:=Aa hL;have bl:=Aa hP;have cb:=Aa ab;have a3:=Aa T;have cc:=Aa S;have a4:=Aa U;rw [<-S,<-U,<-V];clear K aj ai ab T am ak al ao bj hL hP hB hR S U V hx hy;go_enter Tryz.func38,Tryz.ntmps38;go_wp2_with fail;refine (a1.o _ (bA w (zd #[A J 7,A J a,.string x,.string y,zc false,O aL R cL,O aP Q cP,O aB nB cB,A J e0,A J e1,A J e2,.string e3,O q q1 q2] 51))).mono ?_;rintro e w1 ⟨rfl,I⟩;have a9:Hx (Ov w w1):=Ab (bA w (zd #[A J 7,A J a,.string x,.string y,zc false,O aL R cL,O aP Q cP,O aB nB cB,A J e0,A J e1,A J e2,.string e3,O q q1 q2] 51)) I;have Z:Hx (Ac [A J 7,A J a,.string x,.string y,zc false,O aL R cL,O aP Q cP,O aB nB cB,A J e0,A J e1,A J e2,.string e3,O q q1 q2] w1 w.heap.size):=Ac.over (Ai w [A J 7,A J a,.string x,.string y,zc false,O aL R cL,O aP Q cP,O aB nB cB,A J e0,A J e1,A J e2,.string e3,O q q1 q2] 51) I;clear I  a1;obtain ⟨G,F,E,C,B,v,u,t,n,l,g,f,c⟩:=Ah Z.o;go_wp2_with fail;refine (KX.o _ (a9.o)).mono ?_;rintro e w2 ⟨rfl,I⟩;have af:Hx (Ov w w2):=Ab (a9.o) I;have M:Hx (Ac [A J 7,A J a,.string x,.string y,zc false,O aL R cL,O aP Q cP,O aB nB cB,A J e0,A J e1,A J e2,.string e3,O q q1 q2] w2 w.heap.size):=Z.o.over I;clear I G F E C B v u t n l g f c KX
 cases qx with
 | true=>
  by_cases hy0:y.data.toList=[]
  ·obtain rfl:=Aj hy0
   have ah:qy=true:=by rw [ac.o];rfl
   subst ah;clear hy0 ac;obtain ⟨G,F,E,C,B,v,u,t,n,l,g,f,c⟩:=Ah M.o;go_wp2_with fail;refine (a0.o _ (af.o)).mono ?_;rintro e w3 ⟨rfl,I⟩;have ae:Hx (Ov w w3):=Ab (af.o) I;have H:Hx (Ac [A J 7,A J a,.string x,.string ⟨#[]⟩,zc false,O aL R cL,O aP Q cP,O aB nB cB,A J e0,A J e1,A J e2,.string e3,O q q1 q2] w3 w.heap.size):=M.o.over I;clear I G F E C B v u t n l g f c a0;by_cases h0:R=0
   ·subst h0
    obtain ⟨G,F,E,C,B,v,u,t,n,l,g,f,c⟩:=Ah H.o;go_wp2_with fail;clear G F E C B v u t n l g f c;go_loopw [3] (fun i wr=>i=A J 0/\w3=wr) (fun _ _=>0)
    case atStart=>exact ⟨rfl,rfl⟩
    case round=>
     obtain ⟨rfl,rfl⟩:=hrel;obtain ⟨G,F,E,C,B,v,u,t,n,l,g,f,c⟩:=Ah H.o;go_wp2_with fail;clear G F E C B v u t n l g f c;go_loopw [5] (fun i wr=>∃ (j:Nat),j<=Q/\i=A J j/\(ps.drop j).all (fun x=>nmS x.data.toList)=qp/\Ov w3 wr) (fun i _=>Q - (intOf i).toNat)
     case atStart=>exact ⟨0,Nat.zero_le _,rfl,a3.o.symm,Below.refl _ _⟩
     case round=>
      obtain ⟨j,hj,rfl,N,hB⟩:=hrel;obtain ⟨n0,n1,n2,n3,n4,n5,n6,n7,n8,n9,ay,ax,aw⟩:=Ah (H.o.over hB);by_cases hjl:j < Q
      ·have W:j < ps.length:=by have:=a4.o;omega
       have bk:(j:Int) < (Q:Int):=by omega
       obtain ⟨b,bh,rfl,cs,bi,ap,hr⟩:=bl.o.at W;rw [List.drop_eq_getElem_cons W,List.all_cons] at N;generalize ps[j]=dj at N hr;obtain ⟨q9,an⟩:=nm (nmS dj.data.toList);rw [<-an] at N;have KC:Hx (∀ X,Ov wr X->Ro 77 #[.string dj] X (zc q9)):=fun X _=>by rw [an];exact AG dj X hr.2
       rw [hr.1] at ap;have z0:wr.cell? ⟨b,bh+j,none⟩=some (.string dj):=ce1 (Ab ae.o hB) (by have:=ap 0 _ rfl;simpa using this);have HP:=Aa N;have HB:=Aa hB;clear N hB ap bi hr an W;go_wp2_with fail;refine (KC.o _ (Below.refl _ _)).mono ?_;rintro e W9 ⟨rfl,I⟩;have a8:=Aa (Ab HB.o I);clear I KC z0 n0 n1 n2 n3 n4 n5 n6 n7 n8 n9 ay ax aw
       cases q9 with
       | true=>
        have N:=HP.o;rw [Bool.true_and] at N;replace HP:=Aa N;clear N;go_wp2_with fail;exact ⟨⟨j+1,by omega,by go_num,HP.o,a8.o⟩,by simp [intOf];omega⟩
       | false=>
        have N:=HP.o;rw [Bool.false_and] at N;subst N;have Y:Hx (P=false):=by have h:=HF.o;simp at h;exact h
        go_wp2_with fail;go_ret;exact ⟨by rw [Y.o];rfl,Ab ae.o a8.o⟩
      ·have hd:ps.drop j=[]:=List.drop_eq_nil_of_le (by have:=a4.o;omega)
       have bk:¬ (j:Int) < (Q:Int):=by omega
       rw [hd] at N;have T:true=qp:=by rw [<-N];rfl
       subst T;have a6:=Aa (Ab ae.o hB);have a2:=Aa (H.o.over hB);clear N hd hB n0 n1 n2 n3 n4 n5 n6 n7 n8 n9 ay ax aw a3;obtain ⟨G,F,E,C,B,v,u,t,n,l,g,f,c⟩:=Ah a2.o;go_wp2_with fail;refine (aq.o _ (a6.o)).mono ?_;rintro e av ⟨rfl,I⟩;have aa:Hx (Ov w av):=Ab (a6.o) I;have L:Hx (Ac [A J 7,A J a,.string x,.string ⟨#[]⟩,zc false,O aL 0 cL,O aP Q cP,O aB nB cB,A J e0,A J e1,A J e2,.string e3,O q q1 q2] av w.heap.size):=a2.o.over I;clear I G F E C B v u t n l g f c aq
       cases qb with
       | true=>
        obtain ⟨G,F,E,C,B,v,u,t,n,l,g,f,c⟩:=Ah L.o;go_wp2_with fail;refine (KR.o _ (aa.o)).mono ?_;rintro e au ⟨rfl,I⟩;have a7:Hx (Ov w au):=Ab (aa.o) I;have ad:Hx (Ac [A J 7,A J a,.string x,.string ⟨#[]⟩,zc false,O aL 0 cL,O aP Q cP,O aB nB cB,A J e0,A J e1,A J e2,.string e3,O q q1 q2] au w.heap.size):=L.o.over I;clear I G F E C B v u t n l g f c KR;have Y:Hx (P=qr):=by have h:=HF.o;simp at h;exact h
        obtain ⟨G,F,E,C,B,v,u,t,n,l,g,f,c⟩:=Ah ad.o;go_wp2_with fail;go_ret;exact ⟨by rw [Y.o];(first | rfl | (simp;done) | (simp;assumption) | (simp;omega)),a7.o⟩
       | false=>
        have Y:Hx (P=false):=by have h:=HF.o;simp at h;exact h
        obtain ⟨G,F,E,C,B,v,u,t,n,l,g,f,c⟩:=Ah L.o;go_wp2_with fail;go_ret;exact ⟨by rw [Y.o];(first | rfl | (simp;done) | (simp;assumption) | (simp;omega)),aa.o⟩
   ·have hi:(0:Int) < (R:Int):=by omega
    have ca:0 < R:=by omega
    have Y:Hx (P=false):=by have h:=HF.o;simp [h0] at h;exact h
    obtain ⟨G,F,E,C,B,v,u,t,n,l,g,f,c⟩:=Ah H.o;go_wp2_with fail;go_ret;exact ⟨by rw [Y.o];(first | rfl | (simp;done) | (simp;assumption) | (simp;omega)),ae.o⟩
  ·have ao:=Aq hy0
   have ah:qy=false:=by rw [ac.o];simpa using hy0
   subst ah;clear hy0 ac;have Y:Hx (P=false):=by have h:=HF.o;simp at h;exact h
   obtain ⟨G,F,E,C,B,v,u,t,n,l,g,f,c⟩:=Ah M.o;go_wp2_with fail;go_ret;exact ⟨by rw [Y.o];(first | rfl | (simp;done) | (simp;assumption) | (simp;omega)),af.o⟩
 | false=>
  have Y:Hx (P=false):=by have h:=HF.o;simp at h;exact h
  obtain ⟨G,F,E,C,B,v,u,t,n,l,g,f,c⟩:=Ah M.o;go_wp2_with fail;go_ret;exact ⟨by rw [Y.o];(first | rfl | (simp;done) | (simp;assumption) | (simp;omega)),af.o⟩
end Go.Proofs.YtipngnjffjajpaaGreatDoor.Tx
