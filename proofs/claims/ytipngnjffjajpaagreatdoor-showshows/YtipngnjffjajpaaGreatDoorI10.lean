/- The document's answer: declarations. -/
import Derived.Test.YtipngnjffjajpaaGreatDoorI08
set_option linter.unusedVariables false
set_option maxHeartbeats 8000000
set_option maxRecDepth 100000
namespace Go.Proofs.YtipngnjffjajpaaGreatDoor.Tx
open Go.RowKit
open Go.Value renaming int -> A, slice -> O, bool -> zc, agg -> ze, pointer -> zf, tuple -> zh
open Go.IntKind renaming i64 -> J
open Go.Obj renaming cells -> zd
open Go.Ending renaming returned -> zg
theorem K6 (ke kc:Nat) (a:Int) (x y:ByteArray) (aL:Option Addr) (cL:Nat) (lb:List D) (aP:Option Addr) (cP:Nat) (ps:List ByteArray) (aB:Option Addr) (cB:Nat) (body:List D) (e0 e1 e2:Int) (e3:ByteArray) (q:Option Addr) (q1 q2:Nat) (r:D) (w:World) (hx:x.size<=maxLen) (hy:y.size<=maxLen) (hL:LS 4 (ZP w) w (O aL lb.length cL) lb) (hP:LS 1 ZN w (O aP ps.length cP) ps) (hB:LS 12 (ZC w ke kc) w (O aB body.length cB) body) (hR:ZE w ke [A J e0,A J e1,A J e2,.string e3,O q q1 q2] r) :
  Ro 38 #[ze #[A J 4,A J a,.string x,.string y,zc true,O aL lb.length cL,O aP ps.length cP,O aB body.length cB,A J e0,A J e1,A J e2,.string e3,O q q1 q2]] w (zc (dfK ke kc (deD 4 a x y true lb ps body r))):=by
 obtain ⟨P,K⟩:=nm (dfK ke kc (deD 4 a x y true lb ps body r));rw [<-K];unfold dfK CJ CK at K;simp only [gDd,BH nmS,BG,List.length_map] at K;obtain ⟨qx,ar⟩:=nm (nmS x.data.toList);obtain ⟨qy,aq⟩:=nm (y.data.toList.isEmpty);obtain ⟨ql,R⟩:=nm (lb.all BW);obtain ⟨qp,av⟩:=nm (ps.all fun x=>nmS x.data.toList);obtain ⟨qb,ax⟩:=nm (body.all (sfK ke kc));obtain ⟨qr,au⟩:=nm (efK ke r);obtain ⟨qo,aw⟩:=nm (BX r);obtain ⟨Q,S⟩:=nm lb.length;obtain ⟨nP,W⟩:=nm ps.length;obtain ⟨nB,Y⟩:=nm body.length;have a0:(lb≠[])=(Q≠0):=by rw [S];simp
 have b6:Q=0->ql=true:=fun h=>by rw [R,List.length_eq_zero_iff.1 (S.symm.trans h)];rfl
 simp only [<-ar,<-R,<-av,<-ax,<-au,<-aw,<-W,<-Y,a0] at K;have HF:Hx (P=(qx && qy && (true && ql) && (decide (nP=0) && decide (nB=0) && qo))):=by
  show _=_;rw [K,aq];by_cases h0:Q=0
  ·simp [nfS]
  ·simp [nfS]
 have bf:Hx (∀ X,Ov w X->Ro 76 #[A J 4,A J 1,A J 7] X (zc true)):=fun X _=>by simpa using AB 4 1 7 X
 have be:Hx (∀ X,Ov w X->Ro 76 #[A J 4,A J 4,A J 6] X (zc true)):=fun X _=>by simpa using AB 4 4 6 X
 have KX:Hx (∀ X,Ov w X->Ro 77 #[.string x] X (zc qx)):=fun X _=>by rw [ar];exact AG x X hx
 have ai:=Aa aq;have KO:Hx (∀ X,Ov w X->Ro 78 #[ze #[A J e0,A J e1,A J e2,.string e3,O q q1 q2]] X (zc qo)):=fun X hX=>by rw [aw];exact Bw ke _ r X (hR.over hX)
 have KR:Hx (∀ X,Ov w X->Ro 79 #[ze #[A J e0,A J e1,A J e2,.string e3,O q q1 q2]] X (zc qr)):=fun X hX=>by rw [au];exact Bk ke _ r X (hR.over hX)
 have cb:Hx (∀ X,Ov w X->Ro 39 #[O aB body.length cB] X (zc qb)):=fun X hX=>by rw [ax];exact A5 ke kc body aB cB X (Ao hX hB)
 rw [<-Y] at cb;have ch:=hL.max;have cf:=hP.max;have bj:=hB.max;rw [<-S] at ch;rw [<-W] at cf;rw [<-Y] at bj;have ci:=Aa hL;have dr:=Aa hP;have bh:=Aa R;have dq:=Aa av;have bi:=Aa S;have ds:=Aa W;rw [<-S,<-W,<-Y];clear K ar aq R av ax au aw a0 b6 hL hP hB hR S W Y hx hy;go_enter Tryz.func38,Tryz.ntmps38;go_wp2_with fail;refine (bf.o _ (bA w (zd #[A J 4,A J a,.string x,.string y,zc true,O aL Q cL,O aP nP cP,O aB nB cB,A J e0,A J e1,A J e2,.string e3,O q q1 q2] 51))).mono ?_;rintro e w1 ⟨rfl,I⟩;have bn:Hx (Ov w w1):=Ab (bA w (zd #[A J 4,A J a,.string x,.string y,zc true,O aL Q cL,O aP nP cP,O aB nB cB,A J e0,A J e1,A J e2,.string e3,O q q1 q2] 51)) I;have ab:Hx (Ac [A J 4,A J a,.string x,.string y,zc true,O aL Q cL,O aP nP cP,O aB nB cB,A J e0,A J e1,A J e2,.string e3,O q q1 q2] w1 w.heap.size):=Ac.over (Ai w [A J 4,A J a,.string x,.string y,zc true,O aL Q cL,O aP nP cP,O aB nB cB,A J e0,A J e1,A J e2,.string e3,O q q1 q2] 51) I;clear I  bf;obtain ⟨G,F,E,C,B,v,u,t,n,l,g,f,c⟩:=Ah ab.o;go_wp2_with fail;refine (KX.o _ (bn.o)).mono ?_;rintro e w2 ⟨rfl,I⟩;have ao:Hx (Ov w w2):=Ab (bn.o) I;have M:Hx (Ac [A J 4,A J a,.string x,.string y,zc true,O aL Q cL,O aP nP cP,O aB nB cB,A J e0,A J e1,A J e2,.string e3,O q q1 q2] w2 w.heap.size):=ab.o.over I;clear I G F E C B v u t n l g f c KX
 cases qx with
 | true=>
  by_cases hy0:y.data.toList=[]
  ·obtain rfl:=Aj hy0
   have ap:qy=true:=by rw [ai.o];rfl
   subst ap;clear hy0 ai;obtain ⟨G,F,E,C,B,v,u,t,n,l,g,f,c⟩:=Ah M.o;go_wp2_with fail;refine (be.o _ (ao.o)).mono ?_;rintro e w3 ⟨rfl,I⟩;have an:Hx (Ov w w3):=Ab (ao.o) I;have L:Hx (Ac [A J 4,A J a,.string x,.string ⟨#[]⟩,zc true,O aL Q cL,O aP nP cP,O aB nB cB,A J e0,A J e1,A J e2,.string e3,O q q1 q2] w3 w.heap.size):=M.o.over I;clear I G F E C B v u t n l g f c be;obtain ⟨G,F,E,C,B,v,u,t,n,l,g,f,c⟩:=Ah L.o;go_wp2_with fail;clear G F E C B v u t n l g f c;go_loopw [3] (fun i wr=>∃ (j:Nat),j<=Q/\i=A J j/\(lb.drop j).all BW=ql/\Ov w3 wr) (fun i _=>Q - (intOf i).toNat)
   case atStart=>exact ⟨0,Nat.zero_le _,rfl,bh.o.symm,Below.refl _ _⟩
   case round=>
    obtain ⟨j,hj,rfl,H,hB⟩:=hrel;by_cases hjl:j < Q
    ·have Z:j < lb.length:=by have:=bi.o;omega
     have b7:(j:Int) < (Q:Int):=by omega
     obtain ⟨b,c7,rfl,cs,b4,af,hr⟩:=ci.o.at Z;rw [List.drop_eq_getElem_cons Z,List.all_cons] at H;generalize lb[j]=dj at H hr;obtain ⟨pa,po,pw,pn,pc,ns,rfl,rfl,ho,hN⟩:=hr;unfold BW at H;simp only [gPp,BH nmS] at H;obtain ⟨q8,ay⟩:=nm (nmS po.data.toList);obtain ⟨q9,V⟩:=nm (ns.all fun x=>nmS x.data.toList);rw [<-ay,<-V] at H;have bb:(q8 && q9 && (lb.drop (j+1)).all BW)=ql:=H;have ah:=Ab an.o hB;have KC:Hx (∀ X,Ov wr X->Ro 77 #[.string po] X (zc q8)):=fun X _=>by rw [ay];exact AG po X ho
     have ce:=Aa (BB ah hN);have cd:=Aa V;obtain ⟨nN,a1⟩:=nm ns.length;have cg:=hN.max;rw [<-a1] at cg af;have bg:=Aa a1;have z1:=ce1 ah (af 1 _ rfl);have z3:=ce1 ah (af 3 _ rfl);have cc:=Aa z3;obtain ⟨n0,n1,n2,n3,n4,n5,n6,n7,n8,n9,b3,b2,b1⟩:=Ah (L.o.over hB);have HP:=Aa bb;have HB:=Aa hB;clear H bb hB ah af b4 ay V Z ho hN a1;go_wp2_with fail;refine (KC.o _ (Below.refl _ _)).mono ?_;rintro e W6 ⟨rfl,I⟩;have a6:=Aa (Ab HB.o I);have bk:=Aa I;clear I KC z1 z3 n0 n1 n2 n3 n4 n5 n6 n7 n8 n9 b3 b2 b1
     cases q8 with
     | false=>
      have H:=HP.o;simp at H;subst H;have U:Hx (P=false):=by have h:=HF.o;simp at h;exact h
      go_wp2_with fail;go_ret;exact ⟨by rw [U.o];rfl,Ab an.o a6.o⟩
     | true=>
      have H:=HP.o;rw [Bool.true_and] at H;replace HP:=Aa H;clear H;go_wp2_with fail;go_loopw [4] (fun i ws=>∃ (i2:Nat),i2<=nN/\i=A J i2/\(ns.drop i2).all (fun x=>nmS x.data.toList)=q9/\Ov W6 ws) (fun i _=>nN - (intOf i).toNat)
      case atStart=>exact ⟨0,Nat.zero_le _,rfl,cd.o.symm,Below.refl _ _⟩
      case round=>
       obtain ⟨i,dl,rfl,N,T⟩:=hrel;have ag:=Ab a6.o T;obtain ⟨p0,p1,p2,p3,p4,p5,p6,p7,p8,p9,b0,bz,bw⟩:=Ah (L.o.over ag);have z3:=ce1 (Ab bk.o T) cc.o;by_cases hil:i < nN
       ·have aa:i < ns.length:=by have:=bg.o;omega
        have b8:(i:Int) < (nN:Int):=by omega
        obtain ⟨ba,oa,rfl,ca,b5,a2,ae⟩:=ce.o.at aa;rw [List.drop_eq_getElem_cons aa,List.all_cons] at N;generalize ns[i]=da at N ae;obtain ⟨q7,az⟩:=nm (nmS da.data.toList);rw [<-az] at N;have KQ:Hx (∀ X,Ov wr X->Ro 77 #[.string da] X (zc q7)):=fun X _=>by rw [az];exact AG da X ae.2
        rw [ae.1] at a2;have y0:wr.cell? ⟨ba,oa+i,none⟩=some (.string da):=ce1 (Ab bk.o T) (by have:=a2 0 _ rfl;simpa using this);have al:=Aa N;have a5:=Aa T;clear N T ag a2 b5 ae az aa;go_wp2_with fail;refine (KQ.o _ (Below.refl _ _)).mono ?_;rintro e W7 ⟨rfl,I⟩;have bm:=Aa (Ab a5.o I);clear I KQ y0 z3 p0 p1 p2 p3 p4 p5 p6 p7 p8 p9 b0 bz bw
        cases q7 with
        | true=>
         have H:=al.o;rw [Bool.true_and] at H;replace al:=Aa H;clear H;go_wp2_with fail;exact ⟨⟨i+1,by omega,by go_num,al.o,bm.o⟩,by simp [intOf];omega⟩
        | false=>
         have H:=al.o;rw [Bool.false_and] at H;subst H;have H:=HP.o;rw [Bool.false_and] at H;subst H;have U:Hx (P=false):=by have h:=HF.o;simp at h;exact h
         go_wp2_with fail;go_ret;exact ⟨by rw [U.o];rfl,Ab an.o (Ab a6.o bm.o)⟩
       ·have hd:ns.drop i=[]:=List.drop_eq_nil_of_le (by have:=bg.o;omega)
        have b8:¬ (i:Int) < (nN:Int):=by omega
        rw [hd] at N;have V:true=q9:=by rw [<-N];rfl
        subst V;have H:=HP.o;rw [Bool.true_and] at H;replace HP:=Aa H;have a5:=Aa ag;clear H hd N T ag;go_wp2_with fail;exact ⟨⟨j+1,by omega,by go_num,HP.o,a5.o⟩,by simp [intOf];omega⟩
    ·have hd:lb.drop j=[]:=List.drop_eq_nil_of_le (by have:=bi.o;omega)
     have b7:¬ (j:Int) < (Q:Int):=by omega
     rw [hd] at H;have R:true=ql:=by rw [<-H];rfl
     subst R;have am:=Aa (Ab an.o hB);have aj:=Aa (L.o.over hB);clear H hd hB bh;by_cases h1:nP=0
     ·subst h1
      by_cases h2:nB=0
      ·subst h2
       obtain ⟨G,F,E,C,B,v,u,t,n,l,g,f,c⟩:=Ah aj.o;go_wp2_with fail;refine (KO.o _ (am.o)).mono ?_;rintro e a8 ⟨rfl,I⟩;have bl:Hx (Ov w a8):=Ab (am.o) I;have ak:Hx (Ac [A J 4,A J a,.string x,.string ⟨#[]⟩,zc true,O aL Q cL,O aP 0 cP,O aB 0 cB,A J e0,A J e1,A J e2,.string e3,O q q1 q2] a8 w.heap.size):=aj.o.over I;clear I G F E C B v u t n l g f c KO;have U:Hx (P=qo):=by have h:=HF.o;simp at h;exact h
       obtain ⟨G,F,E,C,B,v,u,t,n,l,g,f,c⟩:=Ah ak.o;go_wp2_with fail;go_ret;exact ⟨by rw [U.o];(first | rfl | (simp;done) | (simp;assumption) | (simp;omega)),bl.o⟩
      ·have hi:¬ (nB:Int)=0:=by omega
       have U:Hx (P=false):=by have h:=HF.o;simp [h2] at h;exact h
       obtain ⟨G,F,E,C,B,v,u,t,n,l,g,f,c⟩:=Ah aj.o;go_wp2_with fail;go_ret;exact ⟨by rw [U.o];(first | rfl | (simp;done) | (simp;assumption) | (simp;omega)),am.o⟩
     ·have hi:¬ (nP:Int)=0:=by omega
      have U:Hx (P=false):=by have h:=HF.o;simp [h1] at h;exact h
      obtain ⟨G,F,E,C,B,v,u,t,n,l,g,f,c⟩:=Ah aj.o;go_wp2_with fail;go_ret;exact ⟨by rw [U.o];(first | rfl | (simp;done) | (simp;assumption) | (simp;omega)),am.o⟩
  ·have a0:=Aq hy0
   have ap:qy=false:=by rw [ai.o];simpa using hy0
   subst ap;clear hy0 ai;have U:Hx (P=false):=by have h:=HF.o;simp at h;exact h
   obtain ⟨G,F,E,C,B,v,u,t,n,l,g,f,c⟩:=Ah M.o;go_wp2_with fail;go_ret;exact ⟨by rw [U.o];(first | rfl | (simp;done) | (simp;assumption) | (simp;omega)),ao.o⟩
 | false=>
  have U:Hx (P=false):=by have h:=HF.o;simp at h;exact h
  obtain ⟨G,F,E,C,B,v,u,t,n,l,g,f,c⟩:=Ah M.o;go_wp2_with fail;go_ret;exact ⟨by rw [U.o];(first | rfl | (simp;done) | (simp;assumption) | (simp;omega)),ao.o⟩
theorem K7 (ke kc:Nat) (a:Int) (x y:ByteArray) (aL:Option Addr) (cL:Nat) (lb:List D) (aP:Option Addr) (cP:Nat) (ps:List ByteArray) (aB:Option Addr) (cB:Nat) (body:List D) (e0 e1 e2:Int) (e3:ByteArray) (q:Option Addr) (q1 q2:Nat) (r:D) (w:World) (hx:x.size<=maxLen) (hy:y.size<=maxLen) (hL:LS 4 (ZP w) w (O aL lb.length cL) lb) (hP:LS 1 ZN w (O aP ps.length cP) ps) (hB:LS 12 (ZC w ke kc) w (O aB body.length cB) body) (hR:ZE w ke [A J e0,A J e1,A J e2,.string e3,O q q1 q2] r) :
  Ro 38 #[ze #[A J 4,A J a,.string x,.string y,zc false,O aL lb.length cL,O aP ps.length cP,O aB body.length cB,A J e0,A J e1,A J e2,.string e3,O q q1 q2]] w (zc (dfK ke kc (deD 4 a x y false lb ps body r))):=by
 obtain ⟨M,b⟩:=nm (dfK ke kc (deD 4 a x y false lb ps body r));rw [<-b];unfold dfK CJ CK at b;simp only [gDd,BH nmS,BG,List.length_map] at b;obtain ⟨qx,S⟩:=nm (nmS x.data.toList);obtain ⟨qy,R⟩:=nm (y.data.toList.isEmpty);obtain ⟨ql,L⟩:=nm (lb.all BW);obtain ⟨qp,U⟩:=nm (ps.all fun x=>nmS x.data.toList);obtain ⟨qb,W⟩:=nm (body.all (sfK ke kc));obtain ⟨qr,T⟩:=nm (efK ke r);obtain ⟨qo,V⟩:=nm (BX r);obtain ⟨P,G⟩:=nm lb.length;obtain ⟨nP,H⟩:=nm ps.length;obtain ⟨nB,I⟩:=nm body.length;have Y:(lb≠[])=(P≠0):=by rw [G];simp
 have ak:P=0->ql=true:=fun h=>by rw [L,List.length_eq_zero_iff.1 (G.symm.trans h)];rfl
 simp only [<-S,<-L,<-U,<-W,<-T,<-V,<-H,<-I,Y] at b;have HF:Hx (M=(qx && qy && false && (decide (nP=0) && decide (nB=0) && qo))):=by
  show _=_;rw [b,R];by_cases h0:P=0
  ·simp [nfS]
  ·simp [nfS]
 have ae:Hx (∀ X,Ov w X->Ro 76 #[A J 4,A J 1,A J 7] X (zc true)):=fun X _=>by simpa using AB 4 1 7 X
 have ay:Hx (∀ X,Ov w X->Ro 76 #[A J 4,A J 4,A J 6] X (zc true)):=fun X _=>by simpa using AB 4 4 6 X
 have KX:Hx (∀ X,Ov w X->Ro 77 #[.string x] X (zc qx)):=fun X _=>by rw [S];exact AG x X hx
 have N:=Aa R;have KO:Hx (∀ X,Ov w X->Ro 78 #[ze #[A J e0,A J e1,A J e2,.string e3,O q q1 q2]] X (zc qo)):=fun X hX=>by rw [V];exact Bw ke _ r X (hR.over hX)
 have KR:Hx (∀ X,Ov w X->Ro 79 #[ze #[A J e0,A J e1,A J e2,.string e3,O q q1 q2]] X (zc qr)):=fun X hX=>by rw [T];exact Bk ke _ r X (hR.over hX)
 have al:Hx (∀ X,Ov w X->Ro 39 #[O aB body.length cB] X (zc qb)):=fun X hX=>by rw [W];exact A5 ke kc body aB cB X (Ao hX hB)
 rw [<-I] at al;have an:=hL.max;have am:=hP.max;have ag:=hB.max;rw [<-G] at an;rw [<-H] at am;rw [<-I] at ag;have a4:=Aa hL;have a1:=Aa hP;have a0:=Aa L;have az:=Aa U;have a3:=Aa G;have a2:=Aa H;rw [<-G,<-H,<-I];clear b S R L U W T V Y ak hL hP hB hR G H I hx hy;go_enter Tryz.func38,Tryz.ntmps38;go_wp2_with fail;refine (ae.o _ (bA w (zd #[A J 4,A J a,.string x,.string y,zc false,O aL P cL,O aP nP cP,O aB nB cB,A J e0,A J e1,A J e2,.string e3,O q q1 q2] 51))).mono ?_;rintro e w1 ⟨rfl,Z⟩;have ah:Hx (Ov w w1):=Ab (bA w (zd #[A J 4,A J a,.string x,.string y,zc false,O aL P cL,O aP nP cP,O aB nB cB,A J e0,A J e1,A J e2,.string e3,O q q1 q2] 51)) Z;have K:Hx (Ac [A J 4,A J a,.string x,.string y,zc false,O aL P cL,O aP nP cP,O aB nB cB,A J e0,A J e1,A J e2,.string e3,O q q1 q2] w1 w.heap.size):=Ac.over (Ai w [A J 4,A J a,.string x,.string y,zc false,O aL P cL,O aP nP cP,O aB nB cB,A J e0,A J e1,A J e2,.string e3,O q q1 q2] 51) Z;clear Z  ae;obtain ⟨F,E,C,B,v,u,t,n,l,j,g,f,c⟩:=Ah K.o;go_wp2_with fail;refine (KX.o _ (ah.o)).mono ?_;rintro e w2 ⟨rfl,Z⟩;have aa:Hx (Ov w w2):=Ab (ah.o) Z;have i:Hx (Ac [A J 4,A J a,.string x,.string y,zc false,O aL P cL,O aP nP cP,O aB nB cB,A J e0,A J e1,A J e2,.string e3,O q q1 q2] w2 w.heap.size):=K.o.over Z;clear Z F E C B v u t n l j g f c KX
 cases qx with
 | true=>
  by_cases hy0:y.data.toList=[]
  ·obtain rfl:=Aj hy0
   have Q:qy=true:=by rw [N.o];rfl
   subst Q;clear hy0 N;have HV:Hx (M=false):=by have h:=HF.o;simp at h;exact h
   obtain ⟨F,E,C,B,v,u,t,n,l,j,g,f,c⟩:=Ah i.o;go_wp2_with fail;go_ret;exact ⟨by rw [HV.o];(first | rfl | (simp;done) | (simp;assumption) | (simp;omega)),aa.o⟩
  ·have Y:=Aq hy0
   have Q:qy=false:=by rw [N.o];simpa using hy0
   subst Q;clear hy0 N;have HV:Hx (M=false):=by have h:=HF.o;simp at h;exact h
   obtain ⟨F,E,C,B,v,u,t,n,l,j,g,f,c⟩:=Ah i.o;go_wp2_with fail;go_ret;exact ⟨by rw [HV.o];(first | rfl | (simp;done) | (simp;assumption) | (simp;omega)),aa.o⟩
 | false=>
  have HV:Hx (M=false):=by have h:=HF.o;simp at h;exact h
  obtain ⟨F,E,C,B,v,u,t,n,l,j,g,f,c⟩:=Ah i.o;go_wp2_with fail;go_ret;exact ⟨by rw [HV.o];(first | rfl | (simp;done) | (simp;assumption) | (simp;omega)),aa.o⟩
theorem K4 (ke kc:Nat) (a:Int) (x y:ByteArray) (aL:Option Addr) (cL:Nat) (lb:List D) (aP:Option Addr) (cP:Nat) (ps:List ByteArray) (aB:Option Addr) (cB:Nat) (body:List D) (e0 e1 e2:Int) (e3:ByteArray) (q:Option Addr) (q1 q2:Nat) (r:D) (w:World) (hx:x.size<=maxLen) (hy:y.size<=maxLen) (hL:LS 4 (ZP w) w (O aL lb.length cL) lb) (hP:LS 1 ZN w (O aP ps.length cP) ps) (hB:LS 12 (ZC w ke kc) w (O aB body.length cB) body) (hR:ZE w ke [A J e0,A J e1,A J e2,.string e3,O q q1 q2] r) :
  Ro 38 #[ze #[A J 5,A J a,.string x,.string y,zc true,O aL lb.length cL,O aP ps.length cP,O aB body.length cB,A J e0,A J e1,A J e2,.string e3,O q q1 q2]] w (zc (dfK ke kc (deD 5 a x y true lb ps body r))):=by
 obtain ⟨P,K⟩:=nm (dfK ke kc (deD 5 a x y true lb ps body r));rw [<-K];unfold dfK CJ CK at K;simp only [gDd,BH nmS,BG,List.length_map] at K;obtain ⟨qx,ar⟩:=nm (nmS x.data.toList);obtain ⟨qy,aq⟩:=nm (y.data.toList.isEmpty);obtain ⟨ql,R⟩:=nm (lb.all BW);obtain ⟨qp,av⟩:=nm (ps.all fun x=>nmS x.data.toList);obtain ⟨qb,ax⟩:=nm (body.all (sfK ke kc));obtain ⟨qr,au⟩:=nm (efK ke r);obtain ⟨qo,aw⟩:=nm (BX r);obtain ⟨Q,S⟩:=nm lb.length;obtain ⟨nP,W⟩:=nm ps.length;obtain ⟨nB,Y⟩:=nm body.length;have a0:(lb≠[])=(Q≠0):=by rw [S];simp
 have b6:Q=0->ql=true:=fun h=>by rw [R,List.length_eq_zero_iff.1 (S.symm.trans h)];rfl
 simp only [<-ar,<-R,<-av,<-ax,<-au,<-aw,<-W,<-Y,a0] at K;have HF:Hx (P=(qx && qy && (true && ql) && (decide (nP=0) && decide (nB=0) && qo))):=by
  show _=_;rw [K,aq];by_cases h0:Q=0
  ·simp [nfS]
  ·simp [nfS]
 have bf:Hx (∀ X,Ov w X->Ro 76 #[A J 5,A J 1,A J 7] X (zc true)):=fun X _=>by simpa using AB 5 1 7 X
 have be:Hx (∀ X,Ov w X->Ro 76 #[A J 5,A J 4,A J 6] X (zc true)):=fun X _=>by simpa using AB 5 4 6 X
 have KX:Hx (∀ X,Ov w X->Ro 77 #[.string x] X (zc qx)):=fun X _=>by rw [ar];exact AG x X hx
 have ai:=Aa aq;have KO:Hx (∀ X,Ov w X->Ro 78 #[ze #[A J e0,A J e1,A J e2,.string e3,O q q1 q2]] X (zc qo)):=fun X hX=>by rw [aw];exact Bw ke _ r X (hR.over hX)
 have KR:Hx (∀ X,Ov w X->Ro 79 #[ze #[A J e0,A J e1,A J e2,.string e3,O q q1 q2]] X (zc qr)):=fun X hX=>by rw [au];exact Bk ke _ r X (hR.over hX)
 have cb:Hx (∀ X,Ov w X->Ro 39 #[O aB body.length cB] X (zc qb)):=fun X hX=>by rw [ax];exact A5 ke kc body aB cB X (Ao hX hB)
 rw [<-Y] at cb;have ch:=hL.max;have cf:=hP.max;have bj:=hB.max;rw [<-S] at ch;rw [<-W] at cf;rw [<-Y] at bj;have ci:=Aa hL;have dr:=Aa hP;have bh:=Aa R;have dq:=Aa av;have bi:=Aa S;have ds:=Aa W;rw [<-S,<-W,<-Y];clear K ar aq R av ax au aw a0 b6 hL hP hB hR S W Y hx hy;go_enter Tryz.func38,Tryz.ntmps38;go_wp2_with fail;refine (bf.o _ (bA w (zd #[A J 5,A J a,.string x,.string y,zc true,O aL Q cL,O aP nP cP,O aB nB cB,A J e0,A J e1,A J e2,.string e3,O q q1 q2] 51))).mono ?_;rintro e w1 ⟨rfl,I⟩;have bn:Hx (Ov w w1):=Ab (bA w (zd #[A J 5,A J a,.string x,.string y,zc true,O aL Q cL,O aP nP cP,O aB nB cB,A J e0,A J e1,A J e2,.string e3,O q q1 q2] 51)) I;have ab:Hx (Ac [A J 5,A J a,.string x,.string y,zc true,O aL Q cL,O aP nP cP,O aB nB cB,A J e0,A J e1,A J e2,.string e3,O q q1 q2] w1 w.heap.size):=Ac.over (Ai w [A J 5,A J a,.string x,.string y,zc true,O aL Q cL,O aP nP cP,O aB nB cB,A J e0,A J e1,A J e2,.string e3,O q q1 q2] 51) I;clear I  bf;obtain ⟨G,F,E,C,B,v,u,t,n,l,g,f,c⟩:=Ah ab.o;go_wp2_with fail;refine (KX.o _ (bn.o)).mono ?_;rintro e w2 ⟨rfl,I⟩;have ao:Hx (Ov w w2):=Ab (bn.o) I;have M:Hx (Ac [A J 5,A J a,.string x,.string y,zc true,O aL Q cL,O aP nP cP,O aB nB cB,A J e0,A J e1,A J e2,.string e3,O q q1 q2] w2 w.heap.size):=ab.o.over I;clear I G F E C B v u t n l g f c KX
 cases qx with
 | true=>
  by_cases hy0:y.data.toList=[]
  ·obtain rfl:=Aj hy0
   have ap:qy=true:=by rw [ai.o];rfl
   subst ap;clear hy0 ai;obtain ⟨G,F,E,C,B,v,u,t,n,l,g,f,c⟩:=Ah M.o;go_wp2_with fail;refine (be.o _ (ao.o)).mono ?_;rintro e w3 ⟨rfl,I⟩;have an:Hx (Ov w w3):=Ab (ao.o) I;have L:Hx (Ac [A J 5,A J a,.string x,.string ⟨#[]⟩,zc true,O aL Q cL,O aP nP cP,O aB nB cB,A J e0,A J e1,A J e2,.string e3,O q q1 q2] w3 w.heap.size):=M.o.over I;clear I G F E C B v u t n l g f c be;obtain ⟨G,F,E,C,B,v,u,t,n,l,g,f,c⟩:=Ah L.o;go_wp2_with fail;clear G F E C B v u t n l g f c;go_loopw [3] (fun i wr=>∃ (j:Nat),j<=Q/\i=A J j/\(lb.drop j).all BW=ql/\Ov w3 wr) (fun i _=>Q - (intOf i).toNat)
   case atStart=>exact ⟨0,Nat.zero_le _,rfl,bh.o.symm,Below.refl _ _⟩
   case round=>
    obtain ⟨j,hj,rfl,H,hB⟩:=hrel;by_cases hjl:j < Q
    ·have Z:j < lb.length:=by have:=bi.o;omega
     have b7:(j:Int) < (Q:Int):=by omega
     obtain ⟨b,c7,rfl,cs,b4,af,hr⟩:=ci.o.at Z;rw [List.drop_eq_getElem_cons Z,List.all_cons] at H;generalize lb[j]=dj at H hr;obtain ⟨pa,po,pw,pn,pc,ns,rfl,rfl,ho,hN⟩:=hr;unfold BW at H;simp only [gPp,BH nmS] at H;obtain ⟨q8,ay⟩:=nm (nmS po.data.toList);obtain ⟨q9,V⟩:=nm (ns.all fun x=>nmS x.data.toList);rw [<-ay,<-V] at H;have bb:(q8 && q9 && (lb.drop (j+1)).all BW)=ql:=H;have ah:=Ab an.o hB;have KC:Hx (∀ X,Ov wr X->Ro 77 #[.string po] X (zc q8)):=fun X _=>by rw [ay];exact AG po X ho
     have ce:=Aa (BB ah hN);have cd:=Aa V;obtain ⟨nN,a1⟩:=nm ns.length;have cg:=hN.max;rw [<-a1] at cg af;have bg:=Aa a1;have z1:=ce1 ah (af 1 _ rfl);have z3:=ce1 ah (af 3 _ rfl);have cc:=Aa z3;obtain ⟨n0,n1,n2,n3,n4,n5,n6,n7,n8,n9,b3,b2,b1⟩:=Ah (L.o.over hB);have HP:=Aa bb;have HB:=Aa hB;clear H bb hB ah af b4 ay V Z ho hN a1;go_wp2_with fail;refine (KC.o _ (Below.refl _ _)).mono ?_;rintro e W6 ⟨rfl,I⟩;have a6:=Aa (Ab HB.o I);have bk:=Aa I;clear I KC z1 z3 n0 n1 n2 n3 n4 n5 n6 n7 n8 n9 b3 b2 b1
     cases q8 with
     | false=>
      have H:=HP.o;simp at H;subst H;have U:Hx (P=false):=by have h:=HF.o;simp at h;exact h
      go_wp2_with fail;go_ret;exact ⟨by rw [U.o];rfl,Ab an.o a6.o⟩
     | true=>
      have H:=HP.o;rw [Bool.true_and] at H;replace HP:=Aa H;clear H;go_wp2_with fail;go_loopw [4] (fun i ws=>∃ (i2:Nat),i2<=nN/\i=A J i2/\(ns.drop i2).all (fun x=>nmS x.data.toList)=q9/\Ov W6 ws) (fun i _=>nN - (intOf i).toNat)
      case atStart=>exact ⟨0,Nat.zero_le _,rfl,cd.o.symm,Below.refl _ _⟩
      case round=>
       obtain ⟨i,dl,rfl,N,T⟩:=hrel;have ag:=Ab a6.o T;obtain ⟨p0,p1,p2,p3,p4,p5,p6,p7,p8,p9,b0,bz,bw⟩:=Ah (L.o.over ag);have z3:=ce1 (Ab bk.o T) cc.o;by_cases hil:i < nN
       ·have aa:i < ns.length:=by have:=bg.o;omega
        have b8:(i:Int) < (nN:Int):=by omega
        obtain ⟨ba,oa,rfl,ca,b5,a2,ae⟩:=ce.o.at aa;rw [List.drop_eq_getElem_cons aa,List.all_cons] at N;generalize ns[i]=da at N ae;obtain ⟨q7,az⟩:=nm (nmS da.data.toList);rw [<-az] at N;have KQ:Hx (∀ X,Ov wr X->Ro 77 #[.string da] X (zc q7)):=fun X _=>by rw [az];exact AG da X ae.2
        rw [ae.1] at a2;have y0:wr.cell? ⟨ba,oa+i,none⟩=some (.string da):=ce1 (Ab bk.o T) (by have:=a2 0 _ rfl;simpa using this);have al:=Aa N;have a5:=Aa T;clear N T ag a2 b5 ae az aa;go_wp2_with fail;refine (KQ.o _ (Below.refl _ _)).mono ?_;rintro e W7 ⟨rfl,I⟩;have bm:=Aa (Ab a5.o I);clear I KQ y0 z3 p0 p1 p2 p3 p4 p5 p6 p7 p8 p9 b0 bz bw
        cases q7 with
        | true=>
         have H:=al.o;rw [Bool.true_and] at H;replace al:=Aa H;clear H;go_wp2_with fail;exact ⟨⟨i+1,by omega,by go_num,al.o,bm.o⟩,by simp [intOf];omega⟩
        | false=>
         have H:=al.o;rw [Bool.false_and] at H;subst H;have H:=HP.o;rw [Bool.false_and] at H;subst H;have U:Hx (P=false):=by have h:=HF.o;simp at h;exact h
         go_wp2_with fail;go_ret;exact ⟨by rw [U.o];rfl,Ab an.o (Ab a6.o bm.o)⟩
       ·have hd:ns.drop i=[]:=List.drop_eq_nil_of_le (by have:=bg.o;omega)
        have b8:¬ (i:Int) < (nN:Int):=by omega
        rw [hd] at N;have V:true=q9:=by rw [<-N];rfl
        subst V;have H:=HP.o;rw [Bool.true_and] at H;replace HP:=Aa H;have a5:=Aa ag;clear H hd N T ag;go_wp2_with fail;exact ⟨⟨j+1,by omega,by go_num,HP.o,a5.o⟩,by simp [intOf];omega⟩
    ·have hd:lb.drop j=[]:=List.drop_eq_nil_of_le (by have:=bi.o;omega)
     have b7:¬ (j:Int) < (Q:Int):=by omega
     rw [hd] at H;have R:true=ql:=by rw [<-H];rfl
     subst R;have am:=Aa (Ab an.o hB);have aj:=Aa (L.o.over hB);clear H hd hB bh;by_cases h1:nP=0
     ·subst h1
      by_cases h2:nB=0
      ·subst h2
       obtain ⟨G,F,E,C,B,v,u,t,n,l,g,f,c⟩:=Ah aj.o;go_wp2_with fail;refine (KO.o _ (am.o)).mono ?_;rintro e a8 ⟨rfl,I⟩;have bl:Hx (Ov w a8):=Ab (am.o) I;have ak:Hx (Ac [A J 5,A J a,.string x,.string ⟨#[]⟩,zc true,O aL Q cL,O aP 0 cP,O aB 0 cB,A J e0,A J e1,A J e2,.string e3,O q q1 q2] a8 w.heap.size):=aj.o.over I;clear I G F E C B v u t n l g f c KO;have U:Hx (P=qo):=by have h:=HF.o;simp at h;exact h
       obtain ⟨G,F,E,C,B,v,u,t,n,l,g,f,c⟩:=Ah ak.o;go_wp2_with fail;go_ret;exact ⟨by rw [U.o];(first | rfl | (simp;done) | (simp;assumption) | (simp;omega)),bl.o⟩
      ·have hi:¬ (nB:Int)=0:=by omega
       have U:Hx (P=false):=by have h:=HF.o;simp [h2] at h;exact h
       obtain ⟨G,F,E,C,B,v,u,t,n,l,g,f,c⟩:=Ah aj.o;go_wp2_with fail;go_ret;exact ⟨by rw [U.o];(first | rfl | (simp;done) | (simp;assumption) | (simp;omega)),am.o⟩
     ·have hi:¬ (nP:Int)=0:=by omega
      have U:Hx (P=false):=by have h:=HF.o;simp [h1] at h;exact h
      obtain ⟨G,F,E,C,B,v,u,t,n,l,g,f,c⟩:=Ah aj.o;go_wp2_with fail;go_ret;exact ⟨by rw [U.o];(first | rfl | (simp;done) | (simp;assumption) | (simp;omega)),am.o⟩
  ·have a0:=Aq hy0
   have ap:qy=false:=by rw [ai.o];simpa using hy0
   subst ap;clear hy0 ai;have U:Hx (P=false):=by have h:=HF.o;simp at h;exact h
   obtain ⟨G,F,E,C,B,v,u,t,n,l,g,f,c⟩:=Ah M.o;go_wp2_with fail;go_ret;exact ⟨by rw [U.o];(first | rfl | (simp;done) | (simp;assumption) | (simp;omega)),ao.o⟩
 | false=>
  have U:Hx (P=false):=by have h:=HF.o;simp at h;exact h
  obtain ⟨G,F,E,C,B,v,u,t,n,l,g,f,c⟩:=Ah M.o;go_wp2_with fail;go_ret;exact ⟨by rw [U.o];(first | rfl | (simp;done) | (simp;assumption) | (simp;omega)),ao.o⟩
theorem K5 (ke kc:Nat) (a:Int) (x y:ByteArray) (aL:Option Addr) (cL:Nat) (lb:List D) (aP:Option Addr) (cP:Nat) (ps:List ByteArray) (aB:Option Addr) (cB:Nat) (body:List D) (e0 e1 e2:Int) (e3:ByteArray) (q:Option Addr) (q1 q2:Nat) (r:D) (w:World) (hx:x.size<=maxLen) (hy:y.size<=maxLen) (hL:LS 4 (ZP w) w (O aL lb.length cL) lb) (hP:LS 1 ZN w (O aP ps.length cP) ps) (hB:LS 12 (ZC w ke kc) w (O aB body.length cB) body) (hR:ZE w ke [A J e0,A J e1,A J e2,.string e3,O q q1 q2] r) :
  Ro 38 #[ze #[A J 5,A J a,.string x,.string y,zc false,O aL lb.length cL,O aP ps.length cP,O aB body.length cB,A J e0,A J e1,A J e2,.string e3,O q q1 q2]] w (zc (dfK ke kc (deD 5 a x y false lb ps body r))):=by
 obtain ⟨M,b⟩:=nm (dfK ke kc (deD 5 a x y false lb ps body r));rw [<-b];unfold dfK CJ CK at b;simp only [gDd,BH nmS,BG,List.length_map] at b;obtain ⟨qx,S⟩:=nm (nmS x.data.toList);obtain ⟨qy,R⟩:=nm (y.data.toList.isEmpty);obtain ⟨ql,L⟩:=nm (lb.all BW);obtain ⟨qp,U⟩:=nm (ps.all fun x=>nmS x.data.toList);obtain ⟨qb,W⟩:=nm (body.all (sfK ke kc));obtain ⟨qr,T⟩:=nm (efK ke r);obtain ⟨qo,V⟩:=nm (BX r);obtain ⟨P,G⟩:=nm lb.length;obtain ⟨nP,H⟩:=nm ps.length;obtain ⟨nB,I⟩:=nm body.length;have Y:(lb≠[])=(P≠0):=by rw [G];simp
 have ak:P=0->ql=true:=fun h=>by rw [L,List.length_eq_zero_iff.1 (G.symm.trans h)];rfl
 simp only [<-S,<-L,<-U,<-W,<-T,<-V,<-H,<-I,Y] at b;have HF:Hx (M=(qx && qy && false && (decide (nP=0) && decide (nB=0) && qo))):=by
  show _=_;rw [b,R];by_cases h0:P=0
  ·simp [nfS]
  ·simp [nfS]
 have ae:Hx (∀ X,Ov w X->Ro 76 #[A J 5,A J 1,A J 7] X (zc true)):=fun X _=>by simpa using AB 5 1 7 X
 have ay:Hx (∀ X,Ov w X->Ro 76 #[A J 5,A J 4,A J 6] X (zc true)):=fun X _=>by simpa using AB 5 4 6 X
 have KX:Hx (∀ X,Ov w X->Ro 77 #[.string x] X (zc qx)):=fun X _=>by rw [S];exact AG x X hx
 have N:=Aa R;have KO:Hx (∀ X,Ov w X->Ro 78 #[ze #[A J e0,A J e1,A J e2,.string e3,O q q1 q2]] X (zc qo)):=fun X hX=>by rw [V];exact Bw ke _ r X (hR.over hX)
 have KR:Hx (∀ X,Ov w X->Ro 79 #[ze #[A J e0,A J e1,A J e2,.string e3,O q q1 q2]] X (zc qr)):=fun X hX=>by rw [T];exact Bk ke _ r X (hR.over hX)
 have al:Hx (∀ X,Ov w X->Ro 39 #[O aB body.length cB] X (zc qb)):=fun X hX=>by rw [W];exact A5 ke kc body aB cB X (Ao hX hB)
 rw [<-I] at al;have an:=hL.max;have am:=hP.max;have ag:=hB.max;rw [<-G] at an;rw [<-H] at am;rw [<-I] at ag;have a4:=Aa hL;have a1:=Aa hP;have a0:=Aa L;have az:=Aa U;have a3:=Aa G;have a2:=Aa H;rw [<-G,<-H,<-I];clear b S R L U W T V Y ak hL hP hB hR G H I hx hy;go_enter Tryz.func38,Tryz.ntmps38;go_wp2_with fail;refine (ae.o _ (bA w (zd #[A J 5,A J a,.string x,.string y,zc false,O aL P cL,O aP nP cP,O aB nB cB,A J e0,A J e1,A J e2,.string e3,O q q1 q2] 51))).mono ?_;rintro e w1 ⟨rfl,Z⟩;have ah:Hx (Ov w w1):=Ab (bA w (zd #[A J 5,A J a,.string x,.string y,zc false,O aL P cL,O aP nP cP,O aB nB cB,A J e0,A J e1,A J e2,.string e3,O q q1 q2] 51)) Z;have K:Hx (Ac [A J 5,A J a,.string x,.string y,zc false,O aL P cL,O aP nP cP,O aB nB cB,A J e0,A J e1,A J e2,.string e3,O q q1 q2] w1 w.heap.size):=Ac.over (Ai w [A J 5,A J a,.string x,.string y,zc false,O aL P cL,O aP nP cP,O aB nB cB,A J e0,A J e1,A J e2,.string e3,O q q1 q2] 51) Z;clear Z  ae;obtain ⟨F,E,C,B,v,u,t,n,l,j,g,f,c⟩:=Ah K.o;go_wp2_with fail;refine (KX.o _ (ah.o)).mono ?_;rintro e w2 ⟨rfl,Z⟩;have aa:Hx (Ov w w2):=Ab (ah.o) Z;have i:Hx (Ac [A J 5,A J a,.string x,.string y,zc false,O aL P cL,O aP nP cP,O aB nB cB,A J e0,A J e1,A J e2,.string e3,O q q1 q2] w2 w.heap.size):=K.o.over Z;clear Z F E C B v u t n l j g f c KX
 cases qx with
 | true=>
  by_cases hy0:y.data.toList=[]
  ·obtain rfl:=Aj hy0
   have Q:qy=true:=by rw [N.o];rfl
   subst Q;clear hy0 N;have HV:Hx (M=false):=by have h:=HF.o;simp at h;exact h
   obtain ⟨F,E,C,B,v,u,t,n,l,j,g,f,c⟩:=Ah i.o;go_wp2_with fail;go_ret;exact ⟨by rw [HV.o];(first | rfl | (simp;done) | (simp;assumption) | (simp;omega)),aa.o⟩
  ·have Y:=Aq hy0
   have Q:qy=false:=by rw [N.o];simpa using hy0
   subst Q;clear hy0 N;have HV:Hx (M=false):=by have h:=HF.o;simp at h;exact h
   obtain ⟨F,E,C,B,v,u,t,n,l,j,g,f,c⟩:=Ah i.o;go_wp2_with fail;go_ret;exact ⟨by rw [HV.o];(first | rfl | (simp;done) | (simp;assumption) | (simp;omega)),aa.o⟩
 | false=>
  have HV:Hx (M=false):=by have h:=HF.o;simp at h;exact h
  obtain ⟨F,E,C,B,v,u,t,n,l,j,g,f,c⟩:=Ah i.o;go_wp2_with fail;go_ret;exact ⟨by rw [HV.o];(first | rfl | (simp;done) | (simp;assumption) | (simp;omega)),aa.o⟩
theorem K0 (ke kc:Nat) (a:Int) (x y:ByteArray) (aL:Option Addr) (cL:Nat) (lb:List D) (aP:Option Addr) (cP:Nat) (ps:List ByteArray) (aB:Option Addr) (cB:Nat) (body:List D) (e0 e1 e2:Int) (e3:ByteArray) (q:Option Addr) (q1 q2:Nat) (r:D) (w:World) (hx:x.size<=maxLen) (hy:y.size<=maxLen) (hL:LS 4 (ZP w) w (O aL lb.length cL) lb) (hP:LS 1 ZN w (O aP ps.length cP) ps) (hB:LS 12 (ZC w ke kc) w (O aB body.length cB) body) (hR:ZE w ke [A J e0,A J e1,A J e2,.string e3,O q q1 q2] r) :
  Ro 38 #[ze #[A J 6,A J a,.string x,.string y,zc true,O aL lb.length cL,O aP ps.length cP,O aB body.length cB,A J e0,A J e1,A J e2,.string e3,O q q1 q2]] w (zc (dfK ke kc (deD 6 a x y true lb ps body r))):=by
 obtain ⟨P,K⟩:=nm (dfK ke kc (deD 6 a x y true lb ps body r));rw [<-K];unfold dfK CJ CK at K;simp only [gDd,BH nmS,BG,List.length_map] at K;obtain ⟨qx,ar⟩:=nm (nmS x.data.toList);obtain ⟨qy,aq⟩:=nm (y.data.toList.isEmpty);obtain ⟨ql,R⟩:=nm (lb.all BW);obtain ⟨qp,av⟩:=nm (ps.all fun x=>nmS x.data.toList);obtain ⟨qb,ax⟩:=nm (body.all (sfK ke kc));obtain ⟨qr,au⟩:=nm (efK ke r);obtain ⟨qo,aw⟩:=nm (BX r);obtain ⟨Q,S⟩:=nm lb.length;obtain ⟨nP,W⟩:=nm ps.length;obtain ⟨nB,Y⟩:=nm body.length;have a0:(lb≠[])=(Q≠0):=by rw [S];simp
 have b6:Q=0->ql=true:=fun h=>by rw [R,List.length_eq_zero_iff.1 (S.symm.trans h)];rfl
 simp only [<-ar,<-R,<-av,<-ax,<-au,<-aw,<-W,<-Y,a0] at K;have HF:Hx (P=(qx && qy && ql && (decide (nP=0) && decide (nB=0) && qo))):=by
  show _=_;rw [K,aq];by_cases h0:Q=0
  ·simp [nfS]
  ·simp [nfS]
 have bf:Hx (∀ X,Ov w X->Ro 76 #[A J 6,A J 1,A J 7] X (zc true)):=fun X _=>by simpa using AB 6 1 7 X
 have be:Hx (∀ X,Ov w X->Ro 76 #[A J 6,A J 4,A J 6] X (zc true)):=fun X _=>by simpa using AB 6 4 6 X
 have KX:Hx (∀ X,Ov w X->Ro 77 #[.string x] X (zc qx)):=fun X _=>by rw [ar];exact AG x X hx
 have ai:=Aa aq;have KO:Hx (∀ X,Ov w X->Ro 78 #[ze #[A J e0,A J e1,A J e2,.string e3,O q q1 q2]] X (zc qo)):=fun X hX=>by rw [aw];exact Bw ke _ r X (hR.over hX)
 have KR:Hx (∀ X,Ov w X->Ro 79 #[ze #[A J e0,A J e1,A J e2,.string e3,O q q1 q2]] X (zc qr)):=fun X hX=>by rw [au];exact Bk ke _ r X (hR.over hX)
 have cb:Hx (∀ X,Ov w X->Ro 39 #[O aB body.length cB] X (zc qb)):=fun X hX=>by rw [ax];exact A5 ke kc body aB cB X (Ao hX hB)
 rw [<-Y] at cb;have ch:=hL.max;have cf:=hP.max;have bj:=hB.max;rw [<-S] at ch;rw [<-W] at cf;rw [<-Y] at bj;have ci:=Aa hL;have dr:=Aa hP;have bh:=Aa R;have dq:=Aa av;have bi:=Aa S;have ds:=Aa W;rw [<-S,<-W,<-Y];clear K ar aq R av ax au aw a0 b6 hL hP hB hR S W Y hx hy;go_enter Tryz.func38,Tryz.ntmps38;go_wp2_with fail;refine (bf.o _ (bA w (zd #[A J 6,A J a,.string x,.string y,zc true,O aL Q cL,O aP nP cP,O aB nB cB,A J e0,A J e1,A J e2,.string e3,O q q1 q2] 51))).mono ?_;rintro e w1 ⟨rfl,I⟩;have bn:Hx (Ov w w1):=Ab (bA w (zd #[A J 6,A J a,.string x,.string y,zc true,O aL Q cL,O aP nP cP,O aB nB cB,A J e0,A J e1,A J e2,.string e3,O q q1 q2] 51)) I;have ab:Hx (Ac [A J 6,A J a,.string x,.string y,zc true,O aL Q cL,O aP nP cP,O aB nB cB,A J e0,A J e1,A J e2,.string e3,O q q1 q2] w1 w.heap.size):=Ac.over (Ai w [A J 6,A J a,.string x,.string y,zc true,O aL Q cL,O aP nP cP,O aB nB cB,A J e0,A J e1,A J e2,.string e3,O q q1 q2] 51) I;clear I  bf;obtain ⟨G,F,E,C,B,v,u,t,n,l,g,f,c⟩:=Ah ab.o;go_wp2_with fail;refine (KX.o _ (bn.o)).mono ?_;rintro e w2 ⟨rfl,I⟩;have ao:Hx (Ov w w2):=Ab (bn.o) I;have M:Hx (Ac [A J 6,A J a,.string x,.string y,zc true,O aL Q cL,O aP nP cP,O aB nB cB,A J e0,A J e1,A J e2,.string e3,O q q1 q2] w2 w.heap.size):=ab.o.over I;clear I G F E C B v u t n l g f c KX
 cases qx with
 | true=>
  by_cases hy0:y.data.toList=[]
  ·obtain rfl:=Aj hy0
   have ap:qy=true:=by rw [ai.o];rfl
   subst ap;clear hy0 ai;obtain ⟨G,F,E,C,B,v,u,t,n,l,g,f,c⟩:=Ah M.o;go_wp2_with fail;refine (be.o _ (ao.o)).mono ?_;rintro e w3 ⟨rfl,I⟩;have an:Hx (Ov w w3):=Ab (ao.o) I;have L:Hx (Ac [A J 6,A J a,.string x,.string ⟨#[]⟩,zc true,O aL Q cL,O aP nP cP,O aB nB cB,A J e0,A J e1,A J e2,.string e3,O q q1 q2] w3 w.heap.size):=M.o.over I;clear I G F E C B v u t n l g f c be;obtain ⟨G,F,E,C,B,v,u,t,n,l,g,f,c⟩:=Ah L.o;go_wp2_with fail;clear G F E C B v u t n l g f c;go_loopw [3] (fun i wr=>∃ (j:Nat),j<=Q/\i=A J j/\(lb.drop j).all BW=ql/\Ov w3 wr) (fun i _=>Q - (intOf i).toNat)
   case atStart=>exact ⟨0,Nat.zero_le _,rfl,bh.o.symm,Below.refl _ _⟩
   case round=>
    obtain ⟨j,hj,rfl,H,hB⟩:=hrel;by_cases hjl:j < Q
    ·have Z:j < lb.length:=by have:=bi.o;omega
     have b7:(j:Int) < (Q:Int):=by omega
     obtain ⟨b,c7,rfl,cs,b4,af,hr⟩:=ci.o.at Z;rw [List.drop_eq_getElem_cons Z,List.all_cons] at H;generalize lb[j]=dj at H hr;obtain ⟨pa,po,pw,pn,pc,ns,rfl,rfl,ho,hN⟩:=hr;unfold BW at H;simp only [gPp,BH nmS] at H;obtain ⟨q8,ay⟩:=nm (nmS po.data.toList);obtain ⟨q9,V⟩:=nm (ns.all fun x=>nmS x.data.toList);rw [<-ay,<-V] at H;have bb:(q8 && q9 && (lb.drop (j+1)).all BW)=ql:=H;have ah:=Ab an.o hB;have KC:Hx (∀ X,Ov wr X->Ro 77 #[.string po] X (zc q8)):=fun X _=>by rw [ay];exact AG po X ho
     have ce:=Aa (BB ah hN);have cd:=Aa V;obtain ⟨nN,a1⟩:=nm ns.length;have cg:=hN.max;rw [<-a1] at cg af;have bg:=Aa a1;have z1:=ce1 ah (af 1 _ rfl);have z3:=ce1 ah (af 3 _ rfl);have cc:=Aa z3;obtain ⟨n0,n1,n2,n3,n4,n5,n6,n7,n8,n9,b3,b2,b1⟩:=Ah (L.o.over hB);have HP:=Aa bb;have HB:=Aa hB;clear H bb hB ah af b4 ay V Z ho hN a1;go_wp2_with fail;refine (KC.o _ (Below.refl _ _)).mono ?_;rintro e W6 ⟨rfl,I⟩;have a6:=Aa (Ab HB.o I);have bk:=Aa I;clear I KC z1 z3 n0 n1 n2 n3 n4 n5 n6 n7 n8 n9 b3 b2 b1
     cases q8 with
     | false=>
      have H:=HP.o;simp at H;subst H;have U:Hx (P=false):=by have h:=HF.o;simp at h;exact h
      go_wp2_with fail;go_ret;exact ⟨by rw [U.o];rfl,Ab an.o a6.o⟩
     | true=>
      have H:=HP.o;rw [Bool.true_and] at H;replace HP:=Aa H;clear H;go_wp2_with fail;go_loopw [4] (fun i ws=>∃ (i2:Nat),i2<=nN/\i=A J i2/\(ns.drop i2).all (fun x=>nmS x.data.toList)=q9/\Ov W6 ws) (fun i _=>nN - (intOf i).toNat)
      case atStart=>exact ⟨0,Nat.zero_le _,rfl,cd.o.symm,Below.refl _ _⟩
      case round=>
       obtain ⟨i,dl,rfl,N,T⟩:=hrel;have ag:=Ab a6.o T;obtain ⟨p0,p1,p2,p3,p4,p5,p6,p7,p8,p9,b0,bz,bw⟩:=Ah (L.o.over ag);have z3:=ce1 (Ab bk.o T) cc.o;by_cases hil:i < nN
       ·have aa:i < ns.length:=by have:=bg.o;omega
        have b8:(i:Int) < (nN:Int):=by omega
        obtain ⟨ba,oa,rfl,ca,b5,a2,ae⟩:=ce.o.at aa;rw [List.drop_eq_getElem_cons aa,List.all_cons] at N;generalize ns[i]=da at N ae;obtain ⟨q7,az⟩:=nm (nmS da.data.toList);rw [<-az] at N;have KQ:Hx (∀ X,Ov wr X->Ro 77 #[.string da] X (zc q7)):=fun X _=>by rw [az];exact AG da X ae.2
        rw [ae.1] at a2;have y0:wr.cell? ⟨ba,oa+i,none⟩=some (.string da):=ce1 (Ab bk.o T) (by have:=a2 0 _ rfl;simpa using this);have al:=Aa N;have a5:=Aa T;clear N T ag a2 b5 ae az aa;go_wp2_with fail;refine (KQ.o _ (Below.refl _ _)).mono ?_;rintro e W7 ⟨rfl,I⟩;have bm:=Aa (Ab a5.o I);clear I KQ y0 z3 p0 p1 p2 p3 p4 p5 p6 p7 p8 p9 b0 bz bw
        cases q7 with
        | true=>
         have H:=al.o;rw [Bool.true_and] at H;replace al:=Aa H;clear H;go_wp2_with fail;exact ⟨⟨i+1,by omega,by go_num,al.o,bm.o⟩,by simp [intOf];omega⟩
        | false=>
         have H:=al.o;rw [Bool.false_and] at H;subst H;have H:=HP.o;rw [Bool.false_and] at H;subst H;have U:Hx (P=false):=by have h:=HF.o;simp at h;exact h
         go_wp2_with fail;go_ret;exact ⟨by rw [U.o];rfl,Ab an.o (Ab a6.o bm.o)⟩
       ·have hd:ns.drop i=[]:=List.drop_eq_nil_of_le (by have:=bg.o;omega)
        have b8:¬ (i:Int) < (nN:Int):=by omega
        rw [hd] at N;have V:true=q9:=by rw [<-N];rfl
        subst V;have H:=HP.o;rw [Bool.true_and] at H;replace HP:=Aa H;have a5:=Aa ag;clear H hd N T ag;go_wp2_with fail;exact ⟨⟨j+1,by omega,by go_num,HP.o,a5.o⟩,by simp [intOf];omega⟩
    ·have hd:lb.drop j=[]:=List.drop_eq_nil_of_le (by have:=bi.o;omega)
     have b7:¬ (j:Int) < (Q:Int):=by omega
     rw [hd] at H;have R:true=ql:=by rw [<-H];rfl
     subst R;have am:=Aa (Ab an.o hB);have aj:=Aa (L.o.over hB);clear H hd hB bh;by_cases h1:nP=0
     ·subst h1
      by_cases h2:nB=0
      ·subst h2
       obtain ⟨G,F,E,C,B,v,u,t,n,l,g,f,c⟩:=Ah aj.o;go_wp2_with fail;refine (KO.o _ (am.o)).mono ?_;rintro e a8 ⟨rfl,I⟩;have bl:Hx (Ov w a8):=Ab (am.o) I;have ak:Hx (Ac [A J 6,A J a,.string x,.string ⟨#[]⟩,zc true,O aL Q cL,O aP 0 cP,O aB 0 cB,A J e0,A J e1,A J e2,.string e3,O q q1 q2] a8 w.heap.size):=aj.o.over I;clear I G F E C B v u t n l g f c KO;have U:Hx (P=qo):=by have h:=HF.o;simp at h;exact h
       obtain ⟨G,F,E,C,B,v,u,t,n,l,g,f,c⟩:=Ah ak.o;go_wp2_with fail;go_ret;exact ⟨by rw [U.o];(first | rfl | (simp;done) | (simp;assumption) | (simp;omega)),bl.o⟩
      ·have hi:¬ (nB:Int)=0:=by omega
       have U:Hx (P=false):=by have h:=HF.o;simp [h2] at h;exact h
       obtain ⟨G,F,E,C,B,v,u,t,n,l,g,f,c⟩:=Ah aj.o;go_wp2_with fail;go_ret;exact ⟨by rw [U.o];(first | rfl | (simp;done) | (simp;assumption) | (simp;omega)),am.o⟩
     ·have hi:¬ (nP:Int)=0:=by omega
      have U:Hx (P=false):=by have h:=HF.o;simp [h1] at h;exact h
      obtain ⟨G,F,E,C,B,v,u,t,n,l,g,f,c⟩:=Ah aj.o;go_wp2_with fail;go_ret;exact ⟨by rw [U.o];(first | rfl | (simp;done) | (simp;assumption) | (simp;omega)),am.o⟩
  ·have a0:=Aq hy0
   have ap:qy=false:=by rw [ai.o];simpa using hy0
   subst ap;clear hy0 ai;have U:Hx (P=false):=by have h:=HF.o;simp at h;exact h
   obtain ⟨G,F,E,C,B,v,u,t,n,l,g,f,c⟩:=Ah M.o;go_wp2_with fail;go_ret;exact ⟨by rw [U.o];(first | rfl | (simp;done) | (simp;assumption) | (simp;omega)),ao.o⟩
 | false=>
  have U:Hx (P=false):=by have h:=HF.o;simp at h;exact h
  obtain ⟨G,F,E,C,B,v,u,t,n,l,g,f,c⟩:=Ah M.o;go_wp2_with fail;go_ret;exact ⟨by rw [U.o];(first | rfl | (simp;done) | (simp;assumption) | (simp;omega)),ao.o⟩
theorem K3 (ke kc:Nat) (a:Int) (x y:ByteArray) (aL:Option Addr) (cL:Nat) (lb:List D) (aP:Option Addr) (cP:Nat) (ps:List ByteArray) (aB:Option Addr) (cB:Nat) (body:List D) (e0 e1 e2:Int) (e3:ByteArray) (q:Option Addr) (q1 q2:Nat) (r:D) (w:World) (hx:x.size<=maxLen) (hy:y.size<=maxLen) (hL:LS 4 (ZP w) w (O aL lb.length cL) lb) (hP:LS 1 ZN w (O aP ps.length cP) ps) (hB:LS 12 (ZC w ke kc) w (O aB body.length cB) body) (hR:ZE w ke [A J e0,A J e1,A J e2,.string e3,O q q1 q2] r) :
  Ro 38 #[ze #[A J 6,A J a,.string x,.string y,zc false,O aL lb.length cL,O aP ps.length cP,O aB body.length cB,A J e0,A J e1,A J e2,.string e3,O q q1 q2]] w (zc (dfK ke kc (deD 6 a x y false lb ps body r))):=by
 obtain ⟨K,G⟩:=nm (dfK ke kc (deD 6 a x y false lb ps body r));rw [<-G];unfold dfK CJ CK at G;simp only [gDd,BH nmS,BG,List.length_map] at G;obtain ⟨qx,ab⟩:=nm (nmS x.data.toList);obtain ⟨qy,aa⟩:=nm (y.data.toList.isEmpty);obtain ⟨ql,V⟩:=nm (lb.all BW);obtain ⟨qp,ad⟩:=nm (ps.all fun x=>nmS x.data.toList);obtain ⟨qb,af⟩:=nm (body.all (sfK ke kc));obtain ⟨qr,ac⟩:=nm (efK ke r);obtain ⟨qo,ae⟩:=nm (BX r);obtain ⟨L,M⟩:=nm lb.length;obtain ⟨T,N⟩:=nm ps.length;obtain ⟨U,P⟩:=nm body.length;have ag:(lb≠[])=(L≠0):=by rw [M];simp
 have aj:L=0->ql=true:=fun h=>by rw [V,List.length_eq_zero_iff.1 (M.symm.trans h)];rfl
 simp only [<-ab,<-V,<-ad,<-af,<-ac,<-ae,<-N,<-P,ag] at G;have HF:Hx (K=(qx && qy && decide (L=0) && (decide (T=0) && decide (U=0) && qo))):=by
  show _=_;rw [G,aa];by_cases h0:L=0
  ·simp [h0,nfS,aj h0]
  ·simp [h0,nfS]
 have am:Hx (∀ X,Ov w X->Ro 76 #[A J 6,A J 1,A J 7] X (zc true)):=fun X _=>by simpa using AB 6 1 7 X
 have al:Hx (∀ X,Ov w X->Ro 76 #[A J 6,A J 4,A J 6] X (zc true)):=fun X _=>by simpa using AB 6 4 6 X
 have KX:Hx (∀ X,Ov w X->Ro 77 #[.string x] X (zc qx)):=fun X _=>by rw [ab];exact AG x X hx
 have W:=Aa aa;have KO:Hx (∀ X,Ov w X->Ro 78 #[ze #[A J e0,A J e1,A J e2,.string e3,O q q1 q2]] X (zc qo)):=fun X hX=>by rw [ae];exact Bw ke _ r X (hR.over hX)
 have KR:Hx (∀ X,Ov w X->Ro 79 #[ze #[A J e0,A J e1,A J e2,.string e3,O q q1 q2]] X (zc qr)):=fun X hX=>by rw [ac];exact Bk ke _ r X (hR.over hX)
 have av:Hx (∀ X,Ov w X->Ro 39 #[O aB body.length cB] X (zc qb)):=fun X hX=>by rw [af];exact A5 ke kc body aB cB X (Ao hX hB)
 rw [<-P] at av;have ax:=hL.max;have aw:=hP.max;have an:=hB.max;rw [<-M] at ax;rw [<-N] at aw;rw [<-P] at an;have be:=Aa hL;have bb:=Aa hP;have ba:=Aa V;have a9:=Aa ad;have bd:=Aa M;have bc:=Aa N;rw [<-M,<-N,<-P];clear G ab aa V ad af ac ae ag aj hL hP hB hR M N P hx hy;go_enter Tryz.func38,Tryz.ntmps38;go_wp2_with fail;refine (am.o _ (bA w (zd #[A J 6,A J a,.string x,.string y,zc false,O aL L cL,O aP T cP,O aB U cB,A J e0,A J e1,A J e2,.string e3,O q q1 q2] 51))).mono ?_;rintro e w1 ⟨rfl,I⟩;have ao:Hx (Ov w w1):=Ab (bA w (zd #[A J 6,A J a,.string x,.string y,zc false,O aL L cL,O aP T cP,O aB U cB,A J e0,A J e1,A J e2,.string e3,O q q1 q2] 51)) I;have R:Hx (Ac [A J 6,A J a,.string x,.string y,zc false,O aL L cL,O aP T cP,O aB U cB,A J e0,A J e1,A J e2,.string e3,O q q1 q2] w1 w.heap.size):=Ac.over (Ai w [A J 6,A J a,.string x,.string y,zc false,O aL L cL,O aP T cP,O aB U cB,A J e0,A J e1,A J e2,.string e3,O q q1 q2] 51) I;clear I  am;obtain ⟨E,C,B,v,u,t,n,l,j,g,f,c,b⟩:=Ah R.o;go_wp2_with fail;refine (KX.o _ (ao.o)).mono ?_;rintro e w2 ⟨rfl,I⟩;have Y:Hx (Ov w w2):=Ab (ao.o) I;have H:Hx (Ac [A J 6,A J a,.string x,.string y,zc false,O aL L cL,O aP T cP,O aB U cB,A J e0,A J e1,A J e2,.string e3,O q q1 q2] w2 w.heap.size):=R.o.over I;clear I E C B v u t n l j g f c b KX
 cases qx with
 | true=>
  by_cases hy0:y.data.toList=[]
  ·obtain rfl:=Aj hy0
   have Z:qy=true:=by rw [W.o];rfl
   subst Z;clear hy0 W;obtain ⟨E,C,B,v,u,t,n,l,j,g,f,c,b⟩:=Ah H.o;go_wp2_with fail;refine (al.o _ (Y.o)).mono ?_;rintro e w3 ⟨rfl,I⟩;have S:Hx (Ov w w3):=Ab (Y.o) I;have F:Hx (Ac [A J 6,A J a,.string x,.string ⟨#[]⟩,zc false,O aL L cL,O aP T cP,O aB U cB,A J e0,A J e1,A J e2,.string e3,O q q1 q2] w3 w.heap.size):=H.o.over I;clear I E C B v u t n l j g f c b al;by_cases h0:L=0
   ·subst h0
    obtain ⟨E,C,B,v,u,t,n,l,j,g,f,c,b⟩:=Ah F.o;go_wp2_with fail;clear E C B v u t n l j g f c b;go_loopw [3] (fun i wr=>i=A J 0/\w3=wr) (fun _ _=>0)
    case atStart=>exact ⟨rfl,rfl⟩
    case round=>
     obtain ⟨rfl,rfl⟩:=hrel;by_cases h1:T=0
     ·subst h1
      by_cases h2:U=0
      ·subst h2
       obtain ⟨E,C,B,v,u,t,n,l,j,g,f,c,b⟩:=Ah F.o;go_wp2_with fail;refine (KO.o _ (S.o)).mono ?_;rintro e w4 ⟨rfl,I⟩;have ay:Hx (Ov w w4):=Ab (S.o) I;have ah:Hx (Ac [A J 6,A J a,.string x,.string ⟨#[]⟩,zc false,O aL 0 cL,O aP 0 cP,O aB 0 cB,A J e0,A J e1,A J e2,.string e3,O q q1 q2] w4 w.heap.size):=F.o.over I;clear I E C B v u t n l j g f c b KO;have Q:Hx (K=qo):=by have h:=HF.o;simp at h;exact h
       obtain ⟨E,C,B,v,u,t,n,l,j,g,f,c,b⟩:=Ah ah.o;go_wp2_with fail;go_ret;exact ⟨by rw [Q.o];(first | rfl | (simp;done) | (simp;assumption) | (simp;omega)),ay.o⟩
      ·have hi:¬ (U:Int)=0:=by omega
       have Q:Hx (K=false):=by have h:=HF.o;simp [h2] at h;exact h
       obtain ⟨E,C,B,v,u,t,n,l,j,g,f,c,b⟩:=Ah F.o;go_wp2_with fail;go_ret;exact ⟨by rw [Q.o];(first | rfl | (simp;done) | (simp;assumption) | (simp;omega)),S.o⟩
     ·have hi:¬ (T:Int)=0:=by omega
      have Q:Hx (K=false):=by have h:=HF.o;simp [h1] at h;exact h
      obtain ⟨E,C,B,v,u,t,n,l,j,g,f,c,b⟩:=Ah F.o;go_wp2_with fail;go_ret;exact ⟨by rw [Q.o];(first | rfl | (simp;done) | (simp;assumption) | (simp;omega)),S.o⟩
   ·have hi:(0:Int) < (L:Int):=by omega
    have a8:0 < L:=by omega
    have Q:Hx (K=false):=by have h:=HF.o;simp [h0] at h;exact h
    obtain ⟨E,C,B,v,u,t,n,l,j,g,f,c,b⟩:=Ah F.o;go_wp2_with fail;go_ret;exact ⟨by rw [Q.o];(first | rfl | (simp;done) | (simp;assumption) | (simp;omega)),S.o⟩
  ·have ag:=Aq hy0
   have Z:qy=false:=by rw [W.o];simpa using hy0
   subst Z;clear hy0 W;have Q:Hx (K=false):=by have h:=HF.o;simp at h;exact h
   obtain ⟨E,C,B,v,u,t,n,l,j,g,f,c,b⟩:=Ah H.o;go_wp2_with fail;go_ret;exact ⟨by rw [Q.o];(first | rfl | (simp;done) | (simp;assumption) | (simp;omega)),Y.o⟩
 | false=>
  have Q:Hx (K=false):=by have h:=HF.o;simp at h;exact h
  obtain ⟨E,C,B,v,u,t,n,l,j,g,f,c,b⟩:=Ah H.o;go_wp2_with fail;go_ret;exact ⟨by rw [Q.o];(first | rfl | (simp;done) | (simp;assumption) | (simp;omega)),Y.o⟩
end Go.Proofs.YtipngnjffjajpaaGreatDoor.Tx
