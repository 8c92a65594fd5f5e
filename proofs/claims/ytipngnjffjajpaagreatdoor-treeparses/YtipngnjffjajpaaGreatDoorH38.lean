/- The document's answer: too much of something. -/
import Derived.Test.YtipngnjffjajpaaGreatDoorH37
set_option linter.unusedVariables false
set_option maxHeartbeats 8000000
set_option maxRecDepth 100000
namespace Go.Proofs.YtipngnjffjajpaaGreatDoor.Tx
open Go.RowKit
open Go.Value renaming int -> M, slice -> U, bool -> zc, pointer -> zd, agg -> zf, tuple -> zh
open Go.IntKind renaming i64 -> O
open Go.Obj renaming cells -> ze
open Go.Ending renaming returned -> zg
theorem Ir (ke kc:Nat) (ds l:List D) (v:Value) (w:World) (h:ZT w ke kc v ds l):Ro 37 #[v] w (zc (HU ke kc ds l)):=by
 obtain ⟨ao,c,a2,c2,rfl,hD,hM⟩:=h;obtain ⟨fin,g⟩:=nm (HU ke kc ds l);rw [<-g];unfold HU at g;have HD:=Aa hD;have HL:=hD.max;obtain ⟨r0,ab⟩:=nm (csK ke kc l 1);have b3:=Dl ke kc l 1;rw [<-ab] at g b3;have KM:Hx (∀ X,Ov w X->Ro 74 #[U a2 l.length c2,M O 1] X (M O r0)):=fun X hX=>by rw [ab];exact Ju ke kc l a2 c2 X 1 (Ay hX hM) (by omega) (by omega)
 obtain ⟨G,ad⟩:=nm ds.length;rw [<-ad] at HL g ⊢;have HN:=Aa ad;clear hD hM ad ab;generalize l.length=nl at KM ⊢;obtain ⟨V,hV⟩:=nm (w.alloc (ze #[U ao G c,U a2 nl c2] 25));have Q:Hx (Ov w V):=by show Ov _ _;rw [hV];exact bA _ _
 have bb:Hx (Ae [U ao G c,U a2 nl c2] V w.heap.size):=by show Ae _ _ _;rw [hV];exact AW w [U ao G c,U a2 nl c2] 25
 by_cases h30:30 < G
 ·have hi:(30:Int) < (G:Int):=by omega
  have J:Hx (fin=true):=by show _=_;rw [g];simp [h30]
  clear g;go_enter Tryz.func37,Tryz.ntmps37;go_wp2_with fail;go_ret;exact ⟨by rw [J.o];rfl,by rw [<-hV];exact Q.o⟩
 rw [decide_eq_false h30,Bool.false_or] at g;have HF:=Aa g;have hi:¬ (30:Int) < (G:Int):=by omega
 clear g;go_enter Tryz.func37,Tryz.ntmps37;go_wp2_with fail;rw [<-hV];clear hV;refine (KM.o _ Q.o).mono ?_;rintro e W1 ⟨rfl,K⟩;have C:Hx (Ov w W1):=Ab Q.o K;have N:=Aa (bb.o.over K);clear K KM Q bb;generalize w.heap.size=bt at N ⊢;obtain ⟨s0,s1⟩:=rc2 N.o;go_wp2_with fail;clear s0 s1;go_loopw [3,4] (fun c i wr=>∃ (j:Nat) (t:Int),j<=G/\i=M O j/\c=M O t/\0<=t/\t<=51+51*j/\((ds.drop j).any (DV ke) || decide (50 < (ds.drop j).foldl (fun n d=>n+csK ke kc (gL 7 d) 1) t))=fin/\Ov W1 wr) (fun _ i _=>G - (intOf i).toNat)
 case atStart=>exact ⟨0,r0,Nat.zero_le _,rfl,rfl,by omega,by omega,HF.o.symm,Below.refl _ _⟩
 case round=>
  obtain ⟨j,t,hj,rfl,rfl,t1,t2,B,hB⟩:=hrel;obtain ⟨s0,s1⟩:=rc2 (N.o.over hB);by_cases hjl:j < G
  ·have H:j < ds.length:=by have:=HN.o;omega
   have bv:(j:Int) < (G:Int):=by omega
   obtain ⟨b,bj,rfl,cs,au,k,hr⟩:=HD.o.at H;rw [List.drop_eq_getElem_cons H,List.any_cons,List.foldl_cons] at B;generalize ds[j]=dj at B hr;have f:Ov w wr:=Ab C.o hB;obtain ⟨kd,a,x,y,gv,aL,cL,lb,aP,cP,ps,aB,cB,u,e0,e1,e2,e3,q,q1,q2,r,rfl,rfl,-,-,af,az,a0,hR⟩:=hr;simp only [gDd] at B;obtain ⟨r1,aa⟩:=nm (csK ke kc u 1);have b2:=Dl ke kc u 1;rw [<-aa] at B b2;have KB:Hx (∀ X,Ov wr X->Ro 74 #[U aB u.length cB,M O 1] X (M O r1)):=fun X hX=>by rw [aa];exact Ju ke kc u aB cB X 1 (Ay hX (Ay f a0)) (by omega) (by omega)
   obtain ⟨qm,ac⟩:=nm (DV ke (deD kd a x y gv lb ps u r));rw [<-ac] at B;have L:qm=(decide (4 < lb.length) || decide (4 < ps.length) || decide (15 < poK ke r 15) || lb.any (fun p=>decide (6 < (gL 3 p).length))):=by rw [ac];unfold DV;simp only [gDd,List.length_map];rw [FR ke r]
   obtain ⟨re,Z⟩:=nm (poK ke r 15);obtain ⟨qn,m⟩:=nm (lb.any (fun p=>decide (6 < (gL 3 p).length)));rw [<-Z,<-m] at L;have KP:Hx (∀ X,Ov wr X->Ro 75 #[zf #[M O e0,M O e1,M O e2,.string e3,U q q1 q2],M O 15] X (M O re)):=fun X hX=>by rw [Z];exact EU ke _ r X 15 ((hR.over f).over hX) (by omega) (by omega)
   have cg:=af.max;have ce:=az.max;have ci:=Aa (FQ f af);have cd:=Aa m;have d0:wr.cell? ⟨b,bj+j*13,none⟩=_:=ce1 f (k 0 _ rfl);have d1:=ce1 f (k 1 _ rfl);have d2:=ce1 f (k 2 _ rfl);have d3:=ce1 f (k 3 _ rfl);have d4:=ce1 f (k 4 _ rfl);have d5:=ce1 f (k 5 _ rfl);have d6:=ce1 f (k 6 _ rfl);have d7:=ce1 f (k 7 _ rfl);have d8:=ce1 f (k 8 _ rfl);have d9:=ce1 f (k 9 _ rfl);have b7:=ce1 f (k 10 _ rfl);have b6:=ce1 f (k 11 _ rfl);have b5:=ce1 f (k 12 _ rfl);have S:=Aa hB;have HP:=Aa B;obtain ⟨F,ae⟩:=nm lb.length;rw [<-ae] at d5 cg L;have bd:=Aa ae;have R:=Aa L;clear k au hB H a0 ac L Z m f aa B af az hR ae;generalize ps.length=nP at ce R d6;generalize u.length=nB at KB d7;have bc:Hx (Ae [M O kd,M O a,.string x,.string y,zc gv,U aL F cL,U aP nP cP,U aB nB cB,M O e0,M O e1,M O e2,.string e3,U q q1 q2] (wr.alloc (ze #[M O kd,M O a,.string x,.string y,zc gv,U aL F cL,U aP nP cP,U aB nB cB,M O e0,M O e1,M O e2,.string e3,U q q1 q2] 51)) wr.heap.size):=AW wr [M O kd,M O a,.string x,.string y,zc gv,U aL F cL,U aP nP cP,U aB nB cB,M O e0,M O e1,M O e2,.string e3,U q q1 q2] 51;by_cases h4:4 < F
   ·have J:Hx (fin=true):=by have h:=HP.o;rw [show qm=true by have h:=R.o;simp [h4] at h;exact h] at h;simp at h;exact h
    have b1:(4:Int) < (F:Int):=by omega
    go_wp2_with fail;go_ret;exact ⟨by rw [J.o];rfl,Ab C.o (Ab S.o (bA _ _))⟩
   have b1:¬ (4:Int) < (F:Int):=by omega
   by_cases h5:4 < nP
   ·have J:Hx (fin=true):=by have h:=HP.o;rw [show qm=true by have h:=R.o;simp [h5] at h;exact h] at h;simp at h;exact h
    have b0:(4:Int) < (nP:Int):=by omega
    go_wp2_with fail;go_ret;exact ⟨by rw [J.o];rfl,Ab C.o (Ab S.o (bA _ _))⟩
   have b0:¬ (4:Int) < (nP:Int):=by omega
   go_wp2_with fail;refine (KP.o _ (bA _ _)).mono ?_;rintro e W2 ⟨rfl,K⟩;have E:Hx (Ov wr W2):=Ab (bA _ _) K;have ag:Hx (Ae [M O kd,M O a,.string x,.string y,zc gv,U aL F cL,U aP nP cP,U aB nB cB,M O e0,M O e1,M O e2,.string e3,U q q1 q2] W2 wr.heap.size):=bc.o.over K;have c8:=Aa ((N.o.over S.o).over E.o);clear K d0 d1 d2 d3 d4 d5 d6 d7 d8 d9 b7 b6 b5 KP bc s0 s1;generalize wr.heap.size=bq at ag ⊢;obtain ⟨n0,n1,n2,n3,n4,n5,n6,n7,n8,n9,Y,W,T⟩:=Ap ag.o;by_cases h15:15 < re
   ·have J:Hx (fin=true):=by have h:=HP.o;rw [show qm=true by have h:=R.o;simp [h15] at h;exact h] at h;simp at h;exact h
    go_wp2_with fail;go_ret;exact ⟨by rw [J.o];rfl,Ab C.o (Ab S.o E.o)⟩
   have ar:qm=qn:=by have h:=R.o;simp [h15,h4,h5] at h;exact h
   replace R:=Aa ar;clear ar;go_wp2_with fail;clear n0 n1 n2 n3 n4 n5 n6 n7 n8 n9 Y W T;go_loopw [6] (fun i ws=>∃ (i2:Nat),i2<=F/\i=M O i2/\(lb.drop i2).any (fun p=>decide (6 < (gL 3 p).length))=qn/\ws=W2) (fun i _=>F - (intOf i).toNat)
   case atStart=>exact ⟨0,Nat.zero_le _,rfl,cd.o.symm,rfl⟩
   case round=>
    obtain ⟨i,cy,rfl,A,rfl⟩:=hrel;obtain ⟨n0,n1,n2,n3,n4,n5,n6,n7,n8,n9,Y,W,T⟩:=Ap ag.o;by_cases hil:i < F
    ·have I:i < lb.length:=by have:=bd.o;omega
     have bw:(i:Int) < (F:Int):=by omega
     obtain ⟨ba,oa,rfl,ca,bu,aw,aq⟩:=ci.o.at I;rw [List.drop_eq_getElem_cons I,List.any_cons] at A;generalize lb[i]=da at A aq;have a1:=E.o;obtain ⟨pa,po,pw,pn,pc,ns,rfl,rfl,-,hN⟩:=aq;simp only [gPp,List.length_map] at A;have cf:=hN.max;have z3:=ce1 a1 (aw 3 _ rfl);generalize ns.length=nN at z3 A cf;have P:=Aa A;clear A a1 aw bu I hN;by_cases hn6:6 < nN
     ·have m:qn=true:=by have h:=P.o;simp [hn6] at h;exact h
      subst m;have J:Hx (fin=true):=by have h:=HP.o;rw [R.o] at h;simp at h;exact h
      have bz:(6:Int) < (nN:Int):=by omega
      go_wp2_with fail;go_ret;exact ⟨by rw [J.o];rfl,Ab C.o (Ab S.o E.o)⟩
     ·have m:(lb.drop (i+1)).any (fun p=>decide (6 < (gL 3 p).length))=qn:=by have h:=P.o;rw [decide_eq_false hn6,Bool.false_or] at h;exact h
      replace P:=Aa m;have bz:¬ (6:Int) < (nN:Int):=by omega
      clear m;go_wp2_with fail;exact ⟨⟨i+1,by omega,by go_num,P.o,by trivial⟩,by simp [intOf];omega⟩
    ·have hd:lb.drop i=[]:=List.drop_eq_nil_of_le (by have:=bd.o;omega)
     have bw:¬ (i:Int) < (F:Int):=by omega
     rw [hd] at A;have m:qn=false:=by rw [<-A];rfl
     subst m;have B:=HP.o;rw [R.o,Bool.false_or] at B;replace HP:=Aa B;clear B hd A;go_wp2_with fail;refine (KB.o _ E.o).mono ?_;rintro e W3 ⟨rfl,K⟩;have ch:=Aa (Ab S.o (Ab E.o K));clear K n0 n1 n2 n3 n4 n5 n6 n7 n8 n9 Y W T KB;go_wp2_with fail;exact ⟨⟨j+1,t+r1,by omega,by go_num,by go_num,by omega,by omega,HP.o,ch.o⟩,by simp [intOf];omega⟩
  ·have hd:ds.drop j=[]:=List.drop_eq_nil_of_le (by have:=HN.o;omega)
   have bv:¬ (j:Int) < (G:Int):=by omega
   rw [hd] at B;have J:Hx (fin=decide (50 < t)):=by show _=_;rw [<-B];rfl
   have S:=Aa hB;clear B hd hB;go_wp2_with fail;go_ret;exact ⟨by rw [J.o];rfl,Ab C.o S.o⟩
end Go.Proofs.YtipngnjffjajpaaGreatDoor.Tx
