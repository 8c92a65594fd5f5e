/- The document's answer: how many commands. -/
import Derived.Test.YtipngnjffjajpaaGreatDoorH25
set_option linter.unusedVariables false
set_option maxHeartbeats 8000000
set_option maxRecDepth 100000
namespace Go.Proofs.YtipngnjffjajpaaGreatDoor.Tx
open Go.RowKit
open Go.Value renaming int -> M, slice -> U, bool -> zc, pointer -> zd, agg -> zf, tuple -> zh
open Go.IntKind renaming i64 -> O
open Go.Obj renaming cells -> ze
open Go.Ending renaming returned -> zg
theorem FR (ke:Nat) (d:D):CU ke d=decide (15 < poK ke d 15):=by
 unfold CU;rw [IJ ke d 15 (by omega),decide_eq_decide];omega
theorem LM (ke:Nat) (rec:List D->Int) (t:Int) (s:D) (h:t<=50):csF ke rec (t,false) s=if DF ke s=true then (51,true) else (t+1+rec (gL 6 s)+rec (gL 7 s),false):=by
 unfold csF;rw [if_neg (by simp;omega)]
theorem GW (ke:Nat) (rec:List D->Int):∀ (l:List D),(l.foldl (csF ke rec) (51,true)).1=51
 | []=>rfl
 | a::l=>by
  rw [List.foldl_cons];have:csF ke rec (51,true) a=(51,true):=by unfold csF;rw [if_pos (Or.inl rfl)]
  rw [this];exact GW ke rec l
theorem Ik (ke:Nat) (rec:List D->Int):∀ (l:List D) (t:Int),50 < t->(l.foldl (csF ke rec) (t,false)).1=t
 | [],t,h=>rfl
 | a::l,t,h=>by
  rw [List.foldl_cons];have:csF ke rec (t,false) a=(t,false):=by unfold csF;rw [if_pos (Or.inr h)]
  rw [this];exact Ik ke rec l t h
theorem Gu (ao:Option Addr) (cap:Nat) (w:World) (deep:Int):Ro 74 #[U ao 0 cap,M O deep] w (M O 0):=by
 go_enter Tryz.func74,Tryz.ntmps74;go_wp2_with fail;go_loopw [5,6] (fun c i wr=>c=M O 0/\i=M O 0/\wr=w) (fun _ _ _=>0)
 case atStart=>exact ⟨rfl,rfl,rfl⟩
 case round=>
  obtain ⟨rfl,rfl,rfl⟩:=hrel;go_wp2_with fail;go_ret;exact ⟨rfl,Below.refl _ _⟩
theorem Ju (ke:Nat):∀ (k:Nat) (l:List D) (ao:Option Addr) (cap:Nat) (w:World) (deep:Int),LS 12 (ZC w ke k) w (U ao l.length cap) l->1<=deep->deep<=7->Ro 74 #[U ao l.length cap,M O deep] w (M O (csK ke k l deep)):=by
 intro k
 induction k with
 | zero=>
  intro l ao cap w deep hc _ _;have hl:l=[]:=by
   cases l with
   | nil=>rfl
   | cons a l=>
    obtain ⟨b,au,-,cs,-,-,hr⟩:=hc.at (j:=0) (by simp);exact hr.elim
  subst hl;exact Gu ao cap w deep
 | succ k ih=>
  intro l ao cap w deep hc g1 g2;have HC:=Aa hc;have IH:=Aa ih;have HL:=hc.max;obtain ⟨fin,N⟩:=nm (csK ke (k+1) l deep);rw [<-N];have g:fin=if l≠[]/\6 < deep then 51 else min 51 (l.foldl (csF ke (fun l=>csK ke k l (deep+1))) (0,false)).1:=by rw [N];rfl
  have ay:(l≠[])=(0 < l.length):=by rw [List.length_pos_iff]
  simp only [ay] at g;obtain ⟨Q,ah⟩:=nm l.length;rw [<-ah] at HL g ⊢;have HN:=Aa ah;clear hc ih N ah ay;by_cases h6:0 < Q/\6 < deep
  ·rw [if_pos h6] at g
   obtain ⟨h7,h8⟩:=h6;have hi:(0:Int) < (Q:Int):=by omega
   have v:=Aa g;clear g;go_enter Tryz.func74,Tryz.ntmps74;go_wp2_with fail;go_ret;exact ⟨by rw [v.o];rfl,Below.refl _ _⟩
  rw [if_neg h6] at g;obtain ⟨F,hF⟩:=nm (l.foldl (csF ke (fun l=>csK ke k l (deep+1))) (0,false)).1;rw [<-hF] at g;have I:=Aa g;have HF:=Aa hF;have H6:=Aa h6;clear g hF h6;by_cases h0:0 < Q
  ·have c9:(0:Int) < (Q:Int):=by omega
   have db:¬ 6 < deep:=fun h=>H6.o ⟨h0,h⟩;clear H6;go_enter Tryz.func74,Tryz.ntmps74;go_wp2_with fail;go_loopw [5,6] (fun c i wr=>∃ (j:Nat) (t:Int),j<=Q/\i=M O j/\c=M O t/\0<=t/\t<=200/\((l.drop j).foldl (csF ke (fun l=>csK ke k l (deep+1))) (t,false)).1=F/\Ov w wr) (fun _ i _=>Q - (intOf i).toNat)
   case atStart=>exact ⟨0,0,Nat.zero_le _,rfl,rfl,by omega,by omega,HF.o.symm,Below.refl _ _⟩
   case round=>
    obtain ⟨j,t,hj,rfl,rfl,t1,t2,m,r⟩:=hrel;by_cases hjl:j < Q
    ·have C:j < l.length:=by have:=HN.o;omega
     have bs:(j:Int) < (Q:Int):=by omega
     by_cases ht0:t<=50
     ·obtain ⟨b,au,rfl,cs,a0,n,hr⟩:=HC.o.at C
      rw [DB C,LM ke _ t _ ht0] at m;generalize l[j]=dj at m hr;obtain ⟨kd,a,x,y,e0,e1,e2,e3,q,q1,q2,e,aA,cA,args,aT,cT,th,aE,cE,el,rfl,rfl,-,-,he,hA,hT,hE⟩:=hr;simp only [gSs] at m;have d0:wr.cell? ⟨b,au+j*12,none⟩=_:=ce1 r (n 0 _ rfl);have d1:=ce1 r (n 1 _ rfl);have d2:=ce1 r (n 2 _ rfl);have d3:=ce1 r (n 3 _ rfl);have d4:=ce1 r (n 4 _ rfl);have d5:=ce1 r (n 5 _ rfl);have d6:=ce1 r (n 6 _ rfl);have d7:=ce1 r (n 7 _ rfl);have d8:=ce1 r (n 8 _ rfl);have d9:=ce1 r (n 9 _ rfl);have a5:=ce1 r (n 10 _ rfl);have a4:=ce1 r (n 11 _ rfl);obtain ⟨qm,ag⟩:=nm (DF ke (stD kd a x y e args th el));rw [<-ag] at m;have Z:qm=(decide (4 < args.length) || decide (15 < poK ke e 15) || args.any (CU ke)):=by rw [ag];unfold DF;simp only [gSs];rw [FR ke e]
      obtain ⟨re,V⟩:=nm (poK ke e 15);obtain ⟨qn,u⟩:=nm (args.any (CU ke));rw [<-V,<-u] at Z;have bv:=GD ke e 15 (by omega);rw [<-V] at bv;obtain ⟨r1,af⟩:=nm (csK ke k th (deep+1));obtain ⟨r2,ae⟩:=nm (csK ke k el (deep+1));have bz:=Dl ke k th (deep+1);have bw:=Dl ke k el (deep+1);rw [<-af] at bz m;rw [<-ae] at bw m;have KP:Hx (∀ X,Ov wr X->Ro 75 #[zf #[M O e0,M O e1,M O e2,.string e3,U q q1 q2],M O 15] X (M O re)):=fun X hX=>by rw [V];exact EU ke _ e X 15 ((he.over r).over hX) (by omega) (by omega)
      have ac:IntKind.i64.wrap (deep+1)=deep+1:=by rw [IntKind.wrap_i64];omega
      have KT:Hx (∀ X,Ov wr X->Ro 74 #[U aT th.length cT,M O (IntKind.i64.wrap (deep+1))] X (M O r1)):=fun X hX=>by rw [af,ac];exact IH.o th aT cT X (deep+1) (Ay hX (Ay r hT)) (by omega) (by omega)
      have KL:Hx (∀ X,Ov wr X->Ro 74 #[U aE el.length cE,M O (IntKind.i64.wrap (deep+1))] X (M O r2)):=fun X hX=>by rw [ae,ac];exact IH.o el aE cE X (deep+1) (Ay hX (Ay r hE)) (by omega) (by omega)
      have cc:=hA.max;have ci:=Aa (B2 r hA);have b9:=Aa u;have ab:=Aa r;have HP:=Aa m;obtain ⟨R,ai⟩:=nm args.length;rw [<-ai] at d9 cc Z;have a6:=Aa ai;have HM:=Aa Z;clear n a0 r C m ag Z V u af ae he hA hT hE ai ac;generalize th.length=nT at a5 KT;generalize el.length=nE at a4 KL;go_wp2_with fail;refine (KP.o _ (bA _ _)).mono ?_;rintro e W2 ⟨rfl,H⟩;have al:Hx (Ov wr W2):=Ab (bA _ _) H;have ak:Hx (Ae [M O kd,M O a,.string x,.string y,M O e0,M O e1,M O e2,.string e3,U q q1 q2,U aA R cA,U aT nT cT,U aE nE cE] W2 wr.heap.size):=Ae.over (AW wr [M O kd,M O a,.string x,.string y,M O e0,M O e1,M O e2,.string e3,U q q1 q2,U aA R cA,U aT nT cT,U aE nE cE] 55) H;clear H d0 d1 d2 d3 d4 d5 d6 d7 d8 d9 a5 a4 KP;generalize wr.heap.size=bq at ak ⊢;obtain ⟨n0,n1,n2,n3,n4,n5,n6,n7,n8,n9,T,S⟩:=AC ak.o;by_cases h15:15 < re
      ·have m:=HP.o
       rw [show qm=true by have h:=HM.o;simp [h15] at h;exact h,if_pos rfl,GW] at m;have v:Hx (fin=51):=by show _=_;rw [I.o,<-m];rfl
       clear m;go_wp2_with fail;go_ret;exact ⟨by rw [v.o];rfl,Ab ab.o al.o⟩
      by_cases h4:4 < R
      ·have m:=HP.o
       rw [show qm=true by have h:=HM.o;simp [h4] at h;exact h,if_pos rfl,GW] at m;have v:Hx (fin=51):=by show _=_;rw [I.o,<-m];rfl
       clear m;have bu:(4:Int) < (R:Int):=by omega
       go_wp2_with fail;go_ret;exact ⟨by rw [v.o];rfl,Ab ab.o al.o⟩
      have bu:¬ (4:Int) < (R:Int):=by omega
      have az:qm=qn:=by have h:=HM.o;simp [h15,h4] at h;exact h
      replace HM:=Aa az;clear az;go_wp2_with fail;clear n0 n1 n2 n3 n4 n5 n6 n7 n8 n9 T S;go_loopw [8] (fun i ws=>∃ (i2:Nat),i2<=R/\i=M O i2/\(args.drop i2).any (CU ke)=qn/\Ov W2 ws) (fun i _=>R - (intOf i).toNat)
      case atStart=>exact ⟨0,Nat.zero_le _,rfl,b9.o.symm,Below.refl _ _⟩
      case round=>
       obtain ⟨i,c8,rfl,A,P⟩:=hrel;have J:=Aa (Ab al.o P);have B:=J.o;obtain ⟨n0,n1,n2,n3,n4,n5,n6,n7,n8,n9,T,S⟩:=AC (ak.o.over P);by_cases hil:i < R
       ·have L:i < args.length:=by have:=a6.o;omega
        have bt:(i:Int) < (R:Int):=by omega
        obtain ⟨ba,oa,rfl,ca,bp,G,Y⟩:=ci.o.at L;rw [List.drop_eq_getElem_cons L,List.any_cons] at A;generalize args[i]=da at A Y;obtain ⟨rp,ad⟩:=nm (poK ke da 15);rw [FR,<-ad] at A;have KQ:Hx (∀ X,Ov wr X->Ro 75 #[.agg ca.toArray,M O 15] X (M O rp)):=fun X hX=>by rw [ad];exact EU ke ca da X 15 ((Y.over B).over hX) (by omega) (by omega)
        obtain ⟨k0,k1,k2,k3,k4,k5,k6,rfl⟩:=Y.cells;have z0:wr.cell? ⟨ba,oa+i*5,none⟩=_:=ce1 B (G 0 _ rfl);have z1:=ce1 B (G 1 _ rfl);have z2:=ce1 B (G 2 _ rfl);have z3:=ce1 B (G 3 _ rfl);have z4:=ce1 B (G 4 _ rfl);have aa:=Aa A;have ce:=Aa P;clear A P B Y G bp ad L;go_wp2_with fail;refine (KQ.o _ (Below.refl _ _)).mono ?_;rintro e W4 ⟨rfl,H⟩;have ch:=Aa (Ab ce.o H);have cg:=Aa (Ab J.o H);clear H z0 z1 z2 z3 z4 n0 n1 n2 n3 n4 n5 n6 n7 n8 n9 T S KQ J;by_cases h15':15 < rp
        ·have u:qn=true:=by have h:=aa.o;simp [h15'] at h;exact h
         subst u;have m:=HP.o;rw [HM.o,if_pos rfl,GW] at m;have v:Hx (fin=51):=by show _=_;rw [I.o,<-m];rfl
         clear m;go_wp2_with fail;go_ret;exact ⟨by rw [v.o];rfl,Ab ab.o cg.o⟩
        ·have u:(args.drop (i+1)).any (CU ke)=qn:=by have h:=aa.o;rw [decide_eq_false h15',Bool.false_or] at h;exact h
         replace aa:=Aa u;clear u;go_wp2_with fail;exact ⟨⟨i+1,by omega,by go_num,aa.o,ch.o⟩,by simp [intOf];omega⟩
       ·have hd:args.drop i=[]:=List.drop_eq_nil_of_le (by have:=a6.o;omega)
        have bt:¬ (i:Int) < (R:Int):=by omega
        rw [hd] at A;have u:qn=false:=by rw [<-A];rfl
        subst u;have m:=HP.o;rw [HM.o,if_neg (by simp),show t+1+r1+r2=t+(1+r1+r2) by omega] at m;replace HP:=Aa m;clear m hd A P B;go_wp2_with fail;refine Go.Proofs.YtipngnjffjajpaaGreatDoor.gS (fun Wz=>Below wr.heap.size wr Wz) (Below.refl _ _).drew fun f=>?_;generalize wr.drew=W at f ⊢;refine kO 0 ?_;refine kO 1 ?_;refine kO 2 ?_;refine kO 3 ?_;refine kO 4 ?_;refine kO 7 ?_;refine kO 8 ?_;refine kO 9 ?_;refine kO 10 ?_;refine rdA 5 rfl fun K hK=>?_;go_simp;refine (KT.o _ (Ab J.o f)).mono ?_;rintro e W5 ⟨rfl,H⟩;have cd:Hx (Ov wr W5):=Ab f H;clear H f KT;go_simp;refine xK hK (cd.o) fun f=>?_;clear hK K;refine kO 6 ?_;refine rdA 11 rfl fun K hK=>?_;go_simp;refine (KL.o _ (Ab J.o f)).mono ?_;rintro e W6 ⟨rfl,H⟩;have a7:Hx (Ov wr W6):=Ab f H;clear H f KL;go_simp;refine xK hK (a7.o) fun f=>?_;clear hK K;refine kO 12 ?_;refine kO 13 ?_;refine kO 14 ?_;refine gE ?_;have cf:Hx (Ov w W6):=Ab ab.o (Ab J.o a7.o);clear f n0 n1 n2 n3 n4 n5 n6 n7 n8 n9 T S;have ax:IntKind.i64.wrap (1+r1)=1+r1:=by rw [IntKind.wrap_i64];omega
        have aw:IntKind.i64.wrap (1+r1+r2)=1+r1+r2:=by rw [IntKind.wrap_i64];omega
        have av:IntKind.i64.wrap (t+(1+r1+r2))=t+(1+r1+r2):=by rw [IntKind.wrap_i64];omega
        rw [ax,aw,av];clear ax aw av;go_wp2_with fail;exact ⟨⟨j+1,t+(1+r1+r2),by omega,by go_num,rfl,by omega,by omega,HP.o,cf.o⟩,by simp [intOf];omega⟩
     ·rw [Ik ke _ _ _ (by omega)] at m
      have v:Hx (fin=min 51 t):=by show _=_;rw [I.o,<-m]
      have HB:=Aa r;clear m r C;by_cases h51:51 < t
      ·have E:fin=51:=by rw [v.o];omega
       replace v:=Aa E;clear E;go_wp2_with fail;go_ret;exact ⟨by rw [v.o];rfl,HB.o⟩
      ·have E:fin=t:=by rw [v.o];omega
       replace v:=Aa E;clear E;go_wp2_with fail;go_ret;exact ⟨by rw [v.o];rfl,HB.o⟩
    ·have hd:l.drop j=[]:=List.drop_eq_nil_of_le (by have:=HN.o;omega)
     rw [hd] at m;have v:Hx (fin=min 51 t):=by show _=_;rw [I.o,<-m];rfl
     have HB:=Aa r;have bs:¬ (j:Int) < (Q:Int):=by omega
     clear m r hd;by_cases h51:51 < t
     ·have E:fin=51:=by rw [v.o];omega
      replace v:=Aa E;clear E;go_wp2_with fail;go_ret;exact ⟨by rw [v.o];rfl,HB.o⟩
     ·have E:fin=t:=by rw [v.o];omega
      replace v:=Aa E;clear E;go_wp2_with fail;go_ret;exact ⟨by rw [v.o];rfl,HB.o⟩
  ·have br:l=[]:=List.length_eq_zero_iff.1 (by have:=HN.o;omega)
   have hz:Q=0:=by omega
   have E:fin=0:=by rw [I.o,HF.o,br];rfl
   rw [E,hz];exact Gu ao cap w deep
end Go.Proofs.YtipngnjffjajpaaGreatDoor.Tx
