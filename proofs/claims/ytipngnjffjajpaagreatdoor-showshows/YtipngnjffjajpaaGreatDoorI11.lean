/- The document's answer: how many commands. -/
import Derived.Test.YtipngnjffjajpaaGreatDoorI09
import Derived.Test.YtipngnjffjajpaaGreatDoorI10
set_option linter.unusedVariables false
set_option maxHeartbeats 8000000
set_option maxRecDepth 100000
namespace Go.Proofs.YtipngnjffjajpaaGreatDoor.Tx
open Go.RowKit
open Go.Value renaming int -> A, slice -> O, bool -> zc, agg -> ze, pointer -> zf, tuple -> zh
open Go.IntKind renaming i64 -> J
open Go.Obj renaming cells -> zd
open Go.Ending renaming returned -> zg
theorem FZ (ke:Nat) (d:D):B4 ke d=decide (15 < poK ke d 15):=by
 unfold B4;rw [I9 ke d 15 (by omega),decide_eq_decide];omega
theorem ML (ke:Nat) (rec:List D->Int) (t:Int) (s:D) (h:t<=50):csF ke rec (t,false) s=if Cm ke s=true then (51,true) else (t+1+rec (gL 6 s)+rec (gL 7 s),false):=by
 unfold csF;rw [if_neg (by simp;omega)]
theorem Hm (ke:Nat) (rec:List D->Int):∀ (l:List D),(l.foldl (csF ke rec) (51,true)).1=51
 | []=>rfl
 | a::l=>by
  rw [List.foldl_cons];have:csF ke rec (51,true) a=(51,true):=by unfold csF;rw [if_pos (Or.inl rfl)]
  rw [this];exact Hm ke rec l
theorem IQ (ke:Nat) (rec:List D->Int):∀ (l:List D) (t:Int),50 < t->(l.foldl (csF ke rec) (t,false)).1=t
 | [],t,h=>rfl
 | a::l,t,h=>by
  rw [List.foldl_cons];have:csF ke rec (t,false) a=(t,false):=by unfold csF;rw [if_pos (Or.inr h)]
  rw [this];exact IQ ke rec l t h
theorem GK (ao:Option Addr) (cap:Nat) (w:World) (deep:Int):Ro 74 #[O ao 0 cap,A J deep] w (A J 0):=by
 go_enter Tryz.func74,Tryz.ntmps74;go_wp2_with fail;go_loopw [5,6] (fun c i wr=>c=A J 0/\i=A J 0/\wr=w) (fun _ _ _=>0)
 case atStart=>exact ⟨rfl,rfl,rfl⟩
 case round=>
  obtain ⟨rfl,rfl,rfl⟩:=hrel;go_wp2_with fail;go_ret;exact ⟨rfl,Below.refl _ _⟩
theorem JX (ke:Nat):∀ (k:Nat) (l:List D) (ao:Option Addr) (cap:Nat) (w:World) (deep:Int),LS 12 (ZC w ke k) w (O ao l.length cap) l->1<=deep->deep<=7->Ro 74 #[O ao l.length cap,A J deep] w (A J (csK ke k l deep)):=by
 intro k
 induction k with
 | zero=>
  intro l ao cap w deep hc _ _;have hl:l=[]:=by
   cases l with
   | nil=>rfl
   | cons a l=>
    obtain ⟨b,ay,-,cs,-,-,hr⟩:=hc.at (j:=0) (by simp);exact hr.elim
  subst hl;exact GK ao cap w deep
 | succ k ih=>
  intro l ao cap w deep hc g1 g2;have HC:=Aa hc;have IH:=Aa ih;have HL:=hc.max;obtain ⟨u,R⟩:=nm (csK ke (k+1) l deep);rw [<-R];have g:u=if l≠[]/\6 < deep then 51 else min 51 (l.foldl (csF ke (fun l=>csK ke k l (deep+1))) (0,false)).1:=by rw [R];rfl
  have a2:(l≠[])=(0 < l.length):=by rw [List.length_pos_iff]
  simp only [a2] at g;obtain ⟨U,al⟩:=nm l.length;rw [<-al] at HL g ⊢;have HN:=Aa al;clear hc ih R al a2;by_cases h6:0 < U/\6 < deep
  ·rw [if_pos h6] at g
   obtain ⟨h7,h8⟩:=h6;have hi:(0:Int) < (U:Int):=by omega
   have C:=Aa g;clear g;go_enter Tryz.func74,Tryz.ntmps74;go_wp2_with fail;go_ret;exact ⟨by rw [C.o];rfl,Below.refl _ _⟩
  rw [if_neg h6] at g;obtain ⟨F,hF⟩:=nm (l.foldl (csF ke (fun l=>csK ke k l (deep+1))) (0,false)).1;rw [<-hF] at g;have N:=Aa g;have HF:=Aa hF;have H6:=Aa h6;clear g hF h6;by_cases h0:0 < U
  ·have dg:(0:Int) < (U:Int):=by omega
   have dh:¬ 6 < deep:=fun h=>H6.o ⟨h0,h⟩;clear H6;go_enter Tryz.func74,Tryz.ntmps74;go_wp2_with fail;go_loopw [5,6] (fun c i wr=>∃ (j:Nat) (t:Int),j<=U/\i=A J j/\c=A J t/\0<=t/\t<=200/\((l.drop j).foldl (csF ke (fun l=>csK ke k l (deep+1))) (t,false)).1=F/\Ov w wr) (fun _ i _=>U - (intOf i).toNat)
   case atStart=>exact ⟨0,0,Nat.zero_le _,rfl,rfl,by omega,by omega,HF.o.symm,Below.refl _ _⟩
   case round=>
    obtain ⟨j,t,hj,rfl,rfl,t1,t2,n,v⟩:=hrel;by_cases hjl:j < U
    ·have H:j < l.length:=by have:=HN.o;omega
     have b1:(j:Int) < (U:Int):=by omega
     by_cases ht0:t<=50
     ·obtain ⟨b,ay,rfl,cs,a4,r,hr⟩:=HC.o.at H
      rw [Dr H,ML ke _ t _ ht0] at n;generalize l[j]=dj at n hr;obtain ⟨kd,a,x,y,e0,e1,e2,e3,q,q1,q2,e,aA,cA,args,aT,cT,th,aE,cE,el,rfl,rfl,-,-,he,hA,hT,hE⟩:=hr;simp only [gSs] at n;have d0:wr.cell? ⟨b,ay+j*12,none⟩=_:=ce1 v (r 0 _ rfl);have d1:=ce1 v (r 1 _ rfl);have d2:=ce1 v (r 2 _ rfl);have d3:=ce1 v (r 3 _ rfl);have d4:=ce1 v (r 4 _ rfl);have d5:=ce1 v (r 5 _ rfl);have d6:=ce1 v (r 6 _ rfl);have d7:=ce1 v (r 7 _ rfl);have d8:=ce1 v (r 8 _ rfl);have d9:=ce1 v (r 9 _ rfl);have a9:=ce1 v (r 10 _ rfl);have a8:=ce1 v (r 11 _ rfl);obtain ⟨qm,ak⟩:=nm (Cm ke (stD kd a x y e args th el));rw [<-ak] at n;have ac:qm=(decide (4 < args.length) || decide (15 < poK ke e 15) || args.any (B4 ke)):=by rw [ak];unfold Cm;simp only [gSs];rw [FZ ke e]
      obtain ⟨re,aa⟩:=nm (poK ke e 15);obtain ⟨qn,B⟩:=nm (args.any (B4 ke));rw [<-aa,<-B] at ac;have b4:=GV ke e 15 (by omega);rw [<-aa] at b4;obtain ⟨T,aj⟩:=nm (csK ke k th (deep+1));obtain ⟨r2,ai⟩:=nm (csK ke k el (deep+1));have b6:=CM ke k th (deep+1);have b5:=CM ke k el (deep+1);rw [<-aj] at b6 n;rw [<-ai] at b5 n;have KP:Hx (∀ X,Ov wr X->Ro 75 #[ze #[A J e0,A J e1,A J e2,.string e3,O q q1 q2],A J 15] X (A J re)):=fun X hX=>by rw [aa];exact E4 ke _ e X 15 ((he.over v).over hX) (by omega) (by omega)
      have ag:IntKind.i64.wrap (deep+1)=deep+1:=by rw [IntKind.wrap_i64];omega
      have KT:Hx (∀ X,Ov wr X->Ro 74 #[O aT th.length cT,A J (IntKind.i64.wrap (deep+1))] X (A J T)):=fun X hX=>by rw [aj,ag];exact IH.o th aT cT X (deep+1) (Ao hX (Ao v hT)) (by omega) (by omega)
      have KL:Hx (∀ X,Ov wr X->Ro 74 #[O aE el.length cE,A J (IntKind.i64.wrap (deep+1))] X (A J r2)):=fun X hX=>by rw [ai,ag];exact IH.o el aE cE X (deep+1) (Ao hX (Ao v hE)) (by omega) (by omega)
      have ci:=hA.max;have co:=Aa (Co v hA);have cg:=Aa B;have ae:=Aa v;have HP:=Aa n;obtain ⟨V,am⟩:=nm args.length;rw [<-am] at d9 ci ac;have bb:=Aa am;have HM:=Aa ac;clear r a4 v H n ak ac aa B aj ai he hA hT hE am ag;generalize th.length=nT at a9 KT;generalize el.length=nE at a8 KL;go_wp2_with fail;refine (KP.o _ (bA _ _)).mono ?_;rintro e W2 ⟨rfl,M⟩;have aq:Hx (Ov wr W2):=Ab (bA _ _) M;have ap:Hx (Ac [A J kd,A J a,.string x,.string y,A J e0,A J e1,A J e2,.string e3,O q q1 q2,O aA V cA,O aT nT cT,O aE nE cE] W2 wr.heap.size):=Ac.over (Ai wr [A J kd,A J a,.string x,.string y,A J e0,A J e1,A J e2,.string e3,O q q1 q2,O aA V cA,O aT nT cT,O aE nE cE] 55) M;clear M d0 d1 d2 d3 d4 d5 d6 d7 d8 d9 a9 a8 KP;generalize wr.heap.size=bq at ap ⊢;obtain ⟨n0,n1,n2,n3,n4,n5,n6,n7,n8,n9,Z,Y⟩:=An ap.o;by_cases h15:15 < re
      ·have n:=HP.o
       rw [show qm=true by have h:=HM.o;simp [h15] at h;exact h,if_pos rfl,Hm] at n;have C:Hx (u=51):=by show _=_;rw [N.o,<-n];rfl
       clear n;go_wp2_with fail;go_ret;exact ⟨by rw [C.o];rfl,Ab ae.o aq.o⟩
      by_cases h4:4 < V
      ·have n:=HP.o
       rw [show qm=true by have h:=HM.o;simp [h4] at h;exact h,if_pos rfl,Hm] at n;have C:Hx (u=51):=by show _=_;rw [N.o,<-n];rfl
       clear n;have b3:(4:Int) < (V:Int):=by omega
       go_wp2_with fail;go_ret;exact ⟨by rw [C.o];rfl,Ab ae.o aq.o⟩
      have b3:¬ (4:Int) < (V:Int):=by omega
      have a3:qm=qn:=by have h:=HM.o;simp [h15,h4] at h;exact h
      replace HM:=Aa a3;clear a3;go_wp2_with fail;clear n0 n1 n2 n3 n4 n5 n6 n7 n8 n9 Z Y;go_loopw [8] (fun i ws=>∃ (i2:Nat),i2<=V/\i=A J i2/\(args.drop i2).any (B4 ke)=qn/\Ov W2 ws) (fun i _=>V - (intOf i).toNat)
      case atStart=>exact ⟨0,Nat.zero_le _,rfl,cg.o.symm,Below.refl _ _⟩
      case round=>
       obtain ⟨i,df,rfl,E,S⟩:=hrel;have P:=Aa (Ab aq.o S);have G:=P.o;obtain ⟨n0,n1,n2,n3,n4,n5,n6,n7,n8,n9,Z,Y⟩:=An (ap.o.over S);by_cases hil:i < V
       ·have Q:i < args.length:=by have:=bb.o;omega
        have b2:(i:Int) < (V:Int):=by omega
        obtain ⟨ba,oa,rfl,ca,bz,L,ab⟩:=co.o.at Q;rw [List.drop_eq_getElem_cons Q,List.any_cons] at E;generalize args[i]=da at E ab;obtain ⟨rp,ah⟩:=nm (poK ke da 15);rw [FZ,<-ah] at E;have KQ:Hx (∀ X,Ov wr X->Ro 75 #[.agg ca.toArray,A J 15] X (A J rp)):=fun X hX=>by rw [ah];exact E4 ke ca da X 15 ((ab.over G).over hX) (by omega) (by omega)
        obtain ⟨k0,k1,k2,k3,k4,k5,k6,rfl⟩:=ab.cells;have z0:wr.cell? ⟨ba,oa+i*5,none⟩=_:=ce1 G (L 0 _ rfl);have z1:=ce1 G (L 1 _ rfl);have z2:=ce1 G (L 2 _ rfl);have z3:=ce1 G (L 3 _ rfl);have z4:=ce1 G (L 4 _ rfl);have ad:=Aa E;have ck:=Aa S;clear E S G ab L bz ah Q;go_wp2_with fail;refine (KQ.o _ (Below.refl _ _)).mono ?_;rintro e W4 ⟨rfl,M⟩;have cn:=Aa (Ab ck.o M);have cm:=Aa (Ab P.o M);clear M z0 z1 z2 z3 z4 n0 n1 n2 n3 n4 n5 n6 n7 n8 n9 Z Y KQ P;by_cases h15':15 < rp
        ·have B:qn=true:=by have h:=ad.o;simp [h15'] at h;exact h
         subst B;have n:=HP.o;rw [HM.o,if_pos rfl,Hm] at n;have C:Hx (u=51):=by show _=_;rw [N.o,<-n];rfl
         clear n;go_wp2_with fail;go_ret;exact ⟨by rw [C.o];rfl,Ab ae.o cm.o⟩
        ·have B:(args.drop (i+1)).any (B4 ke)=qn:=by have h:=ad.o;rw [decide_eq_false h15',Bool.false_or] at h;exact h
         replace ad:=Aa B;clear B;go_wp2_with fail;exact ⟨⟨i+1,by omega,by go_num,ad.o,cn.o⟩,by simp [intOf];omega⟩
       ·have hd:args.drop i=[]:=List.drop_eq_nil_of_le (by have:=bb.o;omega)
        have b2:¬ (i:Int) < (V:Int):=by omega
        rw [hd] at E;have B:qn=false:=by rw [<-E];rfl
        subst B;have n:=HP.o;rw [HM.o,if_neg (by simp),show t+1+T+r2=t+(1+T+r2) by omega] at n;replace HP:=Aa n;clear n hd E S G;go_wp2_with fail;refine Go.Proofs.YtipngnjffjajpaaGreatDoor.gS (fun Wz=>Below wr.heap.size wr Wz) (Below.refl _ _).drew fun f=>?_;generalize wr.drew=W at f ⊢;refine kO 0 ?_;refine kO 1 ?_;refine kO 2 ?_;refine kO 3 ?_;refine kO 4 ?_;refine kO 7 ?_;refine kO 8 ?_;refine kO 9 ?_;refine kO 10 ?_;refine rdA 5 rfl fun K hK=>?_;go_simp;refine (KT.o _ (Ab P.o f)).mono ?_;rintro e W5 ⟨rfl,M⟩;have cj:Hx (Ov wr W5):=Ab f M;clear M f KT;go_simp;refine xK hK (cj.o) fun f=>?_;clear hK K;refine kO 6 ?_;refine rdA 11 rfl fun K hK=>?_;go_simp;refine (KL.o _ (Ab P.o f)).mono ?_;rintro e W6 ⟨rfl,M⟩;have bc:Hx (Ov wr W6):=Ab f M;clear M f KL;go_simp;refine xK hK (bc.o) fun f=>?_;clear hK K;refine kO 12 ?_;refine kO 13 ?_;refine kO 14 ?_;refine gE ?_;have cl:Hx (Ov w W6):=Ab ae.o (Ab P.o bc.o);clear f n0 n1 n2 n3 n4 n5 n6 n7 n8 n9 Z Y;have a1:IntKind.i64.wrap (1+T)=1+T:=by rw [IntKind.wrap_i64];omega
        have a0:IntKind.i64.wrap (1+T+r2)=1+T+r2:=by rw [IntKind.wrap_i64];omega
        have az:IntKind.i64.wrap (t+(1+T+r2))=t+(1+T+r2):=by rw [IntKind.wrap_i64];omega
        rw [a1,a0,az];clear a1 a0 az;go_wp2_with fail;exact ⟨⟨j+1,t+(1+T+r2),by omega,by go_num,rfl,by omega,by omega,HP.o,cl.o⟩,by simp [intOf];omega⟩
     ·rw [IQ ke _ _ _ (by omega)] at n
      have C:Hx (u=min 51 t):=by show _=_;rw [N.o,<-n]
      have HB:=Aa v;clear n v H;by_cases h51:51 < t
      ·have I:u=51:=by rw [C.o];omega
       replace C:=Aa I;clear I;go_wp2_with fail;go_ret;exact ⟨by rw [C.o];rfl,HB.o⟩
      ·have I:u=t:=by rw [C.o];omega
       replace C:=Aa I;clear I;go_wp2_with fail;go_ret;exact ⟨by rw [C.o];rfl,HB.o⟩
    ·have hd:l.drop j=[]:=List.drop_eq_nil_of_le (by have:=HN.o;omega)
     rw [hd] at n;have C:Hx (u=min 51 t):=by show _=_;rw [N.o,<-n];rfl
     have HB:=Aa v;have b1:¬ (j:Int) < (U:Int):=by omega
     clear n v hd;by_cases h51:51 < t
     ·have I:u=51:=by rw [C.o];omega
      replace C:=Aa I;clear I;go_wp2_with fail;go_ret;exact ⟨by rw [C.o];rfl,HB.o⟩
     ·have I:u=t:=by rw [C.o];omega
      replace C:=Aa I;clear I;go_wp2_with fail;go_ret;exact ⟨by rw [C.o];rfl,HB.o⟩
  ·have b0:l=[]:=List.length_eq_zero_iff.1 (by have:=HN.o;omega)
   have hz:U=0:=by omega
   have I:u=0:=by rw [N.o,HF.o,b0];rfl
   rw [I,hz];exact GK ao cap w deep
theorem IV (ke kc:Nat) (ds l:List D) (v:Value) (w:World) (h:ZT w ke kc v ds l):Ro 37 #[v] w (zc (It ke kc ds l)):=by
 obtain ⟨ao,c,a2,c2,rfl,hD,hM⟩:=h;obtain ⟨F,g⟩:=nm (It ke kc ds l);rw [<-g];unfold It at g;have HD:=Aa hD;have HL:=hD.max;obtain ⟨r0,ae⟩:=nm (csK ke kc l 1);have cc:=CM ke kc l 1;rw [<-ae] at g cc;have KM:Hx (∀ X,Ov w X->Ro 74 #[O a2 l.length c2,A J 1] X (A J r0)):=fun X hX=>by rw [ae];exact JX ke kc l a2 c2 X 1 (Ao hX hM) (by omega) (by omega)
 obtain ⟨L,ag⟩:=nm ds.length;rw [<-ag] at HL g ⊢;have HN:=Aa ag;clear hD hM ag ae;generalize l.length=nl at KM ⊢;obtain ⟨V,hV⟩:=nm (w.alloc (zd #[O ao L c,O a2 nl c2] 25));have U:Hx (Ov w V):=by show Ov _ _;rw [hV];exact bA _ _
 have bf:Hx (Ac [O ao L c,O a2 nl c2] V w.heap.size):=by show Ac _ _ _;rw [hV];exact Ai w [O ao L c,O a2 nl c2] 25
 by_cases h30:30 < L
 ·have hi:(30:Int) < (L:Int):=by omega
  have P:Hx (F=true):=by show _=_;rw [g];simp [h30]
  clear g;go_enter Tryz.func37,Tryz.ntmps37;go_wp2_with fail;go_ret;exact ⟨by rw [P.o];rfl,by rw [<-hV];exact U.o⟩
 rw [decide_eq_false h30,Bool.false_or] at g;have HF:=Aa g;have hi:¬ (30:Int) < (L:Int):=by omega
 clear g;go_enter Tryz.func37,Tryz.ntmps37;go_wp2_with fail;rw [<-hV];clear hV;refine (KM.o _ U.o).mono ?_;rintro e W1 ⟨rfl,Q⟩;have H:Hx (Ov w W1):=Ab U.o Q;have S:=Aa (bf.o.over Q);clear Q KM U bf;generalize w.heap.size=bt at S ⊢;obtain ⟨s0,s1⟩:=rc2 S.o;go_wp2_with fail;clear s0 s1;go_loopw [3,4] (fun c i wr=>∃ (j:Nat) (t:Int),j<=L/\i=A J j/\c=A J t/\0<=t/\t<=51+51*j/\((ds.drop j).any (Cn ke) || decide (50 < (ds.drop j).foldl (fun n d=>n+csK ke kc (gL 7 d) 1) t))=F/\Ov W1 wr) (fun _ i _=>L - (intOf i).toNat)
 case atStart=>exact ⟨0,r0,Nat.zero_le _,rfl,rfl,by omega,by omega,HF.o.symm,Below.refl _ _⟩
 case round=>
  obtain ⟨j,t,hj,rfl,rfl,t1,t2,G,hB⟩:=hrel;obtain ⟨s0,s1⟩:=rc2 (S.o.over hB);by_cases hjl:j < L
  ·have M:j < ds.length:=by have:=HN.o;omega
   have b5:(j:Int) < (L:Int):=by omega
   obtain ⟨b,bp,rfl,cs,ay,u,hr⟩:=HD.o.at M;rw [List.drop_eq_getElem_cons M,List.any_cons,List.foldl_cons] at G;generalize ds[j]=dj at G hr;have f:Ov w wr:=Ab H.o hB;obtain ⟨kd,a,x,y,gv,aL,cL,lb,aP,cP,ps,aB,cB,C,e0,e1,e2,e3,q,q1,q2,r,rfl,rfl,-,-,ai,a4,a5,hR⟩:=hr;simp only [gDd] at G;obtain ⟨r1,ad⟩:=nm (csK ke kc C 1);have cb:=CM ke kc C 1;rw [<-ad] at G cb;have KB:Hx (∀ X,Ov wr X->Ro 74 #[O aB C.length cB,A J 1] X (A J r1)):=fun X hX=>by rw [ad];exact JX ke kc C aB cB X 1 (Ao hX (Ao f a5)) (by omega) (by omega)
   obtain ⟨qm,af⟩:=nm (Cn ke (deD kd a x y gv lb ps C r));rw [<-af] at G;have R:qm=(decide (4 < lb.length) || decide (4 < ps.length) || decide (15 < poK ke r 15) || lb.any (fun p=>decide (6 < (gL 3 p).length))):=by rw [af];unfold Cn;simp only [gDd,List.length_map];rw [FZ ke r]
   obtain ⟨re,ac⟩:=nm (poK ke r 15);obtain ⟨qn,B⟩:=nm (lb.any (fun p=>decide (6 < (gL 3 p).length)));rw [<-ac,<-B] at R;have KP:Hx (∀ X,Ov wr X->Ro 75 #[ze #[A J e0,A J e1,A J e2,.string e3,O q q1 q2],A J 15] X (A J re)):=fun X hX=>by rw [ac];exact E4 ke _ r X 15 ((hR.over f).over hX) (by omega) (by omega)
   have co:=ai.max;have cm:=a4.max;have cq:=Aa (CF f ai);have cl:=Aa B;have d0:wr.cell? ⟨b,bp+j*13,none⟩=_:=ce1 f (u 0 _ rfl);have d1:=ce1 f (u 1 _ rfl);have d2:=ce1 f (u 2 _ rfl);have d3:=ce1 f (u 3 _ rfl);have d4:=ce1 f (u 4 _ rfl);have d5:=ce1 f (u 5 _ rfl);have d6:=ce1 f (u 6 _ rfl);have d7:=ce1 f (u 7 _ rfl);have d8:=ce1 f (u 8 _ rfl);have d9:=ce1 f (u 9 _ rfl);have cg:=ce1 f (u 10 _ rfl);have cf:=ce1 f (u 11 _ rfl);have ce:=ce1 f (u 12 _ rfl);have Y:=Aa hB;have HP:=Aa G;obtain ⟨K,ah⟩:=nm lb.length;rw [<-ah] at d5 co R;have bh:=Aa ah;have W:=Aa R;clear u ay hB M a5 af R ac B f ad G ai a4 hR ah;generalize ps.length=nP at cm W d6;generalize C.length=nB at KB d7;have bg:Hx (Ac [A J kd,A J a,.string x,.string y,zc gv,O aL K cL,O aP nP cP,O aB nB cB,A J e0,A J e1,A J e2,.string e3,O q q1 q2] (wr.alloc (zd #[A J kd,A J a,.string x,.string y,zc gv,O aL K cL,O aP nP cP,O aB nB cB,A J e0,A J e1,A J e2,.string e3,O q q1 q2] 51)) wr.heap.size):=Ai wr [A J kd,A J a,.string x,.string y,zc gv,O aL K cL,O aP nP cP,O aB nB cB,A J e0,A J e1,A J e2,.string e3,O q q1 q2] 51;by_cases h4:4 < K
   ·have P:Hx (F=true):=by have h:=HP.o;rw [show qm=true by have h:=W.o;simp [h4] at h;exact h] at h;simp at h;exact h
    have b9:(4:Int) < (K:Int):=by omega
    go_wp2_with fail;go_ret;exact ⟨by rw [P.o];rfl,Ab H.o (Ab Y.o (bA _ _))⟩
   have b9:¬ (4:Int) < (K:Int):=by omega
   by_cases h5:4 < nP
   ·have P:Hx (F=true):=by have h:=HP.o;rw [show qm=true by have h:=W.o;simp [h5] at h;exact h] at h;simp at h;exact h
    have b8:(4:Int) < (nP:Int):=by omega
    go_wp2_with fail;go_ret;exact ⟨by rw [P.o];rfl,Ab H.o (Ab Y.o (bA _ _))⟩
   have b8:¬ (4:Int) < (nP:Int):=by omega
   go_wp2_with fail;refine (KP.o _ (bA _ _)).mono ?_;rintro e W2 ⟨rfl,Q⟩;have I:Hx (Ov wr W2):=Ab (bA _ _) Q;have aj:Hx (Ac [A J kd,A J a,.string x,.string y,zc gv,O aL K cL,O aP nP cP,O aB nB cB,A J e0,A J e1,A J e2,.string e3,O q q1 q2] W2 wr.heap.size):=bg.o.over Q;have di:=Aa ((S.o.over Y.o).over I.o);clear Q d0 d1 d2 d3 d4 d5 d6 d7 d8 d9 cg cf ce KP bg s0 s1;generalize wr.heap.size=bq at aj ⊢;obtain ⟨n0,n1,n2,n3,n4,n5,n6,n7,n8,n9,ab,aa,Z⟩:=Ah aj.o;by_cases h15:15 < re
   ·have P:Hx (F=true):=by have h:=HP.o;rw [show qm=true by have h:=W.o;simp [h15] at h;exact h] at h;simp at h;exact h
    go_wp2_with fail;go_ret;exact ⟨by rw [P.o];rfl,Ab H.o (Ab Y.o I.o)⟩
   have ax:qm=qn:=by have h:=W.o;simp [h15,h4,h5] at h;exact h
   replace W:=Aa ax;clear ax;go_wp2_with fail;clear n0 n1 n2 n3 n4 n5 n6 n7 n8 n9 ab aa Z;go_loopw [6] (fun i ws=>∃ (i2:Nat),i2<=K/\i=A J i2/\(lb.drop i2).any (fun p=>decide (6 < (gL 3 p).length))=qn/\ws=W2) (fun i _=>K - (intOf i).toNat)
   case atStart=>exact ⟨0,Nat.zero_le _,rfl,cl.o.symm,rfl⟩
   case round=>
    obtain ⟨i,c8,rfl,E,rfl⟩:=hrel;obtain ⟨n0,n1,n2,n3,n4,n5,n6,n7,n8,n9,ab,aa,Z⟩:=Ah aj.o;by_cases hil:i < K
    ·have N:i < lb.length:=by have:=bh.o;omega
     have b6:(i:Int) < (K:Int):=by omega
     obtain ⟨ba,oa,rfl,ca,b4,a0,aw⟩:=cq.o.at N;rw [List.drop_eq_getElem_cons N,List.any_cons] at E;generalize lb[i]=da at E aw;have a6:=I.o;obtain ⟨pa,po,pw,pn,pc,ns,rfl,rfl,-,hN⟩:=aw;simp only [gPp,List.length_map] at E;have cn:=hN.max;have z3:=ce1 a6 (a0 3 _ rfl);generalize ns.length=nN at z3 E cn;have T:=Aa E;clear E a6 a0 b4 N hN;by_cases hn6:6 < nN
     ·have B:qn=true:=by have h:=T.o;simp [hn6] at h;exact h
      subst B;have P:Hx (F=true):=by have h:=HP.o;rw [W.o] at h;simp at h;exact h
      have b7:(6:Int) < (nN:Int):=by omega
      go_wp2_with fail;go_ret;exact ⟨by rw [P.o];rfl,Ab H.o (Ab Y.o I.o)⟩
     ·have B:(lb.drop (i+1)).any (fun p=>decide (6 < (gL 3 p).length))=qn:=by have h:=T.o;rw [decide_eq_false hn6,Bool.false_or] at h;exact h
      replace T:=Aa B;have b7:¬ (6:Int) < (nN:Int):=by omega
      clear B;go_wp2_with fail;exact ⟨⟨i+1,by omega,by go_num,T.o,by trivial⟩,by simp [intOf];omega⟩
    ·have hd:lb.drop i=[]:=List.drop_eq_nil_of_le (by have:=bh.o;omega)
     have b6:¬ (i:Int) < (K:Int):=by omega
     rw [hd] at E;have B:qn=false:=by rw [<-E];rfl
     subst B;have G:=HP.o;rw [W.o,Bool.false_or] at G;replace HP:=Aa G;clear G hd E;go_wp2_with fail;refine (KB.o _ I.o).mono ?_;rintro e W3 ⟨rfl,Q⟩;have cp:=Aa (Ab Y.o (Ab I.o Q));clear Q n0 n1 n2 n3 n4 n5 n6 n7 n8 n9 ab aa Z KB;go_wp2_with fail;exact ⟨⟨j+1,t+r1,by omega,by go_num,by go_num,by omega,by omega,HP.o,cp.o⟩,by simp [intOf];omega⟩
  ·have hd:ds.drop j=[]:=List.drop_eq_nil_of_le (by have:=HN.o;omega)
   have b5:¬ (j:Int) < (L:Int):=by omega
   rw [hd] at G;have P:Hx (F=decide (50 < t)):=by show _=_;rw [<-G];rfl
   have Y:=Aa hB;clear G hd hB;go_wp2_with fail;go_ret;exact ⟨by rw [P.o];rfl,Ab H.o Y.o⟩
theorem Ji (kd a:Int) (x y:ByteArray) (gv:Bool) (aL:Option Addr) (nL cL:Nat) (aP:Option Addr) (nP cP:Nat) (aB:Option Addr) (nB cB:Nat) (e0 e1 e2:Int) (e3:ByteArray) (q:Option Addr) (q1 q2:Nat) (w:World) (hk:¬ (1<=kd/\kd<=7)):Ro 38 #[ze #[A J kd,A J a,.string x,.string y,zc gv,O aL nL cL,O aP nP cP,O aB nB cB,A J e0,A J e1,A J e2,.string e3,O q q1 q2]] w (zc false):=by
 have H:Hx (∀ X,Ov w X->Ro 76 #[A J kd,A J 1,A J 7] X (zc false)):=fun X _=>by
  have h:=AB kd 1 7 X;rw [show (decide (1<=kd) && decide (kd<=7))=false by simp;omega] at h;exact h
 clear hk;go_enter Tryz.func38,Tryz.ntmps38;go_wp2_with fail;refine (H.o _ (bA w (zd #[A J kd,A J a,.string x,.string y,zc gv,O aL nL cL,O aP nP cP,O aB nB cB,A J e0,A J e1,A J e2,.string e3,O q q1 q2] 51))).mono ?_;rintro e l ⟨rfl,i⟩;have j:Hx (Ov w l):=Ab (bA w (zd #[A J kd,A J a,.string x,.string y,zc gv,O aL nL cL,O aP nP cP,O aB nB cB,A J e0,A J e1,A J e2,.string e3,O q q1 q2] 51)) i;have b:Hx (Ac [A J kd,A J a,.string x,.string y,zc gv,O aL nL cL,O aP nP cP,O aB nB cB,A J e0,A J e1,A J e2,.string e3,O q q1 q2] l w.heap.size):=Ac.over (Ai w [A J kd,A J a,.string x,.string y,zc gv,O aL nL cL,O aP nP cP,O aB nB cB,A J e0,A J e1,A J e2,.string e3,O q q1 q2] 51) i;clear i  H;obtain ⟨G,F,E,C,B,v,u,t,r,n,g,f,c⟩:=Ah b.o;go_wp2_with fail;go_ret;exact ⟨rfl,j.o⟩
theorem My (ke kc:Nat) (cs:List Value) (d:D) (w:World) (h:ZD w ke kc cs d):Ro 38 #[.agg cs.toArray] w (zc (dfK ke kc d)):=by
 obtain ⟨L,a,x,y,M,C,v,i,B,u,g,E,A,b,t,n,l,j,q,f,c,r,rfl,rfl,G,F,J,I,K,H⟩:=h;by_cases hk:1<=L/\L<=7
 ·have O:L=1\/L=2\/L=3\/L=4\/L=5\/L=6\/L=7:=by omega
  clear hk;rcases O with rfl | rfl | rfl | rfl | rfl | rfl | rfl <;> cases M
  ·exact Ld ke kc a x y C v i B u g E A b t n l j q f c r w G F J I K H
  ·exact Lc ke kc a x y C v i B u g E A b t n l j q f c r w G F J I K H
  ·exact Lb ke kc a x y C v i B u g E A b t n l j q f c r w G F J I K H
  ·exact La ke kc a x y C v i B u g E A b t n l j q f c r w G F J I K H
  ·exact K9 ke kc a x y C v i B u g E A b t n l j q f c r w G F J I K H
  ·exact K8 ke kc a x y C v i B u g E A b t n l j q f c r w G F J I K H
  ·exact K7 ke kc a x y C v i B u g E A b t n l j q f c r w G F J I K H
  ·exact K6 ke kc a x y C v i B u g E A b t n l j q f c r w G F J I K H
  ·exact K5 ke kc a x y C v i B u g E A b t n l j q f c r w G F J I K H
  ·exact K4 ke kc a x y C v i B u g E A b t n l j q f c r w G F J I K H
  ·exact K3 ke kc a x y C v i B u g E A b t n l j q f c r w G F J I K H
  ·exact K0 ke kc a x y C v i B u g E A b t n l j q f c r w G F J I K H
  ·exact KU ke kc a x y C v i B u g E A b t n l j q f c r w G F J I K H
  ·exact Kz ke kc a x y C v i B u g E A b t n l j q f c r w G F J I K H
 ·have N:dfK ke kc (deD L a x y M i g b r)=false:=by
   unfold dfK;simp only [gDd];rw [show (decide (1<=L) && decide (L<=7))=false by simp;omega];simp
  rw [N];exact Ji L a x y M C _ v B _ u E _ A t n l j q f c w hk
theorem DN (ke kc:Nat) (ds l:List D) (v:Value) (w:World) (h:ZT w ke kc v ds l):Ro 15 #[v] w (A J (ckT ke kc ds l)):=by
 have Q:Hx (∀ X,Ov w X->Ro 37 #[v] X (zc (Dv ke kc ds l))):=fun X M=>by rw [NA];exact IV ke kc ds l v X (h.over M)
 obtain ⟨ao,c,P,N,rfl,hD,hM⟩:=h;obtain ⟨x,g⟩:=nm (ckT ke kc ds l);rw [<-g];unfold ckT at g;obtain ⟨qm,C⟩:=nm (Dv ke kc ds l);obtain ⟨qd,q⟩:=nm (ds.all (dfK ke kc));obtain ⟨ql,E⟩:=nm (l.all (sfK ke kc));rw [<-C,<-q,<-E] at g;have W:=Aa g;have R:=Aa q;have U:Hx (∀ X,Ov w X->Ro 37 #[ze #[O ao ds.length c,O P l.length N]] X (zc qm)):=by rw [C];exact Q
 have KL:Hx (∀ X,Ov w X->Ro 39 #[O P l.length N] X (zc ql)):=fun X M=>by rw [E];exact A5 ke kc l P N X (Ao M hM)
 have HD:=Aa hD;have HL:=hD.max;obtain ⟨B,G⟩:=nm ds.length;rw [<-G] at U HL ⊢;have HN:=Aa G;clear g C q E hD hM Q G;generalize l.length=nl at U KL ⊢;go_enter Tryz.func15,Tryz.ntmps15;go_wp2_with fail;refine (U.o _ (bA _ _)).mono ?_;rintro e W1 ⟨rfl,u⟩;have y:Hx (Ov w W1):=Ab (bA _ _) u;have I:Hx (Ac [O ao B c,O P nl N] W1 w.heap.size):=Ac.over (Ai w [O ao B c,O P nl N] 25) u;clear u U;generalize w.heap.size=bt at I ⊢;obtain ⟨T,S⟩:=rc2 I.o
 cases qm with
 | true=>
  have H:Hx (x=2):=by have h:=W.o;simp at h;exact h
  go_wp2_with fail;go_ret;exact ⟨by rw [H.o];rfl,y.o⟩
 | false=>
  go_wp2_with fail;clear T S;go_loopw [3] (fun i wr=>∃ (j:Nat),j<=B/\i=A J j/\(ds.drop j).all (dfK ke kc)=qd/\Ov W1 wr) (fun i _=>B - (intOf i).toNat)
  case atStart=>exact ⟨0,Nat.zero_le _,rfl,R.o.symm,Below.refl _ _⟩
  case round=>
   obtain ⟨j,hj,rfl,n,K⟩:=hrel;obtain ⟨T,S⟩:=rc2 (I.o.over K);by_cases hjl:j < B
   ·have r:j < ds.length:=by have:=HN.o;omega
    have aa:(j:Int) < (B:Int):=by omega
    obtain ⟨b,Z,rfl,cs,L,f,hr⟩:=HD.o.at r;rw [List.drop_eq_getElem_cons r,List.all_cons] at n;generalize ds[j]=dj at n hr;have a:Ov w wr:=Ab y.o K;obtain ⟨q9,F⟩:=nm (dfK ke kc dj);rw [<-F] at n;have KC:Hx (∀ X,Ov wr X->Ro 38 #[.agg cs.toArray] X (zc q9)):=fun X M=>by rw [F];exact My ke kc cs dj X ((hr.over a).over M)
    obtain ⟨au,a0,x0,y0,g0,l0,l1,l2,p0,p1,p2,b0,b1,b2,e0,e1,e2,e3,q0,q1,q2,rfl⟩:=hr.cells;have d0:wr.cell? ⟨b,Z+j*13,none⟩=_:=ce1 a (f 0 _ rfl);have d1:=ce1 a (f 1 _ rfl);have d2:=ce1 a (f 2 _ rfl);have d3:=ce1 a (f 3 _ rfl);have d4:=ce1 a (f 4 _ rfl);have d5:=ce1 a (f 5 _ rfl);have d6:=ce1 a (f 6 _ rfl);have d7:=ce1 a (f 7 _ rfl);have d8:=ce1 a (f 8 _ rfl);have d9:=ce1 a (f 9 _ rfl);have ae:=ce1 a (f 10 _ rfl);have ad:=ce1 a (f 11 _ rfl);have ac:=ce1 a (f 12 _ rfl);have V:=Aa n;have Y:=Aa K;clear n K f L hr F r a;go_wp2_with fail;refine (KC.o _ (Below.refl _ _)).mono ?_;rintro e W2 ⟨rfl,u⟩;have t:=Aa (Ab Y.o u);clear u KC d0 d1 d2 d3 d4 d5 d6 d7 d8 d9 ae ad ac T S
    cases q9 with
    | true=>
     have n:=V.o;rw [Bool.true_and] at n;replace V:=Aa n;clear n;go_wp2_with fail;exact ⟨⟨j+1,by omega,by go_num,V.o,t.o⟩,by simp [intOf];omega⟩
    | false=>
     have n:=V.o;rw [Bool.false_and] at n;subst n;have H:Hx (x=1):=by have h:=W.o;simp at h;exact h
     go_wp2_with fail;go_ret;exact ⟨by rw [H.o];rfl,Ab y.o t.o⟩
   ·have hd:ds.drop j=[]:=List.drop_eq_nil_of_le (by have:=HN.o;omega)
    have aa:¬ (j:Int) < (B:Int):=by omega
    rw [hd] at n;have q:true=qd:=by rw [<-n];rfl
    subst q;have Y:=Aa (Ab y.o K);clear n hd K R;go_wp2_with fail;refine (KL.o _ Y.o).mono ?_;rintro e W2 ⟨rfl,u⟩;have t:=Aa (Ab Y.o u);clear u KL T S
    cases ql with
    | true=>
     have H:Hx (x=0):=by have h:=W.o;simp at h;exact h
     go_wp2_with fail;go_ret;exact ⟨by rw [H.o];rfl,t.o⟩
    | false=>
     have H:Hx (x=1):=by have h:=W.o;simp at h;exact h
     go_wp2_with fail;go_ret;exact ⟨by rw [H.o];rfl,t.o⟩
end Go.Proofs.YtipngnjffjajpaaGreatDoor.Tx
