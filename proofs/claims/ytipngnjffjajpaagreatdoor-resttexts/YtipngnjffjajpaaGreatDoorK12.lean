/- The document's answer: how many commands. -/
import Derived.Test.YtipngnjffjajpaaGreatDoorK10
import Derived.Test.YtipngnjffjajpaaGreatDoorK11
set_option linter.unusedVariables false
set_option maxHeartbeats 8000000
set_option maxRecDepth 100000
namespace Go.Proofs.YtipngnjffjajpaaGreatDoor.Tx
open Go.RowKit
open Go.Value renaming int -> O, slice -> zd, bool -> ze, agg -> zf, pointer -> zh, tuple -> zj
open Go.IntKind renaming i64 -> zc
open Go.Obj renaming cells -> zg
open Go.Ending renaming returned -> zi
theorem Hb (ke:Nat) (d:D):Cm ke d=decide (15 < poK ke d 15):=by
 unfold Cm;rw [Lt ke d 15 (by omega),decide_eq_decide];omega
theorem O8 (ke:Nat) (rec:List D->Int) (t:Int) (s:D) (h:t<=50):csF ke rec (t,false) s=if CR ke s=true then (51,true) else (t+1+rec (gL 6 s)+rec (gL 7 s),false):=by
 unfold csF;rw [if_neg (by simp;omega)]
theorem Js (ke:Nat) (rec:List D->Int):∀ (l:List D),(l.foldl (csF ke rec) (51,true)).1=51
 | []=>rfl
 | a::l=>by
  rw [List.foldl_cons];have:csF ke rec (51,true) a=(51,true):=by unfold csF;rw [if_pos (Or.inl rfl)]
  rw [this];exact Js ke rec l
theorem Kv (ke:Nat) (rec:List D->Int):∀ (l:List D) (t:Int),50 < t->(l.foldl (csF ke rec) (t,false)).1=t
 | [],t,h=>rfl
 | a::l,t,h=>by
  rw [List.foldl_cons];have:csF ke rec (t,false) a=(t,false):=by unfold csF;rw [if_pos (Or.inr h)]
  rw [this];exact Kv ke rec l t h
theorem IM (ao:Option Addr) (cap:Nat) (w:World) (deep:Int):Ro 74 #[zd ao 0 cap,O zc deep] w (O zc 0):=by
 go_enter Tryz.func74,Tryz.ntmps74;go_wp2_with fail;go_loopw [5,6] (fun c i wr=>c=O zc 0/\i=O zc 0/\wr=w) (fun _ _ _=>0)
 case atStart=>exact ⟨rfl,rfl,rfl⟩
 case round=>
  obtain ⟨rfl,rfl,rfl⟩:=hrel;go_wp2_with fail;go_ret;exact ⟨rfl,Below.refl _ _⟩
theorem Mu (ke:Nat):∀ (k:Nat) (l:List D) (ao:Option Addr) (cap:Nat) (w:World) (deep:Int),LS 12 (ZC w ke k) w (zd ao l.length cap) l->1<=deep->deep<=7->Ro 74 #[zd ao l.length cap,O zc deep] w (O zc (csK ke k l deep)):=by
 intro k
 induction k with
 | zero=>
  intro l ao cap w deep hc _ _;have hl:l=[]:=by
   cases l with
   | nil=>rfl
   | cons a l=>
    obtain ⟨b,bc,-,cs,-,-,hr⟩:=hc.at (j:=0) (by simp);exact hr.elim
  subst hl;exact IM ao cap w deep
 | succ k ih=>
  intro l ao cap w deep hc g1 g2;have HC:=Aa hc;have IH:=Aa ih;have HL:=hc.max;obtain ⟨fin,J⟩:=nm (csK ke (k+1) l deep);rw [<-J];have g:fin=if l≠[]/\6 < deep then 51 else min 51 (l.foldl (csF ke (fun l=>csK ke k l (deep+1))) (0,false)).1:=by rw [J];rfl
  have au:(l≠[])=(0 < l.length):=by rw [List.length_pos_iff]
  simp only [au] at g;obtain ⟨N,ac⟩:=nm l.length;rw [<-ac] at HL g ⊢;have HN:=Aa ac;clear hc ih J ac au;by_cases h6:0 < N/\6 < deep
  ·rw [if_pos h6] at g
   obtain ⟨h7,h8⟩:=h6;have hi:(0:Int) < (N:Int):=by omega
   have u:=Aa g;clear g;go_enter Tryz.func74,Tryz.ntmps74;go_wp2_with fail;go_ret;exact ⟨by rw [u.o];rfl,Below.refl _ _⟩
  rw [if_neg h6] at g;obtain ⟨F,hF⟩:=nm (l.foldl (csF ke (fun l=>csK ke k l (deep+1))) (0,false)).1;rw [<-hF] at g;have E:=Aa g;have HF:=Aa hF;have H6:=Aa h6;clear g hF h6;by_cases h0:0 < N
  ·have cr:(0:Int) < (N:Int):=by omega
   have ct:¬ 6 < deep:=fun h=>H6.o ⟨h0,h⟩;clear H6;go_enter Tryz.func74,Tryz.ntmps74;go_wp2_with fail;go_loopw [5,6] (fun c i wr=>∃ (j:Nat) (t:Int),j<=N/\i=O zc j/\c=O zc t/\0<=t/\t<=200/\((l.drop j).foldl (csF ke (fun l=>csK ke k l (deep+1))) (t,false)).1=F/\Ov w wr) (fun _ i _=>N - (intOf i).toNat)
   case atStart=>exact ⟨0,0,Nat.zero_le _,rfl,rfl,by omega,by omega,HF.o.symm,Below.refl _ _⟩
   case round=>
    obtain ⟨j,t,hj,rfl,rfl,t1,t2,n,H⟩:=hrel;by_cases hjl:j < N
    ·have A:j < l.length:=by have:=HN.o;omega
     have bg:(j:Int) < (N:Int):=by omega
     by_cases ht0:t<=50
     ·obtain ⟨b,bc,rfl,cs,aw,ae,hr⟩:=HC.o.at A
      rw [El A,O8 ke _ t _ ht0] at n;generalize l[j]=dj at n hr;obtain ⟨kd,a,x,y,e0,e1,e2,e3,q,q1,q2,e,aA,cA,args,aT,cT,th,aE,cE,el,rfl,rfl,-,-,he,hA,hT,hE⟩:=hr;simp only [gSs] at n;have d0:=CK H ae rfl;have dA:=CJ H ae;obtain ⟨qm,ab⟩:=nm (CR ke (stD kd a x y e args th el));rw [<-ab] at n;have S:qm=(decide (4 < args.length) || decide (15 < poK ke e 15) || args.any (Cm ke)):=by rw [ab];unfold CR;simp only [gSs];rw [Hb ke e]
      obtain ⟨re,Q⟩:=nm (poK ke e 15);obtain ⟨qn,r⟩:=nm (args.any (Cm ke));rw [<-Q,<-r] at S;have bj:=I0 ke e 15 (by omega);rw [<-Q] at bj;obtain ⟨r1,aa⟩:=nm (csK ke k th (deep+1));obtain ⟨r2,Z⟩:=nm (csK ke k el (deep+1));have bl:=Dn ke k th (deep+1);have bk:=Dn ke k el (deep+1);rw [<-aa] at bl n;rw [<-Z] at bk n;have KP:Hx (∀ X,Ov wr X->Ro 75 #[zf #[O zc e0,O zc e1,O zc e2,.string e3,zd q q1 q2],O zc 15] X (O zc re)):=fun X hX=>by rw [Q];exact F9 ke _ e X 15 ((he.over H).over hX) (by omega) (by omega)
      have V:IntKind.i64.wrap (deep+1)=deep+1:=by rw [IntKind.wrap_i64];omega
      have KT:Hx (∀ X,Ov wr X->Ro 74 #[zd aT th.length cT,O zc (IntKind.i64.wrap (deep+1))] X (O zc r1)):=fun X hX=>by rw [aa,V];exact IH.o th aT cT X (deep+1) (Ar hX (Ar H hT)) (by omega) (by omega)
      have KL:Hx (∀ X,Ov wr X->Ro 74 #[zd aE el.length cE,O zc (IntKind.i64.wrap (deep+1))] X (O zc r2)):=fun X hX=>by rw [Z,V];exact IH.o el aE cE X (deep+1) (Ar hX (Ar H hE)) (by omega) (by omega)
      have bz:=hA.max;have b5:=Aa (BQ H hA);have bv:=Aa r;have U:=Aa H;have HP:=Aa n;obtain ⟨P,ad⟩:=nm args.length;rw [<-ad] at dA bz S;have a0:=Aa ad;have HM:=Aa S;clear ae aw H A n ab S Q r aa Z he hA hT hE ad V;generalize th.length=nT at dA KT;generalize el.length=nE at dA KL;go_wp2_with fail;refine mo (KP.o _ (bA _ _)) fun W2 C=>?_;have ai:Hx (Ov wr W2):=Ab (bA _ _) C;have ah:Hx (Ad [O zc kd,O zc a,.string x,.string y,O zc e0,O zc e1,O zc e2,.string e3,zd q q1 q2,zd aA P cA,zd aT nT cT,zd aE nE cE] W2 wr.heap.size):=Ad.over (A5 wr [O zc kd,O zc a,.string x,.string y,O zc e0,O zc e1,O zc e2,.string e3,zd q q1 q2,zd aA P cA,zd aT nT cT,zd aE nE cE] 55) C;clear C d0 dA KP;generalize wr.heap.size=bq at ah ⊢;have nR:=AR ah.o;by_cases h15:15 < re
      ·have n:=HP.o
       rw [show qm=true by have h:=HM.o;simp [h15] at h;exact h,if_pos rfl,Js] at n;have u:Hx (fin=51):=by show _=_;rw [E.o,<-n];rfl
       clear n;go_wp2_with fail;go_ret;exact ⟨by rw [u.o];rfl,Ab U.o ai.o⟩
      by_cases h4:4 < P
      ·have n:=HP.o
       rw [show qm=true by have h:=HM.o;simp [h4] at h;exact h,if_pos rfl,Js] at n;have u:Hx (fin=51):=by show _=_;rw [E.o,<-n];rfl
       clear n;have bi:(4:Int) < (P:Int):=by omega
       go_wp2_with fail;go_ret;exact ⟨by rw [u.o];rfl,Ab U.o ai.o⟩
      have bi:¬ (4:Int) < (P:Int):=by omega
      have av:qm=qn:=by have h:=HM.o;simp [h15,h4] at h;exact h
      replace HM:=Aa av;clear av;go_wp2_with fail;clear nR;go_loopw [8] (fun i ws=>∃ (i2:Nat),i2<=P/\i=O zc i2/\(args.drop i2).any (Cm ke)=qn/\Ov W2 ws) (fun i _=>P - (intOf i).toNat)
      case atStart=>exact ⟨0,Nat.zero_le _,rfl,bv.o.symm,Below.refl _ _⟩
      case round=>
       obtain ⟨i,cq,rfl,v,M⟩:=hrel;have G:=Aa (Ab ai.o M);have L:=G.o;have nR:=AR (ah.o.over M);by_cases hil:i < P
       ·have I:i < args.length:=by have:=a0.o;omega
        have bh:(i:Int) < (P:Int):=by omega
        obtain ⟨ba,oa,rfl,ca,be,af,R⟩:=b5.o.at I;rw [List.drop_eq_getElem_cons I,List.any_cons] at v;generalize args[i]=da at v R;obtain ⟨rp,Y⟩:=nm (poK ke da 15);rw [Hb,<-Y] at v;have KQ:Hx (∀ X,Ov wr X->Ro 75 #[.agg ca.toArray,O zc 15] X (O zc rp)):=fun X hX=>by rw [Y];exact F9 ke ca da X 15 ((R.over L).over hX) (by omega) (by omega)
        obtain ⟨k0,k1,k2,k3,k4,k5,k6,rfl⟩:=R.cells;have z0:=CK L af rfl;have zA:=CJ L af;have T:=Aa v;have b1:=Aa M;clear v M L R af be Y I;go_wp2_with fail;refine mo (KQ.o _ (Below.refl _ _)) fun W4 C=>?_;have b4:=Aa (Ab b1.o C);have b3:=Aa (Ab G.o C);clear C z0 zA nR KQ G;by_cases h15':15 < rp
        ·have r:qn=true:=by have h:=T.o;simp [h15'] at h;exact h
         subst r;have n:=HP.o;rw [HM.o,if_pos rfl,Js] at n;have u:Hx (fin=51):=by show _=_;rw [E.o,<-n];rfl
         clear n;go_wp2_with fail;go_ret;exact ⟨by rw [u.o];rfl,Ab U.o b3.o⟩
        ·have r:(args.drop (i+1)).any (Cm ke)=qn:=by have h:=T.o;rw [decide_eq_false h15',Bool.false_or] at h;exact h
         replace T:=Aa r;clear r;go_wp2_with fail;exact ⟨⟨i+1,by omega,by go_num,T.o,b4.o⟩,by simp [intOf];omega⟩
       ·have hd:args.drop i=[]:=List.drop_eq_nil_of_le (by have:=a0.o;omega)
        have bh:¬ (i:Int) < (P:Int):=by omega
        rw [hd] at v;have r:qn=false:=by rw [<-v];rfl
        subst r;have n:=HP.o;rw [HM.o,if_neg (by simp),show t+1+r1+r2=t+(1+r1+r2) by omega] at n;replace HP:=Aa n;clear n hd v M L;go_wp2_with fail;refine Go.Proofs.YtipngnjffjajpaaGreatDoor.gS (fun Wz=>Below wr.heap.size wr Wz) (Below.refl _ _).drew fun f=>?_;generalize wr.drew=W at f ⊢;refine kO 0 ?_;refine kO 1 ?_;refine kO 2 ?_;refine kO 3 ?_;refine kO 4 ?_;refine kO 7 ?_;refine kO 8 ?_;refine kO 9 ?_;refine kO 10 ?_;refine rdA 5 rfl fun K hK=>?_;go_simp;refine mo (KT.o _ (Ab G.o f)) fun W5 C=>?_;have b0:Hx (Ov wr W5):=Ab f C;clear C f KT;go_simp;refine xK hK (b0.o) fun f=>?_;clear hK K;refine kO 6 ?_;refine rdA 11 rfl fun K hK=>?_;go_simp;refine mo (KL.o _ (Ab G.o f)) fun W6 C=>?_;have a1:Hx (Ov wr W6):=Ab f C;clear C f KL;go_simp;refine xK hK (a1.o) fun f=>?_;clear hK K;refine kO 12 ?_;refine kO 13 ?_;refine kO 14 ?_;refine gE ?_;have b2:Hx (Ov w W6):=Ab U.o (Ab G.o a1.o);clear f nR;have ar:IntKind.i64.wrap (1+r1)=1+r1:=by rw [IntKind.wrap_i64];omega
        have aq:IntKind.i64.wrap (1+r1+r2)=1+r1+r2:=by rw [IntKind.wrap_i64];omega
        have ap:IntKind.i64.wrap (t+(1+r1+r2))=t+(1+r1+r2):=by rw [IntKind.wrap_i64];omega
        rw [ar,aq,ap];clear ar aq ap;go_wp2_with fail;exact ⟨⟨j+1,t+(1+r1+r2),by omega,by go_num,rfl,by omega,by omega,HP.o,b2.o⟩,by simp [intOf];omega⟩
     ·rw [Kv ke _ _ _ (by omega)] at n
      have u:Hx (fin=min 51 t):=by show _=_;rw [E.o,<-n]
      have HB:=Aa H;clear n H A;by_cases h51:51 < t
      ·have B:fin=51:=by rw [u.o];omega
       replace u:=Aa B;clear B;go_wp2_with fail;go_ret;exact ⟨by rw [u.o];rfl,HB.o⟩
      ·have B:fin=t:=by rw [u.o];omega
       replace u:=Aa B;clear B;go_wp2_with fail;go_ret;exact ⟨by rw [u.o];rfl,HB.o⟩
    ·have hd:l.drop j=[]:=List.drop_eq_nil_of_le (by have:=HN.o;omega)
     rw [hd] at n;have u:Hx (fin=min 51 t):=by show _=_;rw [E.o,<-n];rfl
     have HB:=Aa H;have bg:¬ (j:Int) < (N:Int):=by omega
     clear n H hd;by_cases h51:51 < t
     ·have B:fin=51:=by rw [u.o];omega
      replace u:=Aa B;clear B;go_wp2_with fail;go_ret;exact ⟨by rw [u.o];rfl,HB.o⟩
     ·have B:fin=t:=by rw [u.o];omega
      replace u:=Aa B;clear B;go_wp2_with fail;go_ret;exact ⟨by rw [u.o];rfl,HB.o⟩
  ·have bf:l=[]:=List.length_eq_zero_iff.1 (by have:=HN.o;omega)
   have hz:N=0:=by omega
   have B:fin=0:=by rw [E.o,HF.o,bf];rfl
   rw [B,hz];exact IM ao cap w deep
theorem Lc (ke kc:Nat) (ds l:List D) (v:Value) (w:World) (h:ZT w ke kc v ds l):Ro 37 #[v] w (ze (Kb ke kc ds l)):=by
 obtain ⟨ao,c,a2,c2,rfl,hD,hM⟩:=h;obtain ⟨fin,f⟩:=nm (Kb ke kc ds l);rw [<-f];unfold Kb at f;have HD:=Aa hD;have HL:=hD.max;obtain ⟨r0,W⟩:=nm (csK ke kc l 1);have bl:=Dn ke kc l 1;rw [<-W] at f bl;have KM:Hx (∀ X,Ov w X->Ro 74 #[zd a2 l.length c2,O zc 1] X (O zc r0)):=fun X hX=>by rw [W];exact Mu ke kc l a2 c2 X 1 (Ar hX hM) (by omega) (by omega)
 obtain ⟨G,Z⟩:=nm ds.length;rw [<-Z] at HL f ⊢;have HN:=Aa Z;clear hD hM Z W;generalize l.length=nl at KM ⊢;obtain ⟨V,hV⟩:=nm (w.alloc (zg #[zd ao G c,zd a2 nl c2] 25));have Q:=aov hV;have az:Hx (Ad [zd ao G c,zd a2 nl c2] V w.heap.size):=by show Ad _ _ _;rw [hV];exact A5 w [zd ao G c,zd a2 nl c2] 25
 by_cases h30:30 < G
 ·have hi:(30:Int) < (G:Int):=by omega
  have K:Hx (fin=true):=by show _=_;rw [f];simp [h30]
  clear f;go_enter Tryz.func37,Tryz.ntmps37;go_wp2_with fail;go_ret;exact ⟨by rw [K.o];rfl,by rw [<-hV];exact Q.o⟩
 rw [decide_eq_false h30,Bool.false_or] at f;have HF:=Aa f;have hi:¬ (30:Int) < (G:Int):=by omega
 clear f;go_enter Tryz.func37,Tryz.ntmps37;go_wp2_with fail;rw [<-hV];clear hV;refine mo (KM.o _ Q.o) fun W1 L=>?_;have E:=Aa (Ab Q.o L);have N:=Aa (az.o.over L);clear L KM Q az;generalize w.heap.size=bt at N ⊢;obtain ⟨s0,s1⟩:=rc2 N.o;go_wp2_with fail;clear s0 s1;go_loopw [3,4] (fun c i wr=>∃ (j:Nat) (t:Int),j<=G/\i=O zc j/\c=O zc t/\0<=t/\t<=51+51*j/\((ds.drop j).any (CS ke) || decide (50 < (ds.drop j).foldl (fun n d=>n+csK ke kc (gL 7 d) 1) t))=fin/\Ov W1 wr) (fun _ i _=>G - (intOf i).toNat)
 case atStart=>exact ⟨0,r0,Nat.zero_le _,rfl,rfl,by omega,by omega,HF.o.symm,Below.refl _ _⟩
 case round=>
  obtain ⟨j,t,hj,rfl,rfl,t1,t2,B,hB⟩:=hrel;obtain ⟨s0,s1⟩:=rc2 (N.o.over hB);by_cases hjl:j < G
  ·have I:j < ds.length:=by have:=HN.o;omega
   have bf:(j:Int) < (G:Int):=by omega
   obtain ⟨b,cf,rfl,cs,ak,ab,hr⟩:=HD.o.at I;rw [List.drop_eq_getElem_cons I,List.any_cons,List.foldl_cons] at B;generalize ds[j]=dj at B hr;have C:Ov w wr:=Ab E.o hB;obtain ⟨kd,a,x,y,gv,aL,cL,lb,aP,cP,ps,aB,cB,u,e0,e1,e2,e3,q,q1,q2,r,rfl,rfl,-,-,ac,aq,ar,hR⟩:=hr;simp only [gDd] at B;obtain ⟨r1,U⟩:=nm (csK ke kc u 1);have bk:=Dn ke kc u 1;rw [<-U] at B bk;have KB:Hx (∀ X,Ov wr X->Ro 74 #[zd aB u.length cB,O zc 1] X (O zc r1)):=fun X hX=>by rw [U];exact Mu ke kc u aB cB X 1 (Ar hX (Ar C ar)) (by omega) (by omega)
   obtain ⟨qm,Y⟩:=nm (CS ke (deD kd a x y gv lb ps u r));rw [<-Y] at B;have M:qm=(decide (4 < lb.length) || decide (4 < ps.length) || decide (15 < poK ke r 15) || lb.any (fun p=>decide (6 < (gL 3 p).length))):=by rw [Y];unfold CS;simp only [gDd,List.length_map];rw [Hb ke r]
   obtain ⟨re,T⟩:=nm (poK ke r 15);obtain ⟨qn,g⟩:=nm (lb.any (fun p=>decide (6 < (gL 3 p).length)));rw [<-T,<-g] at M;have KP:Hx (∀ X,Ov wr X->Ro 75 #[zf #[O zc e0,O zc e1,O zc e2,.string e3,zd q q1 q2],O zc 15] X (O zc re)):=fun X hX=>by rw [T];exact F9 ke _ r X 15 ((hR.over C).over hX) (by omega) (by omega)
   have b1:=ac.max;have bz:=aq.max;have b3:=Aa (Dj C ac);have bw:=Aa g;have d0:=CK C ab rfl;have dA:=CJ C ab;have S:=Aa hB;have HP:=Aa B;obtain ⟨H,aa⟩:=nm lb.length;rw [<-aa] at dA b1 M;have a1:=Aa aa;have R:=Aa M;clear ab ak hB I ar Y M T g C U B ac aq hR aa;generalize ps.length=nP at bz R dA;generalize u.length=nB at KB dA;have a0:Hx (Ad [O zc kd,O zc a,.string x,.string y,ze gv,zd aL H cL,zd aP nP cP,zd aB nB cB,O zc e0,O zc e1,O zc e2,.string e3,zd q q1 q2] (wr.alloc (zg #[O zc kd,O zc a,.string x,.string y,ze gv,zd aL H cL,zd aP nP cP,zd aB nB cB,O zc e0,O zc e1,O zc e2,.string e3,zd q q1 q2] 51)) wr.heap.size):=A5 wr [O zc kd,O zc a,.string x,.string y,ze gv,zd aL H cL,zd aP nP cP,zd aB nB cB,O zc e0,O zc e1,O zc e2,.string e3,zd q q1 q2] 51;by_cases h4:4 < H
   ·have K:Hx (fin=true):=by have h:=HP.o;rw [show qm=true by have h:=R.o;simp [h4] at h;exact h] at h;simp at h;exact h
    have bj:(4:Int) < (H:Int):=by omega
    go_wp2_with fail;go_ret;exact ⟨by rw [K.o];rfl,Ab E.o (Ab S.o (bA _ _))⟩
   have bj:¬ (4:Int) < (H:Int):=by omega
   by_cases h5:4 < nP
   ·have K:Hx (fin=true):=by have h:=HP.o;rw [show qm=true by have h:=R.o;simp [h5] at h;exact h] at h;simp at h;exact h
    have bi:(4:Int) < (nP:Int):=by omega
    go_wp2_with fail;go_ret;exact ⟨by rw [K.o];rfl,Ab E.o (Ab S.o (bA _ _))⟩
   have bi:¬ (4:Int) < (nP:Int):=by omega
   go_wp2_with fail;refine mo (KP.o _ (bA _ _)) fun W2 L=>?_;have F:Hx (Ov wr W2):=Ab (bA _ _) L;have ad:=Aa (a0.o.over L);have cl:=Aa ((N.o.over S.o).over F.o);clear L d0 dA KP a0 s0 s1;generalize wr.heap.size=bq at ad ⊢;have nR:=B8 ad.o;by_cases h15:15 < re
   ·have K:Hx (fin=true):=by have h:=HP.o;rw [show qm=true by have h:=R.o;simp [h15] at h;exact h] at h;simp at h;exact h
    go_wp2_with fail;go_ret;exact ⟨by rw [K.o];rfl,Ab E.o (Ab S.o F.o)⟩
   have aj:qm=qn:=by have h:=R.o;simp [h15,h4,h5] at h;exact h
   replace R:=Aa aj;clear aj;go_wp2_with fail;clear nR;go_loopw [6] (fun i ws=>∃ (i2:Nat),i2<=H/\i=O zc i2/\(lb.drop i2).any (fun p=>decide (6 < (gL 3 p).length))=qn/\ws=W2) (fun i _=>H - (intOf i).toNat)
   case atStart=>exact ⟨0,Nat.zero_le _,rfl,bw.o.symm,rfl⟩
   case round=>
    obtain ⟨i,ch,rfl,A,rfl⟩:=hrel;have nR:=B8 ad.o;by_cases hil:i < H
    ·have J:i < lb.length:=by have:=a1.o;omega
     have bg:(i:Int) < (H:Int):=by omega
     obtain ⟨ba,oa,rfl,ca,be,am,ai⟩:=b3.o.at J;rw [List.drop_eq_getElem_cons J,List.any_cons] at A;generalize lb[i]=da at A ai;have au:=F.o;obtain ⟨pa,po,pw,pn,pc,ns,rfl,rfl,-,hN⟩:=ai;simp only [gPp,List.length_map] at A;have b0:=hN.max;have z3:=ce1 au (am 3 _ rfl);generalize ns.length=nN at z3 A b0;have P:=Aa A;clear A au am be J hN;by_cases hn6:6 < nN
     ·have g:qn=true:=by have h:=P.o;simp [hn6] at h;exact h
      subst g;have K:Hx (fin=true):=by have h:=HP.o;rw [R.o] at h;simp at h;exact h
      have bh:(6:Int) < (nN:Int):=by omega
      go_wp2_with fail;go_ret;exact ⟨by rw [K.o];rfl,Ab E.o (Ab S.o F.o)⟩
     ·have g:(lb.drop (i+1)).any (fun p=>decide (6 < (gL 3 p).length))=qn:=by have h:=P.o;rw [decide_eq_false hn6,Bool.false_or] at h;exact h
      replace P:=Aa g;have bh:¬ (6:Int) < (nN:Int):=by omega
      clear g;go_wp2_with fail;exact ⟨⟨i+1,by omega,by go_num,P.o,by trivial⟩,by simp [intOf];omega⟩
    ·have hd:lb.drop i=[]:=List.drop_eq_nil_of_le (by have:=a1.o;omega)
     have bg:¬ (i:Int) < (H:Int):=by omega
     rw [hd] at A;have g:qn=false:=by rw [<-A];rfl
     subst g;have B:=HP.o;rw [R.o,Bool.false_or] at B;replace HP:=Aa B;clear B hd A;go_wp2_with fail;refine mo (KB.o _ F.o) fun W3 L=>?_;have b2:=Aa (Ab S.o (Ab F.o L));clear L nR KB;go_wp2_with fail;exact ⟨⟨j+1,t+r1,by omega,by go_num,by go_num,by omega,by omega,HP.o,b2.o⟩,by simp [intOf];omega⟩
  ·have hd:ds.drop j=[]:=List.drop_eq_nil_of_le (by have:=HN.o;omega)
   have bf:¬ (j:Int) < (G:Int):=by omega
   rw [hd] at B;have K:Hx (fin=decide (50 < t)):=by show _=_;rw [<-B];rfl
   have S:=Aa hB;clear B hd hB;go_wp2_with fail;go_ret;exact ⟨by rw [K.o];rfl,Ab E.o S.o⟩
theorem LC (kd a:Int) (x y:ByteArray) (gv:Bool) (aL:Option Addr) (nL cL:Nat) (aP:Option Addr) (nP cP:Nat) (aB:Option Addr) (nB cB:Nat) (e0 e1 e2:Int) (e3:ByteArray) (q:Option Addr) (q1 q2:Nat) (w:World) (hk:¬ (1<=kd/\kd<=7)):Ro 38 #[zf #[O zc kd,O zc a,.string x,.string y,ze gv,zd aL nL cL,zd aP nP cP,zd aB nB cB,O zc e0,O zc e1,O zc e2,.string e3,zd q q1 q2]] w (ze false):=by
 have i:Hx (∀ X,Ov w X->Ro 76 #[O zc kd,O zc 1,O zc 7] X (ze false)):=fun X _=>by
  have h:=Bp kd 1 7 X;rw [show (decide (1<=kd) && decide (kd<=7))=false by simp;omega] at h;exact h
 clear hk;go_enter Tryz.func38,Tryz.ntmps38;go_wp2_with fail;refine mo (i.o _ (bA w (zg #[O zc kd,O zc a,.string x,.string y,ze gv,zd aL nL cL,zd aP nP cP,zd aB nB cB,O zc e0,O zc e1,O zc e2,.string e3,zd q q1 q2] 51))) fun g c=>?_;have f:Hx (Ov w g):=Ab (bA w (zg #[O zc kd,O zc a,.string x,.string y,ze gv,zd aL nL cL,zd aP nP cP,zd aB nB cB,O zc e0,O zc e1,O zc e2,.string e3,zd q q1 q2] 51)) c;have b:Hx (Ad [O zc kd,O zc a,.string x,.string y,ze gv,zd aL nL cL,zd aP nP cP,zd aB nB cB,O zc e0,O zc e1,O zc e2,.string e3,zd q q1 q2] g w.heap.size):=Ad.over (A5 w [O zc kd,O zc a,.string x,.string y,ze gv,zd aL nL cL,zd aP nP cP,zd aB nB cB,O zc e0,O zc e1,O zc e2,.string e3,zd q q1 q2] 51) c;clear c  i;have j:=Ad.all b.o;go_wp2_with fail;go_ret;exact ⟨rfl,f.o⟩
theorem OK (ke kc:Nat) (cs:List Value) (d:D) (w:World) (h:ZD w ke kc cs d):Ro 38 #[.agg cs.toArray] w (ze (dfK ke kc d)):=by
 obtain ⟨c,a,x,y,M,E,A,i,C,v,g,F,B,b,u,n,l,j,q,q1,f,r,rfl,rfl,H,G,K,J,L,I⟩:=h;by_cases hk:1<=c/\c<=7
 ·have O:c=1\/c=2\/c=3\/c=4\/c=5\/c=6\/c=7:=by omega
  clear hk;rcases O with rfl | rfl | rfl | rfl | rfl | rfl | rfl <;> cases M
  all_goals first | exact OP ke kc _ (by decide) a x y E A i C v g F B b u n l j q q1 f r w H G K J L I | exact OM ke kc _ (by decide) a x y E A i C v g F B b u n l j q q1 f r w H G K J L I | exact OO ke kc _ (by decide) a x y E A i C v g F B b u n l j q q1 f r w H G K J L I | exact OL ke kc _ (by decide) a x y E A i C v g F B b u n l j q q1 f r w H G K J L I | exact Nc ke kc a x y E A i C v g F B b u n l j q q1 f r w H G K J L I | exact Nb ke kc a x y E A i C v g F B b u n l j q q1 f r w H G K J L I | exact Na ke kc a x y E A i C v g F B b u n l j q q1 f r w H G K J L I
 ·have N:dfK ke kc (deD c a x y M i g b r)=false:=by
   unfold dfK;simp only [gDd];rw [show (decide (1<=c) && decide (c<=7))=false by simp;omega];simp
  rw [N];exact LC c a x y M E _ A C _ v F _ B u n l j q q1 f w hk
theorem Kw (ke kc:Nat) (ds l:List D) (v:Value) (w:World) (h:ZT w ke kc v ds l):Ro 15 #[v] w (O zc (ckT ke kc ds l)):=by
 have P:Hx (∀ X,Ov w X->Ro 37 #[v] X (ze (Es ke kc ds l))):=fun X L=>by rw [P3];exact Lc ke kc ds l v X (h.over L)
 obtain ⟨Y,c,N,M,rfl,W,hM⟩:=h;obtain ⟨fin,a⟩:=nm (ckT ke kc ds l);rw [<-a];unfold ckT at a;obtain ⟨qm,B⟩:=nm (Es ke kc ds l);obtain ⟨qd,g⟩:=nm (ds.all (dfK ke kc));obtain ⟨ql,C⟩:=nm (l.all (sfK ke kc));rw [<-B,<-g,<-C] at a;have T:=Aa a;have Q:=Aa g;have R:Hx (∀ X,Ov w X->Ro 37 #[zf #[zd Y ds.length c,zd N l.length M]] X (ze qm)):=by rw [B];exact P
 have KL:Hx (∀ X,Ov w X->Ro 39 #[zd N l.length M] X (ze ql)):=fun X L=>by rw [C];exact Co ke kc l N M X (Ar L hM)
 have HD:=Aa W;have HL:=W.max;obtain ⟨A,F⟩:=nm ds.length;rw [<-F] at R HL ⊢;have HN:=Aa F;clear a B g C W hM P F;generalize l.length=nl at R KL ⊢;go_enter Tryz.func15,Tryz.ntmps15;go_wp2_with fail;refine mo (R.o _ (bA _ _)) fun Z u=>?_;have y:Hx (Ov w Z):=Ab (bA _ _) u;have I:Hx (Ad [zd Y A c,zd N nl M] Z w.heap.size):=Ad.over (A5 w [zd Y A c,zd N nl M] 25) u;clear u R;generalize w.heap.size=bt at I ⊢;obtain ⟨s0,s1⟩:=rc2 I.o
 cases qm with
 | true=>
  have H:Hx (fin=2):=by have h:=T.o;simp at h;exact h
  go_wp2_with fail;go_ret;exact ⟨by rw [H.o];rfl,y.o⟩
 | false=>
  go_wp2_with fail;clear s0 s1;go_loopw [3] (fun i wr=>∃ (j:Nat),j<=A/\i=O zc j/\(ds.drop j).all (dfK ke kc)=qd/\Ov Z wr) (fun i _=>A - (intOf i).toNat)
  case atStart=>exact ⟨0,Nat.zero_le _,rfl,Q.o.symm,Below.refl _ _⟩
  case round=>
   obtain ⟨j,hj,rfl,f,J⟩:=hrel;obtain ⟨s0,s1⟩:=rc2 (I.o.over J);by_cases hjl:j < A
   ·have n:j < ds.length:=by have:=HN.o;omega
    have V:(j:Int) < (A:Int):=by omega
    obtain ⟨b,ak,rfl,cs,K,G,hr⟩:=HD.o.at n;rw [List.drop_eq_getElem_cons n,List.all_cons] at f;generalize ds[j]=dj at f hr;have x:Ov w wr:=Ab y.o J;obtain ⟨q9,E⟩:=nm (dfK ke kc dj);rw [<-E] at f;have KC:Hx (∀ X,Ov wr X->Ro 38 #[.agg cs.toArray] X (ze q9)):=fun X L=>by rw [E];exact OK ke kc cs dj X ((hr.over x).over L)
    obtain ⟨al,a0,x0,y0,g0,l0,l1,l2,p0,p1,p2,b0,b1,b2,e0,e1,e2,e3,q0,q1,q2,rfl⟩:=hr.cells;have d0:=CK x G rfl;have dA:=CJ x G;have S:=Aa f;have U:=Aa J;clear f J G K hr E n x;go_wp2_with fail;refine mo (KC.o _ (Below.refl _ _)) fun W2 u=>?_;have r:=Aa (Ab U.o u);clear u KC d0 dA s0 s1
    cases q9 with
    | true=>
     have f:=S.o;rw [Bool.true_and] at f;replace S:=Aa f;clear f;go_wp2_with fail;exact ⟨⟨j+1,by omega,by go_num,S.o,r.o⟩,by simp [intOf];omega⟩
    | false=>
     have f:=S.o;rw [Bool.false_and] at f;subst f;have H:Hx (fin=1):=by have h:=T.o;simp at h;exact h
     go_wp2_with fail;go_ret;exact ⟨by rw [H.o];rfl,Ab y.o r.o⟩
   ·have hd:ds.drop j=[]:=List.drop_eq_nil_of_le (by have:=HN.o;omega)
    have V:¬ (j:Int) < (A:Int):=by omega
    rw [hd] at f;have g:true=qd:=by rw [<-f];rfl
    subst g;have U:=Aa (Ab y.o J);clear f hd J Q;go_wp2_with fail;refine mo (KL.o _ U.o) fun W2 u=>?_;have r:=Aa (Ab U.o u);clear u KL s0 s1
    cases ql with
    | true=>
     have H:Hx (fin=0):=by have h:=T.o;simp at h;exact h
     go_wp2_with fail;go_ret;exact ⟨by rw [H.o];rfl,r.o⟩
    | false=>
     have H:Hx (fin=1):=by have h:=T.o;simp at h;exact h
     go_wp2_with fail;go_ret;exact ⟨by rw [H.o];rfl,r.o⟩
end Go.Proofs.YtipngnjffjajpaaGreatDoor.Tx
