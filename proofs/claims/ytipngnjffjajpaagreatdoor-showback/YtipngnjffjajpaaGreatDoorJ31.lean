/- The document's answer: how many commands. -/
import Derived.Test.YtipngnjffjajpaaGreatDoorJ25
set_option linter.unusedVariables false
set_option maxHeartbeats 8000000
set_option maxRecDepth 100000
namespace Go.Proofs.YtipngnjffjajpaaGreatDoor.Tx
open Go.RowKit
open Go.Value renaming int -> I, slice -> zc, bool -> zd, pointer -> zf, agg -> zg, tuple -> zi
open Go.IntKind renaming i64 -> O
open Go.Obj renaming cells -> ze
open Go.Ending renaming returned -> zh
theorem GM (ke:Nat) (d:D):Bn ke d=decide (15 < poK ke d 15):=by
 unfold Bn;rw [Kq ke d 15 (by omega),decide_eq_decide];omega
theorem Oc (ke:Nat) (rec:List D->Int) (t:Int) (s:D) (h:t<=50):csF ke rec (t,false) s=if B7 ke s=true then (51,true) else (t+1+rec (gL 6 s)+rec (gL 7 s),false):=by
 unfold csF;rw [if_neg (by simp;omega)]
theorem I0 (ke:Nat) (rec:List D->Int):∀ (l:List D),(l.foldl (csF ke rec) (51,true)).1=51
 | []=>rfl
 | a::l=>by
  rw [List.foldl_cons];have:csF ke rec (51,true) a=(51,true):=by unfold csF;rw [if_pos (Or.inl rfl)]
  rw [this];exact I0 ke rec l
theorem JW (ke:Nat) (rec:List D->Int):∀ (l:List D) (t:Int),50 < t->(l.foldl (csF ke rec) (t,false)).1=t
 | [],t,h=>rfl
 | a::l,t,h=>by
  rw [List.foldl_cons];have:csF ke rec (t,false) a=(t,false):=by unfold csF;rw [if_pos (Or.inr h)]
  rw [this];exact JW ke rec l t h
theorem Ib (ao:Option Addr) (cap:Nat) (w:World) (deep:Int):Ro 74 #[zc ao 0 cap,I O deep] w (I O 0):=by
 go_enter Tryz.func74,Tryz.ntmps74;go_wp2_with fail;go_loopw [5,6] (fun c i wr=>c=I O 0/\i=I O 0/\wr=w) (fun _ _ _=>0)
 case atStart=>exact ⟨rfl,rfl,rfl⟩
 case round=>
  obtain ⟨rfl,rfl,rfl⟩:=hrel;go_wp2_with fail;go_ret;exact ⟨rfl,Below.refl _ _⟩
theorem L3 (ke:Nat):∀ (k:Nat) (l:List D) (ao:Option Addr) (cap:Nat) (w:World) (deep:Int),LS 12 (ZC w ke k) w (zc ao l.length cap) l->1<=deep->deep<=7->Ro 74 #[zc ao l.length cap,I O deep] w (I O (csK ke k l deep)):=by
 intro k
 induction k with
 | zero=>
  intro l ao cap w deep hc _ _;have hl:l=[]:=by
   cases l with
   | nil=>rfl
   | cons a l=>
    obtain ⟨b,au,-,cs,-,-,hr⟩:=hc.at (j:=0) (by simp);exact hr.elim
  subst hl;exact Ib ao cap w deep
 | succ k ih=>
  intro l ao cap w deep hc g1 g2;have HC:=Aa hc;have IH:=Aa ih;have HL:=hc.max;obtain ⟨fin,P⟩:=nm (csK ke (k+1) l deep);rw [<-P];have g:fin=if l≠[]/\6 < deep then 51 else min 51 (l.foldl (csF ke (fun l=>csK ke k l (deep+1))) (0,false)).1:=by rw [P];rfl
  have ay:(l≠[])=(0 < l.length):=by rw [List.length_pos_iff]
  simp only [ay] at g;obtain ⟨R,ah⟩:=nm l.length;rw [<-ah] at HL g ⊢;have HN:=Aa ah;clear hc ih P ah ay;by_cases h6:0 < R/\6 < deep
  ·rw [if_pos h6] at g
   obtain ⟨h7,h8⟩:=h6;have hi:(0:Int) < (R:Int):=by omega
   have A:=Aa g;clear g;go_enter Tryz.func74,Tryz.ntmps74;go_wp2_with fail;go_ret;exact ⟨by rw [A.o];rfl,Below.refl _ _⟩
  rw [if_neg h6] at g;obtain ⟨F,hF⟩:=nm (l.foldl (csF ke (fun l=>csK ke k l (deep+1))) (0,false)).1;rw [<-hF] at g;have L:=Aa g;have HF:=Aa hF;have H6:=Aa h6;clear g hF h6;by_cases h0:0 < R
  ·have c8:(0:Int) < (R:Int):=by omega
   have c9:¬ 6 < deep:=fun h=>H6.o ⟨h0,h⟩;clear H6;go_enter Tryz.func74,Tryz.ntmps74;go_wp2_with fail;go_loopw [5,6] (fun c i wr=>∃ (j:Nat) (t:Int),j<=R/\i=I O j/\c=I O t/\0<=t/\t<=200/\((l.drop j).foldl (csF ke (fun l=>csK ke k l (deep+1))) (t,false)).1=F/\Ov w wr) (fun _ i _=>R - (intOf i).toNat)
   case atStart=>exact ⟨0,0,Nat.zero_le _,rfl,rfl,by omega,by omega,HF.o.symm,Below.refl _ _⟩
   case round=>
    obtain ⟨j,t,hj,rfl,rfl,t1,t2,n,u⟩:=hrel;by_cases hjl:j < R
    ·have E:j < l.length:=by have:=HN.o;omega
     have bs:(j:Int) < (R:Int):=by omega
     by_cases ht0:t<=50
     ·obtain ⟨b,au,rfl,cs,a0,r,hr⟩:=HC.o.at E
      rw [D3 E,Oc ke _ t _ ht0] at n;generalize l[j]=dj at n hr;obtain ⟨kd,a,x,y,e0,e1,e2,e3,q,q1,q2,e,aA,cA,args,aT,cT,th,aE,cE,el,rfl,rfl,-,-,he,hA,hT,hE⟩:=hr;simp only [gSs] at n;have d0:wr.cell? ⟨b,au+j*12,none⟩=_:=ce1 u (r 0 _ rfl);have d1:=ce1 u (r 1 _ rfl);have d2:=ce1 u (r 2 _ rfl);have d3:=ce1 u (r 3 _ rfl);have d4:=ce1 u (r 4 _ rfl);have d5:=ce1 u (r 5 _ rfl);have d6:=ce1 u (r 6 _ rfl);have d7:=ce1 u (r 7 _ rfl);have d8:=ce1 u (r 8 _ rfl);have d9:=ce1 u (r 9 _ rfl);have a5:=ce1 u (r 10 _ rfl);have a4:=ce1 u (r 11 _ rfl);obtain ⟨qm,ag⟩:=nm (B7 ke (stD kd a x y e args th el));rw [<-ag] at n;have Z:qm=(decide (4 < args.length) || decide (15 < poK ke e 15) || args.any (Bn ke)):=by rw [ag];unfold B7;simp only [gSs];rw [GM ke e]
      obtain ⟨re,V⟩:=nm (poK ke e 15);obtain ⟨qn,v⟩:=nm (args.any (Bn ke));rw [<-V,<-v] at Z;have bv:=Iv ke e 15 (by omega);rw [<-V] at bv;obtain ⟨r1,af⟩:=nm (csK ke k th (deep+1));obtain ⟨r2,ae⟩:=nm (csK ke k el (deep+1));have bz:=C4 ke k th (deep+1);have bw:=C4 ke k el (deep+1);rw [<-af] at bz n;rw [<-ae] at bw n;have KP:Hx (∀ X,Ov wr X->Ro 75 #[zg #[I O e0,I O e1,I O e2,.string e3,zc q q1 q2],I O 15] X (I O re)):=fun X hX=>by rw [V];exact FP ke _ e X 15 ((he.over u).over hX) (by omega) (by omega)
      have ac:IntKind.i64.wrap (deep+1)=deep+1:=by rw [IntKind.wrap_i64];omega
      have KT:Hx (∀ X,Ov wr X->Ro 74 #[zc aT th.length cT,I O (IntKind.i64.wrap (deep+1))] X (I O r1)):=fun X hX=>by rw [af,ac];exact IH.o th aT cT X (deep+1) (A6 hX (A6 u hT)) (by omega) (by omega)
      have KL:Hx (∀ X,Ov wr X->Ro 74 #[zc aE el.length cE,I O (IntKind.i64.wrap (deep+1))] X (I O r2)):=fun X hX=>by rw [ae,ac];exact IH.o el aE cE X (deep+1) (A6 hX (A6 u hE)) (by omega) (by omega)
      have cb:=hA.max;have ch:=Aa (C2 u hA);have b8:=Aa v;have ab:=Aa u;have HP:=Aa n;obtain ⟨S,ai⟩:=nm args.length;rw [<-ai] at d9 cb Z;have a6:=Aa ai;have HM:=Aa Z;clear r a0 u E n ag Z V v af ae he hA hT hE ai ac;generalize th.length=nT at a5 KT;generalize el.length=nE at a4 KL;go_wp2_with fail;refine (KP.o _ (bA _ _)).mono ?_;rintro e W2 ⟨rfl,J⟩;have al:Hx (Ov wr W2):=Ac (bA _ _) J;have ak:Hx (Af [I O kd,I O a,.string x,.string y,I O e0,I O e1,I O e2,.string e3,zc q q1 q2,zc aA S cA,zc aT nT cT,zc aE nE cE] W2 wr.heap.size):=Af.over (Ax wr [I O kd,I O a,.string x,.string y,I O e0,I O e1,I O e2,.string e3,zc q q1 q2,zc aA S cA,zc aT nT cT,zc aE nE cE] 55) J;clear J d0 d1 d2 d3 d4 d5 d6 d7 d8 d9 a5 a4 KP;generalize wr.heap.size=bq at ak ⊢;obtain ⟨n0,n1,n2,n3,n4,n5,n6,n7,n8,n9,U,T⟩:=AU ak.o;by_cases h15:15 < re
      ·have n:=HP.o
       rw [show qm=true by have h:=HM.o;simp [h15] at h;exact h,if_pos rfl,I0] at n;have A:Hx (fin=51):=by show _=_;rw [L.o,<-n];rfl
       clear n;go_wp2_with fail;go_ret;exact ⟨by rw [A.o];rfl,Ac ab.o al.o⟩
      by_cases h4:4 < S
      ·have n:=HP.o
       rw [show qm=true by have h:=HM.o;simp [h4] at h;exact h,if_pos rfl,I0] at n;have A:Hx (fin=51):=by show _=_;rw [L.o,<-n];rfl
       clear n;have bu:(4:Int) < (S:Int):=by omega
       go_wp2_with fail;go_ret;exact ⟨by rw [A.o];rfl,Ac ab.o al.o⟩
      have bu:¬ (4:Int) < (S:Int):=by omega
      have az:qm=qn:=by have h:=HM.o;simp [h15,h4] at h;exact h
      replace HM:=Aa az;clear az;go_wp2_with fail;clear n0 n1 n2 n3 n4 n5 n6 n7 n8 n9 U T;go_loopw [8] (fun i ws=>∃ (i2:Nat),i2<=S/\i=I O i2/\(args.drop i2).any (Bn ke)=qn/\Ov W2 ws) (fun i _=>S - (intOf i).toNat)
      case atStart=>exact ⟨0,Nat.zero_le _,rfl,b8.o.symm,Below.refl _ _⟩
      case round=>
       obtain ⟨i,c7,rfl,B,Q⟩:=hrel;have M:=Aa (Ac al.o Q);have C:=M.o;obtain ⟨n0,n1,n2,n3,n4,n5,n6,n7,n8,n9,U,T⟩:=AU (ak.o.over Q);by_cases hil:i < S
       ·have N:i < args.length:=by have:=a6.o;omega
        have bt:(i:Int) < (S:Int):=by omega
        obtain ⟨ba,oa,rfl,ca,bp,H,Y⟩:=ch.o.at N;rw [List.drop_eq_getElem_cons N,List.any_cons] at B;generalize args[i]=da at B Y;obtain ⟨rp,ad⟩:=nm (poK ke da 15);rw [GM,<-ad] at B;have KQ:Hx (∀ X,Ov wr X->Ro 75 #[.agg ca.toArray,I O 15] X (I O rp)):=fun X hX=>by rw [ad];exact FP ke ca da X 15 ((Y.over C).over hX) (by omega) (by omega)
        obtain ⟨k0,k1,k2,k3,k4,k5,k6,rfl⟩:=Y.cells;have z0:wr.cell? ⟨ba,oa+i*5,none⟩=_:=ce1 C (H 0 _ rfl);have z1:=ce1 C (H 1 _ rfl);have z2:=ce1 C (H 2 _ rfl);have z3:=ce1 C (H 3 _ rfl);have z4:=ce1 C (H 4 _ rfl);have aa:=Aa B;have cd:=Aa Q;clear B Q C Y H bp ad N;go_wp2_with fail;refine (KQ.o _ (Below.refl _ _)).mono ?_;rintro e W4 ⟨rfl,J⟩;have cg:=Aa (Ac cd.o J);have cf:=Aa (Ac M.o J);clear J z0 z1 z2 z3 z4 n0 n1 n2 n3 n4 n5 n6 n7 n8 n9 U T KQ M;by_cases h15':15 < rp
        ·have v:qn=true:=by have h:=aa.o;simp [h15'] at h;exact h
         subst v;have n:=HP.o;rw [HM.o,if_pos rfl,I0] at n;have A:Hx (fin=51):=by show _=_;rw [L.o,<-n];rfl
         clear n;go_wp2_with fail;go_ret;exact ⟨by rw [A.o];rfl,Ac ab.o cf.o⟩
        ·have v:(args.drop (i+1)).any (Bn ke)=qn:=by have h:=aa.o;rw [decide_eq_false h15',Bool.false_or] at h;exact h
         replace aa:=Aa v;clear v;go_wp2_with fail;exact ⟨⟨i+1,by omega,by go_num,aa.o,cg.o⟩,by simp [intOf];omega⟩
       ·have hd:args.drop i=[]:=List.drop_eq_nil_of_le (by have:=a6.o;omega)
        have bt:¬ (i:Int) < (S:Int):=by omega
        rw [hd] at B;have v:qn=false:=by rw [<-B];rfl
        subst v;have n:=HP.o;rw [HM.o,if_neg (by simp),show t+1+r1+r2=t+(1+r1+r2) by omega] at n;replace HP:=Aa n;clear n hd B Q C;go_wp2_with fail;refine Go.Proofs.YtipngnjffjajpaaGreatDoor.gS (fun Wz=>Below wr.heap.size wr Wz) (Below.refl _ _).drew fun f=>?_;generalize wr.drew=W at f ⊢;refine kO 0 ?_;refine kO 1 ?_;refine kO 2 ?_;refine kO 3 ?_;refine kO 4 ?_;refine kO 7 ?_;refine kO 8 ?_;refine kO 9 ?_;refine kO 10 ?_;refine rdA 5 rfl fun K hK=>?_;go_simp;refine (KT.o _ (Ac M.o f)).mono ?_;rintro e W5 ⟨rfl,J⟩;have cc:Hx (Ov wr W5):=Ac f J;clear J f KT;go_simp;refine xK hK (cc.o) fun f=>?_;clear hK K;refine kO 6 ?_;refine rdA 11 rfl fun K hK=>?_;go_simp;refine (KL.o _ (Ac M.o f)).mono ?_;rintro e W6 ⟨rfl,J⟩;have a7:Hx (Ov wr W6):=Ac f J;clear J f KL;go_simp;refine xK hK (a7.o) fun f=>?_;clear hK K;refine kO 12 ?_;refine kO 13 ?_;refine kO 14 ?_;refine gE ?_;have ce:Hx (Ov w W6):=Ac ab.o (Ac M.o a7.o);clear f n0 n1 n2 n3 n4 n5 n6 n7 n8 n9 U T;have ax:IntKind.i64.wrap (1+r1)=1+r1:=by rw [IntKind.wrap_i64];omega
        have aw:IntKind.i64.wrap (1+r1+r2)=1+r1+r2:=by rw [IntKind.wrap_i64];omega
        have av:IntKind.i64.wrap (t+(1+r1+r2))=t+(1+r1+r2):=by rw [IntKind.wrap_i64];omega
        rw [ax,aw,av];clear ax aw av;go_wp2_with fail;exact ⟨⟨j+1,t+(1+r1+r2),by omega,by go_num,rfl,by omega,by omega,HP.o,ce.o⟩,by simp [intOf];omega⟩
     ·rw [JW ke _ _ _ (by omega)] at n
      have A:Hx (fin=min 51 t):=by show _=_;rw [L.o,<-n]
      have HB:=Aa u;clear n u E;by_cases h51:51 < t
      ·have G:fin=51:=by rw [A.o];omega
       replace A:=Aa G;clear G;go_wp2_with fail;go_ret;exact ⟨by rw [A.o];rfl,HB.o⟩
      ·have G:fin=t:=by rw [A.o];omega
       replace A:=Aa G;clear G;go_wp2_with fail;go_ret;exact ⟨by rw [A.o];rfl,HB.o⟩
    ·have hd:l.drop j=[]:=List.drop_eq_nil_of_le (by have:=HN.o;omega)
     rw [hd] at n;have A:Hx (fin=min 51 t):=by show _=_;rw [L.o,<-n];rfl
     have HB:=Aa u;have bs:¬ (j:Int) < (R:Int):=by omega
     clear n u hd;by_cases h51:51 < t
     ·have G:fin=51:=by rw [A.o];omega
      replace A:=Aa G;clear G;go_wp2_with fail;go_ret;exact ⟨by rw [A.o];rfl,HB.o⟩
     ·have G:fin=t:=by rw [A.o];omega
      replace A:=Aa G;clear G;go_wp2_with fail;go_ret;exact ⟨by rw [A.o];rfl,HB.o⟩
  ·have br:l=[]:=List.length_eq_zero_iff.1 (by have:=HN.o;omega)
   have hz:R=0:=by omega
   have G:fin=0:=by rw [L.o,HF.o,br];rfl
   rw [G,hz];exact Ib ao cap w deep
theorem J4 (ke kc:Nat) (ds l:List D) (v:Value) (w:World) (h:ZT w ke kc v ds l):Ro 37 #[v] w (zd (JC ke kc ds l)):=by
 obtain ⟨ao,c,a2,c2,rfl,hD,hM⟩:=h;obtain ⟨fin,g⟩:=nm (JC ke kc ds l);rw [<-g];unfold JC at g;have HD:=Aa hD;have HL:=hD.max;obtain ⟨r0,ac⟩:=nm (csK ke kc l 1);have b4:=C4 ke kc l 1;rw [<-ac] at g b4;have KM:Hx (∀ X,Ov w X->Ro 74 #[zc a2 l.length c2,I O 1] X (I O r0)):=fun X hX=>by rw [ac];exact L3 ke kc l a2 c2 X 1 (A6 hX hM) (by omega) (by omega)
 obtain ⟨J,ae⟩:=nm ds.length;rw [<-ae] at HL g ⊢;have HN:=Aa ae;clear hD hM ae ac;generalize l.length=nl at KM ⊢;obtain ⟨V,hV⟩:=nm (w.alloc (ze #[zc ao J c,zc a2 nl c2] 25));have S:Hx (Ov w V):=by show Ov _ _;rw [hV];exact bA _ _
 have bc:Hx (Af [zc ao J c,zc a2 nl c2] V w.heap.size):=by show Af _ _ _;rw [hV];exact Ax w [zc ao J c,zc a2 nl c2] 25
 by_cases h30:30 < J
 ·have hi:(30:Int) < (J:Int):=by omega
  have M:Hx (fin=true):=by show _=_;rw [g];simp [h30]
  clear g;go_enter Tryz.func37,Tryz.ntmps37;go_wp2_with fail;go_ret;exact ⟨by rw [M.o];rfl,by rw [<-hV];exact S.o⟩
 rw [decide_eq_false h30,Bool.false_or] at g;have HF:=Aa g;have hi:¬ (30:Int) < (J:Int):=by omega
 clear g;go_enter Tryz.func37,Tryz.ntmps37;go_wp2_with fail;rw [<-hV];clear hV;refine (KM.o _ S.o).mono ?_;rintro e W1 ⟨rfl,N⟩;have F:Hx (Ov w W1):=Ac S.o N;have Q:=Aa (bc.o.over N);clear N KM S bc;generalize w.heap.size=bt at Q ⊢;obtain ⟨s0,s1⟩:=rc2 Q.o;go_wp2_with fail;clear s0 s1;go_loopw [3,4] (fun c i wr=>∃ (j:Nat) (t:Int),j<=J/\i=I O j/\c=I O t/\0<=t/\t<=51+51*j/\((ds.drop j).any (BH ke) || decide (50 < (ds.drop j).foldl (fun n d=>n+csK ke kc (gL 7 d) 1) t))=fin/\Ov W1 wr) (fun _ i _=>J - (intOf i).toNat)
 case atStart=>exact ⟨0,r0,Nat.zero_le _,rfl,rfl,by omega,by omega,HF.o.symm,Below.refl _ _⟩
 case round=>
  obtain ⟨j,t,hj,rfl,rfl,t1,t2,E,hB⟩:=hrel;obtain ⟨s0,s1⟩:=rc2 (Q.o.over hB);by_cases hjl:j < J
  ·have K:j < ds.length:=by have:=HN.o;omega
   have bw:(j:Int) < (J:Int):=by omega
   obtain ⟨b,bk,rfl,cs,av,u,hr⟩:=HD.o.at K;rw [List.drop_eq_getElem_cons K,List.any_cons,List.foldl_cons] at E;generalize ds[j]=dj at E hr;have f:Ov w wr:=Ac F.o hB;obtain ⟨kd,a,x,y,gv,aL,cL,lb,aP,cP,ps,aB,cB,B,e0,e1,e2,e3,q,q1,q2,r,rfl,rfl,-,-,ag,a0,a1,hR⟩:=hr;simp only [gDd] at E;obtain ⟨r1,ab⟩:=nm (csK ke kc B 1);have b3:=C4 ke kc B 1;rw [<-ab] at E b3;have KB:Hx (∀ X,Ov wr X->Ro 74 #[zc aB B.length cB,I O 1] X (I O r1)):=fun X hX=>by rw [ab];exact L3 ke kc B aB cB X 1 (A6 hX (A6 f a1)) (by omega) (by omega)
   obtain ⟨qm,ad⟩:=nm (BH ke (deD kd a x y gv lb ps B r));rw [<-ad] at E;have P:qm=(decide (4 < lb.length) || decide (4 < ps.length) || decide (15 < poK ke r 15) || lb.any (fun p=>decide (6 < (gL 3 p).length))):=by rw [ad];unfold BH;simp only [gDd,List.length_map];rw [GM ke r]
   obtain ⟨re,aa⟩:=nm (poK ke r 15);obtain ⟨qn,A⟩:=nm (lb.any (fun p=>decide (6 < (gL 3 p).length)));rw [<-aa,<-A] at P;have KP:Hx (∀ X,Ov wr X->Ro 75 #[zg #[I O e0,I O e1,I O e2,.string e3,zc q q1 q2],I O 15] X (I O re)):=fun X hX=>by rw [aa];exact FP ke _ r X 15 ((hR.over f).over hX) (by omega) (by omega)
   have ch:=ag.max;have cf:=a0.max;have cj:=Aa (DP f ag);have ce:=Aa A;have d0:wr.cell? ⟨b,bk+j*13,none⟩=_:=ce1 f (u 0 _ rfl);have d1:=ce1 f (u 1 _ rfl);have d2:=ce1 f (u 2 _ rfl);have d3:=ce1 f (u 3 _ rfl);have d4:=ce1 f (u 4 _ rfl);have d5:=ce1 f (u 5 _ rfl);have d6:=ce1 f (u 6 _ rfl);have d7:=ce1 f (u 7 _ rfl);have d8:=ce1 f (u 8 _ rfl);have d9:=ce1 f (u 9 _ rfl);have b8:=ce1 f (u 10 _ rfl);have b7:=ce1 f (u 11 _ rfl);have b6:=ce1 f (u 12 _ rfl);have U:=Aa hB;have HP:=Aa E;obtain ⟨H,af⟩:=nm lb.length;rw [<-af] at d5 ch P;have be:=Aa af;have T:=Aa P;clear u av hB K a1 ad P aa A f ab E ag a0 hR af;generalize ps.length=nP at cf T d6;generalize B.length=nB at KB d7;have bd:Hx (Af [I O kd,I O a,.string x,.string y,zd gv,zc aL H cL,zc aP nP cP,zc aB nB cB,I O e0,I O e1,I O e2,.string e3,zc q q1 q2] (wr.alloc (ze #[I O kd,I O a,.string x,.string y,zd gv,zc aL H cL,zc aP nP cP,zc aB nB cB,I O e0,I O e1,I O e2,.string e3,zc q q1 q2] 51)) wr.heap.size):=Ax wr [I O kd,I O a,.string x,.string y,zd gv,zc aL H cL,zc aP nP cP,zc aB nB cB,I O e0,I O e1,I O e2,.string e3,zc q q1 q2] 51;by_cases h4:4 < H
   ·have M:Hx (fin=true):=by have h:=HP.o;rw [show qm=true by have h:=T.o;simp [h4] at h;exact h] at h;simp at h;exact h
    have b2:(4:Int) < (H:Int):=by omega
    go_wp2_with fail;go_ret;exact ⟨by rw [M.o];rfl,Ac F.o (Ac U.o (bA _ _))⟩
   have b2:¬ (4:Int) < (H:Int):=by omega
   by_cases h5:4 < nP
   ·have M:Hx (fin=true):=by have h:=HP.o;rw [show qm=true by have h:=T.o;simp [h5] at h;exact h] at h;simp at h;exact h
    have b1:(4:Int) < (nP:Int):=by omega
    go_wp2_with fail;go_ret;exact ⟨by rw [M.o];rfl,Ac F.o (Ac U.o (bA _ _))⟩
   have b1:¬ (4:Int) < (nP:Int):=by omega
   go_wp2_with fail;refine (KP.o _ (bA _ _)).mono ?_;rintro e W2 ⟨rfl,N⟩;have G:Hx (Ov wr W2):=Ac (bA _ _) N;have ah:Hx (Af [I O kd,I O a,.string x,.string y,zd gv,zc aL H cL,zc aP nP cP,zc aB nB cB,I O e0,I O e1,I O e2,.string e3,zc q q1 q2] W2 wr.heap.size):=bd.o.over N;have c9:=Aa ((Q.o.over U.o).over G.o);clear N d0 d1 d2 d3 d4 d5 d6 d7 d8 d9 b8 b7 b6 KP bd s0 s1;generalize wr.heap.size=bq at ah ⊢;obtain ⟨n0,n1,n2,n3,n4,n5,n6,n7,n8,n9,Z,Y,W⟩:=AI ah.o;by_cases h15:15 < re
   ·have M:Hx (fin=true):=by have h:=HP.o;rw [show qm=true by have h:=T.o;simp [h15] at h;exact h] at h;simp at h;exact h
    go_wp2_with fail;go_ret;exact ⟨by rw [M.o];rfl,Ac F.o (Ac U.o G.o)⟩
   have au:qm=qn:=by have h:=T.o;simp [h15,h4,h5] at h;exact h
   replace T:=Aa au;clear au;go_wp2_with fail;clear n0 n1 n2 n3 n4 n5 n6 n7 n8 n9 Z Y W;go_loopw [6] (fun i ws=>∃ (i2:Nat),i2<=H/\i=I O i2/\(lb.drop i2).any (fun p=>decide (6 < (gL 3 p).length))=qn/\ws=W2) (fun i _=>H - (intOf i).toNat)
   case atStart=>exact ⟨0,Nat.zero_le _,rfl,ce.o.symm,rfl⟩
   case round=>
    obtain ⟨i,cz,rfl,C,rfl⟩:=hrel;obtain ⟨n0,n1,n2,n3,n4,n5,n6,n7,n8,n9,Z,Y,W⟩:=AI ah.o;by_cases hil:i < H
    ·have L:i < lb.length:=by have:=be.o;omega
     have bz:(i:Int) < (H:Int):=by omega
     obtain ⟨ba,oa,rfl,ca,bv,ax,ar⟩:=cj.o.at L;rw [List.drop_eq_getElem_cons L,List.any_cons] at C;generalize lb[i]=da at C ar;have a3:=G.o;obtain ⟨pa,po,pw,pn,pc,ns,rfl,rfl,-,hN⟩:=ar;simp only [gPp,List.length_map] at C;have cg:=hN.max;have z3:=ce1 a3 (ax 3 _ rfl);generalize ns.length=nN at z3 C cg;have R:=Aa C;clear C a3 ax bv L hN;by_cases hn6:6 < nN
     ·have A:qn=true:=by have h:=R.o;simp [hn6] at h;exact h
      subst A;have M:Hx (fin=true):=by have h:=HP.o;rw [T.o] at h;simp at h;exact h
      have b0:(6:Int) < (nN:Int):=by omega
      go_wp2_with fail;go_ret;exact ⟨by rw [M.o];rfl,Ac F.o (Ac U.o G.o)⟩
     ·have A:(lb.drop (i+1)).any (fun p=>decide (6 < (gL 3 p).length))=qn:=by have h:=R.o;rw [decide_eq_false hn6,Bool.false_or] at h;exact h
      replace R:=Aa A;have b0:¬ (6:Int) < (nN:Int):=by omega
      clear A;go_wp2_with fail;exact ⟨⟨i+1,by omega,by go_num,R.o,by trivial⟩,by simp [intOf];omega⟩
    ·have hd:lb.drop i=[]:=List.drop_eq_nil_of_le (by have:=be.o;omega)
     have bz:¬ (i:Int) < (H:Int):=by omega
     rw [hd] at C;have A:qn=false:=by rw [<-C];rfl
     subst A;have E:=HP.o;rw [T.o,Bool.false_or] at E;replace HP:=Aa E;clear E hd C;go_wp2_with fail;refine (KB.o _ G.o).mono ?_;rintro e W3 ⟨rfl,N⟩;have ci:=Aa (Ac U.o (Ac G.o N));clear N n0 n1 n2 n3 n4 n5 n6 n7 n8 n9 Z Y W KB;go_wp2_with fail;exact ⟨⟨j+1,t+r1,by omega,by go_num,by go_num,by omega,by omega,HP.o,ci.o⟩,by simp [intOf];omega⟩
  ·have hd:ds.drop j=[]:=List.drop_eq_nil_of_le (by have:=HN.o;omega)
   have bw:¬ (j:Int) < (J:Int):=by omega
   rw [hd] at E;have M:Hx (fin=decide (50 < t)):=by show _=_;rw [<-E];rfl
   have U:=Aa hB;clear E hd hB;go_wp2_with fail;go_ret;exact ⟨by rw [M.o];rfl,Ac F.o U.o⟩
theorem P6 {ke k:Nat} {a:Int} {x y:ByteArray} {e:D} {args th el:List D} (h:sfK ke (k+1) (stD 4 a x y e args th el)=true):x=⟨#[]⟩/\nmS y.data.toList=true/\efK ke e=true/\args=[]/\th=[]/\el=[]:=by
 simp only [sfK,gSs] at h;simp [Lb,Ld,Hh,JM,Lc,JL,hOk,nfS,lfS] at h;obtain ⟨⟨⟨⟨⟨c,b⟩,i⟩,j,-⟩,f,-⟩,g,-⟩:=h;exact ⟨ByteArray.ext c,b,i,j,f,g⟩
theorem P5 (ke k:Nat) (l:List D) (ao:Option Addr) (cap:Nat) (w:World) (hc:LS 12 (ZC w ke (k+1)) w (zc ao l.length cap) l) (hk:∀ s∈l,gI 0 s=4/\sfK ke (k+1) s=true):Ro 39 #[zc ao l.length cap] w (zd true):=by
 have HC:=Aa hc;have HL:=hc.max;have HK:=Aa hk;obtain ⟨nn,Q⟩:=nm l.length;rw [<-Q] at HL ⊢;have HN:=Aa Q;clear hc Q hk;go_enter Tryz.func39,Tryz.ntmps39;go_wp2_with fail;go_loopw [3] (fun i wr=>∃ (j:Nat),j<=nn/\i=I O j/\Ov w wr) (fun i _=>nn - (intOf i).toNat)
 case atStart=>exact ⟨0,Nat.zero_le _,rfl,Below.refl _ _⟩
 case round=>
  obtain ⟨j,hj,rfl,g⟩:=hrel;by_cases hjl:j < nn
  ·have u:j < l.length:=by have:=HN.o;omega
   have a5:(j:Int) < (nn:Int):=by omega
   obtain ⟨b,a2,rfl,cs,aq,f,hr⟩:=HC.o.at u;have hq:=HK.o _ (List.getElem_mem u);generalize l[j]=dj at hq hr;obtain ⟨kd,a,x,y,N,M,L,J,q,q1,F,e,Y,U,be,V,S,th,W,T,el,rfl,rfl,hx,hy,he,hA,hT,hE⟩:=hr;obtain ⟨ar,hs⟩:=hq;rw [(gSs _ _ _ _ _ _ _ _).1] at ar;subst ar;obtain ⟨rfl,am,ap,rfl,rfl,rfl⟩:=P6 hs;have d0:wr.cell? ⟨b,a2+j*12,none⟩=_:=ce1 g (f 0 _ rfl);have d1:=ce1 g (f 1 _ rfl);have d2:=ce1 g (f 2 _ rfl);have d3:=ce1 g (f 3 _ rfl);have d4:=ce1 g (f 4 _ rfl);have d5:=ce1 g (f 5 _ rfl);have d6:=ce1 g (f 6 _ rfl);have d7:=ce1 g (f 7 _ rfl);have d8:=ce1 g (f 8 _ rfl);have d9:=ce1 g (f 9 _ rfl);have a8:=ce1 g (f 10 _ rfl);have a7:=ce1 g (f 11 _ rfl);obtain ⟨qo,an⟩:=nm (Dd e);have KO:Hx (∀ X,Ov wr X->Ro 78 #[zg #[I O N,I O M,I O L,.string J,zc q q1 F]] X (zd qo)):=fun X hX=>by rw [an];exact IE ke _ e X ((he.over g).over hX)
   have KE:Hx (∀ X,Ov wr X->Ro 79 #[zg #[I O N,I O M,I O L,.string J,zc q q1 F]] X (zd true)):=fun X hX=>by rw [<-ap];exact GR ke _ e X ((he.over g).over hX)
   have KY:Hx (∀ X,Ov wr X->Ro 77 #[.string y] X (zd true)):=fun X hX=>by rw [<-am];exact CT y X hy
   have ba:=Aa g;clear f aq g u an hx hy he hA hT hE hs am ap;obtain ⟨W1,E⟩:=nm (wr.alloc (ze #[I O 4,I O a,.string ⟨#[]⟩,.string y,I O N,I O M,I O L,.string J,zc q q1 F,zc Y 0 U,zc V 0 S,zc W 0 T] 55));obtain ⟨bq,R⟩:=nm wr.heap.size;have az:Hx (Ov wr W1):=by show Ov _ _;rw [E];exact bA _ _
   have av:Hx (Af [I O 4,I O a,.string ⟨#[]⟩,.string y,I O N,I O M,I O L,.string J,zc q q1 F,zc Y 0 U,zc V 0 S,zc W 0 T] W1 bq):=by show Af _ _ _;rw [E,R];exact Ax wr [I O 4,I O a,.string ⟨#[]⟩,.string y,I O N,I O M,I O L,.string J,zc q q1 F,zc Y 0 U,zc V 0 S,zc W 0 T] 55
   go_wp2_with fail;rw [<-E,<-R];clear E R d0 d1 d2 d3 d4 d5 d6 d7 d8 d9 a8 a7;obtain ⟨m0,m1,m2,m3,m4,m5,m6,m7,m8,m9,r,n⟩:=AU av.o;refine gS (fun Wz=>Below W1.heap.size W1 Wz) (Below.refl _ _).drew fun c=>?_;generalize W1.drew=Y2 at c ⊢;refine kO 0 ?_;refine kO 1 ?_;refine kO 2 ?_;refine kO 3 ?_;refine kO 4 ?_;refine kO 5 ?_;refine kO 6 ?_;refine kO 7 ?_;refine rdA 8 rfl fun K H=>?_;go_simp;refine (KO.o _ (Ac az.o c)).mono ?_;rintro e Z ⟨rfl,G⟩;have B:Hx (Ov W1 Z):=Ac c G;clear G c KO;go_simp;refine xK H (B.o) fun c=>?_;clear H K;refine kO 9 ?_;refine kO 10 ?_;refine kO 11 ?_;refine gE ?_;have ay:Hx (Ov wr Z):=Ac az.o B.o;have P:Hx (Af [I O 4,I O a,.string ⟨#[]⟩,.string y,I O N,I O M,I O L,.string J,zc q q1 F,zc Y 0 U,zc V 0 S,zc W 0 T] Z bq):=av.o.over B.o;clear c m0 m1 m2 m3 m4 m5 m6 m7 m8 m9 r n;go_wp2_with fail;obtain ⟨m0,m1,m2,m3,m4,m5,m6,m7,m8,m9,r,n⟩:=AU P.o;refine gS (fun Wz=>Below Z.heap.size Z Wz) (Below.refl _ _).drew fun c=>?_;generalize Z.drew=Y4 at c ⊢;refine kO 0 ?_;refine kO 1 ?_;refine kO 2 ?_;refine kO 3 ?_;refine kO 4 ?_;refine kO 5 ?_;refine kO 6 ?_;refine kO 7 ?_;refine kO 8 ?_;refine kO 9 ?_;refine kO 10 ?_;refine kO 11 ?_;refine kO 12 ?_;refine kO 13 ?_;refine kO 14 ?_;refine gE ?_;have C:Hx (Ov wr Y4):=Ac ay.o c;have v:Hx (Af [I O 4,I O a,.string ⟨#[]⟩,.string y,I O N,I O M,I O L,.string J,zc q q1 F,zc Y 0 U,zc V 0 S,zc W 0 T] Y4 bq):=P.o.over c;clear c m0 m1 m2 m3 m4 m5 m6 m7 m8 m9 r n;obtain ⟨n0,n1,n2,n3,n4,n5,n6,n7,n8,n9,a4,a3⟩:=AU v.o;go_wp2_with fail;clear n0 n1 n2 n3 n4 n5 n6 n7 n8 n9 a4 a3;obtain ⟨m0,m1,m2,m3,m4,m5,m6,m7,m8,m9,r,n⟩:=AU v.o;refine gS (fun Wz=>Below Y4.heap.size Y4 Wz) (Below.refl _ _).drew fun c=>?_;generalize Y4.drew=Y6 at c ⊢;refine kO 0 ?_;refine kO 1 ?_;refine kO 3 ?_;refine kO 4 ?_;refine rdA 2 rfl fun K H=>?_;go_simp;refine (KY.o _ (Ac C.o c)).mono ?_;rintro e W7 ⟨rfl,G⟩;have aw:Hx (Ov Y4 W7):=Ac c G;clear G c KY;go_simp;refine xK H (aw.o) fun c=>?_;clear H K;refine rdA 5 rfl fun K H=>?_;go_simp;refine (KE.o _ (Ac C.o c)).mono ?_;rintro e W8 ⟨rfl,G⟩;have A:Hx (Ov Y4 W8):=Ac c G;clear G c KE;go_simp;refine xK H (A.o) fun c=>?_;clear H K;refine kO 6 ?_;refine kO 7 ?_;refine gE ?_;have ax:Hx (Ov wr W8):=Ac C.o A.o;have bi:Hx (Af [I O 4,I O a,.string ⟨#[]⟩,.string y,I O N,I O M,I O L,.string J,zc q q1 F,zc Y 0 U,zc V 0 S,zc W 0 T] W8 bq):=v.o.over A.o;clear c m0 m1 m2 m3 m4 m5 m6 m7 m8 m9 r n;go_wp2_with fail;exact ⟨⟨j+1,by omega,by go_num,Ac ba.o ax.o⟩,by simp [intOf];omega⟩
  ·have HB:=Aa g
   have a5:¬ (j:Int) < (nn:Int):=by omega
   clear g;go_wp2_with fail;go_ret;exact ⟨rfl,HB.o⟩
theorem La (ke kc:Nat) (a:Int) (x y:ByteArray) (aL:Option Addr) (cL:Nat) (lb:List D) (aP:Option Addr) (cP:Nat) (ps:List ByteArray) (aB:Option Addr) (cB:Nat) (body:List D) (e0 e1 e2:Int) (e3:ByteArray) (q:Option Addr) (q1 q2:Nat) (r:D) (w:World) (hx:x.size<=maxLen) (hy:y.size<=maxLen) (hL:LS 4 (ZP w) w (zc aL lb.length cL) lb) (hP:LS 1 ZN w (zc aP ps.length cP) ps) (hB:LS 12 (ZC w ke kc) w (zc aB body.length cB) body) (hR:ZE w ke [I O e0,I O e1,I O e2,.string e3,zc q q1 q2] r) :
  Ro 38 #[zg #[I O 1,I O a,.string x,.string y,zd false,zc aL lb.length cL,zc aP ps.length cP,zc aB body.length cB,I O e0,I O e1,I O e2,.string e3,zc q q1 q2]] w (zd (dfK ke kc (deD 1 a x y false lb ps body r))):=by
 obtain ⟨fin,G⟩:=nm (dfK ke kc (deD 1 a x y false lb ps body r));rw [<-G];unfold dfK Eb Ec at G;simp only [gDd,G3 nmS,IW,List.length_map] at G;obtain ⟨qx,aa⟩:=nm (nmS x.data.toList);obtain ⟨qy,Z⟩:=nm (y.data.toList.isEmpty);obtain ⟨ql,T⟩:=nm (lb.all Da);obtain ⟨qp,ac⟩:=nm (ps.all fun x=>nmS x.data.toList);obtain ⟨qb,ah⟩:=nm (body.all (sfK ke kc));obtain ⟨qr,ab⟩:=nm (efK ke r);obtain ⟨qo,ad⟩:=nm (Dd r);obtain ⟨K,L⟩:=nm lb.length;obtain ⟨R,M⟩:=nm ps.length;obtain ⟨S,U⟩:=nm body.length;have ae:(lb≠[])=(K≠0):=by rw [L];simp
 have aq:K=0->ql=true:=fun h=>by rw [T,List.length_eq_zero_iff.1 (L.symm.trans h)];rfl
 simp only [<-aa,<-T,<-ac,<-ah,<-ab,<-ad,<-M,<-U,ae] at G;have HF:Hx (fin=(qx && qy && (!false && decide (K=0)) && (decide (R=0) && decide (S=0) && qo))):=by
  show _=_;rw [G,Z];by_cases h0:K=0
  ·simp [h0,nfS]
  ·simp [h0,nfS]
 have aj:Hx (∀ X,Ov w X->Ro 76 #[I O 1,I O 1,I O 7] X (zd true)):=fun X _=>by simpa using Dl 1 1 7 X
 have ai:Hx (∀ X,Ov w X->Ro 76 #[I O 1,I O 4,I O 6] X (zd false)):=fun X _=>by simpa using Dl 1 4 6 X
 have KX:Hx (∀ X,Ov w X->Ro 77 #[.string x] X (zd qx)):=fun X _=>by rw [aa];exact CT x X hx
 have V:=Aa Z;have KO:Hx (∀ X,Ov w X->Ro 78 #[zg #[I O e0,I O e1,I O e2,.string e3,zc q q1 q2]] X (zd qo)):=fun X hX=>by rw [ad];exact IE ke _ r X (hR.over hX)
 have KR:Hx (∀ X,Ov w X->Ro 79 #[zg #[I O e0,I O e1,I O e2,.string e3,zc q q1 q2]] X (zd qr)):=fun X hX=>by rw [ab];exact GR ke _ r X (hR.over hX)
 have av:=hL.max;have au:=hP.max;have ak:=hB.max;rw [<-L] at av;rw [<-M] at au;rw [<-U] at ak;have bb:=Aa hL;have a8:=Aa hP;have a7:=Aa T;have a6:=Aa ac;have ba:=Aa L;have a9:=Aa M;rw [<-L,<-M,<-U];clear G aa Z T ac ah ab ad ae aq hL hP hB hR L M U hx hy;go_enter Tryz.func38,Tryz.ntmps38;go_wp2_with fail;refine (aj.o _ (bA w (ze #[I O 1,I O a,.string x,.string y,zd false,zc aL K cL,zc aP R cP,zc aB S cB,I O e0,I O e1,I O e2,.string e3,zc q q1 q2] 51))).mono ?_;rintro e w1 ⟨rfl,J⟩;have al:Hx (Ov w w1):=Ac (bA w (ze #[I O 1,I O a,.string x,.string y,zd false,zc aL K cL,zc aP R cP,zc aB S cB,I O e0,I O e1,I O e2,.string e3,zc q q1 q2] 51)) J;have P:Hx (Af [I O 1,I O a,.string x,.string y,zd false,zc aL K cL,zc aP R cP,zc aB S cB,I O e0,I O e1,I O e2,.string e3,zc q q1 q2] w1 w.heap.size):=Af.over (Ax w [I O 1,I O a,.string x,.string y,zd false,zc aL K cL,zc aP R cP,zc aB S cB,I O e0,I O e1,I O e2,.string e3,zc q q1 q2] 51) J;clear J  aj;obtain ⟨E,C,B,A,v,u,n,l,j,g,f,c,b⟩:=AI P.o;go_wp2_with fail;refine (KX.o _ (al.o)).mono ?_;rintro e w2 ⟨rfl,J⟩;have W:Hx (Ov w w2):=Ac (al.o) J;have H:Hx (Af [I O 1,I O a,.string x,.string y,zd false,zc aL K cL,zc aP R cP,zc aB S cB,I O e0,I O e1,I O e2,.string e3,zc q q1 q2] w2 w.heap.size):=P.o.over J;clear J E C B A v u n l j g f c b KX
 cases qx with
 | true=>
  by_cases hy0:y.data.toList=[]
  ·obtain rfl:=Au hy0
   have Y:qy=true:=by rw [V.o];rfl
   subst Y;clear hy0 V;obtain ⟨E,C,B,A,v,u,n,l,j,g,f,c,b⟩:=AI H.o;go_wp2_with fail;refine (ai.o _ (W.o)).mono ?_;rintro e w3 ⟨rfl,J⟩;have Q:Hx (Ov w w3):=Ac (W.o) J;have F:Hx (Af [I O 1,I O a,.string x,.string ⟨#[]⟩,zd false,zc aL K cL,zc aP R cP,zc aB S cB,I O e0,I O e1,I O e2,.string e3,zc q q1 q2] w3 w.heap.size):=H.o.over J;clear J E C B A v u n l j g f c b ai;by_cases h0:K=0
   ·subst h0
    obtain ⟨E,C,B,A,v,u,n,l,j,g,f,c,b⟩:=AI F.o;go_wp2_with fail;clear E C B A v u n l j g f c b;go_loopw [3] (fun i wr=>i=I O 0/\w3=wr) (fun _ _=>0)
    case atStart=>exact ⟨rfl,rfl⟩
    case round=>
     obtain ⟨rfl,rfl⟩:=hrel;by_cases h1:R=0
     ·subst h1
      by_cases h2:S=0
      ·subst h2
       obtain ⟨E,C,B,A,v,u,n,l,j,g,f,c,b⟩:=AI F.o;go_wp2_with fail;refine (KO.o _ (Q.o)).mono ?_;rintro e w4 ⟨rfl,J⟩;have aw:Hx (Ov w w4):=Ac (Q.o) J;have af:Hx (Af [I O 1,I O a,.string x,.string ⟨#[]⟩,zd false,zc aL 0 cL,zc aP 0 cP,zc aB 0 cB,I O e0,I O e1,I O e2,.string e3,zc q q1 q2] w4 w.heap.size):=F.o.over J;clear J E C B A v u n l j g f c b KO;have N:Hx (fin=qo):=by have h:=HF.o;simp at h;exact h
       obtain ⟨E,C,B,A,v,u,n,l,j,g,f,c,b⟩:=AI af.o;go_wp2_with fail;go_ret;exact ⟨by rw [N.o];(first | rfl | (simp;done) | (simp;assumption) | (simp;omega)),aw.o⟩
      ·have hi:¬ (S:Int)=0:=by omega
       have N:Hx (fin=false):=by have h:=HF.o;simp [h2] at h;exact h
       obtain ⟨E,C,B,A,v,u,n,l,j,g,f,c,b⟩:=AI F.o;go_wp2_with fail;go_ret;exact ⟨by rw [N.o];(first | rfl | (simp;done) | (simp;assumption) | (simp;omega)),Q.o⟩
     ·have hi:¬ (R:Int)=0:=by omega
      have N:Hx (fin=false):=by have h:=HF.o;simp [h1] at h;exact h
      obtain ⟨E,C,B,A,v,u,n,l,j,g,f,c,b⟩:=AI F.o;go_wp2_with fail;go_ret;exact ⟨by rw [N.o];(first | rfl | (simp;done) | (simp;assumption) | (simp;omega)),Q.o⟩
   ·have hi:(0:Int) < (K:Int):=by omega
    have a5:0 < K:=by omega
    have N:Hx (fin=false):=by have h:=HF.o;simp [h0] at h;exact h
    obtain ⟨E,C,B,A,v,u,n,l,j,g,f,c,b⟩:=AI F.o;go_wp2_with fail;go_ret;exact ⟨by rw [N.o];(first | rfl | (simp;done) | (simp;assumption) | (simp;omega)),Q.o⟩
  ·have ae:=AA hy0
   have Y:qy=false:=by rw [V.o];simpa using hy0
   subst Y;clear hy0 V;have N:Hx (fin=false):=by have h:=HF.o;simp at h;exact h
   obtain ⟨E,C,B,A,v,u,n,l,j,g,f,c,b⟩:=AI H.o;go_wp2_with fail;go_ret;exact ⟨by rw [N.o];(first | rfl | (simp;done) | (simp;assumption) | (simp;omega)),W.o⟩
 | false=>
  have N:Hx (fin=false):=by have h:=HF.o;simp at h;exact h
  obtain ⟨E,C,B,A,v,u,n,l,j,g,f,c,b⟩:=AI H.o;go_wp2_with fail;go_ret;exact ⟨by rw [N.o];(first | rfl | (simp;done) | (simp;assumption) | (simp;omega)),W.o⟩
theorem KU (ke kc:Nat) (a:Int) (x y:ByteArray) (aL:Option Addr) (cL:Nat) (lb:List D) (aP:Option Addr) (cP:Nat) (ps:List ByteArray) (aB:Option Addr) (cB:Nat) (body:List D) (e0 e1 e2:Int) (e3:ByteArray) (q:Option Addr) (q1 q2:Nat) (r:D) (w:World) (hx:x.size<=maxLen) (hy:y.size<=maxLen) (hL:LS 4 (ZP w) w (zc aL lb.length cL) lb) (hP:LS 1 ZN w (zc aP ps.length cP) ps) (hB:LS 12 (ZC w ke kc) w (zc aB body.length cB) body) (hR:ZE w ke [I O e0,I O e1,I O e2,.string e3,zc q q1 q2] r) :
  Ro 38 #[zg #[I O 5,I O a,.string x,.string y,zd true,zc aL lb.length cL,zc aP ps.length cP,zc aB body.length cB,I O e0,I O e1,I O e2,.string e3,zc q q1 q2]] w (zd (dfK ke kc (deD 5 a x y true lb ps body r))):=by
 obtain ⟨fin,K⟩:=nm (dfK ke kc (deD 5 a x y true lb ps body r));rw [<-K];unfold dfK Eb Ec at K;simp only [gDd,G3 nmS,IW,List.length_map] at K;obtain ⟨qx,aq⟩:=nm (nmS x.data.toList);obtain ⟨qy,ap⟩:=nm (y.data.toList.isEmpty);obtain ⟨ql,Q⟩:=nm (lb.all Da);obtain ⟨qp,au⟩:=nm (ps.all fun x=>nmS x.data.toList);obtain ⟨qb,a8⟩:=nm (body.all (sfK ke kc));obtain ⟨qr,ar⟩:=nm (efK ke r);obtain ⟨qo,av⟩:=nm (Dd r);obtain ⟨P,R⟩:=nm lb.length;obtain ⟨nP,V⟩:=nm ps.length;obtain ⟨nB,ad⟩:=nm body.length;have ay:(lb≠[])=(P≠0):=by rw [R];simp
 have b4:P=0->ql=true:=fun h=>by rw [Q,List.length_eq_zero_iff.1 (R.symm.trans h)];rfl
 simp only [<-aq,<-Q,<-au,<-a8,<-ar,<-av,<-V,<-ad,ay] at K;have HF:Hx (fin=(qx && qy && (true && ql) && (decide (nP=0) && decide (nB=0) && qo))):=by
  show _=_;rw [K,ap];by_cases h0:P=0
  ·simp [nfS]
  ·simp [nfS]
 have bd:Hx (∀ X,Ov w X->Ro 76 #[I O 5,I O 1,I O 7] X (zd true)):=fun X _=>by simpa using Dl 5 1 7 X
 have bc:Hx (∀ X,Ov w X->Ro 76 #[I O 5,I O 4,I O 6] X (zd true)):=fun X _=>by simpa using Dl 5 4 6 X
 have KX:Hx (∀ X,Ov w X->Ro 77 #[.string x] X (zd qx)):=fun X _=>by rw [aq];exact CT x X hx
 have ah:=Aa ap;have KO:Hx (∀ X,Ov w X->Ro 78 #[zg #[I O e0,I O e1,I O e2,.string e3,zc q q1 q2]] X (zd qo)):=fun X hX=>by rw [av];exact IE ke _ r X (hR.over hX)
 have KR:Hx (∀ X,Ov w X->Ro 79 #[zg #[I O e0,I O e1,I O e2,.string e3,zc q q1 q2]] X (zd qr)):=fun X hX=>by rw [ar];exact GR ke _ r X (hR.over hX)
 have cf:=hL.max;have cd:=hP.max;have bh:=hB.max;rw [<-R] at cf;rw [<-V] at cd;rw [<-ad] at bh;have cg:=Aa hL;have di:=Aa hP;have bf:=Aa Q;have dh:=Aa au;have bg:=Aa R;have dk:=Aa V;rw [<-R,<-V,<-ad];clear K aq ap Q au a8 ar av ay b4 hL hP hB hR R V ad hx hy;go_enter Tryz.func38,Tryz.ntmps38;go_wp2_with fail;refine (bd.o _ (bA w (ze #[I O 5,I O a,.string x,.string y,zd true,zc aL P cL,zc aP nP cP,zc aB nB cB,I O e0,I O e1,I O e2,.string e3,zc q q1 q2] 51))).mono ?_;rintro e w1 ⟨rfl,J⟩;have bl:Hx (Ov w w1):=Ac (bA w (ze #[I O 5,I O a,.string x,.string y,zd true,zc aL P cL,zc aP nP cP,zc aB nB cB,I O e0,I O e1,I O e2,.string e3,zc q q1 q2] 51)) J;have Z:Hx (Af [I O 5,I O a,.string x,.string y,zd true,zc aL P cL,zc aP nP cP,zc aB nB cB,I O e0,I O e1,I O e2,.string e3,zc q q1 q2] w1 w.heap.size):=Af.over (Ax w [I O 5,I O a,.string x,.string y,zd true,zc aL P cL,zc aP nP cP,zc aB nB cB,I O e0,I O e1,I O e2,.string e3,zc q q1 q2] 51) J;clear J  bd;obtain ⟨G,F,E,C,B,A,v,u,n,l,g,f,c⟩:=AI Z.o;go_wp2_with fail;refine (KX.o _ (bl.o)).mono ?_;rintro e w2 ⟨rfl,J⟩;have an:Hx (Ov w w2):=Ac (bl.o) J;have M:Hx (Af [I O 5,I O a,.string x,.string y,zd true,zc aL P cL,zc aP nP cP,zc aB nB cB,I O e0,I O e1,I O e2,.string e3,zc q q1 q2] w2 w.heap.size):=Z.o.over J;clear J G F E C B A v u n l g f c KX
 cases qx with
 | true=>
  by_cases hy0:y.data.toList=[]
  ·obtain rfl:=Au hy0
   have ao:qy=true:=by rw [ah.o];rfl
   subst ao;clear hy0 ah;obtain ⟨G,F,E,C,B,A,v,u,n,l,g,f,c⟩:=AI M.o;go_wp2_with fail;refine (bc.o _ (an.o)).mono ?_;rintro e w3 ⟨rfl,J⟩;have am:Hx (Ov w w3):=Ac (an.o) J;have L:Hx (Af [I O 5,I O a,.string x,.string ⟨#[]⟩,zd true,zc aL P cL,zc aP nP cP,zc aB nB cB,I O e0,I O e1,I O e2,.string e3,zc q q1 q2] w3 w.heap.size):=M.o.over J;clear J G F E C B A v u n l g f c bc;obtain ⟨G,F,E,C,B,A,v,u,n,l,g,f,c⟩:=AI L.o;go_wp2_with fail;clear G F E C B A v u n l g f c;go_loopw [3] (fun i wr=>∃ (j:Nat),j<=P/\i=I O j/\(lb.drop j).all Da=ql/\Ov w3 wr) (fun i _=>P - (intOf i).toNat)
   case atStart=>exact ⟨0,Nat.zero_le _,rfl,bf.o.symm,Below.refl _ _⟩
   case round=>
    obtain ⟨j,hj,rfl,H,hB⟩:=hrel;by_cases hjl:j < P
    ·have W:j < lb.length:=by have:=bg.o;omega
     have b5:(j:Int) < (P:Int):=by omega
     obtain ⟨b,c2,rfl,cs,b2,ae,hr⟩:=cg.o.at W;rw [List.drop_eq_getElem_cons W,List.all_cons] at H;generalize lb[j]=dj at H hr;obtain ⟨pa,po,pw,pn,pc,ns,rfl,rfl,ho,hN⟩:=hr;unfold Da at H;simp only [gPp,G3 nmS] at H;obtain ⟨q8,aw⟩:=nm (nmS po.data.toList);obtain ⟨q9,U⟩:=nm (ns.all fun x=>nmS x.data.toList);rw [<-aw,<-U] at H;have a9:(q8 && q9 && (lb.drop (j+1)).all Da)=ql:=H;have ag:=Ac am.o hB;have KC:Hx (∀ X,Ov wr X->Ro 77 #[.string po] X (zd q8)):=fun X _=>by rw [aw];exact CT po X ho
     have cc:=Aa (Ds ag hN);have cb:=Aa U;obtain ⟨nN,az⟩:=nm ns.length;have ce:=hN.max;rw [<-az] at ce ae;have be:=Aa az;have z1:=ce1 ag (ae 1 _ rfl);have z3:=ce1 ag (ae 3 _ rfl);have b9:=Aa z3;obtain ⟨n0,n1,n2,n3,n4,n5,n6,n7,n8,n9,b1,b0,bz⟩:=AI (L.o.over hB);have HP:=Aa a9;have HB:=Aa hB;clear H a9 hB ag ae b2 aw U W ho hN az;go_wp2_with fail;refine (KC.o _ (Below.refl _ _)).mono ?_;rintro e W6 ⟨rfl,J⟩;have a4:=Aa (Ac HB.o J);have bi:=Aa J;clear J KC z1 z3 n0 n1 n2 n3 n4 n5 n6 n7 n8 n9 b1 b0 bz
     cases q8 with
     | false=>
      have H:=HP.o;simp at H;subst H;have T:Hx (fin=false):=by have h:=HF.o;simp at h;exact h
      go_wp2_with fail;go_ret;exact ⟨by rw [T.o];rfl,Ac am.o a4.o⟩
     | true=>
      have H:=HP.o;rw [Bool.true_and] at H;replace HP:=Aa H;clear H;go_wp2_with fail;go_loopw [4] (fun i ws=>∃ (i2:Nat),i2<=nN/\i=I O i2/\(ns.drop i2).all (fun x=>nmS x.data.toList)=q9/\Ov W6 ws) (fun i _=>nN - (intOf i).toNat)
      case atStart=>exact ⟨0,Nat.zero_le _,rfl,cb.o.symm,Below.refl _ _⟩
      case round=>
       obtain ⟨i,dd,rfl,N,S⟩:=hrel;have af:=Ac a4.o S;obtain ⟨p0,p1,p2,p3,p4,p5,p6,p7,p8,p9,bw,bv,bu⟩:=AI (L.o.over af);have z3:=ce1 (Ac bi.o S) b9.o;by_cases hil:i < nN
       ·have Y:i < ns.length:=by have:=be.o;omega
        have b6:(i:Int) < (nN:Int):=by omega
        obtain ⟨ba,oa,rfl,ca,b3,a0,ac⟩:=cc.o.at Y;rw [List.drop_eq_getElem_cons Y,List.all_cons] at N;generalize ns[i]=da at N ac;obtain ⟨q7,ax⟩:=nm (nmS da.data.toList);rw [<-ax] at N;have KQ:Hx (∀ X,Ov wr X->Ro 77 #[.string da] X (zd q7)):=fun X _=>by rw [ax];exact CT da X ac.2
        rw [ac.1] at a0;have y0:wr.cell? ⟨ba,oa+i,none⟩=some (.string da):=ce1 (Ac bi.o S) (by have:=a0 0 _ rfl;simpa using this);have ak:=Aa N;have a3:=Aa S;clear N S af a0 b3 ac ax Y;go_wp2_with fail;refine (KQ.o _ (Below.refl _ _)).mono ?_;rintro e W7 ⟨rfl,J⟩;have bk:=Aa (Ac a3.o J);clear J KQ y0 z3 p0 p1 p2 p3 p4 p5 p6 p7 p8 p9 bw bv bu
        cases q7 with
        | true=>
         have H:=ak.o;rw [Bool.true_and] at H;replace ak:=Aa H;clear H;go_wp2_with fail;exact ⟨⟨i+1,by omega,by go_num,ak.o,bk.o⟩,by simp [intOf];omega⟩
        | false=>
         have H:=ak.o;rw [Bool.false_and] at H;subst H;have H:=HP.o;rw [Bool.false_and] at H;subst H;have T:Hx (fin=false):=by have h:=HF.o;simp at h;exact h
         go_wp2_with fail;go_ret;exact ⟨by rw [T.o];rfl,Ac am.o (Ac a4.o bk.o)⟩
       ·have hd:ns.drop i=[]:=List.drop_eq_nil_of_le (by have:=be.o;omega)
        have b6:¬ (i:Int) < (nN:Int):=by omega
        rw [hd] at N;have U:true=q9:=by rw [<-N];rfl
        subst U;have H:=HP.o;rw [Bool.true_and] at H;replace HP:=Aa H;have a3:=Aa af;clear H hd N S af;go_wp2_with fail;exact ⟨⟨j+1,by omega,by go_num,HP.o,a3.o⟩,by simp [intOf];omega⟩
    ·have hd:lb.drop j=[]:=List.drop_eq_nil_of_le (by have:=bg.o;omega)
     have b5:¬ (j:Int) < (P:Int):=by omega
     rw [hd] at H;have Q:true=ql:=by rw [<-H];rfl
     subst Q;have al:=Aa (Ac am.o hB);have ai:=Aa (L.o.over hB);clear H hd hB bf;by_cases h1:nP=0
     ·subst h1
      by_cases h2:nB=0
      ·subst h2
       obtain ⟨G,F,E,C,B,A,v,u,n,l,g,f,c⟩:=AI ai.o;go_wp2_with fail;refine (KO.o _ (al.o)).mono ?_;rintro e a6 ⟨rfl,J⟩;have bj:Hx (Ov w a6):=Ac (al.o) J;have aj:Hx (Af [I O 5,I O a,.string x,.string ⟨#[]⟩,zd true,zc aL P cL,zc aP 0 cP,zc aB 0 cB,I O e0,I O e1,I O e2,.string e3,zc q q1 q2] a6 w.heap.size):=ai.o.over J;clear J G F E C B A v u n l g f c KO;have T:Hx (fin=qo):=by have h:=HF.o;simp at h;exact h
       obtain ⟨G,F,E,C,B,A,v,u,n,l,g,f,c⟩:=AI aj.o;go_wp2_with fail;go_ret;exact ⟨by rw [T.o];(first | rfl | (simp;done) | (simp;assumption) | (simp;omega)),bj.o⟩
      ·have hi:¬ (nB:Int)=0:=by omega
       have T:Hx (fin=false):=by have h:=HF.o;simp [h2] at h;exact h
       obtain ⟨G,F,E,C,B,A,v,u,n,l,g,f,c⟩:=AI ai.o;go_wp2_with fail;go_ret;exact ⟨by rw [T.o];(first | rfl | (simp;done) | (simp;assumption) | (simp;omega)),al.o⟩
     ·have hi:¬ (nP:Int)=0:=by omega
      have T:Hx (fin=false):=by have h:=HF.o;simp [h1] at h;exact h
      obtain ⟨G,F,E,C,B,A,v,u,n,l,g,f,c⟩:=AI ai.o;go_wp2_with fail;go_ret;exact ⟨by rw [T.o];(first | rfl | (simp;done) | (simp;assumption) | (simp;omega)),al.o⟩
  ·have ay:=AA hy0
   have ao:qy=false:=by rw [ah.o];simpa using hy0
   subst ao;clear hy0 ah;have T:Hx (fin=false):=by have h:=HF.o;simp at h;exact h
   obtain ⟨G,F,E,C,B,A,v,u,n,l,g,f,c⟩:=AI M.o;go_wp2_with fail;go_ret;exact ⟨by rw [T.o];(first | rfl | (simp;done) | (simp;assumption) | (simp;omega)),an.o⟩
 | false=>
  have T:Hx (fin=false):=by have h:=HF.o;simp at h;exact h
  obtain ⟨G,F,E,C,B,A,v,u,n,l,g,f,c⟩:=AI M.o;go_wp2_with fail;go_ret;exact ⟨by rw [T.o];(first | rfl | (simp;done) | (simp;assumption) | (simp;omega)),an.o⟩
theorem JX (ke kc:Nat) (ds l:List D) (v:Value) (w:World) (h:ZT w ke (kc+1) v ds l) (h0:ckT ke (kc+1) ds l=0) (hd:∀ d∈ds,(gI 0 d=1/\gB 4 d=false)\/(gI 0 d=5/\gB 4 d=true)) (hk:∀ s∈l,gI 0 s=4):Ro 15 #[v] w (I O 0):=by
 have J:C7 ke (kc+1) ds l=false/\(∀ d∈ds,dfK ke (kc+1) d=true)/\∀ s∈l,sfK ke (kc+1) s=true:=by
  unfold ckT at h0;split at h0
  ·cases h0
  ·rename_i J
   split at h0
   ·rename_i Y
    simp only [Bool.and_eq_true,List.all_eq_true] at Y;exact ⟨by simpa using J,Y.1,Y.2⟩
   ·cases h0
 clear h0;have Q:Hx (∀ X,Ov w X->Ro 37 #[v] X (zd false)):=fun X M=>by rw [<-J.1,Pf];exact J4 ke (kc+1) ds l v X (h.over M)
 obtain ⟨ao,c,P,N,rfl,Z,hM⟩:=h;have S:Hx (∀ X,Ov w X->Ro 37 #[zg #[zc ao ds.length c,zc P l.length N]] X (zd false)):=Q;have KL:Hx (∀ X,Ov w X->Ro 39 #[zc P l.length N] X (zd true)):=fun X M=>P5 ke kc l P N X (A6 M hM) fun s hs=>⟨hk s hs,J.2.2 s hs⟩;have ak:Hx (∀ d∈ds,∀ cs X,ZD X ke (kc+1) cs d->Ro 38 #[.agg cs.toArray] X (zd true)):=fun d L cs X hz=>by
  have h1:=hd d L;have h2:=J.2.1 d L;obtain ⟨kd,a,x,y,gv,aL,cL,lb,aP,cP,ps,aB,cB,B,e0,e1,e2,e3,q,q1,U,r,rfl,rfl,hx,hy,hL,hP,A,hR⟩:=hz;simp only [gDd] at h1;rw [<-h2];rcases h1 with ⟨rfl,rfl⟩ | ⟨rfl,rfl⟩
  ·exact La ke _ a x y aL cL lb aP cP ps aB cB B e0 e1 e2 e3 q q1 U r X hx hy hL hP A hR
  ·exact KU ke _ a x y aL cL lb aP cP ps aB cB B e0 e1 e2 e3 q q1 U r X hx hy hL hP A hR
 have HD:=Aa Z;have HL:=Z.max;obtain ⟨C,E⟩:=nm ds.length;rw [<-E] at S HL ⊢;have HN:=Aa E;clear Z hM Q E J hd hk;generalize l.length=nl at S KL ⊢;go_enter Tryz.func15,Tryz.ntmps15;go_wp2_with fail;refine (S.o _ (bA _ _)).mono ?_;rintro e W1 ⟨rfl,u⟩;have R:Hx (Ov w W1):=Ac (bA _ _) u;have G:Hx (Af [zc ao C c,zc P nl N] W1 w.heap.size):=Af.over (Ax w [zc ao C c,zc P nl N] 25) u;clear u S;generalize w.heap.size=bt at G ⊢;obtain ⟨s0,s1⟩:=rc2 G.o;go_wp2_with fail;clear s0 s1;go_loopw [3] (fun i wr=>∃ (j:Nat),j<=C/\i=I O j/\Ov W1 wr) (fun i _=>C - (intOf i).toNat)
 case atStart=>exact ⟨0,Nat.zero_le _,rfl,Below.refl _ _⟩
 case round=>
  obtain ⟨j,hj,rfl,A⟩:=hrel;obtain ⟨s0,s1⟩:=rc2 (G.o.over A);by_cases hjl:j < C
  ·have n:j < ds.length:=by have:=HN.o;omega
   have W:(j:Int) < (C:Int):=by omega
   obtain ⟨b,V,rfl,cs,K,g,hr⟩:=HD.o.at n;have F:=ak.o _ (List.getElem_mem n) cs;generalize ds[j]=dj at F hr;have f:Ov w wr:=Ac R.o A;have KC:Hx (∀ X,Ov wr X->Ro 38 #[.agg cs.toArray] X (zd true)):=fun X M=>F X ((hr.over f).over M);obtain ⟨a7,a0,x0,y0,g0,l0,l1,l2,p0,p1,p2,b0,b1,b2,e0,e1,e2,e3,q0,q1,U,rfl⟩:=hr.cells;have d0:wr.cell? ⟨b,V+j*13,none⟩=_:=ce1 f (g 0 _ rfl);have d1:=ce1 f (g 1 _ rfl);have d2:=ce1 f (g 2 _ rfl);have d3:=ce1 f (g 3 _ rfl);have d4:=ce1 f (g 4 _ rfl);have d5:=ce1 f (g 5 _ rfl);have d6:=ce1 f (g 6 _ rfl);have d7:=ce1 f (g 7 _ rfl);have d8:=ce1 f (g 8 _ rfl);have d9:=ce1 f (g 9 _ rfl);have ag:=ce1 f (g 10 _ rfl);have af:=ce1 f (g 11 _ rfl);have ae:=ce1 f (g 12 _ rfl);have T:=Aa A;clear A g K hr n f F;go_wp2_with fail;refine (KC.o _ (Below.refl _ _)).mono ?_;rintro e W2 ⟨rfl,u⟩;have H:=Aa (Ac T.o u);clear u KC d0 d1 d2 d3 d4 d5 d6 d7 d8 d9 ag af ae s0 s1;go_wp2_with fail;exact ⟨⟨j+1,by omega,by go_num,H.o⟩,by simp [intOf];omega⟩
  ·have W:¬ (j:Int) < (C:Int):=by omega
   have T:=Aa (Ac R.o A);clear A;go_wp2_with fail;refine (KL.o _ T.o).mono ?_;rintro e W2 ⟨rfl,u⟩;have H:=Aa (Ac T.o u);clear u KL s0 s1;go_wp2_with fail;go_ret;exact ⟨rfl,H.o⟩
end Go.Proofs.YtipngnjffjajpaaGreatDoor.Tx
