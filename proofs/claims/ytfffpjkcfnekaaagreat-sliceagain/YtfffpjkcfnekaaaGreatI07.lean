/- How many commands there are, and how deep: just when there are too many. -/
import Derived.Test.YtfffpjkcfnekaaaGreatI06
set_option linter.unusedVariables false
set_option maxHeartbeats 8000000
set_option maxRecDepth 100000
namespace Go.Proofs.YtfffpjkcfnekaaaGreat.Ex.Ey
open Go.RowKit
open Go.Value renaming slice -> O, int -> zd, bool -> zg, agg -> zh, pointer -> zj, tuple -> zm
open Go.IntKind renaming i64 -> U
open Go.Obj renaming cells -> ze
open Go.Ending renaming returned -> zk
def dpS:Nat->Int->D->Prop
 | 0,_,_=>False
 | k+1,deep,d=>deep<=6/\(∀ s∈Ag d,dpS k (deep+1) s)/\∀ s∈Ak d,dpS k (deep+1) s
def dps (k:Nat) (deep:Int) (l:List D):Prop:=∀ s∈l,dpS k deep s
theorem Jk {k:Nat} {l:List D} (j:Nat):Ai k (l.take j)<=Ai k l:=by
 have h:Ai k l=Ai k (l.take j)+Ai k (l.drop j):=by
  unfold Ai;rw [<-List.sum_append,<-List.map_append,List.take_append_drop]
 omega
def QI (dp:Prop) (many n:Int) (w:World) (e:Ending) (w':World):Prop:=((e=zk (zd U (many+n))/\many+n<=50/\dp)\/(¬ (many+n<=50/\dp)/\e=Az 2))/\Ov w w'
theorem Nt (K:Nat):∀ (k:Nat) (v:Value) (l:List D) (deep many:Int) (w:World),AI w K k v l->0<=deep->deep<=7->0<=many->many<=50 ->
  Calls Tryz.prog 217 #[v,zd U deep,zd U many] w (QI (dps k deep l) many (Ai k l) w):=by
 intro k
 induction k with
 | zero=>
  intro v l deep many w h d0 d1 m0 m1;obtain rfl:=h.zero;obtain ⟨-,ao,av,rfl,-⟩:=h;have hz:many+((Ai 0 []:Nat):Int)=many:=by simp [Ai]
  show Calls Tryz.prog 217 #[O ao 0 av,zd U deep,zd U many] w _;go_enter Tryz.func217,Tryz.ntmps217;go_wp2_with fail;go_loopw [2,11] (fun c i wr=>c=zd U many/\i=zd U 0/\wr=w) (fun _ _ _=>0)
  case atStart=>exact ⟨rfl,rfl,rfl⟩
  case round=>
   obtain ⟨rfl,rfl,hw⟩:=hrel;have bg:=hw.symm;subst bg;clear hw;go_wp2_with fail;go_ret;exact ⟨Or.inl ⟨by rw [hz];rfl,by rw [hz];exact m1,fun s F=>absurd F (by simp)⟩,Below.refl _ _⟩
 | succ k ih=>
  intro v l deep many w h d0 d1 m0 m1;have HS:=Aa h;have b0:l.length<=9223372036854775807:=h.1;obtain ⟨ao,av,rfl,hc⟩:=h.2;have HC:=Aa hc;have IH:=Aa ih;clear hc ih h;have KM:=Aa BZ;go_enter Tryz.func217,Tryz.ntmps217;go_wp2_with fail;go_loopw [2,11] (fun c i wr=>∃ j:Nat,j<=l.length/\i=zd U j/\c=zd U (many+(Ai (k+1) (l.take j):Nat))/\many+(Ai (k+1) (l.take j):Nat)<=50/\Hx (dps (k+1) deep (l.take j))/\Ov w wr) (fun _ i _=>l.length - (intOf i).toNat)
  case atStart=>exact ⟨0,Nat.zero_le _,rfl,by simp [Ai],by simp [Ai];omega,Aa (fun s F=>absurd F (by simp)),Below.refl _ w⟩
  case round=>
   obtain ⟨j,hj,rfl,rfl,P,X,q⟩:=hrel;by_cases hjl:j < l.length
   ·obtain ⟨b,off,rfl,aj⟩:=HC.o (by rintro rfl;simp at hjl)
    obtain ⟨cs,bi,f,hr⟩:=aj j l[j] (List.getElem?_eq_getElem hjl);have u:=DP (k:=k+1) hjl;have ai:BD (k+1) l[j]=1+Ai k (Ag l[j])+Ai k (Ak l[j]):=rfl;rw [ai] at u;obtain ⟨d,hd⟩:=nm (l[j]);have N:=List.getElem_mem hjl;have t:l.take (j+1)=l.take j++[l[j]]:=List.take_succ_eq_append_getElem hjl;have af:=Jk (k:=k+1) (l:=l) (j+1);rw [<-hd] at hr u N t;have V:=Aa N;have bm:=Aa t;clear N t;obtain ⟨ek,en,xa,xl,xc,aa,ac,ta,tc,ea,ec,ah,-,-,-,-,-,hT,hE,-,-,-⟩:=hr.form;subst ah;obtain ⟨M,hM⟩:∃ M:Int,M=many+(Ai (k+1) (l.take j):Nat):=⟨_,rfl⟩;rw [<-hM] at P ⊢;have cq:0<=M:=by omega
    obtain ⟨n1,L⟩:∃ n:Nat,n=Ai k (Ag d):=⟨_,rfl⟩;obtain ⟨n2,J⟩:∃ n:Nat,n=Ai k (Ak d):=⟨_,rfl⟩;rw [<-L,<-J] at u;have C:Hx (M+1+(n1:Int)+n2<=many+(Ai (k+1) l:Nat)):=Aa (by rw [hM];omega);have ay:=Aa u;have az:=Aa hM;clear u hM ai af;obtain ⟨kd,ag⟩:=nm (Af d);obtain ⟨va,ab⟩:=nm (Ax d);obtain ⟨ot,ad⟩:=nm (Ae d);obtain ⟨al,an⟩:=nm ((Al d).length);obtain ⟨tl,I⟩:=nm ((Ag d).length);obtain ⟨el,Q⟩:=nm ((Ak d).length);rw [<-I] at hT;rw [<-Q] at hE;rw [<-ag,<-ab,<-ad,<-an,<-I,<-Q] at f;have q0:wr.cell? ⟨b,off+j*9,none⟩=_:=Ab q _ _ (f 0 _ rfl);have q1:=Ab q _ _ (f 1 _ rfl);have q2:=Ab q _ _ (f 2 _ rfl);have q3:=Ab q _ _ (f 3 _ rfl);have q4:=Ab q _ _ (f 4 _ rfl);have q5:=Ab q _ _ (f 5 _ rfl);have q6:=Ab q _ _ (f 6 _ rfl);have q7:=Ab q _ _ (f 7 _ rfl);have q8:=Ab q _ _ (f 8 _ rfl);have ak:Ov wr (wr.alloc (ze #[zd U kd,zd U va,zd U ot,zd U ek,zd U en,O xa xl xc,O aa al ac,O ta tl tc,O ea el ec] 130)):=bA wr _;have p:=q.trans (ak.mono q.size);have aq:=hT.over p;have K1:=Aa fun (Y:M+1<=50) (h2:deep<=6)=>IH.o (O ta tl tc) (Ag d) (deep+1) (M+1) _ aq (by omega) (by omega) (by omega) Y;have K2:=Aa fun W (hW:Ov w W) (mm:Int) (h0:0<=mm) (Y:mm<=50) (h2:deep<=6)=>IH.o (O ea el ec) (Ak d) (deep+1) mm W (hE.over hW) (by omega) (by omega) h0 Y;rw [<-L] at K1;rw [<-J] at K2;have s8:(wr.alloc (ze #[zd U kd,zd U va,zd U ot,zd U ek,zd U en,O xa xl xc,O aa al ac,O ta tl tc,O ea el ec] 130)).cell? ⟨wr.heap.size,8,none⟩=some (O ea el ec):=by simp [go_sem]
    clear hT hE aq f aj hr bi L J ag ab ad an I Q hd;by_cases c1:M+1<=50/\deep<=6
    ·obtain ⟨c1,Z⟩:=c1
     have ax:=Aa (K1.o c1 Z);go_wp2_with fail;refine (KM.o true 2 _).mono ?_;rintro e wz ⟨g,rfl⟩;have z:=orT g;subst z;clear g;go_wp2_with fail;refine (ax.o).mono ?_;rintro e w1 ⟨g,R⟩;have B:=p.trans (R.mono p.size);rcases g with ⟨rfl,ae,H⟩ | ⟨y,rfl⟩
     ·have a0:=Aa H
      clear H;have t8:=Ab R _ _ s8;have ar:0<=M+1+(n1:Int):=by omega
      obtain ⟨M1,A⟩:=nm (M+1+(n1:Int));rw [<-A] at ae ar ⊢;have T:=Aa A;clear A;have aw:=Aa (K2.o w1 B M1 ar ae Z);clear K1 K2 ax s8 R p q0 q1 q2 q3 q4 q5 q6 q7 q8 q ak;go_wp2_with fail;refine (aw.o).mono ?_;rintro e w2 ⟨g,am⟩;have au:=B.trans (am.mono B.size);rcases g with ⟨rfl,cp,G⟩ | ⟨y,rfl⟩
      ·have bo:Hx (dps (k+1) deep (l.take (j+1))):=Aa (fun s F=>by
        rw [bm.o,List.mem_append,List.mem_singleton] at F;rcases F with F | rfl
        ·exact X.o s F
        ·exact ⟨Z,a0.o,G⟩)
       clear aw t8 am B G;go_wp2_with fail;refine ⟨⟨j+1,by omega,by go_num,?_,?_,bo,au⟩,by simp [intOf];omega⟩
       ·rw [ay.o]
        have:=az.o;refine congrArg (Value.int IntKind.i64) ?_;have h2:=T.o
        push_cast
        omega
       ·rw [ay.o]
        have:=az.o;have h2:=T.o
        push_cast
        omega
      ·have S:Hx (¬ (many+(Ai (k+1) l:Nat)<=50/\dps (k+1) deep l)):=Aa (fun E=>y ⟨by have Y:=C.o;have h2:=T.o;have h3:=E.1;omega,(E.2 d V.o).2.2⟩)
       clear y;unfold Az;go_wp2_with fail;exact ⟨rfl,Or.inr ⟨S.o,rfl⟩,au⟩
     ·have S:Hx (¬ (many+(Ai (k+1) l:Nat)<=50/\dps (k+1) deep l)):=Aa (fun E=>y ⟨by have Y:=C.o;have h3:=E.1;omega,(E.2 d V.o).2.1⟩)
      clear y;unfold Az;go_wp2_with fail;exact ⟨rfl,Or.inr ⟨S.o,rfl⟩,B⟩
    ·clear K1 K2 s8
     by_cases Z:M+1<=50
     ·have c3:¬ deep<=6:=fun h=>c1 ⟨Z,h⟩
      clear c1;have S:Hx (¬ (many+(Ai (k+1) l:Nat)<=50/\dps (k+1) deep l)):=Aa (fun E=>c3 (E.2 d V.o).1);go_wp2_with fail;refine (KM.o false 2 _).mono ?_;rintro e wz ⟨g,rfl⟩;have z:e=Az 2:=by
       rcases g with ⟨g,_⟩ | ⟨_,g⟩
       ·cases g
       ·exact g
      subst z;clear g;unfold Az;go_wp2_with fail;exact ⟨rfl,Or.inr ⟨S.o,rfl⟩,p⟩
     ·clear c1
      have S:Hx (¬ (many+(Ai (k+1) l:Nat)<=50/\dps (k+1) deep l)):=Aa (fun E=>Z (by have Y:=C.o;have h3:=E.1;omega));go_wp2_with fail;refine (KM.o false 2 _).mono ?_;rintro e wz ⟨g,rfl⟩;have z:e=Az 2:=by
       rcases g with ⟨g,_⟩ | ⟨_,g⟩
       ·cases g
       ·exact g
      subst z;clear g;unfold Az;go_wp2_with fail;exact ⟨rfl,Or.inr ⟨S.o,rfl⟩,p⟩
   ·have hd:l.take j=l:=List.take_of_length_le (by omega)
    rw [hd] at P X ⊢;go_wp2_with fail;go_ret;exact ⟨Or.inl ⟨rfl,P,X.o⟩,q⟩
theorem Jl {k:Nat} {l:List FnD} (j:Nat):Ap k (l.take j)<=Ap k l:=by
 have h:Ap k l=Ap k (l.take j)+Ap k (l.drop j):=by
  unfold Ap;rw [<-List.sum_append,<-List.map_append,List.take_append_drop]
 omega
def dpF (k:Nat) (fs:List FnD):Prop:=∀ f∈fs,dps k 1 f.body
def QD (dp:Prop) (n:Int) (w:World) (e:Ending) (w':World):Prop:=((e=zk (zm #[])/\n<=50/\dp)\/(¬ (n<=50/\dp)/\e=Az 2))/\Ov w w'
theorem Lp (K k:Nat) (m:Int) (ga gn gc sa sn sc ya yn yc oa on oc va vn vc) (fa fn fc ba bn bc) (fs l) (w:World) (hf:Bi w K k (O fa fn fc) fs) (hl:AI w K k (O ba bn bc) l) :
  Calls Tryz.prog 175 #[zh #[zd U m,O ga gn gc,O sa sn sc,O ya yn yc,O oa on oc,O va vn vc,O fa fn fc,O ba bn bc]] w (QD (dpF k fs/\dps k 1 l) ((Ap k fs:Nat)+(Ai k l:Nat)) w):=by
 have zr:=AP w [zd U m,O ga gn gc,O sa sn sc,O ya yn yc,O oa on oc,O va vn vc,O fa fn fc,O ba bn bc] 184;have c6:=zr 6 _ rfl;have c7:=zr 7 _ rfl;clear zr;have E:Ov w (w.alloc (ze #[zd U m,O ga gn gc,O sa sn sc,O ya yn yc,O oa on oc,O va vn vc,O fa fn fc,O ba bn bc] 184)):=bA w _;obtain ⟨Z,bs,br,au,ab⟩:=hf;injection au with e1 e2 e3;subst e1 e2 e3;have a7:fs.length<=9223372036854775807:=Z;have HF:=Aa ab;have HM:=Aa hl;clear ab hl Z;have K1:=Aa (Nt K);go_enter Tryz.func175,Tryz.ntmps175;go_wp2_with fail;go_loopw [2,9] (fun c i wr=>∃ j:Nat,j<=fs.length/\i=zd U j/\c=zd U (Ap k (fs.take j):Nat)/\((Ap k (fs.take j):Nat):Int)<=50/\Hx (dpF k (fs.take j))/\wr.cell? ⟨w.heap.size,7,none⟩=some (O ba bn bc)/\Ov w wr) (fun _ i _=>fs.length - (intOf i).toNat)
 case atStart=>exact ⟨0,Nat.zero_le _,rfl,by simp [Ap],by simp [Ap],Aa (fun s H=>absurd H (by simp)),c7,E⟩
 case round=>
  clear c6 c7 E;obtain ⟨j,hj,rfl,rfl,u,N,c7,F⟩:=hrel;by_cases hjl:j < fs.length
  ·obtain ⟨b,off,rfl,ae⟩:=HF.o (by rintro rfl;simp at hjl)
   obtain ⟨vP,vB,x0,x1,x2,q0,q1,q2,q3,q4,hp,ar,H,hx⟩:=ae j hjl;obtain ⟨pa,pc,rfl,-⟩:=hp;obtain ⟨za,zc,rfl,-⟩:=H.2;obtain ⟨xa,xc,S⟩:=hx.form;simp only [List.cons.injEq,and_true] at S;obtain ⟨rfl,rfl,rfl⟩:=S;have q:=B4 (k:=k) hjl;obtain ⟨B,aa⟩:=nm (fs[j]);have I:=List.getElem_mem hjl;have p:fs.take (j+1)=fs.take j++[fs[j]]:=List.take_succ_eq_append_getElem hjl;have C:=Jl (k:=k) (l:=fs) (j+1);rw [<-aa] at q0 q1 q2 q3 q4 H q I p;have aj:=Aa I;have aw:=Aa p;clear I p;obtain ⟨M,P⟩:∃ M:Nat,M=Ap k (fs.take j):=⟨_,rfl⟩;rw [<-P] at u q ⊢;have L:=Aa q;have G:Hx (M+Ai k B.body<=Ap k fs):=Aa (by rw [<-q];exact C);have b2:Hx (B∈fs):=aj;clear q P C;have r0:wr.cell? ⟨b,off+j*5,none⟩=_:=Ab F _ _ q0;obtain ⟨r1,r2,r3,r4⟩:=co4 F q1 q2 q3 q4;obtain ⟨pn,T⟩:=nm B.ps.length;obtain ⟨zn,Q⟩:=nm B.body.length;obtain ⟨ek,ad⟩:=nm (AD B.res);obtain ⟨en,ac⟩:=nm (A5 B.res);obtain ⟨xl,R⟩:=nm ((AC B.res).length);rw [<-T] at r0;rw [<-Q] at r1 H;rw [<-ad] at r2;rw [<-ac] at r3;rw [<-R] at r4;have J:=bA wr (ze #[O pa pn pc,O za zn zc,zd U ek,zd U en,O xa xl xc] 105);have A:=F.trans (J.mono F.size);have ag:=Ab J _ _ c7;have g:=Aa (K1.o k _ _ 1 (M:Int) _ (H.over A) (by omega) (by omega) (by omega) u);obtain ⟨n1,V⟩:=nm (Ai k B.body);rw [<-V] at g L G;clear q0 q1 q2 q3 q4 H hx ae aa T Q ad ac R V ar;go_wp2_with fail;refine (g.o).mono ?_;rintro e w1 ⟨he,y⟩;have z:=A.trans (y.mono A.size);rcases he with ⟨rfl,X,d⟩ | ⟨t,rfl⟩
   ·have az:Hx (dpF k (fs.take (j+1))):=Aa (fun f hf=>by
     rw [aw.o,List.mem_append,List.mem_singleton] at hf;rcases hf with hf | rfl
     ·exact N.o f hf
     ·exact d)
    clear d;have af:=Ab y _ _ ag;clear g y A J F r0 r1 r2 r3 r4 c7 ag;go_wp2_with fail;refine ⟨⟨j+1,by omega,by go_num,?_,?_,az,af,z⟩,by simp [intOf];omega⟩
    ·rw [L.o]
     refine congrArg (Value.int IntKind.i64) ?_
     push_cast
     omega
    ·rw [L.o]
     push_cast
     omega
   ·have HN:Hx (¬ ((Ap k fs:Nat)+((Ai k l:Nat):Int)<=50/\dpF k fs/\dps k 1 l)):=Aa (fun Y=>t ⟨by have h1:=G.o;have h3:=Y.1;omega,Y.2.1 B aj.o⟩)
    clear t;unfold Az;go_wp2_with fail;exact ⟨rfl,Or.inr ⟨HN.o,rfl⟩,z⟩
  ·have hd:fs.take j=fs:=List.take_of_length_le (by omega)
   rw [hd] at u N ⊢;have g:=Aa (K1.o k _ _ 1 ((Ap k fs:Nat):Int) _ (HM.o.over F) (by omega) (by omega) (by omega) u);obtain ⟨M,P⟩:∃ M:Nat,M=Ap k fs:=⟨_,rfl⟩;rw [<-P] at g u ⊢;have ai:=Aa P;clear P hd;go_wp2_with fail;refine (g.o).mono ?_;rintro e w1 ⟨he,y⟩;have z:=F.trans (y.mono F.size);rcases he with ⟨rfl,X,d⟩ | ⟨t,rfl⟩
   ·have W:((Ap k fs:Nat):Int)+(Ai k l:Nat)<=50:=by rw [<-ai.o];exact X
    have ay:=Aa W;have a0:=Aa d;clear g W d;go_wp2_with fail;go_end0;exact ⟨Or.inl ⟨rfl,ay.o,N.o,a0.o⟩,z⟩
   ·have HN:Hx (¬ ((Ap k fs:Nat)+((Ai k l:Nat):Int)<=50/\dpF k fs/\dps k 1 l)):=Aa (fun Y=>t ⟨by have h1:=ai.o;have h3:=Y.1;omega,Y.2.2⟩)
    clear t;unfold Az;go_wp2_with fail;exact ⟨rfl,Or.inr ⟨HN.o,rfl⟩,z⟩
structure xP (K kf:Nat) (m:Int) (vn yn on sn:Nat) (gs:List (Int × Int)) (sp:List Int) (ls ms:List Lab) (vs:List (Bool × Lab)) (fs:List FnD) (l:List D):Prop where
 chk:AN m gs=0
 lim:(vn:Int)<=16/\(yn:Int)<=5/\(on:Int)<=5/\(fs.length:Int)<=5/\(sn:Int)<=m
 speak:∀ x∈sp,0<=x/\x < m
 labs:Fe m gs (ls++ms) vs
 many:((Ap kf fs:Nat):Int)+(Ai kf l:Nat)<=50/\dpF kf fs/\dps kf 1 l
 body:∀ i (h:i < fs.length),xF K vn yn on (i:Int) fs kf fs[i]
 main:∀ s∈l,xS K vn yn on (fs.length:Int) fs kf s
theorem xP.ok {K kf:Nat} {m:Int} {vn yn on sn:Nat} {gs:List (Int × Int)} {sp:List Int} {ls ms:List Lab} {vs:List (Bool × Lab)} {fs:List FnD} {l:List D} (h:xP K kf m vn yn on sn gs sp ls ms vs fs l):okP K kf m vn yn on gs sp ls ms vs fs l:=
 ⟨h.chk,h.speak,h.labs,by have:=h.lim;omega,by have:=h.lim;omega,by have:=h.lim;omega,by have:=h.lim;omega,by have:=h.many.1;omega,fun i hi=>(h.body i hi).ok,fun s hs=>(h.main s hs).ok⟩
theorem LX (K kf:Nat) (m:Int) (ga gn gc sa sn sc ya yn yc oa on oc va vn vc fa fn fc ba bn bc gs sp ls ms vs fs l) (w:World) (h:Bg K kf m ga gn gc sa sn sc ya yn yc oa on oc va vn vc fa fn fc ba bn bc gs sp ls ms vs fs l w) :
  Calls Tryz.prog 113 #[zh #[zd U m,O ga gn gc,O sa sn sc,O ya yn yc,O oa on oc,O va vn vc,O fa fn fc,O ba bn bc]] w (Dc (xP K kf m vn yn on sn gs sp ls ms vs fs l) w):=by
 have a9:fn=fs.length:=by obtain ⟨-,a,c,d,-⟩:=h.funcs;injection d
 have bg:=Aa a9;clear a9;have B:Ov w (w.alloc (ze #[zd U m,O ga gn gc,O sa sn sc,O ya yn yc,O oa on oc,O va vn vc,O fa fn fc,O ba bn bc] 184)):=bA w _;have HP:=Aa (h.over B);have KP:=Aa GM;have KM:=Aa BZ;have KO:=Aa Bq;have KA:=Aa (Go.Proofs.YtfffpjkcfnekaaaGreat.check_any m (O ga gn gc) gs);have a6:vn<=9223372036854775807:=by obtain ⟨hm,a,c,d,-⟩:=h.vars;injection d with e1 e2 e3;rw [e2];exact hm
 obtain ⟨c0,c1,c2,c3,c4,c5,c6,c7⟩:=rc8 (AP w [zd U m,O ga gn gc,O sa sn sc,O ya yn yc,O oa on oc,O va vn vc,O fa fn fc,O ba bn bc] 184);clear h;go_enter Tryz.func113,Tryz.ntmps113;go_wp2_with fail;refine (KA.o _ (HP.o.grants)).mono ?_;rintro e w1 ⟨rfl,am⟩;obtain ⟨P,N,M,L,J,I,H,G⟩:=co8 am c0 c1 c2 c3 c4 c5 c6 c7;have ae:=B.trans (am.mono B.size);have ag:=Aa (HP.o.over am);obtain ⟨ce,ax⟩:=nm (AN m gs);rw [<-ax];have a0:=Aa ax;clear KA c0 c1 c2 c3 c4 c5 c6 c7 am B ax HP;go_wp2_with fail;refine (KP.o _ _).mono ?_;rintro e wz ⟨d,rfl⟩;rcases d with ⟨s,rfl⟩ | ⟨s,rfl⟩;rotate_left
 ·have a3:ce≠0:=by simpa using s
  have S:Hx (¬ xP K kf m vn yn on sn gs sp ls ms vs fs l):=Aa (fun p=>a3 (a0.o.trans p.chk));unfold Az;go_wp2_with fail;exact ⟨rfl,Or.inr ⟨S.o,ce,a3,rfl⟩,ae⟩
 have bh:=Aa (show AN m gs=0 by rw [<-a0.o];simpa using s);clear s a0;by_cases hlim:((vn:Int)<=16/\(yn:Int)<=5/\(on:Int)<=5/\(fn:Int)<=5/\(sn:Int)<=m);rotate_left
 ·have HL:=Aa hlim
  have S:Hx (¬ xP K kf m vn yn on sn gs sp ls ms vs fs l):=Aa (fun p=>hlim (by rw [bg.o];exact p.lim));clear hlim;go_wp2_with fail;all_goals
   refine (KM.o _ _ _).mono ?_;rintro e wz ⟨d,rfl⟩;rcases d with ⟨s,rfl⟩ | ⟨s,rfl⟩
   ·exfalso
    have:=HL.o;first | (simp at s;done) | (simp at s;omega)
   ·clear s
    unfold Az;go_wp2_with fail;exact ⟨rfl,Or.inr ⟨S.o,2,by decide,rfl⟩,ae⟩
 have be:Hx ((vn:Int)<=16/\(yn:Int)<=5/\(on:Int)<=5/\(fs.length:Int)<=5/\(sn:Int)<=m):=Aa (by rw [<-bg.o];exact hlim);obtain ⟨l1,l2,l3,l4,l5⟩:=hlim;go_wp2_with fail;refine (KM.o _ _ _).mono ?_;rintro e wz ⟨d,rfl⟩;rcases d with ⟨s,rfl⟩ | ⟨s,rfl⟩;rotate_left
 ·cases s
 clear s;have av:sn=sp.length:=by obtain ⟨a,c,d,-⟩:=ag.o.speak;injection d
 have dm:sn<=9223372036854775807:=by rw [av];exact ag.o.speakL
 have b5:=Aa av;clear av;go_wp2_with fail;go_loopw [53] (fun i wr=>∃ n:Nat,n<=sn/\i=zd U n/\(∀ x∈sp.take n,0<=x/\x < m)/\(wr.cell? ⟨w.heap.size,0,none⟩=some (zd U m)/\wr.cell? ⟨w.heap.size,1,none⟩=some (O ga gn gc)/\wr.cell? ⟨w.heap.size,2,none⟩=some (O sa sn sc)/\wr.cell? ⟨w.heap.size,3,none⟩=some (O ya yn yc)/\wr.cell? ⟨w.heap.size,4,none⟩=some (O oa on oc)/\wr.cell? ⟨w.heap.size,5,none⟩=some (O va vn vc)/\wr.cell? ⟨w.heap.size,6,none⟩=some (O fa fn fc)/\wr.cell? ⟨w.heap.size,7,none⟩=some (O ba bn bc))/\Ov wz wr) (fun i _=>sn - (intOf i).toNat)
 case atStart=>exact ⟨0,Nat.zero_le _,rfl,by simp,⟨P,N,M,L,J,I,H,G⟩,Below.refl _ _⟩
 case round=>
  clear P N M L J I H G;obtain ⟨n,hn,rfl,ar,⟨P,N,M,L,J,I,H,G⟩,Q⟩:=hrel;have ai:=Aa ar;clear ar;have g:=ae.trans (Q.mono ae.size);by_cases hnl:n < sn
  ·obtain ⟨a2,c2,d,aa⟩:=ag.o.speak.over Q
   injection d with e1 e2 e3;have t:n < sp.length:=by omega
   obtain ⟨b,off,ac,y⟩:=aa (by intro h;rw [h] at t;simp at t);have q:=y n t;have ay:=e1.trans ac;subst ay;obtain ⟨x,p⟩:=nm (sp[n]);rw [<-p] at q;have HX:=Aa p;clear aa y p e1 e2 e3 ac;go_wp2_with fail;refine (KO.o _ _ _).mono ?_;rintro e wy ⟨rfl,rfl⟩;obtain ⟨ok,f⟩:=nm (decide (0<=x/\x < m));rw [<-f];have R:=Aa f;clear f;go_wp2_with fail;refine (KM.o _ _ _).mono ?_;rintro e wx ⟨d,rfl⟩;rcases d with ⟨s,rfl⟩ | ⟨s,rfl⟩;rotate_left
   ·have S:Hx (¬ xP K kf m vn yn on sn gs sp ls ms vs fs l):=Aa (fun p=>by have h1:=R.o;rw [s] at h1;have h2:=p.speak x (by rw [HX.o];exact List.getElem_mem _);simp at h1;omega)
    clear s;unfold Az;go_wp2_with fail;exact ⟨rfl,Or.inr ⟨S.o,5,by decide,rfl⟩,g⟩
   have HZ:=Aa (show 0<=x/\x < m by have h:=R.o;rw [s] at h;simpa using h.symm);clear s R;go_wp2_with fail;exact ⟨⟨n+1,by omega,by go_num,EF t ai.o (by rw [<-HX.o];exact HZ.o),⟨P,N,M,L,J,I,H,G⟩,Q⟩,by simp [intOf];omega⟩
  ·have u:=Aa (ag.o.over Q)
   obtain ⟨w2,a5⟩:=nm wr;rw [<-a5] at P N M L J I H G g u ⊢;have b4:=Aa (EG (by rw [<-b5.o];omega) ai.o);clear a5 Q ag ae ai;have KL:=Aa (J5 m ga gn gc sa sn sc ya yn yc oa on oc va vn vc fa fn fc ba bn bc gs ls ms vs w2 u.o.grants u.o.ins u.o.outs u.o.vars (by omega) (by omega) u.o.insN u.o.outsN);go_wp2_with fail;refine (KL.o).mono ?_;rintro e w3 ⟨d,al⟩;have E:=g.trans (al.mono g.size);have aq:=Aa (u.o.over al);obtain ⟨r0,r1,r2,r3,r4,r5,r6,r7⟩:=co8 al P N M L J I H G;clear KL P N M L J I H G;rcases d with ⟨au,rfl⟩ | ⟨k,T,Y,rfl⟩;rotate_left
   ·have S:Hx (¬ xP K kf m vn yn on sn gs sp ls ms vs fs l):=Aa (fun p=>k p.labs)
    clear k;unfold Az;go_wp2_with fail;exact ⟨rfl,Or.inr ⟨S.o,T,Y,rfl⟩,E⟩
   have bf:=Aa au;clear al u g au;have KI:=Aa (Lp K kf m ga gn gc sa sn sc ya yn yc oa on oc va vn vc fa fn fc ba bn bc fs l w3 aq.o.funcs aq.o.main);go_wp2_with fail;refine (KI.o).mono ?_;rintro e w4 ⟨d,ak⟩;have ad:=E.trans (ak.mono E.size);have af:=Aa (aq.o.over ak);obtain ⟨P,N,M,L,J,I,H,G⟩:=co8 ak r0 r1 r2 r3 r4 r5 r6 r7;clear KI r0 r1 r2 r3 r4 r5 r6 r7;rcases d with ⟨rfl,aw⟩ | ⟨k,rfl⟩;rotate_left
   ·have S:Hx (¬ xP K kf m vn yn on sn gs sp ls ms vs fs l):=Aa (fun p=>k p.many)
    clear k;unfold Az;go_wp2_with fail;exact ⟨rfl,Or.inr ⟨S.o,2,by decide,rfl⟩,ad⟩
   have bd:=Aa aw;have aj:fn=fs.length:=by obtain ⟨-,a,c,d,-⟩:=af.o.funcs;injection d
   have az:=Aa aj;clear ak aq E aw aj;go_wp2_with fail;go_loopw [73] (fun i wr=>∃ n:Nat,n<=fn/\i=zd U n/\(∀ j (h:j < fs.length),j < n->xF K vn yn on (j:Int) fs kf fs[j])/\(wr.cell? ⟨w.heap.size,0,none⟩=some (zd U m)/\wr.cell? ⟨w.heap.size,1,none⟩=some (O ga gn gc)/\wr.cell? ⟨w.heap.size,2,none⟩=some (O sa sn sc)/\wr.cell? ⟨w.heap.size,3,none⟩=some (O ya yn yc)/\wr.cell? ⟨w.heap.size,4,none⟩=some (O oa on oc)/\wr.cell? ⟨w.heap.size,5,none⟩=some (O va vn vc)/\wr.cell? ⟨w.heap.size,6,none⟩=some (O fa fn fc)/\wr.cell? ⟨w.heap.size,7,none⟩=some (O ba bn bc))/\Ov w4 wr) (fun i _=>fn - (intOf i).toNat)
   case atStart=>exact ⟨0,Nat.zero_le _,rfl,fun j h h'=>absurd h' (by omega),⟨P,N,M,L,J,I,H,G⟩,Below.refl _ _⟩
   case round=>
    clear P N M L J I H G;obtain ⟨n,hn,rfl,f,⟨P,N,M,L,J,I,H,G⟩,Q⟩:=hrel;have R:=Aa f;clear f;have g:=ad.trans (Q.mono ad.size);by_cases hnl:n < fn
    ·obtain ⟨-,ao,dr,d,aa⟩:=af.o.funcs.over Q
     injection d with e1 e2 e3;have t:n < fs.length:=by omega
     obtain ⟨b,off,ac,y⟩:=aa (by intro h;rw [h] at t;simp at t);obtain ⟨vP,vB,x0,x1,x2,q0,q1,q2,q3,q4,hp,⟨a7,pa,pc,bu,a8⟩,hs,p⟩:=y n t;have ay:=e1.trans ac;subst ay;subst bu;have bw:=hs;obtain ⟨-,za,zc,bv,-⟩:=bw;subst bv;obtain ⟨xa,xc,a4⟩:=p.form;simp only [List.cons.injEq,and_true] at a4;obtain ⟨rfl,rfl,rfl⟩:=a4;have z:=bA wr (ze #[O pa fs[n].ps.length pc,O za fs[n].body.length zc,zd U (AD fs[n].res),zd U (A5 fs[n].res),O xa (AC fs[n].res).length xc] 105);have an:=g.trans (z.mono g.size);have F:=Ac Q z;have KF:=Aa (H6 K kf kf fs fs[n] (n:Int) m ga gn gc sa sn sc ya yn yc oa on oc va vn vc (some ⟨b,off,none⟩) fn fc ba bn bc pa fs[n].ps.length pc za fs[n].body.length zc (AD fs[n].res) (A5 fs[n].res) xa (AC fs[n].res).length xc _ a6 (by omega) (by omega) (by omega) (by omega) (by omega) (hp.over z) a7 a8 (hs.over z) (p.over z) (af.o.funcs.over F));obtain ⟨pl,X⟩:=nm (fs[n].ps.length);obtain ⟨zl,V⟩:=nm (fs[n].body.length);obtain ⟨ek,ab⟩:=nm (AD fs[n].res);obtain ⟨en,Z⟩:=nm (A5 fs[n].res);obtain ⟨xl,W⟩:=nm ((AC fs[n].res).length);rw [<-X,<-V,<-ab,<-Z,<-W] at KF z an F;rw [<-X] at q0;rw [<-V] at q1;rw [<-ab] at q2;rw [<-Z] at q3;rw [<-W] at q4;obtain ⟨f0,f1,f2,f3,f4,f5,f6,f7⟩:=co8 z P N M L J I H G;clear aa y e1 e2 e3 ac hp a7 a8 hs p X V ab Z W P N M L J I H G;go_wp2_with fail;refine (KF.o).mono ?_;rintro e w5 ⟨d,A⟩;have b0:=Ac F A;have C:=an.trans (A.mono an.size);obtain ⟨r0,r1,r2,r3,r4,r5,r6,r7⟩:=co8 A f0 f1 f2 f3 f4 f5 f6 f7;clear KF f0 f1 f2 f3 f4 f5 f6 f7 A z an F Q g q0 q1 q2 q3 q4;rcases d with ⟨f,rfl⟩ | ⟨k,T,Y,rfl⟩;rotate_left
     ·have S:Hx (¬ xP K kf m vn yn on sn gs sp ls ms vs fs l):=Aa (fun p=>k (p.body n t))
      clear k;unfold Az;go_wp2_with fail;exact ⟨rfl,Or.inr ⟨S.o,T,Y,rfl⟩,C⟩
     have ah:=Aa f;clear f;go_wp2_with fail;refine ⟨⟨n+1,by omega,by go_num,fun j h h'=>?_,⟨r0,r1,r2,r3,r4,r5,r6,r7⟩,b0⟩,by simp [intOf];omega⟩;by_cases hjn:j < n
     ·exact R.o j h hjn
     ·obtain rfl:j=n:=by omega
      exact ah.o
    ·have KS:=Aa (GG K kf fs (fn:Int) m ga gn gc sa sn sc ya yn yc oa on oc va vn vc fa fn fc ba bn bc a6 (by omega) (by omega) (by omega) (by omega) (by have:=az.o;omega) kf (O ba bn bc) l wr (af.o.main.over Q) (af.o.funcs.over Q))
     go_wp2_with fail;refine (KS.o).mono ?_;rintro e w5 ⟨d,A⟩;have C:=g.trans (A.mono g.size);clear KS P N M L J I H G A Q g;rcases d with ⟨f,rfl⟩ | ⟨k,T,Y,rfl⟩;rotate_left
     ·have S:Hx (¬ xP K kf m vn yn on sn gs sp ls ms vs fs l):=Aa (fun p=>k (by rw [az.o];exact p.main))
      clear k;unfold Az;go_wp2_with fail;exact ⟨rfl,Or.inr ⟨S.o,T,Y,rfl⟩,C⟩
     have ah:=Aa f;clear f;go_wp2_with fail;go_end0;have aj:=az.o;have aw:=bd.o;refine ⟨Or.inl ⟨⟨bh.o,be.o,b4.o,bf.o,bd.o,fun j h=>R.o j h (by omega),?_⟩,rfl⟩,C⟩;rw [<-aj];exact ah.o
def SY (ok:Prop) (w:World) (f:Int->Value) (e:Ending) (w':World):Prop:=∃ why:Int,e=zk (f why)/\(why=0 ↔ ok)/\Ov w w'
theorem LY (K kf:Nat) (m:Int) (ga gn gc sa sn sc ya yn yc oa on oc va vn vc fa fn fc ba bn bc gs sp ls ms vs fs l) (w:World) (h:Bg K kf m ga gn gc sa sn sc ya yn yc oa on oc va vn vc fa fn fc ba bn bc gs sp ls ms vs fs l w) :
  Calls Tryz.prog 112 #[.func (.func 113) #[zh #[zd U m,O ga gn gc,O sa sn sc,O ya yn yc,O oa on oc,O va vn vc,O fa fn fc,O ba bn bc]] #[]] w (SY (xP K kf m vn yn on sn gs sp ls ms vs fs l) w fun why=>zm #[zd U 0,zd U why]):=by
 have L:∀ (fn:Fn) (first cap:Array Value) (w:World),(Instr.makeFunc fn first cap).run Tryz.prog w=.ok (.func fn first cap) w:=fun _ _ _ _=>rfl;have R:∀ (args:Array Value) (w:World),(callFunc 113 args).run Tryz.prog w=.ok (.enter 113 args) w:=fun args w=>by simp [go_sem]
 have b:Ov w ((w.alloc (ze #[zd U 0] 3)).alloc (ze #[zd U 0] 32)):=(bA w _).alloc (by simp) _;have K:=Aa (LX K kf m ga gn gc sa sn sc ya yn yc oa on oc va vn vc fa fn fc ba bn bc gs sp ls ms vs fs l _ (h.over b));have F:=Gt w [zd U 0] 3 (ze #[zd U 0] 32) 0 _ rfl;have E:=Hw w (ze #[zd U 0] 3) [zd U 0] 32 0 _ rfl;have z0:((w.alloc (ze #[zd U 0] 3)).alloc (ze #[zd U 0] 32)).frozen? ⟨w.heap.size,0,none⟩=false:=by simp [go_sem]
 have z1:((w.alloc (ze #[zd U 0] 3)).alloc (ze #[zd U 0] 32)).frozen? ⟨w.heap.size+1,0,none⟩=false:=by simp [go_sem]
 clear h
 go_enter_defers Tryz.func112,Tryz.ntmps112
 go_wp2_with fail;refine (K.o).mono ?_;rintro e g ⟨M,d⟩;obtain ⟨N,y⟩:=Am d;have p:=b.trans (d.mono b.size);obtain ⟨G,t⟩:=co2 d F E;have I:=(y w.heap.size 0 (by simp;omega)).trans z0;have H:=(y (w.heap.size+1) 0 (by simp)).trans z1;have P:w.heap.size+1 < g.heap.size:=bL t;have Q:w.heap.size < g.heap.size:=by omega
 clear N y F E z0 z1 d K b;rcases M with ⟨i,rfl⟩ | ⟨k,why,u,rfl⟩
 ·have A:=Aa i
  clear i;go_wp2_with fail;refine leaves_cons (f:=170) (args:=#[zj (some ⟨w.heap.size,0,none⟩),zj (some ⟨w.heap.size+1,0,none⟩)]) (by simp) (by simp [go_sem]) ?_;refine (LZ _ _ _).mono ?_;rintro e J C ⟨rfl,rfl,rfl⟩;have s:((g.setCell ⟨w.heap.size,0,none⟩ (zd U 0)).setCell ⟨w.heap.size+1,0,none⟩ (zd U 0)).cell? ⟨w.heap.size,0,none⟩=some (zd U 0):=by simp [go_sem,G]
  have q:((g.setCell ⟨w.heap.size,0,none⟩ (zd U 0)).setCell ⟨w.heap.size+1,0,none⟩ (zd U 0)).cell? ⟨w.heap.size+1,0,none⟩=some (zd U 0):=by simp [go_sem,t]
  have c:Ov w ((g.setCell ⟨w.heap.size,0,none⟩ (zd U 0)).setCell ⟨w.heap.size+1,0,none⟩ (zd U 0)):=(p.setCell (by simp) _).setCell (by simp) _;generalize ((g.setCell ⟨w.heap.size,0,none⟩ (zd U 0)).setCell ⟨w.heap.size+1,0,none⟩ (zd U 0))=wF at s q c ⊢;simp [Leaves,settle,results,Tryz.results112,go_sem,s,q];exact ⟨0,rfl,⟨fun _=>A.o,fun _=>rfl⟩,c⟩
 ·have B:=Aa k
  clear k;unfold Az;go_wp2_with fail;refine leaves_cons (f:=170) (args:=#[zj (some ⟨w.heap.size,0,none⟩),zj (some ⟨w.heap.size+1,0,none⟩)]) (by simp) (by simp [go_sem]) ?_;refine (L5 w.heap.size 0 0 _ _ [] _ (by omega) G t I H).mono ?_;rintro e J C ⟨rfl,rfl,s,q,z⟩;have c:Ov w C:=p.trans z;simp [Leaves,settle,results,Tryz.results112,go_sem,s,q];exact ⟨why,rfl,⟨fun h=>absurd h u,fun h=>absurd h B.o⟩,c⟩
theorem scopeCheck_any (K kf:Nat) (m:Int) (ga gn gc sa sn sc ya yn yc oa on oc va vn vc fa fn fc ba bn bc gs sp ls ms vs fs l) (w:World) (h:Bg K kf m ga gn gc sa sn sc ya yn yc oa on oc va vn vc fa fn fc ba bn bc gs sp ls ms vs fs l w) :
  Calls Tryz.prog 53 #[zh #[zd U m,O ga gn gc,O sa sn sc,O ya yn yc,O oa on oc,O va vn vc,O fa fn fc,O ba bn bc]] w (SY (xP K kf m vn yn on sn gs sp ls ms vs fs l) w fun why=>zd U why):=by
 have b:Ov w ((w.alloc (ze #[zd U m,O ga gn gc,O sa sn sc,O ya yn yc,O oa on oc,O va vn vc,O fa fn fc,O ba bn bc] 31)).alloc (ze #[zd U m,O ga gn gc,O sa sn sc,O ya yn yc,O oa on oc,O va vn vc,O fa fn fc,O ba bn bc] 184)):=(bA w _).alloc (by simp) _;have K:=Aa (LY K kf m ga gn gc sa sn sc ya yn yc oa on oc va vn vc fa fn fc ba bn bc gs sp ls ms vs fs l _ (h.over b));clear h;go_enter Tryz.func53,Tryz.ntmps53;go_wp2_with fail;refine (K.o).mono ?_;rintro e i ⟨why,rfl,c,d⟩;have f:=b.trans (d.mono b.size);have g:=Aa c;clear b d K c;go_wp2_with fail;go_ret;exact ⟨why,rfl,g.o,f⟩
end Go.Proofs.YtfffpjkcfnekaaaGreat.Ex.Ey
