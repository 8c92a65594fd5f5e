/- Law treeBegun: the small text. -/
import Derived.Test.YtipngnjffjajpaaGreatDoorK27
set_option linter.unusedVariables false
set_option maxHeartbeats 8000000
set_option maxRecDepth 100000
namespace Go.Proofs.YtipngnjffjajpaaGreatDoor.Tx
open Go.RowKit
open Go.Value renaming int -> O, slice -> zd, bool -> ze, agg -> zf, pointer -> zh, tuple -> zj
open Go.IntKind renaming i64 -> zc
open Go.Obj renaming cells -> zg
open Go.Ending renaming returned -> zi
def Da:ByteArray:=⟨#[97,99,116,111,114,32,97,59,10,111,117,116,32,99,32,123,97,58,32,97,125,59,10,109,97,105,110,32,123,10,32,32,112,117,116,32,99,32,40,49,32,43,32,50,41,59,10,125,10]⟩
def Ee:List D:=[deD 1 0 ⟨#[97]⟩ noS false [] [] [] noE,deD 5 9 ⟨#[99]⟩ noS true [DD 16 ⟨#[97]⟩ false [⟨#[97]⟩]] [] [] noE]
def EE:List D:=[stD 4 32 noS ⟨#[99]⟩ (eD 3 38 0 noS [eD 1 39 1 noS [],eD 1 43 2 noS []]) [] [] []]
theorem Gl:AV Da=.inl (Ee,EE):=by kernel_rfl
theorem Gm:ckT 61 (2*(Aq Da).length+3) Ee EE=0:=by kernel_rfl
theorem Rz {x y:ByteArray} (h:dS x=dS y):x=y:=by
 unfold dS at h;injection h with h;injection h with h;have:=An h;rw [this]
theorem RA {x y:Int} (h:dI x=dI y):x=y:=by
 unfold dI at h;injection h with h;injection h with b a
theorem JC (w:World):Ro 12 #[] w (ze true):=by
 have M:=Aa (PU Da (by have h:Da.size=49:=rfl;rw [h];unfold maxLen;omega) w);go_enter Tryz.func12,Tryz.ntmps12;go_wp2_with fail;refine M.o.mono ?_;rintro e i ⟨r,g⟩;rw [Gl] at g;obtain ⟨v,rfl,H⟩:=g;have u:Hx (∀ X,Ov i X->Ro 14 #[v] X (O zc 0)):=fun X T=>by
  have h:=Jv 61 _ Ee EE v X (H.over T);rw [Gm] at h;exact h
 obtain ⟨a,c,a2,E,rfl,U,I⟩:=H;obtain ⟨b,f,rfl,V,R,l,hr⟩:=I.at (j:=0) (by decide);have A:ZC i 61 (2*(Aq Da).length+2+1) V (stD 4 32 noS ⟨#[99]⟩ (eD 3 38 0 noS [eD 1 39 1 noS [],eD 1 43 2 noS []]) [] [] []):=hr;obtain ⟨kd,W,x,y,e0,C,B,e3,q,q1,q2,e,aA,cA,L,aT,cT,Z,aE,cE,el,rfl,n,-⟩:=A;unfold stD at n;injection n with n;simp only [List.cons.injEq] at n;obtain ⟨S,-,-,Q,-⟩:=n;obtain rfl:=RA S;obtain rfl:=Rz Q;have K:i.cell? ⟨b,f,none⟩=some (O zc 4):=by have:=l 0 _ rfl;simpa using this
 have J:i.cell? ⟨b,f+3,none⟩=some (.string ⟨#[99]⟩):=by have:=l 3 _ rfl;simpa using this
 have G:=Aa r;replace u:Hx (∀ X,Ov i X->Ro 14 #[zf #[zd a 2 c,zd (some ⟨b,f,none⟩) 1 E]] X (O zc 0)):=u;clear M r U I l R hr;have P:(i.alloc (zg #[zd a 2 c,zd (some ⟨b,f,none⟩) 1 E] 25)).cell? ⟨b,f,none⟩=some (O zc 4):=Jx K _;have N:(i.alloc (zg #[zd a 2 c,zd (some ⟨b,f,none⟩) 1 E] 25)).cell? ⟨b,f+3,none⟩=some (.string ⟨#[99]⟩):=Jx J _;have C:Ee.length=2:=rfl;have B:EE.length=1:=rfl;rw [C,B];clear C B K J;go_wp2_with fail;refine mo (u.o _ (bA _ _)) fun Y r=>?_;have F:=Aa (Ab G.o (Ab (bA _ _) r));clear r u P N;go_wp2_with fail;go_ret;exact ⟨rfl,F.o⟩
theorem Dw {α:Type} {f:α->α->Bool}:∀ {l m:List α},all2 f l m=true->∀ (j:Nat) (h:j < l.length) (h':j < m.length),f l[j] m[j]=true
 | a::l,b::m,h,0,_,_=>by simp [all2] at h;exact h.1
 | a::l,b::m,h,j+1,h1,h2=>by simp [all2] at h;exact Dw h.2 j (by simpa using h1) (by simpa using h2)
 | [],_,h,j,h1,h2=>absurd h1 (Nat.not_lt_zero _)
 | _::_,[],h,j,h1,h2=>absurd h2 (Nat.not_lt_zero _)
theorem JG:∀ {l m:List ByteArray},all2 sxS (l.map dS) (m.map dS)=true->l=m
 | [],[],_=>rfl
 | a::l,b::m,h=>by
  simp only [List.map_cons,all2,sxS,Gg,Bool.and_eq_true] at h;have e:a=b:=by
   have:=An (of_decide_eq_true h.1);rw [this]
  rw [e,JG h.2]
 | [],_::_,h=>by cases h
 | _::_,[],h=>by cases h
theorem Iw (ns:List ByteArray) (ao bo:Option Addr) (ac bc:Nat) (w:World) (ha:LS 1 ZN w (zd ao ns.length ac) ns) (hb:LS 1 ZN w (zd bo ns.length bc) ns):Ro 29 #[zd ao ns.length ac,zd bo ns.length bc] w (ze true):=by
 have M:=Aa ha;have L:=Aa hb;have K:=ha.max;obtain ⟨v,l⟩:=nm ns.length;rw [<-l] at K ⊢;have J:=Aa l;clear ha hb l;go_enter Tryz.func29,Tryz.ntmps29;go_wp2_with fail;go_loopw [5] (fun i wr=>∃ (j:Nat),j<=v/\i=O zc j/\Ov w wr) (fun i _=>v - (intOf i).toNat)
 case atStart=>exact ⟨0,Nat.zero_le _,rfl,Below.refl _ _⟩
 case round=>
  obtain ⟨j,N,rfl,r⟩:=hrel;by_cases hjl:j < v
  ·have c:j < ns.length:=by have:=J.o;omega
   have A:(j:Int) < (v:Int):=by omega
   obtain ⟨b,y,rfl,P,-,n,hr⟩:=M.o.at c;obtain ⟨H,u,rfl,G,-,f,g⟩:=L.o.at c;generalize ns[j]=x at hr g;rw [hr.1] at n;rw [g.1] at f;have F:wr.cell? ⟨b,y+j,none⟩=some (.string x):=ce1 r (by have:=n 0 _ rfl;simpa using this);have E:wr.cell? ⟨H,u + j,none⟩=some (.string x):=ce1 r (by have:=f 0 _ rfl;simpa using this);have C:=Aa r;clear n f hr g c r;go_wp2_with fail;refine Go.Proofs.YtipngnjffjajpaaGreatDoor.gS (fun I=>Below wr.heap.size wr I) (Below.refl _ _).drew fun a=>?_;generalize wr.drew=W at a ⊢;refine kO 0 ?_;refine kO 1 ?_;refine kO 2 ?_;refine kO 3 ?_;refine kO 4 ?_;refine kO 5 ?_;refine kO 6 ?_;refine kO 7 ?_;refine kO 8 ?_;refine gE ?_;have B:=Aa (Ab C.o a);clear a F E;go_wp2_with fail;exact ⟨⟨j+1,by omega,by go_num,B.o⟩,by simp [intOf];omega⟩
  ·have A:¬ (j:Int) < (v:Int):=by omega
   have C:=Aa r;clear r;go_wp2_with fail;go_ret;exact ⟨rfl,C.o⟩
theorem Ix (at_:Bool) (k:Nat) (hE:∀ (cs cs':List Value) (d d':D) (X:World),ZE X k cs d->ZE X k cs' d'->seK at_ k d d'=true->Ro 31 #[.agg cs.toArray,.agg cs'.toArray,ze at_] X (ze true)) (l m:List D) (ao bo:Option Addr) (ac bc:Nat) (w:World) (ha:LS 5 (ZE w k) w (zd ao l.length ac) l) (hb:LS 5 (ZE w k) w (zd bo m.length bc) m) (hs:all2 (seK at_ k) l m=true):Ro 62 #[zd ao l.length ac,zd bo m.length bc,ze at_] w (ze true):=by
 have HA:=Aa ha;have HC:=Aa hb;have HE:=Aa hE;have Y:=Aa hs;have HL:=ha.max;have v:=BM hs;rw [<-v];obtain ⟨A,u⟩:=nm l.length;rw [<-u] at HL ⊢;have Z:=Aa u;have HM:=Aa (u.trans v);clear ha hb hE hs u v;go_enter Tryz.func62,Tryz.ntmps62;go_wp2_with fail;go_loopw [7] (fun i wr=>∃ (j:Nat),j<=A/\i=O zc j/\Ov w wr) (fun i _=>A - (intOf i).toNat)
 case atStart=>exact ⟨0,Nat.zero_le _,rfl,Below.refl _ _⟩
 case round=>
  obtain ⟨j,hj,rfl,f⟩:=hrel;by_cases hjl:j < A
  ·have n:j < l.length:=by have:=Z.o;omega
   have g:j < m.length:=by have:=HM.o;omega
   have E:(j:Int) < (A:Int):=by omega
   obtain ⟨b,L,rfl,cs,-,x,hr⟩:=HA.o.at n;obtain ⟨U,y,rfl,cs',-,c,r⟩:=HC.o.at g;have C:=Dw Y.o j n g;generalize l[j]=dj at hr C;generalize m[j]=dm at r C;have J:Hx (∀ X,Ov wr X->Ro 31 #[.agg cs.toArray,.agg cs'.toArray,ze at_] X (ze true)):=fun X H=>HE.o cs cs' dj dm X ((hr.over f).over H) ((r.over f).over H) C;obtain ⟨p0,p1,p2,p3,p4,p5,p6,rfl⟩:=hr.cells;obtain ⟨r0,r1,r2,r3,r4,r5,r6,rfl⟩:=r.cells;have T:=CK f x rfl;have S:=CJ f x;have R:wr.cell? ⟨U,y + j*5,none⟩=_:=ce1 f (c 0 _ rfl);have Q:=ce1 f (c 1 _ rfl);have P:=ce1 f (c 2 _ rfl);have N:=ce1 f (c 3 _ rfl);have M:=ce1 f (c 4 _ rfl);have G:=Aa f;clear x c hr r n g f C;go_wp2_with fail;refine Go.Proofs.YtipngnjffjajpaaGreatDoor.gS (fun V=>Below wr.heap.size wr V) (Below.refl _ _).drew fun a=>?_;generalize wr.drew=W at a ⊢;refine kO 0 ?_;refine kO 1 ?_;refine kO 2 ?_;refine kO 3 ?_;refine kO 4 ?_;refine kO 5 ?_;refine kO 6 ?_;refine kO 7 ?_;refine kO 8 ?_;refine rdA 9 rfl fun K I=>?_;go_simp;refine mo (J.o _ a) fun W8 hb=>?_;have B:=Aa (Ab a hb);clear hb a J;go_simp;refine xK I (B.o) fun a=>?_;clear I K;refine kO 10 ?_;refine gE ?_;have F:=Aa (Ab G.o B.o);clear a T S R Q P N M;go_wp2_with fail;exact ⟨⟨j+1,by omega,by go_num,F.o⟩,by simp [intOf];omega⟩
  ·have E:¬ (j:Int) < (A:Int):=by omega
   have G:=Aa f;clear f;go_wp2_with fail;go_ret;exact ⟨rfl,G.o⟩
theorem IW (at_:Bool):∀ (k:Nat) (cs cs':List Value) (d d':D) (X:World),ZE X k cs d->ZE X k cs' d'->seK at_ k d d'=true->Ro 31 #[.agg cs.toArray,.agg cs'.toArray,ze at_] X (ze true):=by
 intro k
 induction k with
 | zero=>intro cs cs' d d' w h;exact h.elim
 | succ k ih=>
  intro cs cs' d d' w h Q L;obtain ⟨f,a,n,x,l,c,B,rfl,rfl,-,M⟩:=h;obtain ⟨P,F,R,E,b,j,A,rfl,rfl,-,v⟩:=Q;simp only [seK,gEe,Bool.and_eq_true,decide_eq_true_eq] at L;obtain ⟨⟨⟨⟨rfl,rfl⟩,K⟩,i⟩,I⟩:=L;have H:E=x:=by have:=An K.symm;rw [this]
  subst H;have r:Hx (∀ X,Ov w X->Ro 62 #[zd l B.length c,zd b A.length j,ze at_] X (ze true)):=fun X N=>Ix at_ k ih B A l b c j X (BQ N M) (BQ N v) I;have g:=BM I;rw [<-g] at r ⊢;have C:=r;clear K I M v ih r g;show Ro 31 #[zf #[O zc f,O zc a,O zc n,.string E,zd l B.length c],zf #[O zc f,O zc F,O zc n,.string E,zd b B.length j],ze at_] w _;generalize B.length=nn at C ⊢;generalize E=x
  cases at_ with
  | true=>
   have J:a=F:=by simpa using i
   subst J;clear i;go_enter Tryz.func31,Tryz.ntmps31;go_wp2_with fail;refine mo (C.o _ ((bA w (zg #[O zc f,O zc a,O zc n,.string x,zd l nn c] 49)).alloc (by simp) (zg #[O zc f,O zc a,O zc n,.string x,zd b nn j] 49))) fun G y=>?_;have u:Hx (Ov w G):=Ab ((bA w (zg #[O zc f,O zc a,O zc n,.string x,zd l nn c] 49)).alloc (by simp) (zg #[O zc f,O zc a,O zc n,.string x,zd b nn j] 49)) y;clear y  C;go_wp2_with fail;go_ret;exact ⟨rfl,u.o⟩
  | false=>
   clear i;go_enter Tryz.func31,Tryz.ntmps31;go_wp2_with fail;refine mo (C.o _ ((bA w (zg #[O zc f,O zc a,O zc n,.string x,zd l nn c] 49)).alloc (by simp) (zg #[O zc f,O zc F,O zc n,.string x,zd b nn j] 49))) fun G y=>?_;have u:Hx (Ov w G):=Ab ((bA w (zg #[O zc f,O zc a,O zc n,.string x,zd l nn c] 49)).alloc (by simp) (zg #[O zc f,O zc F,O zc n,.string x,zd b nn j] 49)) y;clear y  C;go_wp2_with fail;go_ret;exact ⟨rfl,u.o⟩
theorem Lr (ao bo:Option Addr) (ac bc:Nat) (at_:Bool) (w:World):Ro 30 #[zd ao 0 ac,zd bo 0 bc,ze at_] w (ze true):=by
 go_enter Tryz.func30,Tryz.ntmps30;go_wp2_with fail;go_loopw [7] (fun i wr=>i=O zc 0/\w=wr) (fun _ _=>0)
 case atStart=>exact ⟨rfl,rfl⟩
 case round=>
  obtain ⟨rfl,rfl⟩:=hrel;go_wp2_with fail;go_ret;exact ⟨rfl,Below.refl _ _⟩
theorem JW (ke:Nat):∀ (k:Nat),∀ (l m:List D) (ao bo:Option Addr) (ac bc:Nat) (w:World),LS 12 (ZC w ke k) w (zd ao l.length ac) l->LS 12 (ZC w ke k) w (zd bo m.length bc) m->all2 (ssK true ke k) l m=true->Ro 30 #[zd ao l.length ac,zd bo m.length bc,ze true] w (ze true):=by
 intro k
 induction k with
 | zero=>
  intro l m ao bo ac bc w ha n hs;have hl:l=[]:=by
   cases l with
   | nil=>rfl
   | cons a l=>
    obtain ⟨b,b9,-,cs,-,-,hr⟩:=ha.at (j:=0) (by simp);exact hr.elim
  subst hl;have hm:m=[]:=List.length_eq_zero_iff.1 (BM hs).symm;subst hm;exact Lr ao bo ac bc true w
 | succ k ih=>
  intro l m ao bo ac bc w ha n hs;have HA:=Aa ha;have HC:=Aa n;have IH:=Aa ih;have HS:=Aa hs;have HL:=ha.max;have ba:=BM hs;rw [<-ba];obtain ⟨nn,av⟩:=nm l.length;rw [<-av] at HL ⊢;have HN:=Aa av;have HM:=Aa (av.trans ba);clear ha n ih hs av ba;go_enter Tryz.func30,Tryz.ntmps30;go_wp2_with fail;go_loopw [7] (fun i wr=>∃ (j:Nat),j<=nn/\i=O zc j/\Ov w wr) (fun i _=>nn - (intOf i).toNat)
  case atStart=>exact ⟨0,Nat.zero_le _,rfl,Below.refl _ _⟩
  case round=>
   obtain ⟨j,hj,rfl,F⟩:=hrel;by_cases hjl:j < nn
   ·have U:j < l.length:=by have:=HN.o;omega
    have T:j < m.length:=by have:=HM.o;omega
    have cc:(j:Int) < (nn:Int):=by omega
    obtain ⟨b,b9,rfl,cs,-,bb,hr⟩:=HA.o.at U;obtain ⟨b',bh,rfl,c6,-,r,bk⟩:=HC.o.at T;have hq:=Dw HS.o j U T;generalize l[j]=dj at hr hq;generalize m[j]=dm at bk hq;obtain ⟨Q,a,x,y,e0,e1,e2,e3,q,q1,q2,e,aA,cA,ab,aT,cT,th,aE,cE,el,rfl,rfl,-,-,he,hA,hT,hE⟩:=hr;obtain ⟨c2,a9,x9,y9,f0,f1,f2,f3,t,t1,t2,e9,L,J,aa,bT,H,bg,bE,I,bs,rfl,rfl,-,-,bl,br,bp,bq⟩:=bk;simp only [ssK,gSs,Bool.and_eq_true,decide_eq_true_eq] at hq;obtain ⟨⟨⟨⟨⟨⟨⟨rfl,bm⟩,hx⟩,hy⟩,qe⟩,qa⟩,qt⟩,ql⟩:=hq;have cb:x9=x:=by have:=An hx.symm;rw [this]
    have ca:y9=y:=by have:=An hy.symm;rw [this]
    subst cb ca;have d0:=CK F bb rfl;have dA:=CJ F bb;have g0:wr.cell? ⟨b',bh + j*12,none⟩=_:=ce1 F (r 0 _ rfl);have g1:=ce1 F (r 1 _ rfl);have g2:=ce1 F (r 2 _ rfl);have g3:=ce1 F (r 3 _ rfl);have g4:=ce1 F (r 4 _ rfl);have g5:=ce1 F (r 5 _ rfl);have g6:=ce1 F (r 6 _ rfl);have g7:=ce1 F (r 7 _ rfl);have g8:=ce1 F (r 8 _ rfl);have g9:=ce1 F (r 9 _ rfl);have ax:=ce1 F (r 10 _ rfl);have aw:=ce1 F (r 11 _ rfl);have KE:Hx (∀ X,Ov wr X->Ro 31 #[zf #[O zc e0,O zc e1,O zc e2,.string e3,zd q q1 q2],zf #[O zc f0,O zc f1,O zc f2,.string f3,zd t t1 t2],ze true] X (ze true)):=fun X Y=>IW true ke _ _ e e9 X ((he.over F).over Y) ((bl.over F).over Y) qe;have KA:Hx (∀ X,Ov wr X->Ro 62 #[zd aA ab.length cA,zd L aa.length J,ze true] X (ze true)):=fun X Y=>Ix true ke (IW true ke) ab aa aA L cA J X (BQ Y (BQ F hA)) (BQ Y (BQ F br)) qa;have KT:Hx (∀ X,Ov wr X->Ro 30 #[zd aT th.length cT,zd bT bg.length H,ze true] X (ze true)):=fun X Y=>IH.o th bg aT bT cT H X (Ar Y (Ar F hT)) (Ar Y (Ar F bp)) qt;have KL:Hx (∀ X,Ov wr X->Ro 30 #[zd aE el.length cE,zd bE bs.length I,ze true] X (ze true)):=fun X Y=>IH.o el bs aE bE cE I X (Ar Y (Ar F hE)) (Ar Y (Ar F bq)) ql;rw [<-BM qa] at KA g9;rw [<-BM qt] at KT ax;rw [<-BM ql] at KL aw;have HB:=Aa F;clear bb r U T F he bl hA br hT bp hE bq qe qa qt ql hx hy;generalize ab.length=nA at KA dA g9;generalize th.length=nT at KT dA ax;generalize el.length=nE at KL dA aw;generalize x9=x at dA g2;generalize y9=y at dA g3;have cd:a=a9:=by simpa using bm
    subst cd;clear bm;go_wp2_with fail;refine gS (fun Wz=>Below wr.heap.size wr Wz) (Below.refl _ _).drew fun c=>?_;generalize wr.drew=W at c ⊢;have HW:=Aa c;refine kO 0 ?_;refine kO 1 ?_;refine kO 2 ?_;refine kO 3 ?_;refine kO 4 ?_;refine kO 5 ?_;refine kO 6 ?_;refine kO 7 ?_;refine rdB 8 9 rfl (fun K G=>?_) rfl fun K G=>?_
    ·go_simp
     refine xK G (Ab c (bA _ _)) fun c=>?_;clear G K;refine rdA 9 rfl fun K G=>?_;go_simp;refine xK G (Ab c (bA _ _)) fun c=>?_;clear G K;refine rdA 10 rfl fun K G=>?_;go_simp;refine xK G (Ab (Ab HW.o (bA _ _)) (bA _ _)) fun c=>?_;clear G K;refine rdA 11 rfl fun K G=>?_;go_simp;refine xK G (Ab (Ab HW.o (bA _ _)) (bA _ _)) fun c=>?_;clear G K;refine gE ?_;clear d0 dA g0 g1 g2 g3 g4 g5 g6 g7 g8 g9 ax aw;obtain ⟨V,Z⟩:=nm ((W.alloc (zg #[O zc Q,O zc a,.string x,.string y,O zc e0,O zc e1,O zc e2,.string e3,zd q q1 q2,zd aA nA cA,zd aT nT cT,zd aE nE cE] 55)).alloc (zg #[O zc Q,O zc a,.string x,.string y,O zc f0,O zc f1,O zc f2,.string f3,zd t t1 t2,zd L nA J,zd bT nT H,zd bE nE I] 55));obtain ⟨b1,S⟩:=nm (W.heap.size);obtain ⟨b2,R⟩:=nm (W.heap.size+1);have ae:Hx (Ad [O zc Q,O zc a,.string x,.string y,O zc e0,O zc e1,O zc e2,.string e3,zd q q1 q2,zd aA nA cA,zd aT nT cT,zd aE nE cE] V b1):=by show Ad _ _ _;rw [Z,S];exact Gy W [O zc Q,O zc a,.string x,.string y,O zc e0,O zc e1,O zc e2,.string e3,zd q q1 q2,zd aA nA cA,zd aT nT cT,zd aE nE cE] 55 (zg #[O zc Q,O zc a,.string x,.string y,O zc f0,O zc f1,O zc f2,.string f3,zd t t1 t2,zd L nA J,zd bT nT H,zd bE nE I] 55)
     have ad:Hx (Ad [O zc Q,O zc a,.string x,.string y,O zc f0,O zc f1,O zc f2,.string f3,zd t t1 t2,zd L nA J,zd bT nT H,zd bE nE I] V b2):=by show Ad _ _ _;rw [Z,R];exact Ky W (zg #[O zc Q,O zc a,.string x,.string y,O zc e0,O zc e1,O zc e2,.string e3,zd q q1 q2,zd aA nA cA,zd aT nT cT,zd aE nE cE] 55) [O zc Q,O zc a,.string x,.string y,O zc f0,O zc f1,O zc f2,.string f3,zd t t1 t2,zd L nA J,zd bT nT H,zd bE nE I] 55
     have af:Hx (Ov wr V):=by show Ov _ _;rw [Z];exact Ab (Ab HW.o (bA _ _)) (bA _ _)
     rw [<-Z,<-R,<-S];clear Z S R c HW;have g:=AR ae.o;have f:=AR ad.o;go_wp2_with fail;refine mo (KE.o _ (af.o)) fun b4 n=>?_;have P:=Aa (Ab (af.o) n);have E:=Aa (ae.o.over n);have A:=Aa (ad.o.over n);clear n g f KE;have g:=AR E.o;have f:=AR A.o;go_wp2_with fail;refine mo (KA.o _ (P.o)) fun b3 n=>?_;have N:=Aa (Ab (P.o) n);have C:=Aa (E.o.over n);have v:=Aa (A.o.over n);clear n g f KA;have g:=AR C.o;have f:=AR v.o;go_wp2_with fail;refine mo (KT.o _ (N.o)) fun b0 n=>?_;have M:=Aa (Ab (N.o) n);have B:=Aa (C.o.over n);have u:=Aa (v.o.over n);clear n g f KT;have g:=AR B.o;have f:=AR u.o;go_wp2_with fail;refine mo (KL.o _ (M.o)) fun bz n=>?_;have ag:=Aa (Ab (M.o) n);have a7:=Aa (B.o.over n);have a6:=Aa (u.o.over n);clear n g f KL;go_wp2_with fail;exact ⟨⟨j+1,by omega,by go_num,Ab HB.o ag.o⟩,by simp [intOf];omega⟩
    ·go_simp
     refine xK G (Ab c (bA _ _)) fun c=>?_;clear G K;refine rdA 8 rfl fun K G=>?_;go_simp;refine xK G (Ab c (bA _ _)) fun c=>?_;clear G K;refine rdA 10 rfl fun K G=>?_;go_simp;refine xK G (Ab (Ab HW.o (bA _ _)) (bA _ _)) fun c=>?_;clear G K;refine rdA 11 rfl fun K G=>?_;go_simp;refine xK G (Ab (Ab HW.o (bA _ _)) (bA _ _)) fun c=>?_;clear G K;refine gE ?_;clear d0 dA g0 g1 g2 g3 g4 g5 g6 g7 g8 g9 ax aw;obtain ⟨V,Z⟩:=nm ((W.alloc (zg #[O zc Q,O zc a,.string x,.string y,O zc f0,O zc f1,O zc f2,.string f3,zd t t1 t2,zd L nA J,zd bT nT H,zd bE nE I] 55)).alloc (zg #[O zc Q,O zc a,.string x,.string y,O zc e0,O zc e1,O zc e2,.string e3,zd q q1 q2,zd aA nA cA,zd aT nT cT,zd aE nE cE] 55));obtain ⟨b1,S⟩:=nm (W.heap.size+1);obtain ⟨b2,R⟩:=nm (W.heap.size);have ae:Hx (Ad [O zc Q,O zc a,.string x,.string y,O zc e0,O zc e1,O zc e2,.string e3,zd q q1 q2,zd aA nA cA,zd aT nT cT,zd aE nE cE] V b1):=by show Ad _ _ _;rw [Z,S];exact Ky W (zg #[O zc Q,O zc a,.string x,.string y,O zc f0,O zc f1,O zc f2,.string f3,zd t t1 t2,zd L nA J,zd bT nT H,zd bE nE I] 55) [O zc Q,O zc a,.string x,.string y,O zc e0,O zc e1,O zc e2,.string e3,zd q q1 q2,zd aA nA cA,zd aT nT cT,zd aE nE cE] 55
     have ad:Hx (Ad [O zc Q,O zc a,.string x,.string y,O zc f0,O zc f1,O zc f2,.string f3,zd t t1 t2,zd L nA J,zd bT nT H,zd bE nE I] V b2):=by show Ad _ _ _;rw [Z,R];exact Gy W [O zc Q,O zc a,.string x,.string y,O zc f0,O zc f1,O zc f2,.string f3,zd t t1 t2,zd L nA J,zd bT nT H,zd bE nE I] 55 (zg #[O zc Q,O zc a,.string x,.string y,O zc e0,O zc e1,O zc e2,.string e3,zd q q1 q2,zd aA nA cA,zd aT nT cT,zd aE nE cE] 55)
     have af:Hx (Ov wr V):=by show Ov _ _;rw [Z];exact Ab (Ab HW.o (bA _ _)) (bA _ _)
     rw [<-Z,<-S,<-R];clear Z S R c HW;have g:=AR ae.o;have f:=AR ad.o;go_wp2_with fail;refine mo (KE.o _ (af.o)) fun b4 n=>?_;have P:=Aa (Ab (af.o) n);have E:=Aa (ae.o.over n);have A:=Aa (ad.o.over n);clear n g f KE;have g:=AR E.o;have f:=AR A.o;go_wp2_with fail;refine mo (KA.o _ (P.o)) fun b3 n=>?_;have N:=Aa (Ab (P.o) n);have C:=Aa (E.o.over n);have v:=Aa (A.o.over n);clear n g f KA;have g:=AR C.o;have f:=AR v.o;go_wp2_with fail;refine mo (KT.o _ (N.o)) fun b0 n=>?_;have M:=Aa (Ab (N.o) n);have B:=Aa (C.o.over n);have u:=Aa (v.o.over n);clear n g f KT;have g:=AR B.o;have f:=AR u.o;go_wp2_with fail;refine mo (KL.o _ (M.o)) fun bz n=>?_;have ag:=Aa (Ab (M.o) n);have a7:=Aa (B.o.over n);have a6:=Aa (u.o.over n);clear n g f KL;go_wp2_with fail;exact ⟨⟨j+1,by omega,by go_num,Ab HB.o ag.o⟩,by simp [intOf];omega⟩
   ·have cc:¬ (j:Int) < (nn:Int):=by omega
    have HB:=Aa F;clear F;go_wp2_with fail;go_ret;exact ⟨rfl,HB.o⟩
theorem PO (ke kc:Nat) (ds l ds' l':List D) (v v':Value) (w:World) (h:ZT w ke kc v ds l) (h':ZT w ke kc v' ds' l') (hs:stK true ke kc ds l ds' l'=true):Ro 13 #[v,v',ze true] w (ze true):=by
 obtain ⟨a,c,a2,c2,rfl,hD,hM⟩:=h;obtain ⟨b,d,b2,V,rfl,da,c8⟩:=h';unfold stK at hs;rw [Bool.and_eq_true] at hs;obtain ⟨b9,b8⟩:=hs;have KM:Hx (∀ X,Ov w X->Ro 30 #[zd a2 l.length c2,zd b2 l'.length V,ze true] X (ze true)):=fun X U=>JW ke kc l l' a2 b2 c2 V X (Ar U hM) (Ar U c8) b8;have cc:=BM b9;have cb:=BM b8;rw [<-cb] at KM;rw [<-cc,<-cb];have HA:=Aa hD;have HC:=Aa da;have HS:=Aa b9;have fe:=hD.max;obtain ⟨nd,bj⟩:=nm ds.length;rw [<-bj] at fe ⊢;have HN:=Aa bj;have HM:=Aa (bj.trans cc);generalize l.length=nl at KM ⊢;clear hD hM da c8 b9 b8 cc cb bj;obtain ⟨V0,ao⟩:=nm ((w.alloc (zg #[zd a nd c,zd a2 nl c2] 25)).alloc (zg #[zd b nd d,zd b2 nl V] 25));obtain ⟨bt,ce⟩:=nm (w.heap.size);obtain ⟨bu,cd⟩:=nm (w.heap.size+1);have fa:Hx (Ad [zd a nd c,zd a2 nl c2] V0 bt):=by show Ad _ _ _;rw [ao,ce];exact Gy w [zd a nd c,zd a2 nl c2] 25 (zg #[zd b nd d,zd b2 nl V] 25)
 have e9:Hx (Ad [zd b nd d,zd b2 nl V] V0 bu):=by show Ad _ _ _;rw [ao,cd];exact Ky w (zg #[zd a nd c,zd a2 nl c2] 25) [zd b nd d,zd b2 nl V] 25
 have co:Hx (Ov w V0):=by show Ov _ _;rw [ao];exact Ab (bA _ _) (bA _ _)
 go_enter Tryz.func13,Tryz.ntmps13;go_wp2_with fail;rw [<-ao,<-cd,<-ce];clear ao cd ce;go_loopw [7] (fun i wr=>∃ (j:Nat),j<=nd/\i=O zc j/\Ov V0 wr) (fun i _=>nd - (intOf i).toNat)
 case atStart=>exact ⟨0,Nat.zero_le _,rfl,Below.refl _ _⟩
 case round=>
  obtain ⟨j,hj,rfl,hB⟩:=hrel;have sA:=Ad.all (fa.o.over hB);have sA:=Ad.all (e9.o.over hB);have HB:=Aa hB;by_cases hjl:j < nd
  ·have ai:j < ds.length:=by have:=HN.o;omega
   have ah:j < ds'.length:=by have:=HM.o;omega
   have ep:(j:Int) < (nd:Int):=by omega
   obtain ⟨ba,oa,rfl,cs,-,A,hr⟩:=HA.o.at ai;obtain ⟨bc,oc,rfl,e4,-,n,ag⟩:=HC.o.at ah;have hq:=Dw HS.o j ai ah;generalize ds[j]=dj at hr hq;generalize ds'[j]=dm at ag hq;have g:Ov w wr:=Ab co.o hB;obtain ⟨N,a,x,y,I,aL,cL,lb,aP,cP,ps,aB,cB,ar,e0,e1,e2,e3,q,q1,q2,r,rfl,rfl,-,-,hL,hP,db,hR⟩:=hr;obtain ⟨ge,a9,x9,y9,dc,bL,dL,cy,bP,dP,ee,bB,dB,aq,f0,f1,f2,f3,t,t1,t2,r9,rfl,rfl,-,-,c9,c6,b0,c5⟩:=ag;simp only [sdK,gDd,Bool.and_eq_true,decide_eq_true_eq] at hq;obtain ⟨⟨⟨⟨⟨⟨⟨⟨rfl,al⟩,hx⟩,hy⟩,c3⟩,ql⟩,qp⟩,qb⟩,qr⟩:=hq;have el:x9=x:=by have:=An hx.symm;rw [this]
   have ek:y9=y:=by have:=An hy.symm;rw [this]
   have em:ps=ee:=JG qp;have er:dc=I:=by simpa using c3.symm
   subst el ek em er;have d0:wr.cell? ⟨ba,oa+j*13,none⟩=_:=ce1 g (A 0 _ rfl);have d1:=ce1 g (A 1 _ rfl);have V:=ce1 g (A 2 _ rfl);have d3:=ce1 g (A 3 _ rfl);have d4:=ce1 g (A 4 _ rfl);have d5:=ce1 g (A 5 _ rfl);have d6:=ce1 g (A 6 _ rfl);have d7:=ce1 g (A 7 _ rfl);have d8:=ce1 g (A 8 _ rfl);have d9:=ce1 g (A 9 _ rfl);have dk:=ce1 g (A 10 _ rfl);have di:=ce1 g (A 11 _ rfl);have dh:=ce1 g (A 12 _ rfl);have g0:wr.cell? ⟨bc,oc+j*13,none⟩=_:=ce1 g (n 0 _ rfl);have g1:=ce1 g (n 1 _ rfl);have g2:=ce1 g (n 2 _ rfl);have g3:=ce1 g (n 3 _ rfl);have g4:=ce1 g (n 4 _ rfl);have g5:=ce1 g (n 5 _ rfl);have g6:=ce1 g (n 6 _ rfl);have g7:=ce1 g (n 7 _ rfl);have g8:=ce1 g (n 8 _ rfl);have g9:=ce1 g (n 9 _ rfl);have df:=ce1 g (n 10 _ rfl);have de:=ce1 g (n 11 _ rfl);have dd:=ce1 g (n 12 _ rfl);have KP:Hx (∀ X,Ov wr X->Ro 29 #[zd aP ps.length cP,zd bP ps.length dP] X (ze true)):=fun X U=>Iw ps aP bP cP dP X (Bu U (Bu g hP)) (Bu U (Bu g c6));have KB:Hx (∀ X,Ov wr X->Ro 30 #[zd aB ar.length cB,zd bB aq.length dB,ze true] X (ze true)):=fun X U=>JW ke kc ar aq aB bB cB dB X (Ar U (Ar g db)) (Ar U (Ar g b0)) qb;have KR:Hx (∀ X,Ov wr X->Ro 31 #[zf #[O zc e0,O zc e1,O zc e2,.string e3,zd q q1 q2],zf #[O zc f0,O zc f1,O zc f2,.string f3,zd t t1 t2],ze true] X (ze true)):=fun X U=>IW true ke _ _ r r9 X ((hR.over g).over U) ((c5.over g).over U) qr;have ca:=BM ql;rw [<-BM qb] at KB g7;rw [<-ca] at g5;have dr:=Aa hL;have dq:=Aa c9;have e8:=Aa ql;have fd:=hL.max;obtain ⟨G,bk⟩:=nm lb.length;rw [<-bk] at d5 g5 fd;have fc:=Aa bk;have fb:=Aa (bk.trans ca);obtain ⟨Wx,cg⟩:=nm w;have fg:Hx (Ov Wx wr):=by show Ov _ _;rw [cg];exact g
   rw [<-cg] at dr dq;have cf:a=a9:=by simpa using al
   subst cf;clear A n ai ah hB g hL c9 hP c6 db b0 hR c5 ql qp qb qr hx hy c3 al bk ca cg;generalize ps.length=nP at KP d6 g6;generalize ar.length=nB at KB d7 g7;generalize x9=x at V g2;generalize y9=y at d3 g3;generalize dc=I at d4 g4;go_wp2_with fail;refine gS (fun Wz=>Below wr.heap.size wr Wz) (Below.refl _ _).drew fun f=>?_;generalize wr.drew=W at f ⊢;have L:=Aa f;refine kO 0 ?_;refine kO 1 ?_;refine kO 2 ?_;refine kO 3 ?_;refine kO 4 ?_;refine kO 5 ?_;refine kO 6 ?_;refine kO 7 ?_;refine kO 8 ?_;refine kO 9 ?_;refine rdB 10 11 rfl (fun K u=>?_) rfl fun K u=>?_;go_simp;refine xK u (Ab f (bA _ _)) fun f=>?_;clear u K;refine rdA 11 rfl fun K u=>?_;go_simp;refine xK u (Ab f (bA _ _)) fun f=>?_;clear u K;refine rdA 12 rfl fun K u=>?_;go_simp;refine xK u (Ab (Ab L.o (bA _ _)) (bA _ _)) fun f=>?_;clear u K;refine rdA 13 rfl fun K u=>?_;go_simp;refine xK u (Ab (Ab L.o (bA _ _)) (bA _ _)) fun f=>?_;clear u K;refine gE ?_;clear d0 d1 V d3 d4 d5 d6 d7 d8 d9 dk di dh g0 g1 g2 g3 g4 g5 g6 g7 g8 g9 df de dd sA;obtain ⟨Y,hY⟩:=nm ((W.alloc (zg #[O zc N,O zc a,.string x,.string y,ze I,zd aL G cL,zd aP nP cP,zd aB nB cB,O zc e0,O zc e1,O zc e2,.string e3,zd q q1 q2] 51)).alloc (zg #[O zc N,O zc a,.string x,.string y,ze I,zd bL G dL,zd bP nP dP,zd bB nB dB,O zc f0,O zc f1,O zc f2,.string f3,zd t t1 t2] 51));obtain ⟨b1,T⟩:=nm (W.heap.size);obtain ⟨b2,S⟩:=nm (W.heap.size+1);have cl:Hx (Ad [O zc N,O zc a,.string x,.string y,ze I,zd aL G cL,zd aP nP cP,zd aB nB cB,O zc e0,O zc e1,O zc e2,.string e3,zd q q1 q2] Y b1):=by show Ad _ _ _;rw [hY,T];exact Gy W [O zc N,O zc a,.string x,.string y,ze I,zd aL G cL,zd aP nP cP,zd aB nB cB,O zc e0,O zc e1,O zc e2,.string e3,zd q q1 q2] 51 (zg #[O zc N,O zc a,.string x,.string y,ze I,zd bL G dL,zd bP nP dP,zd bB nB dB,O zc f0,O zc f1,O zc f2,.string f3,zd t t1 t2] 51)
   have ck:Hx (Ad [O zc N,O zc a,.string x,.string y,ze I,zd bL G dL,zd bP nP dP,zd bB nB dB,O zc f0,O zc f1,O zc f2,.string f3,zd t t1 t2] Y b2):=by show Ad _ _ _;rw [hY,S];exact Ky W (zg #[O zc N,O zc a,.string x,.string y,ze I,zd aL G cL,zd aP nP cP,zd aB nB cB,O zc e0,O zc e1,O zc e2,.string e3,zd q q1 q2] 51) [O zc N,O zc a,.string x,.string y,ze I,zd bL G dL,zd bP nP dP,zd bB nB dB,O zc f0,O zc f1,O zc f2,.string f3,zd t t1 t2] 51
   have cm:Hx (Ov wr Y):=by show Ov _ _;rw [hY];exact Ab (Ab L.o (bA _ _)) (bA _ _)
   rw [<-hY,<-S,<-T];clear hY T S f L;rotate_left;go_simp;refine xK u (Ab f (bA _ _)) fun f=>?_;clear u K;refine rdA 10 rfl fun K u=>?_;go_simp;refine xK u (Ab f (bA _ _)) fun f=>?_;clear u K;refine rdA 12 rfl fun K u=>?_;go_simp;refine xK u (Ab (Ab L.o (bA _ _)) (bA _ _)) fun f=>?_;clear u K;refine rdA 13 rfl fun K u=>?_;go_simp;refine xK u (Ab (Ab L.o (bA _ _)) (bA _ _)) fun f=>?_;clear u K;refine gE ?_;clear d0 d1 V d3 d4 d5 d6 d7 d8 d9 dk di dh g0 g1 g2 g3 g4 g5 g6 g7 g8 g9 df de dd sA;obtain ⟨Y,hY⟩:=nm ((W.alloc (zg #[O zc N,O zc a,.string x,.string y,ze I,zd bL G dL,zd bP nP dP,zd bB nB dB,O zc f0,O zc f1,O zc f2,.string f3,zd t t1 t2] 51)).alloc (zg #[O zc N,O zc a,.string x,.string y,ze I,zd aL G cL,zd aP nP cP,zd aB nB cB,O zc e0,O zc e1,O zc e2,.string e3,zd q q1 q2] 51));obtain ⟨b1,T⟩:=nm (W.heap.size+1);obtain ⟨b2,S⟩:=nm (W.heap.size);have cl:Hx (Ad [O zc N,O zc a,.string x,.string y,ze I,zd aL G cL,zd aP nP cP,zd aB nB cB,O zc e0,O zc e1,O zc e2,.string e3,zd q q1 q2] Y b1):=by show Ad _ _ _;rw [hY,T];exact Ky W (zg #[O zc N,O zc a,.string x,.string y,ze I,zd bL G dL,zd bP nP dP,zd bB nB dB,O zc f0,O zc f1,O zc f2,.string f3,zd t t1 t2] 51) [O zc N,O zc a,.string x,.string y,ze I,zd aL G cL,zd aP nP cP,zd aB nB cB,O zc e0,O zc e1,O zc e2,.string e3,zd q q1 q2] 51
   have ck:Hx (Ad [O zc N,O zc a,.string x,.string y,ze I,zd bL G dL,zd bP nP dP,zd bB nB dB,O zc f0,O zc f1,O zc f2,.string f3,zd t t1 t2] Y b2):=by show Ad _ _ _;rw [hY,S];exact Gy W [O zc N,O zc a,.string x,.string y,ze I,zd bL G dL,zd bP nP dP,zd bB nB dB,O zc f0,O zc f1,O zc f2,.string f3,zd t t1 t2] 51 (zg #[O zc N,O zc a,.string x,.string y,ze I,zd aL G cL,zd aP nP cP,zd aB nB cB,O zc e0,O zc e1,O zc e2,.string e3,zd q q1 q2] 51)
   have cm:Hx (Ov wr Y):=by show Ov _ _;rw [hY];exact Ab (Ab L.o (bA _ _)) (bA _ _)
   rw [<-hY,<-T,<-S];clear hY T S f L;all_goals
    have E:=Ad.all cl.o;have C:=Ad.all ck.o;go_wp2_with fail;refine mo (KP.o _ (cm.o)) fun f9 F=>?_;have b7:=Aa (Ab (cm.o) F);have ad:=Aa (cl.o.over F);have ab:=Aa (ck.o.over F);clear F E C KP;have E:=Ad.all ad.o;have C:=Ad.all ab.o;go_wp2_with fail;refine mo (KB.o _ (b7.o)) fun f8 F=>?_;have b6:=Aa (Ab (b7.o) F);have ac:=Aa (ad.o.over F);have aa:=Aa (ab.o.over F);clear F E C KB;have E:=Ad.all ac.o;have C:=Ad.all aa.o;go_wp2_with fail;refine mo (KR.o _ (b6.o)) fun eb F=>?_;have ay:=Aa (Ab (b6.o) F);have H:=Aa (ac.o.over F);have Z:=Aa (aa.o.over F);clear F E C KR;obtain ⟨WK,c4⟩:=nm eb;rw [<-c4] at H Z ay ⊢;clear c4;have uA:=Ad.all H.o;go_wp2_with fail;clear uA;go_loopw [10] (fun i wr=>∃ (jj:Nat),jj<=G/\i=O zc jj/\Ov WK wr) (fun i _=>G - (intOf i).toNat)
    case atStart=>exact ⟨0,Nat.zero_le _,rfl,Below.refl _ _⟩
    case round=>
     obtain ⟨jj,gf,rfl,af⟩:=hrel;have uA:=Ad.all (H.o.over af);have vA:=Ad.all (Z.o.over af);have cp:=Aa af;by_cases hil:jj < G
     ·have ak:jj < lb.length:=by have:=fc.o;omega
      have aj:jj < cy.length:=by have:=fb.o;omega
      have eq:(jj:Int) < (G:Int):=by omega
      obtain ⟨c1,eh,rfl,cs,-,A,hr⟩:=dr.o.at ak;obtain ⟨c2,eg,rfl,e4,-,n,ag⟩:=dq.o.at aj;have hq:=Dw e8.o jj ak aj;generalize lb[jj]=dj at hr hq;generalize cy[jj]=dm at ag hq;have g:Ov Wx wr:=Ab fg.o (Ab ay.o af);obtain ⟨J,o,B,an,cn,ns,rfl,rfl,-,hN⟩:=hr;obtain ⟨pb,o9,cv,bn,dn,ei,rfl,rfl,-,c7⟩:=ag;simp only [spD,gPp,Bool.and_eq_true,decide_eq_true_eq] at hq;obtain ⟨⟨⟨al,ho⟩,c0⟩,qn⟩:=hq;have en:o9=o:=by have:=An ho.symm;rw [this]
      have eo:ns=ei:=JG qn;subst en eo;have cz:cv=B:=by simpa using c0.symm
      subst cz;have d0:wr.cell? ⟨c1,eh+jj*4,none⟩=_:=ce1 g (A 0 _ rfl);have d1:=ce1 g (A 1 _ rfl);have V:=ce1 g (A 2 _ rfl);have d3:=ce1 g (A 3 _ rfl);have g0:wr.cell? ⟨c2,eg+jj*4,none⟩=_:=ce1 g (n 0 _ rfl);have g1:=ce1 g (n 1 _ rfl);have g2:=ce1 g (n 2 _ rfl);have g3:=ce1 g (n 3 _ rfl);have KN:Hx (∀ X,Ov wr X->Ro 29 #[zd an ns.length cn,zd bn ns.length dn] X (ze true)):=fun X U=>Iw ns an bn cn dn X (Bu U (Bu g hN)) (Bu U (Bu g c7));have cf:J=pb:=by simpa using al
      subst cf;clear A n ak aj g af hN c7 qn ho c0 al;generalize ns.length=nN at KN d3 g3;generalize o9=o at d1 g1;generalize cv=B at V g2;go_wp2_with fail;refine gS (fun Wz=>Below wr.heap.size wr Wz) (Below.refl _ _).drew fun f=>?_;generalize wr.drew=W at f ⊢;have M:=Aa f;refine kO 0 ?_;refine kO 1 ?_;refine kO 2 ?_;refine kO 3 ?_;refine kO 4 ?_;refine kO 5 ?_;refine kO 6 ?_;refine kO 7 ?_;refine kO 8 ?_;refine kO 9 ?_;refine rdB 10 11 rfl (fun K u=>?_) rfl fun K u=>?_
      ·go_simp
       refine xK u (Ab f (bA _ _)) fun f=>?_;clear u K;refine rdA 11 rfl fun K u=>?_;go_simp;refine xK u (Ab f (bA _ _)) fun f=>?_;clear u K;refine rdA 12 rfl fun K u=>?_;go_simp;refine xK u (Ab (Ab M.o (bA _ _)) (bA _ _)) fun f=>?_;clear u K;refine rdA 13 rfl fun K u=>?_;go_simp;refine xK u (Ab (Ab M.o (bA _ _)) (bA _ _)) fun f=>?_;clear u K;refine gE ?_;clear d0 d1 V d3 g0 g1 g2 g3 uA vA;obtain ⟨Q,hQ⟩:=nm ((W.alloc (zg #[O zc J,.string o,ze B,zd an nN cn] 53)).alloc (zg #[O zc J,.string o,ze B,zd bn nN dn] 53));obtain ⟨p1,R⟩:=nm (W.heap.size);obtain ⟨p2,P⟩:=nm (W.heap.size+1);have av:Hx (Ad [O zc J,.string o,ze B,zd an nN cn] Q p1):=by show Ad _ _ _;rw [hQ,R];exact Gy W [O zc J,.string o,ze B,zd an nN cn] 53 (zg #[O zc J,.string o,ze B,zd bn nN dn] 53)
       have au:Hx (Ad [O zc J,.string o,ze B,zd bn nN dn] Q p2):=by show Ad _ _ _;rw [hQ,P];exact Ky W (zg #[O zc J,.string o,ze B,zd an nN cn] 53) [O zc J,.string o,ze B,zd bn nN dn] 53
       have aw:Hx (Ov wr Q):=by show Ov _ _;rw [hQ];exact Ab (Ab M.o (bA _ _)) (bA _ _)
       rw [<-hQ,<-P,<-R];clear hQ R P f M;have E:=Ad.all av.o;have C:=Ad.all au.o;go_wp2_with fail;refine mo (KN.o _ (aw.o)) fun ea F=>?_;have ax:=Aa (Ab (aw.o) F);have bz:=Aa (av.o.over F);have bw:=Aa (au.o.over F);clear F E C KN;go_wp2_with fail;refine ⟨⟨jj+1,by omega,by go_num,Ab cp.o ax.o⟩,by simp [intOf];omega⟩
      ·go_simp
       refine xK u (Ab f (bA _ _)) fun f=>?_;clear u K;refine rdA 10 rfl fun K u=>?_;go_simp;refine xK u (Ab f (bA _ _)) fun f=>?_;clear u K;refine rdA 12 rfl fun K u=>?_;go_simp;refine xK u (Ab (Ab M.o (bA _ _)) (bA _ _)) fun f=>?_;clear u K;refine rdA 13 rfl fun K u=>?_;go_simp;refine xK u (Ab (Ab M.o (bA _ _)) (bA _ _)) fun f=>?_;clear u K;refine gE ?_;clear d0 d1 V d3 g0 g1 g2 g3 uA vA;obtain ⟨Q,hQ⟩:=nm ((W.alloc (zg #[O zc J,.string o,ze B,zd bn nN dn] 53)).alloc (zg #[O zc J,.string o,ze B,zd an nN cn] 53));obtain ⟨p1,R⟩:=nm (W.heap.size+1);obtain ⟨p2,P⟩:=nm (W.heap.size);have av:Hx (Ad [O zc J,.string o,ze B,zd an nN cn] Q p1):=by show Ad _ _ _;rw [hQ,R];exact Ky W (zg #[O zc J,.string o,ze B,zd bn nN dn] 53) [O zc J,.string o,ze B,zd an nN cn] 53
       have au:Hx (Ad [O zc J,.string o,ze B,zd bn nN dn] Q p2):=by show Ad _ _ _;rw [hQ,P];exact Gy W [O zc J,.string o,ze B,zd bn nN dn] 53 (zg #[O zc J,.string o,ze B,zd an nN cn] 53)
       have aw:Hx (Ov wr Q):=by show Ov _ _;rw [hQ];exact Ab (Ab M.o (bA _ _)) (bA _ _)
       rw [<-hQ,<-R,<-P];clear hQ R P f M;have E:=Ad.all av.o;have C:=Ad.all au.o;go_wp2_with fail;refine mo (KN.o _ (aw.o)) fun ea F=>?_;have ax:=Aa (Ab (aw.o) F);have bz:=Aa (av.o.over F);have bw:=Aa (au.o.over F);clear F E C KN;go_wp2_with fail;refine ⟨⟨jj+1,by omega,by go_num,Ab cp.o ax.o⟩,by simp [intOf];omega⟩
     ·have eq:¬ (jj:Int) < (G:Int):=by omega
      clear af;go_wp2_with fail;exact ⟨⟨j+1,by omega,by go_num,Ab HB.o (Ab ay.o cp.o)⟩,by simp [intOf];omega⟩
  ·have ep:¬ (j:Int) < (nd:Int):=by omega
   clear hB;go_wp2_with fail;refine mo (KM.o _ (Ab co.o HB.o)) fun wz F=>?_;have ff:=Aa (Ab (Ab co.o HB.o) F);clear F KM sA;go_wp2_with fail;go_ret;exact ⟨rfl,ff.o⟩
theorem ZT.emp (W:World) (ke kc:Nat):ZT W ke kc (zf #[zd none 0 0,zd none 0 0]) [] []:=⟨none,0,none,0,rfl,LS.nil,LS.nil⟩
end Go.Proofs.YtipngnjffjajpaaGreatDoor.Tx
