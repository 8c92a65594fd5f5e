/- Law treeBegun: the small text. -/
import Derived.Test.YtipngnjffjajpaaGreatDoorH42
set_option linter.unusedVariables false
set_option maxHeartbeats 8000000
set_option maxRecDepth 100000
namespace Go.Proofs.YtipngnjffjajpaaGreatDoor.Tx
open Go.RowKit
open Go.Value renaming int -> M, slice -> U, bool -> zc, pointer -> zd, agg -> zf, tuple -> zh
open Go.IntKind renaming i64 -> O
open Go.Obj renaming cells -> ze
open Go.Ending renaming returned -> zg
def FF:ByteArray:=⟨#[97,99,116,111,114,32,97,59,10,111,117,116,32,99,32,123,97,58,32,97,125,59,10,109,97,105,110,32,123,10,32,32,112,117,116,32,99,32,40,49,32,43,32,50,41,59,10,125,10]⟩
def Gz:List D:=[deD 1 0 ⟨#[97]⟩ noS false [] [] [] noE,deD 5 9 ⟨#[99]⟩ noS true [Dp 16 ⟨#[97]⟩ false [⟨#[97]⟩]] [] [] noE]
def Gy:List D:=[stD 4 32 noS ⟨#[99]⟩ (eD 3 38 0 noS [eD 1 39 1 noS [],eD 1 43 2 noS []]) [] [] []]
theorem G9:C5 FF=.inl (Gz,Gy):=by kernel_rfl
theorem Ha:ckT 61 (2*(AB FF).length+3) Gz Gy=0:=by kernel_rfl
theorem MV {x y:ByteArray} (h:dS x=dS y):x=y:=by
 unfold dS at h;injection h with h;injection h with h;have:=Aq h;rw [this]
theorem MW {x y:Int} (h:dI x=dI y):x=y:=by
 unfold dI at h;injection h with h;injection h with b a
theorem Fd (w:World):Ro 12 #[] w (zc true):=by
 have K:=Aa (Jm FF (by have h:FF.size=49:=rfl;rw [h];unfold maxLen;omega) w);go_enter Tryz.func12,Tryz.ntmps12;go_wp2_with fail;refine K.o.mono ?_;rintro e i ⟨m,g⟩;rw [G9] at g;obtain ⟨v,rfl,F⟩:=g;have n:Hx (∀ X,Ov i X->Ro 14 #[v] X (M O 0)):=fun X S=>by
  have h:=Jv 61 _ Gz Gy v X (F.over S);rw [Ha] at h;exact h
 obtain ⟨a,c,a2,B,rfl,T,G⟩:=F;obtain ⟨b,f,rfl,V,Q,k,hr⟩:=G.at (j:=0) (by decide);have r:ZC i 61 (2*(AB FF).length+2+1) V (stD 4 32 noS ⟨#[99]⟩ (eD 3 38 0 noS [eD 1 39 1 noS [],eD 1 43 2 noS []]) [] [] []):=hr;obtain ⟨kd,W,x,y,e0,A,u,e3,q,q1,q2,e,aA,cA,J,aT,cT,Z,aE,cE,el,rfl,l,-⟩:=r;unfold stD at l;injection l with l;simp only [List.cons.injEq] at l;obtain ⟨R,-,-,P,-⟩:=l;obtain rfl:=MW R;obtain rfl:=MV P;have I:i.cell? ⟨b,f,none⟩=some (M O 4):=by have:=k 0 _ rfl;simpa using this
 have H:i.cell? ⟨b,f+3,none⟩=some (.string ⟨#[99]⟩):=by have:=k 3 _ rfl;simpa using this
 have E:=Aa m;replace n:Hx (∀ X,Ov i X->Ro 14 #[zf #[U a 2 c,U (some ⟨b,f,none⟩) 1 B]] X (M O 0)):=n;clear K m T G k Q hr;have N:(i.alloc (ze #[U a 2 c,U (some ⟨b,f,none⟩) 1 B] 25)).cell? ⟨b,f,none⟩=some (M O 4):=Mr I _;have L:(i.alloc (ze #[U a 2 c,U (some ⟨b,f,none⟩) 1 B] 25)).cell? ⟨b,f+3,none⟩=some (.string ⟨#[99]⟩):=Mr H _;have A:Gz.length=2:=rfl;have u:Gy.length=1:=rfl;rw [A,u];clear A u I H;go_wp2_with fail;refine (n.o _ (bA _ _)).mono ?_;rintro e Y ⟨rfl,m⟩;have C:=Aa (Ab E.o (Ab (bA _ _) m));clear m n N L;go_wp2_with fail;go_ret;exact ⟨rfl,C.o⟩
theorem Ea {α:Type} {f:α->α->Bool}:∀ {l m:List α},Dd f l m=true->∀ (j:Nat) (h:j < l.length) (h':j < m.length),f l[j] m[j]=true
 | a::l,b::m,h,0,_,_=>by simp [Dd] at h;exact h.1
 | a::l,b::m,h,j+1,h1,h2=>by simp [Dd] at h;exact Ea h.2 j (by simpa using h1) (by simpa using h2)
 | [],_,h,j,h1,h2=>absurd h1 (Nat.not_lt_zero _)
 | _::_,[],h,j,h1,h2=>absurd h2 (Nat.not_lt_zero _)
theorem Jg:∀ {l m:List ByteArray},Dd sxS (l.map dS) (m.map dS)=true->l=m
 | [],[],_=>rfl
 | a::l,b::m,h=>by
  simp only [List.map_cons,Dd,sxS,MZ,Bool.and_eq_true] at h;have e:a=b:=by
   have:=Aq (of_decide_eq_true h.1);rw [this]
  rw [e,Jg h.2]
 | [],_::_,h=>by cases h
 | _::_,[],h=>by cases h
theorem ES (ns:List ByteArray) (ao bo:Option Addr) (ac bc:Nat) (w:World) (ha:LS 1 ZN w (U ao ns.length ac) ns) (hb:LS 1 ZN w (U bo ns.length bc) ns):Ro 29 #[U ao ns.length ac,U bo ns.length bc] w (zc true):=by
 have K:=Aa ha;have J:=Aa hb;have I:=ha.max;obtain ⟨r,k⟩:=nm ns.length;rw [<-k] at I ⊢;have H:=Aa k;clear ha hb k;go_enter Tryz.func29,Tryz.ntmps29;go_wp2_with fail;go_loopw [5] (fun i wr=>∃ (j:Nat),j<=r/\i=M O j/\Ov w wr) (fun i _=>r - (intOf i).toNat)
 case atStart=>exact ⟨0,Nat.zero_le _,rfl,Below.refl _ _⟩
 case round=>
  obtain ⟨j,L,rfl,m⟩:=hrel;by_cases hjl:j < r
  ·have c:j < ns.length:=by have:=H.o;omega
   have v:(j:Int) < (r:Int):=by omega
   obtain ⟨b,u,rfl,N,-,l,hr⟩:=K.o.at c;obtain ⟨F,n,rfl,E,-,f,g⟩:=J.o.at c;generalize ns[j]=x at hr g;rw [hr.1] at l;rw [g.1] at f;have C:wr.cell? ⟨b,u+j,none⟩=some (.string x):=ce1 m (by have:=l 0 _ rfl;simpa using this);have B:wr.cell? ⟨F,n + j,none⟩=some (.string x):=ce1 m (by have:=f 0 _ rfl;simpa using this);have A:=Aa m;clear l f hr g c m;go_wp2_with fail;refine Go.Proofs.YtipngnjffjajpaaGreatDoor.gS (fun G=>Below wr.heap.size wr G) (Below.refl _ _).drew fun a=>?_;generalize wr.drew=W at a ⊢;refine kO 0 ?_;refine kO 1 ?_;refine kO 2 ?_;refine kO 3 ?_;refine kO 4 ?_;refine kO 5 ?_;refine kO 6 ?_;refine kO 7 ?_;refine kO 8 ?_;refine gE ?_;have y:=Aa (Ab A.o a);clear a C B;go_wp2_with fail;exact ⟨⟨j+1,by omega,by go_num,y.o⟩,by simp [intOf];omega⟩
  ·have v:¬ (j:Int) < (r:Int):=by omega
   have A:=Aa m;clear m;go_wp2_with fail;go_ret;exact ⟨rfl,A.o⟩
theorem Gk (at_:Bool) (k:Nat) (hE:∀ (cs cs':List Value) (d d':D) (X:World),ZE X k cs d->ZE X k cs' d'->seK at_ k d d'=true->Ro 31 #[.agg cs.toArray,.agg cs'.toArray,zc at_] X (zc true)) (l m:List D) (ao bo:Option Addr) (ac bc:Nat) (w:World) (ha:LS 5 (ZE w k) w (U ao l.length ac) l) (hb:LS 5 (ZE w k) w (U bo m.length bc) m) (hs:Dd (seK at_ k) l m=true):Ro 62 #[U ao l.length ac,U bo m.length bc,zc at_] w (zc true):=by
 have HA:=Aa ha;have HC:=Aa hb;have HE:=Aa hE;have HS:=Aa hs;have HL:=ha.max;have x:=B3 hs;rw [<-x];obtain ⟨A,v⟩:=nm l.length;rw [<-v] at HL ⊢;have HN:=Aa v;have HM:=Aa (v.trans x);clear ha hb hE hs v x;go_enter Tryz.func62,Tryz.ntmps62;go_wp2_with fail;go_loopw [7] (fun i wr=>∃ (j:Nat),j<=A/\i=M O j/\Ov w wr) (fun i _=>A - (intOf i).toNat)
 case atStart=>exact ⟨0,Nat.zero_le _,rfl,Below.refl _ _⟩
 case round=>
  obtain ⟨j,hj,rfl,f⟩:=hrel;by_cases hjl:j < A
  ·have r:j < l.length:=by have:=HN.o;omega
   have n:j < m.length:=by have:=HM.o;omega
   have F:(j:Int) < (A:Int):=by omega
   obtain ⟨b,E,rfl,cs,-,g,hr⟩:=HA.o.at r;obtain ⟨b',y,rfl,cs',-,c,u⟩:=HC.o.at n;have C:=Ea HS.o j r n;generalize l[j]=dj at hr C;generalize m[j]=dm at u C;have L:Hx (∀ X,Ov wr X->Ro 31 #[.agg cs.toArray,.agg cs'.toArray,zc at_] X (zc true)):=fun X I=>HE.o cs cs' dj dm X ((hr.over f).over I) ((u.over f).over I) C;obtain ⟨p0,p1,p2,p3,p4,p5,p6,rfl⟩:=hr.cells;obtain ⟨r0,r1,r2,r3,r4,r5,r6,rfl⟩:=u.cells;have d0:wr.cell? ⟨b,E+j*5,none⟩=_:=ce1 f (g 0 _ rfl);have Z:=ce1 f (g 1 _ rfl);have Y:=ce1 f (g 2 _ rfl);have V:=ce1 f (g 3 _ rfl);have T:=ce1 f (g 4 _ rfl);have S:wr.cell? ⟨b',y + j*5,none⟩=_:=ce1 f (c 0 _ rfl);have R:=ce1 f (c 1 _ rfl);have Q:=ce1 f (c 2 _ rfl);have P:=ce1 f (c 3 _ rfl);have N:=ce1 f (c 4 _ rfl);have H:=Aa f;clear g c hr u r n f C;go_wp2_with fail;refine Go.Proofs.YtipngnjffjajpaaGreatDoor.gS (fun Wz=>Below wr.heap.size wr Wz) (Below.refl _ _).drew fun a=>?_;generalize wr.drew=W at a ⊢;refine kO 0 ?_;refine kO 1 ?_;refine kO 2 ?_;refine kO 3 ?_;refine kO 4 ?_;refine kO 5 ?_;refine kO 6 ?_;refine kO 7 ?_;refine kO 8 ?_;refine rdA 9 rfl fun K J=>?_;go_simp;refine (L.o _ a).mono ?_;rintro e W8 ⟨rfl,hb⟩;have B:=Aa (Ab a hb);clear hb a L;go_simp;refine xK J (B.o) fun a=>?_;clear J K;refine kO 10 ?_;refine gE ?_;have G:=Aa (Ab H.o B.o);clear a d0 Z Y V T S R Q P N;go_wp2_with fail;exact ⟨⟨j+1,by omega,by go_num,G.o⟩,by simp [intOf];omega⟩
  ·have F:¬ (j:Int) < (A:Int):=by omega
   have H:=Aa f;clear f;go_wp2_with fail;go_ret;exact ⟨rfl,H.o⟩
theorem GB (at_:Bool):∀ (k:Nat) (cs cs':List Value) (d d':D) (X:World),ZE X k cs d->ZE X k cs' d'->seK at_ k d d'=true->Ro 31 #[.agg cs.toArray,.agg cs'.toArray,zc at_] X (zc true):=by
 intro k
 induction k with
 | zero=>intro cs cs' d d' w h;exact h.elim
 | succ k ih=>
  intro cs cs' d d' w h Q K;obtain ⟨f,a,n,x,l,c,A,rfl,rfl,-,L⟩:=h;obtain ⟨P,E,R,C,b,j,y,rfl,rfl,-,u⟩:=Q;simp only [seK,gEe,Bool.and_eq_true,decide_eq_true_eq] at K;obtain ⟨⟨⟨⟨rfl,rfl⟩,J⟩,i⟩,H⟩:=K;have G:C=x:=by have:=Aq J.symm;rw [this]
  subst G;have m:Hx (∀ X,Ov w X->Ro 62 #[U l A.length c,U b y.length j,zc at_] X (zc true)):=fun X N=>Gk at_ k ih A y l b c j X (B2 N L) (B2 N u) H;have g:=B3 H;rw [<-g] at m ⊢;have B:=m;clear J H L u ih m g;show Ro 31 #[zf #[M O f,M O a,M O n,.string C,U l A.length c],zf #[M O f,M O E,M O n,.string C,U b A.length j],zc at_] w _;generalize A.length=nn at B ⊢;generalize C=x
  cases at_ with
  | true=>
   have I:a=E:=by simpa using i
   subst I;clear i;go_enter Tryz.func31,Tryz.ntmps31;go_wp2_with fail;refine (B.o _ ((bA w (ze #[M O f,M O a,M O n,.string x,U l nn c] 49)).alloc (by simp) (ze #[M O f,M O a,M O n,.string x,U b nn j] 49))).mono ?_;rintro e F ⟨rfl,v⟩;have r:Hx (Ov w F):=Ab ((bA w (ze #[M O f,M O a,M O n,.string x,U l nn c] 49)).alloc (by simp) (ze #[M O f,M O a,M O n,.string x,U b nn j] 49)) v;clear v  B;go_wp2_with fail;go_ret;exact ⟨rfl,r.o⟩
  | false=>
   clear i;go_enter Tryz.func31,Tryz.ntmps31;go_wp2_with fail;refine (B.o _ ((bA w (ze #[M O f,M O a,M O n,.string x,U l nn c] 49)).alloc (by simp) (ze #[M O f,M O E,M O n,.string x,U b nn j] 49))).mono ?_;rintro e F ⟨rfl,v⟩;have r:Hx (Ov w F):=Ab ((bA w (ze #[M O f,M O a,M O n,.string x,U l nn c] 49)).alloc (by simp) (ze #[M O f,M O E,M O n,.string x,U b nn j] 49)) v;clear v  B;go_wp2_with fail;go_ret;exact ⟨rfl,r.o⟩
end Go.Proofs.YtipngnjffjajpaaGreatDoor.Tx
