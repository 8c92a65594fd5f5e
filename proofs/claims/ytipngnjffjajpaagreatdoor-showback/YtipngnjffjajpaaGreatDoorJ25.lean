/- The document's answer: parts of expressions, names, nothing, expressions. -/
import Derived.Test.YtipngnjffjajpaaGreatDoorJ24
set_option linter.unusedVariables false
set_option maxHeartbeats 8000000
set_option maxRecDepth 100000
namespace Go.Proofs.YtipngnjffjajpaaGreatDoor.Tx
open Go.RowKit
open Go.Value renaming int -> I, slice -> zc, bool -> zd, pointer -> zf, agg -> zg, tuple -> zi
open Go.IntKind renaming i64 -> O
open Go.Obj renaming cells -> ze
open Go.Ending renaming returned -> zh
abbrev Lz (cs:List Value) (w:World) (b off:Nat):Prop:=∀ (j:Nat) (u:Value),cs[j]? = some u->w.cell? ⟨b,off+j,none⟩=some u
theorem Lz.ten {a0 a1 a2 a3 a4 a5 a6 a7 a8 a9:Value} {w w':World} {b off:Nat} (h:Lz [a0,a1,a2,a3,a4,a5,a6,a7,a8,a9] w b off) (hb:Ov w w'):w'.cell? ⟨b,off,none⟩=some a0/\w'.cell? ⟨b,off+1,none⟩=some a1/\w'.cell? ⟨b,off+2,none⟩=some a2/\w'.cell? ⟨b,off+3,none⟩=some a3/\w'.cell? ⟨b,off+4,none⟩=some a4/\w'.cell? ⟨b,off+5,none⟩=some a5/\w'.cell? ⟨b,off+5+1,none⟩=some a6/\w'.cell? ⟨b,off+5+2,none⟩=some a7/\w'.cell? ⟨b,off+5+3,none⟩=some a8/\w'.cell? ⟨b,off+5+4,none⟩=some a9:=
 ⟨ce1 hb (h 0 _ rfl),ce1 hb (h 1 _ rfl),ce1 hb (h 2 _ rfl),ce1 hb (h 3 _ rfl),ce1 hb (h 4 _ rfl),ce1 hb (h 5 _ rfl),ce1 hb (h 6 _ rfl),ce1 hb (h 7 _ rfl),ce1 hb (h 8 _ rfl),ce1 hb (h 9 _ rfl)⟩
theorem Js (k:Nat) (en:Int):∀ (l:List D) (t:Int),en < t->l.foldl (fun n a=>if n<=en then n+poK k a (en - n) else n) t=t
 | [],t,h=>rfl
 | a::l,t,h=>by rw [List.foldl_cons,if_neg (by omega)];exact Js k en l t h
theorem FP:∀ (k:Nat) (cs:List Value) (d:D) (w:World) (en:Int),ZE w k cs d->0<=en->en<=15->Ro 75 #[.agg cs.toArray,I O en] w (I O (poK k d en)):=by
 intro k
 induction k with
 | zero=>intro cs d w L h;exact h.elim
 | succ k ih=>
  intro cs d w en h L0 L1;obtain ⟨H,a,n,x,P,c,F,rfl,rfl,-,T⟩:=h;have HC:=Aa T;have IH:=Aa ih;have HL:=T.max;obtain ⟨fin,y⟩:=nm (F.foldl (fun n a=>if n<=en then n+poK k a (en - n) else n) 1);have u:poK (k+1) (eD H a n x F) en=fin:=by rw [y];rfl
  rw [u];have HF:=Aa y;obtain ⟨A,E⟩:=nm F.length;rw [<-E] at HL ⊢;have HN:=Aa E;obtain ⟨V,N⟩:=nm (w.alloc (ze #[I O H,I O a,I O n,.string x,zc P A c] 49));have G:Hx (Ov w V):=by show Ov _ _;rw [N];exact bA _ _
  have U:Hx (Af [I O H,I O a,I O n,.string x,zc P A c] V w.heap.size):=by show Af _ _ _;rw [N];exact Ax w [I O H,I O a,I O n,.string x,zc P A c] 49
  clear T ih u y E;show Ro 75 #[zg #[I O H,I O a,I O n,.string x,zc P A c],I O en] w _;go_enter Tryz.func75,Tryz.ntmps75;go_wp2_with fail;rw [<-N];clear N;go_loopw [5,6] (fun c i wr=>∃ (j:Nat) (t:Int),j<=A/\i=I O j/\c=I O t/\0<=t/\t<=16/\(F.drop j).foldl (fun n a=>if n<=en then n+poK k a (en - n) else n) t=fin/\Ov V wr) (fun _ i _=>A - (intOf i).toNat)
  case atStart=>exact ⟨0,1,Nat.zero_le _,rfl,rfl,by omega,by omega,HF.o.symm,Below.refl _ _⟩
  case round=>
   obtain ⟨j,t,hj,rfl,rfl,t1,t2,v,B⟩:=hrel;obtain ⟨m0,m1,m2,m3,m4⟩:=rc5 (U.o.over B);by_cases hjl:j < A
   ·have g:j < F.length:=by have:=HN.o;omega
    have S:(j:Int) < (A:Int):=by omega
    by_cases ht0:t<=en
    ·obtain ⟨b,Q,rfl,cs,R,l,hr⟩:=HC.o.at g
     rw [D3 g,if_pos ht0] at v;generalize F[j]=dj at v hr;have f:Ov w wr:=Ac G.o B;have hb:=Iv k dj (en - t) (by omega);obtain ⟨r,C⟩:=nm (poK k dj (en - t));have Z:Hx (∀ X,Ov wr X->Ro 75 #[.agg cs.toArray,I O (en - t)] X (I O r)):=fun X hX=>by rw [C];exact IH.o cs dj X (en - t) ((hr.over f).over hX) (by omega) (by omega)
     obtain ⟨k0,k1,k2,k3,q,q1,q2,rfl⟩:=hr.cells;have d0:wr.cell? ⟨b,Q+j*5,none⟩=_:=ce1 f (l 0 _ rfl);have d1:=ce1 f (l 1 _ rfl);have d2:=ce1 f (l 2 _ rfl);have d3:=ce1 f (l 3 _ rfl);have d4:=ce1 f (l 4 _ rfl);rw [<-C] at v hb;have K:=Aa v;have M:=Aa B;clear l R hr v B g C f;go_wp2_with fail;refine (Z.o _ (Below.refl _ _)).mono ?_;rintro e w1 ⟨rfl,J⟩;have W:Hx (Ov V w1):=Ac M.o J;clear J d0 d1 d2 d3 d4 m0 m1 m2 m3 m4 Z;go_wp2_with fail;exact ⟨⟨j+1,t+r,by omega,by go_num,by go_num,by omega,by omega,K.o,W.o⟩,by simp [intOf];omega⟩
    ·rw [Js k en _ _ (by omega)] at v
     have K:=Aa v;have M:=Aa B;clear v B g;go_wp2_with fail;go_ret;exact ⟨by rw [<-K.o];rfl,Ac G.o M.o⟩
   ·have Y:F.drop j=[]:=List.drop_eq_nil_of_le (by have:=HN.o;omega)
    rw [Y] at v;have K:=Aa v;have M:=Aa B;have S:¬ (j:Int) < (A:Int):=by omega
    clear v B Y;go_wp2_with fail;go_ret;exact ⟨by rw [<-K.o];rfl,Ac G.o M.o⟩
theorem Dl (n lo hi:Int) (w:World):Ro 76 #[I O n,I O lo,I O hi] w (zd (decide (lo<=n) && decide (n<=hi))):=by
 obtain ⟨fin,a⟩:=nm (decide (lo<=n) && decide (n<=hi));rw [<-a];by_cases h1:lo<=n
 ·have b:Hx (fin=decide (n<=hi)):=by show _=_;rw [a];simp [h1]
  clear a;go_enter Tryz.func76,Tryz.ntmps76;go_wp2_with fail;go_ret;exact ⟨by rw [b.o];(first | rfl | (simp;done) | (simp;assumption) | (simp;omega)),Below.refl _ _⟩
 ·have b:Hx (fin=false):=by show _=_;rw [a];simp [h1]
  clear a;go_enter Tryz.func76,Tryz.ntmps76;go_wp2_with fail;go_ret;exact ⟨by rw [b.o];(first | rfl | (simp;done) | (simp;assumption) | (simp;omega)),Below.refl _ _⟩
def DT:List ByteArray:=[⟨#[97,99,116,111,114]⟩,⟨#[103,114,97,110,116]⟩,⟨#[115,112,101,97,107]⟩,⟨#[105,110]⟩,⟨#[111,117,116]⟩,⟨#[118,97,114]⟩,⟨#[102,117,110,99]⟩,⟨#[109,97,105,110]⟩,⟨#[103,101,116]⟩,⟨#[112,117,116]⟩,⟨#[114,101,118,101,97,108]⟩,⟨#[116,114,117,115,116]⟩,⟨#[105,102]⟩,⟨#[101,108,115,101]⟩,⟨#[119,104,105,108,101]⟩,⟨#[114,101,116,117,114,110]⟩]
theorem MQ:DT.map (fun x=>x.data.toList)=EZ:=by decide
theorem JH (x:ByteArray):Cy x=DT.any (fun y=>y.toList == x.toList):=by
 have e:∀ y:ByteArray,(y.toList == x.toList)=(x.data.toList == y.data.toList):=fun y=>by
  rw [ByteArray.toList_eq,ByteArray.toList_eq];rw [Bool.eq_iff_iff];simp only [beq_iff_eq];exact eq_comm
 unfold Cy;rw [<-MQ,List.contains_eq_any_beq,List.any_map];congr 1;funext y;exact (e y).symm
theorem MF (x:ByteArray) (w:World):Ro 113 #[.string x] w (zd (Cy x)):=by
 rw [JH];obtain ⟨fin,c⟩:=nm (DT.any (fun y=>y.toList == x.toList));rw [<-c];have B:=Aa c;clear c;obtain ⟨V,l⟩:=nm (w.alloc (ze #[.string ⟨#[97,99,116,111,114]⟩,.string ⟨#[103,114,97,110,116]⟩,.string ⟨#[115,112,101,97,107]⟩,.string ⟨#[105,110]⟩,.string ⟨#[111,117,116]⟩,.string ⟨#[118,97,114]⟩,.string ⟨#[102,117,110,99]⟩,.string ⟨#[109,97,105,110]⟩,.string ⟨#[103,101,116]⟩,.string ⟨#[112,117,116]⟩,.string ⟨#[114,101,118,101,97,108]⟩,.string ⟨#[116,114,117,115,116]⟩,.string ⟨#[105,102]⟩,.string ⟨#[101,108,115,101]⟩,.string ⟨#[119,104,105,108,101]⟩,.string ⟨#[114,101,116,117,114,110]⟩] 9));have g:Hx (Ov w V):=by show Ov _ _;rw [l];exact bA _ _
 have r:Hx (Af (DT.map Value.string) V w.heap.size):=by show Af _ _ _;rw [l];exact Ax w [.string ⟨#[97,99,116,111,114]⟩,.string ⟨#[103,114,97,110,116]⟩,.string ⟨#[115,112,101,97,107]⟩,.string ⟨#[105,110]⟩,.string ⟨#[111,117,116]⟩,.string ⟨#[118,97,114]⟩,.string ⟨#[102,117,110,99]⟩,.string ⟨#[109,97,105,110]⟩,.string ⟨#[103,101,116]⟩,.string ⟨#[112,117,116]⟩,.string ⟨#[114,101,118,101,97,108]⟩,.string ⟨#[116,114,117,115,116]⟩,.string ⟨#[105,102]⟩,.string ⟨#[101,108,115,101]⟩,.string ⟨#[119,104,105,108,101]⟩,.string ⟨#[114,101,116,117,114,110]⟩] 9
 go_enter Tryz.func113,Tryz.ntmps113;go_wp2_with fail;rw [<-l];clear l;go_loopw [4] (fun i wr=>∃ (j:Nat),j<=16/\i=I O j/\(DT.drop j).any (fun y=>y.toList == x.toList)=fin/\wr=V) (fun i _=>16 - (intOf i).toNat)
 case atStart=>exact ⟨0,Nat.zero_le _,rfl,B.o.symm,rfl⟩
 case round=>
  obtain ⟨j,C,rfl,a,rfl⟩:=hrel;by_cases hjl:j < 16
  ·have b:j < DT.length:=hjl
   have n:(j:Int) < 16:=by omega
   rw [List.drop_eq_getElem_cons b,List.any_cons] at a;have v:=r.o j (.string DT[j]) (by rw [List.getElem?_map,List.getElem?_eq_getElem b];rfl);generalize DT[j]=y at a v;generalize hq:(y.toList == x.toList)=q at a;have f:=Aa a;clear a b
   cases q with
   | true=>
    have A:Hx (fin=true):=by have h:=f.o;simp at h;exact h
    go_wp2_with fail;go_ret;exact ⟨by rw [A.o];rfl,g.o⟩
   | false=>
    have a:=f.o;rw [Bool.false_or] at a;replace f:=Aa a;clear a;go_wp2_with fail;exact ⟨⟨j+1,by omega,by go_num,f.o,by trivial⟩,by simp [intOf];omega⟩
  ·have u:DT.drop j=[]:=List.drop_eq_nil_of_le (by show 16<=j;omega)
   rw [u] at a;have f:=Aa a;have n:¬ (j:Int) < 16:=by omega
   clear a u;go_wp2_with fail;go_ret;exact ⟨by rw [<-f.o];rfl,g.o⟩
theorem CT (x:ByteArray) (w:World) (hx:x.size<=maxLen):Ro 77 #[.string x] w (zd (nmS x.data.toList)):=by
 obtain ⟨fin,a⟩:=nm (nmS x.data.toList);rw [<-a];unfold nmS at a;rw [G0] at a;obtain ⟨p,g⟩:=nm (Ao ⟨1,0,x⟩);obtain ⟨q,f⟩:=nm (Cy x);have n:Hx (fin=(p && !q)):=by show _=_;rw [a,g,f];rfl
 have KT:Hx (∀ X,Ov w X->Ro 112 #[I O 1,.string x] X (zd p)):=fun X _=>by rw [g];exact (JJ 1 0 x hx X).mono fun e A ⟨y,v⟩=>⟨y,v ▸ Below.refl _ _⟩
 have l:Hx (∀ X,Ov w X->Ro 113 #[.string x] X (zd q)):=fun X _=>by rw [f];exact MF x X
 clear a g f hx;go_enter Tryz.func77,Tryz.ntmps77;go_wp2_with fail;refine (KT.o _ (Below.refl _ _)).mono ?_;rintro e u ⟨rfl,c⟩;have b:Hx (Ov w u):=Ac (Below.refl _ _) c;clear c  KT
 cases p with
 | true=>
  go_wp2_with fail;refine (l.o _ (b.o)).mono ?_;rintro e r ⟨rfl,c⟩;have j:Hx (Ov w r):=Ac (b.o) c;clear c  l;have i:Hx (fin=!q):=by have h:=n.o;simp at h;exact h
  go_wp2_with fail;go_ret;exact ⟨by rw [i.o];(first | rfl | (simp;done) | (simp;assumption) | (simp;omega)),j.o⟩
 | false=>
  have i:Hx (fin=false):=by have h:=n.o;simp at h;exact h
  go_wp2_with fail;go_ret;exact ⟨by rw [i.o];(first | rfl | (simp;done) | (simp;assumption) | (simp;omega)),b.o⟩
theorem IE (k:Nat) (cs:List Value) (d:D) (w:World) (h:ZE w k cs d):Ro 78 #[.agg cs.toArray] w (zd (Dd d)):=by
 cases k with
 | zero=>exact h.elim
 | succ k=>
  obtain ⟨i,a,n,x,u,c,g,rfl,rfl,-,l⟩:=h;obtain ⟨fin,b⟩:=nm (Dd (eD i a n x g));rw [<-b];unfold Dd at b;simp only [gEe] at b;have A:=l.max;clear l;show Ro 78 #[zg #[I O i,I O a,I O n,.string x,zc u g.length c]] w _;by_cases h1:i=0
  ·by_cases h2:n=0
   ·by_cases h3:x.data.toList=[]
    ·have j:=Au h3
     by_cases h4:g=[]
     ·have f:Hx (fin=true):=by show _=_;rw [b,h1,h2,h3,h4];rfl
      clear b;subst h4;subst h1;subst h2;subst j;go_enter Tryz.func78,Tryz.ntmps78;go_wp2_with fail;go_ret;exact ⟨by rw [f.o];(first | rfl | (simp;done) | (simp;assumption) | (simp;omega)),bA _ _⟩
     ·have y:0 < g.length:=List.length_pos_iff.2 h4
      have v:¬ (g.length:Int)=0:=by omega
      have f:Hx (fin=false):=by show _=_;rw [b];simp [h4]
      clear b;subst h1;subst h2;subst j;go_enter Tryz.func78,Tryz.ntmps78;go_wp2_with fail;go_ret;exact ⟨by rw [f.o];(first | rfl | (simp;done) | (simp;assumption) | (simp;omega)),bA _ _⟩
    ·have r:=AA h3
     have f:Hx (fin=false):=by show _=_;rw [b,show x.data.toList.isEmpty=false by simpa using h3];simp
     clear b;subst h1;subst h2;go_enter Tryz.func78,Tryz.ntmps78;go_wp2_with fail;go_ret;exact ⟨by rw [f.o];(first | rfl | (simp;done) | (simp;assumption) | (simp;omega)),bA _ _⟩
   ·have f:Hx (fin=false):=by show _=_;rw [b];simp [h2]
    clear b;subst h1;go_enter Tryz.func78,Tryz.ntmps78;go_wp2_with fail;go_ret;exact ⟨by rw [f.o];(first | rfl | (simp;done) | (simp;assumption) | (simp;omega)),bA _ _⟩
  ·have f:Hx (fin=false):=by show _=_;rw [b];simp [h1]
   clear b;go_enter Tryz.func78,Tryz.ntmps78;go_wp2_with fail;go_ret;exact ⟨by rw [f.o];(first | rfl | (simp;done) | (simp;assumption) | (simp;omega)),bA _ _⟩
theorem GR:∀ (k:Nat) (cs:List Value) (d:D) (w:World),ZE w k cs d->Ro 79 #[.agg cs.toArray] w (zd (efK k d)):=by
 intro k
 induction k with
 | zero=>intro cs d w h;exact h.elim
 | succ k ih=>
  intro cs d w h;obtain ⟨B,a,n,x,H,c,U,rfl,rfl,W,hc⟩:=h;obtain ⟨fin,f⟩:=nm (efK (k+1) (eD B a n x U));rw [<-f];simp only [efK,gEe] at f;obtain ⟨qa,Q⟩:=nm (U.all (efK k));rw [<-Q] at f;have HL:=hc.max;show Ro 79 #[zg #[I O B,I O a,I O n,.string x,zc H U.length c]] w _;have H0:Hx (U.length=0->qa=true):=fun h=>by rw [Q,List.length_eq_zero_iff.1 h];rfl
  have H2:Hx (U.length=2->∃ b off,H=some ⟨b,off,none⟩/\∃ (x0 x1 x2:Int) (x3:ByteArray) (x4:Option Addr) (x5 x6:Nat) (y0 y1 y2:Int) (y3:ByteArray) (y4:Option Addr) (y5 y6:Nat) (p0 p1:Bool),Lz [I O x0,I O x1,I O x2,.string x3,zc x4 x5 x6,I O y0,I O y1,I O y2,.string y3,zc y4 y5 y6] w b off/\(∀ X,Ov w X->Ro 79 #[zg #[I O x0,I O x1,I O x2,.string x3,zc x4 x5 x6]] X (zd p0))/\(∀ X,Ov w X->Ro 79 #[zg #[I O y0,I O y1,I O y2,.string y3,zc y4 y5 y6]] X (zd p1))/\qa=(p0 && p1)):=fun h=>by
   match U,h with
   | [d0,d1],_=>
    obtain ⟨b,off,e1,bl,bd,P,ab⟩:=hc.at (j:=0) (by simp);obtain ⟨b',a5,e2,bk,bc,N,aa⟩:=hc.at (j:=1) (by simp);rw [e1] at e2;simp at e2;obtain ⟨rfl,rfl⟩:=e2;obtain ⟨x0,x1,x2,x3,x4,x5,x6,rfl⟩:=ab.cells;obtain ⟨y0,y1,y2,y3,y4,y5,y6,rfl⟩:=aa.cells;refine ⟨b,off,e1,x0,x1,x2,x3,x4,x5,x6,y0,y1,y2,y3,y4,y5,y6,efK k d0,efK k d1,fun j u C=>?_,fun X hX=>ih _ d0 X (ab.over hX),fun X hX=>ih _ d1 X (aa.over hX),by rw [Q];simp⟩
    match j,C with
    | 0,C=>exact P 0 u C
    | 1,C=>exact P 1 u C
    | 2,C=>exact P 2 u C
    | 3,C=>exact P 3 u C
    | 4,C=>exact P 4 u C
    | 5,C=>exact N 0 u C
    | 6,C=>exact N 1 u C
    | 7,C=>exact N 2 u C
    | 8,C=>exact N 3 u C
    | 9,C=>exact N 4 u C
    | j+10,C=>simp at C
  clear Q ih hc;generalize U.length=nn at f HL H0 H2 ⊢;by_cases hk1:B=1
  ·subst hk1
   by_cases hx0:x.data.toList=[]
   ·obtain rfl:=Au hx0
    by_cases h0:nn=0
    ·subst h0
     obtain ⟨Z,J⟩:=nm (decide (-9999999<=n) && decide (n<=9999999));have KB:Hx (∀ X,Ov w X->Ro 76 #[I O n,I O (-9999999),I O 9999999] X (zd Z)):=fun X _=>by rw [J];exact Dl n (-9999999) 9999999 X
     have E:Hx (fin=Z):=by show _=_;rw [f,J,H0.o rfl];simp [nfS]
     clear f J hx0 W;go_enter Tryz.func79,Tryz.ntmps79;go_wp2_with fail;refine (KB.o _ (bA w (ze #[I O 1,I O a,I O n,.string ⟨#[]⟩,zc H 0 c] 49))).mono ?_;rintro e S ⟨rfl,G⟩;have F:Hx (Ov w S):=Ac (bA w (ze #[I O 1,I O a,I O n,.string ⟨#[]⟩,zc H 0 c] 49)) G;have i:Hx (Af [I O 1,I O a,I O n,.string ⟨#[]⟩,zc H 0 c] S w.heap.size):=Af.over (Ax w [I O 1,I O a,I O n,.string ⟨#[]⟩,zc H 0 c] 49) G;clear G  KB;obtain ⟨A,y,v,r,l⟩:=rc5 i.o;go_wp2_with fail;go_ret;exact ⟨by rw [E.o];(first | rfl | (simp;done) | (simp;assumption) | (simp;omega)),F.o⟩
    ·have hi:¬ (nn:Int)=0:=by omega
     have E:Hx (fin=false):=by show _=_;rw [f];simp [h0]
     clear f hx0 W;go_enter Tryz.func79,Tryz.ntmps79;go_wp2_with fail;go_ret;exact ⟨by rw [E.o];(first | rfl | (simp;done) | (simp;assumption) | (simp;omega)),bA w (ze #[I O 1,I O a,I O n,.string ⟨#[]⟩,zc H nn c] 49)⟩
   ·have ay:=AA hx0
    have M:nfS x.data.toList false=false:=by unfold nfS;simpa using hx0
    have E:Hx (fin=false):=by show _=_;rw [f];simp [M]
    clear f hx0 W M;go_enter Tryz.func79,Tryz.ntmps79;go_wp2_with fail;go_ret;exact ⟨by rw [E.o];(first | rfl | (simp;done) | (simp;assumption) | (simp;omega)),bA w (ze #[I O 1,I O a,I O n,.string x,zc H nn c] 49)⟩
  by_cases hk2:B=2
  ·subst hk2
   by_cases hn0:n=0
   ·subst hn0
    by_cases h0:nn=0
    ·subst h0
     obtain ⟨Z,J⟩:=nm (nmS x.data.toList);have KB:Hx (∀ X,Ov w X->Ro 77 #[.string x] X (zd Z)):=fun X _=>by rw [J];exact CT x X W
     have E:Hx (fin=Z):=by show _=_;rw [f,J,H0.o rfl];simp [nfS]
     clear f J W;go_enter Tryz.func79,Tryz.ntmps79;go_wp2_with fail;refine (KB.o _ (bA w (ze #[I O 2,I O a,I O 0,.string x,zc H 0 c] 49))).mono ?_;rintro e S ⟨rfl,G⟩;have F:Hx (Ov w S):=Ac (bA w (ze #[I O 2,I O a,I O 0,.string x,zc H 0 c] 49)) G;have i:Hx (Af [I O 2,I O a,I O 0,.string x,zc H 0 c] S w.heap.size):=Af.over (Ax w [I O 2,I O a,I O 0,.string x,zc H 0 c] 49) G;clear G  KB;obtain ⟨A,y,v,r,l⟩:=rc5 i.o;go_wp2_with fail;go_ret;exact ⟨by rw [E.o];(first | rfl | (simp;done) | (simp;assumption) | (simp;omega)),F.o⟩
    ·have hi:¬ (nn:Int)=0:=by omega
     have E:Hx (fin=false):=by show _=_;rw [f];simp [h0]
     clear f;go_enter Tryz.func79,Tryz.ntmps79;go_wp2_with fail;go_ret;exact ⟨by rw [E.o];(first | rfl | (simp;done) | (simp;assumption) | (simp;omega)),bA w (ze #[I O 2,I O a,I O 0,.string x,zc H nn c] 49)⟩
   ·have ae:(decide (0<=n) && decide (n<=0))=false:=by simp;omega
    have E:Hx (fin=false):=by show _=_;rw [f];simp only [if_neg (show ¬ (2:Int)=1 by omega)];rw [Bool.and_assoc,Bool.and_assoc,Bool.and_assoc,Bool.and_assoc];cases hh:(decide (0<=n)) <;> simp [hh] at ae ⊢;omega
    clear f;go_enter Tryz.func79,Tryz.ntmps79;go_wp2_with fail;go_ret;exact ⟨by rw [E.o];(first | rfl | (simp;done) | (simp;assumption) | (simp;omega)),bA w (ze #[I O 2,I O a,I O n,.string x,zc H nn c] 49)⟩
  have b1:(B == 1)=false:=by simpa using hk1
  have b2:(B == 2)=false:=by simpa using hk2
  obtain ⟨qk,T⟩:=nm (decide (3<=B) && decide (B<=7));have KK:Hx (∀ X,Ov w X->Ro 76 #[I O B,I O 3,I O 7] X (zd qk)):=fun X _=>by rw [T];exact Dl B 3 7 X
  have L:fin=(qk && decide (n=0) && x.data.toList.isEmpty && decide (nn=2) && qa):=by
   rw [f,T];by_cases h37:3<=B/\B<=7
   ·have g1:decide (1<=B)=true:=by simp;omega
    have g2:decide (3<=B)=true:=by simp;omega
    have g3:decide (B<=7)=true:=by simp;omega
    have g4:decide (B=2)=false:=by simp;omega
    have g5:(decide (0<=n) && decide (n<=0))=decide (n=0):=by rw [Bool.eq_iff_iff];simp;omega
    rw [g1,g2,g3,g4,if_neg hk1,if_neg hk1,if_neg (show ¬ B<=2 by omega)];simp only [Bool.true_and];rw [g5];rfl
   ·have g:(decide (1<=B) && decide (B<=7))=false:=by simp;omega
    have g':(decide (3<=B) && decide (B<=7))=false:=by simp;omega
    rw [g,g'];simp
  have Y:=Aa L;clear f L T hk1 hk2 W;go_enter Tryz.func79,Tryz.ntmps79;go_wp2_with fail;refine (KK.o _ (bA w (ze #[I O B,I O a,I O n,.string x,zc H nn c] 49))).mono ?_;rintro e S ⟨rfl,G⟩;have F:Hx (Ov w S):=Ac (bA w (ze #[I O B,I O a,I O n,.string x,zc H nn c] 49)) G;have i:Hx (Af [I O B,I O a,I O n,.string x,zc H nn c] S w.heap.size):=Af.over (Ax w [I O B,I O a,I O n,.string x,zc H nn c] 49) G;clear G  KK
  cases qk with
  | true=>
   by_cases h1:n=0
   ·subst h1
    by_cases h2:x.data.toList=[]
    ·obtain rfl:=Au h2
     clear h2;by_cases h3:nn=2
     ·subst h3
      obtain ⟨b,off,rfl,x0,x1,x2,x3,x4,x5,x6,y0,y1,y2,y3,y4,y5,y6,p0,p1,hz,ad,ac,rfl⟩:=H2.o rfl;have ag:=Aa ad;have af:=Aa ac;have HZ:=Aa hz;clear hz ad ac;obtain ⟨z0,z1,z2,z3,z4,z5,z6,z7,z8,z9⟩:=HZ.o.ten F.o;obtain ⟨A,y,v,r,l⟩:=rc5 i.o;go_wp2_with fail;refine (ag.o _ (F.o)).mono ?_;rintro e w2 ⟨rfl,G⟩;have R:Hx (Ov w w2):=Ac (F.o) G;have K:Hx (Af [I O B,I O a,I O 0,.string ⟨#[]⟩,zc (some ⟨b,off,none⟩) 2 c] w2 w.heap.size):=i.o.over G;clear G A y v r l ag;clear z0 z1 z2 z3 z4 z5 z6 z7 z8 z9
      cases p0 with
      | true=>
       obtain ⟨z0,z1,z2,z3,z4,z5,z6,z7,z8,z9⟩:=HZ.o.ten R.o;obtain ⟨A,y,v,r,l⟩:=rc5 K.o;go_wp2_with fail;refine (af.o _ (R.o)).mono ?_;rintro e w3 ⟨rfl,G⟩;have a1:Hx (Ov w w3):=Ac (R.o) G;have V:Hx (Af [I O B,I O a,I O 0,.string ⟨#[]⟩,zc (some ⟨b,off,none⟩) 2 c] w3 w.heap.size):=K.o.over G;clear G A y v r l af;clear z0 z1 z2 z3 z4 z5 z6 z7 z8 z9;have E:Hx (fin=p1):=by have h:=Y.o;simp at h;exact h
       obtain ⟨A,y,v,r,l⟩:=rc5 V.o;go_wp2_with fail;go_ret;exact ⟨by rw [E.o];(first | rfl | (simp;done) | (simp;assumption) | (simp;omega)),a1.o⟩
      | false=>
       have E:Hx (fin=false):=by have h:=Y.o;simp at h;exact h
       obtain ⟨A,y,v,r,l⟩:=rc5 K.o;go_wp2_with fail;go_ret;exact ⟨by rw [E.o];(first | rfl | (simp;done) | (simp;assumption) | (simp;omega)),R.o⟩
     ·have hi:¬ (nn:Int)=2:=by omega
      have E:Hx (fin=false):=by have h:=Y.o;simp [h3] at h;exact h
      obtain ⟨A,y,v,r,l⟩:=rc5 i.o;go_wp2_with fail;go_ret;exact ⟨by rw [E.o];(first | rfl | (simp;done) | (simp;assumption) | (simp;omega)),F.o⟩
    ·have ay:=AA h2
     have M:x.data.toList.isEmpty=false:=by simpa using h2
     have E:Hx (fin=false):=by have h:=Y.o;rw [M] at h;simp at h;exact h
     clear M h2;obtain ⟨A,y,v,r,l⟩:=rc5 i.o;go_wp2_with fail;go_ret;exact ⟨by rw [E.o];(first | rfl | (simp;done) | (simp;assumption) | (simp;omega)),F.o⟩
   ·have E:Hx (fin=false):=by have h:=Y.o;simp [h1] at h;exact h
    obtain ⟨A,y,v,r,l⟩:=rc5 i.o;go_wp2_with fail;go_ret;exact ⟨by rw [E.o];(first | rfl | (simp;done) | (simp;assumption) | (simp;omega)),F.o⟩
  | false=>
   have E:Hx (fin=false):=by have h:=Y.o;simp at h;exact h
   obtain ⟨A,y,v,r,l⟩:=rc5 i.o;go_wp2_with fail;go_ret;exact ⟨by rw [E.o];(first | rfl | (simp;done) | (simp;assumption) | (simp;omega)),F.o⟩
theorem P0 (l:List UInt8):C8 l=true ↔ (tk l).1=2:=by
 cases l with
 | nil=>simp [C8,tk]
 | cons c m=>
  simp only [C8,tk];by_cases hL:isL c=true
  ·rw [if_pos hL]
   have:isD c=false:=by
    unfold isL at hL;unfold isD;simp at hL ⊢;omega
   simp [this]
  ·rw [if_neg hL]
   by_cases hD:isD c=true
   ·rw [if_pos hD];simp [hD]
   ·rw [if_neg hD]
    simp only [hD];split
    ·simp
    ·split <;> simp
theorem OC {ts:List Tok} (hall:ts.all Ao=true):Rt ts:=by
 have b:∀ t:Tok,Ao t=true->nmS t.text.data.toList=AN t/\C8 t.text.data.toList=decide (t.kind=2):=fun t c=>by
  obtain ⟨k,a,x⟩:=t;obtain ⟨j,i,g,f⟩:=(CU k a x).1 c;constructor
  ·unfold nmS AN Cy
   have e:(⟨x.data.toList.toArray⟩:ByteArray)=x:=(Au rfl).symm;dsimp only;rw [e];congr 1;by_cases hk:k=1
   ·subst hk
    rw [show Ao ⟨1,0,x⟩=true from (CU 1 0 x).2 ⟨j,i,g,f⟩];rfl
   ·have:Ao ⟨1,0,x⟩=false:=by
     rw [Bool.eq_false_iff];intro h;obtain ⟨_,_,l,_⟩:=(CU 1 0 x).1 h;exact hk (by omega)
    rw [this];simp [hk]
  ·dsimp only
   rw [Bool.eq_iff_iff,P0,decide_eq_true_eq];omega
 constructor <;> intro n
 ·by_cases h:n < ts.length
  ·exact (b _ (List.all_eq_true.1 hall _ (CQ h))).1
  ·have e:Ag ts n=⟨0,0,⟨#[]⟩⟩:=by simp [Ag,h]
   rw [e];decide
 ·by_cases h:n < ts.length
  ·exact (b _ (List.all_eq_true.1 hall _ (CQ h))).2
  ·have e:Ag ts n=⟨0,0,⟨#[]⟩⟩:=by simp [Ag,h]
   rw [e];decide
theorem Ma {l:List UInt8} (h:(tk l).1=2) (hl:(tk l).2=l.length):∀ c∈l,isD c=true:=by
 cases l with
 | nil=>intro c a;cases a
 | cons c m=>
  simp only [tk] at h hl;by_cases hL:isL c=true
  ·rw [if_pos hL] at h;cases h
  ·rw [if_neg hL] at h hl
   by_cases hD:isD c=true
   ·rw [if_pos hD] at hl
    exact EV hl
   ·rw [if_neg hD] at h
    split at h
    ·cases h
    ·split at h <;> cases h
theorem Pa (l:List UInt8):∀ acc:Nat,acc<=l.foldl (fun n c=>10*n+(c.toNat - 48)) acc:=by
 induction l with
 | nil=>intro acc;exact Nat.le_refl _
 | cons c l ih=>intro acc;exact Nat.le_trans (show acc<=10*acc+(c.toNat - 48) by omega) (ih _)
theorem Mv (l:List UInt8) (j:Nat) (hj:j < l.length):CF (l.take (j+1))=10*CF (l.take j)+(l[j].toNat - 48):=by
 unfold CF;rw [List.take_succ_eq_append_getElem hj,List.foldl_append];rfl
theorem LU (l:List UInt8) (j:Nat):CF (l.take j)<=CF l:=by
 have h:=Pa (l.drop j) (CF (l.take j));have e:CF l=(l.take j++l.drop j).foldl (fun n c=>10*n+(c.toNat - 48)) 0:=by rw [List.take_append_drop];rfl
 rw [e,List.foldl_append];exact h
theorem Dt (t:ByteArray) (h0:0 < t.size):C8 t.data.toList=isD t[0]:=by
 have e:t[0]=t.data.toList[0]'h0:=rfl;obtain ⟨c,m,a⟩:∃ c m,t.data.toList=c::m:=by
  cases a:t.data.toList with
  | nil=>have b:t.data.toList.length=t.size:=rfl;rw [a] at b;simp at b;omega
  | cons c m=>exact ⟨c,m,rfl⟩
 rw [e];simp only [a,C8,List.getElem_cons_zero]
section
variable {rb:Nat} {tv:Value} {ts:List Tok} {en:Nat}
theorem OA (hall:ts.all Ao=true) (s:Sg) (k:Nat):(tx ts s k).size<=6000:=by
 unfold tx;split
 ·exact Nat.zero_le _
 ·by_cases h:s.1+k < ts.length
  ·exact CI (List.all_eq_true.1 hall _ (CQ h))
  ·have e:Ag ts (s.1+k)=⟨0,0,⟨#[]⟩⟩:=by simp [Ag,h]
   rw [e];exact Nat.zero_le _
theorem Es (hall:ts.all Ao=true) (s:Sg) (w:World) (h:Sd rb tv ts en s w):Calls Tryz.prog 58 #[zf (some ⟨rb,0,none⟩)] w fun e w'=>e=zh (.string (A9 ts s).1)/\Qo rb tv ts en w s (A9 ts s).2 w':=by
 obtain ⟨t,g⟩:=nm (tx ts s 0);have KT:Hx (Ro 57 #[zf (some ⟨rb,0,none⟩),I O 0] w (.string t)):=by rw [g];exact BO 0 (by omega) s w h
 have c:t.size<=maxLen:=by rw [g];exact Nat.le_trans (OA hall s 0) (by unfold maxLen;omega)
 obtain ⟨q,i⟩:=nm (nmS t.data.toList);have n:Hx (∀ X,Ro 77 #[.string t] X (zd q)):=fun X=>by rw [i];exact CT t X c
 have x:=Aa h;have B:s.1<=6000:=Nat.le_trans h.2.1 h.2.2.1;have hr:A9 ts s=if q=true then (t,(s.1+1,s.2)) else (noS,(s.1,true)):=by unfold A9 tl Dy;rw [<-g,<-i]
 cases q with
 | true=>
  have j:s.1 < ts.length:=(I5 (ts:=ts) (s:=s) (k:=0) (by
   unfold tl;rw [<-g];intro e;rw [e,LW] at i;cases i)).2
  rw [hr,if_pos rfl];have u:=Aa j;clear hr h g i j c;go_enter Tryz.func58,Tryz.ntmps58;go_wp2_with fail;refine KT.o.mono ?_;rintro e A ⟨rfl,a⟩;have b:=Aa a;clear a KT;go_wp2_with fail;refine (n.o _).mono ?_;rintro e y ⟨rfl,a⟩;have f:=x.o.below (Ac b.o a);obtain ⟨J,H,G,F,E,C⟩:=f.cells;have l:=Aa (f.next u.o);have v:=Aa (Ad (r:=some rb) (Ac b.o a));clear a f n;go_wp2_with fail;go_ret;exact ⟨rfl,Ab v.o l.o.2,l.o.1,Nat.le_succ _⟩
 | false=>
  rw [hr,if_neg (by simp)];clear hr h g i c;go_enter Tryz.func58,Tryz.ntmps58;go_wp2_with fail;refine KT.o.mono ?_;rintro e A ⟨rfl,a⟩;have b:=Aa a;clear a KT;go_wp2_with fail;refine (n.o _).mono ?_;rintro e y ⟨rfl,a⟩;have f:=x.o.below (Ac b.o a);obtain ⟨J,H,G,F,E,C⟩:=f.cells;have l:=Aa f.fail;have v:=Aa (Ad (r:=some rb) (Ac b.o a));clear a f n;go_wp2_with fail;go_ret;exact ⟨rfl,Ab v.o l.o.2,l.o.1,Nat.le_refl _⟩
theorem Hj (hall:ts.all Ao=true) (s:Sg) (h:C8 (tl ts s 0)=true):s.1 < ts.length/\(tx ts s 0).size<=18/\CF (tl ts s 0)<=9999999/\∀ c∈tl ts s 0,isD c=true:=by
 obtain ⟨i,b⟩:=I5 (ts:=ts) (s:=s) (k:=0) (by intro e;rw [e] at h;cases h);have e:tx ts s 0=(Ag ts s.1).text:=by unfold tx;rw [if_neg (by rw [i];simp)];rfl
 unfold tl at h ⊢;rw [e] at h ⊢;have a:s.1 < ts.length:=b;have g:Ao (Ag ts s.1)=true:=List.all_eq_true.1 hall _ (CQ a);have f:(Ag ts s.1).kind=2:=by have:=(OC hall).nu s.1;rw [h] at this;simpa using this.symm
 obtain ⟨r,-,-,n⟩:=D4 g f;obtain ⟨-,-,l,j⟩:=(CU (Ag ts s.1).kind (Ag ts s.1).pos (Ag ts s.1).text).1 g;exact ⟨b,r,n,Ma (by rw [f] at l;omega) j⟩
theorem GF (hall:ts.all Ao=true) (s:Sg) (w:World) (h:Sd rb tv ts en s w):Calls Tryz.prog 103 #[zf (some ⟨rb,0,none⟩)] w fun e w'=>e=zh (I O (E7 ts s).1)/\Qo rb tv ts en w s (E7 ts s).2 w':=by
 obtain ⟨t,F⟩:=nm (tx ts s 0);have KT:Hx (Ro 57 #[zf (some ⟨rb,0,none⟩),I O 0] w (.string t)):=by rw [F];exact BO 0 (by omega) s w h
 have V:=Aa h;have aj:s.1<=6000:=Nat.le_trans h.2.1 h.2.2.1;have b:tl ts s 0=t.data.toList:=by unfold tl;rw [F]
 by_cases hq:C8 (tl ts s 0)=true
 ·have hr:E7 ts s=((CF t.data.toList:Int),(s.1+1,s.2)):=by unfold E7;rw [if_pos hq,b]
  obtain ⟨H,S,g,l⟩:=Hj hall s hq;rw [<-F] at S;rw [b] at g l hq;rw [hr];obtain ⟨nn,A⟩:=nm (CF t.data.toList);rw [<-A];have W:=Aa A;clear A;have T:0 < t.size:=by
   have e:t.data.toList.length=t.size:=rfl
   cases hl:t.data.toList with
   | nil=>rw [hl] at hq;cases hq
   | cons c m=>rw [hl] at e;simp at e;omega
  have G:(t.toList == [])=false:=by
   rw [J6];simp;intro e;rw [e] at hq;cases hq
  have n:isD t[0]=true:=by rw [<-Dt t T];exact hq
  have K:Hx (∀ X,Calls Tryz.prog 101 #[I .u8 (t[0].toNat:Int)] X fun e w'=>e=zh (zd true)/\X=w'):=fun X=>by
   have:=Bg t[0] X;rw [n] at this;exact this.mono fun e w' h=>⟨h.1,h.2.symm⟩
  have Y:=Aa H;have Z:=Aa l;have L:=Aa g;have ai:t.size<=9223372036854775807:=by omega
  clear hr h F b hq H l g n;go_enter Tryz.func103,Tryz.ntmps103;go_wp2_with fail;refine KT.o.mono ?_;rintro e N ⟨rfl,x⟩;have v:=Aa x;clear x KT;go_wp2_with fail;refine (K.o _).mono ?_;rintro e w2 ⟨rfl,rfl⟩;clear K;go_wp2_with fail;go_loopw [4,5] (fun a i wr=>∃ j:Nat,j<=t.size/\i=I O (j:Int)/\a=I O (CF (t.data.toList.take j):Int)/\N=wr) (fun _ i _=>t.size - (intOf i).toNat)
  case atStart=>exact ⟨0,Nat.zero_le _,rfl,rfl,rfl⟩
  case round=>
   obtain ⟨j,hj,rfl,rfl,rfl⟩:=hrel;by_cases hjl:j < t.size
   ·have R:(j:Int) < (t.size:Int):=by omega
    have C:t.data.toList[j]'hjl=t[j]:=rfl;have E:=Z.o t[j] (by rw [<-C];exact List.getElem_mem _);have f:=Mv t.data.toList j hjl;rw [C] at f;have Q:=LU t.data.toList (j+1);have P:=L.o;have ak:48<=t[j].toNat/\t[j].toNat<=57:=by unfold isD at E;simpa using E
    obtain ⟨n0,B⟩:=nm (CF (t.data.toList.take j));rw [<-B] at f ⊢;have U:=Aa f;have al:n0<=9999999:=by rw [B];exact Nat.le_trans (LU _ _) L.o
    clear f Q P B E C;go_wp2_with fail;refine ⟨⟨j+1,by omega,by go_num,?_,by trivial⟩,by simp [intOf];omega⟩;have f:=U.o;rw [f];go_num
   ·have R:¬ (j:Int) < (t.size:Int):=by omega
    have J:t.data.toList.take j=t.data.toList:=List.take_of_length_le (by show t.size<=j;omega);rw [J,<-W.o];have u:=V.o.below v.o;obtain ⟨c0,c1,c2,c3,f1,f3⟩:=u.cells;have y:=Aa (u.next Y.o);have M:=Aa (Ad (r:=some rb) v.o);clear u J;go_wp2_with fail;go_ret;exact ⟨rfl,Ab M.o y.o.2,y.o.1,Nat.le_succ _⟩
 ·have hr:E7 ts s=(0,(s.1,true)):=by unfold E7;rw [if_neg hq];rfl
  rw [b] at hq;rw [hr];by_cases hemp:t.data.toList=[]
  ·have G:(t.toList == [])=true:=by rw [J6];simpa using hemp
   clear hr h F b hq hemp;go_enter Tryz.func103,Tryz.ntmps103;go_wp2_with fail;refine KT.o.mono ?_;rintro e N ⟨rfl,x⟩;have u:=V.o.below x;obtain ⟨c0,c1,c2,c3,f1,f3⟩:=u.cells;have y:=Aa u.fail;have M:=Aa (Ad (r:=some rb) x);clear x u KT;go_wp2_with fail;go_ret;exact ⟨rfl,Ab M.o y.o.2,y.o.1,Nat.le_refl _⟩
  ·have G:(t.toList == [])=false:=by rw [J6];simpa using hemp
   have T:0 < t.size:=by
    have e:t.data.toList.length=t.size:=rfl;have:=List.length_pos_iff.2 hemp;omega
   have n:isD t[0]=false:=by rw [<-Dt t T];simpa using hq
   have K:Hx (∀ X,Calls Tryz.prog 101 #[I .u8 (t[0].toNat:Int)] X fun e w'=>e=zh (zd false)/\X=w'):=fun X=>by
    have:=Bg t[0] X;rw [n] at this;exact this.mono fun e w' h=>⟨h.1,h.2.symm⟩
   clear hr h F b hq hemp n;go_enter Tryz.func103,Tryz.ntmps103;go_wp2_with fail;refine KT.o.mono ?_;rintro e N ⟨rfl,x⟩;have v:=Aa x;clear x KT;go_wp2_with fail;refine (K.o _).mono ?_;rintro e w2 ⟨rfl,rfl⟩;have u:=V.o.below v.o;obtain ⟨c0,c1,c2,c3,f1,f3⟩:=u.cells;have y:=Aa u.fail;have M:=Aa (Ad (r:=some rb) v.o);clear u K;go_wp2_with fail;go_ret;exact ⟨rfl,Ab M.o y.o.2,y.o.1,Nat.le_refl _⟩
end
end Go.Proofs.YtipngnjffjajpaaGreatDoor.Tx
