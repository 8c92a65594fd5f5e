/- The document's answer: parts of expressions, names, nothing, expressions. -/
import Derived.Test.YtipngnjffjajpaaGreatDoorH24
set_option linter.unusedVariables false
set_option maxHeartbeats 8000000
set_option maxRecDepth 100000
namespace Go.Proofs.YtipngnjffjajpaaGreatDoor.Tx
open Go.RowKit
open Go.Value renaming int -> M, slice -> U, bool -> zc, pointer -> zd, agg -> zf, tuple -> zh
open Go.IntKind renaming i64 -> O
open Go.Obj renaming cells -> ze
open Go.Ending renaming returned -> zg
abbrev Jb (cs:List Value) (w:World) (b off:Nat):Prop:=∀ (j:Nat) (u:Value),cs[j]? = some u->w.cell? ⟨b,off+j,none⟩=some u
theorem Jb.ten {a0 a1 a2 a3 a4 a5 a6 a7 a8 a9:Value} {w w':World} {b off:Nat} (h:Jb [a0,a1,a2,a3,a4,a5,a6,a7,a8,a9] w b off) (hb:Ov w w'):w'.cell? ⟨b,off,none⟩=some a0/\w'.cell? ⟨b,off+1,none⟩=some a1/\w'.cell? ⟨b,off+2,none⟩=some a2/\w'.cell? ⟨b,off+3,none⟩=some a3/\w'.cell? ⟨b,off+4,none⟩=some a4/\w'.cell? ⟨b,off+5,none⟩=some a5/\w'.cell? ⟨b,off+5+1,none⟩=some a6/\w'.cell? ⟨b,off+5+2,none⟩=some a7/\w'.cell? ⟨b,off+5+3,none⟩=some a8/\w'.cell? ⟨b,off+5+4,none⟩=some a9:=
 ⟨ce1 hb (h 0 _ rfl),ce1 hb (h 1 _ rfl),ce1 hb (h 2 _ rfl),ce1 hb (h 3 _ rfl),ce1 hb (h 4 _ rfl),ce1 hb (h 5 _ rfl),ce1 hb (h 6 _ rfl),ce1 hb (h 7 _ rfl),ce1 hb (h 8 _ rfl),ce1 hb (h 9 _ rfl)⟩
theorem Hn (k:Nat) (en:Int):∀ (l:List D) (t:Int),en < t->l.foldl (fun n a=>if n<=en then n+poK k a (en - n) else n) t=t
 | [],t,h=>rfl
 | a::l,t,h=>by rw [List.foldl_cons,if_neg (by omega)];exact Hn k en l t h
theorem EU:∀ (k:Nat) (cs:List Value) (d:D) (w:World) (en:Int),ZE w k cs d->0<=en->en<=15->Ro 75 #[.agg cs.toArray,M O en] w (M O (poK k d en)):=by
 intro k
 induction k with
 | zero=>intro cs d w L h;exact h.elim
 | succ k ih=>
  intro cs d w en h L0 L1;obtain ⟨G,a,n,x,N,c,E,rfl,rfl,-,S⟩:=h;have HC:=Aa S;have IH:=Aa ih;have HL:=S.max;obtain ⟨fin,v⟩:=nm (E.foldl (fun n a=>if n<=en then n+poK k a (en - n) else n) 1);have m:poK (k+1) (eD G a n x E) en=fin:=by rw [v];rfl
  rw [m];have HF:=Aa v;obtain ⟨y,C⟩:=nm E.length;rw [<-C] at HL ⊢;have HN:=Aa C;obtain ⟨V,K⟩:=nm (w.alloc (ze #[M O G,M O a,M O n,.string x,U N y c] 49));have F:Hx (Ov w V):=by show Ov _ _;rw [K];exact bA _ _
  have T:Hx (Ae [M O G,M O a,M O n,.string x,U N y c] V w.heap.size):=by show Ae _ _ _;rw [K];exact AW w [M O G,M O a,M O n,.string x,U N y c] 49
  clear S ih m v C;show Ro 75 #[zf #[M O G,M O a,M O n,.string x,U N y c],M O en] w _;go_enter Tryz.func75,Tryz.ntmps75;go_wp2_with fail;rw [<-K];clear K;go_loopw [5,6] (fun c i wr=>∃ (j:Nat) (t:Int),j<=y/\i=M O j/\c=M O t/\0<=t/\t<=16/\(E.drop j).foldl (fun n a=>if n<=en then n+poK k a (en - n) else n) t=fin/\Ov V wr) (fun _ i _=>y - (intOf i).toNat)
  case atStart=>exact ⟨0,1,Nat.zero_le _,rfl,rfl,by omega,by omega,HF.o.symm,Below.refl _ _⟩
  case round=>
   obtain ⟨j,t,hj,rfl,rfl,t1,t2,u,A⟩:=hrel;obtain ⟨m0,m1,m2,m3,m4⟩:=rc5 (T.o.over A);by_cases hjl:j < y
   ·have g:j < E.length:=by have:=HN.o;omega
    have R:(j:Int) < (y:Int):=by omega
    by_cases ht0:t<=en
    ·obtain ⟨b,P,rfl,cs,Q,l,hr⟩:=HC.o.at g
     rw [DB g,if_pos ht0] at u;generalize E[j]=dj at u hr;have f:Ov w wr:=Ab F.o A;have hb:=GD k dj (en - t) (by omega);obtain ⟨r,B⟩:=nm (poK k dj (en - t));have Z:Hx (∀ X,Ov wr X->Ro 75 #[.agg cs.toArray,M O (en - t)] X (M O r)):=fun X hX=>by rw [B];exact IH.o cs dj X (en - t) ((hr.over f).over hX) (by omega) (by omega)
     obtain ⟨k0,k1,k2,k3,q,q1,q2,rfl⟩:=hr.cells;have d0:wr.cell? ⟨b,P+j*5,none⟩=_:=ce1 f (l 0 _ rfl);have d1:=ce1 f (l 1 _ rfl);have d2:=ce1 f (l 2 _ rfl);have d3:=ce1 f (l 3 _ rfl);have d4:=ce1 f (l 4 _ rfl);rw [<-B] at u hb;have I:=Aa u;have J:=Aa A;clear l Q hr u A g B f;go_wp2_with fail;refine (Z.o _ (Below.refl _ _)).mono ?_;rintro e w1 ⟨rfl,H⟩;have W:Hx (Ov V w1):=Ab J.o H;clear H d0 d1 d2 d3 d4 m0 m1 m2 m3 m4 Z;go_wp2_with fail;exact ⟨⟨j+1,t+r,by omega,by go_num,by go_num,by omega,by omega,I.o,W.o⟩,by simp [intOf];omega⟩
    ·rw [Hn k en _ _ (by omega)] at u
     have I:=Aa u;have J:=Aa A;clear u A g;go_wp2_with fail;go_ret;exact ⟨by rw [<-I.o];rfl,Ab F.o J.o⟩
   ·have Y:E.drop j=[]:=List.drop_eq_nil_of_le (by have:=HN.o;omega)
    rw [Y] at u;have I:=Aa u;have J:=Aa A;have R:¬ (j:Int) < (y:Int):=by omega
    clear u A Y;go_wp2_with fail;go_ret;exact ⟨by rw [<-I.o];rfl,Ab F.o J.o⟩
theorem AM (n lo hi:Int) (w:World):Ro 76 #[M O n,M O lo,M O hi] w (zc (decide (lo<=n) && decide (n<=hi))):=by
 obtain ⟨fin,a⟩:=nm (decide (lo<=n) && decide (n<=hi));rw [<-a];by_cases h1:lo<=n
 ·have b:Hx (fin=decide (n<=hi)):=by show _=_;rw [a];simp [h1]
  clear a;go_enter Tryz.func76,Tryz.ntmps76;go_wp2_with fail;go_ret;exact ⟨by rw [b.o];(first | rfl | (simp;done) | (simp;assumption) | (simp;omega)),Below.refl _ _⟩
 ·have b:Hx (fin=false):=by show _=_;rw [a];simp [h1]
  clear a;go_enter Tryz.func76,Tryz.ntmps76;go_wp2_with fail;go_ret;exact ⟨by rw [b.o];(first | rfl | (simp;done) | (simp;assumption) | (simp;omega)),Below.refl _ _⟩
def Dv:List ByteArray:=[⟨#[97,99,116,111,114]⟩,⟨#[103,114,97,110,116]⟩,⟨#[115,112,101,97,107]⟩,⟨#[105,110]⟩,⟨#[111,117,116]⟩,⟨#[118,97,114]⟩,⟨#[102,117,110,99]⟩,⟨#[109,97,105,110]⟩,⟨#[103,101,116]⟩,⟨#[112,117,116]⟩,⟨#[114,101,118,101,97,108]⟩,⟨#[116,114,117,115,116]⟩,⟨#[105,102]⟩,⟨#[101,108,115,101]⟩,⟨#[119,104,105,108,101]⟩,⟨#[114,101,116,117,114,110]⟩]
theorem Kv:Dv.map (fun x=>x.data.toList)=Gw:=by decide
theorem H7 (x:ByteArray):Cz x=Dv.any (fun y=>y.toList == x.toList):=by
 have e:∀ y:ByteArray,(y.toList == x.toList)=(x.data.toList == y.data.toList):=fun y=>by
  rw [ByteArray.toList_eq,ByteArray.toList_eq];rw [Bool.eq_iff_iff];simp only [beq_iff_eq];exact eq_comm
 unfold Cz;rw [<-Kv,List.contains_eq_any_beq,List.any_map];congr 1;funext y;exact (e y).symm
theorem J5 (x:ByteArray) (w:World):Ro 113 #[.string x] w (zc (Cz x)):=by
 rw [H7];obtain ⟨fin,c⟩:=nm (Dv.any (fun y=>y.toList == x.toList));rw [<-c];have v:=Aa c;clear c;obtain ⟨V,k⟩:=nm (w.alloc (ze #[.string ⟨#[97,99,116,111,114]⟩,.string ⟨#[103,114,97,110,116]⟩,.string ⟨#[115,112,101,97,107]⟩,.string ⟨#[105,110]⟩,.string ⟨#[111,117,116]⟩,.string ⟨#[118,97,114]⟩,.string ⟨#[102,117,110,99]⟩,.string ⟨#[109,97,105,110]⟩,.string ⟨#[103,101,116]⟩,.string ⟨#[112,117,116]⟩,.string ⟨#[114,101,118,101,97,108]⟩,.string ⟨#[116,114,117,115,116]⟩,.string ⟨#[105,102]⟩,.string ⟨#[101,108,115,101]⟩,.string ⟨#[119,104,105,108,101]⟩,.string ⟨#[114,101,116,117,114,110]⟩] 9));have g:Hx (Ov w V):=by show Ov _ _;rw [k];exact bA _ _
 have m:Hx (Ae (Dv.map Value.string) V w.heap.size):=by show Ae _ _ _;rw [k];exact AW w [.string ⟨#[97,99,116,111,114]⟩,.string ⟨#[103,114,97,110,116]⟩,.string ⟨#[115,112,101,97,107]⟩,.string ⟨#[105,110]⟩,.string ⟨#[111,117,116]⟩,.string ⟨#[118,97,114]⟩,.string ⟨#[102,117,110,99]⟩,.string ⟨#[109,97,105,110]⟩,.string ⟨#[103,101,116]⟩,.string ⟨#[112,117,116]⟩,.string ⟨#[114,101,118,101,97,108]⟩,.string ⟨#[116,114,117,115,116]⟩,.string ⟨#[105,102]⟩,.string ⟨#[101,108,115,101]⟩,.string ⟨#[119,104,105,108,101]⟩,.string ⟨#[114,101,116,117,114,110]⟩] 9
 go_enter Tryz.func113,Tryz.ntmps113;go_wp2_with fail;rw [<-k];clear k;go_loopw [4] (fun i wr=>∃ (j:Nat),j<=16/\i=M O j/\(Dv.drop j).any (fun y=>y.toList == x.toList)=fin/\wr=V) (fun i _=>16 - (intOf i).toNat)
 case atStart=>exact ⟨0,Nat.zero_le _,rfl,v.o.symm,rfl⟩
 case round=>
  obtain ⟨j,A,rfl,a,rfl⟩:=hrel;by_cases hjl:j < 16
  ·have b:j < Dv.length:=hjl
   have l:(j:Int) < 16:=by omega
   rw [List.drop_eq_getElem_cons b,List.any_cons] at a;have r:=m.o j (.string Dv[j]) (by rw [List.getElem?_map,List.getElem?_eq_getElem b];rfl);generalize Dv[j]=y at a r;generalize hq:(y.toList == x.toList)=q at a;have f:=Aa a;clear a b
   cases q with
   | true=>
    have u:Hx (fin=true):=by have h:=f.o;simp at h;exact h
    go_wp2_with fail;go_ret;exact ⟨by rw [u.o];rfl,g.o⟩
   | false=>
    have a:=f.o;rw [Bool.false_or] at a;replace f:=Aa a;clear a;go_wp2_with fail;exact ⟨⟨j+1,by omega,by go_num,f.o,by trivial⟩,by simp [intOf];omega⟩
  ·have n:Dv.drop j=[]:=List.drop_eq_nil_of_le (by show 16<=j;omega)
   rw [n] at a;have f:=Aa a;have l:¬ (j:Int) < 16:=by omega
   clear a n;go_wp2_with fail;go_ret;exact ⟨by rw [<-f.o];rfl,g.o⟩
theorem AV (x:ByteArray) (w:World) (hx:x.size<=maxLen):Ro 77 #[.string x] w (zc (nmS x.data.toList)):=by
 obtain ⟨fin,a⟩:=nm (nmS x.data.toList);rw [<-a];unfold nmS at a;rw [FZ] at a;obtain ⟨p,g⟩:=nm (An ⟨1,0,x⟩);obtain ⟨q,f⟩:=nm (Cz x);have m:Hx (fin=(p && !q)):=by show _=_;rw [a,g,f];rfl
 have l:Hx (∀ X,Ov w X->Ro 112 #[M O 1,.string x] X (zc p)):=fun X _=>by rw [g];exact (Ia 1 0 x hx X).mono fun e y ⟨v,u⟩=>⟨v,u ▸ Below.refl _ _⟩
 have k:Hx (∀ X,Ov w X->Ro 113 #[.string x] X (zc q)):=fun X _=>by rw [f];exact J5 x X
 clear a g f hx;go_enter Tryz.func77,Tryz.ntmps77;go_wp2_with fail;refine (l.o _ (Below.refl _ _)).mono ?_;rintro e r ⟨rfl,c⟩;have b:Hx (Ov w r):=Ab (Below.refl _ _) c;clear c  l
 cases p with
 | true=>
  go_wp2_with fail;refine (k.o _ (b.o)).mono ?_;rintro e n ⟨rfl,c⟩;have j:Hx (Ov w n):=Ab (b.o) c;clear c  k;have i:Hx (fin=!q):=by have h:=m.o;simp at h;exact h
  go_wp2_with fail;go_ret;exact ⟨by rw [i.o];(first | rfl | (simp;done) | (simp;assumption) | (simp;omega)),j.o⟩
 | false=>
  have i:Hx (fin=false):=by have h:=m.o;simp at h;exact h
  go_wp2_with fail;go_ret;exact ⟨by rw [i.o];(first | rfl | (simp;done) | (simp;assumption) | (simp;omega)),b.o⟩
theorem BS (k:Nat) (cs:List Value) (d:D) (w:World) (h:ZE w k cs d):Ro 78 #[.agg cs.toArray] w (zc (CT d)):=by
 cases k with
 | zero=>exact h.elim
 | succ k=>
  obtain ⟨i,a,n,x,r,c,g,rfl,rfl,-,l⟩:=h;obtain ⟨fin,b⟩:=nm (CT (eD i a n x g));rw [<-b];unfold CT at b;simp only [gEe] at b;have y:=l.max;clear l;show Ro 78 #[zf #[M O i,M O a,M O n,.string x,U r g.length c]] w _;by_cases h1:i=0
  ·by_cases h2:n=0
   ·by_cases h3:x.data.toList=[]
    ·have j:=Aq h3
     by_cases h4:g=[]
     ·have f:Hx (fin=true):=by show _=_;rw [b,h1,h2,h3,h4];rfl
      clear b;subst h4;subst h1;subst h2;subst j;go_enter Tryz.func78,Tryz.ntmps78;go_wp2_with fail;go_ret;exact ⟨by rw [f.o];(first | rfl | (simp;done) | (simp;assumption) | (simp;omega)),bA _ _⟩
     ·have v:0 < g.length:=List.length_pos_iff.2 h4
      have u:¬ (g.length:Int)=0:=by omega
      have f:Hx (fin=false):=by show _=_;rw [b];simp [h4]
      clear b;subst h1;subst h2;subst j;go_enter Tryz.func78,Tryz.ntmps78;go_wp2_with fail;go_ret;exact ⟨by rw [f.o];(first | rfl | (simp;done) | (simp;assumption) | (simp;omega)),bA _ _⟩
    ·have m:=Ax h3
     have f:Hx (fin=false):=by show _=_;rw [b,show x.data.toList.isEmpty=false by simpa using h3];simp
     clear b;subst h1;subst h2;go_enter Tryz.func78,Tryz.ntmps78;go_wp2_with fail;go_ret;exact ⟨by rw [f.o];(first | rfl | (simp;done) | (simp;assumption) | (simp;omega)),bA _ _⟩
   ·have f:Hx (fin=false):=by show _=_;rw [b];simp [h2]
    clear b;subst h1;go_enter Tryz.func78,Tryz.ntmps78;go_wp2_with fail;go_ret;exact ⟨by rw [f.o];(first | rfl | (simp;done) | (simp;assumption) | (simp;omega)),bA _ _⟩
  ·have f:Hx (fin=false):=by show _=_;rw [b];simp [h1]
   clear b;go_enter Tryz.func78,Tryz.ntmps78;go_wp2_with fail;go_ret;exact ⟨by rw [f.o];(first | rfl | (simp;done) | (simp;assumption) | (simp;omega)),bA _ _⟩
theorem Bw:∀ (k:Nat) (cs:List Value) (d:D) (w:World),ZE w k cs d->Ro 79 #[.agg cs.toArray] w (zc (efK k d)):=by
 intro k
 induction k with
 | zero=>intro cs d w h;exact h.elim
 | succ k ih=>
  intro cs d w h;obtain ⟨A,a,n,x,G,c,T,rfl,rfl,W,hc⟩:=h;obtain ⟨fin,f⟩:=nm (efK (k+1) (eD A a n x T));rw [<-f];simp only [efK,gEe] at f;obtain ⟨qa,P⟩:=nm (T.all (efK k));rw [<-P] at f;have HL:=hc.max;show Ro 79 #[zf #[M O A,M O a,M O n,.string x,U G T.length c]] w _;have H0:Hx (T.length=0->qa=true):=fun h=>by rw [P,List.length_eq_zero_iff.1 h];rfl
  have H2:Hx (T.length=2->∃ b off,G=some ⟨b,off,none⟩/\∃ (x0 x1 x2:Int) (x3:ByteArray) (x4:Option Addr) (x5 x6:Nat) (y0 y1 y2:Int) (y3:ByteArray) (y4:Option Addr) (y5 y6:Nat) (p0 p1:Bool),Jb [M O x0,M O x1,M O x2,.string x3,U x4 x5 x6,M O y0,M O y1,M O y2,.string y3,U y4 y5 y6] w b off/\(∀ X,Ov w X->Ro 79 #[zf #[M O x0,M O x1,M O x2,.string x3,U x4 x5 x6]] X (zc p0))/\(∀ X,Ov w X->Ro 79 #[zf #[M O y0,M O y1,M O y2,.string y3,U y4 y5 y6]] X (zc p1))/\qa=(p0 && p1)):=fun h=>by
   match T,h with
   | [d0,d1],_=>
    obtain ⟨b,off,e1,bl,bd,N,ab⟩:=hc.at (j:=0) (by simp);obtain ⟨b',a5,e2,bk,bc,L,aa⟩:=hc.at (j:=1) (by simp);rw [e1] at e2;simp at e2;obtain ⟨rfl,rfl⟩:=e2;obtain ⟨x0,x1,x2,x3,x4,x5,x6,rfl⟩:=ab.cells;obtain ⟨y0,y1,y2,y3,y4,y5,y6,rfl⟩:=aa.cells;refine ⟨b,off,e1,x0,x1,x2,x3,x4,x5,x6,y0,y1,y2,y3,y4,y5,y6,efK k d0,efK k d1,fun j u B=>?_,fun X hX=>ih _ d0 X (ab.over hX),fun X hX=>ih _ d1 X (aa.over hX),by rw [P];simp⟩
    match j,B with
    | 0,B=>exact N 0 u B
    | 1,B=>exact N 1 u B
    | 2,B=>exact N 2 u B
    | 3,B=>exact N 3 u B
    | 4,B=>exact N 4 u B
    | 5,B=>exact L 0 u B
    | 6,B=>exact L 1 u B
    | 7,B=>exact L 2 u B
    | 8,B=>exact L 3 u B
    | 9,B=>exact L 4 u B
    | j+10,B=>simp at B
  clear P ih hc;generalize T.length=nn at f HL H0 H2 ⊢;by_cases hk1:A=1
  ·subst hk1
   by_cases hx0:x.data.toList=[]
   ·obtain rfl:=Aq hx0
    by_cases h0:nn=0
    ·subst h0
     obtain ⟨Z,H⟩:=nm (decide (-9999999<=n) && decide (n<=9999999));have KB:Hx (∀ X,Ov w X->Ro 76 #[M O n,M O (-9999999),M O 9999999] X (zc Z)):=fun X _=>by rw [H];exact AM n (-9999999) 9999999 X
     have C:Hx (fin=Z):=by show _=_;rw [f,H,H0.o rfl];simp [nfS]
     clear f H hx0 W;go_enter Tryz.func79,Tryz.ntmps79;go_wp2_with fail;refine (KB.o _ (bA w (ze #[M O 1,M O a,M O n,.string ⟨#[]⟩,U G 0 c] 49))).mono ?_;rintro e R ⟨rfl,F⟩;have E:Hx (Ov w R):=Ab (bA w (ze #[M O 1,M O a,M O n,.string ⟨#[]⟩,U G 0 c] 49)) F;have i:Hx (Ae [M O 1,M O a,M O n,.string ⟨#[]⟩,U G 0 c] R w.heap.size):=Ae.over (AW w [M O 1,M O a,M O n,.string ⟨#[]⟩,U G 0 c] 49) F;clear F  KB;obtain ⟨y,v,r,m,l⟩:=rc5 i.o;go_wp2_with fail;go_ret;exact ⟨by rw [C.o];(first | rfl | (simp;done) | (simp;assumption) | (simp;omega)),E.o⟩
    ·have hi:¬ (nn:Int)=0:=by omega
     have C:Hx (fin=false):=by show _=_;rw [f];simp [h0]
     clear f hx0 W;go_enter Tryz.func79,Tryz.ntmps79;go_wp2_with fail;go_ret;exact ⟨by rw [C.o];(first | rfl | (simp;done) | (simp;assumption) | (simp;omega)),bA w (ze #[M O 1,M O a,M O n,.string ⟨#[]⟩,U G nn c] 49)⟩
   ·have ay:=Ax hx0
    have K:nfS x.data.toList false=false:=by unfold nfS;simpa using hx0
    have C:Hx (fin=false):=by show _=_;rw [f];simp [K]
    clear f hx0 W K;go_enter Tryz.func79,Tryz.ntmps79;go_wp2_with fail;go_ret;exact ⟨by rw [C.o];(first | rfl | (simp;done) | (simp;assumption) | (simp;omega)),bA w (ze #[M O 1,M O a,M O n,.string x,U G nn c] 49)⟩
  by_cases hk2:A=2
  ·subst hk2
   by_cases hn0:n=0
   ·subst hn0
    by_cases h0:nn=0
    ·subst h0
     obtain ⟨Z,H⟩:=nm (nmS x.data.toList);have KB:Hx (∀ X,Ov w X->Ro 77 #[.string x] X (zc Z)):=fun X _=>by rw [H];exact AV x X W
     have C:Hx (fin=Z):=by show _=_;rw [f,H,H0.o rfl];simp [nfS]
     clear f H W;go_enter Tryz.func79,Tryz.ntmps79;go_wp2_with fail;refine (KB.o _ (bA w (ze #[M O 2,M O a,M O 0,.string x,U G 0 c] 49))).mono ?_;rintro e R ⟨rfl,F⟩;have E:Hx (Ov w R):=Ab (bA w (ze #[M O 2,M O a,M O 0,.string x,U G 0 c] 49)) F;have i:Hx (Ae [M O 2,M O a,M O 0,.string x,U G 0 c] R w.heap.size):=Ae.over (AW w [M O 2,M O a,M O 0,.string x,U G 0 c] 49) F;clear F  KB;obtain ⟨y,v,r,m,l⟩:=rc5 i.o;go_wp2_with fail;go_ret;exact ⟨by rw [C.o];(first | rfl | (simp;done) | (simp;assumption) | (simp;omega)),E.o⟩
    ·have hi:¬ (nn:Int)=0:=by omega
     have C:Hx (fin=false):=by show _=_;rw [f];simp [h0]
     clear f;go_enter Tryz.func79,Tryz.ntmps79;go_wp2_with fail;go_ret;exact ⟨by rw [C.o];(first | rfl | (simp;done) | (simp;assumption) | (simp;omega)),bA w (ze #[M O 2,M O a,M O 0,.string x,U G nn c] 49)⟩
   ·have ae:(decide (0<=n) && decide (n<=0))=false:=by simp;omega
    have C:Hx (fin=false):=by show _=_;rw [f];simp only [if_neg (show ¬ (2:Int)=1 by omega)];rw [Bool.and_assoc,Bool.and_assoc,Bool.and_assoc,Bool.and_assoc];cases hh:(decide (0<=n)) <;> simp [hh] at ae ⊢;omega
    clear f;go_enter Tryz.func79,Tryz.ntmps79;go_wp2_with fail;go_ret;exact ⟨by rw [C.o];(first | rfl | (simp;done) | (simp;assumption) | (simp;omega)),bA w (ze #[M O 2,M O a,M O n,.string x,U G nn c] 49)⟩
  have b1:(A == 1)=false:=by simpa using hk1
  have b2:(A == 2)=false:=by simpa using hk2
  obtain ⟨qk,S⟩:=nm (decide (3<=A) && decide (A<=7));have KK:Hx (∀ X,Ov w X->Ro 76 #[M O A,M O 3,M O 7] X (zc qk)):=fun X _=>by rw [S];exact AM A 3 7 X
  have J:fin=(qk && decide (n=0) && x.data.toList.isEmpty && decide (nn=2) && qa):=by
   rw [f,S];by_cases h37:3<=A/\A<=7
   ·have g1:decide (1<=A)=true:=by simp;omega
    have g2:decide (3<=A)=true:=by simp;omega
    have g3:decide (A<=7)=true:=by simp;omega
    have g4:decide (A=2)=false:=by simp;omega
    have g5:(decide (0<=n) && decide (n<=0))=decide (n=0):=by rw [Bool.eq_iff_iff];simp;omega
    rw [g1,g2,g3,g4,if_neg hk1,if_neg hk1,if_neg (show ¬ A<=2 by omega)];simp only [Bool.true_and];rw [g5];rfl
   ·have g:(decide (1<=A) && decide (A<=7))=false:=by simp;omega
    have g':(decide (3<=A) && decide (A<=7))=false:=by simp;omega
    rw [g,g'];simp
  have Y:=Aa J;clear f J S hk1 hk2 W;go_enter Tryz.func79,Tryz.ntmps79;go_wp2_with fail;refine (KK.o _ (bA w (ze #[M O A,M O a,M O n,.string x,U G nn c] 49))).mono ?_;rintro e R ⟨rfl,F⟩;have E:Hx (Ov w R):=Ab (bA w (ze #[M O A,M O a,M O n,.string x,U G nn c] 49)) F;have i:Hx (Ae [M O A,M O a,M O n,.string x,U G nn c] R w.heap.size):=Ae.over (AW w [M O A,M O a,M O n,.string x,U G nn c] 49) F;clear F  KK
  cases qk with
  | true=>
   by_cases h1:n=0
   ·subst h1
    by_cases h2:x.data.toList=[]
    ·obtain rfl:=Aq h2
     clear h2;by_cases h3:nn=2
     ·subst h3
      obtain ⟨b,off,rfl,x0,x1,x2,x3,x4,x5,x6,y0,y1,y2,y3,y4,y5,y6,p0,p1,hz,ad,ac,rfl⟩:=H2.o rfl;have ag:=Aa ad;have af:=Aa ac;have HZ:=Aa hz;clear hz ad ac;obtain ⟨z0,z1,z2,z3,z4,z5,z6,z7,z8,z9⟩:=HZ.o.ten E.o;obtain ⟨y,v,r,m,l⟩:=rc5 i.o;go_wp2_with fail;refine (ag.o _ (E.o)).mono ?_;rintro e w2 ⟨rfl,F⟩;have Q:Hx (Ov w w2):=Ab (E.o) F;have I:Hx (Ae [M O A,M O a,M O 0,.string ⟨#[]⟩,U (some ⟨b,off,none⟩) 2 c] w2 w.heap.size):=i.o.over F;clear F y v r m l ag;clear z0 z1 z2 z3 z4 z5 z6 z7 z8 z9
      cases p0 with
      | true=>
       obtain ⟨z0,z1,z2,z3,z4,z5,z6,z7,z8,z9⟩:=HZ.o.ten Q.o;obtain ⟨y,v,r,m,l⟩:=rc5 I.o;go_wp2_with fail;refine (af.o _ (Q.o)).mono ?_;rintro e w3 ⟨rfl,F⟩;have a1:Hx (Ov w w3):=Ab (Q.o) F;have V:Hx (Ae [M O A,M O a,M O 0,.string ⟨#[]⟩,U (some ⟨b,off,none⟩) 2 c] w3 w.heap.size):=I.o.over F;clear F y v r m l af;clear z0 z1 z2 z3 z4 z5 z6 z7 z8 z9;have C:Hx (fin=p1):=by have h:=Y.o;simp at h;exact h
       obtain ⟨y,v,r,m,l⟩:=rc5 V.o;go_wp2_with fail;go_ret;exact ⟨by rw [C.o];(first | rfl | (simp;done) | (simp;assumption) | (simp;omega)),a1.o⟩
      | false=>
       have C:Hx (fin=false):=by have h:=Y.o;simp at h;exact h
       obtain ⟨y,v,r,m,l⟩:=rc5 I.o;go_wp2_with fail;go_ret;exact ⟨by rw [C.o];(first | rfl | (simp;done) | (simp;assumption) | (simp;omega)),Q.o⟩
     ·have hi:¬ (nn:Int)=2:=by omega
      have C:Hx (fin=false):=by have h:=Y.o;simp [h3] at h;exact h
      obtain ⟨y,v,r,m,l⟩:=rc5 i.o;go_wp2_with fail;go_ret;exact ⟨by rw [C.o];(first | rfl | (simp;done) | (simp;assumption) | (simp;omega)),E.o⟩
    ·have ay:=Ax h2
     have K:x.data.toList.isEmpty=false:=by simpa using h2
     have C:Hx (fin=false):=by have h:=Y.o;rw [K] at h;simp at h;exact h
     clear K h2;obtain ⟨y,v,r,m,l⟩:=rc5 i.o;go_wp2_with fail;go_ret;exact ⟨by rw [C.o];(first | rfl | (simp;done) | (simp;assumption) | (simp;omega)),E.o⟩
   ·have C:Hx (fin=false):=by have h:=Y.o;simp [h1] at h;exact h
    obtain ⟨y,v,r,m,l⟩:=rc5 i.o;go_wp2_with fail;go_ret;exact ⟨by rw [C.o];(first | rfl | (simp;done) | (simp;assumption) | (simp;omega)),E.o⟩
  | false=>
   have C:Hx (fin=false):=by have h:=Y.o;simp at h;exact h
   obtain ⟨y,v,r,m,l⟩:=rc5 i.o;go_wp2_with fail;go_ret;exact ⟨by rw [C.o];(first | rfl | (simp;done) | (simp;assumption) | (simp;omega)),E.o⟩
end Go.Proofs.YtipngnjffjajpaaGreatDoor.Tx
