/- The document's answer: parts of expressions, names, nothing, expressions. -/
import Derived.Test.YtipngnjffjajpaaGreatDoorI06
set_option linter.unusedVariables false
set_option maxHeartbeats 8000000
set_option maxRecDepth 100000
namespace Go.Proofs.YtipngnjffjajpaaGreatDoor.Tx
open Go.RowKit
open Go.Value renaming int -> A, slice -> O, bool -> zc, agg -> ze, pointer -> zf, tuple -> zh
open Go.IntKind renaming i64 -> J
open Go.Obj renaming cells -> zd
open Go.Ending renaming returned -> zg
abbrev Ds (cs:List Value) (w:World) (b off:Nat):Prop:=∀ (j:Nat) (u:Value),cs[j]? = some u->w.cell? ⟨b,off+j,none⟩=some u
theorem Ds.ten {a0 a1 a2 a3 a4 a5 a6 a7 a8 a9:Value} {w w':World} {b off:Nat} (h:Ds [a0,a1,a2,a3,a4,a5,a6,a7,a8,a9] w b off) (hb:Ov w w'):w'.cell? ⟨b,off,none⟩=some a0/\w'.cell? ⟨b,off+1,none⟩=some a1/\w'.cell? ⟨b,off+2,none⟩=some a2/\w'.cell? ⟨b,off+3,none⟩=some a3/\w'.cell? ⟨b,off+4,none⟩=some a4/\w'.cell? ⟨b,off+5,none⟩=some a5/\w'.cell? ⟨b,off+5+1,none⟩=some a6/\w'.cell? ⟨b,off+5+2,none⟩=some a7/\w'.cell? ⟨b,off+5+3,none⟩=some a8/\w'.cell? ⟨b,off+5+4,none⟩=some a9:=
 ⟨ce1 hb (h 0 _ rfl),ce1 hb (h 1 _ rfl),ce1 hb (h 2 _ rfl),ce1 hb (h 3 _ rfl),ce1 hb (h 4 _ rfl),ce1 hb (h 5 _ rfl),ce1 hb (h 6 _ rfl),ce1 hb (h 7 _ rfl),ce1 hb (h 8 _ rfl),ce1 hb (h 9 _ rfl)⟩
theorem Il (k:Nat) (en:Int):∀ (l:List D) (t:Int),en < t->l.foldl (fun n a=>if n<=en then n+poK k a (en - n) else n) t=t
 | [],t,h=>rfl
 | a::l,t,h=>by rw [List.foldl_cons,if_neg (by omega)];exact Il k en l t h
theorem E4:∀ (k:Nat) (cs:List Value) (d:D) (w:World) (en:Int),ZE w k cs d->0<=en->en<=15->Ro 75 #[.agg cs.toArray,A J en] w (A J (poK k d en)):=by
 intro k
 induction k with
 | zero=>intro cs d w L h;exact h.elim
 | succ k ih=>
  intro cs d w en h L0 L1;obtain ⟨I,a,n,x,R,c,G,rfl,rfl,-,W⟩:=h;have HC:=Aa W;have IH:=Aa ih;have HL:=W.max;obtain ⟨M,y⟩:=nm (G.foldl (fun n a=>if n<=en then n+poK k a (en - n) else n) 1);have u:poK (k+1) (eD I a n x G) en=M:=by rw [y];rfl
  rw [u];have HF:=Aa y;obtain ⟨B,F⟩:=nm G.length;rw [<-F] at HL ⊢;have HN:=Aa F;obtain ⟨V,Q⟩:=nm (w.alloc (zd #[A J I,A J a,A J n,.string x,O R B c] 49));have H:Hx (Ov w V):=by show Ov _ _;rw [Q];exact bA _ _
  have Y:Hx (Ac [A J I,A J a,A J n,.string x,O R B c] V w.heap.size):=by show Ac _ _ _;rw [Q];exact Ai w [A J I,A J a,A J n,.string x,O R B c] 49
  clear W ih u y F;show Ro 75 #[ze #[A J I,A J a,A J n,.string x,O R B c],A J en] w _;go_enter Tryz.func75,Tryz.ntmps75;go_wp2_with fail;rw [<-Q];clear Q;go_loopw [5,6] (fun c i wr=>∃ (j:Nat) (t:Int),j<=B/\i=A J j/\c=A J t/\0<=t/\t<=16/\(G.drop j).foldl (fun n a=>if n<=en then n+poK k a (en - n) else n) t=M/\Ov V wr) (fun _ i _=>B - (intOf i).toNat)
  case atStart=>exact ⟨0,1,Nat.zero_le _,rfl,rfl,by omega,by omega,HF.o.symm,Below.refl _ _⟩
  case round=>
   obtain ⟨j,t,hj,rfl,rfl,t1,t2,v,C⟩:=hrel;obtain ⟨m0,m1,m2,m3,m4⟩:=rc5 (Y.o.over C);by_cases hjl:j < B
   ·have g:j < G.length:=by have:=HN.o;omega
    have U:(j:Int) < (B:Int):=by omega
    by_cases ht0:t<=en
    ·obtain ⟨b,S,rfl,cs,T,l,hr⟩:=HC.o.at g
     rw [Dr g,if_pos ht0] at v;generalize G[j]=dj at v hr;have f:Ov w wr:=Ab H.o C;have hb:=GV k dj (en - t) (by omega);obtain ⟨r,E⟩:=nm (poK k dj (en - t));have KC:Hx (∀ X,Ov wr X->Ro 75 #[.agg cs.toArray,A J (en - t)] X (A J r)):=fun X hX=>by rw [E];exact IH.o cs dj X (en - t) ((hr.over f).over hX) (by omega) (by omega)
     obtain ⟨k0,k1,k2,k3,q,q1,q2,rfl⟩:=hr.cells;have d0:wr.cell? ⟨b,S+j*5,none⟩=_:=ce1 f (l 0 _ rfl);have d1:=ce1 f (l 1 _ rfl);have d2:=ce1 f (l 2 _ rfl);have d3:=ce1 f (l 3 _ rfl);have d4:=ce1 f (l 4 _ rfl);rw [<-E] at v hb;have N:=Aa v;have P:=Aa C;clear l T hr v C g E f;go_wp2_with fail;refine (KC.o _ (Below.refl _ _)).mono ?_;rintro e w1 ⟨rfl,K⟩;have Z:Hx (Ov V w1):=Ab P.o K;clear K d0 d1 d2 d3 d4 m0 m1 m2 m3 m4 KC;go_wp2_with fail;exact ⟨⟨j+1,t+r,by omega,by go_num,by go_num,by omega,by omega,N.o,Z.o⟩,by simp [intOf];omega⟩
    ·rw [Il k en _ _ (by omega)] at v
     have N:=Aa v;have P:=Aa C;clear v C g;go_wp2_with fail;go_ret;exact ⟨by rw [<-N.o];rfl,Ab H.o P.o⟩
   ·have hd:G.drop j=[]:=List.drop_eq_nil_of_le (by have:=HN.o;omega)
    rw [hd] at v;have N:=Aa v;have P:=Aa C;have U:¬ (j:Int) < (B:Int):=by omega
    clear v C hd;go_wp2_with fail;go_ret;exact ⟨by rw [<-N.o];rfl,Ab H.o P.o⟩
theorem AB (n lo hi:Int) (w:World):Ro 76 #[A J n,A J lo,A J hi] w (zc (decide (lo<=n) && decide (n<=hi))):=by
 obtain ⟨b,a⟩:=nm (decide (lo<=n) && decide (n<=hi));rw [<-a];by_cases h1:lo<=n
 ·have c:Hx (b=decide (n<=hi)):=by show _=_;rw [a];simp [h1]
  clear a;go_enter Tryz.func76,Tryz.ntmps76;go_wp2_with fail;go_ret;exact ⟨by rw [c.o];(first | rfl | (simp;done) | (simp;assumption) | (simp;omega)),Below.refl _ _⟩
 ·have c:Hx (b=false):=by show _=_;rw [a];simp [h1]
  clear a;go_enter Tryz.func76,Tryz.ntmps76;go_wp2_with fail;go_ret;exact ⟨by rw [c.o];(first | rfl | (simp;done) | (simp;assumption) | (simp;omega)),Below.refl _ _⟩
def Dh:List ByteArray:=[⟨#[97,99,116,111,114]⟩,⟨#[103,114,97,110,116]⟩,⟨#[115,112,101,97,107]⟩,⟨#[105,110]⟩,⟨#[111,117,116]⟩,⟨#[118,97,114]⟩,⟨#[102,117,110,99]⟩,⟨#[109,97,105,110]⟩,⟨#[103,101,116]⟩,⟨#[112,117,116]⟩,⟨#[114,101,118,101,97,108]⟩,⟨#[116,114,117,115,116]⟩,⟨#[105,102]⟩,⟨#[101,108,115,101]⟩,⟨#[119,104,105,108,101]⟩,⟨#[114,101,116,117,114,110]⟩]
theorem Ls:Dh.map (fun x=>x.data.toList)=FA:=by decide
theorem Iz (x:ByteArray):CD x=Dh.any (fun y=>y.toList == x.toList):=by
 have e:∀ y:ByteArray,(y.toList == x.toList)=(x.data.toList == y.data.toList):=fun y=>by
  rw [ByteArray.toList_eq,ByteArray.toList_eq];rw [Bool.eq_iff_iff];simp only [beq_iff_eq];exact eq_comm
 unfold CD;rw [<-Ls,List.contains_eq_any_beq,List.any_map];congr 1;funext y;exact (e y).symm
theorem Ky (x:ByteArray) (w:World):Ro 113 #[.string x] w (zc (CD x)):=by
 rw [Iz];obtain ⟨g,c⟩:=nm (Dh.any (fun y=>y.toList == x.toList));rw [<-c];have C:=Aa c;clear c;obtain ⟨V,n⟩:=nm (w.alloc (zd #[.string ⟨#[97,99,116,111,114]⟩,.string ⟨#[103,114,97,110,116]⟩,.string ⟨#[115,112,101,97,107]⟩,.string ⟨#[105,110]⟩,.string ⟨#[111,117,116]⟩,.string ⟨#[118,97,114]⟩,.string ⟨#[102,117,110,99]⟩,.string ⟨#[109,97,105,110]⟩,.string ⟨#[103,101,116]⟩,.string ⟨#[112,117,116]⟩,.string ⟨#[114,101,118,101,97,108]⟩,.string ⟨#[116,114,117,115,116]⟩,.string ⟨#[105,102]⟩,.string ⟨#[101,108,115,101]⟩,.string ⟨#[119,104,105,108,101]⟩,.string ⟨#[114,101,116,117,114,110]⟩] 9));have l:Hx (Ov w V):=by show Ov _ _;rw [n];exact bA _ _
 have t:Hx (Ac (Dh.map Value.string) V w.heap.size):=by show Ac _ _ _;rw [n];exact Ai w [.string ⟨#[97,99,116,111,114]⟩,.string ⟨#[103,114,97,110,116]⟩,.string ⟨#[115,112,101,97,107]⟩,.string ⟨#[105,110]⟩,.string ⟨#[111,117,116]⟩,.string ⟨#[118,97,114]⟩,.string ⟨#[102,117,110,99]⟩,.string ⟨#[109,97,105,110]⟩,.string ⟨#[103,101,116]⟩,.string ⟨#[112,117,116]⟩,.string ⟨#[114,101,118,101,97,108]⟩,.string ⟨#[116,114,117,115,116]⟩,.string ⟨#[105,102]⟩,.string ⟨#[101,108,115,101]⟩,.string ⟨#[119,104,105,108,101]⟩,.string ⟨#[114,101,116,117,114,110]⟩] 9
 go_enter Tryz.func113,Tryz.ntmps113;go_wp2_with fail;rw [<-n];clear n;go_loopw [4] (fun i wr=>∃ (j:Nat),j<=16/\i=A J j/\(Dh.drop j).any (fun y=>y.toList == x.toList)=g/\wr=V) (fun i _=>16 - (intOf i).toNat)
 case atStart=>exact ⟨0,Nat.zero_le _,rfl,C.o.symm,rfl⟩
 case round=>
  obtain ⟨j,E,rfl,a,rfl⟩:=hrel;by_cases hjl:j < 16
  ·have b:j < Dh.length:=hjl
   have r:(j:Int) < 16:=by omega
   rw [List.drop_eq_getElem_cons b,List.any_cons] at a;have v:=t.o j (.string Dh[j]) (by rw [List.getElem?_map,List.getElem?_eq_getElem b];rfl);generalize Dh[j]=y at a v;generalize hq:(y.toList == x.toList)=q at a;have f:=Aa a;clear a b
   cases q with
   | true=>
    have B:Hx (g=true):=by have h:=f.o;simp at h;exact h
    go_wp2_with fail;go_ret;exact ⟨by rw [B.o];rfl,l.o⟩
   | false=>
    have a:=f.o;rw [Bool.false_or] at a;replace f:=Aa a;clear a;go_wp2_with fail;exact ⟨⟨j+1,by omega,by go_num,f.o,by trivial⟩,by simp [intOf];omega⟩
  ·have u:Dh.drop j=[]:=List.drop_eq_nil_of_le (by show 16<=j;omega)
   rw [u] at a;have f:=Aa a;have r:¬ (j:Int) < 16:=by omega
   clear a u;go_wp2_with fail;go_ret;exact ⟨by rw [<-f.o];rfl,l.o⟩
theorem AG (x:ByteArray) (w:World) (hx:x.size<=maxLen):Ro 77 #[.string x] w (zc (nmS x.data.toList)):=by
 obtain ⟨b,a⟩:=nm (nmS x.data.toList);rw [<-a];unfold nmS at a;rw [F9] at a;obtain ⟨p,i⟩:=nm (Ak ⟨1,0,x⟩);obtain ⟨q,g⟩:=nm (CD x);have r:Hx (b=(p && !q)):=by show _=_;rw [a,i,g];rfl
 have KT:Hx (∀ X,Ov w X->Ro 112 #[A J 1,.string x] X (zc p)):=fun X _=>by rw [i];exact (IB 1 0 x hx X).mono fun e B ⟨y,v⟩=>⟨y,v ▸ Below.refl _ _⟩
 have n:Hx (∀ X,Ov w X->Ro 113 #[.string x] X (zc q)):=fun X _=>by rw [g];exact Ky x X
 clear a i g hx;go_enter Tryz.func77,Tryz.ntmps77;go_wp2_with fail;refine (KT.o _ (Below.refl _ _)).mono ?_;rintro e u ⟨rfl,f⟩;have c:Hx (Ov w u):=Ab (Below.refl _ _) f;clear f  KT
 cases p with
 | true=>
  go_wp2_with fail;refine (n.o _ (c.o)).mono ?_;rintro e t ⟨rfl,f⟩;have l:Hx (Ov w t):=Ab (c.o) f;clear f  n;have j:Hx (b=!q):=by have h:=r.o;simp at h;exact h
  go_wp2_with fail;go_ret;exact ⟨by rw [j.o];(first | rfl | (simp;done) | (simp;assumption) | (simp;omega)),l.o⟩
 | false=>
  have j:Hx (b=false):=by have h:=r.o;simp at h;exact h
  go_wp2_with fail;go_ret;exact ⟨by rw [j.o];(first | rfl | (simp;done) | (simp;assumption) | (simp;omega)),c.o⟩
theorem Bw (k:Nat) (cs:List Value) (d:D) (w:World) (h:ZE w k cs d):Ro 78 #[.agg cs.toArray] w (zc (BX d)):=by
 cases k with
 | zero=>exact h.elim
 | succ k=>
  obtain ⟨j,a,n,x,t,c,i,rfl,rfl,-,q⟩:=h;obtain ⟨f,b⟩:=nm (BX (eD j a n x i));rw [<-b];unfold BX at b;simp only [gEe] at b;have y:=q.max;clear q;show Ro 78 #[ze #[A J j,A J a,A J n,.string x,O t i.length c]] w _;by_cases h1:j=0
  ·by_cases h2:n=0
   ·by_cases h3:x.data.toList=[]
    ·have l:=Aj h3
     by_cases h4:i=[]
     ·have g:Hx (f=true):=by show _=_;rw [b,h1,h2,h3,h4];rfl
      clear b;subst h4;subst h1;subst h2;subst l;go_enter Tryz.func78,Tryz.ntmps78;go_wp2_with fail;go_ret;exact ⟨by rw [g.o];(first | rfl | (simp;done) | (simp;assumption) | (simp;omega)),bA _ _⟩
     ·have v:0 < i.length:=List.length_pos_iff.2 h4
      have u:¬ (i.length:Int)=0:=by omega
      have g:Hx (f=false):=by show _=_;rw [b];simp [h4]
      clear b;subst h1;subst h2;subst l;go_enter Tryz.func78,Tryz.ntmps78;go_wp2_with fail;go_ret;exact ⟨by rw [g.o];(first | rfl | (simp;done) | (simp;assumption) | (simp;omega)),bA _ _⟩
    ·have r:=Aq h3
     have g:Hx (f=false):=by show _=_;rw [b,show x.data.toList.isEmpty=false by simpa using h3];simp
     clear b;subst h1;subst h2;go_enter Tryz.func78,Tryz.ntmps78;go_wp2_with fail;go_ret;exact ⟨by rw [g.o];(first | rfl | (simp;done) | (simp;assumption) | (simp;omega)),bA _ _⟩
   ·have g:Hx (f=false):=by show _=_;rw [b];simp [h2]
    clear b;subst h1;go_enter Tryz.func78,Tryz.ntmps78;go_wp2_with fail;go_ret;exact ⟨by rw [g.o];(first | rfl | (simp;done) | (simp;assumption) | (simp;omega)),bA _ _⟩
  ·have g:Hx (f=false):=by show _=_;rw [b];simp [h1]
   clear b;go_enter Tryz.func78,Tryz.ntmps78;go_wp2_with fail;go_ret;exact ⟨by rw [g.o];(first | rfl | (simp;done) | (simp;assumption) | (simp;omega)),bA _ _⟩
theorem Bk:∀ (k:Nat) (cs:List Value) (d:D) (w:World),ZE w k cs d->Ro 79 #[.agg cs.toArray] w (zc (efK k d)):=by
 intro k
 induction k with
 | zero=>intro cs d w h;exact h.elim
 | succ k ih=>
  intro cs d w h;obtain ⟨y,a,n,x,H,c,U,rfl,rfl,W,hc⟩:=h;obtain ⟨B,f⟩:=nm (efK (k+1) (eD y a n x U));rw [<-f];simp only [efK,gEe] at f;obtain ⟨qa,Q⟩:=nm (U.all (efK k));rw [<-Q] at f;have HL:=hc.max;show Ro 79 #[ze #[A J y,A J a,A J n,.string x,O H U.length c]] w _;have H0:Hx (U.length=0->qa=true):=fun h=>by rw [Q,List.length_eq_zero_iff.1 h];rfl
  have H2:Hx (U.length=2->∃ b off,H=some ⟨b,off,none⟩/\∃ (x0 x1 x2:Int) (x3:ByteArray) (x4:Option Addr) (x5 x6:Nat) (y0 y1 y2:Int) (y3:ByteArray) (y4:Option Addr) (y5 y6:Nat) (p0 p1:Bool),Ds [A J x0,A J x1,A J x2,.string x3,O x4 x5 x6,A J y0,A J y1,A J y2,.string y3,O y4 y5 y6] w b off/\(∀ X,Ov w X->Ro 79 #[ze #[A J x0,A J x1,A J x2,.string x3,O x4 x5 x6]] X (zc p0))/\(∀ X,Ov w X->Ro 79 #[ze #[A J y0,A J y1,A J y2,.string y3,O y4 y5 y6]] X (zc p1))/\qa=(p0 && p1)):=fun h=>by
   match U,h with
   | [d0,d1],_=>
    obtain ⟨b,off,e1,bl,bd,P,ab⟩:=hc.at (j:=0) (by simp);obtain ⟨b',a5,e2,bk,bc,N,aa⟩:=hc.at (j:=1) (by simp);rw [e1] at e2;simp at e2;obtain ⟨rfl,rfl⟩:=e2;obtain ⟨x0,x1,x2,x3,x4,x5,x6,rfl⟩:=ab.cells;obtain ⟨y0,y1,y2,y3,y4,y5,y6,rfl⟩:=aa.cells;refine ⟨b,off,e1,x0,x1,x2,x3,x4,x5,x6,y0,y1,y2,y3,y4,y5,y6,efK k d0,efK k d1,fun j u C=>?_,fun X hX=>ih _ d0 X (ab.over hX),fun X hX=>ih _ d1 X (aa.over hX),by rw [Q];simp⟩
    match j,C with
    | 0,C=>exact P 0 u C
    | 1,C=>exact P 1 u C
    | 2,C=>exact P 2 u C
    | 3,C=>exact P 3 u C
    | 4,C=>exact P 4 u C
    | 5,C=>exact N 0 u C
    | 6,C=>exact N 1 u C
    | 7,C=>exact N 2 u C
    | 8,C=>exact N 3 u C
    | 9,C=>exact N 4 u C
    | j+10,C=>simp at C
  clear Q ih hc;generalize U.length=nn at f HL H0 H2 ⊢;by_cases hk1:y=1
  ·subst hk1
   by_cases hx0:x.data.toList=[]
   ·obtain rfl:=Aj hx0
    by_cases h0:nn=0
    ·subst h0
     obtain ⟨Z,I⟩:=nm (decide (-9999999<=n) && decide (n<=9999999));have KB:Hx (∀ X,Ov w X->Ro 76 #[A J n,A J (-9999999),A J 9999999] X (zc Z)):=fun X _=>by rw [I];exact AB n (-9999999) 9999999 X
     have E:Hx (B=Z):=by show _=_;rw [f,I,H0.o rfl];simp [nfS]
     clear f I hx0 W;go_enter Tryz.func79,Tryz.ntmps79;go_wp2_with fail;refine (KB.o _ (bA w (zd #[A J 1,A J a,A J n,.string ⟨#[]⟩,O H 0 c] 49))).mono ?_;rintro e S ⟨rfl,G⟩;have F:Hx (Ov w S):=Ab (bA w (zd #[A J 1,A J a,A J n,.string ⟨#[]⟩,O H 0 c] 49)) G;have i:Hx (Ac [A J 1,A J a,A J n,.string ⟨#[]⟩,O H 0 c] S w.heap.size):=Ac.over (Ai w [A J 1,A J a,A J n,.string ⟨#[]⟩,O H 0 c] 49) G;clear G  KB;obtain ⟨v,t,r,q,l⟩:=rc5 i.o;go_wp2_with fail;go_ret;exact ⟨by rw [E.o];(first | rfl | (simp;done) | (simp;assumption) | (simp;omega)),F.o⟩
    ·have hi:¬ (nn:Int)=0:=by omega
     have E:Hx (B=false):=by show _=_;rw [f];simp [h0]
     clear f hx0 W;go_enter Tryz.func79,Tryz.ntmps79;go_wp2_with fail;go_ret;exact ⟨by rw [E.o];(first | rfl | (simp;done) | (simp;assumption) | (simp;omega)),bA w (zd #[A J 1,A J a,A J n,.string ⟨#[]⟩,O H nn c] 49)⟩
   ·have ay:=Aq hx0
    have M:nfS x.data.toList false=false:=by unfold nfS;simpa using hx0
    have E:Hx (B=false):=by show _=_;rw [f];simp [M]
    clear f hx0 W M;go_enter Tryz.func79,Tryz.ntmps79;go_wp2_with fail;go_ret;exact ⟨by rw [E.o];(first | rfl | (simp;done) | (simp;assumption) | (simp;omega)),bA w (zd #[A J 1,A J a,A J n,.string x,O H nn c] 49)⟩
  by_cases hk2:y=2
  ·subst hk2
   by_cases hn0:n=0
   ·subst hn0
    by_cases h0:nn=0
    ·subst h0
     obtain ⟨Z,I⟩:=nm (nmS x.data.toList);have KB:Hx (∀ X,Ov w X->Ro 77 #[.string x] X (zc Z)):=fun X _=>by rw [I];exact AG x X W
     have E:Hx (B=Z):=by show _=_;rw [f,I,H0.o rfl];simp [nfS]
     clear f I W;go_enter Tryz.func79,Tryz.ntmps79;go_wp2_with fail;refine (KB.o _ (bA w (zd #[A J 2,A J a,A J 0,.string x,O H 0 c] 49))).mono ?_;rintro e S ⟨rfl,G⟩;have F:Hx (Ov w S):=Ab (bA w (zd #[A J 2,A J a,A J 0,.string x,O H 0 c] 49)) G;have i:Hx (Ac [A J 2,A J a,A J 0,.string x,O H 0 c] S w.heap.size):=Ac.over (Ai w [A J 2,A J a,A J 0,.string x,O H 0 c] 49) G;clear G  KB;obtain ⟨v,t,r,q,l⟩:=rc5 i.o;go_wp2_with fail;go_ret;exact ⟨by rw [E.o];(first | rfl | (simp;done) | (simp;assumption) | (simp;omega)),F.o⟩
    ·have hi:¬ (nn:Int)=0:=by omega
     have E:Hx (B=false):=by show _=_;rw [f];simp [h0]
     clear f;go_enter Tryz.func79,Tryz.ntmps79;go_wp2_with fail;go_ret;exact ⟨by rw [E.o];(first | rfl | (simp;done) | (simp;assumption) | (simp;omega)),bA w (zd #[A J 2,A J a,A J 0,.string x,O H nn c] 49)⟩
   ·have ae:(decide (0<=n) && decide (n<=0))=false:=by simp;omega
    have E:Hx (B=false):=by show _=_;rw [f];simp only [if_neg (show ¬ (2:Int)=1 by omega)];rw [Bool.and_assoc,Bool.and_assoc,Bool.and_assoc,Bool.and_assoc];cases hh:(decide (0<=n)) <;> simp [hh] at ae ⊢;omega
    clear f;go_enter Tryz.func79,Tryz.ntmps79;go_wp2_with fail;go_ret;exact ⟨by rw [E.o];(first | rfl | (simp;done) | (simp;assumption) | (simp;omega)),bA w (zd #[A J 2,A J a,A J n,.string x,O H nn c] 49)⟩
  have b1:(y == 1)=false:=by simpa using hk1
  have b2:(y == 2)=false:=by simpa using hk2
  obtain ⟨qk,T⟩:=nm (decide (3<=y) && decide (y<=7));have KK:Hx (∀ X,Ov w X->Ro 76 #[A J y,A J 3,A J 7] X (zc qk)):=fun X _=>by rw [T];exact AB y 3 7 X
  have L:B=(qk && decide (n=0) && x.data.toList.isEmpty && decide (nn=2) && qa):=by
   rw [f,T];by_cases h37:3<=y/\y<=7
   ·have g1:decide (1<=y)=true:=by simp;omega
    have g2:decide (3<=y)=true:=by simp;omega
    have g3:decide (y<=7)=true:=by simp;omega
    have g4:decide (y=2)=false:=by simp;omega
    have g5:(decide (0<=n) && decide (n<=0))=decide (n=0):=by rw [Bool.eq_iff_iff];simp;omega
    rw [g1,g2,g3,g4,if_neg hk1,if_neg hk1,if_neg (show ¬ y<=2 by omega)];simp only [Bool.true_and];rw [g5];rfl
   ·have g:(decide (1<=y) && decide (y<=7))=false:=by simp;omega
    have g':(decide (3<=y) && decide (y<=7))=false:=by simp;omega
    rw [g,g'];simp
  have Y:=Aa L;clear f L T hk1 hk2 W;go_enter Tryz.func79,Tryz.ntmps79;go_wp2_with fail;refine (KK.o _ (bA w (zd #[A J y,A J a,A J n,.string x,O H nn c] 49))).mono ?_;rintro e S ⟨rfl,G⟩;have F:Hx (Ov w S):=Ab (bA w (zd #[A J y,A J a,A J n,.string x,O H nn c] 49)) G;have i:Hx (Ac [A J y,A J a,A J n,.string x,O H nn c] S w.heap.size):=Ac.over (Ai w [A J y,A J a,A J n,.string x,O H nn c] 49) G;clear G  KK
  cases qk with
  | true=>
   by_cases h1:n=0
   ·subst h1
    by_cases h2:x.data.toList=[]
    ·obtain rfl:=Aj h2
     clear h2;by_cases h3:nn=2
     ·subst h3
      obtain ⟨b,off,rfl,x0,x1,x2,x3,x4,x5,x6,y0,y1,y2,y3,y4,y5,y6,p0,p1,hz,ad,ac,rfl⟩:=H2.o rfl;have ag:=Aa ad;have af:=Aa ac;have HZ:=Aa hz;clear hz ad ac;obtain ⟨z0,z1,z2,z3,z4,z5,z6,z7,z8,z9⟩:=HZ.o.ten F.o;obtain ⟨v,t,r,q,l⟩:=rc5 i.o;go_wp2_with fail;refine (ag.o _ (F.o)).mono ?_;rintro e w2 ⟨rfl,G⟩;have R:Hx (Ov w w2):=Ab (F.o) G;have K:Hx (Ac [A J y,A J a,A J 0,.string ⟨#[]⟩,O (some ⟨b,off,none⟩) 2 c] w2 w.heap.size):=i.o.over G;clear G v t r q l ag;clear z0 z1 z2 z3 z4 z5 z6 z7 z8 z9
      cases p0 with
      | true=>
       obtain ⟨z0,z1,z2,z3,z4,z5,z6,z7,z8,z9⟩:=HZ.o.ten R.o;obtain ⟨v,t,r,q,l⟩:=rc5 K.o;go_wp2_with fail;refine (af.o _ (R.o)).mono ?_;rintro e w3 ⟨rfl,G⟩;have a1:Hx (Ov w w3):=Ab (R.o) G;have V:Hx (Ac [A J y,A J a,A J 0,.string ⟨#[]⟩,O (some ⟨b,off,none⟩) 2 c] w3 w.heap.size):=K.o.over G;clear G v t r q l af;clear z0 z1 z2 z3 z4 z5 z6 z7 z8 z9;have E:Hx (B=p1):=by have h:=Y.o;simp at h;exact h
       obtain ⟨v,t,r,q,l⟩:=rc5 V.o;go_wp2_with fail;go_ret;exact ⟨by rw [E.o];(first | rfl | (simp;done) | (simp;assumption) | (simp;omega)),a1.o⟩
      | false=>
       have E:Hx (B=false):=by have h:=Y.o;simp at h;exact h
       obtain ⟨v,t,r,q,l⟩:=rc5 K.o;go_wp2_with fail;go_ret;exact ⟨by rw [E.o];(first | rfl | (simp;done) | (simp;assumption) | (simp;omega)),R.o⟩
     ·have hi:¬ (nn:Int)=2:=by omega
      have E:Hx (B=false):=by have h:=Y.o;simp [h3] at h;exact h
      obtain ⟨v,t,r,q,l⟩:=rc5 i.o;go_wp2_with fail;go_ret;exact ⟨by rw [E.o];(first | rfl | (simp;done) | (simp;assumption) | (simp;omega)),F.o⟩
    ·have ay:=Aq h2
     have M:x.data.toList.isEmpty=false:=by simpa using h2
     have E:Hx (B=false):=by have h:=Y.o;rw [M] at h;simp at h;exact h
     clear M h2;obtain ⟨v,t,r,q,l⟩:=rc5 i.o;go_wp2_with fail;go_ret;exact ⟨by rw [E.o];(first | rfl | (simp;done) | (simp;assumption) | (simp;omega)),F.o⟩
   ·have E:Hx (B=false):=by have h:=Y.o;simp [h1] at h;exact h
    obtain ⟨v,t,r,q,l⟩:=rc5 i.o;go_wp2_with fail;go_ret;exact ⟨by rw [E.o];(first | rfl | (simp;done) | (simp;assumption) | (simp;omega)),F.o⟩
  | false=>
   have E:Hx (B=false):=by have h:=Y.o;simp at h;exact h
   obtain ⟨v,t,r,q,l⟩:=rc5 i.o;go_wp2_with fail;go_ret;exact ⟨by rw [E.o];(first | rfl | (simp;done) | (simp;assumption) | (simp;omega)),F.o⟩
end Go.Proofs.YtipngnjffjajpaaGreatDoor.Tx
