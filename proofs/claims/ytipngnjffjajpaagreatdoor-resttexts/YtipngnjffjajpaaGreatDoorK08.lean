/- Package tree's Check: policies, labels, functions, commands, declarations that are fine. -/
import Derived.Test.YtipngnjffjajpaaGreatDoorK07
set_option linter.unusedVariables false
set_option maxHeartbeats 8000000
set_option maxRecDepth 100000
namespace Go.Proofs.YtipngnjffjajpaaGreatDoor.Tx
open Go.RowKit
open Go.Value renaming int -> O, slice -> zd, bool -> ze, agg -> zf, pointer -> zh, tuple -> zj
open Go.IntKind renaming i64 -> zc
open Go.Obj renaming cells -> zg
open Go.Ending renaming returned -> zi
theorem D2 (f:List UInt8->Bool) (ns:List ByteArray):((ns.map dS).all fun x=>f (asS x))=ns.all fun x=>f x.data.toList:=by
 rw [List.all_map];rfl
theorem DS {α:Type} (l:List α):l.isEmpty=decide (l.length=0):=by cases l <;> simp
theorem IZ (cs:List Value) (d:D) (w:World) (h:ZP w cs d):Ro 109 #[.agg cs.toArray] w (ze (DC d)):=by
 obtain ⟨a,o,wr,v,u,l,rfl,rfl,C,r⟩:=h;obtain ⟨fin,b⟩:=nm (DC (DD a o wr l));rw [<-b];unfold DC at b;simp only [gPp,D2 nmS] at b;obtain ⟨A,g⟩:=nm (nmS o.data.toList);obtain ⟨B,i⟩:=nm (l.all fun x=>nmS x.data.toList);rw [<-g,<-i] at b;have H:=Aa b;have F:Hx (∀ X,Ov w X->Ro 65 #[.string o] X (ze A)):=fun X _=>by rw [g];exact D8 o X C
 have G:Hx (∀ X,Ov w X->Ro 110 #[zd v l.length u,.func (.func 65) #[] #[]] X (ze B)):=fun X J=>by rw [i];exact Ph 65 (fun E w=>by simp [go_sem]) _ l v u X (fun x X I=>D8 x X I) (Bu J r)
 have M:=r.max;clear b g i r C;show Ro 109 #[zf #[O zc a,.string o,ze wr,zd v l.length u]] w _;go_enter Tryz.func109,Tryz.ntmps109;go_wp2_with fail;refine mo (F.o _ (bA _ _)) fun L j=>?_;obtain ⟨f,n⟩:=rov j;clear j  F
 cases A with
 | true=>
  have c:=rc4 f.o;go_wp2_with fail;refine mo (G.o _ n.o) fun K j=>?_;replace n:=Aa (Ab n.o j);replace f:=Aa (f.o.over j);clear j c G;have y:Hx (fin=B):=by have h:=H.o;simp at h;exact h
  have c:=rc4 f.o;go_wp2_with fail;go_ret;exact ⟨by rw [y.o];(first | rfl | (simp;done) | (simp;assumption) | (simp;omega)),n.o⟩
 | false=>
  have y:Hx (fin=false):=by have h:=H.o;simp at h;exact h
  have c:=rc4 f.o;go_wp2_with fail;go_ret;exact ⟨by rw [y.o];(first | rfl | (simp;done) | (simp;assumption) | (simp;omega)),n.o⟩
theorem Kg (ke kc:Nat) (cs:List Value) (d:D) (w:World) (h:ZD w ke kc cs d):Ro 67 #[.agg cs.toArray] w (ze (Ew d)):=by
 obtain ⟨u,a,x,y,G,I,H,n,Y,V,E,Z,W,j,U,T,S,R,q,q1,M,r,rfl,rfl,-,-,F,P,Q,-⟩:=h;obtain ⟨fin,b⟩:=nm (Ew (deD u a x y G n E j r));rw [<-b];unfold Ew at b;simp only [gDd] at b;obtain ⟨B,v⟩:=nm (n.all DC);have K:(n≠[])=(n.length≠0):=by simp
 simp only [<-v,K] at b;have l:Hx (∀ X,Ov w X->Ro 105 #[zd I n.length H,.func (.func 109) #[] #[]] X (ze B)):=fun X N=>by rw [v];exact Pg 109 (fun L w=>by simp [go_sem]) DC n I H X (fun cs d X _ h=>IZ cs d X h) (Dj N F)
 have J:=F.max;clear v F P Q K;show Ro 67 #[zf #[O zc u,O zc a,.string x,.string y,ze G,zd I n.length H,zd Y E.length V,zd Z j.length W,O zc U,O zc T,O zc S,.string R,zd q q1 M]] w _;generalize n.length=nL at b l J ⊢;generalize E.length=nP at ⊢;generalize j.length=nB at ⊢
 cases G with
 | true=>
  by_cases h4:u=4
  ·subst h4
   have c:Hx (fin=B):=by show _=_;rw [b];simp
   clear b;go_enter Tryz.func67,Tryz.ntmps67;go_wp2_with fail;refine mo (l.o _ (bA _ _)) fun C i=>?_;obtain ⟨f,A⟩:=rov i;clear i  l;have g:=B8 f.o;go_wp2_with fail;go_ret;exact ⟨by rw [c.o];(first | rfl | (simp;done) | (simp;assumption) | (simp;omega)),A.o⟩
  by_cases h5:u=5
  ·subst h5
   have c:Hx (fin=B):=by show _=_;rw [b];simp
   clear b;go_enter Tryz.func67,Tryz.ntmps67;go_wp2_with fail;refine mo (l.o _ (bA _ _)) fun C i=>?_;obtain ⟨f,A⟩:=rov i;clear i  l;have g:=B8 f.o;go_wp2_with fail;go_ret;exact ⟨by rw [c.o];(first | rfl | (simp;done) | (simp;assumption) | (simp;omega)),A.o⟩
  by_cases h6:u=6
  ·subst h6
   have c:Hx (fin=B):=by show _=_;rw [b];simp
   clear b;go_enter Tryz.func67,Tryz.ntmps67;go_wp2_with fail;refine mo (l.o _ (bA _ _)) fun C i=>?_;obtain ⟨f,A⟩:=rov i;clear i  l;have g:=B8 f.o;go_wp2_with fail;go_ret;exact ⟨by rw [c.o];(first | rfl | (simp;done) | (simp;assumption) | (simp;omega)),A.o⟩
  have c:Hx (fin=false):=by show _=_;rw [b];simp [h4,h5,h6]
  clear b;go_enter Tryz.func67,Tryz.ntmps67;go_wp2_with fail;go_ret;exact ⟨by rw [c.o];(first | rfl | (simp;done) | (simp;assumption) | (simp;omega)),bA _ _⟩
 | false=>
  by_cases h0:nL=0
  ·subst h0
   by_cases h4:u=4
   ·subst h4
    have c:Hx (fin=false):=by show _=_;rw [b];simp
    clear b;go_enter Tryz.func67,Tryz.ntmps67;go_wp2_with fail;go_ret;exact ⟨by rw [c.o];(first | rfl | (simp;done) | (simp;assumption) | (simp;omega)),bA _ _⟩
   by_cases h5:u=5
   ·subst h5
    have c:Hx (fin=false):=by show _=_;rw [b];simp
    clear b;go_enter Tryz.func67,Tryz.ntmps67;go_wp2_with fail;go_ret;exact ⟨by rw [c.o];(first | rfl | (simp;done) | (simp;assumption) | (simp;omega)),bA _ _⟩
   by_cases h6:u=6
   ·subst h6
    have c:Hx (fin=B):=by show _=_;rw [b];simp
    clear b;go_enter Tryz.func67,Tryz.ntmps67;go_wp2_with fail;refine mo (l.o _ (bA _ _)) fun C i=>?_;obtain ⟨f,A⟩:=rov i;clear i  l;have g:=B8 f.o;go_wp2_with fail;go_ret;exact ⟨by rw [c.o];(first | rfl | (simp;done) | (simp;assumption) | (simp;omega)),A.o⟩
   have c:Hx (fin=true):=by show _=_;rw [b];simp [h4,h5,h6]
   clear b;go_enter Tryz.func67,Tryz.ntmps67;go_wp2_with fail;go_ret;exact ⟨by rw [c.o];(first | rfl | (simp;done) | (simp;assumption) | (simp;omega)),bA _ _⟩
  ·have hi:(0:Int) < (nL:Int):=by omega
   have hn:0 < nL:=by omega
   have c:Hx (fin=false):=by show _=_;rw [b];simp [h0]
   clear b;go_enter Tryz.func67,Tryz.ntmps67;go_wp2_with fail;go_ret;exact ⟨by rw [c.o];(first | rfl | (simp;done) | (simp;assumption) | (simp;omega)),bA _ _⟩
theorem Ot (kd:Int) (w:World):Ro 69 #[O zc kd] w (zj #[zf #[ze (FT kd),ze (FV kd),ze (Ft kd),ze (FW kd),ze (FU kd),ze (Fu kd)],ze (hOk kd)]):=by
 by_cases hk:1<=kd/\kd<=8
 ·have h:kd=1\/kd=2\/kd=3\/kd=4\/kd=5\/kd=6\/kd=7\/kd=8:=by omega
  clear hk;rcases h with rfl | rfl | rfl | rfl | rfl | rfl | rfl | rfl
  ·show Ro 69 #[O zc 1] w (zj #[zf #[ze true,ze false,ze true,ze false,ze false,ze false],ze true])
   go_enter Tryz.func69,Tryz.ntmps69;go_wp2_with fail;exact bodyPost_ret (v:=zj #[zf #[ze true,ze false,ze true,ze false,ze false,ze false],ze true]) (by simp [results,Tryz.results69,go_sem]) rfl ⟨rfl,bA _ _⟩
  ·show Ro 69 #[O zc 2] w (zj #[zf #[ze true,ze true,ze false,ze true,ze false,ze false],ze true])
   go_enter Tryz.func69,Tryz.ntmps69;go_wp2_with fail;exact bodyPost_ret (v:=zj #[zf #[ze true,ze true,ze false,ze true,ze false,ze false],ze true]) (by simp [results,Tryz.results69,go_sem]) rfl ⟨rfl,bA _ _⟩
  ·show Ro 69 #[O zc 3] w (zj #[zf #[ze true,ze true,ze false,ze false,ze false,ze false],ze true])
   go_enter Tryz.func69,Tryz.ntmps69;go_wp2_with fail;exact bodyPost_ret (v:=zj #[zf #[ze true,ze true,ze false,ze false,ze false,ze false],ze true]) (by simp [results,Tryz.results69,go_sem]) rfl ⟨rfl,bA _ _⟩
  ·show Ro 69 #[O zc 4] w (zj #[zf #[ze false,ze true,ze true,ze false,ze false,ze false],ze true])
   go_enter Tryz.func69,Tryz.ntmps69;go_wp2_with fail;exact bodyPost_ret (v:=zj #[zf #[ze false,ze true,ze true,ze false,ze false,ze false],ze true]) (by simp [results,Tryz.results69,go_sem]) rfl ⟨rfl,bA _ _⟩
  ·show Ro 69 #[O zc 5] w (zj #[zf #[ze true,ze false,ze true,ze false,ze false,ze false],ze true])
   go_enter Tryz.func69,Tryz.ntmps69;go_wp2_with fail;exact bodyPost_ret (v:=zj #[zf #[ze true,ze false,ze true,ze false,ze false,ze false],ze true]) (by simp [results,Tryz.results69,go_sem]) rfl ⟨rfl,bA _ _⟩
  ·show Ro 69 #[O zc 6] w (zj #[zf #[ze true,ze false,ze true,ze false,ze false,ze false],ze true])
   go_enter Tryz.func69,Tryz.ntmps69;go_wp2_with fail;exact bodyPost_ret (v:=zj #[zf #[ze true,ze false,ze true,ze false,ze false,ze false],ze true]) (by simp [results,Tryz.results69,go_sem]) rfl ⟨rfl,bA _ _⟩
  ·show Ro 69 #[O zc 7] w (zj #[zf #[ze false,ze false,ze true,ze false,ze true,ze true],ze true])
   go_enter Tryz.func69,Tryz.ntmps69;go_wp2_with fail;exact bodyPost_ret (v:=zj #[zf #[ze false,ze false,ze true,ze false,ze true,ze true],ze true]) (by simp [results,Tryz.results69,go_sem]) rfl ⟨rfl,bA _ _⟩
  ·show Ro 69 #[O zc 8] w (zj #[zf #[ze false,ze false,ze true,ze false,ze true,ze false],ze true])
   go_enter Tryz.func69,Tryz.ntmps69;go_wp2_with fail;exact bodyPost_ret (v:=zj #[zf #[ze false,ze false,ze true,ze false,ze true,ze false],ze true]) (by simp [results,Tryz.results69,go_sem]) rfl ⟨rfl,bA _ _⟩
 ·have n:∀ j:Int,1<=j->j<=8->¬ kd=j:=fun j _ _ _=>hk (by omega)
  have E:(kd == 1)=false:=by simp;omega
  have C:(kd == 2)=false:=by simp;omega
  have B:(kd == 3)=false:=by simp;omega
  have A:(kd == 4)=false:=by simp;omega
  have y:(kd == 5)=false:=by simp;omega
  have x:(kd == 6)=false:=by simp;omega
  have u:(kd == 7)=false:=by simp;omega
  have r:(kd == 8)=false:=by simp;omega
  have l:FT kd=false:=by unfold FT;simp;omega
  have i:FV kd=false:=by unfold FV;simp;omega
  have g:Ft kd=false:=by unfold Ft;simp;omega
  have f:FW kd=false:=by unfold FW;simp;omega
  have c:FU kd=false:=by unfold FU;simp;omega
  have b:Fu kd=false:=by unfold Fu;simp;omega
  have a:hOk kd=false:=by unfold hOk;simp;omega
  rw [l,i,g,f,c,b,a];clear hk n l i g f c b a;go_enter Tryz.func69,Tryz.ntmps69;go_wp2_with fail;exact bodyPost_ret (v:=zj #[zf #[ze false,ze false,ze false,ze false,ze false,ze false],ze false]) (by simp [results,Tryz.results69,go_sem]) rfl ⟨rfl,bA _ _⟩
abbrev Eo (cs:List Value) (w:World) (b off:Nat):Prop:=∀ (j:Nat) (u:Value),cs[j]? = some u->w.cell? ⟨b,off+j,none⟩=some u
theorem Eo.ten {a0 a1 a2 a3 a4 a5 a6 a7 a8 a9:Value} {w w':World} {b off:Nat} (h:Eo [a0,a1,a2,a3,a4,a5,a6,a7,a8,a9] w b off) (hb:Ov w w'):w'.cell? ⟨b,off,none⟩=some a0/\w'.cell? ⟨b,off+1,none⟩=some a1/\w'.cell? ⟨b,off+2,none⟩=some a2/\w'.cell? ⟨b,off+3,none⟩=some a3/\w'.cell? ⟨b,off+4,none⟩=some a4/\w'.cell? ⟨b,off+5,none⟩=some a5/\w'.cell? ⟨b,off+5+1,none⟩=some a6/\w'.cell? ⟨b,off+5+2,none⟩=some a7/\w'.cell? ⟨b,off+5+3,none⟩=some a8/\w'.cell? ⟨b,off+5+4,none⟩=some a9:=
 ⟨ce1 hb (h 0 _ rfl),ce1 hb (h 1 _ rfl),ce1 hb (h 2 _ rfl),ce1 hb (h 3 _ rfl),ce1 hb (h 4 _ rfl),ce1 hb (h 5 _ rfl),ce1 hb (h 6 _ rfl),ce1 hb (h 7 _ rfl),ce1 hb (h 8 _ rfl),ce1 hb (h 9 _ rfl)⟩
theorem J0 (k:Nat) (en:Int):∀ (l:List D) (t:Int),en < t->l.foldl (fun n a=>if n<=en then n+poK k a (en - n) else n) t=t
 | [],t,h=>rfl
 | a::l,t,h=>by rw [List.foldl_cons,if_neg (by omega)];exact J0 k en l t h
theorem F9:∀ (k:Nat) (cs:List Value) (d:D) (w:World) (en:Int),ZE w k cs d->0<=en->en<=15->Ro 75 #[.agg cs.toArray,O zc en] w (O zc (poK k d en)):=by
 intro k
 induction k with
 | zero=>intro cs d w L h;exact h.elim
 | succ k ih=>
  intro cs d w en h L0 L1;obtain ⟨H,a,n,x,N,c,F,rfl,rfl,-,R⟩:=h;have HC:=Aa R;have IH:=Aa ih;have HL:=R.max;obtain ⟨fin,u⟩:=nm (F.foldl (fun n a=>if n<=en then n+poK k a (en - n) else n) 1);have g:poK (k+1) (eD H a n x F) en=fin:=by rw [u];rfl
  rw [g];have HF:=Aa u;obtain ⟨v,C⟩:=nm F.length;rw [<-C] at HL ⊢;have Y:=Aa C;obtain ⟨V,M⟩:=nm (w.alloc (zg #[O zc H,O zc a,O zc n,.string x,zd N v c] 49));have G:=aov M;have S:Hx (Ad [O zc H,O zc a,O zc n,.string x,zd N v c] V w.heap.size):=by show Ad _ _ _;rw [M];exact A5 w [O zc H,O zc a,O zc n,.string x,zd N v c] 49
  clear R ih g u C;show Ro 75 #[zf #[O zc H,O zc a,O zc n,.string x,zd N v c],O zc en] w _;go_enter Tryz.func75,Tryz.ntmps75;go_wp2_with fail;rw [<-M];clear M;go_loopw [5,6] (fun c i wr=>∃ (j:Nat) (t:Int),j<=v/\i=O zc j/\c=O zc t/\0<=t/\t<=16/\(F.drop j).foldl (fun n a=>if n<=en then n+poK k a (en - n) else n) t=fin/\Ov V wr) (fun _ i _=>v - (intOf i).toNat)
  case atStart=>exact ⟨0,1,Nat.zero_le _,rfl,rfl,by omega,by omega,HF.o.symm,Below.refl _ _⟩
  case round=>
   obtain ⟨j,t,hj,rfl,rfl,t1,t2,l,A⟩:=hrel;have mR:=rc5 (S.o.over A);by_cases hjl:j < v
   ·have f:j < F.length:=by have:=Y.o;omega
    have Q:(j:Int) < (v:Int):=by omega
    by_cases ht0:t<=en
    ·obtain ⟨b,Z,rfl,cs,P,E,hr⟩:=HC.o.at f
     rw [El f,if_pos ht0] at l;generalize F[j]=dj at l hr;have y:Ov w wr:=Ab G.o A;have hb:=I0 k dj (en - t) (by omega);obtain ⟨r,B⟩:=nm (poK k dj (en - t));have W:Hx (∀ X,Ov wr X->Ro 75 #[.agg cs.toArray,O zc (en - t)] X (O zc r)):=fun X hX=>by rw [B];exact IH.o cs dj X (en - t) ((hr.over y).over hX) (by omega) (by omega)
     obtain ⟨k0,k1,k2,k3,q,q1,q2,rfl⟩:=hr.cells;have d0:=CK y E rfl;have dA:=CJ y E;rw [<-B] at l hb;have J:=Aa l;have K:=Aa A;clear E P hr l A f B y;go_wp2_with fail;refine mo (W.o _ (Below.refl _ _)) fun w1 I=>?_;have T:=Aa (Ab K.o I);clear I d0 dA mR W;go_wp2_with fail;exact ⟨⟨j+1,t+r,by omega,by go_num,by go_num,by omega,by omega,J.o,T.o⟩,by simp [intOf];omega⟩
    ·rw [J0 k en _ _ (by omega)] at l
     have J:=Aa l;have K:=Aa A;clear l A f;go_wp2_with fail;go_ret;exact ⟨by rw [<-J.o];rfl,Ab G.o K.o⟩
   ·have U:F.drop j=[]:=List.drop_eq_nil_of_le (by have:=Y.o;omega)
    rw [U] at l;have J:=Aa l;have K:=Aa A;have Q:¬ (j:Int) < (v:Int):=by omega
    clear l A U;go_wp2_with fail;go_ret;exact ⟨by rw [<-J.o];rfl,Ab G.o K.o⟩
theorem Bp (n lo hi:Int) (w:World):Ro 76 #[O zc n,O zc lo,O zc hi] w (ze (decide (lo<=n) && decide (n<=hi))):=by
 obtain ⟨fin,a⟩:=nm (decide (lo<=n) && decide (n<=hi));rw [<-a];by_cases h1:lo<=n
 ·have b:Hx (fin=decide (n<=hi)):=by show _=_;rw [a];simp [h1]
  clear a;go_enter Tryz.func76,Tryz.ntmps76;go_wp2_with fail;go_ret;exact ⟨by rw [b.o];(first | rfl | (simp;done) | (simp;assumption) | (simp;omega)),Below.refl _ _⟩
 ·have b:Hx (fin=false):=by show _=_;rw [a];simp [h1]
  clear a;go_enter Tryz.func76,Tryz.ntmps76;go_wp2_with fail;go_ret;exact ⟨by rw [b.o];(first | rfl | (simp;done) | (simp;assumption) | (simp;omega)),Below.refl _ _⟩
def Ed:List ByteArray:=[⟨#[97,99,116,111,114]⟩,⟨#[103,114,97,110,116]⟩,⟨#[115,112,101,97,107]⟩,⟨#[105,110]⟩,⟨#[111,117,116]⟩,⟨#[118,97,114]⟩,⟨#[102,117,110,99]⟩,⟨#[109,97,105,110]⟩,⟨#[103,101,116]⟩,⟨#[112,117,116]⟩,⟨#[114,101,118,101,97,108]⟩,⟨#[116,114,117,115,116]⟩,⟨#[105,102]⟩,⟨#[101,108,115,101]⟩,⟨#[119,104,105,108,101]⟩,⟨#[114,101,116,117,114,110]⟩]
theorem Nz:Ed.map (fun x=>x.data.toList)=GM:=by decide
theorem Kh (x:ByteArray):CV x=Ed.any (fun y=>y.toList == x.toList):=by
 have e:∀ y:ByteArray,(y.toList == x.toList)=(x.data.toList == y.data.toList):=fun y=>by
  rw [ByteArray.toList_eq,ByteArray.toList_eq];rw [Bool.eq_iff_iff];simp only [beq_iff_eq];exact eq_comm
 unfold CV;rw [<-Nz,List.contains_eq_any_beq,List.any_map];congr 1;funext y;exact (e y).symm
theorem M9 (x:ByteArray) (w:World):Ro 113 #[.string x] w (ze (CV x)):=by
 rw [Kh];obtain ⟨fin,c⟩:=nm (Ed.any (fun y=>y.toList == x.toList));rw [<-c];have B:=Aa c;clear c;obtain ⟨V,l⟩:=nm (w.alloc (zg #[.string ⟨#[97,99,116,111,114]⟩,.string ⟨#[103,114,97,110,116]⟩,.string ⟨#[115,112,101,97,107]⟩,.string ⟨#[105,110]⟩,.string ⟨#[111,117,116]⟩,.string ⟨#[118,97,114]⟩,.string ⟨#[102,117,110,99]⟩,.string ⟨#[109,97,105,110]⟩,.string ⟨#[103,101,116]⟩,.string ⟨#[112,117,116]⟩,.string ⟨#[114,101,118,101,97,108]⟩,.string ⟨#[116,114,117,115,116]⟩,.string ⟨#[105,102]⟩,.string ⟨#[101,108,115,101]⟩,.string ⟨#[119,104,105,108,101]⟩,.string ⟨#[114,101,116,117,114,110]⟩] 9));have g:=aov l;have r:Hx (Ad (Ed.map Value.string) V w.heap.size):=by show Ad _ _ _;rw [l];exact A5 w [.string ⟨#[97,99,116,111,114]⟩,.string ⟨#[103,114,97,110,116]⟩,.string ⟨#[115,112,101,97,107]⟩,.string ⟨#[105,110]⟩,.string ⟨#[111,117,116]⟩,.string ⟨#[118,97,114]⟩,.string ⟨#[102,117,110,99]⟩,.string ⟨#[109,97,105,110]⟩,.string ⟨#[103,101,116]⟩,.string ⟨#[112,117,116]⟩,.string ⟨#[114,101,118,101,97,108]⟩,.string ⟨#[116,114,117,115,116]⟩,.string ⟨#[105,102]⟩,.string ⟨#[101,108,115,101]⟩,.string ⟨#[119,104,105,108,101]⟩,.string ⟨#[114,101,116,117,114,110]⟩] 9
 go_enter Tryz.func113,Tryz.ntmps113;go_wp2_with fail;rw [<-l];clear l;go_loopw [4] (fun i wr=>∃ (j:Nat),j<=16/\i=O zc j/\(Ed.drop j).any (fun y=>y.toList == x.toList)=fin/\wr=V) (fun i _=>16 - (intOf i).toNat)
 case atStart=>exact ⟨0,Nat.zero_le _,rfl,B.o.symm,rfl⟩
 case round=>
  obtain ⟨j,C,rfl,a,rfl⟩:=hrel;by_cases hjl:j < 16
  ·have b:j < Ed.length:=hjl
   have n:(j:Int) < 16:=by omega
   rw [List.drop_eq_getElem_cons b,List.any_cons] at a;have v:=r.o j (.string Ed[j]) (by rw [List.getElem?_map,List.getElem?_eq_getElem b];rfl);generalize Ed[j]=y at a v;generalize hq:(y.toList == x.toList)=q at a;have f:=Aa a;clear a b
   cases q with
   | true=>
    have A:Hx (fin=true):=by have h:=f.o;simp at h;exact h
    go_wp2_with fail;go_ret;exact ⟨by rw [A.o];rfl,g.o⟩
   | false=>
    have a:=f.o;rw [Bool.false_or] at a;replace f:=Aa a;clear a;go_wp2_with fail;exact ⟨⟨j+1,by omega,by go_num,f.o,by trivial⟩,by simp [intOf];omega⟩
  ·have u:Ed.drop j=[]:=List.drop_eq_nil_of_le (by show 16<=j;omega)
   rw [u] at a;have f:=Aa a;have n:¬ (j:Int) < 16:=by omega
   clear a u;go_wp2_with fail;go_ret;exact ⟨by rw [<-f.o];rfl,g.o⟩
theorem Bn (x:ByteArray) (w:World) (hx:x.size<=maxLen):Ro 77 #[.string x] w (ze (nmS x.data.toList)):=by
 obtain ⟨fin,a⟩:=nm (nmS x.data.toList);rw [<-a];unfold nmS at a;rw [Hp] at a;obtain ⟨p,g⟩:=nm (Ai ⟨1,0,x⟩);obtain ⟨q,f⟩:=nm (CV x);have l:Hx (fin=(p && !q)):=by show _=_;rw [a,g,f];rfl
 have KT:Hx (∀ X,Ov w X->Ro 112 #[O zc 1,.string x] X (ze p)):=fun X _=>by rw [g];exact (Kj 1 0 x hx X).mono fun e y ⟨u,r⟩=>⟨u,r ▸ Below.refl _ _⟩
 have j:Hx (∀ X,Ov w X->Ro 113 #[.string x] X (ze q)):=fun X _=>by rw [f];exact M9 x X
 clear a g f hx;go_enter Tryz.func77,Tryz.ntmps77;go_wp2_with fail;refine mo (KT.o _ (Below.refl _ _)) fun n b=>?_;have c:Hx (Ov w n):=Ab (Below.refl _ _) b;clear b  KT;cases p
 case' true=>
  go_wp2_with fail;refine mo (j.o _ c.o) fun v b=>?_;replace c:=Aa (Ab c.o b);clear b  j;have i:Hx (fin=!q):=by have h:=l.o;simp at h;exact h
  go_wp2_with fail;go_ret;exact ⟨by rw [i.o];(first | rfl | (simp;done) | (simp;assumption) | (simp;omega)),c.o⟩
 all_goals
  have i:Hx (fin=false):=by have h:=l.o;simp at h;exact h
  go_wp2_with fail;go_ret;exact ⟨by rw [i.o];(first | rfl | (simp;done) | (simp;assumption) | (simp;omega)),c.o⟩
theorem Dt (k:Nat) (cs:List Value) (d:D) (w:World) (h:ZE w k cs d):Ro 78 #[.agg cs.toArray] w (ze (CO d)):=by
 cases k with
 | zero=>exact h.elim
 | succ k=>
  obtain ⟨i,a,n,x,u,c,g,rfl,rfl,-,l⟩:=h;obtain ⟨fin,b⟩:=nm (CO (eD i a n x g));rw [<-b];unfold CO at b;simp only [gEe] at b;have A:=l.max;clear l;show Ro 78 #[zf #[O zc i,O zc a,O zc n,.string x,zd u g.length c]] w _;by_cases h1:i=0
  ·by_cases h2:n=0
   ·by_cases h3:x.data.toList=[]
    ·have j:=An h3
     by_cases h4:g=[]
     ·have f:Hx (fin=true):=by show _=_;rw [b,h1,h2,h3,h4];rfl
      clear b;subst h4;subst h1;subst h2;subst j;go_enter Tryz.func78,Tryz.ntmps78;go_wp2_with fail;go_ret;exact ⟨by rw [f.o];(first | rfl | (simp;done) | (simp;assumption) | (simp;omega)),bA _ _⟩
     ·have y:0 < g.length:=List.length_pos_iff.2 h4
      have v:¬ (g.length:Int)=0:=by omega
      have f:Hx (fin=false):=by show _=_;rw [b];simp [h4]
      clear b;subst h1;subst h2;subst j;go_enter Tryz.func78,Tryz.ntmps78;go_wp2_with fail;go_ret;exact ⟨by rw [f.o];(first | rfl | (simp;done) | (simp;assumption) | (simp;omega)),bA _ _⟩
    ·have r:=Av h3
     have f:Hx (fin=false):=by show _=_;rw [b,show x.data.toList.isEmpty=false by simpa using h3];simp
     clear b;subst h1;subst h2;go_enter Tryz.func78,Tryz.ntmps78;go_wp2_with fail;go_ret;exact ⟨by rw [f.o];(first | rfl | (simp;done) | (simp;assumption) | (simp;omega)),bA _ _⟩
   ·have f:Hx (fin=false):=by show _=_;rw [b];simp [h2]
    clear b;subst h1;go_enter Tryz.func78,Tryz.ntmps78;go_wp2_with fail;go_ret;exact ⟨by rw [f.o];(first | rfl | (simp;done) | (simp;assumption) | (simp;omega)),bA _ _⟩
  ·have f:Hx (fin=false):=by show _=_;rw [b];simp [h1]
   clear b;go_enter Tryz.func78,Tryz.ntmps78;go_wp2_with fail;go_ret;exact ⟨by rw [f.o];(first | rfl | (simp;done) | (simp;assumption) | (simp;omega)),bA _ _⟩
theorem CW:∀ (k:Nat) (cs:List Value) (d:D) (w:World),ZE w k cs d->Ro 79 #[.agg cs.toArray] w (ze (efK k d)):=by
 intro k
 induction k with
 | zero=>intro cs d w h;exact h.elim
 | succ k ih=>
  intro cs d w h;obtain ⟨v,a,n,x,ao,c,K,rfl,rfl,L,Y⟩:=h;obtain ⟨fin,f⟩:=nm (efK (k+1) (eD v a n x K));rw [<-f];simp only [efK,gEe] at f;obtain ⟨qa,I⟩:=nm (K.all (efK k));rw [<-I] at f;have HL:=Y.max;show Ro 79 #[zf #[O zc v,O zc a,O zc n,.string x,zd ao K.length c]] w _;have H0:Hx (K.length=0->qa=true):=fun h=>by rw [I,List.length_eq_zero_iff.1 h];rfl
  have H2:Hx (K.length=2->∃ b off,ao=some ⟨b,off,none⟩/\∃ (x0 x1 x2:Int) (x3:ByteArray) (x4:Option Addr) (x5 x6:Nat) (y0 y1 y2:Int) (y3:ByteArray) (y4:Option Addr) (y5 y6:Nat) (p0 p1:Bool),Eo [O zc x0,O zc x1,O zc x2,.string x3,zd x4 x5 x6,O zc y0,O zc y1,O zc y2,.string y3,zd y4 y5 y6] w b off/\(∀ X,Ov w X->Ro 79 #[zf #[O zc x0,O zc x1,O zc x2,.string x3,zd x4 x5 x6]] X (ze p0))/\(∀ X,Ov w X->Ro 79 #[zf #[O zc y0,O zc y1,O zc y2,.string y3,zd y4 y5 y6]] X (ze p1))/\qa=(p0 && p1)):=fun h=>by
   match K,h with
   | [d0,d1],_=>
    obtain ⟨b,off,e1,ba,a2,H,P⟩:=Y.at (j:=0) (by simp);obtain ⟨b',ar,e2,a9,a1,G,N⟩:=Y.at (j:=1) (by simp);rw [e1] at e2;simp at e2;obtain ⟨rfl,rfl⟩:=e2;obtain ⟨x0,x1,x2,x3,x4,x5,x6,rfl⟩:=P.cells;obtain ⟨y0,y1,y2,y3,y4,y5,y6,rfl⟩:=N.cells;refine ⟨b,off,e1,x0,x1,x2,x3,x4,x5,x6,y0,y1,y2,y3,y4,y5,y6,efK k d0,efK k d1,fun j u r=>?_,fun X hX=>ih _ d0 X (P.over hX),fun X hX=>ih _ d1 X (N.over hX),by rw [I];simp⟩
    match j,r with
    | 0,r=>exact H 0 u r
    | 1,r=>exact H 1 u r
    | 2,r=>exact H 2 u r
    | 3,r=>exact H 3 u r
    | 4,r=>exact H 4 u r
    | 5,r=>exact G 0 u r
    | 6,r=>exact G 1 u r
    | 7,r=>exact G 2 u r
    | 8,r=>exact G 3 u r
    | 9,r=>exact G 4 u r
    | j+10,r=>simp at r
  clear I ih Y;generalize K.length=nn at f HL H0 H2 ⊢;by_cases hk1:v=1
  ·subst hk1
   by_cases hx0:x.data.toList=[]
   ·obtain rfl:=An hx0
    by_cases h0:nn=0
    ·subst h0
     obtain ⟨M,C⟩:=nm (decide (-9999999<=n) && decide (n<=9999999));have V:Hx (∀ X,Ov w X->Ro 76 #[O zc n,O zc (-9999999),O zc 9999999] X (ze M)):=fun X _=>by rw [C];exact Bp n (-9999999) 9999999 X
     have y:Hx (fin=M):=by show _=_;rw [f,C,H0.o rfl];simp [nfS]
     clear f C hx0 L;go_enter Tryz.func79,Tryz.ntmps79;go_wp2_with fail;refine mo (V.o _ (bA _ _)) fun w1 B=>?_;obtain ⟨l,A⟩:=rov B;clear B  V;have i:=rc5 l.o;go_wp2_with fail;go_ret;exact ⟨by rw [y.o];(first | rfl | (simp;done) | (simp;assumption) | (simp;omega)),A.o⟩
    ·have hi:¬ (nn:Int)=0:=by omega
     have y:Hx (fin=false):=by show _=_;rw [f];simp [h0]
     clear f hx0 L;go_enter Tryz.func79,Tryz.ntmps79;go_wp2_with fail;go_ret;exact ⟨by rw [y.o];(first | rfl | (simp;done) | (simp;assumption) | (simp;omega)),bA _ _⟩
   ·have al:=Av hx0
    have F:nfS x.data.toList false=false:=by unfold nfS;simpa using hx0
    have y:Hx (fin=false):=by show _=_;rw [f];simp [F]
    clear f hx0 L F;go_enter Tryz.func79,Tryz.ntmps79;go_wp2_with fail;go_ret;exact ⟨by rw [y.o];(first | rfl | (simp;done) | (simp;assumption) | (simp;omega)),bA _ _⟩
  by_cases hk2:v=2
  ·subst hk2
   by_cases hn0:n=0
   ·subst hn0
    by_cases h0:nn=0
    ·subst h0
     obtain ⟨M,C⟩:=nm (nmS x.data.toList);have V:Hx (∀ X,Ov w X->Ro 77 #[.string x] X (ze M)):=fun X _=>by rw [C];exact Bn x X L
     have y:Hx (fin=M):=by show _=_;rw [f,C,H0.o rfl];simp [nfS]
     clear f C L;go_enter Tryz.func79,Tryz.ntmps79;go_wp2_with fail;refine mo (V.o _ (bA _ _)) fun w1 B=>?_;obtain ⟨l,A⟩:=rov B;clear B  V;have i:=rc5 l.o;go_wp2_with fail;go_ret;exact ⟨by rw [y.o];(first | rfl | (simp;done) | (simp;assumption) | (simp;omega)),A.o⟩
    ·have hi:¬ (nn:Int)=0:=by omega
     have y:Hx (fin=false):=by show _=_;rw [f];simp [h0]
     clear f;go_enter Tryz.func79,Tryz.ntmps79;go_wp2_with fail;go_ret;exact ⟨by rw [y.o];(first | rfl | (simp;done) | (simp;assumption) | (simp;omega)),bA _ _⟩
   ·have S:(decide (0<=n) && decide (n<=0))=false:=by simp;omega
    have y:Hx (fin=false):=by show _=_;rw [f];simp only [if_neg (show ¬ (2:Int)=1 by omega)];rw [Bool.and_assoc,Bool.and_assoc,Bool.and_assoc,Bool.and_assoc];cases hh:(decide (0<=n)) <;> simp [hh] at S ⊢;omega
    clear f;go_enter Tryz.func79,Tryz.ntmps79;go_wp2_with fail;go_ret;exact ⟨by rw [y.o];(first | rfl | (simp;done) | (simp;assumption) | (simp;omega)),bA _ _⟩
  have b1:(v == 1)=false:=by simpa using hk1
  have b2:(v == 2)=false:=by simpa using hk2
  obtain ⟨qk,J⟩:=nm (decide (3<=v) && decide (v<=7));have KK:Hx (∀ X,Ov w X->Ro 76 #[O zc v,O zc 3,O zc 7] X (ze qk)):=fun X _=>by rw [J];exact Bp v 3 7 X
  have E:fin=(qk && decide (n=0) && x.data.toList.isEmpty && decide (nn=2) && qa):=by
   rw [f,J];by_cases h37:3<=v/\v<=7
   ·have g1:decide (1<=v)=true:=by simp;omega
    have g2:decide (3<=v)=true:=by simp;omega
    have g3:decide (v<=7)=true:=by simp;omega
    have g4:decide (v=2)=false:=by simp;omega
    have g5:(decide (0<=n) && decide (n<=0))=decide (n=0):=by rw [Bool.eq_iff_iff];simp;omega
    rw [g1,g2,g3,g4,if_neg hk1,if_neg hk1,if_neg (show ¬ v<=2 by omega)];simp only [Bool.true_and];rw [g5];rfl
   ·have g:(decide (1<=v) && decide (v<=7))=false:=by simp;omega
    have g':(decide (3<=v) && decide (v<=7))=false:=by simp;omega
    rw [g,g'];simp
  have W:=Aa E;clear f E J hk1 hk2 L;go_enter Tryz.func79,Tryz.ntmps79;go_wp2_with fail;refine mo (KK.o _ (bA _ _)) fun w1 B=>?_;obtain ⟨l,A⟩:=rov B;clear B  KK;cases qk
  case' true=>
   by_cases h1:n=0
   case' pos=>
    subst h1;by_cases h2:x.data.toList=[]
    case' pos=>
     obtain rfl:=An h2;clear h2;by_cases h3:nn=2
     case' pos=>
      subst h3;obtain ⟨b,off,rfl,x0,x1,x2,x3,x4,x5,x6,y0,y1,y2,y3,y4,y5,y6,p0,p1,hz,R,Q,rfl⟩:=H2.o rfl;have U:=Aa R;have T:=Aa Q;have HZ:=Aa hz;clear hz R Q;obtain ⟨z0,z1,z2,z3,z4,z5,z6,z7,z8,Z⟩:=HZ.o.ten A.o;have i:=rc5 l.o;go_wp2_with fail;refine mo (U.o _ A.o) fun w2 B=>?_;replace A:=Aa (Ab A.o B);replace l:=Aa (l.o.over B);clear B i U z0 z1 z2 z3 z4 z5 z6 z7 z8 Z;cases p0
      case' true=>
       obtain ⟨z0,z1,z2,z3,z4,z5,z6,z7,z8,Z⟩:=HZ.o.ten A.o;have i:=rc5 l.o;go_wp2_with fail;refine mo (T.o _ A.o) fun w3 B=>?_;replace A:=Aa (Ab A.o B);replace l:=Aa (l.o.over B);clear B i T z0 z1 z2 z3 z4 z5 z6 z7 z8 Z;have y:Hx (fin=p1):=by have h:=W.o;simp at h;exact h
       have i:=rc5 l.o;go_wp2_with fail;go_ret;exact ⟨by rw [y.o];(first | rfl | (simp;done) | (simp;assumption) | (simp;omega)),A.o⟩
     case' neg=>
      have hi:¬ (nn:Int)=2:=by omega
      have y:Hx (fin=false):=by have h:=W.o;simp [h3] at h;exact h
      have i:=rc5 l.o;go_wp2_with fail;go_ret;exact ⟨by rw [y.o];(first | rfl | (simp;done) | (simp;assumption) | (simp;omega)),A.o⟩
    case' neg=>
     have al:=Av h2;have F:x.data.toList.isEmpty=false:=by simpa using h2
     have y:Hx (fin=false):=by have h:=W.o;rw [F] at h;simp at h;exact h
     clear F h2;have i:=rc5 l.o;go_wp2_with fail;go_ret;exact ⟨by rw [y.o];(first | rfl | (simp;done) | (simp;assumption) | (simp;omega)),A.o⟩
   case' neg=>
    have y:Hx (fin=false):=by have h:=W.o;simp [h1] at h;exact h
    have i:=rc5 l.o;go_wp2_with fail;go_ret;exact ⟨by rw [y.o];(first | rfl | (simp;done) | (simp;assumption) | (simp;omega)),A.o⟩
  all_goals
   have y:Hx (fin=false):=by have h:=W.o;simp at h;exact h
   have i:=rc5 l.o;go_wp2_with fail;go_ret;exact ⟨by rw [y.o];(first | rfl | (simp;done) | (simp;assumption) | (simp;omega)),A.o⟩
end Go.Proofs.YtipngnjffjajpaaGreatDoor.Tx
