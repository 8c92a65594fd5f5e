/- The document's reader in memory: a declaration, where there are actors and ways out alone. -/
import Derived.Test.YtipngnjffjajpaaGreatDoorJ28
import Derived.Test.YtipngnjffjajpaaGreatDoorJ29
set_option linter.unusedVariables false
set_option maxHeartbeats 8000000
set_option maxRecDepth 100000
namespace Go.Proofs.YtipngnjffjajpaaGreatDoor.Tx
open Go.RowKit
open Go.Value renaming int -> I, slice -> zc, bool -> zd, pointer -> zf, agg -> zg, tuple -> zi
open Go.IntKind renaming i64 -> O
open Go.Obj renaming cells -> ze
open Go.Ending renaming returned -> zh
section
variable {rb:Nat} {tv:Value} {ts:List Tok} {en:Nat}
def QM (rb:Nat) (tv:Value) (ts:List Tok) (en:Nat) (w:World) (s:Sg) (e:Ending) (w':World):Prop:=
 (AK (tl ts s 0)=0->(∃ (kd a:Int) (x y:ByteArray) (gv:Bool) (l0:Option Addr) (l1 l2:Nat) (p0:Option Addr) (p1 p2:Nat) (b0:Option Addr) (b1 b2:Nat) (e0 e1 e2:Int) (e3:ByteArray) (q0:Option Addr) (q1 q2:Nat),e=zh (zi #[zg #[I O kd,I O a,.string x,.string y,zd gv,zc l0 l1 l2,zc p0 p1 p2,zc b0 b1 b2,I O e0,I O e1,I O e2,.string e3,zc q0 q1 q2],zd false]))/\Qo rb tv ts en w s s w') /\
 (¬ AK (tl ts s 0)=0->∃ (kd a:Int) (x y:ByteArray) (gv:Bool) (l0:Option Addr) (l1 l2:Nat) (p0:Option Addr) (p1 p2:Nat) (b0:Option Addr) (b1 b2:Nat) (e0 e1 e2:Int) (e3:ByteArray) (q0:Option Addr) (q1 q2:Nat),e=zh (zi #[zg #[I O kd,I O a,.string x,.string y,zd gv,zc l0 l1 l2,zc p0 p1 p2,zc b0 b1 b2,I O e0,I O e1,I O e2,.string e3,zc q0 q1 q2],zd true])/\Off w.heap.size none w' (fun W=>XD W (2*ts.length+3) [I O kd,I O a,.string x,.string y,zd gv,zc l0 l1 l2,zc p0 p1 p2,zc b0 b1 b2,I O e0,I O e1,I O e2,.string e3,zc q0 q1 q2] (Fp ts en s).1)/\((Fp ts en s).2.2=true\/s.1+1<=(Fp ts en s).2.1)/\Qo rb tv ts en w s (Fp ts en s).2 w')
def dU (j:Nat) (l:List UInt8):Int:=if AK l < (j:Int) then AK l else 0
theorem RJ (l:List UInt8):dU 1 l=0:=by
 unfold dU AK
 repeat' split
 all_goals first | rfl | omega
theorem RI (l:List UInt8):dU 8 l=AK l:=by
 unfold dU AK
 repeat' split
 all_goals first | rfl | omega
theorem Rg (l:List UInt8) (j:Nat) (h1:1<=j) (hj:j < 8):∃ y:ByteArray,[Value.string ⟨#[]⟩,.string ⟨#[97,99,116,111,114]⟩,.string ⟨#[103,114,97,110,116]⟩,.string ⟨#[115,112,101,97,107]⟩,.string ⟨#[105,110]⟩,.string ⟨#[111,117,116]⟩,.string ⟨#[118,97,114]⟩,.string ⟨#[102,117,110,99]⟩][j]? = some (.string y)/\(l=y.data.toList->dU (j+1) l=(j:Int))/\(¬ l=y.data.toList->dU (j+1) l=dU j l):=by
 have h:j=1\/j=2\/j=3\/j=4\/j=5\/j=6\/j=7:=by omega
 rcases h with rfl | rfl | rfl | rfl | rfl | rfl | rfl
 ·refine ⟨_,rfl,fun h=>by rw [h];decide,fun h=>?_⟩
  have a:¬ l=[97,99,116,111,114]:=h;unfold dU AK;simp only [a,if_false]
  repeat' split
  all_goals first | rfl | omega
 ·refine ⟨_,rfl,fun h=>by rw [h];decide,fun h=>?_⟩
  have a:¬ l=[103,114,97,110,116]:=h;unfold dU AK;simp only [a,if_false]
  repeat' split
  all_goals first | rfl | omega
 ·refine ⟨_,rfl,fun h=>by rw [h];decide,fun h=>?_⟩
  have a:¬ l=[115,112,101,97,107]:=h;unfold dU AK;simp only [a,if_false]
  repeat' split
  all_goals first | rfl | omega
 ·refine ⟨_,rfl,fun h=>by rw [h];decide,fun h=>?_⟩
  have a:¬ l=[105,110]:=h;unfold dU AK;simp only [a,if_false]
  repeat' split
  all_goals first | rfl | omega
 ·refine ⟨_,rfl,fun h=>by rw [h];decide,fun h=>?_⟩
  have a:¬ l=[111,117,116]:=h;unfold dU AK;simp only [a,if_false]
  repeat' split
  all_goals first | rfl | omega
 ·refine ⟨_,rfl,fun h=>by rw [h];decide,fun h=>?_⟩
  have a:¬ l=[118,97,114]:=h;unfold dU AK;simp only [a,if_false]
  repeat' split
  all_goals first | rfl | omega
 ·refine ⟨_,rfl,fun h=>by rw [h];decide,fun h=>?_⟩
  have a:¬ l=[102,117,110,99]:=h;unfold dU AK;simp only [a,if_false]
  repeat' split
  all_goals first | rfl | omega
theorem Ri (l:List UInt8) (h:¬ AK l=0):∃ (j:Nat) (y:ByteArray),AK l=(j:Int)/\j < 8/\[Value.string ⟨#[]⟩,.string ⟨#[97,99,116,111,114]⟩,.string ⟨#[103,114,97,110,116]⟩,.string ⟨#[115,112,101,97,107]⟩,.string ⟨#[105,110]⟩,.string ⟨#[111,117,116]⟩,.string ⟨#[118,97,114]⟩,.string ⟨#[102,117,110,99]⟩][j]? = some (.string y)/\y.data.toList=l:=by
 unfold AK at h ⊢;split
 ·rename_i e;exact ⟨1,_,rfl,by omega,rfl,e.symm⟩
 split
 ·rename_i e;exact ⟨2,_,rfl,by omega,rfl,e.symm⟩
 split
 ·rename_i e;exact ⟨3,_,rfl,by omega,rfl,e.symm⟩
 split
 ·rename_i e;exact ⟨4,_,rfl,by omega,rfl,e.symm⟩
 split
 ·rename_i e;exact ⟨5,_,rfl,by omega,rfl,e.symm⟩
 split
 ·rename_i e;exact ⟨6,_,rfl,by omega,rfl,e.symm⟩
 split
 ·rename_i e;exact ⟨7,_,rfl,by omega,rfl,e.symm⟩
 ·rename_i a b c d e f g
  simp only [a,b,c,d,e,f,g,if_false] at h;exact absurd trivial h
theorem Rh (l:List UInt8) (h:¬ AK l=0):l≠[]:=fun e=>h (by rw [e];decide)
theorem Qr (hall:ts.all Ao=true) (hk:∀ s,¬ AK (tl ts s 0)=0->AK (tl ts s 0)=1\/AK (tl ts s 0)=5) (s:Sg) (w:World) (h:Sd rb tv ts en s w) (hfl:s.2=false):Calls Tryz.prog 25 #[zf (some ⟨rb,0,none⟩)] w (QM rb tv ts en w s):=by
 obtain ⟨m0,a1⟩:=nm s.1;have l:Hx (Rq rb tv ts en w m0 (s) w):=by show Rq _ _ _ _ _ _ _ _;rw [a1];exact Rq.start h
 have bo:=Aa a1;have eh:=Aa hfl;have eg:=Aa hk;clear a1 h hfl hk;obtain ⟨V1,bv⟩:=nm (w.alloc (ze #[I O 0,I O 0,.string ⟨#[]⟩,.string ⟨#[]⟩,zd false,zc none 0 0,zc none 0 0,zc none 0 0,I O 0,I O 0,I O 0,.string ⟨#[]⟩,zc none 0 0] 51));obtain ⟨r,a5⟩:=nm w.heap.size;have be:=a5;have ay:Hx (w.heap.size<=r):=by show _<=_;rw [be];exact l.o.size
 have f:Hx (Bx r [I O 0,I O 0,.string ⟨#[]⟩,.string ⟨#[]⟩,zd false,zc none 0 0,zc none 0 0,zc none 0 0,I O 0,I O 0,I O 0,.string ⟨#[]⟩,zc none 0 0] V1):=by show Bx _ _ _;rw [bv,be];exact Bx.new w [I O 0,I O 0,.string ⟨#[]⟩,.string ⟨#[]⟩,zd false,zc none 0 0,zc none 0 0,zc none 0 0,I O 0,I O 0,I O 0,.string ⟨#[]⟩,zc none 0 0] 51
 replace l:Hx (Rq rb tv ts en w m0 (s) V1):=by show Rq _ _ _ _ _ _ _ _;rw [bv];exact l.o.over (bA _ _)
 go_enter Tryz.func25,Tryz.ntmps25;obtain ⟨p,hp⟩:=nm (Av ts en (s).1);have KH:Hx (Ro 28 #[zf (some ⟨rb,0,none⟩)] V1 (I O p)):=by rw [hp];exact DZ s _ l.o.st
 go_wp2_with fail;rw [<-bv,<-a5];clear be;clear a5 bv;refine KH.o.mono ?_;rintro e w2 ⟨rfl,hb⟩;clear KH;replace f:=Aa (f.o.over hb);replace l:Hx (Rq rb tv ts en w m0 (s) w2):=l.o.over hb;clear hb;have ec:=Aa hp;clear hp;obtain ⟨V3,bi⟩:=nm (w2.alloc (ze #[I O 0,I O p,.string ⟨#[]⟩,.string ⟨#[]⟩,zd false,zc none 0 0,zc none 0 0,zc none 0 0,I O 0,I O 0,I O 0,.string ⟨#[]⟩,zc none 0 0] 51));obtain ⟨J,a7⟩:=nm w2.heap.size;have a4:=a7;have ap:Hx (w.heap.size<=J):=by show _<=_;rw [a4];exact l.o.size
 have A:Hx (r < J):=by show _ < _;rw [a4];exact f.o.lt
 have c:Hx (Bx J [I O 0,I O p,.string ⟨#[]⟩,.string ⟨#[]⟩,zd false,zc none 0 0,zc none 0 0,zc none 0 0,I O 0,I O 0,I O 0,.string ⟨#[]⟩,zc none 0 0] V3):=by show Bx _ _ _;rw [bi,a4];exact Bx.new w2 [I O 0,I O p,.string ⟨#[]⟩,.string ⟨#[]⟩,zd false,zc none 0 0,zc none 0 0,zc none 0 0,I O 0,I O 0,I O 0,.string ⟨#[]⟩,zc none 0 0] 51
 replace f:Hx (Bx r [I O 0,I O 0,.string ⟨#[]⟩,.string ⟨#[]⟩,zd false,zc none 0 0,zc none 0 0,zc none 0 0,I O 0,I O 0,I O 0,.string ⟨#[]⟩,zc none 0 0] V3):=by show Bx _ _ _;rw [bi];exact f.o.over (bA _ _)
 replace l:Hx (Rq rb tv ts en w m0 (s) V3):=by show Rq _ _ _ _ _ _ _ _;rw [bi];exact l.o.over (bA _ _)
 go_upto_region 2 with fail
 rw [<-bi,<-a7];clear a4;clear a7 bi;obtain ⟨V4,a8⟩:=nm (V3.alloc (ze #[.string ⟨#[]⟩,.string ⟨#[97,99,116,111,114]⟩,.string ⟨#[103,114,97,110,116]⟩,.string ⟨#[115,112,101,97,107]⟩,.string ⟨#[105,110]⟩,.string ⟨#[111,117,116]⟩,.string ⟨#[118,97,114]⟩,.string ⟨#[102,117,110,99]⟩] 9));obtain ⟨bl,a6⟩:=nm V3.heap.size;have aw:=a6;have bp:Hx (w.heap.size<=bl):=by show _<=_;rw [aw];exact l.o.size
 have N:Hx (r < bl):=by show _ < _;rw [aw];exact f.o.lt
 have L:Hx (J < bl):=by show _ < _;rw [aw];exact c.o.lt
 have n:Hx (Bx bl [.string ⟨#[]⟩,.string ⟨#[97,99,116,111,114]⟩,.string ⟨#[103,114,97,110,116]⟩,.string ⟨#[115,112,101,97,107]⟩,.string ⟨#[105,110]⟩,.string ⟨#[111,117,116]⟩,.string ⟨#[118,97,114]⟩,.string ⟨#[102,117,110,99]⟩] V4):=by show Bx _ _ _;rw [a8,aw];exact Bx.new V3 [.string ⟨#[]⟩,.string ⟨#[97,99,116,111,114]⟩,.string ⟨#[103,114,97,110,116]⟩,.string ⟨#[115,112,101,97,107]⟩,.string ⟨#[105,110]⟩,.string ⟨#[111,117,116]⟩,.string ⟨#[118,97,114]⟩,.string ⟨#[102,117,110,99]⟩] 9
 replace f:Hx (Bx r [I O 0,I O 0,.string ⟨#[]⟩,.string ⟨#[]⟩,zd false,zc none 0 0,zc none 0 0,zc none 0 0,I O 0,I O 0,I O 0,.string ⟨#[]⟩,zc none 0 0] V4):=by show Bx _ _ _;rw [a8];exact f.o.over (bA _ _)
 replace c:Hx (Bx J [I O 0,I O p,.string ⟨#[]⟩,.string ⟨#[]⟩,zd false,zc none 0 0,zc none 0 0,zc none 0 0,I O 0,I O 0,I O 0,.string ⟨#[]⟩,zc none 0 0] V4):=by show Bx _ _ _;rw [a8];exact c.o.over (bA _ _)
 replace l:Hx (Rq rb tv ts en w m0 (s) V4):=by show Rq _ _ _ _ _ _ _ _;rw [a8];exact l.o.over (bA _ _)
 go_wp2_with fail;rw [<-a8,<-a6];clear aw;clear a6 a8;go_loopw [6] (fun i wr=>∃ (j:Nat) (kk:Int),1<=j/\j<=8/\i=I O (j:Int)/\kk=dU j (tl ts s 0)/\Rq rb tv ts en w m0 (s) wr/\Bx r [I O 0,I O 0,.string ⟨#[]⟩,.string ⟨#[]⟩,zd false,zc none 0 0,zc none 0 0,zc none 0 0,I O 0,I O 0,I O 0,.string ⟨#[]⟩,zc none 0 0] wr/\Bx J [I O kk,I O p,.string ⟨#[]⟩,.string ⟨#[]⟩,zd false,zc none 0 0,zc none 0 0,zc none 0 0,I O 0,I O 0,I O 0,.string ⟨#[]⟩,zc none 0 0] wr/\Bx bl [.string ⟨#[]⟩,.string ⟨#[97,99,116,111,114]⟩,.string ⟨#[103,114,97,110,116]⟩,.string ⟨#[115,112,101,97,107]⟩,.string ⟨#[105,110]⟩,.string ⟨#[111,117,116]⟩,.string ⟨#[118,97,114]⟩,.string ⟨#[102,117,110,99]⟩] wr) (fun i _=>8 - (intOf i).toNat)
 case atStart=>exact ⟨1,0,Nat.le_refl _,by omega,rfl,(RJ _).symm,l.o,f.o,c.o,n.o⟩
 case round=>
  obtain ⟨j,kk,cx,hj,rfl,ct,hd,a5,a7,a6⟩:=hrel;replace l:=Aa hd;replace f:=Aa a5;replace c:=Aa a7;replace n:=Aa a6;have cl:=Aa ct;clear hd a5 a7 a6 ct;by_cases hjl:j < 8
  ·have d4:(j:Int) < 8:=by omega
   obtain ⟨y,hy,cr,cq⟩:=Rg (tl ts s 0) j cx hjl;have dl:wr.cell? ⟨bl,j,none⟩=some (.string y):=n.o.row j _ hy;have HY:=Aa (And.intro cr cq);obtain ⟨t2,ci⟩:=nm (tx ts s 0);have KT:Hx (∀ X,Ov wr X->Ro 57 #[zf (some ⟨rb,0,none⟩),I O 0] X (.string t2)):=fun X hX=>by rw [ci];exact BO 0 (by omega) s X (l.o.st.below hX)
   have dp:=Aa ci;clear hy cr cq ci;by_cases hq:t2.data.toList=y.data.toList
   ·have d2:(t2.toList == y.toList)=true:=by rw [teq];simpa using hq
    have HN:Hx ((j:Int)=dU (j+1) (tl ts s 0)):=by show _=_;exact (HY.o.1 (by unfold tl;rw [<-dp.o];exact hq)).symm
    clear hq;go_wp2_with fail;refine gS (fun Wz=>Below wr.heap.size wr Wz) (Below.refl _ _).drew fun u=>?_;generalize wr.drew=W at u ⊢;refine kO 0 ?_;refine kO 2 ?_;refine kO 3 ?_;refine kO 4 ?_;refine kO 5 ?_;refine rdA 1 rfl fun K hK=>?_;go_simp;refine (KT.o _ u).mono ?_;rintro e W8 ⟨rfl,hb⟩;have a3:=Aa (Ac u hb);clear hb u KT;go_simp;refine xK hK (a3.o) fun u=>?_;clear hK K;refine kO 6 ?_;refine gE ?_
    skip
    have hb:=a3.o;clear a3 u dl;replace f:=Aa (f.o.over hb);replace c:=Aa (c.o.over hb);replace n:=Aa (n.o.over hb);replace l:Hx (Rq rb tv ts en w m0 (s) W8):=l.o.over hb;clear hb;obtain ⟨ak,aj,ai,ah,ag,af,ae,ad,ac,ab,H,G,F⟩:=AI c.o.row;obtain ⟨aa,Z,Y,V,U,T,S,R,Q,P,E,C,B⟩:=BM c.o.fz;obtain ⟨V5,a2⟩:=nm (W8.setCell ⟨J,0,none⟩ (I O (j:Int)));have g:W8.grownBy V5 (some J):=by rw [a2];exact (gst (Ah _ _))
    replace c:Hx (Bx J [I O (j:Int),I O p,.string ⟨#[]⟩,.string ⟨#[]⟩,zd false,zc none 0 0,zc none 0 0,zc none 0 0,I O 0,I O 0,I O 0,.string ⟨#[]⟩,zc none 0 0] V5):=by show Bx _ _ _;rw [a2];exact (c.o.se 0)
    replace f:=Aa (f.o.keep g (by have:=A.o;omega));replace n:=Aa (n.o.keep g (by have:=L.o;omega));replace l:=Aa (l.o.box g ap.o);clear g;go_wp2_with fail;rw [<-a2];exact ⟨⟨j+1,_,by omega,by omega,by go_num,HN.o,l.o,f.o,c.o,n.o⟩,by simp [intOf];omega⟩
   ·have d2:(t2.toList == y.toList)=false:=by rw [teq];simpa using hq
    have HN:Hx (kk=dU (j+1) (tl ts s 0)):=by show _=_;rw [cl.o];exact (HY.o.2 (by unfold tl;rw [<-dp.o];exact hq)).symm
    clear hq;go_wp2_with fail;refine gS (fun Wz=>Below wr.heap.size wr Wz) (Below.refl _ _).drew fun u=>?_;generalize wr.drew=W at u ⊢;refine kO 0 ?_;refine kO 2 ?_;refine kO 3 ?_;refine kO 4 ?_;refine kO 5 ?_;refine rdA 1 rfl fun K hK=>?_;go_simp;refine (KT.o _ u).mono ?_;rintro e W8 ⟨rfl,hb⟩;have a3:=Aa (Ac u hb);clear hb u KT;go_simp;refine xK hK (a3.o) fun u=>?_;clear hK K;refine kO 6 ?_;refine gE ?_
    skip
    have hb:=a3.o;clear a3 u dl;replace f:=Aa (f.o.over hb);replace c:=Aa (c.o.over hb);replace n:=Aa (n.o.over hb);replace l:Hx (Rq rb tv ts en w m0 (s) W8):=l.o.over hb;clear hb;go_wp2_with fail;exact ⟨⟨j+1,_,by omega,by omega,by go_num,HN.o,l.o,f.o,c.o,n.o⟩,by simp [intOf];omega⟩
  ·have d4:¬ (j:Int) < 8:=by omega
   have cw:j=8:=by omega
   have bt:=cl.o;rw [cw,RI] at bt;have bq:=Aa bt;clear cw bt cl hjl cx hj;by_cases hk0:kk=0
   ·subst hk0
    have ef:=Aa bq.o.symm;have b1:r≠J:=by have:=A.o;omega
    have b4:J≠r:=by have:=A.o;omega
    have b0:r≠bl:=by have:=N.o;omega
    have b2:bl≠r:=by have:=N.o;omega
    have b5:J≠bl:=by have:=L.o;omega
    have b3:bl≠J:=by have:=L.o;omega
    obtain ⟨ak,aj,ai,ah,ag,af,ae,ad,ac,ab,H,G,F⟩:=AI c.o.row;obtain ⟨aa,Z,Y,V,U,T,S,R,Q,P,E,C,B⟩:=BM c.o.fz;obtain ⟨dj,di,dh,dg,df,de,dd,dc,db,da,cc,cb,ca⟩:=AI f.o.row;obtain ⟨c9,c8,c7,c6,c5,c4,c3,c2,c1,c0,b9,b8,b7⟩:=BM f.o.fz;obtain ⟨V5,a2⟩:=nm (((((((((((((wr.setCell ⟨r,0,none⟩ (I O 0)).setCell ⟨r,1,none⟩ (I O p)).setCell ⟨r,2,none⟩ (.string ⟨#[]⟩)).setCell ⟨r,3,none⟩ (.string ⟨#[]⟩)).setCell ⟨r,4,none⟩ (zd false)).setCell ⟨r,5,none⟩ (zc none 0 0)).setCell ⟨r,6,none⟩ (zc none 0 0)).setCell ⟨r,7,none⟩ (zc none 0 0)).setCell ⟨r,8,none⟩ (I O 0)).setCell ⟨r,9,none⟩ (I O 0)).setCell ⟨r,10,none⟩ (I O 0)).setCell ⟨r,11,none⟩ (.string ⟨#[]⟩)).setCell ⟨r,12,none⟩ (zc none 0 0));have g:wr.grownBy V5 (some r):=by rw [a2];exact (gst (gst (gst (gst (gst (gst (gst (gst (gst (gst (gst (gst (gst (Ah _ _))))))))))))))
    replace f:Hx (Bx r [I O 0,I O p,.string ⟨#[]⟩,.string ⟨#[]⟩,zd false,zc none 0 0,zc none 0 0,zc none 0 0,I O 0,I O 0,I O 0,.string ⟨#[]⟩,zc none 0 0] V5):=by show Bx _ _ _;rw [a2];exact (((((((((((((f.o.se 0).se 1).se 2).se 3).se 4).se 5).se 6).se 7).se 8).se 9).se 10).se 11).se 12)
    replace c:=Aa (c.o.keep g (by have:=A.o;omega));replace n:=Aa (n.o.keep g (by have:=N.o;omega));replace l:=Aa (l.o.box g ay.o);clear g;go_wp2_with fail;refine bodyPost_ret (v:=zi #[zg #[I O 0,I O p,.string ⟨#[]⟩,.string ⟨#[]⟩,zd false,zc none 0 0,zc none 0 0,zc none 0 0,I O 0,I O 0,I O 0,.string ⟨#[]⟩,zc none 0 0],zd false]) (by simp [results,Tryz.results25,go_sem, *]) rfl ?_;rw [<-a2];refine ⟨fun _=>⟨⟨_,_,_,_,_,_,_,_,_,_,_,_,_,_,_,_,_,_,_,_,_,rfl⟩,l.o.gr,l.o.st,Nat.le_refl _⟩,fun hn=>absurd ef.o hn⟩
   ·have bh:¬ AK (tl ts s 0)=0:=by rw [<-bq.o];exact hk0
    obtain ⟨kN,y,cu,bt,hy,cp⟩:=Ri (tl ts s 0) bh;rw [<-bq.o] at cu;have cz:kN=1\/kN=5:=by have h9:=eg.o s bh;have h8:=bq.o;omega
    have ei:=Aa cz;clear cz;have dl:=n.o.row kN _ hy;have cv:(kk == 0)=false:=by simpa using hk0
    have ed:=Aa (Rh _ bh);have eb:=Aa cp;have dq:=Aa bh;subst cu;have el:(kN:Int) < 8:=by omega
    obtain ⟨ch,bf⟩:=nm (Fp ts en s);have ce:=Aa bf;have M:Hx (ch=(fun a:ByteArray × Sg=>if (kN:Int)=7 then PR ts en p a.1 a.2 else if (kN:Int)=2 then (fun b:ByteArray × Sg=>FN ts en 2 p a.1 b.1 false b.2) (A9 ts a.2) else FN ts en (kN:Int) p a.1 noS (decide ((kN:Int)=4) || decide ((kN:Int)=5) || (decide ((kN:Int)=6) && decide (tl ts a.2 0=[123]))) a.2) (A9 ts (AB ts (tl ts s 0) s))):=by show _=_;rw [bf,ec.o,bq.o];rfl
    clear bf bh hy cp;obtain ⟨s1,a0⟩:=nm (AB ts (tl ts s 0) s);have KN:=Aa (BX y (tl ts s 0) eb.o ed.o s _ l.o.st);rw [<-a0] at KN;rw [<-a0] at M;have ea:=Aa a0;clear a0;obtain ⟨ak,aj,ai,ah,ag,af,ae,ad,ac,ab,H,G,F⟩:=AI c.o.row;obtain ⟨aa,Z,Y,V,U,T,S,R,Q,P,E,C,B⟩:=BM c.o.fz;go_wp2_with fail;clear B C E P Q R S T U V Y Z aa F G H ab ac ad ae af ag ah ai aj ak;refine KN.o.mono ?_;rintro e w5 ⟨rfl,hq⟩;clear KN;have hg:=hq.1;replace f:=bkp f l.o.rlt ay hg;replace c:=bkp c l.o.rlt ap hg;replace n:=bkp n l.o.rlt bp hg;replace l:Hx (Rq rb tv ts en w m0 (s1) w5):=Qo.rq l.o hq;clear hg hq;have a0:s1=(s.1+1,false):=by rw [ea.o];exact Fx eh.o rfl
    obtain ⟨m0,a1⟩:=nm (s.1+1);replace l:Hx (Rq rb tv ts en w m0 (s1) w5):=⟨l.o.st0,l.o.st,l.o.gr,by rw [a1,a0];exact Nat.le_refl _⟩;replace bo:=Aa a1;clear a1 a0 cv dl;obtain ⟨px,cj⟩:=nm (A9 ts s1);obtain ⟨x,s2⟩:=px;have KM:=Aa (Es hall s1 _ l.o.st);rw [<-cj] at KM M;dsimp only at KM M;have eu:=Aa cj;clear cj;go_wp2_with fail;refine KM.o.mono ?_;rintro e w6 ⟨rfl,hq⟩;clear KM;have hg:=hq.1;replace f:=bkp f l.o.rlt ay hg;replace c:=bkp c l.o.rlt ap hg;replace n:=bkp n l.o.rlt bp hg;replace l:Hx (Rq rb tv ts en w m0 (s2) w6):=Qo.rq l.o hq;clear hg hq;obtain ⟨ak,aj,ai,ah,ag,af,ae,ad,ac,ab,H,G,F⟩:=AI c.o.row;obtain ⟨aa,Z,Y,V,U,T,S,R,Q,P,E,C,B⟩:=BM c.o.fz;obtain ⟨V7,bu⟩:=nm (w6.setCell ⟨J,2,none⟩ (.string x));have g:w6.grownBy V7 (some J):=by rw [bu];exact (gst (Ah _ _))
    replace c:Hx (Bx J [I O (kN:Int),I O p,.string x,.string ⟨#[]⟩,zd false,zc none 0 0,zc none 0 0,zc none 0 0,I O 0,I O 0,I O 0,.string ⟨#[]⟩,zc none 0 0] V7):=by show Bx _ _ _;rw [bu];exact (c.o.se 2)
    replace f:=Aa (f.o.keep g (by have:=A.o;omega));replace n:=Aa (n.o.keep g (by have:=L.o;omega));replace l:=Aa (l.o.box g ap.o);clear g
    go_upto_region 12 with fail
    rw [<-bu];clear B C E P Q R S T U V Y Z aa F G H ab ac ad ae af ag ah ai aj ak;clear bu;rcases ei.o with rfl | rfl
    ·rw [if_neg (by decide),if_neg (by decide)] at M
     replace c:Hx (Bx J [I O 1,I O p,.string x,.string ⟨#[]⟩,zd false,zc none 0 0,zc none 0 0,zc none 0 0,I O 0,I O 0,I O 0,.string ⟨#[]⟩,zc none 0 0] V7):=c.o;have hr:=M.o;unfold FN at hr;rw [if_neg (by simp)] at hr;replace M:Hx (ch=_):=hr;clear hr;obtain ⟨ak,aj,ai,ah,ag,af,ae,ad,ac,ab,H,G,F⟩:=AI c.o.row;obtain ⟨aa,Z,Y,V,U,T,S,R,Q,P,E,C,B⟩:=BM c.o.fz;obtain ⟨V8,au⟩:=nm (V7.setCell ⟨J,4,none⟩ (zd false));have g:V7.grownBy V8 (some J):=by rw [au];exact (gst (Ah _ _))
     replace c:Hx (Bx J [I O 1,I O p,.string x,.string ⟨#[]⟩,zd false,zc none 0 0,zc none 0 0,zc none 0 0,I O 0,I O 0,I O 0,.string ⟨#[]⟩,zc none 0 0] V8):=by show Bx _ _ _;rw [au];exact (c.o.se 4)
     replace f:=Aa (f.o.keep g (by have:=A.o;omega));replace n:=Aa (n.o.keep g (by have:=L.o;omega));replace l:=Aa (l.o.box g ap.o);clear g;obtain ⟨s6,ar⟩:=nm (AB ts [59] s2);have KN:=Aa (BX ⟨#[59]⟩ [59] rfl (by decide) s2 _ l.o.st);rw [<-ar] at KN;rw [<-ar] at M;have d9:=Aa ar;clear ar;go_wp2_with fail;rw [<-au];clear B C E P Q R S T U V Y Z aa F G H ab ac ad ae af ag ah ai aj ak;clear au;refine KN.o.mono ?_;rintro e w9 ⟨rfl,hq⟩;clear KN;have hg:=hq.1;replace f:=bkp f l.o.rlt ay hg;replace c:=bkp c l.o.rlt ap hg;replace n:=bkp n l.o.rlt bp hg;replace l:Hx (Rq rb tv ts en w m0 (s6) w9):=Qo.rq l.o hq;clear hg hq;have b1:r≠J:=by have:=A.o;omega
     have b4:J≠r:=by have:=A.o;omega
     have b0:r≠bl:=by have:=N.o;omega
     have b2:bl≠r:=by have:=N.o;omega
     have b5:J≠bl:=by have:=L.o;omega
     have b3:bl≠J:=by have:=L.o;omega
     obtain ⟨ak,aj,ai,ah,ag,af,ae,ad,ac,ab,H,G,F⟩:=AI c.o.row;obtain ⟨aa,Z,Y,V,U,T,S,R,Q,P,E,C,B⟩:=BM c.o.fz;obtain ⟨dj,di,dh,dg,df,de,dd,dc,db,da,cc,cb,ca⟩:=AI f.o.row;obtain ⟨c9,c8,c7,c6,c5,c4,c3,c2,c1,c0,b9,b8,b7⟩:=BM f.o.fz;obtain ⟨bk,al⟩:=nm (((((((((((((w9.setCell ⟨r,0,none⟩ (I O 1)).setCell ⟨r,1,none⟩ (I O p)).setCell ⟨r,2,none⟩ (.string x)).setCell ⟨r,3,none⟩ (.string ⟨#[]⟩)).setCell ⟨r,4,none⟩ (zd false)).setCell ⟨r,5,none⟩ (zc none 0 0)).setCell ⟨r,6,none⟩ (zc none 0 0)).setCell ⟨r,7,none⟩ (zc none 0 0)).setCell ⟨r,8,none⟩ (I O 0)).setCell ⟨r,9,none⟩ (I O 0)).setCell ⟨r,10,none⟩ (I O 0)).setCell ⟨r,11,none⟩ (.string ⟨#[]⟩)).setCell ⟨r,12,none⟩ (zc none 0 0));have g:w9.grownBy bk (some r):=by rw [al];exact (gst (gst (gst (gst (gst (gst (gst (gst (gst (gst (gst (gst (gst (Ah _ _))))))))))))))
     replace f:Hx (Bx r [I O 1,I O p,.string x,.string ⟨#[]⟩,zd false,zc none 0 0,zc none 0 0,zc none 0 0,I O 0,I O 0,I O 0,.string ⟨#[]⟩,zc none 0 0] bk):=by show Bx _ _ _;rw [al];exact (((((((((((((f.o.se 0).se 1).se 2).se 3).se 4).se 5).se 6).se 7).se 8).se 9).se 10).se 11).se 12)
     replace c:=Aa (c.o.keep g (by have:=A.o;omega));replace n:=Aa (n.o.keep g (by have:=N.o;omega));replace l:=Aa (l.o.box g ay.o);clear g;go_wp2_with fail;refine bodyPost_ret (v:=zi #[zg #[I O 1,I O p,.string x,.string ⟨#[]⟩,zd false,zc none 0 0,zc none 0 0,zc none 0 0,I O 0,I O 0,I O 0,.string ⟨#[]⟩,zc none 0 0],zd true]) (by simp [results,Tryz.results25,go_sem, *]) rfl ?_;rw [<-al];refine ⟨fun hz=>absurd hz dq.o,fun _=>?_⟩;rw [<-ce.o,M.o];refine ⟨_,_,_,_,_,_,_,_,_,_,_,_,_,_,_,_,_,_,_,_,_,rfl,fun W hW=>?_,Or.inr (by have h1:=l.o.le;have h2:=bo.o;show s.1+1<=_;dsimp only at h1 ⊢;omega),l.o.gr,l.o.st,by have h1:=l.o.le;have h2:=bo.o;show s.1<=_;dsimp only at h1 ⊢;omega⟩;exact ⟨1,p,x,⟨#[]⟩,false,_,[],_,[],_,[],_,_,_,_,_,noE,rfl,rfl,LS.nil,LS.nil,LS.nil,XE.none W⟩
    ·rw [if_neg (by decide),if_neg (by decide)] at M
     replace c:Hx (Bx J [I O 5,I O p,.string x,.string ⟨#[]⟩,zd false,zc none 0 0,zc none 0 0,zc none 0 0,I O 0,I O 0,I O 0,.string ⟨#[]⟩,zc none 0 0] V7):=c.o;have hr:=M.o;unfold FN at hr;rw [if_pos (by simp)] at hr;replace M:Hx (ch=_):=hr;clear hr;obtain ⟨ak,aj,ai,ah,ag,af,ae,ad,ac,ab,H,G,F⟩:=AI c.o.row;obtain ⟨aa,Z,Y,V,U,T,S,R,Q,P,E,C,B⟩:=BM c.o.fz;obtain ⟨V8,au⟩:=nm (V7.setCell ⟨J,4,none⟩ (zd true));have g:V7.grownBy V8 (some J):=by rw [au];exact (gst (Ah _ _))
     replace c:Hx (Bx J [I O 5,I O p,.string x,.string ⟨#[]⟩,zd true,zc none 0 0,zc none 0 0,zc none 0 0,I O 0,I O 0,I O 0,.string ⟨#[]⟩,zc none 0 0] V8):=by show Bx _ _ _;rw [au];exact (c.o.se 4)
     replace f:=Aa (f.o.keep g (by have:=A.o;omega));replace n:=Aa (n.o.keep g (by have:=L.o;omega));replace l:=Aa (l.o.box g ap.o);clear g;obtain ⟨d0,b6⟩:=nm (Ip ts en s2);have KL:=Aa (Pg hall s2 _ l.o.st);rw [<-b6] at KL M;obtain ⟨lb,s5⟩:=d0;dsimp only at M;clear b6;go_wp2_with fail;rw [<-au];clear B C E P Q R S T U V Y Z aa F G H ab ac ad ae af ag ah ai aj ak;clear au;obtain ⟨bs,aq⟩:=nm V8.heap.size;have bn:Hx (w.heap.size<=bs):=by show _<=_;rw [aq];exact l.o.size
     have bw:Hx (r < bs):=by show _ < _;rw [aq];exact f.o.lt
     have bz:Hx (J < bs):=by show _ < _;rw [aq];exact c.o.lt
     have dw:Hx (bl < bs):=by show _ < _;rw [aq];exact n.o.lt
     refine KL.o.mono ?_;rintro e w9 ⟨bb,ba,rfl,ax,-,hq⟩;dsimp only at ax hq;rw [<-aq] at ax;obtain ⟨a9,bg⟩:=nm lb.length;rw [<-bg] at ax;try dsimp only
     rw [<-bg];have an:=Aa ax;clear KL ax aq bg;have hg:=hq.1;replace f:=bkp f l.o.rlt ay hg;replace c:=bkp c l.o.rlt ap hg;replace n:=bkp n l.o.rlt bp hg;replace l:Hx (Rq rb tv ts en w m0 (s5) w9):=Qo.rq l.o hq;clear hg hq;obtain ⟨ak,aj,ai,ah,ag,af,ae,ad,ac,ab,H,G,F⟩:=AI c.o.row;obtain ⟨aa,Z,Y,V,U,T,S,R,Q,P,E,C,B⟩:=BM c.o.fz;obtain ⟨bk,al⟩:=nm (w9.setCell ⟨J,5,none⟩ (zc bb a9 ba));have g:w9.grownBy bk (some J):=by rw [al];exact (gst (Ah _ _))
     replace c:Hx (Bx J [I O 5,I O p,.string x,.string ⟨#[]⟩,zd true,zc bb a9 ba,zc none 0 0,zc none 0 0,I O 0,I O 0,I O 0,.string ⟨#[]⟩,zc none 0 0] bk):=by show Bx _ _ _;rw [al];exact (c.o.se 5)
     replace f:=Aa (f.o.keep g (by have:=A.o;omega));replace n:=Aa (n.o.keep g (by have:=L.o;omega));replace l:=Aa (l.o.box g ap.o);replace an:=Aa (an.o.keep g bz.o);clear g;obtain ⟨s6,ar⟩:=nm (AB ts [59] s5);have KN:=Aa (BX ⟨#[59]⟩ [59] rfl (by decide) s5 _ l.o.st);rw [<-ar] at KN;rw [<-ar] at M;have d9:=Aa ar;clear ar;go_wp2_with fail;rw [<-al];clear B C E P Q R S T U V Y Z aa F G H ab ac ad ae af ag ah ai aj ak;clear al;refine KN.o.mono ?_;rintro e cg ⟨rfl,hq⟩;clear KN;have hg:=hq.1;replace f:=bkp f l.o.rlt ay hg;replace c:=bkp c l.o.rlt ap hg;replace n:=bkp n l.o.rlt bp hg;replace an:=Aa (an.o.keep hg (by have:=l.o.rlt;have:=bn.o;omega));replace l:Hx (Rq rb tv ts en w m0 (s6) cg):=Qo.rq l.o hq;clear hg hq;have b1:r≠J:=by have:=A.o;omega
     have b4:J≠r:=by have:=A.o;omega
     have b0:r≠bl:=by have:=N.o;omega
     have b2:bl≠r:=by have:=N.o;omega
     have b5:J≠bl:=by have:=L.o;omega
     have b3:bl≠J:=by have:=L.o;omega
     obtain ⟨ak,aj,ai,ah,ag,af,ae,ad,ac,ab,H,G,F⟩:=AI c.o.row;obtain ⟨aa,Z,Y,V,U,T,S,R,Q,P,E,C,B⟩:=BM c.o.fz;obtain ⟨dj,di,dh,dg,df,de,dd,dc,db,da,cc,cb,ca⟩:=AI f.o.row;obtain ⟨c9,c8,c7,c6,c5,c4,c3,c2,c1,c0,b9,b8,b7⟩:=BM f.o.fz;obtain ⟨dn,bj⟩:=nm (((((((((((((cg.setCell ⟨r,0,none⟩ (I O 5)).setCell ⟨r,1,none⟩ (I O p)).setCell ⟨r,2,none⟩ (.string x)).setCell ⟨r,3,none⟩ (.string ⟨#[]⟩)).setCell ⟨r,4,none⟩ (zd true)).setCell ⟨r,5,none⟩ (zc bb a9 ba)).setCell ⟨r,6,none⟩ (zc none 0 0)).setCell ⟨r,7,none⟩ (zc none 0 0)).setCell ⟨r,8,none⟩ (I O 0)).setCell ⟨r,9,none⟩ (I O 0)).setCell ⟨r,10,none⟩ (I O 0)).setCell ⟨r,11,none⟩ (.string ⟨#[]⟩)).setCell ⟨r,12,none⟩ (zc none 0 0));have g:cg.grownBy dn (some r):=by rw [bj];exact (gst (gst (gst (gst (gst (gst (gst (gst (gst (gst (gst (gst (gst (Ah _ _))))))))))))))
     replace f:Hx (Bx r [I O 5,I O p,.string x,.string ⟨#[]⟩,zd true,zc bb a9 ba,zc none 0 0,zc none 0 0,I O 0,I O 0,I O 0,.string ⟨#[]⟩,zc none 0 0] dn):=by show Bx _ _ _;rw [bj];exact (((((((((((((f.o.se 0).se 1).se 2).se 3).se 4).se 5).se 6).se 7).se 8).se 9).se 10).se 11).se 12)
     replace c:=Aa (c.o.keep g (by have:=A.o;omega));replace n:=Aa (n.o.keep g (by have:=N.o;omega));replace l:=Aa (l.o.box g ay.o);replace an:=Aa (an.o.keep g bw.o);clear g;go_wp2_with fail;refine bodyPost_ret (v:=zi #[zg #[I O 5,I O p,.string x,.string ⟨#[]⟩,zd true,zc bb a9 ba,zc none 0 0,zc none 0 0,I O 0,I O 0,I O 0,.string ⟨#[]⟩,zc none 0 0],zd true]) (by simp [results,Tryz.results25,go_sem, *]) rfl ?_;rw [<-bj];refine ⟨fun hz=>absurd hz dq.o,fun _=>?_⟩;rw [<-ce.o,M.o];refine ⟨_,_,_,_,_,_,_,_,_,_,_,_,_,_,_,_,_,_,_,_,_,rfl,fun W hW=>?_,Or.inr (by have h1:=l.o.le;have h2:=bo.o;show s.1+1<=_;dsimp only at h1 ⊢;omega),l.o.gr,l.o.st,by have h1:=l.o.le;have h2:=bo.o;show s.1<=_;dsimp only at h1 ⊢;omega⟩;exact ⟨5,p,x,⟨#[]⟩,true,_,lb,_,[],_,[],_,_,_,_,_,noE,rfl,rfl,(an.o.base bn.o) W hW,LS.nil,LS.nil,XE.none W⟩
end
end Go.Proofs.YtipngnjffjajpaaGreatDoor.Tx
