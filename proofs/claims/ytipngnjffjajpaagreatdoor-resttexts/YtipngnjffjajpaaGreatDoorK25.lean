/- The document's reader in memory: a declaration. -/
import Derived.Test.YtipngnjffjajpaaGreatDoorK23
import Derived.Test.YtipngnjffjajpaaGreatDoorK24
set_option linter.unusedVariables false
set_option maxHeartbeats 8000000
set_option maxRecDepth 100000
namespace Go.Proofs.YtipngnjffjajpaaGreatDoor.Tx
open Go.RowKit
open Go.Value renaming int -> O, slice -> zd, bool -> ze, agg -> zf, pointer -> zh, tuple -> zj
open Go.IntKind renaming i64 -> zc
open Go.Obj renaming cells -> zg
open Go.Ending renaming returned -> zi
section
variable {rb:Nat} {tv:Value} {ts:List Tok} {en:Nat}
def RH (rb:Nat) (tv:Value) (ts:List Tok) (en:Nat) (w:World) (s:Sg) (e:Ending) (w':World):Prop:=
 (AN (tl ts s 0)=0->(∃ (kd a:Int) (x y:ByteArray) (gv:Bool) (l0:Option Addr) (l1 l2:Nat) (p0:Option Addr) (p1 p2:Nat) (b0:Option Addr) (b1 b2:Nat) (e0 e1 e2:Int) (e3:ByteArray) (q0:Option Addr) (q1 q2:Nat),e=zi (zj #[zf #[O zc kd,O zc a,.string x,.string y,ze gv,zd l0 l1 l2,zd p0 p1 p2,zd b0 b1 b2,O zc e0,O zc e1,O zc e2,.string e3,zd q0 q1 q2],ze false]))/\Qo rb tv ts en w s s w') /\
 (¬ AN (tl ts s 0)=0->∃ (kd a:Int) (x y:ByteArray) (gv:Bool) (l0:Option Addr) (l1 l2:Nat) (p0:Option Addr) (p1 p2:Nat) (b0:Option Addr) (b1 b2:Nat) (e0 e1 e2:Int) (e3:ByteArray) (q0:Option Addr) (q1 q2:Nat),e=zi (zj #[zf #[O zc kd,O zc a,.string x,.string y,ze gv,zd l0 l1 l2,zd p0 p1 p2,zd b0 b1 b2,O zc e0,O zc e1,O zc e2,.string e3,zd q0 q1 q2],ze true])/\Off w.heap.size none w' (fun W=>XD W (2*ts.length+3) [O zc kd,O zc a,.string x,.string y,ze gv,zd l0 l1 l2,zd p0 p1 p2,zd b0 b1 b2,O zc e0,O zc e1,O zc e2,.string e3,zd q0 q1 q2] (Ep ts en s).1)/\((Ep ts en s).2.2=true\/s.1+1<=(Ep ts en s).2.1)/\Qo rb tv ts en w s (Ep ts en s).2 w')
def dU (j:Nat) (l:List UInt8):Int:=if AN l < (j:Int) then AN l else 0
theorem SA (l:List UInt8):dU 1 l=0:=by
 unfold dU AN
 repeat' split
 all_goals first | rfl | omega
theorem Sz (l:List UInt8):dU 8 l=AN l:=by
 unfold dU AN
 repeat' split
 all_goals first | rfl | omega
theorem R7 (l:List UInt8) (j:Nat) (h1:1<=j) (hj:j < 8):∃ y:ByteArray,[Value.string ⟨#[]⟩,.string ⟨#[97,99,116,111,114]⟩,.string ⟨#[103,114,97,110,116]⟩,.string ⟨#[115,112,101,97,107]⟩,.string ⟨#[105,110]⟩,.string ⟨#[111,117,116]⟩,.string ⟨#[118,97,114]⟩,.string ⟨#[102,117,110,99]⟩][j]? = some (.string y)/\(l=y.data.toList->dU (j+1) l=(j:Int))/\(¬ l=y.data.toList->dU (j+1) l=dU j l):=by
 have h:j=1\/j=2\/j=3\/j=4\/j=5\/j=6\/j=7:=by omega
 rcases h with rfl | rfl | rfl | rfl | rfl | rfl | rfl
 ·refine ⟨_,rfl,fun h=>by rw [h];decide,fun h=>?_⟩
  have a:¬ l=[97,99,116,111,114]:=h;unfold dU AN;simp only [a,if_false]
  repeat' split
  all_goals first | rfl | omega
 ·refine ⟨_,rfl,fun h=>by rw [h];decide,fun h=>?_⟩
  have a:¬ l=[103,114,97,110,116]:=h;unfold dU AN;simp only [a,if_false]
  repeat' split
  all_goals first | rfl | omega
 ·refine ⟨_,rfl,fun h=>by rw [h];decide,fun h=>?_⟩
  have a:¬ l=[115,112,101,97,107]:=h;unfold dU AN;simp only [a,if_false]
  repeat' split
  all_goals first | rfl | omega
 ·refine ⟨_,rfl,fun h=>by rw [h];decide,fun h=>?_⟩
  have a:¬ l=[105,110]:=h;unfold dU AN;simp only [a,if_false]
  repeat' split
  all_goals first | rfl | omega
 ·refine ⟨_,rfl,fun h=>by rw [h];decide,fun h=>?_⟩
  have a:¬ l=[111,117,116]:=h;unfold dU AN;simp only [a,if_false]
  repeat' split
  all_goals first | rfl | omega
 ·refine ⟨_,rfl,fun h=>by rw [h];decide,fun h=>?_⟩
  have a:¬ l=[118,97,114]:=h;unfold dU AN;simp only [a,if_false]
  repeat' split
  all_goals first | rfl | omega
 ·refine ⟨_,rfl,fun h=>by rw [h];decide,fun h=>?_⟩
  have a:¬ l=[102,117,110,99]:=h;unfold dU AN;simp only [a,if_false]
  repeat' split
  all_goals first | rfl | omega
theorem R9 (l:List UInt8) (h:¬ AN l=0):∃ (j:Nat) (y:ByteArray),AN l=(j:Int)/\j < 8/\[Value.string ⟨#[]⟩,.string ⟨#[97,99,116,111,114]⟩,.string ⟨#[103,114,97,110,116]⟩,.string ⟨#[115,112,101,97,107]⟩,.string ⟨#[105,110]⟩,.string ⟨#[111,117,116]⟩,.string ⟨#[118,97,114]⟩,.string ⟨#[102,117,110,99]⟩][j]? = some (.string y)/\y.data.toList=l:=by
 unfold AN at h ⊢;split
 ·rename_i e;exact ⟨1,_,rfl,by omega,rfl,e.symm⟩
 split
 ·rename_i e;exact ⟨2,_,rfl,by omega,rfl,e.symm⟩
 split
 ·rename_i e;exact ⟨3,_,rfl,by omega,rfl,e.symm⟩
 split
 ·rename_i e;exact ⟨4,_,rfl,by omega,rfl,e.symm⟩
 split
 ·rename_i e;exact ⟨5,_,rfl,by omega,rfl,e.symm⟩
 split
 ·rename_i e;exact ⟨6,_,rfl,by omega,rfl,e.symm⟩
 split
 ·rename_i e;exact ⟨7,_,rfl,by omega,rfl,e.symm⟩
 ·rename_i a b c d e f g
  simp only [a,b,c,d,e,f,g,if_false] at h;exact absurd trivial h
theorem R8 (l:List UInt8) (h:¬ AN l=0):l≠[]:=fun e=>h (by rw [e];decide)
theorem Iz (g:Nat) (acc:List ByteArray) (s:Sg) (h:s.2=true\/tl ts s 0=[41]):CA ts g acc s=(acc,s):=by
 cases g with
 | zero=>rfl
 | succ g=>
  rw [CA,if_neg];rintro ⟨a,b⟩;rcases h with h | h
  ·rw [h] at a;cases a
  ·exact b h
theorem MR (g:Nat) (acc:List ByteArray) (s:Sg) (h:s.2=false) (h2:¬ tl ts s 0=[41]):CA ts (g+1) acc s=CA ts g (acc++[(AD ts (if 0 < acc.length then Ak ts [44] s else s)).1]) (AD ts (if 0 < acc.length then Ak ts [44] s else s)).2:=by
 rw [CA,if_pos ⟨h,h2⟩]
theorem P0 (s:Sg):(AD ts s).2.2=true\/s.1+1<=(AD ts s).2.1:=by
 unfold AD;split
 ·exact Or.inr (Nat.le_refl _)
 ·exact Or.inl rfl
theorem Rk (hall:ts.all Ai=true) (s:Sg) (w:World) (h:Sd rb tv ts en s w) (hfl:s.2=false):Calls Tryz.prog 25 #[zh (some ⟨rb,0,none⟩)] w (RH rb tv ts en w s):=by
 obtain ⟨m0,cl⟩:=nm s.1;have l:=qst cl h;have au:=Aa cl;have h8:=Aa hfl;clear cl h hfl;obtain ⟨V1,dx⟩:=nm (w.alloc (zg #[O zc 0,O zc 0,.string ⟨#[]⟩,.string ⟨#[]⟩,ze false,zd none 0 0,zd none 0 0,zd none 0 0,O zc 0,O zc 0,O zc 0,.string ⟨#[]⟩,zd none 0 0] 51));obtain ⟨br,bq⟩:=nm w.heap.size;have U:=zsq l bq;have f:=A1 bq dx;replace l:=zqo l dx;go_enter Tryz.func25,Tryz.ntmps25;obtain ⟨p,hp⟩:=nm (Al ts en (s).1);have KH:=zhq l hp;go_wp2_with fail;rw [<-dx,<-bq];clear bq dx;refine mo KH.o fun w2 hb=>?_;clear KH;replace f:=Aa (f.o.over hb);replace l:=Aa (l.o.over hb);clear hb;have ht:=Aa hp;clear hp;obtain ⟨V3,di⟩:=nm (w2.alloc (zg #[O zc 0,O zc p,.string ⟨#[]⟩,.string ⟨#[]⟩,ze false,zd none 0 0,zd none 0 0,zd none 0 0,O zc 0,O zc 0,O zc 0,.string ⟨#[]⟩,zd none 0 0] 51));obtain ⟨H,aj⟩:=nm w2.heap.size;have Q:=zsq l aj;have B:=zlb f aj;have c:=A1 aj di;replace f:=zbv f di;replace l:=zqo l di
 go_upto_region 2 with fail
 rw [<-di,<-aj];clear aj di;obtain ⟨V4,c3⟩:=nm (V3.alloc (zg #[.string ⟨#[]⟩,.string ⟨#[97,99,116,111,114]⟩,.string ⟨#[103,114,97,110,116]⟩,.string ⟨#[115,112,101,97,107]⟩,.string ⟨#[105,110]⟩,.string ⟨#[111,117,116]⟩,.string ⟨#[118,97,114]⟩,.string ⟨#[102,117,110,99]⟩] 9));obtain ⟨bl,b0⟩:=nm V3.heap.size;have a4:=zsq l b0;have T:=zlb f b0;have M:=zlb c b0;have A:=A1 b0 c3;replace f:=zbv f c3;replace c:=zbv c c3;replace l:=zqo l c3;go_wp2_with fail;rw [<-c3,<-b0];clear b0 c3;go_loopw [6] (fun i wr=>∃ (j:Nat) (kk:Int),1<=j/\j<=8/\i=O zc (j:Int)/\kk=dU j (tl ts s 0)/\Rq rb tv ts en w m0 (s) wr/\Bx br [O zc 0,O zc 0,.string ⟨#[]⟩,.string ⟨#[]⟩,ze false,zd none 0 0,zd none 0 0,zd none 0 0,O zc 0,O zc 0,O zc 0,.string ⟨#[]⟩,zd none 0 0] wr/\Bx H [O zc kk,O zc p,.string ⟨#[]⟩,.string ⟨#[]⟩,ze false,zd none 0 0,zd none 0 0,zd none 0 0,O zc 0,O zc 0,O zc 0,.string ⟨#[]⟩,zd none 0 0] wr/\Bx bl [.string ⟨#[]⟩,.string ⟨#[97,99,116,111,114]⟩,.string ⟨#[103,114,97,110,116]⟩,.string ⟨#[115,112,101,97,107]⟩,.string ⟨#[105,110]⟩,.string ⟨#[111,117,116]⟩,.string ⟨#[118,97,114]⟩,.string ⟨#[102,117,110,99]⟩] wr) (fun i _=>8 - (intOf i).toNat)
 case atStart=>exact ⟨1,0,Nat.le_refl _,by omega,rfl,(SA _).symm,l.o,f.o,c.o,A.o⟩
 case round=>
  obtain ⟨j,kk,f4,hj,rfl,cd,hd,bq,aj,b0⟩:=hrel;replace l:=Aa hd;replace f:=Aa bq;replace c:=Aa aj;replace A:=Aa b0;have ey:=Aa cd;clear hd bq aj b0 cd;by_cases hjl:j < 8
  ·have gy:(j:Int) < 8:=by omega
   obtain ⟨y,hy,fs,fq⟩:=R7 (tl ts s 0) j f4 hjl;have dl:wr.cell? ⟨bl,j,none⟩=some (.string y):=A.o.row j _ hy;have HY:=Aa (And.intro fs fq);obtain ⟨t2,ei⟩:=nm (tx ts s 0);have KT:Hx (∀ X,Ov wr X->Ro 57 #[zh (some ⟨rb,0,none⟩),O zc 0] X (.string t2)):=fun X hX=>by rw [ei];exact Fo 0 (by omega) s X (l.o.st.below hX)
   have f9:=Aa ei;clear hy fs fq ei;by_cases hq:t2.data.toList=y.data.toList
   ·have gv:(t2.toList == y.toList)=true:=by rw [teq];simpa using hq
    have HN:Hx ((j:Int)=dU (j+1) (tl ts s 0)):=by show _=_;exact (HY.o.1 (by unfold tl;rw [<-f9.o];exact hq)).symm
    clear hq;go_wp2_with fail;refine gS (fun Wz=>Below wr.heap.size wr Wz) (Below.refl _ _).drew fun C=>?_;generalize wr.drew=W at C ⊢;refine kO 0 ?_;refine kO 2 ?_;refine kO 3 ?_;refine kO 4 ?_;refine kO 5 ?_;refine rdA 1 rfl fun K hK=>?_;go_simp;refine mo (KT.o _ C) fun W8 hb=>?_;have cv:=Aa (Ab C hb);clear hb C KT;go_simp;refine xK hK (cv.o) fun C=>?_;clear hK K;refine kO 6 ?_;refine gE ?_
    skip
    have hb:=cv.o;clear cv C dl;replace f:=Aa (f.o.over hb);replace c:=Aa (c.o.over hb);replace A:=Aa (A.o.over hb);replace l:=Aa (l.o.over hb);clear hb;have F:=Ad.all c.o.row;have I:=c.o.fz;obtain ⟨V5,ch⟩:=nm (W8.setCell ⟨H,0,none⟩ (O zc (j:Int)));have n:=gsv ch;replace c:=zs0 c ch;replace f:=zkl f n B;replace A:=zkg A n M;replace l:=Aa (l.o.box n Q.o);clear n;go_wp2_with fail;rw [<-ch];exact ⟨⟨j+1,_,by omega,by omega,by go_num,HN.o,l.o,f.o,c.o,A.o⟩,by simp [intOf];omega⟩
   ·have gv:(t2.toList == y.toList)=false:=by rw [teq];simpa using hq
    have HN:Hx (kk=dU (j+1) (tl ts s 0)):=by show _=_;rw [ey.o];exact (HY.o.2 (by unfold tl;rw [<-f9.o];exact hq)).symm
    clear hq;go_wp2_with fail;refine gS (fun Wz=>Below wr.heap.size wr Wz) (Below.refl _ _).drew fun C=>?_;generalize wr.drew=W at C ⊢;refine kO 0 ?_;refine kO 2 ?_;refine kO 3 ?_;refine kO 4 ?_;refine kO 5 ?_;refine rdA 1 rfl fun K hK=>?_;go_simp;refine mo (KT.o _ C) fun W8 hb=>?_;have cv:=Aa (Ab C hb);clear hb C KT;go_simp;refine xK hK (cv.o) fun C=>?_;clear hK K;refine kO 6 ?_;refine gE ?_
    skip
    have hb:=cv.o;clear cv C dl;replace f:=Aa (f.o.over hb);replace c:=Aa (c.o.over hb);replace A:=Aa (A.o.over hb);replace l:=Aa (l.o.over hb);clear hb;go_wp2_with fail;exact ⟨⟨j+1,_,by omega,by omega,by go_num,HN.o,l.o,f.o,c.o,A.o⟩,by simp [intOf];omega⟩
  ·have gy:¬ (j:Int) < 8:=by omega
   have f3:j=8:=by omega
   have dv:=ey.o;rw [f3,Sz] at dv;have d3:=Aa dv;clear f3 dv ey hjl f4 hj;by_cases hk0:kk=0
   ·subst hk0
    have h3:=Aa d3.o.symm;have bc:br≠H:=by have:=B.o;omega
    have be:H≠br:=by have:=B.o;omega
    have bs:br≠bl:=by have:=T.o;omega
    have bt:bl≠br:=by have:=T.o;omega
    have bv:H≠bl:=by have:=M.o;omega
    have bu:bl≠H:=by have:=M.o;omega
    have F:=Ad.all c.o.row;have I:=c.o.fz;have cn:=Ad.all f.o.row;have cm:=f.o.fz;obtain ⟨V5,ch⟩:=nm (setz br wr [(0,O zc 0),(1,O zc p),(2,.string ⟨#[]⟩),(3,.string ⟨#[]⟩),(4,ze false),(5,zd none 0 0),(6,zd none 0 0),(7,zd none 0 0),(8,O zc 0),(9,O zc 0),(10,O zc 0),(11,.string ⟨#[]⟩),(12,zd none 0 0)]);have n:=Ap ch;replace f:=zzs f ch rfl;dsimp only [BA,List.set] at f;simp only [setz] at ch;replace c:=zkg c n B;replace A:=zkg A n T;replace l:=Aa (l.o.box n U.o);clear n;go_wp2_with fail;refine bodyPost_ret (v:=zj #[zf #[O zc 0,O zc p,.string ⟨#[]⟩,.string ⟨#[]⟩,ze false,zd none 0 0,zd none 0 0,zd none 0 0,O zc 0,O zc 0,O zc 0,.string ⟨#[]⟩,zd none 0 0],ze false]) (by simp [results,Tryz.results25,go_sem, *]) rfl ?_;rw [<-ch];refine ⟨fun _=>⟨⟨_,_,_,_,_,_,_,_,_,_,_,_,_,_,_,_,_,_,_,_,_,rfl⟩,l.o.gr,l.o.st,Nat.le_refl _⟩,fun hn=>absurd h3.o hn⟩
   ·have du:¬ AN (tl ts s 0)=0:=by rw [<-d3.o];exact hk0
    obtain ⟨kN,y,f0,dv,hy,fp⟩:=R9 (tl ts s 0) du;rw [<-d3.o] at f0;have dl:=A.o.row kN _ hy;have f1:(kk == 0)=false:=by simpa using hk0
    have hv:=Aa (R8 _ du);have hs:=Aa fp;have cu:=Aa du;subst f0;have ik:(kN:Int) < 8:=by omega
    obtain ⟨bz,dc⟩:=nm (Ep ts en s);have bp:=Aa dc;have E:Hx (bz=(fun a:ByteArray × Sg=>if (kN:Int)=7 then Gq ts en p a.1 a.2 else if (kN:Int)=2 then (fun b:ByteArray × Sg=>Ck ts en 2 p a.1 b.1 false b.2) (AD ts a.2) else Ck ts en (kN:Int) p a.1 noS (decide ((kN:Int)=4) || decide ((kN:Int)=5) || (decide ((kN:Int)=6) && decide (tl ts a.2 0=[123]))) a.2) (AD ts (Ak ts (tl ts s 0) s))):=by show _=_;rw [dc,ht.o,d3.o];rfl
    clear dc du hy fp;obtain ⟨s1,gd,KN⟩:=ned y (tl ts s 0) hs.o hv.o l;rw [<-gd.o] at E;have F:=Ad.all c.o.row;have I:=c.o.fz;go_wp2_with fail;clear I F;refine mo KN.o fun w5 hq=>?_;clear KN;replace f:=zcq f hq l U;replace c:=zcq c hq l Q;replace A:=zcq A hq l a4;replace l:=zrq l hq;clear hq;have fu:s1=(s.1+1,false):=by rw [gd.o];exact CQ h8.o rfl
    obtain ⟨m0,cl⟩:=nm (s.1+1);replace l:Hx (Rq rb tv ts en w m0 (s1) w5):=⟨l.o.st0,l.o.st,l.o.gr,by rw [cl,fu];exact Nat.le_refl _⟩;replace au:=Aa cl;clear cl fu f1 dl;obtain ⟨px,ej⟩:=nm (AD ts s1);obtain ⟨x,s2⟩:=px;have KM:=Aa (Cv hall s1 _ l.o.st);rw [<-ej] at KM E;dsimp only at KM E;have jm:=Aa ej;clear ej;go_wp2_with fail;refine mo KM.o fun w6 hq=>?_;clear KM;replace f:=zcq f hq l U;replace c:=zcq c hq l Q;replace A:=zcq A hq l a4;replace l:=zrq l hq;clear hq;have F:=Ad.all c.o.row;have I:=c.o.fz;obtain ⟨V7,dw⟩:=nm (w6.setCell ⟨H,2,none⟩ (.string x));have n:=gsv dw;replace c:=zs2 c dw;replace f:=zkl f n B;replace A:=zkg A n M;replace l:=Aa (l.o.box n Q.o);clear n
    go_upto_region 12 with fail
    rw [<-dw];clear I F dw;by_cases h7:(kN:Int)=7
    ·have hr:=E.o
     rw [if_pos h7] at hr;have g0:kN=7:=by omega
     subst g0;unfold Gq at hr;replace E:Hx (bz=(fun ps:List ByteArray × Sg=>(fun H:List D × Sg=>(fun r:D × Sg=>(deD 7 p x noS false [] ps.1 H.1 r.1,Ak ts [125] (Ak ts [59] r.2)))
       (rX ts en (Ak ts [114,101,116,117,114,110] H.2)))
       (AH ts en (2*ts.length+3) [114,101,116,117,114,110] [] (Ak ts [123] (Ak ts [41] ps.2))))
       (CA ts (ts.length+2) [] (Ak ts [40] s2))):=hr
     clear hr h7;replace c:Hx (Bx H [O zc 7,O zc p,.string x,.string ⟨#[]⟩,ze false,zd none 0 0,zd none 0 0,zd none 0 0,O zc 0,O zc 0,O zc 0,.string ⟨#[]⟩,zd none 0 0] V7):=c.o;obtain ⟨s3,ho,KN⟩:=ned ⟨#[40]⟩ [40] rfl (by decide) l;rw [<-ho.o] at E;have F:=Ad.all c.o.row;have I:=c.o.fz;go_wp2_with fail;clear I F;refine mo KN.o fun w8 hq=>?_;clear KN;replace f:=zcq f hq l U;replace c:=zcq c hq l Q;replace A:=zcq A hq l a4;replace l:=zrq l hq;clear hq;obtain ⟨cy,ck⟩:=nm (CA ts (ts.length+2) [] s3);rw [<-ck] at E;have ak:=Aa ck;clear ck;have cx:Hx (w.heap.size<=H):=Q.o;have cq:Hx (H < H+1):=Nat.lt_succ_self _;have c4:Hx (w.heap.size<=H+1):=Nat.le_trans cx.o (Nat.le_succ _);have ew:Hx (w.heap.size<=H+1):=c4.o;have e7:Hx (w.heap.size<=H+1):=c4.o;have ez:Hx (w.heap.size<=H):=cx.o;obtain ⟨i0,hi,eh,eg,ef⟩:=info_parts Tryz.infoStr;clear A;go_wp2_with fail;go_loopw [] (fun wr=>∃ (nacc:List ByteArray) (s6:Sg) (g2:Nat) (na:Option Addr) (nk nc:Nat),nk=nacc.length/\Bx H [O zc 7,O zc p,.string x,.string ⟨#[]⟩,ze false,zd none 0 0,zd na nk nc,zd none 0 0,O zc 0,O zc 0,O zc 0,.string ⟨#[]⟩,zd none 0 0] wr/\Bx br [O zc 0,O zc 0,.string ⟨#[]⟩,.string ⟨#[]⟩,ze false,zd none 0 0,zd none 0 0,zd none 0 0,O zc 0,O zc 0,O zc 0,.string ⟨#[]⟩,zd none 0 0] wr/\Cop (H+1) 9 1 (fun i cs W=>∀ y,nacc[i]? = some y->RN cs y) nk (zd na nk nc) wr/\Rq rb tv ts en w m0 s6 wr/\CA ts g2 nacc s6=cy/\(s6.2=true\/ts.length - s6.1 < g2)/\nk+bN s6.2<=s6.1+1) (fun wr=>mQ rb ts.length wr)
     case atStart=>exact ⟨[],s3,ts.length+2,none,0,0,rfl,c.o,f.o,Cop.nil,l.o,ak.o.symm,Or.inr (by omega),by unfold bN;split <;> omega⟩
     case round=>
      clear c f l ak;obtain ⟨nacc,s6,g2,na,nk,nc,fw,aj,bq,fx,hd,fv,f5,el⟩:=hrel;have c:=Aa aj;have f:=Aa bq;have N:=Aa fx;have l:=Aa hd;have ak:=Aa fv;have aq:=Aa fw;have cw:=Aa (And.intro f5 el);have ex:=Aa (CT ts.length hd.st);have h6:s6.1<=ts.length/\ts.length<=6000:=⟨hd.st.2.1,hd.st.2.2.1⟩;have ct:Hx (nk<=6001):=by show _<=_;unfold bN at el;omega
      clear fw aj bq fx hd fv f5 el h6;obtain ⟨fk,fj,rc2,dq,-,-⟩:=l.o.st.cells;cases hf6:s6.2
      case' true=>
       have HE:Hx (cy=(nacc,s6)):=by show _=_;rw [<-ak.o];exact Iz _ _ _ (Or.inl hf6)
       rw [hf6] at dq;clear hf6
      case' false=>
       rw [hf6] at dq;have dm:=Aa hf6;clear hf6;obtain ⟨t6,ft⟩:=nm (tx ts s6 0);have eu:=Aa ft;clear ft;have KT:=ztq l eu.o;go_wp2_with fail;clear dq rc2 fj fk;refine mo KT.o fun d6 hb=>?_;replace N:=Aa (N.o.over hb);clear KT;replace f:=Aa (f.o.over hb);replace c:=Aa (c.o.over hb);replace l:=Aa (l.o.over hb);clear hb;by_cases h41:tl ts s6 0=[41]
       case' neg=>
        have q6:(t6.toList == [41])=false:=Br eu.o h41;obtain ⟨g2,rfl⟩:∃ q,g2=q+1:=⟨g2 - 1,by have h1:=cw.o.1;rw [dm.o] at h1;simp at h1;omega⟩;have bi:=ak.o;rw [MR _ _ _ dm.o h41] at bi;replace ak:Hx (_=cy):=bi;clear bi h41;by_cases h0:nk=0
        case' pos=>
         have bi:=ak.o;rw [if_neg (by rw [<-aq.o,h0];omega)] at bi;replace ak:=Aa bi;clear bi;have fy:¬ (0:Int) < (nk:Int):=by omega
         clear h0;obtain ⟨s7,cc⟩:=nm s6;have d2:Hx (s6.1<=s7.1):=by show _<=_;rw [cc];exact Nat.le_refl _
         rw [<-cc] at ak;replace l:Hx (Rq rb tv ts en w m0 s7 d6):=by rw [cc];exact l.o
         clear cc
        case' neg=>
         have bi:=ak.o;rw [if_pos (by rw [<-aq.o];omega)] at bi;replace ak:=Aa bi;clear bi;have fy:(0:Int) < (nk:Int):=by omega
         clear h0;obtain ⟨s7,cc⟩:=nm (Ak ts [44] s6);have KN:=Aa (DH ⟨#[44]⟩ [44] rfl (by decide) s6 _ l.o.st);rw [<-cc] at KN ak;have d2:Hx (s6.1<=s7.1):=by show _<=_;rw [cc];exact Fc _ _
         clear cc;have F:=Ad.all c.o.row;go_wp2_with fail;clear F;refine mo KN.o fun d5 hq=>?_;clear KN;replace N:=Aa (N.o.keep hq.1 (by have h1:=l.o.rlt;have h2:=c4.o;omega));replace f:=zcq f hq l U;replace c:=zcq c hq l Q;replace l:=zrq l hq;clear hq
        all_goals
         rename World=>wz
         have ci:=Aa (P0 (ts:=ts) s7);obtain ⟨pn,ek⟩:=nm (AD ts s7);have et:Hx (∀ X,Sd rb tv ts en s7 X->Calls Tryz.prog 58 #[zh (some ⟨rb,0,none⟩)] X fun e w'=>e=zi (.string pn.1)/\Qo rb tv ts en X s7 pn.2 w'):=fun X hX=>by
          have h9:=Cv hall s7 X hX;rw [<-ek] at h9;exact h9
         rw [<-ek] at ak ci;obtain ⟨n8,s8⟩:=pn;dsimp only at ak et ci;have ab:=Aa l.o.gr;clear ek;have F:=Ad.all c.o.row;go_wp2_with fail;clear F fy q6;refine gS (fun _=>True) trivial fun C=>?_;obtain ⟨Wd,em⟩:=nm wz.drew;have aj:Ov wz Wd:=by rw [em];exact bD _
         replace l:=Aa (l.o.over aj);replace c:=Aa (c.o.over aj);replace f:=Aa (f.o.over aj);replace N:=Aa (N.o.over aj);replace ab:=Aa (Ac ab.o (Ae (r:=some rb) aj));rw [<-em];clear em aj;refine kT 0 ?_;refine kT 2 ?_;refine rdB 1 3 rfl (fun K hK=>?_) rfl fun K hK=>?_
         ·have lc:=c.o.row 6 _ rfl
          go_simp;refine xK hK trivial fun C=>?_;clear hK K lc;refine rdA 3 rfl fun K hK=>?_;go_simp;refine mo (et.o _ l.o.st) fun wn hq=>?_;have hg:=hq.1;replace c:=Aa (c.o.keep hg (by have h1:=l.o.rlt;have h2:=cx.o;omega));replace f:=Aa (f.o.keep hg (by have h1:=l.o.rlt;have h2:=U.o;omega));replace N:=Aa (N.o.keep hg (by have h1:=l.o.rlt;have h2:=c4.o;omega));replace ab:=Aa (Ac ab.o hg);have c2:=Aa hq.2.2;replace l:=Aa (Qo.rq l.o hq);clear hg hq C;go_simp;refine xK hK trivial fun C=>?_;clear hK K;refine rdA 4 rfl fun K hK=>?_;obtain ⟨W2,ax⟩:=nm (wn.alloc (zg #[.string n8] 9));have ah:=(aov ax).o;have dk:Hx (Ad [.string n8] W2 wn.heap.size):=by show Ad _ _ _;rw [ax];exact A5 wn [.string n8] 9
          have ge:Hx (H+1<=wn.heap.size):=c.o.lt;replace l:=Aa (l.o.over ah);replace c:=Aa (c.o.over ah);replace f:=Aa (f.o.over ah);replace N:=Aa (N.o.over ah);replace ab:=Aa (Ac ab.o (Ae (r:=some rb) ah));clear ah;go_simp;rw [<-ax];refine xK hK trivial fun C=>?_;clear hK K ax;refine rdA 5 rfl fun K hK=>?_;obtain ⟨xs,J,cf⟩:=N.o;obtain ⟨v2,W3,a6,Z,Y,-,cg⟩:=run_append_own_at (P:=Tryz.prog) (w:=W2) (H+1) 46 46 9 i0 (.string ⟨#[]⟩) 1 16 Tryz.underlying46 hi eh eg ef rfl (by decide) _ _ _ J ⟨wn.heap.size,0,none⟩ 1 1 [.string n8] rfl (fun jj u hu=>by rw [Addr.add_lit,Nat.zero_add];exact dk.o jj u hu) (by simp [Value.oneCell']) (by unfold maxLen;have:=ct.o;omega) (by have:=ct.o;omega) (c.o.lt);have a8:Cop (H+1) 9 1 (fun i cs W=>∀ y,(nacc++[n8])[i]? = some y->RN cs y) (nk+1) v2 W3:=Cop.add (B1:=W2.heap.size) J (fun i hi=>by
            obtain ⟨ds,z1,z2,z3⟩:=cf i hi;exact ⟨ds,z1,z2,z3.imp fun W hW y hy=>hW y (by rw [List.getElem?_append_left (by rw [<-aq.o];exact hi)] at hy;exact hy)⟩) rfl (fun W hW y hy=>by
             rw [List.getElem?_append_right (by rw [aq.o];exact Nat.le_refl _),aq.o,Nat.sub_self] at hy;injection hy with hy;rw [<-hy]) (c.o.lt) (fun g hg=>(AL J hg).2) Z Y cg
          replace l:=Aa (l.o.row J ew.o Y);replace ab:=Aa (Cs ab.o J e7.o Y);replace c:=Aa (c.o.grown Y (fun e=>by have h1:=(AL J e.symm).1;have h2:=cq.o;omega));replace f:=Aa (f.o.grown Y (fun e=>by have h1:=(AL J e.symm).1;have h2:=B.o;omega));obtain ⟨am,fi,al,db⟩:=AP Z;subst db;obtain rfl:=Cq Z;replace N:=Aa a8;refine A4 rfl _ _ _ rfl _ _ _ _ rfl rfl a6 ?_;clear a6 J cf Z Y cg a8;refine xK hK trivial fun C=>?_;clear hK K;refine kT 6 ?_;refine rdA 7 rfl fun K hK=>?_;have lc:=c.o.row 6 _ rfl;have lf:=c.o.fz 6;obtain ⟨W9,ao⟩:=nm (W3.setCell ⟨H,6,none⟩ (zd am (nk+1) al));replace c:=zs6 c ao;replace f:=zfl f ao B;replace l:=Aa (l.o.set (b:=H) (j:=6) (u:=zd am (nk+1) al) cx.o);replace N:=Aa (N.o.set (b:=H) (j:=6) (u:=zd am (nk+1) al) cq.o);replace ab:=Aa (Aj ab.o (p:=⟨H,6,none⟩) ez.o (zd am (nk+1) al));rw [<-ao] at l N ab;go_simp;rw [<-ao];refine xK hK trivial fun C=>?_;clear hK K ao lc lf;refine gE ?_;go_wp2_with fail;have h1:=d2.o;have h2:=c2.o;have hk:=aq.o;have dg:=CT ts.length l.o.st;have bj:=Du (L:=ts.length) (k:=nk) (g:=g2) (s:=s6) (s4:=s8) cw.o.1 dm.o cw.o.2 (by omega) (ci.o.imp id (fun h=>by omega)) l.o.st.2.1;exact ⟨⟨nacc++[n8],s8,g2,am,nk+1,al,by rw [List.length_append,<-hk];rfl,c.o,f.o,N.o,l.o,ak.o,bj.1,bj.2.1⟩,by rw [dg,ex.o];exact bj.2.2⟩
         ·go_simp
          refine mo (et.o _ l.o.st) fun wn hq=>?_;have hg:=hq.1;replace c:=Aa (c.o.keep hg (by have h1:=l.o.rlt;have h2:=cx.o;omega));replace f:=Aa (f.o.keep hg (by have h1:=l.o.rlt;have h2:=U.o;omega));replace N:=Aa (N.o.keep hg (by have h1:=l.o.rlt;have h2:=c4.o;omega));replace ab:=Aa (Ac ab.o hg);have c2:=Aa hq.2.2;replace l:=Aa (Qo.rq l.o hq);clear hg hq C;go_simp;refine xK hK trivial fun C=>?_;clear hK K;refine rdB 1 4 rfl (fun K hK=>?_) rfl fun K hK=>?_
          ·have lc:=c.o.row 6 _ rfl
           go_simp;refine xK hK trivial fun C=>?_;clear hK K lc;refine rdA 4 rfl fun K hK=>?_;obtain ⟨W2,ax⟩:=nm (wn.alloc (zg #[.string n8] 9));have ah:=(aov ax).o;have dk:Hx (Ad [.string n8] W2 wn.heap.size):=by show Ad _ _ _;rw [ax];exact A5 wn [.string n8] 9
           have ge:Hx (H+1<=wn.heap.size):=c.o.lt;replace l:=Aa (l.o.over ah);replace c:=Aa (c.o.over ah);replace f:=Aa (f.o.over ah);replace N:=Aa (N.o.over ah);replace ab:=Aa (Ac ab.o (Ae (r:=some rb) ah));clear ah;go_simp;rw [<-ax];refine xK hK trivial fun C=>?_;clear hK K ax;refine rdA 5 rfl fun K hK=>?_;obtain ⟨xs,J,cf⟩:=N.o;obtain ⟨v2,W3,a6,Z,Y,-,cg⟩:=run_append_own_at (P:=Tryz.prog) (w:=W2) (H+1) 46 46 9 i0 (.string ⟨#[]⟩) 1 16 Tryz.underlying46 hi eh eg ef rfl (by decide) _ _ _ J ⟨wn.heap.size,0,none⟩ 1 1 [.string n8] rfl (fun jj u hu=>by rw [Addr.add_lit,Nat.zero_add];exact dk.o jj u hu) (by simp [Value.oneCell']) (by unfold maxLen;have:=ct.o;omega) (by have:=ct.o;omega) (c.o.lt);have a8:Cop (H+1) 9 1 (fun i cs W=>∀ y,(nacc++[n8])[i]? = some y->RN cs y) (nk+1) v2 W3:=Cop.add (B1:=W2.heap.size) J (fun i hi=>by
             obtain ⟨ds,z1,z2,z3⟩:=cf i hi;exact ⟨ds,z1,z2,z3.imp fun W hW y hy=>hW y (by rw [List.getElem?_append_left (by rw [<-aq.o];exact hi)] at hy;exact hy)⟩) rfl (fun W hW y hy=>by
              rw [List.getElem?_append_right (by rw [aq.o];exact Nat.le_refl _),aq.o,Nat.sub_self] at hy;injection hy with hy;rw [<-hy]) (c.o.lt) (fun g hg=>(AL J hg).2) Z Y cg
           replace l:=Aa (l.o.row J ew.o Y);replace ab:=Aa (Cs ab.o J e7.o Y);replace c:=Aa (c.o.grown Y (fun e=>by have h1:=(AL J e.symm).1;have h2:=cq.o;omega));replace f:=Aa (f.o.grown Y (fun e=>by have h1:=(AL J e.symm).1;have h2:=B.o;omega));obtain ⟨am,fi,al,db⟩:=AP Z;subst db;obtain rfl:=Cq Z;replace N:=Aa a8;refine A4 rfl _ _ _ rfl _ _ _ _ rfl rfl a6 ?_;clear a6 J cf Z Y cg a8;refine xK hK trivial fun C=>?_;clear hK K;refine kT 6 ?_;refine rdA 7 rfl fun K hK=>?_;have lc:=c.o.row 6 _ rfl;have lf:=c.o.fz 6;obtain ⟨W9,ao⟩:=nm (W3.setCell ⟨H,6,none⟩ (zd am (nk+1) al));replace c:=zs6 c ao;replace f:=zfl f ao B;replace l:=Aa (l.o.set (b:=H) (j:=6) (u:=zd am (nk+1) al) cx.o);replace N:=Aa (N.o.set (b:=H) (j:=6) (u:=zd am (nk+1) al) cq.o);replace ab:=Aa (Aj ab.o (p:=⟨H,6,none⟩) ez.o (zd am (nk+1) al));rw [<-ao] at l N ab;go_simp;rw [<-ao];refine xK hK trivial fun C=>?_;clear hK K ao lc lf;refine gE ?_;go_wp2_with fail;have h1:=d2.o;have h2:=c2.o;have hk:=aq.o;have dg:=CT ts.length l.o.st;have bj:=Du (L:=ts.length) (k:=nk) (g:=g2) (s:=s6) (s4:=s8) cw.o.1 dm.o cw.o.2 (by omega) (ci.o.imp id (fun h=>by omega)) l.o.st.2.1;exact ⟨⟨nacc++[n8],s8,g2,am,nk+1,al,by rw [List.length_append,<-hk];rfl,c.o,f.o,N.o,l.o,ak.o,bj.1,bj.2.1⟩,by rw [dg,ex.o];exact bj.2.2⟩
          ·obtain ⟨W2,ax⟩:=nm (wn.alloc (zg #[.string n8] 9))
           have ah:=(aov ax).o;have dk:Hx (Ad [.string n8] W2 wn.heap.size):=by show Ad _ _ _;rw [ax];exact A5 wn [.string n8] 9
           have ge:Hx (H+1<=wn.heap.size):=c.o.lt;replace l:=Aa (l.o.over ah);replace c:=Aa (c.o.over ah);replace f:=Aa (f.o.over ah);replace N:=Aa (N.o.over ah);replace ab:=Aa (Ac ab.o (Ae (r:=some rb) ah));clear ah;go_simp;rw [<-ax];refine xK hK trivial fun C=>?_;clear hK K ax;refine rdA 1 rfl fun K hK=>?_;have lc:=c.o.row 6 _ rfl;go_simp;refine xK hK trivial fun C=>?_;clear hK K lc;refine rdA 5 rfl fun K hK=>?_;obtain ⟨xs,J,cf⟩:=N.o;obtain ⟨v2,W3,a6,Z,Y,-,cg⟩:=run_append_own_at (P:=Tryz.prog) (w:=W2) (H+1) 46 46 9 i0 (.string ⟨#[]⟩) 1 16 Tryz.underlying46 hi eh eg ef rfl (by decide) _ _ _ J ⟨wn.heap.size,0,none⟩ 1 1 [.string n8] rfl (fun jj u hu=>by rw [Addr.add_lit,Nat.zero_add];exact dk.o jj u hu) (by simp [Value.oneCell']) (by unfold maxLen;have:=ct.o;omega) (by have:=ct.o;omega) (c.o.lt);have a8:Cop (H+1) 9 1 (fun i cs W=>∀ y,(nacc++[n8])[i]? = some y->RN cs y) (nk+1) v2 W3:=Cop.add (B1:=W2.heap.size) J (fun i hi=>by
             obtain ⟨ds,z1,z2,z3⟩:=cf i hi;exact ⟨ds,z1,z2,z3.imp fun W hW y hy=>hW y (by rw [List.getElem?_append_left (by rw [<-aq.o];exact hi)] at hy;exact hy)⟩) rfl (fun W hW y hy=>by
              rw [List.getElem?_append_right (by rw [aq.o];exact Nat.le_refl _),aq.o,Nat.sub_self] at hy;injection hy with hy;rw [<-hy]) (c.o.lt) (fun g hg=>(AL J hg).2) Z Y cg
           replace l:=Aa (l.o.row J ew.o Y);replace ab:=Aa (Cs ab.o J e7.o Y);replace c:=Aa (c.o.grown Y (fun e=>by have h1:=(AL J e.symm).1;have h2:=cq.o;omega));replace f:=Aa (f.o.grown Y (fun e=>by have h1:=(AL J e.symm).1;have h2:=B.o;omega));obtain ⟨am,fi,al,db⟩:=AP Z;subst db;obtain rfl:=Cq Z;replace N:=Aa a8;refine A4 rfl _ _ _ rfl _ _ _ _ rfl rfl a6 ?_;clear a6 J cf Z Y cg a8;refine xK hK trivial fun C=>?_;clear hK K;refine kT 6 ?_;refine rdA 7 rfl fun K hK=>?_;have lc:=c.o.row 6 _ rfl;have lf:=c.o.fz 6;obtain ⟨W9,ao⟩:=nm (W3.setCell ⟨H,6,none⟩ (zd am (nk+1) al));replace c:=zs6 c ao;replace f:=zfl f ao B;replace l:=Aa (l.o.set (b:=H) (j:=6) (u:=zd am (nk+1) al) cx.o);replace N:=Aa (N.o.set (b:=H) (j:=6) (u:=zd am (nk+1) al) cq.o);replace ab:=Aa (Aj ab.o (p:=⟨H,6,none⟩) ez.o (zd am (nk+1) al));rw [<-ao] at l N ab;go_simp;rw [<-ao];refine xK hK trivial fun C=>?_;clear hK K ao lc lf;refine gE ?_;go_wp2_with fail;have h1:=d2.o;have h2:=c2.o;have hk:=aq.o;have dg:=CT ts.length l.o.st;have bj:=Du (L:=ts.length) (k:=nk) (g:=g2) (s:=s6) (s4:=s8) cw.o.1 dm.o cw.o.2 (by omega) (ci.o.imp id (fun h=>by omega)) l.o.st.2.1;exact ⟨⟨nacc++[n8],s8,g2,am,nk+1,al,by rw [List.length_append,<-hk];rfl,c.o,f.o,N.o,l.o,ak.o,bj.1,bj.2.1⟩,by rw [dg,ex.o];exact bj.2.2⟩
       case' pos=>
        have HE:Hx (cy=(nacc,s6)):=by show _=_;rw [<-ak.o];exact Iz _ _ _ (Or.inr h41)
        have q6:(t6.toList == [41])=true:=DN eu.o h41;clear h41
      all_goals
       rename World=>wz
       have hr:=E.o;rw [HE.o] at hr;dsimp only at hr;replace E:Hx (bz=_):=hr;clear hr;have ae:Hx (Off (H+1) none wz (fun W=>Hs W (zd na nk nc) nacc)):=by
        have hc:=N.o;rw [aq.o] at hc;obtain ⟨a9,c9,gu,gx⟩:=Cop.ls (R:=fun _=>RN) hc (by decide) (by have h1:=ct.o;have h2:=aq.o;omega);injection gu with v1 v2 v3;exact gx.imp fun W hW=>by rw [aq.o,v1,v3];exact hW
       clear N HE;obtain ⟨zp,dr⟩:=nm (H+1);rw [<-dr] at ae;have ba:Hx (w.heap.size<=zp):=by show _<=_;rw [dr];exact c4.o
       have cp:Hx (H < zp):=by show _ < _;rw [dr];exact cq.o
       have ev:Hx (br < zp):=Nat.lt_trans B.o cp.o;clear dr;obtain ⟨s7,hm,KN⟩:=ned ⟨#[41]⟩ [41] rfl (by decide) l;rw [<-hm.o] at E;go_wp2_with fail;try clear dq rc2 fj fk
       refine mo KN.o fun d6 hq=>?_;clear KN;replace f:=zcq f hq l U;replace c:=zcq c hq l Q;replace ae:=zdq ae hq l ba;replace l:=zrq l hq;clear hq;obtain ⟨s8,hl,KN⟩:=ned ⟨#[123]⟩ [123] rfl (by decide) l;rw [<-hl.o] at E;go_wp2_with fail;refine mo KN.o fun d5 hq=>?_;clear KN;replace f:=zcq f hq l U;replace c:=zcq c hq l Q;replace ae:=zdq ae hq l ba;replace l:=zrq l hq;clear hq;obtain ⟨gs,d8⟩:=nm (AH ts en (2*ts.length+3) [114,101,116,117,114,110] [] s8);have KL:=Aa ((Pc hall (2*ts.length+3)).1 ⟨#[114,101,116,117,114,110]⟩ [114,101,116,117,114,110] rfl s8 _ l.o.st (Or.inr (by omega)));rw [<-d8] at KL E;obtain ⟨bo,s9⟩:=gs;dsimp only at E;clear d8;go_wp2_with fail;obtain ⟨i3,cb⟩:=nm d5.heap.size;have bn:=zsq l cb;have d1:=zlb f cb;have c1:=zlb c cb;refine KL.o.mono ?_;rintro e fh ⟨er,eq,rfl,G,-,hq⟩;dsimp only at G hq;rw [<-cb] at G;obtain ⟨ep,dh⟩:=nm bo.length;rw [<-dh] at G;try dsimp only
       rw [<-dh];have ad:=Aa G;clear KL G cb dh;replace f:=zcq f hq l U;replace c:=zcq c hq l Q;replace ae:=zdq ae hq l ba;replace l:=zrq l hq;clear hq;have F:=Ad.all c.o.row;have I:=c.o.fz;obtain ⟨iw,b3⟩:=nm (fh.setCell ⟨H,7,none⟩ (zd er ep eq));have n:=gsv b3;replace c:=zs7 c b3;replace f:=zkl f n B;replace l:=Aa (l.o.box n Q.o);replace ae:=Aa (ae.o.keep n cp.o);replace ad:=Aa (ad.o.keep n c1.o);clear n;obtain ⟨ee,gc,KN⟩:=ned ⟨#[114,101,116,117,114,110]⟩ [114,101,116,117,114,110] rfl (by decide) l;rw [<-gc.o] at E;go_wp2_with fail;rw [<-b3];clear I F b3;refine mo KN.o fun fg hq=>?_;clear KN;replace f:=zcq f hq l U;replace c:=zcq c hq l Q;replace ae:=zdq ae hq l ba;replace ad:=zdq ad hq l bn;replace l:=zrq l hq;clear hq;obtain ⟨fl,df⟩:=nm (rX ts en ee);have KE:=Aa (D0 (rb:=rb) (tv:=tv) (en:=en) hall 61 0 rfl (by omega) ee _ l.o.st);have de:Ba ts en 61 0 ee=fl:=df.symm;rw [de] at KE;rw [<-df] at E;obtain ⟨ed,jb⟩:=fl;dsimp only at E;clear df de;go_wp2_with fail;obtain ⟨i2,ca⟩:=nm fg.heap.size;have cr:=zsq l ca;have dz:=zlb f ca;have d0:=zlb c ca;refine KE.o.mono ?_;rintro e ff ⟨e0,e1,e2,e3,e4,e5,e6,rfl,G,hq⟩;dsimp only at G hq;rw [<-ca] at G;have a3:=Aa G;clear KE G ca;replace f:=zcq f hq l U;replace c:=zcq c hq l Q;replace ae:=zdq ae hq l ba;replace ad:=zdq ad hq l bn;replace l:=zrq l hq;clear hq;have F:=Ad.all c.o.row;have I:=c.o.fz;obtain ⟨iv,bk⟩:=nm (setz H ff [(8,O zc e0),(9,O zc e1),(10,O zc e2),(11,.string e3),(12,zd e4 e5 e6)]);have n:=Ap bk;replace c:=zzs c bk rfl;dsimp only [BA,List.set] at c;simp only [setz] at bk;replace f:=zkl f n B;replace l:=Aa (l.o.box n Q.o);replace ae:=Aa (ae.o.keep n cp.o);replace ad:=Aa (ad.o.keep n c1.o);replace a3:=Aa (a3.o.keep n d0.o);clear n;obtain ⟨ja,gb,KN⟩:=ned ⟨#[59]⟩ [59] rfl (by decide) l;rw [<-gb.o] at E;go_wp2_with fail;rw [<-bk];clear I F bk;refine mo KN.o fun ie hq=>?_;clear KN;replace f:=zcq f hq l U;replace c:=zcq c hq l Q;replace ae:=zdq ae hq l ba;replace ad:=zdq ad hq l bn;replace a3:=zdq a3 hq l cr;replace l:=zrq l hq;clear hq;obtain ⟨i9,ga,KN⟩:=ned ⟨#[125]⟩ [125] rfl (by decide) l;rw [<-ga.o] at E;go_wp2_with fail;refine mo KN.o fun fe hq=>?_;clear KN;replace f:=zcq f hq l U;replace c:=zcq c hq l Q;replace ae:=zdq ae hq l ba;replace ad:=zdq ad hq l bn;replace a3:=zdq a3 hq l cr;replace l:=zrq l hq;clear hq;have bc:br≠H:=by have:=B.o;omega
       have be:H≠br:=by have:=B.o;omega
       have F:=Ad.all c.o.row;have I:=c.o.fz;have cn:=Ad.all f.o.row;have cm:=f.o.fz;obtain ⟨iu,b1⟩:=nm (setz br fe [(0,O zc 7),(1,O zc p),(2,.string x),(3,.string ⟨#[]⟩),(4,ze false),(5,zd none 0 0),(6,zd na nk nc),(7,zd er ep eq),(8,O zc e0),(9,O zc e1),(10,O zc e2),(11,.string e3),(12,zd e4 e5 e6)]);have n:=Ap b1;replace f:=zzs f b1 rfl;dsimp only [BA,List.set] at f;simp only [setz] at b1;replace c:=zkg c n B;replace l:=Aa (l.o.box n U.o);replace ae:=Aa (ae.o.keep n ev.o);replace ad:=Aa (ad.o.keep n d1.o);replace a3:=Aa (a3.o.keep n dz.o);clear n;go_wp2_with fail;refine bodyPost_ret (v:=zj #[zf #[O zc 7,O zc p,.string x,.string ⟨#[]⟩,ze false,zd none 0 0,zd na nk nc,zd er ep eq,O zc e0,O zc e1,O zc e2,.string e3,zd e4 e5 e6],ze true]) (by simp [results,Tryz.results25,go_sem, *]) rfl ?_;rw [<-b1];refine ⟨fun hz=>absurd hz cu.o,fun _=>?_⟩;rw [<-bp.o,E.o];refine ⟨_,_,_,_,_,_,_,_,_,_,_,_,_,_,_,_,_,_,_,_,_,rfl,fun W hW=>?_,Or.inr (zl1 l au),l.o.gr,l.o.st,zl0 l au⟩;exact ⟨7,p,x,⟨#[]⟩,false,_,[],_,nacc,_,bo,_,_,_,_,_,ed,rfl,rfl,LS.nil,(ae.o.base ba.o) W hW,(ad.o.base bn.o) W hW,(a3.o.base cr.o) W hW⟩
    ·rw [if_neg h7] at E
     have b7:((kN:Int) == 7)=false:=by simp;omega
     by_cases h2:(kN:Int)=2
     ·have g1:kN=2:=by omega
      rw [if_pos h2] at E;subst g1;clear h7 h2 b7;replace c:Hx (Bx H [O zc 2,O zc p,.string x,.string ⟨#[]⟩,ze false,zd none 0 0,zd none 0 0,zd none 0 0,O zc 0,O zc 0,O zc 0,.string ⟨#[]⟩,zd none 0 0] V7):=c.o;obtain ⟨gp,dd⟩:=nm (AD ts s2);obtain ⟨y2,s3⟩:=gp;have KM:=Aa (Cv hall s2 _ l.o.st);rw [<-dd] at KM E;dsimp only at KM E;have i1:=Aa dd;clear dd;have F:=Ad.all c.o.row;have I:=c.o.fz;go_wp2_with fail;clear I F;refine mo KM.o fun w8 hq=>?_;clear KM;replace f:=zcq f hq l U;replace c:=zcq c hq l Q;replace A:=zcq A hq l a4;replace l:=zrq l hq;clear hq;have F:=Ad.all c.o.row;have I:=c.o.fz;obtain ⟨V9,ay⟩:=nm (w8.setCell ⟨H,3,none⟩ (.string y2));have n:=gsv ay;replace c:=zs3 c ay;replace f:=zkl f n B;replace A:=zkg A n M;replace l:=Aa (l.o.box n Q.o);clear n;have hr:=E.o;unfold Ck at hr;rw [if_neg (by simp)] at hr;replace E:Hx (bz=_):=hr;clear hr;obtain ⟨es,aa⟩:=nm (V9.setCell ⟨H,4,none⟩ (ze false));have n:=gsv aa;replace c:=zs4 c aa;replace f:=zkl f n B;replace A:=zkg A n M;replace l:=Aa (l.o.box n Q.o);clear n;obtain ⟨s6,bm,KN⟩:=ned ⟨#[59]⟩ [59] rfl (by decide) l;rw [<-bm.o] at E;go_wp2_with fail;rw [<-ay,<-aa];clear I F aa ay;refine mo KN.o fun c6 hq=>?_;clear KN;replace f:=zcq f hq l U;replace c:=zcq c hq l Q;replace A:=zcq A hq l a4;replace l:=zrq l hq;clear hq;have bc:br≠H:=by have:=B.o;omega
      have be:H≠br:=by have:=B.o;omega
      have bs:br≠bl:=by have:=T.o;omega
      have bt:bl≠br:=by have:=T.o;omega
      have bv:H≠bl:=by have:=M.o;omega
      have bu:bl≠H:=by have:=M.o;omega
      have F:=Ad.all c.o.row;have I:=c.o.fz;have cn:=Ad.all f.o.row;have cm:=f.o.fz;obtain ⟨f8,af⟩:=nm (setz br c6 [(0,O zc 2),(1,O zc p),(2,.string x),(3,.string y2),(4,ze false),(5,zd none 0 0),(6,zd none 0 0),(7,zd none 0 0),(8,O zc 0),(9,O zc 0),(10,O zc 0),(11,.string ⟨#[]⟩),(12,zd none 0 0)]);have n:=Ap af;replace f:=zzs f af rfl;dsimp only [BA,List.set] at f;simp only [setz] at af;replace c:=zkg c n B;replace A:=zkg A n T;replace l:=Aa (l.o.box n U.o);clear n;go_wp2_with fail;refine bodyPost_ret (v:=zj #[zf #[O zc 2,O zc p,.string x,.string y2,ze false,zd none 0 0,zd none 0 0,zd none 0 0,O zc 0,O zc 0,O zc 0,.string ⟨#[]⟩,zd none 0 0],ze true]) (by simp [results,Tryz.results25,go_sem, *]) rfl ?_;rw [<-af];refine ⟨fun hz=>absurd hz cu.o,fun _=>?_⟩;rw [<-bp.o,E.o];refine ⟨_,_,_,_,_,_,_,_,_,_,_,_,_,_,_,_,_,_,_,_,_,rfl,fun W hW=>?_,Or.inr (zl1 l au),l.o.gr,l.o.st,zl0 l au⟩;exact ⟨2,p,x,y2,false,_,[],_,[],_,[],_,_,_,_,_,noE,rfl,rfl,LS.nil,LS.nil,LS.nil,XE.none W⟩
     ·rw [if_neg h2] at E
      have b2:((kN:Int) == 2)=false:=by simp;omega
      by_cases h4:(kN:Int)=4
      ·have cd:kN=4:=by omega
       subst cd;clear h7 b7 h2 b2 h4;replace c:Hx (Bx H [O zc 4,O zc p,.string x,.string ⟨#[]⟩,ze false,zd none 0 0,zd none 0 0,zd none 0 0,O zc 0,O zc 0,O zc 0,.string ⟨#[]⟩,zd none 0 0] V7):=c.o;have hr:=E.o;unfold Ck at hr;rw [if_pos (by simp)] at hr;replace E:Hx (bz=_):=hr;clear hr;have F:=Ad.all c.o.row;have I:=c.o.fz;obtain ⟨V8,az⟩:=nm (V7.setCell ⟨H,4,none⟩ (ze true));have n:=gsv az;replace c:=zs4 c az;replace f:=zkl f n B;replace A:=zkg A n M;replace l:=Aa (l.o.box n Q.o);clear n;obtain ⟨c8,a7⟩:=nm (DV ts en s2);have KL:=Aa (Ja hall s2 _ l.o.st);rw [<-a7] at KL E;obtain ⟨lb,s5⟩:=c8;dsimp only at E;clear a7;go_wp2_with fail;rw [<-az];clear I F az;obtain ⟨d4,V⟩:=nm V8.heap.size;have ap:=zsq l V;have a1:=zlb f V;have a2:=zlb c V;have c0:=zlb A V;refine KL.o.mono ?_;rintro e w9 ⟨bh,bg,rfl,G,-,hq⟩;dsimp only at G hq;rw [<-V] at G;obtain ⟨bf,an⟩:=nm lb.length;rw [<-an] at G;try dsimp only
       rw [<-an];have S:=Aa G;clear KL G V an;replace f:=zcq f hq l U;replace c:=zcq c hq l Q;replace A:=zcq A hq l a4;replace l:=zrq l hq;clear hq;have F:=Ad.all c.o.row;have I:=c.o.fz;obtain ⟨es,aa⟩:=nm (w9.setCell ⟨H,5,none⟩ (zd bh bf bg));have n:=gsv aa;replace c:=zs5 c aa;replace f:=zkl f n B;replace A:=zkg A n M;replace l:=Aa (l.o.box n Q.o);replace S:=Aa (S.o.keep n a2.o);clear n;obtain ⟨s6,bm,KN⟩:=ned ⟨#[59]⟩ [59] rfl (by decide) l;rw [<-bm.o] at E;go_wp2_with fail;rw [<-aa];clear I F aa;refine mo KN.o fun c6 hq=>?_;clear KN;replace f:=zcq f hq l U;replace c:=zcq c hq l Q;replace A:=zcq A hq l a4;replace S:=zdq S hq l ap;replace l:=zrq l hq;clear hq;have bc:br≠H:=by have:=B.o;omega
       have be:H≠br:=by have:=B.o;omega
       have bs:br≠bl:=by have:=T.o;omega
       have bt:bl≠br:=by have:=T.o;omega
       have bv:H≠bl:=by have:=M.o;omega
       have bu:bl≠H:=by have:=M.o;omega
       have F:=Ad.all c.o.row;have I:=c.o.fz;have cn:=Ad.all f.o.row;have cm:=f.o.fz;obtain ⟨f8,af⟩:=nm (setz br c6 [(0,O zc 4),(1,O zc p),(2,.string x),(3,.string ⟨#[]⟩),(4,ze true),(5,zd bh bf bg),(6,zd none 0 0),(7,zd none 0 0),(8,O zc 0),(9,O zc 0),(10,O zc 0),(11,.string ⟨#[]⟩),(12,zd none 0 0)]);have n:=Ap af;replace f:=zzs f af rfl;dsimp only [BA,List.set] at f;simp only [setz] at af;replace c:=zkg c n B;replace A:=zkg A n T;replace l:=Aa (l.o.box n U.o);replace S:=Aa (S.o.keep n a1.o);clear n;go_wp2_with fail;refine bodyPost_ret (v:=zj #[zf #[O zc 4,O zc p,.string x,.string ⟨#[]⟩,ze true,zd bh bf bg,zd none 0 0,zd none 0 0,O zc 0,O zc 0,O zc 0,.string ⟨#[]⟩,zd none 0 0],ze true]) (by simp [results,Tryz.results25,go_sem, *]) rfl ?_;rw [<-af];refine ⟨fun hz=>absurd hz cu.o,fun _=>?_⟩;rw [<-bp.o,E.o];refine ⟨_,_,_,_,_,_,_,_,_,_,_,_,_,_,_,_,_,_,_,_,_,rfl,fun W hW=>?_,Or.inr (zl1 l au),l.o.gr,l.o.st,zl0 l au⟩;exact ⟨4,p,x,⟨#[]⟩,true,_,lb,_,[],_,[],_,_,_,_,_,noE,rfl,rfl,(S.o.base ap.o) W hW,LS.nil,LS.nil,XE.none W⟩
      ·have b4:((kN:Int) == 4)=false:=by simp;omega
       by_cases h5:(kN:Int)=5
       ·have cd:kN=5:=by omega
        subst cd;clear h7 b7 h2 b2 h4 b4 h5;replace c:Hx (Bx H [O zc 5,O zc p,.string x,.string ⟨#[]⟩,ze false,zd none 0 0,zd none 0 0,zd none 0 0,O zc 0,O zc 0,O zc 0,.string ⟨#[]⟩,zd none 0 0] V7):=c.o;have hr:=E.o;unfold Ck at hr;rw [if_pos (by simp)] at hr;replace E:Hx (bz=_):=hr;clear hr;have F:=Ad.all c.o.row;have I:=c.o.fz;obtain ⟨V8,az⟩:=nm (V7.setCell ⟨H,4,none⟩ (ze true));have n:=gsv az;replace c:=zs4 c az;replace f:=zkl f n B;replace A:=zkg A n M;replace l:=Aa (l.o.box n Q.o);clear n;obtain ⟨c8,a7⟩:=nm (DV ts en s2);have KL:=Aa (Ja hall s2 _ l.o.st);rw [<-a7] at KL E;obtain ⟨lb,s5⟩:=c8;dsimp only at E;clear a7;go_wp2_with fail;rw [<-az];clear I F az;obtain ⟨d4,V⟩:=nm V8.heap.size;have ap:=zsq l V;have a1:=zlb f V;have a2:=zlb c V;have c0:=zlb A V;refine KL.o.mono ?_;rintro e w9 ⟨bh,bg,rfl,G,-,hq⟩;dsimp only at G hq;rw [<-V] at G;obtain ⟨bf,an⟩:=nm lb.length;rw [<-an] at G;try dsimp only
        rw [<-an];have S:=Aa G;clear KL G V an;replace f:=zcq f hq l U;replace c:=zcq c hq l Q;replace A:=zcq A hq l a4;replace l:=zrq l hq;clear hq;have F:=Ad.all c.o.row;have I:=c.o.fz;obtain ⟨es,aa⟩:=nm (w9.setCell ⟨H,5,none⟩ (zd bh bf bg));have n:=gsv aa;replace c:=zs5 c aa;replace f:=zkl f n B;replace A:=zkg A n M;replace l:=Aa (l.o.box n Q.o);replace S:=Aa (S.o.keep n a2.o);clear n;obtain ⟨s6,bm,KN⟩:=ned ⟨#[59]⟩ [59] rfl (by decide) l;rw [<-bm.o] at E;go_wp2_with fail;rw [<-aa];clear I F aa;refine mo KN.o fun c6 hq=>?_;clear KN;replace f:=zcq f hq l U;replace c:=zcq c hq l Q;replace A:=zcq A hq l a4;replace S:=zdq S hq l ap;replace l:=zrq l hq;clear hq;have bc:br≠H:=by have:=B.o;omega
        have be:H≠br:=by have:=B.o;omega
        have bs:br≠bl:=by have:=T.o;omega
        have bt:bl≠br:=by have:=T.o;omega
        have bv:H≠bl:=by have:=M.o;omega
        have bu:bl≠H:=by have:=M.o;omega
        have F:=Ad.all c.o.row;have I:=c.o.fz;have cn:=Ad.all f.o.row;have cm:=f.o.fz;obtain ⟨f8,af⟩:=nm (setz br c6 [(0,O zc 5),(1,O zc p),(2,.string x),(3,.string ⟨#[]⟩),(4,ze true),(5,zd bh bf bg),(6,zd none 0 0),(7,zd none 0 0),(8,O zc 0),(9,O zc 0),(10,O zc 0),(11,.string ⟨#[]⟩),(12,zd none 0 0)]);have n:=Ap af;replace f:=zzs f af rfl;dsimp only [BA,List.set] at f;simp only [setz] at af;replace c:=zkg c n B;replace A:=zkg A n T;replace l:=Aa (l.o.box n U.o);replace S:=Aa (S.o.keep n a1.o);clear n;go_wp2_with fail;refine bodyPost_ret (v:=zj #[zf #[O zc 5,O zc p,.string x,.string ⟨#[]⟩,ze true,zd bh bf bg,zd none 0 0,zd none 0 0,O zc 0,O zc 0,O zc 0,.string ⟨#[]⟩,zd none 0 0],ze true]) (by simp [results,Tryz.results25,go_sem, *]) rfl ?_;rw [<-af];refine ⟨fun hz=>absurd hz cu.o,fun _=>?_⟩;rw [<-bp.o,E.o];refine ⟨_,_,_,_,_,_,_,_,_,_,_,_,_,_,_,_,_,_,_,_,_,rfl,fun W hW=>?_,Or.inr (zl1 l au),l.o.gr,l.o.st,zl0 l au⟩;exact ⟨5,p,x,⟨#[]⟩,true,_,lb,_,[],_,[],_,_,_,_,_,noE,rfl,rfl,(S.o.base ap.o) W hW,LS.nil,LS.nil,XE.none W⟩
       ·have b5:((kN:Int) == 5)=false:=by simp;omega
        by_cases h6:(kN:Int)=6
        ·have cd:kN=6:=by omega
         subst cd;clear h7 b7 h2 b2 h4 b4 h5 b5 h6;replace c:Hx (Bx H [O zc 6,O zc p,.string x,.string ⟨#[]⟩,ze false,zd none 0 0,zd none 0 0,zd none 0 0,O zc 0,O zc 0,O zc 0,.string ⟨#[]⟩,zd none 0 0] V7):=c.o;obtain ⟨u,hu⟩:=nm (tx ts s2 0);have KT:=ztq l hu;have Hu:=Aa hu;clear hu;have F:=Ad.all c.o.row;have I:=c.o.fz;go_wp2_with fail;clear I F;refine mo KT.o fun w8 hb=>?_;clear KT;replace f:=Aa (f.o.over hb);replace c:=Aa (c.o.over hb);replace A:=Aa (A.o.over hb);replace l:=Aa (l.o.over hb);clear hb;by_cases hz:tl ts s2 0=[123]
         ·have q9:(u.toList == [123])=true:=DN Hu.o hz
          have hr:=E.o;unfold Ck at hr;rw [if_pos (by simp [hz])] at hr;replace E:Hx (bz=_):=hr;clear hr hz;have F:=Ad.all c.o.row;have I:=c.o.fz;obtain ⟨V9,ay⟩:=nm (w8.setCell ⟨H,4,none⟩ (ze true));have n:=gsv ay;replace c:=zs4 c ay;replace f:=zkl f n B;replace A:=zkg A n M;replace l:=Aa (l.o.box n Q.o);clear n;obtain ⟨c8,a7⟩:=nm (DV ts en s2);have KL:=Aa (Ja hall s2 _ l.o.st);rw [<-a7] at KL E;obtain ⟨lb,s5⟩:=c8;dsimp only at E;clear a7;go_wp2_with fail;rw [<-ay];clear I F ay;obtain ⟨d4,V⟩:=nm V9.heap.size;have ap:=zsq l V;have a1:=zlb f V;have a2:=zlb c V;have c0:=zlb A V;refine KL.o.mono ?_;rintro e ec ⟨bh,bg,rfl,G,-,hq⟩;dsimp only at G hq;rw [<-V] at G;obtain ⟨bf,an⟩:=nm lb.length;rw [<-an] at G;try dsimp only
          rw [<-an];have S:=Aa G;clear KL G V an;replace f:=zcq f hq l U;replace c:=zcq c hq l Q;replace A:=zcq A hq l a4;replace l:=zrq l hq;clear hq;have F:=Ad.all c.o.row;have I:=c.o.fz;obtain ⟨hf,a0⟩:=nm (ec.setCell ⟨H,5,none⟩ (zd bh bf bg));have n:=gsv a0;replace c:=zs5 c a0;replace f:=zkl f n B;replace A:=zkg A n M;replace l:=Aa (l.o.box n Q.o);replace S:=Aa (S.o.keep n a2.o);clear n;obtain ⟨s6,bm,KN⟩:=ned ⟨#[59]⟩ [59] rfl (by decide) l;rw [<-bm.o] at E;go_wp2_with fail;rw [<-a0];clear I F a0;refine mo KN.o fun gm hq=>?_;clear KN;replace f:=zcq f hq l U;replace c:=zcq c hq l Q;replace A:=zcq A hq l a4;replace S:=zdq S hq l ap;replace l:=zrq l hq;clear hq;have bc:br≠H:=by have:=B.o;omega
          have be:H≠br:=by have:=B.o;omega
          have bs:br≠bl:=by have:=T.o;omega
          have bt:bl≠br:=by have:=T.o;omega
          have bv:H≠bl:=by have:=M.o;omega
          have bu:bl≠H:=by have:=M.o;omega
          have F:=Ad.all c.o.row;have I:=c.o.fz;have cn:=Ad.all f.o.row;have cm:=f.o.fz;obtain ⟨jl,cz⟩:=nm (setz br gm [(0,O zc 6),(1,O zc p),(2,.string x),(3,.string ⟨#[]⟩),(4,ze true),(5,zd bh bf bg),(6,zd none 0 0),(7,zd none 0 0),(8,O zc 0),(9,O zc 0),(10,O zc 0),(11,.string ⟨#[]⟩),(12,zd none 0 0)]);have n:=Ap cz;replace f:=zzs f cz rfl;dsimp only [BA,List.set] at f;simp only [setz] at cz;replace c:=zkg c n B;replace A:=zkg A n T;replace l:=Aa (l.o.box n U.o);replace S:=Aa (S.o.keep n a1.o);clear n;go_wp2_with fail;refine bodyPost_ret (v:=zj #[zf #[O zc 6,O zc p,.string x,.string ⟨#[]⟩,ze true,zd bh bf bg,zd none 0 0,zd none 0 0,O zc 0,O zc 0,O zc 0,.string ⟨#[]⟩,zd none 0 0],ze true]) (by simp [results,Tryz.results25,go_sem, *]) rfl ?_;rw [<-cz];refine ⟨fun hz=>absurd hz cu.o,fun _=>?_⟩;rw [<-bp.o,E.o];refine ⟨_,_,_,_,_,_,_,_,_,_,_,_,_,_,_,_,_,_,_,_,_,rfl,fun W hW=>?_,Or.inr (zl1 l au),l.o.gr,l.o.st,zl0 l au⟩;exact ⟨6,p,x,⟨#[]⟩,true,_,lb,_,[],_,[],_,_,_,_,_,noE,rfl,rfl,(S.o.base ap.o) W hW,LS.nil,LS.nil,XE.none W⟩
         ·have q9:(u.toList == [123])=false:=Br Hu.o hz
          have hr:=E.o;unfold Ck at hr;rw [if_neg (by simp [hz])] at hr;replace E:Hx (bz=_):=hr;clear hr hz;have F:=Ad.all c.o.row;have I:=c.o.fz;obtain ⟨V9,ay⟩:=nm (w8.setCell ⟨H,4,none⟩ (ze false));have n:=gsv ay;replace c:=zs4 c ay;replace f:=zkl f n B;replace A:=zkg A n M;replace l:=Aa (l.o.box n Q.o);clear n;obtain ⟨s6,bm,KN⟩:=ned ⟨#[59]⟩ [59] rfl (by decide) l;rw [<-bm.o] at E;go_wp2_with fail;rw [<-ay];clear I F ay;refine mo KN.o fun ec hq=>?_;clear KN;replace f:=zcq f hq l U;replace c:=zcq c hq l Q;replace A:=zcq A hq l a4;replace l:=zrq l hq;clear hq;have bc:br≠H:=by have:=B.o;omega
          have be:H≠br:=by have:=B.o;omega
          have bs:br≠bl:=by have:=T.o;omega
          have bt:bl≠br:=by have:=T.o;omega
          have bv:H≠bl:=by have:=M.o;omega
          have bu:bl≠H:=by have:=M.o;omega
          have F:=Ad.all c.o.row;have I:=c.o.fz;have cn:=Ad.all f.o.row;have cm:=f.o.fz;obtain ⟨hf,a0⟩:=nm (setz br ec [(0,O zc 6),(1,O zc p),(2,.string x),(3,.string ⟨#[]⟩),(4,ze false),(5,zd none 0 0),(6,zd none 0 0),(7,zd none 0 0),(8,O zc 0),(9,O zc 0),(10,O zc 0),(11,.string ⟨#[]⟩),(12,zd none 0 0)]);have n:=Ap a0;replace f:=zzs f a0 rfl;dsimp only [BA,List.set] at f;simp only [setz] at a0;replace c:=zkg c n B;replace A:=zkg A n T;replace l:=Aa (l.o.box n U.o);clear n;go_wp2_with fail;refine bodyPost_ret (v:=zj #[zf #[O zc 6,O zc p,.string x,.string ⟨#[]⟩,ze false,zd none 0 0,zd none 0 0,zd none 0 0,O zc 0,O zc 0,O zc 0,.string ⟨#[]⟩,zd none 0 0],ze true]) (by simp [results,Tryz.results25,go_sem, *]) rfl ?_;rw [<-a0];refine ⟨fun hz=>absurd hz cu.o,fun _=>?_⟩;rw [<-bp.o,E.o];refine ⟨_,_,_,_,_,_,_,_,_,_,_,_,_,_,_,_,_,_,_,_,_,rfl,fun W hW=>?_,Or.inr (zl1 l au),l.o.gr,l.o.st,zl0 l au⟩;exact ⟨6,p,x,⟨#[]⟩,false,_,[],_,[],_,[],_,_,_,_,_,noE,rfl,rfl,LS.nil,LS.nil,LS.nil,XE.none W⟩
        ·have b6:((kN:Int) == 6)=false:=by simp;omega
         have hr:=E.o;unfold Ck at hr;rw [if_neg (by simp [h4,h5,h6])] at hr;replace E:Hx (bz=_):=hr;clear hr h7 h2 h4 h5 h6;have F:=Ad.all c.o.row;have I:=c.o.fz;obtain ⟨V8,az⟩:=nm (V7.setCell ⟨H,4,none⟩ (ze false));have n:=gsv az;replace c:=zs4 c az;replace f:=zkl f n B;replace A:=zkg A n M;replace l:=Aa (l.o.box n Q.o);clear n;obtain ⟨s6,bm,KN⟩:=ned ⟨#[59]⟩ [59] rfl (by decide) l;rw [<-bm.o] at E;go_wp2_with fail;rw [<-az];clear I F az;refine mo KN.o fun w9 hq=>?_;clear KN;replace f:=zcq f hq l U;replace c:=zcq c hq l Q;replace A:=zcq A hq l a4;replace l:=zrq l hq;clear hq;have bc:br≠H:=by have:=B.o;omega
         have be:H≠br:=by have:=B.o;omega
         have bs:br≠bl:=by have:=T.o;omega
         have bt:bl≠br:=by have:=T.o;omega
         have bv:H≠bl:=by have:=M.o;omega
         have bu:bl≠H:=by have:=M.o;omega
         have F:=Ad.all c.o.row;have I:=c.o.fz;have cn:=Ad.all f.o.row;have cm:=f.o.fz;obtain ⟨es,aa⟩:=nm (setz br w9 [(0,O zc (kN:Int)),(1,O zc p),(2,.string x),(3,.string ⟨#[]⟩),(4,ze false),(5,zd none 0 0),(6,zd none 0 0),(7,zd none 0 0),(8,O zc 0),(9,O zc 0),(10,O zc 0),(11,.string ⟨#[]⟩),(12,zd none 0 0)]);have n:=Ap aa;replace f:=zzs f aa rfl;dsimp only [BA,List.set] at f;simp only [setz] at aa;replace c:=zkg c n B;replace A:=zkg A n T;replace l:=Aa (l.o.box n U.o);clear n;go_wp2_with fail;refine bodyPost_ret (v:=zj #[zf #[O zc (kN:Int),O zc p,.string x,.string ⟨#[]⟩,ze false,zd none 0 0,zd none 0 0,zd none 0 0,O zc 0,O zc 0,O zc 0,.string ⟨#[]⟩,zd none 0 0],ze true]) (by simp [results,Tryz.results25,go_sem, *]) rfl ?_;rw [<-aa];refine ⟨fun hz=>absurd hz cu.o,fun _=>?_⟩;rw [<-bp.o,E.o];refine ⟨_,_,_,_,_,_,_,_,_,_,_,_,_,_,_,_,_,_,_,_,_,rfl,fun W hW=>?_,Or.inr (zl1 l au),l.o.gr,l.o.st,zl0 l au⟩;exact ⟨(kN:Int),p,x,⟨#[]⟩,false,_,[],_,[],_,[],_,_,_,_,_,noE,rfl,rfl,LS.nil,LS.nil,LS.nil,XE.none W⟩
end
end Go.Proofs.YtipngnjffjajpaaGreatDoor.Tx
