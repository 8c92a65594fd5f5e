/- A reader that goes on while boxes are filled. -/
import Derived.Test.YtipngnjffjajpaaGreatDoorK06
import Derived.ArgAppend
set_option linter.unusedVariables false
set_option maxHeartbeats 8000000
set_option maxRecDepth 100000
namespace Go.Proofs.YtipngnjffjajpaaGreatDoor.Tx
theorem fz4 {P:Nat->Prop} (h:∀ j,P j):P 0/\P 1/\P 2/\P 3:=⟨h 0,h 1,h 2,h 3⟩
theorem fz5 {P:Nat->Prop} (h:∀ j,P j):P 0/\P 1/\P 2/\P 3/\P 4:=⟨h 0,h 1,h 2,h 3,h 4⟩
theorem fz6 {P:Nat->Prop} (h:∀ j,P j):P 0/\P 1/\P 2/\P 3/\P 4/\P 5:=⟨h 0,h 1,h 2,h 3,h 4,h 5⟩
theorem fz7 {P:Nat->Prop} (h:∀ j,P j):P 0/\P 1/\P 2/\P 3/\P 4/\P 5/\P 6:=⟨h 0,h 1,h 2,h 3,h 4,h 5,h 6⟩
theorem fz8 {P:Nat->Prop} (h:∀ j,P j):P 0/\P 1/\P 2/\P 3/\P 4/\P 5/\P 6/\P 7:=⟨h 0,h 1,h 2,h 3,h 4,h 5,h 6,h 7⟩
theorem fz9 {P:Nat->Prop} (h:∀ j,P j):P 0/\P 1/\P 2/\P 3/\P 4/\P 5/\P 6/\P 7/\P 8:=⟨h 0,h 1,h 2,h 3,h 4,h 5,h 6,h 7,h 8⟩
open Go.RowKit
open Go.Value renaming int -> O, slice -> zd, bool -> ze, agg -> zf, pointer -> zh, tuple -> zj
open Go.IntKind renaming i64 -> zc
open Go.Obj renaming cells -> zg
open Go.Ending renaming returned -> zi
structure Rd (rb:Nat) (tv:Value) (ts:List Tok) (en:Nat) (w:World) (n:Nat) (V:World):Prop where
 st0:∃ n0,St rb tv ts en n0 w
 st:St rb tv ts en n V
 gr:w.grownBy V (some rb)
structure Bx (b:Nat) (cs:List Value) (V:World):Prop where
 row:Ad cs V b
 fz:∀ j,V.frozen? ⟨b,j,none⟩=false
 lt:b < V.heap.size
section
variable {rb:Nat} {tv:Value} {ts:List Tok} {en n n1 b c j T:Nat} {w V V':World} {cs ds:List Value} {u:Value}
theorem BJ (w:World) (r:Option Nat):w.grownBy w r:=Ae (Below.refl _ _)
theorem Rd.start (h:St rb tv ts en n w):Rd rb tv ts en w n w:=⟨⟨n,h⟩,h,BJ w _⟩
theorem Rd.rlt (h:Rd rb tv ts en w n V):rb < w.heap.size:=by obtain ⟨b,a⟩:=h.st0;exact a.lt
theorem Rd.size (h:Rd rb tv ts en w n V):w.heap.size<=V.heap.size:=h.gr.size
theorem Rd.call (h:Rd rb tv ts en w n V) (hg:V.grownBy V' (some rb)) (hs:St rb tv ts en n1 V'):Rd rb tv ts en w n1 V':=⟨h.st0,hs,Ac h.gr hg⟩
theorem Rd.over (h:Rd rb tv ts en w n V) (hb:Ov V V'):Rd rb tv ts en w n V':=⟨h.st0,h.st.below hb,Ac h.gr (Ae hb)⟩
theorem Rd.set (h:Rd rb tv ts en w n V) (hb:w.heap.size<=b):Rd rb tv ts en w n (V.setCell ⟨b,j,none⟩ u):=by
 obtain ⟨f,a⟩:=h.st0;have hr:=a.lt;have c:=Aj h.gr (p:=⟨b,j,none⟩) hb u;exact ⟨⟨f,a⟩,a.keep c (by rw [Below.heap_setCell _ _ _ _ (by show rb≠b;omega)];exact h.st.1) h.st.2.1,c⟩
theorem Bx.new (V:World) (cs:List Value) (T:Nat):Bx V.heap.size cs (V.alloc (.cells cs.toArray T)):=⟨A5 V cs T,fun j=>Lib.frozen_of_heap (GL V _) j,by rw [alS];omega⟩
theorem Bx.over (h:Bx b cs V) (hb:Ov V V'):Bx b cs V':=⟨fun j u hu=>ce1 hb (h.row j u hu),fun j=>by rw [World.frozen?_of_block (a:=⟨b,j,none⟩) (hb.block b h.lt)];exact h.fz j,Nat.lt_of_lt_of_le h.lt hb.size⟩
theorem Bx.keep (h:Bx b cs V) (hg:V.grownBy V' (some rb)) (hb:b≠rb):Bx b cs V':=
 have hbr:some b≠some rb:=fun e=>hb (by injection e)
 ⟨fun j u hu=>hg.cell (h.row j u hu) hbr,fun j=>by rw [World.frozen?_of_block (a:=⟨b,j,none⟩) (hg.block b h.lt hbr)];exact h.fz j,Nat.lt_of_lt_of_le h.lt hg.size⟩
theorem Bx.far (h:Bx b cs V) (hb:b≠c):Bx b cs (V.setCell ⟨c,j,none⟩ u):=by
 have a:=Ct (w:=V) (r:=c) (j:=j) (u:=u);exact h.keep a hb
theorem Bx.set (h:Bx b cs V) (hj:j < cs.length):Bx b (cs.set j u) (V.setCell ⟨b,j,none⟩ u):=by
 refine ⟨fun i x a=>?_,fun i=>?_,?_⟩
 ·rw [List.getElem?_set] at a
  by_cases hij:j=i
  ·subst hij
   rw [if_pos rfl,if_pos hj] at a;injection a with a;rw [<-a];exact World.cell?_setCell_same' _ _ _ (by rw [h.row j _ (List.getElem?_eq_getElem hj)];rfl)
  ·rw [if_neg hij] at a
   rw [World.cell?_setCell_other _ _ _ _ (by intro e;injection e with f c;exact hij c)];exact h.row i x a
 ·have:(V.setCell ⟨b,j,none⟩ u).frozen? ⟨b,i,none⟩=V.frozen? ⟨b,i,none⟩:=by simp [go_sem]
  rw [this];exact h.fz i
 ·have:(V.setCell ⟨b,j,none⟩ u).heap.size=V.heap.size:=by simp [World.setCell]
  rw [this];exact h.lt
end
theorem gst {x y:World} {r j:Nat} {u:Value} (h:x.grownBy y (some r)):x.grownBy (y.setCell ⟨r,j,none⟩ u) (some r):=Ac h Ct
theorem Bx.se {b:Nat} {cs:List Value} {V:World} {u:Value} (h:Bx b cs V) (j:Nat) (hj:j < cs.length:=by simp):Bx b (cs.set j u) (V.setCell ⟨b,j,none⟩ u):=h.set hj
theorem Rd.box {rb:Nat} {tv:Value} {ts:List Tok} {en n b:Nat} {w V V':World} (h:Rd rb tv ts en w n V) (hg:V.grownBy V' (some b)) (hb:w.heap.size<=b):Rd rb tv ts en w n V':=by
 obtain ⟨j,f⟩:=h.st0;have hr:=f.lt;have a:=h.gr;have c:w.grownBy V' (some rb):=⟨hg.os.trans a.os,hg.tape.trans a.tape,hg.output.trans a.output,Nat.le_trans a.size hg.size,fun i g l=>(hg.block i (Nat.lt_of_lt_of_le g a.size) (fun e=>by injection e with e;omega)).trans (a.block i g l)⟩;exact ⟨⟨j,f⟩,f.keep c (by rw [hg.block rb (Nat.lt_of_lt_of_le hr a.size) (fun e=>by injection e with e;omega)];exact h.st.1) h.st.2.1,c⟩
section
variable {rb:Nat} {tv:Value} {ts:List Tok} {en n n1 b c j T:Nat} {w U V V':World} {cs:List Value} {a0 a1 a2 a3 a4 a5 a6 a7 a8 a9 a10 a11 a12 u:Value} {o:Obj} {l:List Value}
theorem A1 (h:b=V.heap.size) (e:V'=V.alloc (.cells cs.toArray T)):Hx (Bx b cs V'):=by subst h e;exact Bx.new V cs T
theorem zbv (h:Hx (Bx b cs V)) (e:V'=V.alloc o):Hx (Bx b cs V'):=by subst e;exact h.o.over (bA _ _)
theorem zbd (h:Hx (Bx b cs V)) (e:V'=V.drew):Hx (Bx b cs V'):=by subst e;exact h.o.over (bD _)
theorem zro (h:Hx (Rd rb tv ts en w n V)) (e:V'=V.alloc o):Hx (Rd rb tv ts en w n V'):=by subst e;exact h.o.over (bA _ _)
theorem zrs (h:Hx (Rd rb tv ts en w n V)) (e:V'=V.setCell ⟨b,j,none⟩ u) (q:Hx (w.heap.size<=b)):Hx (Rd rb tv ts en w n V'):=by subst e;exact h.o.set q.o
theorem zfl (h:Hx (Bx b cs V)) (e:V'=V.setCell ⟨c,j,none⟩ u) (q:Hx (b < c)):Hx (Bx b cs V'):=by subst e;exact h.o.far (by have:=q.o;omega)
theorem zfg (h:Hx (Bx b cs V)) (e:V'=V.setCell ⟨c,j,none⟩ u) (q:Hx (c < b)):Hx (Bx b cs V'):=by subst e;exact h.o.far (by have:=q.o;omega)
theorem zsz (h:Hx (Rd rb tv ts en w n V)) (e:b=V.heap.size):Hx (w.heap.size<=b):=by subst e;exact h.o.size
theorem zlb (h:Hx (Bx b cs V)) (e:c=V.heap.size):Hx (b < c):=by subst e;exact h.o.lt
theorem gsv (e:V'=V.setCell ⟨b,j,none⟩ u):V.grownBy V' (some b):=by subst e;exact Ct
theorem zkl (h:Hx (Bx b cs V)) (g:V.grownBy V' (some c)) (q:Hx (b < c)):Hx (Bx b cs V'):=h.o.keep g (by have:=q.o;omega)
theorem zkg (h:Hx (Bx b cs V)) (g:V.grownBy V' (some c)) (q:Hx (c < b)):Hx (Bx b cs V'):=h.o.keep g (by have:=q.o;omega)
theorem zkd (h:Hx (Bx b cs V)) (g:V.grownBy V' (some rb)) (d:Hx (Rd rb tv ts en w n U)) (q:Hx (w.heap.size<=b)):Hx (Bx b cs V'):=h.o.keep g (by have:=q.o;have:=d.o.rlt;omega)
theorem zod {B:Nat} {g:Option Nat} {P:World->Prop} (h:Hx (Off B g V P)) (e:V.grownBy V' (some rb)) (d:Hx (Rd rb tv ts en w n U)) (q:Hx (w.heap.size<=B)):Hx (Off B g V' P):=h.o.keep e (by have:=q.o;have:=d.o.rlt;omega)
theorem zs0 (h:Hx (Bx b (a0::l) V)) (e:V'=V.setCell ⟨b,0,none⟩ u):Hx (Bx b (u::l) V'):=by subst e;exact h.o.set (j:=0) (by simp)
theorem zs1 (h:Hx (Bx b (a0::a1::l) V)) (e:V'=V.setCell ⟨b,1,none⟩ u):Hx (Bx b (a0::u::l) V'):=by subst e;exact h.o.set (j:=1) (by simp)
theorem zs2 (h:Hx (Bx b (a0::a1::a2::l) V)) (e:V'=V.setCell ⟨b,2,none⟩ u):Hx (Bx b (a0::a1::u::l) V'):=by subst e;exact h.o.set (j:=2) (by simp)
theorem zs3 (h:Hx (Bx b (a0::a1::a2::a3::l) V)) (e:V'=V.setCell ⟨b,3,none⟩ u):Hx (Bx b (a0::a1::a2::u::l) V'):=by subst e;exact h.o.set (j:=3) (by simp)
theorem zs4 (h:Hx (Bx b (a0::a1::a2::a3::a4::l) V)) (e:V'=V.setCell ⟨b,4,none⟩ u):Hx (Bx b (a0::a1::a2::a3::u::l) V'):=by subst e;exact h.o.set (j:=4) (by simp)
theorem zs5 (h:Hx (Bx b (a0::a1::a2::a3::a4::a5::l) V)) (e:V'=V.setCell ⟨b,5,none⟩ u):Hx (Bx b (a0::a1::a2::a3::a4::u::l) V'):=by subst e;exact h.o.set (j:=5) (by simp)
theorem zs6 (h:Hx (Bx b (a0::a1::a2::a3::a4::a5::a6::l) V)) (e:V'=V.setCell ⟨b,6,none⟩ u):Hx (Bx b (a0::a1::a2::a3::a4::a5::u::l) V'):=by subst e;exact h.o.set (j:=6) (by simp)
theorem zs7 (h:Hx (Bx b (a0::a1::a2::a3::a4::a5::a6::a7::l) V)) (e:V'=V.setCell ⟨b,7,none⟩ u):Hx (Bx b (a0::a1::a2::a3::a4::a5::a6::u::l) V'):=by subst e;exact h.o.set (j:=7) (by simp)
theorem zs8 (h:Hx (Bx b (a0::a1::a2::a3::a4::a5::a6::a7::a8::l) V)) (e:V'=V.setCell ⟨b,8,none⟩ u):Hx (Bx b (a0::a1::a2::a3::a4::a5::a6::a7::u::l) V'):=by subst e;exact h.o.set (j:=8) (by simp)
theorem zs9 (h:Hx (Bx b (a0::a1::a2::a3::a4::a5::a6::a7::a8::a9::l) V)) (e:V'=V.setCell ⟨b,9,none⟩ u):Hx (Bx b (a0::a1::a2::a3::a4::a5::a6::a7::a8::u::l) V'):=by subst e;exact h.o.set (j:=9) (by simp)
theorem QI (h:Hx (Bx b (a0::a1::a2::a3::a4::a5::a6::a7::a8::a9::a10::l) V)) (e:V'=V.setCell ⟨b,10,none⟩ u):Hx (Bx b (a0::a1::a2::a3::a4::a5::a6::a7::a8::a9::u::l) V'):=by subst e;exact h.o.set (j:=10) (by simp)
theorem QH (h:Hx (Bx b (a0::a1::a2::a3::a4::a5::a6::a7::a8::a9::a10::a11::l) V)) (e:V'=V.setCell ⟨b,11,none⟩ u):Hx (Bx b (a0::a1::a2::a3::a4::a5::a6::a7::a8::a9::a10::u::l) V'):=by subst e;exact h.o.set (j:=11) (by simp)
theorem Sm (h:Hx (Bx b (a0::a1::a2::a3::a4::a5::a6::a7::a8::a9::a10::a11::a12::l) V)) (e:V'=V.setCell ⟨b,12,none⟩ u):Hx (Bx b (a0::a1::a2::a3::a4::a5::a6::a7::a8::a9::a10::a11::u::l) V'):=by subst e;exact h.o.set (j:=12) (by simp)
end
theorem Kk {rb:Nat} {tv:Value} {ts:List Tok} {en:Nat} (n:Nat) (w:World) (h:St rb tv ts en n w):Calls Tryz.prog 131 #[zh (some ⟨rb,0,none⟩)] w fun e w'=>e=zi (ze (AJ (Ag ts n)))/\w.grownBy w' (some rb)/\St rb tv ts en n w':=
 (BR rb tv ts en n w h).mono fun e w' ⟨h1,h2⟩=>⟨h1,Ae h2,h.below h2⟩
theorem Cx {rb:Nat} {tv:Value} {ts:List Tok} {en:Nat} (n:Nat) (w:World) (h:St rb tv ts en n w):Calls Tryz.prog 93 #[zh (some ⟨rb,0,none⟩)] w fun e w'=>e=zi (O zc (Al ts en n))/\w.grownBy w' (some rb)/\St rb tv ts en n w':=
 (BT rb tv ts en n w h).mono fun e w' ⟨h1,h2⟩=>⟨h1,Ae h2,h.below h2⟩
theorem R5 {rb:Nat} {tv:Value} {ts:List Tok} {en:Nat} (x:ByteArray) (n:Nat) (w:World) (h:St rb tv ts en n w):Calls Tryz.prog 51 #[zh (some ⟨rb,0,none⟩),.string x] w fun e w'=>e=zi (ze (isT ts n x.data.toList))/\w.grownBy w' (some rb)/\St rb tv ts en n w':=
 (IG rb tv ts en n x w h).mono fun e w' ⟨h1,h2⟩=>⟨h1,Ae h2,h.below h2⟩
def Hv (W:World) (cs:List Value) (d:D):Prop:=∃ (at_:Int) (o:ByteArray) (wr:Bool) (ns:List ByteArray) (v:Value),cs=[O zc at_,.string o,ze wr,v]/\d=DD at_ o wr ns/\Hs W v ns
def setz (b:Nat):World->List (Nat × Value)->World
 | w,[]=>w
 | w,(j,u)::l=>setz b (w.setCell ⟨b,j,none⟩ u) l
def BA:List Value->List (Nat × Value)->List Value
 | cs,[]=>cs
 | cs,(j,u)::l=>BA (cs.set j u) l
def Me (n:Nat):List (Nat × Value)->Bool
 | []=>true
 | (j,_)::l=>decide (j < n) && Me n l
theorem Ap {b:Nat} {l:List (Nat × Value)}:∀ {w V:World},V=setz b w l->w.grownBy V (some b):=by
 induction l with
 | nil=>intro w V h;rw [h];exact BJ _ _
 | cons x l ih=>intro w V h;rw [h];exact Ac Ct (ih rfl)
theorem Bx.setz {b:Nat} {l:List (Nat × Value)}:∀ {cs ds:List Value} {w V:World},Bx b cs w->V=setz b w l->Me cs.length l=true->ds=BA cs l->Bx b ds V:=by
 induction l with
 | nil=>intro cs ds w V h c a f;rw [c,f];exact h
 | cons x l ih=>
  intro cs ds w V h c a f;unfold Me at a;rw [Bool.and_eq_true,decide_eq_true_eq] at a;exact ih (h.set a.1) c (by rw [List.length_set];exact a.2) f
theorem zzs {b:Nat} {cs:List Value} {l:List (Nat × Value)} {w V:World} (h:Hx (Bx b cs w)) (e:V=setz b w l) (i:Me cs.length l=true):Hx (Bx b (BA cs l) V):=h.o.setz e i rfl
theorem N8 {rb:Nat} {tv:Value} {ts:List Tok} {en:Nat} (n:Nat) (w:World) (h:St rb tv ts en n w) :
  Calls Tryz.prog 136 #[zh (some ⟨rb,0,none⟩)] w (AW ts en (Bz ts en n) (fun d n1 e w'=>∃ (at_:Int) (o:ByteArray) (wr:Bool) (a:Option Addr) (k c:Nat),e=zi (zf #[O zc at_,.string o,ze wr,zd a k c])/\Off w.heap.size none w' (fun W=>Hv W [O zc at_,.string o,ze wr,zd a k c] d)/\w.grownBy w' (some rb)/\St rb tv ts en n1 w') (fun w'=>w.grownBy w' (some rb))):=by
 obtain ⟨az,R⟩:=nm (Bz ts en n);rw [<-R];have r:Hx (az=Ao (AY ts n) fun o n1=>
   if isT ts n1 [33]=true then Ao (BZ ts (AJ (Ag ts (n1+1))) (n1+1)) fun ns n2=>.inl (DD (Al ts en n) o true ns,n2)
   else Ao (AG ts [58] n1) fun _ n2=>Ao (BZ ts (AJ (Ag ts n2)) n2) fun ns N=>.inl (DD (Al ts en n) o false ns,N)):=R
 have g:=Aa (Rd.start h);clear h R;obtain ⟨V1,ai⟩:=nm (w.alloc (zg #[O zc 0,.string ⟨#[]⟩,ze false,zd none 0 0] 53));obtain ⟨M,ah⟩:=nm w.heap.size;have A:=zsz g ah;have b:=A1 ah ai;replace g:=zro g ai;have K1:=Aa (Cx n _ g.o.st);go_enter Tryz.func136,Tryz.ntmps136;go_wp2_with fail;rw [<-ai,<-ah];clear ah ai;refine K1.o.mono ?_;rintro e wa ⟨rfl,l,B⟩;obtain ⟨p,hp⟩:=nm (Al ts en n);rw [<-hp] at r ⊢;clear hp;replace b:=zkd b l g A;replace g:=Aa (g.o.call l B);clear l B;have K2:=Aa (Cw n _ g.o.st);clear K1;go_wp2_with fail;refine pc K2.o r (fun m w2 HO l=>?_) ?_
 ·have HG:=Aa (Ac g.o.gr l)
  clear l;unfold Ah;go_wp2_with fail;exact ⟨rfl,by rw [HO.o];exact ⟨rfl,HG.o⟩⟩
 clear r;rintro o N e w2 ⟨rfl,l,B⟩ r -;replace b:=zkd b l g A;replace g:=Aa (g.o.call l B);clear l B;obtain ⟨V4,V⟩:=nm (w2.alloc (zg #[O zc p,.string o,ze false,zd none 0 0] 53));obtain ⟨P,S⟩:=nm w2.heap.size;have H:=zsz g S;have j:=zlb b S;have f:=A1 S V;replace b:=zbv b V;replace g:=zro g V;have K3:=Aa (GC ⟨#[33]⟩ (by decide) N _ g.o.st);clear K2;go_wp2_with fail;rw [<-V,<-S];clear S V;refine K3.o.mono ?_;rintro e wb ⟨rfl,l,B⟩;replace B:St rb tv ts en (if isT ts N [33]=true then N+1 else N) wb:=B;show _
 cases hq:isT ts N [33] with
 | false=>
  rw [hq] at B;have hr:=r.o;rw [if_neg (by rw [hq];simp)] at hr;replace r:=Aa hr;clear hr;replace B:St rb tv ts en (N) wb:=B;try rw [show isT ts N (ByteArray.mk #[33]).data.toList=false from hq]
  clear hq;replace b:=zkd b l g A;replace f:=zkd f l g H;replace g:=Aa (g.o.call l B);clear l B;have J:M≠P:=by have:=j.o;omega
  have I:P≠M:=by have:=j.o;omega
  have ab:=rc4 f.o.row;obtain ⟨aa,Z,Y,X⟩:=fz4 f.o.fz;obtain ⟨V5,G⟩:=nm (wb.setCell ⟨P,2,none⟩ (ze false));replace f:=zs2 f G;replace b:=zfl b G j;replace g:=zrs g G H;have K4:=Aa (BE ⟨#[58]⟩ (by decide) N _ g.o.st);clear K3;go_wp2_with fail;rw [<-G];clear G X Y Z aa ab I J;refine pc K4.o r (fun m w6 HO l=>?_) ?_
  ·have HG:=Aa (Ac g.o.gr l)
   clear l;unfold Ah;go_wp2_with fail;exact ⟨rfl,by rw [HO.o];exact ⟨rfl,HG.o⟩⟩
  clear r;rintro _u n7 e w6 ⟨rfl,l,B⟩ r -;replace b:=zkd b l g A;replace f:=zkd f l g H;replace g:=Aa (g.o.call l B);clear l B;have K5:=Aa (Kk (n7) _ g.o.st);go_wp2_with fail;refine K5.o.mono ?_;rintro e wc ⟨rfl,l,B⟩;obtain ⟨q,hq⟩:=nm (AJ (Ag ts (n7)));rw [<-hq] at r ⊢;clear hq;replace b:=zkd b l g A;replace f:=zkd f l g H;replace g:=Aa (g.o.call l B);clear l B;have K6:=Aa (I7 q (n7) _ g.o.st);clear K5;go_wp2_with fail;obtain ⟨z,Q⟩:=nm wc.heap.size;have am:=zsz g Q;have C:=zlb b Q;have ac:=zlb f Q;refine pc K6.o r (fun m w8 HO l=>?_) ?_
  ·have HG:=Aa (Ac g.o.gr l)
   clear l;unfold Ah;go_wp2_with fail;exact ⟨rfl,by rw [HO.o];exact ⟨rfl,HG.o⟩⟩
  clear r;rintro ns n9 e w8 ⟨na,nc,rfl,E,aj,l,B⟩ r -;obtain ⟨nl,F⟩:=nm ns.length;rw [<-F,<-Q] at E;rw [<-F];have i:=Aa E;clear aj F E Q;replace b:=zkd b l g A;replace f:=zkd f l g H;replace g:=Aa (g.o.call l B);clear l B K6;have J:M≠P:=by have:=j.o;omega
  have I:P≠M:=by have:=j.o;omega
  have a4:=rc4 b.o.row;obtain ⟨a3,a2,a1,a0⟩:=fz4 b.o.fz;have ab:=rc4 f.o.row;obtain ⟨aa,Z,Y,X⟩:=fz4 f.o.fz;obtain ⟨al,y⟩:=nm (w8.setCell ⟨P,3,none⟩ (zd na nl nc));replace f:=zs3 f y;replace b:=zfl b y j;replace g:=zrs g y H;replace i:=zos i y ac;obtain ⟨ak,x⟩:=nm (al.setCell ⟨M,0,none⟩ (O zc p));replace b:=zs0 b x;replace f:=zfg f x j;replace g:=zrs g x A;replace i:=zos i x C;obtain ⟨aq,u⟩:=nm (ak.setCell ⟨M,1,none⟩ (.string o));replace b:=zs1 b u;replace f:=zfg f u j;replace g:=zrs g u A;replace i:=zos i u C;obtain ⟨a5,L⟩:=nm (aq.setCell ⟨M,2,none⟩ (ze false));replace b:=zs2 b L;replace f:=zfg f L j;replace g:=zrs g L A;replace i:=zos i L C;obtain ⟨bf,K⟩:=nm (a5.setCell ⟨M,3,none⟩ (zd na nl nc));replace b:=zs3 b K;replace f:=zfg f K j;replace g:=zrs g K A;replace i:=zos i K C;go_wp2_with fail;refine bodyPost_ret (v:=zf #[O zc p,.string o,ze false,zd na nl nc]) (by simp [results,Tryz.results136,go_sem, *]) rfl ?_;rw [<-y,<-x,<-u,<-L,<-K];rw [r.o];exact ⟨p,o,false,na,nl,nc,rfl,(i.o.base am.o).imp (fun W hW=>⟨p,o,false,ns,_,rfl,rfl,hW⟩),g.o.gr,g.o.st⟩
 | true=>
  rw [hq] at B;have hr:=r.o;rw [if_pos hq] at hr;replace r:=Aa hr;clear hr;replace B:St rb tv ts en (N+1) wb:=B;try rw [show isT ts N (ByteArray.mk #[33]).data.toList=true from hq]
  clear hq;replace b:=zkd b l g A;replace f:=zkd f l g H;replace g:=Aa (g.o.call l B);clear l B;have J:M≠P:=by have:=j.o;omega
  have I:P≠M:=by have:=j.o;omega
  have ab:=rc4 f.o.row;obtain ⟨aa,Z,Y,X⟩:=fz4 f.o.fz;obtain ⟨V5,G⟩:=nm (wb.setCell ⟨P,2,none⟩ (ze true));replace f:=zs2 f G;replace b:=zfl b G j;replace g:=zrs g G H;have K5:=Aa (Kk (N+1) _ g.o.st);go_wp2_with fail;rw [<-G];clear G X Y Z aa ab I J;refine K5.o.mono ?_;rintro e wc ⟨rfl,l,B⟩;obtain ⟨q,hq⟩:=nm (AJ (Ag ts (N+1)));rw [<-hq] at r ⊢;clear hq;replace b:=zkd b l g A;replace f:=zkd f l g H;replace g:=Aa (g.o.call l B);clear l B;have K6:=Aa (I7 q (N+1) _ g.o.st);clear K5;go_wp2_with fail;obtain ⟨z,Q⟩:=nm wc.heap.size;have am:=zsz g Q;have C:=zlb b Q;have ac:=zlb f Q;refine pc K6.o r (fun m w6 HO l=>?_) ?_
  ·have HG:=Aa (Ac g.o.gr l)
   clear l;unfold Ah;go_wp2_with fail;exact ⟨rfl,by rw [HO.o];exact ⟨rfl,HG.o⟩⟩
  clear r;rintro ns n7 e w6 ⟨na,nc,rfl,E,aj,l,B⟩ r -;obtain ⟨nl,F⟩:=nm ns.length;rw [<-F,<-Q] at E;rw [<-F];have i:=Aa E;clear aj F E Q;replace b:=zkd b l g A;replace f:=zkd f l g H;replace g:=Aa (g.o.call l B);clear l B K6;have J:M≠P:=by have:=j.o;omega
  have I:P≠M:=by have:=j.o;omega
  have a4:=rc4 b.o.row;obtain ⟨a3,a2,a1,a0⟩:=fz4 b.o.fz;have ab:=rc4 f.o.row;obtain ⟨aa,Z,Y,X⟩:=fz4 f.o.fz;obtain ⟨V8,U⟩:=nm (w6.setCell ⟨P,3,none⟩ (zd na nl nc));replace f:=zs3 f U;replace b:=zfl b U j;replace g:=zrs g U H;replace i:=zos i U ac;obtain ⟨V9,T⟩:=nm (V8.setCell ⟨M,0,none⟩ (O zc p));replace b:=zs0 b T;replace f:=zfg f T j;replace g:=zrs g T A;replace i:=zos i T C;obtain ⟨al,y⟩:=nm (V9.setCell ⟨M,1,none⟩ (.string o));replace b:=zs1 b y;replace f:=zfg f y j;replace g:=zrs g y A;replace i:=zos i y C;obtain ⟨ak,x⟩:=nm (al.setCell ⟨M,2,none⟩ (ze true));replace b:=zs2 b x;replace f:=zfg f x j;replace g:=zrs g x A;replace i:=zos i x C;obtain ⟨aq,u⟩:=nm (ak.setCell ⟨M,3,none⟩ (zd na nl nc));replace b:=zs3 b u;replace f:=zfg f u j;replace g:=zrs g u A;replace i:=zos i u C;go_wp2_with fail;refine bodyPost_ret (v:=zf #[O zc p,.string o,ze true,zd na nl nc]) (by simp [results,Tryz.results136,go_sem, *]) rfl ?_;rw [<-U,<-T,<-y,<-x,<-u];rw [r.o];exact ⟨p,o,true,na,nl,nc,rfl,(i.o.base am.o).imp (fun W hW=>⟨p,o,true,ns,_,rfl,rfl,hW⟩),g.o.gr,g.o.st⟩
theorem Tryz.infoPol:(Tryz.prog.info? 53).map (fun i=>(i.zero,i.size,i.bytes))=some (some (zf #[O zc 0,.string ⟨#[]⟩,ze false,zd none 0 0]),4,56):=by kernel_rfl
theorem EN {α:Type} {ts:List Tok} {sep:List UInt8} {one:Nat->Res α} (h1:∀ n a n1,one n=.inl (a,n1)->n<=n1):∀ (f:Nat) (sm:Bool) (acc:List α) (n:Nat) (l:List α) (n1:Nat),BB ts sep one f sm acc n=.inl (l,n1)->n<=n1
 | 0,sm,acc,n,l,n1,h=>by
  injection h with h;injection h with _ h;omega
 | f+1,sm,acc,n,l,n1,h=>by
  unfold BB at h;split at h
  ·obtain ⟨m,ho⟩ | ⟨a,n2,ho⟩:=AM (one n)
   ·rw [ho] at h;cases h
   ·rw [ho,AK] at h
    have:=h1 _ _ _ ho;split at h
    ·have:=EN h1 f true _ _ _ _ h
     omega
    ·injection h with h;injection h with _ h;omega
  ·injection h with h;injection h with _ h;omega
theorem Bl {ts:List Tok} {x:List UInt8} {n:Nat} {a:Unit} {n1:Nat} (h:AG ts x n=.inl (a,n1)):n+1<=n1:=by
 unfold AG at h;split at h
 ·injection h with h;injection h with _ h;omega
 ·cases h
theorem Gc {ts:List Tok} {sm:Bool} {n:Nat} {l:List ByteArray} {n1:Nat} (h:BZ ts sm n=.inl (l,n1)):n<=n1:=EN (fun _ _ _ h=>Nat.le_of_lt (Bm h)) _ _ _ _ _ _ h
theorem Fs {ts:List Tok} {en n:Nat} {d:D} {n1:Nat} (h:Bz ts en n=.inl (d,n1)):n+1<=n1:=by
 unfold Bz at h;obtain ⟨m,c⟩ | ⟨a,n2,c⟩:=AM (AY ts n)
 ·rw [c] at h;cases h
 rw [c,AK] at h;have l:=Bm c;split at h
 ·obtain ⟨m,b⟩ | ⟨i,j,b⟩:=AM (BZ ts (AJ (Ag ts (n2+1))) (n2+1))
  ·rw [b] at h;cases h
  rw [b,AK] at h;have:=Gc b;injection h with h;injection h with _ h;omega
 ·obtain ⟨m,f⟩ | ⟨u,g,f⟩:=AM (AG ts [58] n2)
  ·rw [f] at h;cases h
  rw [f,AK] at h;have:=Bl f;obtain ⟨m,b⟩ | ⟨i,j,b⟩:=AM (BZ ts (AJ (Ag ts g)) g)
  ·rw [b] at h;cases h
  rw [b,AK] at h;have:=Gc b;injection h with h;injection h with _ h;omega
theorem Qw (args:Array Value) (w:World):(callFunc 135 args).run Tryz.prog w=.ok (.enter 135 args) w:=by simp [go_sem]
theorem OD {w0:World} {rb:Nat} {tv:Value} {ts:List Tok} {en n0 lb xb:Nat} (acc:List D) (n:Nat) (w:World) (h:Gro w0 rb tv ts en n0 lb xb 53 4 Hv acc n w) :
  Calls Tryz.prog 135 #[zh (some ⟨lb,0,none⟩),zh (some ⟨xb,0,none⟩)] w (AW ts en (Bz ts en n) (fun a n1 e w'=>e=zi (zj #[])/\Gro w0 rb tv ts en n0 lb xb 53 4 Hv (acc++[a]) n1 w') (fun w'=>w0.grownBy w' (some rb))):=by
 obtain ⟨i0,hi,al,ak,aj⟩:=info_parts Tryz.infoPol;obtain ⟨v,l0,-⟩:=h.row;have x0:=h.xc;have b:=Aa h;have HL:=Aa l0;have KN:Hx (∀ X,St rb tv ts en n X->_):=fun X hX=>N8 n X hX;have HM:Hx (∀ n a n1,Bz ts en n=.inl (a,n1)->n+1<=n1):=fun n a n1 h=>Fs h;clear h;go_enter Tryz.func135,Tryz.ntmps135;go_wp2_with fail;refine gS (fun Wz=>Wz.cell? ⟨xb,0,none⟩=some (zh (some ⟨rb,0,none⟩))) (ce1 (bD w) x0) fun c=>?_;have am:Hx (Ov w w.drew):=bD w;have ax:=ce1 (bD w) l0;generalize w.drew=W at c ax am ⊢;refine kT 1 ?_;refine rdB 0 2 rfl (fun K g=>?_) rfl fun K g=>?_
 ·go_simp
  refine xK g (c) fun c=>?_;clear g K;refine rdA 2 rfl fun K g=>?_;have H:Hx (Ov w W):=am.o;go_simp;refine (KN.o _ (b.o.st.below H.o)).mono ?_;rintro e F hp;obtain ⟨m,N⟩ | ⟨a,n1,N⟩:=AM (Bz ts en n)
  ·rw [N] at hp
   obtain ⟨rfl,hg⟩:=hp;have HG:=Aa (Ac (Ac b.o.gr (Ae H.o)) hg);have HO:=Aa N;clear hg N g c;unfold Ah;go_simp;refine ⟨rfl,?_⟩;rw [HO.o];exact ⟨rfl,HG.o⟩
  rw [N] at hp;obtain ⟨p0,p1,V,U,T,S,rfl,aa,ac,I⟩:=hp;have R:=Aa (aa.base H.o.size);clear aa;have HO:=Aa N;have G:w.grownBy F (some rb):=Ac (Ae H.o) ac;have E:=Aa G;have Q:=Aa I;have ab:some lb≠some rb:=fun e=>by injection e with e;have:=b.o.rlt;have:=b.o.l0;omega
  have Y:some xb≠some rb:=fun e=>by injection e with e;have:=b.o.rlt;have:=b.o.x0;omega
  have l1:F.cell? ⟨lb,0,none⟩=some v:=G.cell HL.o ab;have x1:F.cell? ⟨xb,0,none⟩=some (zh (some ⟨rb,0,none⟩)):=G.cell b.o.xc Y;clear N ac I G ab Y c;go_simp;refine xK g (x1) fun c=>?_;clear g K;refine rdA 3 rfl fun K g=>?_;obtain ⟨W2,l⟩:=nm (F.alloc (zg #[O zc p0,.string p1,ze V,zd U T S] 53));have j:=(aov l).o;have ag:Hx (Ad [O zc p0,.string p1,ze V,zd U T S] W2 F.heap.size):=by show Ad _ _ _;rw [l];exact A5 F [O zc p0,.string p1,ze V,zd U T S] 53
  have l2:=ce1 j l1;have x2:=ce1 j x1;have C:=Aa j;go_simp;rw [<-l];clear l j;refine xK g (x2) fun c=>?_;clear g K;refine rdA 4 rfl fun K g=>?_;obtain ⟨xs,i,L,x⟩:=b.o.app HL.o E.o C.o;have J:w0.heap.size+2<=W2.heap.size:=Nat.le_trans b.o.sz (Nat.le_trans E.o.size C.o.size);have ad:acc.length<=6000:=Nat.le_trans b.o.few (Nat.le_trans b.o.st.2.1 b.o.st.2.2.1);obtain ⟨v2,W3,r,f,A,-,M⟩:=run_append_own_at (P:=Tryz.prog) (w:=W2) (w0.heap.size+2) 45 45 53 i0 (zf #[O zc 0,.string ⟨#[]⟩,ze false,zd none 0 0]) 4 56 Tryz.underlying45 hi al ak aj rfl (by decide) _ _ _ i ⟨F.heap.size,0,none⟩ 1 1 [O zc p0,.string p1,ze V,zd U T S] rfl (fun jj u hu=>by rw [Addr.add_lit,Nat.zero_add];exact ag.o jj u hu) (by simp [Value.oneCell']) (by unfold maxLen;omega) (by omega) J;obtain ⟨y,l3,x3,f3⟩:=b.o.add (a:=a) HL.o E.o Q.o (HM.o _ _ _ HO.o) C.o i L x rfl R.o f A M;have B:=Aa y;obtain ⟨ar,ap,aq,Z⟩:=AP f;subst Z;refine A4 rfl _ _ _ rfl _ _ _ _ rfl rfl r ?_;clear r i L f A M y x ad J;refine xK g (x3) fun c=>?_;clear g K;refine rdA 5 rfl fun K g=>?_;go_simp;refine xK g (B.o.xc) fun c=>?_;clear g K;refine gE ?_;go_wp2_with fail;go_end0;rw [HO.o];exact ⟨rfl,B.o⟩
 ·have H:Hx (Ov w W):=am.o
  go_simp;refine (KN.o _ (b.o.st.below H.o)).mono ?_;rintro e F hp;obtain ⟨m,N⟩ | ⟨a,n1,N⟩:=AM (Bz ts en n)
  ·rw [N] at hp
   obtain ⟨rfl,hg⟩:=hp;have HG:=Aa (Ac (Ac b.o.gr (Ae H.o)) hg);have HO:=Aa N;clear hg N g c;unfold Ah;go_simp;refine ⟨rfl,?_⟩;rw [HO.o];exact ⟨rfl,HG.o⟩
  rw [N] at hp;obtain ⟨p0,p1,V,U,T,S,rfl,aa,ac,I⟩:=hp;have R:=Aa (aa.base H.o.size);clear aa;have HO:=Aa N;have G:w.grownBy F (some rb):=Ac (Ae H.o) ac;have E:=Aa G;have Q:=Aa I;have ab:some lb≠some rb:=fun e=>by injection e with e;have:=b.o.rlt;have:=b.o.l0;omega
  have Y:some xb≠some rb:=fun e=>by injection e with e;have:=b.o.rlt;have:=b.o.x0;omega
  have l1:F.cell? ⟨lb,0,none⟩=some v:=G.cell HL.o ab;have x1:F.cell? ⟨xb,0,none⟩=some (zh (some ⟨rb,0,none⟩)):=G.cell b.o.xc Y;clear N ac I G ab Y c;go_simp;refine xK g (x1) fun c=>?_;clear g K;refine rdB 0 3 rfl (fun K g=>?_) rfl fun K g=>?_
  ·go_simp
   refine xK g (c) fun c=>?_;clear g K;refine rdA 3 rfl fun K g=>?_;obtain ⟨W2,l⟩:=nm (F.alloc (zg #[O zc p0,.string p1,ze V,zd U T S] 53));have j:=(aov l).o;have ag:Hx (Ad [O zc p0,.string p1,ze V,zd U T S] W2 F.heap.size):=by show Ad _ _ _;rw [l];exact A5 F [O zc p0,.string p1,ze V,zd U T S] 53
   have l2:=ce1 j l1;have x2:=ce1 j x1;have C:=Aa j;go_simp;rw [<-l];clear l j;refine xK g (x2) fun c=>?_;clear g K;refine rdA 4 rfl fun K g=>?_;obtain ⟨xs,i,L,x⟩:=b.o.app HL.o E.o C.o;have J:w0.heap.size+2<=W2.heap.size:=Nat.le_trans b.o.sz (Nat.le_trans E.o.size C.o.size);have ad:acc.length<=6000:=Nat.le_trans b.o.few (Nat.le_trans b.o.st.2.1 b.o.st.2.2.1);obtain ⟨v2,W3,r,f,A,-,M⟩:=run_append_own_at (P:=Tryz.prog) (w:=W2) (w0.heap.size+2) 45 45 53 i0 (zf #[O zc 0,.string ⟨#[]⟩,ze false,zd none 0 0]) 4 56 Tryz.underlying45 hi al ak aj rfl (by decide) _ _ _ i ⟨F.heap.size,0,none⟩ 1 1 [O zc p0,.string p1,ze V,zd U T S] rfl (fun jj u hu=>by rw [Addr.add_lit,Nat.zero_add];exact ag.o jj u hu) (by simp [Value.oneCell']) (by unfold maxLen;omega) (by omega) J;obtain ⟨y,l3,x3,f3⟩:=b.o.add (a:=a) HL.o E.o Q.o (HM.o _ _ _ HO.o) C.o i L x rfl R.o f A M;have B:=Aa y;obtain ⟨ar,ap,aq,Z⟩:=AP f;subst Z;refine A4 rfl _ _ _ rfl _ _ _ _ rfl rfl r ?_;clear r i L f A M y x ad J;refine xK g (x3) fun c=>?_;clear g K;refine rdA 5 rfl fun K g=>?_;go_simp;refine xK g (B.o.xc) fun c=>?_;clear g K;refine gE ?_;go_wp2_with fail;go_end0;rw [HO.o];exact ⟨rfl,B.o⟩
  ·obtain ⟨W2,l⟩:=nm (F.alloc (zg #[O zc p0,.string p1,ze V,zd U T S] 53))
   have j:=(aov l).o;have ag:Hx (Ad [O zc p0,.string p1,ze V,zd U T S] W2 F.heap.size):=by show Ad _ _ _;rw [l];exact A5 F [O zc p0,.string p1,ze V,zd U T S] 53
   have l2:=ce1 j l1;have x2:=ce1 j x1;have C:=Aa j;go_simp;rw [<-l];clear l j;refine xK g (x2) fun c=>?_;clear g K;refine rdA 0 rfl fun K g=>?_;go_simp;refine xK g (c) fun c=>?_;clear g K;refine rdA 4 rfl fun K g=>?_;obtain ⟨xs,i,L,x⟩:=b.o.app HL.o E.o C.o;have J:w0.heap.size+2<=W2.heap.size:=Nat.le_trans b.o.sz (Nat.le_trans E.o.size C.o.size);have ad:acc.length<=6000:=Nat.le_trans b.o.few (Nat.le_trans b.o.st.2.1 b.o.st.2.2.1);obtain ⟨v2,W3,r,f,A,-,M⟩:=run_append_own_at (P:=Tryz.prog) (w:=W2) (w0.heap.size+2) 45 45 53 i0 (zf #[O zc 0,.string ⟨#[]⟩,ze false,zd none 0 0]) 4 56 Tryz.underlying45 hi al ak aj rfl (by decide) _ _ _ i ⟨F.heap.size,0,none⟩ 1 1 [O zc p0,.string p1,ze V,zd U T S] rfl (fun jj u hu=>by rw [Addr.add_lit,Nat.zero_add];exact ag.o jj u hu) (by simp [Value.oneCell']) (by unfold maxLen;omega) (by omega) J;obtain ⟨y,l3,x3,f3⟩:=b.o.add (a:=a) HL.o E.o Q.o (HM.o _ _ _ HO.o) C.o i L x rfl R.o f A M;have B:=Aa y;obtain ⟨ar,ap,aq,Z⟩:=AP f;subst Z;refine A4 rfl _ _ _ rfl _ _ _ _ rfl rfl r ?_;clear r i L f A M y x ad J;refine xK g (x3) fun c=>?_;clear g K;refine rdA 5 rfl fun K g=>?_;go_simp;refine xK g (B.o.xc) fun c=>?_;clear g K;refine gE ?_;go_wp2_with fail;go_end0;rw [HO.o];exact ⟨rfl,B.o⟩
theorem Jb {rb:Nat} {tv:Value} {ts:List Tok} {en:Nat} (n:Nat) (w:World) (h:St rb tv ts en n w) :
  Calls Tryz.prog 97 #[zh (some ⟨rb,0,none⟩)] w (AW ts en (DF ts en n) (fun l n1 e w'=>∃ a c,e=zi (zd a l.length c)/\Off w.heap.size none w' (fun W=>LS 4 (Hv W) W (zd a l.length c) l)/\l.length<=6000/\w.grownBy w' (some rb)/\St rb tv ts en n1 w') (fun w'=>w.grownBy w' (some rb))):=by
 obtain ⟨V,hV⟩:=nm ((w.alloc (zg #[zh (some ⟨rb,0,none⟩)] 91)).alloc (zg #[zd none 0 0] 45));have A:Hx (Gro w rb tv ts en n (w.heap.size+1) w.heap.size 53 4 Hv [] n V):=by show Gro _ _ _ _ _ _ _ _ _ _ _ _ _ _;rw [hV];exact Gro.start h 45
 obtain ⟨L,r⟩:=nm (DF ts en n);rw [<-r];have x:Hx (L=Ao (AG ts [123] n) fun _ n1=>Ao (BB ts [59] (Bz ts en) (ts.length+1) (!isT ts n1 [125]) [] n1) fun l n2=>Ao (AG ts [125] n2) fun _ Z=>.inl (l,Z)):=r;have K1:=Aa (BE ⟨#[123]⟩ (by decide) n V A.o.st);have x0:=A.o.xc;clear h r;go_enter Tryz.func97,Tryz.ntmps97;go_wp2_with fail;rw [<-hV];clear hV;refine K1.o.mono ?_;rintro e B b;obtain ⟨m,f⟩ | ⟨u,n1,f⟩:=AM (AG ts [123] n)
 ·replace b:AW ts en (AG ts [123] n) _ _ e B:=b
  rw [f] at b;obtain ⟨rfl,i⟩:=b;have T:=ziz x f;have F:=Aa (Ac A.o.gr i);clear i f;unfold Ah;go_wp2_with fail;refine ⟨rfl,?_⟩;rw [T.o];exact ⟨rfl,F.o⟩
 replace b:AW ts en (AG ts [123] n) _ _ e B:=b;rw [f] at b;obtain ⟨rfl,i,G⟩:=b;have hr:=x.o;rw [f,AK] at hr;replace x:=Aa hr;have C:=Aa (A.o.move (Nat.le_of_lt (Bl f)) i G);have K2:Hx (∀ X,Ov B X->_):=fun X (hX:Ov B X)=>R5 (rb:=rb) (tv:=tv) (ts:=ts) (en:=en) ⟨#[125]⟩ n1 X (C.o.st.below hX);have x1:=C.o.xc;clear hr f i G x0 K1 A;go_wp2_with fail;refine gS (fun Wz=>Wz.cell? ⟨w.heap.size,0,none⟩=some (zh (some ⟨rb,0,none⟩))) (ce1 (bD B) C.o.xc) fun g=>?_;have I:Hx (Ov B B.drew):=bD B;generalize B.drew=W at g I ⊢;refine kT 0 ?_;refine kT 1 ?_;refine kT 4 ?_;refine rdA 2 rfl fun K J=>?_;go_simp;refine (K2.o _ I.o).mono ?_;rintro e w2 ⟨rfl,P,M⟩;obtain ⟨q,hq⟩:=nm (isT ts n1 [125]);have N:isT ts n1 (ByteArray.mk #[125]).data.toList=q:=hq.symm;rw [N];have U:=Aa (C.o.move (Nat.le_refl _) (Ac (Ae I.o) P) M);have HQ:=Aa hq;clear hq N P M g;go_simp;refine xK J (U.o.xc) fun g=>?_;clear J K;refine kT 3 ?_;refine rdA 5 rfl fun K J=>?_;have KE:=Aa (LK (rb:=rb) (tv:=tv) (ts:=ts) (en:=en) 135 [zh (some ⟨w.heap.size+1,0,none⟩),zh (some ⟨w.heap.size,0,none⟩)] Qw ⟨#[59]⟩ (by decide) (Bz ts en) (fun H n2 w'=>Gro w rb tv ts en n (w.heap.size+1) w.heap.size 53 4 Hv H n2 w') (fun w'=>w.grownBy w' (some rb)) (fun _ _ _ h=>h.st) (fun _ _ _ h=>Nat.le_of_lt (Fs h)) (fun _ _ _ _ _ h hn i G=>h.move hn i G) (fun H n w' h=>OD H n w' h) (!q) n1 w2 U.o);go_simp;refine KE.o.mono ?_;rintro e Y b;obtain ⟨m,f⟩ | ⟨l,n2,f⟩:=AM (BB ts [59] (Bz ts en) (ts.length+1) (!q) [] n1)
 ·replace b:AW ts en (BB ts [59] (Bz ts en) (ts.length+1) (!q) [] n1) _ _ e Y:=b
  rw [f] at b;obtain ⟨rfl,i⟩:=b;have T:Hx (L=.inr m):=by show _=_;rw [x.o,<-HQ.o,f];rfl
  have F:=Aa i;clear i f J g;unfold Ah;go_simp;refine ⟨rfl,?_⟩;rw [T.o];exact ⟨rfl,F.o⟩
 replace b:AW ts en (BB ts [59] (Bz ts en) (ts.length+1) (!q) [] n1) _ _ e Y:=b;rw [f] at b;obtain ⟨rfl,O⟩:=b;have hr:=x.o;rw [<-HQ.o,f,AK] at hr;have R:=Aa hr;have y:=Aa O;clear f O hr g;refine xK J (y.o.xc) fun g=>?_;clear J K;refine gE ?_;have KB:=Aa (BE ⟨#[125]⟩ (by decide) n2 Y y.o.st);have x3:=y.o.xc;go_wp2_with fail;refine KB.o.mono ?_;rintro e w4 b;obtain ⟨m,f⟩ | ⟨u,Z,f⟩:=AM (AG ts [125] n2)
 ·replace b:AW ts en (AG ts [125] n2) _ _ e w4:=b
  rw [f] at b;obtain ⟨rfl,i⟩:=b;have T:=ziz R f;have F:=Aa (Ac y.o.gr i);clear i f;unfold Ah;go_wp2_with fail;refine ⟨rfl,?_⟩;rw [T.o];exact ⟨rfl,F.o⟩
 replace b:AW ts en (AG ts [125] n2) _ _ e w4:=b;rw [f] at b;obtain ⟨rfl,i,G⟩:=b;have hr:=R.o;rw [f,AK] at hr;have ad:=Aa hr;have j:=y.o.move (n1:=Z) (by unfold AG at f;split at f;(injection f with f;injection f with _ f;omega);cases f) i G;obtain ⟨v,hv,hc⟩:=j.row;have Q:l.length<=6000:=Nat.le_trans j.few (Nat.le_trans j.st.2.1 j.st.2.2.1);obtain ⟨a,c,rfl,E⟩:=Cop.ls hc (by decide) (by omega);have F:=Aa j;have S:=Aa (E.base (B':=w.heap.size) (by omega));have ae:=Aa Q;obtain ⟨k,hk⟩:=nm l.length;rw [<-hk] at hv;have HK:=Aa hk;clear f i G j hc E hr Q hk x3;go_wp2_with fail;go_ret;rw [ad.o];exact ⟨a,c,by rw [HK.o];rfl,S.o,ae.o,F.o.gr,F.o.st⟩
def XE (W:World):Nat->List Value->D->Prop
 | 0,_,_=>False
 | k+1,cs,d=>∃ (kd a n:Int) (x:ByteArray) (v:Value) (ds:List D),cs=[O zc kd,O zc a,O zc n,.string x,v]/\d=eD kd a n x ds/\LS 5 (XE W k) W v ds
def XC (W:World):Nat->List Value->D->Prop
 | 0,_,_=>False
 | k+1,cs,d=>∃ (kd a:Int) (x y:ByteArray) (e0 e1 e2 e3 e4:Value) (e:D) (vA:Value) (args:List D) (vT:Value) (th:List D) (vE:Value) (el:List D),cs=[O zc kd,O zc a,.string x,.string y,e0,e1,e2,e3,e4,vA,vT,vE]/\d=stD kd a x y e args th el/\XE W 61 [e0,e1,e2,e3,e4] e/\LS 5 (XE W 61) W vA args/\LS 12 (XC W k) W vT th/\LS 12 (XC W k) W vE el
theorem LS.imp {α:Type} {size:Nat} {R R':List Value->α->Prop} {w:World} {v:Value} {l:List α} (h:LS size R w v l) (hR:∀ cs a,a∈l->R cs a->R' cs a):LS size R' w v l:=by
 obtain ⟨C,E,g,B,A⟩:=h;refine ⟨C,E,g,B,fun f=>?_⟩;obtain ⟨b,c,y,u,x⟩:=A f;refine ⟨b,c,y,u,fun i a j=>?_⟩;obtain ⟨cs,q1,r,n⟩:=x i a j;exact ⟨cs,q1,r,hR cs a (List.mem_of_getElem? j) n⟩
theorem XC.mono {W:World}:∀ {k m:Nat} {cs:List Value} {d:D},k<=m->XC W k cs d->XC W m cs d
 | 0,m,cs,d,_,h=>h.elim
 | k+1,0,cs,d,hk,h=>absurd hk (by omega)
 | k+1,m+1,cs,d,hk,h=>by
  obtain ⟨kd,a,x,y,e0,e1,e2,e3,e4,e,vA,args,vT,th,vE,el,h1,h2,h3,h4,h5,h6⟩:=h;exact ⟨kd,a,x,y,e0,e1,e2,e3,e4,e,vA,args,vT,th,vE,el,h1,h2,h3,h4,h5.imp fun cs d _ hh=>XC.mono (by omega) hh,h6.imp fun cs d _ hh=>XC.mono (by omega) hh⟩
def O0:D->List D
 | .agg [_,_,_,_,.slice l _]=>l
 | _=>[]
def Qa:Nat->D->Prop
 | 0,_=>True
 | k+1,d=>(O0 d).length<=2/\∀ a∈O0 d,Qa k a
section
variable {ts:List Tok} {en:Nat}
theorem EO:∀ (f deep n:Nat) (d:D) (n1:Nat),pE ts en f deep n=.inl (d,n1)->Qa f d/\n+1<=n1
 | 0,deep,n,d,n1,h=>by cases h
 | f+1,deep,n,d,n1,h=>by
  have nil:∀ (k a m:Int) (x:ByteArray),Qa (f+1) (eD k a m x []):=fun k a m x=>⟨Nat.zero_le _,fun y hy=>by cases hy⟩;unfold pE at h;split at h
  ·injection h with h;injection h with h1 h2;rw [<-h1];exact ⟨nil _ _ _ _,by omega⟩
  split at h
  ·split at h
   ·cases h
   split at h
   ·injection h with h;injection h with h1 h2;rw [<-h1];exact ⟨nil _ _ _ _,by omega⟩
   ·cases h
  split at h
  ·injection h with h;injection h with h1 h2;rw [<-h1];exact ⟨nil _ _ _ _,by omega⟩
  split at h
  ·cases ha:pE ts en f (deep+1) (n+1) with
   | inr m=>rw [ha] at h;cases h
   | inl p=>
    obtain ⟨a,m1⟩:=p;rw [ha] at h;obtain ⟨a1,a2⟩:=EO f _ _ _ _ ha;dsimp only at h;split at h
    ·cases h
    cases hb:pE ts en f (deep+1) (m1+1) with
    | inr m=>rw [hb] at h;cases h
    | inl q=>
     obtain ⟨b,m2⟩:=q;rw [hb] at h;obtain ⟨b1,b2⟩:=EO f _ _ _ _ hb;dsimp only at h;split at h
     ·injection h with h
      injection h with h1 h2;rw [<-h1];refine ⟨⟨Nat.le_refl _,fun y hy=>?_⟩,by omega⟩;have hy':y∈[a,b]:=hy;simp at hy';rcases hy' with rfl | rfl
      ·exact a1
      ·exact b1
     ·cases h
  ·cases h
end
theorem bkp {b rb n:Nat} {cs:List Value} {V V':World} (h:Hx (Bx b cs V)) (hr:rb < n) (hl:Hx (n<=b)) (hg:V.grownBy V' (some rb)):Hx (Bx b cs V'):=h.o.keep hg (by have:=hl.o;omega)
theorem SK {P:Nat->Prop} (h:∀ j,P j):P 0/\P 1/\P 2/\P 3/\P 4/\P 5/\P 6/\P 7/\P 8/\P 9:=⟨h 0,h 1,h 2,h 3,h 4,h 5,h 6,h 7,h 8,h 9⟩
theorem SJ {P:Nat->Prop} (h:∀ j,P j):P 0/\P 1/\P 2/\P 3/\P 4/\P 5/\P 6/\P 7/\P 8/\P 9/\P 10:=⟨h 0,h 1,h 2,h 3,h 4,h 5,h 6,h 7,h 8,h 9,h 10⟩
theorem SI {P:Nat->Prop} (h:∀ j,P j):P 0/\P 1/\P 2/\P 3/\P 4/\P 5/\P 6/\P 7/\P 8/\P 9/\P 10/\P 11:=⟨h 0,h 1,h 2,h 3,h 4,h 5,h 6,h 7,h 8,h 9,h 10,h 11⟩
theorem SH {P:Nat->Prop} (h:∀ j,P j):P 0/\P 1/\P 2/\P 3/\P 4/\P 5/\P 6/\P 7/\P 8/\P 9/\P 10/\P 11/\P 12:=⟨h 0,h 1,h 2,h 3,h 4,h 5,h 6,h 7,h 8,h 9,h 10,h 11,h 12⟩
theorem RE.xe {S:Nat->Prop} {W:World}:∀ {k:Nat} {cs:List Value} {d:D},RE S W k cs d->Qa k d->XE W k cs d
 | 0,cs,d,h,_=>h.elim
 | k+1,cs,d,h,hf=>by
  obtain ⟨kd,a,n,x,v,ds,h1,h2,ao,cap,hv,hc⟩:=h;subst h2;refine ⟨kd,a,n,x,v,ds,h1,rfl,?_,ao,cap,hv,fun hne=>?_⟩
  ·have:=hf.1
   have e:(O0 (eD kd a n x ds))=ds:=rfl;rw [e] at this;unfold maxLen;omega
  obtain ⟨b,off,hb,-,hz,he⟩:=hc hne;refine ⟨b,off,hb,hz,fun i d hd=>?_⟩;obtain ⟨cs,q1,q2,q3⟩:=he i d hd;exact ⟨cs,q1,q2,RE.xe q3 (hf.2 d (List.mem_of_getElem? hd))⟩
theorem ES {rb:Nat} {tv:Value} {ts:List Tok} {en:Nat} (hall:ts.all Ai=true) (n:Nat) (w:World) (h:St rb tv ts en n w) :
  Calls Tryz.prog 133 #[zh (some ⟨rb,0,none⟩),O zc 0] w (AW ts en (pX ts en n) (fun d n1 e w'=>∃ (kd a m:Int) (x:ByteArray) (ao:Option Addr) (l c:Nat),e=zi (zf #[O zc kd,O zc a,O zc m,.string x,zd ao l c])/\Off w.heap.size none w' (fun W=>XE W 61 [O zc kd,O zc a,O zc m,.string x,zd ao l c] d)/\Kt d=kd/\Hg d=x.data.toList/\w.grownBy w' (some rb)/\St rb tv ts en n1 w') (fun w'=>w.grownBy w' (some rb))):=by
 have C:=OW rb tv ts hall en 61 0 n w (by omega) (by omega) h;refine C.mono fun e w' g=>?_;obtain ⟨m,i⟩ | ⟨d,n1,i⟩:=AM (pX ts en n)
 ·have f:pE ts en 61 0 n=.inr m:=i
  rw [f] at g;rw [i];exact ⟨g.2,g.1⟩
 ·have f:pE ts en 61 0 n=.inl (d,n1):=i
  rw [f] at g;rw [i];obtain ⟨A,F,rfl,hr,u⟩:=g;obtain ⟨kd,a,m,x,v,E,rfl,rfl,y⟩:=id hr;obtain ⟨ao,r,rfl,-⟩:=id y;refine ⟨kd,a,m,x,ao,E.length,r,rfl,fun W hW=>?_,rfl,rfl,A,u⟩;exact RE.xe (S:=fun _=>True) (RE.mono (fun _ _ _=>trivial) (fun b B j=>hW b B j (by simp)) 61 61 _ _ (Nat.le_refl _) hr) (EO 61 0 n _ _ f).1
theorem XE.none (W:World):XE W 61 [O zc 0,O zc 0,O zc 0,.string ⟨#[]⟩,zd none 0 0] noE:=⟨0,0,0,⟨#[]⟩,_,[],rfl,rfl,LS.nil⟩
section
variable (rb:Nat) (tv:Value) (ts:List Tok) (en:Nat)
def CZ (f:Nat):Prop:=∀ (n:Nat) (w:World),St rb tv ts en n w->2*(ts.length - n)+2<=f ->
 Calls Tryz.prog 99 #[zh (some ⟨rb,0,none⟩)] w (AW ts en (AQ ts en f [] n) (fun l n1 e w'=>∃ a c,e=zi (zd a l.length c)/\Off w.heap.size none w' (fun W=>LS 12 (XC W f) W (zd a l.length c) l)/\l.length<=6000/\w.grownBy w' (some rb)/\St rb tv ts en n1 w') (fun w'=>w.grownBy w' (some rb)))
def L3 (f:Nat):Prop:=∀ (n:Nat) (w:World),St rb tv ts en n w->2*(ts.length - n)+1<=f ->
 Calls Tryz.prog 137 #[zh (some ⟨rb,0,none⟩)] w (AW ts en (B2 ts en f n) (fun d n1 e w'=>∃ (kd a:Int) (x y:ByteArray) (e0 e1 e2:Int) (e3:ByteArray) (q0:Option Addr) (q1 q2:Nat) (q3:Option Addr) (q4 q5:Nat) (q6:Option Addr) (q7 q8:Nat) (q9:Option Addr) (r0 r1:Nat),e=zi (zf #[O zc kd,O zc a,.string x,.string y,O zc e0,O zc e1,O zc e2,.string e3,zd q0 q1 q2,zd q3 q4 q5,zd q6 q7 q8,zd q9 r0 r1])/\Off w.heap.size none w' (fun W=>XC W f [O zc kd,O zc a,.string x,.string y,O zc e0,O zc e1,O zc e2,.string e3,zd q0 q1 q2,zd q3 q4 q5,zd q6 q7 q8,zd q9 r0 r1] d)/\n+1<=n1/\w.grownBy w' (some rb)/\St rb tv ts en n1 w') (fun w'=>w.grownBy w' (some rb)))
end
theorem Tryz.infoStm:(Tryz.prog.info? 55).map (fun i=>(i.zero,i.size,i.bytes))=some (some (zf #[O zc 0,O zc 0,.string ⟨#[]⟩,.string ⟨#[]⟩,O zc 0,O zc 0,O zc 0,.string ⟨#[]⟩,zd none 0 0,zd none 0 0,zd none 0 0,zd none 0 0]),12,184):=by kernel_rfl
section
variable {rb:Nat} {tv:Value} {ts:List Tok} {en:Nat}
theorem Rd.row {w V V':World} {n B T s k:Nat} {v:Value} {xs:List Value} (h:Rd rb tv ts en w n V) (ho:V.ownsRow B T s v k xs) (hB:w.heap.size<=B) (hg:V.grownBy V' v.ownBlock):Rd rb tv ts en w n V':=by
 obtain ⟨j,g⟩:=h.st0;have hr:=g.lt;have b:∀ i,i < w.heap.size->some i≠v.ownBlock:=fun i f e=>by have:=(AL ho e.symm).1;omega
 have a:=h.gr;have c:w.grownBy V' (some rb):=⟨hg.os.trans a.os,hg.tape.trans a.tape,hg.output.trans a.output,Nat.le_trans a.size hg.size,fun i f l=>(hg.block i (Nat.lt_of_lt_of_le f a.size) (b i f)).trans (a.block i f l)⟩;exact ⟨⟨j,g⟩,g.keep c (by rw [hg.block rb (Nat.lt_of_lt_of_le hr a.size) (b rb hr)];exact h.st.1) h.st.2.1,c⟩
theorem M8 (x:ByteArray) (l:List UInt8) (hl:x.data.toList=l) (n:Nat) (w:World) (h:St rb tv ts en n w):Calls Tryz.prog 51 #[zh (some ⟨rb,0,none⟩),.string x] w fun e w'=>e=zi (ze (isT ts n l))/\w.grownBy w' (some rb)/\St rb tv ts en n w':=by
 rw [<-hl];exact R5 x n w h
theorem NI (f:Nat) (hS:∀ f',f' < f->L3 rb tv ts en f'):CZ rb tv ts en f:=by
 intro n w h hf;obtain ⟨i0,hi,bn,bm,bl⟩:=info_parts Tryz.infoStm;obtain ⟨P,I⟩:=nm (AQ ts en f [] n);rw [<-I];have HR:=Aa I;have HS:=Aa hS;have b5:=Aa (Rd.start h);have b1:=Aa hf;clear h I hS hf;go_enter Tryz.func99,Tryz.ntmps99;go_wp2_with fail;go_loopw [3] (fun l wr=>∃ (acc:List D) (m f':Nat),Cop w.heap.size 55 12 (fun i cs W=>∀ x,acc[i]? = some x->XC W f cs x) acc.length l wr/\Rd rb tv ts en w m wr/\AQ ts en f' acc m=P/\2*(ts.length - m)+2<=f'/\f'<=f/\acc.length<=m) (fun _ wr=>ts.length - nOf rb wr)
 case atStart=>exact ⟨[],n,f,Cop.nil,b5.o,HR.o.symm,b1.o,Nat.le_refl _,Nat.zero_le _⟩
 case round=>
  obtain ⟨acc,m,f',j,hd,hp,an,am,ao⟩:=hrel;obtain ⟨f1,rfl⟩:∃ f1,f'=f1+1:=⟨f' - 1,by omega⟩;rw [J4] at hp;have H:=hd.st;have aj:m<=6000:=Nat.le_trans H.2.1 H.2.2.1;have K1:=Aa (M8 ⟨#[125]⟩ [125] rfl m wr H);obtain ⟨la,lc,br,-⟩:=j.cells (by decide);subst br;have HN:=Aa (Ge H);have ay:=Aa j;have HD:=Aa hd;have ae:=Aa hp;have HF:=Aa (And.intro an (And.intro am (And.intro ao aj)));obtain ⟨k,hk⟩:=nm acc.length;rw [<-hk] at ay ⊢;have T:=Aa hk;clear j hd hp H an am ao aj hk;go_wp2_with fail;refine K1.o.mono ?_;rintro e w1 ⟨rfl,r,Q⟩;have N:=Aa (ay.o.keep r HD.o.rlt);have L:=Aa (HD.o.call r Q);have al:=r;have aw:=Aa r;clear r Q al K1
  cases hq:isT ts m [125] with
  | true=>
   have HE:Hx (P=.inl (acc,m)):=by
    show _=_;rw [<-ae.o,if_pos (Or.inl hq)]
   have J:acc.length<=6000:=by have:=HF.o;omega
   have B:=N.o;rw [T.o] at B;obtain ⟨a,c,hv,b⟩:=Cop.ls B (by decide) (by omega);injection hv with v1 Y v3;subst v1 v3;have v:=Aa b;have af:=Aa J;clear hq B b J Y;go_wp2_with fail;go_ret;rw [HE.o];exact ⟨la,lc,by rw [T.o];rfl,v.o,af.o,L.o.gr,L.o.st⟩
  | false=>
   have K2:=Aa (M8 ⟨#[114,101,116,117,114,110]⟩ [114,101,116,117,114,110] rfl m w1 L.o.st);have HQ:=Aa hq;clear hq;go_wp2_with fail;refine K2.o.mono ?_;rintro e w2 ⟨rfl,r,Q⟩;have M:=Aa (N.o.keep r HD.o.rlt);have G:=Aa (L.o.call r Q);have cb:=Aa (Ac aw.o r);clear r Q K2 N L
   cases hq:isT ts m [114,101,116,117,114,110] with
   | true=>
    have HE:Hx (P=.inl (acc,m)):=by
     show _=_;rw [<-ae.o,if_pos (Or.inr hq)]
    have J:acc.length<=6000:=by have:=HF.o;omega
    have B:=M.o;rw [T.o] at B;obtain ⟨a,c,hv,b⟩:=Cop.ls B (by decide) (by omega);injection hv with v1 Y v3;subst v1 v3;have v:=Aa b;have af:=Aa J;clear hq B b J Y;go_wp2_with fail;go_ret;rw [HE.o];exact ⟨la,lc,by rw [T.o];rfl,v.o,af.o,G.o.gr,G.o.st⟩
   | false=>
    have hr:=ae.o;rw [if_neg (by rw [HQ.o,hq];simp)] at hr;have ar:Hx (P=Ao (B2 ts en f1 m) fun s n1=>AQ ts en f1 (acc++[s]) n1):=hr.symm;have KS:=Aa (HS.o f1 (by have:=HF.o;omega) m w2 G.o.st (by have:=HF.o;omega));clear hr hq;go_wp2_with fail;refine KS.o.mono ?_;rintro e w3 R;obtain ⟨m1,ho⟩ | ⟨d,n1,ho⟩:=AM (B2 ts en f1 m)
    ·rw [ho] at R
     obtain ⟨rfl,r⟩:=R;have HO:=ziz ar ho;have HG:=Aa (Ac G.o.gr r);clear r ho;unfold Ah;go_wp2_with fail;refine ⟨rfl,?_⟩;rw [HO.o];exact ⟨rfl,HG.o⟩
    rw [ho] at R;obtain ⟨kd,a,x,y,e0,e1,e2,e3,q0,q1,q2,q3,q4,q5,q6,q7,q8,q9,r0,r1,rfl,b,ak,r,Q⟩:=R;have hr:=ar.o;rw [ho,AK] at hr;have bv:=Aa hr;have X:=M.o.keep r HD.o.rlt;have ac:=G.o.call r Q;obtain ⟨W4,F⟩:=nm (w3.alloc (zg #[O zc kd,O zc a,.string x,.string y,O zc e0,O zc e1,O zc e2,.string e3,zd q0 q1 q2,zd q3 q4 q5,zd q6 q7 q8,zd q9 r0 r1] 55));have K:=(aov F).o;obtain ⟨xs,C,V⟩:=X.over K;have bz:Hx (Ad [O zc kd,O zc a,.string x,.string y,O zc e0,O zc e1,O zc e2,.string e3,zd q0 q1 q2,zd q3 q4 q5,zd q6 q7 q8,zd q9 r0 r1] W4 w3.heap.size):=by show Ad _ _ _;rw [F];exact A5 w3 [O zc kd,O zc a,.string x,.string y,O zc e0,O zc e1,O zc e2,.string e3,zd q0 q1 q2,zd q3 q4 q5,zd q6 q7 q8,zd q9 r0 r1] 55
    have v:=Aa (b.over K);have ap:w.heap.size<=W4.heap.size:=Nat.le_trans ac.size K.size;have U:∀ g,(Value.slice la k lc).ownBlock=some g->g < w2.heap.size:=fun g r=>by
     obtain ⟨ys,h1,-⟩:=M.o;exact (AL h1 r).2
    have au:=Aa U;have av:=Aa V;have b4:=Aa (ac.over K);have b0:=Aa (And.intro ak Q.2.1);have aq:=Aa G.o.size;have cm:k<=6000:=by have h1:=HF.o;have h2:=T.o;omega
    clear hr ho b ak r Q X ac K V U KS;go_wp2_with (at_builtin;(try rw [<-F]);refine wpList_append_own_at _ rfl _ _ 23 rfl w.heap.size 55 i0 (zf #[O zc 0,O zc 0,.string ⟨#[]⟩,.string ⟨#[]⟩,O zc 0,O zc 0,O zc 0,.string ⟨#[]⟩,zd none 0 0,zd none 0 0,zd none 0 0,zd none 0 0]) 12 184 Tryz.underlying23 hi bn bm bl rfl (by decide) _ _ _ rfl C ⟨w3.heap.size,0,none⟩ 1 1 [O zc kd,O zc a,.string x,.string y,O zc e0,O zc e1,O zc e2,.string e3,zd q0 q1 q2,zd q3 q4 q5,zd q6 q7 q8,zd q9 r0 r1] rfl rfl (fun jj u hu=>by rw [Addr.add_lit,Nat.zero_add];exact bz.o jj u hu) (by simp [Value.oneCell']) (by unfold maxLen;omega) (by omega) ap ?_);intro Y W5 A E _ S;rw [<-F] at E;have ai:W4.heap.size=w3.heap.size+1:=by rw [F];simp
    replace S:Y.ownBlock=(Value.slice la k lc).ownBlock\/Y.ownBlock=some W4.heap.size:=by rw [ai];simpa using S
    have j:Cop w.heap.size 55 12 (fun i cs W=>∀ x,(acc++[d])[i]? = some x->XC W f cs x) (k+1) Y W5:=Cop.add (B1:=w2.heap.size) C (fun i hi=>by
      obtain ⟨ds,z1,z2,z3⟩:=av.o i hi;exact ⟨ds,z1,z2,z3.imp fun W hW x Z=>hW x (by rw [List.getElem?_append_left (by rw [<-T.o];exact hi)] at Z;exact Z)⟩) rfl (v.o.imp fun W hW x Z=>by
       rw [List.getElem?_append_right (by rw [T.o];exact Nat.le_refl _),T.o,Nat.sub_self] at Z;injection Z with Z;rw [<-Z];exact XC.mono (by have:=HF.o;omega) hW) aq.o au.o A E S
    have ab:=b4.o.row C (Nat.le_refl _) E;obtain ⟨ci,cg,ch,bo⟩:=AP A;subst bo;have ax:=Aa j;have b3:=Aa ab;have bw:=Aa (Ge ab.st);clear j ab C A E S ap ai F;go_wp2_with fail;have hF:=HF.o;have hL:=b0.o;have hN:=HN.o;have cn:=bw.o;refine ⟨⟨acc++[d],n1,f1,?_,b3.o,bv.o.symm,by omega,by omega,by simp;omega⟩,by omega⟩;have:=ax.o;rw [T.o] at this;simpa using this
theorem GJ (f:Nat) (hS:CZ rb tv ts en f) (n:Nat) (w:World) (h:St rb tv ts en n w) (hf:2*(ts.length - n)<=f) :
  Calls Tryz.prog 54 #[zh (some ⟨rb,0,none⟩)] w (AW ts en (Bw ts (fun n=>AQ ts en f [] n) n) (fun l n1 e w'=>∃ a c,e=zi (zd a l.length c)/\Off w.heap.size none w' (fun W=>LS 12 (XC W f) W (zd a l.length c) l)/\l.length<=6000/\w.grownBy w' (some rb)/\St rb tv ts en n1 w') (fun w'=>w.grownBy w' (some rb))):=by
 obtain ⟨G,u⟩:=nm (Bw ts (fun n=>AQ ts en f [] n) n);rw [<-u];have b:Hx (G=Ao (AG ts [123] n) fun _ n1=>Ao (AQ ts en f [] n1) fun l n2=>Ao (AG ts [125] n2) fun _ K=>.inl (l,K)):=u;have i:=Aa (Rd.start h);have T:=Aa hS;have U:=Aa hf;have M:=Aa (BE ⟨#[123]⟩ (by decide) n w h);clear h u hS hf;go_enter Tryz.func54,Tryz.ntmps54;go_wp2_with fail;refine pc M.o b (fun m J C g=>?_) ?_
 ·have F:=Aa (Ac i.o.gr g)
  clear g;unfold Ah;go_wp2_with fail;exact ⟨rfl,by rw [C.o];exact ⟨rfl,F.o⟩⟩
 clear b;rintro X n1 e J ⟨rfl,g,y⟩ b r;have I:=Aa (show n+1<=n1 from Bl r.o);clear r;replace i:=Aa (i.o.call g y);clear g y;have L:=Aa (T.o n1 _ i.o.st (by have:=U.o;have:=I.o;have:=i.o.st.2.1;omega));clear M;go_wp2_with fail;obtain ⟨z,H⟩:=nm J.heap.size;have B:=zsz i H;refine pc L.o b (fun m O C g=>?_) ?_
 ·have F:=Aa (Ac i.o.gr g)
  clear g;unfold Ah;go_wp2_with fail;exact ⟨rfl,by rw [C.o];exact ⟨rfl,F.o⟩⟩
 clear b;rintro l n2 e O ⟨Q,P,rfl,v,A,g,y⟩ b r;obtain ⟨V,j⟩:=nm l.length;rw [<-j,<-H] at v;rw [<-j];have x:=Aa v;have E:=Aa (And.intro j A);clear v A j H r;replace i:=Aa (i.o.call g y);clear g y;have S:=Aa (BE ⟨#[125]⟩ (by decide) n2 _ i.o.st);clear L;go_wp2_with fail;refine pc S.o b (fun m N C g=>?_) ?_
 ·have F:=Aa (Ac i.o.gr g)
  clear g;unfold Ah;go_wp2_with fail;exact ⟨rfl,by rw [C.o];exact ⟨rfl,F.o⟩⟩
 clear b;rintro R K e N ⟨rfl,g,y⟩ b r;clear r;replace x:=zod x g i B;replace i:=Aa (i.o.call g y);clear g y;go_wp2_with fail;go_ret;rw [b.o];have j:=E.o.1;subst j;exact ⟨Q,P,rfl,x.o.base B.o,E.o.2,i.o.gr,i.o.st⟩
end
end Go.Proofs.YtipngnjffjajpaaGreatDoor.Tx
