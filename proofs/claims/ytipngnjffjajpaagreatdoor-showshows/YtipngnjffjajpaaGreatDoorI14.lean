/- A reader that goes on while boxes are filled. -/
import Derived.ArgAppend
import Derived.Deep.Cut
import Derived.Test.YtipngnjffjajpaaGreatDoorI05
set_option linter.unusedVariables false
set_option maxHeartbeats 8000000
set_option maxRecDepth 100000
namespace Go.Proofs.YtipngnjffjajpaaGreatDoor.Tx
open Go.RowKit
open Go.Value renaming int -> A, slice -> O, bool -> zc, agg -> ze, pointer -> zf, tuple -> zh
open Go.IntKind renaming i64 -> J
open Go.Obj renaming cells -> zd
open Go.Ending renaming returned -> zg
structure Bx (b:Nat) (cs:List Value) (V:World):Prop where
 row:Ac cs V b
 fz:∀ j,V.frozen? ⟨b,j,none⟩=false
 lt:b < V.heap.size
section
variable {rb:Nat} {tv:Value} {ts:List Tok} {en n n1 b c j T:Nat} {w V V':World} {cs ds:List Value} {u:Value}
theorem Ad (w:World) (r:Option Nat):w.grownBy w r:=Ag (Below.refl _ _)
theorem Bx.new (V:World) (cs:List Value) (T:Nat):Bx V.heap.size cs (V.alloc (.cells cs.toArray T)):=⟨Ai V cs T,fun j=>Lib.frozen_of_heap (J2 V _) j,by rw [alS];omega⟩
theorem Bx.over (h:Bx b cs V) (hb:Ov V V'):Bx b cs V':=⟨fun j u hu=>ce1 hb (h.row j u hu),fun j=>by rw [World.frozen?_of_block (a:=⟨b,j,none⟩) (hb.block b h.lt)];exact h.fz j,Nat.lt_of_lt_of_le h.lt hb.size⟩
theorem Bx.keep (h:Bx b cs V) (hg:V.grownBy V' (some rb)) (hb:b≠rb):Bx b cs V':=
 have hbr:some b≠some rb:=fun e=>hb (by injection e)
 ⟨fun j u hu=>hg.cell (h.row j u hu) hbr,fun j=>by rw [World.frozen?_of_block (a:=⟨b,j,none⟩) (hg.block b h.lt hbr)];exact h.fz j,Nat.lt_of_lt_of_le h.lt hg.size⟩
theorem Bx.far (h:Bx b cs V) (hb:b≠c):Bx b cs (V.setCell ⟨c,j,none⟩ u):=by
 have a:=CT (w:=V) (r:=c) (j:=j) (u:=u);exact h.keep a hb
theorem Bx.set (h:Bx b cs V) (hj:j < cs.length):Bx b (cs.set j u) (V.setCell ⟨b,j,none⟩ u):=by
 refine ⟨fun i x a=>?_,fun i=>?_,?_⟩
 ·rw [List.getElem?_set] at a
  by_cases hij:j=i
  ·subst hij
   rw [if_pos rfl,if_pos hj] at a;injection a with a;rw [<-a];exact World.cell?_setCell_same' _ _ _ (by rw [h.row j _ (List.getElem?_eq_getElem hj)];rfl)
  ·rw [if_neg hij] at a
   rw [World.cell?_setCell_other _ _ _ _ (by intro e;injection e with f c;exact hij c)];exact h.row i x a
 ·have:(V.setCell ⟨b,j,none⟩ u).frozen? ⟨b,i,none⟩=V.frozen? ⟨b,i,none⟩:=by simp [go_sem]
  rw [this];exact h.fz i
 ·have:(V.setCell ⟨b,j,none⟩ u).heap.size=V.heap.size:=by simp [World.setCell]
  rw [this];exact h.lt
end
theorem bkp {b rb n:Nat} {cs:List Value} {V V':World} (h:Hx (Bx b cs V)) (hr:rb < n) (hl:Hx (n<=b)) (hg:V.grownBy V' (some rb)):Hx (Bx b cs V'):=h.o.keep hg (by have:=hl.o;omega)
theorem fz4 {P:Nat->Prop} (h:∀ j,P j):P 0/\P 1/\P 2/\P 3:=⟨h 0,h 1,h 2,h 3⟩
theorem fz5 {P:Nat->Prop} (h:∀ j,P j):P 0/\P 1/\P 2/\P 3/\P 4:=⟨h 0,h 1,h 2,h 3,h 4⟩
theorem fz6 {P:Nat->Prop} (h:∀ j,P j):P 0/\P 1/\P 2/\P 3/\P 4/\P 5:=⟨h 0,h 1,h 2,h 3,h 4,h 5⟩
theorem fz7 {P:Nat->Prop} (h:∀ j,P j):P 0/\P 1/\P 2/\P 3/\P 4/\P 5/\P 6:=⟨h 0,h 1,h 2,h 3,h 4,h 5,h 6⟩
theorem fz8 {P:Nat->Prop} (h:∀ j,P j):P 0/\P 1/\P 2/\P 3/\P 4/\P 5/\P 6/\P 7:=⟨h 0,h 1,h 2,h 3,h 4,h 5,h 6,h 7⟩
theorem fz9 {P:Nat->Prop} (h:∀ j,P j):P 0/\P 1/\P 2/\P 3/\P 4/\P 5/\P 6/\P 7/\P 8:=⟨h 0,h 1,h 2,h 3,h 4,h 5,h 6,h 7,h 8⟩
theorem PC {P:Nat->Prop} (h:∀ j,P j):P 0/\P 1/\P 2/\P 3/\P 4/\P 5/\P 6/\P 7/\P 8/\P 9:=⟨h 0,h 1,h 2,h 3,h 4,h 5,h 6,h 7,h 8,h 9⟩
theorem PB {P:Nat->Prop} (h:∀ j,P j):P 0/\P 1/\P 2/\P 3/\P 4/\P 5/\P 6/\P 7/\P 8/\P 9/\P 10:=⟨h 0,h 1,h 2,h 3,h 4,h 5,h 6,h 7,h 8,h 9,h 10⟩
theorem Bp {P:Nat->Prop} (h:∀ j,P j):P 0/\P 1/\P 2/\P 3/\P 4/\P 5/\P 6/\P 7/\P 8/\P 9/\P 10/\P 11:=⟨h 0,h 1,h 2,h 3,h 4,h 5,h 6,h 7,h 8,h 9,h 10,h 11⟩
theorem BQ {P:Nat->Prop} (h:∀ j,P j):P 0/\P 1/\P 2/\P 3/\P 4/\P 5/\P 6/\P 7/\P 8/\P 9/\P 10/\P 11/\P 12:=⟨h 0,h 1,h 2,h 3,h 4,h 5,h 6,h 7,h 8,h 9,h 10,h 11,h 12⟩
theorem gst {x y:World} {r j:Nat} {u:Value} (h:x.grownBy y (some r)):x.grownBy (y.setCell ⟨r,j,none⟩ u) (some r):=Ae h CT
theorem Bx.se {b:Nat} {cs:List Value} {V:World} {u:Value} (h:Bx b cs V) (j:Nat) (hj:j < cs.length:=by simp):Bx b (cs.set j u) (V.setCell ⟨b,j,none⟩ u):=h.set hj
def MU (W:World) (cs:List Value) (d:D):Prop:=∃ (at_:Int) (o:ByteArray) (wr:Bool) (ns:List ByteArray) (v:Value),cs=[A J at_,.string o,zc wr,v]/\d=C1 at_ o wr ns/\Gb W v ns
theorem Tryz.infoPol:(Tryz.prog.info? 53).map (fun i=>(i.zero,i.size,i.bytes))=some (some (ze #[A J 0,.string ⟨#[]⟩,zc false,O none 0 0]),4,56):=by kernel_rfl
theorem DI {α:Type} {ts:List Tok} {sep:List UInt8} {one:Nat->Res α} (h1:∀ n a n1,one n=.inl (a,n1)->n<=n1):∀ (f:Nat) (sm:Bool) (acc:List α) (n:Nat) (l:List α) (n1:Nat),BU ts sep one f sm acc n=.inl (l,n1)->n<=n1
 | 0,sm,acc,n,l,n1,h=>by
  injection h with h;injection h with _ h;omega
 | f+1,sm,acc,n,l,n1,h=>by
  unfold BU at h;split at h
  ·obtain ⟨m,ho⟩ | ⟨a,n2,ho⟩:=CS (one n)
   ·rw [ho] at h;cases h
   ·rw [ho,Bc] at h
    have:=h1 _ _ _ ho;split at h
    ·have:=DI h1 f true _ _ _ _ h
     omega
    ·injection h with h;injection h with _ h;omega
  ·injection h with h;injection h with _ h;omega
theorem Bj {ts:List Tok} {x:List UInt8} {n:Nat} {a:Unit} {n1:Nat} (h:Bs ts x n=.inl (a,n1)):n+1<=n1:=by
 unfold Bs at h;split at h
 ·injection h with h;injection h with _ h;omega
 ·cases h
theorem E7 {ts:List Tok} {sm:Bool} {n:Nat} {l:List ByteArray} {n1:Nat} (h:CI ts sm n=.inl (l,n1)):n<=n1:=DI (fun _ _ _ h=>Nat.le_of_lt (Bt h)) _ _ _ _ _ _ h
theorem Jb {ts:List Tok} {en n:Nat} {d:D} {n1:Nat} (h:Cj ts en n=.inl (d,n1)):n+1<=n1:=by
 unfold Cj at h;obtain ⟨m,c⟩ | ⟨a,g,c⟩:=CS (BT ts n)
 ·rw [c] at h;cases h
 rw [c,Bc] at h;have q:=Bt c;split at h
 ·obtain ⟨m,b⟩ | ⟨j,l,b⟩:=CS (CI ts (Bo (Au ts (g+1))) (g+1))
  ·rw [b] at h;cases h
  rw [b,Bc] at h;have:=E7 b;injection h with h;injection h with _ h;omega
 ·obtain ⟨m,f⟩ | ⟨u,i,f⟩:=CS (Bs ts [58] g)
  ·rw [f] at h;cases h
  rw [f,Bc] at h;have:=Bj f;obtain ⟨m,b⟩ | ⟨j,l,b⟩:=CS (CI ts (Bo (Au ts i)) i)
  ·rw [b] at h;cases h
  rw [b,Bc] at h;have:=E7 b;injection h with h;injection h with _ h;omega
def XE (W:World):Nat->List Value->D->Prop
 | 0,_,_=>False
 | k+1,cs,d=>∃ (kd a n:Int) (x:ByteArray) (v:Value) (ds:List D),cs=[A J kd,A J a,A J n,.string x,v]/\d=eD kd a n x ds/\LS 5 (XE W k) W v ds
def XC (W:World):Nat->List Value->D->Prop
 | 0,_,_=>False
 | k+1,cs,d=>∃ (kd a:Int) (x y:ByteArray) (e0 e1 e2 e3 e4:Value) (e:D) (vA:Value) (args:List D) (vT:Value) (th:List D) (vE:Value) (el:List D),cs=[A J kd,A J a,.string x,.string y,e0,e1,e2,e3,e4,vA,vT,vE]/\d=stD kd a x y e args th el/\XE W 61 [e0,e1,e2,e3,e4] e/\LS 5 (XE W 61) W vA args/\LS 12 (XC W k) W vT th/\LS 12 (XC W k) W vE el
theorem LS.imp {α:Type} {size:Nat} {R R':List Value->α->Prop} {w:World} {v:Value} {l:List α} (h:LS size R w v l) (hR:∀ cs a,a∈l->R cs a->R' cs a):LS size R' w v l:=by
 obtain ⟨B,C,g,A,y⟩:=h;refine ⟨B,C,g,A,fun f=>?_⟩;obtain ⟨b,c,x,t,u⟩:=y f;refine ⟨b,c,x,t,fun i a j=>?_⟩;obtain ⟨cs,r,q,n⟩:=u i a j;exact ⟨cs,r,q,hR cs a (List.mem_of_getElem? j) n⟩
theorem XC.mono {W:World}:∀ {k m:Nat} {cs:List Value} {d:D},k<=m->XC W k cs d->XC W m cs d
 | 0,m,cs,d,_,h=>h.elim
 | k+1,0,cs,d,hk,h=>absurd hk (by omega)
 | k+1,m+1,cs,d,hk,h=>by
  obtain ⟨kd,a,x,y,e0,e1,e2,e3,e4,e,vA,args,vT,th,vE,el,h1,h2,h3,h4,h5,h6⟩:=h;exact ⟨kd,a,x,y,e0,e1,e2,e3,e4,e,vA,args,vT,th,vE,el,h1,h2,h3,h4,h5.imp fun cs d _ hh=>XC.mono (by omega) hh,h6.imp fun cs d _ hh=>XC.mono (by omega) hh⟩
def N8:D->List D
 | .agg [_,_,_,_,.slice l _]=>l
 | _=>[]
def OC:Nat->D->Prop
 | 0,_=>True
 | k+1,d=>(N8 d).length<=2/\∀ a∈N8 d,OC k a
section
variable {ts:List Tok} {en:Nat}
theorem FT:∀ (f deep n:Nat) (d:D) (n1:Nat),pE ts en f deep n=.inl (d,n1)->OC f d/\n+1<=n1
 | 0,deep,n,d,n1,h=>by cases h
 | f+1,deep,n,d,n1,h=>by
  have nil:∀ (k a m:Int) (x:ByteArray),OC (f+1) (eD k a m x []):=fun k a m x=>⟨Nat.zero_le _,fun y hy=>by cases hy⟩;unfold pE at h;split at h
  ·injection h with h;injection h with h1 h2;rw [<-h1];exact ⟨nil _ _ _ _,by omega⟩
  split at h
  ·split at h
   ·cases h
   split at h
   ·injection h with h;injection h with h1 h2;rw [<-h1];exact ⟨nil _ _ _ _,by omega⟩
   ·cases h
  split at h
  ·injection h with h;injection h with h1 h2;rw [<-h1];exact ⟨nil _ _ _ _,by omega⟩
  split at h
  ·cases ha:pE ts en f (deep+1) (n+1) with
   | inr m=>rw [ha] at h;cases h
   | inl p=>
    obtain ⟨a,m1⟩:=p;rw [ha] at h;obtain ⟨a1,a2⟩:=FT f _ _ _ _ ha;dsimp only at h;split at h
    ·cases h
    cases hb:pE ts en f (deep+1) (m1+1) with
    | inr m=>rw [hb] at h;cases h
    | inl q=>
     obtain ⟨b,m2⟩:=q;rw [hb] at h;obtain ⟨b1,b2⟩:=FT f _ _ _ _ hb;dsimp only at h;split at h
     ·injection h with h
      injection h with h1 h2;rw [<-h1];refine ⟨⟨Nat.le_refl _,fun y hy=>?_⟩,by omega⟩;have hy':y∈[a,b]:=hy;simp at hy';rcases hy' with rfl | rfl
      ·exact a1
      ·exact b1
     ·cases h
  ·cases h
end
theorem XE.none (W:World):XE W 61 [A J 0,A J 0,A J 0,.string ⟨#[]⟩,O none 0 0] noE:=⟨0,0,0,⟨#[]⟩,_,[],rfl,rfl,LS.nil⟩
theorem Tryz.infoStm:(Tryz.prog.info? 55).map (fun i=>(i.zero,i.size,i.bytes))=some (some (ze #[A J 0,A J 0,.string ⟨#[]⟩,.string ⟨#[]⟩,A J 0,A J 0,A J 0,.string ⟨#[]⟩,O none 0 0,O none 0 0,O none 0 0,O none 0 0]),12,184):=by kernel_rfl
theorem Tryz.infoTE:(Tryz.prog.info? 49).map (fun i=>(i.zero,i.size,i.bytes))=some (some (ze #[A J 0,A J 0,A J 0,.string ⟨#[]⟩,O none 0 0]),5,64):=by kernel_rfl
def N6 (Qn:Act->World->Prop):Exit->Act->World->Prop
 | .normal,a,w=>Qn a w
 | _,_,_=>False
theorem I7 {P:Program} {id:Nat} {ops:Array Oper} {dr:Bool} {Q:Exit->Act->World->Prop} {a:Act} {w:World} (R:Act->World->Prop) (h:(Code.region id ops dr).wp P (N6 R) a w) (hq:∀ a w,R a w->Q .normal a w):(Code.region id ops dr).wp P Q a w:=
 wp_mono h fun e a w h=>by cases e <;> first | exact hq _ _ h | exact h.elim
theorem DK {R:Act->World->Prop} {a:Act} {w:World} (h:R a w):N6 R .normal a w:=h
theorem Ap {α β:Type} {r:Res α} {f:α->Nat->Res β} {b:β} {n1:Nat} (h:AH r f=.inl (b,n1)):∃ a n,r=.inl (a,n)/\f a n=.inl (b,n1):=by
 obtain ⟨m,hr⟩ | ⟨a,n,hr⟩:=CS r
 ·rw [hr] at h;cases h
 ·rw [hr,Bc] at h;exact ⟨a,n,hr,h⟩
theorem CA {α:Type} {a b:α} {n m:Nat} (h:(Sum.inl (a,n):Res α)=.inl (b,m)):n=m:=by
 injection h with h;injection h
section
variable {ts:List Tok} {en:Nat}
theorem Ec {n:Nat} {d:D} {n1:Nat} (h:pX ts en n=.inl (d,n1)):n+1<=n1:=(FT 61 0 n d n1 h).2
theorem EC {s:D} {n:Nat} {d:D} {n1:Nat} (h:Ip ts s n=.inl (d,n1)):n+1<=n1:=by
 obtain ⟨a,m,c,b⟩:=Ap h;have:=Bj c;have:=CA b;omega
theorem FU {at_:Int} {n:Nat} {d:D} {n1:Nat} (h:D3 ts en at_ n=.inl (d,n1)):n+1<=n1:=by
 obtain ⟨x,t,g,h⟩:=Ap h;obtain ⟨u,r,f,h⟩:=Ap h;obtain ⟨e,q,c,h⟩:=Ap h;have:=Bt g;have:=Bj f;have:=Ec c;split at h
 ·obtain ⟨l,j,b,h⟩:=Ap h
  obtain ⟨u,i,a,h⟩:=Ap h;have:=DI (fun _ _ _ h=>Nat.le_of_lt (Ec h)) _ _ _ _ _ _ b;have:=Bj a;have:=CA h;omega
 ·have:=CA h;omega
theorem Fa {ss:Nat->Res (List D)} (hs:∀ n l n1,ss n=.inl (l,n1)->n<=n1) {n:Nat} {l:List D} {n1:Nat} (h:CW ts ss n=.inl (l,n1)):n+1<=n1:=by
 obtain ⟨u,i,c,h⟩:=Ap h;obtain ⟨x,g,b,h⟩:=Ap h;obtain ⟨u,f,a,h⟩:=Ap h;have:=Bj c;have:=hs _ _ _ b;have:=Bj a;have:=CA h;omega
theorem GA {blk:Nat->Res (List D)} (hb:∀ n l n1,blk n=.inl (l,n1)->n<=n1) {n:Nat} {d:D} {n1:Nat} (h:Dj ts en blk n=.inl (d,n1)):n+1<=n1:=by
 unfold Dj at h;split at h
 ·obtain ⟨e,c,a,h⟩:=Ap h
  obtain ⟨f,g,b,h⟩:=Ap h;have:=Ec a;have:=hb _ _ _ b;split at h
  ·obtain ⟨q,j,i,h⟩:=Ap h
   have:=hb _ _ _ i;have:=CA h;omega
  ·have:=CA h;omega
 split at h
 ·obtain ⟨e,c,a,h⟩:=Ap h
  obtain ⟨f,g,b,h⟩:=Ap h;have:=Ec a;have:=hb _ _ _ b;have:=CA h;omega
 split at h
 ·obtain ⟨e,c,a,h⟩:=Ap h
  obtain ⟨f,g,b,h⟩:=Ap h;have:=Bt a;have:=Bt b;have:=EC h;omega
 split at h
 ·obtain ⟨e,c,a,h⟩:=Ap h
  obtain ⟨f,g,b,h⟩:=Ap h;have:=Bt a;have:=Ec b;have:=EC h;omega
 split at h
 ·obtain ⟨e,c,a,h⟩:=Ap h
  obtain ⟨f,g,b,h⟩:=Ap h;have:=Bt a;have:=Ec b;have:=EC h;omega
 split at h
 ·obtain ⟨e,c,a,h⟩:=Ap h
  obtain ⟨f,g,b,h⟩:=Ap h;have:=Bt a;have:=Ec b;have:=EC h;omega
 ·obtain ⟨e,c,a,h⟩:=Ap h
  have:=FU a;have:=EC h;omega
theorem Dd:∀ (f:Nat) (acc:List D) (n:Nat) (l:List D) (n1:Nat),Ce ts en f acc n=.inl (l,n1)->n<=n1
 | 0,acc,n,l,n1,h=>by cases h
 | 1,acc,n,l,n1,h=>by
  unfold Ce at h;split at h
  ·exact Nat.le_of_eq (CA h)
  ·cases h
 | f+2,acc,n,l,n1,h=>by
  unfold Ce at h;split at h
  ·exact Nat.le_of_eq (CA h)
  ·obtain ⟨s,m1,h1,h⟩:=Ap h
   have:=GA (fun n l n1 h=>Nat.le_of_lt (Fa (fun n l n1 h=>Dd f [] n l n1 h) h)) h1;have:=Dd (f+1) _ _ _ _ h;omega
end
def XD (W:World) (f:Nat) (cs:List Value) (d:D):Prop:=∃ (kd a:Int) (x y:ByteArray) (gv:Bool) (vL:Value) (lb:List D) (vP:Value) (ps:List ByteArray) (vB:Value) (body:List D) (r0 r1 r2 r3 r4:Value) (r:D),cs=[A J kd,A J a,.string x,.string y,zc gv,vL,vP,vB,r0,r1,r2,r3,r4]/\d=deD kd a x y gv lb ps body r/\LS 4 (MU W) W vL lb/\Gb W vP ps/\LS 12 (XC W f) W vB body/\XE W 61 [r0,r1,r2,r3,r4] r
section
variable {rb:Nat} {tv:Value} {ts:List Tok} {en:Nat}
theorem L8 {p:Int} {x:ByteArray} {n:Nat} {d:D} {n1:Nat} (h:GB ts en p x n=.inl (d,n1)):n+1<=n1:=by
 unfold GB at h;obtain ⟨_,E,q,h⟩:=Ap h;obtain ⟨_,C,l,h⟩:=Ap h;obtain ⟨_,B,j,h⟩:=Ap h;obtain ⟨_,A,i,h⟩:=Ap h;obtain ⟨_,y,g,h⟩:=Ap h;obtain ⟨_,v,f,h⟩:=Ap h;obtain ⟨_,u,c,h⟩:=Ap h;obtain ⟨_,t,b,h⟩:=Ap h;obtain ⟨_,r,a,h⟩:=Ap h;cases h;have:=Bj q;have:=E7 l;have:=Bj j;have:=Bj i;have:=Dd _ _ _ _ _ g;have:=Bj f;have:=Ec c;have:=Bj b;have:=Bj a;omega
theorem Kn {n:Nat} {l:List D} {n1:Nat} (h:E8 ts en n=.inl (l,n1)):n<=n1:=by
 unfold E8 at h;obtain ⟨_,i,c,h⟩:=Ap h;obtain ⟨_,g,b,h⟩:=Ap h;obtain ⟨_,f,a,h⟩:=Ap h;have:=Bj c;have:=DI (fun _ _ _ h=>Nat.le_of_lt (Jb h)) _ _ _ _ _ _ b;have:=Bj a;have:=CA h;omega
theorem D2 {kd p:Int} {x y:ByteArray} {gv:Bool} {n:Nat} {d:D} {n1:Nat} (h:Dk ts en kd p x y gv n=.inl (d,n1)):n+1<=n1:=by
 unfold Dk at h;split at h
 ·obtain ⟨_,b,a,h⟩:=Ap h
  obtain ⟨_,f,c,h⟩:=Ap h;cases h;have:=Kn a;have:=Bj c;omega
 ·obtain ⟨_,b,a,h⟩:=Ap h
  cases h;exact Bj a
theorem Mb {n:Nat} {d:D} {n1:Nat} (h:EE ts en n=.inl (d,n1)):n+1<=n1:=by
 unfold EE at h;split at h
 ·cases h
 obtain ⟨a,i,f,h⟩:=Ap h;have:=Bt f;split at h
 ·obtain ⟨b,g,c,h⟩:=Ap h
  have:=Bt c;have:=D2 h;omega
 split at h
 ·have:=D2 h
  omega
 split at h
 ·have:=D2 h
  omega
 split at h
 ·have:=L8 h
  omega
 ·have:=D2 h
  omega
end
def J3 (tv:Value) (ts:List Tok) (w:World):Prop:=ts.length<=6000/\∃ ao cap,tv=O ao ts.length cap /\
  (ts≠[]->∃ b off,ao=some ⟨b,off,none⟩/\∀ (j:Nat) (u:Value),(AF ts)[j]? = some u->w.cell? ⟨b,off+j,none⟩=some u)
section
variable {rb:Nat} {tv:Value} {ts:List Tok} {en n n1 b j:Nat} {w V V':World} {u:Value}
theorem M4 {c:Nat} (h:J3 tv ts w) {ao:Option Addr} {cap:Nat} (hv:tv=O ao ts.length cap) (hne:ts≠[]):∃ b off,ao=some ⟨b,off,none⟩/\b < w.heap.size/\∀ (j:Nat) (u:Value),(AF ts)[j]? = some u->w.cell? ⟨b,off+j,none⟩=some u:=by
 obtain ⟨_,r,g,a,i⟩:=h;rw [hv] at a;injection a with q x v;subst q;obtain ⟨b,off,n,f⟩:=i hne;refine ⟨b,off,n,?_,f⟩
 cases ts with
 | nil=>exact absurd rfl hne
 | cons t l=>exact World.block_lt_of_cell? w _ (f 0 (A J t.kind) (by simp [AF,DB]))
theorem Bx.grown {b:Nat} {cs:List Value} {r:Option Nat} (h:Bx b cs V) (hg:V.grownBy V' r) (hb:some b≠r):Bx b cs V':=
 ⟨fun j u hu=>hg.cell (h.row j u hu) hb,fun j=>by rw [World.frozen?_of_block (a:=⟨b,j,none⟩) (hg.block b h.lt hb)];exact h.fz j,Nat.lt_of_lt_of_le h.lt hg.size⟩
end
theorem Tryz.infoTD:(Tryz.prog.info? 51).map (fun i=>(i.zero,i.size,i.bytes))=some (some (ze #[A J 0,A J 0,.string ⟨#[]⟩,.string ⟨#[]⟩,zc false,O none 0 0,O none 0 0,O none 0 0,A J 0,A J 0,A J 0,.string ⟨#[]⟩,O none 0 0]),13,192):=by kernel_rfl
end Go.Proofs.YtipngnjffjajpaaGreatDoor.Tx
namespace Go.Proofs.YtipngnjffjajpaaGreatDoor
open Go.RowKit
open Go.Value renaming int -> A, slice -> O, bool -> zc, agg -> ze, pointer -> zf, tuple -> zh
open Go.IntKind renaming i64 -> J
open Go.Obj renaming cells -> zd
open Go.Ending renaming returned -> zg
theorem DG {s:ByteArray} {f i j:Nat} {note note':Bool} (h:AE note s.data.toList i=AE note' s.data.toList j):Bd s f note i=Bd s f note' j:=by
 cases f with
 | zero=>rfl
 | succ f=>simp only [Bd,h]
theorem J9 {l:List UInt8} {i:Nat} (h:i < l.length):AE true l i=AE (C2 l[i]) l (i+1):=by
 unfold AE;rw [List.drop_eq_getElem_cons h];simp only [Ca];omega
theorem Ka {l:List UInt8} {i:Nat} (h:i < l.length) (h35:l[i].toNat=35):AE false l i=AE true l (i+1):=by
 unfold AE;rw [List.drop_eq_getElem_cons h];simp only [Ca,h35,if_true];omega
theorem DU (w:World) (a b:Int) (x:ByteArray):∀ (j:Nat) (u:Value),[Value.int J a,A J b,.string x][j]? = some u->(w.alloc (zd #[A J a,A J b,.string x] 44)).cell? ((⟨w.heap.size,0,none⟩:Addr).add j)=some u:=by
 intro q u c
 match q,c with
 | 0,c=>simp at c;subst c;simp [Addr.add]
 | 1,c=>simp at c;subst c;simp [Addr.add]
 | 2,c=>simp at c;subst c;simp [Addr.add]
theorem Fr (a b:Int) (x:ByteArray):∀ u∈[Value.int J a,A J b,.string x],u.oneCell'=true:=by
 intro u c;simp at c;rcases c with rfl | rfl | rfl <;> rfl
theorem Fs {n i m:Nat} (h1:n<=i) (h2:i<=m) (h3:m<=6000):n+1<=maxLen:=by unfold maxLen;omega
theorem DV {n i m:Nat} (h1:n<=i) (h2:i<=m) (h3:m<=6000):(n+1)*32<=140737488355328:=by omega
theorem Ep {w w':World} {o:Obj} (h:Below w.heap.size w w'):w.heap.size<=(w'.alloc o).heap.size:=by have:=h.size;simp;omega
def LY (s:ByteArray) (w:World) (o nt vi:Value) (wr:World):Prop:=
 ∃ (note:Bool) (i f:Nat) (ts:List Tok),nt=zc note/\vi=A J (i:Int)/\i<=s.size/\s.size < f+i/\Hid (BZ s=pre ts (Bd s f note i))/\ts.length<=i /\
  wr.ownsRow w.heap.size 44 3 o ts.length (AF ts)/\Below w.heap.size w wr
theorem Ew {s:ByteArray} {w wr w2:World} {i f n:Nat} {ts:List Tok} {kk:Nat} {v':Value} {o:Obj} {v:Value} (HS:Hid (BZ s=pre ts (Bd s f false i))) (hf:s.size < f+i) (htl:ts.length<=i) (hlt:i < s.size)
  (hsk:Hid (AE false s.data.toList i=i)) (hk:Hid (Al s i=(kk,i+n))) (he:Hid (Av s i=0)) (hown0:wr.ownsRow w.heap.size 44 3 v ts.length (AF ts))
  (hown:w2.ownsRow w.heap.size 44 3 v' (ts.length+1) (AF ts++[A J (kk:Int),A J (i:Int),.string (s.extract i (i+n))]))
  (hg:(wr.alloc o).grownBy w2 v.ownBlock) (hb:Below w.heap.size w wr):LY s w v' (zc false) (A J ((i:Int)+(n:Int))) w2:=by
 obtain ⟨c,rfl⟩:∃ c,f=c + 1:=⟨f - 1,by omega⟩;have a:=BM he.out;rw [hk.out] at a;have b:=Gx HS.out (by rw [hsk.out];exact hlt) (by rw [hsk.out];exact he.out);rw [hsk.out] at b;have g:FF s i=⟨kk,i,s.extract i (i+n)⟩:=by unfold FF;rw [hk.out]
 rw [g,hk.out] at b;simp only at b a;refine ⟨false,i+n,c,ts++[⟨kk,i,s.extract i (i+n)⟩],rfl,by go_num,a.2,by omega,Aa b,by simp;omega,?_,?_⟩
 ·rw [DA,List.length_append]
  exact hown
 ·exact (hb.alloc hb.size _).grown hg (by have:=hb.size;simp;omega) (fun k hk=>(hown0.lt k hk).1)
theorem GR (s:ByteArray) (hs:s.size<=6000) (w:World) :
  Calls Tryz.prog 24 #[.string s] w fun e w'=>∃ v,e=zg (zh #[v,A J (BS s:Int),A J (A7 s:Int)]) /\
   w'.ownsRow w.heap.size 44 3 v (Aw s).length (AF (Aw s))/\Below w.heap.size w w':=by
 obtain ⟨i0,hi,Q,P,N⟩:=info_parts Tryz.info34;go_enter Tryz.func24,Tryz.ntmps24;go_wp2_with fail;go_loopw [5,6,7] (fun o nt vi wr=>LY s w o nt vi wr) (fun _ _ vi _=>s.size - (intOf vi).toNat)
 case atStart=>exact ⟨false,0,s.size+1,[],rfl,rfl,Nat.zero_le _,by omega,(JM _).symm,Nat.zero_le _,World.ownsRow_nil _ _ _ _,Below.refl _ _⟩
 case round=>
  obtain ⟨Z,i,f,M,rfl,rfl,u,U,E,q,a,b⟩:=hrel;by_cases hlt:i < s.size
  ·have hl:i < s.data.toList.length:=by simpa using hlt
   cases Z with
   | true=>
    have t:Hid (BZ s=pre M (Bd s f (C2 s[i]) (i+1))):=by
     show _=_;rw [E.out];exact congrArg _ (DG (J9 hl))
    have ao:Hid (C2 s[i]=((s[i].toNat:Int) != 10)):=by
     show _=_;unfold C2;rw [Bool.eq_iff_iff];simp;omega
    clear E;go_wp2_with fail;refine ⟨⟨C2 s[i],i+1,f,M,by rw [ao.out],by go_num,by omega,by omega,t,by omega,a,b⟩,by simp [intOf];omega⟩
   | false=>
    by_cases h35:s[i].toNat=35
    ·have av:((s[i].toNat:Int) == 35)=true:=beq_iff_eq.2 (by omega)
     have bn:((s[i].toNat:Int) != 10)=true:=by rw [bne_iff_ne];omega
     have t:Hid (BZ s=pre M (Bd s f true (i+1))):=by
      show _=_;rw [E.out];exact congrArg _ (DG (Ka hl h35))
     clear E h35;go_wp2_with fail;refine ⟨⟨true,i+1,f,M,rfl,by go_num,by omega,by omega,t,by omega,a,b⟩,by simp [intOf];omega⟩
    have av:((s[i].toNat:Int) == 35)=false:=beq_eq_false_iff_ne.2 (by omega);have H:Cw s[i]=true->Hid (BZ s=pre M (Bd s f false (i+1))):=fun hb=>by
     show _=_;rw [E.out];exact congrArg _ (DG (Fh hl h35 hb))
    have F:=Aa H;clear H;by_cases h32:s[i].toNat=32
    ·have aw:((s[i].toNat:Int) == 32)=true:=beq_iff_eq.2 (by omega)
     have t:=F.out (by simp [Cw,h32]);clear E h35 h32 F;go_wp2_with fail;refine ⟨⟨false,i+1,f,M,rfl,by go_num,by omega,by omega,t,by omega,a,b⟩,by simp [intOf];omega⟩
    have aw:((s[i].toNat:Int) == 32)=false:=beq_eq_false_iff_ne.2 (by omega);by_cases h9:s[i].toNat=9
    ·have b9:((s[i].toNat:Int) == 9)=true:=beq_iff_eq.2 (by omega)
     have t:=F.out (by simp [Cw,h9]);clear E h35 h32 h9 F;go_wp2_with fail;refine ⟨⟨false,i+1,f,M,rfl,by go_num,by omega,by omega,t,by omega,a,b⟩,by simp [intOf];omega⟩
    have b9:((s[i].toNat:Int) == 9)=false:=beq_eq_false_iff_ne.2 (by omega);by_cases h10:s[i].toNat=10
    ·have ax:((s[i].toNat:Int) == 10)=true:=beq_iff_eq.2 (by omega)
     have t:=F.out (by simp [Cw,h10]);clear E h35 h32 h9 h10 F;go_wp2_with fail;refine ⟨⟨false,i+1,f,M,rfl,by go_num,by omega,by omega,t,by omega,a,b⟩,by simp [intOf];omega⟩
    have ax:((s[i].toNat:Int) == 10)=false:=beq_eq_false_iff_ne.2 (by omega);have L:AE false s.data.toList i=i:=Eg hl h35 (by show Cw s[i]=false;simp only [Cw];rw [decide_eq_false_iff_not];omega);have ar:i<=(Al s i).2:=by
     by_cases h0:Av s i=0
     ·have:=(BM h0).1;omega
     ·exact Lv s i
    have af:=FE (s:=s) (j:=i);have ac:=FD (s:=s) (i:=i) u;have ht:=Fd s i hlt hs;obtain ⟨kk,T⟩:∃ kk,kk=(Al s i).1:=⟨_,rfl⟩;obtain ⟨n,hn⟩:∃ n,n=C4 s i:=⟨_,rfl⟩;rw [<-T,<-hn] at ht;rw [<-T] at af;have hk:Al s i=(kk,i+n):=by
     rw [T,hn];unfold C4
     ext
     ·rfl
     ·show _=i+((Al s i).2 - i);omega
    have a1:i+n<=s.size:=by rw [hk] at ac;exact ac
    have aa:Av s i≠0->Aw s=[]/\BS s=i/\A7 s=Av s i:=fun he=>by
     obtain ⟨f',rfl⟩:∃ f',f=f' + 1:=⟨f - 1,by omega⟩;have ae:=Gw E.out (by rw [L];exact hlt) (by rw [L];exact he);rw [L] at ae;simp [Aw,BS,A7,ae]
    have hq:=NG hlt;have HT:=Aa ht;have V:=Aa L;have B:=Aa hk;have l:=Aa aa;have HQ:=Aa hq;clear h35 h32 h9 h10 F L ar ac T ht hn hk aa hq;rcases (show kk=0\/kk=1\/kk=2\/kk=3 by omega) with rfl | rfl | rfl | rfl
    ·have r:Hid (Av s i=1):=by show _=_;simp [Av,B.out]
     obtain ⟨K,I,x⟩:=l.out (by rw [r.out];decide);rw [r.out] at x;have Y:=Aa K;have X:=Aa I;have W:=Aa x;clear K I x l;go_wp2_with fail;refine (HT.out _).mono ?_;rintro e w' ⟨rfl,rfl⟩;go_wp2_with fail
     go_ret3
     exact ⟨O none 0 0,by rw [X.out,W.out];rfl,by rw [Y.out];exact World.ownsRow_nil _ _ _ _,b⟩
    ·by_cases h12:12 < n
     ·have r:Hid (Av s i=2):=by show _=_;simp [Av,B.out,h12]
      obtain ⟨K,I,x⟩:=l.out (by rw [r.out];decide);rw [r.out] at x;have Y:=Aa K;have X:=Aa I;have W:=Aa x;clear K I x l;go_wp2_with fail;refine (HT.out _).mono ?_;rintro e w' ⟨rfl,rfl⟩;go_wp2_with fail
      go_ret3
      exact ⟨O none 0 0,by rw [X.out,W.out];rfl,by rw [Y.out];exact World.ownsRow_nil _ _ _ _,b⟩
     ·have r:Hid (Av s i=0):=by show _=_;simp [Av,B.out,h12]
      go_wp2_with fail;refine (HT.out _).mono ?_;rintro e w' ⟨rfl,rfl⟩;go_wp2_with (at_builtin;refine wpList_append_own _ rfl _ _ 34 rfl w.heap.size 44 i0 (ze #[A J 0,A J 0,.string ⟨#[]⟩]) 3 32 Tryz.underlying34 hi Q P N rfl (by decide) _ _ _ rfl (a.alloc _) ⟨w'.heap.size,0,none⟩ 1 1 [A J 1,A J (i:Int),.string (s.extract i (i+n))] rfl rfl (DU w' 1 i _) (Fr 1 i _) (Fs q u hs) (DV q u hs) (Ep b) ?_)
      ·intro v' w2 c g C
       have ab:0 < n:=by have:=(BM r.out).1;rw [B.out] at this;simp at this;omega
       have R:=Ew (kk:=1) E U q hlt V B r a c g b;have HR:=Aa R;clear R c g C a;go_wp2_with fail;exact ⟨HR.out,by simp [intOf];omega⟩
    ·by_cases h7:7 < n
     ·have r:Hid (Av s i=2):=by show _=_;simp [Av,B.out,h7]
      obtain ⟨K,I,x⟩:=l.out (by rw [r.out];decide);rw [r.out] at x;have Y:=Aa K;have X:=Aa I;have W:=Aa x;clear K I x l;go_wp2_with fail;refine (HT.out _).mono ?_;rintro e w' ⟨rfl,rfl⟩;go_wp2_with fail
      go_ret3
      exact ⟨O none 0 0,by rw [X.out,W.out];rfl,by rw [Y.out];exact World.ownsRow_nil _ _ _ _,b⟩
     by_cases h1:1 < n
     ·have S:(s.extract i (i+n))[0]'(by simp;omega)=s[i]:=by
       simp [ByteArray.getElem_extract]
      by_cases h48:s[i].toNat=48
      ·have au:(((s.extract i (i+n))[0]'(by simp;omega)).toNat:Int) == 48:=by rw [S];exact beq_iff_eq.2 (by omega)
       have y:s[i]=48:=(A6 _ _).2 h48;have r:Hid (Av s i=1):=by show _=_;simp only [Av,B.out,HQ.out,y];simp [h1,h7]
       clear h48 y S;obtain ⟨K,I,x⟩:=l.out (by rw [r.out];decide);rw [r.out] at x;have Y:=Aa K;have X:=Aa I;have W:=Aa x;clear K I x l;go_wp2_with fail;refine (HT.out _).mono ?_;rintro e w' ⟨rfl,rfl⟩;go_wp2_with fail
       go_ret3
       exact ⟨O none 0 0,by rw [X.out,W.out];rfl,by rw [Y.out];exact World.ownsRow_nil _ _ _ _,b⟩
      ·have au:((((s.extract i (i+n))[0]'(by simp;omega)).toNat:Int) == 48)=false:=by rw [S];exact beq_eq_false_iff_ne.2 (by omega)
       have y:¬ s[i]=48:=fun h=>h48 (by rw [h];rfl);have r:Hid (Av s i=0):=by show _=_;simp only [Av,B.out,HQ.out];simp [h1,h7,y]
       clear h48 y S;go_wp2_with fail;refine (HT.out _).mono ?_;rintro e w' ⟨rfl,rfl⟩;go_wp2_with (at_builtin;refine wpList_append_own _ rfl _ _ 34 rfl w.heap.size 44 i0 (ze #[A J 0,A J 0,.string ⟨#[]⟩]) 3 32 Tryz.underlying34 hi Q P N rfl (by decide) _ _ _ rfl (a.alloc _) ⟨w'.heap.size,0,none⟩ 1 1 [A J 2,A J (i:Int),.string (s.extract i (i+n))] rfl rfl (DU w' 2 i _) (Fr 2 i _) (Fs q u hs) (DV q u hs) (Ep b) ?_)
       ·intro v' w2 c g C
        have ab:0 < n:=by have:=(BM r.out).1;rw [B.out] at this;simp at this;omega
        have R:=Ew (kk:=2) E U q hlt V B r a c g b;have HR:=Aa R;clear R c g C a;go_wp2_with fail;exact ⟨HR.out,by simp [intOf];omega⟩
     ·have r:Hid (Av s i=0):=by show _=_;simp only [Av,B.out];simp [h1,h7]
      go_wp2_with fail;refine (HT.out _).mono ?_;rintro e w' ⟨rfl,rfl⟩;go_wp2_with (at_builtin;refine wpList_append_own _ rfl _ _ 34 rfl w.heap.size 44 i0 (ze #[A J 0,A J 0,.string ⟨#[]⟩]) 3 32 Tryz.underlying34 hi Q P N rfl (by decide) _ _ _ rfl (a.alloc _) ⟨w'.heap.size,0,none⟩ 1 1 [A J 2,A J (i:Int),.string (s.extract i (i+n))] rfl rfl (DU w' 2 i _) (Fr 2 i _) (Fs q u hs) (DV q u hs) (Ep b) ?_)
      ·intro v' w2 c g C
       have ab:0 < n:=by have:=(BM r.out).1;rw [B.out] at this;simp at this;omega
       have R:=Ew (kk:=2) E U q hlt V B r a c g b;have HR:=Aa R;clear R c g C a;go_wp2_with fail;exact ⟨HR.out,by simp [intOf];omega⟩
    ·have r:Hid (Av s i=0):=by show _=_;simp [Av,B.out]
     go_wp2_with fail;refine (HT.out _).mono ?_;rintro e w' ⟨rfl,rfl⟩;go_wp2_with (at_builtin;refine wpList_append_own _ rfl _ _ 34 rfl w.heap.size 44 i0 (ze #[A J 0,A J 0,.string ⟨#[]⟩]) 3 32 Tryz.underlying34 hi Q P N rfl (by decide) _ _ _ rfl (a.alloc _) ⟨w'.heap.size,0,none⟩ 1 1 [A J 3,A J (i:Int),.string (s.extract i (i+n))] rfl rfl (DU w' 3 i _) (Fr 3 i _) (Fs q u hs) (DV q u hs) (Ep b) ?_)
     ·intro v' w2 c g C
      have ab:0 < n:=by have:=(BM r.out).1;rw [B.out] at this;simp at this;omega
      have R:=Ew (kk:=3) E U q hlt V B r a c g b;have HR:=Aa R;clear R c g C a;go_wp2_with fail;exact ⟨HR.out,by simp [intOf];omega⟩
  ·have G:BZ s=.inl M:=by
    obtain ⟨f',rfl⟩:∃ f',f=f' + 1:=⟨f - 1,by omega⟩;exact Ih E.out (by have:=DF Z s.data.toList i;omega)
   have K:Aw s=M:=by simp [Aw,G]
   have I:BS s=0:=by simp [BS,G]
   have x:A7 s=0:=by simp [A7,G]
   have Y:=Aa K;have X:=Aa I;have W:=Aa x;clear K I x G E;go_wp2_with fail
   go_ret3
   exact ⟨_,by rw [X.out,W.out];rfl,by rw [Y.out];exact a,b⟩
theorem I6 (s:ByteArray) (hs:s.size<=maxLen) (w:World):Calls Tryz.prog 24 #[.string s] w (J5 s w):=by
 unfold maxLen at hs;by_cases h:s.size<=6000
 ·refine (GR s h w).mono ?_
  rintro e c ⟨v,rfl,a,b⟩;exact ⟨v,Aw s,BS s,A7 s,rfl,a,b,by rw [if_pos h];exact ⟨rfl,rfl,rfl⟩⟩
 ·go_enter Tryz.func24,Tryz.ntmps24
  go_wp2_with fail
  go_ret3
  exact ⟨O none 0 0,[],0,2,rfl,World.ownsRow_nil _ _ _ _,Below.refl _ _,by rw [if_neg h];exact ⟨rfl,rfl,rfl⟩⟩
def tk:List UInt8->Nat × Nat
 | []=>(0,0)
 | c::m=>
  if isL c=true then (1,((c::m).takeWhile isN).length)
  else if isD c=true then (2,((c::m).takeWhile isD).length)
  else if (c::m).take 2 == [61,61] then (3,2)
  else if isS c=true then (3,1)
  else (0,0)
def te (m:List UInt8):Nat:=
 if (tk m).1=0 then 1
 else if (tk m).1=1/\12 < (tk m).2\/(tk m).1=2/\7 < (tk m).2 then 2
 else if (tk m).1=2/\1 < (tk m).2/\m[0]? = some 48 then 1
 else 0
theorem Er (s:ByteArray) (i:Nat):Al s i=((tk (s.data.toList.drop i)).1,i+(tk (s.data.toList.drop i)).2):=by
 unfold Al;by_cases h:i < s.size
 ·rw [dif_pos h]
  have a:i < s.data.toList.length:=by simpa using h
  have b:s.data.toList[i]=s[i]:=rfl;unfold Cg Ar;rw [List.drop_eq_getElem_cons a,b];simp only [tk];split
  ·rfl
  ·split
   ·rfl
   ·split
    ·rfl
    ·split <;> rfl
 ·rw [dif_neg h,List.drop_of_length_le (by simp;omega)]
  rfl
theorem Gs (s:ByteArray) (i:Nat):Av s i=te (s.data.toList.drop i):=by
 unfold Av te;rw [Er];simp only [Nat.add_sub_cancel_left,List.getElem?_drop,Nat.add_zero]
theorem Gf {p:UInt8->Bool} {l:List UInt8} (h:(l.takeWhile p).length=l.length):l.takeWhile p=l:=
 (List.takeWhile_prefix p).eq_of_length h
theorem DC {p:UInt8->Bool} (l:List UInt8):(l.take (l.takeWhile p).length).takeWhile p=l.take (l.takeWhile p).length:=by
 have h:l.take (l.takeWhile p).length=l.takeWhile p:=(List.prefix_iff_eq_take.1 (List.takeWhile_prefix p)).symm;rw [h]
 induction l with
 | nil=>rfl
 | cons c l ih=>
  rw [List.takeWhile_cons];split
  ·rename_i a
   rw [List.takeWhile_cons,if_pos a];congr 1;exact ih ((List.prefix_iff_eq_take.1 (List.takeWhile_prefix p)).symm)
  ·rfl
theorem JD {m:List UInt8} (h:te m=0):tk (m.take (tk m).2)=tk m/\te (m.take (tk m).2)=0/\(m.take (tk m).2).length=(tk m).2/\0 < (tk m).2:=by
 have l:tk (m.take (tk m).2)=tk m/\(m.take (tk m).2).length=(tk m).2/\0 < (tk m).2/\(m.take (tk m).2)[0]? = m[0]?:=by
  cases m with
  | nil=>simp [te,tk] at h
  | cons c m=>
   by_cases hL:isL c=true
   ·have e:tk (c::m)=(1,((c::m).takeWhile isN).length):=by simp [tk,hL]
    have hw:(c::m).takeWhile isN=c::m.takeWhile isN:=by rw [List.takeWhile_cons,if_pos (by simp [isN,hL])]
    have f:(c::m).take ((c::m).takeWhile isN).length=c::m.take (m.takeWhile isN).length:=by rw [hw];simp
    rw [e];simp only;refine ⟨?_,?_,by rw [hw];simp,by rw [f];simp⟩
    ·have g:=DC (p:=isN) (c::m)
     rw [f] at g ⊢;simp only [tk,hL,if_true];rw [g,<-f,List.length_take,Nat.min_eq_left (List.takeWhile_prefix _).length_le]
    ·rw [List.length_take,Nat.min_eq_left (List.takeWhile_prefix _).length_le]
   have a:isL c=false:=by simpa using hL
   by_cases hD:isD c=true
   ·have e:tk (c::m)=(2,((c::m).takeWhile isD).length):=by simp [tk,a,hD]
    have hw:(c::m).takeWhile isD=c::m.takeWhile isD:=by rw [List.takeWhile_cons,if_pos hD]
    have f:(c::m).take ((c::m).takeWhile isD).length=c::m.take (m.takeWhile isD).length:=by rw [hw];simp
    rw [e];simp only;refine ⟨?_,?_,by rw [hw];simp,by rw [f];simp⟩
    ·have g:=DC (p:=isD) (c::m)
     rw [f] at g ⊢;simp only [tk,a,hD,if_true];rw [g,<-f,List.length_take,Nat.min_eq_left (List.takeWhile_prefix _).length_le];rfl
    ·rw [List.length_take,Nat.min_eq_left (List.takeWhile_prefix _).length_le]
   have b:isD c=false:=by simpa using hD
   by_cases hE:((c::m).take 2 == [61,61])=true
   ·have e:tk (c::m)=(3,2):=by simp only [tk,a,b,hE];rfl
    rw [e];simp only;have j:=beq_iff_eq.1 hE;rw [j];refine ⟨by rfl,rfl,by decide,?_⟩
    cases m with
    | nil=>simp at j
    | cons d m=>simp at j;simp [j.1]
   have i:((c::m).take 2 == [61,61])=false:=by simpa using hE
   by_cases hS:isS c=true
   ·have e:tk (c::m)=(3,1):=by simp only [tk,a,b,i,hS];rfl
    rw [e];simp only;refine ⟨?_,by simp,by decide,by simp⟩;simp [tk,a,b,hS]
   ·have n:isS c=false:=by simpa using hS
    have e:tk (c::m)=(0,0):=by simp only [tk,a,b,i,n];rfl
    simp [te,e] at h
 obtain ⟨k1,k2,k3,k4⟩:=l;refine ⟨k1,?_,k2,k3⟩;rw [<-h];unfold te;rw [k1,k4]
theorem Cz (k a:Int) (x:ByteArray):Ak ⟨k,a,x⟩=true ↔ x.size<=6000/\te x.data.toList=0/\((tk x.data.toList).1:Int)=k/\(tk x.data.toList).2=x.data.toList.length:=by
 rw [A0,Gs,Er,List.drop_zero];simp only [Nat.zero_add];constructor
 ·rintro ⟨_,g,b,f,c⟩
  exact ⟨g,b,f,by rw [c];rfl⟩
 ·rintro ⟨g,b,f,c⟩
  have:=(JD b).2.2.2;refine ⟨?_,g,b,f,by rw [c];rfl⟩;have e:x.data.toList.length=x.size:=rfl;omega
theorem Gi (s:ByteArray) (hs:s.size<=6000):∀ (f:Nat) (note:Bool) (i:Nat) (ts:List Tok),Bd s f note i=.inl ts->ts.all Ak=true:=by
 intro f
 induction f with
 | zero=>intro note i ts h;simp only [Bd,Sum.inl.injEq] at h;subst h;rfl
 | succ f ih=>
  intro note i ts h;simp only [Bd] at h;split at h
  ·split at h
   ·rename_i c g
    generalize AE note s.data.toList i=j at c g h
    cases hr:Bd s f false (Al s j).2 with
    | inl r=>
     rw [hr] at h;simp only [Sum.inl.injEq] at h;subst h;rw [List.all_cons,ih _ _ _ hr,Bool.and_true];have b:te (s.data.toList.drop j)=0:=by rw [<-Gs];exact g
     obtain ⟨l,q,n,t⟩:=JD b;have a:(s.extract j (Al s j).2).data.toList=(s.data.toList.drop j).take (tk (s.data.toList.drop j)).2:=by
      rw [Lib.extract_data,Er];simp only [Nat.add_sub_cancel_left]
     refine (Cz _ _ _).2 ⟨?_,?_,?_,?_⟩
     ·have:=FD (s:=s) (i:=j) (by omega)
      rw [ByteArray.size_extract];omega
     ·rw [a];exact q
     ·rw [a,l,Er]
     ·rw [a,l,n]
    | inr x=>rw [hr] at h;simp at h
   ·simp at h
  ·simp only [Sum.inl.injEq] at h;subst h;rfl
end Go.Proofs.YtipngnjffjajpaaGreatDoor
namespace Go.Proofs.YtipngnjffjajpaaGreatDoor.Tx
open Go.RowKit
open Go.Value renaming int -> A, slice -> O, bool -> zc, agg -> ze, pointer -> zf, tuple -> zh
open Go.IntKind renaming i64 -> J
open Go.Obj renaming cells -> zd
open Go.Ending renaming returned -> zg
theorem Lw {w:World} {B:Nat} {v:Value} {ts:List Tok} (h:w.ownsRow B 44 3 v ts.length (AF ts)) (h6:ts.length<=6000):J3 v ts w:=by
 obtain ⟨A,⟨n,c⟩ | ⟨g,b,q,f,x,r,y⟩⟩:=id h
 ·refine ⟨h6,none,0,by rw [n];simp [c],fun a=>?_⟩
  cases ts with
  | nil=>exact absurd rfl a
  | cons t l=>simp at c
 ·subst f
  exact ⟨h6,some ⟨g,0,none⟩,b,rfl,fun _=>⟨g,0,rfl,fun j u i=>by
   have t:=h.cells (g:=g) rfl j u i;rw [Addr.add_lit] at t;exact t⟩⟩
theorem FP (s:ByteArray) (hs:s.size<=6000):(Aw s).all Ak=true:=by
 unfold Aw;split
 ·rename_i a h
  exact Gi s hs _ _ _ _ h
 ·rfl
theorem XE.z {W:World}:∀ {k:Nat} {cs:List Value} {d:D},XE W k cs d->SD d->ZE W k cs d
 | 0,cs,d,h,_=>h.elim
 | k+1,cs,d,h,hs=>by
  obtain ⟨kd,a,n,x,v,ds,h1,rfl,h3⟩:=h;obtain ⟨-,ao,c,rfl,-⟩:=id h3;obtain ⟨-,-,-,hx,hd⟩:=Pp hs.of_agg;exact ⟨kd,a,n,x,ao,c,ds,h1,rfl,Cy hx.of_str,h3.imp fun cs d hm hh=>XE.z hh (hd.of_list d hm)⟩
theorem XC.z {W:World}:∀ {k:Nat} {cs:List Value} {d:D},XC W k cs d->SD d->ZC W 61 k cs d
 | 0,cs,d,h,_=>h.elim
 | k+1,cs,d,h,hs=>by
  obtain ⟨kd,a,x,y,e0,e1,e2,e3,e4,e,vA,args,vT,th,vE,el,h1,rfl,h3,h4,h5,h6⟩:=h;obtain ⟨-,aA,cA,rfl,-⟩:=id h4;obtain ⟨-,aT,cT,rfl,-⟩:=id h5;obtain ⟨-,aE,cE,rfl,-⟩:=id h6;obtain ⟨-,-,hx,hy,he,hA,hT,hE⟩:=Po hs.of_agg;have hz:=XE.z h3 he;obtain ⟨k0,k1,k2,k3,q,q1,q2,hk⟩:=hz.cells;simp only [List.cons.injEq,and_true] at hk;obtain ⟨rfl,rfl,rfl,rfl,rfl⟩:=hk;exact ⟨kd,a,x,y,k0,k1,k2,k3,q,q1,q2,e,aA,cA,args,aT,cT,th,aE,cE,el,h1,rfl,Cy hx.of_str,Cy hy.of_str,hz,h4.imp fun cs d hm hh=>XE.z hh (hA.of_list d hm),h5.imp fun cs d hm hh=>XC.z hh (hT.of_list d hm),h6.imp fun cs d hm hh=>XC.z hh (hE.of_list d hm)⟩
theorem LC {W:World} {v:Value} {ns:List ByteArray} (h:Gb W v ns) (hs:∀ x∈ns,x.size<=6000):LS 1 ZN W v ns:=h.imp fun cs x hm hh=>⟨hh,Cy (hs x hm)⟩
theorem XD.z {W:World} {f:Nat} {cs:List Value} {d:D} (h:XD W f cs d) (hs:SD d):ZD W 61 f cs d:=by
 obtain ⟨F,a,x,y,Q,vL,E,vP,B,vB,b,r0,r1,r2,r3,r4,r,P,rfl,t,n,l,O⟩:=h;obtain ⟨-,Z,U,rfl,-⟩:=id t;obtain ⟨-,Y,T,rfl,-⟩:=id n;obtain ⟨-,aB,V,rfl,-⟩:=id l;obtain ⟨-,-,I,H,-,M,L,N,hr⟩:=Pn hs.of_agg;have i:=XE.z O hr;obtain ⟨G,k1,k2,k3,q,A,v,j⟩:=i.cells;simp only [List.cons.injEq,and_true] at j;obtain ⟨rfl,rfl,rfl,rfl,rfl⟩:=j;refine ⟨F,a,x,y,Q,Z,U,E,Y,T,B,aB,V,b,G,k1,k2,k3,q,A,v,r,P,rfl,Cy I.of_str,Cy H.of_str,t.imp fun cs d c g=>?_,LC n (SD.of_strs L.of_list),l.imp fun cs d c g=>XC.z g (N.of_list d c),i⟩;obtain ⟨a,o,wr,C,vn,R,rfl,u⟩:=g;obtain ⟨-,X,S,rfl,-⟩:=id u;obtain ⟨-,J,-,K⟩:=Pq (M.of_list _ c).of_agg;exact ⟨a,o,wr,X,S,C,R,rfl,Cy J.of_str,LC u (SD.of_strs K.of_list)⟩
def OkR {α:Type} (P:α->Prop) (r:Res α):Prop:=∀ a n,r=.inl (a,n)->P a
theorem OkR.inl {α:Type} {P:α->Prop} {a:α} {n:Nat} (h:P a):OkR P (.inl (a,n)):=fun b m e=>by
 injection e with e;injection e with e1 e2;exact e1 ▸ h
theorem OkR.inr {α:Type} {P:α->Prop} {m:Nat}:OkR P (.inr m:Res α):=fun b m e=>by cases e
theorem OkR.bind {α β:Type} {P:α->Prop} {Q:β->Prop} {r:Res α} {f:α->Nat->Res β} (h:OkR P r) (hf:∀ a n,P a->OkR Q (f a n)):OkR Q (AH r f):=by
 cases r with
 | inr m=>exact OkR.inr
 | inl p=>obtain ⟨a,n⟩:=p;exact hf a n (h a n rfl)
theorem OkR.ite {α:Type} {P:α->Prop} {c:Prop} [Decidable c] {r s:Res α} (h1:OkR P r) (h2:OkR P s):OkR P (if c then r else s):=by
 split
 ·exact h1
 ·exact h2
theorem OkR.any {α:Type} (r:Res α):OkR (fun _=>True) r:=fun _ _ _=>trivial
section
variable (ts:List Tok) (en:Nat)
theorem FR (hall:ts.all Ak=true) (n:Nat):(Au ts n).text.size<=6000:=by
 by_cases h:n < ts.length
 ·have a:=Dc (ts:=ts) h
  exact Cp (List.all_eq_true.1 hall _ a)
 ·have:Au ts n=⟨0,0,⟨#[]⟩⟩:=by unfold Au;rw [List.getElem?_eq_none (by omega)]
  rw [this];exact Nat.zero_le _
theorem Cc (hall:ts.all Ak=true) (n:Nat):OkR (fun x=>x.size<=6000) (BT ts n):=OkR.ite (OkR.inl (FR ts hall n)) OkR.inr
theorem ED {α:Type} {P:α->Prop} {sep:List UInt8} {one:Nat->Res α} (h:∀ n,OkR P (one n)):∀ (f:Nat) (sm:Bool) (acc:List α) (n:Nat),(∀ a∈acc,P a)->OkR (fun l=>∀ a∈l,P a) (BU ts sep one f sm acc n)
 | 0,sm,acc,n,ha=>OkR.inl ha
 | f+1,sm,acc,n,ha=>by
  unfold BU;have hs:∀ a,P a->∀ b∈acc++[a],P b:=fun a hp b hb=>by
   rcases List.mem_append.1 hb with h | h
   ·exact ha b h
   ·rw [List.mem_singleton.1 h];exact hp
  refine OkR.ite (OkR.bind (h n) fun a n1 hp=>OkR.ite (ED h f _ _ _ (hs a hp)) (OkR.inl (hs a hp))) (OkR.inl ha)
theorem E6 (hall:ts.all Ak=true) (sm:Bool) (n:Nat):OkR (fun l=>∀ x∈l,x.size<=6000) (CI ts sm n):=ED ts (Cc ts hall) _ _ _ _ (by simp)
theorem Ja (hall:ts.all Ak=true) (n:Nat):OkR SD (Cj ts en n):=
 (Cc ts hall n).bind fun o n1 ho=>OkR.ite ((E6 ts hall _ _).bind fun ns n2 hn=>OkR.inl (SD.p ho hn)) ((OkR.any _).bind fun _ n2 _=>(E6 ts hall _ _).bind fun ns n3 hn=>OkR.inl (SD.p ho hn))
theorem Km (hall:ts.all Ak=true) (n:Nat):OkR (fun l=>∀ a∈l,SD a) (E8 ts en n):=
 (OkR.any _).bind fun _ n1 _=>(ED ts (Ja ts en hall) _ _ _ _ (by simp)).bind fun l n2 hl=>(OkR.any _).bind fun _ n3 _=>OkR.inl hl
theorem L9 (hall:ts.all Ak=true):∀ (f deep n:Nat),OkR SD (pE ts en f deep n)
 | 0,deep,n=>OkR.inr
 | f+1,deep,n=>by
  have nil:∀ (k a m:Int),SD (eD k a m ⟨#[]⟩ []):=fun k a m=>SD.e (Nat.zero_le _) (by simp);unfold pE;refine OkR.ite (OkR.inl (nil _ _ _)) (OkR.ite (OkR.ite OkR.inr (OkR.ite (OkR.inl (nil _ _ _)) OkR.inr)) (OkR.ite (OkR.inl (SD.e (FR ts hall n) (by simp))) (OkR.ite ?_ OkR.inr)));have ha:=L9 hall f (deep+1) (n+1)
  cases h:pE ts en f (deep+1) (n+1) with
  | inr m=>exact OkR.inr
  | inl p=>
   obtain ⟨a,n1⟩:=p;have hsa:=ha a n1 h;refine OkR.ite OkR.inr ?_;have hb:=L9 hall f (deep+1) (n1+1)
   cases h2:pE ts en f (deep+1) (n1+1) with
   | inr m=>exact OkR.inr
   | inl p=>
    obtain ⟨b,n2⟩:=p;have hsb:=hb b n2 h2;refine OkR.ite (OkR.inl (SD.e (Nat.zero_le _) fun y hy=>?_)) OkR.inr;simp at hy;rcases hy with rfl | rfl
    ·exact hsa
    ·exact hsb
theorem Fk (hall:ts.all Ak=true) (n:Nat):OkR SD (pX ts en n):=L9 ts en hall 61 0 n
theorem Bg:noS.size<=6000:=Nat.zero_le _
theorem G1:SD noE:=SD.e (Nat.zero_le _) (by simp)
theorem IL:∀ (d:D),SD d->(⟨(IM d).toArray⟩:ByteArray).size<=6000:=fun d h=>by
 show (IM d).toArray.size<=6000;rw [List.size_toArray];unfold IM;split
 ·rename_i a b c x r
  have:=h.of_agg (.lit (.string x)) (by simp) 1;exact this
 ·simp
theorem Jd (hall:ts.all Ak=true) (at_:Int) (n:Nat):OkR SD (D3 ts en at_ n):=
 (Cc ts hall n).bind fun x n1 hx=>(OkR.any _).bind fun _ n2 _=>(Fk ts en hall n2).bind fun e n3 he=>
  OkR.ite ((ED ts (Fk ts en hall) _ _ _ _ (by simp)).bind fun l n4 hl=>(OkR.any _).bind fun _ n5 _=>OkR.inl (SD.s hx (IL e he) G1 hl (by simp) (by simp))) (OkR.inl (SD.s hx Bg he (by simp) (by simp) (by simp)))
theorem GD {ss:Nat->Res (List D)} (h:∀ n,OkR (fun l=>∀ a∈l,SD a) (ss n)) (n:Nat):OkR (fun l=>∀ a∈l,SD a) (CW ts ss n):=
 (OkR.any _).bind fun _ n1 _=>(h n1).bind fun l n2 hl=>(OkR.any _).bind fun _ n3 _=>OkR.inl hl
theorem EB {s:D} (h:SD s) (n:Nat):OkR SD (Ip ts s n):=(OkR.any _).bind fun _ n1 _=>OkR.inl h
theorem Kl (hall:ts.all Ak=true) {blk:Nat->Res (List D)} (h:∀ n,OkR (fun l=>∀ a∈l,SD a) (blk n)) (n:Nat):OkR SD (Dj ts en blk n):=by
 unfold Dj;have z:∀ a∈([]:List D),SD a:=by simp
 refine OkR.ite ((Fk ts en hall _).bind fun e f c=>(h f).bind fun q i j=>OkR.ite ((h _).bind fun x v t=>OkR.inl (SD.s Bg Bg c z j t)) (OkR.inl (SD.s Bg Bg c z j z))) (OkR.ite ((Fk ts en hall _).bind fun e f c=>(h f).bind fun q i j=>OkR.inl (SD.s Bg Bg c z j z)) (OkR.ite ?_ (OkR.ite ?_ (OkR.ite ?_ (OkR.ite ?_ ?_)))))
 ·exact (Cc ts hall _).bind fun a f g=>(Cc ts hall _).bind fun b i u=>EB ts (SD.s g u G1 z z z) _
 ·exact (Cc ts hall _).bind fun a f g=>(Fk ts en hall _).bind fun e i c=>EB ts (SD.s Bg g c z z z) _
 ·exact (Cc ts hall _).bind fun a f g=>(Fk ts en hall _).bind fun e i c=>EB ts (SD.s g Bg c z z z) _
 ·exact (Cc ts hall _).bind fun a f g=>(Fk ts en hall _).bind fun e i c=>EB ts (SD.s g Bg c z z z) _
 ·exact (Jd ts en hall _ _).bind fun s f r=>EB ts r _
theorem JE {acc:List D} {s:D} (h:∀ a∈acc,SD a) (hs:SD s):∀ a∈acc++[s],SD a:=fun b hb=>by
 rcases List.mem_append.1 hb with h1 | h1
 ·exact h b h1
 ·rw [List.mem_singleton.1 h1];exact hs
theorem D0 (hall:ts.all Ak=true):∀ (f:Nat) (acc:List D) (n:Nat),(∀ a∈acc,SD a)->OkR (fun l=>∀ a∈l,SD a) (Ce ts en f acc n)
 | 0,acc,n,h=>OkR.inr
 | 1,acc,n,h=>OkR.ite (OkR.inl h) OkR.inr
 | f+2,acc,n,h=>OkR.ite (OkR.inl h) ((Kl ts en hall (GD ts fun n=>D0 hall f [] n (by simp)) n).bind fun s n1 hs=>D0 hall (f+1) (acc++[s]) n1 (JE h hs))
theorem L7 (hall:ts.all Ak=true) (at_:Int) (name:ByteArray) (hn:name.size<=6000) (n:Nat):OkR SD (GB ts en at_ name n):=
 (OkR.any _).bind fun _ n1 _=>(E6 ts hall _ _).bind fun ps n2 hp=>(OkR.any _).bind fun _ n3 _=>(OkR.any _).bind fun _ n4 _=>(D0 ts en hall _ _ _ (by simp)).bind fun body n5 hb=>(OkR.any _).bind fun _ n6 _=>(Fk ts en hall _).bind fun r n7 hr=>(OkR.any _).bind fun _ n8 _=>(OkR.any _).bind fun _ n9 _=>OkR.inl (SD.d hn Bg (by simp) hp hb hr)
theorem D1 (hall:ts.all Ak=true) (kd at_:Int) (name oth:ByteArray) (hn:name.size<=6000) (ho:oth.size<=6000) (gv:Bool) (n:Nat):OkR SD (Dk ts en kd at_ name oth gv n):=
 OkR.ite ((Km ts en hall _).bind fun lb n1 hl=>(OkR.any _).bind fun _ n2 _=>OkR.inl (SD.d hn ho hl (by simp) (by simp) G1)) ((OkR.any _).bind fun _ n1 _=>OkR.inl (SD.d hn ho (by simp) (by simp) (by simp) G1))
theorem Ma (hall:ts.all Ak=true) (n:Nat):OkR SD (EE ts en n):=by
 unfold EE;refine OkR.ite OkR.inr ((Cc ts hall _).bind fun a i c=>OkR.ite ((Cc ts hall _).bind fun b g f=>D1 ts en hall _ _ _ _ c f _ _) (OkR.ite (D1 ts en hall _ _ _ _ c Bg _ _) (OkR.ite (D1 ts en hall _ _ _ _ c Bg _ _) (OkR.ite (L7 ts en hall _ _ c _) (D1 ts en hall _ _ _ _ c Bg _ _)))))
theorem GC (hall:ts.all Ak=true):∀ (f:Nat) (acc:List D) (n:Nat),(∀ a∈acc,SD a)->OkR (fun l=>∀ a∈l,SD a) (E9 ts en f acc n)
 | 0,acc,n,h=>OkR.inr
 | f+1,acc,n,h=>OkR.ite (OkR.inl h) ((Ma ts en hall n).bind fun s n1 hs=>GC hall f (acc++[s]) n1 (JE h hs))
theorem L6 (hall:ts.all Ak=true):OkR (fun t=>(∀ a∈t.1,SD a)/\∀ a∈t.2,SD a) (C3 ts en):=
 (GC ts en hall _ _ _ (by simp)).bind fun ds n hd=>(OkR.any _).bind fun _ n1 _=>(GD ts (fun n=>D0 ts en hall _ _ _ (by simp)) n1).bind fun l n2 hl=>OkR.ite OkR.inr (OkR.inl ⟨hd,hl⟩)
end
def all2 {α:Type} (f:α->α->Bool):List α->List α->Bool
 | [],[]=>true
 | a::l,b::m=>f a b && all2 f l m
 | _,_=>false
def seK (at_:Bool):Nat->D->D->Bool
 | 0,_,_=>true
 | k+1,a,b=>decide (gI 0 a=gI 0 b) && decide (gI 2 a=gI 2 b) && decide (gZ 3 a=gZ 3 b) && (!at_ || decide (gI 1 a=gI 1 b)) && all2 (seK at_ k) (gL 4 a) (gL 4 b)
def ssK (at_:Bool) (ke:Nat):Nat->D->D->Bool
 | 0,_,_=>true
 | k+1,a,b=>decide (gI 0 a=gI 0 b) && (!at_ || decide (gI 1 a=gI 1 b)) && decide (gZ 2 a=gZ 2 b) && decide (gZ 3 a=gZ 3 b) && seK at_ ke (gD 4 a) (gD 4 b) && all2 (seK at_ ke) (gL 5 a) (gL 5 b) && all2 (ssK at_ ke k) (gL 6 a) (gL 6 b) && all2 (ssK at_ ke k) (gL 7 a) (gL 7 b)
def sxS (a b:D):Bool:=decide (asS a=asS b)
def spD (at_:Bool) (a b:D):Bool:=(!at_ || decide (gI 0 a=gI 0 b)) && decide (gZ 1 a=gZ 1 b) && decide (gB 2 a=gB 2 b) && all2 sxS (gL 3 a) (gL 3 b)
def sdK (at_:Bool) (ke kc:Nat) (a b:D):Bool:=decide (gI 0 a=gI 0 b) && (!at_ || decide (gI 1 a=gI 1 b)) && decide (gZ 2 a=gZ 2 b) && decide (gZ 3 a=gZ 3 b) && decide (gB 4 a=gB 4 b) && all2 (spD at_) (gL 5 a) (gL 5 b) && all2 sxS (gL 6 a) (gL 6 b) && all2 (ssK at_ ke kc) (gL 7 a) (gL 7 b) && seK at_ ke (gD 8 a) (gD 8 b)
def stK (at_:Bool) (ke kc:Nat) (ds l ds' l':List D):Bool:=all2 (sdK at_ ke kc) ds ds' && all2 (ssK at_ ke kc) l l'
theorem BP {α:Type} {f:α->α->Bool} (h:∀ a,f a a=true):∀ l,all2 f l l=true
 | []=>rfl
 | a::l=>by simp [all2,h a,BP h l]
theorem Eu (at_:Bool):∀ (k:Nat) (a:D),seK at_ k a a=true
 | 0,a=>rfl
 | k+1,a=>by simp [seK,BP (Eu at_ k)]
theorem FJ (at_:Bool) (ke:Nat):∀ (k:Nat) (a:D),ssK at_ ke k a a=true
 | 0,a=>rfl
 | k+1,a=>by simp [ssK,Eu,BP (Eu at_ ke),BP (FJ at_ ke k)]
theorem LU (at_:Bool) (ke kc:Nat) (a:D):sdK at_ ke kc a a=true:=by
 have b:∀ a,sxS a a=true:=fun a=>by simp [sxS]
 have c:∀ a,spD at_ a a=true:=fun a=>by simp [spD,BP b]
 simp [sdK,Eu,BP b,BP c,BP (FJ at_ ke kc)]
theorem LD (at_:Bool) (ke kc:Nat) (ds l:List D):stK at_ ke kc ds l ds l=true:=by
 simp [stK,BP (LU at_ ke kc),BP (FJ at_ ke kc)]
def L2 {α:Type} (P:α->α->Prop):List α->List α->Prop
 | [],[]=>True
 | a::l,b::m=>P a b/\L2 P l m
 | _,_=>False
theorem L2.all2 {α:Type} {P:α->α->Prop} {f:α->α->Bool} (hf:∀ a b,P a b->f a b=true):∀ {l m:List α},L2 P l m->all2 f l m=true
 | [],[],_=>rfl
 | x::l,y::m,h=>by simp [Tx.all2,hf _ _ h.1,L2.all2 hf h.2]
 | [],y::m,h=>h.elim
 | x::l,[],h=>h.elim
def EA (a b:D):Prop:=∀ k,seK false k a b=true
section
variable {α:Type} {f:α->α->Bool}
theorem DS:∀ {l m:List α},all2 f l m=true->l.length=m.length
 | [],[],_=>rfl
 | a::l,b::m,h=>by simp [all2] at h;simp [DS h.2]
 | [],_::_,h=>by cases h
 | _::_,[],h=>by cases h
end
theorem EV {α:Type} {f:α->α->Bool}:∀ {l m:List α},all2 f l m=true->∀ (j:Nat) (h:j < l.length) (h':j < m.length),f l[j] m[j]=true
 | a::l,b::m,h,0,_,_=>by simp [all2] at h;exact h.1
 | a::l,b::m,h,j+1,h1,h2=>by simp [all2] at h;exact EV h.2 j (by simpa using h1) (by simpa using h2)
 | [],_,h,j,h1,h2=>absurd h1 (Nat.not_lt_zero _)
 | _::_,[],h,j,h1,h2=>absurd h2 (Nat.not_lt_zero _)
theorem LA:∀ {l m:List ByteArray},all2 sxS (l.map dS) (m.map dS)=true->l=m
 | [],[],_=>rfl
 | a::l,b::m,h=>by
  simp only [List.map_cons,all2,sxS,Fc,Bool.and_eq_true] at h;have e:a=b:=by
   have:=Aj (of_decide_eq_true h.1);rw [this]
  rw [e,LA h.2]
 | [],_::_,h=>by cases h
 | _::_,[],h=>by cases h
end Go.Proofs.YtipngnjffjajpaaGreatDoor.Tx
