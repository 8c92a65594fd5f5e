/- A list in a command's box that grows while the reader goes on. -/
import Derived.Test.YtipngnjffjajpaaGreatDoorK13
set_option linter.unusedVariables false
set_option maxHeartbeats 8000000
set_option maxRecDepth 100000
namespace Go.Proofs.YtipngnjffjajpaaGreatDoor.Tx
open Go.RowKit
open Go.Value renaming int -> O, slice -> zd, bool -> ze, agg -> zf, pointer -> zh, tuple -> zj
open Go.IntKind renaming i64 -> zc
open Go.Obj renaming cells -> zg
open Go.Ending renaming returned -> zi
theorem Tryz.infoTE:(Tryz.prog.info? 49).map (fun i=>(i.zero,i.size,i.bytes))=some (some (zf #[O zc 0,O zc 0,O zc 0,.string ⟨#[]⟩,zd none 0 0]),5,64):=by kernel_rfl
def QA (Qn:Act->World->Prop):Exit->Act->World->Prop
 | .normal,a,w=>Qn a w
 | _,_,_=>False
theorem G3 {P:Program} {id:Nat} {ops:Array Oper} {dr:Bool} {Q:Exit->Act->World->Prop} {a:Act} {w:World} (R:Act->World->Prop) (h:(Code.region id ops dr).wp P (QA R) a w) (hq:∀ a w,R a w->Q .normal a w):(Code.region id ops dr).wp P Q a w:=
 wp_mono h fun e a w h=>by cases e <;> first | exact hq _ _ h | exact h.elim
theorem Di {R:Act->World->Prop} {a:Act} {w:World} (h:R a w):QA R .normal a w:=h
theorem EP {W:World} {B e s n g cap i:Nat} {xs:List Value} {u:Value} (h:W.ownsRow B e s (zd (some ⟨g,0,none⟩) n cap) n xs) (hi:i < n*s):(W.setCell ⟨g,i,none⟩ u).ownsRow B e s (zd (some ⟨g,0,none⟩) n cap) n (xs.set i u):=by
 obtain ⟨H,⟨G,-⟩ | ⟨J,x,a,A,F,v,r,E,l,C⟩⟩:=h
 ·cases G
 injection A with b I y;injection b with b;injection b with b;subst b y;have f:i < a.size:=by rw [l];exact Nat.lt_of_lt_of_le hi (Nat.mul_le_mul_right _ r)
 refine ⟨by simp [H],Or.inr ⟨g,cap,a.set i u f,rfl,F,?_,r,E,by simp [l],?_⟩⟩
 ·have c:g < W.heap.size:=(Array.getElem?_eq_some_iff.1 v).1
  have j:W.heap[g]=.cells a e:=by
   have:=Array.getElem?_eq_getElem c;rw [v] at this;injection this with this;exact this.symm
  simp only [World.setCell];rw [Array.getElem?_eq_getElem (by simpa using c),Array.getElem_modify_self,j];simp [Array.setIfInBounds,f]
 ·rw [Array.toList_set,List.take_set,C]
theorem Off.row2 {B:Nat} {v v':Value} {w w':World} {P:World->Prop} (h:Off B v.ownBlock w P) (hg:∀ k,B<=k->k < w.heap.size->some k≠v.ownBlock->w'.heap[k]? = w.heap[k]?) (hs:w.heap.size<=w'.heap.size) (hv:v'.ownBlock=v.ownBlock\/v'.ownBlock=some w.heap.size):Off B v'.ownBlock w' P:=fun W hW=>h W fun k h1 h2 h3=>
 (hW k h1 (Nat.lt_of_lt_of_le h2 hs) (by
  rcases hv with e | e
  ·rw [e];exact h3
  ·rw [e];intro q;injection q with q;omega)).trans (hg k h1 h2 h3)
structure Fh (w0 wz:World) (rb:Nat) (tv:Value) (ts:List Tok) (en sb b1 b2 B:Nat) (c0 c1 c2 c3 c4 c5 c6 c7 c8 cT cE:Value) (acc:List D) (n:Nat) (w:World):Prop where
 rd:Rd rb tv ts en w0 n w
 s0:w0.heap.size<=sb
 s1:sb < B
 p0:w0.heap.size<=b1
 p1:b1 < B
 q0:w0.heap.size<=b2
 q1:b2 < B
 n1:sb≠b1
 n2:sb≠b2
 sz:B<=w.heap.size
 r1:Bx b1 [zh (some ⟨rb,0,none⟩)] w
 r2:Bx b2 [zh (some ⟨sb,0,none⟩)] w
 few:acc.length<=n
 fr:∀ k,k < B->k≠rb->k≠sb->w.heap[k]? = wz.heap[k]?
 row:∃ v,Bx sb [c0,c1,c2,c3,c4,c5,c6,c7,c8,v,cT,cE] w/\Cop B 49 5 (fun i cs W=>∀ x,acc[i]? = some x->XE W 61 cs x) acc.length v w
section
variable {w0 wz:World} {rb:Nat} {tv:Value} {ts:List Tok} {en sb b1 b2 B:Nat} {c0 c1 c2 c3 c4 c5 c6 c7 c8 cT cE:Value} {acc:List D} {n n1:Nat} {w w1 W2 W:World} {v v2:Value} {xs cs:List Value} {a:D}
theorem Fh.move (h:Fh w0 wz rb tv ts en sb b1 b2 B c0 c1 c2 c3 c4 c5 c6 c7 c8 cT cE acc n w) (hn:n<=n1) (hg:w.grownBy w1 (some rb)) (hs:St rb tv ts en n1 w1):Fh w0 wz rb tv ts en sb b1 b2 B c0 c1 c2 c3 c4 c5 c6 c7 c8 cT cE acc n1 w1:=by
 obtain ⟨v,c,f⟩:=h.row;have hr:=h.rd.rlt;have r:=h.s0;have l:=h.p0;have j:=h.q0;have i:=h.s1;refine ⟨h.rd.call hg hs,h.s0,h.s1,h.p0,h.p1,h.q0,h.q1,h.n1,h.n2,Nat.le_trans h.sz hg.size,h.r1.keep hg (by omega),h.r2.keep hg (by omega),Nat.le_trans h.few hn,fun k b a g=>?_,v,c.keep hg (by omega),f.keep hg (by omega)⟩;rw [hg.block k (Nat.lt_of_lt_of_le b h.sz) (fun e=>by injection e with e;exact a e)];exact h.fr k b a g
theorem Fh.app (h:Fh w0 wz rb tv ts en sb b1 b2 B c0 c1 c2 c3 c4 c5 c6 c7 c8 cT cE acc n w) (hv:w.cell? ⟨sb,9,none⟩=some v) (hg:w.grownBy w1 (some rb)) (hb:Ov w1 W2):∃ xs,W2.ownsRow B 49 5 v acc.length xs/\(∀ i,i < acc.length->∃ cs:List Value,cs.length=5/\(∀ j u,cs[j]? = some u->xs[i*5+j]? = some u)/\Off B v.ownBlock W2 (fun W=>∀ x,acc[i]? = some x->XE W 61 cs x))/\∀ k,v.ownBlock=some k->k < w.heap.size:=by
 obtain ⟨y,a,b⟩:=h.row;have:=a.row 9 _ rfl;rw [hv] at this;injection this with this;subst this;have hr:=h.rd.rlt;have C:=h.s0;have A:=h.s1;obtain ⟨xs,l,g⟩:=(b.keep hg (by omega)).over hb;obtain ⟨r,f,-⟩:=b;exact ⟨xs,l,g,fun k c=>(AL f c).2⟩
theorem Fh.fin (h:Fh w0 wz rb tv ts en sb b1 b2 B c0 c1 c2 c3 c4 c5 c6 c7 c8 cT cE acc n w) (hg:w.grownBy w1 (some rb)) (hs:St rb tv ts en n1 w1) (hn:n+1<=n1) (hb:Ov w1 W2)
  (hown:W2.ownsRow B 49 5 v acc.length xs) (hel:∀ i,i < acc.length->∃ cs:List Value,cs.length=5/\(∀ j u,cs[j]? = some u->xs[i*5+j]? = some u)/\Off B v.ownBlock W2 (fun W=>∀ x,acc[i]? = some x->XE W 61 cs x)) (hrow:∀ k,v.ownBlock=some k->k < w.heap.size)
  (hl:cs.length=5) (hoff:Off w.heap.size none w1 (fun W=>XE W 61 cs a)) (hW:∀ k,k < W2.heap.size->some k≠v.ownBlock->k≠sb->W.heap[k]? = W2.heap[k]?) (hWs:W2.heap.size<=W.heap.size) (ho1:W.os=W2.os) (ho2:W.tape=W2.tape) (ho3:W.output=W2.output)
  (hbx:Bx sb [c0,c1,c2,c3,c4,c5,c6,c7,c8,v2,cT,cE] W) (hown3:W.ownsRow B 49 5 v2 (acc.length+1) (xs++cs)) (hat:v2.ownBlock=v.ownBlock\/v2.ownBlock=some W2.heap.size) :
  Fh w0 wz rb tv ts en sb b1 b2 B c0 c1 c2 c3 c4 c5 c6 c7 c8 cT cE (acc++[a]) n1 W:=by
 have r:=h.move (Nat.le_of_lt hn) hg hs;have hr:=h.rd.rlt;have e0:=h.s0;have Z:=h.p0;have Y:=h.q0;have X:=h.s1;have V:=h.p1;have U:=h.q1;have I:∀ k,k < B->some k≠v.ownBlock:=fun k E e=>by have:=(AL hown e.symm).1;omega
 have S:B<=W2.heap.size:=Nat.le_trans r.sz hb.size;have c:∀ k,k < B->k≠sb->W.heap[k]? = w1.heap[k]?:=fun k E K=>by
  rw [hW k (by omega) (I k E) K,hb.block k (Nat.lt_of_lt_of_le E r.sz)]
 have f:=r.rd.gr;have F:w0.grownBy W (some rb):=⟨(ho1.trans hb.os).trans f.os,(ho2.trans hb.tape).trans f.tape,(ho3.trans hb.output).trans f.output,Nat.le_trans (Nat.le_trans f.size hb.size) hWs,fun k E l=>(c k (by omega) (by omega)).trans (f.block k E l)⟩;obtain ⟨Q,A⟩:=r.rd.st0;have H:St rb tv ts en n1 W:=A.keep F (by rw [c rb (by omega) (by omega)];exact hs.1) hs.2.1;have G:∀ {b:Nat} {ds:List Value},Bx b ds w1->b < B->b≠sb->Bx b ds W:=fun {b ds} g C l=>⟨fun j u y=>(World.cell?_of_block (a:=⟨b,j,none⟩) (c b C l)).trans (g.row j u y),fun j=>(World.frozen?_of_block (a:=⟨b,j,none⟩) (c b C l)).trans (g.fz j),by omega⟩;refine ⟨⟨⟨Q,A⟩,H,F⟩,h.s0,h.s1,h.p0,h.p1,h.q0,h.q1,h.n1,h.n2,by omega,G r.r1 V (fun e=>h.n1 e.symm),G r.r2 U (fun e=>h.n2 e.symm),?_,fun k N T M=>?_,v2,hbx,?_⟩
 ·have:=h.few
  simp;omega
 ·rw [c k N M];exact r.fr k N T M
 ·refine ⟨xs++cs,by rw [List.length_append];exact hown3,fun i R=>?_⟩
  by_cases hia:i < acc.length
  ·obtain ⟨ds,q1,P,O⟩:=hel i hia
   refine ⟨ds,q1,fun j u y=>?_,Off.row2 (O.imp fun W hW x g=>hW x (by rw [List.getElem?_append_left hia] at g;exact g)) (fun k k1 k2 k3=>hW k k2 k3 (by omega)) hWs hat⟩;have:=P j u y;rw [List.getElem?_append_left (List.getElem?_eq_some_iff.1 this).1];exact this
  ·have L:i=acc.length:=by simp at R;omega
   subst L;have J:Off B v.ownBlock W2 (fun W=>∀ x,(acc++[a])[acc.length]? = some x->XE W 61 cs x):=((hoff.over hb).weak h.sz hrow).imp fun W hW x g=>by
    rw [List.getElem?_append_right (Nat.le_refl _),Nat.sub_self] at g;injection g with g;rw [<-g];exact hW
   refine ⟨cs,hl,fun j u y=>?_,Off.row2 J (fun k k1 k2 k3=>hW k k2 k3 (by omega)) hWs hat⟩;rw [List.getElem?_append_right (by rw [hown.1];omega),hown.1,Nat.add_sub_cancel_left];exact y
theorem D5 {xs zs:List Value} {m j:Nat} {u:Value} (hm:xs.length=m):(xs++zs).set (m+j) u=xs++zs.set j u:=by
 rw [List.set_append,if_neg (by omega),hm,Nat.add_sub_cancel_left]
theorem MW {W:World} {k g vn vc:Nat} {z0 z1 z2 z3 z4 u0 u1 u2 u3 u4:Value} (h:W.ownsRow B 49 5 (zd (some ⟨g,0,none⟩) vn vc) (k+1) (xs++[z0,z1,z2,z3,z4])) (hx:xs.length=k*5) :
  (((((W.setCell ⟨g,k*5,none⟩ u0).setCell ⟨g,k*5+1,none⟩ u1).setCell ⟨g,k*5+2,none⟩ u2).setCell ⟨g,k*5+3,none⟩ u3).setCell ⟨g,k*5+4,none⟩ u4).ownsRow B 49 5 (zd (some ⟨g,0,none⟩) vn vc) (k+1) (xs++[u0,u1,u2,u3,u4]):=by
 have a:=Cq h;subst a;have l:=EP (i:=k*5+0) (u:=u0) h (by omega);rw [D5 hx] at l;have j:=EP (i:=k*5+1) (u:=u1) l (by omega);rw [D5 hx] at j;have f:=EP (i:=k*5+2) (u:=u2) j (by omega);rw [D5 hx] at f;have c:=EP (i:=k*5+3) (u:=u3) f (by omega);rw [D5 hx] at c;have b:=EP (i:=k*5+4) (u:=u4) c (by omega);rw [D5 hx] at b;exact b
theorem Bh (V:World) (p:Addr) (u:Value):(V.setCell p u).os=V.os/\(V.setCell p u).tape=V.tape/\(V.setCell p u).output=V.output/\(V.setCell p u).heap.size=V.heap.size:=⟨rfl,rfl,rfl,by simp [World.setCell]⟩
theorem Fh.inplace {W3:World} {k g vn vc:Nat} {z0 z1 z2 z3 z4 u0 u1 u2 u3 u4:Value} (h:Fh w0 wz rb tv ts en sb b1 b2 B c0 c1 c2 c3 c4 c5 c6 c7 c8 cT cE acc n w) (hg:w.grownBy w1 (some rb)) (hs:St rb tv ts en n1 w1) (hn:n+1<=n1) (hb:Ov w1 W2)
  (hown:W2.ownsRow B 49 5 v acc.length xs) (hel:∀ i,i < acc.length->∃ cs:List Value,cs.length=5/\(∀ j u,cs[j]? = some u->xs[i*5+j]? = some u)/\Off B v.ownBlock W2 (fun W=>∀ x,acc[i]? = some x->XE W 61 cs x)) (hrow:∀ k,v.ownBlock=some k->k < w.heap.size)
  (hoff:Off w.heap.size none w1 (fun W=>XE W 61 [u0,u1,u2,u3,u4] a)) (hgr:W2.grownBy W3 v.ownBlock) (hbx:Bx sb [c0,c1,c2,c3,c4,c5,c6,c7,c8,v,cT,cE] W3)
  (hown3:W3.ownsRow B 49 5 (zd (some ⟨g,0,none⟩) vn vc) (acc.length+1) (xs++[z0,z1,z2,z3,z4])) (hat:(Value.slice (some ⟨g,0,none⟩) vn vc).ownBlock=v.ownBlock\/(Value.slice (some ⟨g,0,none⟩) vn vc).ownBlock=some W2.heap.size) (hk:k=acc.length) (hgb:B<=g) :
  Fh w0 wz rb tv ts en sb b1 b2 B c0 c1 c2 c3 c4 c5 c6 c7 c8 cT cE (acc++[a]) n1 ((((((W3.setCell ⟨sb,9,none⟩ (zd (some ⟨g,0,none⟩) vn vc)).setCell ⟨g,k*5,none⟩ u0).setCell ⟨g,k*5+1,none⟩ u1).setCell ⟨g,k*5+2,none⟩ u2).setCell ⟨g,k*5+3,none⟩ u3).setCell ⟨g,k*5+4,none⟩ u4):=by
 subst hk;have f:=h.s1;have c:sb≠g:=by omega
 have l:∀ k',k' < W2.heap.size->some k'≠v.ownBlock->k'≠g:=fun k' E C e=>by
  subst e;rcases hat with e | e
  ·exact C e
  ·have y:some k'=some W2.heap.size:=e
   injection y with y;omega
 refine h.fin (v:=v) (cs:=[u0,u1,u2,u3,u4]) hg hs hn hb hown hel hrow rfl hoff (fun k' q1 r A=>?_) (by rw [(Bh _ _ _).2.2.2,(Bh _ _ _).2.2.2,(Bh _ _ _).2.2.2,(Bh _ _ _).2.2.2,(Bh _ _ _).2.2.2,(Bh _ _ _).2.2.2];exact hgr.size) (by rw [(Bh _ _ _).1,(Bh _ _ _).1,(Bh _ _ _).1,(Bh _ _ _).1,(Bh _ _ _).1,(Bh _ _ _).1];exact hgr.os) (by rw [(Bh _ _ _).2.1,(Bh _ _ _).2.1,(Bh _ _ _).2.1,(Bh _ _ _).2.1,(Bh _ _ _).2.1,(Bh _ _ _).2.1];exact hgr.tape) (by rw [(Bh _ _ _).2.2.1,(Bh _ _ _).2.2.1,(Bh _ _ _).2.2.1,(Bh _ _ _).2.2.1,(Bh _ _ _).2.2.1,(Bh _ _ _).2.2.1];exact hgr.output) ?_ ?_ hat
 ·have b:=l k' q1 r
  rw [Below.heap_setCell _ _ _ _ b,Below.heap_setCell _ _ _ _ b,Below.heap_setCell _ _ _ _ b,Below.heap_setCell _ _ _ _ b,Below.heap_setCell _ _ _ _ b,Below.heap_setCell _ _ _ _ A];exact hgr.block k' q1 r
 ·exact (((((hbx.set (j:=9) (by simp)).far c).far c).far c).far c).far c
 ·exact MW (ownsRow_setCell_below hown3 f _) hown.1
end
theorem nsr {a b:Nat} (h:a≠b):some a≠some b:=fun e=>h (by injection e)
theorem Nv {w0 wz:World} {rb:Nat} {tv:Value} {ts:List Tok} {en sb b1 b2 B:Nat} {c0 c1 c2 c3 c4 c5 c6 c7 c8 cT cE:Value} (hall:ts.all Ai=true) (acc:List D) (n:Nat) (w:World) (h:Fh w0 wz rb tv ts en sb b1 b2 B c0 c1 c2 c3 c4 c5 c6 c7 c8 cT cE acc n w) :
  Calls Tryz.prog 169 #[zh (some ⟨b2,0,none⟩),zh (some ⟨b1,0,none⟩)] w (AW ts en (pX ts en n) (fun a n1 e w'=>e=zi (zj #[])/\Fh w0 wz rb tv ts en sb b1 b2 B c0 c1 c2 c3 c4 c5 c6 c7 c8 cT cE (acc++[a]) n1 w') (fun w'=>w0.grownBy w' (some rb))):=by
 obtain ⟨i0,hi,bo,bn,bm⟩:=info_parts Tryz.infoTE;obtain ⟨v,bv,bu⟩:=h.row;have HL:=Aa (bv.row 9 _ rfl);have c:=Aa h;have KX:Hx (∀ X,Ov w X->_):=fun X (hX:Ov w X)=>ES (rb:=rb) (tv:=tv) (en:=en) hall n X (h.rd.st.below hX);have HM:Hx (∀ n a n1,pX ts en n=.inl (a,n1)->n+1<=n1):=fun n a n1 h=>(EO 61 0 n a n1 h).2;obtain ⟨la,lc,bq,-⟩:=bu.cells (by decide);obtain ⟨k,hk⟩:=nm acc.length;rw [<-hk] at bq;subst bq;have HK:=Aa hk;clear h bv bu hk;go_enter Tryz.func169,Tryz.ntmps169;go_wp2_with fail;refine G3 (fun bz W=>∃ (q:Bool) (z:Nat),bz={ tmps:=#[zh (some ⟨b2,0,none⟩),zh (some ⟨b1,0,none⟩),zh (some ⟨z,0,none⟩),ze q,undef,undef,undef,undef,undef,undef,undef,undef,undef,undef,undef,undef,undef,undef,undef,undef,undef,undef,undef,undef,undef,undef,undef],defers:=[] }/\Ov w W) ?_ ?_
 ·refine gS (fun _=>True) trivial fun b=>?_
  refine rdA 0 rfl fun K f=>?_;go_simp;refine xK f (trivial) fun b=>?_;clear f K;refine rdB 1 2 rfl (fun K f=>?_) rfl fun K f=>?_
  ·go_simp
   refine xK f (trivial) fun b=>?_;clear f K;refine rdA 2 rfl fun K f=>?_;go_simp;refine xK f (trivial) fun b=>?_;clear f K;refine rdA 3 rfl fun K f=>?_;go_simp;refine xK f (trivial) fun b=>?_;clear f K;refine gE ?_;exact Di ⟨_,_,rfl,Ab (bD w) (bA _ _)⟩
  ·go_simp
   refine xK f (trivial) fun b=>?_;clear f K;refine rdA 1 rfl fun K f=>?_;go_simp;refine xK f (trivial) fun b=>?_;clear f K;refine rdA 3 rfl fun K f=>?_;go_simp;refine xK f (trivial) fun b=>?_;clear f K;refine gE ?_;exact Di ⟨_,_,rfl,Ab (bD w) (bA _ _)⟩
 ·rintro bz V ⟨q,z,rfl,aq⟩
  have b3:=Aa aq;have x0:=ce1 aq (c.o.r2.row 0 _ rfl);have y0:=ce1 aq (c.o.r1.row 0 _ rfl);have s0:=ce1 aq HL.o;clear aq
  cases q with
  | false=>
   go_wp2_with fail;refine gS (fun Wz=>Wz.cell? ⟨b2,0,none⟩=some (zh (some ⟨sb,0,none⟩))/\Wz.cell? ⟨b1,0,none⟩=some (zh (some ⟨rb,0,none⟩))) ⟨ce1 (bD V) x0,ce1 (bD V) y0⟩ fun b=>?_;have x:Hx (Ov w V.drew):=Ab b3.o (bD V);have sv:=ce1 (bD V) s0;generalize V.drew=W at b x sv ⊢;refine kT 0 ?_;refine kT 1 ?_;refine kT 2 ?_;refine kT 3 ?_;refine kT 5 ?_;refine rdB 4 6 rfl (fun K f=>?_) rfl fun K f=>?_;first | (have I:=s2;go_simp) | (have I:=s1;go_simp) | (have I:=sv;go_simp)
   refine xK f (b) fun b=>?_;clear f K;refine rdA 6 rfl fun K f=>?_;all_goals
    go_simp;refine (KX.o _ x.o).mono ?_;rintro e R hp;obtain ⟨m,ho⟩ | ⟨a,n1,ho⟩:=AM (pX ts en n)
    ·rw [ho] at hp
     obtain ⟨rfl,hg⟩:=hp;have HG:=Aa (Ac (Ac c.o.rd.gr (Ae x.o)) hg);have HO:=Aa ho;clear hg ho f b;unfold Ah;go_simp;refine ⟨rfl,?_⟩;rw [HO.o];exact ⟨rfl,HG.o⟩
    rw [ho] at hp;obtain ⟨k0,k1,k2,k3,k4,k5,k6,rfl,ar,-,-,ag,U⟩:=hp;have ay:=Aa (ar.base x.o.size);have HO:=Aa ho;have J:w.grownBy R (some rb):=Ac (Ae x.o) ag;have T:=Aa J;have ac:=Aa U;have a0:=Aa ag;have hr:=c.o.rd.rlt;have bb:=c.o.s0;have bd:=c.o.p0;have bc:=c.o.q0;have s1:R.cell? ⟨sb,9,none⟩=some (zd la k lc):=J.cell HL.o (nsr (by show sb≠rb;omega));have x1:R.cell? ⟨b2,0,none⟩=some (zh (some ⟨sb,0,none⟩)):=J.cell (c.o.r2.row 0 _ rfl) (nsr (by show b2≠rb;omega));have y1:R.cell? ⟨b1,0,none⟩=some (zh (some ⟨rb,0,none⟩)):=J.cell (c.o.r1.row 0 _ rfl) (nsr (by show b1≠rb;omega));try (replace HZ:=Aa (fun j u hu=>a0.o.cell (HZ.o j u hu) (nsr (by have:=HZB.o;have:=c.o.rd.rlt;have:=c.o.rd.size;show zb≠rb;omega)):Ad [O zc 0,O zc 0,O zc 0,.string ⟨#[]⟩,zd none 0 0] R zb))
    clear ho ag U J b ar hr bb bd bc;go_simp;refine xK f (⟨x1,y1⟩) fun b=>?_;clear f K
   refine rdA 7 rfl fun K f=>?_;rotate_left;refine rdB 4 7 rfl (fun K f=>?_) rfl fun K f=>?_;first | (have I:=s2;go_simp) | (have I:=s1;go_simp) | (have I:=sv;go_simp)
   refine xK f (b) fun b=>?_;clear f K;refine rdA 7 rfl fun K f=>?_;rotate_left;all_goals
    obtain ⟨W2,C⟩:=nm (R.alloc (zg #[O zc k0,O zc k1,O zc k2,.string k3,zd k4 k5 k6] 49));obtain ⟨zb,A⟩:=nm R.heap.size;have r:=aov C;have HZ:=C2 C A;have x2:=ce1 r.o x1;have y2:=ce1 r.o y1;have s2:=ce1 r.o s1;have Q:Hx (W2.cell? ⟨b2,0,none⟩=some (zh (some ⟨sb,0,none⟩))/\W2.cell? ⟨b1,0,none⟩=some (zh (some ⟨rb,0,none⟩))):=⟨x2,y2⟩;go_simp;rw [<-C,<-A];clear C A b;refine xK f (Q.o) fun b=>?_;clear f K
   refine rdA 4 rfl fun K f=>?_;first | (have I:=s2;go_simp) | (have I:=s1;go_simp) | (have I:=sv;go_simp)
   refine xK f (b) fun b=>?_;clear f K;all_goals
    refine rdA 8 rfl fun K f=>?_;first
     | (have t1:=r.o
        clear t1)
     | (obtain ⟨W2,C⟩:=nm R
        have r:Hx (Ov R W2):=by show Ov _ _;rw [C];exact Below.refl _ _
        have x2:=ce1 r.o x1;have y2:=ce1 r.o y1;have s2:=ce1 r.o s1;rw [<-C] at HZ ⊢;clear C)
    obtain ⟨xs,G,au,Z⟩:=c.o.app HL.o T.o r.o;have ap:B<=W2.heap.size:=Nat.le_trans c.o.sz (Nat.le_trans T.o.size r.o.size);have be:acc.length<=6000:=Nat.le_trans c.o.few (Nat.le_trans c.o.rd.st.2.1 c.o.rd.st.2.2.1);obtain ⟨v2,W3,Y,E,l,-,av⟩:=run_append_own_at (P:=Tryz.prog) (w:=W2) B 47 47 49 i0 (zf #[O zc 0,O zc 0,O zc 0,.string ⟨#[]⟩,zd none 0 0]) 5 64 Tryz.underlying47 hi bo bn bm rfl (by decide) _ _ _ G ⟨zb,0,none⟩ 1 1 [O zc k0,O zc k1,O zc k2,.string k3,zd k4 k5 k6] rfl (fun jj u hu=>by rw [Addr.add_lit,Nat.zero_add];exact HZ.o jj u hu) (by simp [Value.oneCell']) (by unfold maxLen;omega) (by omega) ap;have H:∀ i,i < B->some i≠(Value.slice la k lc).ownBlock:=fun i hk e=>by have:=(AL G e.symm).1;omega
    have l3:W3.cell? ⟨sb,9,none⟩=some (zd la k lc):=(World.cell?_of_block (a:=⟨sb,9,none⟩) (l.block sb (bL s2) (H sb c.o.s1))).trans s2;have x3:W3.cell? ⟨b2,0,none⟩=some (zh (some ⟨sb,0,none⟩)):=(World.cell?_of_block (a:=⟨b2,0,none⟩) (l.block b2 (bL x2) (H b2 c.o.q1))).trans x2;have y3:W3.cell? ⟨b1,0,none⟩=some (zh (some ⟨rb,0,none⟩)):=(World.cell?_of_block (a:=⟨b1,0,none⟩) (l.block b1 (bL y2) (H b1 c.o.p1))).trans y2;obtain ⟨v',ah,-⟩:=(c.o.move (Nat.le_of_lt (HM.o _ _ _ HO.o)) T.o ac.o).row;have ba:v'=zd la k lc:=by
     have t1:=ah.row 9 _ rfl;rw [s1] at t1;injection t1 with t1;exact t1.symm
    subst ba;have y:=ah.over r.o;have L:Bx sb [c0,c1,c2,c3,c4,c5,c6,c7,c8,zd la k lc,cT,cE] W3:=⟨fun j u hu=>(World.cell?_of_block (a:=⟨sb,j,none⟩) (l.block sb y.lt (H sb c.o.s1))).trans (y.row j u hu),fun j=>(World.frozen?_of_block (a:=⟨sb,j,none⟩) (l.block sb y.lt (H sb c.o.s1))).trans (y.fz j),Nat.lt_of_lt_of_le y.lt l.size⟩;have f3:=L.fz 9;have a2:=Aa L;have ad:=Aa G;have bh:=Aa au;have ax:=Aa Z;have M:=Aa E;have N:=Aa l;have bi:=Aa av;have F:Hx (W3.cell? ⟨b2,0,none⟩=some (zh (some ⟨sb,0,none⟩))/\W3.cell? ⟨b1,0,none⟩=some (zh (some ⟨rb,0,none⟩))):=⟨x3,y3⟩;obtain ⟨bk,a5,bj,ae⟩:=AP E;subst ae;refine A4 rfl _ _ _ rfl _ _ _ _ rfl rfl Y ?_;clear Y G au E l av Z be ap H ah y L;refine xK f (F.o) fun b=>?_;clear f K;refine kT 9 ?_;refine kT 10 ?_;refine rdA 11 rfl fun K f=>?_;go_simp;refine xK f (⟨by rw [World.cell?_setCell_far _ _ _ _ c.o.n2];exact F.o.1,by rw [World.cell?_setCell_far _ _ _ _ c.o.n1];exact F.o.2⟩) fun b=>?_;clear f K;refine gE ?_;have aa:Fh w0 wz rb tv ts en sb b1 b2 B c0 c1 c2 c3 c4 c5 c6 c7 c8 cT cE (acc++[a]) n1 (W3.setCell ⟨sb,9,none⟩ (zd bk a5 bj)):=c.o.fin (v:=zd la k lc) (cs:=[O zc k0,O zc k1,O zc k2,.string k3,zd k4 k5 k6]) T.o ac.o (HM.o _ _ _ HO.o) r.o ad.o bh.o ax.o rfl ay.o (fun k k1 k2 k3=>by rw [Below.heap_setCell _ _ _ _ k3];exact N.o.block k k1 k2) (by have t:=N.o.size;simpa [World.setCell] using t) N.o.os N.o.tape N.o.output (a2.o.set (j:=9) (by simp)) (ownsRow_setCell_below M.o c.o.s1 _) bi.o;have a1:=Aa aa;clear aa;go_wp2_with fail;go_end0;rw [HO.o];exact ⟨rfl,a1.o⟩
  | true=>
   go_wp2_with fail;refine gS (fun Wz=>Wz.cell? ⟨b2,0,none⟩=some (zh (some ⟨sb,0,none⟩))/\Wz.cell? ⟨b1,0,none⟩=some (zh (some ⟨rb,0,none⟩))) ⟨ce1 (bD V) x0,ce1 (bD V) y0⟩ fun b=>?_;have x:Hx (Ov w V.drew):=Ab b3.o (bD V);have sv:=ce1 (bD V) s0;generalize V.drew=W at b x sv ⊢;refine kT 0 ?_;refine kT 1 ?_;refine kT 2 ?_;refine kT 4 ?_;refine rdC 3 5 7 rfl (fun K f=>?_) rfl (fun K f=>?_) rfl fun K f=>?_;first | (have I:=s2;go_simp) | (have I:=s1;go_simp) | (have I:=sv;go_simp)
   refine xK f (b) fun b=>?_;clear f K;refine kT 6 ?_;refine rdB 5 7 rfl (fun K f=>?_) rfl fun K f=>?_;rotate_left;obtain ⟨Wb,S⟩:=nm (W.alloc (zg #[O zc 0,O zc 0,O zc 0,.string ⟨#[]⟩,zd none 0 0] 49));obtain ⟨zb,A⟩:=nm W.heap.size;have HZB:=zoz x A;replace x:Hx (Ov w Wb):=by show Ov _ _;rw [S];exact Ab x.o (bA _ _)
   have HZ:=C2 S A;have Q:Hx (Wb.cell? ⟨b2,0,none⟩=some (zh (some ⟨sb,0,none⟩))/\Wb.cell? ⟨b1,0,none⟩=some (zh (some ⟨rb,0,none⟩))):=⟨ce1 x.o (c.o.r2.row 0 _ rfl),ce1 x.o (c.o.r1.row 0 _ rfl)⟩;have sv:Wb.cell? ⟨sb,9,none⟩=some (zd la k lc):=ce1 x.o HL.o;go_simp;rw [<-S,<-A];clear S A b;refine xK f (Q.o) fun b=>?_;clear f K;refine rdA 5 rfl fun K f=>?_;rotate_left;rotate_left;obtain ⟨Wb,S⟩:=nm (W.alloc (zg #[O zc 0,O zc 0,O zc 0,.string ⟨#[]⟩,zd none 0 0] 49));obtain ⟨zb,A⟩:=nm W.heap.size;have HZB:=zoz x A;replace x:Hx (Ov w Wb):=by show Ov _ _;rw [S];exact Ab x.o (bA _ _)
   have HZ:=C2 S A;have Q:Hx (Wb.cell? ⟨b2,0,none⟩=some (zh (some ⟨sb,0,none⟩))/\Wb.cell? ⟨b1,0,none⟩=some (zh (some ⟨rb,0,none⟩))):=⟨ce1 x.o (c.o.r2.row 0 _ rfl),ce1 x.o (c.o.r1.row 0 _ rfl)⟩;have sv:Wb.cell? ⟨sb,9,none⟩=some (zd la k lc):=ce1 x.o HL.o;go_simp;rw [<-S,<-A];clear S A b;refine xK f (Q.o) fun b=>?_;clear f K;refine rdB 3 5 rfl (fun K f=>?_) rfl fun K f=>?_;first | (have I:=s2;go_simp) | (have I:=s1;go_simp) | (have I:=sv;go_simp)
   refine xK f (b) fun b=>?_;clear f K;refine kT 6 ?_;refine rdA 5 rfl fun K f=>?_;rotate_left;rotate_left;all_goals
    go_simp;refine (KX.o _ x.o).mono ?_;rintro e R hp;obtain ⟨m,ho⟩ | ⟨a,n1,ho⟩:=AM (pX ts en n)
    ·rw [ho] at hp
     obtain ⟨rfl,hg⟩:=hp;have HG:=Aa (Ac (Ac c.o.rd.gr (Ae x.o)) hg);have HO:=Aa ho;clear hg ho f b;unfold Ah;go_simp;refine ⟨rfl,?_⟩;rw [HO.o];exact ⟨rfl,HG.o⟩
    rw [ho] at hp;obtain ⟨k0,k1,k2,k3,k4,k5,k6,rfl,ar,-,-,ag,U⟩:=hp;have ay:=Aa (ar.base x.o.size);have HO:=Aa ho;have J:w.grownBy R (some rb):=Ac (Ae x.o) ag;have T:=Aa J;have ac:=Aa U;have a0:=Aa ag;have hr:=c.o.rd.rlt;have bb:=c.o.s0;have bd:=c.o.p0;have bc:=c.o.q0;have s1:R.cell? ⟨sb,9,none⟩=some (zd la k lc):=J.cell HL.o (nsr (by show sb≠rb;omega));have x1:R.cell? ⟨b2,0,none⟩=some (zh (some ⟨sb,0,none⟩)):=J.cell (c.o.r2.row 0 _ rfl) (nsr (by show b2≠rb;omega));have y1:R.cell? ⟨b1,0,none⟩=some (zh (some ⟨rb,0,none⟩)):=J.cell (c.o.r1.row 0 _ rfl) (nsr (by show b1≠rb;omega));try (replace HZ:=Aa (fun j u hu=>a0.o.cell (HZ.o j u hu) (nsr (by have:=HZB.o;have:=c.o.rd.rlt;have:=c.o.rd.size;show zb≠rb;omega)):Ad [O zc 0,O zc 0,O zc 0,.string ⟨#[]⟩,zd none 0 0] R zb))
    clear ho ag U J b ar hr bb bd bc;go_simp;refine xK f (⟨x1,y1⟩) fun b=>?_;clear f K
   refine rdA 7 rfl fun K f=>?_;rotate_left;rotate_left;refine rdB 3 7 rfl (fun K f=>?_) rfl fun K f=>?_;first | (have I:=s2;go_simp) | (have I:=s1;go_simp) | (have I:=sv;go_simp)
   refine xK f (b) fun b=>?_;clear f K;refine kT 6 ?_;refine rdA 7 rfl fun K f=>?_;rotate_left;rotate_left;rotate_left;refine rdA 3 rfl fun K f=>?_;first | (have I:=s2;go_simp) | (have I:=s1;go_simp) | (have I:=sv;go_simp)
   refine xK f (b) fun b=>?_;clear f K;refine kT 6 ?_;rotate_left;all_goals first
    | (obtain ⟨W2,C⟩:=nm (R.alloc (zg #[O zc 0,O zc 0,O zc 0,.string ⟨#[]⟩,zd none 0 0] 49))
       obtain ⟨zb,A⟩:=nm R.heap.size;have r:=aov C;have HZ:=C2 C A;have x2:=ce1 r.o x1;have y2:=ce1 r.o y1;have s2:=ce1 r.o s1;have Q:Hx (W2.cell? ⟨b2,0,none⟩=some (zh (some ⟨sb,0,none⟩))/\W2.cell? ⟨b1,0,none⟩=some (zh (some ⟨rb,0,none⟩))):=⟨x2,y2⟩;go_simp;rw [<-C,<-A];clear C A b;refine xK f (Q.o) fun b=>?_;clear f K)
    | skip
   rotate_left 3;refine rdA 3 rfl fun K f=>?_;first | (have I:=s2;go_simp) | (have I:=s1;go_simp) | (have I:=sv;go_simp)
   refine xK f (b) fun b=>?_;clear f K;refine kT 6 ?_;all_goals
    refine rdA 8 rfl fun K f=>?_;first
     | (have t1:=r.o
        clear t1)
     | (obtain ⟨W2,C⟩:=nm R
        have r:Hx (Ov R W2):=by show Ov _ _;rw [C];exact Below.refl _ _
        have x2:=ce1 r.o x1;have y2:=ce1 r.o y1;have s2:=ce1 r.o s1;rw [<-C] at HZ ⊢;clear C)
    obtain ⟨xs,G,au,Z⟩:=c.o.app HL.o T.o r.o;have ap:B<=W2.heap.size:=Nat.le_trans c.o.sz (Nat.le_trans T.o.size r.o.size);have be:acc.length<=6000:=Nat.le_trans c.o.few (Nat.le_trans c.o.rd.st.2.1 c.o.rd.st.2.2.1);obtain ⟨v2,W3,Y,E,l,-,av⟩:=run_append_own_at (P:=Tryz.prog) (w:=W2) B 47 47 49 i0 (zf #[O zc 0,O zc 0,O zc 0,.string ⟨#[]⟩,zd none 0 0]) 5 64 Tryz.underlying47 hi bo bn bm rfl (by decide) _ _ _ G ⟨zb,0,none⟩ 1 1 [O zc 0,O zc 0,O zc 0,.string ⟨#[]⟩,zd none 0 0] rfl (fun jj u hu=>by rw [Addr.add_lit,Nat.zero_add];exact HZ.o jj u hu) (by simp [Value.oneCell']) (by unfold maxLen;omega) (by omega) ap;have H:∀ i,i < B->some i≠(Value.slice la k lc).ownBlock:=fun i hk e=>by have:=(AL G e.symm).1;omega
    have l3:W3.cell? ⟨sb,9,none⟩=some (zd la k lc):=(World.cell?_of_block (a:=⟨sb,9,none⟩) (l.block sb (bL s2) (H sb c.o.s1))).trans s2;have x3:W3.cell? ⟨b2,0,none⟩=some (zh (some ⟨sb,0,none⟩)):=(World.cell?_of_block (a:=⟨b2,0,none⟩) (l.block b2 (bL x2) (H b2 c.o.q1))).trans x2;have y3:W3.cell? ⟨b1,0,none⟩=some (zh (some ⟨rb,0,none⟩)):=(World.cell?_of_block (a:=⟨b1,0,none⟩) (l.block b1 (bL y2) (H b1 c.o.p1))).trans y2;obtain ⟨v',ah,-⟩:=(c.o.move (Nat.le_of_lt (HM.o _ _ _ HO.o)) T.o ac.o).row;have ba:v'=zd la k lc:=by
     have t1:=ah.row 9 _ rfl;rw [s1] at t1;injection t1 with t1;exact t1.symm
    subst ba;have y:=ah.over r.o;have L:Bx sb [c0,c1,c2,c3,c4,c5,c6,c7,c8,zd la k lc,cT,cE] W3:=⟨fun j u hu=>(World.cell?_of_block (a:=⟨sb,j,none⟩) (l.block sb y.lt (H sb c.o.s1))).trans (y.row j u hu),fun j=>(World.frozen?_of_block (a:=⟨sb,j,none⟩) (l.block sb y.lt (H sb c.o.s1))).trans (y.fz j),Nat.lt_of_lt_of_le y.lt l.size⟩;have f3:=L.fz 9;have a2:=Aa L;have ad:=Aa G;have bh:=Aa au;have ax:=Aa Z;have M:=Aa E;have N:=Aa l;have bi:=Aa av;have F:Hx (W3.cell? ⟨b2,0,none⟩=some (zh (some ⟨sb,0,none⟩))/\W3.cell? ⟨b1,0,none⟩=some (zh (some ⟨rb,0,none⟩))):=⟨x3,y3⟩;obtain ⟨bk,a5,bj,ae⟩:=AP E;subst ae;refine A4 rfl _ _ _ rfl _ _ _ _ rfl rfl Y ?_;clear Y G au E l av Z be ap H ah y L;refine xK f (F.o) fun b=>?_;clear f K;refine kT 9 ?_;refine kT 10 ?_;refine rdA 11 rfl fun K f=>?_;go_simp;refine xK f (⟨by rw [World.cell?_setCell_far _ _ _ _ c.o.n2];exact F.o.1,by rw [World.cell?_setCell_far _ _ _ _ c.o.n1];exact F.o.2⟩) fun b=>?_;clear f K;refine gE ?_;obtain ⟨cb,⟨-,bw⟩ | ⟨g,cr,cq,ae,bf,bs,-⟩⟩:=id M.o
    ·exact absurd bw (by omega)
    injection ae with ae a9 bp;subst ae;have cc:g≠sb:=by have:=c.o.s1;omega
    have bl:∀ j u,([O zc 0,O zc 0,O zc 0,.string ⟨#[]⟩,zd none 0 0]:List Value)[j]? = some u->W3.cell? ⟨g,k*5+j,none⟩=some u:=fun j u hu=>by
     have t:=M.o.cells (g:=g) rfl (k*5+j) u (by rw [List.getElem?_append_right (by rw [ad.o.1,HK.o];omega),ad.o.1,HK.o,Nat.add_sub_cancel_left];exact hu);rw [Addr.add_lit,Nat.zero_add] at t;exact t
    obtain ⟨z0,z1,z2,z3,z4⟩:=rc5 bl;replace z0:W3.cell? ⟨g,k*5,none⟩=_:=z0;have an:∀ j,W3.frozen? ⟨g,j,none⟩=false:=fun j=>Lib.frozen_of_heap bs j;have g0:=an (k*5);have g1:=an (k*5+1);have g2:=an (k*5+2);have g3:=an (k*5+3);have g4:=an (k*5+4);have cm:k < a5:=by rw [a9,<-HK.o];omega
    have cn:(k:Int) < (a5:Int):=by omega
    have cu:=Aa cc;have ct:=Aa (And.intro bf (And.intro a9 bp));have aa:=c.o.inplace (v:=zd la k lc) (a:=a) (k:=k) T.o ac.o (HM.o _ _ _ HO.o) r.o ad.o bh.o ax.o ay.o N.o a2.o M.o bi.o HK.o bf;have a1:=Aa aa;clear cb bs bl an a9 bp bf aa;go_wp2_with fail;go_end0;rw [HO.o];exact ⟨rfl,a1.o⟩
def Fz (rb sb:Nat) (u V:World):Prop:=u.heap.size<=V.heap.size/\∀ k,k < u.heap.size->k≠rb->k≠sb->V.heap[k]? = u.heap[k]?
section
variable {rb sb b j:Nat} {u V V':World} {x:Value}
theorem Fz.refl (rb sb:Nat) (u:World):Fz rb sb u u:=⟨Nat.le_refl _,fun _ _ _ _=>rfl⟩
theorem Fz.over (h:Fz rb sb u V) (hb:Ov V V'):Fz rb sb u V':=⟨Nat.le_trans h.1 hb.size,fun k h1 h2 h3=>(hb.block k (Nat.lt_of_lt_of_le h1 h.1)).trans (h.2 k h1 h2 h3)⟩
theorem Fz.call (h:Fz rb sb u V) (hg:V.grownBy V' (some rb)):Fz rb sb u V':=⟨Nat.le_trans h.1 hg.size,fun k h1 h2 h3=>(hg.block k (Nat.lt_of_lt_of_le h1 h.1) (nsr h2)).trans (h.2 k h1 h2 h3)⟩
theorem Fz.set (h:Fz rb sb u V) (hb:b=sb\/u.heap.size<=b):Fz rb sb u (V.setCell ⟨b,j,none⟩ x):=⟨by rw [(Bh _ _ _).2.2.2];exact h.1,fun k h1 h2 h3=>by
 rw [Below.heap_setCell _ _ _ _ (by show k≠b;rcases hb with e | e <;> omega)]
 exact h.2 k h1 h2 h3⟩
end
theorem zfs {rb sb j:Nat} {u V V':World} {x:Value} (h:Hx (Fz rb sb u V)) (e:V'=V.setCell ⟨sb,j,none⟩ x):Hx (Fz rb sb u V'):=by subst e;exact h.o.set (Or.inl rfl)
theorem Qu (args:Array Value) (w:World):(callFunc 169 args).run Tryz.prog w=.ok (.enter 169 args) w:=by simp [go_sem]
theorem Pd {rb:Nat} {tv:Value} {ts:List Tok} {en:Nat} (hall:ts.all Ai=true) {w:World} {bs:Nat} (at_:Int) (n:Nat) (u:World) (hd:Rd rb tv ts en w n u) (hsb:w.heap.size<=bs) (hb:Bx bs [O zc 0,O zc at_,.string ⟨#[]⟩,.string ⟨#[]⟩,O zc 0,O zc 0,O zc 0,.string ⟨#[]⟩,zd none 0 0,zd none 0 0,zd none 0 0,zd none 0 0] u) :
  Calls Tryz.prog 157 #[zh (some ⟨rb,0,none⟩),zh (some ⟨bs,0,none⟩)] u (AW ts en (Df ts en at_ n) (fun d n1 e w'=>e=zi (zj #[])/\∃ (kd:Int) (x y:ByteArray) (e0 e1 e2:Int) (e3:ByteArray) (q0:Option Addr) (q1 q2:Nat) (q3:Option Addr) (q4 q5:Nat),Bx bs [O zc kd,O zc at_,.string x,.string y,O zc e0,O zc e1,O zc e2,.string e3,zd q0 q1 q2,zd q3 q4 q5,zd none 0 0,zd none 0 0] w'/\Off u.heap.size none w' (fun W=>XC W 1 [O zc kd,O zc at_,.string x,.string y,O zc e0,O zc e1,O zc e2,.string e3,zd q0 q1 q2,zd q3 q4 q5,zd none 0 0,zd none 0 0] d)/\Rd rb tv ts en w n1 w'/\Fz rb bs u w') (fun w'=>w.grownBy w' (some rb))):=by
 obtain ⟨cl,bf⟩:=nm (Df ts en at_ n);rw [<-bf];have R:Hx (cl=Ao (AY ts n) fun x n1=>Ao (AG ts [61] n1) fun _ n2=>Ao (pX ts en n2) fun e n3=>
   if Kt e=2/\isT ts n3 [40]=true then
    Ao (BB ts [44] (pX ts en) (ts.length+1) (!isT ts (n3+1) [41]) [] (n3+1)) fun l n4=>Ao (AG ts [41] n4) fun _ n5=>.inl (stD 2 at_ x ⟨(Hg e).toArray⟩ noE l [] [],n5)
   else .inl (stD 1 at_ x noS e [] [] [],n3)):=bf
 have F:=Aa hd;have b:=Aa hb;have Y:=Aa hsb;have j:=Aa (Fz.refl rb bs u);clear bf hd hb hsb;have a4:Hx (u.heap.size<=u.heap.size):=j.o.1;obtain ⟨V1,a8⟩:=nm (u.alloc (zg #[zh (some ⟨rb,0,none⟩)] 91));obtain ⟨T,a5⟩:=nm u.heap.size;have bc:=zsz F a5;have r:=zlb b a5;have i:=A1 a5 a8;replace b:=zbv b a8;replace F:=zro F a8;replace j:Hx (Fz rb bs u V1):=by show Fz _ _ _ _;rw [a8];exact j.o.over (bA _ _)
 have de:Hx (u.heap.size<=T):=by show _<=_;rw [a5];exact a4.o
 clear a4;have a4:Hx (u.heap.size<=V1.heap.size):=j.o.1;obtain ⟨V2,a7⟩:=nm (V1.alloc (zg #[zh (some ⟨bs,0,none⟩)] 164));obtain ⟨S,bp⟩:=nm (T+1);have a1:S=V1.heap.size:=by rw [bp,a8,alS,a5]
 have bd:=zsz F a1;have A:=zlb b a1;have V:=zlb i a1;have c:=A1 a1 a7;replace b:=zbv b a7;replace i:=zbv i a7;replace F:=zro F a7;replace j:Hx (Fz rb bs u V2):=by show Fz _ _ _ _;rw [a7];exact j.o.over (bA _ _)
 have df:Hx (u.heap.size<=S):=by show _<=_;rw [a1];exact a4.o
 clear a4;go_enter Tryz.func157,Tryz.ntmps157;go_wp2_with fail;rw [<-a8,<-a5,<-a7,<-bp];clear a1 a5 bp a7 a8;have K1:=Aa fun X hX=>Cw (rb:=rb) (tv:=tv) (ts:=ts) (en:=en) n X hX;obtain ⟨V3,a3⟩:=nm V2.drew;replace b:=zbd b a3;replace i:=zbd i a3;replace c:=zbd c a3;replace F:Hx (Rd rb tv ts en w (n) V3):=by show Rd _ _ _ _ _ _ _;rw [a3];exact F.o.over (bD _)
 replace j:Hx (Fz rb bs u V3):=by show Fz _ _ _ _;rw [a3];exact j.o.over (bD _)
 refine gS (fun Wz=>Wz.cell? ⟨S,0,none⟩=some (zh (some ⟨bs,0,none⟩))/\Wz.cell? ⟨T,0,none⟩=some (zh (some ⟨rb,0,none⟩))) (by rw [<-a3];exact ⟨c.o.row 0 _ rfl,i.o.row 0 _ rfl⟩) fun g=>?_;rw [<-a3] at g ⊢;clear a3;refine kT 0 ?_;refine kT 1 ?_;refine rdA 2 rfl fun K hK=>?_;go_simp;refine (K1.o _ F.o.st).mono ?_;rintro e w4 P;obtain ⟨m,ho⟩ | ⟨x,n1,ho⟩:=AM (AY ts n)
 ·replace P:AW ts en (AY ts n) _ _ e w4:=P
  rw [ho] at P;obtain ⟨rfl,N⟩:=P;have HO:=ziz R ho;have HG:=Aa (Ac F.o.gr N);clear N ho hK g;unfold Ah;go_simp;refine ⟨rfl,?_⟩;rw [HO.o];exact ⟨rfl,HG.o⟩
 replace P:AW ts en (AY ts n) _ _ e w4:=P;rw [ho] at P;obtain ⟨rfl,N,hs⟩:=P;have hr:=R.o;rw [ho,AK] at hr;replace R:=Aa hr;have bh:=Aa ho;clear hr ho g bh;replace j:=Aa (j.o.call N);replace b:=zkd b N F Y;replace i:=zkd i N F bc;replace c:=zkd c N F bd;replace F:=Aa (F.o.call N hs);clear N hs;go_simp;refine xK hK (⟨c.o.row 0 _ rfl,i.o.row 0 _ rfl⟩) fun g=>?_;clear hK K;refine kT 3 ?_;refine kT 4 ?_;refine rdA 5 rfl fun K hK=>?_;have Z:bs≠T:=by have:=r.o;omega
 have ab:T≠bs:=by have:=r.o;omega
 have aa:bs≠S:=by have:=A.o;omega
 have ae:S≠bs:=by have:=A.o;omega
 have ad:T≠S:=by have:=V.o;omega
 have af:S≠T:=by have:=V.o;omega
 have ar:=Ad.all b.o.row;have aq:=b.o.fz;obtain ⟨V5,a6⟩:=nm (w4.setCell ⟨bs,2,none⟩ (.string x));replace b:=zs2 b a6;replace i:=zfg i a6 r;replace c:=zfg c a6 A;replace F:=zrs F a6 Y;replace j:=zfs j a6;go_simp;rw [<-a6];clear a6 g aq ar af ad ae aa ab Z;refine xK hK (⟨c.o.row 0 _ rfl,i.o.row 0 _ rfl⟩) fun g=>?_;clear hK K;refine gE ?_;have K2:=Aa (BE ⟨#[61]⟩ (by decide) n1 _ F.o.st);clear K1;have bb:=i.o.row 0 _ rfl;go_wp2_with fail;clear bb;refine pc K2.o R (fun m w6 HO N=>?_) ?_
 ·have HG:=Aa (Ac F.o.gr N)
  clear N;unfold Ah;go_wp2_with fail;exact ⟨rfl,by rw [HO.o];exact ⟨rfl,HG.o⟩⟩
 clear R;rintro _u n2 e w6 ⟨rfl,N,hs⟩ R bh;clear bh;replace j:=Aa (j.o.call N);replace b:=zkd b N F Y;replace i:=zkd i N F bc;replace c:=zkd c N F bd;replace F:=Aa (F.o.call N hs);clear N hs;have K3:=Aa (ES hall n2 _ F.o.st);clear K2;have bb:=i.o.row 0 _ rfl;go_wp2_with fail;clear bb;obtain ⟨z,hz⟩:=nm w6.heap.size;have ce:Hx (u.heap.size<=z):=by show _<=_;rw [hz];exact j.o.1
 have cd:=zsz F hz;have U:=zlb b hz;have c3:=zlb i hz;have c4:=zlb c hz;refine pc K3.o R (fun m w7 HO N=>?_) ?_
 ·have HG:=Aa (Ac F.o.gr N)
  clear N;unfold Ah;go_wp2_with fail;exact ⟨rfl,by rw [HO.o];exact ⟨rfl,HG.o⟩⟩
 clear R;rintro ed n3 e w7 ⟨e0,e1,e2,e3,q0,q1,q2,rfl,a2,ca,b9,N,hs⟩ R bh;rw [<-hz] at a2;have f:=Aa a2;have b1:=Aa (And.intro ca b9);clear a2 ca b9 hz bh;replace j:=Aa (j.o.call N);replace b:=zkd b N F Y;replace i:=zkd i N F bc;replace c:=zkd c N F bd;replace F:=Aa (F.o.call N hs);clear N hs K3;have bb:=Jx (i.o.row 0 _ rfl) (zg #[O zc e0,O zc e1,O zc e2,.string e3,zd q0 q1 q2] 49);have a4:Hx (u.heap.size<=w7.heap.size):=j.o.1;obtain ⟨V8,az⟩:=nm (w7.alloc (zg #[O zc e0,O zc e1,O zc e2,.string e3,zd q0 q1 q2] 49));obtain ⟨Q,a0⟩:=nm w7.heap.size;have cf:=zsz F a0;have G:=zlb b a0;have ag:=zlb i a0;have ah:=zlb c a0;have a:=A1 a0 az;replace b:=zbv b az;replace i:=zbv i az;replace c:=zbv c az;replace F:=zro F az;replace f:=zoo f az;replace j:Hx (Fz rb bs u V8):=by show Fz _ _ _ _;rw [az];exact j.o.over (bA _ _)
 have dg:Hx (u.heap.size<=Q):=by show _<=_;rw [a0];exact a4.o
 clear a4;by_cases hk2:e0=2
 ·have cr:=Aa hk2
  have K4:=Aa (GC ⟨#[40]⟩ (by decide) n3 _ F.o.st);have bo:(e0 != 2)=false:=by simpa using hk2
  have bn:(e0 == 2)=true:=by simpa using hk2
  clear hk2;go_wp2_with fail;rw [<-az,<-a0];clear a0 bb az bo bn;refine K4.o.mono ?_;rintro e wt ⟨rfl,N,hs⟩;replace hs:St rb tv ts en (if isT ts n3 [40]=true then n3+1 else n3) wt:=hs
  cases hq:isT ts n3 [40] with
  | false=>
   rw [hq] at hs;have hr:=R.o;rw [if_neg (by rw [hq];simp)] at hr;replace R:=Aa hr;replace hs:St rb tv ts en n3 wt:=hs;try rw [show isT ts n3 (ByteArray.mk #[40]).data.toList=false from hq]
   clear hr hq K4;replace j:=Aa (j.o.call N);replace b:=zkd b N F Y;replace i:=zkd i N F bc;replace c:=zkd c N F bd;replace a:=zkd a N F cf;replace f:=zod f N F cd;replace F:=Aa (F.o.call N hs);clear N hs;go_wp2_with fail;obtain ⟨V9,H⟩:=nm wt.drew;replace b:=zbd b H;replace i:=zbd i H;replace c:=zbd c H;replace a:=zbd a H;replace F:Hx (Rd rb tv ts en w (n3) V9):=by show Rd _ _ _ _ _ _ _;rw [H];exact F.o.over (bD _)
   replace j:Hx (Fz rb bs u V9):=by show Fz _ _ _ _;rw [H];exact j.o.over (bD _)
   replace f:Hx (Off z none V9 (fun W=>XE W 61 [O zc e0,O zc e1,O zc e2,.string e3,zd q0 q1 q2] ed)):=by show Off _ _ _ _;rw [H];exact f.o.over (bD _)
   refine gS (fun Wz=>Wz.cell? ⟨S,0,none⟩=some (zh (some ⟨bs,0,none⟩))/\Wz.cell? ⟨Q,0,none⟩=some (O zc e0)/\Wz.cell? ⟨Q,1,none⟩=some (O zc e1)/\Wz.cell? ⟨Q,2,none⟩=some (O zc e2)/\Wz.cell? ⟨Q,3,none⟩=some (.string e3)/\Wz.cell? ⟨Q,4,none⟩=some (zd q0 q1 q2)) (by rw [<-H];exact ⟨c.o.row 0 _ rfl,a.o.row 0 _ rfl,a.o.row 1 _ rfl,a.o.row 2 _ rfl,a.o.row 3 _ rfl,a.o.row 4 _ rfl⟩) fun g=>?_;rw [<-H] at g ⊢;clear H;refine kT 0 ?_;refine kT 1 ?_;refine kT 2 ?_;refine kT 3 ?_;refine kT 4 ?_;refine rdA 5 rfl fun K hK=>?_;have Z:bs≠T:=by have:=r.o;omega
   have ab:T≠bs:=by have:=r.o;omega
   have aa:bs≠S:=by have:=A.o;omega
   have ae:S≠bs:=by have:=A.o;omega
   have ai:bs≠Q:=by have:=G.o;omega
   have al:Q≠bs:=by have:=G.o;omega
   have ad:T≠S:=by have:=V.o;omega
   have af:S≠T:=by have:=V.o;omega
   have aj:T≠Q:=by have:=ag.o;omega
   have am:Q≠T:=by have:=ag.o;omega
   have ak:S≠Q:=by have:=ah.o;omega
   have an:Q≠S:=by have:=ah.o;omega
   have ar:=Ad.all b.o.row;have aq:=b.o.fz;obtain ⟨bg,E⟩:=nm (V9.setCell ⟨bs,0,none⟩ (O zc 1));replace b:=zs0 b E;replace i:=zfg i E r;replace c:=zfg c E A;replace a:=zfg a E G;replace F:=zrs F E Y;replace j:=zfs j E;replace f:=zos f E U;go_simp;rw [<-E];clear E g aq ar an ak am aj af ad al ai ae aa ab Z;refine xK hK (⟨c.o.row 0 _ rfl,a.o.row 0 _ rfl,a.o.row 1 _ rfl,a.o.row 2 _ rfl,a.o.row 3 _ rfl,a.o.row 4 _ rfl⟩) fun g=>?_;clear hK K;refine kT 6 ?_;refine kT 7 ?_;refine rdA 8 rfl fun K hK=>?_;have Z:bs≠T:=by have:=r.o;omega
   have ab:T≠bs:=by have:=r.o;omega
   have aa:bs≠S:=by have:=A.o;omega
   have ae:S≠bs:=by have:=A.o;omega
   have ai:bs≠Q:=by have:=G.o;omega
   have al:Q≠bs:=by have:=G.o;omega
   have ad:T≠S:=by have:=V.o;omega
   have af:S≠T:=by have:=V.o;omega
   have aj:T≠Q:=by have:=ag.o;omega
   have am:Q≠T:=by have:=ag.o;omega
   have ak:S≠Q:=by have:=ah.o;omega
   have an:Q≠S:=by have:=ah.o;omega
   have ar:=Ad.all b.o.row;have aq:=b.o.fz;obtain ⟨ap,C⟩:=nm (bg.setCell ⟨bs,4,none⟩ (O zc e0));replace b:=zs4 b C;replace i:=zfg i C r;replace c:=zfg c C A;replace a:=zfg a C G;replace F:=zrs F C Y;replace j:=zfs j C;replace f:=zos f C U;obtain ⟨bw,M⟩:=nm (ap.setCell ⟨bs,5,none⟩ (O zc e1));replace b:=zs5 b M;replace i:=zfg i M r;replace c:=zfg c M A;replace a:=zfg a M G;replace F:=zrs F M Y;replace j:=zfs j M;replace f:=zos f M U;obtain ⟨bv,L⟩:=nm (bw.setCell ⟨bs,6,none⟩ (O zc e2));replace b:=zs6 b L;replace i:=zfg i L r;replace c:=zfg c L A;replace a:=zfg a L G;replace F:=zrs F L Y;replace j:=zfs j L;replace f:=zos f L U;obtain ⟨bu,J⟩:=nm (bv.setCell ⟨bs,7,none⟩ (.string e3));replace b:=zs7 b J;replace i:=zfg i J r;replace c:=zfg c J A;replace a:=zfg a J G;replace F:=zrs F J Y;replace j:=zfs j J;replace f:=zos f J U;obtain ⟨co,I⟩:=nm (bu.setCell ⟨bs,8,none⟩ (zd q0 q1 q2));replace b:=zs8 b I;replace i:=zfg i I r;replace c:=zfg c I A;replace a:=zfg a I G;replace F:=zrs F I Y;replace j:=zfs j I;replace f:=zos f I U;go_simp;rw [<-C,<-M,<-L,<-J,<-I];clear I J L M C g aq ar an ak am aj af ad al ai ae aa ab Z;refine xK hK (⟨c.o.row 0 _ rfl,a.o.row 0 _ rfl,a.o.row 1 _ rfl,a.o.row 2 _ rfl,a.o.row 3 _ rfl,a.o.row 4 _ rfl⟩) fun g=>?_;clear hK K;refine gE ?_;go_wp2_with fail;go_end0;rw [R.o];exact ⟨rfl,1,x,⟨#[]⟩,e0,e1,e2,e3,q0,q1,q2,none,0,0,b.o,(f.o.base ce.o).imp (fun W hW=>⟨1,at_,x,⟨#[]⟩,_,_,_,_,_,ed,_,[],_,[],_,[],rfl,rfl,hW,LS.nil,LS.nil,LS.nil⟩),F.o,j.o⟩
  | true=>
   rw [hq] at hs;have hr:=R.o;rw [if_pos ⟨b1.o.1.trans cr.o,hq⟩] at hr;replace R:=Aa hr;replace hs:St rb tv ts en (n3+1) wt:=hs;try rw [show isT ts n3 (ByteArray.mk #[40]).data.toList=true from hq]
   clear hr hq K4;replace j:=Aa (j.o.call N);replace b:=zkd b N F Y;replace i:=zkd i N F bc;replace c:=zkd c N F bd;replace a:=zkd a N F cf;replace f:=zod f N F cd;replace F:=Aa (F.o.call N hs);clear N hs;go_wp2_with fail;obtain ⟨V9,H⟩:=nm wt.drew;replace b:=zbd b H;replace i:=zbd i H;replace c:=zbd c H;replace a:=zbd a H;replace F:Hx (Rd rb tv ts en w (n3+1) V9):=by show Rd _ _ _ _ _ _ _;rw [H];exact F.o.over (bD _)
   replace j:Hx (Fz rb bs u V9):=by show Fz _ _ _ _;rw [H];exact j.o.over (bD _)
   replace f:Hx (Off z none V9 (fun W=>XE W 61 [O zc e0,O zc e1,O zc e2,.string e3,zd q0 q1 q2] ed)):=by show Off _ _ _ _;rw [H];exact f.o.over (bD _)
   refine gS (fun Wz=>Wz.cell? ⟨S,0,none⟩=some (zh (some ⟨bs,0,none⟩))/\Wz.cell? ⟨Q,0,none⟩=some (O zc e0)/\Wz.cell? ⟨Q,1,none⟩=some (O zc e1)/\Wz.cell? ⟨Q,2,none⟩=some (O zc e2)/\Wz.cell? ⟨Q,3,none⟩=some (.string e3)/\Wz.cell? ⟨Q,4,none⟩=some (zd q0 q1 q2)) (by rw [<-H];exact ⟨c.o.row 0 _ rfl,a.o.row 0 _ rfl,a.o.row 1 _ rfl,a.o.row 2 _ rfl,a.o.row 3 _ rfl,a.o.row 4 _ rfl⟩) fun g=>?_;rw [<-H] at g ⊢;clear H;refine kT 0 ?_;refine kT 1 ?_;refine kT 2 ?_;refine kT 3 ?_;refine kT 4 ?_;refine kT 5 ?_;refine rdA 6 rfl fun K hK=>?_;have Z:bs≠T:=by have:=r.o;omega
   have ab:T≠bs:=by have:=r.o;omega
   have aa:bs≠S:=by have:=A.o;omega
   have ae:S≠bs:=by have:=A.o;omega
   have ai:bs≠Q:=by have:=G.o;omega
   have al:Q≠bs:=by have:=G.o;omega
   have ad:T≠S:=by have:=V.o;omega
   have af:S≠T:=by have:=V.o;omega
   have aj:T≠Q:=by have:=ag.o;omega
   have am:Q≠T:=by have:=ag.o;omega
   have ak:S≠Q:=by have:=ah.o;omega
   have an:Q≠S:=by have:=ah.o;omega
   have ar:=Ad.all b.o.row;have aq:=b.o.fz;obtain ⟨bg,E⟩:=nm (V9.setCell ⟨bs,0,none⟩ (O zc 2));replace b:=zs0 b E;replace i:=zfg i E r;replace c:=zfg c E A;replace a:=zfg a E G;replace F:=zrs F E Y;replace j:=zfs j E;replace f:=zos f E U;go_simp;rw [<-E];clear E g aq ar an ak am aj af ad al ai ae aa ab Z;refine xK hK (⟨c.o.row 0 _ rfl,a.o.row 0 _ rfl,a.o.row 1 _ rfl,a.o.row 2 _ rfl,a.o.row 3 _ rfl,a.o.row 4 _ rfl⟩) fun g=>?_;clear hK K;refine kT 7 ?_;refine kT 8 ?_;refine rdA 9 rfl fun K hK=>?_;have Z:bs≠T:=by have:=r.o;omega
   have ab:T≠bs:=by have:=r.o;omega
   have aa:bs≠S:=by have:=A.o;omega
   have ae:S≠bs:=by have:=A.o;omega
   have ai:bs≠Q:=by have:=G.o;omega
   have al:Q≠bs:=by have:=G.o;omega
   have ad:T≠S:=by have:=V.o;omega
   have af:S≠T:=by have:=V.o;omega
   have aj:T≠Q:=by have:=ag.o;omega
   have am:Q≠T:=by have:=ag.o;omega
   have ak:S≠Q:=by have:=ah.o;omega
   have an:Q≠S:=by have:=ah.o;omega
   have ar:=Ad.all b.o.row;have aq:=b.o.fz;obtain ⟨ap,C⟩:=nm (bg.setCell ⟨bs,3,none⟩ (.string e3));replace b:=zs3 b C;replace i:=zfg i C r;replace c:=zfg c C A;replace a:=zfg a C G;replace F:=zrs F C Y;replace j:=zfs j C;replace f:=zos f C U;go_simp;rw [<-C];clear C g aq ar an ak am aj af ad al ai ae aa ab Z;refine xK hK (⟨c.o.row 0 _ rfl,a.o.row 0 _ rfl,a.o.row 1 _ rfl,a.o.row 2 _ rfl,a.o.row 3 _ rfl,a.o.row 4 _ rfl⟩) fun g=>?_;clear hK K;refine gE ?_;obtain ⟨B,hB⟩:=nm ap.heap.size;have b3:Hx (u.heap.size<=B):=by show _<=_;rw [hB];exact j.o.1
   have b0:Hx (Fh w ap rb tv ts en bs T S B (O zc 2) (O zc at_) (.string x) (.string e3) (O zc 0) (O zc 0) (O zc 0) (.string ⟨#[]⟩) (zd none 0 0) (zd none 0 0) (zd none 0 0) [] (n3+1) ap):=⟨F.o,Y.o,by rw [hB];exact b.o.lt,bc.o,by rw [hB];exact i.o.lt,bd.o,by rw [hB];exact c.o.lt,by have:=r.o;omega,by have:=A.o;omega,by rw [hB];exact Nat.le_refl _,i.o,c.o,Nat.zero_le _,fun _ _ _ _=>rfl,zd none 0 0,b.o,Cop.nil⟩;have dh:Hx (bs < B/\rb < B):=⟨by rw [hB];exact b.o.lt,by have:=F.o.rlt;have:=F.o.size;rw [hB];omega⟩;have K5:Hx (∀ X,Ov ap X->_):=fun X (hX:Ov ap X)=>M8 (rb:=rb) (tv:=tv) (ts:=ts) (en:=en) ⟨#[41]⟩ [41] rfl (n3+1) X (b0.o.rd.st.below hX);have x0:=b0.o.r1.row 0 _ rfl;clear hB;go_wp2_with fail;refine gS (fun Wz=>Wz.cell? ⟨T,0,none⟩=some (zh (some ⟨rb,0,none⟩))) (ce1 (bD ap) x0) fun g=>?_;have b2:Hx (Ov ap ap.drew):=bD ap;generalize ap.drew=W at g b2 ⊢;clear x0;refine kT 0 ?_;refine kT 1 ?_;refine kT 4 ?_;refine rdA 2 rfl fun K hK=>?_;go_simp;refine (K5.o _ b2.o).mono ?_;rintro e wq ⟨rfl,b8,b6⟩;obtain ⟨q,hq⟩:=nm (isT ts (n3+1) [41]);rw [<-hq] at R ⊢;have cg:=Aa (b0.o.move (Nat.le_refl _) (Ac (Ae b2.o) b8) b6);clear hq b8 b6 g;go_simp;refine xK hK (cg.o.r1.row 0 _ rfl) fun g=>?_;clear hK K;refine kT 3 ?_;refine rdA 5 rfl fun K hK=>?_;have KE:=Aa (LK (rb:=rb) (tv:=tv) (ts:=ts) (en:=en) 169 [zh (some ⟨S,0,none⟩),zh (some ⟨T,0,none⟩)] Qu ⟨#[44]⟩ (by decide) (pX ts en) (fun bt n2 w'=>Fh w ap rb tv ts en bs T S B (O zc 2) (O zc at_) (.string x) (.string e3) (O zc 0) (O zc 0) (O zc 0) (.string ⟨#[]⟩) (zd none 0 0) (zd none 0 0) (zd none 0 0) bt n2 w') (fun w'=>w.grownBy w' (some rb)) (fun _ _ _ h=>h.rd.st) (fun _ _ _ h=>Nat.le_of_lt (EO 61 0 _ _ _ h).2) (fun _ _ _ _ _ h hn N hs=>h.move hn N hs) (fun bt n w' h=>Nv hall bt n w' h) (!q) (n3+1) wq cg.o);go_simp;refine KE.o.mono ?_;rintro e we P;obtain ⟨m,ho⟩ | ⟨l,n4,ho⟩:=AM (BB ts [44] (pX ts en) (ts.length+1) (!q) [] (n3+1))
   ·replace P:AW ts en (BB ts [44] (pX ts en) (ts.length+1) (!q) [] (n3+1)) _ _ e we:=P
    rw [ho] at P;obtain ⟨rfl,N⟩:=P;have HO:=ziz R ho;have HG:=Aa N;clear N ho hK g;unfold Ah;go_simp;refine ⟨rfl,?_⟩;rw [HO.o];exact ⟨rfl,HG.o⟩
   replace P:AW ts en (BB ts [44] (pX ts en) (ts.length+1) (!q) [] (n3+1)) _ _ e we:=P;rw [ho] at P;obtain ⟨rfl,b7⟩:=P;have hr:=R.o;rw [ho,AK] at hr;replace R:=Aa hr;have bi:=Aa b7;clear ho b7 hr g;refine xK hK (bi.o.r1.row 0 _ rfl) fun g=>?_;clear hK K;refine gE ?_;have K6:=Aa (BE ⟨#[41]⟩ (by decide) n4 we bi.o.rd.st);have x3:=bi.o.r1.row 0 _ rfl;go_wp2_with fail;clear x3;refine K6.o.mono ?_;rintro e wf P;obtain ⟨m,ho⟩ | ⟨da,n5,ho⟩:=AM (AG ts [41] n4)
   ·replace P:AW ts en (AG ts [41] n4) _ _ e wf:=P
    rw [ho] at P;obtain ⟨rfl,N⟩:=P;have HO:=ziz R ho;have HG:=Aa (Ac bi.o.rd.gr N);clear N ho;unfold Ah;go_wp2_with fail;refine ⟨rfl,?_⟩;rw [HO.o];exact ⟨rfl,HG.o⟩
   replace P:AW ts en (AG ts [41] n4) _ _ e wf:=P;rw [ho] at P;obtain ⟨rfl,N,hs⟩:=P;have hr:=R.o;rw [ho,AK] at hr;replace R:=Aa hr;have ba:=bi.o.move (Nat.le_of_lt (Bl ho)) N hs;obtain ⟨v,cb,hc⟩:=ba.row;have cm:l.length<=6000:=Nat.le_trans ba.few (Nat.le_trans ba.rd.st.2.1 ba.rd.st.2.2.1);obtain ⟨av,ac,rfl,a2⟩:=Cop.ls hc (by decide) (by omega);have bz:=Aa ba;have cq:=Aa (a2.base b3.o);have cs:=Aa cb;clear ho N hs ba hc a2 hr cm cb;go_wp2_with fail;go_end0;rw [R.o];refine ⟨rfl,2,x,e3,0,0,0,⟨#[]⟩,none,0,0,av,l.length,ac,cs.o,cq.o.imp (fun W hW=>⟨2,at_,x,e3,_,_,_,_,_,noE,_,l,_,[],_,[],rfl,?_,XE.none W,hW,LS.nil,LS.nil⟩),bz.o.rd,?_,fun k k1 k2 k3=>?_⟩
   ·rw [b1.o.2]
   ·exact Nat.le_trans b3.o bz.o.sz
   ·rw [bz.o.fr k (Nat.lt_of_lt_of_le k1 b3.o) k2 k3]
    exact j.o.2 k k1 k2 k3
 ·have hr:=R.o
  rw [if_neg (fun h=>hk2 (b1.o.1.symm.trans h.1))] at hr;replace R:=Aa hr;clear hr;have bo:(e0 != 2)=true:=by simpa using hk2
  have bn:(e0 == 2)=false:=by simpa using hk2
  go_wp2_with fail;rw [<-az,<-a0];clear a0 bb az bo bn;obtain ⟨V9,H⟩:=nm V8.drew;replace b:=zbd b H;replace i:=zbd i H;replace c:=zbd c H;replace a:=zbd a H;replace F:Hx (Rd rb tv ts en w (n3) V9):=by show Rd _ _ _ _ _ _ _;rw [H];exact F.o.over (bD _)
  replace j:Hx (Fz rb bs u V9):=by show Fz _ _ _ _;rw [H];exact j.o.over (bD _)
  replace f:Hx (Off z none V9 (fun W=>XE W 61 [O zc e0,O zc e1,O zc e2,.string e3,zd q0 q1 q2] ed)):=by show Off _ _ _ _;rw [H];exact f.o.over (bD _)
  refine gS (fun Wz=>Wz.cell? ⟨S,0,none⟩=some (zh (some ⟨bs,0,none⟩))/\Wz.cell? ⟨Q,0,none⟩=some (O zc e0)/\Wz.cell? ⟨Q,1,none⟩=some (O zc e1)/\Wz.cell? ⟨Q,2,none⟩=some (O zc e2)/\Wz.cell? ⟨Q,3,none⟩=some (.string e3)/\Wz.cell? ⟨Q,4,none⟩=some (zd q0 q1 q2)) (by rw [<-H];exact ⟨c.o.row 0 _ rfl,a.o.row 0 _ rfl,a.o.row 1 _ rfl,a.o.row 2 _ rfl,a.o.row 3 _ rfl,a.o.row 4 _ rfl⟩) fun g=>?_;rw [<-H] at g ⊢;clear H;refine kT 0 ?_;refine kT 1 ?_;refine kT 2 ?_;refine kT 3 ?_;refine kT 4 ?_;refine rdA 5 rfl fun K hK=>?_;have Z:bs≠T:=by have:=r.o;omega
  have ab:T≠bs:=by have:=r.o;omega
  have aa:bs≠S:=by have:=A.o;omega
  have ae:S≠bs:=by have:=A.o;omega
  have ai:bs≠Q:=by have:=G.o;omega
  have al:Q≠bs:=by have:=G.o;omega
  have ad:T≠S:=by have:=V.o;omega
  have af:S≠T:=by have:=V.o;omega
  have aj:T≠Q:=by have:=ag.o;omega
  have am:Q≠T:=by have:=ag.o;omega
  have ak:S≠Q:=by have:=ah.o;omega
  have an:Q≠S:=by have:=ah.o;omega
  have ar:=Ad.all b.o.row;have aq:=b.o.fz;obtain ⟨bg,E⟩:=nm (V9.setCell ⟨bs,0,none⟩ (O zc 1));replace b:=zs0 b E;replace i:=zfg i E r;replace c:=zfg c E A;replace a:=zfg a E G;replace F:=zrs F E Y;replace j:=zfs j E;replace f:=zos f E U;go_simp;rw [<-E];clear E g aq ar an ak am aj af ad al ai ae aa ab Z;refine xK hK (⟨c.o.row 0 _ rfl,a.o.row 0 _ rfl,a.o.row 1 _ rfl,a.o.row 2 _ rfl,a.o.row 3 _ rfl,a.o.row 4 _ rfl⟩) fun g=>?_;clear hK K;refine kT 6 ?_;refine kT 7 ?_;refine rdA 8 rfl fun K hK=>?_;have Z:bs≠T:=by have:=r.o;omega
  have ab:T≠bs:=by have:=r.o;omega
  have aa:bs≠S:=by have:=A.o;omega
  have ae:S≠bs:=by have:=A.o;omega
  have ai:bs≠Q:=by have:=G.o;omega
  have al:Q≠bs:=by have:=G.o;omega
  have ad:T≠S:=by have:=V.o;omega
  have af:S≠T:=by have:=V.o;omega
  have aj:T≠Q:=by have:=ag.o;omega
  have am:Q≠T:=by have:=ag.o;omega
  have ak:S≠Q:=by have:=ah.o;omega
  have an:Q≠S:=by have:=ah.o;omega
  have ar:=Ad.all b.o.row;have aq:=b.o.fz;obtain ⟨ap,C⟩:=nm (bg.setCell ⟨bs,4,none⟩ (O zc e0));replace b:=zs4 b C;replace i:=zfg i C r;replace c:=zfg c C A;replace a:=zfg a C G;replace F:=zrs F C Y;replace j:=zfs j C;replace f:=zos f C U;obtain ⟨bw,M⟩:=nm (ap.setCell ⟨bs,5,none⟩ (O zc e1));replace b:=zs5 b M;replace i:=zfg i M r;replace c:=zfg c M A;replace a:=zfg a M G;replace F:=zrs F M Y;replace j:=zfs j M;replace f:=zos f M U;obtain ⟨bv,L⟩:=nm (bw.setCell ⟨bs,6,none⟩ (O zc e2));replace b:=zs6 b L;replace i:=zfg i L r;replace c:=zfg c L A;replace a:=zfg a L G;replace F:=zrs F L Y;replace j:=zfs j L;replace f:=zos f L U;obtain ⟨bu,J⟩:=nm (bv.setCell ⟨bs,7,none⟩ (.string e3));replace b:=zs7 b J;replace i:=zfg i J r;replace c:=zfg c J A;replace a:=zfg a J G;replace F:=zrs F J Y;replace j:=zfs j J;replace f:=zos f J U;obtain ⟨co,I⟩:=nm (bu.setCell ⟨bs,8,none⟩ (zd q0 q1 q2));replace b:=zs8 b I;replace i:=zfg i I r;replace c:=zfg c I A;replace a:=zfg a I G;replace F:=zrs F I Y;replace j:=zfs j I;replace f:=zos f I U;go_simp;rw [<-C,<-M,<-L,<-J,<-I];clear I J L M C g aq ar an ak am aj af ad al ai ae aa ab Z;refine xK hK (⟨c.o.row 0 _ rfl,a.o.row 0 _ rfl,a.o.row 1 _ rfl,a.o.row 2 _ rfl,a.o.row 3 _ rfl,a.o.row 4 _ rfl⟩) fun g=>?_;clear hK K;refine gE ?_;go_wp2_with fail;go_end0;rw [R.o];exact ⟨rfl,1,x,⟨#[]⟩,e0,e1,e2,e3,q0,q1,q2,none,0,0,b.o,(f.o.base ce.o).imp (fun W hW=>⟨1,at_,x,⟨#[]⟩,_,_,_,_,_,ed,_,[],_,[],_,[],rfl,rfl,hW,LS.nil,LS.nil,LS.nil⟩),F.o,j.o⟩
end Go.Proofs.YtipngnjffjajpaaGreatDoor.Tx
