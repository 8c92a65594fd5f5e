/- A list in a command's box that grows while the reader goes on. -/
import Derived.Test.YtipngnjffjajpaaGreatDoorH08
set_option linter.unusedVariables false
set_option maxHeartbeats 8000000
set_option maxRecDepth 100000
namespace Go.Proofs.YtipngnjffjajpaaGreatDoor.Tx
open Go.RowKit
open Go.Value renaming int -> M, slice -> U, bool -> zc, pointer -> zd, agg -> zf, tuple -> zh
open Go.IntKind renaming i64 -> O
open Go.Obj renaming cells -> ze
open Go.Ending renaming returned -> zg
theorem Tryz.infoTE:(Tryz.prog.info? 49).map (fun i=>(i.zero,i.size,i.bytes))=some (some (zf #[M O 0,M O 0,M O 0,.string ⟨#[]⟩,U none 0 0]),5,64):=by kernel_rfl
def Mu (Qn:Act->World->Prop):Exit->Act->World->Prop
 | .normal,a,w=>Qn a w
 | _,_,_=>False
theorem FJ {P:Program} {id:Nat} {ops:Array Oper} {dr:Bool} {Q:Exit->Act->World->Prop} {a:Act} {w:World} (R:Act->World->Prop) (h:(Code.region id ops dr).wp P (Mu R) a w) (hq:∀ a w,R a w->Q .normal a w):(Code.region id ops dr).wp P Q a w:=
 wp_mono h fun e a w h=>by cases e <;> first | exact hq _ _ h | exact h.elim
theorem CS {R:Act->World->Prop} {a:Act} {w:World} (h:R a w):Mu R .normal a w:=h
theorem DU {W:World} {B e s n g cap i:Nat} {xs:List Value} {u:Value} (h:W.ownsRow B e s (U (some ⟨g,0,none⟩) n cap) n xs) (hi:i < n*s):(W.setCell ⟨g,i,none⟩ u).ownsRow B e s (U (some ⟨g,0,none⟩) n cap) n (xs.set i u):=by
 obtain ⟨F,⟨E,-⟩ | ⟨H,r,a,x,C,m,l,A,k,y⟩⟩:=h
 ·cases E
 injection x with b G v;injection b with b;injection b with b;subst b v;have f:i < a.size:=by rw [k];exact Nat.lt_of_lt_of_le hi (Nat.mul_le_mul_right _ l)
 refine ⟨by simp [F],Or.inr ⟨g,cap,a.set i u f,rfl,C,?_,l,A,by simp [k],?_⟩⟩
 ·have c:g < W.heap.size:=(Array.getElem?_eq_some_iff.1 m).1
  have j:W.heap[g]=.cells a e:=by
   have:=Array.getElem?_eq_getElem c;rw [m] at this;injection this with this;exact this.symm
  simp only [World.setCell];rw [Array.getElem?_eq_getElem (by simpa using c),Array.getElem_modify_self,j];simp [Array.setIfInBounds,f]
 ·rw [Array.toList_set,List.take_set,y]
theorem Off.row2 {B:Nat} {v v':Value} {w w':World} {P:World->Prop} (h:Off B v.ownBlock w P) (hg:∀ k,B<=k->k < w.heap.size->some k≠v.ownBlock->w'.heap[k]? = w.heap[k]?) (hs:w.heap.size<=w'.heap.size) (hv:v'.ownBlock=v.ownBlock\/v'.ownBlock=some w.heap.size):Off B v'.ownBlock w' P:=fun W hW=>h W fun k h1 h2 h3=>
 (hW k h1 (Nat.lt_of_lt_of_le h2 hs) (by
  rcases hv with e | e
  ·rw [e];exact h3
  ·rw [e];intro q;injection q with q;omega)).trans (hg k h1 h2 h3)
structure DJ (w0 wz:World) (rb:Nat) (tv:Value) (ts:List Tok) (en sb b1 b2 B:Nat) (c0 c1 c2 c3 c4 c5 c6 c7 c8 cT cE:Value) (acc:List D) (n:Nat) (w:World):Prop where
 rd:Rd rb tv ts en w0 n w
 s0:w0.heap.size<=sb
 s1:sb < B
 p0:w0.heap.size<=b1
 p1:b1 < B
 q0:w0.heap.size<=b2
 q1:b2 < B
 n1:sb≠b1
 n2:sb≠b2
 sz:B<=w.heap.size
 r1:Bx b1 [zd (some ⟨rb,0,none⟩)] w
 r2:Bx b2 [zd (some ⟨sb,0,none⟩)] w
 few:acc.length<=n
 fr:∀ k,k < B->k≠rb->k≠sb->w.heap[k]? = wz.heap[k]?
 row:∃ v,Bx sb [c0,c1,c2,c3,c4,c5,c6,c7,c8,v,cT,cE] w/\Cop B 49 5 (fun i cs W=>∀ x,acc[i]? = some x->XE W 61 cs x) acc.length v w
section
variable {w0 wz:World} {rb:Nat} {tv:Value} {ts:List Tok} {en sb b1 b2 B:Nat} {c0 c1 c2 c3 c4 c5 c6 c7 c8 cT cE:Value} {acc:List D} {n n1:Nat} {w w1 W2 W:World} {v v2:Value} {xs cs:List Value} {a:D}
theorem DJ.move (h:DJ w0 wz rb tv ts en sb b1 b2 B c0 c1 c2 c3 c4 c5 c6 c7 c8 cT cE acc n w) (hn:n<=n1) (hg:w.grownBy w1 (some rb)) (hs:St rb tv ts en n1 w1):DJ w0 wz rb tv ts en sb b1 b2 B c0 c1 c2 c3 c4 c5 c6 c7 c8 cT cE acc n1 w1:=by
 obtain ⟨v,c,f⟩:=h.row;have hr:=h.rd.rlt;have m:=h.s0;have l:=h.p0;have j:=h.q0;have i:=h.s1;refine ⟨h.rd.call hg hs,h.s0,h.s1,h.p0,h.p1,h.q0,h.q1,h.n1,h.n2,Nat.le_trans h.sz hg.size,h.r1.keep hg (by omega),h.r2.keep hg (by omega),Nat.le_trans h.few hn,fun k b a g=>?_,v,c.keep hg (by omega),f.keep hg (by omega)⟩;rw [hg.block k (Nat.lt_of_lt_of_le b h.sz) (fun e=>by injection e with e;exact a e)];exact h.fr k b a g
theorem DJ.app (h:DJ w0 wz rb tv ts en sb b1 b2 B c0 c1 c2 c3 c4 c5 c6 c7 c8 cT cE acc n w) (hv:w.cell? ⟨sb,9,none⟩=some v) (hg:w.grownBy w1 (some rb)) (hb:Ov w1 W2):∃ xs,W2.ownsRow B 49 5 v acc.length xs/\(∀ i,i < acc.length->∃ cs:List Value,cs.length=5/\(∀ j u,cs[j]? = some u->xs[i*5+j]? = some u)/\Off B v.ownBlock W2 (fun W=>∀ x,acc[i]? = some x->XE W 61 cs x))/\∀ k,v.ownBlock=some k->k < w.heap.size:=by
 obtain ⟨r,a,b⟩:=h.row;have:=a.row 9 _ rfl;rw [hv] at this;injection this with this;subst this;have hr:=h.rd.rlt;have A:=h.s0;have y:=h.s1;obtain ⟨xs,l,g⟩:=(b.keep hg (by omega)).over hb;obtain ⟨m,f,-⟩:=b;exact ⟨xs,l,g,fun k c=>(AF f c).2⟩
theorem DJ.fin (h:DJ w0 wz rb tv ts en sb b1 b2 B c0 c1 c2 c3 c4 c5 c6 c7 c8 cT cE acc n w) (hg:w.grownBy w1 (some rb)) (hs:St rb tv ts en n1 w1) (hn:n+1<=n1) (hb:Ov w1 W2)
  (hown:W2.ownsRow B 49 5 v acc.length xs) (hel:∀ i,i < acc.length->∃ cs:List Value,cs.length=5/\(∀ j u,cs[j]? = some u->xs[i*5+j]? = some u)/\Off B v.ownBlock W2 (fun W=>∀ x,acc[i]? = some x->XE W 61 cs x)) (hrow:∀ k,v.ownBlock=some k->k < w.heap.size)
  (hl:cs.length=5) (hoff:Off w.heap.size none w1 (fun W=>XE W 61 cs a)) (hW:∀ k,k < W2.heap.size->some k≠v.ownBlock->k≠sb->W.heap[k]? = W2.heap[k]?) (hWs:W2.heap.size<=W.heap.size) (ho1:W.os=W2.os) (ho2:W.tape=W2.tape) (ho3:W.output=W2.output)
  (hbx:Bx sb [c0,c1,c2,c3,c4,c5,c6,c7,c8,v2,cT,cE] W) (hown3:W.ownsRow B 49 5 v2 (acc.length+1) (xs++cs)) (hat:v2.ownBlock=v.ownBlock\/v2.ownBlock=some W2.heap.size) :
  DJ w0 wz rb tv ts en sb b1 b2 B c0 c1 c2 c3 c4 c5 c6 c7 c8 cT cE (acc++[a]) n1 W:=by
 have m:=h.move (Nat.le_of_lt hn) hg hs;have hr:=h.rd.rlt;have Z:=h.s0;have Y:=h.p0;have X:=h.q0;have V:=h.s1;have U:=h.p1;have T:=h.q1;have H:∀ k,k < B->some k≠v.ownBlock:=fun k C e=>by have:=(AF hown e.symm).1;omega
 have R:B<=W2.heap.size:=Nat.le_trans m.sz hb.size;have c:∀ k,k < B->k≠sb->W.heap[k]? = w1.heap[k]?:=fun k C J=>by
  rw [hW k (by omega) (H k C) J,hb.block k (Nat.lt_of_lt_of_le C m.sz)]
 have f:=m.rd.gr;have E:w0.grownBy W (some rb):=⟨(ho1.trans hb.os).trans f.os,(ho2.trans hb.tape).trans f.tape,(ho3.trans hb.output).trans f.output,Nat.le_trans (Nat.le_trans f.size hb.size) hWs,fun k C l=>(c k (by omega) (by omega)).trans (f.block k C l)⟩;obtain ⟨P,y⟩:=m.rd.st0;have G:St rb tv ts en n1 W:=y.keep E (by rw [c rb (by omega) (by omega)];exact hs.1) hs.2.1;have F:∀ {b:Nat} {ds:List Value},Bx b ds w1->b < B->b≠sb->Bx b ds W:=fun {b ds} g A l=>⟨fun j u r=>(World.cell?_of_block (a:=⟨b,j,none⟩) (c b A l)).trans (g.row j u r),fun j=>(World.frozen?_of_block (a:=⟨b,j,none⟩) (c b A l)).trans (g.fz j),by omega⟩;refine ⟨⟨⟨P,y⟩,G,E⟩,h.s0,h.s1,h.p0,h.p1,h.q0,h.q1,h.n1,h.n2,by omega,F m.r1 U (fun e=>h.n1 e.symm),F m.r2 T (fun e=>h.n2 e.symm),?_,fun k M S L=>?_,v2,hbx,?_⟩
 ·have:=h.few
  simp;omega
 ·rw [c k M L];exact m.fr k M S L
 ·refine ⟨xs++cs,by rw [List.length_append];exact hown3,fun i Q=>?_⟩
  by_cases hia:i < acc.length
  ·obtain ⟨ds,q1,O,N⟩:=hel i hia
   refine ⟨ds,q1,fun j u r=>?_,Off.row2 (N.imp fun W hW x g=>hW x (by rw [List.getElem?_append_left hia] at g;exact g)) (fun k k1 k2 k3=>hW k k2 k3 (by omega)) hWs hat⟩;have:=O j u r;rw [List.getElem?_append_left (List.getElem?_eq_some_iff.1 this).1];exact this
  ·have K:i=acc.length:=by simp at Q;omega
   subst K;have I:Off B v.ownBlock W2 (fun W=>∀ x,(acc++[a])[acc.length]? = some x->XE W 61 cs x):=((hoff.over hb).weak h.sz hrow).imp fun W hW x g=>by
    rw [List.getElem?_append_right (Nat.le_refl _),Nat.sub_self] at g;injection g with g;rw [<-g];exact hW
   refine ⟨cs,hl,fun j u r=>?_,Off.row2 I (fun k k1 k2 k3=>hW k k2 k3 (by omega)) hWs hat⟩;rw [List.getElem?_append_right (by rw [hown.1];omega),hown.1,Nat.add_sub_cancel_left];exact r
theorem Dn {xs zs:List Value} {m j:Nat} {u:Value} (hm:xs.length=m):(xs++zs).set (m+j) u=xs++zs.set j u:=by
 rw [List.set_append,if_neg (by omega),hm,Nat.add_sub_cancel_left]
theorem JU {W:World} {k g vn vc:Nat} {z0 z1 z2 z3 z4 u0 u1 u2 u3 u4:Value} (h:W.ownsRow B 49 5 (U (some ⟨g,0,none⟩) vn vc) (k+1) (xs++[z0,z1,z2,z3,z4])) (hx:xs.length=k*5) :
  (((((W.setCell ⟨g,k*5,none⟩ u0).setCell ⟨g,k*5+1,none⟩ u1).setCell ⟨g,k*5+2,none⟩ u2).setCell ⟨g,k*5+3,none⟩ u3).setCell ⟨g,k*5+4,none⟩ u4).ownsRow B 49 5 (U (some ⟨g,0,none⟩) vn vc) (k+1) (xs++[u0,u1,u2,u3,u4]):=by
 have a:=BM h;subst a;have l:=DU (i:=k*5+0) (u:=u0) h (by omega);rw [Dn hx] at l;have j:=DU (i:=k*5+1) (u:=u1) l (by omega);rw [Dn hx] at j;have f:=DU (i:=k*5+2) (u:=u2) j (by omega);rw [Dn hx] at f;have c:=DU (i:=k*5+3) (u:=u3) f (by omega);rw [Dn hx] at c;have b:=DU (i:=k*5+4) (u:=u4) c (by omega);rw [Dn hx] at b;exact b
theorem Ba (V:World) (p:Addr) (u:Value):(V.setCell p u).os=V.os/\(V.setCell p u).tape=V.tape/\(V.setCell p u).output=V.output/\(V.setCell p u).heap.size=V.heap.size:=⟨rfl,rfl,rfl,by simp [World.setCell]⟩
theorem DJ.inplace {W3:World} {k g vn vc:Nat} {z0 z1 z2 z3 z4 u0 u1 u2 u3 u4:Value} (h:DJ w0 wz rb tv ts en sb b1 b2 B c0 c1 c2 c3 c4 c5 c6 c7 c8 cT cE acc n w) (hg:w.grownBy w1 (some rb)) (hs:St rb tv ts en n1 w1) (hn:n+1<=n1) (hb:Ov w1 W2)
  (hown:W2.ownsRow B 49 5 v acc.length xs) (hel:∀ i,i < acc.length->∃ cs:List Value,cs.length=5/\(∀ j u,cs[j]? = some u->xs[i*5+j]? = some u)/\Off B v.ownBlock W2 (fun W=>∀ x,acc[i]? = some x->XE W 61 cs x)) (hrow:∀ k,v.ownBlock=some k->k < w.heap.size)
  (hoff:Off w.heap.size none w1 (fun W=>XE W 61 [u0,u1,u2,u3,u4] a)) (hgr:W2.grownBy W3 v.ownBlock) (hbx:Bx sb [c0,c1,c2,c3,c4,c5,c6,c7,c8,v,cT,cE] W3)
  (hown3:W3.ownsRow B 49 5 (U (some ⟨g,0,none⟩) vn vc) (acc.length+1) (xs++[z0,z1,z2,z3,z4])) (hat:(Value.slice (some ⟨g,0,none⟩) vn vc).ownBlock=v.ownBlock\/(Value.slice (some ⟨g,0,none⟩) vn vc).ownBlock=some W2.heap.size) (hk:k=acc.length) (hgb:B<=g) :
  DJ w0 wz rb tv ts en sb b1 b2 B c0 c1 c2 c3 c4 c5 c6 c7 c8 cT cE (acc++[a]) n1 ((((((W3.setCell ⟨sb,9,none⟩ (U (some ⟨g,0,none⟩) vn vc)).setCell ⟨g,k*5,none⟩ u0).setCell ⟨g,k*5+1,none⟩ u1).setCell ⟨g,k*5+2,none⟩ u2).setCell ⟨g,k*5+3,none⟩ u3).setCell ⟨g,k*5+4,none⟩ u4):=by
 subst hk;have f:=h.s1;have c:sb≠g:=by omega
 have l:∀ k',k' < W2.heap.size->some k'≠v.ownBlock->k'≠g:=fun k' C A e=>by
  subst e;rcases hat with e | e
  ·exact A e
  ·have r:some k'=some W2.heap.size:=e
   injection r with r;omega
 refine h.fin (v:=v) (cs:=[u0,u1,u2,u3,u4]) hg hs hn hb hown hel hrow rfl hoff (fun k' q1 m y=>?_) (by rw [(Ba _ _ _).2.2.2,(Ba _ _ _).2.2.2,(Ba _ _ _).2.2.2,(Ba _ _ _).2.2.2,(Ba _ _ _).2.2.2,(Ba _ _ _).2.2.2];exact hgr.size) (by rw [(Ba _ _ _).1,(Ba _ _ _).1,(Ba _ _ _).1,(Ba _ _ _).1,(Ba _ _ _).1,(Ba _ _ _).1];exact hgr.os) (by rw [(Ba _ _ _).2.1,(Ba _ _ _).2.1,(Ba _ _ _).2.1,(Ba _ _ _).2.1,(Ba _ _ _).2.1,(Ba _ _ _).2.1];exact hgr.tape) (by rw [(Ba _ _ _).2.2.1,(Ba _ _ _).2.2.1,(Ba _ _ _).2.2.1,(Ba _ _ _).2.2.1,(Ba _ _ _).2.2.1,(Ba _ _ _).2.2.1];exact hgr.output) ?_ ?_ hat
 ·have b:=l k' q1 m
  rw [Below.heap_setCell _ _ _ _ b,Below.heap_setCell _ _ _ _ b,Below.heap_setCell _ _ _ _ b,Below.heap_setCell _ _ _ _ b,Below.heap_setCell _ _ _ _ b,Below.heap_setCell _ _ _ _ y];exact hgr.block k' q1 m
 ·exact (((((hbx.set (j:=9) (by simp)).far c).far c).far c).far c).far c
 ·exact JU (ownsRow_setCell_below hown3 f _) hown.1
end
end Go.Proofs.YtipngnjffjajpaaGreatDoor.Tx
