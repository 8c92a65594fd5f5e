/- The loop of JudgeKnown that forgets what is known: the row of variables. -/
import Derived.Test.YtfffpjkcfnekaaaGreatF37
set_option linter.unusedVariables false
set_option maxHeartbeats 8000000
set_option maxRecDepth 100000
namespace Go.Proofs.YtfffpjkcfnekaaaGreat.Ex
open Go.RowKit
open Go.Value renaming slice -> O, int -> U, bool -> zg, agg -> zh, pointer -> zj, tuple -> zm
open Go.IntKind renaming i64 -> zd
open Go.Obj renaming cells -> ze
open Go.Ending renaming returned -> zk
structure VI (g n j:Nat) (w wr:World):Prop where
 c:∀ k,k < n*3->∃ u,wr.cell? ⟨g,k,none⟩=some u
 z:∀ k,k < j->wr.cell? ⟨g,k*3,none⟩=some (zg false)/\wr.cell? ⟨g,k*3+1,none⟩=some (O none 0 0)/\wr.cell? ⟨g,k*3+2,none⟩=some (O none 0 0)
 f:∀ k,wr.frozen? ⟨g,k,none⟩=false
 o:∀ k,k≠g->wr.heap[k]? = w.heap[k]?
 s:wr.heap.size=w.heap.size
 os:wr.os=w.os
 t:wr.tape=w.tape
 p:wr.output=w.output
def Fw (w:World) (g i:Nat) (x y v:Value):World:=((w.setCell ⟨g,i,none⟩ x).setCell ⟨g,i+1,none⟩ y).setCell ⟨g,i+2,none⟩ v
theorem Dz {w:World} {g i k:Nat} {x y v:Value} (h:k < i\/i+2 < k):(Fw w g i x y v).cell? ⟨g,k,none⟩=w.cell? ⟨g,k,none⟩:=by
 unfold Fw
 rw [World.cell?_setCell_other _ _ _ _ (by intro e;injection e with _ e;omega),World.cell?_setCell_other _ _ _ _ (by intro e;injection e with _ e;omega),World.cell?_setCell_other _ _ _ _ (by intro e;injection e with _ e;omega)]
theorem Ko {w:World} {g i:Nat} {x y v:Value} (h:∀ k,i<=k->k<=i+2->∃ u,w.cell? ⟨g,k,none⟩=some u):(Fw w g i x y v).cell? ⟨g,i,none⟩=some x/\(Fw w g i x y v).cell? ⟨g,i+1,none⟩=some y/\(Fw w g i x y v).cell? ⟨g,i+2,none⟩=some v:=by
 obtain ⟨u0,h0⟩:=h i (by omega) (by omega)
 obtain ⟨u1,h1⟩:=h (i+1) (by omega) (by omega)
 obtain ⟨u2,h2⟩:=h (i+2) (by omega) (by omega)
 unfold Fw
 refine ⟨?_,?_,?_⟩
 ·rw [World.cell?_setCell_other _ _ _ _ (by intro e;injection e with _ e;omega),World.cell?_setCell_other _ _ _ _ (by intro e;injection e with _ e;omega)]
  exact World.cell?_setCell_same _ _ _ h0
 ·rw [World.cell?_setCell_other _ _ _ _ (by intro e;injection e with _ e;omega)]
  exact World.cell?_setCell_same _ _ _ (u:=u1) (by rw [World.cell?_setCell_other _ _ _ _ (by intro e;injection e with _ e;omega)];exact h1)
 ·exact World.cell?_setCell_same _ _ _ (u:=u2) (by rw [World.cell?_setCell_other _ _ _ _ (by intro e;injection e with _ e;omega),World.cell?_setCell_other _ _ _ _ (by intro e;injection e with _ e;omega)];exact h2)
theorem VI.step {g n j:Nat} {w wr:World} (h:VI g n j w wr) (hj:j < n):VI g n (j+1) w (Fw wr g (j*3) (zg false) (O none 0 0) (O none 0 0)):=by
 have h3:=Ko (w:=wr) (g:=g) (i:=j*3) (x:=zg false) (y:=O none 0 0) (v:=O none 0 0) (fun k h1 h2=>h.c k (by omega))
 refine ⟨fun k hk=>?_,fun k hk=>?_,fun k=>?_,fun k hk=>?_,?_,h.os,h.t,h.p⟩
 ·by_cases hc:k < j*3\/j*3+2 < k
  ·rw [Dz hc]
   exact h.c k hk
  ·obtain rfl | rfl | rfl:k=j*3\/k=j*3+1\/k=j*3+2:=by omega
   ·exact ⟨_,h3.1⟩
   ·exact ⟨_,h3.2.1⟩
   ·exact ⟨_,h3.2.2⟩
 ·by_cases hc:k=j
  ·subst hc
   exact h3
  ·obtain ⟨a,b,c⟩:=h.z k (by omega)
   exact ⟨by rw [Dz (by omega)];exact a,by rw [Dz (by omega)];exact b,by rw [Dz (by omega)];exact c⟩
 ·unfold Fw
  simp only [World.frozen?_setCell]
  exact h.f k
 ·unfold Fw
  rw [Bl (Ne.symm hk),Bl (Ne.symm hk),Bl (Ne.symm hk)]
  exact h.o k hk
 ·have:(Fw wr g (j*3) (zg false) (O none 0 0) (O none 0 0)).heap.size=wr.heap.size:=by simp [Fw,World.setCell]
  rw [this]
  exact h.s
theorem VI.start {g n B cap:Nat} {w:World} {xs:List Value} (h:w.ownsRow B 41 3 (O (some ⟨g,0,none⟩) n cap) n xs):VI g n 0 w w/\B<=g/\g < w.heap.size:=by
 obtain ⟨hl,⟨h,-⟩ | ⟨g',cap',cur,hv,hb,hh,hn,hm,hs,ht⟩⟩:=h
 ·cases h
 ·injection hv with hv
  injection hv with hv
  injection hv with hv
  subst hv
  have hlt:=(Array.getElem?_eq_some_iff.1 hh).1
  refine ⟨⟨fun k hk=>?_,fun k hk=>absurd hk (Nat.not_lt_zero _),fun k=>?_,fun _ _=>rfl,rfl,rfl,rfl,rfl⟩,hb,hlt⟩
  ·have h1:n*3<=cap' * 3:=by omega
   have:k < cur.size:=by omega
   exact ⟨cur[k],by simp [World.cell?,hh,this]⟩
  ·simp [World.frozen?,hh]
theorem VI.below {g n j:Nat} {w0 w wr:World} (h:VI g n j w wr) (hb:Ov w0 w) (hg:w0.heap.size<=g):Ov w0 wr:=
 ⟨h.os.trans hb.os,h.t.trans hb.tape,h.p.trans hb.output,by rw [h.s];exact hb.size,fun k hk=>(h.o k (by omega)).trans (hb.block k hk)⟩
theorem VI.vars {g n cap:Nat} {w wr:World} (h:VI g n n w wr) (hn:n<=maxLen):Br wr (O (some ⟨g,0,none⟩) n cap) (List.replicate n (false,⟨[],[]⟩)):=by
 refine ⟨by simpa using hn,_,cap,by simp,fun _=>⟨g,0,rfl,fun i hi=>?_⟩⟩
 have hi':i < n:=by simpa using hi
 obtain ⟨a,b,c⟩:=h.z i hi'
 refine ⟨O none 0 0,O none 0 0,?_,?_,?_,?_,?_⟩
 ·simpa using a
 ·simpa using b
 ·simpa using c
 ·simp only [List.getElem_replicate]
  exact ⟨none,0,rfl,fun h=>absurd rfl h⟩
 ·simp only [List.getElem_replicate]
  exact ⟨none,0,rfl,fun h=>absurd rfl h⟩
theorem Kf {K kf:Nat} {m:Int} {vn yn on sn:Nat} {gs:List (Int × Int)} {sp:List Int} {ls ms:List Lab} {vs:List (Bool × Lab)} {fs:List FnD} {l:List D} (k:Nat) (h:Ey.xP K kf m vn yn on sn gs sp ls ms vs fs l):Ey.xP K kf m vn yn on sn gs sp ls ms (List.replicate k (false,⟨[],[]⟩)) fs l:=by
 obtain ⟨n,hn,h1,h6,-⟩:=D5 h.chk
 refine ⟨h.chk,h.lim,h.speak,⟨h.labs.1,fun v hv=>?_,fun v hv _=>?_⟩,h.many,h.body,h.main⟩
 ·rw [(List.mem_replicate.1 hv).2]
  unfold Bo
  rw [if_pos h.chk]
  rfl
 ·rw [(List.mem_replicate.1 hv).2]
  exact ⟨rfl,rfl⟩
end Go.Proofs.YtfffpjkcfnekaaaGreat.Ex
