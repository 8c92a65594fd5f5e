/- The one who runs, in memory. -/
import Derived.Test.YtfffpjkcfnekaaaGreatH16
import Derived.Maps.AppendAt
set_option linter.unusedVariables false
set_option maxHeartbeats 8000000
set_option maxRecDepth 100000
namespace Go.Proofs.YtfffpjkcfnekaaaGreat.Ex
open Go.RowKit
open Go.Value renaming slice -> O, int -> zd, bool -> ze, agg -> zg, pointer -> zi, tuple -> zj
open Go.IntKind renaming i64 -> U
open Go.Obj renaming cells -> zf
open Go.Ending renaming returned -> zh
abbrev Ba (l:List Int):List Value:=l.map fun x=>Value.int U x
def Bp:List Ev4->List Value
 | []=>[]
 | e::r=>zd U e.1::zd U e.2.1::zd U e.2.2.1::zd U e.2.2.2::Bp r
theorem Dg:∀ (l m:List Ev4),Bp (l++m)=Bp l++Bp m
 | [],m=>rfl
 | e::r,m=>by simp [Bp,Dg r m]
structure Ow where
 ev:Value
 X:Nat->Prop
def Ow.at (E:Ow) (k:Nat):Prop:=E.ev.ownBlock=some k\/E.X k
def Yb (br b1 b2:Nat) (ev:Value) (k:Nat):Prop:=k=br\/k=b1\/k=b2\/ev.ownBlock=some k
structure BE where
 fn:FuncId
 fre:List Value
 cap:List Value
 ent:∀ (args:Array Value) (w:World),(callFunc fn args).run Tryz.prog w=.ok (.enter fn args) w
 ob:Ob
 In:(Nat->Prop)->WSt->(Nat->Prop)->World->Prop
 ok:Nat->WSt->Prop
 lt:∀ {Y s X w},In Y s X w->∀ k,X k->k < w.heap.size/\¬ Y k
 kept:∀ {Y Y' s X w w'},In Y s X w->w'.os=w.os->w'.tape=w.tape->w'.output=w.output->w.heap.size<=w'.heap.size->(∀ k,k < w.heap.size->¬ Y k->w'.heap[k]? = w.heap[k]?)->(∀ k,Y' k->Y k\/w.heap.size<=k)->(∀ k,Y' k->k < w'.heap.size)->In Y' s X w'
 less:∀ {dp s},ok (dp+1) s->ok dp s
structure RnG (I:BE) (B:Nat) (R:List Value) (br b1 b2 b3:Nat) (fl:List Int) (dp:Nat) (st:RSt) (ev:Ow) (w:World):Prop where
 row:Ad (ev.ev::O (some ⟨b1,0,none⟩) st.vars.length st.vars.length::O (some ⟨b2,0,none⟩) st.taken.length st.taken.length::zd U (st.steps:Int)::zd U st.en::zd U st.sp::(R++[zd U (dp:Int),.func (.func I.fn) I.fre.toArray I.cap.toArray])) w br
 vars:Ad (Ba st.vars) w b1
 taken:Ad (Ba st.taken) w b2
 first:Ad (Ba fl) w b3
 own:w.ownsRow B 136 4 ev.ev st.ev.length (Bp st.ev)
 z0:∀ j,w.frozen? ⟨br,j,none⟩=false
 z1:∀ j,w.frozen? ⟨b1,j,none⟩=false
 z2:∀ j,w.frozen? ⟨b2,j,none⟩=false
 apart:br≠b1/\br≠b2/\b1≠b2/\b3≠br/\b3≠b1/\b3≠b2
 evA:¬ ev.at br/\¬ ev.at b1/\¬ ev.at b2/\¬ ev.at b3
 lo:B<=br/\B<=b1/\B<=b2
 hi:br < w.heap.size/\b1 < w.heap.size/\b2 < w.heap.size/\b3 < w.heap.size/\B<=w.heap.size
 ob:I.In (Yb br b1 b2 ev.ev) st.o ev.X w
 xlo:∀ k,ev.X k->B<=k
 okd:I.ok dp st.o
theorem RnG.ev' {I:BE} {B:Nat} {R:List Value} {br b1 b2 b3:Nat} {fl:List Int} {dp:Nat} {st:RSt} {ev:Ow} {w:World} (h:RnG I B R br b1 b2 b3 fl dp st ev w):∀ k,ev.at k->B<=k/\k < w.heap.size:=fun k hk=>by
 rcases hk with hk | hk
 ·exact h.own.lt k hk
 ·exact ⟨h.xlo k hk,(I.lt h.ob k hk).1⟩
theorem Hv {br b1 b2:Nat} {ev:Value} {B e s n:Nat} {xs:List Value} {w:World} (h:w.ownsRow B e s ev n xs) (h0:br < w.heap.size) (h1:b1 < w.heap.size) (h2:b2 < w.heap.size):∀ k,Yb br b1 b2 ev k->k < w.heap.size:=fun k hk=>by
 rcases hk with hk | hk | hk | hk
 ·omega
 ·omega
 ·omega
 ·exact (h.lt k hk).2
theorem RnG.over {I:BE} {B:Nat} {R:List Value} {br b1 b2 b3:Nat} {fl:List Int} {dp:Nat} {st:RSt} {ev:Ow} {w w':World} (h:RnG I B R br b1 b2 b3 fl dp st ev w) (hb:Ov w w'):RnG I B R br b1 b2 b3 fl dp st ev w':=by
 obtain ⟨hc,hf⟩:=AI hb
 have hs:=hb.size
 refine ⟨h.row.over hb,h.vars.over hb,h.taken.over hb,h.first.over hb,?_,fun j=>(hf _ _ h.hi.1).trans (h.z0 j),fun j=>(hf _ _ h.hi.2.1).trans (h.z1 j),fun j=>(hf _ _ h.hi.2.2.1).trans (h.z2 j),h.apart,h.evA,h.lo,⟨by have:=h.hi;omega,by have:=h.hi;omega,by have:=h.hi;omega,by have:=h.hi;omega,by have:=h.hi;omega⟩,I.kept h.ob hb.os hb.tape hb.output hb.size (fun k hk _=>hb.block k hk) (fun k hk=>Or.inl hk) (fun k hk=>Nat.lt_of_lt_of_le (Hv h.own h.hi.1 h.hi.2.1 h.hi.2.2.1 k hk) hb.size),h.xlo,h.okd⟩
 have hg:w.grownBy w' none:=⟨hb.os,hb.tape,hb.output,hb.size,fun k hk _=>hb.block k hk⟩
 exact h.own.kept hg (by cases hv:ev.ev.ownBlock <;> simp)
structure Fr (br b1 b2:Nat) (ev ev':Ow) (w w':World):Prop where
 os:w'.os=w.os
 tape:w'.tape=w.tape
 output:w'.output=w.output
 size:w.heap.size<=w'.heap.size
 block:∀ k,k < w.heap.size->k≠br->k≠b1->k≠b2->¬ ev.at k->w'.heap[k]? = w.heap[k]?
 evB:∀ k,ev'.at k->ev.at k\/w.heap.size<=k
theorem Fr.of_below {br b1 b2:Nat} {ev:Ow} {w w':World} (h:Ov w w'):Fr br b1 b2 ev ev w w':=⟨h.os,h.tape,h.output,h.size,fun k hk _ _ _ _=>h.block k hk,fun k hk=>Or.inl hk⟩
theorem Fr.refl (br b1 b2:Nat) (ev:Ow) (w:World):Fr br b1 b2 ev ev w w:=Fr.of_below (Below.refl _ _)
theorem Fr.trans {br b1 b2:Nat} {ev ev1 ev2:Ow} {w w1 w2:World} (h:Fr br b1 b2 ev ev1 w w1) (k:Fr br b1 b2 ev1 ev2 w1 w2):Fr br b1 b2 ev ev2 w w2:=by
 refine ⟨k.os.trans h.os,k.tape.trans h.tape,k.output.trans h.output,Nat.le_trans h.size k.size,fun i hi h0 h1 h2 h3=>?_,fun i hi=>?_⟩
 ·refine (k.block i (Nat.lt_of_lt_of_le hi h.size) h0 h1 h2 (fun hx=>?_)).trans (h.block i hi h0 h1 h2 h3)
  rcases h.evB i hx with he | he
  ·exact h3 he
  ·omega
 ·rcases k.evB i hi with he | he
  ·exact h.evB i he
  ·exact Or.inr (Nat.le_trans h.size he)
theorem Fr.over {br b1 b2:Nat} {ev ev1:Ow} {w w1 w2:World} (h:Fr br b1 b2 ev ev1 w w1) (k:Ov w1 w2):Fr br b1 b2 ev ev1 w w2:=h.trans (Fr.of_below k)
theorem Fr.cell {br b1 b2:Nat} {ev ev':Ow} {w w':World} (h:Fr br b1 b2 ev ev' w w') {b j:Nat} {u:Value} (hc:w.cell? ⟨b,j,none⟩=some u) (h0:b≠br) (h1:b≠b1) (h2:b≠b2) (h3:¬ ev.at b):w'.cell? ⟨b,j,none⟩=some u:=
 (World.cell?_of_block (h.block b (bL hc) h0 h1 h2 h3)).trans hc
theorem Bw {w:World} {r j:Nat} {u:Value}:w.grownBy (w.setCell ⟨r,j,none⟩ u) (some r):=Cr (n:=0)
theorem A7 {w:World} {a b j k:Nat} {u:Value}:(w.setCell ⟨a,j,none⟩ u).frozen? ⟨b,k,none⟩=w.frozen? ⟨b,k,none⟩:=by simp [go_sem]
section
variable {I:BE} {B:Nat} {R:List Value} {br b1 b2 b3:Nat} {fl:List Int} {dp:Nat} {st:RSt} {ev:Ow} {w:World}
theorem RnG.below {ev':Ow} {w':World} (h:RnG I B R br b1 b2 b3 fl dp st ev w) (f:Fr br b1 b2 ev ev' w w'):Below B w w':=
 ⟨f.os,f.tape,f.output,f.size,fun k hk=>f.block k (by have:=h.hi;omega) (by have:=h.lo;omega) (by have:=h.lo;omega) (by have:=h.lo;omega) (fun hx=>by have:=(h.ev' k hx).1;omega)⟩
theorem RnG.box {ev':Ow} {w1 w2:World} {b j:Nat} {u:Value} (h:RnG I B R br b1 b2 b3 fl dp st ev w) (f:Fr br b1 b2 ev ev' w1 w2) (hb:w.heap.size<=b) (hc:w1.cell? ⟨b,j,none⟩=some u):w2.cell? ⟨b,j,none⟩=some u:=by
 have:=h.hi
 exact f.cell hc (by omega) (by omega) (by omega) (fun hx=>by have:=(h.ev' b hx).2;omega)
theorem RnG.ints (h:RnG I B R br b1 b2 b3 fl dp st ev w):Aq w (O (some ⟨b1,0,none⟩) st.vars.length st.vars.length) st.vars:=by
 refine ⟨_,_,rfl,fun _=>⟨b1,0,rfl,fun i hi=>?_⟩⟩
 rw [Nat.zero_add]
 exact h.vars i _ (by simp [hi])
theorem RnG.obSet (h:RnG I B R br b1 b2 b3 fl dp st ev w) (r j:Nat) (u:Value) (hr:r=br\/r=b1\/r=b2):I.In (Yb br b1 b2 ev.ev) st.o ev.X (w.setCell ⟨r,j,none⟩ u):=
 have g:=Bw (w:=w) (r:=r) (j:=j) (u:=u)
 I.kept h.ob g.os g.tape g.output g.size (fun k hk hy=>g.block k hk (fun e=>hy (by
  have e:=Option.some.inj e
  rcases hr with hr | hr | hr
  ·exact Or.inl (by omega)
  ·exact Or.inr (Or.inl (by omega))
  ·exact Or.inr (Or.inr (Or.inl (by omega)))))) (fun k hk=>Or.inl hk) (fun k hk=>Nat.lt_of_lt_of_le (Hv h.own h.hi.1 h.hi.2.1 h.hi.2.2.1 k hk) g.size)
theorem RnG.set0 (h:RnG I B R br b1 b2 b3 fl dp st ev w) (j:Nat) (u:Value) {dp':Nat} {st':RSt} (hv:st'.vars=st.vars) (ht:st'.taken=st.taken) (he:st'.ev=st.ev) (ho:st'.o=st.o) (hd:I.ok dp' st.o) (hj:j < 8+R.length)
  (hr:(ev.ev::O (some ⟨b1,0,none⟩) st.vars.length st.vars.length::O (some ⟨b2,0,none⟩) st.taken.length st.taken.length::zd U (st.steps:Int)::zd U st.en::zd U st.sp::(R++[zd U (dp:Int),.func (.func I.fn) I.fre.toArray I.cap.toArray])).set j u=ev.ev::O (some ⟨b1,0,none⟩) st.vars.length st.vars.length::O (some ⟨b2,0,none⟩) st.taken.length st.taken.length::zd U (st'.steps:Int)::zd U st'.en::zd U st'.sp::(R++[zd U (dp':Int),.func (.func I.fn) I.fre.toArray I.cap.toArray])) :
  RnG I B R br b1 b2 b3 fl dp' st' ev (w.setCell ⟨br,j,none⟩ u):=by
 obtain ⟨a1,a2,a3,a4,a5,a6⟩:=h.apart
 refine ⟨?_,?_,?_,h.first.other a4,?_,fun k=>A7.trans (h.z0 k),fun k=>A7.trans (h.z1 k),fun k=>A7.trans (h.z2 k),h.apart,h.evA,h.lo,by simpa [World.setCell] using h.hi,?_,h.xlo,?_⟩
 ·rw [hv,ht,<-hr]
  exact h.row.set (by simp;omega)
 ·rw [hv];exact h.vars.other (Ne.symm a1)
 ·rw [ht];exact h.taken.other (Ne.symm a2)
 ·rw [he];exact h.own.kept Bw (Or.inr (fun hx=>h.evA.1 (Or.inl hx)))
 ·rw [ho];exact h.obSet br j u (Or.inl rfl)
 ·rw [ho];exact hd
theorem RnG.setStep (h:RnG I B R br b1 b2 b3 fl dp st ev w):RnG I B R br b1 b2 b3 fl dp st.step ev (w.setCell ⟨br,3,none⟩ (zd U ((st.steps:Int)+1))):=
 h.set0 3 _ rfl rfl rfl rfl h.okd (by omega) (by simp [RSt.step])
theorem RnG.setEnd (h:RnG I B R br b1 b2 b3 fl dp st ev w) (en':Int):RnG I B R br b1 b2 b3 fl dp { st with en:=en' } ev (w.setCell ⟨br,4,none⟩ (zd U en')):=
 h.set0 4 _ rfl rfl rfl rfl h.okd (by omega) (by simp)
theorem RnG.setStop (h:RnG I B R br b1 b2 b3 fl dp st ev w) (a:Int):RnG I B R br b1 b2 b3 fl dp { st with sp:=a } ev (w.setCell ⟨br,5,none⟩ (zd U a)):=
 h.set0 5 _ rfl rfl rfl rfl h.okd (by omega) (by simp)
theorem C6 (h:RnG I B R br b1 b2 b3 fl dp st ev w) (j:Nat) (u:Value):Fr br b1 b2 ev ev w (w.setCell ⟨br,j,none⟩ u):=
 have g:=Bw (w:=w) (r:=br) (j:=j) (u:=u)
 ⟨g.os,g.tape,g.output,g.size,fun k hk h0 _ _ _=>g.block k hk (by simpa using h0),fun k hk=>Or.inl hk⟩
theorem Dt (h:RnG I B R br b1 b2 b3 fl dp st ev w) (j:Nat) (u:Value):Fr br b1 b2 ev ev w (w.setCell ⟨b1,j,none⟩ u):=
 have g:=Bw (w:=w) (r:=b1) (j:=j) (u:=u)
 ⟨g.os,g.tape,g.output,g.size,fun k hk _ h0 _ _=>g.block k hk (by simpa using h0),fun k hk=>Or.inl hk⟩
theorem Lw (h:RnG I B R br b1 b2 b3 fl dp st ev w) (j:Nat) (u:Value):Fr br b1 b2 ev ev w (w.setCell ⟨b2,j,none⟩ u):=
 have g:=Bw (w:=w) (r:=b2) (j:=j) (u:=u)
 ⟨g.os,g.tape,g.output,g.size,fun k hk _ _ h0 _=>g.block k hk (by simpa using h0),fun k hk=>Or.inl hk⟩
theorem RnG.setVar (h:RnG I B R br b1 b2 b3 fl dp st ev w) (v x:Int) (hv:v.toNat < st.vars.length):RnG I B R br b1 b2 b3 fl dp (st.setv v x) ev (w.setCell ⟨b1,v.toNat,none⟩ (zd U x)):=by
 obtain ⟨a1,a2,a3,a4,a5,a6⟩:=h.apart
 refine ⟨?_,?_,h.taken.other (Ne.symm a3),h.first.other a5,h.own.kept Bw (Or.inr (fun hx=>h.evA.2.1 (Or.inl hx))),fun k=>A7.trans (h.z0 k),fun k=>A7.trans (h.z1 k),fun k=>A7.trans (h.z2 k),h.apart,h.evA,h.lo,by simpa [World.setCell] using h.hi,h.obSet b1 _ _ (Or.inr (Or.inl rfl)),h.xlo,h.okd⟩
 ·have:=h.row.other (j:=v.toNat) (v:=zd U x) a1
  simpa [RSt.setv] using this
 ·have:=h.vars.set (j:=v.toNat) (v:=zd U x) (by simpa using hv)
  simpa [RSt.setv,Ba] using this
theorem RnG.setTaken (h:RnG I B R br b1 b2 b3 fl dp st ev w) (c:Nat) (x:Int) (hv:c < st.taken.length):RnG I B R br b1 b2 b3 fl dp { st with taken:=st.taken.set c x } ev (w.setCell ⟨b2,c,none⟩ (zd U x)):=by
 obtain ⟨a1,a2,a3,a4,a5,a6⟩:=h.apart
 refine ⟨?_,h.vars.other a3,?_,h.first.other a6,h.own.kept Bw (Or.inr (fun hx=>h.evA.2.2.1 (Or.inl hx))),fun k=>A7.trans (h.z0 k),fun k=>A7.trans (h.z1 k),fun k=>A7.trans (h.z2 k),h.apart,h.evA,h.lo,by simpa [World.setCell] using h.hi,h.obSet b2 _ _ (Or.inr (Or.inr rfl)),h.xlo,h.okd⟩
 ·have:=h.row.other (j:=c) (v:=zd U x) a2
  simpa using this
 ·have:=h.taken.set (j:=c) (v:=zd U x) (by simpa using hv)
  simpa [Ba] using this
theorem RnG.grown {v':Value} {w':World} (h:RnG I B R br b1 b2 b3 fl dp st ev w) (e:Ev4) (hg:w.grownBy w' ev.ev.ownBlock) (ho:w'.ownsRow B 136 4 v' (st.ev.length+1) (Bp st.ev++Bp [e])) (hat:v'.ownBlock=ev.ev.ownBlock\/v'.ownBlock=some w.heap.size) :
  RnG I B R br b1 b2 b3 fl dp (st.tell e) ⟨v',ev.X⟩ (w'.setCell ⟨br,0,none⟩ v')/\Fr br b1 b2 ev ⟨v',ev.X⟩ w (w'.setCell ⟨br,0,none⟩ v'):=by
 obtain ⟨a1,a2,a3,a4,a5,a6⟩:=h.apart
 have e1:ev.ev.ownBlock≠some br:=fun hx=>h.evA.1 (Or.inl hx)
 have e2:ev.ev.ownBlock≠some b1:=fun hx=>h.evA.2.1 (Or.inl hx)
 have e3:ev.ev.ownBlock≠some b2:=fun hx=>h.evA.2.2.1 (Or.inl hx)
 have e4:ev.ev.ownBlock≠some b3:=fun hx=>h.evA.2.2.2 (Or.inl hx)
 have hi:=h.hi
 have hk:∀ b,b < w.heap.size->ev.ev.ownBlock≠some b->w'.heap[b]? = w.heap[b]?:=fun b hb hne=>hg.block b hb (fun hx=>hne hx.symm)
 have hrow:∀ (cs:List Value) (b:Nat),Ad cs w b->b < w.heap.size->ev.ev.ownBlock≠some b->Ad cs w' b:=fun cs b hr hb hne j u hu=>(World.cell?_of_block (hk b hb hne)).trans (hr j u hu)
 have hne:∀ b,b < w.heap.size->ev.ev.ownBlock≠some b->v'.ownBlock≠some b:=fun b hb hx=>by
  rcases hat with h1 | h1
  ·rw [h1];exact hx
  ·rw [h1];intro hy;injection hy;omega
 have hnx:∀ b,b < w.heap.size->¬ ev.at b->¬ (Ow.mk v' ev.X).at b:=fun b hb hx hy=>by
  rcases hy with hy | hy
  ·exact hne b hb (fun q=>hx (Or.inl q)) hy
  ·exact hx (Or.inr hy)
 have hz:∀ b k,b < w.heap.size->ev.ev.ownBlock≠some b->w'.frozen? ⟨b,k,none⟩=w.frozen? ⟨b,k,none⟩:=fun b k hb hx=>World.frozen?_of_block (hk b hb hx)
 have hs:=hg.size
 have g:=Bw (w:=w') (r:=br) (j:=0) (u:=v')
 constructor
 ·refine ⟨?_,(hrow _ _ h.vars hi.2.1 e2).other (Ne.symm a1),(hrow _ _ h.taken hi.2.2.1 e3).other (Ne.symm a2),(hrow _ _ h.first hi.2.2.2.1 e4).other a4,?_,fun k=>A7.trans ((hz _ _ hi.1 e1).trans (h.z0 k)),fun k=>A7.trans ((hz _ _ hi.2.1 e2).trans (h.z1 k)),fun k=>A7.trans ((hz _ _ hi.2.2.1 e3).trans (h.z2 k)),h.apart,⟨hnx _ hi.1 h.evA.1,hnx _ hi.2.1 h.evA.2.1,hnx _ hi.2.2.1 h.evA.2.2.1,hnx _ hi.2.2.2.1 h.evA.2.2.2⟩,h.lo,by simp [World.setCell];omega,?_,h.xlo,h.okd⟩
  ·have:=(hrow _ _ h.row hi.1 e1).set (j:=0) (v:=v') (by simp)
   simpa [RSt.tell] using this
  ·have hl:(st.tell e).ev.length=st.ev.length+1:=by simp [RSt.tell]
   have hc:Bp (st.tell e).ev=Bp st.ev++Bp [e]:=Dg _ _
   rw [hl,hc]
   exact ho.kept Bw (Or.inr (hne _ hi.1 e1))
  ·refine I.kept h.ob (g.os.trans hg.os) (g.tape.trans hg.tape) (g.output.trans hg.output) (Nat.le_trans hg.size g.size) (fun k hk2 hy=>(g.block k (by omega) (fun q=>hy (Or.inl (Option.some.inj q)))).trans (hk k hk2 (fun q=>hy (Or.inr (Or.inr (Or.inr q)))))) (fun k hy=>?_) (fun k hy=>?_)
   rotate_left
   ·exact Nat.lt_of_lt_of_le (Hv ho (Nat.lt_of_lt_of_le hi.1 hg.size) (Nat.lt_of_lt_of_le hi.2.1 hg.size) (Nat.lt_of_lt_of_le hi.2.2.1 hg.size) k hy) g.size
   rcases hy with hy | hy | hy | hy
   ·exact Or.inl (Or.inl hy)
   ·exact Or.inl (Or.inr (Or.inl hy))
   ·exact Or.inl (Or.inr (Or.inr (Or.inl hy)))
   ·rcases hat with h1 | h1
    ·rw [h1] at hy;exact Or.inl (Or.inr (Or.inr (Or.inr hy)))
    ·rw [h1] at hy;injection hy with hy;exact Or.inr (by omega)
 ·refine ⟨g.os.trans hg.os,g.tape.trans hg.tape,g.output.trans hg.output,Nat.le_trans hg.size g.size,fun k hk2 h0 _ _ h3=>(g.block k (by omega) (by simpa using h0)).trans (hk k hk2 (fun q=>h3 (Or.inl q))),fun k hy=>?_⟩
  rcases hy with hy | hy
  ·rcases hat with h1 | h1
   ·exact Or.inl (Or.inl (h1 ▸ hy))
   ·have hy:v'.ownBlock=some k:=hy
    rw [h1] at hy;injection hy with hy;exact Or.inr (by omega)
  ·exact Or.inl (Or.inr hy)
end
structure A9 (nv ni F:Nat) (st:RSt):Prop where
 vl:st.vars.length=nv
 tl:st.taken.length=ni
 i32:∀ x∈st.vars,I32 x
 tk:∀ x∈st.taken,0<=x/\x<=(st.steps:Int)
 el:st.ev.length<=st.steps
 sb:st.steps<=F
theorem A9.step {nv ni F:Nat} {st:RSt} (h:A9 nv ni F st) (hs:st.steps < F):A9 nv ni F st.step:=
 ⟨h.vl,h.tl,h.i32,fun x hx=>⟨(h.tk x hx).1,by have:=(h.tk x hx).2;simp [RSt.step];omega⟩,Nat.le_succ_of_le h.el,hs⟩
theorem A9.o {nv ni F:Nat} {st:RSt} (h:A9 nv ni F st):A9 nv ni F st.out:=⟨h.vl,h.tl,h.i32,h.tk,h.el,h.sb⟩
theorem A9.pass {nv ni F:Nat} {st:RSt} (h:A9 nv ni F st) (ob:Ob) (kind:Nat) (a:Int) (dp:Nat) (d):A9 nv ni F (Bo ob kind a dp d st).2:=by
 unfold Bo
 split
 ·exact ⟨h.vl,h.tl,h.i32,h.tk,h.el,h.sb⟩
 ·exact ⟨h.vl,h.tl,h.i32,h.tk,h.el,h.sb⟩
theorem FN {l:List Int} {i:Nat} {x y:Int} (h:y∈l.set i x):y=x\/y∈l:=by
 rcases List.mem_or_eq_of_mem_set h with h | h
 ·exact Or.inr h
 ·exact Or.inl h
theorem A9.setv {nv ni F:Nat} {st:RSt} (h:A9 nv ni F st) {v x:Int} (hx:I32 x):A9 nv ni F (st.setv v x):=
 ⟨by simp [RSt.setv,h.vl],h.tl,fun y hy=>by rcases FN hy with rfl | hy;exact hx;exact h.i32 y hy,h.tk,h.el,h.sb⟩
theorem A9.tell {nv ni F:Nat} {st:RSt} (h:A9 nv ni F st) (e:Ev4) (hl:st.ev.length < st.steps):A9 nv ni F (st.tell e):=
 ⟨h.vl,h.tl,h.i32,h.tk,by simp [RSt.tell];omega,h.sb⟩
structure Eh (nv ni F:Nat) (st:RSt):Prop where
 ok:A9 nv ni F st
 el:st.ev.length < st.steps
 tk:∀ x∈st.taken,x+1<=(st.steps:Int)
theorem A9.stepS {nv ni F:Nat} {st:RSt} (h:A9 nv ni F st) (hs:st.steps < F):Eh nv ni F st.step:=
 ⟨h.step hs,Nat.lt_succ_of_le h.el,fun x hx=>by have:=(h.tk x hx).2;show x+1<=((st.steps+1:Nat):Int);omega⟩
theorem Eh.pass {nv ni F:Nat} {st:RSt} (h:Eh nv ni F st) (ob:Ob) (kind:Nat) (a:Int) (dp:Nat) (d):Eh nv ni F (Bo ob kind a dp d st).2:=by
 refine ⟨h.ok.pass ob kind a dp d,?_,?_⟩
 ·unfold Bo
  split
  ·exact h.el
  ·exact h.el
 ·unfold Bo
  split
  ·exact h.tk
  ·exact h.tk
theorem Eh.took {nv ni F:Nat} {st:RSt} (h:Eh nv ni F st) (c:Int):A9 nv ni F (st.took c):=by
 refine ⟨h.ok.vl,by simp [RSt.took,h.ok.tl],h.ok.i32,fun y hy=>?_,h.ok.el,h.ok.sb⟩
 have hst:(st.took c).steps=st.steps:=rfl
 rw [hst]
 rcases FN hy with rfl | hy
 ·have:st.taken.getD c.toNat 0=0\/st.taken.getD c.toNat 0∈st.taken:=by
   rw [List.getD_eq_getElem?_getD]
   cases hc:st.taken[c.toNat]? with
   | none=>exact Or.inl rfl
   | some x=>exact Or.inr (List.mem_of_getElem? hc)
  rcases this with hz | hz
  ·have:=h.el;rw [hz];omega
  ·have:=h.ok.tk _ hz;have:=h.tk _ hz;omega
 ·exact h.ok.tk y hy
theorem Eh.tell {nv ni F:Nat} {st:RSt} (h:Eh nv ni F st) (e:Ev4):A9 nv ni F (st.tell e):=h.ok.tell e h.el
theorem Eh.setv {nv ni F:Nat} {st:RSt} (h:Eh nv ni F st) {v x:Int} (hx:I32 x):Eh nv ni F (st.setv v x):=⟨h.ok.setv hx,h.el,h.tk⟩
theorem L3 {w w0 w1:World} {a0 a1:Addr} {v0 v1:Value} (h:w0.cell? a0=some v0/\w0.cell? a1=some v1/\Ov w w0) (hb:Ov w0 w1) :
  w1.cell? a0=some v0/\w1.cell? a1=some v1/\Ov w w1:=⟨Ab hb _ _ h.1,Ab hb _ _ h.2.1,Ag h.2.2 hb⟩
theorem IB (kd va ot ek en:Int) (xa xl xc aa al ac ta tl tc ea el ec) (n1 n2:Int) (w:World) (h1:0<=n1/\n1<=100) (h2:0<=n2/\n2<=100)
  (KT:Hx (∀ W,Ov w W->Calls Tryz.prog 181 #[O ta tl tc] W fun e w'=>e=zh (zd U n1)/\Ov W w'))
  (KE:Hx (∀ W,Ov w W->Calls Tryz.prog 181 #[O ea el ec] W fun e w'=>e=zh (zd U n2)/\Ov W w')) :
  Calls Tryz.prog 185 #[zg #[zd U kd,zd U va,zd U ot,zd U ek,zd U en,O xa xl xc,O aa al ac,O ta tl tc,O ea el ec]] w fun e w'=>e=zh (zd U (1+n1+n2))/\Ov w w':=by
 have hbel:Ov w (w.alloc (zf #[zd U kd,zd U va,zd U ot,zd U ek,zd U en,O xa xl xc,O aa al ac,O ta tl tc,O ea el ec] 130)):=bA w _
 have zr:=Ay w [zd U kd,zd U va,zd U ot,zd U ek,zd U en,O xa xl xc,O aa al ac,O ta tl tc,O ea el ec] 130
 have q7:=zr 7 _ rfl
 have q8:=zr 8 _ rfl
 clear zr
 obtain ⟨a1,a2⟩:=h1
 obtain ⟨a3,a4⟩:=h2
 go_enter Tryz.func185,Tryz.ntmps185
 go_wp2_with fail
 go_region_held3 (fun W=>W.cell? ⟨w.heap.size,7,none⟩=some (O ta tl tc)/\W.cell? ⟨w.heap.size,8,none⟩=some (O ea el ec)/\Ov w W) (first | assumption | exact ⟨q7,q8,below_drewN hbel 1⟩ | exact L3 (by assumption) hbp | exact L3 (by assumption) hbq | fail) (first | (go_at_call_of 181 (Value.slice ta tl tc);refine (KT.o _ (by assumption:_/\_/\Below _ _ _).2.2).mono ?_;rintro e wp ⟨rfl,hbp⟩) | (go_at_call_of 181 (Value.slice ea el ec);refine (KE.o _ (by assumption:_/\_/\Below _ _ _).2.2).mono ?_;rintro e wq ⟨rfl,hbq⟩))
 obtain ⟨-,-,hB⟩:=(by assumption:_/\_/\Below _ _ _)
 have HW:Hx (IntKind.i64.wrap (IntKind.i64.wrap (1+n1)+n2)=1+n1+n2):=by
  show _=_
  rw [IntWalk.i64_in (1+n1) (by omega),IntWalk.i64_in _ (by omega)]
 clear q7 q8 hbel KT KE
 go_wp2_with fail
 go_ret
 refine ⟨?_,hB⟩
 first | rfl | (rw [<-HW.o];rfl)
def Hs (K k:Nat):Prop:=∀ (v:Value) (l:List D) (w:World),AD w K k v l->Aj k l<=100->Calls Tryz.prog 181 #[v] w fun e w'=>e=zh (zd U (Aj k l:Nat))/\Ov w w'
def Hq (K k:Nat):Prop:=∀ (cs:List Value) (d:D) (w:World),RS w K k cs d->Bi k d<=100->Calls Tryz.prog 185 #[.agg cs.toArray] w fun e w'=>e=zh (zd U (Bi k d:Nat))/\Ov w w'
theorem Fp (K k:Nat) (h:Hs K k):Hq K (k+1):=by
 intro cs d w hr hc
 have hcn:Bi (k+1) d=1+Aj k (Af d)+Aj k (Al d):=rfl
 obtain ⟨ek,en,xa,xl,xc,aa,ac,ta,tc,ea,ec,rfl,-,-,-,-,-,hT,hE,-,-,-⟩:=hr.form
 rw [hcn] at hc ⊢
 have:=IB (Ae d) (Av d) (Ac d) ek en xa xl xc aa (Ah d).length ac ta (Af d).length tc ea (Al d).length ec (Aj k (Af d):Nat) (Aj k (Al d):Nat) w (by omega) (by omega)
  (Aa fun W hW=>h _ _ W (hT.over hW) (by omega)) (Aa fun W hW=>h _ _ W (hE.over hW) (by omega))
 push_cast
 exact this
theorem H9 (K k:Nat) (h:Hq K k):Hs K k:=by
 intro v l w hl hc
 have hlen:l.length<=9223372036854775807:=hl.1
 obtain ⟨ao,cap,rfl,hcc⟩:=hl.2
 have HC:=Aa hcc
 have HS:=Aa h
 have HCN:=Aa hc
 clear hcc hl h hc
 go_enter Tryz.func181,Tryz.ntmps181
 go_wp2_with fail
 go_loopw [3,8] (fun c i wr=>∃ j:Nat,j<=l.length/\i=zd U j/\c=zd U (Aj k (l.take j):Nat)/\Ov w wr) (fun _ i _=>l.length - (intOf i).toNat)
 case atStart=>exact ⟨0,Nat.zero_le _,rfl,by simp [Aj],Below.refl _ w⟩
 case round=>
  obtain ⟨j,hj,rfl,rfl,hB⟩:=hrel
  by_cases hjl:j < l.length
  ·obtain ⟨b,off,rfl,hcl⟩:=HC.o (by rintro rfl;simp at hjl)
   obtain ⟨cs,hl9,hcs,hr⟩:=hcl j l[j] (List.getElem?_eq_getElem hjl)
   have htk:=CW (k:=k) hjl
   have hle:Aj k (l.take (j+1))<=100:=by
    have e1:Aj k l=Aj k (l.take (j+1))+Aj k (l.drop (j+1)):=by
     unfold Aj
     rw [<-List.sum_append,<-List.map_append,List.take_append_drop]
    have:=HCN.o
    omega
   obtain ⟨k',rfl⟩:∃ k',k=k' + 1:=by
    cases k with
    | zero=>exact hr.elim
    | succ k=>exact ⟨k,rfl⟩
   have KZ:=Aa fun W (hW:Ov w W)=>HS.o cs l[j] W (RS.mono (Ab hW) _ _ _ _ (Nat.le_refl _) hr) (by omega)
   obtain ⟨ek,en,xa,xl,xc,aa,ac,ta,tc,ea,ec,hcse,-,-,-,-,-,-,-,-,-,-⟩:=hr.form
   subst hcse
   obtain ⟨kd,hkd⟩:=nm (Ae l[j])
   obtain ⟨va,hva⟩:=nm (Av l[j])
   obtain ⟨ot,hot⟩:=nm (Ac l[j])
   obtain ⟨al,hal⟩:=nm ((Ah l[j]).length)
   obtain ⟨tl,htl⟩:=nm ((Af l[j]).length)
   obtain ⟨el,hel⟩:=nm ((Al l[j]).length)
   rw [<-hkd,<-hva,<-hot,<-hal,<-htl,<-hel] at hcs KZ
   obtain ⟨M,hM⟩:∃ M:Nat,M=Aj (k' + 1) (l.take j):=⟨_,rfl⟩
   obtain ⟨N,hN⟩:∃ N:Nat,N=Bi (k' + 1) l[j]:=⟨_,rfl⟩
   rw [<-hM,<-hN] at htk
   rw [<-hN] at KZ
   rw [<-hM]
   have HTK:=Aa htk
   have hMN:M+N<=100:=by omega
   have q0:wr.cell? ⟨b,off+j*9,none⟩=_:=Ab hB _ _ (hcs 0 _ rfl)
   have q1:=Ab hB _ _ (hcs 1 _ rfl)
   have q2:=Ab hB _ _ (hcs 2 _ rfl)
   have q3:=Ab hB _ _ (hcs 3 _ rfl)
   have q4:=Ab hB _ _ (hcs 4 _ rfl)
   have q5:=Ab hB _ _ (hcs 5 _ rfl)
   have q6:=Ab hB _ _ (hcs 6 _ rfl)
   have q7:=Ab hB _ _ (hcs 7 _ rfl)
   have q8:=Ab hB _ _ (hcs 8 _ rfl)
   have hba:Ov wr (wr.alloc (zf #[zd U kd,zd U va,zd U ot,zd U ek,zd U en,O xa xl xc,O aa al ac,O ta tl tc,O ea el ec] 130)):=bA wr _
   have hBa:=hB.trans (hba.mono hB.size)
   have KZ':=Aa (KZ.o _ hBa)
   clear hcs hcl hr hl9 hkd hva hot hal htl hel hM hN htk hle KZ HS
   go_wp2_with fail
   refine (KZ'.o).mono ?_
   rintro e w1 ⟨rfl,hb1⟩
   have hB1:=hBa.trans (hb1.mono hBa.size)
   clear KZ' hb1 hBa hba q0 q1 q2 q3 q4 q5 q6 q7 q8 hB
   go_wp2_with fail
   refine ⟨⟨j+1,by omega,by go_num,?_,hB1⟩,by simp [intOf];omega⟩
   rw [HTK.o]
   simp
  ·have hd:l.take j=l:=List.take_of_length_le (by omega)
   rw [hd]
   go_wp2_with fail
   go_ret
   exact ⟨rfl,hB⟩
theorem DY (K:Nat):∀ k,Hs K k
 | 0=>H9 K 0 (fun cs d w hr _=>hr.elim)
 | k+1=>H9 K (k+1) (Fp K k (DY K k))
theorem Ju (K:Nat):∀ k,Hq K k
 | 0=>fun cs d w hr _=>hr.elim
 | k+1=>Fp K k (DY K k)
theorem RnG.drewN {B:Nat} {R:List Value} {br b1 b2 b3:Nat} {fl:List Int} {I:BE} {dp:Nat} {st:RSt} {ev:Ow} {w:World} (h:RnG I B R br b1 b2 b3 fl dp st ev w) (n:Nat):RnG I B R br b1 b2 b3 fl dp st ev (w.drewN n):=h.over (below_drewN (Below.refl _ _) n)
theorem Fr.drewN {br b1 b2:Nat} {ev ev1:Ow} {w w1:World} (n:Nat) (h:Fr br b1 b2 ev ev1 (w.drewN n) w1):Fr br b1 b2 ev ev1 w w1:=(Fr.of_below (below_drewN (Below.refl _ w) n)).trans h
theorem F8 (m:Int) (ga gn gc sa sn sc ya yn yc oa on oc va vn vc fa fn fc ba bn bc xa xn xc) (F fln c3:Nat) (B br b1 b2 b3:Nat) (fl) {I:BE} (dp:Nat) (st:RSt) (ev:Ow) (w:World) (h:RnG I B [zd U m,O ga gn gc,O sa sn sc,O ya yn yc,O oa on oc,O va vn vc,O fa fn fc,O ba bn bc,O xa xn xc,zd U (F:Int),O (some ⟨b3,0,none⟩) fln c3] br b1 b2 b3 fl dp st ev w) (hs:st.steps < F) (hF:F<=2000) :
  Calls Tryz.prog 182 #[zi (some ⟨br,0,none⟩)] w fun e w'=>e=zh (ze true)/\RnG I B [zd U m,O ga gn gc,O sa sn sc,O ya yn yc,O oa on oc,O va vn vc,O fa fn fc,O ba bn bc,O xa xn xc,zd U (F:Int),O (some ⟨b3,0,none⟩) fln c3] br b1 b2 b3 fl dp st.step ev w'/\Fr br b1 b2 ev ev w w':=by
 have HR:Hx (∀ n,RnG I B [zd U m,O ga gn gc,O sa sn sc,O ya yn yc,O oa on oc,O va vn vc,O fa fn fc,O ba bn bc,O xa xn xc,zd U (F:Int),O (some ⟨b3,0,none⟩) fln c3] br b1 b2 b3 fl dp st.step ev ((w.drewN n).setCell ⟨br,3,none⟩ (zd U ((st.steps:Int)+1)))/\Fr br b1 b2 ev ev w ((w.drewN n).setCell ⟨br,3,none⟩ (zd U ((st.steps:Int)+1)))):=fun n=>⟨(h.drewN n).setStep,(C6 (h.drewN n) _ _).drewN⟩
 have c3:=h.row 3 _ rfl
 have c15:=h.row 15 _ rfl
 have z3:=h.z0 3
 have hl:=h.hi.1
 obtain ⟨s,hsn⟩:=nm st.steps
 rw [<-hsn] at c3 HR hs
 have hne:((s:Int) == (F:Int))=false:=by simp;omega
 clear h hsn
 go_enter Tryz.func182,Tryz.ntmps182
 go_wp2_with fail
 go_quiet ((fail))
 go_wp2_with fail
 go_ret
 exact ⟨rfl,HR.o nq⟩
theorem Hy (m:Int) (ga gn gc sa sn sc ya yn yc oa on oc va vn vc fa fn fc ba bn bc xa xn xc) (F fln c3:Nat) (B br b1 b2 b3:Nat) (fl) {I:BE} (dp:Nat) (st:RSt) (ev:Ow) (w:World) (h:RnG I B [zd U m,O ga gn gc,O sa sn sc,O ya yn yc,O oa on oc,O va vn vc,O fa fn fc,O ba bn bc,O xa xn xc,zd U (F:Int),O (some ⟨b3,0,none⟩) fln c3] br b1 b2 b3 fl dp st ev w) (hs:st.steps=F) :
  Calls Tryz.prog 182 #[zi (some ⟨br,0,none⟩)] w fun e w'=>e=zh (ze false)/\RnG I B [zd U m,O ga gn gc,O sa sn sc,O ya yn yc,O oa on oc,O va vn vc,O fa fn fc,O ba bn bc,O xa xn xc,zd U (F:Int),O (some ⟨b3,0,none⟩) fln c3] br b1 b2 b3 fl dp st.out ev w'/\Fr br b1 b2 ev ev w w':=by
 have HR:Hx (∀ n,RnG I B [zd U m,O ga gn gc,O sa sn sc,O ya yn yc,O oa on oc,O va vn vc,O fa fn fc,O ba bn bc,O xa xn xc,zd U (F:Int),O (some ⟨b3,0,none⟩) fln c3] br b1 b2 b3 fl dp st.out ev ((w.drewN n).setCell ⟨br,4,none⟩ (zd U 2))/\Fr br b1 b2 ev ev w ((w.drewN n).setCell ⟨br,4,none⟩ (zd U 2))):=fun n=>⟨(h.drewN n).setEnd 2,(C6 (h.drewN n) _ _).drewN⟩
 have c4:=h.row 4 _ rfl
 have z4:=h.z0 4
 have c3:=h.row 3 _ rfl
 have c15:=h.row 15 _ rfl
 have hl:=h.hi.1
 rw [hs] at c3
 clear h hs
 go_enter Tryz.func182,Tryz.ntmps182
 go_wp2_with fail
 go_quiet ((fail))
 go_wp2_with fail
 go_ret
 exact ⟨rfl,HR.o nq⟩
theorem BF (m:Int) (ga gn gc sa sn sc ya yn yc oa on oc va vn vc fa fn fc ba bn bc xa xn xc) (F fln c3:Nat) (B br b1 b2 b3:Nat) (fl) {I:BE} (dp:Nat) (st:RSt) (ev:Ow) (K:Nat) (cs:List Value) (d) (w:World) (h:RnG I B [zd U m,O ga gn gc,O sa sn sc,O ya yn yc,O oa on oc,O va vn vc,O fa fn fc,O ba bn bc,O xa xn xc,zd U (F:Int),O (some ⟨b3,0,none⟩) fln c3] br b1 b2 b3 fl dp st ev w) (hx:RX w K cs d) (ho:okX st.vars.length K d) (hi:∀ x∈st.vars,I32 x) :
  Calls Tryz.prog 222 #[zi (some ⟨br,0,none⟩),.agg cs.toArray] w fun e w'=>e=zh (zd U (Aw st.vars K d))/\Ov w w':=by
 obtain ⟨k0,n0,x0,l0,c0,rfl⟩:∃ k0 n0 x0 l0 c0,cs=[zd U k0,zd U n0,O x0 l0 c0]:=by
  obtain ⟨a,c,hf⟩:=hx.form
  exact ⟨_,_,_,_,_,hf⟩
 have hbel:Ov w (w.alloc (zf #[zd U k0,zd U n0,O x0 l0 c0] 94)):=bA w _
 have KV:=Aa fun W (hB:Ov w W)=>Gi st.vars hi K _ d W _ (hx.over hB) ho (h.ints.over hB)
 have c1:=Ab hbel _ _ (h.row 1 _ rfl)
 obtain ⟨e0,e1,e2⟩:=rc3 (Ay w [zd U k0,zd U n0,O x0 l0 c0] 94)
 obtain ⟨vl,hvl⟩:=nm st.vars.length
 obtain ⟨vx,hvx⟩:=nm (Aw st.vars K d)
 rw [<-hvl] at c1 KV
 rw [<-hvx] at KV ⊢
 clear h hx ho hi hvl hvx
 show Calls Tryz.prog 222 #[zi (some ⟨br,0,none⟩),zg #[zd U k0,zd U n0,O x0 l0 c0]] w _
 go_enter Tryz.func222,Tryz.ntmps222
 go_wp2_with fail
 go_region_held3 (fun W=>W.cell? ⟨w.heap.size,0,none⟩=some (zd U k0)/\W.cell? ⟨w.heap.size,1,none⟩=some (zd U n0)/\W.cell? ⟨w.heap.size,2,none⟩=some (O x0 l0 c0)/\W.cell? ⟨br,1,none⟩=some (O (some ⟨b1,0,none⟩) vl vl)/\Ov w W) (first | assumption | exact ⟨e0,e1,e2,c1,below_drewN hbel 1⟩ | exact EY (by assumption) hbp | fail) (first | (go_at_call 126;refine (KV.o _ (by assumption:_/\_/\_/\_/\Below _ _ _).2.2.2.2).mono ?_;rintro e wp ⟨rfl,hbp⟩))
 have hB:=(by assumption:_/\_/\_/\_/\Below _ _ _).2.2.2.2
 go_wp2_with fail
 go_ret
 exact ⟨rfl,hB⟩
theorem D7 (m:Int) (ga gn gc sa sn sc ya yn yc oa on oc va vn vc fa fn fc ba bn bc xa xn xc) (F fln c3:Nat) (B br b1 b2 b3:Nat) (fl) {I:BE} (dp:Nat) (st:RSt) (ev:Ow) (k a c x:Int) (w:World) (h:RnG I B [zd U m,O ga gn gc,O sa sn sc,O ya yn yc,O oa on oc,O va vn vc,O fa fn fc,O ba bn bc,O xa xn xc,zd U (F:Int),O (some ⟨b3,0,none⟩) fln c3] br b1 b2 b3 fl dp st ev w) (hl:st.ev.length<=2000) :
  Calls Tryz.prog 225 #[zi (some ⟨br,0,none⟩),zd U k,zd U a,zd U c,zd U x] w fun e w'=>e=zh (zj #[])/\∃ ev',RnG I B [zd U m,O ga gn gc,O sa sn sc,O ya yn yc,O oa on oc,O va vn vc,O fa fn fc,O ba bn bc,O xa xn xc,zd U (F:Int),O (some ⟨b3,0,none⟩) fln c3] br b1 b2 b3 fl dp (st.tell (k,a,c,x)) ev' w'/\Fr br b1 b2 ev ev' w w':=by
 obtain ⟨i0,hi,hz0,hz1,hz2⟩:=info_parts Tryz.infoE
 have hbel:Ov w (w.alloc (zf #[zd U k,zd U a,zd U c,zd U x] 136)):=bA w _
 have HR:=Aa (h.over hbel)
 have HF:=Aa (Fr.of_below (br:=br) (b1:=b1) (b2:=b2) (ev:=ev) hbel)
 have hnew:=Ad.newA #[zd U k,zd U a,zd U c,zd U x] 136 w
 have HN:=Aa hnew
 have hown:=(HR.o).own
 have hB:B<=(w.alloc (zf #[zd U k,zd U a,zd U c,zd U x] 136)).heap.size:=HR.o.hi.2.2.2.2
 have c0:=h.row 0 _ rfl
 have c0':=Ab hbel _ _ c0
 have z0:=h.z0 0
 have z0':=HR.o.z0 0
 have hlt:=h.hi.1
 have hlt':=HR.o.hi.1
 clear h hnew
 go_enter Tryz.func225,Tryz.ntmps225
 go_wp2_with (at_builtin;refine wpList_append_own_at _ rfl _ _ 53 rfl B 136 i0 (zg #[zd U 0,zd U 0,zd U 0,zd U 0]) 4 32 Tryz.underlying53 hi hz0 hz1 hz2 rfl (by decide) _ _ _ rfl hown ⟨w.heap.size,0,none⟩ 1 1 [zd U k,zd U a,zd U c,zd U x] rfl rfl (fun jj u hu=>by rw [Addr.add_lit,Nat.zero_add];exact HN.o jj u hu) (by simp [Value.oneCell']) (by unfold maxLen;omega) (by omega) hB ?_)
 intro v2 w2 hown2 hgr2 _ hat
 obtain ⟨va2,vn2,vc2,rfl⟩:∃ a n c,v2=O a n c:=by
  rcases hown2.2 with ⟨h,_⟩ | ⟨g,cap,cur,h,_⟩
  ·exact ⟨_,_,_,h⟩
  ·exact ⟨_,_,_,h⟩
 have HE:=Aa (HR.o.grown (k,a,c,x) hgr2 hown2 (by simpa using hat))
 have z2:w2.frozen? ⟨br,0,none⟩=false:=(World.frozen?_of_block (hgr2.block br hlt' (fun hx=>HR.o.evA.1 (Or.inl hx.symm)))).trans z0'
 have d0:=hgr2.cell c0' (fun hx=>HR.o.evA.1 (Or.inl hx.symm))
 clear c0 c0' z0 z0' hown hown2 hgr2 hat hi hz0 hz1 hz2
 go_wp2_with fail
 go_end0
 exact ⟨rfl,_,HE.o.1,HF.o.trans HE.o.2⟩
theorem IU (m:Int) (ga gn gc sa sn sc ya yn yc oa on oc va vn vc fa fn fc ba bn bc xa xn xc) (F fln c3:Nat) (B br b1 b2 b3:Nat) (fl) {I:BE} (dp:Nat) (st:RSt) (ev:Ow) (ins) (c:Int) (w0 w:World) (hB0:Ov w0 w) (h:RnG I B [zd U m,O ga gn gc,O sa sn sc,O ya yn yc,O oa on oc,O va vn vc,O fa fn fc,O ba bn bc,O xa xn xc,zd U (F:Int),O (some ⟨b3,0,none⟩) fln c3] br b1 b2 b3 fl dp st ev w) (hBB:w0.heap.size<=b2) (hx:Bm w0 (O xa xn xc) ins) (h0:0<=c) (h1:c < ins.length) (h2:ins.length=st.taken.length) (h3:∀ x∈st.taken,0<=x/\x<=2000) (h4:∀ x∈ins,x.length<=100) :
  Calls Tryz.prog 224 #[zi (some ⟨br,0,none⟩),zd U c] w fun e w'=>e=zh (zd U (Cz ins st c))/\RnG I B [zd U m,O ga gn gc,O sa sn sc,O ya yn yc,O oa on oc,O va vn vc,O fa fn fc,O ba bn bc,O xa xn xc,zd U (F:Int),O (some ⟨b3,0,none⟩) fln c3] br b1 b2 b3 fl dp (st.took c) ev w'/\Fr br b1 b2 ev ev w w'/\w.grownBy w' (some b2):=by
 obtain ⟨n,rfl⟩:=Int.eq_ofNat_of_zero_le h0
 have hn:n < ins.length:=by omega
 have hnt:n < st.taken.length:=by omega
 obtain ⟨-,xo,xcap,hxe,hel⟩:=hx
 injection hxe with e1 e2 e3
 obtain ⟨xb,xoff,hbo,hel2⟩:=hel (by intro h;rw [h] at hn;simp at hn)
 have e1':=e1.trans hbo
 subst e1'
 obtain ⟨u,hu,⟨la,lc,rfl,hli⟩,hul⟩:=hel2 n hn
 have hul2:ins[n].length<=100:=h4 _ (List.getElem_mem hn)
 obtain ⟨t,ht⟩:=nm (st.taken[n])
 have htb:=h3 st.taken[n] (List.getElem_mem hnt)
 have hgt:st.taken.getD (n:Int).toNat 0=t:=by rw [ht];simp [hnt]
 have hins:ins.getD (n:Int).toNat []=ins[n]:=by simp [hn]
 have hnx:Cz ins st n=ins[n].getD t.toNat 0:=by unfold Cz;rw [hgt,hins]
 rw [<-ht] at htb
 have c2:=h.row 2 _ rfl
 have c14:=h.row 14 _ rfl
 have t0:CE w b2 n (zd U t):=by rw [ht];exact h.taken n _ (by simp [hnt])
 have z2:=h.z2 n
 have q:=Ab hB0 _ _ hu
 have hxb:xb < w0.heap.size:=bL hu
 have hxb2:xb≠b2:=by omega
 have HR:Hx (∀ k,RnG I B [zd U m,O ga gn gc,O sa sn sc,O ya yn yc,O oa on oc,O va vn vc,O fa fn fc,O ba bn bc,O (some ⟨xb,xoff,none⟩) xn xc,zd U (F:Int),O (some ⟨b3,0,none⟩) fln c3] br b1 b2 b3 fl dp (st.took n) ev ((w.drewN k).setCell ⟨b2,n,none⟩ (zd U (t+1)))/\Fr br b1 b2 ev ev w ((w.drewN k).setCell ⟨b2,n,none⟩ (zd U (t+1)))):=fun k=>by
  have:=(h.drewN k).setTaken n (t+1) hnt
  refine ⟨?_,(Lw (h.drewN k) _ _).drewN⟩
  unfold RSt.took
  rw [hgt]
  simpa using this
 have hl0:=h.hi.1
 have hl2:=h.hi.2.2.1
 have hap:=h.apart.2.1
 have htl:(n:Int) < (st.taken.length:Int):=by omega
 have hxl:(n:Int) < (xn:Int):=by omega
 obtain ⟨tl,htle⟩:=nm st.taken.length
 rw [<-htle] at c2 htl
 obtain ⟨ll,hll⟩:=nm (ins[n].length)
 rw [<-hll] at q hul2
 by_cases hlt:t.toNat < ins[n].length
 ·obtain ⟨lb,loff,hlb,hlc⟩:=hli (by intro hz;rw [hz] at hlt;simp at hlt)
  have r0:=hlc t.toNat hlt
  have hlbb:lb < w0.heap.size:=bL r0
  have r1:=Ab hB0 _ _ r0
  have hlb2:lb≠b2:=by omega
  have hv:ins[n].getD t.toNat 0=ins[n][t.toNat]:=by simp [hlt]
  rw [hnx,hv]
  obtain ⟨y,hy⟩:=nm (ins[n][t.toNat])
  rw [<-hy] at r1 ⊢
  subst hlb
  have hlt2:t < (ll:Int):=by omega
  obtain ⟨ht1,ht2⟩:=htb
  obtain ⟨tn,rfl⟩:=Int.eq_ofNat_of_zero_le ht1
  rw [Int.toNat_natCast] at r1
  clear h hel hel2 hli hlc hu r0 hnx hv hy hgt hins e1 e2 e3 hbo hB0 ht h3 h4 hll htle hul
  go_enter Tryz.func224,Tryz.ntmps224
  go_wp2_with fail
  go_quiet ((fail))
  go_wp2_with fail
  go_ret
  exact ⟨rfl,(HR.o nq).1,(HR.o nq).2,Cr⟩
 ·have hv:ins[n].getD t.toNat 0=0:=by
   rw [List.getD_eq_getElem?_getD,List.getElem?_eq_none (by omega)];rfl
  rw [hnx,hv]
  have hlt2:¬ t < (ll:Int):=by omega
  obtain ⟨ht1,ht2⟩:=htb
  obtain ⟨tn,rfl⟩:=Int.eq_ofNat_of_zero_le ht1
  clear h hel hel2 hli hu hnx hv hgt hins e1 e2 e3 hbo hB0 ht h3 h4 hll htle hul
  go_enter Tryz.func224,Tryz.ntmps224
  go_wp2_with fail
  go_quiet ((fail))
  go_wp2_with fail
  go_ret
  exact ⟨rfl,(HR.o nq).1,(HR.o nq).2,Cr⟩
structure FrX (X:Nat->Prop) (w w':World):Prop where
 os:w'.os=w.os
 tape:w'.tape=w.tape
 output:w'.output=w.output
 size:w.heap.size<=w'.heap.size
 block:∀ k,k < w.heap.size->¬ X k->w'.heap[k]? = w.heap[k]?
theorem FrX.row {X:Nat->Prop} {w w':World} (h:FrX X w w') {cs:List Value} {b:Nat} (hr:Ad cs w b) (hx:¬ X b):Ad cs w' b:=fun j u hu=>
 (World.cell?_of_block (h.block b (bL (hr j u hu)) hx)).trans (hr j u hu)
theorem RnG.may {I:BE} {B:Nat} {R:List Value} {br b1 b2 b3:Nat} {fl:List Int} {dp:Nat} {st:RSt} {ev:Ow} {w w':World} (h:RnG I B R br b1 b2 b3 fl dp st ev w) {o':WSt} {X':Nat->Prop} (hF:FrX ev.X w w') (hX:∀ k,X' k->ev.X k\/w.heap.size<=k) (hI:I.In (Yb br b1 b2 ev.ev) o' X' w') (hok:I.ok dp o') :
  RnG I B R br b1 b2 b3 fl dp (st.held o') ⟨ev.ev,X'⟩ w'/\Fr br b1 b2 ev ⟨ev.ev,X'⟩ w w':=by
 have hi:=h.hi
 have hs:=hF.size
 have x0:¬ ev.X br:=fun q=>h.evA.1 (Or.inr q)
 have x1:¬ ev.X b1:=fun q=>h.evA.2.1 (Or.inr q)
 have x2:¬ ev.X b2:=fun q=>h.evA.2.2.1 (Or.inr q)
 have x3:¬ ev.X b3:=fun q=>h.evA.2.2.2 (Or.inr q)
 have hn:∀ b,b < w.heap.size->¬ ev.at b->¬ (Ow.mk ev.ev X').at b:=fun b hb hx hy=>by
  rcases hy with hy | hy
  ·exact hx (Or.inl hy)
  ·rcases hX b hy with hz | hz
   ·exact hx (Or.inr hz)
   ·omega
 have hz:∀ b j,b < w.heap.size->¬ ev.X b->w'.frozen? ⟨b,j,none⟩=w.frozen? ⟨b,j,none⟩:=fun b j hb hx=>World.frozen?_of_block (hF.block b hb hx)
 constructor
 ·refine ⟨hF.row h.row x0,hF.row h.vars x1,hF.row h.taken x2,hF.row h.first x3,?_,fun j=>(hz _ _ hi.1 x0).trans (h.z0 j),fun j=>(hz _ _ hi.2.1 x1).trans (h.z1 j),fun j=>(hz _ _ hi.2.2.1 x2).trans (h.z2 j),h.apart,⟨hn _ hi.1 h.evA.1,hn _ hi.2.1 h.evA.2.1,hn _ hi.2.2.1 h.evA.2.2.1,hn _ hi.2.2.2.1 h.evA.2.2.2⟩,h.lo,⟨by omega,by omega,by omega,by omega,by omega⟩,hI,fun k hk=>?_,hok⟩
  ·refine ⟨h.own.1,?_⟩
   rcases h.own.2 with hh | ⟨g,cap,cur,hv,hb,hg,rest⟩
   ·exact Or.inl hh
   ·refine Or.inr ⟨g,cap,cur,hv,hb,?_,rest⟩
    rw [hF.block g (Array.getElem?_eq_some_iff.1 hg).1 (fun q=>(I.lt h.ob g q).2 (Or.inr (Or.inr (Or.inr (by rw [hv];rfl)))))]
    exact hg
  ·rcases hX k hk with hz | hz
   ·exact h.xlo k hz
   ·omega
 ·refine ⟨hF.os,hF.tape,hF.output,hF.size,fun k hk _ _ _ hx=>hF.block k hk (fun q=>hx (Or.inr q)),fun k hk=>?_⟩
  rcases hk with hk | hk
  ·exact Or.inl (Or.inl hk)
  ·rcases hX k hk with hz | hz
   ·exact Or.inl (Or.inr hz)
   ·exact Or.inr hz
def Km (I:BE) (w0:World) (K nv ni no:Nat) (fs:List FnD):Prop:=
 ∀ (Y:Nat->Prop) (s:WSt) (X:Nat->Prop) (W:World) (kind:Nat) (a:Int) (dp k:Nat) (cs:List Value) (d:D) (funcs:Int),I.In Y s X W->Ov w0 W->RS w0 K k cs d->funcs<=fs.length->okS K nv ni no funcs fs k d->0<=a->a<=100->dp<=9000->I.ok dp s ->
  (kind=1\/(kind=2/\Ae d=8/\I.ok (dp+1) s)\/(kind=3/\Ae d=2)) ->
  Calls Tryz.prog I.fn (I.fre++.agg (zd U kind::zd U a::zd U dp::cs).toArray::I.cap).toArray W fun e W'=>e=zh (ze (I.ob kind a dp d s).1)/\∃ X',I.In Y (I.ob kind a dp d s).2 X' W'/\(∀ k,X' k->X k\/W.heap.size<=k)/\FrX X W W'/\I.ok dp (I.ob kind a dp d s).2 /\
   ((I.ob kind a dp d s).1=true->(kind=1/\(Ae d=7\/Ae d=8))\/kind=2->I.ok (dp+1) (I.ob kind a dp d s).2)
def It (I:BE) (B:Nat) (R:List Value) (br b1 b2 b3:Nat) (fl:List Int) (dp:Nat) (kind:Nat) (d:D) (r:Bool × RSt) (ev:Ow) (w:World) (e:Ending) (w':World):Prop:=
 e=zh (ze r.1)/\∃ ev',RnG I B R br b1 b2 b3 fl dp r.2 ev' w'/\Fr br b1 b2 ev ev' w w'/\(r.1=true->(kind=1/\(Ae d=7\/Ae d=8))\/kind=2->I.ok (dp+1) r.2.o)
theorem DH (m:Int) (ga gn gc sa sn sc ya yn yc oa on oc va vn vc fa fn fc ba bn bc xa xn xc) (F fln c3:Nat) (B br b1 b2 b3:Nat) (fl) {I:BE} (dp:Nat) (st:RSt) (ev:Ow) (K k:Nat) (fs) (w0:World) (kind:Nat) (a:Int) (kd vr ot ek en:Int) (ea el ec aa al ac ta tl tc la ll lc) (d) (funcs:Int) (w:World) (hM:Km I w0 K vn yn on fs) (hB0:Ov w0 w) (h:RnG I B [zd U m,O ga gn gc,O sa sn sc,O ya yn yc,O oa on oc,O va vn vc,O fa fn fc,O ba bn bc,O xa xn xc,zd U (F:Int),O (some ⟨b3,0,none⟩) fln c3] br b1 b2 b3 fl dp st ev w) (hs:RS w0 K k [zd U kd,zd U vr,zd U ot,zd U ek,zd U en,O ea el ec,O aa al ac,O ta tl tc,O la ll lc] d) (hf:funcs<=fs.length) (ho:okS K vn yn on funcs fs k d) (ha0:0<=a) (ha1:a<=100) (hdp:dp<=9000) (hkind:kind=1\/(kind=2/\Ae d=8/\I.ok (dp+1) st.o)\/(kind=3/\Ae d=2)) :
  Calls Tryz.prog 183 #[zi (some ⟨br,0,none⟩),zd U (kind:Int),zg #[zd U kd,zd U vr,zd U ot,zd U ek,zd U en,O ea el ec,O aa al ac,O ta tl tc,O la ll lc],zd U a] w (It I B [zd U m,O ga gn gc,O sa sn sc,O ya yn yc,O oa on oc,O va vn vc,O fa fn fc,O ba bn bc,O xa xn xc,zd U (F:Int),O (some ⟨b3,0,none⟩) fln c3] br b1 b2 b3 fl dp kind d (Bo I.ob kind a dp d st) ev w):=by
 have hbel:Ov w (w.alloc (zf #[zd U kd,zd U vr,zd U ot,zd U ek,zd U en,O ea el ec,O aa al ac,O ta tl tc,O la ll lc] 130)):=bA w _
 have hbd:Ov w (w.alloc (zf #[zd U kd,zd U vr,zd U ot,zd U ek,zd U en,O ea el ec,O aa al ac,O ta tl tc,O la ll lc] 130)).drew:=below_drewN hbel 1
 have h2:=h.over hbd
 have KM:=Aa (hM _ st.o ev.X (w.alloc (zf #[zd U kd,zd U vr,zd U ot,zd U ek,zd U en,O ea el ec,O aa al ac,O ta tl tc,O la ll lc] 130)).drew kind a dp k [zd U kd,zd U vr,zd U ot,zd U ek,zd U en,O ea el ec,O aa al ac,O ta tl tc,O la ll lc] d funcs h2.ob (hB0.trans (hbd.mono hB0.size)) hs hf ho ha0 ha1 hdp h.okd hkind)
 have HR:=Aa h2
 have HF:=Aa (Fr.of_below (br:=br) (b1:=b1) (b2:=b2) (ev:=ev) hbd)
 have HBX:Hx (∀ ev' w',Fr br b1 b2 ev ev' (w.alloc (zf #[zd U kd,zd U vr,zd U ot,zd U ek,zd U en,O ea el ec,O aa al ac,O ta tl tc,O la ll lc] 130)).drew w'->∀ j u,CE (w.alloc (zf #[zd U kd,zd U vr,zd U ot,zd U ek,zd U en,O ea el ec,O aa al ac,O ta tl tc,O la ll lc] 130)) w.heap.size j u->CE w' w.heap.size j u):=fun ev' w' hF j u hc=>h.box hF (Nat.le_refl _) (show (w.alloc _).drew.cell? _=_ from hc)
 have hrow:=Ad.newA #[zd U kd,zd U vr,zd U ot,zd U ek,zd U en,O ea el ec,O aa al ac,O ta tl tc,O la ll lc] 130 w
 have q17:=Ab hbel _ _ (h.row 17 _ rfl)
 have q18:=Ab hbel _ _ (h.row 18 _ rfl)
 have e0:CE (w.alloc (zf #[zd U kd,zd U vr,zd U ot,zd U ek,zd U en,O ea el ec,O aa al ac,O ta tl tc,O la ll lc] 130)) w.heap.size 0 (zd U kd):=hrow 0 _ rfl
 have e1:CE (w.alloc (zf #[zd U kd,zd U vr,zd U ot,zd U ek,zd U en,O ea el ec,O aa al ac,O ta tl tc,O la ll lc] 130)) w.heap.size 1 (zd U vr):=hrow 1 _ rfl
 have e2:CE (w.alloc (zf #[zd U kd,zd U vr,zd U ot,zd U ek,zd U en,O ea el ec,O aa al ac,O ta tl tc,O la ll lc] 130)) w.heap.size 2 (zd U ot):=hrow 2 _ rfl
 have e3:CE (w.alloc (zf #[zd U kd,zd U vr,zd U ot,zd U ek,zd U en,O ea el ec,O aa al ac,O ta tl tc,O la ll lc] 130)) w.heap.size 3 (zd U ek):=hrow 3 _ rfl
 have e4:CE (w.alloc (zf #[zd U kd,zd U vr,zd U ot,zd U ek,zd U en,O ea el ec,O aa al ac,O ta tl tc,O la ll lc] 130)) w.heap.size 4 (zd U en):=hrow 4 _ rfl
 have e5:CE (w.alloc (zf #[zd U kd,zd U vr,zd U ot,zd U ek,zd U en,O ea el ec,O aa al ac,O ta tl tc,O la ll lc] 130)) w.heap.size 5 (O ea el ec):=hrow 5 _ rfl
 have e6:CE (w.alloc (zf #[zd U kd,zd U vr,zd U ot,zd U ek,zd U en,O ea el ec,O aa al ac,O ta tl tc,O la ll lc] 130)) w.heap.size 6 (O aa al ac):=hrow 6 _ rfl
 have e7:CE (w.alloc (zf #[zd U kd,zd U vr,zd U ot,zd U ek,zd U en,O ea el ec,O aa al ac,O ta tl tc,O la ll lc] 130)) w.heap.size 7 (O ta tl tc):=hrow 7 _ rfl
 have e8:CE (w.alloc (zf #[zd U kd,zd U vr,zd U ot,zd U ek,zd U en,O ea el ec,O aa al ac,O ta tl tc,O la ll lc] 130)) w.heap.size 8 (O la ll lc):=hrow 8 _ rfl
 have hpass:Bo I.ob kind a dp d st=if (I.ob kind a dp d st.o).1=true then (true,st.held (I.ob kind a dp d st.o).2) else (false,st.stop a (I.ob kind a dp d st.o).2):=rfl
 rw [hpass]
 obtain ⟨ro,hro⟩:=nm (I.ob kind a dp d st.o)
 rw [<-hro] at KM ⊢
 have hl:=h2.hi.1
 clear h h2 hbel hbd hrow hM hB0 hs hf ho ha0 ha1 hdp hkind hpass hro
 unfold It
 have hC:=I.ent
 obtain ⟨rb,ros⟩:=ro
 dsimp only at KM ⊢
 go_enter Tryz.func183,Tryz.ntmps183
 go_wp2_with fail
 refine gS (fun Wz=>CE Wz br 17 (zd U (dp:Int))/\CE Wz br 18 (.func (.func I.fn) I.fre.toArray I.cap.toArray)/\CE Wz w.heap.size 0 (zd U kd)/\CE Wz w.heap.size 1 (zd U vr)/\CE Wz w.heap.size 2 (zd U ot)/\CE Wz w.heap.size 3 (zd U ek)/\CE Wz w.heap.size 4 (zd U en)/\CE Wz w.heap.size 5 (O ea el ec)/\CE Wz w.heap.size 6 (O aa al ac)/\CE Wz w.heap.size 7 (O ta tl tc)/\CE Wz w.heap.size 8 (O la ll lc)) (⟨q17,q18,e0,e1,e2,e3,e4,e5,e6,e7,e8⟩) fun hHeld=>?_
 refine kT 0 ?_
 refine kT 1 ?_
 refine kT 2 ?_
 refine kT 3 ?_
 refine kT 4 ?_
 refine kT 5 ?_
 refine kT 6 ?_
 refine kT 7 ?_
 refine kT 8 ?_
 refine kT 9 ?_
 refine kT 10 ?_
 refine kT 11 ?_
 refine rdA 12 rfl fun K hK=>?_
 go_simp
 refine (KM.o).mono ?_
 rintro e W2 ⟨rfl,X',hI2,hX2,hF2,hok2,hnx⟩
 have hm:=HR.o.may hF2 hX2 hI2 hok2
 have HRM:=Aa hm.1
 have HFM:=Aa hm.2
 have HNX:=Aa hnx
 have g17:=HRM.o.row 17 _ rfl
 have g18:=HRM.o.row 18 _ rfl
 have g0:=HBX.o _ _ HFM.o 0 _ e0
 have g1:=HBX.o _ _ HFM.o 1 _ e1
 have g2:=HBX.o _ _ HFM.o 2 _ e2
 have g3:=HBX.o _ _ HFM.o 3 _ e3
 have g4:=HBX.o _ _ HFM.o 4 _ e4
 have g5:=HBX.o _ _ HFM.o 5 _ e5
 have g6:=HBX.o _ _ HFM.o 6 _ e6
 have g7:=HBX.o _ _ HFM.o 7 _ e7
 have g8:=HBX.o _ _ HFM.o 8 _ e8
 clear KM hI2 hX2 hF2 hok2 hm hnx HR HBX
 go_simp
 refine xK hK (⟨g17,g18,g0,g1,g2,g3,g4,g5,g6,g7,g8⟩) fun hHeld=>?_
 refine gE ?_
 cases rb with
 | true=>
  go_wp2_with fail
  go_ret
  exact ⟨rfl,_,HRM.o,HF.o.trans HFM.o,fun hk=>HNX.o (by first | rfl | trivial) hk⟩
 | false=>
  have c4:=HRM.o.row 4 _ rfl
  have c5:=HRM.o.row 5 _ rfl
  have z4:=HRM.o.z0 4
  have z5:=HRM.o.z0 5
  have hl2:=HRM.o.hi.1
  have HE:=Aa ((HRM.o.setEnd 3).setStop a)
  have HG:=Aa ((C6 HRM.o 4 (zd U 3)).trans (C6 (HRM.o.setEnd 3) 5 (zd U a)))
  go_wp2_with fail
  go_ret
  exact ⟨rfl,_,HE.o,HF.o.trans (HFM.o.trans HG.o)⟩
end Go.Proofs.YtfffpjkcfnekaaaGreat.Ex
