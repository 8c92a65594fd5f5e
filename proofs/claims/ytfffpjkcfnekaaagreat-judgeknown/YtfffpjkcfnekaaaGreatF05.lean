/- Levels that are inferred, while commands ask. -/
import Derived.Test.YtfffpjkcfnekaaaGreatF04
import Derived.Deep.RegionHeld2
set_option linter.unusedVariables false
set_option maxHeartbeats 8000000
set_option maxRecDepth 100000
namespace Go.Proofs.YtfffpjkcfnekaaaGreat.Ex
open Go.RowKit
open Go.Value renaming slice -> O, int -> U, bool -> zg, agg -> zh, pointer -> zj, tuple -> zm
open Go.IntKind renaming i64 -> zd
open Go.Obj renaming cells -> ze
open Go.Ending renaming returned -> zk
def XI (c:WC) (bm:Nat):World->Nat->Prop:=fun _ k=>(∃ a,c.la=some a/\k=a.block)\/(∃ a,c.ka=some a/\k=a.block)\/k=bm
theorem EJ (c) (bm:Nat):XOk (XI c bm):=⟨fun _ _ _ _ h=>h⟩
structure EH (c:WC) (w0:World) (bw bm:Nat):Prop where
 la:∀ a,c.la=some a->a.off=0/\a.spot=none/\w0.heap.size<=a.block/\a.block≠bw/\a.block≠bm
 ka:∀ a,c.ka=some a->a.off=0/\a.spot=none/\w0.heap.size<=a.block/\a.block≠bw/\a.block≠bm
 lk:∀ a b,c.la=some a->c.ka=some b->a.block≠b.block
 m:w0.heap.size<=bm/\bw≠bm
structure CN (c:WC) (w0:World) (nv nf bw bm:Nat) (st:ISt) (W:World):Prop where
 below:Ov w0 W
 vs:Bb c.n (XI c bm) W (O c.la c.ln c.lc) st.vs
 fs:Bb c.n (XI c bm) W (O c.ka c.kn c.kc) st.fs
 lv:st.vs.length=nv
 lf:st.fs.length=nf
 more:W.cell? ⟨bm,0,none⟩=some (zg st.more)
 mz:W.frozen? ⟨bm,0,none⟩=false
 row:Ae c.cs W bw
 hl:∀ a,c.la=some a->a.block < W.heap.size/\∀ j,W.frozen? ⟨a.block,j,none⟩=false
 hk:∀ a,c.ka=some a->a.block < W.heap.size/\∀ j,W.frozen? ⟨a.block,j,none⟩=false
theorem Nc {c:WC} {w0:World} {nv nf bw bm:Nat} {st:ISt} {W:World} (hC:EH c w0 bw bm) (h:CN c w0 nv nf bw bm st W) {W':World} (k:Nat) (hx:XI c bm W' k):k < W.heap.size:=by
 rcases hx with ⟨a,e,rfl⟩ | ⟨a,e,rfl⟩ | rfl
 ·exact (h.hl a e).1
 ·exact (h.hk a e).1
 ·exact bL h.more
theorem CN.over {c:WC} {w0:World} {nv nf bw bm:Nat} {st:ISt} {W W':World} (h:CN c w0 nv nf bw bm st W) (hb:Ov W W'):CN c w0 nv nf bw bm st W':=
 ⟨h.below.trans (hb.mono h.below.size),h.vs.over (EJ c bm) hb,h.fs.over (EJ c bm) hb,h.lv,h.lf,Ab hb _ _ h.more,((Ap hb).2 _ _ (bL h.more)).trans h.mz,h.row.over hb,
  fun a e=>⟨Nat.lt_of_lt_of_le (h.hl a e).1 hb.size,fun j=>((Ap hb).2 _ _ (h.hl a e).1).trans ((h.hl a e).2 j)⟩,fun a e=>⟨Nat.lt_of_lt_of_le (h.hk a e).1 hb.size,fun j=>((Ap hb).2 _ _ (h.hk a e).1).trans ((h.hk a e).2 j)⟩⟩
theorem OD {c:WC} {w0:World} {nv bw bm:Nat} {fs:List FnD} {gs:List (Int × Int)} (n1:1<=c.n) (n6:c.n<=6) (gr:AG w0 (O c.ga c.gn c.gc) gs) (chk:AQ c.n gs=0) (nv16:nv<=16) (hC:EH c w0 bw bm):D3 c w0 nv fs gs ISt.vs ISt.fs (CN c w0 nv fs.length bw bm) (XI c bm):=
 ⟨n1,n6,gr,chk,nv16,fun st W h=>h.below,fun st W h=>⟨h.vs,h.lv⟩,fun st W h=>⟨h.fs,h.lf⟩,fun st W W' h hb=>h.over hb,EJ c bm,fun st W h k hx=>Nc hC h k hx⟩
theorem Bz {W:World} {b o b' o':Nat} {u:Value} (h:b≠b'\/o≠o'):(W.setCell ⟨b,o,none⟩ u).cell? ⟨b',o',none⟩=W.cell? ⟨b',o',none⟩:=
 World.cell?_setCell_other _ _ _ _ (by intro e;injection e with e1 e2;rcases h with h | h;exact h e1;exact h e2)
theorem Bb.set {n:Nat} {X:World->Nat->Prop} {W W3:World} {b i cap:Nat} {Ls:List Lev} {x y:Value} {l:Lev} (n1:1<=n) (h:Bb n X W (O (some ⟨b,0,none⟩) Ls.length cap) Ls) (hi:i < Ls.length) (hl:AW n X W3 (zh #[x,y]) l)
  (hF:FrW X W W3) (e0:W3.cell? ⟨b,i*2,none⟩=some x) (e1:W3.cell? ⟨b,i*2+1,none⟩=some y) (hc:∀ j u,j≠i*2->j≠i*2+1->W.cell? ⟨b,j,none⟩=some u->W3.cell? ⟨b,j,none⟩=some u):Bb n X W3 (O (some ⟨b,0,none⟩) Ls.length cap) (Ls.set i l):=by
 obtain ⟨ao,cap',hv,hel⟩:=h
 injection hv with v1 v2 v3
 subst v1
 refine ⟨some ⟨b,0,none⟩,cap,by simp,fun _=>⟨b,0,rfl,fun j hj=>?_⟩⟩
 obtain ⟨b',o',hb',hel⟩:=hel (by intro h;rw [h] at hi;simp at hi)
 injection hb' with hb'
 injection hb' with hb1 hb2
 subst hb1 hb2
 simp only [Nat.zero_add] at hel ⊢
 by_cases hij:i=j
 ·subst hij
  refine ⟨x,y,e0,e1,?_⟩
  rw [List.getElem_set_self]
  exact hl
 ·obtain ⟨rv,wv,c0,c1,ho⟩:=hel j (by simpa using hj)
  refine ⟨rv,wv,hc _ _ (by omega) (by omega) c0,hc _ _ (by omega) (by omega) c1,?_⟩
  rw [List.getElem_set_ne hij]
  exact ho.keep n1 hF
theorem Bb.keep {n:Nat} {X:World->Nat->Prop} {W W3:World} {v:Value} {Ls:List Lev} (n1:1<=n) (h:Bb n X W v Ls) (hF:FrW X W W3) (hc:∀ b o ln cp,v=O (some ⟨b,o,none⟩) ln cp->∀ j u,W.cell? ⟨b,j,none⟩=some u->W3.cell? ⟨b,j,none⟩=some u):Bb n X W3 v Ls:=by
 obtain ⟨ao,cap,hv,hel⟩:=h
 refine ⟨ao,cap,hv,fun hne=>?_⟩
 obtain ⟨b,off,hao,hel⟩:=hel hne
 refine ⟨b,off,hao,fun i hi=>?_⟩
 obtain ⟨rv,wv,h1,h2,h3⟩:=hel i hi
 have hk:=hc b off _ _ (by rw [hv,hao])
 exact ⟨rv,wv,hk _ _ h1,hk _ _ h2,h3.keep n1 hF⟩
theorem EH.upd {c:WC} {w0:World} {nv nf bw bm b:Nat} {st:ISt} {W W3:World} {i:Bool × Nat} {l:Lev} {x y:Value} (hC:EH c w0 bw bm) (h:CN c w0 nv nf bw bm st W) (hn:1<=c.n/\(if i.1=true then c.la else c.ka)=some ⟨b,0,none⟩) (hb3:Ov W W3) (hl:AW c.n (XI c bm) W3 (zh #[x,y]) l)
  (h1:i.1=true->i.2 < nv) (h2:i.1=false->i.2 < nf) :
  CN c w0 nv nf bw bm (st.up i l) (((W3.setCell ⟨b,i.2*2,none⟩ x).setCell ⟨b,i.2*2+1,none⟩ y).setCell ⟨bm,0,none⟩ (zg true))/\FrW (XI c bm) W (((W3.setCell ⟨b,i.2*2,none⟩ x).setCell ⟨b,i.2*2+1,none⟩ y).setCell ⟨bm,0,none⟩ (zg true)):=by
 obtain ⟨n1,hib⟩:=hn
 have h3:=h.over hb3
 obtain ⟨W',hW'⟩:∃ W',W'=(((W3.setCell ⟨b,i.2*2,none⟩ x).setCell ⟨b,i.2*2+1,none⟩ y).setCell ⟨bm,0,none⟩ (zg true)):=⟨_,rfl⟩
 rw [<-hW']
 have hxb:XI c bm W3 b:=by
  by_cases hi:i.1=true
  ·rw [if_pos hi] at hib;exact Or.inl ⟨_,hib,rfl⟩
  ·rw [if_neg hi] at hib;exact Or.inr (Or.inl ⟨_,hib,rfl⟩)
 have hbm:b≠bm/\b≠bw/\w0.heap.size<=b:=by
  by_cases hi:i.1=true
  ·rw [if_pos hi] at hib;have:=hC.la _ hib;exact ⟨this.2.2.2.2,this.2.2.2.1,this.2.2.1⟩
  ·rw [if_neg hi] at hib;have:=hC.ka _ hib;exact ⟨this.2.2.2.2,this.2.2.2.1,this.2.2.1⟩
 have hsz:W'.heap.size=W3.heap.size:=by rw [hW'];simp [World.setCell]
 have hblk:∀ k,k≠b->k≠bm->W'.heap[k]? = W3.heap[k]?:=fun k hk hm=>by
  rw [hW',Bi (Ne.symm hm),Bi (Ne.symm hk),Bi (Ne.symm hk)]
 have hF3:FrW (XI c bm) W3 W':=by
  refine ⟨by rw [hW'];rfl,by rw [hW'];rfl,by rw [hW'];rfl,by omega,fun k _ hx=>hblk k (fun e=>hx (e ▸ hxb)) (fun e=>hx (Or.inr (Or.inr e))),fun k _ hx=>hx⟩
 have hF:=(FrW.of_below (EJ c bm) hb3).trans hF3
 have cne:∀ b' o' u,b'≠b->b'≠bm->W3.cell? ⟨b',o',none⟩=some u->W'.cell? ⟨b',o',none⟩=some u:=fun b' o' u hb hm hc=>(World.cell?_of_block (a:=⟨b',o',none⟩) (hblk b' hb hm)).trans hc
 have cin:∀ j u,j≠i.2*2->j≠i.2*2+1->W3.cell? ⟨b,j,none⟩=some u->W'.cell? ⟨b,j,none⟩=some u:=fun j u hj hj' hc=>by
  rw [hW',Bz (Or.inl hbm.1.symm),Bz (Or.inr (Ne.symm hj')),Bz (Or.inr (Ne.symm hj))]
  exact hc
 have fzz:∀ b' j,W'.frozen? ⟨b',j,none⟩=W3.frozen? ⟨b',j,none⟩:=fun b' j=>by rw [hW'];simp [go_sem]
 have hl':=hl.keep n1 hF3
 have exs:(∃ u,W3.cell? ⟨b,i.2*2,none⟩=some u)/\∃ u,W3.cell? ⟨b,i.2*2+1,none⟩=some u:=by
  by_cases hi:i.1=true
  ·rw [if_pos hi] at hib
   have hlt:=h1 hi
   obtain ⟨ao,cap,hv,hel⟩:=h3.vs
   injection hv with v1 v2 v3
   obtain ⟨b',o',hb',hel⟩:=hel (by intro e;have:=h3.lv;rw [e] at this;simp at this;omega)
   rw [<-v1,hib] at hb'
   injection hb' with hb'
   injection hb' with hb1 hb2
   subst hb1 hb2
   obtain ⟨rv,wv,c0,c1,-⟩:=hel i.2 (by have:=h3.lv;omega)
   simp only [Nat.zero_add] at c0 c1
   exact ⟨⟨_,c0⟩,_,c1⟩
  ·rw [if_neg hi] at hib
   have hlt:=h2 (by simpa using hi)
   obtain ⟨ao,cap,hv,hel⟩:=h3.fs
   injection hv with v1 v2 v3
   obtain ⟨b',o',hb',hel⟩:=hel (by intro e;have:=h3.lf;rw [e] at this;simp at this;omega)
   rw [<-v1,hib] at hb'
   injection hb' with hb'
   injection hb' with hb1 hb2
   subst hb1 hb2
   obtain ⟨rv,wv,c0,c1,-⟩:=hel i.2 (by have:=h3.lf;omega)
   simp only [Nat.zero_add] at c0 c1
   exact ⟨⟨_,c0⟩,_,c1⟩
 obtain ⟨⟨u0,hu0⟩,u1,hu1⟩:=exs
 have e0:W'.cell? ⟨b,i.2*2,none⟩=some x:=by
  rw [hW',Bz (Or.inl hbm.1.symm),Bz (Or.inr (by omega))]
  exact World.cell?_setCell_same _ _ _ hu0
 have e1:W'.cell? ⟨b,i.2*2+1,none⟩=some y:=by
  rw [hW',Bz (Or.inl hbm.1.symm)]
  exact World.cell?_setCell_same _ _ _ (u:=u1) (by rw [Bz (Or.inr (by omega))];exact hu1)
 have hBel:Ov w0 W':=by
  rw [hW']
  exact ((h3.below.setCell (p:=⟨b,i.2*2,none⟩) hbm.2.2 _).setCell (p:=⟨b,i.2*2+1,none⟩) hbm.2.2 _).setCell (p:=⟨bm,0,none⟩) hC.m.1 _
 have hm:W'.cell? ⟨bm,0,none⟩=some (zg true):=by
  rw [hW']
  exact World.cell?_setCell_same _ _ _ (u:=zg st.more) (by rw [Bz (Or.inl hbm.1),Bz (Or.inl hbm.1)];exact h3.more)
 have hrw:Ae c.cs W' bw:=fun j u hu=>cne _ _ _ (Ne.symm hbm.2.1) hC.m.2 (h3.row j u hu)
 refine ⟨?_,hF⟩
 by_cases hi:i.1=true
 ·rw [if_pos hi] at hib
  have hst:st.up i l=⟨st.vs.set i.2 l,st.fs,true⟩:=by unfold ISt.up;rw [if_pos hi]
  rw [hst]
  obtain ⟨ao,cap,hv,-⟩:=h3.vs
  injection hv with v1 v2 v3
  refine ⟨hBel,?_,h3.fs.keep n1 hF3 (fun b' o' ln cp hv j u hc=>?_),by simpa using h3.lv,h3.lf,hm,(fzz _ _).trans h3.mz,hrw,fun a e=>⟨by rw [hsz];exact (h3.hl a e).1,fun j=>(fzz _ _).trans ((h3.hl a e).2 j)⟩,fun a e=>⟨by rw [hsz];exact (h3.hk a e).1,fun j=>(fzz _ _).trans ((h3.hk a e).2 j)⟩⟩
  ·have:=h3.vs
   rw [hib,v2] at this ⊢
   exact Bb.set n1 this (by have:=h1 hi;have:=h3.lv;omega) hl' hF3 e0 e1 cin
  ·injection hv with v1' v2' v3'
   exact cne _ _ _ (fun e=>hC.lk _ _ hib v1' e.symm) (hC.ka _ v1').2.2.2.2 hc
 ·rw [if_neg hi] at hib
  have hst:st.up i l=⟨st.vs,st.fs.set i.2 l,true⟩:=by unfold ISt.up;rw [if_neg hi]
  rw [hst]
  obtain ⟨ao,cap,hv,-⟩:=h3.fs
  injection hv with v1 v2 v3
  refine ⟨hBel,h3.vs.keep n1 hF3 (fun b' o' ln cp hv j u hc=>?_),?_,h3.lv,by simpa using h3.lf,hm,(fzz _ _).trans h3.mz,hrw,fun a e=>⟨by rw [hsz];exact (h3.hl a e).1,fun j=>(fzz _ _).trans ((h3.hl a e).2 j)⟩,fun a e=>⟨by rw [hsz];exact (h3.hk a e).1,fun j=>(fzz _ _).trans ((h3.hk a e).2 j)⟩⟩
  ·injection hv with v1' v2' v3'
   exact cne _ _ _ (fun e=>hC.lk _ _ v1' hib e) (hC.la _ v1').2.2.2.2 hc
  ·have:=h3.fs
   rw [hib,v2] at this ⊢
   exact Bb.set n1 this (by have:=h2 (by simpa using hi);have:=h3.lf;omega) hl' hF3 e0 e1 cin
theorem MJ (args:Array Value) (w:World):(callFunc 56 args).run Tryz.prog w=.ok (.enter 56 args) w:=by simp [go_sem]
theorem CN.lev {c:WC} {w0:World} {nv nf bw bm b off:Nat} {st:ISt} {W:World} {i:Bool × Nat} (hC:EH c w0 bw bm) (h:CN c w0 nv nf bw bm st W) (hib:(if i.1=true then c.la else c.ka)=some ⟨b,off,none⟩) (h1:i.1=true->i.2 < nv) (h2:i.1=false->i.2 < nf) :
  off=0/\(b < W.heap.size/\∀ j,W.frozen? ⟨b,j,none⟩=false)/\b≠bw/\b≠bm/\∃ rv wv,W.cell? ⟨b,i.2*2,none⟩=some rv/\W.cell? ⟨b,i.2*2+1,none⟩=some wv/\AW c.n (XI c bm) W (zh #[rv,wv]) (st.at i):=by
 unfold ISt.at
 by_cases hi:i.1=true
 ·rw [if_pos hi] at hib ⊢
  have hlt:=h1 hi
  have hca:=hC.la _ hib
  have ho:off=0:=hca.1
  subst ho
  obtain ⟨ao,cap,hv,hel⟩:=h.vs
  injection hv with v1 v2 v3
  obtain ⟨b',o',hb',hel⟩:=hel (by intro e;have:=h.lv;rw [e] at this;simp at this;omega)
  rw [<-v1,hib] at hb'
  injection hb' with hb'
  injection hb' with hb1 hb2
  subst hb1 hb2
  have hlt2:i.2 < st.vs.length:=by have:=h.lv;omega
  obtain ⟨rv,wv,c0,c1,hl⟩:=hel i.2 hlt2
  simp only [Nat.zero_add] at c0 c1
  refine ⟨rfl,h.hl _ hib,hca.2.2.2.1,hca.2.2.2.2,rv,wv,c0,c1,?_⟩
  have e:st.vs.getD i.2 AE=st.vs[i.2]:=by simp [List.getD_eq_getElem?_getD,hlt2]
  rw [e]
  exact hl
 ·rw [if_neg hi] at hib ⊢
  have hlt:=h2 (by simpa using hi)
  have hca:=hC.ka _ hib
  have ho:off=0:=hca.1
  subst ho
  obtain ⟨ao,cap,hv,hel⟩:=h.fs
  injection hv with v1 v2 v3
  obtain ⟨b',o',hb',hel⟩:=hel (by intro e;have:=h.lf;rw [e] at this;simp at this;omega)
  rw [<-v1,hib] at hb'
  injection hb' with hb'
  injection hb' with hb1 hb2
  subst hb1 hb2
  have hlt2:i.2 < st.fs.length:=by have:=h.lf;omega
  obtain ⟨rv,wv,c0,c1,hl⟩:=hel i.2 hlt2
  simp only [Nat.zero_add] at c0 c1
  refine ⟨rfl,h.hk _ hib,hca.2.2.2.1,hca.2.2.2.2,rv,wv,c0,c1,?_⟩
  have e:st.fs.getD i.2 AE=st.fs[i.2]:=by simp [List.getD_eq_getElem?_getD,hlt2]
  rw [e]
  exact hl
abbrev Hh (bw:Nat) (c:WC) (W:World) (p1:Option Addr) (q1 r1:Nat) (p2:Option Addr) (q2 r2 b:Nat) (i:Bool × Nat) (m1:Option Addr) (m2 m3:Nat) (m4:Option Addr) (m5 m6:Nat) (Wz:World):Prop:=Wz.cell? ⟨bw,0,none⟩=some (U zd (c.n:Int))/\Wz.cell? ⟨bw,1,none⟩=some (O c.ga c.gn c.gc)/\Wz.cell? ⟨bw,2,none⟩=some (O c.sa c.sn c.sc)/\Wz.cell? ⟨bw,3,none⟩=some (O c.ya c.yn c.yc)/\Wz.cell? ⟨bw,4,none⟩=some (O c.oa c.on c.oc)/\Wz.cell? ⟨bw,5,none⟩=some (O c.va c.vn c.vc)/\Wz.cell? ⟨bw,6,none⟩=some (O c.fa c.fn c.fc)/\Wz.cell? ⟨bw,7,none⟩=some (O c.ba c.bn c.bc)/\Wz.cell? ⟨bw,8,none⟩=some (O c.la c.ln c.lc)/\Wz.cell? ⟨bw,9,none⟩=some (O c.ka c.kn c.kc)/\Wz.cell? ⟨W.heap.size,0,none⟩=some (O p1 q1 r1)/\Wz.cell? ⟨W.heap.size,1,none⟩=some (O p2 q2 r2)/\Wz.cell? ⟨b,i.2*2,none⟩=some (O m1 m2 m3)/\Wz.cell? ⟨b,i.2*2+1,none⟩=some (O m4 m5 m6)
abbrev Ks (bw:Nat) (c:WC) (W:World) (p1:Option Addr) (q1 r1:Nat) (p2:Option Addr) (q2 r2:Nat) (Wz:World):Prop:=Wz.cell? ⟨bw,0,none⟩=some (U zd (c.n:Int))/\Wz.cell? ⟨bw,1,none⟩=some (O c.ga c.gn c.gc)/\Wz.cell? ⟨bw,2,none⟩=some (O c.sa c.sn c.sc)/\Wz.cell? ⟨bw,3,none⟩=some (O c.ya c.yn c.yc)/\Wz.cell? ⟨bw,4,none⟩=some (O c.oa c.on c.oc)/\Wz.cell? ⟨bw,5,none⟩=some (O c.va c.vn c.vc)/\Wz.cell? ⟨bw,6,none⟩=some (O c.fa c.fn c.fc)/\Wz.cell? ⟨bw,7,none⟩=some (O c.ba c.bn c.bc)/\Wz.cell? ⟨bw,8,none⟩=some (O c.la c.ln c.lc)/\Wz.cell? ⟨bw,9,none⟩=some (O c.ka c.kn c.kc)/\Wz.cell? ⟨W.heap.size,0,none⟩=some (O p1 q1 r1)/\Wz.cell? ⟨W.heap.size,1,none⟩=some (O p2 q2 r2)
theorem MH (c:WC) (w0:World) (nv bw bm:Nat) (fs gs) (n1:1<=c.n) (gr:AG w0 (O c.ga c.gn c.gc) gs) (chk:AQ c.n gs=0) (hC:EH c w0 bw bm) :
  C3 c nv fs (CN c w0 nv fs.length bw bm) (XI c bm) (BV c.n) 56 (zj (some ⟨bw,0,none⟩)) (zj (some ⟨bm,0,none⟩)):=by
 intro st W v l i b off hI hl hi1 hi2 hib
 obtain ⟨rfl,⟨hbl,hfz⟩,hbw,hbm,rv,wv,c0,c1,hlv⟩:=CN.lev hC hI hib hi1 hi2
 obtain ⟨p1,q1,r1,p2,q2,r2,rfl⟩:=hl.form
 obtain ⟨m1,m2,m3,m4,m5,m6,hform⟩:=hlv.form
 simp at hform
 obtain ⟨rfl,rfl⟩:=hform
 have hba:Ov W (W.alloc (ze #[O p1 q1 r1,O p2 q2 r2] 50)):=bA W _
 have hI1:=hI.over hba
 have hl1:=hl.over (EJ c bm) hba
 have hlv1:=hlv.over (EJ c bm) hba
 obtain ⟨l0,l1⟩:=co2 hba c0 c1
 have L0:=Aa l0
 have L1:=Aa l1
 have rowB:=Ae.new [O p1 q1 r1,O p2 q2 r2] 50 W
 have hgr:=Af gr hI1.below
 have KF:=Aa fun (W2:World) (hb2:Ov (W.alloc (ze #[O p1 q1 r1,O p2 q2 r2] 50)) W2)=>I3 (c.n:Int) c.ga c.gn c.gc c.sa c.sn c.sc c.ya c.yn c.yc c.oa c.on c.oc c.va c.vn c.vc c.fa c.fn c.fc c.ba c.bn c.bc c.la c.ln c.lc c.ka c.kn c.kc gs (O p1 q1 r1) (O p2 q2 r2) (O m1 m2 m3) (O m4 m5 m6) l (st.at i) W2 (Af hgr hb2) (Aw hl1.at_ hb2) (Aw hlv1.at_ hb2) (C6 chk hl1.len hlv1.len)
 have KJ:=Aa fun (W2:World) (hb2:Ov (W.alloc (ze #[O p1 q1 r1,O p2 q2 r2] 50)) W2)=>JD (c.n:Int) c.ga c.gn c.gc c.sa c.sn c.sc c.ya c.yn c.yc c.oa c.on c.oc c.va c.vn c.vc c.fa c.fn c.fc c.ba c.bn c.bc c.la c.ln c.lc c.ka c.kn c.kc gs (O m1 m2 m3) (O m4 m5 m6) (O p1 q1 r1) (O p2 q2 r2) (st.at i) l W2 (Af hgr hb2) (Aw hlv1.at_ hb2) (Aw hl1.at_ hb2) (C6 chk hlv1.len hl1.len)
 simp only [Int.toNat_natCast] at KF
 obtain ⟨fb,hfb⟩:=nm (Ay l (st.at i) c.n)
 rw [<-hfb] at KF
 have HFB:=Aa hfb.symm
 have HC:=Aa hC
 have HI:=Aa hI1
 have HR:=Aa hI1.row
 have HRB:=Aa rowB
 have HIB:=Aa (And.intro n1 hib)
 have HF0:=Aa (FrW.of_below (EJ c bm) hba)
 have HBL:=Aa (show b < (W.alloc (ze #[O p1 q1 r1,O p2 q2 r2] 50)).heap.size by simp;omega)
 have HFZ:=Aa (show ∀ j,(W.alloc (ze #[O p1 q1 r1,O p2 q2 r2] 50)).frozen? ⟨b,j,none⟩=false from fun j=>((Ap hba).2 _ _ hbl).trans (hfz j))
 have HML:=Aa (bL hI1.more)
 have HMZ:=Aa hI1.mz
 have HMC:=Aa hI1.more
 have HNE:=Aa (Ne.symm hbm)
 have HBN:=Aa hbw
 have HBN2:=Aa (show b≠W.heap.size by omega)
 have HR1:=Aa hi1
 have HR2:=Aa hi2
 obtain ⟨t0,t1,t2,t3,t4,t5,t6,t7,t8,t9⟩:=B9 hI1.row
 obtain ⟨b0,b1⟩:=rc2 rowB
 have hS0:Hh bw c W p1 q1 r1 p2 q2 r2 b i m1 m2 m3 m4 m5 m6 (W.alloc (ze #[O p1 q1 r1,O p2 q2 r2] 50)):=⟨t0,t1,t2,t3,t4,t5,t6,t7,t8,t9,b0,b1,l0,l1⟩
 clear hI hl hlv hI1 hl1 hlv1 rowB hgr hfb hba c0 c1 hfz hi1 hi2 hC gr chk hbw hbm hbl hib n1
 go_enter Tryz.func56,Tryz.ntmps56
 rw [Nat.zero_add]
 cases fb with
 | true=>
  go_wp2_with fail
  refine gS (Hh bw c W p1 q1 r1 p2 q2 r2 b i m1 m2 m3 m4 m5 m6) (hS0) fun hHeld=>?_
  refine kT 0 ?_
  refine kT 1 ?_
  refine kT 2 ?_
  refine kT 3 ?_
  refine kT 4 ?_
  refine kT 5 ?_
  refine rdA 6 rfl fun K hK=>?_
  go_simp
  refine (KF.o _ (bD _)).mono ?_
  rintro e W2 ⟨rfl,hb2⟩
  have hbz:=Ac ((Below.refl _ (W.alloc (ze #[O p1 q1 r1,O p2 q2 r2] 50))).drew) hb2
  have hr0:=HR.o.over hbz
  have hr1:=HRB.o.over hbz
  have hS2:Hh bw c W p1 q1 r1 p2 q2 r2 b i m1 m2 m3 m4 m5 m6 W2:=⟨hr0 0 _ rfl,hr0 1 _ rfl,hr0 2 _ rfl,hr0 3 _ rfl,hr0 4 _ rfl,hr0 5 _ rfl,hr0 6 _ rfl,hr0 7 _ rfl,hr0 8 _ rfl,hr0 9 _ rfl,hr1 0 _ rfl,hr1 1 _ rfl,Ab hbz _ _ l0,Ab hbz _ _ l1⟩
  have HBZ:=Aa hbz
  clear hr0 hr1 hb2 hbz
  go_simp
  refine xK hK (hS2) fun hHeld=>?_
  clear hK K
  refine rdA 7 rfl fun K hK=>?_
  go_simp
  refine xK hK (hS2) fun hHeld=>?_
  clear hK K
  refine gE ?_
  go_wp2_with fail
  go_end0
  refine ⟨rfl,?_,HF0.o.trans (FrW.of_below (EJ c bm) HBZ.o)⟩
  unfold BV
  rw [if_pos HFB.o]
  exact HI.o.over HBZ.o
 | false=>
  go_wp2_with fail
  refine gS (Hh bw c W p1 q1 r1 p2 q2 r2 b i m1 m2 m3 m4 m5 m6) (hS0) fun hHeld=>?_
  refine kT 0 ?_
  refine kT 1 ?_
  refine kT 2 ?_
  refine kT 3 ?_
  refine kT 4 ?_
  refine kT 5 ?_
  refine rdA 6 rfl fun K hK=>?_
  go_simp
  refine (KF.o _ (bD _)).mono ?_
  rintro e W2 ⟨rfl,hb2⟩
  have hbz:=Ac ((Below.refl _ (W.alloc (ze #[O p1 q1 r1,O p2 q2 r2] 50))).drew) hb2
  have hr0:=HR.o.over hbz
  have hr1:=HRB.o.over hbz
  have hS2:Hh bw c W p1 q1 r1 p2 q2 r2 b i m1 m2 m3 m4 m5 m6 W2:=⟨hr0 0 _ rfl,hr0 1 _ rfl,hr0 2 _ rfl,hr0 3 _ rfl,hr0 4 _ rfl,hr0 5 _ rfl,hr0 6 _ rfl,hr0 7 _ rfl,hr0 8 _ rfl,hr0 9 _ rfl,hr1 0 _ rfl,hr1 1 _ rfl,Ab hbz _ _ l0,Ab hbz _ _ l1⟩
  have HBZ:=Aa hbz
  clear hr0 hr1 hb2 hbz
  go_simp
  refine xK hK (hS2) fun hHeld=>?_
  clear hK K
  refine rdA 7 rfl fun K hK=>?_
  go_simp
  refine xK hK (hS2) fun hHeld=>?_
  clear hK K
  refine gE ?_
  clear hS0 t0 t1 t2 t3 t4 t5 t6 t7 t8 t9 b0 b1
  obtain ⟨l0,l1⟩:=co2 HBZ.o l0 l1
  have t0:=HR.o.over HBZ.o 0 _ rfl
  have t1:=HR.o.over HBZ.o 1 _ rfl
  have t2:=HR.o.over HBZ.o 2 _ rfl
  have t3:=HR.o.over HBZ.o 3 _ rfl
  have t4:=HR.o.over HBZ.o 4 _ rfl
  have t5:=HR.o.over HBZ.o 5 _ rfl
  have t6:=HR.o.over HBZ.o 6 _ rfl
  have t7:=HR.o.over HBZ.o 7 _ rfl
  have t8:=HR.o.over HBZ.o 8 _ rfl
  have t9:=HR.o.over HBZ.o 9 _ rfl
  have b0:=HRB.o.over HBZ.o 0 _ rfl
  have b1:=HRB.o.over HBZ.o 1 _ rfl
  have hS0:Ks bw c W p1 q1 r1 p2 q2 r2 W2:=⟨t0,t1,t2,t3,t4,t5,t6,t7,t8,t9,b0,b1⟩
  clear hS2
  go_wp2_with fail
  refine gS (Ks bw c W p1 q1 r1 p2 q2 r2) (hS0) fun hHeld=>?_
  refine kT 0 ?_
  refine kT 1 ?_
  refine kT 2 ?_
  refine kT 3 ?_
  refine kT 4 ?_
  refine kT 6 ?_
  refine rdA 5 rfl fun K hK=>?_
  go_simp
  refine xK hK (hHeld) fun hHeld=>?_
  clear hK K
  refine rdA 7 rfl fun K hK=>?_
  go_simp
  refine (KJ.o W2.drew (Ac HBZ.o (bD _))).mono ?_
  rintro e W3 ⟨vj,rfl,hfr,hb3⟩
  have hfr2:Bh W2.drew W3 vj (Bp (st.at i) l c.n):=by simpa using hfr
  obtain ⟨k1,k2,k3,k4,k5,k6,hvj⟩:∃ a1 a2 a3 a4 a5 a6,vj=zh #[O a1 a2 a3,O a4 a5 a6]:=by
   obtain ⟨x,y,e,-⟩:=Ao hfr2
   subst e
   obtain ⟨z1,z2,z3,z4,z5,z6,rfl,rfl⟩:=AN (Ao hfr2)
   exact ⟨_,_,_,_,_,_,rfl⟩
  subst hvj
  have hbz:=Ac (Ac HBZ.o (bD W2)) hb3
  have hr0:=HR.o.over hbz
  have hr1:=HRB.o.over hbz
  have hS3:Ks bw c W p1 q1 r1 p2 q2 r2 W3:=⟨hr0 0 _ rfl,hr0 1 _ rfl,hr0 2 _ rfl,hr0 3 _ rfl,hr0 4 _ rfl,hr0 5 _ rfl,hr0 6 _ rfl,hr0 7 _ rfl,hr0 8 _ rfl,hr0 9 _ rfl,hr1 0 _ rfl,hr1 1 _ rfl⟩
  have HBZ3:=Aa hbz
  have HFR3:=Aa (show AW c.n (XI c bm) W3 (zh #[O k1 k2 k3,O k4 k5 k6]) (Bp (st.at i) l c.n) from ⟨Ao hfr2,Ds _ _ _,Cs (EJ c bm) hb3 (fun k hk=>by have:=(Nc HC.o HI.o k hk);have:=hb3.size;have:=HBZ.o.size;simp at *;omega) (BN hfr2)⟩)
  have x0:=Ab hbz _ _ L0.o
  have x1:=Ab hbz _ _ L1.o
  have xf0:W3.frozen? ⟨b,i.2*2,none⟩=false:=((Ap hbz).2 _ _ HBL.o).trans (HFZ.o _)
  have xf1:W3.frozen? ⟨b,i.2*2+1,none⟩=false:=((Ap hbz).2 _ _ HBL.o).trans (HFZ.o _)
  have mz3:W3.frozen? ⟨bm,0,none⟩=false:=((Ap hbz).2 _ _ HML.o).trans HMZ.o
  have mc3:=Ab hbz _ _ HMC.o
  clear hr0 hr1 hb3 hbz hfr hfr2
  go_simp
  refine xK hK (hS3) fun hHeld=>?_
  clear hK K
  refine rdA 8 rfl fun K hK=>?_
  go_simp
  refine xK hK (hS3) fun hHeld=>?_
  clear hK K
  refine rdA 9 rfl fun K hK=>?_
  go_simp
  refine xK hK (by have hne:=HBN.o;have hne2:=HBN2.o;obtain ⟨t0,t1,t2,t3,t4,t5,t6,t7,t8,t9,t10,t11⟩:=hS3;exact ⟨by simp [go_sem,t0],by simp [go_sem,t1],by simp [go_sem,t2],by simp [go_sem,t3],by simp [go_sem,t4],by simp [go_sem,t5],by simp [go_sem,t6],by simp [go_sem,t7],by simp [go_sem,t8],by simp [go_sem,t9],by simp [go_sem,t10],by simp [go_sem,t11]⟩) fun hHeld=>?_
  clear hK K
  refine gE ?_
  have hfin:=HC.o.upd HI.o HIB.o HBZ3.o HFR3.o HR1.o HR2.o
  have mc4:((W3.setCell ⟨b,i.2*2,none⟩ (O k1 k2 k3)).setCell ⟨b,i.2*2+1,none⟩ (O k4 k5 k6)).cell? ⟨bm,0,none⟩=some (zg st.more):=by
   have hne:=HNE.o
   simp [go_sem,mc3]
  have mz4:((W3.setCell ⟨b,i.2*2,none⟩ (O k1 k2 k3)).setCell ⟨b,i.2*2+1,none⟩ (O k4 k5 k6)).frozen? ⟨bm,0,none⟩=false:=by simp [go_sem,mz3]
  have HFIN:=Aa hfin
  clear hfin hS3 x0 x1 xf0 xf1 mc3 mz3
  go_wp2_with fail
  go_end0
  refine ⟨rfl,?_,HF0.o.trans HFIN.o.2⟩
  unfold BV
  rw [if_neg (by rw [HFB.o];simp)]
  exact HFIN.o.1
theorem LE {P:Nat->Prop}:∀ n,P n->∃ m,P m/\∀ k,P k->m<=k:=by
 intro n
 induction n using Nat.strongRecOn with
 | ind n ih=>
  intro h
  by_cases hx:∃ k,k < n/\P k
  ·obtain ⟨k,hk,hp⟩:=hx
   exact ih k hk hp
  ·exact ⟨n,h,fun k hk=>Nat.le_of_not_lt fun hlt=>hx ⟨k,hlt,hk⟩⟩
theorem Ka {α:Type} (P:α->Nat->Prop):∃ μ:α->Nat,∀ a n,P a n->P a (μ a)/\∀ k,P a k->μ a<=k:=by
 have h:∀ a,∃ m,∀ n,P a n->P a m/\∀ k,P a k->m<=k:=fun a=>by
  by_cases hx:∃ n,P a n
  ·obtain ⟨n,hn⟩:=hx
   obtain ⟨m,h1,h2⟩:=LE n hn
   exact ⟨m,fun _ _=>⟨h1,h2⟩⟩
  ·exact ⟨0,fun n hn=>absurd ⟨n,hn⟩ hx⟩
 exact ⟨fun a=>Classical.choose (h a),fun a=>Classical.choose_spec (h a)⟩
def BZ (n K kf:Nat) (known:List Bool) (ins:List Lev) (fs:List FnD) (main:List D) (st0:ISt):Nat->ISt
 | 0=>st0
 | k+1=>DJ n K kf known ins fs main ⟨(BZ n K kf known ins fs main st0 k).vs,(BZ n K kf known ins fs main st0 k).fs,false⟩
def Cb (gs:List (Int × Int)) (n:Nat) (vs:List (Bool × Lab)) (nf:Nat):ISt:=⟨Ce gs n vs,List.replicate nf (Bu n),true⟩
def Bw (n K kf:Nat) (gs:List (Int × Int)) (vs:List (Bool × Lab)) (ls:List Lab) (fs:List FnD) (main:List D) (st:ISt):Prop:=
 ∃ k,st=BZ n K kf (vs.map Prod.fst) (ls.map (Az (AB gs) n)) fs main (Cb gs n vs fs.length) (k+1)/\st.more=false/\∀ j,j < k->(BZ n K kf (vs.map Prod.fst) (ls.map (Az (AB gs) n)) fs main (Cb gs n vs fs.length) (j+1)).more=true
theorem NT {W:World} {B e s n:Nat} {a:Addr} {ln lc:Nat} {us:List Value} (h:W.ownsRow B e s (O (some a) ln lc) n us):a.off=0/\a.spot=none/\B<=a.block/\a.block < W.heap.size/\∀ j,W.frozen? ⟨a.block,j,none⟩=false:=by
 rcases h.2 with ⟨h,-⟩ | ⟨g,cap,cur,h,hb,hg,-⟩
 ·cases h
 ·injection h with h1 h2 h3
  injection h1 with h1
  subst h1
  exact ⟨rfl,rfl,hb,(Array.getElem?_eq_some_iff.1 hg).1,fun j=>by simp [World.frozen?,hg]⟩
theorem Fz {n B:Nat} {W:World} {a:Addr} {ln lc:Nat} {Ls:List Lev} (h:A0 n B W (O (some a) ln lc) Ls):a.off=0/\a.spot=none/\B<=a.block/\a.block < W.heap.size/\∀ j,W.frozen? ⟨a.block,j,none⟩=false:=by
 obtain ⟨us,ho,-⟩:=h
 exact NT ho
theorem D6 {n B:Nat} {X:World->Nat->Prop} {W:World} {v:Value} {Ls:List Lev} (n1:1<=n) (h:A0 n B W v Ls) (hx:∀ k,X W k->D5 W k\/W.heap.size<=k):Bb n X W v Ls:=by
 obtain ⟨us,ho,hel⟩:=h
 have hlen:=ho.1
 have key:∀ (u:Value) (l:List Bool),AP W u l->l.length=n->T4 W u->∀ a m c,u=O (some a) m c->¬ X W a.block:=by
  intro u l hb hl ht a m c hu hxx
  obtain ⟨cur,fr,he⟩:=ht a m c hu
  rcases hx _ hxx with h | h
  ·exact h cur fr he
  ·have:=(Array.getElem?_eq_some_iff.1 he).1
   omega
 have mk:∀ (x y:Value) (l:Lev),Em n W (zh #[x,y]) l->AW n X W (zh #[x,y]) l:=by
  intro x y l ht
  obtain ⟨x',y',e,tx,ty⟩:=ht.ty
  simp at e
  obtain ⟨rfl,rfl⟩:=e
  obtain ⟨x',y',e,bx,by'⟩:=ht.at_
  simp at e
  obtain ⟨rfl,rfl⟩:=e
  exact ⟨ht.at_,ht.len,x,y,rfl,key _ _ bx ht.len.1 tx,key _ _ by' ht.len.2 ty⟩
 rcases ho.2 with ⟨h,h0⟩ | ⟨g,cap,cur,h,hb,hg,hc1,hc2,hc3,hc4⟩
 ·have:Ls=[]:=List.eq_nil_of_length_eq_zero h0
  subst this
  exact ⟨none,0,h,fun h=>absurd rfl h⟩
 ·refine ⟨some ⟨g,0,none⟩,cap,h,fun hne=>⟨g,0,rfl,fun i hi=>?_⟩⟩
  obtain ⟨x,y,e0,e1,hl⟩:=hel i hi
  have hcell:∀ j u,us[j]? = some u->W.cell? ⟨g,0+j,none⟩=some u:=fun j u hu=>by
   rw [Nat.zero_add,Lib.cell_of_heap hg]
   rw [<-hc4,List.getElem?_take] at hu
   split at hu
   ·simpa using hu
   ·cases hu
  exact ⟨x,y,hcell _ _ e0,by have:=hcell _ _ e1;simpa [Nat.add_assoc] using this,mk x y _ hl⟩
theorem LP {fs:List FnD} {i:Int} (h0:0<=i) (h1:i < fs.length):EB fs i∈fs:=by
 unfold EB
 rw [List.getD_eq_getElem?_getD,List.getElem?_eq_getElem (by omega:i.toNat < fs.length)]
 exact List.getElem_mem _
theorem LH {K nv ni no:Nat} {funcs:Int} {fs:List FnD} {d:D} (h:CA K nv ni no funcs fs d) (hf:funcs<=fs.length) (hp:∀ f∈fs,∀ p∈f.ps,0<=p/\p < (nv:Int)):inR nv fs.length fs d:=by
 obtain ⟨-,hv,h2,-⟩:=h
 refine ⟨fun hk=>by have:=hv hk;omega,fun hk=>?_⟩
 obtain ⟨⟨a,b⟩,-,-⟩:=h2 hk
 refine ⟨by omega,fun v hv=>?_⟩
 have:=hp _ (LP a (by omega)) v hv
 omega
theorem J0 (n K kf nv ni no:Nat) (known:List Bool) (ins) (fs:List FnD) (main:List D) (st:ISt) (hof:∀ i (h:i < fs.length),okF K nv ni no (i:Int) fs kf fs[i]) (hom:∀ s∈main,okS K nv ni no (fs.length:Int) fs kf s) :
  Cz n nv fs.length st (DJ n K kf known ins fs main st):=by
 have hp:∀ f∈fs,∀ p∈f.ps,0<=p/\p < (nv:Int):=fun f hf=>by
  obtain ⟨i,hi,rfl⟩:=List.getElem_of_mem hf
  exact (hof i hi).2.1
 exact Fd n K ISt.vs _ (P:=fun _ _=>True) (Pm:=okS K nv ni no (fs.length:Int) fs) (P1:=inR nv fs.length fs) (fun k d h=>⟨LH h.1 (by omega) hp,h.2⟩) (Q:=fun i k d=>i<=fs.length/\okS K nv ni no (i:Int) fs k d)
  (fun i k d h=>⟨LH h.2.1 (by omega) hp,fun s hs=>⟨h.1,h.2.2.1 s hs⟩,fun s hs=>⟨h.1,h.2.2.2 s hs⟩⟩) (R:=Cz n nv fs.length) (Cz.refl n nv fs.length) Cz.trans (fun a d p st hd=>LV n nv fs.length K known ins fs a d p st hd) ISt.fs kf fs main st
  (fun i hi s hs=>⟨by omega,(hof i hi).2.2.1 s hs⟩) hom
theorem AW.mono {n:Nat} {X Y:World->Nat->Prop} {W:World} {v:Value} {l:Lev} (n1:1<=n) (h:AW n X W v l) (hx:∀ k,k < W.heap.size->Y W k->X W k):AW n Y W v l:=by
 obtain ⟨x,y,hv,h1,h2⟩:=h.off
 obtain ⟨x',y',hv',bx,by'⟩:=h.at_
 rw [hv] at hv'
 simp at hv'
 obtain ⟨rfl,rfl⟩:=hv'
 have lt:∀ (v:Value) (l:List Bool),AP W v l->l.length=n->∀ a m c,v=O (some a) m c->a.block < W.heap.size:=by
  intro v l hb hl a m c e
  obtain ⟨ao,cap,hv,hel⟩:=hb
  obtain ⟨b,off,hao,hel⟩:=hel (by rintro rfl;simp at hl;omega)
  rw [hv,hao] at e
  injection e with e1
  injection e1 with e1
  rw [<-e1]
  exact bL (hel 0 (by omega))
 exact ⟨h.at_,h.len,x,y,hv,fun a m c e hh=>h1 a m c e (hx _ (lt _ _ bx h.len.1 a m c e) hh),fun a m c e hh=>h2 a m c e (hx _ (lt _ _ by' h.len.2 a m c e) hh)⟩
theorem Bb.mono {n:Nat} {X Y:World->Nat->Prop} {W:World} {v:Value} {ls:List Lev} (n1:1<=n) (h:Bb n X W v ls) (hx:∀ k,k < W.heap.size->Y W k->X W k):Bb n Y W v ls:=by
 obtain ⟨ao,cap,hv,hel⟩:=h
 refine ⟨ao,cap,hv,fun hne=>?_⟩
 obtain ⟨b,off,hao,hel⟩:=hel hne
 refine ⟨b,off,hao,fun i hi=>?_⟩
 obtain ⟨rv,wv,h1,h2,h3⟩:=hel i hi
 exact ⟨rv,wv,h1,h2,h3.mono n1 hx⟩
theorem CN.setM {c:WC} {w0:World} {nv nf bw bm:Nat} {st:ISt} {W:World} {b:Bool} (n1:1<=c.n) (hC:EH c w0 bw bm) (h:CN c w0 nv nf bw bm st W):CN c w0 nv nf bw bm ⟨st.vs,st.fs,b⟩ (W.setCell ⟨bm,0,none⟩ (zg b)):=by
 have hsz:(W.setCell ⟨bm,0,none⟩ (zg b)).heap.size=W.heap.size:=by simp [World.setCell]
 have hblk:∀ k,k≠bm->(W.setCell ⟨bm,0,none⟩ (zg b)).heap[k]? = W.heap[k]?:=fun k hk=>Bi (Ne.symm hk) _
 have hF:FrW (XI c bm) W (W.setCell ⟨bm,0,none⟩ (zg b)):=⟨rfl,rfl,rfl,by omega,fun k _ hx=>hblk k (fun e=>hx (Or.inr (Or.inr e))),fun k _ hx=>hx⟩
 have cne:∀ b' o' u,b'≠bm->W.cell? ⟨b',o',none⟩=some u->(W.setCell ⟨bm,0,none⟩ (zg b)).cell? ⟨b',o',none⟩=some u:=fun b' o' u hm hc=>(World.cell?_of_block (a:=⟨b',o',none⟩) (hblk b' hm)).trans hc
 have fzz:∀ b' j,(W.setCell ⟨bm,0,none⟩ (zg b)).frozen? ⟨b',j,none⟩=W.frozen? ⟨b',j,none⟩:=fun b' j=>by simp [go_sem]
 refine ⟨h.below.setCell (p:=⟨bm,0,none⟩) hC.m.1 _,h.vs.keep n1 hF (fun b' o' ln cp hv j u hc=>?_),h.fs.keep n1 hF (fun b' o' ln cp hv j u hc=>?_),h.lv,h.lf,World.cell?_setCell_same _ _ _ h.more,(fzz _ _).trans h.mz,fun j u hu=>cne _ _ _ hC.m.2 (h.row j u hu),fun a e=>⟨by rw [hsz];exact (h.hl a e).1,fun j=>(fzz _ _).trans ((h.hl a e).2 j)⟩,fun a e=>⟨by rw [hsz];exact (h.hk a e).1,fun j=>(fzz _ _).trans ((h.hk a e).2 j)⟩⟩
 ·injection hv with v1
  exact cne _ _ _ (hC.la _ v1).2.2.2.2 hc
 ·injection hv with v1
  exact cne _ _ _ (hC.ka _ v1).2.2.2.2 hc
theorem CN.newM {c:WC} {w0:World} {nv nf bw bm:Nat} {st:ISt} {W:World} (n1:1<=c.n) (hC:EH c w0 bw bm) (h:CN c w0 nv nf bw bm st W):CN c w0 nv nf bw W.heap.size st (W.alloc (ze #[zg st.more] 4)):=by
 have hb:Ov W (W.alloc (ze #[zg st.more] 4)):=bA W _
 have hx:∀ k,k < W.heap.size->XI c W.heap.size W k->XI c bm W k:=fun k hk hx=>by
  rcases hx with h | h | h
  ·exact Or.inl h
  ·exact Or.inr (Or.inl h)
  ·omega
 exact ⟨h.below.trans (hb.mono h.below.size),(h.vs.mono n1 hx).over (EJ c _) hb,(h.fs.mono n1 hx).over (EJ c _) hb,h.lv,h.lf,by simp [go_sem],by simp [go_sem],h.row.over hb,
  fun a e=>⟨Nat.lt_of_lt_of_le (h.hl a e).1 hb.size,fun j=>((Ap hb).2 _ _ (h.hl a e).1).trans ((h.hl a e).2 j)⟩,fun a e=>⟨Nat.lt_of_lt_of_le (h.hk a e).1 hb.size,fun j=>((Ap hb).2 _ _ (h.hk a e).1).trans ((h.hk a e).2 j)⟩⟩
theorem EH.newM {c:WC} {w0:World} {nv nf bw bm:Nat} {st:ISt} {W:World} (hC:EH c w0 bw bm) (h:CN c w0 nv nf bw bm st W) (hw:bw < W.heap.size):EH c w0 bw W.heap.size:=
 ⟨fun a e=>by have:=hC.la a e;have h2:=(h.hl a e).1;exact ⟨this.1,this.2.1,this.2.2.1,this.2.2.2.1,by omega⟩,fun a e=>by have:=hC.ka a e;have h2:=(h.hk a e).1;exact ⟨this.1,this.2.1,this.2.2.1,this.2.2.2.1,by omega⟩,hC.lk,h.below.size,by omega⟩
theorem Eu {n:Nat} {X:World->Nat->Prop} {W:World} {rb:Nat} {x y v:Value} {Ls:List Lev} (h:Bb n X W v Ls) (hr:∀ j u,W.cell? ⟨rb,j,none⟩=some u->∃ a m c,u=O a m c) (hv:∀ a m c,v=O (some a) m c->a.block≠rb):Bd ((W.setCell ⟨rb,0,none⟩ x).setCell ⟨rb,1,none⟩ y) v Ls:=by
 have cne:∀ b' o' u,b'≠rb->W.cell? ⟨b',o',none⟩=some u->((W.setCell ⟨rb,0,none⟩ x).setCell ⟨rb,1,none⟩ y).cell? ⟨b',o',none⟩=some u:=fun b' o' u hm hc=>by
  rw [Bz (Or.inl (Ne.symm hm)),Bz (Or.inl (Ne.symm hm))];exact hc
 have hbo:∀ u l,AP W u l->AP ((W.setCell ⟨rb,0,none⟩ x).setCell ⟨rb,1,none⟩ y) u l:=by
  intro u l ⟨ao,cap,e,hel⟩
  refine ⟨ao,cap,e,fun hne=>?_⟩
  obtain ⟨b,off,hao,hel⟩:=hel hne
  refine ⟨b,off,hao,fun i hi=>cne _ _ _ (fun eb=>?_) (hel i hi)⟩
  subst eb
  obtain ⟨a,m,c,e⟩:=hr _ _ (hel i hi)
  cases e
 obtain ⟨ao,cap,hv',hel⟩:=h
 refine ⟨ao,cap,hv',fun hne=>?_⟩
 obtain ⟨b,off,hao,hel⟩:=hel hne
 have hb:b≠rb:=hv _ _ _ (by rw [hv',hao])
 refine ⟨b,off,hao,fun i hi=>?_⟩
 obtain ⟨rv,wv,h1,h2,h3⟩:=hel i hi
 obtain ⟨x',y',e,bx,by'⟩:=h3.at_
 exact ⟨rv,wv,cne _ _ _ hb h1,cne _ _ _ hb h2,x',y',e,hbo _ _ bx,hbo _ _ by'⟩
theorem Ht {n B:Nat} {W:World} {a:Option Addr} {ln lc:Nat} {Ls:List Lev} (h:A0 n B W (O a ln lc) Ls):a=none->lc=0:=by
 obtain ⟨us,ho,-⟩:=h
 intro e
 rcases ho.2 with ⟨h,-⟩ | ⟨g,cap,cur,h,-⟩
 ·injection h with h1 h2 h3
 ·injection h with h1 h2 h3
  rw [e] at h1
  cases h1
theorem LI (c:WC) {w1 w2:World} {Ls Fs:List Lev} {nv nf:Nat} (n1:1<=c.n) (hv:A0 c.n w1.heap.size w2 (O c.la c.ln c.lc) Ls) (hk:A0 c.n w1.heap.size w2 (O c.ka c.kn c.kc) Fs) (hap:Value.ownBlock (O c.la c.ln c.lc)=none\/Value.ownBlock (O c.la c.ln c.lc)≠Value.ownBlock (O c.ka c.kn c.kc)) (hb2:Ov w1 w2) (hlv:Ls.length=nv) (hlf:Fs.length=nf) :
  EH c w1 w2.heap.size (w2.heap.size+1)/\CN c w1 nv nf w2.heap.size (w2.heap.size+1) ⟨Ls,Fs,true⟩ ((w2.alloc (.cells c.cs.toArray 110)).alloc (ze #[zg true] 4)):=by
 have e1:∀ a,c.la=some a->a.off=0/\a.spot=none/\w1.heap.size<=a.block/\a.block < w2.heap.size/\(∀ j,w2.frozen? ⟨a.block,j,none⟩=false)/\D5 w2 a.block:=fun a e=>by
  rw [e] at hv
  obtain ⟨o1,o2,o3,o4,o5⟩:=Fz hv
  obtain ⟨-,cur,fr,hh⟩:=BX hv a.block (by simp [Value.ownBlock])
  exact ⟨o1,o2,o3,o4,o5,fun cur' fr' h'=>by rw [hh] at h';injection h' with h';injection h' with h1 h2;exact absurd h2 (by decide)⟩
 have e2:∀ a,c.ka=some a->a.off=0/\a.spot=none/\w1.heap.size<=a.block/\a.block < w2.heap.size/\(∀ j,w2.frozen? ⟨a.block,j,none⟩=false)/\D5 w2 a.block:=fun a e=>by
  rw [e] at hk
  obtain ⟨o1,o2,o3,o4,o5⟩:=Fz hk
  obtain ⟨-,cur,fr,hh⟩:=BX hk a.block (by simp [Value.ownBlock])
  exact ⟨o1,o2,o3,o4,o5,fun cur' fr' h'=>by rw [hh] at h';injection h' with h';injection h' with h1 h2;exact absurd h2 (by decide)⟩
 have hx:∀ k,XI c (w2.heap.size+1) w2 k->D5 w2 k\/w2.heap.size<=k:=fun k h=>by
  rcases h with ⟨a,e,rfl⟩ | ⟨a,e,rfl⟩ | rfl
  ·exact Or.inl (e1 a e).2.2.2.2.2
  ·exact Or.inl (e2 a e).2.2.2.2.2
  ·exact Or.inr (by omega)
 have hb:Ov w2 ((w2.alloc (.cells c.cs.toArray 110)).alloc (ze #[zg true] 4)):=(bA w2 _).alloc (by simp) _
 refine ⟨⟨fun a e=>?_,fun a e=>?_,fun a b ea eb=>?_,?_,by omega⟩,⟨Ac hb2 hb,(D6 n1 hv hx).over (EJ c _) hb,(D6 n1 hk hx).over (EJ c _) hb,hlv,hlf,?_,?_,?_,fun a e=>?_,fun a e=>?_⟩⟩
 ·obtain ⟨o1,o2,o3,o4,-⟩:=e1 a e;exact ⟨o1,o2,o3,by omega,by omega⟩
 ·obtain ⟨o1,o2,o3,o4,-⟩:=e2 a e;exact ⟨o1,o2,o3,by omega,by omega⟩
 ·rw [ea,eb] at hap
  rcases hap with h | h
  ·simp [Value.ownBlock] at h
  ·intro e;apply h;simp [Value.ownBlock,e]
 ·have:=hb2.size;omega
 ·simp [go_sem]
 ·simp [go_sem]
 ·exact (Ae.new c.cs 110 w2).over (bA _ _)
 ·obtain ⟨o1,o2,o3,o4,o5,-⟩:=e1 a e
  exact ⟨Nat.lt_of_lt_of_le o4 hb.size,fun j=>((Ap hb).2 _ _ o4).trans (o5 j)⟩
 ·obtain ⟨o1,o2,o3,o4,o5,-⟩:=e2 a e
  exact ⟨Nat.lt_of_lt_of_le o4 hb.size,fun j=>((Ap hb).2 _ _ o4).trans (o5 j)⟩
def OB (c:WC) (K kf:Nat) (gs:List (Int × Int)) (vs:List (Bool × Lab)) (ls:List Lab) (fs:List FnD) (l:List D) (w0:World) (bw:Nat) (x:Value × World) (N:Nat):Prop:=
 ∃ bm k,x.1=zj (some ⟨bm,0,none⟩)/\EH c w0 bw bm/\CN c w0 vs.length fs.length bw bm (BZ c.n K kf (vs.map Prod.fst) (ls.map (Az (AB gs) c.n)) fs l (Cb gs c.n vs fs.length) k) x.2/\bw < x.2.heap.size /\
  N=2*Dh c.n (BZ c.n K kf (vs.map Prod.fst) (ls.map (Az (AB gs) c.n)) fs l (Cb gs c.n vs fs.length) k)+(if (BZ c.n K kf (vs.map Prod.fst) (ls.map (Az (AB gs) c.n)) fs l (Cb gs c.n vs fs.length) k).more=true then 1 else 0) /\
  ∀ j,j < k->(BZ c.n K kf (vs.map Prod.fst) (ls.map (Az (AB gs) c.n)) fs l (Cb gs c.n vs fs.length) j).more=true
def He (K kf:Nat) (m:Int) (vn yn on:Nat) (gs:List (Int × Int)) (sp:List Int) (ls ms:List Lab) (vs:List (Bool × Lab)) (fs:List FnD) (l:List D) (P:Int->Prop) (w:World) (e:Ending) (w':World):Prop:=
 ∃ why:Int,P why/\Ov w w'/\((why≠0/\e=zk (zm #[zh #[O none 0 0,O none 0 0],U zd why])) \/
  (why=0/\okP K kf m vn yn on gs sp ls ms vs fs l/\∃ (n:Nat) (st:ISt) (la:Option Addr) (ln lc:Nat) (ka:Option Addr) (kn kc:Nat),m=n/\e=zk (zm #[zh #[O la ln lc,O ka kn kc],U zd 0])/\Bd w' (O la ln lc) st.vs/\Bd w' (O ka kn kc) st.fs/\(∀ x∈st.vs,x.len n)/\(∀ x∈st.fs,x.len n)/\st.vs.length=vn/\st.fs.length=fs.length/\Bw n K kf gs vs ls fs l st/\(la=none->lc=0)/\(ka=none->kc=0)))
theorem Mq (K kf n:Nat) (h1:1<=n) (h6:n<=6) (ga gn gc sa sn sc ya yn yc oa on oc va vn vc fa fn fc ba bn bc gs sp ls ms vs fs l) (w:World) (h:BC K kf (n:Int) ga gn gc sa sn sc ya yn yc oa on oc va vn vc fa fn fc ba bn bc gs sp ls ms vs fs l w)
  (P:Int->Prop) (KS:∀ W,Ov w W->Calls Tryz.prog 53 #[zh #[U zd (n:Int),O ga gn gc,O sa sn sc,O ya yn yc,O oa on oc,O va vn vc,O fa fn fc,O ba bn bc]] W fun e w'=>∃ why:Int,e=zk (U zd why)/\P why/\Ov W w') (hP:P 0->okP K kf (n:Int) vn yn on gs sp ls ms vs fs l) :
  Calls Tryz.prog 15 #[zh #[U zd (n:Int),O ga gn gc,O sa sn sc,O ya yn yc,O oa on oc,O va vn vc,O fa fn fc,O ba bn bc]] w (He K kf (n:Int) vn yn on gs sp ls ms vs fs l P w):=by
 obtain rfl:vn=vs.length:=by obtain ⟨-,a,c,he,-⟩:=h.vars;injection he
 obtain rfl:yn=ls.length:=by obtain ⟨-,a,c,he,-⟩:=h.ins;injection he
 obtain rfl:fn=fs.length:=by obtain ⟨-,a,c,he,-⟩:=h.funcs;injection he
 have hb0:Ov w ((w.alloc (ze #[U zd (n:Int),O ga gn gc,O sa sn sc,O ya ls.length yc,O oa on oc,O va vs.length vc,O fa fs.length fc,O ba bn bc] 31)).alloc (ze #[O none 0 0,O none 0 0] 44)):=(bA w _).alloc (by simp) _
 have K1:=Aa (KS _ hb0)
 have KL:=Aa fun W (hW:Ov w W) (hok:okP K kf (n:Int) vs.length ls.length on gs sp ls ms vs fs l)=>NX n h1 h6 ga gn gc sa sn sc ya ls.length yc oa on oc va vs.length vc fa fs.length fc ba bn bc gs vs W (Af h.grants hW) hok.chk (h.vars.over hW) hok.labs.2.1 hok.vars hok.funcs
 have rowP:Ae [U zd (n:Int),O ga gn gc,O sa sn sc,O ya ls.length yc,O oa on oc,O va vs.length vc,O fa fs.length fc,O ba bn bc] ((w.alloc (ze #[U zd (n:Int),O ga gn gc,O sa sn sc,O ya ls.length yc,O oa on oc,O va vs.length vc,O fa fs.length fc,O ba bn bc] 31)).alloc (ze #[O none 0 0,O none 0 0] 44)) w.heap.size:=(Ae.new [U zd (n:Int),O ga gn gc,O sa sn sc,O ya ls.length yc,O oa on oc,O va vs.length vc,O fa fs.length fc,O ba bn bc] 31 w).over (bA _ _)
 have heR:((w.alloc (ze #[U zd (n:Int),O ga gn gc,O sa sn sc,O ya ls.length yc,O oa on oc,O va vs.length vc,O fa fs.length fc,O ba bn bc] 31)).alloc (ze #[O none 0 0,O none 0 0] 44)).heap[w.heap.size+1]? = some (ze #[O none 0 0,O none 0 0] 44):=by
  have:=BG (w.alloc (ze #[U zd (n:Int),O ga gn gc,O sa sn sc,O ya ls.length yc,O oa on oc,O va vs.length vc,O fa fs.length fc,O ba bn bc] 31)) (ze #[O none 0 0,O none 0 0] 44)
  simpa using this
 have HP:=Aa hP
 have H:=Aa h
 obtain ⟨V0,hV0⟩:=nm (((w.alloc (ze #[U zd (n:Int),O ga gn gc,O sa sn sc,O ya ls.length yc,O oa on oc,O va vs.length vc,O fa fs.length fc,O ba bn bc] 31)).alloc (ze #[O none 0 0,O none 0 0] 44)))
 have hs0:V0.heap.size=w.heap.size+1+1:=by rw [hV0];simp
 rw [<-hV0] at hb0 rowP heR
 have HB0:=Aa hb0
 have HRP:=Aa rowP
 have HER:=Aa heR
 have HS0:=Aa hs0
 rw [hV0] at rowP
 obtain ⟨c0,c1,c2,c3,c4,c5,c6,c7⟩:=rc8 rowP
 clear hb0 rowP heR h hP hs0 KS
 go_enter Tryz.func15,Tryz.ntmps15
 go_wp2_with fail
 refine (K1.o).mono ?_
 rintro e w1 ⟨why,rfl,hPw,hb1⟩
 rw [<-hV0] at hb1
 clear c0 c1 c2 c3 c4 c5 c6 c7 K1
 have hRP1:=HRP.o.over hb1
 have heR1:w1.heap[w.heap.size+1]? = some (ze #[O none 0 0,O none 0 0] 44):=(hb1.block _ (by rw [HS0.o];omega)).trans HER.o
 have HB1:=Aa (Ac HB0.o (by simpa using hb1))
 have hsz1:w.heap.size+1+1<=w1.heap.size:=by have:=hb1.size;rw [HS0.o] at this;exact this
 have r0:w1.cell? ⟨w.heap.size+1,0,none⟩=some (O none 0 0):=by rw [Lib.cell_of_heap heR1];rfl
 have r1:w1.cell? ⟨w.heap.size+1,1,none⟩=some (O none 0 0):=by rw [Lib.cell_of_heap heR1];rfl
 have rz:∀ j,w1.frozen? ⟨w.heap.size+1,j,none⟩=false:=fun j=>by simp [World.frozen?,heR1]
 have HR1:=Aa heR1
 have HSZ1:=Aa hsz1
 by_cases hz:why=0
 ·subst hz
  have hok:=HP.o hPw
  have HOK:=Aa hok
  have HPW:=Aa hPw
  have KL1:=Aa (KL.o w1 HB1.o hok)
  obtain ⟨c0,c1,c2,c3,c4,c5,c6,c7⟩:=rc8 hRP1
  clear hok hPw hb1 hRP1 heR1 hV0 hsz1 KL HP
  go_wp2_with fail
  refine (KL1.o).mono ?_
  rintro e w2 ⟨la,ln,lc,ka,kn,kc,rfl,hv,hk,hap,hb2⟩
  have hS:=LI (⟨n,ga,gn,gc,sa,sn,sc,ya,ls.length,yc,oa,on,oc,va,vs.length,vc,fa,fs.length,fc,ba,bn,bc,la,ln,lc,ka,kn,kc⟩:WC) h1 hv hk hap hb2 (nv:=vs.length) (nf:=fs.length) (by simp [Ce]) (by simp)
  have HSt:=Aa hS
  have HNN:=Aa (And.intro (Ht hv) (Ht hk))
  have HB2:=Aa hb2
  have hPr:=H.o.over HB1.o
  have hok:=HOK.o
  have KA:Hx (∀ (bm:Nat) (st:ISt) (W:World),EH (⟨n,ga,gn,gc,sa,sn,sc,ya,ls.length,yc,oa,on,oc,va,vs.length,vc,fa,fs.length,fc,ba,bn,bc,la,ln,lc,ka,kn,kc⟩:WC) w1 w2.heap.size bm->CN (⟨n,ga,gn,gc,sa,sn,sc,ya,ls.length,yc,oa,on,oc,va,vs.length,vc,fa,fs.length,fc,ba,bn,bc,la,ln,lc,ka,kn,kc⟩:WC) w1 vs.length fs.length w2.heap.size bm st W->Calls Tryz.prog 55 #[zh #[U zd (n:Int),O ga gn gc,O sa sn sc,O ya ls.length yc,O oa on oc,O va vs.length vc,O fa fs.length fc,O ba bn bc,O la ln lc,O ka kn kc],.func (.func 56) #[] #[zj (some ⟨w2.heap.size,0,none⟩),zj (some ⟨bm,0,none⟩)]] W fun e W'=>e=zk (zm #[])/\CN (⟨n,ga,gn,gc,sa,sn,sc,ya,ls.length,yc,oa,on,oc,va,vs.length,vc,fa,fs.length,fc,ba,bn,bc,la,ln,lc,ka,kn,kc⟩:WC) w1 vs.length fs.length w2.heap.size bm (DJ n K kf (vs.map Prod.fst) (ls.map (Az (AB gs) n)) fs l st) W'/\FrW (XI (⟨n,ga,gn,gc,sa,sn,sc,ya,ls.length,yc,oa,on,oc,va,vs.length,vc,fa,fs.length,fc,ba,bn,bc,la,ln,lc,ka,kn,kc⟩:WC) bm) W W'):=fun bm st W hC hI=>
   LW (OD (c:=(⟨n,ga,gn,gc,sa,sn,sc,ya,ls.length,yc,oa,on,oc,va,vs.length,vc,fa,fs.length,fc,ba,bn,bc,la,ln,lc,ka,kn,kc⟩:WC)) h1 h6 hPr.grants hok.chk hok.vars hC) (BV n) MJ (Aa (MH (⟨n,ga,gn,gc,sa,sn,sc,ya,ls.length,yc,oa,on,oc,va,vs.length,vc,fa,fs.length,fc,ba,bn,bc,la,ln,lc,ka,kn,kc⟩:WC) w1 vs.length w2.heap.size bm fs gs h1 hPr.grants hok.chk hC)) vs hPr.vars rfl ls hPr.ins (fun b hb=>hok.labs.1 b (List.mem_append_left _ hb)) rfl hok.ins kf hPr.funcs hok.funcs hok.body l hPr.main hok.main hok.many st W hI
  have HBits:Hx (∀ st,Cz n vs.length fs.length st (DJ n K kf (vs.map Prod.fst) (ls.map (Az (AB gs) n)) fs l st)):=fun st=>J0 n K kf vs.length ls.length on _ _ fs l st hok.body hok.main
  obtain ⟨μ,hμ⟩:=Ka (OB (⟨n,ga,gn,gc,sa,sn,sc,ya,ls.length,yc,oa,on,oc,va,vs.length,vc,fa,fs.length,fc,ba,bn,bc,la,ln,lc,ka,kn,kc⟩:WC) K kf gs vs ls fs l w1 w2.heap.size)
  have HM:=Aa hμ
  clear hv hk hap hS hPr hok hμ hb2 c0 c1 c2 c3 c4 c5 c6 c7 KL1 r0 r1 rz
  go_wp2_with fail
  go_loopw [6] (fun x wr=>∃ N,OB (⟨n,ga,gn,gc,sa,sn,sc,ya,ls.length,yc,oa,on,oc,va,vs.length,vc,fa,fs.length,fc,ba,bn,bc,la,ln,lc,ka,kn,kc⟩:WC) K kf gs vs ls fs l w1 w2.heap.size (x,wr) N) (fun x wr=>μ (x,wr))
  case atStart=>exact ⟨_,w2.heap.size+1,0,rfl,HSt.o.1,HSt.o.2,by simp <;> omega,rfl,fun j hj=>absurd hj (by omega)⟩
  case round=>
   obtain ⟨N,hN⟩:=hrel
   obtain ⟨⟨bm,k,hx,hC,hI,hlt,hNe,hmore⟩,-⟩:=HM.o _ _ hN
   clear hN
   dsimp only at hx hI hlt
   subst hx
   have HNE:=Aa hNe
   have HMO:=Aa hmore
   have hI2:=hI
   by_cases hm:((BZ n K kf (vs.map Prod.fst) (ls.map (Az (AB gs) n)) fs l (Cb gs n vs fs.length) k)).more=true
   ·have m0:wr.cell? ⟨bm,0,none⟩=some (zg true):=by have:=hI.more;rw [<-hm];exact this
    have mz:wr.frozen? ⟨bm,0,none⟩=false:=hI.mz
    have hI1:=CN.setM (b:=false) h1 hC hI
    have KA1:=Aa (KA.o bm _ _ hC hI1)
    have HC:=Aa hC
    have HL:=Aa hlt
    have HMM:=Aa hm
    have rw0:Ae [U zd (n:Int),O ga gn gc,O sa sn sc,O ya ls.length yc,O oa on oc,O va vs.length vc,O fa fs.length fc,O ba bn bc,O la ln lc,O ka kn kc] (wr.setCell ⟨bm,0,none⟩ (zg false)) w2.heap.size:=hI1.row
    obtain ⟨c0,c1,c2,c3,c4,c5,c6,c7,c8,c9⟩:=B9 rw0
    have HLen:=Aa (And.intro hI1.lv hI1.lf)
    clear rw0 hI hI1 hI2 hNe hmore hlt hC hm
    go_wp2_with fail
    refine (KA1.o).mono ?_
    rintro e w3 ⟨rfl,hI3,hF3⟩
    clear c0 c1 c2 c3 c4 c5 c6 c7 c8 c9 m0 mz KA1
    have m0:=hI3.more
    have HI3:=Aa hI3
    have HF3:=Aa hF3
    clear hI3 hF3
    go_wp2_with fail
    have hsz:w2.heap.size < w3.heap.size:=by have h1:=HF3.o.size;have h2:=HL.o;simp [World.setCell] at h1;omega
    obtain ⟨-,b1,b2⟩:=HBits.o ⟨(BZ n K kf (vs.map Prod.fst) (ls.map (Az (AB gs) n)) fs l (Cb gs n vs fs.length) k).vs,(BZ n K kf (vs.map Prod.fst) (ls.map (Az (AB gs) n)) fs l (Cb gs n vs fs.length) k).fs,false⟩ HLen.o
    have hP:OB (⟨n,ga,gn,gc,sa,sn,sc,ya,ls.length,yc,oa,on,oc,va,vs.length,vc,fa,fs.length,fc,ba,bn,bc,la,ln,lc,ka,kn,kc⟩:WC) K kf gs vs ls fs l w1 w2.heap.size (zj (some ⟨w3.heap.size,0,none⟩),_) _:=⟨w3.heap.size,k+1,rfl,HC.o.newM HI3.o hsz,CN.newM h1 HC.o HI3.o,by simp <;> omega,rfl,fun j hj=>by
     by_cases hjk:j=k
     ·subst hjk;exact HMM.o
     ·exact HMO.o j (by omega)⟩
    refine ⟨⟨_,hP⟩,Nat.lt_of_le_of_lt ((HM.o _ _ hP).2 _ hP) ?_⟩
    rw [HNE.o,if_pos HMM.o]
    have hbe:Dh n ⟨(BZ n K kf (vs.map Prod.fst) (ls.map (Az (AB gs) n)) fs l (Cb gs n vs fs.length) k).vs,(BZ n K kf (vs.map Prod.fst) (ls.map (Az (AB gs) n)) fs l (Cb gs n vs fs.length) k).fs,false⟩=Dh n (BZ n K kf (vs.map Prod.fst) (ls.map (Az (AB gs) n)) fs l (Cb gs n vs fs.length) k):=rfl
    rw [hbe] at b1 b2
    show 2*Dh n (DJ n K kf (vs.map Prod.fst) (ls.map (Az (AB gs) n)) fs l ⟨(BZ n K kf (vs.map Prod.fst) (ls.map (Az (AB gs) n)) fs l (Cb gs n vs fs.length) k).vs,(BZ n K kf (vs.map Prod.fst) (ls.map (Az (AB gs) n)) fs l (Cb gs n vs fs.length) k).fs,false⟩)+(if (DJ n K kf (vs.map Prod.fst) (ls.map (Az (AB gs) n)) fs l ⟨(BZ n K kf (vs.map Prod.fst) (ls.map (Az (AB gs) n)) fs l (Cb gs n vs fs.length) k).vs,(BZ n K kf (vs.map Prod.fst) (ls.map (Az (AB gs) n)) fs l (Cb gs n vs fs.length) k).fs,false⟩).more=true then 1 else 0) < 2*Dh n (BZ n K kf (vs.map Prod.fst) (ls.map (Az (AB gs) n)) fs l (Cb gs n vs fs.length) k)+1
    split
    ·rename_i hmm
     rcases b2 hmm with h | h
     ·cases h
     ·omega
    ·omega
   ·have hmf:((BZ n K kf (vs.map Prod.fst) (ls.map (Az (AB gs) n)) fs l (Cb gs n vs fs.length) k)).more=false:=by simpa using hm
    have m0:wr.cell? ⟨bm,0,none⟩=some (zg false):=by have:=hI.more;rw [<-hmf];exact this
    have hblk:wr.heap[w.heap.size+1]? = some (ze #[O none 0 0,O none 0 0] 44):=(hI.below.block _ (by have:=HSZ1.o;omega)).trans HR1.o
    have r0:wr.cell? ⟨w.heap.size+1,0,none⟩=some (O none 0 0):=by rw [Lib.cell_of_heap hblk];rfl
    have r1:wr.cell? ⟨w.heap.size+1,1,none⟩=some (O none 0 0):=by rw [Lib.cell_of_heap hblk];rfl
    have rz:∀ j,wr.frozen? ⟨w.heap.size+1,j,none⟩=false:=fun j=>by simp [World.frozen?,hblk]
    have HBK:=Aa hblk
    have rw0:Ae [U zd (n:Int),O ga gn gc,O sa sn sc,O ya ls.length yc,O oa on oc,O va vs.length vc,O fa fs.length fc,O ba bn bc,O la ln lc,O ka kn kc] wr w2.heap.size:=hI.row
    have c8:=rw0 8 _ rfl
    have c9:=rw0 9 _ rfl
    have HI:=Aa hI
    have HC:=Aa hC
    have HMF:=Aa hmf
    clear rw0 hI hI2 hNe hmore hlt hC hm hmf hblk
    go_wp2_with fail
    have hBf:Ov w ((wr.setCell ⟨w.heap.size+1,0,none⟩ (O la ln lc)).setCell ⟨w.heap.size+1,1,none⟩ (O ka kn kc)):=((HB1.o.trans (HI.o.below.mono (by have:=HSZ1.o;omega))).setCell (p:=⟨w.heap.size+1,0,none⟩) (by simp) _).setCell (p:=⟨w.heap.size+1,1,none⟩) (by simp) _
    have hcr:∀ j u,wr.cell? ⟨w.heap.size+1,j,none⟩=some u->∃ a m c,u=O a m c:=fun j u hu=>by
     rw [Lib.cell_of_heap HBK.o] at hu
     match j,hu with
     | 0,hu=>simp at hu;exact ⟨_,_,_,hu.symm⟩
     | 1,hu=>simp at hu;exact ⟨_,_,_,hu.symm⟩
     | j+2,hu=>simp at hu
    have hL1:=Eu (x:=O la ln lc) (y:=O ka kn kc) HI.o.vs hcr (fun a m c e=>by injection e with e1;have:=(HC.o.la a e1).2.2.1;have:=HSZ1.o;omega)
    have hL2:=Eu (x:=O la ln lc) (y:=O ka kn kc) HI.o.fs hcr (fun a m c e=>by injection e with e1;have:=(HC.o.ka a e1).2.2.1;have:=HSZ1.o;omega)
    have hk0:k≠0:=fun e=>by have:=HMF.o;rw [e] at this;cases this
    obtain ⟨k',hk'⟩:=Nat.exists_eq_succ_of_ne_zero hk0
    refine bodyPost_ret (v:=zm #[zh #[O la ln lc,O ka kn kc],U zd 0]) (by simp [results,Tryz.results15,go_sem,r0,r1]) rfl ⟨0,HPW.o,hBf,Or.inr ⟨rfl,HOK.o,n,_,la,ln,lc,ka,kn,kc,rfl,rfl,hL1,hL2,HI.o.vs.len,HI.o.fs.len,HI.o.lv,HI.o.lf,⟨k',?_,HMF.o,fun j hj=>HMO.o (j+1) (by omega)⟩,HNN.o.1,HNN.o.2⟩⟩
    rw [hk']
 ·have HZ:=Aa hz
  have HPW:=Aa hPw
  clear hPw hb1 hRP1 heR1 hV0 hsz1 KL HP
  go_wp2_with fail
  refine bodyPost_ret (v:=zm #[zh #[O none 0 0,O none 0 0],U zd why]) ?_ rfl ⟨why,HPW.o,?_,Or.inl ⟨HZ.o,rfl⟩⟩
  ·simp [results,Tryz.results15,go_sem,r0,r1]
  ·exact (HB1.o.setCell (p:=⟨w.heap.size+1,0,none⟩) (by simp) _).setCell (p:=⟨w.heap.size+1,1,none⟩) (by simp) _
theorem Mr (K kf:Nat) (m:Int) (ga gn gc sa sn sc ya yn yc oa on oc va vn vc fa fn fc ba bn bc gs sp ls ms vs fs l) (w:World)
  (P:Int->Prop) (KS:∀ W,Ov w W->Calls Tryz.prog 53 #[zh #[U zd m,O ga gn gc,O sa sn sc,O ya yn yc,O oa on oc,O va vn vc,O fa fn fc,O ba bn bc]] W fun e w'=>∃ why:Int,e=zk (U zd why)/\P why/\Ov W w') (hP:¬ P 0) :
  Calls Tryz.prog 15 #[zh #[U zd m,O ga gn gc,O sa sn sc,O ya yn yc,O oa on oc,O va vn vc,O fa fn fc,O ba bn bc]] w (He K kf m vn yn on gs sp ls ms vs fs l P w):=by
 have hb0:Ov w ((w.alloc (ze #[U zd m,O ga gn gc,O sa sn sc,O ya yn yc,O oa on oc,O va vn vc,O fa fn fc,O ba bn bc] 31)).alloc (ze #[O none 0 0,O none 0 0] 44)):=(bA w _).alloc (by simp) _
 have K1:=Aa (KS _ hb0)
 have rowP:Ae [U zd m,O ga gn gc,O sa sn sc,O ya yn yc,O oa on oc,O va vn vc,O fa fn fc,O ba bn bc] ((w.alloc (ze #[U zd m,O ga gn gc,O sa sn sc,O ya yn yc,O oa on oc,O va vn vc,O fa fn fc,O ba bn bc] 31)).alloc (ze #[O none 0 0,O none 0 0] 44)) w.heap.size:=(Ae.new [U zd m,O ga gn gc,O sa sn sc,O ya yn yc,O oa on oc,O va vn vc,O fa fn fc,O ba bn bc] 31 w).over (bA _ _)
 have rowR:Ae [O none 0 0,O none 0 0] ((w.alloc (ze #[U zd m,O ga gn gc,O sa sn sc,O ya yn yc,O oa on oc,O va vn vc,O fa fn fc,O ba bn bc] 31)).alloc (ze #[O none 0 0,O none 0 0] 44)) (w.heap.size+1):=by
  have:=Ae.new [O none 0 0,O none 0 0] 44 (w.alloc (ze #[U zd m,O ga gn gc,O sa sn sc,O ya yn yc,O oa on oc,O va vn vc,O fa fn fc,O ba bn bc] 31))
  simpa using this
 have rf:∀ j,((w.alloc (ze #[U zd m,O ga gn gc,O sa sn sc,O ya yn yc,O oa on oc,O va vn vc,O fa fn fc,O ba bn bc] 31)).alloc (ze #[O none 0 0,O none 0 0] 44)).frozen? ⟨w.heap.size+1,j,none⟩=false:=fun j=>by simp [go_sem]
 have HB0:=Aa hb0
 have HRR:=Aa rowR
 have HRF:=Aa rf
 have HP:=Aa hP
 obtain ⟨c0,c1,c2,c3,c4,c5,c6,c7⟩:=rc8 rowP
 clear hb0 rowP rowR rf hP KS
 go_enter Tryz.func15,Tryz.ntmps15
 go_wp2_with fail
 refine (K1.o).mono ?_
 rintro e w1 ⟨why,rfl,hPw,hb1⟩
 have hrr:=HRR.o.over hb1
 obtain ⟨r0,r1⟩:=rc2 hrr
 have rz:∀ j,w1.frozen? ⟨w.heap.size+1,j,none⟩=false:=fun j=>((Ap hb1).2 _ _ (by simp)).trans (HRF.o j)
 have HB1:=Aa (Ac HB0.o hb1)
 have hz:why≠0:=fun e=>HP.o (e ▸ hPw)
 have HZ:=Aa hz
 have HPW:=Aa hPw
 clear hPw hb1 hrr c0 c1 c2 c3 c4 c5 c6 c7 K1
 go_wp2_with fail
 refine bodyPost_ret (v:=zm #[zh #[O none 0 0,O none 0 0],U zd why]) ?_ rfl ⟨why,HPW.o,?_,Or.inl ⟨HZ.o,rfl⟩⟩
 ·simp [results,Tryz.results15,go_sem,r0,r1]
 ·exact (HB1.o.setCell (p:=⟨w.heap.size+1,0,none⟩) (by simp) _).setCell (p:=⟨w.heap.size+1,1,none⟩) (by simp) _
theorem GU (K kf:Nat) (m:Int) (ga gn gc sa sn sc ya yn yc oa on oc va vn vc fa fn fc ba bn bc gs sp ls ms vs fs l) (w:World) (h:BC K kf m ga gn gc sa sn sc ya yn yc oa on oc va vn vc fa fn fc ba bn bc gs sp ls ms vs fs l w)
  (P:Int->Prop) (KS:∀ W,Ov w W->Calls Tryz.prog 53 #[zh #[U zd m,O ga gn gc,O sa sn sc,O ya yn yc,O oa on oc,O va vn vc,O fa fn fc,O ba bn bc]] W fun e w'=>∃ why:Int,e=zk (U zd why)/\P why/\Ov W w') (hP:P 0->okP K kf m vn yn on gs sp ls ms vs fs l) :
  Calls Tryz.prog 15 #[zh #[U zd m,O ga gn gc,O sa sn sc,O ya yn yc,O oa on oc,O va vn vc,O fa fn fc,O ba bn bc]] w (He K kf m vn yn on gs sp ls ms vs fs l P w):=by
 by_cases h0:P 0
 ·obtain ⟨n,rfl,n1,n6,-⟩:=DQ (hP h0).chk
  exact Mq K kf n n1 n6 ga gn gc sa sn sc ya yn yc oa on oc va vn vc fa fn fc ba bn bc gs sp ls ms vs fs l w h P KS hP
 ·exact Mr K kf m ga gn gc sa sn sc ya yn yc oa on oc va vn vc fa fn fc ba bn bc gs sp ls ms vs fs l w P KS h0
end Go.Proofs.YtfffpjkcfnekaaaGreat.Ex
namespace Go.Proofs.YtfffpjkcfnekaaaGreat.Ex.Ey
open Go.RowKit
open Go.Value renaming slice -> O, int -> U, bool -> zg, agg -> zh, pointer -> zj, tuple -> zm
open Go.IntKind renaming i64 -> zd
open Go.Obj renaming cells -> ze
open Go.Ending renaming returned -> zk
def C4 (ok:Prop) (w:World) (e:Ending) (w':World):Prop:=((ok/\e=zk (zm #[]))\/(¬ ok/\∃ why:Int,why≠0/\e=AA why))/\Ov w w'
theorem C4.imp {p q:Prop} {w:World} {e:Ending} {w':World} (h:C4 p w e w') (hpq:p ↔ q):C4 q w e w':=by
 have:p=q:=propext hpq
 subst this
 exact h
theorem B2 (K:Nat) (m:Int) (ga gn gc sa sn sc ya yn yc oa on oc va vn vc fa fn fc ba bn bc) (cs:List Value) (d) (w:World) (h:RX w K cs d) (hv:vn<=9223372036854775807):Calls Tryz.prog 219 #[zh #[U zd m,O ga gn gc,O sa sn sc,O ya yn yc,O oa on oc,O va vn vc,O fa fn fc,O ba bn bc],.agg cs.toArray] w (C4 (AZ vn K d=0) w):=by
 have K1:=Aa fun W hB=>check_any K cs d W (vn:Int) (by omega) (by omega) (h.over hB)
 have K2:=Aa Fy
 obtain ⟨xa,xc,rfl⟩:=h.form
 obtain ⟨ek,hek⟩:=nm (AH d)
 obtain ⟨en,hen⟩:=nm (Ba d)
 obtain ⟨xl,hxl⟩:=nm ((AF d).length)
 rw [<-hek,<-hen,<-hxl] at K1 ⊢
 clear hek hen hxl h
 obtain ⟨r,hr⟩:=nm (AZ vn K d)
 rw [<-hr] at K1 ⊢
 clear hr
 have hbel:Ov w ((w.alloc (ze #[U zd m,O ga gn gc,O sa sn sc,O ya yn yc,O oa on oc,O va vn vc,O fa fn fc,O ba bn bc] 184)).alloc (ze #[U zd ek,U zd en,O xa xl xc] 94)):=(bA w _).alloc (by simp) _
 show Calls Tryz.prog 219 #[zh #[U zd m,O ga gn gc,O sa sn sc,O ya yn yc,O oa on oc,O va vn vc,O fa fn fc,O ba bn bc],zh #[U zd ek,U zd en,O xa xl xc]] w _
 go_enter Tryz.func219,Tryz.ntmps219
 go_wp2_with fail
 refine (K1.o _ hbel).mono ?_
 rintro e w1 ⟨rfl,hb1⟩
 have hB1:=hbel.trans (hb1.mono hbel.size)
 go_wp2_with fail
 refine (K2.o _ _).mono ?_
 rintro e wz ⟨he,rfl⟩
 rcases he with ⟨h0,rfl⟩ | ⟨h0,rfl⟩
 ·have h1:r=0:=by simpa using h0
  clear h0
  subst h1
  go_wp2_with fail
  go_end0
  exact ⟨Or.inl ⟨by first | rfl | trivial,rfl⟩,hB1⟩
 ·have h1:r≠0:=by simpa using h0
  unfold AA
  go_wp2_with fail
  exact ⟨rfl,Or.inr ⟨by first | exact h1 | simp,r,h1,rfl⟩,hB1⟩
theorem EU {w w0 w1:World} {a0 a1 a2 a3 a4 a5 a6 a7 a8 a9 a10:Addr} {v0 v1 v2 v3 v4 v5 v6 v7 v8 v9 v10:Value}
  (h:w0.cell? a0=some v0/\w0.cell? a1=some v1/\w0.cell? a2=some v2/\w0.cell? a3=some v3/\w0.cell? a4=some v4/\w0.cell? a5=some v5/\w0.cell? a6=some v6/\w0.cell? a7=some v7/\w0.cell? a8=some v8/\w0.cell? a9=some v9/\w0.cell? a10=some v10/\Ov w w0) (hb:Ov w0 w1) :
  w1.cell? a0=some v0/\w1.cell? a1=some v1/\w1.cell? a2=some v2/\w1.cell? a3=some v3/\w1.cell? a4=some v4/\w1.cell? a5=some v5/\w1.cell? a6=some v6/\w1.cell? a7=some v7/\w1.cell? a8=some v8/\w1.cell? a9=some v9/\w1.cell? a10=some v10/\Ov w w1:=by
 obtain ⟨h0,h1,h2,h3,h4,h5,h6,h7,h8,h9,h10,hB⟩:=h
 exact ⟨Ab hb _ _ h0,Ab hb _ _ h1,Ab hb _ _ h2,Ab hb _ _ h3,Ab hb _ _ h4,Ab hb _ _ h5,Ab hb _ _ h6,Ab hb _ _ h7,Ab hb _ _ h8,Ab hb _ _ h9,Ab hb _ _ h10,hB.trans (hb.mono hB.size)⟩
theorem NG (K k:Nat) (fs de das) (funcs:Int) (m:Int) (ga gn gc sa sn sc) (ya:Option Addr) (yn yc:Nat) (oa:Option Addr) (on oc:Nat) (va:Option Addr) (vn vc:Nat) (fa fn fc ba bn bc) (vr ot ek en:Int) (xa xl xc aa al ac ta tl tc ea el ec) (w:World) (hv:vn<=9223372036854775807) (i1:Ch vr) (i2:Ch ot) (h0f:0<=funcs) (h1f:funcs<=9223372036854775807) (hyl:yn<=9223372036854775807) (hol:on<=9223372036854775807)
  (hde:RX w K [U zd ek,U zd en,O xa xl xc] de) (hda:XS 3 (RX w K) w (O aa al ac) das) (hfs:BA w K k (O fa fn fc) fs) (hff:funcs<=fs.length) :
  Calls Tryz.prog 220 #[zh #[U zd m,O ga gn gc,O sa sn sc,O ya yn yc,O oa on oc,O va vn vc,O fa fn fc,O ba bn bc],zh #[U zd 3,U zd vr,U zd ot,U zd ek,U zd en,O xa xl xc,O aa al ac,O ta tl tc,O ea el ec],U zd funcs] w (C4 ((0<=vr/\vr < vn)/\(0<=ot/\ot < (yn:Int))/\(ek=0/\en=0/\xl=0)/\(al=0)/\(tl=0)/\(el=0)) w):=by
 obtain ⟨Q,hQ⟩:∃ Q:Prop,Q=((0<=vr/\vr < vn)/\(0<=ot/\ot < (yn:Int))/\(ek=0/\en=0/\xl=0)/\(al=0)/\(tl=0)/\(el=0)):=⟨_,rfl⟩
 rw [<-hQ]
 have HQ:Hx (((0<=vr/\vr < vn)/\(0<=ot/\ot < (yn:Int))/\(ek=0/\en=0/\xl=0)/\(al=0)/\(tl=0)/\(el=0))->Q):=Aa (fun p=>by rw [hQ];exact p)
 have N1:Hx (¬ (0<=vr/\vr < vn)->¬ Q):=Aa (fun h p=>by rw [hQ] at p;exact h p.1)
 have N2:Hx (¬ (0<=ot/\ot < (yn:Int))->¬ Q):=Aa (fun h p=>by rw [hQ] at p;exact h p.2.1)
 have N3:Hx (¬ (ek=0/\en=0/\xl=0)->¬ Q):=Aa (fun h p=>by rw [hQ] at p;exact h p.2.2.1)
 have N4:Hx (¬ (al=0)->¬ Q):=Aa (fun h p=>by rw [hQ] at p;exact h p.2.2.2.1)
 have N5:Hx (¬ (tl=0)->¬ Q):=Aa (fun h p=>by rw [hQ] at p;exact h p.2.2.2.2.1)
 have N6:Hx (¬ (el=0)->¬ Q):=Aa (fun h p=>by rw [hQ] at p;exact h p.2.2.2.2.2)
 clear hQ
 have K1:=Aa Lp
 have K2:=Aa BR
 have K3:=Aa Bn
 have K4:=Aa fun W=>Ca 3 funcs m ga gn gc sa sn sc ya yn yc oa on oc va vn vc fa fn fc ba bn bc W
 simp only [Int.reduceEq,if_true,if_false] at K4
 have K5:=Aa fun W (hB:Ov w W)=>B2 K m ga gn gc sa sn sc ya yn yc oa on oc va vn vc fa fn fc ba bn bc _ _ W (hde.over hB) hv
 have hal:al<=9223372036854775807/\al=das.length:=⟨by obtain ⟨hm,ao,cap,he,-⟩:=hda;injection he with e1 e2 e3;rw [e2];exact hm,by obtain ⟨hm,ao,cap,he,-⟩:=hda;injection he⟩
 obtain ⟨hal,hale⟩:=hal
 have HAL:=Aa hale
 obtain ⟨i1,i1'⟩:=i1
 obtain ⟨i2,i2'⟩:=i2
 clear hde hda hfs hale
 obtain ⟨c0,c1,c2,c3,c4,c5,c6,c7⟩:=rc8 (E4 w [U zd m,O ga gn gc,O sa sn sc,O ya yn yc,O oa on oc,O va vn vc,O fa fn fc,O ba bn bc] 184 (ze #[U zd 3,U zd vr,U zd ot,U zd ek,U zd en,O xa xl xc,O aa al ac,O ta tl tc,O ea el ec] 130))
 obtain ⟨s0,s1,s2,s3,s4,s5,s6,s7,s8⟩:=rc9 (Fk w (ze #[U zd m,O ga gn gc,O sa sn sc,O ya yn yc,O oa on oc,O va vn vc,O fa fn fc,O ba bn bc] 184) [U zd 3,U zd vr,U zd ot,U zd ek,U zd en,O xa xl xc,O aa al ac,O ta tl tc,O ea el ec] 130)
 have hbel:Ov w ((w.alloc (ze #[U zd m,O ga gn gc,O sa sn sc,O ya yn yc,O oa on oc,O va vn vc,O fa fn fc,O ba bn bc] 184)).alloc (ze #[U zd 3,U zd vr,U zd ot,U zd ek,U zd en,O xa xl xc,O aa al ac,O ta tl tc,O ea el ec] 130)):=(bA w _).alloc (by simp) _
 go_enter Tryz.func220,Tryz.ntmps220
 go_wp2_with fail
 refine (K1.o _).mono ?_
 rintro e w1 ⟨rfl,hb1⟩
 have hB1:=hbel.trans (hb1.mono hbel.size)
 have hb2:=Ac hb1 (bA w1 (ze #[zg true,zg true,zg false,zg false,zg false,zg false] 288))
 have hB2:=hbel.trans (hb2.mono hbel.size)
 obtain ⟨c0a,c1a,c2a,c3a,c4a,c5a,c6a,c7a,s0a,s1a⟩:=Cy hb2 c0 c1 c2 c3 c4 c5 c6 c7 s0 s1
 obtain ⟨s2a,s3a,s4a,s5a,s6a,s7a,s8a⟩:=co7 hb2 s2 s3 s4 s5 s6 s7 s8
 obtain ⟨h0a,h1a,h2a,h3a,h4a,h5a⟩:=rc6 (CK w1 [zg true,zg true,zg false,zg false,zg false,zg false] 288)
 clear hb1 hb2 hbel hB1 c0 c1 c2 c3 c4 c5 c6 c7 s0 s1 s2 s3 s4 s5 s6 s7 s8
 go_wp2_with fail
 refine (K2.o _ _ _).mono ?_
 rintro e wz ⟨he,rfl⟩
 have he2:=orT he
 subst he2
 clear he
 go_wp2_with fail
 refine (K3.o _ _ _).mono ?_
 rintro e wz ⟨rfl,rfl⟩
 go_wp2_with fail
 refine (K2.o _ _ _).mono ?_
 rintro e wz ⟨he,rfl⟩
 rcases he with ⟨hvar,rfl⟩ | ⟨hz,rfl⟩
 rotate_left
 ·skip
  have HN:=nO N1 N2 N3 N4 N5 N6 hz
  clear hz
  unfold AA
  go_wp2_with fail
  exact ⟨rfl,Or.inr ⟨HN.o,5,by decide,rfl⟩,hB2⟩
 have hvar2:0<=vr/\vr < vn:=by simpa using hvar
 have HVAR:=Aa hvar2
 clear hvar hvar2
 go_wp2_with fail
 have hr0:=Below.refl (w1.alloc (ze #[zg true,zg true,zg false,zg false,zg false,zg false] 288)).heap.size (w1.alloc (ze #[zg true,zg true,zg false,zg false,zg false,zg false] 288))
 obtain ⟨ob,hob⟩:=nm (decide (0<=ot/\ot < (yn:Int)))
 have K3o:=Aa fun W=>Bn ot (yn:Int) W
 rw [<-hob] at K3o
 have HOB:=Aa hob
 clear hob
 cases ob with
 | false=>
  have HNO:=Aa (N2.o (by have hq:=HOB.o;simp at hq;omega))
  go_region_held2 (fun W=>W.cell? ⟨w.heap.size,0,none⟩=some (U zd m)/\W.cell? ⟨w.heap.size,1,none⟩=some (O ga gn gc)/\W.cell? ⟨w.heap.size,2,none⟩=some (O sa sn sc)/\W.cell? ⟨w.heap.size,3,none⟩=some (O ya yn yc)/\W.cell? ⟨w.heap.size,4,none⟩=some (O oa on oc)/\W.cell? ⟨w.heap.size,5,none⟩=some (O va vn vc)/\W.cell? ⟨w.heap.size,6,none⟩=some (O fa fn fc)/\W.cell? ⟨w.heap.size,7,none⟩=some (O ba bn bc)/\W.cell? ⟨w.heap.size+1,0,none⟩=some (U zd 3)/\W.cell? ⟨w.heap.size+1,2,none⟩=some (U zd ot)/\W.cell? ⟨w1.heap.size,1,none⟩=some (zg true)/\Ov (w1.alloc (ze #[zg true,zg true,zg false,zg false,zg false,zg false] 288)) W) (first | assumption | exact ⟨c0a,c1a,c2a,c3a,c4a,c5a,c6a,c7a,s0a,s2a,h1a,below_drewN hr0 1⟩ | exact EU (by assumption) hbp | fail) (first | (go_at_call 244;refine (K4.o _).mono ?_;rintro e wp ⟨rfl,hbp⟩) | (go_at_call 173;refine (K3o.o _).mono ?_;rintro e wq ⟨rfl,rfl⟩) | (go_at_call 172;refine (K2.o false 5 _).mono ?_;rintro e wq ⟨he,rfl⟩;rcases he with ⟨hb,rfl⟩ | ⟨hb,rfl⟩;rotate_left;exact ⟨rfl,Or.inr ⟨HNO.o,5,by decide,rfl⟩,hB2.trans ((by assumption:_/\_/\_/\_/\_/\_/\_/\_/\_/\_/\_/\Below _ _ _).2.2.2.2.2.2.2.2.2.2.2.mono hB2.size)⟩;have hbad:=Aa hb;clear hb))
  exact absurd hbad.o (by simp)
 | true=>
  have hot:0<=ot/\ot < (yn:Int):=by simpa using HOB.o.symm
  have HOT:=Aa hot
  clear hot
  go_region_held3 (fun W=>W.cell? ⟨w.heap.size,0,none⟩=some (U zd m)/\W.cell? ⟨w.heap.size,1,none⟩=some (O ga gn gc)/\W.cell? ⟨w.heap.size,2,none⟩=some (O sa sn sc)/\W.cell? ⟨w.heap.size,3,none⟩=some (O ya yn yc)/\W.cell? ⟨w.heap.size,4,none⟩=some (O oa on oc)/\W.cell? ⟨w.heap.size,5,none⟩=some (O va vn vc)/\W.cell? ⟨w.heap.size,6,none⟩=some (O fa fn fc)/\W.cell? ⟨w.heap.size,7,none⟩=some (O ba bn bc)/\W.cell? ⟨w.heap.size+1,0,none⟩=some (U zd 3)/\W.cell? ⟨w.heap.size+1,2,none⟩=some (U zd ot)/\W.cell? ⟨w1.heap.size,1,none⟩=some (zg true)/\Ov (w1.alloc (ze #[zg true,zg true,zg false,zg false,zg false,zg false] 288)) W) (first | assumption | exact ⟨c0a,c1a,c2a,c3a,c4a,c5a,c6a,c7a,s0a,s2a,h1a,below_drewN hr0 1⟩ | exact EU (by assumption) hbp | fail) (first | (go_at_call 244;refine (K4.o _).mono ?_;rintro e wp ⟨rfl,hbp⟩) | (go_at_call 173;refine (K3o.o _).mono ?_;rintro e wq ⟨rfl,rfl⟩) | (go_at_call 172;refine (BJ 5 _).mono ?_;rintro e wq ⟨rfl,rfl⟩))
  have hb2:=(by assumption:_/\_/\_/\_/\_/\_/\_/\_/\_/\_/\_/\Below _ _ _).2.2.2.2.2.2.2.2.2.2.2
  have hB3:=hB2.trans (hb2.mono hB2.size)
  obtain ⟨c0b,c1b,c2b,c3b,c4b,c5b,c6b,c7b,s0b,s1b⟩:=Cy hb2 c0a c1a c2a c3a c4a c5a c6a c7a s0a s1a
  obtain ⟨s2b,s3b,s4b,s5b,s6b,s7b,s8b,h0b,h1b,h2b⟩:=Cy hb2 s2a s3a s4a s5a s6a s7a s8a h0a h1a h2a
  obtain ⟨h3b,h4b,h5b⟩:=co3 hb2 h3a h4a h5a
  clear hb2 hB2 hr0 c0a c1a c2a c3a c4a c5a c6a c7a s0a s1a s2a s3a s4a s5a s6a s7a s8a h0a h1a h2a h3a h4a h5a
  go_wp2_with fail
  refine (K2.o _ _ _).mono ?_
  rintro e wz ⟨he,rfl⟩
  have he2:=orT he
  subst he2
  clear he
  go_wp2_with fail
  refine (K2.o _ _ _).mono ?_
  rintro e wz ⟨he,rfl⟩
  have he2:=orT he
  subst he2
  clear he
  by_cases z1:ek=0
  rotate_left
  ·have zb:(ek == 0)=false:=by simpa using z1
   have HN:=Aa (N3.o (by omega))
   go_wp2_with fail
   refine (K2.o _ _ _).mono ?_
   rintro e wz ⟨he,rfl⟩
   have he2:e=AA 1:=by
    rcases he with ⟨he,_⟩ | ⟨_,he⟩
    ·cases he
    ·exact he
   subst he2
   clear he
   unfold AA
   go_wp2_with fail
   exact ⟨rfl,Or.inr ⟨HN.o,1,by decide,rfl⟩,hB3⟩
  have zb1:(ek == 0)=true:=by simpa using z1
  have HZ1:=Aa z1
  clear z1
  by_cases z2:en=0
  rotate_left
  ·have zb:(en == 0)=false:=by simpa using z2
   have HN:=Aa (N3.o (by omega))
   go_wp2_with fail
   refine (K2.o _ _ _).mono ?_
   rintro e wz ⟨he,rfl⟩
   have he2:e=AA 1:=by
    rcases he with ⟨he,_⟩ | ⟨_,he⟩
    ·cases he
    ·exact he
   subst he2
   clear he
   unfold AA
   go_wp2_with fail
   exact ⟨rfl,Or.inr ⟨HN.o,1,by decide,rfl⟩,hB3⟩
  have zb2:(en == 0)=true:=by simpa using z2
  have HZ2:=Aa z2
  clear z2
  go_wp2_with fail
  refine (K2.o _ _ _).mono ?_
  rintro e wz ⟨he,rfl⟩
  rcases he with ⟨hz,rfl⟩ | ⟨hz,rfl⟩
  rotate_left
  ·skip
   have HN:=nO N1 N2 N3 N4 N5 N6 hz
   clear hz
   unfold AA
   go_wp2_with fail
   exact ⟨rfl,Or.inr ⟨HN.o,1,by decide,rfl⟩,hB3⟩
  have hxl0:xl=0:=by simp at hz;omega
  have HXL:=Aa hxl0
  clear hz hxl0
  go_wp2_with fail
  refine (K2.o _ _ _).mono ?_
  rintro e wz ⟨he,rfl⟩
  rcases he with ⟨hargs,rfl⟩ | ⟨hz,rfl⟩
  rotate_left
  ·skip
   have HN:=nO N1 N2 N3 N4 N5 N6 hz
   clear hz
   unfold AA
   go_wp2_with fail
   exact ⟨rfl,Or.inr ⟨HN.o,1,by decide,rfl⟩,hB3⟩
  have hal0:al=0:=by simp at hargs;omega
  subst hal0
  clear hargs
  go_wp2_with fail
  refine (K2.o _ _ _).mono ?_
  rintro e wz ⟨he,rfl⟩
  rcases he with ⟨hz,rfl⟩ | ⟨hz,rfl⟩
  rotate_left
  ·skip
   have HN:=nO N1 N2 N3 N4 N5 N6 hz
   clear hz
   unfold AA
   go_wp2_with fail
   exact ⟨rfl,Or.inr ⟨HN.o,1,by decide,rfl⟩,hB3⟩
  have HZ_1:=Aa hz
  clear hz
  go_wp2_with fail
  refine (K2.o _ _ _).mono ?_
  rintro e wz ⟨he,rfl⟩
  rcases he with ⟨hz,rfl⟩ | ⟨hz,rfl⟩
  rotate_left
  ·skip
   have HN:=nO N1 N2 N3 N4 N5 N6 hz
   clear hz
   unfold AA
   go_wp2_with fail
   exact ⟨rfl,Or.inr ⟨HN.o,1,by decide,rfl⟩,hB3⟩
  have HZ_2:=Aa hz
  clear hz
  go_wp2_with fail
  go_quiet ((go_at_call 172;exact Calls.quiet_of_same (BJ _ _)))
  obtain ⟨c0q,c1q,c2q,c3q,c4q,c5q,c6q,c7q,s0q,s1q⟩:=CJ (n:=nq) c0b c1b c2b c3b c4b c5b c6b c7b s0b s1b
  obtain ⟨s2q,s3q,s4q,s5q,s6q,s7q,s8q,h0q,h1q,h2q⟩:=CJ (n:=nq) s2b s3b s4b s5b s6b s7b s8b h0b h1b h2b
  obtain ⟨h3q,h4q,h5q⟩:=cn3 (n:=nq) h3b h4b h5b
  have hBq:=below_drewN hB3 nq
  clear c0b c1b c2b c3b c4b c5b c6b c7b s0b s1b s2b s3b s4b s5b s6b s7b s8b h0b h1b h2b h3b h4b h5b
  go_wp2_with fail
  go_loopw [138] (fun i wr=>i=U zd 0/\Ov w wr) (fun _ _=>0)
  case atStart=>exact ⟨rfl,hBq⟩
  case round=>
   obtain ⟨rfl,hB⟩:=hrel
   go_wp2_with fail
   go_end0
   refine ⟨Or.inl ⟨HQ.o ⟨?_,?_,?_,?_,?_,?_⟩,rfl⟩,hB⟩
   all_goals first | trivial | exact HVAR.o | exact HOT.o | exact HEX.o | exact ⟨HZ1.o,HZ2.o,HXL.o⟩ | (have hq:=HZ_1.o;simp at hq;omega) | (have hq:=HZ_2.o;simp at hq;omega) | omega
theorem NF (K k:Nat) (fs de das) (funcs:Int) (m:Int) (ga gn gc sa sn sc) (ya:Option Addr) (yn yc:Nat) (oa:Option Addr) (on oc:Nat) (va:Option Addr) (vn vc:Nat) (fa fn fc ba bn bc) (vr ot ek en:Int) (xa xl xc aa al ac ta tl tc ea el ec) (w:World) (hv:vn<=9223372036854775807) (i1:Ch vr) (i2:Ch ot) (h0f:0<=funcs) (h1f:funcs<=9223372036854775807) (hyl:yn<=9223372036854775807) (hol:on<=9223372036854775807)
  (hde:RX w K [U zd ek,U zd en,O xa xl xc] de) (hda:XS 3 (RX w K) w (O aa al ac) das) (hfs:BA w K k (O fa fn fc) fs) (hff:funcs<=fs.length) :
  Calls Tryz.prog 220 #[zh #[U zd m,O ga gn gc,O sa sn sc,O ya yn yc,O oa on oc,O va vn vc,O fa fn fc,O ba bn bc],zh #[U zd 4,U zd vr,U zd ot,U zd ek,U zd en,O xa xl xc,O aa al ac,O ta tl tc,O ea el ec],U zd funcs] w (C4 ((vr=0)/\(0<=ot/\ot < (on:Int))/\(AZ vn K de=0)/\(al=0)/\(tl=0)/\(el=0)) w):=by
 obtain ⟨Q,hQ⟩:∃ Q:Prop,Q=((vr=0)/\(0<=ot/\ot < (on:Int))/\(AZ vn K de=0)/\(al=0)/\(tl=0)/\(el=0)):=⟨_,rfl⟩
 rw [<-hQ]
 have HQ:Hx (((vr=0)/\(0<=ot/\ot < (on:Int))/\(AZ vn K de=0)/\(al=0)/\(tl=0)/\(el=0))->Q):=Aa (fun p=>by rw [hQ];exact p)
 have N1:Hx (¬ (vr=0)->¬ Q):=Aa (fun h p=>by rw [hQ] at p;exact h p.1)
 have N2:Hx (¬ (0<=ot/\ot < (on:Int))->¬ Q):=Aa (fun h p=>by rw [hQ] at p;exact h p.2.1)
 have N3:Hx (¬ (AZ vn K de=0)->¬ Q):=Aa (fun h p=>by rw [hQ] at p;exact h p.2.2.1)
 have N4:Hx (¬ (al=0)->¬ Q):=Aa (fun h p=>by rw [hQ] at p;exact h p.2.2.2.1)
 have N5:Hx (¬ (tl=0)->¬ Q):=Aa (fun h p=>by rw [hQ] at p;exact h p.2.2.2.2.1)
 have N6:Hx (¬ (el=0)->¬ Q):=Aa (fun h p=>by rw [hQ] at p;exact h p.2.2.2.2.2)
 clear hQ
 have K1:=Aa Lo
 have K2:=Aa BR
 have K3:=Aa Bn
 have K4:=Aa fun W=>Ca 4 funcs m ga gn gc sa sn sc ya yn yc oa on oc va vn vc fa fn fc ba bn bc W
 simp only [Int.reduceEq,if_false] at K4
 have K5:=Aa fun W (hB:Ov w W)=>B2 K m ga gn gc sa sn sc ya yn yc oa on oc va vn vc fa fn fc ba bn bc _ _ W (hde.over hB) hv
 have hal:al<=9223372036854775807/\al=das.length:=⟨by obtain ⟨hm,ao,cap,he,-⟩:=hda;injection he with e1 e2 e3;rw [e2];exact hm,by obtain ⟨hm,ao,cap,he,-⟩:=hda;injection he⟩
 obtain ⟨hal,hale⟩:=hal
 have HAL:=Aa hale
 obtain ⟨i1,i1'⟩:=i1
 obtain ⟨i2,i2'⟩:=i2
 clear hde hda hfs hale
 obtain ⟨c0,c1,c2,c3,c4,c5,c6,c7⟩:=rc8 (E4 w [U zd m,O ga gn gc,O sa sn sc,O ya yn yc,O oa on oc,O va vn vc,O fa fn fc,O ba bn bc] 184 (ze #[U zd 4,U zd vr,U zd ot,U zd ek,U zd en,O xa xl xc,O aa al ac,O ta tl tc,O ea el ec] 130))
 obtain ⟨s0,s1,s2,s3,s4,s5,s6,s7,s8⟩:=rc9 (Fk w (ze #[U zd m,O ga gn gc,O sa sn sc,O ya yn yc,O oa on oc,O va vn vc,O fa fn fc,O ba bn bc] 184) [U zd 4,U zd vr,U zd ot,U zd ek,U zd en,O xa xl xc,O aa al ac,O ta tl tc,O ea el ec] 130)
 have hbel:Ov w ((w.alloc (ze #[U zd m,O ga gn gc,O sa sn sc,O ya yn yc,O oa on oc,O va vn vc,O fa fn fc,O ba bn bc] 184)).alloc (ze #[U zd 4,U zd vr,U zd ot,U zd ek,U zd en,O xa xl xc,O aa al ac,O ta tl tc,O ea el ec] 130)):=(bA w _).alloc (by simp) _
 go_enter Tryz.func220,Tryz.ntmps220
 go_wp2_with fail
 refine (K1.o _).mono ?_
 rintro e w1 ⟨rfl,hb1⟩
 have hB1:=hbel.trans (hb1.mono hbel.size)
 have hb2:=Ac hb1 (bA w1 (ze #[zg false,zg true,zg true,zg false,zg false,zg false] 288))
 have hB2:=hbel.trans (hb2.mono hbel.size)
 obtain ⟨c0a,c1a,c2a,c3a,c4a,c5a,c6a,c7a,s0a,s1a⟩:=Cy hb2 c0 c1 c2 c3 c4 c5 c6 c7 s0 s1
 obtain ⟨s2a,s3a,s4a,s5a,s6a,s7a,s8a⟩:=co7 hb2 s2 s3 s4 s5 s6 s7 s8
 obtain ⟨h0a,h1a,h2a,h3a,h4a,h5a⟩:=rc6 (CK w1 [zg false,zg true,zg true,zg false,zg false,zg false] 288)
 clear hb1 hb2 hbel hB1 c0 c1 c2 c3 c4 c5 c6 c7 s0 s1 s2 s3 s4 s5 s6 s7 s8
 go_wp2_with fail
 refine (K2.o _ _ _).mono ?_
 rintro e wz ⟨he,rfl⟩
 have he2:=orT he
 subst he2
 clear he
 go_wp2_with fail
 refine (K2.o _ _ _).mono ?_
 rintro e wz ⟨he,rfl⟩
 have he2:=orT he
 subst he2
 clear he
 go_wp2_with fail
 have hr0:=Below.refl (w1.alloc (ze #[zg false,zg true,zg true,zg false,zg false,zg false] 288)).heap.size (w1.alloc (ze #[zg false,zg true,zg true,zg false,zg false,zg false] 288))
 obtain ⟨ob,hob⟩:=nm (decide (0<=ot/\ot < (on:Int)))
 have K3o:=Aa fun W=>Bn ot (on:Int) W
 rw [<-hob] at K3o
 have HOB:=Aa hob
 clear hob
 cases ob with
 | false=>
  have HNO:=Aa (N2.o (by have hq:=HOB.o;simp at hq;omega))
  go_region_held2 (fun W=>W.cell? ⟨w.heap.size,0,none⟩=some (U zd m)/\W.cell? ⟨w.heap.size,1,none⟩=some (O ga gn gc)/\W.cell? ⟨w.heap.size,2,none⟩=some (O sa sn sc)/\W.cell? ⟨w.heap.size,3,none⟩=some (O ya yn yc)/\W.cell? ⟨w.heap.size,4,none⟩=some (O oa on oc)/\W.cell? ⟨w.heap.size,5,none⟩=some (O va vn vc)/\W.cell? ⟨w.heap.size,6,none⟩=some (O fa fn fc)/\W.cell? ⟨w.heap.size,7,none⟩=some (O ba bn bc)/\W.cell? ⟨w.heap.size+1,0,none⟩=some (U zd 4)/\W.cell? ⟨w.heap.size+1,2,none⟩=some (U zd ot)/\W.cell? ⟨w1.heap.size,1,none⟩=some (zg true)/\Ov (w1.alloc (ze #[zg false,zg true,zg true,zg false,zg false,zg false] 288)) W) (first | assumption | exact ⟨c0a,c1a,c2a,c3a,c4a,c5a,c6a,c7a,s0a,s2a,h1a,below_drewN hr0 1⟩ | exact EU (by assumption) hbp | fail) (first | (go_at_call 244;refine (K4.o _).mono ?_;rintro e wp ⟨rfl,hbp⟩) | (go_at_call 173;refine (K3o.o _).mono ?_;rintro e wq ⟨rfl,rfl⟩) | (go_at_call 172;refine (K2.o false 5 _).mono ?_;rintro e wq ⟨he,rfl⟩;rcases he with ⟨hb,rfl⟩ | ⟨hb,rfl⟩;rotate_left;exact ⟨rfl,Or.inr ⟨HNO.o,5,by decide,rfl⟩,hB2.trans ((by assumption:_/\_/\_/\_/\_/\_/\_/\_/\_/\_/\_/\Below _ _ _).2.2.2.2.2.2.2.2.2.2.2.mono hB2.size)⟩;have hbad:=Aa hb;clear hb))
  exact absurd hbad.o (by simp)
 | true=>
  have hot:0<=ot/\ot < (on:Int):=by simpa using HOB.o.symm
  have HOT:=Aa hot
  clear hot
  go_region_held3 (fun W=>W.cell? ⟨w.heap.size,0,none⟩=some (U zd m)/\W.cell? ⟨w.heap.size,1,none⟩=some (O ga gn gc)/\W.cell? ⟨w.heap.size,2,none⟩=some (O sa sn sc)/\W.cell? ⟨w.heap.size,3,none⟩=some (O ya yn yc)/\W.cell? ⟨w.heap.size,4,none⟩=some (O oa on oc)/\W.cell? ⟨w.heap.size,5,none⟩=some (O va vn vc)/\W.cell? ⟨w.heap.size,6,none⟩=some (O fa fn fc)/\W.cell? ⟨w.heap.size,7,none⟩=some (O ba bn bc)/\W.cell? ⟨w.heap.size+1,0,none⟩=some (U zd 4)/\W.cell? ⟨w.heap.size+1,2,none⟩=some (U zd ot)/\W.cell? ⟨w1.heap.size,1,none⟩=some (zg true)/\Ov (w1.alloc (ze #[zg false,zg true,zg true,zg false,zg false,zg false] 288)) W) (first | assumption | exact ⟨c0a,c1a,c2a,c3a,c4a,c5a,c6a,c7a,s0a,s2a,h1a,below_drewN hr0 1⟩ | exact EU (by assumption) hbp | fail) (first | (go_at_call 244;refine (K4.o _).mono ?_;rintro e wp ⟨rfl,hbp⟩) | (go_at_call 173;refine (K3o.o _).mono ?_;rintro e wq ⟨rfl,rfl⟩) | (go_at_call 172;refine (BJ 5 _).mono ?_;rintro e wq ⟨rfl,rfl⟩))
  have hb2:=(by assumption:_/\_/\_/\_/\_/\_/\_/\_/\_/\_/\_/\Below _ _ _).2.2.2.2.2.2.2.2.2.2.2
  have hB3:=hB2.trans (hb2.mono hB2.size)
  obtain ⟨c0b,c1b,c2b,c3b,c4b,c5b,c6b,c7b,s0b,s1b⟩:=Cy hb2 c0a c1a c2a c3a c4a c5a c6a c7a s0a s1a
  obtain ⟨s2b,s3b,s4b,s5b,s6b,s7b,s8b,h0b,h1b,h2b⟩:=Cy hb2 s2a s3a s4a s5a s6a s7a s8a h0a h1a h2a
  obtain ⟨h3b,h4b,h5b⟩:=co3 hb2 h3a h4a h5a
  clear hb2 hB2 hr0 c0a c1a c2a c3a c4a c5a c6a c7a s0a s1a s2a s3a s4a s5a s6a s7a s8a h0a h1a h2a h3a h4a h5a
  go_wp2_with fail
  refine (K2.o _ _ _).mono ?_
  rintro e wz ⟨he,rfl⟩
  rcases he with ⟨hz,rfl⟩ | ⟨hz,rfl⟩
  rotate_left
  ·skip
   have HN:=nO N1 N2 N3 N4 N5 N6 hz
   clear hz
   unfold AA
   go_wp2_with fail
   exact ⟨rfl,Or.inr ⟨HN.o,1,by decide,rfl⟩,hB3⟩
  have HZ_1:=Aa hz
  clear hz
  go_wp2_with fail
  refine (K2.o _ _ _).mono ?_
  rintro e wz ⟨he,rfl⟩
  have he2:=orT he
  subst he2
  clear he
  go_wp2_with fail
  refine (K2.o _ _ _).mono ?_
  rintro e wz ⟨he,rfl⟩
  have he2:=orT he
  subst he2
  clear he
  go_wp2_with fail
  refine (K2.o _ _ _).mono ?_
  rintro e wz ⟨he,rfl⟩
  rcases he with ⟨hargs,rfl⟩ | ⟨hz,rfl⟩
  rotate_left
  ·skip
   have HN:=nO N1 N2 N3 N4 N5 N6 hz
   clear hz
   unfold AA
   go_wp2_with fail
   exact ⟨rfl,Or.inr ⟨HN.o,1,by decide,rfl⟩,hB3⟩
  have hal0:al=0:=by simp at hargs;omega
  subst hal0
  clear hargs
  go_wp2_with fail
  refine (K2.o _ _ _).mono ?_
  rintro e wz ⟨he,rfl⟩
  rcases he with ⟨hz,rfl⟩ | ⟨hz,rfl⟩
  rotate_left
  ·skip
   have HN:=nO N1 N2 N3 N4 N5 N6 hz
   clear hz
   unfold AA
   go_wp2_with fail
   exact ⟨rfl,Or.inr ⟨HN.o,1,by decide,rfl⟩,hB3⟩
  have HZ_2:=Aa hz
  clear hz
  go_wp2_with fail
  refine (K2.o _ _ _).mono ?_
  rintro e wz ⟨he,rfl⟩
  rcases he with ⟨hz,rfl⟩ | ⟨hz,rfl⟩
  rotate_left
  ·skip
   have HN:=nO N1 N2 N3 N4 N5 N6 hz
   clear hz
   unfold AA
   go_wp2_with fail
   exact ⟨rfl,Or.inr ⟨HN.o,1,by decide,rfl⟩,hB3⟩
  have HZ_3:=Aa hz
  clear hz
  go_wp2_with fail
  go_quiet ((go_at_call 172;exact Calls.quiet_of_same (BJ _ _)))
  obtain ⟨c0q,c1q,c2q,c3q,c4q,c5q,c6q,c7q,s0q,s1q⟩:=CJ (n:=nq) c0b c1b c2b c3b c4b c5b c6b c7b s0b s1b
  obtain ⟨s2q,s3q,s4q,s5q,s6q,s7q,s8q,h0q,h1q,h2q⟩:=CJ (n:=nq) s2b s3b s4b s5b s6b s7b s8b h0b h1b h2b
  obtain ⟨h3q,h4q,h5q⟩:=cn3 (n:=nq) h3b h4b h5b
  have hBq:=below_drewN hB3 nq
  clear c0b c1b c2b c3b c4b c5b c6b c7b s0b s1b s2b s3b s4b s5b s6b s7b s8b h0b h1b h2b h3b h4b h5b
  go_wp2_with fail
  refine (K5.o _ hBq).mono ?_
  rintro e w5 ⟨he,hb5⟩
  have hB5:=hBq.trans (hb5.mono hBq.size)
  rcases he with ⟨hex,rfl⟩ | ⟨hnex,why,hwhy,rfl⟩
  rotate_left
  ·have HN:=Aa (N3.o hnex)
   clear hnex
   unfold AA
   go_wp2_with fail
   exact ⟨rfl,Or.inr ⟨HN.o,why,hwhy,rfl⟩,hB5⟩
  obtain ⟨c05,c15,c25,c35,c45,c55,c65,c75,s05,s15⟩:=Cy hb5 c0q c1q c2q c3q c4q c5q c6q c7q s0q s1q
  obtain ⟨s25,s35,s45,s55,s65,s75,s85,h05,h15,h25⟩:=Cy hb5 s2q s3q s4q s5q s6q s7q s8q h0q h1q h2q
  obtain ⟨h35,h45,h55⟩:=co3 hb5 h3q h4q h5q
  have HEX:=Aa hex
  clear hex hb5 c0q c1q c2q c3q c4q c5q c6q c7q s0q s1q s2q s3q s4q s5q s6q s7q s8q h0q h1q h2q h3q h4q h5q
  go_wp2_with fail
  go_loopw [138] (fun i wr=>i=U zd 0/\Ov w wr) (fun _ _=>0)
  case atStart=>exact ⟨rfl,hB5⟩
  case round=>
   obtain ⟨rfl,hB⟩:=hrel
   go_wp2_with fail
   go_end0
   refine ⟨Or.inl ⟨HQ.o ⟨?_,?_,?_,?_,?_,?_⟩,rfl⟩,hB⟩
   all_goals first | trivial | exact HVAR.o | exact HOT.o | exact HEX.o | exact ⟨HZ1.o,HZ2.o,HXL.o⟩ | (have hq:=HZ_1.o;simp at hq;omega) | (have hq:=HZ_2.o;simp at hq;omega) | (have hq:=HZ_3.o;simp at hq;omega) | omega
theorem NI (K k:Nat) (fs de das) (funcs:Int) (m:Int) (ga gn gc sa sn sc) (ya:Option Addr) (yn yc:Nat) (oa:Option Addr) (on oc:Nat) (va:Option Addr) (vn vc:Nat) (fa fn fc ba bn bc) (vr ot ek en:Int) (xa xl xc aa al ac ta tl tc ea el ec) (w:World) (hv:vn<=9223372036854775807) (i1:Ch vr) (i2:Ch ot) (h0f:0<=funcs) (h1f:funcs<=9223372036854775807) (hyl:yn<=9223372036854775807) (hol:on<=9223372036854775807)
  (hde:RX w K [U zd ek,U zd en,O xa xl xc] de) (hda:XS 3 (RX w K) w (O aa al ac) das) (hfs:BA w K k (O fa fn fc) fs) (hff:funcs<=fs.length) :
  Calls Tryz.prog 220 #[zh #[U zd m,O ga gn gc,O sa sn sc,O ya yn yc,O oa on oc,O va vn vc,O fa fn fc,O ba bn bc],zh #[U zd 1,U zd vr,U zd ot,U zd ek,U zd en,O xa xl xc,O aa al ac,O ta tl tc,O ea el ec],U zd funcs] w (C4 ((0<=vr/\vr < vn)/\(ot=0)/\(AZ vn K de=0)/\(al=0)/\(tl=0)/\(el=0)) w):=by
 obtain ⟨Q,hQ⟩:∃ Q:Prop,Q=((0<=vr/\vr < vn)/\(ot=0)/\(AZ vn K de=0)/\(al=0)/\(tl=0)/\(el=0)):=⟨_,rfl⟩
 rw [<-hQ]
 have HQ:Hx (((0<=vr/\vr < vn)/\(ot=0)/\(AZ vn K de=0)/\(al=0)/\(tl=0)/\(el=0))->Q):=Aa (fun p=>by rw [hQ];exact p)
 have N1:Hx (¬ (0<=vr/\vr < vn)->¬ Q):=Aa (fun h p=>by rw [hQ] at p;exact h p.1)
 have N2:Hx (¬ (ot=0)->¬ Q):=Aa (fun h p=>by rw [hQ] at p;exact h p.2.1)
 have N3:Hx (¬ (AZ vn K de=0)->¬ Q):=Aa (fun h p=>by rw [hQ] at p;exact h p.2.2.1)
 have N4:Hx (¬ (al=0)->¬ Q):=Aa (fun h p=>by rw [hQ] at p;exact h p.2.2.2.1)
 have N5:Hx (¬ (tl=0)->¬ Q):=Aa (fun h p=>by rw [hQ] at p;exact h p.2.2.2.2.1)
 have N6:Hx (¬ (el=0)->¬ Q):=Aa (fun h p=>by rw [hQ] at p;exact h p.2.2.2.2.2)
 clear hQ
 have K1:=Aa Lr
 have K2:=Aa BR
 have K3:=Aa Bn
 have K4:=Aa fun W=>Ca 1 funcs m ga gn gc sa sn sc ya yn yc oa on oc va vn vc fa fn fc ba bn bc W
 have K5:=Aa fun W (hB:Ov w W)=>B2 K m ga gn gc sa sn sc ya yn yc oa on oc va vn vc fa fn fc ba bn bc _ _ W (hde.over hB) hv
 have hal:al<=9223372036854775807/\al=das.length:=⟨by obtain ⟨hm,ao,cap,he,-⟩:=hda;injection he with e1 e2 e3;rw [e2];exact hm,by obtain ⟨hm,ao,cap,he,-⟩:=hda;injection he⟩
 obtain ⟨hal,hale⟩:=hal
 have HAL:=Aa hale
 obtain ⟨i1,i1'⟩:=i1
 obtain ⟨i2,i2'⟩:=i2
 clear hde hda hfs hale
 obtain ⟨c0,c1,c2,c3,c4,c5,c6,c7⟩:=rc8 (E4 w [U zd m,O ga gn gc,O sa sn sc,O ya yn yc,O oa on oc,O va vn vc,O fa fn fc,O ba bn bc] 184 (ze #[U zd 1,U zd vr,U zd ot,U zd ek,U zd en,O xa xl xc,O aa al ac,O ta tl tc,O ea el ec] 130))
 obtain ⟨s0,s1,s2,s3,s4,s5,s6,s7,s8⟩:=rc9 (Fk w (ze #[U zd m,O ga gn gc,O sa sn sc,O ya yn yc,O oa on oc,O va vn vc,O fa fn fc,O ba bn bc] 184) [U zd 1,U zd vr,U zd ot,U zd ek,U zd en,O xa xl xc,O aa al ac,O ta tl tc,O ea el ec] 130)
 have hbel:Ov w ((w.alloc (ze #[U zd m,O ga gn gc,O sa sn sc,O ya yn yc,O oa on oc,O va vn vc,O fa fn fc,O ba bn bc] 184)).alloc (ze #[U zd 1,U zd vr,U zd ot,U zd ek,U zd en,O xa xl xc,O aa al ac,O ta tl tc,O ea el ec] 130)):=(bA w _).alloc (by simp) _
 go_enter Tryz.func220,Tryz.ntmps220
 go_wp2_with fail
 refine (K1.o _).mono ?_
 rintro e w1 ⟨rfl,hb1⟩
 have hB1:=hbel.trans (hb1.mono hbel.size)
 have hb2:=Ac hb1 (bA w1 (ze #[zg true,zg false,zg true,zg false,zg false,zg false] 288))
 have hB2:=hbel.trans (hb2.mono hbel.size)
 obtain ⟨c0a,c1a,c2a,c3a,c4a,c5a,c6a,c7a,s0a,s1a⟩:=Cy hb2 c0 c1 c2 c3 c4 c5 c6 c7 s0 s1
 obtain ⟨s2a,s3a,s4a,s5a,s6a,s7a,s8a⟩:=co7 hb2 s2 s3 s4 s5 s6 s7 s8
 obtain ⟨h0a,h1a,h2a,h3a,h4a,h5a⟩:=rc6 (CK w1 [zg true,zg false,zg true,zg false,zg false,zg false] 288)
 clear hb1 hb2 hbel hB1 c0 c1 c2 c3 c4 c5 c6 c7 s0 s1 s2 s3 s4 s5 s6 s7 s8
 go_wp2_with fail
 refine (K2.o _ _ _).mono ?_
 rintro e wz ⟨he,rfl⟩
 have he2:=orT he
 subst he2
 clear he
 go_wp2_with fail
 refine (K3.o _ _ _).mono ?_
 rintro e wz ⟨rfl,rfl⟩
 go_wp2_with fail
 refine (K2.o _ _ _).mono ?_
 rintro e wz ⟨he,rfl⟩
 rcases he with ⟨hvar,rfl⟩ | ⟨hz,rfl⟩
 rotate_left
 ·skip
  have HN:=nO N1 N2 N3 N4 N5 N6 hz
  clear hz
  unfold AA
  go_wp2_with fail
  exact ⟨rfl,Or.inr ⟨HN.o,5,by decide,rfl⟩,hB2⟩
 have hvar2:0<=vr/\vr < vn:=by simpa using hvar
 have HVAR:=Aa hvar2
 clear hvar hvar2
 go_wp2_with fail
 go_quiet ((go_at_call 172;exact Calls.quiet_of_same (BJ _ _)))
 obtain ⟨c0r,c1r,c2r,c3r,c4r,c5r,c6r,c7r,s0r,s1r⟩:=CJ (n:=nq) c0a c1a c2a c3a c4a c5a c6a c7a s0a s1a
 obtain ⟨s2r,s3r,s4r,s5r,s6r,s7r,s8r,h0r,h1r,h2r⟩:=CJ (n:=nq) s2a s3a s4a s5a s6a s7a s8a h0a h1a h2a
 obtain ⟨h3r,h4r,h5r⟩:=cn3 (n:=nq) h3a h4a h5a
 have hBr:=below_drewN hB2 nq
 clear hB2 c0a c1a c2a c3a c4a c5a c6a c7a s0a s1a s2a s3a s4a s5a s6a s7a s8a h0a h1a h2a h3a h4a h5a
 generalize (w1.alloc (ze #[zg true,zg false,zg true,zg false,zg false,zg false] 288)).drewN nq=wr at hBr c0r c1r c2r c3r c4r c5r c6r c7r s0r s1r s2r s3r s4r s5r s6r s7r s8r h0r h1r h2r h3r h4r h5r ⊢
 go_wp2_with fail
 refine (K2.o _ _ _).mono ?_
 rintro e wz ⟨he,rfl⟩
 have he2:=orT he
 subst he2
 clear he
 go_wp2_with fail
 refine (K2.o _ _ _).mono ?_
 rintro e wz ⟨he,rfl⟩
 rcases he with ⟨hz,rfl⟩ | ⟨hz,rfl⟩
 rotate_left
 ·skip
  have HN:=nO N1 N2 N3 N4 N5 N6 hz
  clear hz
  unfold AA
  go_wp2_with fail
  exact ⟨rfl,Or.inr ⟨HN.o,1,by decide,rfl⟩,hBr⟩
 have HZ_1:=Aa hz
 clear hz
 go_wp2_with fail
 refine (K2.o _ _ _).mono ?_
 rintro e wz ⟨he,rfl⟩
 have he2:=orT he
 subst he2
 clear he
 go_wp2_with fail
 refine (K2.o _ _ _).mono ?_
 rintro e wz ⟨he,rfl⟩
 rcases he with ⟨hargs,rfl⟩ | ⟨hz,rfl⟩
 rotate_left
 ·skip
  have HN:=nO N1 N2 N3 N4 N5 N6 hz
  clear hz
  unfold AA
  go_wp2_with fail
  exact ⟨rfl,Or.inr ⟨HN.o,1,by decide,rfl⟩,hBr⟩
 have hal0:al=0:=by simp at hargs;omega
 subst hal0
 clear hargs
 go_wp2_with fail
 refine (K2.o _ _ _).mono ?_
 rintro e wz ⟨he,rfl⟩
 rcases he with ⟨hz,rfl⟩ | ⟨hz,rfl⟩
 rotate_left
 ·skip
  have HN:=nO N1 N2 N3 N4 N5 N6 hz
  clear hz
  unfold AA
  go_wp2_with fail
  exact ⟨rfl,Or.inr ⟨HN.o,1,by decide,rfl⟩,hBr⟩
 have HZ_2:=Aa hz
 clear hz
 go_wp2_with fail
 refine (K2.o _ _ _).mono ?_
 rintro e wz ⟨he,rfl⟩
 rcases he with ⟨hz,rfl⟩ | ⟨hz,rfl⟩
 rotate_left
 ·skip
  have HN:=nO N1 N2 N3 N4 N5 N6 hz
  clear hz
  unfold AA
  go_wp2_with fail
  exact ⟨rfl,Or.inr ⟨HN.o,1,by decide,rfl⟩,hBr⟩
 have HZ_3:=Aa hz
 clear hz
 go_wp2_with fail
 go_quiet ((go_at_call 172;exact Calls.quiet_of_same (BJ _ _)))
 obtain ⟨c0q,c1q,c2q,c3q,c4q,c5q,c6q,c7q,s0q,s1q⟩:=CJ (n:=nq) c0r c1r c2r c3r c4r c5r c6r c7r s0r s1r
 obtain ⟨s2q,s3q,s4q,s5q,s6q,s7q,s8q,h0q,h1q,h2q⟩:=CJ (n:=nq) s2r s3r s4r s5r s6r s7r s8r h0r h1r h2r
 obtain ⟨h3q,h4q,h5q⟩:=cn3 (n:=nq) h3r h4r h5r
 have hBq:=below_drewN hBr nq
 clear c0r c1r c2r c3r c4r c5r c6r c7r s0r s1r s2r s3r s4r s5r s6r s7r s8r h0r h1r h2r h3r h4r h5r
 go_wp2_with fail
 refine (K5.o _ hBq).mono ?_
 rintro e w5 ⟨he,hb5⟩
 have hB5:=hBq.trans (hb5.mono hBq.size)
 rcases he with ⟨hex,rfl⟩ | ⟨hnex,why,hwhy,rfl⟩
 rotate_left
 ·have HN:=Aa (N3.o hnex)
  clear hnex
  unfold AA
  go_wp2_with fail
  exact ⟨rfl,Or.inr ⟨HN.o,why,hwhy,rfl⟩,hB5⟩
 obtain ⟨c05,c15,c25,c35,c45,c55,c65,c75,s05,s15⟩:=Cy hb5 c0q c1q c2q c3q c4q c5q c6q c7q s0q s1q
 obtain ⟨s25,s35,s45,s55,s65,s75,s85,h05,h15,h25⟩:=Cy hb5 s2q s3q s4q s5q s6q s7q s8q h0q h1q h2q
 obtain ⟨h35,h45,h55⟩:=co3 hb5 h3q h4q h5q
 have HEX:=Aa hex
 clear hex hb5 c0q c1q c2q c3q c4q c5q c6q c7q s0q s1q s2q s3q s4q s5q s6q s7q s8q h0q h1q h2q h3q h4q h5q
 go_wp2_with fail
 go_loopw [138] (fun i wr=>i=U zd 0/\Ov w wr) (fun _ _=>0)
 case atStart=>exact ⟨rfl,hB5⟩
 case round=>
  obtain ⟨rfl,hB⟩:=hrel
  go_wp2_with fail
  go_end0
  refine ⟨Or.inl ⟨HQ.o ⟨?_,?_,?_,?_,?_,?_⟩,rfl⟩,hB⟩
  all_goals first | trivial | exact HVAR.o | exact HOT.o | exact HEX.o | exact ⟨HZ1.o,HZ2.o,HXL.o⟩ | (have hq:=HZ_1.o;simp at hq;omega) | (have hq:=HZ_2.o;simp at hq;omega) | (have hq:=HZ_3.o;simp at hq;omega) | omega
theorem NE (K k:Nat) (fs de das) (funcs:Int) (m:Int) (ga gn gc sa sn sc) (ya:Option Addr) (yn yc:Nat) (oa:Option Addr) (on oc:Nat) (va:Option Addr) (vn vc:Nat) (fa fn fc ba bn bc) (vr ot ek en:Int) (xa xl xc aa al ac ta tl tc ea el ec) (w:World) (hv:vn<=9223372036854775807) (i1:Ch vr) (i2:Ch ot) (h0f:0<=funcs) (h1f:funcs<=9223372036854775807) (hyl:yn<=9223372036854775807) (hol:on<=9223372036854775807)
  (hde:RX w K [U zd ek,U zd en,O xa xl xc] de) (hda:XS 3 (RX w K) w (O aa al ac) das) (hfs:BA w K k (O fa fn fc) fs) (hff:funcs<=fs.length) :
  Calls Tryz.prog 220 #[zh #[U zd m,O ga gn gc,O sa sn sc,O ya yn yc,O oa on oc,O va vn vc,O fa fn fc,O ba bn bc],zh #[U zd 5,U zd vr,U zd ot,U zd ek,U zd en,O xa xl xc,O aa al ac,O ta tl tc,O ea el ec],U zd funcs] w (C4 ((0<=vr/\vr < vn)/\(ot=0)/\(AZ vn K de=0)/\(al=0)/\(tl=0)/\(el=0)) w):=by
 obtain ⟨Q,hQ⟩:∃ Q:Prop,Q=((0<=vr/\vr < vn)/\(ot=0)/\(AZ vn K de=0)/\(al=0)/\(tl=0)/\(el=0)):=⟨_,rfl⟩
 rw [<-hQ]
 have HQ:Hx (((0<=vr/\vr < vn)/\(ot=0)/\(AZ vn K de=0)/\(al=0)/\(tl=0)/\(el=0))->Q):=Aa (fun p=>by rw [hQ];exact p)
 have N1:Hx (¬ (0<=vr/\vr < vn)->¬ Q):=Aa (fun h p=>by rw [hQ] at p;exact h p.1)
 have N2:Hx (¬ (ot=0)->¬ Q):=Aa (fun h p=>by rw [hQ] at p;exact h p.2.1)
 have N3:Hx (¬ (AZ vn K de=0)->¬ Q):=Aa (fun h p=>by rw [hQ] at p;exact h p.2.2.1)
 have N4:Hx (¬ (al=0)->¬ Q):=Aa (fun h p=>by rw [hQ] at p;exact h p.2.2.2.1)
 have N5:Hx (¬ (tl=0)->¬ Q):=Aa (fun h p=>by rw [hQ] at p;exact h p.2.2.2.2.1)
 have N6:Hx (¬ (el=0)->¬ Q):=Aa (fun h p=>by rw [hQ] at p;exact h p.2.2.2.2.2)
 clear hQ
 have K1:=Aa Ln
 have K2:=Aa BR
 have K3:=Aa Bn
 have K4:=Aa fun W=>Ca 5 funcs m ga gn gc sa sn sc ya yn yc oa on oc va vn vc fa fn fc ba bn bc W
 have K5:=Aa fun W (hB:Ov w W)=>B2 K m ga gn gc sa sn sc ya yn yc oa on oc va vn vc fa fn fc ba bn bc _ _ W (hde.over hB) hv
 have hal:al<=9223372036854775807/\al=das.length:=⟨by obtain ⟨hm,ao,cap,he,-⟩:=hda;injection he with e1 e2 e3;rw [e2];exact hm,by obtain ⟨hm,ao,cap,he,-⟩:=hda;injection he⟩
 obtain ⟨hal,hale⟩:=hal
 have HAL:=Aa hale
 obtain ⟨i1,i1'⟩:=i1
 obtain ⟨i2,i2'⟩:=i2
 clear hde hda hfs hale
 obtain ⟨c0,c1,c2,c3,c4,c5,c6,c7⟩:=rc8 (E4 w [U zd m,O ga gn gc,O sa sn sc,O ya yn yc,O oa on oc,O va vn vc,O fa fn fc,O ba bn bc] 184 (ze #[U zd 5,U zd vr,U zd ot,U zd ek,U zd en,O xa xl xc,O aa al ac,O ta tl tc,O ea el ec] 130))
 obtain ⟨s0,s1,s2,s3,s4,s5,s6,s7,s8⟩:=rc9 (Fk w (ze #[U zd m,O ga gn gc,O sa sn sc,O ya yn yc,O oa on oc,O va vn vc,O fa fn fc,O ba bn bc] 184) [U zd 5,U zd vr,U zd ot,U zd ek,U zd en,O xa xl xc,O aa al ac,O ta tl tc,O ea el ec] 130)
 have hbel:Ov w ((w.alloc (ze #[U zd m,O ga gn gc,O sa sn sc,O ya yn yc,O oa on oc,O va vn vc,O fa fn fc,O ba bn bc] 184)).alloc (ze #[U zd 5,U zd vr,U zd ot,U zd ek,U zd en,O xa xl xc,O aa al ac,O ta tl tc,O ea el ec] 130)):=(bA w _).alloc (by simp) _
 go_enter Tryz.func220,Tryz.ntmps220
 go_wp2_with fail
 refine (K1.o _).mono ?_
 rintro e w1 ⟨rfl,hb1⟩
 have hB1:=hbel.trans (hb1.mono hbel.size)
 have hb2:=Ac hb1 (bA w1 (ze #[zg true,zg false,zg true,zg false,zg false,zg false] 288))
 have hB2:=hbel.trans (hb2.mono hbel.size)
 obtain ⟨c0a,c1a,c2a,c3a,c4a,c5a,c6a,c7a,s0a,s1a⟩:=Cy hb2 c0 c1 c2 c3 c4 c5 c6 c7 s0 s1
 obtain ⟨s2a,s3a,s4a,s5a,s6a,s7a,s8a⟩:=co7 hb2 s2 s3 s4 s5 s6 s7 s8
 obtain ⟨h0a,h1a,h2a,h3a,h4a,h5a⟩:=rc6 (CK w1 [zg true,zg false,zg true,zg false,zg false,zg false] 288)
 clear hb1 hb2 hbel hB1 c0 c1 c2 c3 c4 c5 c6 c7 s0 s1 s2 s3 s4 s5 s6 s7 s8
 go_wp2_with fail
 refine (K2.o _ _ _).mono ?_
 rintro e wz ⟨he,rfl⟩
 have he2:=orT he
 subst he2
 clear he
 go_wp2_with fail
 refine (K3.o _ _ _).mono ?_
 rintro e wz ⟨rfl,rfl⟩
 go_wp2_with fail
 refine (K2.o _ _ _).mono ?_
 rintro e wz ⟨he,rfl⟩
 rcases he with ⟨hvar,rfl⟩ | ⟨hz,rfl⟩
 rotate_left
 ·skip
  have HN:=nO N1 N2 N3 N4 N5 N6 hz
  clear hz
  unfold AA
  go_wp2_with fail
  exact ⟨rfl,Or.inr ⟨HN.o,5,by decide,rfl⟩,hB2⟩
 have hvar2:0<=vr/\vr < vn:=by simpa using hvar
 have HVAR:=Aa hvar2
 clear hvar hvar2
 go_wp2_with fail
 go_quiet ((go_at_call 172;exact Calls.quiet_of_same (BJ _ _)))
 obtain ⟨c0r,c1r,c2r,c3r,c4r,c5r,c6r,c7r,s0r,s1r⟩:=CJ (n:=nq) c0a c1a c2a c3a c4a c5a c6a c7a s0a s1a
 obtain ⟨s2r,s3r,s4r,s5r,s6r,s7r,s8r,h0r,h1r,h2r⟩:=CJ (n:=nq) s2a s3a s4a s5a s6a s7a s8a h0a h1a h2a
 obtain ⟨h3r,h4r,h5r⟩:=cn3 (n:=nq) h3a h4a h5a
 have hBr:=below_drewN hB2 nq
 clear hB2 c0a c1a c2a c3a c4a c5a c6a c7a s0a s1a s2a s3a s4a s5a s6a s7a s8a h0a h1a h2a h3a h4a h5a
 generalize (w1.alloc (ze #[zg true,zg false,zg true,zg false,zg false,zg false] 288)).drewN nq=wr at hBr c0r c1r c2r c3r c4r c5r c6r c7r s0r s1r s2r s3r s4r s5r s6r s7r s8r h0r h1r h2r h3r h4r h5r ⊢
 go_wp2_with fail
 refine (K2.o _ _ _).mono ?_
 rintro e wz ⟨he,rfl⟩
 have he2:=orT he
 subst he2
 clear he
 go_wp2_with fail
 refine (K2.o _ _ _).mono ?_
 rintro e wz ⟨he,rfl⟩
 rcases he with ⟨hz,rfl⟩ | ⟨hz,rfl⟩
 rotate_left
 ·skip
  have HN:=nO N1 N2 N3 N4 N5 N6 hz
  clear hz
  unfold AA
  go_wp2_with fail
  exact ⟨rfl,Or.inr ⟨HN.o,1,by decide,rfl⟩,hBr⟩
 have HZ_1:=Aa hz
 clear hz
 go_wp2_with fail
 refine (K2.o _ _ _).mono ?_
 rintro e wz ⟨he,rfl⟩
 have he2:=orT he
 subst he2
 clear he
 go_wp2_with fail
 refine (K2.o _ _ _).mono ?_
 rintro e wz ⟨he,rfl⟩
 rcases he with ⟨hargs,rfl⟩ | ⟨hz,rfl⟩
 rotate_left
 ·skip
  have HN:=nO N1 N2 N3 N4 N5 N6 hz
  clear hz
  unfold AA
  go_wp2_with fail
  exact ⟨rfl,Or.inr ⟨HN.o,1,by decide,rfl⟩,hBr⟩
 have hal0:al=0:=by simp at hargs;omega
 subst hal0
 clear hargs
 go_wp2_with fail
 refine (K2.o _ _ _).mono ?_
 rintro e wz ⟨he,rfl⟩
 rcases he with ⟨hz,rfl⟩ | ⟨hz,rfl⟩
 rotate_left
 ·skip
  have HN:=nO N1 N2 N3 N4 N5 N6 hz
  clear hz
  unfold AA
  go_wp2_with fail
  exact ⟨rfl,Or.inr ⟨HN.o,1,by decide,rfl⟩,hBr⟩
 have HZ_2:=Aa hz
 clear hz
 go_wp2_with fail
 refine (K2.o _ _ _).mono ?_
 rintro e wz ⟨he,rfl⟩
 rcases he with ⟨hz,rfl⟩ | ⟨hz,rfl⟩
 rotate_left
 ·skip
  have HN:=nO N1 N2 N3 N4 N5 N6 hz
  clear hz
  unfold AA
  go_wp2_with fail
  exact ⟨rfl,Or.inr ⟨HN.o,1,by decide,rfl⟩,hBr⟩
 have HZ_3:=Aa hz
 clear hz
 go_wp2_with fail
 go_quiet ((go_at_call 172;exact Calls.quiet_of_same (BJ _ _)))
 obtain ⟨c0q,c1q,c2q,c3q,c4q,c5q,c6q,c7q,s0q,s1q⟩:=CJ (n:=nq) c0r c1r c2r c3r c4r c5r c6r c7r s0r s1r
 obtain ⟨s2q,s3q,s4q,s5q,s6q,s7q,s8q,h0q,h1q,h2q⟩:=CJ (n:=nq) s2r s3r s4r s5r s6r s7r s8r h0r h1r h2r
 obtain ⟨h3q,h4q,h5q⟩:=cn3 (n:=nq) h3r h4r h5r
 have hBq:=below_drewN hBr nq
 clear c0r c1r c2r c3r c4r c5r c6r c7r s0r s1r s2r s3r s4r s5r s6r s7r s8r h0r h1r h2r h3r h4r h5r
 go_wp2_with fail
 refine (K5.o _ hBq).mono ?_
 rintro e w5 ⟨he,hb5⟩
 have hB5:=hBq.trans (hb5.mono hBq.size)
 rcases he with ⟨hex,rfl⟩ | ⟨hnex,why,hwhy,rfl⟩
 rotate_left
 ·have HN:=Aa (N3.o hnex)
  clear hnex
  unfold AA
  go_wp2_with fail
  exact ⟨rfl,Or.inr ⟨HN.o,why,hwhy,rfl⟩,hB5⟩
 obtain ⟨c05,c15,c25,c35,c45,c55,c65,c75,s05,s15⟩:=Cy hb5 c0q c1q c2q c3q c4q c5q c6q c7q s0q s1q
 obtain ⟨s25,s35,s45,s55,s65,s75,s85,h05,h15,h25⟩:=Cy hb5 s2q s3q s4q s5q s6q s7q s8q h0q h1q h2q
 obtain ⟨h35,h45,h55⟩:=co3 hb5 h3q h4q h5q
 have HEX:=Aa hex
 clear hex hb5 c0q c1q c2q c3q c4q c5q c6q c7q s0q s1q s2q s3q s4q s5q s6q s7q s8q h0q h1q h2q h3q h4q h5q
 go_wp2_with fail
 go_loopw [138] (fun i wr=>i=U zd 0/\Ov w wr) (fun _ _=>0)
 case atStart=>exact ⟨rfl,hB5⟩
 case round=>
  obtain ⟨rfl,hB⟩:=hrel
  go_wp2_with fail
  go_end0
  refine ⟨Or.inl ⟨HQ.o ⟨?_,?_,?_,?_,?_,?_⟩,rfl⟩,hB⟩
  all_goals first | trivial | exact HVAR.o | exact HOT.o | exact HEX.o | exact ⟨HZ1.o,HZ2.o,HXL.o⟩ | (have hq:=HZ_1.o;simp at hq;omega) | (have hq:=HZ_2.o;simp at hq;omega) | (have hq:=HZ_3.o;simp at hq;omega) | omega
theorem ND (K k:Nat) (fs de das) (funcs:Int) (m:Int) (ga gn gc sa sn sc) (ya:Option Addr) (yn yc:Nat) (oa:Option Addr) (on oc:Nat) (va:Option Addr) (vn vc:Nat) (fa fn fc ba bn bc) (vr ot ek en:Int) (xa xl xc aa al ac ta tl tc ea el ec) (w:World) (hv:vn<=9223372036854775807) (i1:Ch vr) (i2:Ch ot) (h0f:0<=funcs) (h1f:funcs<=9223372036854775807) (hyl:yn<=9223372036854775807) (hol:on<=9223372036854775807)
  (hde:RX w K [U zd ek,U zd en,O xa xl xc] de) (hda:XS 3 (RX w K) w (O aa al ac) das) (hfs:BA w K k (O fa fn fc) fs) (hff:funcs<=fs.length) :
  Calls Tryz.prog 220 #[zh #[U zd m,O ga gn gc,O sa sn sc,O ya yn yc,O oa on oc,O va vn vc,O fa fn fc,O ba bn bc],zh #[U zd 6,U zd vr,U zd ot,U zd ek,U zd en,O xa xl xc,O aa al ac,O ta tl tc,O ea el ec],U zd funcs] w (C4 ((0<=vr/\vr < vn)/\(ot=0)/\(AZ vn K de=0)/\(al=0)/\(tl=0)/\(el=0)) w):=by
 obtain ⟨Q,hQ⟩:∃ Q:Prop,Q=((0<=vr/\vr < vn)/\(ot=0)/\(AZ vn K de=0)/\(al=0)/\(tl=0)/\(el=0)):=⟨_,rfl⟩
 rw [<-hQ]
 have HQ:Hx (((0<=vr/\vr < vn)/\(ot=0)/\(AZ vn K de=0)/\(al=0)/\(tl=0)/\(el=0))->Q):=Aa (fun p=>by rw [hQ];exact p)
 have N1:Hx (¬ (0<=vr/\vr < vn)->¬ Q):=Aa (fun h p=>by rw [hQ] at p;exact h p.1)
 have N2:Hx (¬ (ot=0)->¬ Q):=Aa (fun h p=>by rw [hQ] at p;exact h p.2.1)
 have N3:Hx (¬ (AZ vn K de=0)->¬ Q):=Aa (fun h p=>by rw [hQ] at p;exact h p.2.2.1)
 have N4:Hx (¬ (al=0)->¬ Q):=Aa (fun h p=>by rw [hQ] at p;exact h p.2.2.2.1)
 have N5:Hx (¬ (tl=0)->¬ Q):=Aa (fun h p=>by rw [hQ] at p;exact h p.2.2.2.2.1)
 have N6:Hx (¬ (el=0)->¬ Q):=Aa (fun h p=>by rw [hQ] at p;exact h p.2.2.2.2.2)
 clear hQ
 have K1:=Aa Lm
 have K2:=Aa BR
 have K3:=Aa Bn
 have K4:=Aa fun W=>Ca 6 funcs m ga gn gc sa sn sc ya yn yc oa on oc va vn vc fa fn fc ba bn bc W
 have K5:=Aa fun W (hB:Ov w W)=>B2 K m ga gn gc sa sn sc ya yn yc oa on oc va vn vc fa fn fc ba bn bc _ _ W (hde.over hB) hv
 have hal:al<=9223372036854775807/\al=das.length:=⟨by obtain ⟨hm,ao,cap,he,-⟩:=hda;injection he with e1 e2 e3;rw [e2];exact hm,by obtain ⟨hm,ao,cap,he,-⟩:=hda;injection he⟩
 obtain ⟨hal,hale⟩:=hal
 have HAL:=Aa hale
 obtain ⟨i1,i1'⟩:=i1
 obtain ⟨i2,i2'⟩:=i2
 clear hde hda hfs hale
 obtain ⟨c0,c1,c2,c3,c4,c5,c6,c7⟩:=rc8 (E4 w [U zd m,O ga gn gc,O sa sn sc,O ya yn yc,O oa on oc,O va vn vc,O fa fn fc,O ba bn bc] 184 (ze #[U zd 6,U zd vr,U zd ot,U zd ek,U zd en,O xa xl xc,O aa al ac,O ta tl tc,O ea el ec] 130))
 obtain ⟨s0,s1,s2,s3,s4,s5,s6,s7,s8⟩:=rc9 (Fk w (ze #[U zd m,O ga gn gc,O sa sn sc,O ya yn yc,O oa on oc,O va vn vc,O fa fn fc,O ba bn bc] 184) [U zd 6,U zd vr,U zd ot,U zd ek,U zd en,O xa xl xc,O aa al ac,O ta tl tc,O ea el ec] 130)
 have hbel:Ov w ((w.alloc (ze #[U zd m,O ga gn gc,O sa sn sc,O ya yn yc,O oa on oc,O va vn vc,O fa fn fc,O ba bn bc] 184)).alloc (ze #[U zd 6,U zd vr,U zd ot,U zd ek,U zd en,O xa xl xc,O aa al ac,O ta tl tc,O ea el ec] 130)):=(bA w _).alloc (by simp) _
 go_enter Tryz.func220,Tryz.ntmps220
 go_wp2_with fail
 refine (K1.o _).mono ?_
 rintro e w1 ⟨rfl,hb1⟩
 have hB1:=hbel.trans (hb1.mono hbel.size)
 have hb2:=Ac hb1 (bA w1 (ze #[zg true,zg false,zg true,zg false,zg false,zg false] 288))
 have hB2:=hbel.trans (hb2.mono hbel.size)
 obtain ⟨c0a,c1a,c2a,c3a,c4a,c5a,c6a,c7a,s0a,s1a⟩:=Cy hb2 c0 c1 c2 c3 c4 c5 c6 c7 s0 s1
 obtain ⟨s2a,s3a,s4a,s5a,s6a,s7a,s8a⟩:=co7 hb2 s2 s3 s4 s5 s6 s7 s8
 obtain ⟨h0a,h1a,h2a,h3a,h4a,h5a⟩:=rc6 (CK w1 [zg true,zg false,zg true,zg false,zg false,zg false] 288)
 clear hb1 hb2 hbel hB1 c0 c1 c2 c3 c4 c5 c6 c7 s0 s1 s2 s3 s4 s5 s6 s7 s8
 go_wp2_with fail
 refine (K2.o _ _ _).mono ?_
 rintro e wz ⟨he,rfl⟩
 have he2:=orT he
 subst he2
 clear he
 go_wp2_with fail
 refine (K3.o _ _ _).mono ?_
 rintro e wz ⟨rfl,rfl⟩
 go_wp2_with fail
 refine (K2.o _ _ _).mono ?_
 rintro e wz ⟨he,rfl⟩
 rcases he with ⟨hvar,rfl⟩ | ⟨hz,rfl⟩
 rotate_left
 ·skip
  have HN:=nO N1 N2 N3 N4 N5 N6 hz
  clear hz
  unfold AA
  go_wp2_with fail
  exact ⟨rfl,Or.inr ⟨HN.o,5,by decide,rfl⟩,hB2⟩
 have hvar2:0<=vr/\vr < vn:=by simpa using hvar
 have HVAR:=Aa hvar2
 clear hvar hvar2
 go_wp2_with fail
 go_quiet ((go_at_call 172;exact Calls.quiet_of_same (BJ _ _)))
 obtain ⟨c0r,c1r,c2r,c3r,c4r,c5r,c6r,c7r,s0r,s1r⟩:=CJ (n:=nq) c0a c1a c2a c3a c4a c5a c6a c7a s0a s1a
 obtain ⟨s2r,s3r,s4r,s5r,s6r,s7r,s8r,h0r,h1r,h2r⟩:=CJ (n:=nq) s2a s3a s4a s5a s6a s7a s8a h0a h1a h2a
 obtain ⟨h3r,h4r,h5r⟩:=cn3 (n:=nq) h3a h4a h5a
 have hBr:=below_drewN hB2 nq
 clear hB2 c0a c1a c2a c3a c4a c5a c6a c7a s0a s1a s2a s3a s4a s5a s6a s7a s8a h0a h1a h2a h3a h4a h5a
 generalize (w1.alloc (ze #[zg true,zg false,zg true,zg false,zg false,zg false] 288)).drewN nq=wr at hBr c0r c1r c2r c3r c4r c5r c6r c7r s0r s1r s2r s3r s4r s5r s6r s7r s8r h0r h1r h2r h3r h4r h5r ⊢
 go_wp2_with fail
 refine (K2.o _ _ _).mono ?_
 rintro e wz ⟨he,rfl⟩
 have he2:=orT he
 subst he2
 clear he
 go_wp2_with fail
 refine (K2.o _ _ _).mono ?_
 rintro e wz ⟨he,rfl⟩
 rcases he with ⟨hz,rfl⟩ | ⟨hz,rfl⟩
 rotate_left
 ·skip
  have HN:=nO N1 N2 N3 N4 N5 N6 hz
  clear hz
  unfold AA
  go_wp2_with fail
  exact ⟨rfl,Or.inr ⟨HN.o,1,by decide,rfl⟩,hBr⟩
 have HZ_1:=Aa hz
 clear hz
 go_wp2_with fail
 refine (K2.o _ _ _).mono ?_
 rintro e wz ⟨he,rfl⟩
 have he2:=orT he
 subst he2
 clear he
 go_wp2_with fail
 refine (K2.o _ _ _).mono ?_
 rintro e wz ⟨he,rfl⟩
 rcases he with ⟨hargs,rfl⟩ | ⟨hz,rfl⟩
 rotate_left
 ·skip
  have HN:=nO N1 N2 N3 N4 N5 N6 hz
  clear hz
  unfold AA
  go_wp2_with fail
  exact ⟨rfl,Or.inr ⟨HN.o,1,by decide,rfl⟩,hBr⟩
 have hal0:al=0:=by simp at hargs;omega
 subst hal0
 clear hargs
 go_wp2_with fail
 refine (K2.o _ _ _).mono ?_
 rintro e wz ⟨he,rfl⟩
 rcases he with ⟨hz,rfl⟩ | ⟨hz,rfl⟩
 rotate_left
 ·skip
  have HN:=nO N1 N2 N3 N4 N5 N6 hz
  clear hz
  unfold AA
  go_wp2_with fail
  exact ⟨rfl,Or.inr ⟨HN.o,1,by decide,rfl⟩,hBr⟩
 have HZ_2:=Aa hz
 clear hz
 go_wp2_with fail
 refine (K2.o _ _ _).mono ?_
 rintro e wz ⟨he,rfl⟩
 rcases he with ⟨hz,rfl⟩ | ⟨hz,rfl⟩
 rotate_left
 ·skip
  have HN:=nO N1 N2 N3 N4 N5 N6 hz
  clear hz
  unfold AA
  go_wp2_with fail
  exact ⟨rfl,Or.inr ⟨HN.o,1,by decide,rfl⟩,hBr⟩
 have HZ_3:=Aa hz
 clear hz
 go_wp2_with fail
 go_quiet ((go_at_call 172;exact Calls.quiet_of_same (BJ _ _)))
 obtain ⟨c0q,c1q,c2q,c3q,c4q,c5q,c6q,c7q,s0q,s1q⟩:=CJ (n:=nq) c0r c1r c2r c3r c4r c5r c6r c7r s0r s1r
 obtain ⟨s2q,s3q,s4q,s5q,s6q,s7q,s8q,h0q,h1q,h2q⟩:=CJ (n:=nq) s2r s3r s4r s5r s6r s7r s8r h0r h1r h2r
 obtain ⟨h3q,h4q,h5q⟩:=cn3 (n:=nq) h3r h4r h5r
 have hBq:=below_drewN hBr nq
 clear c0r c1r c2r c3r c4r c5r c6r c7r s0r s1r s2r s3r s4r s5r s6r s7r s8r h0r h1r h2r h3r h4r h5r
 go_wp2_with fail
 refine (K5.o _ hBq).mono ?_
 rintro e w5 ⟨he,hb5⟩
 have hB5:=hBq.trans (hb5.mono hBq.size)
 rcases he with ⟨hex,rfl⟩ | ⟨hnex,why,hwhy,rfl⟩
 rotate_left
 ·have HN:=Aa (N3.o hnex)
  clear hnex
  unfold AA
  go_wp2_with fail
  exact ⟨rfl,Or.inr ⟨HN.o,why,hwhy,rfl⟩,hB5⟩
 obtain ⟨c05,c15,c25,c35,c45,c55,c65,c75,s05,s15⟩:=Cy hb5 c0q c1q c2q c3q c4q c5q c6q c7q s0q s1q
 obtain ⟨s25,s35,s45,s55,s65,s75,s85,h05,h15,h25⟩:=Cy hb5 s2q s3q s4q s5q s6q s7q s8q h0q h1q h2q
 obtain ⟨h35,h45,h55⟩:=co3 hb5 h3q h4q h5q
 have HEX:=Aa hex
 clear hex hb5 c0q c1q c2q c3q c4q c5q c6q c7q s0q s1q s2q s3q s4q s5q s6q s7q s8q h0q h1q h2q h3q h4q h5q
 go_wp2_with fail
 go_loopw [138] (fun i wr=>i=U zd 0/\Ov w wr) (fun _ _=>0)
 case atStart=>exact ⟨rfl,hB5⟩
 case round=>
  obtain ⟨rfl,hB⟩:=hrel
  go_wp2_with fail
  go_end0
  refine ⟨Or.inl ⟨HQ.o ⟨?_,?_,?_,?_,?_,?_⟩,rfl⟩,hB⟩
  all_goals first | trivial | exact HVAR.o | exact HOT.o | exact HEX.o | exact ⟨HZ1.o,HZ2.o,HXL.o⟩ | (have hq:=HZ_1.o;simp at hq;omega) | (have hq:=HZ_2.o;simp at hq;omega) | (have hq:=HZ_3.o;simp at hq;omega) | omega
theorem NB (K k:Nat) (fs de das) (funcs:Int) (m:Int) (ga gn gc sa sn sc) (ya:Option Addr) (yn yc:Nat) (oa:Option Addr) (on oc:Nat) (va:Option Addr) (vn vc:Nat) (fa fn fc ba bn bc) (vr ot ek en:Int) (xa xl xc aa al ac ta tl tc ea el ec) (w:World) (hv:vn<=9223372036854775807) (i1:Ch vr) (i2:Ch ot) (h0f:0<=funcs) (h1f:funcs<=9223372036854775807) (hyl:yn<=9223372036854775807) (hol:on<=9223372036854775807)
  (hde:RX w K [U zd ek,U zd en,O xa xl xc] de) (hda:XS 3 (RX w K) w (O aa al ac) das) (hfs:BA w K k (O fa fn fc) fs) (hff:funcs<=fs.length) :
  Calls Tryz.prog 220 #[zh #[U zd m,O ga gn gc,O sa sn sc,O ya yn yc,O oa on oc,O va vn vc,O fa fn fc,O ba bn bc],zh #[U zd 8,U zd vr,U zd ot,U zd ek,U zd en,O xa xl xc,O aa al ac,O ta tl tc,O ea el ec],U zd funcs] w (C4 ((vr=0)/\(ot=0)/\(AZ vn K de=0)/\(al=0)/\(True)/\(el=0)) w):=by
 obtain ⟨Q,hQ⟩:∃ Q:Prop,Q=((vr=0)/\(ot=0)/\(AZ vn K de=0)/\(al=0)/\(True)/\(el=0)):=⟨_,rfl⟩
 rw [<-hQ]
 have HQ:Hx (((vr=0)/\(ot=0)/\(AZ vn K de=0)/\(al=0)/\(True)/\(el=0))->Q):=Aa (fun p=>by rw [hQ];exact p)
 have N1:Hx (¬ (vr=0)->¬ Q):=Aa (fun h p=>by rw [hQ] at p;exact h p.1)
 have N2:Hx (¬ (ot=0)->¬ Q):=Aa (fun h p=>by rw [hQ] at p;exact h p.2.1)
 have N3:Hx (¬ (AZ vn K de=0)->¬ Q):=Aa (fun h p=>by rw [hQ] at p;exact h p.2.2.1)
 have N4:Hx (¬ (al=0)->¬ Q):=Aa (fun h p=>by rw [hQ] at p;exact h p.2.2.2.1)
 have N5:Hx (¬ (True)->¬ Q):=Aa (fun h p=>by rw [hQ] at p;exact h p.2.2.2.2.1)
 have N6:Hx (¬ (el=0)->¬ Q):=Aa (fun h p=>by rw [hQ] at p;exact h p.2.2.2.2.2)
 clear hQ
 have K1:=Aa Lk
 have K2:=Aa BR
 have K3:=Aa Bn
 have K4:=Aa fun W=>Ca 8 funcs m ga gn gc sa sn sc ya yn yc oa on oc va vn vc fa fn fc ba bn bc W
 have K5:=Aa fun W (hB:Ov w W)=>B2 K m ga gn gc sa sn sc ya yn yc oa on oc va vn vc fa fn fc ba bn bc _ _ W (hde.over hB) hv
 have hal:al<=9223372036854775807/\al=das.length:=⟨by obtain ⟨hm,ao,cap,he,-⟩:=hda;injection he with e1 e2 e3;rw [e2];exact hm,by obtain ⟨hm,ao,cap,he,-⟩:=hda;injection he⟩
 obtain ⟨hal,hale⟩:=hal
 have HAL:=Aa hale
 obtain ⟨i1,i1'⟩:=i1
 obtain ⟨i2,i2'⟩:=i2
 clear hde hda hfs hale
 obtain ⟨c0,c1,c2,c3,c4,c5,c6,c7⟩:=rc8 (E4 w [U zd m,O ga gn gc,O sa sn sc,O ya yn yc,O oa on oc,O va vn vc,O fa fn fc,O ba bn bc] 184 (ze #[U zd 8,U zd vr,U zd ot,U zd ek,U zd en,O xa xl xc,O aa al ac,O ta tl tc,O ea el ec] 130))
 obtain ⟨s0,s1,s2,s3,s4,s5,s6,s7,s8⟩:=rc9 (Fk w (ze #[U zd m,O ga gn gc,O sa sn sc,O ya yn yc,O oa on oc,O va vn vc,O fa fn fc,O ba bn bc] 184) [U zd 8,U zd vr,U zd ot,U zd ek,U zd en,O xa xl xc,O aa al ac,O ta tl tc,O ea el ec] 130)
 have hbel:Ov w ((w.alloc (ze #[U zd m,O ga gn gc,O sa sn sc,O ya yn yc,O oa on oc,O va vn vc,O fa fn fc,O ba bn bc] 184)).alloc (ze #[U zd 8,U zd vr,U zd ot,U zd ek,U zd en,O xa xl xc,O aa al ac,O ta tl tc,O ea el ec] 130)):=(bA w _).alloc (by simp) _
 go_enter Tryz.func220,Tryz.ntmps220
 go_wp2_with fail
 refine (K1.o _).mono ?_
 rintro e w1 ⟨rfl,hb1⟩
 have hB1:=hbel.trans (hb1.mono hbel.size)
 have hb2:=Ac hb1 (bA w1 (ze #[zg false,zg false,zg true,zg false,zg true,zg false] 288))
 have hB2:=hbel.trans (hb2.mono hbel.size)
 obtain ⟨c0a,c1a,c2a,c3a,c4a,c5a,c6a,c7a,s0a,s1a⟩:=Cy hb2 c0 c1 c2 c3 c4 c5 c6 c7 s0 s1
 obtain ⟨s2a,s3a,s4a,s5a,s6a,s7a,s8a⟩:=co7 hb2 s2 s3 s4 s5 s6 s7 s8
 obtain ⟨h0a,h1a,h2a,h3a,h4a,h5a⟩:=rc6 (CK w1 [zg false,zg false,zg true,zg false,zg true,zg false] 288)
 clear hb1 hb2 hbel hB1 c0 c1 c2 c3 c4 c5 c6 c7 s0 s1 s2 s3 s4 s5 s6 s7 s8
 go_wp2_with fail
 refine (K2.o _ _ _).mono ?_
 rintro e wz ⟨he,rfl⟩
 have he2:=orT he
 subst he2
 clear he
 go_wp2_with fail
 refine (K2.o _ _ _).mono ?_
 rintro e wz ⟨he,rfl⟩
 have he2:=orT he
 subst he2
 clear he
 go_wp2_with fail
 go_quiet ((go_at_call 172;exact Calls.quiet_of_same (BJ _ _)))
 obtain ⟨c0r,c1r,c2r,c3r,c4r,c5r,c6r,c7r,s0r,s1r⟩:=CJ (n:=nq) c0a c1a c2a c3a c4a c5a c6a c7a s0a s1a
 obtain ⟨s2r,s3r,s4r,s5r,s6r,s7r,s8r,h0r,h1r,h2r⟩:=CJ (n:=nq) s2a s3a s4a s5a s6a s7a s8a h0a h1a h2a
 obtain ⟨h3r,h4r,h5r⟩:=cn3 (n:=nq) h3a h4a h5a
 have hBr:=below_drewN hB2 nq
 clear hB2 c0a c1a c2a c3a c4a c5a c6a c7a s0a s1a s2a s3a s4a s5a s6a s7a s8a h0a h1a h2a h3a h4a h5a
 generalize (w1.alloc (ze #[zg false,zg false,zg true,zg false,zg true,zg false] 288)).drewN nq=wr at hBr c0r c1r c2r c3r c4r c5r c6r c7r s0r s1r s2r s3r s4r s5r s6r s7r s8r h0r h1r h2r h3r h4r h5r ⊢
 go_wp2_with fail
 refine (K2.o _ _ _).mono ?_
 rintro e wz ⟨he,rfl⟩
 rcases he with ⟨hz,rfl⟩ | ⟨hz,rfl⟩
 rotate_left
 ·skip
  have HN:=nO N1 N2 N3 N4 N5 N6 hz
  clear hz
  unfold AA
  go_wp2_with fail
  exact ⟨rfl,Or.inr ⟨HN.o,1,by decide,rfl⟩,hBr⟩
 have HZ_1:=Aa hz
 clear hz
 go_wp2_with fail
 refine (K2.o _ _ _).mono ?_
 rintro e wz ⟨he,rfl⟩
 rcases he with ⟨hz,rfl⟩ | ⟨hz,rfl⟩
 rotate_left
 ·skip
  have HN:=nO N1 N2 N3 N4 N5 N6 hz
  clear hz
  unfold AA
  go_wp2_with fail
  exact ⟨rfl,Or.inr ⟨HN.o,1,by decide,rfl⟩,hBr⟩
 have HZ_2:=Aa hz
 clear hz
 go_wp2_with fail
 refine (K2.o _ _ _).mono ?_
 rintro e wz ⟨he,rfl⟩
 have he2:=orT he
 subst he2
 clear he
 go_wp2_with fail
 refine (K2.o _ _ _).mono ?_
 rintro e wz ⟨he,rfl⟩
 rcases he with ⟨hargs,rfl⟩ | ⟨hz,rfl⟩
 rotate_left
 ·skip
  have HN:=nO N1 N2 N3 N4 N5 N6 hz
  clear hz
  unfold AA
  go_wp2_with fail
  exact ⟨rfl,Or.inr ⟨HN.o,1,by decide,rfl⟩,hBr⟩
 have hal0:al=0:=by simp at hargs;omega
 subst hal0
 clear hargs
 go_wp2_with fail
 refine (K2.o _ _ _).mono ?_
 rintro e wz ⟨he,rfl⟩
 have he2:=orT he
 subst he2
 clear he
 go_wp2_with fail
 refine (K2.o _ _ _).mono ?_
 rintro e wz ⟨he,rfl⟩
 rcases he with ⟨hz,rfl⟩ | ⟨hz,rfl⟩
 rotate_left
 ·skip
  have HN:=nO N1 N2 N3 N4 N5 N6 hz
  clear hz
  unfold AA
  go_wp2_with fail
  exact ⟨rfl,Or.inr ⟨HN.o,1,by decide,rfl⟩,hBr⟩
 have HZ_3:=Aa hz
 clear hz
 go_wp2_with fail
 go_quiet ((go_at_call 172;exact Calls.quiet_of_same (BJ _ _)))
 obtain ⟨c0q,c1q,c2q,c3q,c4q,c5q,c6q,c7q,s0q,s1q⟩:=CJ (n:=nq) c0r c1r c2r c3r c4r c5r c6r c7r s0r s1r
 obtain ⟨s2q,s3q,s4q,s5q,s6q,s7q,s8q,h0q,h1q,h2q⟩:=CJ (n:=nq) s2r s3r s4r s5r s6r s7r s8r h0r h1r h2r
 obtain ⟨h3q,h4q,h5q⟩:=cn3 (n:=nq) h3r h4r h5r
 have hBq:=below_drewN hBr nq
 clear c0r c1r c2r c3r c4r c5r c6r c7r s0r s1r s2r s3r s4r s5r s6r s7r s8r h0r h1r h2r h3r h4r h5r
 go_wp2_with fail
 refine (K5.o _ hBq).mono ?_
 rintro e w5 ⟨he,hb5⟩
 have hB5:=hBq.trans (hb5.mono hBq.size)
 rcases he with ⟨hex,rfl⟩ | ⟨hnex,why,hwhy,rfl⟩
 rotate_left
 ·have HN:=Aa (N3.o hnex)
  clear hnex
  unfold AA
  go_wp2_with fail
  exact ⟨rfl,Or.inr ⟨HN.o,why,hwhy,rfl⟩,hB5⟩
 obtain ⟨c05,c15,c25,c35,c45,c55,c65,c75,s05,s15⟩:=Cy hb5 c0q c1q c2q c3q c4q c5q c6q c7q s0q s1q
 obtain ⟨s25,s35,s45,s55,s65,s75,s85,h05,h15,h25⟩:=Cy hb5 s2q s3q s4q s5q s6q s7q s8q h0q h1q h2q
 obtain ⟨h35,h45,h55⟩:=co3 hb5 h3q h4q h5q
 have HEX:=Aa hex
 clear hex hb5 c0q c1q c2q c3q c4q c5q c6q c7q s0q s1q s2q s3q s4q s5q s6q s7q s8q h0q h1q h2q h3q h4q h5q
 go_wp2_with fail
 go_loopw [138] (fun i wr=>i=U zd 0/\Ov w wr) (fun _ _=>0)
 case atStart=>exact ⟨rfl,hB5⟩
 case round=>
  obtain ⟨rfl,hB⟩:=hrel
  go_wp2_with fail
  go_end0
  refine ⟨Or.inl ⟨HQ.o ⟨?_,?_,?_,?_,?_,?_⟩,rfl⟩,hB⟩
  all_goals first | trivial | exact HVAR.o | exact HOT.o | exact HEX.o | exact ⟨HZ1.o,HZ2.o,HXL.o⟩ | (have hq:=HZ_1.o;simp at hq;omega) | (have hq:=HZ_2.o;simp at hq;omega) | (have hq:=HZ_3.o;simp at hq;omega) | omega
theorem NC (K k:Nat) (fs de das) (funcs:Int) (m:Int) (ga gn gc sa sn sc) (ya:Option Addr) (yn yc:Nat) (oa:Option Addr) (on oc:Nat) (va:Option Addr) (vn vc:Nat) (fa fn fc ba bn bc) (vr ot ek en:Int) (xa xl xc aa al ac ta tl tc ea el ec) (w:World) (hv:vn<=9223372036854775807) (i1:Ch vr) (i2:Ch ot) (h0f:0<=funcs) (h1f:funcs<=9223372036854775807) (hyl:yn<=9223372036854775807) (hol:on<=9223372036854775807)
  (hde:RX w K [U zd ek,U zd en,O xa xl xc] de) (hda:XS 3 (RX w K) w (O aa al ac) das) (hfs:BA w K k (O fa fn fc) fs) (hff:funcs<=fs.length) :
  Calls Tryz.prog 220 #[zh #[U zd m,O ga gn gc,O sa sn sc,O ya yn yc,O oa on oc,O va vn vc,O fa fn fc,O ba bn bc],zh #[U zd 7,U zd vr,U zd ot,U zd ek,U zd en,O xa xl xc,O aa al ac,O ta tl tc,O ea el ec],U zd funcs] w (C4 ((vr=0)/\(ot=0)/\(AZ vn K de=0)/\(al=0)/\(True)/\(True)) w):=by
 obtain ⟨Q,hQ⟩:∃ Q:Prop,Q=((vr=0)/\(ot=0)/\(AZ vn K de=0)/\(al=0)/\(True)/\(True)):=⟨_,rfl⟩
 rw [<-hQ]
 have HQ:Hx (((vr=0)/\(ot=0)/\(AZ vn K de=0)/\(al=0)/\(True)/\(True))->Q):=Aa (fun p=>by rw [hQ];exact p)
 have N1:Hx (¬ (vr=0)->¬ Q):=Aa (fun h p=>by rw [hQ] at p;exact h p.1)
 have N2:Hx (¬ (ot=0)->¬ Q):=Aa (fun h p=>by rw [hQ] at p;exact h p.2.1)
 have N3:Hx (¬ (AZ vn K de=0)->¬ Q):=Aa (fun h p=>by rw [hQ] at p;exact h p.2.2.1)
 have N4:Hx (¬ (al=0)->¬ Q):=Aa (fun h p=>by rw [hQ] at p;exact h p.2.2.2.1)
 have N5:Hx (¬ (True)->¬ Q):=Aa (fun h p=>by rw [hQ] at p;exact h p.2.2.2.2.1)
 have N6:Hx (¬ (True)->¬ Q):=Aa (fun h p=>by rw [hQ] at p;exact h p.2.2.2.2.2)
 clear hQ
 have K1:=Aa Ll
 have K2:=Aa BR
 have K3:=Aa Bn
 have K4:=Aa fun W=>Ca 7 funcs m ga gn gc sa sn sc ya yn yc oa on oc va vn vc fa fn fc ba bn bc W
 have K5:=Aa fun W (hB:Ov w W)=>B2 K m ga gn gc sa sn sc ya yn yc oa on oc va vn vc fa fn fc ba bn bc _ _ W (hde.over hB) hv
 have hal:al<=9223372036854775807/\al=das.length:=⟨by obtain ⟨hm,ao,cap,he,-⟩:=hda;injection he with e1 e2 e3;rw [e2];exact hm,by obtain ⟨hm,ao,cap,he,-⟩:=hda;injection he⟩
 obtain ⟨hal,hale⟩:=hal
 have HAL:=Aa hale
 obtain ⟨i1,i1'⟩:=i1
 obtain ⟨i2,i2'⟩:=i2
 clear hde hda hfs hale
 obtain ⟨c0,c1,c2,c3,c4,c5,c6,c7⟩:=rc8 (E4 w [U zd m,O ga gn gc,O sa sn sc,O ya yn yc,O oa on oc,O va vn vc,O fa fn fc,O ba bn bc] 184 (ze #[U zd 7,U zd vr,U zd ot,U zd ek,U zd en,O xa xl xc,O aa al ac,O ta tl tc,O ea el ec] 130))
 obtain ⟨s0,s1,s2,s3,s4,s5,s6,s7,s8⟩:=rc9 (Fk w (ze #[U zd m,O ga gn gc,O sa sn sc,O ya yn yc,O oa on oc,O va vn vc,O fa fn fc,O ba bn bc] 184) [U zd 7,U zd vr,U zd ot,U zd ek,U zd en,O xa xl xc,O aa al ac,O ta tl tc,O ea el ec] 130)
 have hbel:Ov w ((w.alloc (ze #[U zd m,O ga gn gc,O sa sn sc,O ya yn yc,O oa on oc,O va vn vc,O fa fn fc,O ba bn bc] 184)).alloc (ze #[U zd 7,U zd vr,U zd ot,U zd ek,U zd en,O xa xl xc,O aa al ac,O ta tl tc,O ea el ec] 130)):=(bA w _).alloc (by simp) _
 go_enter Tryz.func220,Tryz.ntmps220
 go_wp2_with fail
 refine (K1.o _).mono ?_
 rintro e w1 ⟨rfl,hb1⟩
 have hB1:=hbel.trans (hb1.mono hbel.size)
 have hb2:=Ac hb1 (bA w1 (ze #[zg false,zg false,zg true,zg false,zg true,zg true] 288))
 have hB2:=hbel.trans (hb2.mono hbel.size)
 obtain ⟨c0a,c1a,c2a,c3a,c4a,c5a,c6a,c7a,s0a,s1a⟩:=Cy hb2 c0 c1 c2 c3 c4 c5 c6 c7 s0 s1
 obtain ⟨s2a,s3a,s4a,s5a,s6a,s7a,s8a⟩:=co7 hb2 s2 s3 s4 s5 s6 s7 s8
 obtain ⟨h0a,h1a,h2a,h3a,h4a,h5a⟩:=rc6 (CK w1 [zg false,zg false,zg true,zg false,zg true,zg true] 288)
 clear hb1 hb2 hbel hB1 c0 c1 c2 c3 c4 c5 c6 c7 s0 s1 s2 s3 s4 s5 s6 s7 s8
 go_wp2_with fail
 refine (K2.o _ _ _).mono ?_
 rintro e wz ⟨he,rfl⟩
 have he2:=orT he
 subst he2
 clear he
 go_wp2_with fail
 refine (K2.o _ _ _).mono ?_
 rintro e wz ⟨he,rfl⟩
 have he2:=orT he
 subst he2
 clear he
 go_wp2_with fail
 go_quiet ((go_at_call 172;exact Calls.quiet_of_same (BJ _ _)))
 obtain ⟨c0r,c1r,c2r,c3r,c4r,c5r,c6r,c7r,s0r,s1r⟩:=CJ (n:=nq) c0a c1a c2a c3a c4a c5a c6a c7a s0a s1a
 obtain ⟨s2r,s3r,s4r,s5r,s6r,s7r,s8r,h0r,h1r,h2r⟩:=CJ (n:=nq) s2a s3a s4a s5a s6a s7a s8a h0a h1a h2a
 obtain ⟨h3r,h4r,h5r⟩:=cn3 (n:=nq) h3a h4a h5a
 have hBr:=below_drewN hB2 nq
 clear hB2 c0a c1a c2a c3a c4a c5a c6a c7a s0a s1a s2a s3a s4a s5a s6a s7a s8a h0a h1a h2a h3a h4a h5a
 generalize (w1.alloc (ze #[zg false,zg false,zg true,zg false,zg true,zg true] 288)).drewN nq=wr at hBr c0r c1r c2r c3r c4r c5r c6r c7r s0r s1r s2r s3r s4r s5r s6r s7r s8r h0r h1r h2r h3r h4r h5r ⊢
 go_wp2_with fail
 refine (K2.o _ _ _).mono ?_
 rintro e wz ⟨he,rfl⟩
 rcases he with ⟨hz,rfl⟩ | ⟨hz,rfl⟩
 rotate_left
 ·skip
  have HN:=nO N1 N2 N3 N4 N5 N6 hz
  clear hz
  unfold AA
  go_wp2_with fail
  exact ⟨rfl,Or.inr ⟨HN.o,1,by decide,rfl⟩,hBr⟩
 have HZ_1:=Aa hz
 clear hz
 go_wp2_with fail
 refine (K2.o _ _ _).mono ?_
 rintro e wz ⟨he,rfl⟩
 rcases he with ⟨hz,rfl⟩ | ⟨hz,rfl⟩
 rotate_left
 ·skip
  have HN:=nO N1 N2 N3 N4 N5 N6 hz
  clear hz
  unfold AA
  go_wp2_with fail
  exact ⟨rfl,Or.inr ⟨HN.o,1,by decide,rfl⟩,hBr⟩
 have HZ_2:=Aa hz
 clear hz
 go_wp2_with fail
 refine (K2.o _ _ _).mono ?_
 rintro e wz ⟨he,rfl⟩
 have he2:=orT he
 subst he2
 clear he
 go_wp2_with fail
 refine (K2.o _ _ _).mono ?_
 rintro e wz ⟨he,rfl⟩
 rcases he with ⟨hargs,rfl⟩ | ⟨hz,rfl⟩
 rotate_left
 ·skip
  have HN:=nO N1 N2 N3 N4 N5 N6 hz
  clear hz
  unfold AA
  go_wp2_with fail
  exact ⟨rfl,Or.inr ⟨HN.o,1,by decide,rfl⟩,hBr⟩
 have hal0:al=0:=by simp at hargs;omega
 subst hal0
 clear hargs
 go_wp2_with fail
 refine (K2.o _ _ _).mono ?_
 rintro e wz ⟨he,rfl⟩
 have he2:=orT he
 subst he2
 clear he
 go_wp2_with fail
 refine (K2.o _ _ _).mono ?_
 rintro e wz ⟨he,rfl⟩
 have he2:=orT he
 subst he2
 clear he
 go_wp2_with fail
 go_quiet ((go_at_call 172;exact Calls.quiet_of_same (BJ _ _)))
 obtain ⟨c0q,c1q,c2q,c3q,c4q,c5q,c6q,c7q,s0q,s1q⟩:=CJ (n:=nq) c0r c1r c2r c3r c4r c5r c6r c7r s0r s1r
 obtain ⟨s2q,s3q,s4q,s5q,s6q,s7q,s8q,h0q,h1q,h2q⟩:=CJ (n:=nq) s2r s3r s4r s5r s6r s7r s8r h0r h1r h2r
 obtain ⟨h3q,h4q,h5q⟩:=cn3 (n:=nq) h3r h4r h5r
 have hBq:=below_drewN hBr nq
 clear c0r c1r c2r c3r c4r c5r c6r c7r s0r s1r s2r s3r s4r s5r s6r s7r s8r h0r h1r h2r h3r h4r h5r
 go_wp2_with fail
 refine (K5.o _ hBq).mono ?_
 rintro e w5 ⟨he,hb5⟩
 have hB5:=hBq.trans (hb5.mono hBq.size)
 rcases he with ⟨hex,rfl⟩ | ⟨hnex,why,hwhy,rfl⟩
 rotate_left
 ·have HN:=Aa (N3.o hnex)
  clear hnex
  unfold AA
  go_wp2_with fail
  exact ⟨rfl,Or.inr ⟨HN.o,why,hwhy,rfl⟩,hB5⟩
 obtain ⟨c05,c15,c25,c35,c45,c55,c65,c75,s05,s15⟩:=Cy hb5 c0q c1q c2q c3q c4q c5q c6q c7q s0q s1q
 obtain ⟨s25,s35,s45,s55,s65,s75,s85,h05,h15,h25⟩:=Cy hb5 s2q s3q s4q s5q s6q s7q s8q h0q h1q h2q
 obtain ⟨h35,h45,h55⟩:=co3 hb5 h3q h4q h5q
 have HEX:=Aa hex
 clear hex hb5 c0q c1q c2q c3q c4q c5q c6q c7q s0q s1q s2q s3q s4q s5q s6q s7q s8q h0q h1q h2q h3q h4q h5q
 go_wp2_with fail
 go_loopw [138] (fun i wr=>i=U zd 0/\Ov w wr) (fun _ _=>0)
 case atStart=>exact ⟨rfl,hB5⟩
 case round=>
  obtain ⟨rfl,hB⟩:=hrel
  go_wp2_with fail
  go_end0
  refine ⟨Or.inl ⟨HQ.o ⟨?_,?_,?_,?_,?_,?_⟩,rfl⟩,hB⟩
  all_goals first | trivial | exact HVAR.o | exact HOT.o | exact HEX.o | exact ⟨HZ1.o,HZ2.o,HXL.o⟩ | (have hq:=HZ_1.o;simp at hq;omega) | (have hq:=HZ_2.o;simp at hq;omega) | omega
end Go.Proofs.YtfffpjkcfnekaaaGreat.Ex.Ey
