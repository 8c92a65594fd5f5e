/- The one who runs, in memory. -/
import Derived.Test.YtfffpjkcfnekaaaGreatF26
import Derived.Maps.AppendAt
import Derived.Laws.OwnMore
set_option linter.unusedVariables false
set_option maxHeartbeats 8000000
set_option maxRecDepth 100000
namespace Go.Proofs.YtfffpjkcfnekaaaGreat.Ex
open Go.RowKit
open Go.Value renaming slice -> O, int -> U, bool -> zg, agg -> zh, pointer -> zj, tuple -> zm
open Go.IntKind renaming i64 -> zd
open Go.Obj renaming cells -> ze
open Go.Ending renaming returned -> zk
abbrev Dq (l:List Int):List Value:=l.map fun x=>Value.int zd x
theorem AR {w:World} {r j:Nat} {u:Value}:w.grownBy (w.setCell ⟨r,j,none⟩ u) (some r):=Ml (n:=0)
theorem Ba {w:World} {a b j k:Nat} {u:Value}:(w.setCell ⟨a,j,none⟩ u).frozen? ⟨b,k,none⟩=w.frozen? ⟨b,k,none⟩:=by simp [go_sem]
def Off (B:Nat) (g:Option Nat) (w:World) (P:World->Prop):Prop:=∀ W:World,(∀ k,B<=k->k < w.heap.size->some k≠g->W.heap[k]? = w.heap[k]?)->P W
section
variable {B B':Nat} {g:Option Nat} {w w':World} {P P':World->Prop} {v v':Value}
theorem Off.self (h:Off B g w P):P w:=h w fun _ _ _ _=>rfl
theorem Off.imp (h:Off B g w P) (f:∀ W,P W->P' W):Off B g w P':=fun W hW=>f W (h W hW)
theorem Off.over (h:Off B g w P) (hb:Ov w w'):Off B g w' P:=fun W hW=>h W fun k h1 h2 h3=>(hW k h1 (Nat.lt_of_lt_of_le h2 hb.size) h3).trans (hb.block k h2)
theorem Off.base (h:Off B g w P) (hb:B'<=B):Off B' g w P:=fun W hW=>h W fun k h1 h2 h3=>hW k (Nat.le_trans hb h1) h2 h3
theorem Off.row (h:Off B v.ownBlock w P) (hg:w.grownBy w' v.ownBlock) (hv:v'.ownBlock=v.ownBlock\/v'.ownBlock=some w.heap.size):Off B v'.ownBlock w' P:=fun W hW=>h W fun k h1 h2 h3=>
 (hW k h1 (Nat.lt_of_lt_of_le h2 hg.size) (by
  rcases hv with e | e
  ·rw [e];exact h3
  ·rw [e];intro q;injection q with q;omega)).trans (hg.block k h2 h3)
theorem Off.weak (h:Off B none w P) (hb:B'<=B) (hg:∀ k,g=some k->k < B):Off B' g w P:=fun W hW=>h W fun k h1 h2 _=>hW k (Nat.le_trans hb h1) h2 (fun e=>by have:=hg k e.symm;omega)
theorem Off.set {b j:Nat} {u:Value} (h:Off B g w P) (hb:b < B):Off B g (w.setCell ⟨b,j,none⟩ u) P:=fun W hW=>h W fun k h1 h2 h3=>
 (hW k h1 (by simpa [World.setCell] using h2) h3).trans ((AR (w:=w) (r:=b) (j:=j) (u:=u)).block k h2 (fun e=>by injection e with e;omega))
end
def Cop (B T s:Nat) (P:Nat->List Value->World->Prop) (n:Nat) (v:Value) (w:World):Prop:=
 ∃ xs,w.ownsRow B T s v n xs/\∀ i,i < n->∃ cs:List Value,cs.length=s/\(∀ j u,cs[j]? = some u->xs[i*s+j]? = some u)/\Off B v.ownBlock w (P i cs)
section
variable {B T s n:Nat} {P:Nat->List Value->World->Prop} {v v':Value} {w w' w2:World}
theorem Cop.nil:Cop B T s P 0 (O none 0 0) w:=⟨[],World.ownsRow_nil w B T s,fun i hi=>absurd hi (Nat.not_lt_zero _)⟩
theorem Cop.over (h:Cop B T s P n v w) (hb:Ov w w'):Cop B T s P n v w':=by
 obtain ⟨xs,ho,he⟩:=h
 refine ⟨xs,Ad ho hb,fun i hi=>?_⟩
 obtain ⟨cs,h1,h2,h3⟩:=he i hi
 exact ⟨cs,h1,h2,h3.over hb⟩
theorem Cop.set {b j:Nat} {u:Value} (h:Cop B T s P n v w) (hb:b < B):Cop B T s P n v (w.setCell ⟨b,j,none⟩ u):=by
 obtain ⟨xs,ho,he⟩:=h
 refine ⟨xs,ho.kept AR (Or.inr (fun e=>by have:=(An ho e).1;omega)),fun i hi=>?_⟩
 obtain ⟨cs,h1,h2,h3⟩:=he i hi
 exact ⟨cs,h1,h2,h3.set hb⟩
theorem Cop.add {xs cs:List Value} {B1:Nat} (ho:w.ownsRow B T s v n xs) (he:∀ i,i < n->∃ cs:List Value,cs.length=s/\(∀ j u,cs[j]? = some u->xs[i*s+j]? = some u)/\Off B v.ownBlock w (P i cs))
  (hl:cs.length=s) (hn:Off B1 none w (P n cs)) (hB:B<=B1) (hrow:∀ k,v.ownBlock=some k->k < B1) (ho':w2.ownsRow B T s v' (n+1) (xs++cs)) (hg:w.grownBy w2 v.ownBlock) (hat:v'.ownBlock=v.ownBlock\/v'.ownBlock=some w.heap.size):Cop B T s P (n+1) v' w2:=by
 refine ⟨xs++cs,ho',fun i hi=>?_⟩
 by_cases h:i < n
 ·obtain ⟨ds,h1,h2,h3⟩:=he i h
  refine ⟨ds,h1,fun j u hu=>?_,h3.row hg hat⟩
  have:=h2 j u hu
  rw [List.getElem?_append_left (List.getElem?_eq_some_iff.1 this).1]
  exact this
 ·obtain rfl:i=n:=by omega
  refine ⟨cs,hl,fun j u hu=>?_,(hn.weak hB hrow).row hg hat⟩
  rw [List.getElem?_append_right (by rw [ho.1];omega),ho.1,Nat.add_sub_cancel_left]
  exact hu
theorem Cop.cells (h:Cop B T s P n v w) (hs:0 < s):∃ (a:Option Addr) (c:Nat),v=O a n c/\Off B none w (fun W=>(n≠0->∃ b,a=some ⟨b,0,none⟩/\∀ i,i < n->∃ cs:List Value,cs.length=s/\(∀ j u,cs[j]? = some u->W.cell? ⟨b,i*s+j,none⟩=some u)/\P i cs W)):=by
 obtain ⟨xs,ho,he⟩:=h
 rcases ho.2 with ⟨hv,h0⟩ | ⟨g,cap,cur,hv,hb,hg,h1,h2,h3,h4⟩
 ·exact ⟨none,0,by rw [hv,h0],fun W _ hne=>absurd h0 hne⟩
 ·refine ⟨some ⟨g,0,none⟩,cap,hv,fun W hW hne=>⟨g,rfl,fun i hi=>?_⟩⟩
  obtain ⟨cs,q1,q2,q3⟩:=he i hi
  refine ⟨cs,q1,fun j u hu=>?_,q3 W fun k k1 k2 _=>hW k k1 k2 (by simp)⟩
  have hlt:g < w.heap.size:=(Array.getElem?_eq_some_iff.1 hg).1
  have hx:=q2 j u hu
  have hblk:W.heap[g]? = w.heap[g]?:=hW g hb hlt (by simp)
  rw [World.cell?_of_block (a:=⟨g,i*s+j,none⟩) hblk,Lib.cell_of_heap hg]
  have hlx:i*s+j < n*s:=by rw [<-ho.1];exact (List.getElem?_eq_some_iff.1 hx).1
  rw [<-h4,List.getElem?_take,if_pos hlx] at hx
  simpa using hx
end
theorem Tryz.infoFt:(Tryz.prog.info? 89).map (fun i=>(i.zero,i.size,i.bytes))=some (some (zh #[U zd 0,U zd 0]),2,16):=by kernel_rfl
theorem Ao {ops:Array Oper} {o:Oper} {a:Act} {W:World} {K:Act->World->Prop} {Q:Exit->Act->World->Prop} {E:Prop} (hg:o.guard=none) (s x:Operand) (t:TypeId) (hop:o.op=Op.call { callee:=Callee.builtin Builtin.append,args:=#[s,x],argTypes:=#[t,t] }) (v u v':Value) (W':World) (hs:a.eval s=v) (hx:a.eval x=u)
  (hr:(Builtin.append_ #[t,t] o.type #[v,u]).run Tryz.prog W=.ok v' W') (h:K (a.put o.dst v') W'):if Region.wanted o (yielded ops a.tmps)=true then Oper.wp Tryz.prog o a W K Q else E:=by
 have hw:Region.wanted o (yielded ops a.tmps)=true:=by simp [Region.wanted,hg]
 rw [if_pos hw]
 unfold Oper.wp execOp
 simp only [hop,resolve,invoke,builtin,Sem.run_bind,Sem.run_pure,Result.andThen_ok,List.map_toArray,List.map_cons,List.map_nil,hs,hx,hr]
 exact h
theorem C5 {cs:List Value} {w:World} {b j:Nat} {v:Value} (h:Ae cs w b) (hj:j < cs.length):Ae (cs.set j v) (w.setCell ⟨b,j,none⟩ v) b:=by
 intro i u hu
 by_cases hij:j=i
 ·subst hij
  rw [List.getElem?_set_self hj] at hu
  injection hu with hu
  subst hu
  exact World.cell?_setCell_same _ _ _ (h j _ (List.getElem?_eq_getElem hj))
 ·rw [List.getElem?_set_ne hij] at hu
  rw [World.cell?_setCell_other _ _ _ _ (by intro e;injection e with e1 e2;exact hij e2)]
  exact h i u hu
theorem Bl {w:World} {b i k:Nat} (h:b≠k) (u:Value):(w.setCell ⟨b,i,none⟩ u).heap[k]? = w.heap[k]?:=by
 simp [World.setCell,Array.getElem?_modify,h]
theorem Jo {w:World} {b j:Nat} {u:Value}:w.grownBy (w.setCell ⟨b,j,none⟩ u) (some b):=
 ⟨rfl,rfl,rfl,by simp [World.setCell],fun k hk hne=>Bl (fun e=>hne (by rw [e])) u⟩
theorem IA {w w':World} {v:Value} {B:Nat} (h:w.grownBy w' v.ownBlock) (hv:∀ g,v.ownBlock=some g->B<=g) (hB:B<=w.heap.size):Below B w w':=
 ⟨h.os,h.tape,h.output,h.size,fun k hk=>h.block k (by omega) (fun e=>by have:=hv k e.symm;omega)⟩
def DI (l:List (Int × Int)):List Value:=l.flatMap fun x=>[U zd x.1,U zd x.2]
theorem IC (l:List (Int × Int)) (a k:Int):DI (l++[(a,k)])=DI l++[U zd a,U zd k]:=by simp [DI]
def addF (a k:Int) (fl:List (Int × Int)):Bool->List (Int × Int)
 | true=>fl++[(a,k)]
 | false=>fl
def XJ (bj:Nat) (W:World) (k:Nat):Prop:=W.heap.size<=bj\/k=bj\/∃ v,W.cell? ⟨bj,11,none⟩=some v/\v.ownBlock=some k
theorem Aj (bj:Nat):XOk (XJ bj):=⟨fun W W' hb k h=>by
 by_cases hlt:W.heap.size<=bj
 ·exact Or.inl hlt
 ·rcases h with h | h | ⟨v,hv,ho⟩
  ·exact absurd (Nat.le_trans hb.size h) hlt
  ·exact Or.inr (Or.inl h)
  ·refine Or.inr (Or.inr ⟨v,?_,ho⟩)
   rw [<-hv]
   exact (World.cell?_of_block (a:=⟨bj,11,none⟩) (hb.block bj (by omega))).symm⟩
structure AW (cs:List Value) (w0:World) (bj:Nat) (av:Value) (fl:List (Int × Int)) (fv:Value) (W:World):Prop where
 below:Ov w0 W
 row:Ae (cs++[av,fv]) W bj
 fz:∀ j,W.frozen? ⟨bj,j,none⟩=false
 own:W.ownsRow w0.heap.size 89 2 fv fl.length (DI fl)
 ap:fv.ownBlock≠some bj
 lo:w0.heap.size<=bj/\bj < W.heap.size
 len:cs.length=10
theorem AW.c11 {cs:List Value} {w0:World} {bj:Nat} {av:Value} {fl:List (Int × Int)} {fv:Value} {W:World} (h:AW cs w0 bj av fl fv W):W.cell? ⟨bj,11,none⟩=some fv:=h.row 11 _ (by rw [List.getElem?_append_right (by rw [h.len];omega),h.len];rfl)
theorem AW.c10 {cs:List Value} {w0:World} {bj:Nat} {av:Value} {fl:List (Int × Int)} {fv:Value} {W:World} (h:AW cs w0 bj av fl fv W):W.cell? ⟨bj,10,none⟩=some av:=h.row 10 _ (by rw [List.getElem?_append_right (by rw [h.len];omega),h.len];rfl)
theorem AW.cw {cs:List Value} {w0:World} {bj:Nat} {av:Value} {fl:List (Int × Int)} {fv:Value} {W:World} (h:AW cs w0 bj av fl fv W):Ae cs W bj:=fun j u hu=>h.row j u (by rw [List.getElem?_append_left (List.getElem?_eq_some_iff.1 hu).1];exact hu)
theorem AW.over {cs:List Value} {w0:World} {bj:Nat} {av:Value} {fl:List (Int × Int)} {fv:Value} {W W':World} (h:AW cs w0 bj av fl fv W) (hb:Ov W W'):AW cs w0 bj av fl fv W':=
 ⟨h.below.trans (hb.mono h.below.size),h.row.over hb,fun j=>((Al hb).2 _ _ h.lo.2).trans (h.fz j),h.own.kept (row:=none) ⟨hb.os,hb.tape,hb.output,hb.size,fun k hk _=>hb.block k hk⟩ (by cases fv.ownBlock <;> simp),h.ap,⟨h.lo.1,Nat.lt_of_lt_of_le h.lo.2 hb.size⟩,h.len⟩
theorem L7 {W:World} {B e s n:Nat} {v:Value} {xs:List Value} (h:W.ownsRow B e s v n xs):∀ g,v.ownBlock=some g->B<=g/\g < W.heap.size:=by
 intro g hg
 rcases h.2 with ⟨h,-⟩ | ⟨g',cap,cur,h,hb,hh,-⟩
 ·rw [h] at hg;cases hg
 ·rw [h] at hg
  simp [Value.ownBlock] at hg
  subst hg
  exact ⟨hb,(Array.getElem?_eq_some_iff.1 hh).1⟩
theorem AW.xlt {cs:List Value} {w0:World} {bj:Nat} {av:Value} {fl:List (Int × Int)} {fv:Value} {W:World} (h:AW cs w0 bj av fl fv W):∀ k,XJ bj W k->w0.heap.size<=k/\k < W.heap.size:=by
 rintro k (hk | rfl | ⟨v,hv,ho⟩)
 ·have:=h.lo.2;omega
 ·exact h.lo
 ·rw [h.c11] at hv
  injection hv with hv
  subst hv
  exact L7 h.own k ho
theorem AW.add {cs:List Value} {w0:World} {bj:Nat} {av:Value} {fl:List (Int × Int)} {fv v':Value} {W W':World} {a k:Int} (h:AW cs w0 bj av fl fv W) (ho':W'.ownsRow w0.heap.size 89 2 v' (fl.length+1) (DI fl++[U zd a,U zd k])) (hg:W.grownBy W' fv.ownBlock) (hat:v'.ownBlock=fv.ownBlock\/v'.ownBlock=some W.heap.size) :
  AW cs w0 bj av (fl++[(a,k)]) v' (W'.setCell ⟨bj,11,none⟩ v')/\FrW (XJ bj) W (W'.setCell ⟨bj,11,none⟩ v'):=by
 have hbw:W'.heap[bj]? = W.heap[bj]?:=hg.block bj h.lo.2 (fun e=>h.ap e.symm)
 have hrow':Ae (cs++[av,fv]) W' bj:=fun j u hu=>(World.cell?_of_block (a:=⟨bj,j,none⟩) hbw).trans (h.row j u hu)
 have hBl:Below w0.heap.size W W':=IA hg (fun g e=>(L7 h.own g e).1) h.below.size
 have hv':v'.ownBlock≠some bj:=by
  rcases hat with e | e
  ·rw [e];exact h.ap
  ·rw [e];intro e;injection e with e;have:=h.lo.2;omega
 have hsz:(W'.setCell ⟨bj,11,none⟩ v').heap.size=W'.heap.size:=by simp [World.setCell]
 have hrow2:Ae (cs++[av,v']) (W'.setCell ⟨bj,11,none⟩ v') bj:=by
  have:=C5 (j:=11) (v:=v') hrow' (by simp [h.len])
  rw [List.set_append,if_neg (by rw [h.len];omega),h.len] at this
  simpa using this
 have hc2:CE (W'.setCell ⟨bj,11,none⟩ v') bj 11 v':=hrow2 11 _ (by rw [List.getElem?_append_right (by rw [h.len];omega),h.len];rfl)
 refine ⟨⟨(h.below.trans hBl).setCell h.lo.1 _,hrow2,fun j=>?_,?_,hv',⟨h.lo.1,?_⟩,h.len⟩,⟨?_,?_,?_,?_,?_,?_⟩⟩
 ·have e1:(W'.setCell ⟨bj,11,none⟩ v').frozen? ⟨bj,j,none⟩=W'.frozen? ⟨bj,j,none⟩:=by simp [go_sem]
  rw [e1,World.frozen?_of_block (a:=⟨bj,j,none⟩) hbw]
  exact h.fz j
 ·rw [IC,List.length_append]
  exact ho'.kept (row:=some bj) Jo (Or.inr hv')
 ·rw [hsz];exact Nat.lt_of_lt_of_le h.lo.2 hg.size
 ·exact hg.os
 ·exact hg.tape
 ·exact hg.output
 ·rw [hsz];exact hg.size
 ·intro k hk hx
  have hne:k≠bj:=fun e=>hx (Or.inr (Or.inl e))
  rw [Bl (Ne.symm hne) v']
  exact hg.block k hk (fun e=>hx (Or.inr (Or.inr ⟨fv,h.c11,e.symm⟩)))
 ·rintro k hk (hx | rfl | ⟨v,hv,ho⟩)
  ·rw [hsz] at hx;have:=hg.size;have:=h.lo.2;omega
  ·exact Or.inr (Or.inl rfl)
  ·rw [hc2] at hv
   injection hv with hv
   subst hv
   rcases hat with e | e
   ·exact Or.inr (Or.inr ⟨fv,h.c11,by rw [<-e];exact ho⟩)
   ·rw [e] at ho;injection ho with ho;omega
theorem Ff (cs:List Value) (w0:World) (bj:Nat) (av:Value) (fl) (fv:Value) (a k:Int) (is:Bool) (bx ba:Nat) (W:World) (h:AW cs w0 bj av fl fv W) (hx:W.cell? ⟨bx,0,none⟩=some (zj (some ⟨bj,0,none⟩))) (ha:W.cell? ⟨ba,0,none⟩=some (U zd a)) (nx:¬ XJ bj W bx) (na:¬ XJ bj W ba) (hl:fl.length<=1000) :
  Calls Tryz.prog 149 #[U zd k,zg is,zj (some ⟨bx,0,none⟩),zj (some ⟨ba,0,none⟩)] W fun e W'=>e=zk (zm #[])/\(∃ fv',AW cs w0 bj av (addF a k fl is) fv' W')/\FrW (XJ bj) W W':=by
 cases is with
 | false=>
  go_enter Tryz.func149,Tryz.ntmps149
  go_wp2_with fail
  go_end0
  exact ⟨rfl,⟨fv,h⟩,FrW.refl _⟩
 | true=>
  obtain ⟨i0,hi,hz0,hz1,hz2⟩:=info_parts Tryz.infoFt
  obtain ⟨fa,fn,fc,rfl⟩:=Ak h.own
  have hb1:Ov W (W.drew.alloc (ze #[U zd a,U zd k] 89)):=(bD W).alloc (Nat.le_refl _) _
  have hJ1:=h.over hb1
  have hN:=Ae.new [U zd a,U zd k] 89 W.drew
  have hBW:w0.heap.size<=(W.drew.alloc (ze #[U zd a,U zd k] 89)).heap.size:=hJ1.below.size
  obtain ⟨v2,w2,hrun,hown2,hgr2,-,hat⟩:=run_append_own_at (P:=Tryz.prog) (w:=W.drew.alloc (ze #[U zd a,U zd k] 89)) w0.heap.size 79 79 89 i0 (zh #[U zd 0,U zd 0]) 2 16 Tryz.underlying79 hi hz0 hz1 hz2 rfl (by decide) _ _ _ hJ1.own ⟨W.drew.heap.size,0,none⟩ 1 1 [U zd a,U zd k] rfl (fun jj u hu=>by rw [Addr.add_lit,Nat.zero_add];exact hN jj u hu) (by simp [Value.oneCell']) (by unfold maxLen;omega) (by omega) hBW
  obtain ⟨va2,vn2,vc2,rfl⟩:=Ak hown2
  have hfin:=hJ1.add hown2 hgr2 hat
  have x11:=h.c11
  have y11:=hJ1.c11
  have z11:=Ab (bA W (ze #[U zd a,U zd k] 89)) _ _ x11
  have d2:=hgr2.cell y11 (fun hx=>hJ1.ap hx.symm)
  have f2:w2.frozen? ⟨bj,11,none⟩=false:=(World.frozen?_of_block (a:=⟨bj,11,none⟩) (hgr2.block bj hJ1.lo.2 (fun hx=>hJ1.ap hx.symm))).trans (hJ1.fz 11)
  have nx1:¬ XJ bj (W.drew.alloc (ze #[U zd a,U zd k] 89)) bx:=fun e=>nx ((Aj bj).below _ _ hb1 _ e)
  have na1:¬ XJ bj (W.drew.alloc (ze #[U zd a,U zd k] 89)) ba:=fun e=>na ((Aj bj).below _ _ hb1 _ e)
  have hS0:CE W.drew bx 0 (zj (some ⟨bj,0,none⟩))/\CE W.drew ba 0 (U zd a):=⟨hx,ha⟩
  have hS1:CE (W.drew.alloc (ze #[U zd a,U zd k] 89)) bx 0 (zj (some ⟨bj,0,none⟩))/\CE (W.drew.alloc (ze #[U zd a,U zd k] 89)) ba 0 (U zd a):=⟨Ab hb1 _ _ hx,Ab hb1 _ _ ha⟩
  have hS2:CE w2 bx 0 (zj (some ⟨bj,0,none⟩))/\CE w2 ba 0 (U zd a):=⟨hgr2.cell hS1.1 (fun e=>nx1 (Or.inr (Or.inr ⟨_,hJ1.c11,e.symm⟩))),hgr2.cell hS1.2 (fun e=>na1 (Or.inr (Or.inr ⟨_,hJ1.c11,e.symm⟩)))⟩
  have hS3:CE (w2.setCell ⟨bj,11,none⟩ (O va2 vn2 vc2)) bx 0 (zj (some ⟨bj,0,none⟩))/\CE (w2.setCell ⟨bj,11,none⟩ (O va2 vn2 vc2)) ba 0 (U zd a):=⟨hfin.2.cell hS1.1 nx1,hfin.2.cell hS1.2 na1⟩
  have HFIN:Hx (AW cs w0 bj av (fl++[(a,k)]) (O va2 vn2 vc2) (w2.setCell ⟨bj,11,none⟩ (O va2 vn2 vc2))/\FrW (XJ bj) W (w2.setCell ⟨bj,11,none⟩ (O va2 vn2 vc2))):=⟨hfin.1,(FrW.of_below (Aj bj) hb1).trans hfin.2⟩
  clear hfin hown2 hgr2 hat hN hBW hJ1 h nx na nx1 na1 hb1 hi hz0 hz1 hz2
  go_enter Tryz.func149,Tryz.ntmps149
  go_wp2_with fail
  refine gS (fun Wz=>CE Wz bx 0 (zj (some ⟨bj,0,none⟩))/\CE Wz ba 0 (U zd a)) (hS0) fun hHeld=>?_
  refine kT 0 ?_
  refine kT 1 ?_
  refine kT 2 ?_
  refine kT 3 ?_
  refine kT 5 ?_
  refine kT 6 ?_
  refine kT 7 ?_
  refine rdB 4 8 rfl (fun K hK=>?_) rfl fun K hK=>?_
  ·go_simp
   refine xK hK (hS0) fun hHeld=>?_
   refine rdA 8 rfl fun K hK=>?_
   go_simp
   refine xK hK (hS1) fun hHeld=>?_
   refine rdA 9 rfl fun K hK=>?_
   refine Ao rfl _ _ _ rfl _ _ _ _ rfl rfl hrun ?_
   refine xK hK (hS2) fun hHeld=>?_
   refine rdA 10 rfl fun K hK=>?_
   go_simp
   refine xK hK (hS2) fun hHeld=>?_
   refine rdA 11 rfl fun K hK=>?_
   go_simp
   refine xK hK (hS2) fun hHeld=>?_
   refine rdA 12 rfl fun K hK=>?_
   go_simp
   refine xK hK (hS3) fun hHeld=>?_
   refine gE ?_
   go_end0
   exact ⟨rfl,⟨_,HFIN.o.1⟩,HFIN.o.2⟩
  ·go_simp
   refine xK hK (hS1) fun hHeld=>?_
   refine rdA 4 rfl fun K hK=>?_
   go_simp
   refine xK hK (hS1) fun hHeld=>?_
   refine rdA 9 rfl fun K hK=>?_
   refine Ao rfl _ _ _ rfl _ _ _ _ rfl rfl hrun ?_
   refine xK hK (hS2) fun hHeld=>?_
   refine rdA 10 rfl fun K hK=>?_
   go_simp
   refine xK hK (hS2) fun hHeld=>?_
   refine rdA 11 rfl fun K hK=>?_
   go_simp
   refine xK hK (hS2) fun hHeld=>?_
   refine rdA 12 rfl fun K hK=>?_
   go_simp
   refine xK hK (hS3) fun hHeld=>?_
   refine gE ?_
   go_end0
   exact ⟨rfl,⟨_,HFIN.o.1⟩,HFIN.o.2⟩
theorem BA {B e s n m:Nat} {W W':World} {v:Value} {xs:List Value} (h:W.ownsRow B e s v n xs) (hg:W.grownBy W' v.ownBlock) (hB:m<=B) (hs:B<=W.heap.size):Below m W W':=(Au h hg hs).mono hB
structure CpX (w0:World) (kd n:Int) (k:Nat) (ds:List D) (a0:Value) (j:Nat) (v:Value) (w:World):Prop where
 below:Ov w0 w
 arg:CE w w0.heap.size 2 a0
 out:Ae [U zd kd,U zd n,v] w (w0.heap.size+2)
 res:Ae [U zd 0,U zd 0,O none 0 0] w (w0.heap.size+1)
 fz:∀ b j,b=w0.heap.size+1\/b=w0.heap.size+2->w.frozen? ⟨b,j,none⟩=false
 cop:Cop (w0.heap.size+3) 94 3 (fun i cs W=>∀ d,ds[i]? = some d->RX W k cs d) j v w
 sz:w0.heap.size+3<=w.heap.size
theorem CpX.over {w0:World} {kd n:Int} {k:Nat} {ds:List D} {a0:Value} {j:Nat} {v:Value} {w w':World} (h:CpX w0 kd n k ds a0 j v w) (hb:Ov w w'):CpX w0 kd n k ds a0 j v w':=
 ⟨Ac h.below hb,Ab hb _ _ h.arg,h.out.over hb,h.res.over hb,fun b i hbi=>(hb.frozen (p:=⟨b,i,none⟩) (by have:=h.sz;show b < _;omega)).trans (h.fz b i hbi),h.cop.over hb,Nat.le_trans h.sz hb.size⟩
theorem CpX.rowlt {w0:World} {kd n:Int} {k:Nat} {ds:List D} {a0:Value} {j:Nat} {v:Value} {w:World} (h:CpX w0 kd n k ds a0 j v w) (g:Nat) (hg:v.ownBlock=some g):g < w.heap.size:=by
 obtain ⟨xs,ho,-⟩:=h.cop
 exact (An ho hg).2
theorem CpX.add {w0:World} {kd n:Int} {k:Nat} {ds:List D} {a0:Value} {j:Nat} {v v':Value} {w w2:World} {xs cs:List Value} {B1:Nat} (h:CpX w0 kd n k ds a0 j v w) (ho:w.ownsRow (w0.heap.size+3) 94 3 v j xs) (he:∀ i,i < j->∃ cs:List Value,cs.length=3/\(∀ q u,cs[q]? = some u->xs[i*3+q]? = some u)/\Off (w0.heap.size+3) v.ownBlock w ((fun i cs W=>∀ d,ds[i]? = some d->RX W k cs d) i cs))
  (hl:cs.length=3) (hn:Off B1 none w ((fun i cs W=>∀ d,ds[i]? = some d->RX W k cs d) j cs)) (hB:True) (hB1:w0.heap.size+3<=B1) (hrow:∀ g,v.ownBlock=some g->g < B1) (ho':w2.ownsRow (w0.heap.size+3) 94 3 v' (j+1) (xs++cs)) (hg:w.grownBy w2 v.ownBlock) (hat:v'.ownBlock=v.ownBlock\/v'.ownBlock=some w.heap.size) :
  CpX w0 kd n k ds a0 (j+1) v' (w2.setCell ⟨w0.heap.size+2,2,none⟩ v'):=by
 have hlow:∀ b,b < w0.heap.size+3->w2.heap[b]? = w.heap[b]?:=fun b hb=>hg.block b (by have:=h.sz;omega) (fun e=>by have:=(An ho e.symm).1;omega)
 have hbel:Below (w0.heap.size+3) w w2:=Au ho hg h.sz
 have hrow2:∀ {cs:List Value} {b:Nat},Ae cs w b->b < w0.heap.size+3->Ae cs w2 b:=fun hr hb q u hu=>(World.cell?_of_block (a:=⟨_,q,none⟩) (hlow _ hb)).trans (hr q u hu)
 have hsz:(w2.setCell ⟨w0.heap.size+2,2,none⟩ v').heap.size=w2.heap.size:=by simp [World.setCell]
 refine ⟨((h.below.trans (hbel.mono (by omega))).setCell (show w0.heap.size<=w0.heap.size+2 by omega) _),?_,?_,(hrow2 (b:=w0.heap.size+1) h.res (by omega)).other (by omega),fun b i hb=>?_,?_,?_⟩
 ·have:=(World.cell?_of_block (a:=⟨w0.heap.size,2,none⟩) (hlow w0.heap.size (by omega))).trans h.arg
  exact (AR (w:=w2) (r:=w0.heap.size+2) (j:=2) (u:=v')).cell this (by intro e;injection e with e;exact absurd e (show w0.heap.size≠w0.heap.size+2 by omega))
 ·exact Ae.set (j:=2) (v:=v') (hrow2 (b:=w0.heap.size+2) h.out (by omega)) (by simp)
 ·rw [Ba,World.frozen?_of_block (a:=⟨b,i,none⟩) (hlow b (by rcases hb with rfl | rfl <;> omega))]
  exact h.fz b i hb
 ·exact (Cop.add ho he hl hn hB1 hrow ho' hg hat).set (by omega)
 ·rw [hsz];exact Nat.le_trans h.sz hg.size
theorem Ir {k:Nat}:∀ {ds:List D},(∀ d∈ds,0 < (Bn k d).length)->ds.length<=(ds.flatMap (Bn k)).length
 | [],_=>Nat.le_refl _
 | d::ds,h=>by
  have h1:=h d (List.mem_cons_self ..)
  have h2:=Ir (fun x hx=>h x (List.mem_cons_of_mem _ hx))
  simp only [List.flatMap_cons,List.length_append,List.length_cons]
  omega
theorem Mt:∀ (k:Nat) (cs:List Value) (d:D) (w:World),RX w k cs d->(Bn k d).length<=15 ->
  Calls Tryz.prog 52 #[.agg cs.toArray] w fun e w'=>∃ a c,e=zk (zh #[U zd (AI d),U zd (Bc d),O a (AH d).length c])/\Off w.heap.size none w' (fun W=>RX W k [U zd (AI d),U zd (Bc d),O a (AH d).length c] d)/\Ov w w':=by
 intro k
 induction k with
 | zero=>intro cs d w h;exact h.elim
 | succ k ih=>
  intro cs d w h hm
  obtain ⟨kd,n,v,ds,rfl,rfl,hkd,hn,hlen,ao,cap,rfl,hc⟩:=h
  obtain ⟨i0,hi,hz0,hz1,hz2⟩:=info_parts Tryz.infoX
  have hspec:Bn (k+1) (xD kd n ds)=xD kd n ds::ds.flatMap (Bn k):=rfl
  rw [hspec] at hm
  have hpos:∀ d∈ds,0 < (Bn k d).length:=fun d hd=>by
   obtain ⟨i,hi,rfl⟩:=List.getElem_of_mem hd
   obtain ⟨b,off,-,hel⟩:=hc (by rintro rfl;simp at hi)
   obtain ⟨cs,-,-,hr⟩:=hel i ds[i] (List.getElem?_eq_getElem hi)
   exact KU hr
  have hl14:ds.length<=14:=by have:=Ir hpos;simp only [List.length_cons] at hm;omega
  have hone:∀ i (h:i < ds.length),(Bn k ds[i]).length<=15:=fun i h=>by
   have h2:ds.flatMap (Bn k)=(ds.take i).flatMap (Bn k)++((ds.drop i).flatMap (Bn k)):=by rw [<-List.flatMap_append,List.take_append_drop]
   rw [List.drop_eq_getElem_cons h,List.flatMap_cons] at h2
   rw [h2] at hm
   simp only [List.length_cons,List.length_append] at hm
   omega
  have HC:=Aa hc
  have IH:=Aa ih
  have HONE:=Aa hone
  have HKD:=Aa (And.intro hkd (And.intro hn hlen))
  clear hc ih hspec hkd hn hlen hone hpos hm
  show Calls _ _ _ _ fun e w'=>∃ a c,e=zk (zh #[U zd kd,U zd n,O a ds.length c])/\Off w.heap.size none w' (fun W=>RX W (k+1) [U zd kd,U zd n,O a ds.length c] (xD kd n ds))/\Ov w w'
  show Calls Tryz.prog 52 #[zh #[U zd kd,U zd n,O ao ds.length cap]] w _
  go_enter Tryz.func52,Tryz.ntmps52
  go_wp2_with fail
  go_loopw [4] (fun i wr=>∃ (j:Nat) (v:Value),j<=ds.length/\i=U zd j/\CpX w kd n k ds (O ao ds.length cap) j v wr) (fun i _=>ds.length - (intOf i).toNat)
  case atStart=>
   exact ⟨0,O none 0 0,Nat.zero_le _,rfl,⟨((bA w _).alloc (by simp) _).alloc (by simp;omega) _,Nq w [U zd kd,U zd n,O ao ds.length cap] 94 _ _ 2 _ rfl,fun q u hu=>O3 w _ _ [U zd kd,U zd n,O none 0 0] 94 q u hu,fun q u hu=>Np w _ [U zd 0,U zd 0,O none 0 0] 94 _ q u hu,fun b q hb=>by rcases hb with rfl | rfl <;> simp [go_sem],Cop.nil,by simp⟩⟩
  case round=>
   obtain ⟨j,v,hj,rfl,hI⟩:=hrel
   by_cases hjl:j < ds.length
   ·obtain ⟨b,off,rfl,hel⟩:=HC.o (by rintro rfl;simp at hjl)
    obtain ⟨cs,hl3,hcs,hr⟩:=hel j ds[j] (List.getElem?_eq_getElem hjl)
    have h15:=HONE.o j hjl
    have HDJ:Hx (ds[j]? = some ds[j]):=List.getElem?_eq_getElem hjl
    obtain ⟨ao2,cap2,hcse⟩:=hr.form
    obtain ⟨dj,hdj⟩:=nm (ds[j])
    rw [<-hdj] at hr hcse h15 HDJ
    have HCALL:Hx (∀ W,Ov wr W->_):=fun W (hW:Ov wr W)=>IH.o _ dj W (hr.over (Ac hI.below hW)) h15
    obtain ⟨kj,hkj⟩:=nm (AI dj)
    obtain ⟨nj,hnj⟩:=nm (Bc dj)
    obtain ⟨lj,hlj⟩:=nm ((AH dj).length)
    rw [<-hkj,<-hnj,<-hlj] at hcse HCALL
    subst hcse
    have q0:=Ab hI.below _ _ (hcs 0 _ rfl)
    have q1:=Ab hI.below _ _ (hcs 1 _ rfl)
    have q2:=Ab hI.below _ _ (hcs 2 _ rfl)
    have qa:=hI.arg
    have hbw:b < w.heap.size:=bL (hcs 0 _ rfl)
    have HSS:Hx (∀ W,Below (w.heap.size+1) wr W->((fun Wz=>CE Wz w.heap.size 2 (O (some ⟨b,off,none⟩) ds.length cap)/\CE Wz b (off+j*3) (U zd kj)/\CE Wz b (off+j*3+1) (U zd nj)/\CE Wz b (off+j*3+2) (O ao2 lj cap2))) W):=fun W hW=>⟨(hW.cell (p:=⟨w.heap.size,2,none⟩) (Nat.lt_succ_self _)).trans qa,(hW.cell (p:=⟨b,off+j*3+0,none⟩) (Nat.lt_succ_of_lt hbw)).trans q0,(hW.cell (p:=⟨b,off+j*3+1,none⟩) (Nat.lt_succ_of_lt hbw)).trans q1,(hW.cell (p:=⟨b,off+j*3+2,none⟩) (Nat.lt_succ_of_lt hbw)).trans q2⟩
    obtain ⟨va,vc,rfl,-⟩:=hI.cop.cells (by decide)
    have HD:Hx (Ov wr wr.drew):=bD wr
    have HIc:=Aa (hI.over HD.o)
    have HBc:=Aa (HD.o.mono (show w.heap.size+1<=wr.heap.size by have:=hI.sz;omega))
    clear hkj hnj hlj hr hcs hel hl3 hdj q0 q1 q2 hI h15 hbw IH HC HONE
    go_wp2_with fail
    refine gS (fun Wz=>CE Wz w.heap.size 2 (O (some ⟨b,off,none⟩) ds.length cap)/\CE Wz b (off+j*3) (U zd kj)/\CE Wz b (off+j*3+1) (U zd nj)/\CE Wz b (off+j*3+2) (O ao2 lj cap2)) (HSS.o _ HBc.o) fun hHeld=>?_
    generalize wr.drew=W at hHeld HD HIc HBc ⊢
    refine kT 0 ?_
    refine kT 2 ?_
    refine kT 3 ?_
    refine kT 4 ?_
    refine kT 5 ?_
    refine kT 6 ?_
    refine rdB 1 7 rfl (fun K hK=>?_) rfl fun K hK=>?_
    ·have c2:=HIc.o.out 2 _ rfl
     go_simp
     clear c2
     refine xK hK (HSS.o _ HBc.o) fun hHeld=>?_
     clear hK K
     refine rdA 7 rfl fun K hK=>?_
     have HR7:=Aa HIc.o.rowlt
     have HZ7:=Aa HIc.o.sz
     go_simp
     refine (HCALL.o _ HD.o).mono ?_
     rintro e W1 ⟨a3,c3,rfl,hoff,hb1⟩
     have HOFF:=Aa hoff
     replace HBc:=Aa (HBc.o.trans (hb1.mono (Nat.le_trans (Nat.le_of_lt (by omega)) HZ7.o)))
     replace HIc:=Aa (HIc.o.over hb1)
     clear hoff hb1
     refine xK hK (HSS.o _ HBc.o) fun hHeld=>?_
     clear hK K
     refine rdA 8 rfl fun K hK=>?_
     obtain ⟨W2,hW2⟩:=nm (W1.alloc (ze #[U zd kj,U zd nj,O a3 lj c3] 94))
     have hb2:Ov W1 W2:=by rw [hW2];exact bA _ _
     have HN2:Hx (Ae [U zd kj,U zd nj,O a3 lj c3] W2 W1.heap.size):=by rw [hW2];exact Ae.new [U zd kj,U zd nj,O a3 lj c3] 94 W1
     replace HOFF:=Aa (HOFF.o.over hb2)
     replace HBc:=Aa (HBc.o.trans (hb2.mono (Nat.le_trans (Nat.le_of_lt (by omega)) HIc.o.sz)))
     replace HIc:=Aa (HIc.o.over hb2)
     go_simp
     rw [<-hW2]
     clear hW2 hb2
     refine xK hK (HSS.o _ HBc.o) fun hHeld=>?_
     clear hK K
     refine rdA 9 rfl fun K hK=>?_
     obtain ⟨xs,hown,hel⟩:=HIc.o.cop
     obtain ⟨v2,W3,hrun,hown3,hgr3,-,hat⟩:=run_append_own_at (P:=Tryz.prog) (w:=W2) (w.heap.size+3) 92 92 94 i0 (zh #[U zd 0,U zd 0,O none 0 0]) 3 40 Tryz.underlying92 hi hz0 hz1 hz2 rfl (by decide) _ _ _ hown ⟨W1.heap.size,0,none⟩ 1 1 [U zd kj,U zd nj,O a3 lj c3] rfl (fun jj u hu=>by rw [Addr.add_lit,Nat.zero_add];exact HN2.o jj u hu) (by simp [Value.oneCell']) (by unfold maxLen;omega) (by omega) HIc.o.sz
     obtain ⟨va2,vn2,vc2,rfl⟩:=Ak hown3
     have HF:=Aa (HIc.o.add (cs:=[U zd kj,U zd nj,O a3 lj c3]) hown hel rfl (HOFF.o.imp fun W hW d hd=>by rw [HDJ.o] at hd;injection hd with hd;rw [<-hd];exact hW) trivial HZ7.o HR7.o hown3 hgr3 hat)
     replace HBc:=Aa (HBc.o.trans (BA hown hgr3 (m:=w.heap.size+1) (by omega) HIc.o.sz))
     have d2:CE W3 (w.heap.size+2) 2 (O va j vc):=(World.cell?_of_block (a:=⟨w.heap.size+2,2,none⟩) (hgr3.block (w.heap.size+2) (by have:=HIc.o.sz;omega) (fun e=>by have:=(An hown e.symm).1;omega))).trans (HIc.o.out 2 _ rfl)
     have f2:W3.frozen? ⟨w.heap.size+2,2,none⟩=false:=(World.frozen?_of_block (a:=⟨w.heap.size+2,2,none⟩) (hgr3.block (w.heap.size+2) (by have:=HIc.o.sz;omega) (fun e=>by have:=(An hown e.symm).1;omega))).trans (HIc.o.fz _ _ (Or.inr rfl))
     refine Ao rfl _ _ _ rfl _ _ _ _ rfl rfl hrun ?_
     clear hrun hown hel hown3 hgr3 hat
     refine xK hK (HSS.o _ HBc.o) fun hHeld=>?_
     clear hK K
     refine kT 10 ?_
     refine rdA 11 rfl fun K hK=>?_
     replace HBc:Hx (Below (w.heap.size+1) wr (W3.setCell ⟨w.heap.size+2,2,none⟩ (O va2 vn2 vc2))):=HBc.o.setCell (show w.heap.size+1<=w.heap.size+2 by omega) _
     go_simp
     refine xK hK (HSS.o _ HBc.o) fun hHeld=>?_
     clear hK K
     refine gE ?_
     clear HSS HCALL HDJ
     go_wp2_with fail
     exact ⟨⟨j+1,_,by omega,by go_num,HF.o⟩,by simp [intOf];omega⟩
    ·have HR7:=Aa HIc.o.rowlt
     have HZ7:=Aa HIc.o.sz
     go_simp
     refine (HCALL.o _ HD.o).mono ?_
     rintro e W1 ⟨a3,c3,rfl,hoff,hb1⟩
     have HOFF:=Aa hoff
     replace HBc:=Aa (HBc.o.trans (hb1.mono (Nat.le_trans (Nat.le_of_lt (by omega)) HZ7.o)))
     replace HIc:=Aa (HIc.o.over hb1)
     clear hoff hb1
     refine xK hK (HSS.o _ HBc.o) fun hHeld=>?_
     clear hK K
     refine rdB 1 8 rfl (fun K hK=>?_) rfl fun K hK=>?_
     ·have c2:=HIc.o.out 2 _ rfl
      go_simp
      clear c2
      refine xK hK (HSS.o _ HBc.o) fun hHeld=>?_
      clear hK K
      refine rdA 8 rfl fun K hK=>?_
      obtain ⟨W2,hW2⟩:=nm (W1.alloc (ze #[U zd kj,U zd nj,O a3 lj c3] 94))
      have hb2:Ov W1 W2:=by rw [hW2];exact bA _ _
      have HN2:Hx (Ae [U zd kj,U zd nj,O a3 lj c3] W2 W1.heap.size):=by rw [hW2];exact Ae.new [U zd kj,U zd nj,O a3 lj c3] 94 W1
      replace HOFF:=Aa (HOFF.o.over hb2)
      replace HBc:=Aa (HBc.o.trans (hb2.mono (Nat.le_trans (Nat.le_of_lt (by omega)) HIc.o.sz)))
      replace HIc:=Aa (HIc.o.over hb2)
      go_simp
      rw [<-hW2]
      clear hW2 hb2
      refine xK hK (HSS.o _ HBc.o) fun hHeld=>?_
      clear hK K
      refine rdA 9 rfl fun K hK=>?_
      obtain ⟨xs,hown,hel⟩:=HIc.o.cop
      obtain ⟨v2,W3,hrun,hown3,hgr3,-,hat⟩:=run_append_own_at (P:=Tryz.prog) (w:=W2) (w.heap.size+3) 92 92 94 i0 (zh #[U zd 0,U zd 0,O none 0 0]) 3 40 Tryz.underlying92 hi hz0 hz1 hz2 rfl (by decide) _ _ _ hown ⟨W1.heap.size,0,none⟩ 1 1 [U zd kj,U zd nj,O a3 lj c3] rfl (fun jj u hu=>by rw [Addr.add_lit,Nat.zero_add];exact HN2.o jj u hu) (by simp [Value.oneCell']) (by unfold maxLen;omega) (by omega) HIc.o.sz
      obtain ⟨va2,vn2,vc2,rfl⟩:=Ak hown3
      have HF:=Aa (HIc.o.add (cs:=[U zd kj,U zd nj,O a3 lj c3]) hown hel rfl (HOFF.o.imp fun W hW d hd=>by rw [HDJ.o] at hd;injection hd with hd;rw [<-hd];exact hW) trivial HZ7.o HR7.o hown3 hgr3 hat)
      replace HBc:=Aa (HBc.o.trans (BA hown hgr3 (m:=w.heap.size+1) (by omega) HIc.o.sz))
      have d2:CE W3 (w.heap.size+2) 2 (O va j vc):=(World.cell?_of_block (a:=⟨w.heap.size+2,2,none⟩) (hgr3.block (w.heap.size+2) (by have:=HIc.o.sz;omega) (fun e=>by have:=(An hown e.symm).1;omega))).trans (HIc.o.out 2 _ rfl)
      have f2:W3.frozen? ⟨w.heap.size+2,2,none⟩=false:=(World.frozen?_of_block (a:=⟨w.heap.size+2,2,none⟩) (hgr3.block (w.heap.size+2) (by have:=HIc.o.sz;omega) (fun e=>by have:=(An hown e.symm).1;omega))).trans (HIc.o.fz _ _ (Or.inr rfl))
      refine Ao rfl _ _ _ rfl _ _ _ _ rfl rfl hrun ?_
      clear hrun hown hel hown3 hgr3 hat
      refine xK hK (HSS.o _ HBc.o) fun hHeld=>?_
      clear hK K
      refine kT 10 ?_
      refine rdA 11 rfl fun K hK=>?_
      replace HBc:Hx (Below (w.heap.size+1) wr (W3.setCell ⟨w.heap.size+2,2,none⟩ (O va2 vn2 vc2))):=HBc.o.setCell (show w.heap.size+1<=w.heap.size+2 by omega) _
      go_simp
      refine xK hK (HSS.o _ HBc.o) fun hHeld=>?_
      clear hK K
      refine gE ?_
      clear HSS HCALL HDJ
      go_wp2_with fail
      exact ⟨⟨j+1,_,by omega,by go_num,HF.o⟩,by simp [intOf];omega⟩
     ·obtain ⟨W2,hW2⟩:=nm (W1.alloc (ze #[U zd kj,U zd nj,O a3 lj c3] 94))
      have hb2:Ov W1 W2:=by rw [hW2];exact bA _ _
      have HN2:Hx (Ae [U zd kj,U zd nj,O a3 lj c3] W2 W1.heap.size):=by rw [hW2];exact Ae.new [U zd kj,U zd nj,O a3 lj c3] 94 W1
      replace HOFF:=Aa (HOFF.o.over hb2)
      replace HBc:=Aa (HBc.o.trans (hb2.mono (Nat.le_trans (Nat.le_of_lt (by omega)) HIc.o.sz)))
      replace HIc:=Aa (HIc.o.over hb2)
      go_simp
      rw [<-hW2]
      clear hW2 hb2
      refine xK hK (HSS.o _ HBc.o) fun hHeld=>?_
      clear hK K
      refine rdA 1 rfl fun K hK=>?_
      have c2:=HIc.o.out 2 _ rfl
      go_simp
      clear c2
      refine xK hK (HSS.o _ HBc.o) fun hHeld=>?_
      clear hK K
      refine rdA 9 rfl fun K hK=>?_
      obtain ⟨xs,hown,hel⟩:=HIc.o.cop
      obtain ⟨v2,W3,hrun,hown3,hgr3,-,hat⟩:=run_append_own_at (P:=Tryz.prog) (w:=W2) (w.heap.size+3) 92 92 94 i0 (zh #[U zd 0,U zd 0,O none 0 0]) 3 40 Tryz.underlying92 hi hz0 hz1 hz2 rfl (by decide) _ _ _ hown ⟨W1.heap.size,0,none⟩ 1 1 [U zd kj,U zd nj,O a3 lj c3] rfl (fun jj u hu=>by rw [Addr.add_lit,Nat.zero_add];exact HN2.o jj u hu) (by simp [Value.oneCell']) (by unfold maxLen;omega) (by omega) HIc.o.sz
      obtain ⟨va2,vn2,vc2,rfl⟩:=Ak hown3
      have HF:=Aa (HIc.o.add (cs:=[U zd kj,U zd nj,O a3 lj c3]) hown hel rfl (HOFF.o.imp fun W hW d hd=>by rw [HDJ.o] at hd;injection hd with hd;rw [<-hd];exact hW) trivial HZ7.o HR7.o hown3 hgr3 hat)
      replace HBc:=Aa (HBc.o.trans (BA hown hgr3 (m:=w.heap.size+1) (by omega) HIc.o.sz))
      have d2:CE W3 (w.heap.size+2) 2 (O va j vc):=(World.cell?_of_block (a:=⟨w.heap.size+2,2,none⟩) (hgr3.block (w.heap.size+2) (by have:=HIc.o.sz;omega) (fun e=>by have:=(An hown e.symm).1;omega))).trans (HIc.o.out 2 _ rfl)
      have f2:W3.frozen? ⟨w.heap.size+2,2,none⟩=false:=(World.frozen?_of_block (a:=⟨w.heap.size+2,2,none⟩) (hgr3.block (w.heap.size+2) (by have:=HIc.o.sz;omega) (fun e=>by have:=(An hown e.symm).1;omega))).trans (HIc.o.fz _ _ (Or.inr rfl))
      refine Ao rfl _ _ _ rfl _ _ _ _ rfl rfl hrun ?_
      clear hrun hown hel hown3 hgr3 hat
      refine xK hK (HSS.o _ HBc.o) fun hHeld=>?_
      clear hK K
      refine kT 10 ?_
      refine rdA 11 rfl fun K hK=>?_
      replace HBc:Hx (Below (w.heap.size+1) wr (W3.setCell ⟨w.heap.size+2,2,none⟩ (O va2 vn2 vc2))):=HBc.o.setCell (show w.heap.size+1<=w.heap.size+2 by omega) _
      go_simp
      refine xK hK (HSS.o _ HBc.o) fun hHeld=>?_
      clear hK K
      refine gE ?_
      clear HSS HCALL HDJ
      go_wp2_with fail
      exact ⟨⟨j+1,_,by omega,by go_num,HF.o⟩,by simp [intOf];omega⟩
   ·obtain rfl:j=ds.length:=by omega
    obtain ⟨va,vc,rfl,hoff⟩:=hI.cop.cells (by decide)
    obtain ⟨o0,o1,o2⟩:=rc3 hI.out
    obtain ⟨r0,r1,r2⟩:=rc3 hI.res
    have y0:=hI.fz _ 0 (Or.inl rfl)
    have y1:=hI.fz _ 1 (Or.inl rfl)
    have y2:=hI.fz _ 2 (Or.inl rfl)
    have qa:=hI.arg
    have HI:=Aa hI
    have HOFF:=Aa hoff
    clear hI hoff HC IH HONE
    go_wp2_with fail
    refine bodyPost_ret (v:=zh #[U zd kd,U zd n,O va ds.length vc]) (by simp [results,Tryz.results52,go_sem,r0,r1,r2]) rfl ?_
    refine ⟨va,vc,rfl,?_,?_⟩
    ·refine (((HOFF.o.set (by omega)).set (by omega)).set (by omega)).base (by omega) |>.imp fun W hW=>⟨kd,n,_,ds,rfl,rfl,HKD.o.1,HKD.o.2.1,HKD.o.2.2,va,vc,rfl,fun hne=>?_⟩
     obtain ⟨b,hb,hel⟩:=hW (by intro h0;exact hne (List.length_eq_zero_iff.1 h0))
     refine ⟨b,0,hb,fun i d hd=>?_⟩
     obtain ⟨cs,h1,h2,h3⟩:=hel i (List.getElem?_eq_some_iff.1 hd).1
     exact ⟨cs,h1,fun q u hu=>by rw [Nat.zero_add];exact h2 q u hu,h3 d hd⟩
    ·exact ((HI.o.below.setCell (show w.heap.size<=w.heap.size+1 by omega) _).setCell (show w.heap.size<=w.heap.size+1 by omega) _).setCell (show w.heap.size<=w.heap.size+1 by omega) _
theorem Tryz.infoPo:(Tryz.prog.info? 87).map (fun i=>(i.zero,i.size,i.bytes))=some (some (zh #[U zd 0,O none 0 0]),2,32):=by kernel_rfl
theorem Tryz.infoIc:(Tryz.prog.info? 3).map (fun i=>(i.zero,i.size,i.bytes))=some (some (U zd 0),1,8):=by kernel_rfl
theorem DP {P:Program} {w:World} (base:Nat) (t ty e:TypeId) (i:TypeInfo) (size:Nat) (ht:P.underlying t=some (.slice e)) (hi:P.info? e=some i)
  (v:Value) (n:Nat) (xs:List Value) (hown:w.ownsRow base e size v n xs) (a:Option Addr) (c:Nat) :
  (Builtin.append_ #[t,t] ty #[v,O a 0 c]).run P w=.ok v w:=by
 rcases hown.2 with ⟨rfl,rfl⟩ | ⟨g,cap,cur,rfl,_,_,hnc,_⟩ <;> cases a <;> simp [Builtin.append_,run_underlying ht,sizeOf,typeInfo,Builtin.lenOf,Builtin.firstCells,storeCells,loadCells,loadCellsFrom, *]
theorem BG {W:World} {B:Nat} {sa:Option Addr} {m c:Nat} {l:List Int} {v:Value} (hs:AM W (O sa m c) l) (ho:W.ownsRow B 3 1 v 0 []) (hl:l.length<=1000) (hB:B<=W.heap.size) :
  ∃ v' W',(Builtin.append_ #[25,25] 25 #[v,O sa m c]).run Tryz.prog W=.ok v' W'/\W'.ownsRow B 3 1 v' l.length (Dq l)/\W.grownBy W' v.ownBlock/\(v'.ownBlock=v.ownBlock\/v'.ownBlock=some W.heap.size):=by
 obtain ⟨i0,hi,hz0,hz1,hz2⟩:=info_parts Tryz.infoIc
 obtain ⟨ao,cap,hv,hel⟩:=hs
 injection hv with v1 v2 v3
 subst v1 v2 v3
 cases l with
 | nil=>exact ⟨v,W,DP B 25 25 3 i0 1 Tryz.underlying25 hi v 0 [] ho sa c,ho,⟨rfl,rfl,rfl,Nat.le_refl _,fun _ _ _=>rfl⟩,Or.inl rfl⟩
 | cons x l=>
  obtain ⟨b,off,rfl,hel2⟩:=hel (by simp)
  have hc:∀ q u,(Dq (x::l))[q]? = some u->W.cell? ((⟨b,off,none⟩:Addr).add q)=some u:=fun q u hu=>by
   rw [Addr.add_lit]
   unfold Dq at hu
   rw [List.getElem?_map] at hu
   obtain ⟨y,hy,rfl⟩:=Option.map_eq_some_iff.1 hu
   obtain ⟨hq,rfl⟩:=List.getElem?_eq_some_iff.1 hy
   exact hel2 q hq
  obtain ⟨v',W',hrun,hown,hgr,-,hat⟩:=run_append_own_at (P:=Tryz.prog) (w:=W) B 25 25 3 i0 (U zd 0) 1 8 Tryz.underlying25 hi hz0 hz1 hz2 rfl (by decide) v 0 [] ho ⟨b,off,none⟩ (x::l).length c (Dq (x::l)) (by simp [Dq]) hc (by simp [Dq,Value.oneCell']) (by unfold maxLen;omega) (by omega) hB
  exact ⟨v',W',hrun,by simpa using hown,hgr,hat⟩
theorem L9 {W:World} {B:Nat} {v:Value} {l:List Int} (h:W.ownsRow B 3 1 v l.length (Dq l)):Off B none W (fun W'=>AM W' v l):=by
 rcases h.2 with ⟨hv,h0⟩ | ⟨g,cap,cur,hv,hb,hg,h1,h2,h3,h4⟩
 ·exact fun W' _=>⟨none,0,by rw [hv,h0],fun hne=>absurd (List.length_eq_zero_iff.1 h0) hne⟩
 ·refine fun W' hW=>⟨some ⟨g,0,none⟩,cap,hv,fun _=>⟨g,0,rfl,fun i hi=>?_⟩⟩
  have hlt:g < W.heap.size:=(Array.getElem?_eq_some_iff.1 hg).1
  have hblk:W'.heap[g]? = W.heap[g]?:=hW g hb hlt (by simp)
  rw [World.cell?_of_block (a:=⟨g,0+i,none⟩) hblk,Lib.cell_of_heap hg]
  have hx:(Dq l)[i]? = some (U zd l[i]):=by unfold Dq;rw [List.getElem?_map,List.getElem?_eq_getElem hi];rfl
  rw [<-h4,List.getElem?_take,if_pos (by omega)] at hx
  simpa using hx
theorem NQ (ps:List Pol) (v:Value) (w:World) (h:AC w v ps) (h4:ps.length<=4) (h6:∀ p∈ps,p.names.length<=6) :
  Calls Tryz.prog 111 #[v] w fun e w'=>∃ a c,e=zk (O a ps.length c)/\Off w.heap.size none w' (fun W=>AC W (O a ps.length c) ps)/\Ov w w':=by
 obtain ⟨ao,cap,rfl,hc⟩:=h
 obtain ⟨i0,hi,hz0,hz1,hz2⟩:=info_parts Tryz.infoPo
 have HC:=Aa hc
 have H6:=Aa h6
 clear hc h6
 go_enter Tryz.func111,Tryz.ntmps111
 go_wp2_with fail
 go_loopw [3,4] (fun out i wr=>∃ j:Nat,j<=ps.length/\i=U zd j/\Cop w.heap.size 87 2 (fun i cs W=>∀ p,ps[i]? = some p->∃ nv,cs=[U zd p.owner,nv]/\AM W nv p.names) j out wr/\Ov w wr) (fun _ i _=>ps.length - (intOf i).toNat)
 case atStart=>exact ⟨0,Nat.zero_le _,rfl,Cop.nil,Below.refl _ _⟩
 case round=>
  obtain ⟨j,hj,rfl,hI,hB⟩:=hrel
  by_cases hjl:j < ps.length
  ·obtain ⟨b,off,rfl,hel⟩:=HC.o (by rintro rfl;simp at hjl)
   obtain ⟨q0,nv,q1,hnv⟩:=hel j hjl
   have h6:=H6.o ps[j] (List.getElem_mem hjl)
   have HDJ:Hx (ps[j]? = some ps[j]):=List.getElem?_eq_getElem hjl
   obtain ⟨pj,hpj⟩:=nm ps[j]
   rw [<-hpj] at q0 hnv h6 HDJ
   obtain ⟨oj,hoj⟩:=nm pj.owner
   rw [<-hoj] at q0
   have HNV:=Aa hnv
   obtain ⟨sa,sc,rfl,-⟩:=hnv
   obtain ⟨nj,hnj⟩:=nm pj.names.length
   rw [<-hnj] at q1 HNV h6
   have hbw:b < w.heap.size:=bL q0
   have HSS:Hx (∀ W,Below w.heap.size w W->((fun Wz=>CE Wz b (off+j*2) (U zd oj)/\CE Wz b (off+j*2+1) (O sa nj sc))) W):=fun W hW=>⟨(hW.cell (p:=⟨b,off+j*2,none⟩) hbw).trans q0,(hW.cell (p:=⟨b,off+j*2+1,none⟩) hbw).trans q1⟩
   obtain ⟨va,vc,rfl,-⟩:=hI.cells (by decide)
   have HD:Hx (Ov wr wr.drew):=bD wr
   have HI:=Aa (hI.over HD.o)
   have HB:=Aa (Ac hB HD.o)
   have HNJ:=Aa hnj
   have HOJ:=Aa hoj
   clear hI hB q0 q1 hel hpj hbw HC H6 hnj hoj
   go_wp2_with fail
   refine gS (fun Wz=>CE Wz b (off+j*2) (U zd oj)/\CE Wz b (off+j*2+1) (O sa nj sc)) (HSS.o _ HB.o) fun hHeld=>?_
   generalize wr.drew=W at hHeld HD HI HB ⊢
   refine kT 0 ?_
   refine kT 1 ?_
   refine kT 2 ?_
   refine kT 3 ?_
   refine kT 4 ?_
   refine kT 5 ?_
   refine kT 7 ?_
   refine kT 8 ?_
   refine kT 9 ?_
   refine kT 10 ?_
   refine kT 11 ?_
   refine rdA 6 rfl fun K hK=>?_
   have HROW:Hx (∀ g,(Value.slice va j vc).ownBlock=some g->g < W.heap.size):=by obtain ⟨xs,ho,-⟩:=HI.o;exact fun g hg=>(An ho hg).2
   have HLW:=Aa HB.o.size
   obtain ⟨W1,hW1⟩:=nm (W.alloc (ze #[] 3))
   have HO1:Hx (W1.ownsRow W.heap.size 3 1 (O (some ⟨W.heap.size,0,none⟩) 0 0) 0 []):=by rw [hW1];exact ⟨rfl,Or.inr ⟨W.heap.size,0,#[],rfl,Nat.le_refl _,heap_alloc_new W _,Nat.le_refl _,by decide,rfl,rfl⟩⟩
   have HW1:Hx (Ov W W1):=by rw [hW1];exact bA _ _
   replace HB:=Aa (Ac HB.o HW1.o)
   go_simp
   rw [<-hW1]
   clear hW1
   refine xK hK (HSS.o _ HB.o) fun hHeld=>?_
   clear hK K
   refine rdA 12 rfl fun K hK=>?_
   obtain ⟨v2,W2,hrun,hown2,hgr2,hat2⟩:=BG (B:=W.heap.size) (l:=pj.names) (BH HNV.o HB.o) HO1.o (by have:=HNJ.o;omega) HW1.o.size
   obtain ⟨va2,vn2,vc2,rfl⟩:=Ak hown2
   have HW2:Hx (Ov W W2):=HW1.o.trans (Au HO1.o hgr2 HW1.o.size)
   have HOFF:=Aa (L9 hown2)
   replace HB:Hx (Ov w W2):=HB.o.trans ((Au HO1.o hgr2 HW1.o.size).mono HLW.o)
   refine Ao rfl _ _ _ rfl _ _ _ _ rfl rfl hrun ?_
   clear hrun hown2 hgr2 hat2
   refine xK hK (HSS.o _ HB.o) fun hHeld=>?_
   clear hK K
   refine kT 13 ?_
   refine rdA 14 rfl fun K hK=>?_
   obtain ⟨W3,hW3⟩:=nm (W2.alloc (ze #[U zd oj,O va2 vn2 vc2] 87))
   have hb3:Ov W2 W3:=by rw [hW3];exact bA _ _
   have HN3:Hx (Ae [U zd oj,O va2 vn2 vc2] W3 W2.heap.size):=by rw [hW3];exact Ae.new [U zd oj,O va2 vn2 vc2] 87 W2
   replace HOFF:=Aa (HOFF.o.over hb3)
   have HW3:=Aa (Ac HW2.o hb3)
   replace HB:=Aa (Ac HB.o hb3)
   go_simp
   rw [<-hW3]
   clear hW3 hb3
   refine xK hK (HSS.o _ HB.o) fun hHeld=>?_
   clear hK K
   refine rdA 15 rfl fun K hK=>?_
   obtain ⟨xs,hown,hel⟩:=HI.o.over HW3.o
   obtain ⟨v4,W4,hrun,hown4,hgr4,-,hat⟩:=run_append_own_at (P:=Tryz.prog) (w:=W3) w.heap.size 37 37 87 i0 (zh #[U zd 0,O none 0 0]) 2 32 Tryz.underlying37 hi hz0 hz1 hz2 rfl (by decide) _ _ _ hown ⟨W2.heap.size,0,none⟩ 1 1 [U zd oj,O va2 vn2 vc2] rfl (fun jj u hu=>by rw [Addr.add_lit,Nat.zero_add];exact HN3.o jj u hu) (by simp [Value.oneCell']) (by unfold maxLen;omega) (by omega) HB.o.size
   have HF:=Aa (Cop.add (P:=(fun i cs W=>∀ p,ps[i]? = some p->∃ nv,cs=[U zd p.owner,nv]/\AM W nv p.names)) hown hel rfl (HOFF.o.imp fun W hW p hp=>by rw [HDJ.o] at hp;injection hp with hp;rw [<-hp];exact ⟨_,by rw [HOJ.o],hW⟩) HLW.o HROW.o hown4 hgr4 hat)
   replace HB:Hx (Ov w W4):=HB.o.trans (Au hown hgr4 HB.o.size)
   refine Ao rfl _ _ _ rfl _ _ _ _ rfl rfl hrun ?_
   clear hrun hown hel hown4 hgr4 hat
   refine xK hK (HSS.o _ HB.o) fun hHeld=>?_
   clear hK K
   refine kT 16 ?_
   refine gE ?_
   clear HSS HDJ HNV HOFF
   go_wp2_with fail
   exact ⟨⟨j+1,by omega,by go_num,HF.o,HB.o⟩,by simp [intOf];omega⟩
  ·obtain rfl:j=ps.length:=by omega
   obtain ⟨va,vc,rfl,hoff⟩:=hI.cells (by decide)
   have HOFF:=Aa hoff
   clear hI hoff HC H6
   go_wp2_with fail
   go_ret
   refine ⟨va,vc,rfl,HOFF.o.imp fun W hW=>⟨va,vc,rfl,fun hne=>?_⟩,hB⟩
   obtain ⟨b,hb,hel⟩:=hW (by intro h0;exact hne (List.length_eq_zero_iff.1 h0))
   refine ⟨b,0,hb,fun i hi=>?_⟩
   obtain ⟨cs,h1,h2,h3⟩:=hel i hi
   obtain ⟨nv,rfl,hnv⟩:=h3 ps[i] (List.getElem?_eq_getElem hi)
   exact ⟨by rw [Nat.zero_add];exact h2 0 _ rfl,nv,by rw [Nat.zero_add];exact h2 1 _ rfl,hnv⟩
theorem Ms (bl:Lab) (x y:Value) (w:World) (hx:AC w x bl.r) (hy:AC w y bl.w) (h4:bl.r.length<=4/\bl.w.length<=4) (h6:(∀ p∈bl.r,p.names.length<=6)/\∀ p∈bl.w,p.names.length<=6) :
  Calls Tryz.prog 51 #[zh #[x,y]] w fun e w'=>∃ a1 c1 a2 c2,e=zk (zh #[O a1 bl.r.length c1,O a2 bl.w.length c2])/\Off w.heap.size none w' (fun W=>AC W (O a1 bl.r.length c1) bl.r/\AC W (O a2 bl.w.length c2) bl.w)/\Ov w w':=by
 obtain ⟨V,hV⟩:=nm ((w.alloc (ze #[x,y] 39)).alloc (ze #[O none 0 0,O none 0 0] 39))
 have HV:Hx (Ov w V):=by rw [hV];exact (bA w _).alloc (by simp) _
 have hsz:V.heap.size=w.heap.size+2:=by rw [hV];simp
 have hbx:Ae [x,y] V w.heap.size:=by rw [hV];exact fun q u hu=>Fh w [x,y] 39 _ q u hu
 have HRES:Hx (Ae [O none 0 0,O none 0 0] V (w.heap.size+1)):=by rw [hV];exact fun q u hu=>FA w _ [O none 0 0,O none 0 0] 39 q u hu
 have HFZ:Hx (∀ W,Ov V W->∀ q,W.frozen? ⟨w.heap.size+1,q,none⟩=false):=fun W hW q=>(hW.frozen (p:=⟨w.heap.size+1,q,none⟩) (show w.heap.size+1 < V.heap.size by omega)).trans (by rw [hV];simp [go_sem])
 have K1:Hx (∀ W,Ov V W->_):=fun W (hW:Ov V W)=>NQ bl.r x W (Ai hx (Ac HV.o hW)) h4.1 h6.1
 have K2:Hx (∀ W,Ov V W->_):=fun W (hW:Ov V W)=>NQ bl.w y W (Ai hy (Ac HV.o hW)) h4.2 h6.2
 obtain ⟨xa,xc,rfl,-⟩:=hx
 obtain ⟨ya,yc,rfl,-⟩:=hy
 obtain ⟨xn,hxn⟩:=nm bl.r.length
 obtain ⟨yn,hyn⟩:=nm bl.w.length
 have HSZ:Hx (w.heap.size+1<=V.heap.size):=by rw [hsz];exact Nat.le_succ _
 rw [<-hxn] at K1 hbx ⊢
 rw [<-hyn] at K2 hbx ⊢
 rw [<-hxn] at hV
 rw [<-hyn] at hV
 have HSS:Hx (∀ W,Below (w.heap.size+1) V W->((fun Wz=>CE Wz w.heap.size 0 (O xa xn xc)/\CE Wz w.heap.size 1 (O ya yn yc))) W):=fun W hW=>⟨(hW.cell (p:=⟨w.heap.size,0,none⟩) (Nat.lt_succ_self _)).trans (hbx 0 _ rfl),(hW.cell (p:=⟨w.heap.size,1,none⟩) (Nat.lt_succ_self _)).trans (hbx 1 _ rfl)⟩
 have HBc:Hx (Ov V V.drew):=bD V
 have HVE:=Aa hV
 clear hbx h4 h6 hV hxn hyn
 go_enter Tryz.func51,Tryz.ntmps51
 go_wp2_with fail
 rw [<-HVE.o]
 clear HVE
 refine gS (fun Wz=>CE Wz w.heap.size 0 (O xa xn xc)/\CE Wz w.heap.size 1 (O ya yn yc)) (HSS.o _ (HBc.o.mono HSZ.o)) fun hHeld=>?_
 generalize V.drew=W at hHeld HBc ⊢
 refine kT 0 ?_
 refine kT 1 ?_
 refine kT 3 ?_
 refine kT 4 ?_
 refine rdA 2 rfl fun K hK=>?_
 go_simp
 refine (K1.o _ HBc.o).mono ?_
 rintro e W1 ⟨a1,c1,rfl,hoff,hb⟩
 have HOFF1:=Aa (hoff.base HBc.o.size)
 (try replace HOFF2:=Aa (HOFF2.o.over hb))
 replace HBc:=Aa (Ac HBc.o hb)
 clear hoff hb
 refine xK hK (HSS.o _ (HBc.o.mono HSZ.o)) fun hHeld=>?_
 clear hK K
 refine rdA 5 rfl fun K hK=>?_
 go_simp
 refine (K2.o _ HBc.o).mono ?_
 rintro e W2 ⟨a2,c2,rfl,hoff,hb⟩
 have HOFF2:=Aa (hoff.base HBc.o.size)
 (try replace HOFF1:=Aa (HOFF1.o.over hb))
 replace HBc:=Aa (Ac HBc.o hb)
 clear hoff hb
 refine xK hK (HSS.o _ (HBc.o.mono HSZ.o)) fun hHeld=>?_
 clear hK K
 refine kT 6 ?_
 refine rdA 7 rfl fun K hK=>?_
 have hst:=HBc.o
 obtain ⟨r0,r1⟩:=rc2 (HRES.o.over hst)
 have y0:=HFZ.o _ hst 0
 have y1:=HFZ.o _ hst 1
 go_simp
 refine xK hK (HSS.o _ (((hst.mono HSZ.o).setCell (show w.heap.size+1<=w.heap.size+1 by omega) _).setCell (show w.heap.size+1<=w.heap.size+1 by omega) _)) fun hHeld=>?_
 clear hK K
 refine gE ?_
 go_wp2_with fail
 refine bodyPost_ret (v:=zh #[O a1 xn c1,O a2 yn c2]) (by simp [results,Tryz.results51,go_sem,r0,r1]) rfl ?_
 exact ⟨a1,c1,a2,c2,rfl,fun W hW=>⟨((HOFF1.o.set (show w.heap.size+1 < V.heap.size by omega)).set (show w.heap.size+1 < V.heap.size by omega)).base (by omega) W hW,((HOFF2.o.set (show w.heap.size+1 < V.heap.size by omega)).set (show w.heap.size+1 < V.heap.size by omega)).base (by omega) W hW⟩,((HV.o.trans (hst.mono (by omega))).setCell (show w.heap.size<=w.heap.size+1 by omega) _).setCell (show w.heap.size<=w.heap.size+1 by omega) _⟩
end Go.Proofs.YtfffpjkcfnekaaaGreat.Ex
