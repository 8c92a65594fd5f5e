/- One who judges: what it keeps, and a fault more. -/
import Derived.Maps.AppendAt
import Derived.Test.YtfffpjkcfnekaaaGreatF07
import Derived.Laws.OwnMore
set_option linter.unusedVariables false
set_option maxHeartbeats 8000000
set_option maxRecDepth 100000
namespace Go.Proofs.YtfffpjkcfnekaaaGreat.Ex
open Go.RowKit
open Go.Value renaming slice -> O, int -> U, bool -> zg, agg -> zh, pointer -> zj, tuple -> zm
open Go.IntKind renaming i64 -> zd
open Go.Obj renaming cells -> ze
open Go.Ending renaming returned -> zk
theorem Tryz.infoFt:(Tryz.prog.info? 89).map (fun i=>(i.zero,i.size,i.bytes))=some (some (zh #[U zd 0,U zd 0]),2,16):=by kernel_rfl
theorem Am {ops:Array Oper} {o:Oper} {a:Act} {W:World} {K:Act->World->Prop} {Q:Exit->Act->World->Prop} {E:Prop} (hg:o.guard=none) (s x:Operand) (t:TypeId) (hop:o.op=Op.call { callee:=Callee.builtin Builtin.append,args:=#[s,x],argTypes:=#[t,t] }) (v u v':Value) (W':World) (hs:a.eval s=v) (hx:a.eval x=u)
  (hr:(Builtin.append_ #[t,t] o.type #[v,u]).run Tryz.prog W=.ok v' W') (h:K (a.put o.dst v') W'):if Region.wanted o (yielded ops a.tmps)=true then Oper.wp Tryz.prog o a W K Q else E:=by
 have hw:Region.wanted o (yielded ops a.tmps)=true:=by simp [Region.wanted,hg]
 rw [if_pos hw]
 unfold Oper.wp execOp
 simp only [hop,resolve,invoke,builtin,Sem.run_bind,Sem.run_pure,Result.andThen_ok,List.map_toArray,List.map_cons,List.map_nil,hs,hx,hr]
 exact h
theorem CT {cs:List Value} {w:World} {b j:Nat} {v:Value} (h:Ae cs w b) (hj:j < cs.length):Ae (cs.set j v) (w.setCell ⟨b,j,none⟩ v) b:=by
 intro i u hu
 by_cases hij:j=i
 ·subst hij
  rw [List.getElem?_set_self hj] at hu
  injection hu with hu
  subst hu
  exact World.cell?_setCell_same _ _ _ (h j _ (List.getElem?_eq_getElem hj))
 ·rw [List.getElem?_set_ne hij] at hu
  rw [World.cell?_setCell_other _ _ _ _ (by intro e;injection e with e1 e2;exact hij e2)]
  exact h i u hu
theorem Bk {w:World} {b i k:Nat} (h:b≠k) (u:Value):(w.setCell ⟨b,i,none⟩ u).heap[k]? = w.heap[k]?:=by
 simp [World.setCell,Array.getElem?_modify,h]
theorem I2 {w:World} {b j:Nat} {u:Value}:w.grownBy (w.setCell ⟨b,j,none⟩ u) (some b):=
 ⟨rfl,rfl,rfl,by simp [World.setCell],fun k hk hne=>Bk (fun e=>hne (by rw [e])) u⟩
theorem Ia {w w':World} {v:Value} {B:Nat} (h:w.grownBy w' v.ownBlock) (hv:∀ g,v.ownBlock=some g->B<=g) (hB:B<=w.heap.size):Below B w w':=
 ⟨h.os,h.tape,h.output,h.size,fun k hk=>h.block k (by omega) (fun e=>by have:=hv k e.symm;omega)⟩
def Du (l:List (Int × Int)):List Value:=l.flatMap fun x=>[U zd x.1,U zd x.2]
theorem Ic (l:List (Int × Int)) (a k:Int):Du (l++[(a,k)])=Du l++[U zd a,U zd k]:=by simp [Du]
def addF (a k:Int) (fl:List (Int × Int)):Bool->List (Int × Int)
 | true=>fl++[(a,k)]
 | false=>fl
def XJ (bj:Nat) (W:World) (k:Nat):Prop:=W.heap.size<=bj\/k=bj\/∃ v,W.cell? ⟨bj,11,none⟩=some v/\v.ownBlock=some k
theorem Ai (bj:Nat):XOk (XJ bj):=⟨fun W W' hb k h=>by
 by_cases hlt:W.heap.size<=bj
 ·exact Or.inl hlt
 ·rcases h with h | h | ⟨v,hv,ho⟩
  ·exact absurd (Nat.le_trans hb.size h) hlt
  ·exact Or.inr (Or.inl h)
  ·refine Or.inr (Or.inr ⟨v,?_,ho⟩)
   rw [<-hv]
   exact (World.cell?_of_block (a:=⟨bj,11,none⟩) (hb.block bj (by omega))).symm⟩
structure AU (cs:List Value) (w0:World) (bj:Nat) (av:Value) (fl:List (Int × Int)) (fv:Value) (W:World):Prop where
 below:Ov w0 W
 row:Ae (cs++[av,fv]) W bj
 fz:∀ j,W.frozen? ⟨bj,j,none⟩=false
 own:W.ownsRow w0.heap.size 89 2 fv fl.length (Du fl)
 ap:fv.ownBlock≠some bj
 lo:w0.heap.size<=bj/\bj < W.heap.size
 len:cs.length=10
theorem AU.c11 {cs:List Value} {w0:World} {bj:Nat} {av:Value} {fl:List (Int × Int)} {fv:Value} {W:World} (h:AU cs w0 bj av fl fv W):W.cell? ⟨bj,11,none⟩=some fv:=h.row 11 _ (by rw [List.getElem?_append_right (by rw [h.len];omega),h.len];rfl)
theorem AU.c10 {cs:List Value} {w0:World} {bj:Nat} {av:Value} {fl:List (Int × Int)} {fv:Value} {W:World} (h:AU cs w0 bj av fl fv W):W.cell? ⟨bj,10,none⟩=some av:=h.row 10 _ (by rw [List.getElem?_append_right (by rw [h.len];omega),h.len];rfl)
theorem AU.cw {cs:List Value} {w0:World} {bj:Nat} {av:Value} {fl:List (Int × Int)} {fv:Value} {W:World} (h:AU cs w0 bj av fl fv W):Ae cs W bj:=fun j u hu=>h.row j u (by rw [List.getElem?_append_left (List.getElem?_eq_some_iff.1 hu).1];exact hu)
theorem AU.over {cs:List Value} {w0:World} {bj:Nat} {av:Value} {fl:List (Int × Int)} {fv:Value} {W W':World} (h:AU cs w0 bj av fl fv W) (hb:Ov W W'):AU cs w0 bj av fl fv W':=
 ⟨h.below.trans (hb.mono h.below.size),h.row.over hb,fun j=>((Ap hb).2 _ _ h.lo.2).trans (h.fz j),h.own.kept (row:=none) ⟨hb.os,hb.tape,hb.output,hb.size,fun k hk _=>hb.block k hk⟩ (by cases fv.ownBlock <;> simp),h.ap,⟨h.lo.1,Nat.lt_of_lt_of_le h.lo.2 hb.size⟩,h.len⟩
theorem Ly {W:World} {B e s n:Nat} {v:Value} {xs:List Value} (h:W.ownsRow B e s v n xs):∀ g,v.ownBlock=some g->B<=g/\g < W.heap.size:=by
 intro g hg
 rcases h.2 with ⟨h,-⟩ | ⟨g',cap,cur,h,hb,hh,-⟩
 ·rw [h] at hg;cases hg
 ·rw [h] at hg
  simp [Value.ownBlock] at hg
  subst hg
  exact ⟨hb,(Array.getElem?_eq_some_iff.1 hh).1⟩
theorem AU.xlt {cs:List Value} {w0:World} {bj:Nat} {av:Value} {fl:List (Int × Int)} {fv:Value} {W:World} (h:AU cs w0 bj av fl fv W):∀ k,XJ bj W k->w0.heap.size<=k/\k < W.heap.size:=by
 rintro k (hk | rfl | ⟨v,hv,ho⟩)
 ·have:=h.lo.2;omega
 ·exact h.lo
 ·rw [h.c11] at hv
  injection hv with hv
  subst hv
  exact Ly h.own k ho
theorem AU.add {cs:List Value} {w0:World} {bj:Nat} {av:Value} {fl:List (Int × Int)} {fv v':Value} {W W':World} {a k:Int} (h:AU cs w0 bj av fl fv W) (ho':W'.ownsRow w0.heap.size 89 2 v' (fl.length+1) (Du fl++[U zd a,U zd k])) (hg:W.grownBy W' fv.ownBlock) (hat:v'.ownBlock=fv.ownBlock\/v'.ownBlock=some W.heap.size) :
  AU cs w0 bj av (fl++[(a,k)]) v' (W'.setCell ⟨bj,11,none⟩ v')/\FrW (XJ bj) W (W'.setCell ⟨bj,11,none⟩ v'):=by
 have hbw:W'.heap[bj]? = W.heap[bj]?:=hg.block bj h.lo.2 (fun e=>h.ap e.symm)
 have hrow':Ae (cs++[av,fv]) W' bj:=fun j u hu=>(World.cell?_of_block (a:=⟨bj,j,none⟩) hbw).trans (h.row j u hu)
 have hBl:Below w0.heap.size W W':=Ia hg (fun g e=>(Ly h.own g e).1) h.below.size
 have hv':v'.ownBlock≠some bj:=by
  rcases hat with e | e
  ·rw [e];exact h.ap
  ·rw [e];intro e;injection e with e;have:=h.lo.2;omega
 have hsz:(W'.setCell ⟨bj,11,none⟩ v').heap.size=W'.heap.size:=by simp [World.setCell]
 have hrow2:Ae (cs++[av,v']) (W'.setCell ⟨bj,11,none⟩ v') bj:=by
  have:=CT (j:=11) (v:=v') hrow' (by simp [h.len])
  rw [List.set_append,if_neg (by rw [h.len];omega),h.len] at this
  simpa using this
 have hc2:CE (W'.setCell ⟨bj,11,none⟩ v') bj 11 v':=hrow2 11 _ (by rw [List.getElem?_append_right (by rw [h.len];omega),h.len];rfl)
 refine ⟨⟨(h.below.trans hBl).setCell h.lo.1 _,hrow2,fun j=>?_,?_,hv',⟨h.lo.1,?_⟩,h.len⟩,⟨?_,?_,?_,?_,?_,?_⟩⟩
 ·have e1:(W'.setCell ⟨bj,11,none⟩ v').frozen? ⟨bj,j,none⟩=W'.frozen? ⟨bj,j,none⟩:=by simp [go_sem]
  rw [e1,World.frozen?_of_block (a:=⟨bj,j,none⟩) hbw]
  exact h.fz j
 ·rw [Ic,List.length_append]
  exact ho'.kept (row:=some bj) I2 (Or.inr hv')
 ·rw [hsz];exact Nat.lt_of_lt_of_le h.lo.2 hg.size
 ·exact hg.os
 ·exact hg.tape
 ·exact hg.output
 ·rw [hsz];exact hg.size
 ·intro k hk hx
  have hne:k≠bj:=fun e=>hx (Or.inr (Or.inl e))
  rw [Bk (Ne.symm hne) v']
  exact hg.block k hk (fun e=>hx (Or.inr (Or.inr ⟨fv,h.c11,e.symm⟩)))
 ·rintro k hk (hx | rfl | ⟨v,hv,ho⟩)
  ·rw [hsz] at hx;have:=hg.size;have:=h.lo.2;omega
  ·exact Or.inr (Or.inl rfl)
  ·rw [hc2] at hv
   injection hv with hv
   subst hv
   rcases hat with e | e
   ·exact Or.inr (Or.inr ⟨fv,h.c11,by rw [<-e];exact ho⟩)
   ·rw [e] at ho;injection ho with ho;omega
theorem E2 (cs:List Value) (w0:World) (bj:Nat) (av:Value) (fl) (fv:Value) (a k:Int) (is:Bool) (bx ba:Nat) (W:World) (h:AU cs w0 bj av fl fv W) (hx:W.cell? ⟨bx,0,none⟩=some (zj (some ⟨bj,0,none⟩))) (ha:W.cell? ⟨ba,0,none⟩=some (U zd a)) (nx:¬ XJ bj W bx) (na:¬ XJ bj W ba) (hl:fl.length<=1000) :
  Calls Tryz.prog 149 #[U zd k,zg is,zj (some ⟨bx,0,none⟩),zj (some ⟨ba,0,none⟩)] W fun e W'=>e=zk (zm #[])/\(∃ fv',AU cs w0 bj av (addF a k fl is) fv' W')/\FrW (XJ bj) W W':=by
 cases is with
 | false=>
  go_enter Tryz.func149,Tryz.ntmps149
  go_wp2_with fail
  go_end0
  exact ⟨rfl,⟨fv,h⟩,FrW.refl _⟩
 | true=>
  obtain ⟨i0,hi,hz0,hz1,hz2⟩:=info_parts Tryz.infoFt
  obtain ⟨fa,fn,fc,rfl⟩:=Aj h.own
  have hb1:Ov W (W.drew.alloc (ze #[U zd a,U zd k] 89)):=(bD W).alloc (Nat.le_refl _) _
  have hJ1:=h.over hb1
  have hN:=Ae.new [U zd a,U zd k] 89 W.drew
  have hBW:w0.heap.size<=(W.drew.alloc (ze #[U zd a,U zd k] 89)).heap.size:=hJ1.below.size
  obtain ⟨v2,w2,hrun,hown2,hgr2,-,hat⟩:=run_append_own_at (P:=Tryz.prog) (w:=W.drew.alloc (ze #[U zd a,U zd k] 89)) w0.heap.size 79 79 89 i0 (zh #[U zd 0,U zd 0]) 2 16 Tryz.underlying79 hi hz0 hz1 hz2 rfl (by decide) _ _ _ hJ1.own ⟨W.drew.heap.size,0,none⟩ 1 1 [U zd a,U zd k] rfl (fun jj u hu=>by rw [Addr.add_lit,Nat.zero_add];exact hN jj u hu) (by simp [Value.oneCell']) (by unfold maxLen;omega) (by omega) hBW
  obtain ⟨va2,vn2,vc2,rfl⟩:=Aj hown2
  have hfin:=hJ1.add hown2 hgr2 hat
  have x11:=h.c11
  have y11:=hJ1.c11
  have z11:=Ab (bA W (ze #[U zd a,U zd k] 89)) _ _ x11
  have d2:=hgr2.cell y11 (fun hx=>hJ1.ap hx.symm)
  have f2:w2.frozen? ⟨bj,11,none⟩=false:=(World.frozen?_of_block (a:=⟨bj,11,none⟩) (hgr2.block bj hJ1.lo.2 (fun hx=>hJ1.ap hx.symm))).trans (hJ1.fz 11)
  have nx1:¬ XJ bj (W.drew.alloc (ze #[U zd a,U zd k] 89)) bx:=fun e=>nx ((Ai bj).below _ _ hb1 _ e)
  have na1:¬ XJ bj (W.drew.alloc (ze #[U zd a,U zd k] 89)) ba:=fun e=>na ((Ai bj).below _ _ hb1 _ e)
  have hS0:CE W.drew bx 0 (zj (some ⟨bj,0,none⟩))/\CE W.drew ba 0 (U zd a):=⟨hx,ha⟩
  have hS1:CE (W.drew.alloc (ze #[U zd a,U zd k] 89)) bx 0 (zj (some ⟨bj,0,none⟩))/\CE (W.drew.alloc (ze #[U zd a,U zd k] 89)) ba 0 (U zd a):=⟨Ab hb1 _ _ hx,Ab hb1 _ _ ha⟩
  have hS2:CE w2 bx 0 (zj (some ⟨bj,0,none⟩))/\CE w2 ba 0 (U zd a):=⟨hgr2.cell hS1.1 (fun e=>nx1 (Or.inr (Or.inr ⟨_,hJ1.c11,e.symm⟩))),hgr2.cell hS1.2 (fun e=>na1 (Or.inr (Or.inr ⟨_,hJ1.c11,e.symm⟩)))⟩
  have hS3:CE (w2.setCell ⟨bj,11,none⟩ (O va2 vn2 vc2)) bx 0 (zj (some ⟨bj,0,none⟩))/\CE (w2.setCell ⟨bj,11,none⟩ (O va2 vn2 vc2)) ba 0 (U zd a):=⟨hfin.2.cell hS1.1 nx1,hfin.2.cell hS1.2 na1⟩
  have HFIN:Hx (AU cs w0 bj av (fl++[(a,k)]) (O va2 vn2 vc2) (w2.setCell ⟨bj,11,none⟩ (O va2 vn2 vc2))/\FrW (XJ bj) W (w2.setCell ⟨bj,11,none⟩ (O va2 vn2 vc2))):=⟨hfin.1,(FrW.of_below (Ai bj) hb1).trans hfin.2⟩
  clear hfin hown2 hgr2 hat hN hBW hJ1 h nx na nx1 na1 hb1 hi hz0 hz1 hz2
  go_enter Tryz.func149,Tryz.ntmps149
  go_wp2_with fail
  refine gS (fun Wz=>CE Wz bx 0 (zj (some ⟨bj,0,none⟩))/\CE Wz ba 0 (U zd a)) (hS0) fun hHeld=>?_
  refine kT 0 ?_
  refine kT 1 ?_
  refine kT 2 ?_
  refine kT 3 ?_
  refine kT 5 ?_
  refine kT 6 ?_
  refine kT 7 ?_
  refine rdB 4 8 rfl (fun K hK=>?_) rfl fun K hK=>?_
  ·go_simp
   refine xK hK (hS0) fun hHeld=>?_
   refine rdA 8 rfl fun K hK=>?_
   go_simp
   refine xK hK (hS1) fun hHeld=>?_
   refine rdA 9 rfl fun K hK=>?_
   refine Am rfl _ _ _ rfl _ _ _ _ rfl rfl hrun ?_
   refine xK hK (hS2) fun hHeld=>?_
   refine rdA 10 rfl fun K hK=>?_
   go_simp
   refine xK hK (hS2) fun hHeld=>?_
   refine rdA 11 rfl fun K hK=>?_
   go_simp
   refine xK hK (hS2) fun hHeld=>?_
   refine rdA 12 rfl fun K hK=>?_
   go_simp
   refine xK hK (hS3) fun hHeld=>?_
   refine gE ?_
   go_end0
   exact ⟨rfl,⟨_,HFIN.o.1⟩,HFIN.o.2⟩
  ·go_simp
   refine xK hK (hS1) fun hHeld=>?_
   refine rdA 4 rfl fun K hK=>?_
   go_simp
   refine xK hK (hS1) fun hHeld=>?_
   refine rdA 9 rfl fun K hK=>?_
   refine Am rfl _ _ _ rfl _ _ _ _ rfl rfl hrun ?_
   refine xK hK (hS2) fun hHeld=>?_
   refine rdA 10 rfl fun K hK=>?_
   go_simp
   refine xK hK (hS2) fun hHeld=>?_
   refine rdA 11 rfl fun K hK=>?_
   go_simp
   refine xK hK (hS2) fun hHeld=>?_
   refine rdA 12 rfl fun K hK=>?_
   go_simp
   refine xK hK (hS3) fun hHeld=>?_
   refine gE ?_
   go_end0
   exact ⟨rfl,⟨_,HFIN.o.1⟩,HFIN.o.2⟩
theorem Bx {B e s n m:Nat} {W W':World} {v:Value} {xs:List Value} (h:W.ownsRow B e s v n xs) (hg:W.grownBy W' v.ownBlock) (hB:m<=B) (hs:B<=W.heap.size):Below m W W':=(Aq h hg hs).mono hB
structure CpX (w0:World) (kd n:Int) (k:Nat) (ds:List D) (a0:Value) (j:Nat) (v:Value) (w:World):Prop where
 below:Ov w0 w
 arg:CE w w0.heap.size 2 a0
 out:Ae [U zd kd,U zd n,v] w (w0.heap.size+2)
 res:Ae [U zd 0,U zd 0,O none 0 0] w (w0.heap.size+1)
 fz:∀ b j,b=w0.heap.size+1\/b=w0.heap.size+2->w.frozen? ⟨b,j,none⟩=false
 cop:Cop (w0.heap.size+3) 94 3 (fun i cs W=>∀ d,ds[i]? = some d->RX W k cs d) j v w
 sz:w0.heap.size+3<=w.heap.size
theorem CpX.over {w0:World} {kd n:Int} {k:Nat} {ds:List D} {a0:Value} {j:Nat} {v:Value} {w w':World} (h:CpX w0 kd n k ds a0 j v w) (hb:Ov w w'):CpX w0 kd n k ds a0 j v w':=
 ⟨Ac h.below hb,Ab hb _ _ h.arg,h.out.over hb,h.res.over hb,fun b i hbi=>(hb.frozen (p:=⟨b,i,none⟩) (by have:=h.sz;show b < _;omega)).trans (h.fz b i hbi),h.cop.over hb,Nat.le_trans h.sz hb.size⟩
theorem CpX.rowlt {w0:World} {kd n:Int} {k:Nat} {ds:List D} {a0:Value} {j:Nat} {v:Value} {w:World} (h:CpX w0 kd n k ds a0 j v w) (g:Nat) (hg:v.ownBlock=some g):g < w.heap.size:=by
 obtain ⟨xs,ho,-⟩:=h.cop
 exact (Al ho hg).2
theorem CpX.add {w0:World} {kd n:Int} {k:Nat} {ds:List D} {a0:Value} {j:Nat} {v v':Value} {w w2:World} {xs cs:List Value} {B1:Nat} (h:CpX w0 kd n k ds a0 j v w) (ho:w.ownsRow (w0.heap.size+3) 94 3 v j xs) (he:∀ i,i < j->∃ cs:List Value,cs.length=3/\(∀ q u,cs[q]? = some u->xs[i*3+q]? = some u)/\Off (w0.heap.size+3) v.ownBlock w ((fun i cs W=>∀ d,ds[i]? = some d->RX W k cs d) i cs))
  (hl:cs.length=3) (hn:Off B1 none w ((fun i cs W=>∀ d,ds[i]? = some d->RX W k cs d) j cs)) (hB:True) (hB1:w0.heap.size+3<=B1) (hrow:∀ g,v.ownBlock=some g->g < B1) (ho':w2.ownsRow (w0.heap.size+3) 94 3 v' (j+1) (xs++cs)) (hg:w.grownBy w2 v.ownBlock) (hat:v'.ownBlock=v.ownBlock\/v'.ownBlock=some w.heap.size) :
  CpX w0 kd n k ds a0 (j+1) v' (w2.setCell ⟨w0.heap.size+2,2,none⟩ v'):=by
 have hlow:∀ b,b < w0.heap.size+3->w2.heap[b]? = w.heap[b]?:=fun b hb=>hg.block b (by have:=h.sz;omega) (fun e=>by have:=(Al ho e.symm).1;omega)
 have hbel:Below (w0.heap.size+3) w w2:=Aq ho hg h.sz
 have hrow2:∀ {cs:List Value} {b:Nat},Ae cs w b->b < w0.heap.size+3->Ae cs w2 b:=fun hr hb q u hu=>(World.cell?_of_block (a:=⟨_,q,none⟩) (hlow _ hb)).trans (hr q u hu)
 have hsz:(w2.setCell ⟨w0.heap.size+2,2,none⟩ v').heap.size=w2.heap.size:=by simp [World.setCell]
 refine ⟨((h.below.trans (hbel.mono (by omega))).setCell (show w0.heap.size<=w0.heap.size+2 by omega) _),?_,?_,(hrow2 (b:=w0.heap.size+1) h.res (by omega)).other (by omega),fun b i hb=>?_,?_,?_⟩
 ·have:=(World.cell?_of_block (a:=⟨w0.heap.size,2,none⟩) (hlow w0.heap.size (by omega))).trans h.arg
  exact (AO (w:=w2) (r:=w0.heap.size+2) (j:=2) (u:=v')).cell this (by intro e;injection e with e;exact absurd e (show w0.heap.size≠w0.heap.size+2 by omega))
 ·exact Ae.set (j:=2) (v:=v') (hrow2 (b:=w0.heap.size+2) h.out (by omega)) (by simp)
 ·rw [A8,World.frozen?_of_block (a:=⟨b,i,none⟩) (hlow b (by rcases hb with rfl | rfl <;> omega))]
  exact h.fz b i hb
 ·exact (Cop.add ho he hl hn hB1 hrow ho' hg hat).set (by omega)
 ·rw [hsz];exact Nat.le_trans h.sz hg.size
theorem HY {k:Nat}:∀ {ds:List D},(∀ d∈ds,0 < (Bm k d).length)->ds.length<=(ds.flatMap (Bm k)).length
 | [],_=>Nat.le_refl _
 | d::ds,h=>by
  have h1:=h d (List.mem_cons_self ..)
  have h2:=HY (fun x hx=>h x (List.mem_cons_of_mem _ hx))
  simp only [List.flatMap_cons,List.length_append,List.length_cons]
  omega
theorem LT:∀ (k:Nat) (cs:List Value) (d:D) (w:World),RX w k cs d->(Bm k d).length<=15 ->
  Calls Tryz.prog 52 #[.agg cs.toArray] w fun e w'=>∃ a c,e=zk (zh #[U zd (AH d),U zd (Ba d),O a (AF d).length c])/\Off w.heap.size none w' (fun W=>RX W k [U zd (AH d),U zd (Ba d),O a (AF d).length c] d)/\Ov w w':=by
 intro k
 induction k with
 | zero=>intro cs d w h;exact h.elim
 | succ k ih=>
  intro cs d w h hm
  obtain ⟨kd,n,v,ds,rfl,rfl,hkd,hn,hlen,ao,cap,rfl,hc⟩:=h
  obtain ⟨i0,hi,hz0,hz1,hz2⟩:=info_parts Tryz.infoX
  have hspec:Bm (k+1) (xD kd n ds)=xD kd n ds::ds.flatMap (Bm k):=rfl
  rw [hspec] at hm
  have hpos:∀ d∈ds,0 < (Bm k d).length:=fun d hd=>by
   obtain ⟨i,hi,rfl⟩:=List.getElem_of_mem hd
   obtain ⟨b,off,-,hel⟩:=hc (by rintro rfl;simp at hi)
   obtain ⟨cs,-,-,hr⟩:=hel i ds[i] (List.getElem?_eq_getElem hi)
   exact J8 hr
  have hl14:ds.length<=14:=by have:=HY hpos;simp only [List.length_cons] at hm;omega
  have hone:∀ i (h:i < ds.length),(Bm k ds[i]).length<=15:=fun i h=>by
   have h2:ds.flatMap (Bm k)=(ds.take i).flatMap (Bm k)++((ds.drop i).flatMap (Bm k)):=by rw [<-List.flatMap_append,List.take_append_drop]
   rw [List.drop_eq_getElem_cons h,List.flatMap_cons] at h2
   rw [h2] at hm
   simp only [List.length_cons,List.length_append] at hm
   omega
  have HC:=Aa hc
  have IH:=Aa ih
  have HONE:=Aa hone
  have HKD:=Aa (And.intro hkd (And.intro hn hlen))
  clear hc ih hspec hkd hn hlen hone hpos hm
  show Calls _ _ _ _ fun e w'=>∃ a c,e=zk (zh #[U zd kd,U zd n,O a ds.length c])/\Off w.heap.size none w' (fun W=>RX W (k+1) [U zd kd,U zd n,O a ds.length c] (xD kd n ds))/\Ov w w'
  show Calls Tryz.prog 52 #[zh #[U zd kd,U zd n,O ao ds.length cap]] w _
  go_enter Tryz.func52,Tryz.ntmps52
  go_wp2_with fail
  go_loopw [4] (fun i wr=>∃ (j:Nat) (v:Value),j<=ds.length/\i=U zd j/\CpX w kd n k ds (O ao ds.length cap) j v wr) (fun i _=>ds.length - (intOf i).toNat)
  case atStart=>
   exact ⟨0,O none 0 0,Nat.zero_le _,rfl,⟨((bA w _).alloc (by simp) _).alloc (by simp;omega) _,MR w [U zd kd,U zd n,O ao ds.length cap] 94 _ _ 2 _ rfl,fun q u hu=>Ox w _ _ [U zd kd,U zd n,O none 0 0] 94 q u hu,fun q u hu=>MQ w _ [U zd 0,U zd 0,O none 0 0] 94 _ q u hu,fun b q hb=>by rcases hb with rfl | rfl <;> simp [go_sem],Cop.nil,by simp⟩⟩
  case round=>
   obtain ⟨j,v,hj,rfl,hI⟩:=hrel
   by_cases hjl:j < ds.length
   ·obtain ⟨b,off,rfl,hel⟩:=HC.o (by rintro rfl;simp at hjl)
    obtain ⟨cs,hl3,hcs,hr⟩:=hel j ds[j] (List.getElem?_eq_getElem hjl)
    have h15:=HONE.o j hjl
    have HDJ:Hx (ds[j]? = some ds[j]):=List.getElem?_eq_getElem hjl
    obtain ⟨ao2,cap2,hcse⟩:=hr.form
    obtain ⟨dj,hdj⟩:=nm (ds[j])
    rw [<-hdj] at hr hcse h15 HDJ
    have HCALL:Hx (∀ W,Ov wr W->_):=fun W (hW:Ov wr W)=>IH.o _ dj W (hr.over (Ac hI.below hW)) h15
    obtain ⟨kj,hkj⟩:=nm (AH dj)
    obtain ⟨nj,hnj⟩:=nm (Ba dj)
    obtain ⟨lj,hlj⟩:=nm ((AF dj).length)
    rw [<-hkj,<-hnj,<-hlj] at hcse HCALL
    subst hcse
    have q0:=Ab hI.below _ _ (hcs 0 _ rfl)
    have q1:=Ab hI.below _ _ (hcs 1 _ rfl)
    have q2:=Ab hI.below _ _ (hcs 2 _ rfl)
    have qa:=hI.arg
    have hbw:b < w.heap.size:=bL (hcs 0 _ rfl)
    have HSS:Hx (∀ W,Below (w.heap.size+1) wr W->((fun Wz=>CE Wz w.heap.size 2 (O (some ⟨b,off,none⟩) ds.length cap)/\CE Wz b (off+j*3) (U zd kj)/\CE Wz b (off+j*3+1) (U zd nj)/\CE Wz b (off+j*3+2) (O ao2 lj cap2))) W):=fun W hW=>⟨(hW.cell (p:=⟨w.heap.size,2,none⟩) (Nat.lt_succ_self _)).trans qa,(hW.cell (p:=⟨b,off+j*3+0,none⟩) (Nat.lt_succ_of_lt hbw)).trans q0,(hW.cell (p:=⟨b,off+j*3+1,none⟩) (Nat.lt_succ_of_lt hbw)).trans q1,(hW.cell (p:=⟨b,off+j*3+2,none⟩) (Nat.lt_succ_of_lt hbw)).trans q2⟩
    obtain ⟨va,vc,rfl,-⟩:=hI.cop.cells (by decide)
    have HD:Hx (Ov wr wr.drew):=bD wr
    have HIc:=Aa (hI.over HD.o)
    have HBc:=Aa (HD.o.mono (show w.heap.size+1<=wr.heap.size by have:=hI.sz;omega))
    clear hkj hnj hlj hr hcs hel hl3 hdj q0 q1 q2 hI h15 hbw IH HC HONE
    go_wp2_with fail
    refine gS (fun Wz=>CE Wz w.heap.size 2 (O (some ⟨b,off,none⟩) ds.length cap)/\CE Wz b (off+j*3) (U zd kj)/\CE Wz b (off+j*3+1) (U zd nj)/\CE Wz b (off+j*3+2) (O ao2 lj cap2)) (HSS.o _ HBc.o) fun hHeld=>?_
    generalize wr.drew=W at hHeld HD HIc HBc ⊢
    refine kT 0 ?_
    refine kT 2 ?_
    refine kT 3 ?_
    refine kT 4 ?_
    refine kT 5 ?_
    refine kT 6 ?_
    refine rdB 1 7 rfl (fun K hK=>?_) rfl fun K hK=>?_
    ·have c2:=HIc.o.out 2 _ rfl
     go_simp
     clear c2
     refine xK hK (HSS.o _ HBc.o) fun hHeld=>?_
     clear hK K
     refine rdA 7 rfl fun K hK=>?_
     have HR7:=Aa HIc.o.rowlt
     have HZ7:=Aa HIc.o.sz
     go_simp
     refine (HCALL.o _ HD.o).mono ?_
     rintro e W1 ⟨a3,c3,rfl,hoff,hb1⟩
     have HOFF:=Aa hoff
     replace HBc:=Aa (HBc.o.trans (hb1.mono (Nat.le_trans (Nat.le_of_lt (by omega)) HZ7.o)))
     replace HIc:=Aa (HIc.o.over hb1)
     clear hoff hb1
     refine xK hK (HSS.o _ HBc.o) fun hHeld=>?_
     clear hK K
     refine rdA 8 rfl fun K hK=>?_
     obtain ⟨W2,hW2⟩:=nm (W1.alloc (ze #[U zd kj,U zd nj,O a3 lj c3] 94))
     have hb2:Ov W1 W2:=by rw [hW2];exact bA _ _
     have HN2:Hx (Ae [U zd kj,U zd nj,O a3 lj c3] W2 W1.heap.size):=by rw [hW2];exact Ae.new [U zd kj,U zd nj,O a3 lj c3] 94 W1
     replace HOFF:=Aa (HOFF.o.over hb2)
     replace HBc:=Aa (HBc.o.trans (hb2.mono (Nat.le_trans (Nat.le_of_lt (by omega)) HIc.o.sz)))
     replace HIc:=Aa (HIc.o.over hb2)
     go_simp
     rw [<-hW2]
     clear hW2 hb2
     refine xK hK (HSS.o _ HBc.o) fun hHeld=>?_
     clear hK K
     refine rdA 9 rfl fun K hK=>?_
     obtain ⟨xs,hown,hel⟩:=HIc.o.cop
     obtain ⟨v2,W3,hrun,hown3,hgr3,-,hat⟩:=run_append_own_at (P:=Tryz.prog) (w:=W2) (w.heap.size+3) 92 92 94 i0 (zh #[U zd 0,U zd 0,O none 0 0]) 3 40 Tryz.underlying92 hi hz0 hz1 hz2 rfl (by decide) _ _ _ hown ⟨W1.heap.size,0,none⟩ 1 1 [U zd kj,U zd nj,O a3 lj c3] rfl (fun jj u hu=>by rw [Addr.add_lit,Nat.zero_add];exact HN2.o jj u hu) (by simp [Value.oneCell']) (by unfold maxLen;omega) (by omega) HIc.o.sz
     obtain ⟨va2,vn2,vc2,rfl⟩:=Aj hown3
     have HF:=Aa (HIc.o.add (cs:=[U zd kj,U zd nj,O a3 lj c3]) hown hel rfl (HOFF.o.imp fun W hW d hd=>by rw [HDJ.o] at hd;injection hd with hd;rw [<-hd];exact hW) trivial HZ7.o HR7.o hown3 hgr3 hat)
     replace HBc:=Aa (HBc.o.trans (Bx hown hgr3 (m:=w.heap.size+1) (by omega) HIc.o.sz))
     have d2:CE W3 (w.heap.size+2) 2 (O va j vc):=(World.cell?_of_block (a:=⟨w.heap.size+2,2,none⟩) (hgr3.block (w.heap.size+2) (by have:=HIc.o.sz;omega) (fun e=>by have:=(Al hown e.symm).1;omega))).trans (HIc.o.out 2 _ rfl)
     have f2:W3.frozen? ⟨w.heap.size+2,2,none⟩=false:=(World.frozen?_of_block (a:=⟨w.heap.size+2,2,none⟩) (hgr3.block (w.heap.size+2) (by have:=HIc.o.sz;omega) (fun e=>by have:=(Al hown e.symm).1;omega))).trans (HIc.o.fz _ _ (Or.inr rfl))
     refine Am rfl _ _ _ rfl _ _ _ _ rfl rfl hrun ?_
     clear hrun hown hel hown3 hgr3 hat
     refine xK hK (HSS.o _ HBc.o) fun hHeld=>?_
     clear hK K
     refine kT 10 ?_
     refine rdA 11 rfl fun K hK=>?_
     replace HBc:Hx (Below (w.heap.size+1) wr (W3.setCell ⟨w.heap.size+2,2,none⟩ (O va2 vn2 vc2))):=HBc.o.setCell (show w.heap.size+1<=w.heap.size+2 by omega) _
     go_simp
     refine xK hK (HSS.o _ HBc.o) fun hHeld=>?_
     clear hK K
     refine gE ?_
     clear HSS HCALL HDJ
     go_wp2_with fail
     exact ⟨⟨j+1,_,by omega,by go_num,HF.o⟩,by simp [intOf];omega⟩
    ·have HR7:=Aa HIc.o.rowlt
     have HZ7:=Aa HIc.o.sz
     go_simp
     refine (HCALL.o _ HD.o).mono ?_
     rintro e W1 ⟨a3,c3,rfl,hoff,hb1⟩
     have HOFF:=Aa hoff
     replace HBc:=Aa (HBc.o.trans (hb1.mono (Nat.le_trans (Nat.le_of_lt (by omega)) HZ7.o)))
     replace HIc:=Aa (HIc.o.over hb1)
     clear hoff hb1
     refine xK hK (HSS.o _ HBc.o) fun hHeld=>?_
     clear hK K
     refine rdB 1 8 rfl (fun K hK=>?_) rfl fun K hK=>?_
     ·have c2:=HIc.o.out 2 _ rfl
      go_simp
      clear c2
      refine xK hK (HSS.o _ HBc.o) fun hHeld=>?_
      clear hK K
      refine rdA 8 rfl fun K hK=>?_
      obtain ⟨W2,hW2⟩:=nm (W1.alloc (ze #[U zd kj,U zd nj,O a3 lj c3] 94))
      have hb2:Ov W1 W2:=by rw [hW2];exact bA _ _
      have HN2:Hx (Ae [U zd kj,U zd nj,O a3 lj c3] W2 W1.heap.size):=by rw [hW2];exact Ae.new [U zd kj,U zd nj,O a3 lj c3] 94 W1
      replace HOFF:=Aa (HOFF.o.over hb2)
      replace HBc:=Aa (HBc.o.trans (hb2.mono (Nat.le_trans (Nat.le_of_lt (by omega)) HIc.o.sz)))
      replace HIc:=Aa (HIc.o.over hb2)
      go_simp
      rw [<-hW2]
      clear hW2 hb2
      refine xK hK (HSS.o _ HBc.o) fun hHeld=>?_
      clear hK K
      refine rdA 9 rfl fun K hK=>?_
      obtain ⟨xs,hown,hel⟩:=HIc.o.cop
      obtain ⟨v2,W3,hrun,hown3,hgr3,-,hat⟩:=run_append_own_at (P:=Tryz.prog) (w:=W2) (w.heap.size+3) 92 92 94 i0 (zh #[U zd 0,U zd 0,O none 0 0]) 3 40 Tryz.underlying92 hi hz0 hz1 hz2 rfl (by decide) _ _ _ hown ⟨W1.heap.size,0,none⟩ 1 1 [U zd kj,U zd nj,O a3 lj c3] rfl (fun jj u hu=>by rw [Addr.add_lit,Nat.zero_add];exact HN2.o jj u hu) (by simp [Value.oneCell']) (by unfold maxLen;omega) (by omega) HIc.o.sz
      obtain ⟨va2,vn2,vc2,rfl⟩:=Aj hown3
      have HF:=Aa (HIc.o.add (cs:=[U zd kj,U zd nj,O a3 lj c3]) hown hel rfl (HOFF.o.imp fun W hW d hd=>by rw [HDJ.o] at hd;injection hd with hd;rw [<-hd];exact hW) trivial HZ7.o HR7.o hown3 hgr3 hat)
      replace HBc:=Aa (HBc.o.trans (Bx hown hgr3 (m:=w.heap.size+1) (by omega) HIc.o.sz))
      have d2:CE W3 (w.heap.size+2) 2 (O va j vc):=(World.cell?_of_block (a:=⟨w.heap.size+2,2,none⟩) (hgr3.block (w.heap.size+2) (by have:=HIc.o.sz;omega) (fun e=>by have:=(Al hown e.symm).1;omega))).trans (HIc.o.out 2 _ rfl)
      have f2:W3.frozen? ⟨w.heap.size+2,2,none⟩=false:=(World.frozen?_of_block (a:=⟨w.heap.size+2,2,none⟩) (hgr3.block (w.heap.size+2) (by have:=HIc.o.sz;omega) (fun e=>by have:=(Al hown e.symm).1;omega))).trans (HIc.o.fz _ _ (Or.inr rfl))
      refine Am rfl _ _ _ rfl _ _ _ _ rfl rfl hrun ?_
      clear hrun hown hel hown3 hgr3 hat
      refine xK hK (HSS.o _ HBc.o) fun hHeld=>?_
      clear hK K
      refine kT 10 ?_
      refine rdA 11 rfl fun K hK=>?_
      replace HBc:Hx (Below (w.heap.size+1) wr (W3.setCell ⟨w.heap.size+2,2,none⟩ (O va2 vn2 vc2))):=HBc.o.setCell (show w.heap.size+1<=w.heap.size+2 by omega) _
      go_simp
      refine xK hK (HSS.o _ HBc.o) fun hHeld=>?_
      clear hK K
      refine gE ?_
      clear HSS HCALL HDJ
      go_wp2_with fail
      exact ⟨⟨j+1,_,by omega,by go_num,HF.o⟩,by simp [intOf];omega⟩
     ·obtain ⟨W2,hW2⟩:=nm (W1.alloc (ze #[U zd kj,U zd nj,O a3 lj c3] 94))
      have hb2:Ov W1 W2:=by rw [hW2];exact bA _ _
      have HN2:Hx (Ae [U zd kj,U zd nj,O a3 lj c3] W2 W1.heap.size):=by rw [hW2];exact Ae.new [U zd kj,U zd nj,O a3 lj c3] 94 W1
      replace HOFF:=Aa (HOFF.o.over hb2)
      replace HBc:=Aa (HBc.o.trans (hb2.mono (Nat.le_trans (Nat.le_of_lt (by omega)) HIc.o.sz)))
      replace HIc:=Aa (HIc.o.over hb2)
      go_simp
      rw [<-hW2]
      clear hW2 hb2
      refine xK hK (HSS.o _ HBc.o) fun hHeld=>?_
      clear hK K
      refine rdA 1 rfl fun K hK=>?_
      have c2:=HIc.o.out 2 _ rfl
      go_simp
      clear c2
      refine xK hK (HSS.o _ HBc.o) fun hHeld=>?_
      clear hK K
      refine rdA 9 rfl fun K hK=>?_
      obtain ⟨xs,hown,hel⟩:=HIc.o.cop
      obtain ⟨v2,W3,hrun,hown3,hgr3,-,hat⟩:=run_append_own_at (P:=Tryz.prog) (w:=W2) (w.heap.size+3) 92 92 94 i0 (zh #[U zd 0,U zd 0,O none 0 0]) 3 40 Tryz.underlying92 hi hz0 hz1 hz2 rfl (by decide) _ _ _ hown ⟨W1.heap.size,0,none⟩ 1 1 [U zd kj,U zd nj,O a3 lj c3] rfl (fun jj u hu=>by rw [Addr.add_lit,Nat.zero_add];exact HN2.o jj u hu) (by simp [Value.oneCell']) (by unfold maxLen;omega) (by omega) HIc.o.sz
      obtain ⟨va2,vn2,vc2,rfl⟩:=Aj hown3
      have HF:=Aa (HIc.o.add (cs:=[U zd kj,U zd nj,O a3 lj c3]) hown hel rfl (HOFF.o.imp fun W hW d hd=>by rw [HDJ.o] at hd;injection hd with hd;rw [<-hd];exact hW) trivial HZ7.o HR7.o hown3 hgr3 hat)
      replace HBc:=Aa (HBc.o.trans (Bx hown hgr3 (m:=w.heap.size+1) (by omega) HIc.o.sz))
      have d2:CE W3 (w.heap.size+2) 2 (O va j vc):=(World.cell?_of_block (a:=⟨w.heap.size+2,2,none⟩) (hgr3.block (w.heap.size+2) (by have:=HIc.o.sz;omega) (fun e=>by have:=(Al hown e.symm).1;omega))).trans (HIc.o.out 2 _ rfl)
      have f2:W3.frozen? ⟨w.heap.size+2,2,none⟩=false:=(World.frozen?_of_block (a:=⟨w.heap.size+2,2,none⟩) (hgr3.block (w.heap.size+2) (by have:=HIc.o.sz;omega) (fun e=>by have:=(Al hown e.symm).1;omega))).trans (HIc.o.fz _ _ (Or.inr rfl))
      refine Am rfl _ _ _ rfl _ _ _ _ rfl rfl hrun ?_
      clear hrun hown hel hown3 hgr3 hat
      refine xK hK (HSS.o _ HBc.o) fun hHeld=>?_
      clear hK K
      refine kT 10 ?_
      refine rdA 11 rfl fun K hK=>?_
      replace HBc:Hx (Below (w.heap.size+1) wr (W3.setCell ⟨w.heap.size+2,2,none⟩ (O va2 vn2 vc2))):=HBc.o.setCell (show w.heap.size+1<=w.heap.size+2 by omega) _
      go_simp
      refine xK hK (HSS.o _ HBc.o) fun hHeld=>?_
      clear hK K
      refine gE ?_
      clear HSS HCALL HDJ
      go_wp2_with fail
      exact ⟨⟨j+1,_,by omega,by go_num,HF.o⟩,by simp [intOf];omega⟩
   ·obtain rfl:j=ds.length:=by omega
    obtain ⟨va,vc,rfl,hoff⟩:=hI.cop.cells (by decide)
    obtain ⟨o0,o1,o2⟩:=rc3 hI.out
    obtain ⟨r0,r1,r2⟩:=rc3 hI.res
    have y0:=hI.fz _ 0 (Or.inl rfl)
    have y1:=hI.fz _ 1 (Or.inl rfl)
    have y2:=hI.fz _ 2 (Or.inl rfl)
    have qa:=hI.arg
    have HI:=Aa hI
    have HOFF:=Aa hoff
    clear hI hoff HC IH HONE
    go_wp2_with fail
    refine bodyPost_ret (v:=zh #[U zd kd,U zd n,O va ds.length vc]) (by simp [results,Tryz.results52,go_sem,r0,r1,r2]) rfl ?_
    refine ⟨va,vc,rfl,?_,?_⟩
    ·refine (((HOFF.o.set (by omega)).set (by omega)).set (by omega)).base (by omega) |>.imp fun W hW=>⟨kd,n,_,ds,rfl,rfl,HKD.o.1,HKD.o.2.1,HKD.o.2.2,va,vc,rfl,fun hne=>?_⟩
     obtain ⟨b,hb,hel⟩:=hW (by intro h0;exact hne (List.length_eq_zero_iff.1 h0))
     refine ⟨b,0,hb,fun i d hd=>?_⟩
     obtain ⟨cs,h1,h2,h3⟩:=hel i (List.getElem?_eq_some_iff.1 hd).1
     exact ⟨cs,h1,fun q u hu=>by rw [Nat.zero_add];exact h2 q u hu,h3 d hd⟩
    ·exact ((HI.o.below.setCell (show w.heap.size<=w.heap.size+1 by omega) _).setCell (show w.heap.size<=w.heap.size+1 by omega) _).setCell (show w.heap.size<=w.heap.size+1 by omega) _
theorem Tryz.infoPo:(Tryz.prog.info? 87).map (fun i=>(i.zero,i.size,i.bytes))=some (some (zh #[U zd 0,O none 0 0]),2,32):=by kernel_rfl
theorem Tryz.infoIc:(Tryz.prog.info? 3).map (fun i=>(i.zero,i.size,i.bytes))=some (some (U zd 0),1,8):=by kernel_rfl
theorem Dz {P:Program} {w:World} (base:Nat) (t ty e:TypeId) (i:TypeInfo) (size:Nat) (ht:P.underlying t=some (.slice e)) (hi:P.info? e=some i)
  (v:Value) (n:Nat) (xs:List Value) (hown:w.ownsRow base e size v n xs) (a:Option Addr) (c:Nat) :
  (Builtin.append_ #[t,t] ty #[v,O a 0 c]).run P w=.ok v w:=by
 rcases hown.2 with ⟨rfl,rfl⟩ | ⟨g,cap,cur,rfl,_,_,hnc,_⟩ <;> cases a <;> simp [Builtin.append_,run_underlying ht,sizeOf,typeInfo,Builtin.lenOf,Builtin.firstCells,storeCells,loadCells,loadCellsFrom, *]
theorem BD {W:World} {B:Nat} {sa:Option Addr} {m c:Nat} {l:List Int} {v:Value} (hs:AL W (O sa m c) l) (ho:W.ownsRow B 3 1 v 0 []) (hl:l.length<=1000) (hB:B<=W.heap.size) :
  ∃ v' W',(Builtin.append_ #[25,25] 25 #[v,O sa m c]).run Tryz.prog W=.ok v' W'/\W'.ownsRow B 3 1 v' l.length (Dd l)/\W.grownBy W' v.ownBlock/\(v'.ownBlock=v.ownBlock\/v'.ownBlock=some W.heap.size):=by
 obtain ⟨i0,hi,hz0,hz1,hz2⟩:=info_parts Tryz.infoIc
 obtain ⟨ao,cap,hv,hel⟩:=hs
 injection hv with v1 v2 v3
 subst v1 v2 v3
 cases l with
 | nil=>exact ⟨v,W,Dz B 25 25 3 i0 1 Tryz.underlying25 hi v 0 [] ho sa c,ho,⟨rfl,rfl,rfl,Nat.le_refl _,fun _ _ _=>rfl⟩,Or.inl rfl⟩
 | cons x l=>
  obtain ⟨b,off,rfl,hel2⟩:=hel (by simp)
  have hc:∀ q u,(Dd (x::l))[q]? = some u->W.cell? ((⟨b,off,none⟩:Addr).add q)=some u:=fun q u hu=>by
   rw [Addr.add_lit]
   unfold Dd at hu
   rw [List.getElem?_map] at hu
   obtain ⟨y,hy,rfl⟩:=Option.map_eq_some_iff.1 hu
   obtain ⟨hq,rfl⟩:=List.getElem?_eq_some_iff.1 hy
   exact hel2 q hq
  obtain ⟨v',W',hrun,hown,hgr,-,hat⟩:=run_append_own_at (P:=Tryz.prog) (w:=W) B 25 25 3 i0 (U zd 0) 1 8 Tryz.underlying25 hi hz0 hz1 hz2 rfl (by decide) v 0 [] ho ⟨b,off,none⟩ (x::l).length c (Dd (x::l)) (by simp [Dd]) hc (by simp [Dd,Value.oneCell']) (by unfold maxLen;omega) (by omega) hB
  exact ⟨v',W',hrun,by simpa using hown,hgr,hat⟩
theorem LA {W:World} {B:Nat} {v:Value} {l:List Int} (h:W.ownsRow B 3 1 v l.length (Dd l)):Off B none W (fun W'=>AL W' v l):=by
 rcases h.2 with ⟨hv,h0⟩ | ⟨g,cap,cur,hv,hb,hg,h1,h2,h3,h4⟩
 ·exact fun W' _=>⟨none,0,by rw [hv,h0],fun hne=>absurd (List.length_eq_zero_iff.1 h0) hne⟩
 ·refine fun W' hW=>⟨some ⟨g,0,none⟩,cap,hv,fun _=>⟨g,0,rfl,fun i hi=>?_⟩⟩
  have hlt:g < W.heap.size:=(Array.getElem?_eq_some_iff.1 hg).1
  have hblk:W'.heap[g]? = W.heap[g]?:=hW g hb hlt (by simp)
  rw [World.cell?_of_block (a:=⟨g,0+i,none⟩) hblk,Lib.cell_of_heap hg]
  have hx:(Dd l)[i]? = some (U zd l[i]):=by unfold Dd;rw [List.getElem?_map,List.getElem?_eq_getElem hi];rfl
  rw [<-h4,List.getElem?_take,if_pos (by omega)] at hx
  simpa using hx
theorem Nn (ps:List Pol) (v:Value) (w:World) (h:AI w v ps) (h4:ps.length<=4) (h6:∀ p∈ps,p.names.length<=6) :
  Calls Tryz.prog 111 #[v] w fun e w'=>∃ a c,e=zk (O a ps.length c)/\Off w.heap.size none w' (fun W=>AI W (O a ps.length c) ps)/\Ov w w':=by
 obtain ⟨ao,cap,rfl,hc⟩:=h
 obtain ⟨i0,hi,hz0,hz1,hz2⟩:=info_parts Tryz.infoPo
 have HC:=Aa hc
 have H6:=Aa h6
 clear hc h6
 go_enter Tryz.func111,Tryz.ntmps111
 go_wp2_with fail
 go_loopw [3,4] (fun out i wr=>∃ j:Nat,j<=ps.length/\i=U zd j/\Cop w.heap.size 87 2 (fun i cs W=>∀ p,ps[i]? = some p->∃ nv,cs=[U zd p.owner,nv]/\AL W nv p.names) j out wr/\Ov w wr) (fun _ i _=>ps.length - (intOf i).toNat)
 case atStart=>exact ⟨0,Nat.zero_le _,rfl,Cop.nil,Below.refl _ _⟩
 case round=>
  obtain ⟨j,hj,rfl,hI,hB⟩:=hrel
  by_cases hjl:j < ps.length
  ·obtain ⟨b,off,rfl,hel⟩:=HC.o (by rintro rfl;simp at hjl)
   obtain ⟨q0,nv,q1,hnv⟩:=hel j hjl
   have h6:=H6.o ps[j] (List.getElem_mem hjl)
   have HDJ:Hx (ps[j]? = some ps[j]):=List.getElem?_eq_getElem hjl
   obtain ⟨pj,hpj⟩:=nm ps[j]
   rw [<-hpj] at q0 hnv h6 HDJ
   obtain ⟨oj,hoj⟩:=nm pj.owner
   rw [<-hoj] at q0
   have HNV:=Aa hnv
   obtain ⟨sa,sc,rfl,-⟩:=hnv
   obtain ⟨nj,hnj⟩:=nm pj.names.length
   rw [<-hnj] at q1 HNV h6
   have hbw:b < w.heap.size:=bL q0
   have HSS:Hx (∀ W,Below w.heap.size w W->((fun Wz=>CE Wz b (off+j*2) (U zd oj)/\CE Wz b (off+j*2+1) (O sa nj sc))) W):=fun W hW=>⟨(hW.cell (p:=⟨b,off+j*2,none⟩) hbw).trans q0,(hW.cell (p:=⟨b,off+j*2+1,none⟩) hbw).trans q1⟩
   obtain ⟨va,vc,rfl,-⟩:=hI.cells (by decide)
   have HD:Hx (Ov wr wr.drew):=bD wr
   have HI:=Aa (hI.over HD.o)
   have HB:=Aa (Ac hB HD.o)
   have HNJ:=Aa hnj
   have HOJ:=Aa hoj
   clear hI hB q0 q1 hel hpj hbw HC H6 hnj hoj
   go_wp2_with fail
   refine gS (fun Wz=>CE Wz b (off+j*2) (U zd oj)/\CE Wz b (off+j*2+1) (O sa nj sc)) (HSS.o _ HB.o) fun hHeld=>?_
   generalize wr.drew=W at hHeld HD HI HB ⊢
   refine kT 0 ?_
   refine kT 1 ?_
   refine kT 2 ?_
   refine kT 3 ?_
   refine kT 4 ?_
   refine kT 5 ?_
   refine kT 7 ?_
   refine kT 8 ?_
   refine kT 9 ?_
   refine kT 10 ?_
   refine kT 11 ?_
   refine rdA 6 rfl fun K hK=>?_
   have HROW:Hx (∀ g,(Value.slice va j vc).ownBlock=some g->g < W.heap.size):=by obtain ⟨xs,ho,-⟩:=HI.o;exact fun g hg=>(Al ho hg).2
   have HLW:=Aa HB.o.size
   obtain ⟨W1,hW1⟩:=nm (W.alloc (ze #[] 3))
   have HO1:Hx (W1.ownsRow W.heap.size 3 1 (O (some ⟨W.heap.size,0,none⟩) 0 0) 0 []):=by rw [hW1];exact ⟨rfl,Or.inr ⟨W.heap.size,0,#[],rfl,Nat.le_refl _,heap_alloc_new W _,Nat.le_refl _,by decide,rfl,rfl⟩⟩
   have HW1:Hx (Ov W W1):=by rw [hW1];exact bA _ _
   replace HB:=Aa (Ac HB.o HW1.o)
   go_simp
   rw [<-hW1]
   clear hW1
   refine xK hK (HSS.o _ HB.o) fun hHeld=>?_
   clear hK K
   refine rdA 12 rfl fun K hK=>?_
   obtain ⟨v2,W2,hrun,hown2,hgr2,hat2⟩:=BD (B:=W.heap.size) (l:=pj.names) (BF HNV.o HB.o) HO1.o (by have:=HNJ.o;omega) HW1.o.size
   obtain ⟨va2,vn2,vc2,rfl⟩:=Aj hown2
   have HW2:Hx (Ov W W2):=HW1.o.trans (Aq HO1.o hgr2 HW1.o.size)
   have HOFF:=Aa (LA hown2)
   replace HB:Hx (Ov w W2):=HB.o.trans ((Aq HO1.o hgr2 HW1.o.size).mono HLW.o)
   refine Am rfl _ _ _ rfl _ _ _ _ rfl rfl hrun ?_
   clear hrun hown2 hgr2 hat2
   refine xK hK (HSS.o _ HB.o) fun hHeld=>?_
   clear hK K
   refine kT 13 ?_
   refine rdA 14 rfl fun K hK=>?_
   obtain ⟨W3,hW3⟩:=nm (W2.alloc (ze #[U zd oj,O va2 vn2 vc2] 87))
   have hb3:Ov W2 W3:=by rw [hW3];exact bA _ _
   have HN3:Hx (Ae [U zd oj,O va2 vn2 vc2] W3 W2.heap.size):=by rw [hW3];exact Ae.new [U zd oj,O va2 vn2 vc2] 87 W2
   replace HOFF:=Aa (HOFF.o.over hb3)
   have HW3:=Aa (Ac HW2.o hb3)
   replace HB:=Aa (Ac HB.o hb3)
   go_simp
   rw [<-hW3]
   clear hW3 hb3
   refine xK hK (HSS.o _ HB.o) fun hHeld=>?_
   clear hK K
   refine rdA 15 rfl fun K hK=>?_
   obtain ⟨xs,hown,hel⟩:=HI.o.over HW3.o
   obtain ⟨v4,W4,hrun,hown4,hgr4,-,hat⟩:=run_append_own_at (P:=Tryz.prog) (w:=W3) w.heap.size 37 37 87 i0 (zh #[U zd 0,O none 0 0]) 2 32 Tryz.underlying37 hi hz0 hz1 hz2 rfl (by decide) _ _ _ hown ⟨W2.heap.size,0,none⟩ 1 1 [U zd oj,O va2 vn2 vc2] rfl (fun jj u hu=>by rw [Addr.add_lit,Nat.zero_add];exact HN3.o jj u hu) (by simp [Value.oneCell']) (by unfold maxLen;omega) (by omega) HB.o.size
   have HF:=Aa (Cop.add (P:=(fun i cs W=>∀ p,ps[i]? = some p->∃ nv,cs=[U zd p.owner,nv]/\AL W nv p.names)) hown hel rfl (HOFF.o.imp fun W hW p hp=>by rw [HDJ.o] at hp;injection hp with hp;rw [<-hp];exact ⟨_,by rw [HOJ.o],hW⟩) HLW.o HROW.o hown4 hgr4 hat)
   replace HB:Hx (Ov w W4):=HB.o.trans (Aq hown hgr4 HB.o.size)
   refine Am rfl _ _ _ rfl _ _ _ _ rfl rfl hrun ?_
   clear hrun hown hel hown4 hgr4 hat
   refine xK hK (HSS.o _ HB.o) fun hHeld=>?_
   clear hK K
   refine kT 16 ?_
   refine gE ?_
   clear HSS HDJ HNV HOFF
   go_wp2_with fail
   exact ⟨⟨j+1,by omega,by go_num,HF.o,HB.o⟩,by simp [intOf];omega⟩
  ·obtain rfl:j=ps.length:=by omega
   obtain ⟨va,vc,rfl,hoff⟩:=hI.cells (by decide)
   have HOFF:=Aa hoff
   clear hI hoff HC H6
   go_wp2_with fail
   go_ret
   refine ⟨va,vc,rfl,HOFF.o.imp fun W hW=>⟨va,vc,rfl,fun hne=>?_⟩,hB⟩
   obtain ⟨b,hb,hel⟩:=hW (by intro h0;exact hne (List.length_eq_zero_iff.1 h0))
   refine ⟨b,0,hb,fun i hi=>?_⟩
   obtain ⟨cs,h1,h2,h3⟩:=hel i hi
   obtain ⟨nv,rfl,hnv⟩:=h3 ps[i] (List.getElem?_eq_getElem hi)
   exact ⟨by rw [Nat.zero_add];exact h2 0 _ rfl,nv,by rw [Nat.zero_add];exact h2 1 _ rfl,hnv⟩
theorem LS (bl:Lab) (x y:Value) (w:World) (hx:AI w x bl.r) (hy:AI w y bl.w) (h4:bl.r.length<=4/\bl.w.length<=4) (h6:(∀ p∈bl.r,p.names.length<=6)/\∀ p∈bl.w,p.names.length<=6) :
  Calls Tryz.prog 51 #[zh #[x,y]] w fun e w'=>∃ a1 c1 a2 c2,e=zk (zh #[O a1 bl.r.length c1,O a2 bl.w.length c2])/\Off w.heap.size none w' (fun W=>AI W (O a1 bl.r.length c1) bl.r/\AI W (O a2 bl.w.length c2) bl.w)/\Ov w w':=by
 obtain ⟨V,hV⟩:=nm ((w.alloc (ze #[x,y] 39)).alloc (ze #[O none 0 0,O none 0 0] 39))
 have HV:Hx (Ov w V):=by rw [hV];exact (bA w _).alloc (by simp) _
 have hsz:V.heap.size=w.heap.size+2:=by rw [hV];simp
 have hbx:Ae [x,y] V w.heap.size:=by rw [hV];exact fun q u hu=>E4 w [x,y] 39 _ q u hu
 have HRES:Hx (Ae [O none 0 0,O none 0 0] V (w.heap.size+1)):=by rw [hV];exact fun q u hu=>Fk w _ [O none 0 0,O none 0 0] 39 q u hu
 have HFZ:Hx (∀ W,Ov V W->∀ q,W.frozen? ⟨w.heap.size+1,q,none⟩=false):=fun W hW q=>(hW.frozen (p:=⟨w.heap.size+1,q,none⟩) (show w.heap.size+1 < V.heap.size by omega)).trans (by rw [hV];simp [go_sem])
 have K1:Hx (∀ W,Ov V W->_):=fun W (hW:Ov V W)=>Nn bl.r x W (Ah hx (Ac HV.o hW)) h4.1 h6.1
 have K2:Hx (∀ W,Ov V W->_):=fun W (hW:Ov V W)=>Nn bl.w y W (Ah hy (Ac HV.o hW)) h4.2 h6.2
 obtain ⟨xa,xc,rfl,-⟩:=hx
 obtain ⟨ya,yc,rfl,-⟩:=hy
 obtain ⟨xn,hxn⟩:=nm bl.r.length
 obtain ⟨yn,hyn⟩:=nm bl.w.length
 have HSZ:Hx (w.heap.size+1<=V.heap.size):=by rw [hsz];exact Nat.le_succ _
 rw [<-hxn] at K1 hbx ⊢
 rw [<-hyn] at K2 hbx ⊢
 rw [<-hxn] at hV
 rw [<-hyn] at hV
 have HSS:Hx (∀ W,Below (w.heap.size+1) V W->((fun Wz=>CE Wz w.heap.size 0 (O xa xn xc)/\CE Wz w.heap.size 1 (O ya yn yc))) W):=fun W hW=>⟨(hW.cell (p:=⟨w.heap.size,0,none⟩) (Nat.lt_succ_self _)).trans (hbx 0 _ rfl),(hW.cell (p:=⟨w.heap.size,1,none⟩) (Nat.lt_succ_self _)).trans (hbx 1 _ rfl)⟩
 have HBc:Hx (Ov V V.drew):=bD V
 have HVE:=Aa hV
 clear hbx h4 h6 hV hxn hyn
 go_enter Tryz.func51,Tryz.ntmps51
 go_wp2_with fail
 rw [<-HVE.o]
 clear HVE
 refine gS (fun Wz=>CE Wz w.heap.size 0 (O xa xn xc)/\CE Wz w.heap.size 1 (O ya yn yc)) (HSS.o _ (HBc.o.mono HSZ.o)) fun hHeld=>?_
 generalize V.drew=W at hHeld HBc ⊢
 refine kT 0 ?_
 refine kT 1 ?_
 refine kT 3 ?_
 refine kT 4 ?_
 refine rdA 2 rfl fun K hK=>?_
 go_simp
 refine (K1.o _ HBc.o).mono ?_
 rintro e W1 ⟨a1,c1,rfl,hoff,hb⟩
 have HOFF1:=Aa (hoff.base HBc.o.size)
 (try replace HOFF2:=Aa (HOFF2.o.over hb))
 replace HBc:=Aa (Ac HBc.o hb)
 clear hoff hb
 refine xK hK (HSS.o _ (HBc.o.mono HSZ.o)) fun hHeld=>?_
 clear hK K
 refine rdA 5 rfl fun K hK=>?_
 go_simp
 refine (K2.o _ HBc.o).mono ?_
 rintro e W2 ⟨a2,c2,rfl,hoff,hb⟩
 have HOFF2:=Aa (hoff.base HBc.o.size)
 (try replace HOFF1:=Aa (HOFF1.o.over hb))
 replace HBc:=Aa (Ac HBc.o hb)
 clear hoff hb
 refine xK hK (HSS.o _ (HBc.o.mono HSZ.o)) fun hHeld=>?_
 clear hK K
 refine kT 6 ?_
 refine rdA 7 rfl fun K hK=>?_
 have hst:=HBc.o
 obtain ⟨r0,r1⟩:=rc2 (HRES.o.over hst)
 have y0:=HFZ.o _ hst 0
 have y1:=HFZ.o _ hst 1
 go_simp
 refine xK hK (HSS.o _ (((hst.mono HSZ.o).setCell (show w.heap.size+1<=w.heap.size+1 by omega) _).setCell (show w.heap.size+1<=w.heap.size+1 by omega) _)) fun hHeld=>?_
 clear hK K
 refine gE ?_
 go_wp2_with fail
 refine bodyPost_ret (v:=zh #[O a1 xn c1,O a2 yn c2]) (by simp [results,Tryz.results51,go_sem,r0,r1]) rfl ?_
 exact ⟨a1,c1,a2,c2,rfl,fun W hW=>⟨((HOFF1.o.set (show w.heap.size+1 < V.heap.size by omega)).set (show w.heap.size+1 < V.heap.size by omega)).base (by omega) W hW,((HOFF2.o.set (show w.heap.size+1 < V.heap.size by omega)).set (show w.heap.size+1 < V.heap.size by omega)).base (by omega) W hW⟩,((HV.o.trans (hst.mono (by omega))).setCell (show w.heap.size<=w.heap.size+1 by omega) _).setCell (show w.heap.size<=w.heap.size+1 by omega) _⟩
structure JSt (c:WC) (w0:World) (gs:List (Int × Int)) (Ls Fs:List Lev):Prop where
 n1:1<=c.n
 n6:c.n<=6
 gr:AG w0 (O c.ga c.gn c.gc) gs
 chk:AQ c.n gs=0
 levs:Bd w0 (O c.la c.ln c.lc) Ls
 lens:∀ x∈Ls,x.len c.n
 flevs:Bd w0 (O c.ka c.kn c.kc) Fs
 flens:∀ x∈Fs,x.len c.n
 l16:Ls.length<=16
theorem FR (c:WC) (gs) (v u:Value) (l k) (w:World) (hg:AG w (O c.ga c.gn c.gc) gs) (hE:AQ c.n gs=0) (hl:A7 w v l) (hll:l.len c.n) (hk:A7 w u k) (hkl:k.len c.n) :
  Calls Tryz.prog 57 #[c.v,v,u] w fun e w'=>e=zk (zg (Ay l k c.n))/\Ov w w':=by
 obtain ⟨x,y,rfl,-⟩:=id hl
 obtain ⟨x',y',rfl,-⟩:=id hk
 exact I3 (c.n:Int) c.ga c.gn c.gc c.sa c.sn c.sc c.ya c.yn c.yc c.oa c.on c.oc c.va c.vn c.vc c.fa c.fn c.fc c.ba c.bn c.bc c.la c.ln c.lc c.ka c.kn c.kc gs x y x' y' l k w hg hl hk (C6 hE hll hkl)
theorem O1 (c:WC) (gs) (v u:Value) (l k) (w:World) (hg:AG w (O c.ga c.gn c.gc) gs) (hE:AQ c.n gs=0) (hl:A7 w v l) (hll:l.len c.n) (hk:A7 w u k) (hkl:k.len c.n) :
  Calls Tryz.prog 58 #[c.v,v,u] w fun e w'=>∃ vj,e=zk vj/\Bh w w' vj (Bp l k c.n)/\Ov w w':=by
 obtain ⟨x,y,rfl,-⟩:=id hl
 obtain ⟨x',y',rfl,-⟩:=id hk
 exact JD (c.n:Int) c.ga c.gn c.gc c.sa c.sn c.sc c.ya c.yn c.yc c.oa c.on c.oc c.va c.vn c.vc c.fa c.fn c.fc c.ba c.bn c.bc c.la c.ln c.lc c.ka c.kn c.kc gs x y x' y' l k w hg hl hk (C6 hE hll hkl)
theorem LC (c:WC) (gs) (pr pw:Value) (b:Lab) (w:World) (hg:AG w (O c.ga c.gn c.gc) gs) (hl:AI w pr b.r) (hk:AI w pw b.w) (h2:Bq c.n gs b=0) :
  Calls Tryz.prog 114 #[c.v,zh #[pr,pw]] w fun e w'=>∃ vj,e=zk vj/\Bh w w' vj (Az (AB gs) c.n b)/\Ov w w':=
 GR (c.n:Int) c.ga c.gn c.gc c.sa c.sn c.sc c.ya c.yn c.yc c.oa c.on c.oc c.va c.vn c.vc c.fa c.fn c.fc c.ba c.bn c.bc c.la c.ln c.lc c.ka c.kn c.kc gs pr pw b w hg hl hk h2
theorem CW {w0:World} {ao:Option Addr} {an ac:Nat} {Ls:List Lev} {i:Nat} (h:Bd w0 (O ao an ac) Ls) (hi:i < Ls.length):∃ b o a1 a2 a3 a4 a5 a6,ao=some ⟨b,o,none⟩/\an=Ls.length/\w0.cell? ⟨b,o+i*2,none⟩=some (O a1 a2 a3)/\w0.cell? ⟨b,o+i*2+1,none⟩=some (O a4 a5 a6)/\A7 w0 (zh #[O a1 a2 a3,O a4 a5 a6]) Ls[i]:=by
 obtain ⟨ao',cap,hv,hel⟩:=h
 injection hv with e1 e2 e3
 obtain ⟨b,o,hao,hel⟩:=hel (by rintro rfl;simp at hi)
 obtain ⟨rv,wv,c0,c1,hl⟩:=hel i hi
 obtain ⟨a1,a2,a3,a4,a5,a6,rfl,rfl⟩:=AN hl
 exact ⟨b,o,a1,a2,a3,a4,a5,a6,e1.trans hao,e2,c0,c1,hl⟩
abbrev KY (bj:Nat) (c:WC) (bl ol:Nat) (W:World) (p1:Option Addr) (q1 r1:Nat) (p2:Option Addr) (q2 r2 i:Nat) (a1:Option Addr) (a2 a3:Nat) (a4:Option Addr) (a5 a6:Nat) (Wz:World):Prop:=Wz.cell? ⟨bj,0,none⟩=some (U zd (c.n:Int))/\CE Wz bj 1 (O c.ga c.gn c.gc)/\CE Wz bj 2 (O c.sa c.sn c.sc)/\CE Wz bj 3 (O c.ya c.yn c.yc)/\CE Wz bj 4 (O c.oa c.on c.oc)/\CE Wz bj 5 (O c.va c.vn c.vc)/\CE Wz bj 6 (O c.fa c.fn c.fc)/\CE Wz bj 7 (O c.ba c.bn c.bc)/\CE Wz bj 8 (O (some ⟨bl,ol,none⟩) c.ln c.lc)/\CE Wz bj 9 (O c.ka c.kn c.kc)/\CE Wz W.heap.size 0 (O p1 q1 r1)/\CE Wz W.heap.size 1 (O p2 q2 r2)/\CE Wz bl (ol+i*2) (O a1 a2 a3)/\CE Wz bl (ol+i*2+1) (O a4 a5 a6)
theorem Ep (c) (w0:World) (bj:Nat) (av:Value) (fl) (fv:Value) (gs Ls Fs) (J:JSt c w0 gs Ls Fs) (v:Value) (l) (i:Nat) (W:World) (h:AU c.cs w0 bj av fl fv W) (hl:A7 W v l) (hll:l.len c.n) (hi:i < Ls.length) :
  Calls Tryz.prog 150 #[zj (some ⟨bj,0,none⟩),v,U zd (i:Int)] W fun e W'=>e=zk (zg (Ay l Ls[i] c.n))/\Ov W W':=by
 obtain ⟨bl,ol,a1,a2,a3,a4,a5,a6,hla,hln,k0,k1,hk⟩:=CW J.levs hi
 obtain ⟨p1,q1,r1,p2,q2,r2,rfl⟩:∃ p1 q1 r1 p2 q2 r2,v=zh #[O p1 q1 r1,O p2 q2 r2]:=by
  obtain ⟨x,y,rfl,-⟩:=id hl
  obtain ⟨p1,q1,r1,p2,q2,r2,rfl,rfl⟩:=AN hl
  exact ⟨_,_,_,_,_,_,rfl⟩
 have hb1:Ov W (W.alloc (ze #[O p1 q1 r1,O p2 q2 r2] 50)):=bA W _
 have hJ1:=h.over hb1
 have rowB:=Ae.new [O p1 q1 r1,O p2 q2 r2] 50 W
 have hB1:=hJ1.below
 have hcv:c.v=zh #[U zd (c.n:Int),O c.ga c.gn c.gc,O c.sa c.sn c.sc,O c.ya c.yn c.yc,O c.oa c.on c.oc,O c.va c.vn c.vc,O c.fa c.fn c.fc,O c.ba c.bn c.bc,O (some ⟨bl,ol,none⟩) c.ln c.lc,O c.ka c.kn c.kc]:=by show Value.agg #[U zd (c.n:Int),O c.ga c.gn c.gc,O c.sa c.sn c.sc,O c.ya c.yn c.yc,O c.oa c.on c.oc,O c.va c.vn c.vc,O c.fa c.fn c.fc,O c.ba c.bn c.bc,O c.la c.ln c.lc,O c.ka c.kn c.kc]=_;rw [hla]
 have KF:Hx (∀ (W2:World),Ov (W.alloc (ze #[O p1 q1 r1,O p2 q2 r2] 50)) W2->Calls Tryz.prog 57 #[zh #[U zd (c.n:Int),O c.ga c.gn c.gc,O c.sa c.sn c.sc,O c.ya c.yn c.yc,O c.oa c.on c.oc,O c.va c.vn c.vc,O c.fa c.fn c.fc,O c.ba c.bn c.bc,O (some ⟨bl,ol,none⟩) c.ln c.lc,O c.ka c.kn c.kc],zh #[O p1 q1 r1,O p2 q2 r2],zh #[O a1 a2 a3,O a4 a5 a6]] W2 fun e w'=>e=zk (zg (Ay l Ls[i] c.n))/\Ov W2 w'):=fun W2 hb2=>by
  have:=FR c gs _ _ l Ls[i] W2 (Af J.gr (hB1.trans (hb2.mono hB1.size))) J.chk (Aw (Aw hl hb1) hb2) hll (Aw hk (hB1.trans (hb2.mono hB1.size))) (J.lens _ (List.getElem_mem hi))
  rw [hcv] at this
  exact this
 have hS0:KY bj c bl ol W p1 q1 r1 p2 q2 r2 i a1 a2 a3 a4 a5 a6 (W.alloc (ze #[O p1 q1 r1,O p2 q2 r2] 50)):=⟨hJ1.cw 0 _ rfl,hJ1.cw 1 _ rfl,hJ1.cw 2 _ rfl,hJ1.cw 3 _ rfl,hJ1.cw 4 _ rfl,hJ1.cw 5 _ rfl,hJ1.cw 6 _ rfl,hJ1.cw 7 _ rfl,by rw [<-hla];exact hJ1.cw 8 _ rfl,hJ1.cw 9 _ rfl,rowB 0 _ rfl,rowB 1 _ rfl,Ab hB1 _ _ k0,Ab hB1 _ _ k1⟩
 have HS:Hx (∀ W2,Ov (W.alloc (ze #[O p1 q1 r1,O p2 q2 r2] 50)) W2->KY bj c bl ol W p1 q1 r1 p2 q2 r2 i a1 a2 a3 a4 a5 a6 W2):=fun W2 hb2=>by
  obtain ⟨s0,s1,s2,s3,s4,s5,s6,s7,s8,s9,s10,s11,s12,s13⟩:=hS0
  exact ⟨Ab hb2 _ _ s0,Ab hb2 _ _ s1,Ab hb2 _ _ s2,Ab hb2 _ _ s3,Ab hb2 _ _ s4,Ab hb2 _ _ s5,Ab hb2 _ _ s6,Ab hb2 _ _ s7,Ab hb2 _ _ s8,Ab hb2 _ _ s9,Ab hb2 _ _ s10,Ab hb2 _ _ s11,Ab hb2 _ _ s12,Ab hb2 _ _ s13⟩
 have hi1:(i:Int) < (c.ln:Int):=by rw [hln];omega
 have hi2:c.ln<=16:=by rw [hln];exact J.l16
 obtain ⟨t0,t1,t2,t3,t4,t5,t6,t7,t8,t9,t10,t11,t12,t13⟩:=id hS0
 generalize hfb:Ay l Ls[i] c.n=fb at KF ⊢
 clear J h hJ1 hl hll rowB hB1 hk k0 k1 hfb hcv hla hln
 go_enter Tryz.func150,Tryz.ntmps150
 go_wp2_with fail
 refine gS (KY bj c bl ol W p1 q1 r1 p2 q2 r2 i a1 a2 a3 a4 a5 a6) (hS0) fun hHeld=>?_
 refine kT 0 ?_
 refine kT 1 ?_
 refine kT 2 ?_
 refine kT 3 ?_
 refine kT 4 ?_
 refine kT 5 ?_
 refine kT 6 ?_
 refine kT 7 ?_
 refine kT 8 ?_
 refine kT 9 ?_
 refine kT 10 ?_
 refine kT 11 ?_
 refine kT 12 ?_
 refine kT 13 ?_
 refine rdA 14 rfl fun K hK=>?_
 go_simp
 refine (KF.o _ (bD _)).mono ?_
 rintro e W2 ⟨rfl,hb2⟩
 have hS2:=HS.o W2 (Ac (bD _) hb2)
 go_simp
 refine xK hK (hS2) fun hHeld=>?_
 refine rdA 15 rfl fun K hK=>?_
 go_simp
 refine xK hK (hS2) fun hHeld=>?_
 refine gE ?_
 go_wp2_with fail
 go_ret
 exact ⟨rfl,Ac hb1 (Ac (bD _) hb2)⟩
section
variable {α:Type}
def Gb (p:α->Bool) (l:List α):Int:=match l.findIdx? p with | some i=>i | none=>-1
theorem JE {p:α->Bool} {l:List α} {k:Nat} (hk:k < l.length) (h:(l.take k).all (fun g=>!p g)=true) (hp:p l[k]=true):Gb p l=k:=by
 have:l.findIdx? p=some k:=by
  rw [List.findIdx?_eq_some_iff_getElem]
  refine ⟨hk,hp,fun j hj=>?_⟩
  have:=List.all_eq_true.1 h l[j] (List.mem_take_iff_getElem.2 ⟨j,by omega,rfl⟩)
  simpa using this
 simp [Gb,this]
theorem Gv {p:α->Bool} {l:List α} (h:l.all (fun g=>!p g)=true):Gb p l=-1:=by
 have:l.findIdx? p=none:=by
  rw [List.findIdx?_eq_none_iff]
  intro x hx
  have:=List.all_eq_true.1 h x hx
  simpa using this
 simp [Gb,this]
theorem H9 (p:α->Bool) (l:List α):decide (0<=Gb p l)=l.any p:=by
 unfold Gb
 cases h:l.findIdx? p with
 | none=>
  have:l.any p=false:=by rw [List.any_eq_false];intro x hx;have:=(List.findIdx?_eq_none_iff.1 h) x hx;simpa using this
  rw [this];rfl
 | some i=>
  obtain ⟨hi,hp,_⟩:=List.findIdx?_eq_some_iff_getElem.1 h
  have:l.any p=true:=List.any_eq_true.2 ⟨_,List.getElem_mem hi,hp⟩
  rw [this];simp
end
theorem Mt (F:FuncId) (cap:List Value) (p:Int->Bool) (v:Value) (l) (w:World) (hv:AL w v l) (hn:l.length<=6)
  (hF:Hx (∀ (i:Nat) (h:i < l.length) (w1:World),Ov w w1->Calls Tryz.prog F (U zd l[i]::cap).toArray w1 fun e w2=>e=zk (zg (p l[i]))/\Ov w1 w2))
  (hC:∀ (args:Array Value) (w:World),(callFunc F args).run Tryz.prog w=.ok (.enter F args) w) :
  Calls Tryz.prog 190 #[v,.func (.func F) #[] cap.toArray] w fun e w'=>e=zk (U zd (Gb p l))/\Ov w w':=by
 obtain ⟨ao,cp,rfl,hcc⟩:=hv
 go_enter Tryz.func190,Tryz.ntmps190
 go_wp2_with fail
 go_loopw [8] (fun i wr=>∃ k:Nat,k<=l.length/\i=U zd k/\(l.take k).all (fun g=>!p g)=true/\Ov w wr) (fun i _=>l.length - (intOf i).toNat)
 case atStart=>exact ⟨0,Nat.zero_le _,rfl,rfl,Below.refl _ w⟩
 case round=>
  obtain ⟨k,hk,rfl,hall,hbel⟩:=hrel
  by_cases hkl:k < l.length
  ·obtain ⟨b,off,rfl,hcl⟩:=hcc (by rintro rfl;simp at hkl)
   have q0:=hcl k hkl
   have hlt:=bL q0
   rw [<-(Ap hbel).1 _ _ hlt] at q0
   have hcall:=hF.o k hkl
   have hat:=fun (hp:p l[k]=true)=>JE hkl hall hp
   have htk:p l[k]=false->(l.take (k+1)).all (fun g=>!p g)=true:=fun hp=>by
    rw [List.take_succ_eq_append_getElem hkl,List.all_append,hall]
    simp [hp]
   obtain ⟨r,hr⟩:=nm (p l[k])
   rw [<-hr] at hcall hat htk
   obtain ⟨g0,hg0⟩:=nm (l[k])
   rw [<-hg0] at q0 hcall
   clear hg0
   have HC:=Aa hcall
   have HA:=Aa hat
   have HT:=Aa htk
   clear hr hcall hat htk hcl hcc hF
   cases r with
   | true=>
    go_wp2_with fail
    refine (HC.o _ hbel).mono ?_
    rintro e w2 ⟨rfl,hb2⟩
    have hbel2:Ov w w2:=hbel.trans (hb2.mono hbel.size)
    go_wp2_with fail
    go_ret
    exact ⟨by rw [HA.o (by first | rfl | trivial)];rfl,hbel2⟩
   | false=>
    go_wp2_with fail
    refine (HC.o _ hbel).mono ?_
    rintro e w2 ⟨rfl,hb2⟩
    have hbel2:Ov w w2:=hbel.trans (hb2.mono hbel.size)
    go_wp2_with fail
    exact ⟨⟨k+1,by omega,by go_num,HT.o (by first | rfl | trivial),hbel2⟩,by simp [intOf];omega⟩
  ·have hke:k=l.length:=by omega
   rw [hke,List.take_length] at hall
   have hx:=Gv hall
   clear hall hcc hF
   go_wp2_with fail
   go_ret
   exact ⟨by rw [hx];rfl,hbel⟩
theorem FX (F:FuncId) (cap:List Value) (p:Int->Bool) (v:Value) (l) (w:World) (hv:AL w v l) (hn:l.length<=6)
  (hF:Hx (∀ (i:Nat) (h:i < l.length) (w1:World),Ov w w1->Calls Tryz.prog F (U zd l[i]::cap).toArray w1 fun e w2=>e=zk (zg (p l[i]))/\Ov w1 w2))
  (hC:∀ (args:Array Value) (w:World),(callFunc F args).run Tryz.prog w=.ok (.enter F args) w) :
  Calls Tryz.prog 124 #[v,.func (.func F) #[] cap.toArray] w fun e w'=>e=zk (zg (l.any p))/\Ov w w':=by
 have hI:=Mt F cap p v l w hv hn hF hC
 have hx:=H9 p l
 obtain ⟨r,hr⟩:=nm (Gb p l)
 rw [<-hr] at hI hx
 rw [<-hx]
 have HI:=Aa hI
 clear hI hx hr hv hC hF
 go_enter Tryz.func124,Tryz.ntmps124
 go_wp2_with fail
 refine (HI.o).mono ?_
 rintro e w1 ⟨rfl,hb1⟩
 go_wp2_with fail
 go_ret
 exact ⟨by simp,hb1⟩
theorem Ms (F:FuncId) (cap:List Value) (p:Pol->Bool) (v:Value) (l:List Pol) (w:World) (hv:AI w v l) (hn:l.length<=6)
  (hF:Hx (∀ (i:Nat) (h:i < l.length) (w1:World),Ov w w1->∀ nv,AL w1 nv l[i].names->Calls Tryz.prog F (zh #[U zd l[i].owner,nv]::cap).toArray w1 fun e w2=>e=zk (zg (p l[i]))/\Ov w1 w2))
  (hC:∀ (args:Array Value) (w:World),(callFunc F args).run Tryz.prog w=.ok (.enter F args) w) :
  Calls Tryz.prog 247 #[v,.func (.func F) #[] cap.toArray] w fun e w'=>e=zk (U zd (Gb p l))/\Ov w w':=by
 obtain ⟨ao,cp,rfl,hcc⟩:=hv
 go_enter Tryz.func247,Tryz.ntmps247
 go_wp2_with fail
 go_loopw [8] (fun i wr=>∃ k:Nat,k<=l.length/\i=U zd k/\(l.take k).all (fun g=>!p g)=true/\Ov w wr) (fun i _=>l.length - (intOf i).toNat)
 case atStart=>exact ⟨0,Nat.zero_le _,rfl,rfl,Below.refl _ w⟩
 case round=>
  obtain ⟨k,hk,rfl,hall,hbel⟩:=hrel
  by_cases hkl:k < l.length
  ·obtain ⟨b,off,rfl,hcl⟩:=hcc (by rintro rfl;simp at hkl)
   obtain ⟨q0,nv,q1,hnv⟩:=hcl k hkl
   obtain ⟨q0,q1⟩:=co2 hbel q0 q1
   obtain ⟨n1,n2,hnf,-⟩:=id hnv
   subst hnf
   have hcall:=fun (w1:World) (hb:Ov w w1)=>hF.o k hkl w1 hb _ (BF hnv hb)
   have hat:=fun (hp:p l[k]=true)=>JE hkl hall hp
   have htk:p l[k]=false->(l.take (k+1)).all (fun g=>!p g)=true:=fun hp=>by
    rw [List.take_succ_eq_append_getElem hkl,List.all_append,hall]
    simp [hp]
   obtain ⟨r,hr⟩:=nm (p l[k])
   rw [<-hr] at hcall hat htk
   obtain ⟨g0,hg0⟩:=nm (l[k].owner)
   rw [<-hg0] at q0 hcall
   clear hg0
   have HC:=Aa hcall
   have HA:=Aa hat
   have HT:=Aa htk
   clear hr hcall hat htk hcl hcc hF
   cases r with
   | true=>
    go_wp2_with fail
    refine (HC.o _ hbel).mono ?_
    rintro e w2 ⟨rfl,hb2⟩
    have hbel2:Ov w w2:=hbel.trans (hb2.mono hbel.size)
    go_wp2_with fail
    go_ret
    exact ⟨by rw [HA.o (by first | rfl | trivial)];rfl,hbel2⟩
   | false=>
    go_wp2_with fail
    refine (HC.o _ hbel).mono ?_
    rintro e w2 ⟨rfl,hb2⟩
    have hbel2:Ov w w2:=hbel.trans (hb2.mono hbel.size)
    go_wp2_with fail
    exact ⟨⟨k+1,by omega,by go_num,HT.o (by first | rfl | trivial),hbel2⟩,by simp [intOf];omega⟩
  ·have hke:k=l.length:=by omega
   rw [hke,List.take_length] at hall
   have hx:=Gv hall
   clear hall hcc hF
   go_wp2_with fail
   go_ret
   exact ⟨by rw [hx];rfl,hbel⟩
theorem Jb (F:FuncId) (cap:List Value) (p:Pol->Bool) (v:Value) (l:List Pol) (w:World) (hv:AI w v l) (hn:l.length<=6)
  (hF:Hx (∀ (i:Nat) (h:i < l.length) (w1:World),Ov w w1->∀ nv,AL w1 nv l[i].names->Calls Tryz.prog F (zh #[U zd l[i].owner,nv]::cap).toArray w1 fun e w2=>e=zk (zg (p l[i]))/\Ov w1 w2))
  (hC:∀ (args:Array Value) (w:World),(callFunc F args).run Tryz.prog w=.ok (.enter F args) w) :
  Calls Tryz.prog 235 #[v,.func (.func F) #[] cap.toArray] w fun e w'=>e=zk (zg (l.any p))/\Ov w w':=by
 have hI:=Ms F cap p v l w hv hn hF hC
 have hx:=H9 p l
 obtain ⟨r,hr⟩:=nm (Gb p l)
 rw [<-hr] at hI hx
 rw [<-hx]
 have HI:=Aa hI
 clear hI hx hr hv hC hF
 go_enter Tryz.func235,Tryz.ntmps235
 go_wp2_with fail
 refine (HI.o).mono ?_
 rintro e w1 ⟨rfl,hb1⟩
 go_wp2_with fail
 go_ret
 exact ⟨by simp,hb1⟩
def DD (gn:List (Nat × Nat)) (n i j:Nat):Bool:=(acts gn n i)[j]?.getD false
structure JAc (c:WC) (w0:World) (av:Value) (gn:List (Nat × Nat)) (sp:List Int):Prop where
 acts:∃ ob,av=O (some ⟨ob,0,none⟩) c.n c.n/\CC w0 ob c.n gn c.n
 speak:AL w0 (O c.sa c.sn c.sc) sp
 s6:sp.length<=6
 sIn:∀ x∈sp,0<=x/\x < (c.n:Int)
abbrev Nb (bx bj bw who ob:Nat) (c:WC) (kb other:Nat) (r:Bool) (Wz:World):Prop:=Wz.cell? ⟨bx,0,none⟩=some (zj (some ⟨bj,0,none⟩))/\CE Wz bw 0 (U zd (who:Int))/\CE Wz bj 10 (O (some ⟨ob,0,none⟩) c.n c.n)/\CE Wz ob who (O (some ⟨kb,0,none⟩) c.n c.n)/\CE Wz kb other (zg r)
theorem Po (c) (w0:World) (bj:Nat) (av:Value) (fl) (fv:Value) (gn:List (Nat × Nat)) (sp) (A:JAc c w0 av gn sp) (bx bw who other:Nat) (W:World) (h:AU c.cs w0 bj av fl fv W) (n6:c.n<=6) (hx:W.cell? ⟨bx,0,none⟩=some (zj (some ⟨bj,0,none⟩))) (hw:W.cell? ⟨bw,0,none⟩=some (U zd (who:Int))) (h1:who < c.n) (h2:other < c.n) :
  Calls Tryz.prog 238 #[U zd (other:Int),zj (some ⟨bx,0,none⟩),zj (some ⟨bw,0,none⟩)] W fun e W'=>e=zk (zg (DD gn c.n who other))/\Ov W W':=by
 obtain ⟨ob,rfl,hR⟩:=A.acts
 obtain ⟨kb,-,k0,hK⟩:=hR who h1
 have k1:=(hK other (by rw [BM];exact h2)).1
 have hr:(acts gn c.n who)[other]'(by rw [BM];exact h2)=DD gn c.n who other:=by unfold DD;rw [List.getElem?_eq_getElem (by rw [BM];exact h2)];rfl
 rw [hr] at k1
 generalize DD gn c.n who other=r at k1 ⊢
 have hS0:Nb bx bj bw who ob c kb other r W:=⟨hx,hw,h.c10,Ab h.below _ _ k0,Ab h.below _ _ k1⟩
 obtain ⟨s0,s1,s2,s3,s4⟩:=id hS0
 have g1:(who:Int) < (c.n:Int):=by omega
 have g2:(other:Int) < (c.n:Int):=by omega
 clear h A hR hK k0 k1 hr hx hw
 go_enter Tryz.func238,Tryz.ntmps238
 go_wp2_with fail
 refine gS (Nb bx bj bw who ob c kb other r) (hS0) fun hHeld=>?_
 refine kT 0 ?_
 refine kT 1 ?_
 refine kT 2 ?_
 refine kT 3 ?_
 refine kT 4 ?_
 refine kT 5 ?_
 refine kT 6 ?_
 refine kT 7 ?_
 refine kT 8 ?_
 refine kT 9 ?_
 refine kT 10 ?_
 refine gE ?_
 go_wp2_with fail
 go_ret
 exact ⟨rfl,(bD _)⟩
theorem Kn (args:Array Value) (w:World):(callFunc 238 args).run Tryz.prog w=.ok (.enter 238 args) w:=by simp [go_sem]
abbrev Na (bx bj bw other ob:Nat) (c:WC) (who kb:Nat) (r:Bool) (Wz:World):Prop:=Wz.cell? ⟨bx,0,none⟩=some (zj (some ⟨bj,0,none⟩))/\CE Wz bw 0 (U zd (other:Int))/\CE Wz bj 10 (O (some ⟨ob,0,none⟩) c.n c.n)/\CE Wz ob who (O (some ⟨kb,0,none⟩) c.n c.n)/\CE Wz kb other (zg r)
theorem NV (c) (w0:World) (bj:Nat) (av:Value) (fl) (fv:Value) (gn:List (Nat × Nat)) (sp) (A:JAc c w0 av gn sp) (bx bw who other:Nat) (W:World) (h:AU c.cs w0 bj av fl fv W) (n6:c.n<=6) (hx:W.cell? ⟨bx,0,none⟩=some (zj (some ⟨bj,0,none⟩))) (hw:W.cell? ⟨bw,0,none⟩=some (U zd (other:Int))) (h1:who < c.n) (h2:other < c.n) :
  Calls Tryz.prog 237 #[U zd (who:Int),zj (some ⟨bx,0,none⟩),zj (some ⟨bw,0,none⟩)] W fun e W'=>e=zk (zg (DD gn c.n who other))/\Ov W W':=by
 obtain ⟨ob,rfl,hR⟩:=A.acts
 obtain ⟨kb,-,k0,hK⟩:=hR who h1
 have k1:=(hK other (by rw [BM];exact h2)).1
 have hr:(acts gn c.n who)[other]'(by rw [BM];exact h2)=DD gn c.n who other:=by unfold DD;rw [List.getElem?_eq_getElem (by rw [BM];exact h2)];rfl
 rw [hr] at k1
 generalize DD gn c.n who other=r at k1 ⊢
 have hS0:Na bx bj bw other ob c who kb r W:=⟨hx,hw,h.c10,Ab h.below _ _ k0,Ab h.below _ _ k1⟩
 obtain ⟨s0,s1,s2,s3,s4⟩:=id hS0
 have g1:(who:Int) < (c.n:Int):=by omega
 have g2:(other:Int) < (c.n:Int):=by omega
 clear h A hR hK k0 k1 hr hx hw
 go_enter Tryz.func237,Tryz.ntmps237
 go_wp2_with fail
 refine gS (Na bx bj bw other ob c who kb r) (hS0) fun hHeld=>?_
 refine kT 0 ?_
 refine kT 1 ?_
 refine kT 2 ?_
 refine kT 3 ?_
 refine kT 4 ?_
 refine kT 5 ?_
 refine kT 6 ?_
 refine kT 7 ?_
 refine kT 8 ?_
 refine kT 9 ?_
 refine kT 10 ?_
 refine kT 11 ?_
 refine gE ?_
 go_wp2_with fail
 go_ret
 exact ⟨rfl,(bD _)⟩
theorem Io (args:Array Value) (w:World):(callFunc 237 args).run Tryz.prog w=.ok (.enter 237 args) w:=by simp [go_sem]
def Ie (gn:List (Nat × Nat)) (n:Nat) (sp:List Int) (who:Nat):Bool:=sp.any fun x=>DD gn n who x.toNat
def Es (gn:List (Nat × Nat)) (n:Nat) (sp:List Int) (o:Nat):Bool:=!(sp.any fun x=>DD gn n x.toNat o)
theorem N9 (c) (w0:World) (bj:Nat) (av:Value) (fl) (fv:Value) (gn:List (Nat × Nat)) (sp) (A:JAc c w0 av gn sp) (who:Nat) (W:World) (h:AU c.cs w0 bj av fl fv W) (n6:c.n<=6) (h1:who < c.n) :
  Calls Tryz.prog 206 #[zj (some ⟨bj,0,none⟩),U zd (who:Int)] W fun e W'=>e=zk (zg (Ie gn c.n sp who))/\Ov W W':=by
 have hb:Ov W ((W.alloc (ze #[zj (some ⟨bj,0,none⟩)] 161)).alloc (ze #[U zd (who:Int)] 3)):=(bA W _).alloc (by simp) _
 have hJ:=h.over hb
 have e0:=E4 W [zj (some ⟨bj,0,none⟩)] 161 (ze #[U zd (who:Int)] 3) 0 _ rfl
 have e1:=Fk W (ze #[zj (some ⟨bj,0,none⟩)] 161) [U zd (who:Int)] 3 0 _ rfl
 have t2:=hJ.cw 2 _ rfl
 have K:=Aa (FX 238 [zj (some ⟨W.heap.size,0,none⟩),zj (some ⟨W.heap.size+1,0,none⟩)] (fun x=>DD gn c.n who x.toNat) (O c.sa c.sn c.sc) sp _ (BF A.speak hJ.below) A.s6
  (Aa fun i hi w1 hb1=>by
   obtain ⟨x0,x1⟩:=A.sIn _ (List.getElem_mem hi)
   have:=Po c w0 bj av fl fv gn sp A W.heap.size (W.heap.size+1) who (sp[i].toNat) w1 (hJ.over hb1) n6 (Ab hb1 _ _ e0) (Ab hb1 _ _ e1) h1 (by omega)
   rwa [Int.toNat_of_nonneg x0] at this) Kn)
 have hfs:(sp.any fun x=>DD gn c.n who x.toNat)=Ie gn c.n sp who:=rfl
 rw [hfs] at K
 clear hJ h A hfs
 go_enter Tryz.func206,Tryz.ntmps206
 go_wp2_with fail
 refine (K.o).mono ?_
 rintro e w1 ⟨rfl,hb1⟩
 go_wp2_with fail
 go_ret
 exact ⟨rfl,Ac hb hb1⟩
theorem OZ (c) (w0:World) (bj:Nat) (av:Value) (fl) (fv:Value) (gn:List (Nat × Nat)) (sp) (A:JAc c w0 av gn sp) (bx:Nat) (o:Nat) (na nn nc) (W:World) (h:AU c.cs w0 bj av fl fv W) (n6:c.n<=6) (hx:W.cell? ⟨bx,0,none⟩=some (zj (some ⟨bj,0,none⟩))) (h1:o < c.n) :
  Calls Tryz.prog 236 #[zh #[U zd (o:Int),O na nn nc],zj (some ⟨bx,0,none⟩)] W fun e W'=>e=zk (zg (Es gn c.n sp o))/\Ov W W':=by
 have hb:Ov W (W.alloc (ze #[U zd (o:Int),O na nn nc] 87)):=bA W _
 have hJ:=h.over hb
 have e0:=Ab hb _ _ hx
 have e1:=CK W [U zd (o:Int),O na nn nc] 87 0 _ rfl
 have t2:=hJ.cw 2 _ rfl
 have K:=Aa (FX 237 [zj (some ⟨bx,0,none⟩),zj (some ⟨W.heap.size,0,none⟩)] (fun x=>DD gn c.n x.toNat o) (O c.sa c.sn c.sc) sp _ (BF A.speak hJ.below) A.s6
  (Aa fun i hi w1 hb1=>by
   obtain ⟨x0,x1⟩:=A.sIn _ (List.getElem_mem hi)
   have:=NV c w0 bj av fl fv gn sp A bx W.heap.size (sp[i].toNat) o w1 (hJ.over hb1) n6 (Ab hb1 _ _ e0) (Ab hb1 _ _ e1) (by omega) h1
   rwa [Int.toNat_of_nonneg x0] at this) Io)
 have hfs:(!(sp.any fun x=>DD gn c.n x.toNat o))=Es gn c.n sp o:=rfl
 rw [<-hfs]
 generalize (sp.any fun x=>DD gn c.n x.toNat o)=r at K ⊢
 clear hJ h A hfs hx
 go_enter Tryz.func236,Tryz.ntmps236
 go_wp2_with fail
 refine (K.o).mono ?_
 rintro e w1 ⟨rfl,hb1⟩
 go_wp2_with fail
 go_ret
 exact ⟨rfl,Ac hb hb1⟩
theorem Jj (args:Array Value) (w:World):(callFunc 236 args).run Tryz.prog w=.ok (.enter 236 args) w:=by simp [go_sem]
theorem Nf (c) (w0:World) (bj:Nat) (av:Value) (fl) (fv:Value) (gn:List (Nat × Nat)) (sp) (A:JAc c w0 av gn sp) (v:Value) (ps:List Pol) (W:World) (h:AU c.cs w0 bj av fl fv W) (n6:c.n<=6) (hp:AI W v ps) (hp6:ps.length<=6) (hin:∀ q∈ps,0<=q.owner/\q.owner < (c.n:Int)) :
  Calls Tryz.prog 202 #[zj (some ⟨bj,0,none⟩),v] W fun e W'=>e=zk (zg (ps.any fun q=>Es gn c.n sp q.owner.toNat))/\Ov W W':=by
 have hb:Ov W (W.alloc (ze #[zj (some ⟨bj,0,none⟩)] 161)):=bA W _
 have hJ:=h.over hb
 have e0:=CK W [zj (some ⟨bj,0,none⟩)] 161 0 _ rfl
 have K:=Aa (Jb 236 [zj (some ⟨W.heap.size,0,none⟩)] (fun q=>Es gn c.n sp q.owner.toNat) v ps _ (Ah hp hb) hp6
  (Aa fun i hi w1 hb1 nv hnv=>by
   obtain ⟨x0,x1⟩:=hin _ (List.getElem_mem hi)
   obtain ⟨n1,n2,rfl,-⟩:=hnv
   have:=OZ c w0 bj av fl fv gn sp A W.heap.size (ps[i].owner.toNat) n1 ps[i].names.length n2 w1 (hJ.over hb1) n6 (Ab hb1 _ _ e0) (by omega)
   rwa [Int.toNat_of_nonneg x0] at this) Jj)
 obtain ⟨pa,pn,pc,rfl⟩:∃ a n c,v=O a n c:=by obtain ⟨a,c,e,-⟩:=hp;exact ⟨_,_,_,e⟩
 generalize (ps.any fun q=>Es gn c.n sp q.owner.toNat)=r at K ⊢
 clear hJ h A hp hin
 go_enter Tryz.func202,Tryz.ntmps202
 go_wp2_with fail
 refine (K.o).mono ?_
 rintro e w1 ⟨rfl,hb1⟩
 go_wp2_with fail
 go_ret
 exact ⟨rfl,Ac hb hb1⟩
theorem EL (c:WC) (w0:World) (bj:Nat) (av:Value) (fl) (fv:Value) (F:FuncId) (cap:List Value) (p:Nat->Bool) (W:World) (h:AU c.cs w0 bj av fl fv W) (n6:c.n<=6)
  (hF:Hx (∀ (i:Nat),i < c.n->∀ (w1:World),Ov W w1->Calls Tryz.prog F (U zd (i:Int)::cap).toArray w1 fun e w2=>e=zk (zg (p i))/\Ov w1 w2))
  (hC:∀ (args:Array Value) (w:World),(callFunc F args).run Tryz.prog w=.ok (.enter F args) w) :
  Calls Tryz.prog 203 #[zj (some ⟨bj,0,none⟩),.func (.func F) #[] cap.toArray] W fun e W'=>e=zk (zg ((List.range c.n).any p))/\Ov W W':=by
 have t0:=h.cw 0 _ rfl
 clear h
 go_enter Tryz.func203,Tryz.ntmps203
 go_wp2_with fail
 go_loopw [13] (fun i wr=>∃ k:Nat,k<=c.n/\i=U zd k/\(∀ j,j < k->p j=false)/\Ov W wr) (fun i _=>c.n - (intOf i).toNat)
 case atStart=>exact ⟨0,Nat.zero_le _,rfl,fun j hj=>absurd hj (by omega),Below.refl _ W⟩
 case round=>
  obtain ⟨k,hk,rfl,hall,hbel⟩:=hrel
  by_cases hkl:k < c.n
  ·have hcall:=hF.o k hkl
   have hat:p k=true->(List.range c.n).any p=true:=fun hp=>List.any_eq_true.2 ⟨k,List.mem_range.2 hkl,hp⟩
   have htk:p k=false->∀ j,j < k+1->p j=false:=fun hp j hj=>by
    by_cases hjk:j=k
    ·rw [hjk];exact hp
    ·exact hall j (by omega)
   generalize p k=r at hcall hat htk
   have HC:=Aa hcall
   have HA:=Aa hat
   have HT:=Aa htk
   clear hcall hat htk hF hall
   have hk2:(k:Int) < (c.n:Int):=by omega
   cases r with
   | true=>
    go_wp2_with fail
    refine (HC.o _ hbel).mono ?_
    rintro e w2 ⟨rfl,hb2⟩
    have hbel2:Ov W w2:=hbel.trans (hb2.mono hbel.size)
    go_wp2_with fail
    go_ret
    exact ⟨by rw [HA.o (by first | rfl | trivial)];rfl,hbel2⟩
   | false=>
    go_wp2_with fail
    refine (HC.o _ hbel).mono ?_
    rintro e w2 ⟨rfl,hb2⟩
    have hbel2:Ov W w2:=hbel.trans (hb2.mono hbel.size)
    go_wp2_with fail
    exact ⟨⟨k+1,by omega,by go_num,HT.o (by first | rfl | trivial),hbel2⟩,by simp [intOf];omega⟩
  ·have hx:(List.range c.n).any p=false:=by
    rw [List.any_eq_false]
    intro j hj
    rw [hall j (by have:=List.mem_range.1 hj;omega)]
    simp
   clear hall hF
   go_wp2_with fail
   go_ret
   exact ⟨by rw [hx];rfl,hbel⟩
section
variable {c:WC} {w0 W W':World} {bj:Nat} {av:Value} {fl:List (Int × Int)} {fv:Value} {gs:List (Int × Int)} {Ls Fs:List Lev}
theorem AU.xold (h:AU c.cs w0 bj av fl fv W) {k:Nat} (hk:k < w0.heap.size):¬ XJ bj W k:=fun e=>by have:=(h.xlt k e).1;omega
theorem FE {n:Nat} (h1:1<=n) (h:AU c.cs w0 bj av fl fv W) {v:Value} {l:Lev} (hl:A7 w0 v l) (hll:l.len n):AW n (XJ bj) W v l:=by
 have lt:∀ (v:Value) (l:List Bool),AP w0 v l->l.length=n->∀ a m c,v=O (some a) m c->a.block < w0.heap.size:=by
  intro v l hb hl a m c e
  obtain ⟨ao,cap,hv,hel⟩:=hb
  obtain ⟨b,off,hao,hel⟩:=hel (by rintro rfl;simp at hl;omega)
  rw [hv,hao] at e
  injection e with e1
  injection e1 with e1
  rw [<-e1]
  exact bL (hel 0 (by omega))
 obtain ⟨x,y,hv,bx,by'⟩:=id hl
 exact ⟨Aw hl h.below,hll,x,y,hv,fun a m c e=>h.xold (lt _ _ bx hll.1 a m c e),fun a m c e=>h.xold (lt _ _ by' hll.2 a m c e)⟩
theorem ET {n:Nat} (h1:1<=n) (h:AU c.cs w0 bj av fl fv W) {v:Value} {Ls:List Lev} (hl:Bd w0 v Ls) (hll:∀ x∈Ls,x.len n):Bb n (XJ bj) W v Ls:=by
 obtain ⟨ao,cap,hv,hel⟩:=hl
 refine ⟨ao,cap,hv,fun hne=>?_⟩
 obtain ⟨b,off,hao,hel⟩:=hel hne
 refine ⟨b,off,hao,fun i hi=>?_⟩
 obtain ⟨rv,wv,c0,c1,hl⟩:=hel i hi
 exact ⟨rv,wv,Ab h.below _ _ c0,Ab h.below _ _ c1,FE h1 h hl (hll _ (List.getElem_mem hi))⟩
theorem O2 (J:JSt c w0 gs Ls Fs) (fs:List FnD) (hF:Fs.length=fs.length):D3 c w0 Ls.length fs gs (fun _:List (Int × Int)=>Ls) (fun _=>Fs) (fun fl W=>∃ fv,AU c.cs w0 bj av fl fv W) (XJ bj) where
 n1:=J.n1
 n6:=J.n6
 gr:=J.gr
 chk:=J.chk
 nv16:=J.l16
 below:=fun _ _ ⟨_,h⟩=>h.below
 levs:=fun _ _ ⟨_,h⟩=>⟨ET J.n1 h J.levs J.lens,rfl⟩
 flevs:=fun _ _ ⟨_,h⟩=>⟨ET J.n1 h J.flevs J.flens,hF⟩
 over:=fun _ _ _ ⟨fv,h⟩ hb=>⟨fv,h.over hb⟩
 xok:=Ai bj
 xlt:=fun _ _ ⟨_,h⟩ k hk=>(h.xlt k hk).2
theorem Hj (J:JSt c w0 gs Ls Fs) (h:AU c.cs w0 bj av fl fv W) (v:Value) (l) (K:Nat) (cs:List Value) (d) (hl:AW c.n (XJ bj) W v l) (hx:RX w0 K cs d) (hv:∀ x∈AC K d,0<=x/\x < (Ls.length:Int)) :
  Calls Tryz.prog 103 #[c.v,v,.agg cs.toArray] W fun e w'=>
   (∃ p1 q1 r1 p2 q2 r2,e=zk (zh #[O p1 q1 r1,O p2 q2 r2])/\AW c.n (XJ bj) w' (zh #[O p1 q1 r1,O p2 q2 r2]) (AX c.n Ls l (AC K d)))/\Ov W w':=
 DE c J.n1 J.n6 gs Ls (XJ bj) (Ai bj) v l K cs d W (Af J.gr h.below) J.chk (ET J.n1 h J.levs J.lens) hl J.l16 (fun k hk=>(h.xlt k hk).2) (hx.over h.below) hv
end
structure DT (bj s:Nat) (a:Int) (st lv:List Value) (W:World):Prop where
 j:W.cell? ⟨s,0,none⟩=some (zj (some ⟨bj,0,none⟩))
 a:W.cell? ⟨s+1,0,none⟩=some (U zd a)
 st:Ae st W (s+1+1)
 lv:Ae lv W (s+1+1+1)
 x:∀ i,s<=i->i<=s+3->¬ XJ bj W i
 lt:s+3 < W.heap.size
theorem DT.keep {bj s:Nat} {a:Int} {st lv:List Value} {W W':World} (h:DT bj s a st lv W) (hf:FrW (XJ bj) W W'):DT bj s a st lv W':=
 ⟨hf.cell h.j (h.x s (Nat.le_refl _) (by omega)),hf.cell h.a (h.x _ (by omega) (by omega)),hf.row h.st (h.x _ (by omega) (by omega)),hf.row h.lv (h.x _ (by omega) (by omega)),fun i h0 h1 e=>h.x i h0 h1 (hf.mov i (by have:=h.lt;omega) e),Nat.lt_of_lt_of_le h.lt hf.size⟩
theorem CZ (bj:Nat) (a:Int) (st lv:List Value) (W:World) (hx:∀ k,XJ bj W k->k < W.heap.size) :
  DT bj W.heap.size a st lv ((((W.alloc (ze #[zj (some ⟨bj,0,none⟩)] 161)).alloc (ze #[U zd a] 3)).alloc (.cells st.toArray 130)).alloc (.cells lv.toArray 50)) /\
  Ov W ((((W.alloc (ze #[zj (some ⟨bj,0,none⟩)] 161)).alloc (ze #[U zd a] 3)).alloc (.cells st.toArray 130)).alloc (.cells lv.toArray 50)):=by
 have hb:Ov W ((((W.alloc (ze #[zj (some ⟨bj,0,none⟩)] 161)).alloc (ze #[U zd a] 3)).alloc (.cells st.toArray 130)).alloc (.cells lv.toArray 50)):=(((bA W _).alloc (by simp) _).alloc (by simp <;> omega) _).alloc (by simp <;> omega) _
 refine ⟨⟨by simp [go_sem],by simp [go_sem],?_,?_,fun i h0 h1 e=>?_,by simp <;> omega⟩,hb⟩
 ·have r:=(Ae.new st 130 ((W.alloc (ze #[zj (some ⟨bj,0,none⟩)] 161)).alloc (ze #[U zd a] 3))).over (bA _ (.cells lv.toArray 50))
  simpa using r
 ·have r:=Ae.new lv 50 (((W.alloc (ze #[zj (some ⟨bj,0,none⟩)] 161)).alloc (ze #[U zd a] 3)).alloc (.cells st.toArray 130))
  simpa using r
 ·have:=hx i ((Ai bj).below _ _ hb i e)
  omega
abbrev M9 (W:World) (bj:Nat) (c:WC) (vr ek en:Int) (xa:Option Addr) (xl xc:Nat) (p1:Option Addr) (q1 r1:Nat) (p2:Option Addr) (q2 r2:Nat) (Wz:World):Prop:=Wz.cell? ⟨W.heap.size,0,none⟩=some (zj (some ⟨bj,0,none⟩))/\CE Wz bj 0 (U zd (c.n:Int))/\CE Wz bj 1 (O c.ga c.gn c.gc)/\CE Wz bj 2 (O c.sa c.sn c.sc)/\CE Wz bj 3 (O c.ya c.yn c.yc)/\CE Wz bj 4 (O c.oa c.on c.oc)/\CE Wz bj 5 (O c.va c.vn c.vc)/\CE Wz bj 6 (O c.fa c.fn c.fc)/\CE Wz bj 7 (O c.ba c.bn c.bc)/\CE Wz bj 8 (O c.la c.ln c.lc)/\CE Wz bj 9 (O c.ka c.kn c.kc)/\CE Wz (W.heap.size+1+1) 1 (U zd vr)/\CE Wz (W.heap.size+1+1) 3 (U zd ek)/\CE Wz (W.heap.size+1+1) 4 (U zd en)/\CE Wz (W.heap.size+1+1) 5 (O xa xl xc)/\CE Wz (W.heap.size+1+1+1) 0 (O p1 q1 r1)/\CE Wz (W.heap.size+1+1+1) 1 (O p2 q2 r2)
theorem Nz (c) (w0:World) (bj:Nat) (av:Value) (gs Ls Fs) (J:JSt c w0 gs Ls Fs) (sp) (A:JAc c w0 av (AB gs) sp) (K ni no:Nat) (fs vs) (hvs:Bo w0 (O c.va c.vn c.vc) vs) (hvn:vs.length=Ls.length) (hvc:∀ v∈vs,Bq c.n gs v.2=0) (ls) (hls:A9 w0 (O c.ya c.yn c.yc) ls) (hlc:∀ b∈ls,Bq c.n gs b=0) (hni:ls.length=ni) (hni5:ni<=5) (os) (hos:A9 w0 (O c.oa c.on c.oc) os) (hoc:∀ b∈os,Bq c.n gs b=0) (hno:os.length=no) (hno5:no<=5)
  (fl:List (Int × Int)) (hfl:fl.length<=900) (fv:Value) (W:World) (a:Int) (k:Nat) (cs:List Value) (d:D) (v:Value) (p:Lev) (funcs:Int) (h:AU c.cs w0 bj av fl fv W) (hrs:RS w0 K (k+1) cs d) (hok:CA K Ls.length ni no funcs fs d) (hl:AW c.n (XJ bj) W v p) (hk:Ak d=1) :
  Calls Tryz.prog 88 #[zj (some ⟨bj,0,none⟩),U zd a,.agg cs.toArray,v] W fun e W'=>e=zk (zm #[])/\(∃ fv',AU c.cs w0 bj av (addF a 1 fl (!Ay (AX c.n Ls p (AC K (AR d))) (Ls.getD (AJ d).toNat AE) c.n)) fv' W')/\FrW (XJ bj) W W':=by
 obtain ⟨p1,q1,r1,p2,q2,r2,rfl⟩:=hl.form
 obtain ⟨ek,en,xa,xl,xc,aa,ac,ta,tc,ea,ec,rfl,i0,i1,i2,hX,hA,hT,hE,-,-,-⟩:=hrs.form
 have hkd:sC (Ak d) (AJ d) (Ag d) ek en xa xl xc aa (An d).length ac ta (Ar d).length tc ea (Av d).length ec=sC 1 (AJ d) (Ag d) ek en xa xl xc aa (An d).length ac ta (Ar d).length tc ea (Av d).length ec:=by rw [hk]
 rw [hkd]
 clear hkd
 have hv2:=hok.2.1 (by omega)
 obtain ⟨jv,hjv⟩:∃ j:Nat,AJ d=(j:Int):=⟨(AJ d).toNat,by omega⟩
 have hjl:jv < Ls.length:=by omega
 have hgd:Ls.getD (AJ d).toNat AE=Ls[jv]:=by rw [hjv];simp [List.getD_eq_getElem?_getD,hjl]
 rw [hgd]
 obtain ⟨vr,hvr⟩:=nm (AJ d)
 obtain ⟨ot,hot⟩:=nm (Ag d)
 obtain ⟨al,hal⟩:=nm ((An d).length)
 obtain ⟨tl,htl⟩:=nm ((Ar d).length)
 obtain ⟨el,hel⟩:=nm ((Av d).length)
 rw [<-hvr,<-hot,<-hal,<-htl,<-hel]
 obtain ⟨hbox,hb⟩:=CZ bj a [U zd 1,U zd vr,U zd ot,U zd ek,U zd en,O xa xl xc,O aa al ac,O ta tl tc,O ea el ec] [O p1 q1 r1,O p2 q2 r2] W (fun k hk=>(h.xlt k hk).2)
 have hF1:=FrW.of_below (Ai bj) hb
 have hFD:=hF1.trans (FrW.of_below (Ai bj) (bD _))
 have HF1:=Aa hF1
 have HJ1:=Aa (h.over hb)
 have HBX1:=Aa hbox
 have HL1:=Aa (hl.keep J.n1 hF1)
 have HJD:=Aa (HJ1.o.over (bD _))
 have HBXD:=Aa (hbox.keep (FrW.of_below (Ai bj) (bD _)))
 have HLD:=Aa (hl.keep J.n1 hFD)
 have HFD:=Aa hFD
 have KW:=Aa (fun (W2:World) (h2:AU c.cs w0 bj av fl fv W2) (hl2:AW c.n (XJ bj) W2 (zh #[O p1 q1 r1,O p2 q2 r2]) p)=>Hj J h2 _ p K [U zd ek,U zd en,O xa xl xc] (AR d) hl2 hX (BB hok))
 obtain ⟨r,hr⟩:=nm (Ay (AX c.n Ls p (AC K (AR d))) Ls[jv] c.n)
 have KR:Hx (∀ (W2:World),AU c.cs w0 bj av fl fv W2->∀ (x:Value),AW c.n (XJ bj) W2 x (AX c.n Ls p (AC K (AR d)))->Calls Tryz.prog 150 #[zj (some ⟨bj,0,none⟩),x,U zd vr] W2 fun e W'=>e=zk (zg r)/\Ov W2 W'):=fun W2 h2 x hx=>by
  rw [hr,hvr,hjv]
  exact Ep c w0 bj av fl fv gs Ls Fs J x _ jv W2 h2 hx.at_ hx.len hjl
 rw [<-hr]
 have KB:=Aa (fun (W2:World) (h2:AU c.cs w0 bj av fl fv W2) (hb2:DT bj W.heap.size a [U zd 1,U zd vr,U zd ot,U zd ek,U zd en,O xa xl xc,O aa al ac,O ta tl tc,O ea el ec] [O p1 q1 r1,O p2 q2 r2] W2) (is:Bool)=>E2 c.cs w0 bj av fl fv a 1 is W.heap.size (W.heap.size+1) W2 h2 hb2.j hb2.a (hb2.x _ (Nat.le_refl _) (by omega)) (hb2.x _ (by omega) (by omega)) (by omega))
 have HS:Hx (∀ (W2:World) (fl2:List (Int × Int)) (fv2:Value),AU c.cs w0 bj av fl2 fv2 W2->DT bj W.heap.size a [U zd 1,U zd vr,U zd ot,U zd ek,U zd en,O xa xl xc,O aa al ac,O ta tl tc,O ea el ec] [O p1 q1 r1,O p2 q2 r2] W2->M9 W bj c vr ek en xa xl xc p1 q1 r1 p2 q2 r2 W2):=fun W2 fl2 fv2 h2 hb2=>⟨hb2.j,h2.cw 0 _ rfl,h2.cw 1 _ rfl,h2.cw 2 _ rfl,h2.cw 3 _ rfl,h2.cw 4 _ rfl,h2.cw 5 _ rfl,h2.cw 6 _ rfl,h2.cw 7 _ rfl,h2.cw 8 _ rfl,h2.cw 9 _ rfl,hb2.st 1 _ rfl,hb2.st 3 _ rfl,hb2.st 4 _ rfl,hb2.st 5 _ rfl,hb2.lv 0 _ rfl,hb2.lv 1 _ rfl⟩
 have HSD:=Aa (HS.o _ _ _ HJD.o HBXD.o)
 obtain ⟨t0,t1,t2,t3,t4,t5,t6,t7,t8,t9,t10,t11,t12,t13,t14,t15,t16⟩:=HS.o _ _ _ HJ1.o HBX1.o
 have g0:=hbox.st 0 _ rfl
 clear hr hgd hjv hv2 hvr hot hal htl hel hbox hb hF1 hFD h hl hrs hX hA hT hE hok J A hvs hvc hls hlc hos hoc hfl hk i0 i1 i2 hjl
 go_enter Tryz.func88,Tryz.ntmps88
 go_wp2_with fail
 refine gS (M9 W bj c vr ek en xa xl xc p1 q1 r1 p2 q2 r2) (HSD.o) fun hHeld=>?_
 refine kT 0 ?_
 refine kT 1 ?_
 refine kT 2 ?_
 refine kT 3 ?_
 refine kT 4 ?_
 refine kT 5 ?_
 refine kT 6 ?_
 refine kT 7 ?_
 refine kT 8 ?_
 refine kT 10 ?_
 refine kT 11 ?_
 refine rdA 9 rfl fun K hK=>?_
 go_simp
 refine (KW.o _ HJD.o HLD.o).mono ?_
 rintro e W3 ⟨⟨o1,o2,o3,o4,o5,o6,rfl,hL3⟩,hb3⟩
 have HL3:=Aa hL3
 have HJ3:=Aa (HJD.o.over hb3)
 have HB3:=Aa (HBXD.o.keep (FrW.of_below (Ai bj) hb3))
 have HS3:=Aa (HS.o W3 _ _ HJ3.o HB3.o)
 have HF3:=Aa (HFD.o.trans (FrW.of_below (Ai bj) hb3))
 clear hL3 hb3
 go_simp
 refine xK hK (HS3.o) fun hHeld=>?_
 refine rdA 12 rfl fun K hK=>?_
 go_simp
 refine (KR.o _ HJ3.o _ HL3.o).mono ?_
 rintro e W4 ⟨rfl,hb4⟩
 have HJ4:=Aa (HJ3.o.over hb4)
 have HB4:=Aa (HB3.o.keep (FrW.of_below (Ai bj) hb4))
 have HS4:=Aa (HS.o W4 _ _ HJ4.o HB4.o)
 have HF4:=Aa (HF3.o.trans (FrW.of_below (Ai bj) hb4))
 clear hb4
 go_simp
 refine xK hK (HS4.o) fun hHeld=>?_
 refine kT 13 ?_
 refine rdA 14 rfl fun K hK=>?_
 go_simp
 refine (KB.o _ HJ4.o HB4.o _).mono ?_
 rintro e W5 ⟨rfl,⟨fv5,hJ5⟩,hF5⟩
 have HJ5:=Aa hJ5
 have HS5:=Aa (HS.o W5 _ _ hJ5 (HB4.o.keep hF5))
 have HF5:=Aa (HF4.o.trans hF5)
 clear hJ5 hF5
 go_simp
 refine xK hK (HS5.o) fun hHeld=>?_
 refine gE ?_
 go_end0
 exact ⟨rfl,⟨fv5,HJ5.o⟩,HF5.o⟩
theorem Lz {K nv ni no:Nat} {funcs:Int} {fs:List FnD} {d:D} (h:CA K nv ni no funcs fs d) (hk:Ak d=4):0<=Ag d/\Ag d < no:=by
 unfold CA at h
 grind
theorem DM (gn:List (Nat × Nat)) (n:Nat) (b:Lab):(Az gn n b).len n:=⟨A2 _ _,A2 _ _⟩
abbrev M8 (W:World) (bj:Nat) (c:WC) (bo oo jo:Nat) (ek en:Int) (xa:Option Addr) (xl xc:Nat) (p1:Option Addr) (q1 r1:Nat) (p2:Option Addr) (q2 r2:Nat) (pa1:Option Addr) (pn1 pc1:Nat) (pa2:Option Addr) (pn2 pc2:Nat) (Wz:World):Prop:=Wz.cell? ⟨W.heap.size,0,none⟩=some (zj (some ⟨bj,0,none⟩))/\CE Wz bj 0 (U zd (c.n:Int))/\CE Wz bj 1 (O c.ga c.gn c.gc)/\CE Wz bj 2 (O c.sa c.sn c.sc)/\CE Wz bj 3 (O c.ya c.yn c.yc)/\CE Wz bj 4 (O (some ⟨bo,oo,none⟩) c.on c.oc)/\CE Wz bj 5 (O c.va c.vn c.vc)/\CE Wz bj 6 (O c.fa c.fn c.fc)/\CE Wz bj 7 (O c.ba c.bn c.bc)/\CE Wz bj 8 (O c.la c.ln c.lc)/\CE Wz bj 9 (O c.ka c.kn c.kc)/\CE Wz (W.heap.size+1+1) 2 (U zd (jo:Int))/\CE Wz (W.heap.size+1+1) 3 (U zd ek)/\CE Wz (W.heap.size+1+1) 4 (U zd en)/\CE Wz (W.heap.size+1+1) 5 (O xa xl xc)/\CE Wz (W.heap.size+1+1+1) 0 (O p1 q1 r1)/\CE Wz (W.heap.size+1+1+1) 1 (O p2 q2 r2)/\CE Wz bo (oo+jo*2) (O pa1 pn1 pc1)/\CE Wz bo (oo+jo*2+1) (O pa2 pn2 pc2)
theorem Nw (c) (w0:World) (bj:Nat) (av:Value) (gs Ls Fs) (J:JSt c w0 gs Ls Fs) (sp) (A:JAc c w0 av (AB gs) sp) (K ni no:Nat) (fs vs) (hvs:Bo w0 (O c.va c.vn c.vc) vs) (hvn:vs.length=Ls.length) (hvc:∀ v∈vs,Bq c.n gs v.2=0) (ls) (hls:A9 w0 (O c.ya c.yn c.yc) ls) (hlc:∀ b∈ls,Bq c.n gs b=0) (hni:ls.length=ni) (hni5:ni<=5) (os) (hos:A9 w0 (O c.oa c.on c.oc) os) (hoc:∀ b∈os,Bq c.n gs b=0) (hno:os.length=no) (hno5:no<=5)
  (fl:List (Int × Int)) (hfl:fl.length<=900) (fv:Value) (W:World) (a:Int) (k:Nat) (cs:List Value) (d:D) (v:Value) (p:Lev) (funcs:Int) (h:AU c.cs w0 bj av fl fv W) (hrs:RS w0 K (k+1) cs d) (hok:CA K Ls.length ni no funcs fs d) (hl:AW c.n (XJ bj) W v p) (hk:Ak d=4) :
  Calls Tryz.prog 88 #[zj (some ⟨bj,0,none⟩),U zd a,.agg cs.toArray,v] W fun e W'=>e=zk (zm #[])/\(∃ fv',AU c.cs w0 bj av (addF a 4 fl (!Ay (AX c.n Ls p (AC K (AR d))) (Az (AB gs) c.n (os.getD (Ag d).toNat ⟨[],[]⟩)) c.n)) fv' W')/\FrW (XJ bj) W W':=by
 obtain ⟨p1,q1,r1,p2,q2,r2,rfl⟩:=hl.form
 obtain ⟨ek,en,xa,xl,xc,aa,ac,ta,tc,ea,ec,rfl,i0,i1,i2,hX,hA,hT,hE,-,-,-⟩:=hrs.form
 have hkd:sC (Ak d) (AJ d) (Ag d) ek en xa xl xc aa (An d).length ac ta (Ar d).length tc ea (Av d).length ec=sC 4 (AJ d) (Ag d) ek en xa xl xc aa (An d).length ac ta (Ar d).length tc ea (Av d).length ec:=by rw [hk]
 rw [hkd]
 clear hkd
 have ho2:0<=Ag d/\Ag d < no:=Lz hok hk
 obtain ⟨hym,ya',yc',hye,hyc⟩:=hos
 injection hye with y1 y2 y3
 obtain ⟨jo,hjo⟩:∃ j:Nat,Ag d=(j:Int):=⟨(Ag d).toNat,by omega⟩
 have hjL:jo < os.length:=by omega
 obtain ⟨bo,oo,hyo,hyel⟩:=hyc (by intro h;rw [h] at hjL;simp at hjL)
 obtain ⟨pr,pw,l0,l1,hpr,hpw⟩:=hyel jo hjL
 obtain ⟨pa1,pn1,pc1,rfl⟩:=AM hpr
 obtain ⟨pa2,pn2,pc2,rfl⟩:=AM hpw
 have hya:c.oa=some ⟨bo,oo,none⟩:=y1.trans hyo
 have hyn:c.on=os.length:=y2
 have hgd:os.getD (Ag d).toNat ⟨[],[]⟩=os[jo]:=by rw [hjo];simp [List.getD_eq_getElem?_getD,hjL]
 rw [hgd]
 have hlk:=hoc os[jo] (List.getElem_mem hjL)
 generalize os[jo]=lb at hlk hpr hpw ⊢
 obtain ⟨vr,hvr⟩:=nm (AJ d)
 obtain ⟨ot,hot⟩:=nm (Ag d)
 obtain ⟨al,hal⟩:=nm ((An d).length)
 obtain ⟨tl,htl⟩:=nm ((Ar d).length)
 obtain ⟨el,hel⟩:=nm ((Av d).length)
 rw [<-hvr,<-hot,<-hal,<-htl,<-hel]
 obtain ⟨hbox,hb⟩:=CZ bj a [U zd 4,U zd vr,U zd ot,U zd ek,U zd en,O xa xl xc,O aa al ac,O ta tl tc,O ea el ec] [O p1 q1 r1,O p2 q2 r2] W (fun k hk=>(h.xlt k hk).2)
 have hF1:=FrW.of_below (Ai bj) hb
 have hFD:=hF1.trans (FrW.of_below (Ai bj) (bD _))
 have HF1:=Aa hF1
 have HJ1:=Aa (h.over hb)
 have HBX1:=Aa hbox
 have HL1:=Aa (hl.keep J.n1 hF1)
 have HJD:=Aa (HJ1.o.over (bD _))
 have HBXD:=Aa (hbox.keep (FrW.of_below (Ai bj) (bD _)))
 have HLD:=Aa (hl.keep J.n1 hFD)
 have HFD:=Aa hFD
 have hot2:ot=(jo:Int):=by rw [hot,hjo]
 have hcv:c.v=(zh #[U zd (c.n:Int),O c.ga c.gn c.gc,O c.sa c.sn c.sc,O c.ya c.yn c.yc,O (some ⟨bo,oo,none⟩) c.on c.oc,O c.va c.vn c.vc,O c.fa c.fn c.fc,O c.ba c.bn c.bc,O c.la c.ln c.lc,O c.ka c.kn c.kc]):=by show Value.agg #[U zd (c.n:Int),O c.ga c.gn c.gc,O c.sa c.sn c.sc,O c.ya c.yn c.yc,O c.oa c.on c.oc,O c.va c.vn c.vc,O c.fa c.fn c.fc,O c.ba c.bn c.bc,O c.la c.ln c.lc,O c.ka c.kn c.kc]=_;rw [hya]
 have KW:Hx (∀ (W2:World),AU c.cs w0 bj av fl fv W2->AW c.n (XJ bj) W2 (zh #[O p1 q1 r1,O p2 q2 r2]) p->Calls Tryz.prog 103 #[(zh #[U zd (c.n:Int),O c.ga c.gn c.gc,O c.sa c.sn c.sc,O c.ya c.yn c.yc,O (some ⟨bo,oo,none⟩) c.on c.oc,O c.va c.vn c.vc,O c.fa c.fn c.fc,O c.ba c.bn c.bc,O c.la c.ln c.lc,O c.ka c.kn c.kc]),(zh #[O p1 q1 r1,O p2 q2 r2]),zh #[U zd ek,U zd en,O xa xl xc]] W2 fun e w'=>(∃ p1 q1 r1 p2 q2 r2,e=zk (zh #[O p1 q1 r1,O p2 q2 r2])/\AW c.n (XJ bj) w' (zh #[O p1 q1 r1,O p2 q2 r2]) (AX c.n Ls p (AC K (AR d))))/\Ov W2 w'):=fun W2 h2 hl2=>by
  have:=Hj J h2 _ p K [U zd ek,U zd en,O xa xl xc] (AR d) hl2 hX (BB hok)
  rw [hcv] at this
  exact this
 have KL:Hx (∀ (W2:World),AU c.cs w0 bj av fl fv W2->Calls Tryz.prog 114 #[(zh #[U zd (c.n:Int),O c.ga c.gn c.gc,O c.sa c.sn c.sc,O c.ya c.yn c.yc,O (some ⟨bo,oo,none⟩) c.on c.oc,O c.va c.vn c.vc,O c.fa c.fn c.fc,O c.ba c.bn c.bc,O c.la c.ln c.lc,O c.ka c.kn c.kc]),zh #[O pa1 pn1 pc1,O pa2 pn2 pc2]] W2 fun e w'=>∃ vj,e=zk vj/\Bh W2 w' vj (Az (AB gs) c.n lb)/\Ov W2 w'):=fun W2 h2=>by
  have:=LC c gs (O pa1 pn1 pc1) (O pa2 pn2 pc2) lb W2 (Af J.gr h2.below) (Ah hpr h2.below) (Ah hpw h2.below) hlk
  rw [hcv] at this
  exact this
 obtain ⟨r,hr⟩:=nm (Ay (AX c.n Ls p (AC K (AR d))) (Az (AB gs) c.n lb) c.n)
 have KF:Hx (∀ (W2:World) (x:Value),AU c.cs w0 bj av fl fv W2->∀ (y:Value),AW c.n (XJ bj) W2 x (AX c.n Ls p (AC K (AR d)))->A7 W2 y (Az (AB gs) c.n lb)->Calls Tryz.prog 57 #[(zh #[U zd (c.n:Int),O c.ga c.gn c.gc,O c.sa c.sn c.sc,O c.ya c.yn c.yc,O (some ⟨bo,oo,none⟩) c.on c.oc,O c.va c.vn c.vc,O c.fa c.fn c.fc,O c.ba c.bn c.bc,O c.la c.ln c.lc,O c.ka c.kn c.kc]),x,y] W2 fun e W'=>e=zk (zg r)/\Ov W2 W'):=fun W2 x h2 y hx hy=>by
  have:=FR c gs x y _ _ W2 (Af J.gr h2.below) J.chk hx.at_ hx.len hy (DM _ _ _)
  rw [hcv,<-hr] at this
  exact this
 rw [<-hr]
 have KB:=Aa (fun (W2:World) (h2:AU c.cs w0 bj av fl fv W2) (hb2:DT bj W.heap.size a [U zd 4,U zd vr,U zd ot,U zd ek,U zd en,O xa xl xc,O aa al ac,O ta tl tc,O ea el ec] [O p1 q1 r1,O p2 q2 r2] W2) (is:Bool)=>E2 c.cs w0 bj av fl fv a 4 is W.heap.size (W.heap.size+1) W2 h2 hb2.j hb2.a (hb2.x _ (Nat.le_refl _) (by omega)) (hb2.x _ (by omega) (by omega)) (by omega))
 have HS:Hx (∀ (W2:World) (fl2:List (Int × Int)) (fv2:Value),AU c.cs w0 bj av fl2 fv2 W2->DT bj W.heap.size a [U zd 4,U zd vr,U zd ot,U zd ek,U zd en,O xa xl xc,O aa al ac,O ta tl tc,O ea el ec] [O p1 q1 r1,O p2 q2 r2] W2->M8 W bj c bo oo jo ek en xa xl xc p1 q1 r1 p2 q2 r2 pa1 pn1 pc1 pa2 pn2 pc2 W2):=fun W2 fl2 fv2 h2 hb2=>⟨hb2.j,h2.cw 0 _ rfl,h2.cw 1 _ rfl,h2.cw 2 _ rfl,h2.cw 3 _ rfl,by rw [<-hya];exact h2.cw 4 _ rfl,h2.cw 5 _ rfl,h2.cw 6 _ rfl,h2.cw 7 _ rfl,h2.cw 8 _ rfl,h2.cw 9 _ rfl,by rw [<-hot2];exact hb2.st 2 _ rfl,hb2.st 3 _ rfl,hb2.st 4 _ rfl,hb2.st 5 _ rfl,hb2.lv 0 _ rfl,hb2.lv 1 _ rfl,Ab h2.below _ _ l0,Ab h2.below _ _ l1⟩
 have HSD:=Aa (HS.o _ _ _ HJD.o HBXD.o)
 obtain ⟨t0,t1,t2,t3,t4,t5,t6,t7,t8,t9,t10,t11,t12,t13,t14,t15,t16,t17,t18⟩:=HS.o _ _ _ HJ1.o HBX1.o
 have g0:=hbox.st 0 _ rfl
 have gj1:(jo:Int) < (c.on:Int):=by omega
 have gj2:c.on<=5:=by omega
 clear hr hgd hot2 hjo ho2 hlk hcv hya hyn hyc hyel hyo hym y1 y2 y3 l0 l1 hpr hpw hvr hot hal htl hel hbox hb hF1 hFD h hl hrs hX hA hT hE hok J A hvs hvc hls hlc hoc hfl hk i0 i1 i2 hjL hno hni
 go_enter Tryz.func88,Tryz.ntmps88
 go_wp2_with fail
 refine gS (M8 W bj c bo oo jo ek en xa xl xc p1 q1 r1 p2 q2 r2 pa1 pn1 pc1 pa2 pn2 pc2) (HSD.o) fun hHeld=>?_
 refine kT 0 ?_
 refine kT 1 ?_
 refine kT 2 ?_
 refine kT 3 ?_
 refine kT 4 ?_
 refine kT 5 ?_
 refine kT 6 ?_
 refine kT 7 ?_
 refine kT 8 ?_
 refine kT 9 ?_
 refine kT 10 ?_
 refine kT 11 ?_
 refine kT 13 ?_
 refine kT 14 ?_
 refine kT 15 ?_
 refine kT 16 ?_
 refine kT 17 ?_
 refine kT 18 ?_
 refine kT 19 ?_
 refine kT 20 ?_
 refine kT 21 ?_
 refine kT 22 ?_
 refine kT 23 ?_
 refine kT 24 ?_
 refine kT 25 ?_
 refine kT 26 ?_
 refine rdA 12 rfl fun K hK=>?_
 go_simp
 refine (KW.o _ HJD.o HLD.o).mono ?_
 rintro e W3 ⟨⟨o1,o2,o3,o4,o5,o6,rfl,hL3⟩,hb3⟩
 have HL3:=Aa hL3
 have HJ3:=Aa (HJD.o.over hb3)
 have HB3:=Aa (HBXD.o.keep (FrW.of_below (Ai bj) hb3))
 have HS3:=Aa (HS.o W3 _ _ HJ3.o HB3.o)
 have HF3:=Aa (HFD.o.trans (FrW.of_below (Ai bj) hb3))
 clear hL3 hb3
 go_simp
 refine xK hK (HS3.o) fun hHeld=>?_
 refine rdA 27 rfl fun K hK=>?_
 go_simp
 refine (KL.o _ HJ3.o).mono ?_
 rintro e W4 ⟨vj,rfl,hL4,hb4⟩
 have HV4:=Aa hL4
 have HJ4:=Aa (HJ3.o.over hb4)
 have HB4:=Aa (HB3.o.keep (FrW.of_below (Ai bj) hb4))
 have HS4:=Aa (HS.o W4 _ _ HJ4.o HB4.o)
 have HF4:=Aa (HF3.o.trans (FrW.of_below (Ai bj) hb4))
 have HL4:=Aa (HL3.o.over (Ai bj) hb4)
 clear hL4 hb4
 go_simp
 refine xK hK (HS4.o) fun hHeld=>?_
 refine rdA 28 rfl fun K hK=>?_
 go_simp
 refine (KF.o _ _ HJ4.o _ HL4.o (Ao HV4.o)).mono ?_
 rintro e W5 ⟨rfl,hb5⟩
 have HJ5:=Aa (HJ4.o.over hb5)
 have HB5:=Aa (HB4.o.keep (FrW.of_below (Ai bj) hb5))
 have HS5:=Aa (HS.o W5 _ _ HJ5.o HB5.o)
 have HF5:=Aa (HF4.o.trans (FrW.of_below (Ai bj) hb5))
 clear hb5
 go_simp
 refine xK hK (HS5.o) fun hHeld=>?_
 refine kT 29 ?_
 refine rdA 30 rfl fun K hK=>?_
 go_simp
 refine (KB.o _ HJ5.o HB5.o _).mono ?_
 rintro e W6 ⟨rfl,⟨fv6,hJ6⟩,hF6⟩
 have HJ6:=Aa hJ6
 have HS6:=Aa (HS.o W6 _ _ hJ6 (HB5.o.keep hF6))
 have HF6:=Aa (HF5.o.trans hF6)
 clear hJ6 hF6
 go_simp
 refine xK hK (HS6.o) fun hHeld=>?_
 refine gE ?_
 go_end0
 exact ⟨rfl,⟨fv6,HJ6.o⟩,HF6.o⟩
theorem NA (c) (w0:World) (bj:Nat) (av:Value) (gs Ls Fs) (J:JSt c w0 gs Ls Fs) (sp) (A:JAc c w0 av (AB gs) sp) (K ni no:Nat) (fs vs) (hvs:Bo w0 (O c.va c.vn c.vc) vs) (hvn:vs.length=Ls.length) (hvc:∀ v∈vs,Bq c.n gs v.2=0) (ls) (hls:A9 w0 (O c.ya c.yn c.yc) ls) (hlc:∀ b∈ls,Bq c.n gs b=0) (hni:ls.length=ni) (hni5:ni<=5) (os) (hos:A9 w0 (O c.oa c.on c.oc) os) (hoc:∀ b∈os,Bq c.n gs b=0) (hno:os.length=no) (hno5:no<=5)
  (fl:List (Int × Int)) (hfl:fl.length<=900) (fv:Value) (W:World) (a:Int) (k:Nat) (cs:List Value) (d:D) (v:Value) (p:Lev) (funcs:Int) (h:AU c.cs w0 bj av fl fv W) (hrs:RS w0 K (k+1) cs d) (hok:CA K Ls.length ni no funcs fs d) (hl:AW c.n (XJ bj) W v p) (hk:Ak d=7\/Ak d=8) :
  Calls Tryz.prog 88 #[zj (some ⟨bj,0,none⟩),U zd a,.agg cs.toArray,v] W fun e W'=>e=zk (zm #[])/\(∃ fv',AU c.cs w0 bj av (fl) fv' W')/\FrW (XJ bj) W W':=by
 obtain ⟨p1,q1,r1,p2,q2,r2,rfl⟩:=hl.form
 obtain ⟨ek,en,xa,xl,xc,aa,ac,ta,tc,ea,ec,rfl,i0,i1,i2,hX,hA,hT,hE,-,-,-⟩:=hrs.form
 obtain ⟨kd,hkd⟩:=nm (Ak d)
 obtain ⟨vr,hvr⟩:=nm (AJ d)
 obtain ⟨ot,hot⟩:=nm (Ag d)
 obtain ⟨al,hal⟩:=nm ((An d).length)
 obtain ⟨tl,htl⟩:=nm ((Ar d).length)
 obtain ⟨el,hel⟩:=nm ((Av d).length)
 rw [<-hkd,<-hvr,<-hot,<-hal,<-htl,<-hel]
 rw [<-hkd] at hk
 obtain ⟨hbox,hb⟩:=CZ bj a [U zd kd,U zd vr,U zd ot,U zd ek,U zd en,O xa xl xc,O aa al ac,O ta tl tc,O ea el ec] [O p1 q1 r1,O p2 q2 r2] W (fun k hk=>(h.xlt k hk).2)
 have HF1:=Aa (FrW.of_below (Ai bj) hb)
 have HJ1:=Aa (h.over hb)
 have g0:=hbox.st 0 _ rfl
 clear hkd hvr hot hal htl hel hbox hb h hl hrs hX hA hT hE hok J A hvs hvc hls hlc hos hoc hfl i0 i1 i2
 rcases hk with rfl | rfl
 ·go_enter Tryz.func88,Tryz.ntmps88
  go_wp2_with fail
  go_end0
  exact ⟨rfl,⟨fv,HJ1.o⟩,HF1.o⟩
 ·go_enter Tryz.func88,Tryz.ntmps88
  go_wp2_with fail
  go_end0
  exact ⟨rfl,⟨fv,HJ1.o⟩,HF1.o⟩
def Dv (n K:Nat) (Ls:List Lev) (f:FnD) (d:D) (p:Lev):Bool:=
 ((f.ps.zip (An d)).all fun q=>Ay (AX n Ls p (AC K q.2)) (Ls.getD q.1.toNat AE) n) && Ay (AX n Ls p (AC K f.res)) (Ls.getD (AJ d).toNat AE) n
abbrev KU (bj:Nat) (c:WC) (b8 z8:Nat) (W:World) (vr:Int) (j:Nat) (ek en:Int) (xa:Option Addr) (xl xc:Nat) (aa:Option Addr) (al ac:Nat) (ta:Option Addr) (tl tc:Nat) (ea:Option Addr) (el ec:Nat) (p1:Option Addr) (q1 r1:Nat) (p2:Option Addr) (q2 r2:Nat) (pa:Option Addr) (pn pc:Nat) (za:Option Addr) (zn zc:Nat) (rk rn:Int) (ra:Option Addr) (rl rc:Nat) (Wz:World):Prop:=Wz.cell? ⟨bj,0,none⟩=some (U zd (c.n:Int))/\CE Wz bj 1 (O c.ga c.gn c.gc)/\CE Wz bj 2 (O c.sa c.sn c.sc)/\CE Wz bj 3 (O c.ya c.yn c.yc)/\CE Wz bj 4 (O c.oa c.on c.oc)/\CE Wz bj 5 (O c.va c.vn c.vc)/\CE Wz bj 6 (O (some ⟨b8,z8,none⟩) c.fn c.fc)/\CE Wz bj 7 (O c.ba c.bn c.bc)/\CE Wz bj 8 (O c.la c.ln c.lc)/\CE Wz bj 9 (O c.ka c.kn c.kc)/\CE Wz W.heap.size 0 (U zd 2)/\CE Wz W.heap.size 1 (U zd vr)/\CE Wz W.heap.size 2 (U zd (j:Int))/\CE Wz W.heap.size 3 (U zd ek)/\CE Wz W.heap.size 4 (U zd en)/\CE Wz W.heap.size 5 (O xa xl xc)/\CE Wz W.heap.size 6 (O aa al ac)/\CE Wz W.heap.size 7 (O ta tl tc)/\CE Wz W.heap.size 8 (O ea el ec)/\CE Wz (W.heap.size+1) 0 (O p1 q1 r1)/\CE Wz (W.heap.size+1) 1 (O p2 q2 r2)/\CE Wz b8 (z8+j*5) (O pa pn pc)/\CE Wz b8 (z8+j*5+1) (O za zn zc)/\CE Wz b8 (z8+j*5+2) (U zd rk)/\CE Wz b8 (z8+j*5+3) (U zd rn)/\CE Wz b8 (z8+j*5+4) (O ra rl rc)
abbrev KH (bj:Nat) (c:WC) (W:World) (p1:Option Addr) (q1 r1:Nat) (p2:Option Addr) (q2 r2 b6 z6 al ac m:Nat) (k1 k2:Int) (k3:Option Addr) (k4 k5:Nat) (Wz:World):Prop:=Wz.cell? ⟨bj,0,none⟩=some (U zd (c.n:Int))/\CE Wz bj 1 (O c.ga c.gn c.gc)/\CE Wz bj 2 (O c.sa c.sn c.sc)/\CE Wz bj 3 (O c.ya c.yn c.yc)/\CE Wz bj 4 (O c.oa c.on c.oc)/\CE Wz bj 5 (O c.va c.vn c.vc)/\CE Wz bj 6 (O c.fa c.fn c.fc)/\CE Wz bj 7 (O c.ba c.bn c.bc)/\CE Wz bj 8 (O c.la c.ln c.lc)/\CE Wz bj 9 (O c.ka c.kn c.kc)/\CE Wz (W.heap.size+1) 0 (O p1 q1 r1)/\CE Wz (W.heap.size+1) 1 (O p2 q2 r2)/\CE Wz W.heap.size 6 (O (some ⟨b6,z6,none⟩) al ac)/\CE Wz b6 (z6+m*3) (U zd k1)/\CE Wz b6 (z6+m*3+1) (U zd k2)/\CE Wz b6 (z6+m*3+2) (O k3 k4 k5)
abbrev M7 (bj:Nat) (c:WC) (W:World) (p1:Option Addr) (q1 r1:Nat) (p2:Option Addr) (q2 r2 jv:Nat) (rk rn:Int) (ra:Option Addr) (rl rc:Nat) (Wz:World):Prop:=Wz.cell? ⟨bj,0,none⟩=some (U zd (c.n:Int))/\CE Wz bj 1 (O c.ga c.gn c.gc)/\CE Wz bj 2 (O c.sa c.sn c.sc)/\CE Wz bj 3 (O c.ya c.yn c.yc)/\CE Wz bj 4 (O c.oa c.on c.oc)/\CE Wz bj 5 (O c.va c.vn c.vc)/\CE Wz bj 6 (O c.fa c.fn c.fc)/\CE Wz bj 7 (O c.ba c.bn c.bc)/\CE Wz bj 8 (O c.la c.ln c.lc)/\CE Wz bj 9 (O c.ka c.kn c.kc)/\CE Wz (W.heap.size+1) 0 (O p1 q1 r1)/\CE Wz (W.heap.size+1) 1 (O p2 q2 r2)/\CE Wz W.heap.size 1 (U zd (jv:Int))/\CE Wz (W.heap.size+1+1) 2 (U zd rk)/\CE Wz (W.heap.size+1+1) 3 (U zd rn)/\CE Wz (W.heap.size+1+1) 4 (O ra rl rc)
theorem Jl (c) (w0:World) (bj:Nat) (av:Value) (gs Ls Fs) (J:JSt c w0 gs Ls Fs) (K ni no kf:Nat) (fs) (hfs:BA w0 K kf (O c.fa c.fn c.fc) fs) (hf5:fs.length<=5) (hof:∀ i (h:i < fs.length),okF K Ls.length ni no (i:Int) fs kf fs[i])
  (fl:List (Int × Int)) (fv:Value) (W:World) (k:Nat) (cs:List Value) (d:D) (v:Value) (p:Lev) (funcs:Int) (h:AU c.cs w0 bj av fl fv W) (hrs:RS w0 K (k+1) cs d) (hfn:funcs<=fs.length) (hok:CA K Ls.length ni no funcs fs d) (hl:AW c.n (XJ bj) W v p) (hk:Ak d=2) :
  Calls Tryz.prog 151 #[zj (some ⟨bj,0,none⟩),.agg cs.toArray,v] W fun e W'=>e=zk (zg (Dv c.n K Ls (EB fs (Ag d)) d p))/\Ov W W':=by
 obtain ⟨p1,q1,r1,p2,q2,r2,rfl⟩:=hl.form
 obtain ⟨ek,en,xa,xl,xc,aa,ac,ta,tc,ea,ec,rfl,i0,i1,i2,hX,hA,hT,hE,-,-,-⟩:=hrs.form
 have hkd:sC (Ak d) (AJ d) (Ag d) ek en xa xl xc aa (An d).length ac ta (Ar d).length tc ea (Av d).length ec=sC 2 (AJ d) (Ag d) ek en xa xl xc aa (An d).length ac ta (Ar d).length tc ea (Av d).length ec:=by rw [hk]
 rw [hkd]
 clear hkd
 obtain ⟨⟨hj0,hj1⟩,hps,hck⟩:=hok.2.2.1 hk
 obtain ⟨j,hj⟩:∃ j:Nat,Ag d=(j:Int):=⟨(Ag d).toNat,by omega⟩
 have hj2:j < fs.length:=by omega
 have hjt:(Ag d).toNat=j:=by omega
 have hpsl:fs[j].ps.length=(An d).length:=hps fs[j] (by rw [hjt];exact List.getElem?_eq_getElem hj2)
 have hfat:EB fs (Ag d)=fs[j]:=by unfold EB;rw [hjt];simp [List.getD_eq_getElem?_getD,hj2]
 rw [hfat,hj]
 obtain ⟨hfm,fa',fc',hfe,hfc⟩:=hfs
 injection hfe with y1 y2 y3
 obtain ⟨b8,z8,hfo,hfel⟩:=hfc (by intro h;rw [h] at hj2;simp at hj2)
 obtain ⟨vP,vB,e0,e1,e2,g80,g81,g82,g83,g84,hints,-,hbody,hres⟩:=hfel j hj2
 have hfa:c.fa=some ⟨b8,z8,none⟩:=y1.trans hfo
 obtain ⟨pa,pc,rfl,hpel⟩:=hints
 obtain ⟨-,za,zc,rfl,-⟩:=hbody
 obtain ⟨ra,rc,hxf⟩:=hres.form
 simp only [List.cons.injEq,and_true] at hxf
 obtain ⟨rfl,rfl,rfl⟩:=hxf
 have hfo5:=hof j hj2
 obtain ⟨f,hf⟩:=nm (fs[j])
 rw [<-hf] at hpsl g80 g81 g82 g83 g84 hpel hres hfo5 ⊢
 obtain ⟨vr,hvr⟩:=nm (AJ d)
 obtain ⟨al,hal⟩:=nm ((An d).length)
 obtain ⟨tl,htl⟩:=nm ((Ar d).length)
 obtain ⟨el,hel⟩:=nm ((Av d).length)
 obtain ⟨pn,hpn⟩:=nm f.ps.length
 obtain ⟨zn,hzn⟩:=nm f.body.length
 obtain ⟨rk,hrk⟩:=nm (AH f.res)
 obtain ⟨rn,hrn⟩:=nm (Ba f.res)
 obtain ⟨rl,hrl⟩:=nm ((AF f.res).length)
 rw [<-hpn] at g80
 rw [<-hzn] at g81
 rw [<-hrk] at g82 hres
 rw [<-hrn] at g83 hres
 rw [<-hrl] at g84 hres
 rw [<-hvr,<-hal,<-htl,<-hel]
 have hb1:Ov W ((W.alloc (ze #[U zd 2,U zd vr,U zd (j:Int),U zd ek,U zd en,O xa xl xc,O aa al ac,O ta tl tc,O ea el ec] 130)).alloc (ze #[O p1 q1 r1,O p2 q2 r2] 50)):=(bA W _).alloc (by simp) _
 have HJ1:=Aa (h.over hb1)
 have HL1:=Aa (hl.over (Ai bj) hb1)
 have HB1:=Aa hb1
 have rowS:Ae [U zd 2,U zd vr,U zd (j:Int),U zd ek,U zd en,O xa xl xc,O aa al ac,O ta tl tc,O ea el ec] ((W.alloc (ze #[U zd 2,U zd vr,U zd (j:Int),U zd ek,U zd en,O xa xl xc,O aa al ac,O ta tl tc,O ea el ec] 130)).alloc (ze #[O p1 q1 r1,O p2 q2 r2] 50)) W.heap.size:=(Ae.new _ _ _).over (bA _ _)
 have rowP:Ae [O p1 q1 r1,O p2 q2 r2] ((W.alloc (ze #[U zd 2,U zd vr,U zd (j:Int),U zd ek,U zd en,O xa xl xc,O aa al ac,O ta tl tc,O ea el ec] 130)).alloc (ze #[O p1 q1 r1,O p2 q2 r2] 50)) (W.heap.size+1):=by
  have r:=Ae.new [O p1 q1 r1,O p2 q2 r2] 50 (W.alloc (ze #[U zd 2,U zd vr,U zd (j:Int),U zd ek,U zd en,O xa xl xc,O aa al ac,O ta tl tc,O ea el ec] 130))
  simpa using r
 have hS1:KU bj c b8 z8 W vr j ek en xa xl xc aa al ac ta tl tc ea el ec p1 q1 r1 p2 q2 r2 pa pn pc za zn zc rk rn ra rl rc ((W.alloc (ze #[U zd 2,U zd vr,U zd (j:Int),U zd ek,U zd en,O xa xl xc,O aa al ac,O ta tl tc,O ea el ec] 130)).alloc (ze #[O p1 q1 r1,O p2 q2 r2] 50)):=⟨HJ1.o.cw 0 _ rfl,HJ1.o.cw 1 _ rfl,HJ1.o.cw 2 _ rfl,HJ1.o.cw 3 _ rfl,HJ1.o.cw 4 _ rfl,HJ1.o.cw 5 _ rfl,by rw [<-hfa];exact HJ1.o.cw 6 _ rfl,HJ1.o.cw 7 _ rfl,HJ1.o.cw 8 _ rfl,HJ1.o.cw 9 _ rfl,rowS 0 _ rfl,rowS 1 _ rfl,rowS 2 _ rfl,rowS 3 _ rfl,rowS 4 _ rfl,rowS 5 _ rfl,rowS 6 _ rfl,rowS 7 _ rfl,rowS 8 _ rfl,rowP 0 _ rfl,rowP 1 _ rfl,Ab HJ1.o.below _ _ g80,Ab HJ1.o.below _ _ g81,Ab HJ1.o.below _ _ g82,Ab HJ1.o.below _ _ g83,Ab HJ1.o.below _ _ g84⟩
 have HS:Hx (∀ W2,Ov ((W.alloc (ze #[U zd 2,U zd vr,U zd (j:Int),U zd ek,U zd en,O xa xl xc,O aa al ac,O ta tl tc,O ea el ec] 130)).alloc (ze #[O p1 q1 r1,O p2 q2 r2] 50)) W2->KU bj c b8 z8 W vr j ek en xa xl xc aa al ac ta tl tc ea el ec p1 q1 r1 p2 q2 r2 pa pn pc za zn zc rk rn ra rl rc W2):=fun W2 hb2=>by
  obtain ⟨s0,s1,s2,s3,s4,s5,s6,s7,s8,s9,s10,s11,s12,s13,s14,s15,s16,s17,s18,s19,s20,s21,s22,s23,s24,s25⟩:=hS1
  exact ⟨Ab hb2 _ _ s0,Ab hb2 _ _ s1,Ab hb2 _ _ s2,Ab hb2 _ _ s3,Ab hb2 _ _ s4,Ab hb2 _ _ s5,Ab hb2 _ _ s6,Ab hb2 _ _ s7,Ab hb2 _ _ s8,Ab hb2 _ _ s9,Ab hb2 _ _ s10,Ab hb2 _ _ s11,Ab hb2 _ _ s12,Ab hb2 _ _ s13,Ab hb2 _ _ s14,Ab hb2 _ _ s15,Ab hb2 _ _ s16,Ab hb2 _ _ s17,Ab hb2 _ _ s18,Ab hb2 _ _ s19,Ab hb2 _ _ s20,Ab hb2 _ _ s21,Ab hb2 _ _ s22,Ab hb2 _ _ s23,Ab hb2 _ _ s24,Ab hb2 _ _ s25⟩
 have HSD:=Aa (HS.o _ (bD _))
 have hjf:(j:Int) < (c.fn:Int):=by omega
 have hfn5:c.fn<=5:=by omega
 have hpn4:pn<=4:=by rw [hpn];exact hfo5.1
 have HX:=Aa hX
 have HV2:=Aa (hok.2.1 (by omega))
 have HA:=Aa hA
 have HPEL:=Aa hpel
 have HRES:=Aa hres
 have HCK:=Aa hck
 have HPR:=Aa hfo5.2.1
 have HRC:=Aa hfo5.2.2.2
 have HPSL:=Aa hpsl
 have HPN:=Aa hpn
 have HOK:=Aa hok
 have HVR:=Aa hvr
 have HAL:=Aa hal
 have HFA:=Aa hfa
 have HJJ:=Aa J
 obtain ⟨t0,t1,t2,t3,t4,t5,t6,t7,t8,t9,t10,t11,t12,t13,t14,t15,t16,t17,t18,t19,t20,t21,t22,t23,t24,t25⟩:=hS1
 clear hX hA hpel hres hck hfo5 hpsl hpn hok hvr hal hfa J hrs hT hE h hl rowS rowP hb1 hj0 hj1 hps hj hjt hfat hfm hfc y1 y2 y3 hfo hfel g80 g81 g82 g83 g84 htl hel hzn hrk hrn hrl hk i0 i1 i2 hof hfn
 go_enter Tryz.func151,Tryz.ntmps151
 go_wp2_with fail
 refine gS (KU bj c b8 z8 W vr j ek en xa xl xc aa al ac ta tl tc ea el ec p1 q1 r1 p2 q2 r2 pa pn pc za zn zc rk rn ra rl rc) (HSD.o) fun hHeld=>?_
 refine kT 0 ?_
 refine kT 1 ?_
 refine kT 2 ?_
 refine kT 3 ?_
 refine kT 4 ?_
 refine kT 5 ?_
 refine kT 6 ?_
 refine kT 7 ?_
 refine kT 8 ?_
 refine kT 9 ?_
 refine rdA 10 rfl fun K hK=>?_
 go_simp
 refine xK hK (HS.o _ ((bA _ _).drew)) fun hHeld=>?_
 clear hK K
 refine rdA 11 rfl fun K hK=>?_
 go_simp
 refine xK hK (HS.o _ ((bA _ _).drew)) fun hHeld=>?_
 clear hK K
 refine gE ?_
 have hb5:Ov ((W.alloc (ze #[U zd 2,U zd vr,U zd (j:Int),U zd ek,U zd en,O xa xl xc,O aa al ac,O ta tl tc,O ea el ec] 130)).alloc (ze #[O p1 q1 r1,O p2 q2 r2] 50)) (((W.alloc (ze #[U zd 2,U zd vr,U zd (j:Int),U zd ek,U zd en,O xa xl xc,O aa al ac,O ta tl tc,O ea el ec] 130)).alloc (ze #[O p1 q1 r1,O p2 q2 r2] 50)).alloc (ze #[O pa pn pc,O za zn zc,U zd rk,U zd rn,O ra rl rc] 105)).drew:=(bA _ _).drew
 have rowF:Ae [O pa pn pc,O za zn zc,U zd rk,U zd rn,O ra rl rc] (((W.alloc (ze #[U zd 2,U zd vr,U zd (j:Int),U zd ek,U zd en,O xa xl xc,O aa al ac,O ta tl tc,O ea el ec] 130)).alloc (ze #[O p1 q1 r1,O p2 q2 r2] 50)).alloc (ze #[O pa pn pc,O za zn zc,U zd rk,U zd rn,O ra rl rc] 105)).drew (W.heap.size+1+1):=by
  have r:=(Ae.new [O pa pn pc,O za zn zc,U zd rk,U zd rn,O ra rl rc] 105 ((W.alloc (ze #[U zd 2,U zd vr,U zd (j:Int),U zd ek,U zd en,O xa xl xc,O aa al ac,O ta tl tc,O ea el ec] 130)).alloc (ze #[O p1 q1 r1,O p2 q2 r2] 50))).over (bD _)
  simpa using r
 have HJ5:=Aa (HJ1.o.over hb5)
 have HL5:=Aa (HL1.o.over (Ai bj) hb5)
 have HBW5:=Aa (Ac HB1.o hb5)
 have HRF:=Aa rowF
 have HS5:=Aa (HS.o _ hb5)
 have f0:=rowF 0 _ rfl
 have KW:=Aa (fun (W2:World) (h2:AU c.cs w0 bj av fl fv W2) (hl2:AW c.n (XJ bj) W2 (zh #[O p1 q1 r1,O p2 q2 r2]) p) (cs3:List Value) (d3:D) (hx3:RX w0 K cs3 d3) (hv3:∀ x∈AC K d3,0<=x/\x < (Ls.length:Int))=>Hj HJJ.o h2 _ p K cs3 d3 hl2 hx3 hv3)
 obtain ⟨V5,hV5⟩:=nm ((((W.alloc (ze #[U zd 2,U zd vr,U zd (j:Int),U zd ek,U zd en,O xa xl xc,O aa al ac,O ta tl tc,O ea el ec] 130)).alloc (ze #[O p1 q1 r1,O p2 q2 r2] 50)).alloc (ze #[O pa pn pc,O za zn zc,U zd rk,U zd rn,O ra rl rc] 105)).drew)
 rw [<-hV5] at HJ5 HL5 HBW5 HRF HS5
 clear hb5 rowF HS HSD HJ1 HL1 HB1
 go_wp2_with fail
 go_loopw [23] (fun x wr=>∃ m:Nat,m<=pn/\x=U zd m/\(∀ i (h1:i < f.ps.length) (h2:i < (An d).length),i < m->Ay (AX c.n Ls p (AC K (An d)[i])) (Ls.getD f.ps[i].toNat AE) c.n=true)/\Ov V5 wr) (fun x _=>pn - (intOf x).toNat)
 case atStart=>exact ⟨0,Nat.zero_le _,rfl,fun i h1 h2 h3=>absurd h3 (by omega),by rw [<-hV5];exact Below.refl _ _⟩
 case round=>
  clear t0 t1 t2 t3 t4 t5 t6 t7 t8 t9 t10 t11 t12 t13 t14 t15 t16 t17 t18 t19 t20 t21 t22 t23 t24 t25 f0 hV5
  obtain ⟨m,hm,rfl,hall,hBr⟩:=hrel
  have HJr:=Aa (HJ5.o.over hBr)
  have HLr:=Aa (HL5.o.over (Ai bj) hBr)
  have HBW:=Aa (Ac HBW5.o hBr)
  have HALL:=Aa hall
  obtain ⟨s0,s1,s2,s3,s4,s5,s6,s7,s8,s9,s10,s11,s12,s13,s14,s15,s16,s17,s18,s19,s20,s21,s22,s23,s24,s25⟩:=HS5.o
  by_cases hlt:m < pn
  ·have hm1:m < f.ps.length:=by rw [<-HPN.o];exact hlt
   have hm2:m < (An d).length:=by rw [<-HPSL.o];exact hm1
   obtain ⟨bp,zp,hpo,hpe⟩:=HPEL.o (by intro h;rw [h] at hm1;simp at hm1)
   subst hpo
   have q0:=Ab HJr.o.below _ _ (hpe m hm1)
   have hvm2:=HPR.o f.ps[m] (List.getElem_mem hm1)
   obtain ⟨vm,hvm⟩:∃ q:Nat,f.ps[m]=(q:Int):=⟨f.ps[m].toNat,by omega⟩
   have hvl:vm < Ls.length:=by omega
   obtain ⟨ham,aa',ac',hae,hac⟩:=HA.o
   injection hae with x1 x2 x3
   obtain ⟨b6,z6,hao,hael⟩:=hac (by intro h;rw [h] at hm2;simp at hm2)
   obtain ⟨acs,hal3,hacs,har⟩:=hael m (An d)[m] (List.getElem?_eq_getElem hm2)
   obtain ⟨k3,k5,rfl⟩:=har.form
   obtain ⟨k1,hk1⟩:=nm (AH (An d)[m])
   obtain ⟨k2,hk2⟩:=nm (Ba (An d)[m])
   obtain ⟨k4,hk4⟩:=nm ((AF (An d)[m]).length)
   rw [<-hk1,<-hk2,<-hk4] at hacs har
   have haa:aa=some ⟨b6,z6,none⟩:=x1.trans hao
   have HAR:=Aa har
   have HAV:=Aa (CF (HCK.o (An d)[m] (List.getElem_mem hm2)))
   obtain ⟨r,hr⟩:=nm (Ay (AX c.n Ls p (AC K (An d)[m])) Ls[vm] c.n)
   have KR:Hx (∀ (W2:World),AU c.cs w0 bj av fl fv W2->∀ (x:Value),AW c.n (XJ bj) W2 x (AX c.n Ls p (AC K (An d)[m]))->Calls Tryz.prog 150 #[zj (some ⟨bj,0,none⟩),x,U zd (vm:Int)] W2 fun e W'=>e=zk (zg r)/\Ov W2 W'):=fun W2 h2 x hx=>by
    rw [hr]
    exact Ep c w0 bj av fl fv gs Ls Fs HJJ.o x _ vm W2 h2 hx.at_ hx.len hvl
   have hgv:Ls.getD f.ps[m].toNat AE=Ls[vm]:=by rw [hvm];simp [List.getD_eq_getElem?_getD,hvl]
   have HSr:Hx (∀ W2,Ov wr W2->KH bj c W p1 q1 r1 p2 q2 r2 b6 z6 al ac m k1 k2 k3 k4 k5 W2):=fun W2 hb2=>by
    have hbz:=Ac hBr hb2
    have hbw:=HJr.o.below.trans (hb2.mono HJr.o.below.size)
    exact ⟨Ab hb2 _ _ (HJr.o.cw 0 _ rfl),Ab hb2 _ _ (HJr.o.cw 1 _ rfl),Ab hb2 _ _ (HJr.o.cw 2 _ rfl),Ab hb2 _ _ (HJr.o.cw 3 _ rfl),Ab hb2 _ _ (HJr.o.cw 4 _ rfl),Ab hb2 _ _ (HJr.o.cw 5 _ rfl),Ab hb2 _ _ (HJr.o.cw 6 _ rfl),Ab hb2 _ _ (HJr.o.cw 7 _ rfl),Ab hb2 _ _ (HJr.o.cw 8 _ rfl),Ab hb2 _ _ (HJr.o.cw 9 _ rfl),Ab hbz _ _ s19,Ab hbz _ _ s20,by rw [<-haa];exact Ab hbz _ _ s16,Ab hbw _ _ (hacs 0 _ rfl),Ab hbw _ _ (hacs 1 _ rfl),Ab hbw _ _ (hacs 2 _ rfl)⟩
   obtain ⟨t0,t1,t2,t3,t4,t5,t6,t7,t8,t9,t10,t11,t12,t13,t14,t15⟩:=HSr.o wr (Below.refl _ _)
   have HNX:Hx (r=true->∀ i (h1:i < f.ps.length) (h2:i < (An d).length),i < m+1->Ay (AX c.n Ls p (AC K (An d)[i])) (Ls.getD f.ps[i].toNat AE) c.n=true):=fun hrt i h1 h2 h3=>by
    by_cases hi:i=m
    ·subst hi;rw [hgv,<-hr];exact hrt
    ·exact HALL.o i h1 h2 (by omega)
   have HNO:Hx (r=false->Dv c.n K Ls f d p=false):=fun hrf=>by
    unfold Dv
    rw [Bool.and_eq_false_iff]
    left
    rw [List.all_eq_false]
    refine ⟨(f.ps[m],(An d)[m]),?_,?_⟩
    ·have:=List.getElem_mem (l:=f.ps.zip (An d)) (n:=m) (by simp;omega)
     simpa using this
    ·rw [hgv,<-hr,hrf];simp
   rw [hvm] at q0
   have hma:(m:Int) < (al:Int):=by rw [HAL.o];omega
   have hmp:(m:Int) < (pn:Int):=by omega
   have hal4:al<=4:=by rw [HAL.o,<-HPSL.o,<-HPN.o];exact hpn4
   clear hr hgv hvm hvm2 hvl har hacs hal3 x1 x2 x3 hao hael hac ham haa hk1 hk2 hk4 hpe hall hm1 s0 s1 s2 s3 s4 s5 s6 s7 s8 s9 s10 s11 s12 s13 s14 s15 s16 s17 s18 s19 s20 s21 s22 s23 s24 s25
   cases r with
   | true=>
    go_wp2_with fail
    refine gS (KH bj c W p1 q1 r1 p2 q2 r2 b6 z6 al ac m k1 k2 k3 k4 k5) (HSr.o _ (bD _)) fun hHeld=>?_
    refine kT 0 ?_
    refine kT 1 ?_
    refine kT 2 ?_
    refine kT 3 ?_
    refine kT 4 ?_
    refine kT 5 ?_
    refine kT 6 ?_
    refine kT 7 ?_
    refine kT 8 ?_
    refine kT 9 ?_
    refine kT 10 ?_
    refine kT 12 ?_
    refine rdA 11 rfl fun K hK=>?_
    go_simp
    refine (KW.o _ (HJr.o.over (bD _)) (HLr.o.over (Ai bj) (bD _)) _ _ HAR.o HAV.o).mono ?_
    rintro e W6 ⟨⟨o1,o2,o3,o4,o5,o6,rfl,hL6⟩,hb6⟩
    have hb6':=Ac (bD _) hb6
    have HL6:=Aa hL6
    have HJ6:=Aa (HJr.o.over hb6')
    have HS6:=Aa (HSr.o W6 hb6')
    have HB6:=Aa hb6'
    clear hL6 hb6 hb6'
    go_simp
    refine xK hK (HS6.o) fun hHeld=>?_
    clear hK K
    refine rdA 13 rfl fun K hK=>?_
    go_simp
    refine (KR.o _ HJ6.o _ HL6.o).mono ?_
    rintro e W7 ⟨rfl,hb7⟩
    have HB7:=Aa (Ac HB6.o hb7)
    have HS7:=Aa (HSr.o W7 HB7.o)
    clear hb7
    go_simp
    refine xK hK (HS7.o) fun hHeld=>?_
    clear hK K
    refine kT 14 ?_
    refine gE ?_
    go_wp2_with fail
    exact ⟨⟨m+1,by omega,by go_num,HNX.o (by first | rfl | trivial),Ac hBr HB7.o⟩,by simp [intOf];omega⟩
   | false=>
    go_wp2_with fail
    refine gS (KH bj c W p1 q1 r1 p2 q2 r2 b6 z6 al ac m k1 k2 k3 k4 k5) (HSr.o _ (bD _)) fun hHeld=>?_
    refine kT 0 ?_
    refine kT 1 ?_
    refine kT 2 ?_
    refine kT 3 ?_
    refine kT 4 ?_
    refine kT 5 ?_
    refine kT 6 ?_
    refine kT 7 ?_
    refine kT 8 ?_
    refine kT 9 ?_
    refine kT 10 ?_
    refine kT 12 ?_
    refine rdA 11 rfl fun K hK=>?_
    go_simp
    refine (KW.o _ (HJr.o.over (bD _)) (HLr.o.over (Ai bj) (bD _)) _ _ HAR.o HAV.o).mono ?_
    rintro e W6 ⟨⟨o1,o2,o3,o4,o5,o6,rfl,hL6⟩,hb6⟩
    have hb6':=Ac (bD _) hb6
    have HL6:=Aa hL6
    have HJ6:=Aa (HJr.o.over hb6')
    have HS6:=Aa (HSr.o W6 hb6')
    have HB6:=Aa hb6'
    clear hL6 hb6 hb6'
    go_simp
    refine xK hK (HS6.o) fun hHeld=>?_
    clear hK K
    refine rdA 13 rfl fun K hK=>?_
    go_simp
    refine (KR.o _ HJ6.o _ HL6.o).mono ?_
    rintro e W7 ⟨rfl,hb7⟩
    have HB7:=Aa (Ac HB6.o hb7)
    have HS7:=Aa (HSr.o W7 HB7.o)
    clear hb7
    go_simp
    refine xK hK (HS7.o) fun hHeld=>?_
    clear hK K
    refine kT 14 ?_
    refine gE ?_
    go_wp2_with fail
    go_ret
    exact ⟨by rw [HNO.o (by first | rfl | trivial)];rfl,Ac HBW.o HB7.o⟩
  ·have hme:m=pn:=by omega
   obtain ⟨jv,hjv⟩:∃ q:Nat,AJ d=(q:Int):=⟨(AJ d).toNat,by have:=HV2.o;omega⟩
   have hjl:jv < Ls.length:=by have:=HV2.o;omega
   obtain ⟨r,hr⟩:=nm (Ay (AX c.n Ls p (AC K f.res)) Ls[jv] c.n)
   have KR:Hx (∀ (W2:World),AU c.cs w0 bj av fl fv W2->∀ (x:Value),AW c.n (XJ bj) W2 x (AX c.n Ls p (AC K f.res))->Calls Tryz.prog 150 #[zj (some ⟨bj,0,none⟩),x,U zd (jv:Int)] W2 fun e W'=>e=zk (zg r)/\Ov W2 W'):=fun W2 h2 x hx=>by
    rw [hr]
    exact Ep c w0 bj av fl fv gs Ls Fs HJJ.o x _ jv W2 h2 hx.at_ hx.len hjl
   have HFIN:Hx (Dv c.n K Ls f d p=r):=by
    have e1:((f.ps.zip (An d)).all fun q=>Ay (AX c.n Ls p (AC K q.2)) (Ls.getD q.1.toNat AE) c.n)=true:=by
     rw [List.all_eq_true]
     intro q hq
     obtain ⟨i,hi,rfl⟩:=List.getElem_of_mem hq
     have hz:(f.ps.zip (An d)).length=min f.ps.length (An d).length:=List.length_zip
     have hi1:i < f.ps.length:=by omega
     have hi2:i < (An d).length:=by omega
     have:=HALL.o i hi1 hi2 (by rw [hme,HPN.o];exact hi1)
     simpa using this
    have e2:Ls.getD (AJ d).toNat AE=Ls[jv]:=by rw [hjv];simp [List.getD_eq_getElem?_getD,hjl]
    unfold Dv
    rw [e1,e2,hr,Bool.true_and]
    exact Aa rfl
   have HRV:=Aa (CF HRC.o)
   have HSr:Hx (∀ W2,Ov wr W2->M7 bj c W p1 q1 r1 p2 q2 r2 jv rk rn ra rl rc W2):=fun W2 hb2=>by
    have hbz:=Ac hBr hb2
    exact ⟨Ab hb2 _ _ (HJr.o.cw 0 _ rfl),Ab hb2 _ _ (HJr.o.cw 1 _ rfl),Ab hb2 _ _ (HJr.o.cw 2 _ rfl),Ab hb2 _ _ (HJr.o.cw 3 _ rfl),Ab hb2 _ _ (HJr.o.cw 4 _ rfl),Ab hb2 _ _ (HJr.o.cw 5 _ rfl),Ab hb2 _ _ (HJr.o.cw 6 _ rfl),Ab hb2 _ _ (HJr.o.cw 7 _ rfl),Ab hb2 _ _ (HJr.o.cw 8 _ rfl),Ab hb2 _ _ (HJr.o.cw 9 _ rfl),Ab hbz _ _ s19,Ab hbz _ _ s20,by rw [<-hjv,<-HVR.o];exact Ab hbz _ _ s11,Ab hbz _ _ (HRF.o 2 _ rfl),Ab hbz _ _ (HRF.o 3 _ rfl),Ab hbz _ _ (HRF.o 4 _ rfl)⟩
   obtain ⟨t0,t1,t2,t3,t4,t5,t6,t7,t8,t9,t10,t11,t12,t13,t14,t15⟩:=HSr.o wr (Below.refl _ _)
   have hmp:¬ (m:Int) < (pn:Int):=by omega
   clear hr hjv hjl hall hme s0 s1 s2 s3 s4 s5 s6 s7 s8 s9 s10 s11 s12 s13 s14 s15 s16 s17 s18 s19 s20 s21 s22 s23 s24 s25
   go_wp2_with fail
   refine gS (M7 bj c W p1 q1 r1 p2 q2 r2 jv rk rn ra rl rc) (HSr.o _ (bD _)) fun hHeld=>?_
   refine kT 0 ?_
   refine kT 1 ?_
   refine kT 2 ?_
   refine kT 3 ?_
   refine kT 4 ?_
   refine kT 5 ?_
   refine kT 6 ?_
   refine kT 7 ?_
   refine kT 9 ?_
   refine kT 10 ?_
   refine rdA 8 rfl fun K hK=>?_
   go_simp
   refine (KW.o _ (HJr.o.over (bD _)) (HLr.o.over (Ai bj) (bD _)) _ _ HRES.o HRV.o).mono ?_
   rintro e W6 ⟨⟨o1,o2,o3,o4,o5,o6,rfl,hL6⟩,hb6⟩
   have hb6':=Ac (bD _) hb6
   have HL6:=Aa hL6
   have HJ6:=Aa (HJr.o.over hb6')
   have HS6:=Aa (HSr.o W6 hb6')
   have HB6:=Aa hb6'
   clear hL6 hb6 hb6'
   go_simp
   refine xK hK (HS6.o) fun hHeld=>?_
   clear hK K
   refine rdA 11 rfl fun K hK=>?_
   go_simp
   refine (KR.o _ HJ6.o _ HL6.o).mono ?_
   rintro e W7 ⟨rfl,hb7⟩
   have HB7:=Aa (Ac HB6.o hb7)
   have HS7:=Aa (HSr.o W7 HB7.o)
   clear hb7
   go_simp
   refine xK hK (HS7.o) fun hHeld=>?_
   clear hK K
   refine kT 12 ?_
   refine gE ?_
   go_wp2_with fail
   go_ret
   exact ⟨by rw [HFIN.o];rfl,Ac HBW.o HB7.o⟩
theorem Ny (c) (w0:World) (bj:Nat) (av:Value) (gs Ls Fs) (J:JSt c w0 gs Ls Fs) (sp) (A:JAc c w0 av (AB gs) sp) (K ni no:Nat) (fs vs) (hvs:Bo w0 (O c.va c.vn c.vc) vs) (hvn:vs.length=Ls.length) (hvc:∀ v∈vs,Bq c.n gs v.2=0) (ls) (hls:A9 w0 (O c.ya c.yn c.yc) ls) (hlc:∀ b∈ls,Bq c.n gs b=0) (hni:ls.length=ni) (hni5:ni<=5) (os) (hos:A9 w0 (O c.oa c.on c.oc) os) (hoc:∀ b∈os,Bq c.n gs b=0) (hno:os.length=no) (hno5:no<=5)
  (fl:List (Int × Int)) (hfl:fl.length<=900) (fv:Value) (W:World) (a:Int) (k:Nat) (cs:List Value) (d:D) (v:Value) (p:Lev) (funcs:Int) (h:AU c.cs w0 bj av fl fv W) (hrs:RS w0 K (k+1) cs d) (hok:CA K Ls.length ni no funcs fs d) (hl:AW c.n (XJ bj) W v p) (kf:Nat) (hfs:BA w0 K kf (O c.fa c.fn c.fc) fs) (hf5:fs.length<=5) (hof:∀ i (h:i < fs.length),okF K Ls.length ni no (i:Int) fs kf fs[i]) (hfn:funcs<=fs.length) (hk:Ak d=2) :
  Calls Tryz.prog 88 #[zj (some ⟨bj,0,none⟩),U zd a,.agg cs.toArray,v] W fun e W'=>e=zk (zm #[])/\(∃ fv',AU c.cs w0 bj av (addF a 2 fl (!Dv c.n K Ls (EB fs (Ag d)) d p)) fv' W')/\FrW (XJ bj) W W':=by
 have hrs':=hrs
 obtain ⟨p1,q1,r1,p2,q2,r2,rfl⟩:=hl.form
 obtain ⟨ek,en,xa,xl,xc,aa,ac,ta,tc,ea,ec,rfl,i0,i1,i2,hX,hA,hT,hE,-,-,-⟩:=hrs.form
 have hkd:sC (Ak d) (AJ d) (Ag d) ek en xa xl xc aa (An d).length ac ta (Ar d).length tc ea (Av d).length ec=sC 2 (AJ d) (Ag d) ek en xa xl xc aa (An d).length ac ta (Ar d).length tc ea (Av d).length ec:=by rw [hk]
 rw [hkd]
 clear hkd
 obtain ⟨r,hr⟩:=nm (Dv c.n K Ls (EB fs (Ag d)) d p)
 rw [<-hr]
 obtain ⟨vr,hvr⟩:=nm (AJ d)
 obtain ⟨ot,hot⟩:=nm (Ag d)
 obtain ⟨al,hal⟩:=nm ((An d).length)
 obtain ⟨tl,htl⟩:=nm ((Ar d).length)
 obtain ⟨el,hel⟩:=nm ((Av d).length)
 rw [<-hvr,<-hot,<-hal,<-htl,<-hel]
 obtain ⟨hbox,hb⟩:=CZ bj a [U zd 2,U zd vr,U zd ot,U zd ek,U zd en,O xa xl xc,O aa al ac,O ta tl tc,O ea el ec] [O p1 q1 r1,O p2 q2 r2] W (fun k hk=>(h.xlt k hk).2)
 have hF1:=FrW.of_below (Ai bj) hb
 have hFD:=hF1.trans (FrW.of_below (Ai bj) (bD _))
 have HF1:=Aa hF1
 have HJ1:=Aa (h.over hb)
 have HBX1:=Aa hbox
 have HL1:=Aa (hl.keep J.n1 hF1)
 have HJD:=Aa (HJ1.o.over (bD _))
 have HBXD:=Aa (hbox.keep (FrW.of_below (Ai bj) (bD _)))
 have HLD:=Aa (hl.keep J.n1 hFD)
 have HFD:=Aa hFD
 have hkd:sC (Ak d) (AJ d) (Ag d) ek en xa xl xc aa (An d).length ac ta (Ar d).length tc ea (Av d).length ec=sC 2 vr ot ek en xa xl xc aa al ac ta tl tc ea el ec:=by rw [hk,hvr,hot,hal,htl,hel]
 rw [hkd] at hrs'
 have KC:Hx (∀ (W2:World),AU c.cs w0 bj av fl fv W2->AW c.n (XJ bj) W2 (zh #[O p1 q1 r1,O p2 q2 r2]) p->Calls Tryz.prog 151 #[zj (some ⟨bj,0,none⟩),zh #[U zd 2,U zd vr,U zd ot,U zd ek,U zd en,O xa xl xc,O aa al ac,O ta tl tc,O ea el ec],(zh #[O p1 q1 r1,O p2 q2 r2])] W2 fun e W'=>e=zk (zg r)/\Ov W2 W'):=fun W2 h2 hl2=>by
  rw [hr]
  exact Jl c w0 bj av gs Ls Fs J K ni no kf fs hfs hf5 hof fl fv W2 k _ d _ p funcs h2 hrs' hfn hok hl2 hk
 have KB:=Aa (fun (W2:World) (h2:AU c.cs w0 bj av fl fv W2) (hb2:DT bj W.heap.size a [U zd 2,U zd vr,U zd ot,U zd ek,U zd en,O xa xl xc,O aa al ac,O ta tl tc,O ea el ec] [O p1 q1 r1,O p2 q2 r2] W2) (is:Bool)=>E2 c.cs w0 bj av fl fv a 2 is W.heap.size (W.heap.size+1) W2 h2 hb2.j hb2.a (hb2.x _ (Nat.le_refl _) (by omega)) (hb2.x _ (by omega) (by omega)) (by omega))
 have HS:Hx (∀ (W2:World),DT bj W.heap.size a [U zd 2,U zd vr,U zd ot,U zd ek,U zd en,O xa xl xc,O aa al ac,O ta tl tc,O ea el ec] [O p1 q1 r1,O p2 q2 r2] W2->CE W2 W.heap.size 0 (zj (some ⟨bj,0,none⟩))/\CE W2 (W.heap.size+1+1) 0 (U zd 2)/\CE W2 (W.heap.size+1+1) 1 (U zd vr)/\CE W2 (W.heap.size+1+1) 2 (U zd ot)/\CE W2 (W.heap.size+1+1) 3 (U zd ek)/\CE W2 (W.heap.size+1+1) 4 (U zd en)/\CE W2 (W.heap.size+1+1) 5 (O xa xl xc)/\CE W2 (W.heap.size+1+1) 6 (O aa al ac)/\CE W2 (W.heap.size+1+1) 7 (O ta tl tc)/\CE W2 (W.heap.size+1+1) 8 (O ea el ec)/\CE W2 (W.heap.size+1+1+1) 0 (O p1 q1 r1)/\CE W2 (W.heap.size+1+1+1) 1 (O p2 q2 r2)):=fun W2 hb2=>⟨hb2.j,hb2.st 0 _ rfl,hb2.st 1 _ rfl,hb2.st 2 _ rfl,hb2.st 3 _ rfl,hb2.st 4 _ rfl,hb2.st 5 _ rfl,hb2.st 6 _ rfl,hb2.st 7 _ rfl,hb2.st 8 _ rfl,hb2.lv 0 _ rfl,hb2.lv 1 _ rfl⟩
 obtain ⟨t0,t1,t2,t3,t4,t5,t6,t7,t8,t9,t10,t11⟩:=HS.o _ HBX1.o
 clear hr hkd hrs' hvr hot hal htl hel hbox hb hF1 hFD h hl hrs hX hA hT hE hok J A hvs hvc hls hlc hos hoc hfl hk i0 i1 i2 hfs hof
 go_enter Tryz.func88,Tryz.ntmps88
 go_wp2_with fail
 refine (KC.o _ HJ1.o HL1.o).mono ?_
 rintro e W3 ⟨rfl,hb3⟩
 have HJ3:=Aa (HJ1.o.over hb3)
 have HB3:=Aa (HBX1.o.keep (FrW.of_below (Ai bj) hb3))
 have HF3:=Aa (HF1.o.trans (FrW.of_below (Ai bj) hb3))
 clear hb3
 go_wp2_with fail
 refine (KB.o _ HJ3.o HB3.o _).mono ?_
 rintro e W5 ⟨rfl,⟨fv5,hJ5⟩,hF5⟩
 have HJ5:=Aa hJ5
 have HF5:=Aa (HF3.o.trans hF5)
 clear hJ5 hF5
 go_wp2_with fail
 go_end0
 exact ⟨rfl,⟨fv5,HJ5.o⟩,HF5.o⟩
end Go.Proofs.YtfffpjkcfnekaaaGreat.Ex
