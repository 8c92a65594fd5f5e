/- The least levels that may be: of all variables, of all functions. -/
import Derived.Test.YtfffpjkcfnekaaaGreatF19
set_option linter.unusedVariables false
set_option maxHeartbeats 8000000
set_option maxRecDepth 100000
namespace Go.Proofs.YtfffpjkcfnekaaaGreat.Ex
open Go.RowKit
open Go.Value renaming slice -> O, int -> U, bool -> zg, agg -> zh, pointer -> zj, tuple -> zm
open Go.IntKind renaming i64 -> zd
open Go.Obj renaming cells -> ze
open Go.Ending renaming returned -> zk
def Cl (gs:List (Int × Int)) (n:Nat) (vs:List (Bool × Lab)):List Lev:=vs.map fun v=>if v.1=true then AA (AD gs) n v.2 else Bw n
theorem Dc (n:Nat):(Bw n).len n:=⟨by simp [Bw],by simp [Bw]⟩
theorem FV (gn:List (Nat × Nat)) (n:Nat) (b:Lab):(AA gn n b).len n:=⟨A5 _ _,A5 _ _⟩
structure BW (n B bw:Nat) (P:List Value) (Ls Fs:List Lev) (v k:Value) (W:World):Prop where
 row:Ae (P++[v,k]) W bw
 fz:∀ j,W.frozen? ⟨bw,j,none⟩=false
 vs:A3 n B W v Ls
 fs:A3 n B W k Fs
 ap:v.ownBlock=none\/v.ownBlock≠k.ownBlock
 ap2:v.ownBlock≠some bw/\k.ownBlock≠some bw
 ty:∃ cur fr,W.heap[bw]? = some (Obj.cells cur 110 fr)
 lo:B<=bw/\bw < W.heap.size
theorem BW.over {n B bw:Nat} {P:List Value} {Ls Fs:List Lev} {v k:Value} {W W':World} (h1:1<=n) (h:BW n B bw P Ls Fs v k W) (hb:Ov W W'):BW n B bw P Ls Fs v k W':=by
 refine ⟨h.row.over hb,fun j=>((Al hb).2 _ _ h.lo.2).trans (h.fz j),h.vs.over h1 hb,h.fs.over h1 hb,h.ap,h.ap2,?_,h.lo.1,Nat.lt_of_lt_of_le h.lo.2 hb.size⟩
 obtain ⟨cur,fr,he⟩:=h.ty
 exact ⟨cur,fr,(hb.block _ h.lo.2).trans he⟩
theorem GB {cs:List Value} {w:World} {b j:Nat} {v:Value} (h:Ae cs w b) (hj:j < cs.length):Ae (cs.set j v) (w.setCell ⟨b,j,none⟩ v) b:=by
 intro i u hu
 by_cases hij:j=i
 ·subst hij
  rw [List.getElem?_set_self hj] at hu
  injection hu with hu
  subst hu
  exact World.cell?_setCell_same _ _ _ (h j _ (List.getElem?_eq_getElem hj))
 ·rw [List.getElem?_set_ne hij] at hu
  rw [World.cell?_setCell_other _ _ _ _ (by intro e;injection e with e1 e2;exact hij e2)]
  exact h i u hu
theorem Cj {w:World} {b j:Nat} {u:Value}:w.grownBy (w.setCell ⟨b,j,none⟩ u) (some b):=
 ⟨rfl,rfl,rfl,by simp [World.setCell],fun k hk hne=>Bj (fun e=>hne (by rw [e])) u⟩
theorem F8 {w w':World} {v:Value} {B:Nat} (h:w.grownBy w' v.ownBlock) (hv:∀ g,v.ownBlock=some g->B<=g) (hB:B<=w.heap.size):Below B w w':=
 ⟨h.os,h.tape,h.output,h.size,fun k hk=>h.block k (by omega) (fun e=>by have:=hv k e.symm;omega)⟩
theorem BW.addV {n B bw:Nat} {P:List Value} {Ls Fs:List Lev} {v k v':Value} {W W':World} {us:List Value} {x y:Value} {l:Lev} (h1:1<=n) (hP:P.length=8) (h:BW n B bw P Ls Fs v k W) (ho:W.ownsRow B 50 2 v Ls.length us) (hel:∀ i (h:i < Ls.length),∃ x y,us[i*2]? = some x/\us[i*2+1]? = some y/\EC n W (zh #[x,y]) Ls[i]) (hl:EC n W (zh #[x,y]) l)
  (ho':W'.ownsRow B 50 2 v' (Ls.length+1) (us++[x,y])) (hg:W.grownBy W' v.ownBlock) (hat:v'.ownBlock=v.ownBlock\/v'.ownBlock=some W.heap.size) :
  BW n B bw P (Ls++[l]) Fs v' k (W'.setCell ⟨bw,8,none⟩ v')/\Below B W (W'.setCell ⟨bw,8,none⟩ v'):=by
 have hv:=B3 h.vs
 have hk:=B3 h.fs
 have n4:∀ g,v.ownBlock=some g->∀ (cur:Array Value) (fr:Nat × Nat),W.heap[g]?≠some (Obj.cells cur 4 fr):=fun g hgv cur fr he=>by
  obtain ⟨-,c2,f2,he2⟩:=hv g hgv
  rw [he] at he2
  injection he2 with he2
  injection he2 with e1 e2 e3
  exact absurd e2 (by decide)
 have hbw:W'.heap[bw]? = W.heap[bw]?:=hg.block bw h.lo.2 (fun e=>h.ap2.1 e.symm)
 have hvs':=A3.snoc h1 h.vs us ho hel hl ho' hg
 have hkv:k.ownBlock=none\/k.ownBlock≠v.ownBlock:=by
  rcases h.ap with e | e
  ·cases hk':k.ownBlock with
   | none=>exact Or.inl rfl
   | some g=>rw [e];exact Or.inr (by simp)
  ·exact Or.inr e.symm
 have hfs':=h.fs.keep h1 hg hkv n4
 have hty:∃ cur fr,W'.heap[bw]? = some (Obj.cells cur 110 fr):=by obtain ⟨c,f,e⟩:=h.ty;exact ⟨c,f,hbw.trans e⟩
 have n5:∀ g,some bw=some g->∀ (cur:Array Value) (fr:Nat × Nat),W'.heap[g]?≠some (Obj.cells cur 4 fr):=fun g e cur fr he=>by
  injection e with e
  subst e
  obtain ⟨c,f,e⟩:=hty
  rw [he] at e
  injection e with e
  injection e with e1 e2 e3
  exact absurd e2 (by decide)
 have hv'bw:v'.ownBlock≠some bw:=by
  rcases hat with e | e
  ·rw [e];exact h.ap2.1
  ·rw [e];intro e;injection e with e;have:=h.lo.2;omega
 have hrow':Ae (P++[v,k]) W' bw:=fun j u hu=>(World.cell?_of_block (a:=⟨bw,j,none⟩) hbw).trans (h.row j u hu)
 have hBl:Below B W W':=F8 hg (fun g e=>(hv g e).1) (Nat.le_trans h.lo.1 (Nat.le_of_lt h.lo.2))
 refine ⟨⟨?_,fun j=>?_,hvs'.keep h1 Cj (Or.inr hv'bw) n5,hfs'.keep h1 Cj (Or.inr h.ap2.2) n5,?_,⟨hv'bw,h.ap2.2⟩,?_,h.lo.1,?_⟩,hBl.setCell h.lo.1 _⟩
 ·have:=GB (j:=8) (v:=v') hrow' (by simp [hP])
  rw [List.set_append,if_neg (by omega)] at this
  simpa [hP] using this
 ·have e1:(W'.setCell ⟨bw,8,none⟩ v').frozen? ⟨bw,j,none⟩=W'.frozen? ⟨bw,j,none⟩:=by simp [go_sem]
  rw [e1,World.frozen?_of_block (a:=⟨bw,j,none⟩) hbw]
  exact h.fz j
 ·rcases hat with e | e
  ·rw [e];exact h.ap
  ·rw [e]
   refine Or.inr fun e2=>?_
   obtain ⟨-,c,f,he⟩:=hk _ e2.symm
   have:=(Array.getElem?_eq_some_iff.1 he).1
   omega
 ·obtain ⟨c,f,e⟩:=hty
  refine ⟨c.setIfInBounds 8 v',f,?_⟩
  simp [World.setCell,Array.getElem?_modify,e]
 ·have:=hg.size
  have:=h.lo.2
  simp [World.setCell]
  omega
theorem BW.addF {n B bw:Nat} {P:List Value} {Ls Fs:List Lev} {v k v':Value} {W W':World} {us:List Value} {x y:Value} {l:Lev} (h1:1<=n) (hP:P.length=8) (h:BW n B bw P Ls Fs v k W) (ho:W.ownsRow B 50 2 k Fs.length us) (hel:∀ i (h:i < Fs.length),∃ x y,us[i*2]? = some x/\us[i*2+1]? = some y/\EC n W (zh #[x,y]) Fs[i]) (hl:EC n W (zh #[x,y]) l)
  (ho':W'.ownsRow B 50 2 v' (Fs.length+1) (us++[x,y])) (hg:W.grownBy W' k.ownBlock) (hat:v'.ownBlock=k.ownBlock\/v'.ownBlock=some W.heap.size) :
  BW n B bw P Ls (Fs++[l]) v v' (W'.setCell ⟨bw,9,none⟩ v')/\Below B W (W'.setCell ⟨bw,9,none⟩ v'):=by
 have hv:=B3 h.vs
 have hk:=B3 h.fs
 have n4:∀ g,k.ownBlock=some g->∀ (cur:Array Value) (fr:Nat × Nat),W.heap[g]?≠some (Obj.cells cur 4 fr):=fun g hgv cur fr he=>by
  obtain ⟨-,c2,f2,he2⟩:=hk g hgv
  rw [he] at he2
  injection he2 with he2
  injection he2 with e1 e2 e3
  exact absurd e2 (by decide)
 have hbw:W'.heap[bw]? = W.heap[bw]?:=hg.block bw h.lo.2 (fun e=>h.ap2.2 e.symm)
 have hfs':=A3.snoc h1 h.fs us ho hel hl ho' hg
 have hvs':=h.vs.keep h1 hg h.ap n4
 have hty:∃ cur fr,W'.heap[bw]? = some (Obj.cells cur 110 fr):=by obtain ⟨c,f,e⟩:=h.ty;exact ⟨c,f,hbw.trans e⟩
 have n5:∀ g,some bw=some g->∀ (cur:Array Value) (fr:Nat × Nat),W'.heap[g]?≠some (Obj.cells cur 4 fr):=fun g e cur fr he=>by
  injection e with e
  subst e
  obtain ⟨c,f,e⟩:=hty
  rw [he] at e
  injection e with e
  injection e with e1 e2 e3
  exact absurd e2 (by decide)
 have hv'bw:v'.ownBlock≠some bw:=by
  rcases hat with e | e
  ·rw [e];exact h.ap2.2
  ·rw [e];intro e;injection e with e;have:=h.lo.2;omega
 have hrow':Ae (P++[v,k]) W' bw:=fun j u hu=>(World.cell?_of_block (a:=⟨bw,j,none⟩) hbw).trans (h.row j u hu)
 have hBl:Below B W W':=F8 hg (fun g e=>(hk g e).1) (Nat.le_trans h.lo.1 (Nat.le_of_lt h.lo.2))
 refine ⟨⟨?_,fun j=>?_,hvs'.keep h1 Cj (Or.inr h.ap2.1) n5,hfs'.keep h1 Cj (Or.inr hv'bw) n5,?_,⟨h.ap2.1,hv'bw⟩,?_,h.lo.1,?_⟩,hBl.setCell h.lo.1 _⟩
 ·have:=GB (j:=9) (v:=v') hrow' (by simp [hP])
  rw [List.set_append,if_neg (by omega)] at this
  simpa [hP] using this
 ·have e1:(W'.setCell ⟨bw,9,none⟩ v').frozen? ⟨bw,j,none⟩=W'.frozen? ⟨bw,j,none⟩:=by simp [go_sem]
  rw [e1,World.frozen?_of_block (a:=⟨bw,j,none⟩) hbw]
  exact h.fz j
 ·rcases hat with e | e
  ·rw [e];exact h.ap
  ·rw [e]
   refine Or.inr fun e2=>?_
   obtain ⟨-,c,f,he⟩:=hv _ e2
   have:=(Array.getElem?_eq_some_iff.1 he).1
   omega
 ·obtain ⟨c,f,e⟩:=hty
  refine ⟨c.setIfInBounds 9 v',f,?_⟩
  simp [World.setCell,Array.getElem?_modify,e]
 ·have:=hg.size
  have:=h.lo.2
  simp [World.setCell]
  omega
def Ei (W:World) (b:Nat):Prop:=∀ (cur:Array Value) (fr:Nat × Nat),W.heap[b]?≠some (Obj.cells cur 4 fr)
theorem Ei.set {W:World} {b b' j:Nat} {u:Value} (h:Ei W b):Ei (W.setCell ⟨b',j,none⟩ u) b:=by
 intro cur fr he
 by_cases hb:b'=b
 ·subst hb
  simp only [World.setCell,Array.getElem?_modify,if_true] at he
  cases ho:W.heap[b']? with
  | none=>rw [ho] at he;simp at he
  | some o=>
   rw [ho] at he
   cases o with
   | cells c e f=>
    simp at he
    obtain ⟨-,rfl,-⟩:=he
    exact h _ _ ho
   | _=>simp at he
 ·rw [Bj hb] at he
  exact h cur fr he
theorem A3.setLow {n B:Nat} {W:World} {v:Value} {Ls:List Lev} (h1:1<=n) (h:A3 n B W v Ls) {b j:Nat} {u:Value} (hb:b < B) (hn:Ei W b):A3 n B (W.setCell ⟨b,j,none⟩ u) v Ls:=
 h.keep h1 Cj (by
  cases hv:v.ownBlock with
  | none=>exact Or.inl rfl
  | some g=>
   refine Or.inr fun e=>?_
   injection e with e
   have:=(B3 h g hv).1
   omega) (fun g e=>by injection e with e;subst e;exact hn)
theorem A3.low {n B B':Nat} {W:World} {v:Value} {Ls:List Lev} (h:A3 n B W v Ls) (hb:B'<=B):A3 n B' W v Ls:=by
 obtain ⟨us,ho,hel⟩:=h
 exact ⟨us,B9 ho hb,hel⟩
def setN (b:Nat):List Value->Nat->World->World
 | [],_,W=>W
 | u::us,j,W=>setN b us (j+1) (W.setCell ⟨b,j,none⟩ u)
theorem A3.setN {n B b:Nat} {v:Value} {Ls:List Lev} (h1:1<=n) (hb:b < B):∀ (us:List Value) (j:Nat) (W:World),A3 n B W v Ls->Ei W b->A3 n B (setN b us j W) v Ls
 | [],_,_,h,_=>h
 | u::us,j,W,h,hn=>A3.setN h1 hb us (j+1) _ (h.setLow h1 hb hn) hn.set
theorem Gi {B b:Nat} {w:World} (hb:B<=b):∀ (us:List Value) (j:Nat) (W:World),Below B w W->Below B w (setN b us j W)
 | [],_,_,h=>h
 | u::us,j,W,h=>Gi hb us (j+1) _ (h.setCell hb u)
theorem BW.box {n B bw:Nat} {P:List Value} {Ls Fs:List Lev} {v k:Value} {W:World} {b j:Nat} {u:Value} (h1:1<=n) (h:BW n B bw P Ls Fs v k W) (hb:b≠bw) (hv:v.ownBlock≠some b) (hk:k.ownBlock≠some b) (hn:Ei W b):BW n B bw P Ls Fs v k (W.setCell ⟨b,j,none⟩ u):=by
 have hbw:(W.setCell ⟨b,j,none⟩ u).heap[bw]? = W.heap[bw]?:=Bj hb u
 refine ⟨fun i x hx=>(World.cell?_of_block (a:=⟨bw,i,none⟩) hbw).trans (h.row i x hx),fun i=>(World.frozen?_of_block (a:=⟨bw,i,none⟩) hbw).trans (h.fz i),h.vs.keep h1 Cj (Or.inr hv) (fun g e=>by injection e with e;subst e;exact hn),h.fs.keep h1 Cj (Or.inr hk) (fun g e=>by injection e with e;subst e;exact hn),h.ap,h.ap2,?_,h.lo.1,by simpa [World.setCell] using h.lo.2⟩
 obtain ⟨c,f,e⟩:=h.ty
 exact ⟨c,f,hbw.trans e⟩
theorem Lb {gs:List (Int × Int)} {n:Nat} {vs:List (Bool × Lab)} {j:Nat} (h:j < vs.length):Cl gs n (vs.take (j+1))=Cl gs n (vs.take j)++[if vs[j].1=true then AA (AD gs) n vs[j].2 else Bw n]:=by
 unfold Cl
 rw [List.take_succ_eq_append_getElem h,List.map_append]
 rfl
theorem Im {W:World} {cs:Array Value} {T:Nat} (h:T≠4):Ei (W.alloc (.cells cs T)) W.heap.size:=by
 intro cur fr he
 rw [AJ] at he
 injection he with he
 injection he with e1 e2 e3
 exact h e2
theorem Ei.over {W W':World} {b:Nat} (h:Ei W b) (hb:Ov W W') (hlt:b < W.heap.size):Ei W' b:=fun cur fr he=>h cur fr ((hb.block b hlt) ▸ he)
theorem Ec {ops:Array Oper} {o:Oper} {a:Act} {W:World} {K:Act->World->Prop} {Q:Exit->Act->World->Prop} {E:Prop} (hg:o.guard=none) (s x:Operand) (t:TypeId) (hop:o.op=Op.call { callee:=Callee.builtin Builtin.append,args:=#[s,x],argTypes:=#[t,t] }) (v u v':Value) (W':World) (hs:a.eval s=v) (hx:a.eval x=u)
  (hr:(Builtin.append_ #[t,t] o.type #[v,u]).run Tryz.prog W=.ok v' W') (h:K (a.put o.dst v') W'):if Region.wanted o (yielded ops a.tmps)=true then Oper.wp Tryz.prog o a W K Q else E:=by
 have hw:Region.wanted o (yielded ops a.tmps)=true:=by simp [Region.wanted,hg]
 rw [if_pos hw]
 unfold Oper.wp execOp
 simp only [hop,resolve,invoke,builtin,Sem.run_bind,Sem.run_pure,Result.andThen_ok,List.map_toArray,List.map_cons,List.map_nil,hs,hx,hr]
 exact h
theorem OC (n:Nat) (h1:1<=n) (h6:n<=6) (ga gn gc) (sa sn sc ya yn yc oa on oc) (va vn vc) (fa:Option Addr) (fn fc:Nat) (ba bn bc gs vs) (w:World) (hg:Az w (O ga gn gc) gs) (hE:AU n gs=0) (hv:Br w (O va vn vc) vs) (hvc:∀ v∈vs,Bo n gs v.2=0) (h16:vs.length<=16) (hf5:fn<=5) :
  Calls Tryz.prog 54 #[zh #[U zd (n:Int),O ga gn gc,O sa sn sc,O ya yn yc,O oa on oc,O va vn vc,O fa fn fc,O ba bn bc]] w fun e w'=>∃ la ln lc ka kn2 kc,e=zk (zh #[U zd (n:Int),O ga gn gc,O sa sn sc,O ya yn yc,O oa on oc,O va vn vc,O fa fn fc,O ba bn bc,O la ln lc,O ka kn2 kc])/\A3 n w.heap.size w' (O la ln lc) (Cl gs n vs)/\A3 n w.heap.size w' (O ka kn2 kc) (List.replicate fn (Bw n))/\(Value.ownBlock (O la ln lc)=none\/Value.ownBlock (O la ln lc)≠Value.ownBlock (O ka kn2 kc))/\Ov w w':=by
 obtain ⟨i0,hi,hz0,hz1,hz2⟩:=info_parts Tryz.infoLv
 have hb0:Ov w ((w.alloc (ze #[U zd (n:Int),O ga gn gc,O sa sn sc,O ya yn yc,O oa on oc,O va vn vc,O fa fn fc,O ba bn bc] 31)).alloc (ze #[U zd 0,O none 0 0,O none 0 0,O none 0 0,O none 0 0,O none 0 0,O none 0 0,O none 0 0,O none 0 0,O none 0 0] 110)):=(bA w _).alloc (by simp) _
 have KW:=Aa (Dv n ga gn gc sa sn sc ya yn yc oa on oc va vn vc fa fn fc ba bn bc none 0 0 none 0 0 ((w.alloc (ze #[U zd (n:Int),O ga gn gc,O sa sn sc,O ya yn yc,O oa on oc,O va vn vc,O fa fn fc,O ba bn bc] 31)).alloc (ze #[U zd 0,O none 0 0,O none 0 0,O none 0 0,O none 0 0,O none 0 0,O none 0 0,O none 0 0,O none 0 0,O none 0 0] 110)))
 have KB:=Aa fun (la:Option Addr) (ln lc:Nat) (ka:Option Addr) (kn kc:Nat) W=>ER n h1 h6 ga gn gc sa sn sc ya yn yc oa on oc va vn vc fa fn fc ba bn bc la ln lc ka kn kc W
 have KL:=Aa fun (la:Option Addr) (ln lc:Nat) (ka:Option Addr) (kn kc:Nat) (pr pw:Value) (bl:Lab) W (hb:Ov w W) (h2:AC W pr bl.r) (h3:AC W pw bl.w) (h4:Bo n gs bl=0)=>Hd (n:Int) ga gn gc sa sn sc ya yn yc oa on oc va vn vc fa fn fc ba bn bc la ln lc ka kn kc gs pr pw bl W (Af hg hb) h2 h3 h4
 have rowP:Ae [U zd (n:Int),O ga gn gc,O sa sn sc,O ya yn yc,O oa on oc,O va vn vc,O fa fn fc,O ba bn bc] ((w.alloc (ze #[U zd (n:Int),O ga gn gc,O sa sn sc,O ya yn yc,O oa on oc,O va vn vc,O fa fn fc,O ba bn bc] 31)).alloc (ze #[U zd 0,O none 0 0,O none 0 0,O none 0 0,O none 0 0,O none 0 0,O none 0 0,O none 0 0,O none 0 0,O none 0 0] 110)) w.heap.size:=(Ae.new [U zd (n:Int),O ga gn gc,O sa sn sc,O ya yn yc,O oa on oc,O va vn vc,O fa fn fc,O ba bn bc] 31 w).over (bA _ _)
 have HB0:=Aa hb0
 have HRP:=Aa rowP
 have HV:=Aa hv
 have HVC:=Aa hvc
 have hvn:vn=vs.length:=by obtain ⟨-,a,c,he,-⟩:=hv;injection he
 have hvn16:vn<=16:=by omega
 have HVN:=Aa hvn
 obtain ⟨V0,hV0⟩:=nm (((w.alloc (ze #[U zd (n:Int),O ga gn gc,O sa sn sc,O ya yn yc,O oa on oc,O va vn vc,O fa fn fc,O ba bn bc] 31)).alloc (ze #[U zd 0,O none 0 0,O none 0 0,O none 0 0,O none 0 0,O none 0 0,O none 0 0,O none 0 0,O none 0 0,O none 0 0] 110)))
 have hs0:V0.heap.size=w.heap.size+1+1:=by rw [hV0];simp
 rw [<-hV0] at HB0 HRP
 have HS0:=Aa hs0
 have HSZ:Hx (∀ W,Below (w.heap.size+1+1) V0 W->(w.heap.size+1+1)<=W.heap.size):=fun W h=>by have:=h.size;rw [HS0.o] at this;exact this
 have nb1:Ei V0 (w.heap.size+1):=by
  rw [hV0]
  have:=Im (W:=w.alloc (ze #[U zd (n:Int),O ga gn gc,O sa sn sc,O ya yn yc,O oa on oc,O va vn vc,O fa fn fc,O ba bn bc] 31)) (cs:=#[U zd 0,O none 0 0,O none 0 0,O none 0 0,O none 0 0,O none 0 0,O none 0 0,O none 0 0,O none 0 0,O none 0 0]) (T:=110) (by decide)
  simpa using this
 have zr:Ae [U zd 0,O none 0 0,O none 0 0,O none 0 0,O none 0 0,O none 0 0,O none 0 0,O none 0 0,O none 0 0,O none 0 0] V0 (w.heap.size+1):=by
  rw [hV0]
  have:=Ae.new [U zd 0,O none 0 0,O none 0 0,O none 0 0,O none 0 0,O none 0 0,O none 0 0,O none 0 0,O none 0 0,O none 0 0] 110 (w.alloc (ze #[U zd (n:Int),O ga gn gc,O sa sn sc,O ya yn yc,O oa on oc,O va vn vc,O fa fn fc,O ba bn bc] 31))
  simpa using this
 have zf:∀ j,V0.frozen? ⟨w.heap.size+1,j,none⟩=false:=fun j=>by rw [hV0];simp [go_sem]
 have NB1:=Aa nb1
 have ZR:=Aa zr
 have ZF:=Aa zf
 obtain ⟨c0,c1,c2,c3,c4,c5,c6,c7⟩:=rc8 rowP
 clear hb0 rowP hv hvc hg hE hvn hs0 nb1 zr zf
 go_enter Tryz.func54,Tryz.ntmps54
 go_wp2_with fail
 refine (KW.o).mono ?_
 rintro e w1 ⟨rfl,hb1⟩
 rw [<-hV0] at hb1
 have hbw2:=bA w1 (ze #[U zd (n:Int),O ga gn gc,O sa sn sc,O ya yn yc,O oa on oc,O va vn vc,O fa fn fc,O ba bn bc,O none 0 0,O none 0 0] 110)
 have hB02:Below (w.heap.size+1+1) V0 (w1.alloc (ze #[U zd (n:Int),O ga gn gc,O sa sn sc,O ya yn yc,O oa on oc,O va vn vc,O fa fn fc,O ba bn bc,O none 0 0,O none 0 0] 110)):=by rw [<-HS0.o];exact Ac hb1 hbw2
 have hL0:BW n (w.heap.size+1+1) w1.heap.size [U zd (n:Int),O ga gn gc,O sa sn sc,O ya yn yc,O oa on oc,O va vn vc,O fa fn fc,O ba bn bc] [] [] (O none 0 0) (O none 0 0) (w1.alloc (ze #[U zd (n:Int),O ga gn gc,O sa sn sc,O ya yn yc,O oa on oc,O va vn vc,O fa fn fc,O ba bn bc,O none 0 0,O none 0 0] 110)):=by
  refine ⟨Ae.new [U zd (n:Int),O ga gn gc,O sa sn sc,O ya yn yc,O oa on oc,O va vn vc,O fa fn fc,O ba bn bc,O none 0 0,O none 0 0] 110 w1,fun j=>by simp [go_sem],Fk _ _ _,Fk _ _ _,Or.inl rfl,⟨by simp [Value.ownBlock],by simp [Value.ownBlock]⟩,⟨_,_,AJ _ _⟩,?_,by simp⟩
  have:=hb1.size
  rw [HS0.o] at this
  exact this
 have HL0:=Aa hL0
 have HB02:=Aa hB02
 have hRP2:=HRP.o.over (Ac hb1 hbw2)
 have HRP2:=Aa hRP2
 clear c0 c1 c2 c3 c4 c5 c6 c7 KW hb1 hbw2 hB02 hL0 hV0
 obtain ⟨c0,c1,c2,c3,c4,c5,c6,c7⟩:=rc8 hRP2
 clear hRP2
 go_wp2_with fail
 go_loopw [13] (fun x wr=>∃ (j:Nat) (la:Option Addr) (ln lc:Nat),j<=vn/\x=U zd j/\BW n (w.heap.size+1+1) w1.heap.size [U zd (n:Int),O ga gn gc,O sa sn sc,O ya yn yc,O oa on oc,O va vn vc,O fa fn fc,O ba bn bc] (Cl gs n (vs.take j)) [] (O la ln lc) (O none 0 0) wr/\Below (w.heap.size+1+1) V0 wr) (fun x _=>vn - (intOf x).toNat)
 case atStart=>exact ⟨0,none,0,0,Nat.zero_le _,rfl,HL0.o,HB02.o⟩
 case round=>
  clear c0 c1 c2 c3 c4 c5 c6 c7
  obtain ⟨j,la,ln,lc,hj,rfl,hL,hB⟩:=hrel
  have hBw:=HB0.o.trans (hB.mono (by omega))
  have hrp:Ae [U zd (n:Int),O ga gn gc,O sa sn sc,O ya yn yc,O oa on oc,O va vn vc,O fa fn fc,O ba bn bc] wr w.heap.size:=fun i u hu=>(hB.cell (p:=⟨w.heap.size,i,none⟩) (by simp <;> omega)).trans (HRP.o i u hu)
  by_cases hlt:j < vn
  ·have hj2:j < vs.length:=by rw [<-HVN.o];exact hlt
   obtain ⟨-,va',vc',hve,hvel⟩:=HV.o
   injection hve with x1 x2 x3
   obtain ⟨bv,ov,hvo,hvel⟩:=hvel (by intro h;rw [h] at hj2;simp at hj2)
   obtain ⟨pr,pw,g0,g1,g2,hpr,hpw⟩:=hvel j hj2
   have hva:va=some ⟨bv,ov,none⟩:=x1.trans hvo
   subst hva
   obtain ⟨b1,b2,b3,rfl⟩:=AO hpr
   obtain ⟨b4,b5,b6,rfl⟩:=AO hpw
   obtain ⟨g0,g1,g2⟩:=co3 hBw g0 g1 g2
   have HIN:=Aa (Lb (gs:=gs) (n:=n) hj2)
   obtain ⟨kn,hkn⟩:=nm (vs[j].1)
   obtain ⟨lb,hlb⟩:=nm (vs[j].2)
   rw [<-hkn] at g0 HIN
   rw [<-hlb] at hpr hpw HIN
   have HCK:=Aa (HVC.o vs[j] (List.getElem_mem hj2))
   rw [<-hlb] at HCK
   have hba:=bA wr (ze #[zg kn,O b1 b2 b3,O b4 b5 b6] 41)
   have hL1:=hL.over h1 hba
   have rowV:=Ae.new [zg kn,O b1 b2 b3,O b4 b5 b6] 41 wr
   have KB1:=Aa (KB.o la ln lc none 0 0 (wr.alloc (ze #[zg kn,O b1 b2 b3,O b4 b5 b6] 41)))
   have hB1:=hB.trans (hba.mono (HSZ.o _ hB))
   have HL1:=Aa hL1
   have HB1:=Aa hB1
   have HRV:=Aa rowV
   have HPR:=Aa (Ai hpr (hBw.trans (hba.mono hBw.size)))
   have HPW:=Aa (Ai hpw (hBw.trans (hba.mono hBw.size)))
   have HBW1:=Aa (hBw.trans (hba.mono hBw.size))
   have hj3:(j:Int) < (vn:Int):=by omega
   obtain ⟨d0,d1,d2,d3,d4,d5,d6,d7,d8,d9⟩:=Cd hL1.row
   obtain ⟨e0,e1,e2⟩:=rc3 rowV
   clear hL hB hBw hrp hvel hvo x1 x2 x3 hpr hpw hkn hlb hba hL1 rowV hB1
   go_wp2_with fail
   refine (KB1.o).mono ?_
   rintro e W3 ⟨vj,rfl,hfr,hb3⟩
   have hT3:=C9 hfr (Dc n)
   obtain ⟨a1,a2,a3,a4,a5,a6,hvj⟩:∃ a1 a2 a3 a4 a5 a6,vj=zh #[O a1 a2 a3,O a4 a5 a6]:=by
    obtain ⟨x,y,e,-⟩:=Aq hfr
    subst e
    obtain ⟨z1,z2,z3,z4,z5,z6,rfl,rfl⟩:=AP (Aq hfr)
    exact ⟨_,_,_,_,_,_,rfl⟩
   subst hvj
   have hb4:=bA W3 (ze #[O a1 a2 a3,O a4 a5 a6] 50)
   have hb34:=Ac hb3 hb4
   have hL4:=HL1.o.over h1 hb34
   have HT4:=Aa (hT3.over h1 hb4)
   have hB4:=HB1.o.trans (hb34.mono (HSZ.o _ HB1.o))
   have rowA:=Ae.new [O a1 a2 a3,O a4 a5 a6] 50 W3
   have rowV:=HRV.o.over hb34
   have HL4:=Aa hL4
   have HB4:=Aa hB4
   have HRA:=Aa rowA
   have HP4:=Aa (Ai HPR.o hb34)
   have HQ4:=Aa (Ai HPW.o hb34)
   have HBW4:=Aa (HBW1.o.trans (hb34.mono HBW1.o.size))
   have HVB:Hx (Value.ownBlock (O la ln lc)≠some W3.heap.size/\W3.heap.size≠w1.heap.size/\w1.heap.size < W3.heap.size):=by
    have h3:=hb3.size
    have h4:=HL1.o.lo.2
    refine ⟨fun e=>?_,by omega,by omega⟩
    obtain ⟨-,c,f,he⟩:=B3 HL1.o.vs _ e
    have:=(Array.getElem?_eq_some_iff.1 he).1
    omega
   have HNB:=Aa (Im (W:=W3) (cs:=#[O a1 a2 a3,O a4 a5 a6]) (T:=50) (by decide))
   clear d0 d1 d2 d3 d4 d5 d6 d7 d8 d9 e0 e1 e2 hfr hb3 hT3 hb4 hb34 hL4 hB4 KB1 HL1 HB1 HRV HPR HPW HBW1
   obtain ⟨d0,d1,d2,d3,d4,d5,d6,d7,d8,d9⟩:=Cd HL4.o.row
   obtain ⟨e0,e1,e2⟩:=rc3 rowV
   obtain ⟨f0,f1⟩:=rc2 rowA
   clear rowA rowV
   cases kn with
   | false=>
    have HLb:=HL4
    have HBb:=HB4
    have HT:=HT4
    have hbN:=(Below.refl _ (W3.alloc (ze #[O a1 a2 a3,O a4 a5 a6] 50))).alloc (Nat.le_refl _) (ze #[O a1 a2 a3,O a4 a5 a6] 50)
    have hLN:=HLb.o.over h1 hbN
    have hN:=Ae.new [O a1 a2 a3,O a4 a5 a6] 50 (W3.alloc (ze #[O a1 a2 a3,O a4 a5 a6] 50))
    have hsz:(W3.alloc (ze #[O a1 a2 a3,O a4 a5 a6] 50)).heap.size=(W3.heap.size+1):=by simp
    rw [hsz] at hN
    have HN:=Aa hN
    clear hN hsz
    obtain ⟨us,hous,helu⟩:=hLN.vs
    have HHEL:=Aa helu
    have HOUS:=Aa hous
    have HTN:=Aa (HT.o.over h1 hbN)
    have HLN:=Aa hLN
    have HBW:=Aa (show (w.heap.size+1+1)<=((W3.alloc (ze #[O a1 a2 a3,O a4 a5 a6] 50)).alloc (ze #[O a1 a2 a3,O a4 a5 a6] 50)).heap.size by have:=hLN.lo;omega)
    have hl16:(Cl gs n (vs.take j)).length<=16:=by simp [Cl];omega
    have HBN:=Aa (HBb.o.trans (hbN.mono (HSZ.o _ HBb.o)))
    have dN:=hLN.row 8 _ rfl
    have fN:=hLN.fz 8
    clear hbN hLN helu
    go_wp2_with (at_builtin;refine wpList_append_own_at _ rfl _ _ 42 rfl (w.heap.size+1+1) 50 i0 (zh #[O none 0 0,O none 0 0]) 2 48 Tryz.underlying42 hi hz0 hz1 hz2 rfl (by decide) _ _ _ rfl HOUS.o ⟨(W3.heap.size+1),0,none⟩ 1 1 [O a1 a2 a3,O a4 a5 a6] rfl rfl (fun jj u hu=>by rw [Addr.add_lit,Nat.zero_add];exact HN.o jj u hu) (by simp [Value.oneCell']) (by unfold maxLen;omega) (by omega) HBW.o ?_)
    intro v2 w2 hown2 hgr2 _ hat
    obtain ⟨va2,vn2,vc2,rfl⟩:=Ak hown2
    have hfin:=BW.addV h1 rfl HLN.o HOUS.o HHEL.o HTN.o hown2 hgr2 (by simpa using hat)
    have d2:=hgr2.cell dN (fun hx=>HLN.o.ap2.1 hx.symm)
    have f2:w2.frozen? ⟨w1.heap.size,8,none⟩=false:=(World.frozen?_of_block (a:=⟨w1.heap.size,8,none⟩) (hgr2.block w1.heap.size HLN.o.lo.2 (fun hx=>HLN.o.ap2.1 hx.symm))).trans fN
    have HFIN:=Aa hfin
    clear hfin hown2 hgr2 hat hous dN fN
    go_wp2_with fail
    refine ⟨⟨j+1,va2,vn2,vc2,by omega,by go_num,by rw [HIN.o];exact HFIN.o.1,HBN.o.trans HFIN.o.2⟩,by simp [intOf];omega⟩
   | true=>
    have KL1:=Aa (KL.o la ln lc none 0 0 _ _ lb _ HBW4.o HP4.o HQ4.o HCK.o)
    go_wp2_with fail
    refine (KL1.o).mono ?_
    rintro e W5 ⟨vj,rfl,hfr,hb5⟩
    have hfr2:Be (W3.alloc (ze #[O a1 a2 a3,O a4 a5 a6] 50)) W5 vj (AA (AD gs) n lb):=by simpa using hfr
    have hT5:=C9 hfr2 (FV _ n lb)
    obtain ⟨m1,m2,m3,m4,m5,m6,hvj⟩:∃ a1 a2 a3 a4 a5 a6,vj=zh #[O a1 a2 a3,O a4 a5 a6]:=by
     obtain ⟨x,y,e,-⟩:=Aq hfr2
     subst e
     obtain ⟨z1,z2,z3,z4,z5,z6,rfl,rfl⟩:=AP (Aq hfr2)
     exact ⟨_,_,_,_,_,_,rfl⟩
    subst hvj
    have hlt4:W3.heap.size < (W3.alloc (ze #[O a1 a2 a3,O a4 a5 a6] 50)).heap.size:=by simp
    have nb5:=HNB.o.over hb5 hlt4
    obtain ⟨p0,p1⟩:=co2 hb5 f0 f1
    have z0:W5.frozen? ⟨W3.heap.size,0,none⟩=false:=((Al hb5).2 _ _ hlt4).trans (by simp [go_sem])
    have z1:W5.frozen? ⟨W3.heap.size,1,none⟩=false:=((Al hb5).2 _ _ hlt4).trans (by simp [go_sem])
    have hL5:=HL4.o.over h1 hb5
    have hL6:=(hL5.box (j:=0) (u:=O m1 m2 m3) h1 HVB.o.2.1 HVB.o.1 (by simp [Value.ownBlock]) nb5).box (j:=1) (u:=O m4 m5 m6) h1 HVB.o.2.1 HVB.o.1 (by simp [Value.ownBlock]) nb5.set
    have HLb:=Aa hL6
    have hlo3:(w.heap.size+1+1)<=W3.heap.size:=by have:=HL4.o.lo.1;have:=HVB.o.2.2;omega
    have HBb:=Aa (((HB4.o.trans (hb5.mono (HSZ.o _ HB4.o))).setCell (p:=⟨W3.heap.size,0,none⟩) hlo3 (O m1 m2 m3)).setCell (p:=⟨W3.heap.size,1,none⟩) hlo3 (O m4 m5 m6))
    have HT:=Aa ((hT5.keep h1 (fun k cur fr hk=>(Cj (b:=W3.heap.size) (j:=0) (u:=O m1 m2 m3)).block k (Array.getElem?_eq_some_iff.1 hk).1 (fun e=>by injection e with e;subst e;exact nb5 cur fr hk))).keep h1 (fun k cur fr hk=>(Cj (b:=W3.heap.size) (j:=1) (u:=O m4 m5 m6)).block k (Array.getElem?_eq_some_iff.1 hk).1 (fun e=>by injection e with e;subst e;exact nb5.set cur fr hk)))
    have q0:((W5.setCell ⟨W3.heap.size,0,none⟩ (O m1 m2 m3)).setCell ⟨W3.heap.size,1,none⟩ (O m4 m5 m6)).cell? ⟨W3.heap.size,0,none⟩=some (O m1 m2 m3):=by simp [go_sem,p0]
    have q1:((W5.setCell ⟨W3.heap.size,0,none⟩ (O m1 m2 m3)).setCell ⟨W3.heap.size,1,none⟩ (O m4 m5 m6)).cell? ⟨W3.heap.size,1,none⟩=some (O m4 m5 m6):=by simp [go_sem,p1]
    clear d0 d1 d2 d3 d4 d5 d6 d7 d8 d9 e0 e1 e2 f0 f1 KL1 hfr hfr2 hT5 hL5
    obtain ⟨d0,d1,d2,d3,d4,d5,d6,d7,d8,d9⟩:=Cd hL6.row
    clear hL6 hb5
    have hbN:=(Below.refl _ ((W5.setCell ⟨W3.heap.size,0,none⟩ (O m1 m2 m3)).setCell ⟨W3.heap.size,1,none⟩ (O m4 m5 m6))).alloc (Nat.le_refl _) (ze #[O m1 m2 m3,O m4 m5 m6] 50)
    have hLN:=HLb.o.over h1 hbN
    have hN:=Ae.new [O m1 m2 m3,O m4 m5 m6] 50 ((W5.setCell ⟨W3.heap.size,0,none⟩ (O m1 m2 m3)).setCell ⟨W3.heap.size,1,none⟩ (O m4 m5 m6))
    have hsz:((W5.setCell ⟨W3.heap.size,0,none⟩ (O m1 m2 m3)).setCell ⟨W3.heap.size,1,none⟩ (O m4 m5 m6)).heap.size=W5.heap.size:=by simp [World.setCell]
    rw [hsz] at hN
    have HN:=Aa hN
    clear hN hsz
    obtain ⟨us,hous,helu⟩:=hLN.vs
    have HHEL:=Aa helu
    have HOUS:=Aa hous
    have HTN:=Aa (HT.o.over h1 hbN)
    have HLN:=Aa hLN
    have HBW:=Aa (show (w.heap.size+1+1)<=(((W5.setCell ⟨W3.heap.size,0,none⟩ (O m1 m2 m3)).setCell ⟨W3.heap.size,1,none⟩ (O m4 m5 m6)).alloc (ze #[O m1 m2 m3,O m4 m5 m6] 50)).heap.size by have:=hLN.lo;omega)
    have hl16:(Cl gs n (vs.take j)).length<=16:=by simp [Cl];omega
    have HBN:=Aa (HBb.o.trans (hbN.mono (HSZ.o _ HBb.o)))
    have dN:=hLN.row 8 _ rfl
    have fN:=hLN.fz 8
    clear hbN hLN helu
    go_wp2_with (at_builtin;refine wpList_append_own_at _ rfl _ _ 42 rfl (w.heap.size+1+1) 50 i0 (zh #[O none 0 0,O none 0 0]) 2 48 Tryz.underlying42 hi hz0 hz1 hz2 rfl (by decide) _ _ _ rfl HOUS.o ⟨W5.heap.size,0,none⟩ 1 1 [O m1 m2 m3,O m4 m5 m6] rfl rfl (fun jj u hu=>by rw [Addr.add_lit,Nat.zero_add];exact HN.o jj u hu) (by simp [Value.oneCell']) (by unfold maxLen;omega) (by omega) HBW.o ?_)
    intro v2 w2 hown2 hgr2 _ hat
    obtain ⟨va2,vn2,vc2,rfl⟩:=Ak hown2
    have hfin:=BW.addV h1 rfl HLN.o HOUS.o HHEL.o HTN.o hown2 hgr2 (by simpa using hat)
    have d2:=hgr2.cell dN (fun hx=>HLN.o.ap2.1 hx.symm)
    have f2:w2.frozen? ⟨w1.heap.size,8,none⟩=false:=(World.frozen?_of_block (a:=⟨w1.heap.size,8,none⟩) (hgr2.block w1.heap.size HLN.o.lo.2 (fun hx=>HLN.o.ap2.1 hx.symm))).trans fN
    have HFIN:=Aa hfin
    clear hfin hown2 hgr2 hat hous dN fN
    go_wp2_with fail
    refine ⟨⟨j+1,va2,vn2,vc2,by omega,by go_num,by rw [HIN.o];exact HFIN.o.1,HBN.o.trans HFIN.o.2⟩,by simp [intOf];omega⟩
  ·have hj2:vs.take j=vs:=List.take_of_length_le (by rw [<-HVN.o];omega)
   rw [hj2] at hL
   have HL:=Aa hL
   have HB:=Aa hB
   obtain ⟨c0,c1,c2,c3,c4,c5,c6,c7⟩:=rc8 hrp
   clear hj2 hL hB hBw hrp
   go_wp2_with fail
   go_loopw [41] (fun x wr=>∃ (q:Nat) (ka:Option Addr) (kn2 kc:Nat),q<=fn/\x=U zd q/\BW n (w.heap.size+1+1) w1.heap.size [U zd (n:Int),O ga gn gc,O sa sn sc,O ya yn yc,O oa on oc,O va vn vc,O fa fn fc,O ba bn bc] (Cl gs n vs) (List.replicate q (Bw n)) (O la ln lc) (O ka kn2 kc) wr/\Below (w.heap.size+1+1) V0 wr) (fun x _=>fn - (intOf x).toNat)
   case atStart=>exact ⟨0,none,0,0,Nat.zero_le _,rfl,HL.o,HB.o⟩
   case round=>
    clear c0 c1 c2 c3 c4 c5 c6 c7 HL HB
    obtain ⟨q,ka,kn2,kc,hq,rfl,hL,hB⟩:=hrel
    have HL:=Aa hL
    have HBX:=Aa hB
    obtain ⟨d0,d1,d2,d3,d4,d5,d6,d7,d8,d9⟩:=Cd hL.row
    have KB1:=Aa (KB.o la ln lc ka kn2 kc wr.drew)
    clear hL hB
    by_cases hlt2:q < fn
    ·have hq3:(q:Int) < (fn:Int):=by omega
     go_wp2_with fail
     refine gS (fun Wz=>True) (trivial) fun hHeld=>?_
     refine kT 0 ?_
     refine kT 1 ?_
     refine kT 2 ?_
     refine kT 4 ?_
     refine rdB 3 5 rfl (fun K hK=>?_) rfl fun K hK=>?_
     ·go_simp
      refine xK hK trivial fun hHeld=>?_
      clear hK K
      refine rdA 5 rfl fun K hK=>?_
      go_simp
      refine xK hK trivial fun hHeld=>?_
      clear hK K
      refine rdA 6 rfl fun K hK=>?_
      go_simp
      refine (KB1.o).mono ?_
      rintro e W3 ⟨vj,rfl,hfr,hb3⟩
      have hT3:=C9 hfr (Dc n)
      obtain ⟨a1,a2,a3,a4,a5,a6,hvj⟩:∃ a1 a2 a3 a4 a5 a6,vj=zh #[O a1 a2 a3,O a4 a5 a6]:=by
       obtain ⟨x,y,e,-⟩:=Aq hfr
       subst e
       obtain ⟨z1,z2,z3,z4,z5,z6,rfl,rfl⟩:=AP (Aq hfr)
       exact ⟨_,_,_,_,_,_,rfl⟩
      subst hvj
      have hb3':=Ac (bD wr) hb3
      have hL3:=HL.o.over h1 hb3'
      have hB3:=HBX.o.trans (hb3'.mono (HSZ.o _ HBX.o))
      have x9:=hL3.row 9 _ rfl
      have hbN:=bA W3 (ze #[O a1 a2 a3,O a4 a5 a6] 50)
      have hLN:=hL3.over h1 hbN
      have hN:=Ae.new [O a1 a2 a3,O a4 a5 a6] 50 W3
      obtain ⟨us,hous,helu⟩:=hLN.fs
      have hTN:=hT3.over h1 hbN
      have hBN:=hB3.trans (hbN.mono (HSZ.o _ hB3))
      have y9:=hLN.row 9 _ rfl
      have z9:=hLN.fz 9
      have hBW:(w.heap.size+1+1)<=(W3.alloc (ze #[O a1 a2 a3,O a4 a5 a6] 50)).heap.size:=HSZ.o _ hBN
      obtain ⟨v2,w2,hrun,hown2,hgr2,-,hat⟩:=run_append_own_at (P:=Tryz.prog) (w:=W3.alloc (ze #[O a1 a2 a3,O a4 a5 a6] 50)) (w.heap.size+1+1) 42 42 50 i0 (zh #[O none 0 0,O none 0 0]) 2 48 Tryz.underlying42 hi hz0 hz1 hz2 rfl (by decide) _ _ _ hous ⟨W3.heap.size,0,none⟩ 1 1 [O a1 a2 a3,O a4 a5 a6] rfl (fun jj u hu=>by rw [Addr.add_lit,Nat.zero_add];exact hN jj u hu) (by simp [Value.oneCell']) (by unfold maxLen;simp;omega) (by simp;omega) hBW
      obtain ⟨va2,vn2,vc2,rfl⟩:=Ak hown2
      have hfin:=BW.addF h1 rfl hLN hous helu hTN hown2 hgr2 hat
      have d2:=hgr2.cell y9 (fun hx=>hLN.ap2.2 hx.symm)
      have f2:w2.frozen? ⟨w1.heap.size,9,none⟩=false:=(World.frozen?_of_block (a:=⟨w1.heap.size,9,none⟩) (hgr2.block w1.heap.size hLN.lo.2 (fun hx=>hLN.ap2.2 hx.symm))).trans z9
      have HFIN:=Aa hfin
      have HBN:=Aa hBN
      clear hfin hown2 hgr2 hat hous helu hTN hN hL3 hB3 hb3 hb3' hfr hT3 hbN hLN hBN z9
      go_simp
      refine xK hK trivial fun hHeld=>?_
      clear hK K
      refine rdA 7 rfl fun K hK=>?_
      go_simp
      refine xK hK trivial fun hHeld=>?_
      clear hK K
      refine rdA 8 rfl fun K hK=>?_
      refine Ec rfl _ _ _ rfl _ _ _ _ rfl rfl hrun ?_
      refine xK hK trivial fun hHeld=>?_
      clear hK K
      refine rdA 9 rfl fun K hK=>?_
      go_simp
      refine xK hK trivial fun hHeld=>?_
      clear hK K
      refine rdA 10 rfl fun K hK=>?_
      go_simp
      refine xK hK trivial fun hHeld=>?_
      clear hK K
      refine rdA 11 rfl fun K hK=>?_
      go_simp
      refine xK hK trivial fun hHeld=>?_
      clear hK K
      refine rdA 12 rfl fun K hK=>?_
      go_simp
      refine xK hK trivial fun hHeld=>?_
      clear hK K
      refine gE ?_
      go_wp2_with fail
      refine ⟨⟨q+1,va2,vn2,vc2,by omega,by go_num,by rw [List.replicate_succ'];exact HFIN.o.1,HBN.o.trans HFIN.o.2⟩,by simp [intOf];omega⟩
     ·go_simp
      refine xK hK trivial fun hHeld=>?_
      clear hK K
      refine rdB 3 6 rfl (fun K hK=>?_) rfl fun K hK=>?_
      ·go_simp
       refine xK hK trivial fun hHeld=>?_
       clear hK K
       refine rdA 6 rfl fun K hK=>?_
       go_simp
       refine (KB1.o).mono ?_
       rintro e W3 ⟨vj,rfl,hfr,hb3⟩
       have hT3:=C9 hfr (Dc n)
       obtain ⟨a1,a2,a3,a4,a5,a6,hvj⟩:∃ a1 a2 a3 a4 a5 a6,vj=zh #[O a1 a2 a3,O a4 a5 a6]:=by
        obtain ⟨x,y,e,-⟩:=Aq hfr
        subst e
        obtain ⟨z1,z2,z3,z4,z5,z6,rfl,rfl⟩:=AP (Aq hfr)
        exact ⟨_,_,_,_,_,_,rfl⟩
       subst hvj
       have hb3':=Ac (bD wr) hb3
       have hL3:=HL.o.over h1 hb3'
       have hB3:=HBX.o.trans (hb3'.mono (HSZ.o _ HBX.o))
       have x9:=hL3.row 9 _ rfl
       have hbN:=bA W3 (ze #[O a1 a2 a3,O a4 a5 a6] 50)
       have hLN:=hL3.over h1 hbN
       have hN:=Ae.new [O a1 a2 a3,O a4 a5 a6] 50 W3
       obtain ⟨us,hous,helu⟩:=hLN.fs
       have hTN:=hT3.over h1 hbN
       have hBN:=hB3.trans (hbN.mono (HSZ.o _ hB3))
       have y9:=hLN.row 9 _ rfl
       have z9:=hLN.fz 9
       have hBW:(w.heap.size+1+1)<=(W3.alloc (ze #[O a1 a2 a3,O a4 a5 a6] 50)).heap.size:=HSZ.o _ hBN
       obtain ⟨v2,w2,hrun,hown2,hgr2,-,hat⟩:=run_append_own_at (P:=Tryz.prog) (w:=W3.alloc (ze #[O a1 a2 a3,O a4 a5 a6] 50)) (w.heap.size+1+1) 42 42 50 i0 (zh #[O none 0 0,O none 0 0]) 2 48 Tryz.underlying42 hi hz0 hz1 hz2 rfl (by decide) _ _ _ hous ⟨W3.heap.size,0,none⟩ 1 1 [O a1 a2 a3,O a4 a5 a6] rfl (fun jj u hu=>by rw [Addr.add_lit,Nat.zero_add];exact hN jj u hu) (by simp [Value.oneCell']) (by unfold maxLen;simp;omega) (by simp;omega) hBW
       obtain ⟨va2,vn2,vc2,rfl⟩:=Ak hown2
       have hfin:=BW.addF h1 rfl hLN hous helu hTN hown2 hgr2 hat
       have d2:=hgr2.cell y9 (fun hx=>hLN.ap2.2 hx.symm)
       have f2:w2.frozen? ⟨w1.heap.size,9,none⟩=false:=(World.frozen?_of_block (a:=⟨w1.heap.size,9,none⟩) (hgr2.block w1.heap.size hLN.lo.2 (fun hx=>hLN.ap2.2 hx.symm))).trans z9
       have HFIN:=Aa hfin
       have HBN:=Aa hBN
       clear hfin hown2 hgr2 hat hous helu hTN hN hL3 hB3 hb3 hb3' hfr hT3 hbN hLN hBN z9
       go_simp
       refine xK hK trivial fun hHeld=>?_
       clear hK K
       refine rdA 7 rfl fun K hK=>?_
       go_simp
       refine xK hK trivial fun hHeld=>?_
       clear hK K
       refine rdA 8 rfl fun K hK=>?_
       refine Ec rfl _ _ _ rfl _ _ _ _ rfl rfl hrun ?_
       refine xK hK trivial fun hHeld=>?_
       clear hK K
       refine rdA 9 rfl fun K hK=>?_
       go_simp
       refine xK hK trivial fun hHeld=>?_
       clear hK K
       refine rdA 10 rfl fun K hK=>?_
       go_simp
       refine xK hK trivial fun hHeld=>?_
       clear hK K
       refine rdA 11 rfl fun K hK=>?_
       go_simp
       refine xK hK trivial fun hHeld=>?_
       clear hK K
       refine rdA 12 rfl fun K hK=>?_
       go_simp
       refine xK hK trivial fun hHeld=>?_
       clear hK K
       refine gE ?_
       go_wp2_with fail
       refine ⟨⟨q+1,va2,vn2,vc2,by omega,by go_num,by rw [List.replicate_succ'];exact HFIN.o.1,HBN.o.trans HFIN.o.2⟩,by simp [intOf];omega⟩
      ·go_simp
       refine (KB1.o).mono ?_
       rintro e W3 ⟨vj,rfl,hfr,hb3⟩
       have hT3:=C9 hfr (Dc n)
       obtain ⟨a1,a2,a3,a4,a5,a6,hvj⟩:∃ a1 a2 a3 a4 a5 a6,vj=zh #[O a1 a2 a3,O a4 a5 a6]:=by
        obtain ⟨x,y,e,-⟩:=Aq hfr
        subst e
        obtain ⟨z1,z2,z3,z4,z5,z6,rfl,rfl⟩:=AP (Aq hfr)
        exact ⟨_,_,_,_,_,_,rfl⟩
       subst hvj
       have hb3':=Ac (bD wr) hb3
       have hL3:=HL.o.over h1 hb3'
       have hB3:=HBX.o.trans (hb3'.mono (HSZ.o _ HBX.o))
       have x9:=hL3.row 9 _ rfl
       have hbN:=bA W3 (ze #[O a1 a2 a3,O a4 a5 a6] 50)
       have hLN:=hL3.over h1 hbN
       have hN:=Ae.new [O a1 a2 a3,O a4 a5 a6] 50 W3
       obtain ⟨us,hous,helu⟩:=hLN.fs
       have hTN:=hT3.over h1 hbN
       have hBN:=hB3.trans (hbN.mono (HSZ.o _ hB3))
       have y9:=hLN.row 9 _ rfl
       have z9:=hLN.fz 9
       have hBW:(w.heap.size+1+1)<=(W3.alloc (ze #[O a1 a2 a3,O a4 a5 a6] 50)).heap.size:=HSZ.o _ hBN
       obtain ⟨v2,w2,hrun,hown2,hgr2,-,hat⟩:=run_append_own_at (P:=Tryz.prog) (w:=W3.alloc (ze #[O a1 a2 a3,O a4 a5 a6] 50)) (w.heap.size+1+1) 42 42 50 i0 (zh #[O none 0 0,O none 0 0]) 2 48 Tryz.underlying42 hi hz0 hz1 hz2 rfl (by decide) _ _ _ hous ⟨W3.heap.size,0,none⟩ 1 1 [O a1 a2 a3,O a4 a5 a6] rfl (fun jj u hu=>by rw [Addr.add_lit,Nat.zero_add];exact hN jj u hu) (by simp [Value.oneCell']) (by unfold maxLen;simp;omega) (by simp;omega) hBW
       obtain ⟨va2,vn2,vc2,rfl⟩:=Ak hown2
       have hfin:=BW.addF h1 rfl hLN hous helu hTN hown2 hgr2 hat
       have d2:=hgr2.cell y9 (fun hx=>hLN.ap2.2 hx.symm)
       have f2:w2.frozen? ⟨w1.heap.size,9,none⟩=false:=(World.frozen?_of_block (a:=⟨w1.heap.size,9,none⟩) (hgr2.block w1.heap.size hLN.lo.2 (fun hx=>hLN.ap2.2 hx.symm))).trans z9
       have HFIN:=Aa hfin
       have HBN:=Aa hBN
       clear hfin hown2 hgr2 hat hous helu hTN hN hL3 hB3 hb3 hb3' hfr hT3 hbN hLN hBN z9
       go_simp
       refine xK hK trivial fun hHeld=>?_
       clear hK K
       refine rdB 3 7 rfl (fun K hK=>?_) rfl fun K hK=>?_
       ·go_simp
        refine xK hK trivial fun hHeld=>?_
        clear hK K
        refine rdA 7 rfl fun K hK=>?_
        go_simp
        refine xK hK trivial fun hHeld=>?_
        clear hK K
        refine rdA 8 rfl fun K hK=>?_
        refine Ec rfl _ _ _ rfl _ _ _ _ rfl rfl hrun ?_
        refine xK hK trivial fun hHeld=>?_
        clear hK K
        refine rdA 9 rfl fun K hK=>?_
        go_simp
        refine xK hK trivial fun hHeld=>?_
        clear hK K
        refine rdA 10 rfl fun K hK=>?_
        go_simp
        refine xK hK trivial fun hHeld=>?_
        clear hK K
        refine rdA 11 rfl fun K hK=>?_
        go_simp
        refine xK hK trivial fun hHeld=>?_
        clear hK K
        refine rdA 12 rfl fun K hK=>?_
        go_simp
        refine xK hK trivial fun hHeld=>?_
        clear hK K
        refine gE ?_
        go_wp2_with fail
        refine ⟨⟨q+1,va2,vn2,vc2,by omega,by go_num,by rw [List.replicate_succ'];exact HFIN.o.1,HBN.o.trans HFIN.o.2⟩,by simp [intOf];omega⟩
       ·go_simp
        refine xK hK trivial fun hHeld=>?_
        clear hK K
        refine rdA 3 rfl fun K hK=>?_
        go_simp
        refine xK hK trivial fun hHeld=>?_
        clear hK K
        refine rdA 8 rfl fun K hK=>?_
        refine Ec rfl _ _ _ rfl _ _ _ _ rfl rfl hrun ?_
        refine xK hK trivial fun hHeld=>?_
        clear hK K
        refine rdA 9 rfl fun K hK=>?_
        go_simp
        refine xK hK trivial fun hHeld=>?_
        clear hK K
        refine rdA 10 rfl fun K hK=>?_
        go_simp
        refine xK hK trivial fun hHeld=>?_
        clear hK K
        refine rdA 11 rfl fun K hK=>?_
        go_simp
        refine xK hK trivial fun hHeld=>?_
        clear hK K
        refine rdA 12 rfl fun K hK=>?_
        go_simp
        refine xK hK trivial fun hHeld=>?_
        clear hK K
        refine gE ?_
        go_wp2_with fail
        refine ⟨⟨q+1,va2,vn2,vc2,by omega,by go_num,by rw [List.replicate_succ'];exact HFIN.o.1,HBN.o.trans HFIN.o.2⟩,by simp [intOf];omega⟩
    ·have hq2:fn=q:=by omega
     subst hq2
     have nbw:Ei wr (w.heap.size+1):=fun cur fr he=>NB1.o cur fr ((HBX.o.block (w.heap.size+1) (by omega)) ▸ he)
     have hzr:Ae [U zd 0,O none 0 0,O none 0 0,O none 0 0,O none 0 0,O none 0 0,O none 0 0,O none 0 0,O none 0 0,O none 0 0] wr (w.heap.size+1):=fun i u hu=>(HBX.o.cell (p:=⟨w.heap.size+1,i,none⟩) (by simp)).trans (ZR.o i u hu)
     have hzf:∀ j,wr.frozen? ⟨w.heap.size+1,j,none⟩=false:=fun j=>(HBX.o.frozen (p:=⟨w.heap.size+1,j,none⟩) (by simp)).trans (ZF.o j)
     obtain ⟨z0,z1,z2,z3,z4,z5,z6,z7,z8,z9⟩:=Cd hzr
     have f0:=hzf 0
     have f1:=hzf 1
     have f2:=hzf 2
     have f3:=hzf 3
     have f4:=hzf 4
     have f5:=hzf 5
     have f6:=hzf 6
     have f7:=hzf 7
     have f8:=hzf 8
     have f9:=hzf 9
     have HNW:=Aa nbw
     clear nbw hzr hzf
     go_wp2_with fail
     refine bodyPost_ret (v:=zh #[U zd (n:Int),O ga gn gc,O sa sn sc,O ya yn yc,O oa on oc,O va vn vc,O fa fn fc,O ba bn bc,O la ln lc,O ka kn2 kc]) (by simp [results,Tryz.results54,go_sem,z0,z1,z2,z3,z4,z5,z6,z7,z8,z9]) rfl ⟨la,ln,lc,ka,kn2,kc,rfl,?_,?_,HL.o.ap,?_⟩
     ·refine A3.low (B:=w.heap.size+1+1) ?_ (by omega)
      exact A3.setN h1 (by omega) [U zd (n:Int),O ga gn gc,O sa sn sc,O ya yn yc,O oa on oc,O va vn vc,O fa fn fc,O ba bn bc,O la ln lc,O ka kn2 kc] 0 wr HL.o.vs HNW.o
     ·refine A3.low (B:=w.heap.size+1+1) ?_ (by omega)
      exact A3.setN h1 (by omega) [U zd (n:Int),O ga gn gc,O sa sn sc,O ya yn yc,O oa on oc,O va vn vc,O fa fn fc,O ba bn bc,O la ln lc,O ka kn2 kc] 0 wr HL.o.fs HNW.o
     ·exact Gi (by omega) [U zd (n:Int),O ga gn gc,O sa sn sc,O ya yn yc,O oa on oc,O va vn vc,O fa fn fc,O ba bn bc,O la ln lc,O ka kn2 kc] 0 wr (HB0.o.trans (HBX.o.mono (by omega)))
def XI (c:WC) (bm:Nat):World->Nat->Prop:=fun _ k=>(∃ a,c.la=some a/\k=a.block)\/(∃ a,c.ka=some a/\k=a.block)\/k=bm
theorem EW (c) (bm:Nat):XOk (XI c bm):=⟨fun _ _ _ _ h=>h⟩
structure EU (c:WC) (w0:World) (bw bm:Nat):Prop where
 la:∀ a,c.la=some a->a.off=0/\a.spot=none/\w0.heap.size<=a.block/\a.block≠bw/\a.block≠bm
 ka:∀ a,c.ka=some a->a.off=0/\a.spot=none/\w0.heap.size<=a.block/\a.block≠bw/\a.block≠bm
 lk:∀ a b,c.la=some a->c.ka=some b->a.block≠b.block
 m:w0.heap.size<=bm/\bw≠bm
structure CX (c:WC) (w0:World) (nv nf bw bm:Nat) (st:ISt) (W:World):Prop where
 below:Ov w0 W
 vs:Bd c.n (XI c bm) W (O c.la c.ln c.lc) st.vs
 fs:Bd c.n (XI c bm) W (O c.ka c.kn c.kc) st.fs
 lv:st.vs.length=nv
 lf:st.fs.length=nf
 more:W.cell? ⟨bm,0,none⟩=some (zg st.more)
 mz:W.frozen? ⟨bm,0,none⟩=false
 row:Ae c.cs W bw
 hl:∀ a,c.la=some a->a.block < W.heap.size/\∀ j,W.frozen? ⟨a.block,j,none⟩=false
 hk:∀ a,c.ka=some a->a.block < W.heap.size/\∀ j,W.frozen? ⟨a.block,j,none⟩=false
theorem NG {c:WC} {w0:World} {nv nf bw bm:Nat} {st:ISt} {W:World} (hC:EU c w0 bw bm) (h:CX c w0 nv nf bw bm st W) {W':World} (k:Nat) (hx:XI c bm W' k):k < W.heap.size:=by
 rcases hx with ⟨a,e,rfl⟩ | ⟨a,e,rfl⟩ | rfl
 ·exact (h.hl a e).1
 ·exact (h.hk a e).1
 ·exact bL h.more
theorem CX.over {c:WC} {w0:World} {nv nf bw bm:Nat} {st:ISt} {W W':World} (h:CX c w0 nv nf bw bm st W) (hb:Ov W W'):CX c w0 nv nf bw bm st W':=
 ⟨h.below.trans (hb.mono h.below.size),h.vs.over (EW c bm) hb,h.fs.over (EW c bm) hb,h.lv,h.lf,Ab hb _ _ h.more,((Al hb).2 _ _ (bL h.more)).trans h.mz,h.row.over hb,
  fun a e=>⟨Nat.lt_of_lt_of_le (h.hl a e).1 hb.size,fun j=>((Al hb).2 _ _ (h.hl a e).1).trans ((h.hl a e).2 j)⟩,fun a e=>⟨Nat.lt_of_lt_of_le (h.hk a e).1 hb.size,fun j=>((Al hb).2 _ _ (h.hk a e).1).trans ((h.hk a e).2 j)⟩⟩
theorem O8 {c:WC} {w0:World} {nv bw bm:Nat} {fs:List FnD} {gs:List (Int × Int)} (n1:1<=c.n) (n6:c.n<=6) (gr:Az w0 (O c.ga c.gn c.gc) gs) (chk:AU c.n gs=0) (nv16:nv<=16) (hC:EU c w0 bw bm):Eg c w0 nv fs gs ISt.vs ISt.fs (CX c w0 nv fs.length bw bm) (XI c bm):=
 ⟨n1,n6,gr,chk,nv16,fun st W h=>h.below,fun st W h=>⟨h.vs,h.lv⟩,fun st W h=>⟨h.fs,h.lf⟩,fun st W W' h hb=>h.over hb,EW c bm,fun st W h k hx=>NG hC h k hx⟩
theorem BB {W:World} {b o b' o':Nat} {u:Value} (h:b≠b'\/o≠o'):(W.setCell ⟨b,o,none⟩ u).cell? ⟨b',o',none⟩=W.cell? ⟨b',o',none⟩:=
 World.cell?_setCell_other _ _ _ _ (by intro e;injection e with e1 e2;rcases h with h | h;exact h e1;exact h e2)
theorem Bd.set {n:Nat} {X:World->Nat->Prop} {W W3:World} {b i cap:Nat} {Ls:List Lev} {x y:Value} {l:Lev} (n1:1<=n) (h:Bd n X W (O (some ⟨b,0,none⟩) Ls.length cap) Ls) (hi:i < Ls.length) (hl:AY n X W3 (zh #[x,y]) l)
  (hF:FrW X W W3) (e0:W3.cell? ⟨b,i*2,none⟩=some x) (e1:W3.cell? ⟨b,i*2+1,none⟩=some y) (hc:∀ j u,j≠i*2->j≠i*2+1->W.cell? ⟨b,j,none⟩=some u->W3.cell? ⟨b,j,none⟩=some u):Bd n X W3 (O (some ⟨b,0,none⟩) Ls.length cap) (Ls.set i l):=by
 obtain ⟨ao,cap',hv,hel⟩:=h
 injection hv with v1 v2 v3
 subst v1
 refine ⟨some ⟨b,0,none⟩,cap,by simp,fun _=>⟨b,0,rfl,fun j hj=>?_⟩⟩
 obtain ⟨b',o',hb',hel⟩:=hel (by intro h;rw [h] at hi;simp at hi)
 injection hb' with hb'
 injection hb' with hb1 hb2
 subst hb1 hb2
 simp only [Nat.zero_add] at hel ⊢
 by_cases hij:i=j
 ·subst hij
  refine ⟨x,y,e0,e1,?_⟩
  rw [List.getElem_set_self]
  exact hl
 ·obtain ⟨rv,wv,c0,c1,ho⟩:=hel j (by simpa using hj)
  refine ⟨rv,wv,hc _ _ (by omega) (by omega) c0,hc _ _ (by omega) (by omega) c1,?_⟩
  rw [List.getElem_set_ne hij]
  exact ho.keep n1 hF
theorem Bd.keep {n:Nat} {X:World->Nat->Prop} {W W3:World} {v:Value} {Ls:List Lev} (n1:1<=n) (h:Bd n X W v Ls) (hF:FrW X W W3) (hc:∀ b o ln cp,v=O (some ⟨b,o,none⟩) ln cp->∀ j u,W.cell? ⟨b,j,none⟩=some u->W3.cell? ⟨b,j,none⟩=some u):Bd n X W3 v Ls:=by
 obtain ⟨ao,cap,hv,hel⟩:=h
 refine ⟨ao,cap,hv,fun hne=>?_⟩
 obtain ⟨b,off,hao,hel⟩:=hel hne
 refine ⟨b,off,hao,fun i hi=>?_⟩
 obtain ⟨rv,wv,h1,h2,h3⟩:=hel i hi
 have hk:=hc b off _ _ (by rw [hv,hao])
 exact ⟨rv,wv,hk _ _ h1,hk _ _ h2,h3.keep n1 hF⟩
theorem EU.upd {c:WC} {w0:World} {nv nf bw bm b:Nat} {st:ISt} {W W3:World} {i:Bool × Nat} {l:Lev} {x y:Value} (hC:EU c w0 bw bm) (h:CX c w0 nv nf bw bm st W) (hn:1<=c.n/\(if i.1=true then c.la else c.ka)=some ⟨b,0,none⟩) (hb3:Ov W W3) (hl:AY c.n (XI c bm) W3 (zh #[x,y]) l)
  (h1:i.1=true->i.2 < nv) (h2:i.1=false->i.2 < nf) :
  CX c w0 nv nf bw bm (st.up i l) (((W3.setCell ⟨b,i.2*2,none⟩ x).setCell ⟨b,i.2*2+1,none⟩ y).setCell ⟨bm,0,none⟩ (zg true))/\FrW (XI c bm) W (((W3.setCell ⟨b,i.2*2,none⟩ x).setCell ⟨b,i.2*2+1,none⟩ y).setCell ⟨bm,0,none⟩ (zg true)):=by
 obtain ⟨n1,hib⟩:=hn
 have h3:=h.over hb3
 obtain ⟨W',hW'⟩:∃ W',W'=(((W3.setCell ⟨b,i.2*2,none⟩ x).setCell ⟨b,i.2*2+1,none⟩ y).setCell ⟨bm,0,none⟩ (zg true)):=⟨_,rfl⟩
 rw [<-hW']
 have hxb:XI c bm W3 b:=by
  by_cases hi:i.1=true
  ·rw [if_pos hi] at hib;exact Or.inl ⟨_,hib,rfl⟩
  ·rw [if_neg hi] at hib;exact Or.inr (Or.inl ⟨_,hib,rfl⟩)
 have hbm:b≠bm/\b≠bw/\w0.heap.size<=b:=by
  by_cases hi:i.1=true
  ·rw [if_pos hi] at hib;have:=hC.la _ hib;exact ⟨this.2.2.2.2,this.2.2.2.1,this.2.2.1⟩
  ·rw [if_neg hi] at hib;have:=hC.ka _ hib;exact ⟨this.2.2.2.2,this.2.2.2.1,this.2.2.1⟩
 have hsz:W'.heap.size=W3.heap.size:=by rw [hW'];simp [World.setCell]
 have hblk:∀ k,k≠b->k≠bm->W'.heap[k]? = W3.heap[k]?:=fun k hk hm=>by
  rw [hW',Bj (Ne.symm hm),Bj (Ne.symm hk),Bj (Ne.symm hk)]
 have hF3:FrW (XI c bm) W3 W':=by
  refine ⟨by rw [hW'];rfl,by rw [hW'];rfl,by rw [hW'];rfl,by omega,fun k _ hx=>hblk k (fun e=>hx (e ▸ hxb)) (fun e=>hx (Or.inr (Or.inr e))),fun k _ hx=>hx⟩
 have hF:=(FrW.of_below (EW c bm) hb3).trans hF3
 have cne:∀ b' o' u,b'≠b->b'≠bm->W3.cell? ⟨b',o',none⟩=some u->W'.cell? ⟨b',o',none⟩=some u:=fun b' o' u hb hm hc=>(World.cell?_of_block (a:=⟨b',o',none⟩) (hblk b' hb hm)).trans hc
 have cin:∀ j u,j≠i.2*2->j≠i.2*2+1->W3.cell? ⟨b,j,none⟩=some u->W'.cell? ⟨b,j,none⟩=some u:=fun j u hj hj' hc=>by
  rw [hW',BB (Or.inl hbm.1.symm),BB (Or.inr (Ne.symm hj')),BB (Or.inr (Ne.symm hj))]
  exact hc
 have fzz:∀ b' j,W'.frozen? ⟨b',j,none⟩=W3.frozen? ⟨b',j,none⟩:=fun b' j=>by rw [hW'];simp [go_sem]
 have hl':=hl.keep n1 hF3
 have exs:(∃ u,W3.cell? ⟨b,i.2*2,none⟩=some u)/\∃ u,W3.cell? ⟨b,i.2*2+1,none⟩=some u:=by
  by_cases hi:i.1=true
  ·rw [if_pos hi] at hib
   have hlt:=h1 hi
   obtain ⟨ao,cap,hv,hel⟩:=h3.vs
   injection hv with v1 v2 v3
   obtain ⟨b',o',hb',hel⟩:=hel (by intro e;have:=h3.lv;rw [e] at this;simp at this;omega)
   rw [<-v1,hib] at hb'
   injection hb' with hb'
   injection hb' with hb1 hb2
   subst hb1 hb2
   obtain ⟨rv,wv,c0,c1,-⟩:=hel i.2 (by have:=h3.lv;omega)
   simp only [Nat.zero_add] at c0 c1
   exact ⟨⟨_,c0⟩,_,c1⟩
  ·rw [if_neg hi] at hib
   have hlt:=h2 (by simpa using hi)
   obtain ⟨ao,cap,hv,hel⟩:=h3.fs
   injection hv with v1 v2 v3
   obtain ⟨b',o',hb',hel⟩:=hel (by intro e;have:=h3.lf;rw [e] at this;simp at this;omega)
   rw [<-v1,hib] at hb'
   injection hb' with hb'
   injection hb' with hb1 hb2
   subst hb1 hb2
   obtain ⟨rv,wv,c0,c1,-⟩:=hel i.2 (by have:=h3.lf;omega)
   simp only [Nat.zero_add] at c0 c1
   exact ⟨⟨_,c0⟩,_,c1⟩
 obtain ⟨⟨u0,hu0⟩,u1,hu1⟩:=exs
 have e0:W'.cell? ⟨b,i.2*2,none⟩=some x:=by
  rw [hW',BB (Or.inl hbm.1.symm),BB (Or.inr (by omega))]
  exact World.cell?_setCell_same _ _ _ hu0
 have e1:W'.cell? ⟨b,i.2*2+1,none⟩=some y:=by
  rw [hW',BB (Or.inl hbm.1.symm)]
  exact World.cell?_setCell_same _ _ _ (u:=u1) (by rw [BB (Or.inr (by omega))];exact hu1)
 have hBel:Ov w0 W':=by
  rw [hW']
  exact ((h3.below.setCell (p:=⟨b,i.2*2,none⟩) hbm.2.2 _).setCell (p:=⟨b,i.2*2+1,none⟩) hbm.2.2 _).setCell (p:=⟨bm,0,none⟩) hC.m.1 _
 have hm:W'.cell? ⟨bm,0,none⟩=some (zg true):=by
  rw [hW']
  exact World.cell?_setCell_same _ _ _ (u:=zg st.more) (by rw [BB (Or.inl hbm.1),BB (Or.inl hbm.1)];exact h3.more)
 have hrw:Ae c.cs W' bw:=fun j u hu=>cne _ _ _ (Ne.symm hbm.2.1) hC.m.2 (h3.row j u hu)
 refine ⟨?_,hF⟩
 by_cases hi:i.1=true
 ·rw [if_pos hi] at hib
  have hst:st.up i l=⟨st.vs.set i.2 l,st.fs,true⟩:=by unfold ISt.up;rw [if_pos hi]
  rw [hst]
  obtain ⟨ao,cap,hv,-⟩:=h3.vs
  injection hv with v1 v2 v3
  refine ⟨hBel,?_,h3.fs.keep n1 hF3 (fun b' o' ln cp hv j u hc=>?_),by simpa using h3.lv,h3.lf,hm,(fzz _ _).trans h3.mz,hrw,fun a e=>⟨by rw [hsz];exact (h3.hl a e).1,fun j=>(fzz _ _).trans ((h3.hl a e).2 j)⟩,fun a e=>⟨by rw [hsz];exact (h3.hk a e).1,fun j=>(fzz _ _).trans ((h3.hk a e).2 j)⟩⟩
  ·have:=h3.vs
   rw [hib,v2] at this ⊢
   exact Bd.set n1 this (by have:=h1 hi;have:=h3.lv;omega) hl' hF3 e0 e1 cin
  ·injection hv with v1' v2' v3'
   exact cne _ _ _ (fun e=>hC.lk _ _ hib v1' e.symm) (hC.ka _ v1').2.2.2.2 hc
 ·rw [if_neg hi] at hib
  have hst:st.up i l=⟨st.vs,st.fs.set i.2 l,true⟩:=by unfold ISt.up;rw [if_neg hi]
  rw [hst]
  obtain ⟨ao,cap,hv,-⟩:=h3.fs
  injection hv with v1 v2 v3
  refine ⟨hBel,h3.vs.keep n1 hF3 (fun b' o' ln cp hv j u hc=>?_),?_,h3.lv,by simpa using h3.lf,hm,(fzz _ _).trans h3.mz,hrw,fun a e=>⟨by rw [hsz];exact (h3.hl a e).1,fun j=>(fzz _ _).trans ((h3.hl a e).2 j)⟩,fun a e=>⟨by rw [hsz];exact (h3.hk a e).1,fun j=>(fzz _ _).trans ((h3.hk a e).2 j)⟩⟩
  ·injection hv with v1' v2' v3'
   exact cne _ _ _ (fun e=>hC.lk _ _ v1' hib e) (hC.la _ v1').2.2.2.2 hc
  ·have:=h3.fs
   rw [hib,v2] at this ⊢
   exact Bd.set n1 this (by have:=h2 (by simpa using hi);have:=h3.lf;omega) hl' hF3 e0 e1 cin
end Go.Proofs.YtfffpjkcfnekaaaGreat.Ex
