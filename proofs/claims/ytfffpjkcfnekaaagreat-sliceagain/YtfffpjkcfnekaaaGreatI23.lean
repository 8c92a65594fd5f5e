/- Commands are copied, whatever they are. -/
import Derived.Test.YtfffpjkcfnekaaaGreatI22
import Derived.Test.YtfffpjkcfnekaaaGreatI18
set_option linter.unusedVariables false
set_option maxHeartbeats 8000000
set_option maxRecDepth 100000
namespace Go.Proofs.YtfffpjkcfnekaaaGreat.Ex
open Go.RowKit
open Go.Value renaming slice -> O, int -> zd, bool -> zg, agg -> zh, pointer -> zj, tuple -> zm
open Go.IntKind renaming i64 -> U
open Go.Obj renaming cells -> ze
open Go.Ending renaming returned -> zk
theorem Tryz.infoGr:(Tryz.prog.info? 169).map (fun i=>(i.zero,i.size,i.bytes))=some (some (zh #[zd U 0,zd U 0]),2,16):=by kernel_rfl
def grV:List (Int × Int)->List Value
 | []=>[]
 | g::gs=>zd U g.1::zd U g.2::grV gs
theorem Jc:∀ gs:List (Int × Int),(grV gs).length=gs.length*2
 | []=>rfl
 | g::gs=>by
  have:=Jc gs;simp only [grV,List.length_cons];omega
theorem Jd:∀ (gs:List (Int × Int)) (i:Nat) (h:i < gs.length),(grV gs)[i*2]? = some (zd U gs[i].1)/\(grV gs)[i*2+1]? = some (zd U gs[i].2)
 | g::gs,0,_=>⟨rfl,rfl⟩
 | g::gs,i+1,h=>by
  have:=Jd gs i (by simpa using h);have e1:(i+1)*2=i*2+1+1:=by omega
  rw [e1];exact this
theorem Mx:∀ (gs:List (Int × Int)),∀ u∈grV gs,u.oneCell'=true
 | [],u,h=>by cases h
 | g::gs,u,h=>by
  simp only [grV,List.mem_cons] at h;rcases h with rfl | rfl | h
  ·rfl
  ·rfl
  ·exact Mx gs u h
theorem RK {gs:List (Int × Int)} {j:Nat} {u:Value} (h:(grV gs)[j]? = some u):∃ i,∃ hi:i < gs.length,(j=i*2/\u=zd U gs[i].1)\/(j=i*2+1/\u=zd U gs[i].2):=by
 have c:=(List.getElem?_eq_some_iff.1 h).1;rw [Jc] at c;have hi:j / 2 < gs.length:=by omega
 have b:=Jd gs (j / 2) hi;refine ⟨j / 2,hi,?_⟩;rcases Nat.mod_two_eq_zero_or_one j with d | h1
 ·have e:j=j / 2*2:=by omega
  refine Or.inl ⟨e,?_⟩;rw [<-e,h] at b;exact Option.some.inj b.1
 ·have e:j=j / 2*2+1:=by omega
  refine Or.inr ⟨e,?_⟩;rw [<-e,h] at b;exact Option.some.inj b.2
structure Z8 (b:Nat) (w:World):Prop where
 row:Ad [zd U 0,O none 0 0,O none 0 0,O none 0 0,O none 0 0,O none 0 0,O none 0 0,O none 0 0] w b
 fz:∀ j,w.frozen? ⟨b,j,none⟩=false
theorem NV (t:Nat) (w:World):Z8 w.heap.size (w.alloc (ze #[zd U 0,O none 0 0,O none 0 0,O none 0 0,O none 0 0,O none 0 0,O none 0 0,O none 0 0] t)):=⟨Ad.newA #[zd U 0,O none 0 0,O none 0 0,O none 0 0,O none 0 0,O none 0 0,O none 0 0,O none 0 0] t w,fun j=>by simp [go_sem]⟩
theorem Z8.over {b:Nat} {w w':World} (h:Z8 b w) (hb:Ov w w'):Z8 b w':=⟨h.row.over hb,fun j=>((Am hb).2 b j (bL (h.row 0 _ rfl))).trans (h.fz j)⟩
def Kh (W:World) (b:Nat) (v0 v1 v2 v3 v4 v5 v6 v7:Value):World:=(((((((W.setCell ⟨b,0,none⟩ v0).setCell ⟨b,1,none⟩ v1).setCell ⟨b,2,none⟩ v2).setCell ⟨b,3,none⟩ v3).setCell ⟨b,4,none⟩ v4).setCell ⟨b,5,none⟩ v5).setCell ⟨b,6,none⟩ v6).setCell ⟨b,7,none⟩ v7
theorem Z8.fill {b:Nat} {W:World} (h:Z8 b W) (v0 v1 v2 v3 v4 v5 v6 v7:Value):Ad [v0,v1,v2,v3,v4,v5,v6,v7] (Kh W b v0 v1 v2 v3 v4 v5 v6 v7) b:=by
 have:=(((((((h.row.set (j:=0) (v:=v0) (by simp)).set (j:=1) (v:=v1) (by simp)).set (j:=2) (v:=v2) (by simp)).set (j:=3) (v:=v3) (by simp)).set (j:=4) (v:=v4) (by simp)).set (j:=5) (v:=v5) (by simp)).set (j:=6) (v:=v6) (by simp)).set (j:=7) (v:=v7) (by simp);simpa [Kh] using this
structure PI (w:World) (bs:Nat) (nd:List Bool) (bc a:Nat) (cs:List Value) (P:World->Prop) (W:World):Prop where
 fr:FrW (XC bc) w W
 ci:CI bs nd bc a W
 bq:W.cell? ⟨w.heap.size,0,none⟩=some (zj (some ⟨bc,0,none⟩))
 row:Ad cs W (w.heap.size+1)
 fz:∀ j,W.frozen? ⟨w.heap.size+1,j,none⟩=false
 z8:Z8 (w.heap.size+2) W
 off:Off (w.heap.size+3) none W P
 sz:w.heap.size+3<=W.heap.size
section
variable {w:World} {bs:Nat} {nd:List Bool} {bc a a':Nat} {cs:List Value} {P Q:World->Prop} {W W':World}
theorem PI.call (h:PI w bs nd bc a cs P W) (hb:bc < w.heap.size) (hF:FrW (XC bc) W W') (hC:CI bs nd bc a' W') (hO:Off W.heap.size none W' Q):PI w bs nd bc a' cs (fun X=>P X/\Q X) W':=by
 have b:∀ k,w.heap.size<=k->∀ X,¬ XC bc X k:=fun k hk X e=>by have d:k=bc:=e;omega
 have c:w.heap.size+2 < W.heap.size:=h.sz;refine ⟨h.fr.trans hF,hC,hF.cell h.bq (b _ (Nat.le_refl _) _),hF.row h.row (b _ (by omega) _),fun j=>(hF.frozen (by omega) (b _ (by omega) _)).trans (h.fz j),⟨hF.row h.z8.row (b _ (by omega) _),fun j=>(hF.frozen c (b _ (by omega) _)).trans (h.z8.fz j)⟩,?_,Nat.le_trans h.sz hF.size⟩;exact (h.off.keep hF.size (hF.from (by omega))).and hO (Nat.le_refl _) h.sz
theorem PI.store (h:PI w bs nd bc a cs P W) (hb:bc < w.heap.size) (hs:bs < w.heap.size\/nd=[]) {j:Nat} (hj:j < cs.length) (v:Value):PI w bs nd bc a (cs.set j v) P (W.setCell ⟨w.heap.size+1,j,none⟩ v):=by
 refine ⟨FrW.set h.fr (by omega),?_,Aq h.bq (by omega),h.row.set hj,fun j=>AM.trans (h.fz j),⟨Ad.other h.z8.row (by omega),fun j=>AM.trans (h.z8.fz j)⟩,h.off.set (by omega),by simpa [World.setCell] using h.sz⟩;rcases hs with hs | hs
 ·exact h.ci.set (by omega) (by omega)
 ·subst hs
  exact ⟨Ad.other h.ci.row (by omega),fun j=>AM.trans (h.ci.fz j),fun j u b=>by simp at b,h.ci.ne⟩
end
structure RN (K kf:Nat) (gs:List (Int × Int)) (sp:List Int) (ls ms:List Lab) (vs:List (Bool × Lab)) (fs:List FnD) (l:List D):Prop where
 gB:gs.length<=1000
 sB:sp.length<=1000
 yB:ls.length<=100
 oB:ms.length<=100
 vB:vs.length<=100
 fB:fs.length<=100
 lab:∀ b,b∈ls\/b∈ms\/b∈vs.map Prod.snd->LK b
 body:∀ f∈fs,f.ps.length<=1000/\(∀ d∈f.body,Ki K kf d)/\(AO K f.res).length<=15
 main:∀ d∈l,Ki K kf d
theorem Bi.of {X:World} {K k:Nat} {a:Option Addr} {c:Nat} {gs:List FnD} {P:Nat->List Value->World->Prop} (hm:gs.length<=1000)
  (h:gs.length≠0->∃ b,a=some ⟨b,0,none⟩/\∀ i,i < gs.length->∃ cs:List Value,cs.length=5/\(∀ j u,cs[j]? = some u->X.cell? ⟨b,i*5+j,none⟩=some u)/\P i cs X)
  (hP:∀ i (hi:i < gs.length) cs,P i cs X->∃ vP vB x0 x1 x2,cs=[vP,vB,x0,x1,x2]/\AQ X vP gs[i].ps/\QC vP gs[i].ps/\AI X K k vB gs[i].body/\RX X K [x0,x1,x2] gs[i].res):Bi X K k (O a gs.length c) gs:=by
 refine ⟨Nat.le_trans hm (by unfold maxLen;omega),a,c,rfl,fun f=>?_⟩;obtain ⟨b,l,g⟩:=h (fun e=>f (List.eq_nil_of_length_eq_zero e));refine ⟨b,0,l,fun i hi=>?_⟩;obtain ⟨cs,-,d,q⟩:=g i hi;obtain ⟨vP,vB,x0,x1,x2,rfl,p⟩:=hP i hi cs q;rw [Nat.zero_add];exact ⟨vP,vB,x0,x1,x2,d 0 _ rfl,d 1 _ rfl,d 2 _ rfl,d 3 _ rfl,d 4 _ rfl,p⟩
theorem LW {m:Int} {K:Nat} {d:D} (h:AF m K d=0):(AO K d).length<=15:=by
 unfold AF at h;split at h
 ·omega
 ·rename_i b
  have:=FY K d 15 (by omega) (by omega);omega
theorem FB {K nv ni no:Nat} {funcs:Int} {fs:List FnD} {k:Nat}:∀ {l:List D},(∀ s∈l,Ey.xS K nv ni no funcs fs k s)->l.length<=Ai k l/\∀ s∈l,BD k s<=Ai k l
 | [],_=>⟨Nat.le_refl _,fun s hs=>by cases hs⟩
 | d::l,h=>by
  have h1:=FB (l:=l) (fun s hs=>h s (List.mem_cons_of_mem _ hs));have h2:1<=BD k d:=by
   have:=h d (List.mem_cons_self ..)
   cases k with
   | zero=>exact this.elim
   | succ k=>unfold BD;omega
  have e:Ai k (d::l)=BD k d+Ai k l:=by simp [Ai]
  rw [e];refine ⟨by simp only [List.length_cons];omega,fun s hs=>?_⟩;rcases List.mem_cons.1 hs with rfl | hs
  ·omega
  ·have:=h1.2 s hs
   omega
theorem Jh {K nv ni no:Nat} {funcs:Int} {fs:List FnD} (hfn:funcs<=fs.length) (hps:∀ f∈fs,f.ps.length<=4):∀ (k:Nat) (d:D),Ey.xS K nv ni no funcs fs k d->BD k d<=50->Ki K k d
 | 0,d,h,_=>h.elim
 | k+1,d,h,hc=>by
  obtain ⟨⟨h1,hz⟩,hT,hE⟩:=h;have cT:=FB hT;have cE:=FB hE;have e:BD (k+1) d=1+Ai k (Ag d)+Ai k (Ak d):=rfl;have hargs:(Al d).length<=100:=by
   by_cases h2:Af d=2
   ·obtain ⟨i,hl,-⟩:=h1.2.2.1 h2
    have c:(Ae d).toNat < fs.length:=by omega
    have:=hl _ (List.getElem?_eq_getElem c);have:=hps _ (List.getElem_mem c);omega
   ·rw [hz.2.2.2.1 h2]
    simp
  refine ⟨?_,hargs,fun a g=>?_,fun x b=>Jh hfn hps k x (hT x b) (by have:=cT.2 x b;omega),fun x b=>Jh hfn hps k x (hE x b) (by have:=cE.2 x b;omega)⟩
  ·by_cases h23:Af d=2\/Af d=3
   ·have hk:=h1.2.2.2.2.2.1 h23
    cases K with
    | zero=>simp [AO]
    | succ K=>simp [AO,hk.2]
   ·exact LW (h1.2.2.2.2.1 (by have:=h1.1;omega))
  ·by_cases h2:Af d=2
   ·exact LW ((h1.2.2.1 h2).2.2 a g)
   ·rw [hz.2.2.2.1 h2] at g
    cases g
theorem MG {kf:Nat}:∀ {fs:List FnD} {f:FnD},f∈fs->Ai kf f.body<=Ap kf fs
 | g::fs,f,h=>by
  have e:Ap kf (g::fs)=Ai kf g.body+Ap kf fs:=by simp [Ap]
  rw [e];rcases List.mem_cons.1 h with rfl | h
  ·omega
  ·have:=MG (kf:=kf) h
   omega
theorem MD {K kf:Nat} {m:Int} {vn yn on sn:Nat} {gs:List (Int × Int)} {sp:List Int} {ls ms:List Lab} {vs:List (Bool × Lab)} {fs:List FnD} {l:List D} (hX:Ey.xP K kf m vn yn on sn gs sp ls ms vs fs l) (hv:vn=vs.length) (hy:yn=ls.length) (ho:on=ms.length) (hs:sn=sp.length):RN K kf gs sp ls ms vs fs l:=by
 obtain ⟨n,F,J,I,H,z,-⟩:=Fh hX.chk;have u:=hX.lim;have G:=hX.many.1;have g:∀ f∈fs,f.ps.length<=4:=fun f t=>by
  obtain ⟨i,q,rfl⟩:=List.getElem_of_mem t;exact (hX.body i q).1
 have lab:∀ b,Bs m gs b=0->LK b:=fun b hb=>by
  obtain ⟨E,-,-,-,-,-,-,c,-⟩:=Mu hb;exact ⟨⟨Nat.le_trans c.1.1 (by omega),Nat.le_trans c.2.1 (by omega)⟩,fun p s=>Nat.le_trans (c.1.2 p s).2.1 (by omega),fun p s=>Nat.le_trans (c.2.2 p s).2.1 (by omega)⟩
 have A:=FB hX.main;refine ⟨?_,by omega,by omega,by omega,by omega,by omega,fun b hb=>?_,fun f t=>?_,fun d k=>Jh (Int.le_refl _) g kf d (hX.main d k) (by have:=A.2 d k;omega)⟩
 ·have:(AE gs).length=gs.length:=by simp [AE]
  omega
 ·rcases hb with hb | hb | hb
  ·exact lab b (hX.labs.1 b (List.mem_append_left _ hb))
  ·exact lab b (hX.labs.1 b (List.mem_append_right _ hb))
  ·obtain ⟨v,hv,rfl⟩:=List.mem_map.1 hb
   exact lab _ (hX.labs.2.1 v hv)
 ·obtain ⟨i,q,rfl⟩:=List.getElem_of_mem t
  obtain ⟨O,N,M,y,C⟩:=hX.body i q;have B:=FB y;have L:=MG (kf:=kf) (List.getElem_mem q);exact ⟨by omega,fun d k=>Jh (by omega) g kf d (y d k) (by have:=B.2 d k;omega),LW C⟩
end Go.Proofs.YtfffpjkcfnekaaaGreat.Ex
