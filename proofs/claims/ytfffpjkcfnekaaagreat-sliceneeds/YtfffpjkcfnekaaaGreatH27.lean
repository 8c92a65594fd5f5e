/- Commands are copied, whatever they are. -/
import Derived.Test.YtfffpjkcfnekaaaGreatH26
import Derived.Test.YtfffpjkcfnekaaaGreatH24
set_option linter.unusedVariables false
set_option maxHeartbeats 8000000
set_option maxRecDepth 100000
namespace Go.Proofs.YtfffpjkcfnekaaaGreat.Ex
open Go.RowKit
open Go.Value renaming slice -> O, int -> zd, bool -> ze, agg -> zg, pointer -> zi, tuple -> zj
open Go.IntKind renaming i64 -> U
open Go.Obj renaming cells -> zf
open Go.Ending renaming returned -> zh
theorem Tryz.infoGr:(Tryz.prog.info? 169).map (fun i=>(i.zero,i.size,i.bytes))=some (some (zg #[zd U 0,zd U 0]),2,16):=by kernel_rfl
def grV:List (Int × Int)->List Value
 | []=>[]
 | g::gs=>zd U g.1::zd U g.2::grV gs
theorem FY:∀ gs:List (Int × Int),(grV gs).length=gs.length*2
 | []=>rfl
 | g::gs=>by
  have:=FY gs
  simp only [grV,List.length_cons]
  omega
theorem FZ:∀ (gs:List (Int × Int)) (i:Nat) (h:i < gs.length),(grV gs)[i*2]? = some (zd U gs[i].1)/\(grV gs)[i*2+1]? = some (zd U gs[i].2)
 | g::gs,0,_=>⟨rfl,rfl⟩
 | g::gs,i+1,h=>by
  have:=FZ gs i (by simpa using h)
  have e1:(i+1)*2=i*2+1+1:=by omega
  rw [e1]
  exact this
theorem Ig:∀ (gs:List (Int × Int)),∀ u∈grV gs,u.oneCell'=true
 | [],u,h=>by cases h
 | g::gs,u,h=>by
  simp only [grV,List.mem_cons] at h
  rcases h with rfl | rfl | h
  ·rfl
  ·rfl
  ·exact Ig gs u h
theorem Mz {gs:List (Int × Int)} {j:Nat} {u:Value} (h:(grV gs)[j]? = some u):∃ i,∃ hi:i < gs.length,(j=i*2/\u=zd U gs[i].1)\/(j=i*2+1/\u=zd U gs[i].2):=by
 have hj:=(List.getElem?_eq_some_iff.1 h).1
 rw [FY] at hj
 have hi:j / 2 < gs.length:=by omega
 have hg:=FZ gs (j / 2) hi
 refine ⟨j / 2,hi,?_⟩
 rcases Nat.mod_two_eq_zero_or_one j with h0 | h1
 ·have e:j=j / 2*2:=by omega
  refine Or.inl ⟨e,?_⟩
  rw [<-e,h] at hg
  exact Option.some.inj hg.1
 ·have e:j=j / 2*2+1:=by omega
  refine Or.inr ⟨e,?_⟩
  rw [<-e,h] at hg
  exact Option.some.inj hg.2
structure Z8 (b:Nat) (w:World):Prop where
 row:Ad [zd U 0,O none 0 0,O none 0 0,O none 0 0,O none 0 0,O none 0 0,O none 0 0,O none 0 0] w b
 fz:∀ j,w.frozen? ⟨b,j,none⟩=false
theorem Jl (t:Nat) (w:World):Z8 w.heap.size (w.alloc (zf #[zd U 0,O none 0 0,O none 0 0,O none 0 0,O none 0 0,O none 0 0,O none 0 0,O none 0 0] t)):=⟨Ad.newA #[zd U 0,O none 0 0,O none 0 0,O none 0 0,O none 0 0,O none 0 0,O none 0 0,O none 0 0] t w,fun j=>by simp [go_sem]⟩
theorem Z8.over {b:Nat} {w w':World} (h:Z8 b w) (hb:Ov w w'):Z8 b w':=⟨h.row.over hb,fun j=>((AI hb).2 b j (bL (h.row 0 _ rfl))).trans (h.fz j)⟩
def GJ (W:World) (b:Nat) (v0 v1 v2 v3 v4 v5 v6 v7:Value):World:=(((((((W.setCell ⟨b,0,none⟩ v0).setCell ⟨b,1,none⟩ v1).setCell ⟨b,2,none⟩ v2).setCell ⟨b,3,none⟩ v3).setCell ⟨b,4,none⟩ v4).setCell ⟨b,5,none⟩ v5).setCell ⟨b,6,none⟩ v6).setCell ⟨b,7,none⟩ v7
theorem Z8.fill {b:Nat} {W:World} (h:Z8 b W) (v0 v1 v2 v3 v4 v5 v6 v7:Value):Ad [v0,v1,v2,v3,v4,v5,v6,v7] (GJ W b v0 v1 v2 v3 v4 v5 v6 v7) b:=by
 have:=(((((((h.row.set (j:=0) (v:=v0) (by simp)).set (j:=1) (v:=v1) (by simp)).set (j:=2) (v:=v2) (by simp)).set (j:=3) (v:=v3) (by simp)).set (j:=4) (v:=v4) (by simp)).set (j:=5) (v:=v5) (by simp)).set (j:=6) (v:=v6) (by simp)).set (j:=7) (v:=v7) (by simp)
 simpa [GJ] using this
structure PI (w:World) (bs:Nat) (nd:List Bool) (bc a:Nat) (cs:List Value) (P:World->Prop) (W:World):Prop where
 fr:FrW (XC bc) w W
 ci:CI bs nd bc a W
 bq:W.cell? ⟨w.heap.size,0,none⟩=some (zi (some ⟨bc,0,none⟩))
 row:Ad cs W (w.heap.size+1)
 fz:∀ j,W.frozen? ⟨w.heap.size+1,j,none⟩=false
 z8:Z8 (w.heap.size+2) W
 off:Off (w.heap.size+3) none W P
 sz:w.heap.size+3<=W.heap.size
section
variable {w:World} {bs:Nat} {nd:List Bool} {bc a a':Nat} {cs:List Value} {P Q:World->Prop} {W W':World}
theorem PI.call (h:PI w bs nd bc a cs P W) (hb:bc < w.heap.size) (hF:FrW (XC bc) W W') (hC:CI bs nd bc a' W') (hO:Off W.heap.size none W' Q):PI w bs nd bc a' cs (fun X=>P X/\Q X) W':=by
 have hx:∀ k,w.heap.size<=k->∀ X,¬ XC bc X k:=fun k hk X e=>by have e':k=bc:=e;omega
 have h2:w.heap.size+2 < W.heap.size:=h.sz
 refine ⟨h.fr.trans hF,hC,hF.cell h.bq (hx _ (Nat.le_refl _) _),hF.row h.row (hx _ (by omega) _),fun j=>(hF.frozen (by omega) (hx _ (by omega) _)).trans (h.fz j),⟨hF.row h.z8.row (hx _ (by omega) _),fun j=>(hF.frozen h2 (hx _ (by omega) _)).trans (h.z8.fz j)⟩,?_,Nat.le_trans h.sz hF.size⟩
 exact (h.off.keep hF.size (hF.from (by omega))).and hO (Nat.le_refl _) h.sz
theorem PI.store (h:PI w bs nd bc a cs P W) (hb:bc < w.heap.size) (hs:bs < w.heap.size\/nd=[]) {j:Nat} (hj:j < cs.length) (v:Value):PI w bs nd bc a (cs.set j v) P (W.setCell ⟨w.heap.size+1,j,none⟩ v):=by
 refine ⟨FrW.set h.fr (by omega),?_,Ao h.bq (by omega),h.row.set hj,fun j=>AC.trans (h.fz j),⟨Ad.other h.z8.row (by omega),fun j=>AC.trans (h.z8.fz j)⟩,h.off.set (by omega),by simpa [World.setCell] using h.sz⟩
 rcases hs with hs | hs
 ·exact h.ci.set (by omega) (by omega)
 ·subst hs
  exact ⟨Ad.other h.ci.row (by omega),fun j=>AC.trans (h.ci.fz j),fun j u hu=>by simp at hu,h.ci.ne⟩
end
structure M5 (K kf:Nat) (gs:List (Int × Int)) (sp:List Int) (ls ms:List Lab) (vs:List (Bool × Lab)) (fs:List FnD) (l:List D):Prop where
 gB:gs.length<=1000
 sB:sp.length<=1000
 yB:ls.length<=100
 oB:ms.length<=100
 vB:vs.length<=100
 fB:fs.length<=100
 lab:∀ b,b∈ls\/b∈ms\/b∈vs.map Prod.snd->J6 b
 body:∀ f∈fs,f.ps.length<=1000/\(∀ d∈f.body,GK K kf d)/\(AB K f.res).length<=15
 main:∀ d∈l,GK K kf d
theorem AL.of {X:World} {K k:Nat} {a:Option Addr} {c:Nat} {gs:List FnD} {P:Nat->List Value->World->Prop} (hm:gs.length<=1000)
  (h:gs.length≠0->∃ b,a=some ⟨b,0,none⟩/\∀ i,i < gs.length->∃ cs:List Value,cs.length=5/\(∀ j u,cs[j]? = some u->X.cell? ⟨b,i*5+j,none⟩=some u)/\P i cs X)
  (hP:∀ i (hi:i < gs.length) cs,P i cs X->∃ vP vB x0 x1 x2,cs=[vP,vB,x0,x1,x2]/\Aq X vP gs[i].ps/\LO vP gs[i].ps/\AD X K k vB gs[i].body/\RX X K [x0,x1,x2] gs[i].res):AL X K k (O a gs.length c) gs:=by
 refine ⟨Nat.le_trans hm (by unfold maxLen;omega),a,c,rfl,fun hne=>?_⟩
 obtain ⟨b,hb,hel⟩:=h (fun e=>hne (List.eq_nil_of_length_eq_zero e))
 refine ⟨b,0,hb,fun i hi=>?_⟩
 obtain ⟨cs,-,h2,h3⟩:=hel i hi
 obtain ⟨vP,vB,x0,x1,x2,rfl,h4⟩:=hP i hi cs h3
 rw [Nat.zero_add]
 exact ⟨vP,vB,x0,x1,x2,h2 0 _ rfl,h2 1 _ rfl,h2 2 _ rfl,h2 3 _ rfl,h2 4 _ rfl,h4⟩
theorem Hn {m:Int} {K:Nat} {d:D} (h:Am m K d=0):(AB K d).length<=15:=by
 unfold Am at h
 split at h
 ·omega
 ·rename_i h1
  have:=Ec K d 15 (by omega) (by omega)
  omega
theorem D0 {K nv ni no:Nat} {funcs:Int} {fs:List FnD} {k:Nat}:∀ {l:List D},(∀ s∈l,Ey.xS K nv ni no funcs fs k s)->l.length<=Aj k l/\∀ s∈l,Bi k s<=Aj k l
 | [],_=>⟨Nat.le_refl _,fun s hs=>by cases hs⟩
 | d::l,h=>by
  have h1:=D0 (l:=l) (fun s hs=>h s (List.mem_cons_of_mem _ hs))
  have h2:1<=Bi k d:=by
   have:=h d (List.mem_cons_self ..)
   cases k with
   | zero=>exact this.elim
   | succ k=>unfold Bi;omega
  have e:Aj k (d::l)=Bi k d+Aj k l:=by simp [Aj]
  rw [e]
  refine ⟨by simp only [List.length_cons];omega,fun s hs=>?_⟩
  rcases List.mem_cons.1 hs with rfl | hs
  ·omega
  ·have:=h1.2 s hs
   omega
theorem F0 {K nv ni no:Nat} {funcs:Int} {fs:List FnD} (hfn:funcs<=fs.length) (hps:∀ f∈fs,f.ps.length<=4):∀ (k:Nat) (d:D),Ey.xS K nv ni no funcs fs k d->Bi k d<=50->GK K k d
 | 0,d,h,_=>h.elim
 | k+1,d,h,hc=>by
  obtain ⟨⟨h1,hz⟩,hT,hE⟩:=h
  have cT:=D0 hT
  have cE:=D0 hE
  have e:Bi (k+1) d=1+Aj k (Af d)+Aj k (Al d):=rfl
  have hargs:(Ah d).length<=100:=by
   by_cases h2:Ae d=2
   ·obtain ⟨ho,hl,-⟩:=h1.2.2.1 h2
    have hlt:(Ac d).toNat < fs.length:=by omega
    have:=hl _ (List.getElem?_eq_getElem hlt)
    have:=hps _ (List.getElem_mem hlt)
    omega
   ·rw [hz.2.2.2.1 h2]
    simp
  refine ⟨?_,hargs,fun a ha=>?_,fun x hx=>F0 hfn hps k x (hT x hx) (by have:=cT.2 x hx;omega),fun x hx=>F0 hfn hps k x (hE x hx) (by have:=cE.2 x hx;omega)⟩
  ·by_cases h23:Ae d=2\/Ae d=3
   ·have hk:=h1.2.2.2.2.2.1 h23
    cases K with
    | zero=>simp [AB]
    | succ K=>simp [AB,hk.2]
   ·exact Hn (h1.2.2.2.2.1 (by have:=h1.1;omega))
  ·by_cases h2:Ae d=2
   ·exact Hn ((h1.2.2.1 h2).2.2 a ha)
   ·rw [hz.2.2.2.1 h2] at ha
    cases ha
theorem Il {kf:Nat}:∀ {fs:List FnD} {f:FnD},f∈fs->Aj kf f.body<=An kf fs
 | g::fs,f,h=>by
  have e:An kf (g::fs)=Aj kf g.body+An kf fs:=by simp [An]
  rw [e]
  rcases List.mem_cons.1 h with rfl | h
  ·omega
  ·have:=Il (kf:=kf) h
   omega
theorem Lz {K kf:Nat} {m:Int} {vn yn on sn:Nat} {gs:List (Int × Int)} {sp:List Int} {ls ms:List Lab} {vs:List (Bool × Lab)} {fs:List FnD} {l:List D} (hX:Ey.xP K kf m vn yn on sn gs sp ls ms vs fs l) (hv:vn=vs.length) (hy:yn=ls.length) (ho:on=ms.length) (hs:sn=sp.length):M5 K kf gs sp ls ms vs fs l:=by
 obtain ⟨n,hn,h1,h6,hg,h20,-⟩:=Hk hX.chk
 have hlim:=hX.lim
 have hm:=hX.many.1
 have hps:∀ f∈fs,f.ps.length<=4:=fun f hf=>by
  obtain ⟨i,hi,rfl⟩:=List.getElem_of_mem hf
  exact (hX.body i hi).1
 have lab:∀ b,Co m gs b=0->J6 b:=fun b hb=>by
  obtain ⟨n',-,-,-,-,-,-,hin,-⟩:=Lg hb
  exact ⟨⟨Nat.le_trans hin.1.1 (by omega),Nat.le_trans hin.2.1 (by omega)⟩,fun p hp=>Nat.le_trans (hin.1.2 p hp).2.1 (by omega),fun p hp=>Nat.le_trans (hin.2.2 p hp).2.1 (by omega)⟩
 have cM:=D0 hX.main
 refine ⟨?_,by omega,by omega,by omega,by omega,by omega,fun b hb=>?_,fun f hf=>?_,fun d hd=>F0 (Int.le_refl _) hps kf d (hX.main d hd) (by have:=cM.2 d hd;omega)⟩
 ·have:(Fj gs).length=gs.length:=by simp [Fj]
  omega
 ·rcases hb with hb | hb | hb
  ·exact lab b (hX.labs.1 b (List.mem_append_left _ hb))
  ·exact lab b (hX.labs.1 b (List.mem_append_right _ hb))
  ·obtain ⟨v,hv,rfl⟩:=List.mem_map.1 hb
   exact lab _ (hX.labs.2.1 v hv)
 ·obtain ⟨i,hi,rfl⟩:=List.getElem_of_mem hf
  obtain ⟨b1,b2,b3,b4,b5⟩:=hX.body i hi
  have cB:=D0 b4
  have cF:=Il (kf:=kf) (List.getElem_mem hi)
  exact ⟨by omega,fun d hd=>F0 (by omega) hps kf d (b4 d hd) (by have:=cB.2 d hd;omega),Hn b5⟩
end Go.Proofs.YtfffpjkcfnekaaaGreat.Ex
