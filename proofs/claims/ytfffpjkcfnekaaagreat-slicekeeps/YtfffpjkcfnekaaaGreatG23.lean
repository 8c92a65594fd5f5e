/- What a run does, as plain data: by gas. -/
import Derived.Test.YtfffpjkcfnekaaaGreatG13
set_option linter.unusedVariables false
set_option maxHeartbeats 8000000
set_option maxRecDepth 100000
namespace Go.Proofs.YtfffpjkcfnekaaaGreat.Ex
open Go.RowKit
open Go.Value renaming slice -> O, int -> zd, bool -> ze, agg -> zg, pointer -> zi, tuple -> zj
open Go.IntKind renaming i64 -> U
open Go.Obj renaming cells -> zf
open Go.Ending renaming returned -> zh
abbrev Ev4:=Int × Int × Int × Int
structure WSt where
 vs:List Lev
 ps:List Lev
abbrev Ob:=Nat->Int->Nat->D->WSt->Bool × WSt
def AB:Ob:=fun _ _ _ _ s=>(true,s)
structure RSt where
 ev:List Ev4
 vars:List Int
 taken:List Int
 steps:Nat
 en:Int
 sp:Int
 o:WSt
def RSt.step (st:RSt):RSt:={ st with steps:=st.steps+1 }
def RSt.out (st:RSt):RSt:={ st with en:=2 }
def RSt.setv (st:RSt) (v x:Int):RSt:={ st with vars:=st.vars.set v.toNat x }
def RSt.tell (st:RSt) (e:Ev4):RSt:={ st with ev:=st.ev++[e] }
def RSt.took (st:RSt) (c:Int):RSt:={ st with taken:=st.taken.set c.toNat (st.taken.getD c.toNat 0+1) }
def RSt.held (st:RSt) (o:WSt):RSt:={ st with o:=o }
def RSt.stop (st:RSt) (a:Int) (o:WSt):RSt:={ st with o:=o,en:=3,sp:=a }
def Cp (ins:List (List Int)) (st:RSt) (c:Int):Int:=(ins.getD c.toNat []).getD (st.taken.getD c.toNat 0).toNat 0
def AV (vs:List Int) (l:List (Int × Int)):List Int:=l.foldl (fun vs q=>vs.set q.1.toNat q.2) vs
def AL (r:Bool × RSt) (f:RSt->Bool × RSt):Bool × RSt:=if r.1=true then f r.2 else r
def Be (ob:Ob) (kind:Nat) (a:Int) (dp:Nat) (d:D) (st:RSt):Bool × RSt:=
 if (ob kind a dp d st.o).1=true then (true,st.held (ob kind a dp d st.o).2) else (false,st.stop a (ob kind a dp d st.o).2)
def CP (K:Nat) (ins:List (List Int)) (d:D) (a:Int) (st:RSt):RSt:=
 if Ad d=1 then st.setv (Aq d) (Av st.vars K (Ao d))
 else if Ad d=3 then (st.took (Ac d)).setv (Aq d) (Cp ins st (Ac d))
 else if Ad d=4 then st.tell (1,a,Ac d,Av st.vars K (Ao d))
 else if Ad d=5 then (st.setv (Aq d) (Av st.vars K (Ao d))).tell (2,a,Aq d,Av st.vars K (Ao d))
 else if Ad d=6 then (st.setv (Aq d) (Av st.vars K (Ao d))).tell (3,a,Aq d,Av st.vars K (Ao d))
 else st
def RSt.args (K:Nat) (fs:List FnD) (d:D) (st:RSt):RSt:={ st with vars:=AV st.vars ((AN fs (Ac d)).ps.zip ((Ak d).map (Av st.vars K))) }
def rn (K kf:Nat) (fs:List FnD) (F:Nat) (ins:List (List Int)) (ob:Ob):Nat->Nat->Nat->List D->Int->Nat->RSt->Bool × RSt
 | 0,_,_,_,_,_,st=>(false,st)
 | g+1,0,k,l,a,dp,st=>
  match l with
  | []=>(true,st)
  | d::r=>if st.steps=F then (false,st.out) else AL (Be ob 1 a dp d st.step) (fun st1=>AL (rn K kf fs F ins ob g 1 k [d] a dp st1) (fun st'=>rn K kf fs F ins ob g 0 k r (a+A5 k d) dp st'))
 | g+1,1,k,l,a,dp,st=>
  match l with
  | []=>(true,st)
  | d::_=>
   if Ad d=2 then AL (rn K kf fs F ins ob g 0 kf (AN fs (Ac d)).body (Am kf (fs.take (Ac d).toNat)) dp (st.args K fs d)) (fun st1=>AL (Be ob 3 a dp d st1) (fun st'=>(true,st'.setv (Aq d) (Av st'.vars K (AN fs (Ac d)).res))))
   else if Ad d=7 then (if Av st.vars K (Ao d)=0 then rn K kf fs F ins ob g 0 (k - 1) (Aj d) (a+1+Ai (k - 1) (Ae d)) (dp+1) st else rn K kf fs F ins ob g 0 (k - 1) (Ae d) (a+1) (dp+1) st)
   else if Ad d=8 then rn K kf fs F ins ob g 2 k [d] a dp st
   else (true,CP K ins d a st)
 | g+1,_+2,k,l,a,dp,st=>
  match l with
  | []=>(true,st)
  | d::_=>if Av st.vars K (Ao d)=0 then (true,st) else AL (rn K kf fs F ins ob g 0 (k - 1) (Ae d) (a+1) (dp+1) st) (fun st'=>if st'.steps=F then (false,st'.out) else AL (Be ob 2 a dp d st'.step) (fun st1=>rn K kf fs F ins ob g 2 k [d] a dp st1))
structure Gr (st st':RSt):Prop where
 ev:st.ev <+: st'.ev
 steps:st.steps<=st'.steps
 len:st'.taken.length=st.taken.length
 taken:∀ c,st.taken.getD c 0<=st'.taken.getD c 0
theorem Gr.refl (st:RSt):Gr st st:=⟨List.prefix_rfl,Nat.le_refl _,rfl,fun _=>Int.le_refl _⟩
theorem Gr.trans {a b c:RSt} (h:Gr a b) (k:Gr b c):Gr a c:=⟨h.ev.trans k.ev,Nat.le_trans h.steps k.steps,k.len.trans h.len,fun x=>Int.le_trans (h.taken x) (k.taken x)⟩
theorem Gr.step (st:RSt):Gr st st.step:=⟨List.prefix_rfl,Nat.le_succ _,rfl,fun _=>Int.le_refl _⟩
theorem Gr.setv (st:RSt) (v x:Int):Gr st (st.setv v x):=⟨List.prefix_rfl,Nat.le_refl _,rfl,fun _=>Int.le_refl _⟩
theorem Gr.tell (st:RSt) (e:Ev4):Gr st (st.tell e):=⟨List.prefix_append _ _,Nat.le_refl _,rfl,fun _=>Int.le_refl _⟩
theorem Gr.args (K:Nat) (fs d) (st:RSt):Gr st (st.args K fs d):=⟨List.prefix_rfl,Nat.le_refl _,rfl,fun _=>Int.le_refl _⟩
theorem BJ {l:List Int} {i j:Nat} {x:Int}:(l.set i x).getD j 0=if i=j/\i < l.length then x else l.getD j 0:=by
 rw [List.getD_eq_getElem?_getD,List.getD_eq_getElem?_getD,List.getElem?_set]
 by_cases h:i=j
 ·subst h
  by_cases h2:i < l.length
  ·simp [h2]
  ·simp [h2]
 ·simp [h]
theorem Gr.took (st:RSt) (c:Int):Gr st (st.took c):=⟨List.prefix_rfl,Nat.le_refl _,by simp [RSt.took],fun x=>by
 simp only [RSt.took,BJ]
 split
 ·rename_i h
  rw [<-h.1]
  omega
 ·exact Int.le_refl _⟩
theorem Gr.one (K:Nat) (ins d) (a:Int) (st:RSt):Gr st (CP K ins d a st):=by
 unfold CP
 split
 ·exact Gr.setv _ _ _
 ·split
  ·exact (Gr.took _ _).trans (Gr.setv _ _ _)
  ·split
   ·exact Gr.tell _ _
   ·split
    ·exact (Gr.setv _ _ _).trans (Gr.tell _ _)
    ·split
     ·exact (Gr.setv _ _ _).trans (Gr.tell _ _)
     ·exact Gr.refl _
theorem Gr.out (st:RSt):Gr st st.out:=⟨List.prefix_rfl,Nat.le_refl _,rfl,fun _=>Int.le_refl _⟩
theorem Gr.pass (ob:Ob) (kind:Nat) (a:Int) (dp:Nat) (d) (st:RSt):Gr st (Be ob kind a dp d st).2:=by
 unfold Be
 split
 ·exact ⟨List.prefix_rfl,Nat.le_refl _,rfl,fun _=>Int.le_refl _⟩
 ·exact ⟨List.prefix_rfl,Nat.le_refl _,rfl,fun _=>Int.le_refl _⟩
theorem CN (ob:Ob) (kind:Nat) (a:Int) (dp:Nat) (d) (st:RSt):(Be ob kind a dp d st).2.steps=st.steps:=by
 unfold Be
 split <;> rfl
theorem BF {st:RSt} {r:Bool × RSt} {f:RSt->Bool × RSt} (h:Gr st r.2) (hf:∀ st',Gr st' (f st').2):Gr st (AL r f).2:=by
 unfold AL
 split
 ·exact h.trans (hf _)
 ·exact h
theorem BS (K kf:Nat) (fs) (F:Nat) (ins) (ob:Ob):∀ (g m k:Nat) (l:List D) (a:Int) (dp:Nat) (st:RSt),Gr st (rn K kf fs F ins ob g m k l a dp st).2:=by
 intro g
 induction g with
 | zero=>intro m k l a dp st;exact Gr.refl _
 | succ g ih=>
  intro m k l a dp st
  match m,l with
  | 0,[]=>exact Gr.refl _
  | 0,d::r=>
   simp only [rn]
   split
   ·exact Gr.out _
   ·exact BF ((Gr.step st).trans (Gr.pass _ _ _ _ _ _)) (fun st1=>BF (ih _ _ _ _ _ _) (fun st'=>ih _ _ _ _ _ _))
  | 1,[]=>exact Gr.refl _
  | 1,d::r=>
   simp only [rn]
   split
   ·exact BF ((Gr.args K fs d st).trans (ih _ _ _ _ _ _)) (fun st1=>BF (Gr.pass _ _ _ _ _ _) (fun st'=>Gr.setv _ _ _))
   ·split
    ·split
     ·exact ih _ _ _ _ _ _
     ·exact ih _ _ _ _ _ _
    ·split
     ·exact ih _ _ _ _ _ _
     ·exact Gr.one _ _ _ _ _
  | m+2,[]=>exact Gr.refl _
  | m+2,d::r=>
   simp only [rn]
   split
   ·exact Gr.refl _
   ·refine BF (ih _ _ _ _ _ _) (fun st'=>?_)
    split
    ·exact Gr.out _
    ·exact BF ((Gr.step st').trans (Gr.pass _ _ _ _ _ _)) (fun st1=>ih _ _ _ _ _ _)
def DL (F:Nat) (a b:Bool × RSt):Prop:=a.2.steps<=F/\((a.1=true/\b=a)\/(a.1=false/\a.2.steps=F/\a.2.en=2/\a.2.ev <+: b.2.ev))
theorem DL.same {F:Nat} {st:RSt} (h:st.steps<=F):DL F (true,st) (true,st):=⟨h,Or.inl ⟨rfl,rfl⟩⟩
theorem B6 {F:Nat} {a b:Bool × RSt} {f f':RSt->Bool × RSt} (h:DL F a b) (hf:a.1=true->a.2.steps<=F->DL F (f a.2) (f' a.2)) (hg:∀ st',Gr st' (f' st').2):DL F (AL a f) (AL b f'):=by
 obtain ⟨hs,⟨h1,rfl⟩ | ⟨h1,h2,h4,h3⟩⟩:=h
 ·unfold AL
  rw [if_pos h1,if_pos h1]
  exact hf h1 hs
 ·have ha:AL a f=a:=by unfold AL;rw [if_neg (by simp [h1])]
  rw [ha]
  refine ⟨hs,Or.inr ⟨h1,h2,h4,?_⟩⟩
  unfold AL
  split
  ·exact h3.trans (hg _).ev
  ·exact h3
theorem DQ {F:Nat} {ob:Ob} (ho:∀ k a dp d s,(ob k a dp d s).1=true) (kind:Nat) (a:Int) (dp:Nat) (d) {st:RSt} (h:st.steps<=F):DL F (Be ob kind a dp d st) (Be ob kind a dp d st):=by
 unfold Be
 rw [if_pos (ho _ _ _ _ _)]
 exact DL.same h
def BV:Nat->Nat
 | 0=>1
 | 1=>3
 | _=>2
theorem G4 (K kf:Nat) (fs) (F F':Nat) (ins) (ob:Ob) (ho:∀ k a dp d s,(ob k a dp d s).1=true) (hF:F<=F'):∀ (g m k:Nat) (l:List D) (a:Int) (dp:Nat) (st:RSt),st.steps<=F->3*(F' - st.steps)+BV m<=g ->
  DL F (rn K kf fs F ins ob g m k l a dp st) (rn K kf fs F' ins ob g m k l a dp st):=by
 intro g
 induction g with
 | zero=>intro m k l a dp st _ h;exfalso;match m,h with
  | 0,h=>simp [BV] at h
  | 1,h=>simp [BV] at h
  | m+2,h=>simp [BV] at h
 | succ g ih=>
  intro m k l a dp st hs h
  match m,l with
  | 0,[]=>exact DL.same hs
  | 0,d::r=>
   simp only [BV] at h
   by_cases h0:st.steps=F
   ·have e:rn K kf fs F ins ob (g+1) 0 k (d::r) a dp st=(false,st.out):=by simp only [rn];rw [if_pos h0]
    rw [e]
    refine ⟨hs,Or.inr ⟨rfl,h0,rfl,?_⟩⟩
    show st.ev <+: _
    exact (BS K kf fs F' ins ob _ _ _ _ _ _ _).ev
   ·have h1:¬ st.steps=F':=by omega
    simp only [rn]
    rw [if_neg h0,if_neg h1]
    have hst:st.step.steps=st.steps+1:=rfl
    refine B6 (DQ ho _ _ _ _ (by rw [hst];omega)) (fun _ hs1=>?_) (fun st1=>BF (BS K kf fs F' ins ob _ _ _ _ _ _ _) (fun st'=>BS K kf fs F' ins ob _ _ _ _ _ _ _))
    have hp:=CN ob 1 a dp d st.step
    rw [hst] at hp
    generalize (Be ob 1 a dp d st.step).2=st1 at hs1 hp ⊢
    refine B6 (ih _ _ _ _ _ _ hs1 (by rw [hp];simp only [BV];omega)) (fun _ hs2=>?_) (fun st'=>BS K kf fs F' ins ob _ _ _ _ _ _ _)
    have hg:=(BS K kf fs F ins ob g 1 k [d] a dp st1).steps
    rw [hp] at hg
    exact ih _ _ _ _ _ _ hs2 (by simp only [BV];omega)
  | 1,[]=>exact DL.same hs
  | 1,d::r=>
   simp only [BV] at h
   simp only [rn]
   split
   ·refine B6 (ih _ _ _ _ _ _ hs (by show 3*(F' - st.steps)+BV 0<=g;simp only [BV];omega)) (fun _ hs2=>?_) (fun st1=>BF (Gr.pass _ _ _ _ _ _) (fun st'=>Gr.setv _ _ _))
    exact B6 (DQ ho _ _ _ _ hs2) (fun _ hs3=>DL.same hs3) (fun st'=>Gr.setv _ _ _)
   ·split
    ·split
     ·exact ih _ _ _ _ _ _ hs (by simp only [BV];omega)
     ·exact ih _ _ _ _ _ _ hs (by simp only [BV];omega)
    ·split
     ·exact ih _ _ _ _ _ _ hs (by simp only [BV];omega)
     ·refine DL.same ?_
      have:(CP K ins d a st).steps=st.steps:=by
       unfold CP
       split
       ·rfl
       ·split
        ·rfl
        ·split
         ·rfl
         ·split
          ·rfl
          ·split <;> rfl
      rw [this];exact hs
  | m+2,[]=>exact DL.same hs
  | m+2,d::r=>
   simp only [BV] at h
   simp only [rn]
   split
   ·exact DL.same hs
   ·refine B6 (ih _ _ _ _ _ _ hs (by simp only [BV];omega)) (fun _ hs2=>?_) (fun st'=>?_)
    ·have hg:=(BS K kf fs F ins ob g 0 (k - 1) (Ae d) (a+1) (dp+1) st).steps
     generalize (rn K kf fs F ins ob g 0 (k - 1) (Ae d) (a+1) (dp+1) st).2=st2 at hs2 hg ⊢
     by_cases h0:st2.steps=F
     ·rw [if_pos h0]
      refine ⟨hs2,Or.inr ⟨rfl,h0,rfl,?_⟩⟩
      split
      ·exact List.prefix_rfl
      ·exact (BF ((Gr.step st2).trans (Gr.pass ob 2 a dp d _)) (fun st1=>BS K kf fs F' ins ob _ _ _ _ _ _ _)).ev
     ·rw [if_neg h0,if_neg (by omega)]
      have hst:st2.step.steps=st2.steps+1:=rfl
      refine B6 (DQ ho _ _ _ _ (by rw [hst];omega)) (fun _ hs1=>?_) (fun st1=>BS K kf fs F' ins ob _ _ _ _ _ _ _)
      have hp:=CN ob 2 a dp d st2.step
      rw [hst] at hp
      exact ih _ _ _ _ _ _ hs1 (by rw [hp];simp only [BV];omega)
    ·split
     ·exact Gr.out _
     ·exact BF ((Gr.step st').trans (Gr.pass _ _ _ _ _ _)) (fun st1=>BS K kf fs F' ins ob _ _ _ _ _ _ _)
def goG {α:Type} (one:D->Nat->List α) (cnt:D->Nat):List D->Nat->List α
 | [],_=>[]
 | d::r,a=>one d a++goG one cnt r (a+cnt d)
def EN:Nat->D->Nat->List (Nat × D × Nat)
 | 0,_,_=>[]
 | k+1,d,a=>(a,d,a+A5 (k+1) d)::(goG (EN k) (A5 k) (Ae d) (a+1)++goG (EN k) (A5 k) (Aj d) (a+1+Ai k (Ae d)))
def Bp (k:Nat) (l:List D) (a:Nat):List (Nat × D × Nat):=goG (EN k) (A5 k) l a
def DJ (nd:List Bool):Nat->D->Nat->List D
 | 0,_,_=>[]
 | k+1,d,a=>if nd.getD a false=true then [sD (Ad d) (Aq d) (Ac d) (Ao d) (Ak d) (goG (DJ nd k) (A5 k) (Ae d) (a+1)) (goG (DJ nd k) (A5 k) (Aj d) (a+1+Ai k (Ae d)))] else []
def AF (nd:List Bool) (k:Nat) (l:List D) (a:Nat):List D:=goG (DJ nd k) (A5 k) l a
def Bi (nd:List Bool) (kf:Nat) (fs:List FnD):List FnD:=fs.mapIdx (fun i f=>⟨f.ps,AF nd kf f.body (Am kf (fs.take i)),f.res⟩)
def dpS:Nat->D->Prop
 | 0,_=>False
 | k+1,d=>(∀ x∈Ae d,dpS k x)/\∀ x∈Aj d,dpS k x
def A7 (ch:Int) (ev:List Ev4):List Int:=ev.filterMap (fun e=>if e.1=1/\e.2.2.1=ch then some e.2.2.2 else none)
theorem F3 (k:Nat) (a:Nat):Bp k [] a=[]:=rfl
theorem Bc (k:Nat) (d:D) (r:List D) (a:Nat):Bp k (d::r) a=EN k d a++Bp k r (a+A5 k d):=rfl
theorem CA (k:Nat) (d:D) (a:Nat):Bp k [d] a=EN k d a:=by
 rw [Bc,F3,List.append_nil]
theorem Gh (nd) (k:Nat) (a:Nat):AF nd k [] a=[]:=rfl
theorem Bv (nd) (k:Nat) (d:D) (r:List D) (a:Nat):AF nd k (d::r) a=DJ nd k d a++AF nd k r (a+A5 k d):=rfl
theorem A8 (k:Nat) (d:D) (a:Nat):EN (k+1) d a=(a,d,a+A5 (k+1) d)::(Bp k (Ae d) (a+1)++Bp k (Aj d) (a+1+Ai k (Ae d))):=rfl
theorem AR (k:Nat) (d:D):A5 (k+1) d=1+Ai k (Ae d)+Ai k (Aj d):=rfl
theorem Bm (k:Nat) (d:D) (r:List D):Ai k (d::r)=A5 k d+Ai k r:=by
 unfold Ai;rw [List.map_cons,List.sum_cons]
theorem CQ:∀ (k:Nat) (l:List D) (a:Nat) (x) ,x∈Bp k l a->a<=x.1/\x.1 < a+Ai k l
 | k,[],a,x,h=>by cases h
 | 0,d::r,a,x,h=>by
  rw [Bc] at h
  have:=CQ 0 r _ x h
  rw [Bm]
  omega
 | k+1,d::r,a,x,h=>by
  rw [Bc,List.mem_append,A8,List.mem_cons,List.mem_append] at h
  rw [Bm,AR]
  rcases h with (rfl | h | h) | h
  ·dsimp only;omega
  ·have:=CQ k _ _ x h;omega
  ·have:=CQ k _ _ x h;omega
  ·have:=CQ (k+1) r _ x h;rw [AR] at this;omega
section
variable (nd nv ni:List Bool) (ch:Int) (K kf:Nat) (fs:List FnD)
structure Cl (x:Nat × D × Nat):Prop where
 put:Ad x.2.1=4->Ac x.2.1=ch->nd.getD x.1 false=true
 set:Ad x.2.1=1\/Ad x.2.1=5\/Ad x.2.1=6->nv.getD (Aq x.2.1).toNat false=true->nd.getD x.1 false=true
 get:Ad x.2.1=3->nv.getD (Aq x.2.1).toNat false=true\/ni.getD (Ac x.2.1).toNat false=true->nd.getD x.1 false=true
 call:Ad x.2.1=2->nv.getD (Aq x.2.1).toNat false=true\/(∃ p∈(AN fs (Ac x.2.1)).ps,nv.getD p.toNat false=true)\/(∃ i,Am kf (fs.take (Ac x.2.1).toNat)<=i/\i < Am kf (fs.take ((Ac x.2.1).toNat+1))/\nd.getD i false=true)->nd.getD x.1 false=true
 inn:Ad x.2.1=7\/Ad x.2.1=8->(∃ i,x.1+1<=i/\i < x.2.2/\nd.getD i false=true)->nd.getD x.1 false=true
 vars:nd.getD x.1 false=true->∀ v∈AK K (Ao x.2.1),nv.getD v.toNat false=true
 chan:nd.getD x.1 false=true->Ad x.2.1=3->ni.getD (Ac x.2.1).toNat false=true
 args:nd.getD x.1 false=true->Ad x.2.1=2->∀ q∈(AN fs (Ac x.2.1)).ps.zip (Ak x.2.1),nv.getD q.1.toNat false=true->∀ v∈AK K q.2,nv.getD v.toNat false=true
 flat:Ad x.2.1≠7->Ad x.2.1≠8->Ae x.2.1=[]/\Aj x.2.1=[]
 res:nd.getD x.1 false=true->Ad x.2.1=2->nv.getD (Aq x.2.1).toNat false=true->∀ v∈AK K (AN fs (Ac x.2.1)).res,nv.getD v.toNat false=true
structure ClF:Prop where
 dp:∀ i (h:i < fs.length),∀ x∈fs[i].body,dpS kf x
 cl:∀ i (h:i < fs.length),∀ x∈Bp kf fs[i].body (Am kf (fs.take i)),Cl nd nv ni ch K kf fs x
structure Qt (s s':RSt):Prop where
 va:∀ i,nv.getD i false=true->s'.vars.getD i 0=s.vars.getD i 0
 tk:∀ i,ni.getD i false=true->s'.taken.getD i 0=s.taken.getD i 0
 pu:A7 ch s'.ev=A7 ch s.ev
 vl:s'.vars.length=s.vars.length
 tl:s'.taken.length=s.taken.length
end
section
variable {nd nv ni:List Bool} {ch:Int} {K kf:Nat} {fs:List FnD}
theorem Qt.refl (s:RSt):Qt nv ni ch s s:=⟨fun _ _=>rfl,fun _ _=>rfl,rfl,rfl,rfl⟩
theorem Qt.trans {a b c:RSt} (h:Qt nv ni ch a b) (k:Qt nv ni ch b c):Qt nv ni ch a c:=
 ⟨fun i hi=>(k.va i hi).trans (h.va i hi),fun i hi=>(k.tk i hi).trans (h.tk i hi),k.pu.trans h.pu,k.vl.trans h.vl,k.tl.trans h.tl⟩
theorem Qt.setv (s:RSt) (v x:Int) (h:nv.getD v.toNat false=false):Qt nv ni ch s (s.setv v x):=by
 refine ⟨fun i hi=>?_,fun _ _=>rfl,rfl,by simp [RSt.setv],rfl⟩
 show (s.vars.set v.toNat x).getD i 0=_
 rw [BJ]
 split
 ·rename_i hh;rw [<-hh.1,h] at hi;cases hi
 ·rfl
theorem Qt.took (s:RSt) (c:Int) (h:ni.getD c.toNat false=false):Qt nv ni ch s (s.took c):=by
 refine ⟨fun _ _=>rfl,fun i hi=>?_,rfl,rfl,by simp [RSt.took]⟩
 show (s.taken.set c.toNat _).getD i 0=_
 rw [BJ]
 split
 ·rename_i hh;rw [<-hh.1,h] at hi;cases hi
 ·rfl
theorem CZ (ch:Int) (a b:List Ev4):A7 ch (a++b)=A7 ch a++A7 ch b:=by
 unfold A7;rw [List.filterMap_append]
theorem FT {ch:Int} {a b:List Ev4} (h:a <+: b):A7 ch a <+: A7 ch b:=by
 obtain ⟨c,rfl⟩:=h
 rw [CZ]
 exact List.prefix_append _ _
theorem JV {ch:Int} {e:Ev4} (h:¬ (e.1=1/\e.2.2.1=ch)):A7 ch [e]=[]:=by
 unfold A7
 simp [h]
theorem Qt.tell (s:RSt) (e:Ev4) (h:¬ (e.1=1/\e.2.2.1=ch)):Qt nv ni ch s (s.tell e):=by
 refine ⟨fun _ _=>rfl,fun _ _=>rfl,?_,rfl,rfl⟩
 show A7 ch (s.ev++[e])=_
 rw [CZ,JV h,List.append_nil]
theorem Qt.step (s:RSt):Qt nv ni ch s s.step:=⟨fun _ _=>rfl,fun _ _=>rfl,rfl,rfl,rfl⟩
theorem Qt.out (s:RSt):Qt nv ni ch s s.out:=⟨fun _ _=>rfl,fun _ _=>rfl,rfl,rfl,rfl⟩
theorem DB (k:Nat) (a:Int) (dp:Nat) (d:D) (st:RSt):Be AB k a dp d st=(true,st):=rfl
theorem FC (st:RSt) (f):AL (true,st) f=f st:=rfl
theorem EE {s:RSt} {r:Bool × RSt} {f:RSt->Bool × RSt} (h:Qt nv ni ch s r.2) (hf:∀ t,Qt nv ni ch t (f t).2):Qt nv ni ch s (AL r f).2:=by
 unfold AL
 split
 ·exact h.trans (hf _)
 ·exact h
theorem CL:∀ (l:List (Int × Int)) (vs:List Int),(AV vs l).length=vs.length
 | [],vs=>rfl
 | q::l,vs=>by
  show (AV (vs.set _ _) l).length=_
  rw [CL l];simp
theorem Ef:∀ (l:List (Int × Int)) (vs:List Int) (i:Nat),(∀ q∈l,q.1.toNat≠i)->(AV vs l).getD i 0=vs.getD i 0
 | [],vs,i,_=>rfl
 | q::l,vs,i,h=>by
  show (AV (vs.set _ _) l).getD i 0=_
  rw [Ef l _ i (fun x hx=>h x (List.mem_cons_of_mem _ hx)),BJ,if_neg]
  exact fun hh=>h q (List.mem_cons_self ..) hh.1
theorem IR (HF:ClF nd nv ni ch K kf fs) (F:Nat) (ins):∀ (g m k:Nat) (l:List D) (a:Nat) (dp:Nat) (s:RSt),(∀ x∈l,dpS k x)->(∀ x∈Bp k l a,Cl nd nv ni ch K kf fs x/\nd.getD x.1 false=false) ->
  Qt nv ni ch s (rn K kf fs F ins AB g m k l a dp s).2:=by
 intro g
 induction g with
 | zero=>intro m k l a dp s _ _;exact Qt.refl _
 | succ g ih=>
  intro m k l a dp s hd hc
  match l with
  | []=>
   match m with
   | 0=>exact Qt.refl _
   | 1=>exact Qt.refl _
   | m+2=>exact Qt.refl _
  | d::r=>
   obtain ⟨k,rfl⟩:∃ k',k=k' + 1:=by
    cases k with
    | zero=>exact (hd d (List.mem_cons_self ..)).elim
    | succ k=>exact ⟨k,rfl⟩
   have hd1:=hd d (List.mem_cons_self ..)
   have hc1:∀ x∈Bp (k+1) [d] a,Cl nd nv ni ch K kf fs x/\nd.getD x.1 false=false:=fun x hx=>hc x (by rw [Bc,List.mem_append];rw [CA] at hx;exact Or.inl hx)
   have hd0:∀ x∈[d],dpS (k+1) x:=fun x hx=>by rw [List.mem_singleton.1 hx];exact hd1
   have hcT:∀ x∈Bp k (Ae d) (a+1),Cl nd nv ni ch K kf fs x/\nd.getD x.1 false=false:=fun x hx=>hc1 x (by rw [CA,A8,List.mem_cons,List.mem_append];exact Or.inr (Or.inl hx))
   have hcE:∀ x∈Bp k (Aj d) (a+1+Ai k (Ae d)),Cl nd nv ni ch K kf fs x/\nd.getD x.1 false=false:=fun x hx=>hc1 x (by rw [CA,A8,List.mem_cons,List.mem_append];exact Or.inr (Or.inr hx))
   obtain ⟨hC,hN⟩:=hc1 (a,d,a+A5 (k+1) d) (by rw [CA,A8];exact List.mem_cons_self ..)
   have no:∀ {P:Prop},(P->nd.getD a false=true)->¬ P:=fun h hp=>by rw [h hp] at hN;cases hN
   match m with
   | 0=>
    simp only [rn]
    split
    ·exact Qt.out _
    ·rw [DB,FC]
     refine EE ((Qt.step s).trans (ih 1 _ _ _ _ _ hd0 hc1)) (fun t=>?_)
     have e:(a:Int)+(A5 (k+1) d:Nat)=((a+A5 (k+1) d:Nat):Int):=by omega
     rw [e]
     exact ih 0 _ _ _ _ _ (fun x hx=>hd x (List.mem_cons_of_mem _ hx)) (fun x hx=>hc x (by rw [Bc,List.mem_append];exact Or.inr hx))
   | 1=>
    simp only [rn]
    split
    ·rename_i h2
     have n1:=no (hC.call h2)
     have hv:nv.getD (Aq d).toNat false=false:=by
      cases h:nv.getD (Aq d).toNat false with
      | false=>rfl
      | true=>exact absurd (Or.inl h) n1
     have hp:∀ p∈(AN fs (Ac d)).ps,nv.getD p.toNat false=false:=fun p hp=>by
      cases h:nv.getD p.toNat false with
      | false=>rfl
      | true=>exact absurd (Or.inr (Or.inl ⟨p,hp,h⟩)) n1
     have hA:Qt nv ni ch s (s.args K fs d):=by
      refine ⟨fun i hi=>?_,fun _ _=>rfl,rfl,CL _ _,rfl⟩
      refine Ef _ _ _ (fun q hq he=>?_)
      have:=hp q.1 (List.of_mem_zip (a:=q.1) (b:=q.2) hq).1
      rw [he,hi] at this
      cases this
     refine EE (hA.trans ?_) (fun t=>?_)
     ·by_cases ho:(Ac d).toNat < fs.length
      ·have hb:AN fs (Ac d)=fs[(Ac d).toNat]:=by unfold AN;rw [List.getD_eq_getElem?_getD,List.getElem?_eq_getElem ho];rfl
       rw [hb]
       refine ih 0 _ _ _ _ _ (HF.dp _ ho) (fun x hx=>⟨HF.cl _ ho x hx,?_⟩)
       have hin:=CQ _ _ _ x hx
       cases h:nd.getD x.1 false with
       | false=>rfl
       | true=>
        refine absurd (Or.inr (Or.inr ⟨x.1,hin.1,?_,h⟩)) n1
        have:Am kf (fs.take ((Ac d).toNat+1))=Am kf (fs.take (Ac d).toNat)+Ai kf fs[(Ac d).toNat].body:=by
         unfold Am
         rw [List.take_succ_eq_append_getElem ho,List.map_append,List.sum_append]
         simp
        show x.1 < Am kf (fs.take ((Ac d).toNat+1))
        omega
      ·have hb:(AN fs (Ac d)).body=[]:=by unfold AN;rw [List.getD_eq_getElem?_getD,List.getElem?_eq_none (by omega)];rfl
       rw [hb]
       exact ih 0 _ _ _ _ _ (fun x hx=>by cases hx) (fun x hx=>by cases hx)
     ·rw [DB]
      exact Qt.setv _ _ _ hv
    ·split
     ·split
      ·have e:(a:Int)+1+(Ai (k+1 - 1) (Ae d):Nat)=((a+1+Ai k (Ae d):Nat):Int):=by rw [Nat.add_sub_cancel];omega
       rw [e]
       exact ih 0 _ _ _ _ _ hd1.2 hcE
      ·exact ih 0 _ _ (a+1) _ _ hd1.1 hcT
     ·split
      ·exact ih 2 _ _ _ _ _ hd0 hc1
      ·rename_i h2 h7 h8
       have hs:Ad d=1\/Ad d=5\/Ad d=6->nv.getD (Aq d).toNat false=false:=fun h=>by
        cases hh:nv.getD (Aq d).toNat false with
        | false=>rfl
        | true=>exact absurd hh (no (hC.set h))
       unfold CP
       split
       ·exact Qt.setv _ _ _ (hs (by omega))
       ·split
        ·rename_i h3
         have n3:=no (hC.get h3)
         refine (Qt.took _ _ ?_).trans (Qt.setv _ _ _ ?_)
         ·cases hh:ni.getD (Ac d).toNat false with
          | false=>rfl
          | true=>exact absurd (Or.inr hh) n3
         ·cases hh:nv.getD (Aq d).toNat false with
          | false=>rfl
          | true=>exact absurd (Or.inl hh) n3
        ·split
         ·rename_i h4
          exact Qt.tell _ _ (fun hh=>no (hC.put h4) hh.2)
         ·split
          ·exact (Qt.setv _ _ _ (hs (by omega))).trans (Qt.tell _ _ (fun hh=>by have:=hh.1;dsimp only at this;omega))
          ·split
           ·exact (Qt.setv _ _ _ (hs (by omega))).trans (Qt.tell _ _ (fun hh=>by have:=hh.1;dsimp only at this;omega))
           ·exact Qt.refl _
   | m+2=>
    simp only [rn]
    split
    ·exact Qt.refl _
    ·refine EE (ih 0 k (Ae d) (a+1) _ _ hd1.1 hcT) (fun t=>?_)
     split
     ·exact Qt.out _
     ·rw [DB]
      exact (Qt.step t).trans (ih 2 _ _ _ _ _ hd0 hc1)
end
end Go.Proofs.YtfffpjkcfnekaaaGreat.Ex
