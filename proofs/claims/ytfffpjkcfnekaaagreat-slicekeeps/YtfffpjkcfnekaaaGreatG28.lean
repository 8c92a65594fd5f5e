/- A program runs beside the one that is cut: plain. -/
import Derived.Test.YtfffpjkcfnekaaaGreatG27
set_option linter.unusedVariables false
set_option maxHeartbeats 8000000
set_option maxRecDepth 100000
namespace Go.Proofs.YtfffpjkcfnekaaaGreat.Ex
open Go.RowKit
open Go.Value renaming slice -> O, int -> zd, bool -> ze, agg -> zg, pointer -> zi, tuple -> zj
open Go.IntKind renaming i64 -> U
open Go.Obj renaming cells -> zf
open Go.Ending renaming returned -> zh
def BZ (nd:List Bool) (k:Nat) (d:D) (a:Nat):D:=sD (Ad d) (Aq d) (Ac d) (Ao d) (Ak d) (AF nd k (Ae d) (a+1)) (AF nd k (Aj d) (a+1+Ai k (Ae d)))
theorem CG {nd:List Bool} {k:Nat} {d:D} {a:Nat} (h:nd.getD a false=true):DJ nd (k+1) d a=[BZ nd k d a]:=by
 unfold DJ;rw [if_pos h];rfl
theorem DI {nd:List Bool} {k:Nat} {d:D} {a:Nat} (h:nd.getD a false=false):DJ nd (k+1) d a=[]:=by
 unfold DJ;rw [h];rfl
theorem Gd (nd:List Bool) (kf:Nat) (fs:List FnD) (c:Int):AN (Bi nd kf fs) c=⟨(AN fs c).ps,AF nd kf (AN fs c).body (Am kf (fs.take c.toNat)),(AN fs c).res⟩:=by
 unfold AN Bi
 rw [List.getD_eq_getElem?_getD,List.getD_eq_getElem?_getD,List.getElem?_mapIdx]
 cases h:fs[c.toNat]? with
 | none=>rfl
 | some f=>rfl
theorem Ce {vs vs':List Int}:∀ (K:Nat) (d:D),(∀ v∈AK K d,vs.getD v.toNat 0=vs'.getD v.toNat 0)->Av vs K d=Av vs' K d
 | 0,d,_=>rfl
 | k+1,d,h=>by
  simp only [Av,AK] at h ⊢
  by_cases h2:Au d=2
  ·rw [if_pos h2] at h
   have:=h _ (List.mem_singleton.2 rfl)
   simp only [if_pos h2,this]
  ·rw [if_neg h2] at h
   simp only [if_neg h2]
   split
   ·rfl
   ·split
    ·rename_i x y he
     rw [he] at h
     rw [Ce k x (fun v hv=>h v (by simp [hv])),Ce k y (fun v hv=>h v (by simp [hv]))]
    ·rfl
section
variable (nv ni:List Bool) (ch:Int)
structure Rl (s t:RSt):Prop where
 va:∀ i,nv.getD i false=true->s.vars.getD i 0=t.vars.getD i 0
 tk:∀ i,ni.getD i false=true->s.taken.getD i 0=t.taken.getD i 0
 pu:A7 ch s.ev=A7 ch t.ev
 vl:s.vars.length=t.vars.length
 tl:s.taken.length=t.taken.length
 st:t.steps<=s.steps
def Rs (r r':Bool × RSt):Prop:=(r.1=true/\r'.1=true/\Rl nv ni ch r.2 r'.2)\/(r.1=false/\A7 ch r.2.ev <+: A7 ch r'.2.ev)
end
section
variable {nd nv ni:List Bool} {ch:Int} {K kf:Nat} {fs:List FnD}
theorem Rl.step {s t:RSt} (h:Rl nv ni ch s t):Rl nv ni ch s.step t.step:=⟨h.va,h.tk,h.pu,h.vl,h.tl,Nat.succ_le_succ h.st⟩
theorem Rl.quiet {s s' t:RSt} (h:Rl nv ni ch s t) (q:Qt nv ni ch s s') (g:s.steps<=s'.steps):Rl nv ni ch s' t:=
 ⟨fun i hi=>(q.va i hi).trans (h.va i hi),fun i hi=>(q.tk i hi).trans (h.tk i hi),q.pu.trans h.pu,q.vl.trans h.vl,q.tl.trans h.tl,Nat.le_trans h.st g⟩
theorem Rl.setv {s t:RSt} (h:Rl nv ni ch s t) (v:Int) {x y:Int} (hx:nv.getD v.toNat false=true->x=y):Rl nv ni ch (s.setv v x) (t.setv v y):=by
 refine ⟨fun i hi=>?_,h.tk,h.pu,by simp [RSt.setv,h.vl],h.tl,h.st⟩
 show (s.vars.set v.toNat x).getD i 0=(t.vars.set v.toNat y).getD i 0
 rw [BJ,BJ,h.vl]
 split
 ·rename_i hh;rw [<-hh.1] at hi;exact hx hi
 ·exact h.va i hi
theorem Rl.took {s t:RSt} (h:Rl nv ni ch s t) (c:Int):Rl nv ni ch (s.took c) (t.took c):=by
 refine ⟨h.va,fun i hi=>?_,h.pu,h.vl,by simp [RSt.took,h.tl],h.st⟩
 show (s.taken.set c.toNat _).getD i 0=(t.taken.set c.toNat _).getD i 0
 rw [BJ,BJ,h.tl]
 split
 ·rename_i hh;rw [<-hh.1] at hi;rw [h.tk _ hi]
 ·exact h.tk i hi
theorem Rl.tell {s t:RSt} (h:Rl nv ni ch s t) {e e':Ev4} (he:A7 ch [e]=A7 ch [e']):Rl nv ni ch (s.tell e) (t.tell e'):=by
 refine ⟨h.va,h.tk,?_,h.vl,h.tl,h.st⟩
 show A7 ch (s.ev++[e])=A7 ch (t.ev++[e'])
 rw [CZ,CZ,h.pu,he]
theorem DY {f f':D->Int}:∀ (ps:List Int) (ags:List D) (vs vs':List Int),(∀ q∈ps.zip ags,nv.getD q.1.toNat false=true->f q.2=f' q.2)->vs.length=vs'.length->(∀ i,nv.getD i false=true->vs.getD i 0=vs'.getD i 0)->∀ i,nv.getD i false=true->(AV vs (ps.zip (ags.map f))).getD i 0=(AV vs' (ps.zip (ags.map f'))).getD i 0
 | [],_,vs,vs',_,_,h=>h
 | _::_,[],vs,vs',_,_,h=>h
 | p::ps,x::ags,vs,vs',hq,hlen,h=>by
  show ∀ i,nv.getD i false=true->(AV (vs.set p.toNat (f x)) (ps.zip (ags.map f))).getD i 0=(AV (vs'.set p.toNat (f' x)) (ps.zip (ags.map f'))).getD i 0
  refine DY ps ags _ _ (fun q hh=>hq q (List.mem_cons_of_mem _ hh)) (by simp [hlen]) (fun i hi=>?_)
  rw [BJ,BJ,hlen]
  split
  ·rename_i hh;rw [<-hh.1] at hi;exact hq (p,x) (List.mem_cons_self ..) hi
  ·exact h i hi
theorem Rs.false_ {s t:RSt} {r':Bool × RSt} (h:Rl nv ni ch s t) {r:Bool × RSt} (h1:r.1=false) (h2:A7 ch r.2.ev=A7 ch s.ev) (hg:t.ev <+: r'.2.ev):Rs nv ni ch r r':=
 Or.inr ⟨h1,by rw [h2,h.pu];exact FT hg⟩
theorem ED {r r':Bool × RSt} {f f':RSt->Bool × RSt} (h:Rs nv ni ch r r') (hf:r.1=true->Rl nv ni ch r.2 r'.2->Rs nv ni ch (f r.2) (f' r'.2)) (hg:∀ t,Gr t (f' t).2):Rs nv ni ch (AL r f) (AL r' f'):=by
 rcases h with ⟨h1,h2,h3⟩ | ⟨h1,h2⟩
 ·unfold AL
  rw [if_pos h1,if_pos h2]
  exact hf h1 h3
 ·refine Or.inr ⟨by unfold AL;rw [if_neg (by simp [h1])];exact h1,?_⟩
  have:AL r f=r:=by unfold AL;rw [if_neg (by simp [h1])]
  rw [this]
  exact h2.trans (FT (BF (Gr.refl _) hg).ev)
theorem FQ (K kf:Nat) (fs) (F:Nat) (ins) (g m k:Nat) (l:List D) (a:Int) (dp:Nat) (st:RSt) (h:st.steps<=F) (hg:3*(F - st.steps)+BV m<=g):(rn K kf fs F ins AB g m k l a dp st).2.steps<=F:=
 (G4 K kf fs F F ins AB (fun _ _ _ _ _=>rfl) (Nat.le_refl _) g m k l a dp st h hg).1
theorem LA (HF:ClF nd nv ni ch K kf fs) (F:Nat) (ins):∀ (g:Nat),
  (∀ k l (a:Nat) dp s g' k' a' dp' t,(∀ x∈l,dpS k x)->(∀ x∈Bp k l a,Cl nd nv ni ch K kf fs x)->Rl nv ni ch s t->s.steps<=F->3*(F - s.steps)+1<=g->3*(F - t.steps)+1<=g' ->
   Rs nv ni ch (rn K kf fs F ins AB g 0 k l a dp s) (rn K kf (Bi nd kf fs) F ins AB g' 0 k' (AF nd k l a) a' dp' t)) /\
  (∀ k d (a:Nat) dp s g' k' a' dp' t,dpS (k+1) d->(∀ x∈EN (k+1) d a,Cl nd nv ni ch K kf fs x)->nd.getD a false=true->Rl nv ni ch s t->s.steps<=F->3*(F - s.steps)+3<=g->3*(F - t.steps)+3<=g' ->
   Rs nv ni ch (rn K kf fs F ins AB g 1 (k+1) [d] a dp s) (rn K kf (Bi nd kf fs) F ins AB g' 1 k' [BZ nd k d a] a' dp' t)) /\
  (∀ k d (a:Nat) dp s g' k' a' dp' t,dpS (k+1) d->(∀ x∈EN (k+1) d a,Cl nd nv ni ch K kf fs x)->nd.getD a false=true->Rl nv ni ch s t->s.steps<=F->3*(F - s.steps)+2<=g->3*(F - t.steps)+2<=g' ->
   Rs nv ni ch (rn K kf fs F ins AB g 2 (k+1) [d] a dp s) (rn K kf (Bi nd kf fs) F ins AB g' 2 k' [BZ nd k d a] a' dp' t)):=by
 intro g
 induction g with
 | zero=>exact ⟨fun _ _ _ _ _ _ _ _ _ _ _ _ _ _ h _=>by omega,fun _ _ _ _ _ _ _ _ _ _ _ _ _ _ _ h _=>by omega,fun _ _ _ _ _ _ _ _ _ _ _ _ _ _ _ h _=>by omega⟩
 | succ g ih=>
  obtain ⟨i0,i1,i2⟩:=ih
  refine ⟨?_,?_,?_⟩
  ·intro k l a dp s g' k' a' dp' t hd hc h hs hg hg'
   obtain ⟨g',rfl⟩:∃ x,g'=x+1:=⟨g' - 1,by omega⟩
   match l with
   | []=>exact Or.inl ⟨rfl,rfl,h⟩
   | d::r=>
    obtain ⟨k,rfl⟩:∃ k',k=k' + 1:=by
     cases k with
     | zero=>exact (hd d (List.mem_cons_self ..)).elim
     | succ k=>exact ⟨k,rfl⟩
    have hd1:=hd d (List.mem_cons_self ..)
    have hdr:∀ x∈r,dpS (k+1) x:=fun x hx=>hd x (List.mem_cons_of_mem _ hx)
    have hc1:∀ x∈EN (k+1) d a,Cl nd nv ni ch K kf fs x:=fun x hx=>hc x (by rw [Bc,List.mem_append];exact Or.inl hx)
    have hcr:∀ x∈Bp (k+1) r (a+A5 (k+1) d),Cl nd nv ni ch K kf fs x:=fun x hx=>hc x (by rw [Bc,List.mem_append];exact Or.inr hx)
    have hgr:t.ev <+: (rn K kf (Bi nd kf fs) F ins AB (g' + 1) 0 k' (AF nd (k+1) (d::r) a) a' dp' t).2.ev:=(BS _ _ _ _ _ _ _ _ _ _ _ _ _).ev
    by_cases h0:s.steps=F
    ·have e:rn K kf fs F ins AB (g+1) 0 (k+1) (d::r) a dp s=(false,s.out):=by simp only [rn];rw [if_pos h0]
     rw [e]
     exact Rs.false_ h rfl rfl hgr
    have e:(a:Int)+(A5 (k+1) d:Nat)=((a+A5 (k+1) d:Nat):Int):=by omega
    have e1:rn K kf fs F ins AB (g+1) 0 (k+1) (d::r) a dp s=AL (rn K kf fs F ins AB g 1 (k+1) [d] a dp s.step) (fun st'=>rn K kf fs F ins AB g 0 (k+1) r ((a+A5 (k+1) d:Nat):Int) dp st'):=by
     simp only [rn];rw [if_neg h0,DB,FC,e]
    have hss:s.step.steps=s.steps+1:=rfl
    have hF1:=FQ K kf fs F ins g 1 (k+1) [d] a dp s.step (by rw [hss];omega) (by rw [hss];simp only [BV];omega)
    have hG1:=(BS K kf fs F ins AB g 1 (k+1) [d] a dp s.step).steps
    rw [hss] at hG1
    cases hn:nd.getD a false with
    | true=>
     have hts:t.step.steps=t.steps+1:=rfl
     have hst:=h.st
     have e2:∀ q,rn K kf (Bi nd kf fs) F ins AB (g' + 1) 0 k' (BZ nd k d a::q) a' dp' t=AL (rn K kf (Bi nd kf fs) F ins AB g' 1 k' [BZ nd k d a] a' dp' t.step) (fun st'=>rn K kf (Bi nd kf fs) F ins AB g' 0 k' q (a' + A5 k' (BZ nd k d a)) dp' st'):=fun q=>by
      simp only [rn];rw [if_neg (by omega),DB,FC]
     rw [Bv,CG hn,List.singleton_append,e1,e2]
     have hF2:=(BS K kf (Bi nd kf fs) F ins AB g' 1 k' [BZ nd k d a] a' dp' t.step).steps
     rw [hts] at hF2
     refine ED (i1 k d a dp s.step g' k' a' dp' t.step hd1 hc1 hn h.step (by rw [hss];omega) (by rw [hss];omega) (by rw [hts];omega)) (fun h1 h2=>?_) (fun t=>BS _ _ _ _ _ _ _ _ _ _ _ _ _)
     exact i0 _ _ _ _ _ _ _ _ _ _ hdr hcr h2 hF1 (by omega) (by omega)
    | false=>
     rw [Bv,DI hn,List.nil_append,e1]
     have hq:=IR HF F ins g 1 (k+1) [d] a dp s.step (fun x hx=>by rw [List.mem_singleton.1 hx];exact hd1) (fun x hx=>?_)
     ·have hr:Rl nv ni ch (rn K kf fs F ins AB g 1 (k+1) [d] a dp s.step).2 t:=(h.quiet (Qt.step s) (Nat.le_succ _)).quiet hq (by rw [hss];exact hG1)
      unfold AL
      split
      ·exact i0 _ _ _ _ _ _ _ _ _ _ hdr hcr hr hF1 (by omega) hg'
      ·rename_i hb
       exact Rs.false_ hr (by simpa using hb) rfl (BS _ _ _ _ _ _ _ _ _ _ _ _ _).ev
     ·rw [CA] at hx
      refine ⟨hc1 x hx,?_⟩
      rw [A8,List.mem_cons] at hx
      rcases hx with rfl | hx
      ·exact hn
      ·have hin:a+1<=x.1/\x.1 < a+A5 (k+1) d:=by
        rw [AR]
        rcases List.mem_append.1 hx with hx | hx
        ·have:=CQ _ _ _ _ hx;omega
        ·have:=CQ _ _ _ _ hx;omega
       have hC:=hc1 (a,d,a+A5 (k+1) d) (by rw [A8];exact List.mem_cons_self ..)
       cases hh:nd.getD x.1 false with
       | false=>rfl
       | true=>
        by_cases h78:Ad d=7\/Ad d=8
        ·rw [hC.inn h78 ⟨x.1,hin.1,hin.2,hh⟩] at hn;cases hn
        ·obtain ⟨f1,f2⟩:=hC.flat (fun h=>h78 (Or.inl h)) (fun h=>h78 (Or.inr h))
         dsimp only at f1 f2
         rw [f1,f2] at hx
         cases hx
  ·intro k d a dp s g' k' a' dp' t hd hc hn h hs hg hg'
   obtain ⟨g',rfl⟩:∃ x,g'=x+1:=⟨g' - 1,by omega⟩
   have hC:=hc (a,d,a+A5 (k+1) d) (by rw [A8];exact List.mem_cons_self ..)
   have hcT:∀ x∈Bp k (Ae d) (a+1),Cl nd nv ni ch K kf fs x:=fun x hx=>hc x (by rw [A8,List.mem_cons,List.mem_append];exact Or.inr (Or.inl hx))
   have hcE:∀ x∈Bp k (Aj d) (a+1+Ai k (Ae d)),Cl nd nv ni ch K kf fs x:=fun x hx=>hc x (by rw [A8,List.mem_cons,List.mem_append];exact Or.inr (Or.inr hx))
   have hval:Av s.vars K (Ao d)=Av t.vars K (Ao d):=Ce K _ (fun v hv=>h.va _ (hC.vars hn v hv))
   have k1:Ad (BZ nd k d a)=Ad d:=rfl
   have k2:Aq (BZ nd k d a)=Aq d:=rfl
   have k3:Ac (BZ nd k d a)=Ac d:=rfl
   have k4:Ao (BZ nd k d a)=Ao d:=rfl
   have k5:Ak (BZ nd k d a)=Ak d:=rfl
   have k6:Ae (BZ nd k d a)=AF nd k (Ae d) (a+1):=rfl
   have k7:Aj (BZ nd k d a)=AF nd k (Aj d) (a+1+Ai k (Ae d)):=rfl
   by_cases h2:Ad d=2
   ·have e1:∀ fs d g k a dp s,Ad d=2->rn K kf fs F ins AB (g+1) 1 k [d] a dp s=AL (rn K kf fs F ins AB g 0 kf (AN fs (Ac d)).body (Am kf (fs.take (Ac d).toNat)) dp (s.args K fs d)) (fun st'=>(true,st'.setv (Aq d) (Av st'.vars K (AN fs (Ac d)).res))):=fun fs d g k a dp s h2=>by
     simp only [rn];rw [if_pos h2];rfl
    rw [e1 _ _ _ _ _ _ _ h2,e1 _ (BZ nd k d a) _ _ _ _ _ h2,k2,k3,Gd]
    dsimp only
    have hA:Rl nv ni ch (s.args K fs d) (t.args K (Bi nd kf fs) (BZ nd k d a)):=by
     refine ⟨?_,h.tk,h.pu,?_,h.tl,h.st⟩
     ·show ∀ i,_->(AV s.vars ((AN fs (Ac d)).ps.zip ((Ak d).map (Av s.vars K)))).getD i 0=(AV t.vars ((AN (Bi nd kf fs) (Ac d)).ps.zip ((Ak d).map (Av t.vars K)))).getD i 0
      rw [Gd]
      exact DY _ _ _ _ (fun q hq hv=>Ce K _ (fun v hv'=>h.va _ (hC.args hn h2 q hq hv v hv'))) h.vl h.va
     ·exact (CL _ _).trans (h.vl.trans (CL _ _).symm)
    refine ED (i0 kf (AN fs (Ac d)).body (Am kf (fs.take (Ac d).toNat)) dp _ g' kf _ dp' _ ?_ ?_ hA hs ?_ ?_) (fun h1 h2'=>?_) (fun t=>Gr.setv _ _ _)
    ·by_cases ho:(Ac d).toNat < fs.length
     ·have hb:AN fs (Ac d)=fs[(Ac d).toNat]:=by unfold AN;rw [List.getD_eq_getElem?_getD,List.getElem?_eq_getElem ho];rfl
      rw [hb]
      exact HF.dp _ ho
     ·have hb:(AN fs (Ac d)).body=[]:=by unfold AN;rw [List.getD_eq_getElem?_getD,List.getElem?_eq_none (by omega)];rfl
      rw [hb]
      exact fun x hx=>by cases hx
    ·by_cases ho:(Ac d).toNat < fs.length
     ·have hb:AN fs (Ac d)=fs[(Ac d).toNat]:=by unfold AN;rw [List.getD_eq_getElem?_getD,List.getElem?_eq_getElem ho];rfl
      rw [hb]
      exact HF.cl _ ho
     ·have hb:(AN fs (Ac d)).body=[]:=by unfold AN;rw [List.getD_eq_getElem?_getD,List.getElem?_eq_none (by omega)];rfl
      rw [hb]
      exact fun x hx=>by cases hx
    ·show 3*(F - s.steps)+1<=g;omega
    ·show 3*(F - t.steps)+1<=g';omega
    ·exact Or.inl ⟨rfl,rfl,h2'.setv _ (fun hv=>Ce K _ (fun v hv'=>h2'.va _ (hC.res hn h2 hv v hv')))⟩
   by_cases h7:Ad d=7
   ·have e1:∀ fs d g k a dp s,Ad d=7->rn K kf fs F ins AB (g+1) 1 k [d] a dp s=if Av s.vars K (Ao d)=0 then rn K kf fs F ins AB g 0 (k - 1) (Aj d) (a+1+Ai (k - 1) (Ae d)) (dp+1) s else rn K kf fs F ins AB g 0 (k - 1) (Ae d) (a+1) (dp+1) s:=fun fs d g k a dp s h7=>by
     simp only [rn];rw [if_neg (by omega),if_pos h7]
    rw [e1 _ _ _ _ _ _ _ h7,e1 _ (BZ nd k d a) _ _ _ _ _ h7,k4,<-hval,k6,k7]
    split
    ·have e:(a:Int)+1+(Ai (k+1 - 1) (Ae d):Nat)=((a+1+Ai k (Ae d):Nat):Int):=by rw [Nat.add_sub_cancel];omega
     rw [e]
     exact i0 _ _ _ _ _ _ _ _ _ _ hd.2 hcE h hs (by omega) (by omega)
    ·exact i0 k (Ae d) (a+1) _ _ _ _ _ _ _ hd.1 hcT h hs (by omega) (by omega)
   by_cases h8:Ad d=8
   ·have e1:∀ fs d g k a dp s,Ad d=8->rn K kf fs F ins AB (g+1) 1 k [d] a dp s=rn K kf fs F ins AB g 2 k [d] a dp s:=fun fs d g k a dp s h8=>by
     simp only [rn];rw [if_neg (by omega),if_neg (by omega),if_pos h8]
    rw [e1 _ _ _ _ _ _ _ h8,e1 _ (BZ nd k d a) _ _ _ _ _ h8]
    exact i2 _ _ _ _ _ _ _ _ _ _ hd hc hn h hs (by omega) (by omega)
   have e1:∀ fs d g k a dp s,Ad d≠2->Ad d≠7->Ad d≠8->rn K kf fs F ins AB (g+1) 1 k [d] a dp s=(true,CP K ins d a s):=fun fs d g k a dp s h2 h7 h8=>by
    simp only [rn];rw [if_neg h2,if_neg h7,if_neg h8]
   rw [e1 _ _ _ _ _ _ _ h2 h7 h8,e1 _ (BZ nd k d a) _ _ _ _ _ h2 h7 h8]
   refine Or.inl ⟨rfl,rfl,?_⟩
   dsimp only
   unfold CP
   rw [k1,k2,k3,k4,<-hval]
   split
   ·exact h.setv _ (fun _=>rfl)
   split
   ·rename_i h3
    refine (h.took _).setv _ (fun _=>?_)
    unfold Cp
    rw [h.tk _ (hC.chan hn h3)]
   split
   ·exact h.tell rfl
   split
   ·exact (h.setv _ (fun _=>rfl)).tell rfl
   split
   ·exact (h.setv _ (fun _=>rfl)).tell rfl
   ·exact h
  ·intro k d a dp s g' k' a' dp' t hd hc hn h hs hg hg'
   obtain ⟨g',rfl⟩:∃ x,g'=x+1:=⟨g' - 1,by omega⟩
   have hC:=hc (a,d,a+A5 (k+1) d) (by rw [A8];exact List.mem_cons_self ..)
   have hcT:∀ x∈Bp k (Ae d) (a+1),Cl nd nv ni ch K kf fs x:=fun x hx=>hc x (by rw [A8,List.mem_cons,List.mem_append];exact Or.inr (Or.inl hx))
   have hval:Av s.vars K (Ao d)=Av t.vars K (Ao d):=Ce K _ (fun v hv=>h.va _ (hC.vars hn v hv))
   have e1:∀ fs d g k a dp s,rn K kf fs F ins AB (g+1) 2 k [d] a dp s=if Av s.vars K (Ao d)=0 then (true,s) else AL (rn K kf fs F ins AB g 0 (k - 1) (Ae d) (a+1) (dp+1) s) (fun st'=>if st'.steps=F then (false,st'.out) else rn K kf fs F ins AB g 2 k [d] a dp st'.step):=fun fs d g k a dp s=>by
    simp only [rn];rfl
   have k4:Ao (BZ nd k d a)=Ao d:=rfl
   have k6:Ae (BZ nd k d a)=AF nd k (Ae d) (a+1):=rfl
   rw [e1,e1 _ (BZ nd k d a),k4,k6,<-hval]
   split
   ·exact Or.inl ⟨rfl,rfl,h⟩
   ·have hF1:=FQ K kf fs F ins g 0 k (Ae d) ((a+1:Nat):Int) (dp+1) s hs (by simp only [BV];omega)
    have hG1:=(BS K kf fs F ins AB g 0 k (Ae d) ((a+1:Nat):Int) (dp+1) s).steps
    have hG2:=(BS K kf (Bi nd kf fs) F ins AB g' 0 (k' - 1) (AF nd k (Ae d) (a+1)) (a' + 1) (dp' + 1) t).steps
    rw [show k+1 - 1=k from rfl,show (a:Int)+1=((a+1:Nat):Int) from rfl]
    refine ED (i0 k (Ae d) (a+1) (dp+1) s g' (k' - 1) (a' + 1) (dp' + 1) t hd.1 hcT h hs (by omega) (by omega)) (fun h1 h2=>?_) (fun t=>?_)
    ·generalize (rn K kf fs F ins AB g 0 k (Ae d) ((a+1:Nat):Int) (dp+1) s).2=u at *
     generalize (rn K kf (Bi nd kf fs) F ins AB g' 0 (k' - 1) (AF nd k (Ae d) (a+1)) (a' + 1) (dp' + 1) t).2=v at *
     have hst:=h2.st
     by_cases h0:u.steps=F
     ·rw [if_pos h0]
      refine Rs.false_ h2 rfl rfl ?_
      split
      ·exact List.prefix_rfl
      ·exact (BS K kf (Bi nd kf fs) F ins AB _ _ _ _ _ _ v.step).ev
     ·rw [if_neg h0,if_neg (by omega)]
      have hus:u.step.steps=u.steps+1:=rfl
      have hvs:v.step.steps=v.steps+1:=rfl
      exact i2 _ _ _ _ _ _ _ _ _ _ hd hc hn h2.step (by rw [hus];omega) (by rw [hus];omega) (by rw [hvs];omega)
    ·split
     ·exact Gr.out _
     ·exact (Gr.step t).trans (BS K kf (Bi nd kf fs) F ins AB _ _ _ _ _ _ _)
theorem JU (HF:ClF nd nv ni ch K kf fs) (F:Nat) (hF:F<=2000) (ins) (l:List D) (vn yn:Nat) (o o':WSt) (hd:∀ x∈l,dpS kf x) (hc:∀ x∈Bp kf l (Am kf fs),Cl nd nv ni ch K kf fs x) :
  ((Cc K kf fs F ins AB l vn yn o).en=1->(Cc K kf (Bi nd kf fs) F ins AB (AF nd kf l (Am kf fs)) vn yn o').en=1/\(Cc K kf (Bi nd kf fs) F ins AB (AF nd kf l (Am kf fs)) vn yn o').steps<=(Cc K kf fs F ins AB l vn yn o).steps/\A7 ch (Cc K kf fs F ins AB l vn yn o).ev=A7 ch (Cc K kf (Bi nd kf fs) F ins AB (AF nd kf l (Am kf fs)) vn yn o').ev) /\
  A7 ch (Cc K kf fs F ins AB l vn yn o).ev <+: A7 ch (Cc K kf (Bi nd kf fs) F ins AB (AF nd kf l (Am kf fs)) vn yn o').ev:=by
 have h:=(LA (K:=K) HF F ins 6001).1 kf l (Am kf fs) 0 (st0 vn yn o) 6001 kf (Am kf (Bi nd kf fs):Nat) 0 (st0 vn yn o') hd hc ⟨fun _ _=>rfl,fun _ _=>rfl,rfl,rfl,rfl,Nat.le_refl _⟩ (Nat.zero_le _) (by show 3*(F - 0)+1<=6001;omega) (by show 3*(F - 0)+1<=6001;omega)
 have hm:=G4 K kf fs F F ins AB (fun _ _ _ _ _=>rfl) (Nat.le_refl _) 6001 0 kf l (Am kf fs:Nat) 0 (st0 vn yn o) (Nat.zero_le _) (by show 3*(F - 0)+1<=6001;omega)
 unfold Cc
 rcases h with ⟨h1,h2,h3⟩ | ⟨h1,h2⟩
 ·unfold Iq
  rw [if_pos h1,if_pos h2]
  refine ⟨fun _=>⟨rfl,h3.st,h3.pu⟩,?_⟩
  show A7 ch _ <+: A7 ch _
  rw [h3.pu]
  exact List.prefix_rfl
 ·have e1:∀ r:Bool × RSt,(Iq r).ev=r.2.ev:=fun r=>by unfold Iq;split <;> rfl
  rw [e1,e1]
  refine ⟨fun he=>?_,h2⟩
  exfalso
  rcases hm with ⟨-,⟨h3,-⟩ | ⟨-,-,h4,-⟩⟩
  ·rw [h1] at h3;cases h3
  ·unfold Iq at he
   rw [if_neg (by simp [h1]),h4] at he
   cases he
end
structure NS where
 vs:List Bool
 cs:List Bool
 nd:List Bool
 mo:Bool
def NS.needV (st:NS) (v:Int):NS:=if st.vs.getD v.toNat false=true then st else { st with vs:=st.vs.set v.toNat true,mo:=true }
def NS.needC (st:NS) (c:Int):NS:=if st.cs.getD c.toNat false=true then st else { st with cs:=st.cs.set c.toNat true,mo:=true }
def NS.needN (st:NS) (a:Nat):NS:=if st.nd.getD a false=true then st else { st with nd:=st.nd.set a true,mo:=true }
def NS.needX (K:Nat) (st:NS) (e:D):NS:=(AK K e).foldl NS.needV st
def Cm (nd:List Bool) (a b:Nat):Bool:=((nd.take b).drop a).any id
section
variable (ch:Int) (K kf:Nat) (fs:List FnD)
def BH (st:NS) (x:Nat × D × Nat):Bool:=
 if Ad x.2.1=2 then st.vs.getD (Aq x.2.1).toNat false || (AN fs (Ac x.2.1)).ps.any (fun p=>st.vs.getD p.toNat false) || Cm st.nd (Am kf (fs.take (Ac x.2.1).toNat)) (Am kf (fs.take ((Ac x.2.1).toNat+1)))
 else if Ad x.2.1=3 then st.vs.getD (Aq x.2.1).toNat false || st.cs.getD (Ac x.2.1).toNat false
 else if Ad x.2.1=4 then decide (Ac x.2.1=ch)
 else if Ad x.2.1=7\/Ad x.2.1=8 then Cm st.nd (x.1+1) x.2.2
 else st.vs.getD (Aq x.2.1).toNat false
def needA (st:NS) (q:Int × D):NS:=if st.vs.getD q.1.toNat false=true then st.needX K q.2 else st
def needFor (st:NS) (d:D):NS:=
 if Ad d=3 then (st.needX K (Ao d)).needC (Ac d)
 else if Ad d=2 then
  (if (((AN fs (Ac d)).ps.zip (Ak d)).foldl (needA K) (st.needX K (Ao d))).vs.getD (Aq d).toNat false=true then (((AN fs (Ac d)).ps.zip (Ak d)).foldl (needA K) (st.needX K (Ao d))).needX K (AN fs (Ac d)).res else ((AN fs (Ac d)).ps.zip (Ak d)).foldl (needA K) (st.needX K (Ao d)))
 else st.needX K (Ao d)
def look1 (st:NS) (x:Nat × D × Nat):NS:=if BH ch kf fs st x=true then needFor K fs (st.needN x.1) x.2.1 else st
def BO (C:List (Nat × D × Nat)):Nat->NS->NS
 | 0,st=>st
 | g+1,st=>if st.mo=true then BO C g (C.foldl (look1 ch K kf fs) { st with mo:=false }) else st
end
def CV (kf:Nat):List FnD->Nat->List (Nat × D × Nat)
 | [],_=>[]
 | f::r,a=>Bp kf f.body a++CV kf r (a+Ai kf f.body)
def B8 (kf:Nat) (fs:List FnD) (l:List D):List (Nat × D × Nat):=CV kf fs 0++Bp kf l (Am kf fs)
def NS.left (st:NS):Nat:=st.vs.count false+st.cs.count false+st.nd.count false
def ns0 (vn yn n:Nat):NS:=⟨List.replicate vn false,List.replicate yn false,List.replicate n false,true⟩
def AY (ch:Int) (K kf:Nat) (fs:List FnD) (l:List D) (vn yn:Nat):NS:=BO ch K kf fs (B8 kf fs l) (vn+yn+(Am kf fs+Ai kf l)+1) (ns0 vn yn (Am kf fs+Ai kf l))
def Ky (f:NS->NS):Prop:=∀ st,(f st).mo=false->f st=st
theorem Ky.comp {f g:NS->NS} (hf:Ky f) (hg:Ky g):Ky (fun st=>f (g st)):=fun st h=>by
 have h1:=hf _ h
 show f (g st)=st
 rw [h1]
 have h2:(f (g st)).mo=false:=h
 rw [h1] at h2
 exact hg _ h2
theorem Ky.id:Ky (fun st=>st):=fun _ _=>rfl
theorem Ky.foldl {α:Type} {f:NS->α->NS} (hf:∀ x,Ky (fun st=>f st x)):∀ (l:List α),Ky (fun st=>l.foldl f st)
 | []=>Ky.id
 | x::l=>Ky.comp (f:=fun st=>l.foldl f st) (g:=fun st=>f st x) (Ky.foldl hf l) (hf x)
theorem Ky.needV (v:Int):Ky (fun st=>st.needV v):=fun st h=>by
 change (st.needV v).mo=false at h
 show st.needV v=st
 unfold NS.needV at h ⊢
 split
 ·rfl
 ·rename_i hh;rw [if_neg hh] at h;cases h
theorem Ky.needC (v:Int):Ky (fun st=>st.needC v):=fun st h=>by
 change (st.needC v).mo=false at h
 show st.needC v=st
 unfold NS.needC at h ⊢
 split
 ·rfl
 ·rename_i hh;rw [if_neg hh] at h;cases h
theorem Ky.needN (v:Nat):Ky (fun st=>st.needN v):=fun st h=>by
 change (st.needN v).mo=false at h
 show st.needN v=st
 unfold NS.needN at h ⊢
 split
 ·rfl
 ·rename_i hh;rw [if_neg hh] at h;cases h
theorem Ky.needX (K:Nat) (e:D):Ky (fun st=>st.needX K e):=Ky.foldl Ky.needV _
theorem Ky.ite {f g:NS->NS} {P:NS->Prop} [∀ st,Decidable (P st)] (hf:Ky f) (hg:Ky g):Ky (fun st=>if P st then f st else g st):=fun st h=>by
 dsimp only at h ⊢
 split
 ·rename_i hh;rw [if_pos hh] at h;exact hf _ h
 ·rename_i hh;rw [if_neg hh] at h;exact hg _ h
section
variable {ch:Int} {K kf:Nat} {fs:List FnD}
theorem Ky.needA (q:Int × D):Ky (fun st=>needA K st q):=Ky.ite (P:=fun st=>st.vs.getD q.1.toNat false=true) (Ky.needX K q.2) Ky.id
theorem Ky.needFor (d:D):Ky (fun st=>needFor K fs st d):=by
 unfold Ex.needFor
 by_cases h3:Ad d=3
 ·simp only [if_pos h3]
  exact Ky.comp (Ky.needC _) (Ky.needX K _)
 ·simp only [if_neg h3]
  by_cases h2:Ad d=2
  ·simp only [if_pos h2]
   exact Ky.comp (f:=fun st=>if st.vs.getD (Aq d).toNat false=true then st.needX K (AN fs (Ac d)).res else st) (g:=fun st=>((AN fs (Ac d)).ps.zip (Ak d)).foldl (Ex.needA K) (st.needX K (Ao d))) (Ky.ite (P:=fun st=>st.vs.getD (Aq d).toNat false=true) (Ky.needX K _) Ky.id) (Ky.comp (f:=fun st=>((AN fs (Ac d)).ps.zip (Ak d)).foldl (Ex.needA K) st) (Ky.foldl Ky.needA _) (Ky.needX K _))
  ·simp only [if_neg h2]
   exact Ky.needX K _
theorem Ky.look1 (x:Nat × D × Nat):Ky (fun st=>look1 ch K kf fs st x):=Ky.ite (P:=fun st=>BH ch kf fs st x=true) (Ky.comp (f:=fun st=>Ex.needFor K fs st x.2.1) (Ky.needFor _) (Ky.needN _)) Ky.id
theorem Dc {α:Type} {f:NS->α->NS} (hf:∀ x,Ky (fun st=>f st x)):∀ (l:List α) (st:NS),(l.foldl f st).mo=false->l.foldl f st=st/\∀ x∈l,f st x=st
 | [],st,h=>⟨rfl,fun x hx=>by cases hx⟩
 | x::l,st,h=>by
  obtain ⟨h1,h2⟩:=Dc hf l (f st x) h
  have h3:(f st x).mo=false:=by
   have h':(l.foldl f (f st x)).mo=false:=h
   rwa [h1] at h'
  have h4:=hf x st h3
  dsimp only at h4
  rw [h4] at h1 h2
  refine ⟨?_,fun y hy=>?_⟩
  ·show l.foldl f (f st x)=st
   rw [h4];exact h1
  ·rcases List.mem_cons.1 hy with rfl | hy
   ·exact h4
   ·exact h2 y hy
theorem I0 {st:NS} {v:Int} (h:st.needV v=st) (hm:st.mo=false):st.vs.getD v.toNat false=true:=by
 unfold NS.needV at h
 split at h
 ·assumption
 ·have:=congrArg NS.mo h
  rw [hm] at this
  cases this
theorem I7 {st:NS} {v:Int} (h:st.needC v=st) (hm:st.mo=false):st.cs.getD v.toNat false=true:=by
 unfold NS.needC at h
 split at h
 ·assumption
 ·have:=congrArg NS.mo h
  rw [hm] at this
  cases this
theorem I1 {st:NS} {v:Nat} (h:st.needN v=st) (hm:st.mo=false):st.nd.getD v false=true:=by
 unfold NS.needN at h
 split at h
 ·assumption
 ·have:=congrArg NS.mo h
  rw [hm] at this
  cases this
theorem Er {st:NS} {e:D} (h:st.needX K e=st) (hm:st.mo=false):∀ v∈AK K e,st.vs.getD v.toNat false=true:=fun v hv=>by
 have h0:(st.needX K e).mo=false:=by rw [h,hm]
 exact I0 ((Dc Ky.needV (AK K e) st h0).2 v hv) hm
theorem Df {nd:List Bool} {a b:Nat}:Cm nd a b=true ↔ ∃ i,a<=i/\i < b/\nd.getD i false=true:=by
 unfold Cm
 rw [List.any_eq_true]
 constructor
 ·rintro ⟨x,hx,hx1⟩
  obtain ⟨j,hj,he⟩:=List.mem_iff_getElem.1 hx
  rw [List.getElem_drop,List.getElem_take] at he
  simp only [List.length_drop,List.length_take] at hj
  refine ⟨a+j,by omega,by omega,?_⟩
  rw [List.getD_eq_getElem?_getD,List.getElem?_eq_getElem (by omega),he]
  exact hx1
 ·rintro ⟨i,h1,h2,h3⟩
  rw [List.getD_eq_getElem?_getD] at h3
  cases hi:nd[i]? with
  | none=>rw [hi] at h3;cases h3
  | some y=>
   rw [hi] at h3
   refine ⟨y,?_,h3⟩
   refine List.mem_iff_getElem?.2 ⟨i - a,?_⟩
   rw [List.getElem?_drop,List.getElem?_take_of_lt (by omega),show a+(i - a)=i by omega,hi]
structure NLe (a b:NS):Prop where
 vs:∀ i,a.vs.getD i false=true->b.vs.getD i false=true
 cs:∀ i,a.cs.getD i false=true->b.cs.getD i false=true
 nd:∀ i,a.nd.getD i false=true->b.nd.getD i false=true
theorem NLe.refl (a:NS):NLe a a:=⟨fun _ h=>h,fun _ h=>h,fun _ h=>h⟩
theorem NLe.trans {a b c:NS} (h:NLe a b) (k:NLe b c):NLe a c:=⟨fun i hi=>k.vs i (h.vs i hi),fun i hi=>k.cs i (h.cs i hi),fun i hi=>k.nd i (h.nd i hi)⟩
theorem Fd {l:List Bool} {i j:Nat} {x:Bool}:(l.set i x).getD j false=if i=j/\i < l.length then x else l.getD j false:=by
 rw [List.getD_eq_getElem?_getD,List.getD_eq_getElem?_getD,List.getElem?_set]
 by_cases h:i=j
 ·subst h
  by_cases h2:i < l.length
  ·simp [h2]
  ·simp [h2]
 ·simp [h]
theorem Gs {l:List Bool} {i j:Nat} (h:l.getD j false=true):(l.set i true).getD j false=true:=by
 rw [Fd];split
 ·rfl
 ·exact h
structure Up (f:NS->NS):Prop where
 le:∀ st,NLe st (f st)
 nd:∀ st,(f st).nd=st.nd
theorem Up.comp {f g:NS->NS} (hf:Up f) (hg:Up g):Up (fun st=>f (g st)):=⟨fun st=>(hg.le st).trans (hf.le _),fun st=>(hf.nd _).trans (hg.nd st)⟩
theorem Up.id:Up (fun st=>st):=⟨NLe.refl,fun _=>rfl⟩
theorem Up.foldl {α:Type} {f:NS->α->NS} (hf:∀ x,Up (fun st=>f st x)):∀ (l:List α),Up (fun st=>l.foldl f st)
 | []=>Up.id
 | x::l=>Up.comp (f:=fun st=>l.foldl f st) (g:=fun st=>f st x) (Up.foldl hf l) (hf x)
theorem Up.ite {f g:NS->NS} {P:NS->Prop} [∀ st,Decidable (P st)] (hf:Up f) (hg:Up g):Up (fun st=>if P st then f st else g st):=⟨fun st=>by
 split
 ·exact hf.le st
 ·exact hg.le st,fun st=>by
 split
 ·exact hf.nd st
 ·exact hg.nd st⟩
theorem Up.needV (v:Int):Up (fun st=>st.needV v):=Up.ite (P:=fun st=>st.vs.getD v.toNat false=true) Up.id ⟨fun st=>⟨fun i h=>Gs h,fun _ h=>h,fun _ h=>h⟩,fun _=>rfl⟩
theorem Up.needC (v:Int):Up (fun st=>st.needC v):=Up.ite (P:=fun st=>st.cs.getD v.toNat false=true) Up.id ⟨fun st=>⟨fun _ h=>h,fun i h=>Gs h,fun _ h=>h⟩,fun _=>rfl⟩
theorem I2 (st:NS) (a:Nat):NLe st (st.needN a):=by
 unfold NS.needN
 split
 ·exact NLe.refl _
 ·exact ⟨fun _ h=>h,fun _ h=>h,fun i h=>Gs h⟩
theorem I3 {st:NS} {a i:Nat} (h:(st.needN a).nd.getD i false=true):st.nd.getD i false=true\/i=a:=by
 unfold NS.needN at h
 split at h
 ·exact Or.inl h
 ·dsimp only at h
  rw [Fd] at h
  split at h
  ·rename_i hh;exact Or.inr hh.1.symm
  ·exact Or.inl h
theorem Up.needX (K:Nat) (e:D):Up (fun st=>st.needX K e):=Up.foldl Up.needV _
theorem Up.needA (q:Int × D):Up (fun st=>needA K st q):=Up.ite (P:=fun st=>st.vs.getD q.1.toNat false=true) (Up.needX K q.2) Up.id
theorem Up.needFor (d:D):Up (fun st=>needFor K fs st d):=by
 unfold Ex.needFor
 by_cases h3:Ad d=3
 ·simp only [if_pos h3]
  exact Up.comp (Up.needC _) (Up.needX K _)
 ·simp only [if_neg h3]
  by_cases h2:Ad d=2
  ·simp only [if_pos h2]
   exact Up.comp (f:=fun st=>if st.vs.getD (Aq d).toNat false=true then st.needX K (AN fs (Ac d)).res else st) (g:=fun st=>((AN fs (Ac d)).ps.zip (Ak d)).foldl (Ex.needA K) (st.needX K (Ao d))) (Up.ite (P:=fun st=>st.vs.getD (Aq d).toNat false=true) (Up.needX K _) Up.id) (Up.comp (f:=fun st=>((AN fs (Ac d)).ps.zip (Ak d)).foldl (Ex.needA K) st) (Up.foldl Up.needA _) (Up.needX K _))
  ·simp only [if_neg h2]
   exact Up.needX K _
theorem He {st st':NS} (h:NLe st st') {x:Nat × D × Nat} (hx:BH ch kf fs st x=true):BH ch kf fs st' x=true:=by
 have ha:∀ a b,Cm st.nd a b=true->Cm st'.nd a b=true:=fun a b hh=>by
  obtain ⟨i,h1,h2,h3⟩:=Df.1 hh
  exact Df.2 ⟨i,h1,h2,h.nd i h3⟩
 unfold BH at hx ⊢
 by_cases h2:Ad x.2.1=2
 ·rw [if_pos h2] at hx ⊢
  rw [Bool.or_eq_true,Bool.or_eq_true] at hx ⊢
  rcases hx with (hx | hx) | hx
  ·exact Or.inl (Or.inl (h.vs _ hx))
  ·obtain ⟨p,hp,hq⟩:=List.any_eq_true.1 hx
   exact Or.inl (Or.inr (List.any_eq_true.2 ⟨p,hp,h.vs _ hq⟩))
  ·exact Or.inr (ha _ _ hx)
 rw [if_neg h2] at hx ⊢
 by_cases h3:Ad x.2.1=3
 ·rw [if_pos h3] at hx ⊢
  rw [Bool.or_eq_true] at hx ⊢
  rcases hx with hx | hx
  ·exact Or.inl (h.vs _ hx)
  ·exact Or.inr (h.cs _ hx)
 rw [if_neg h3] at hx ⊢
 by_cases h4:Ad x.2.1=4
 ·rw [if_pos h4] at hx ⊢;exact hx
 rw [if_neg h4] at hx ⊢
 by_cases h7:Ad x.2.1=7\/Ad x.2.1=8
 ·rw [if_pos h7] at hx ⊢;exact ha _ _ hx
 rw [if_neg h7] at hx ⊢
 exact h.vs _ hx
def NJ (ch:Int) (kf:Nat) (fs:List FnD) (C:List (Nat × D × Nat)) (st:NS):Prop:=∀ x∈C,st.nd.getD x.1 false=true->BH ch kf fs st x=true
theorem Jc (st:NS) (x):NLe st (look1 ch K kf fs st x):=by
 unfold look1
 split
 ·exact (I2 _ _).trans ((Up.needFor x.2.1).le _)
 ·exact NLe.refl _
theorem Jb {C:List (Nat × D × Nat)} (hC:∀ x∈C,∀ y∈C,x.1=y.1->x=y) {st:NS} (h:NJ ch kf fs C st) {y} (hy:y∈C):NJ ch kf fs C (look1 ch K kf fs st y):=fun x hx hn=>by
 have hle:=Jc (ch:=ch) (K:=K) (kf:=kf) (fs:=fs) st y
 by_cases hi:BH ch kf fs st y=true
 ·have e:(look1 ch K kf fs st y).nd=(st.needN y.1).nd:=by
   unfold look1;rw [if_pos hi];exact (Up.needFor y.2.1).nd _
  rw [e] at hn
  rcases I3 hn with hn | hn
  ·exact He hle (h x hx hn)
  ·rw [hC x hx y hy hn]
   exact He hle hi
 ·have e:look1 ch K kf fs st y=st:=by unfold look1;rw [if_neg hi]
  rw [e] at hn ⊢
  exact h x hx hn
theorem Hh {C:List (Nat × D × Nat)} (hC:∀ x∈C,∀ y∈C,x.1=y.1->x=y):∀ (l:List (Nat × D × Nat)) (st:NS),(∀ x∈l,x∈C)->NJ ch kf fs C st->NJ ch kf fs C (l.foldl (look1 ch K kf fs) st)
 | [],st,_,h=>h
 | y::l,st,hl,h=>Hh hC l _ (fun x hx=>hl x (List.mem_cons_of_mem _ hx)) (Jb hC h (hl y (List.mem_cons_self ..)))
theorem E1 {C:List (Nat × D × Nat)} (hC:∀ x∈C,∀ y∈C,x.1=y.1->x=y):∀ (g:Nat) (st:NS),NJ ch kf fs C st->NJ ch kf fs C (BO ch K kf fs C g st)
 | 0,st,h=>h
 | g+1,st,h=>by
  unfold BO
  split
  ·exact E1 hC g _ (Hh hC C _ (fun x hx=>hx) h)
  ·exact h
theorem Iv {st:NS} {x:Nat × D × Nat} (hm:st.mo=false) (h:look1 ch K kf fs st x=st) (hj:st.nd.getD x.1 false=true->BH ch kf fs st x=true) (hflat:Ad x.2.1≠7->Ad x.2.1≠8->Ae x.2.1=[]/\Aj x.2.1=[]):Cl st.nd st.vs st.cs ch K kf fs x:=by
 have hy:BH ch kf fs st x=true->st.nd.getD x.1 false=true/\needFor K fs st x.2.1=st:=fun hn=>by
  unfold look1 at h
  rw [if_pos hn] at h
  have h0:(needFor K fs (st.needN x.1) x.2.1).mo=false:=by rw [h,hm]
  have h1:=Ky.needFor (K:=K) (fs:=fs) x.2.1 (st.needN x.1) h0
  dsimp only at h1
  rw [h] at h1
  refine ⟨I1 h1.symm hm,?_⟩
  rw [<-h1] at h
  exact h
 have hX:st.nd.getD x.1 false=true->st.needX K (Ao x.2.1)=st/\(Ad x.2.1=3->st.needC (Ac x.2.1)=st)/\(Ad x.2.1=2->(∀ q∈(AN fs (Ac x.2.1)).ps.zip (Ak x.2.1),needA K st q=st)/\(st.vs.getD (Aq x.2.1).toNat false=true->st.needX K (AN fs (Ac x.2.1)).res=st)):=fun hn=>by
  have hf:=(hy (hj hn)).2
  have hf0:(needFor K fs st x.2.1).mo=false:=by rw [hf,hm]
  unfold needFor at hf hf0
  by_cases h3:Ad x.2.1=3
  ·rw [if_pos h3] at hf hf0
   have e1:=Ky.needC (Ac x.2.1) _ hf0
   dsimp only at e1
   rw [hf] at e1
   rw [<-e1] at hf
   exact ⟨e1.symm,fun _=>hf,fun h2=>by omega⟩
  rw [if_neg h3] at hf hf0
  by_cases h2:Ad x.2.1=2
  ·rw [if_pos h2] at hf hf0
   have e1:=Ky.ite (P:=fun st=>st.vs.getD (Aq x.2.1).toNat false=true) (Ky.needX K (AN fs (Ac x.2.1)).res) Ky.id (((AN fs (Ac x.2.1)).ps.zip (Ak x.2.1)).foldl (needA K) (st.needX K (Ao x.2.1))) hf0
   dsimp only at e1
   rw [hf] at e1
   have e2:=Dc (Ky.needA (K:=K)) ((AN fs (Ac x.2.1)).ps.zip (Ak x.2.1)) (st.needX K (Ao x.2.1)) (by rw [<-e1];exact hm)
   have e3:st.needX K (Ao x.2.1)=st:=e2.1.symm.trans e1.symm
   have e4:=e2.2
   rw [<-e1] at hf
   rw [e3] at e4
   exact ⟨e3,fun h=>absurd h h3,fun _=>⟨e4,fun hv=>by rwa [if_pos hv] at hf⟩⟩
  rw [if_neg h2] at hf hf0
  exact ⟨hf,fun h=>absurd h h3,fun h=>absurd h h2⟩
 refine ⟨fun h4 ho=>(hy ?_).1,fun h1 hv=>(hy ?_).1,fun h3 hv=>(hy ?_).1,fun h2 hv=>(hy ?_).1,fun h7 hv=>(hy ?_).1,fun hn=>Er (hX hn).1 hm,fun hn h3=>I7 ((hX hn).2.1 h3) hm,fun hn h2 q hq hv=>?_,hflat,fun hn h2 hv=>Er (((hX hn).2.2 h2).2 hv) hm⟩
 ·unfold BH;rw [if_neg (by omega),if_neg (by omega),if_pos h4];exact decide_eq_true ho
 ·unfold BH;rw [if_neg (by omega),if_neg (by omega),if_neg (by omega),if_neg (by omega)];exact hv
 ·unfold BH;rw [if_neg (by omega),if_pos h3];exact Bool.or_eq_true _ _ ▸ hv
 ·unfold BH;rw [if_pos h2,Bool.or_eq_true,Bool.or_eq_true]
  rcases hv with hv | ⟨p,hp,hv⟩ | hv
  ·exact Or.inl (Or.inl hv)
  ·exact Or.inl (Or.inr (List.any_eq_true.2 ⟨p,hp,hv⟩))
  ·exact Or.inr (Df.2 hv)
 ·unfold BH;rw [if_neg (by omega),if_neg (by omega),if_neg (by omega),if_pos h7];exact Df.2 hv
 ·have:=((hX hn).2.2 h2).1 q hq
  unfold needA at this
  rw [if_pos hv] at this
  exact Er this hm
end
theorem CB:∀ (k:Nat) (l:List D) (a:Nat),(Bp k l a).map Prod.fst=List.range' a (Ai k l)
 | k,[],a=>rfl
 | 0,d::r,a=>by
  rw [Bc,Bm,List.map_append]
  show []++_=List.range' a (0+Ai 0 r)
  rw [List.nil_append,Nat.zero_add]
  exact CB 0 r a
 | k+1,d::r,a=>by
  rw [Bc,Bm,List.map_append,A8,List.map_cons,List.map_append,CB k,CB k,CB (k+1) r,AR]
  rw [show 1+Ai k (Ae d)+Ai k (Aj d)+Ai (k+1) r=1+(Ai k (Ae d)+Ai k (Aj d))+Ai (k+1) r by omega,<-List.range'_append_1 (m:=1+(Ai k (Ae d)+Ai k (Aj d))),<-List.range'_append_1 (m:=1),<-List.range'_append_1 (m:=Ai k (Ae d))]
  simp [Nat.add_assoc,List.range'_one]
theorem F7 (kf:Nat):∀ (fs:List FnD) (a:Nat),(CV kf fs a).map Prod.fst=List.range' a (Am kf fs)
 | [],a=>rfl
 | f::r,a=>by
  show (Bp kf f.body a++CV kf r (a+Ai kf f.body)).map _=List.range' a (Am kf (f::r))
  rw [List.map_append,CB,F7 kf r,show Am kf (f::r)=Ai kf f.body+Am kf r by unfold Am;simp,<-List.range'_append_1]
theorem F5 (kf:Nat) (fs:List FnD) (l:List D):(B8 kf fs l).map Prod.fst=List.range' 0 (Am kf fs+Ai kf l):=by
 unfold B8
 rw [List.map_append,F7,CB,<-List.range'_append_1,Nat.zero_add]
theorem DE (kf:Nat) (fs:List FnD) (l:List D):(B8 kf fs l).length=Am kf fs+Ai kf l:=by
 have:=congrArg List.length (F5 kf fs l)
 simpa using this
theorem D9 (kf:Nat) (fs:List FnD) (l:List D) (i:Nat) (h:i < (B8 kf fs l).length):((B8 kf fs l)[i]).1=i:=by
 have h1:=F5 kf fs l
 have h2:((B8 kf fs l).map Prod.fst)[i]? = some i:=by
  rw [h1,List.getElem?_range' (by rw [DE] at h;exact h)]
  simp
 rw [List.getElem?_map,List.getElem?_eq_getElem h] at h2
 simpa using h2
theorem I9 (kf:Nat) (fs:List FnD) (l:List D):∀ x∈B8 kf fs l,∀ y∈B8 kf fs l,x.1=y.1->x=y:=fun x hx y hy h=>by
 obtain ⟨i,hi,rfl⟩:=List.mem_iff_getElem.1 hx
 obtain ⟨j,hj,rfl⟩:=List.mem_iff_getElem.1 hy
 rw [D9,D9] at h
 subst h
 rfl
theorem F6 {kf:Nat}:∀ {fs:List FnD} {a:Nat} {i:Nat} (h:i < fs.length) {x},x∈Bp kf fs[i].body (a+Am kf (fs.take i))->x∈CV kf fs a
 | f::r,a,0,h,x,hx=>by
  show x∈Bp kf f.body a++CV kf r (a+Ai kf f.body)
  exact List.mem_append_left _ hx
 | f::r,a,i+1,h,x,hx=>by
  show x∈Bp kf f.body a++CV kf r (a+Ai kf f.body)
  refine List.mem_append_right _ (F6 (i:=i) (Nat.lt_of_succ_lt_succ h) ?_)
  have e:Am kf ((f::r).take (i+1))=Ai kf f.body+Am kf (r.take i):=by unfold Am;simp
  rw [e,<-Nat.add_assoc] at hx
  exact hx
theorem Fm {kf:Nat}:∀ {fs:List FnD} {a:Nat} {x},x∈CV kf fs a->∃ i,∃ h:i < fs.length,x∈Bp kf fs[i].body (a+Am kf (fs.take i))
 | f::r,a,x,hx=>by
  have hx':x∈Bp kf f.body a++CV kf r (a+Ai kf f.body):=hx
  rcases List.mem_append.1 hx' with hx | hx
  ·exact ⟨0,Nat.zero_lt_succ _,hx⟩
  ·obtain ⟨i,hi,hx⟩:=Fm hx
   refine ⟨i+1,Nat.succ_lt_succ hi,?_⟩
   have e:Am kf ((f::r).take (i+1))=Ai kf f.body+Am kf (r.take i):=by unfold Am;simp
   rw [e,<-Nat.add_assoc]
   exact hx
theorem C1 {P:Nat->D->Prop} {P1:D->Prop} (hP:∀ k d,P (k+1) d->P1 d/\(∀ s∈Ae d,P k s)/\∀ s∈Aj d,P k s):∀ (k:Nat) (l:List D) (a:Nat),(∀ s∈l,P k s)->∀ x∈Bp k l a,P1 x.2.1
 | k,[],a,_,x,hx=>by cases hx
 | 0,d::r,a,h,x,hx=>C1 hP 0 r _ (fun s hs=>h s (List.mem_cons_of_mem _ hs)) x hx
 | k+1,d::r,a,h,x,hx=>by
  rw [Bc,List.mem_append,A8,List.mem_cons,List.mem_append] at hx
  obtain ⟨h1,h2,h3⟩:=hP k d (h d (List.mem_cons_self ..))
  rcases hx with (rfl | hx | hx) | hx
  ·exact h1
  ·exact C1 hP k _ _ h2 x hx
  ·exact C1 hP k _ _ h3 x hx
  ·exact C1 hP (k+1) r _ (fun s hs=>h s (List.mem_cons_of_mem _ hs)) x hx
structure Ln (vn yn n:Nat) (st:NS):Prop where
 vs:st.vs.length=vn
 cs:st.cs.length=yn
 nd:st.nd.length=n
def Dn (vn yn n:Nat) (f:NS->NS):Prop:=∀ st,Ln vn yn n st->Ln vn yn n (f st)/\(f st=st\/(f st).left < st.left)
section
variable {vn yn n:Nat}
theorem Dn.comp {f g:NS->NS} (hf:Dn vn yn n f) (hg:Dn vn yn n g):Dn vn yn n (fun st=>f (g st)):=fun st h=>by
 obtain ⟨h1,h2⟩:=hg st h
 obtain ⟨h3,h4⟩:=hf _ h1
 refine ⟨h3,?_⟩
 dsimp only
 rcases h2 with h2 | h2
 ·rw [h2] at h4 ⊢;exact h4
 ·rcases h4 with h4 | h4
  ·rw [h4];exact Or.inr h2
  ·exact Or.inr (Nat.lt_trans h4 h2)
theorem Dn.id:Dn vn yn n (fun st=>st):=fun st h=>⟨h,Or.inl rfl⟩
theorem Dn.foldl {α:Type} {f:NS->α->NS}:∀ (l:List α),(∀ x∈l,Dn vn yn n (fun st=>f st x))->Dn vn yn n (fun st=>l.foldl f st)
 | [],_=>Dn.id
 | x::l,h=>Dn.comp (f:=fun st=>l.foldl f st) (g:=fun st=>f st x) (Dn.foldl l (fun y hy=>h y (List.mem_cons_of_mem _ hy))) (h x (List.mem_cons_self ..))
theorem Dn.ite {f g:NS->NS} {P:NS->Prop} [∀ st,Decidable (P st)] (hf:Dn vn yn n f) (hg:Dn vn yn n g):Dn vn yn n (fun st=>if P st then f st else g st):=fun st h=>by
 dsimp only
 split
 ·exact hf st h
 ·exact hg st h
theorem count_set {l:List Bool} {i:Nat} (h:i < l.length) (h2:¬ l.getD i false=true):(l.set i true).count false < l.count false:=by
 have e:l[i]=false:=by
  rw [List.getD_eq_getElem?_getD,List.getElem?_eq_getElem h] at h2
  simpa using h2
 rw [List.count_set (h:=h),e]
 have:0 < l.count false:=List.count_pos_iff.2 (e ▸ List.getElem_mem h)
 simp
 omega
theorem Dn.needV {v:Int} (hv:v.toNat < vn):Dn vn yn n (fun st=>st.needV v):=fun st h=>by
 show Ln vn yn n (st.needV v)/\(st.needV v=st\/(st.needV v).left < st.left)
 unfold NS.needV
 split
 ·exact ⟨h,Or.inl rfl⟩
 ·rename_i hh
  have:=count_set (by rw [h.vs];exact hv) hh
  exact ⟨⟨by simp [h.vs],h.cs,h.nd⟩,Or.inr (by unfold NS.left;dsimp only;omega)⟩
theorem Dn.needC {v:Int} (hv:v.toNat < yn):Dn vn yn n (fun st=>st.needC v):=fun st h=>by
 show Ln vn yn n (st.needC v)/\(st.needC v=st\/(st.needC v).left < st.left)
 unfold NS.needC
 split
 ·exact ⟨h,Or.inl rfl⟩
 ·rename_i hh
  have:=count_set (by rw [h.cs];exact hv) hh
  exact ⟨⟨h.vs,by simp [h.cs],h.nd⟩,Or.inr (by unfold NS.left;dsimp only;omega)⟩
theorem Dn.needN {v:Nat} (hv:v < n):Dn vn yn n (fun st=>st.needN v):=fun st h=>by
 show Ln vn yn n (st.needN v)/\(st.needN v=st\/(st.needN v).left < st.left)
 unfold NS.needN
 split
 ·exact ⟨h,Or.inl rfl⟩
 ·rename_i hh
  have:=count_set (by rw [h.nd];exact hv) hh
  exact ⟨⟨h.vs,h.cs,by simp [h.nd]⟩,Or.inr (by unfold NS.left;dsimp only;omega)⟩
theorem Dn.needX {K:Nat} {e:D} (h:∀ v∈AK K e,v.toNat < vn):Dn vn yn n (fun st=>st.needX K e):=Dn.foldl _ (fun v hv=>Dn.needV (h v hv))
structure Rg (vn yn n K:Nat) (fs:List FnD) (x:Nat × D × Nat):Prop where
 num:x.1 < n
 expr:∀ v∈AK K (Ao x.2.1),v.toNat < vn
 chan:Ad x.2.1=3->(Ac x.2.1).toNat < yn
 args:Ad x.2.1=2->∀ q∈(AN fs (Ac x.2.1)).ps.zip (Ak x.2.1),∀ v∈AK K q.2,v.toNat < vn
 res:Ad x.2.1=2->∀ v∈AK K (AN fs (Ac x.2.1)).res,v.toNat < vn
variable {ch:Int} {K kf:Nat} {fs:List FnD}
theorem Dn.needFor {x:Nat × D × Nat} (h:Rg vn yn n K fs x):Dn vn yn n (fun st=>needFor K fs st x.2.1):=by
 unfold Ex.needFor
 by_cases h3:Ad x.2.1=3
 ·simp only [if_pos h3]
  exact Dn.comp (Dn.needC (h.chan h3)) (Dn.needX h.expr)
 ·simp only [if_neg h3]
  by_cases h2:Ad x.2.1=2
  ·simp only [if_pos h2]
   exact Dn.comp (f:=fun st=>if st.vs.getD (Aq x.2.1).toNat false=true then st.needX K (AN fs (Ac x.2.1)).res else st) (g:=fun st=>((AN fs (Ac x.2.1)).ps.zip (Ak x.2.1)).foldl (Ex.needA K) (st.needX K (Ao x.2.1))) (Dn.ite (P:=fun st=>st.vs.getD (Aq x.2.1).toNat false=true) (Dn.needX (h.res h2)) Dn.id) (Dn.comp (f:=fun st=>((AN fs (Ac x.2.1)).ps.zip (Ak x.2.1)).foldl (Ex.needA K) st) (Dn.foldl _ (fun q hq=>Dn.ite (P:=fun st=>st.vs.getD q.1.toNat false=true) (Dn.needX (h.args h2 q hq)) Dn.id)) (Dn.needX h.expr))
  ·simp only [if_neg h2]
   exact Dn.needX h.expr
theorem Dn.look1 {x:Nat × D × Nat} (h:Rg vn yn n K fs x):Dn vn yn n (fun st=>look1 ch K kf fs st x):=Dn.ite (P:=fun st=>BH ch kf fs st x=true) (Dn.comp (f:=fun st=>Ex.needFor K fs st x.2.1) (Dn.needFor h) (Dn.needN h.num)) Dn.id
theorem Dn.look {C:List (Nat × D × Nat)} (h:∀ x∈C,Rg vn yn n K fs x):Dn vn yn n (fun st=>C.foldl (Ex.look1 ch K kf fs) st):=Dn.foldl C (fun x hx=>Dn.look1 (h x hx))
theorem Ei {C:List (Nat × D × Nat)} (hC:∀ x∈C,Rg vn yn n K fs x):∀ (g:Nat) (st:NS),Ln vn yn n st->(st.mo=true->st.left < g)->(BO ch K kf fs C g st).mo=false/\Ln vn yn n (BO ch K kf fs C g st)/\(st.mo=true->∀ x∈C,look1 ch K kf fs (BO ch K kf fs C g st) x=BO ch K kf fs C g st)
 | 0,st,hl,hg=>by
  cases hm:st.mo with
  | false=>exact ⟨hm,hl,fun h=>by cases h⟩
  | true=>have:=hg hm;omega
 | g+1,st,hl,hg=>by
  cases hm:st.mo with
  | false=>
   unfold BO
   rw [hm]
   exact ⟨hm,hl,fun h=>by cases h⟩
  | true=>
   have hlt:=hg hm
   have hl1:Ln vn yn n { st with mo:=false }:=⟨hl.vs,hl.cs,hl.nd⟩
   obtain ⟨d1,d2⟩:=Dn.look (ch:=ch) (kf:=kf) hC { st with mo:=false } hl1
   dsimp only at d1 d2
   unfold BO
   rw [if_pos hm]
   generalize hst2:C.foldl (look1 ch K kf fs) { st with mo:=false }=st2 at *
   have hi:=Ei hC g st2 d1 (fun h2=>by
    rcases d2 with d2 | d2
    ·rw [d2] at h2;cases h2
    ·have:({ st with mo:=false }:NS).left=st.left:=rfl
     omega)
   refine ⟨hi.1,hi.2.1,fun _=>?_⟩
   cases h2:st2.mo with
   | true=>exact hi.2.2 h2
   | false=>
    have e:BO ch K kf fs C g st2=st2:=by
     cases g with
     | zero=>rfl
     | succ g=>unfold BO;rw [h2];rfl
    rw [e]
    have hh:=Dc (Ky.look1 (ch:=ch) (K:=K) (kf:=kf) (fs:=fs)) C { st with mo:=false } (by rw [hst2];exact h2)
    rw [<-hst2,hh.1]
    exact hh.2
theorem Ib {l:List D} (hR:∀ x∈B8 kf fs l,Rg vn yn (Am kf fs+Ai kf l) K fs x) (hflat:∀ x∈B8 kf fs l,Ad x.2.1≠7->Ad x.2.1≠8->Ae x.2.1=[]/\Aj x.2.1=[]) :
  (AY ch K kf fs l vn yn).mo=false/\Ln vn yn (Am kf fs+Ai kf l) (AY ch K kf fs l vn yn)/\∀ x∈B8 kf fs l,Cl (AY ch K kf fs l vn yn).nd (AY ch K kf fs l vn yn).vs (AY ch K kf fs l vn yn).cs ch K kf fs x:=by
 have h:=Ei (ch:=ch) (kf:=kf) hR (vn+yn+(Am kf fs+Ai kf l)+1) (ns0 vn yn (Am kf fs+Ai kf l)) ⟨by simp [ns0],by simp [ns0],by simp [ns0]⟩ (fun _=>by
  unfold NS.left ns0
  simp only [List.count_replicate_self]
  omega)
 have hj:NJ ch kf fs (B8 kf fs l) (AY ch K kf fs l vn yn):=E1 (I9 kf fs l) _ _ (fun x hx hn=>by
  unfold ns0 at hn
  dsimp only at hn
  rw [List.getD_eq_getElem?_getD,List.getElem?_replicate] at hn
  split at hn <;> cases hn)
 exact ⟨h.1,h.2.1,fun x hx=>Iv h.1 (h.2.2 rfl x hx) (hj x hx) (hflat x hx)⟩
end
section
variable {nd nv ni:List Bool} {ch:Int} {K kf:Nat} {fs:List FnD}
theorem LS {l:List D} (hd:∀ i (h:i < fs.length),∀ x∈fs[i].body,dpS kf x) (h:∀ x∈B8 kf fs l,Cl nd nv ni ch K kf fs x):ClF nd nv ni ch K kf fs:=
 ⟨hd,fun i hi x hx=>h x (List.mem_append_left _ (F6 hi (by rw [Nat.zero_add];exact hx)))⟩
end
end Go.Proofs.YtfffpjkcfnekaaaGreat.Ex
