/- Plain: going through commands with levels; what is asked; what is inferred fits, and flows to whatever fits. -/
import Derived.Test.YtfffpjkcfnekaaaGreatI08
import Derived.RangeFuncNested
import Derived.RangeFuncBound
import Derived.RangeFuncCalls
import Derived.RangeFuncLeaves
import Derived.Shelf.Abstract
import Derived.Shelf.RegionOpen
import Derived.WalkKit
import Derived.OwnWalkIn
import Derived.TacticsInMore
import Derived.LoopNIn
import Derived.LoopIn
set_option linter.unusedVariables false
set_option maxHeartbeats 8000000
set_option maxRecDepth 100000
namespace Go.Proofs.YtfffpjkcfnekaaaGreat.Ex
def BS (n:Nat):Lev:=⟨List.replicate n true,List.replicate n false⟩
def Ar:Nat->D->List Int
 | 0,_=>[]
 | k+1,d=>if AD d=2 then [A5 d] else (AC d).flatMap (Ar k)
def AY (n:Nat) (L:List Lev) (l:Lev) (vs:List Int):Lev:=vs.foldl (fun l v=>BH l (L.getD v.toNat AL) n) l
section walk
variable {σ:Type} (n K:Nat) (lev:σ->List Lev) (step:Int->D->Lev->σ->σ)
def Eo (cnt:D->Nat) (cnt1:List D->Nat) (rec:List D->Int->Lev->σ->σ) (p:Lev) (q:Int × σ) (d:D):Int × σ:=
 (q.1+(cnt d:Int),rec (Ak d) (q.1+1+(cnt1 (Ag d):Int)) (AY n (lev (step q.1 d p q.2)) p (Ar K (Ao d)))
  (rec (Ag d) (q.1+1) (AY n (lev (step q.1 d p q.2)) p (Ar K (Ao d))) (step q.1 d p q.2)))
def goS:Nat->List D->Int->Lev->σ->σ
 | 0,_,_,_,st=>st
 | k+1,l,a,p,st=>(l.foldl (Eo n K lev step (BD (k+1)) (Ai k) (goS k) p) (a,st)).2
def goF (flev:σ->List Lev) (kf:Nat) (q:Int × σ) (x:Nat × FnD):Int × σ:=
 (q.1+(Ai kf x.2.body:Int),goS n K lev step kf x.2.body q.1 ((flev q.2).getD x.1 AL) q.2)
def CO (flev:σ->List Lev) (kf:Nat) (fs:List FnD) (main:List D) (st:σ):σ:=
 let q:=((List.range fs.length).zip fs).foldl (goF n K lev step flev kf) (0,st)
 goS n K lev step kf main q.1 (BS n) q.2
theorem Ds {R:σ->σ->Prop} (hr:∀ st,R st st) (ht:∀ {a b c},R a b->R b c->R a c) (hs:∀ a d p st,R st (step a d p st)) :
  ∀ (k:Nat) (l:List D) (a:Int) (p:Lev) (st:σ),R st (goS n K lev step k l a p st):=by
 intro k
 induction k with
 | zero=>intro l a p st;exact hr st
 | succ k ih=>
  intro l;unfold goS
  induction l with
  | nil=>intro a p st;exact hr st
  | cons d l ihl=>
   intro a p st;rw [List.foldl_cons];refine ht ?_ (ihl _ p _);exact ht (hs _ _ _ _) (ht (ih _ _ _ _) (ih _ _ _ _))
theorem LC {R:σ->σ->Prop} (hr:∀ st,R st st) (ht:∀ {a b c},R a b->R b c->R a c) (hs:∀ a d p st,R st (step a d p st)) (flev:σ->List Lev) (kf:Nat) (fs main) (st:σ) :
  R st (CO n K lev step flev kf fs main st):=by
 unfold CO;have h:∀ (xs:List (Nat × FnD)) (q:Int × σ),R q.2 (xs.foldl (goF n K lev step flev kf) q).2:=by
  intro xs
  induction xs with
  | nil=>intro q;exact hr _
  | cons x xs ih=>
   intro q;rw [List.foldl_cons];exact ht (Ds n K lev step hr ht hs _ _ _ _ _) (ih (goF n K lev step flev kf q x))
 exact ht (h _ (0,st)) (Ds n K lev step hr ht hs _ _ _ _ _)
theorem IA {P:Nat->D->Prop} {P1:D->Prop} (hP:∀ k d,P (k+1) d->P1 d/\(∀ s∈Ag d,P k s)/\∀ s∈Ak d,P k s) {R:σ->σ->Prop} (hr:∀ st,R st st) (ht:∀ {a b c},R a b->R b c->R a c) (hs:∀ a d p st,P1 d->R st (step a d p st)) :
  ∀ (k:Nat) (l:List D) (a:Int) (p:Lev) (st:σ),(∀ s∈l,P k s)->R st (goS n K lev step k l a p st):=by
 intro k
 induction k with
 | zero=>intro l a p st _;exact hr st
 | succ k ih=>
  intro l;unfold goS
  induction l with
  | nil=>intro a p st _;exact hr st
  | cons d l ihl=>
   intro a p st hl;obtain ⟨i,g,f⟩:=hP k d (hl d (by simp));rw [List.foldl_cons];refine ht ?_ (ihl _ p _ fun s hs=>hl s (by simp [hs]));exact ht (hs _ _ _ _ i) (ht (ih _ _ _ _ g) (ih _ _ _ _ f))
theorem Ka {P Pm:Nat->D->Prop} {P1:D->Prop} (hPm:∀ k d,Pm (k+1) d->P1 d/\(∀ s∈Ag d,Pm k s)/\∀ s∈Ak d,Pm k s) {Q:Nat->Nat->D->Prop} (hQ:∀ i k d,Q i (k+1) d->P1 d/\(∀ s∈Ag d,Q i k s)/\∀ s∈Ak d,Q i k s)
  {R:σ->σ->Prop} (hr:∀ st,R st st) (ht:∀ {a b c},R a b->R b c->R a c) (hs:∀ a d p st,P1 d->R st (step a d p st)) (flev:σ->List Lev) (kf:Nat) (fs:List FnD) (main:List D) (st:σ) (hf:∀ i (h:i < fs.length),∀ s∈fs[i].body,Q i kf s) (hm:∀ s∈main,Pm kf s) :
  R st (CO n K lev step flev kf fs main st):=by
 unfold CO;have h:∀ (xs:List (Nat × FnD)) (q:Int × σ),(∀ x∈xs,∀ s∈x.2.body,Q x.1 kf s)->R q.2 (xs.foldl (goF n K lev step flev kf) q).2:=by
  intro xs
  induction xs with
  | nil=>intro q _;exact hr _
  | cons x xs ih=>
   intro q f;rw [List.foldl_cons];exact ht (IA n K lev step (hQ x.1) hr ht hs _ _ _ _ _ (f x (by simp))) (ih (goF n K lev step flev kf q x) fun y l=>f y (by simp [l]))
 refine ht (h _ (0,st) fun x f=>?_) (IA n K lev step hPm hr ht hs _ _ _ _ _ hm);obtain ⟨i,g,rfl⟩:=List.getElem_of_mem f;simp at g;simp only [List.getElem_zip,List.getElem_range];exact hf i g
end walk
theorem My {σ τ:Type} (n K:Nat) (lev:σ->List Lev) (step:Int->D->Lev->σ->σ) (lev':τ->List Lev) (step':Int->D->Lev->τ->τ) (Q:Lev->Lev->Prop) (R:σ->τ->Prop) (G:τ->Prop) (E:σ->Prop)
  (hG:∀ a d p t,G (step' a d p t)->G t) (hE:∀ a d p t,E (step a d p t)->E t)
  (hs:∀ a d p p' s t,R s t->Q p p'->E (step a d p s)->G (step' a d p' t)->R (step a d p s) (step' a d p' t)/\Q (AY n (lev (step a d p s)) p (Ar K (Ao d))) (AY n (lev' (step' a d p' t)) p' (Ar K (Ao d)))) :
  ∀ (k:Nat) (l:List D) (a:Int) (p p':Lev) (s:σ) (t:τ),R s t->Q p p'->E (goS n K lev step k l a p s)->G (goS n K lev' step' k l a p' t)->R (goS n K lev step k l a p s) (goS n K lev' step' k l a p' t):=by
 have i:∀ (k:Nat) (l:List D) (a:Int) (p:Lev) (t:τ),G (goS n K lev' step' k l a p t)->G t:=fun k l a p t=>Ds n K lev' step' (R:=fun a b=>G b->G a) (fun _ h=>h) (fun f c h=>f (c h)) hG k l a p t;have y:∀ (k:Nat) (l:List D) (a:Int) (p:Lev) (t:σ),E (goS n K lev step k l a p t)->E t:=fun k l a p t=>Ds n K lev step (R:=fun a b=>E b->E a) (fun _ h=>h) (fun f c h=>f (c h)) hE k l a p t;intro k
 induction k with
 | zero=>intro l a p p' s t h _ _ _;exact h
 | succ k ih=>
  intro l;unfold goS;have g:∀ (l:List D) (p:Lev) (q:Int × τ),G (l.foldl (Eo n K lev' step' (BD (k+1)) (Ai k) (goS n K lev' step' k) p) q).2->G q.2:=by
   intro l p q h;have:=i (k+1) l q.1 p q.2;unfold goS at this;exact this h
  have u:∀ (l:List D) (p:Lev) (q:Int × σ),E (l.foldl (Eo n K lev step (BD (k+1)) (Ai k) (goS n K lev step k) p) q).2->E q.2:=by
   intro l p q h;have:=y (k+1) l q.1 p q.2;unfold goS at this;exact this h
  induction l with
  | nil=>intro a p p' s t h _ _ _;exact h
  | cons d l ihl=>
   intro a p p' s t h C A z;rw [List.foldl_cons] at A z ⊢;rw [List.foldl_cons];have f:=g _ _ _ z;have H:=u _ _ _ A;have c:=i _ _ _ _ _ f;have F:=y _ _ _ _ _ H;have M:=i _ _ _ _ _ c;have N:=y _ _ _ _ _ F;obtain ⟨L,B⟩:=hs a d p p' s t h C N M;have J:=ih (Ag d) (a+1) _ _ _ _ L B F c;have I:=ih (Ak d) (a+1+(Ai k (Ag d):Int)) _ _ _ _ J B H f;exact ihl _ p p' _ _ I C A z
theorem IB {σ τ:Type} (n K:Nat) (lev flev:σ->List Lev) (step:Int->D->Lev->σ->σ) (lev' flev':τ->List Lev) (step':Int->D->Lev->τ->τ) (Q:Lev->Lev->Prop) (R:σ->τ->Prop) (G:τ->Prop) (E:σ->Prop)
  (hG:∀ a d p t,G (step' a d p t)->G t) (hE:∀ a d p t,E (step a d p t)->E t)
  (hs:∀ a d p p' s t,R s t->Q p p'->E (step a d p s)->G (step' a d p' t)->R (step a d p s) (step' a d p' t)/\Q (AY n (lev (step a d p s)) p (Ar K (Ao d))) (AY n (lev' (step' a d p' t)) p' (Ar K (Ao d))))
  (hf:∀ s t,R s t->∀ i,Q ((flev s).getD i AL) ((flev' t).getD i AL)) (hb:Q (BS n) (BS n)) (kf:Nat) (fs:List FnD) (main:List D) (s:σ) (t:τ) (h:R s t) (he:E (CO n K lev step flev kf fs main s)) (hg:G (CO n K lev' step' flev' kf fs main t)) :
  R (CO n K lev step flev kf fs main s) (CO n K lev' step' flev' kf fs main t):=by
 have y:∀ (k:Nat) (l:List D) (a:Int) (p:Lev) (t:τ),G (goS n K lev' step' k l a p t)->G t:=fun k l a p t=>Ds n K lev' step' (R:=fun a b=>G b->G a) (fun _ h=>h) (fun f c h=>f (c h)) hG k l a p t;have z:∀ (k:Nat) (l:List D) (a:Int) (p:Lev) (t:σ),E (goS n K lev step k l a p t)->E t:=fun k l a p t=>Ds n K lev step (R:=fun a b=>E b->E a) (fun _ h=>h) (fun f c h=>f (c h)) hE k l a p t;have g:∀ (xs:List (Nat × FnD)) (q:Int × τ),G (xs.foldl (goF n K lev' step' flev' kf) q).2->G q.2:=by
  intro xs
  induction xs with
  | nil=>intro q h;exact h
  | cons x xs ih=>intro q h;rw [List.foldl_cons] at h;exact y _ _ _ _ _ (ih _ h)
 have u:∀ (xs:List (Nat × FnD)) (q:Int × σ),E (xs.foldl (goF n K lev step flev kf) q).2->E q.2:=by
  intro xs
  induction xs with
  | nil=>intro q h;exact h
  | cons x xs ih=>intro q h;rw [List.foldl_cons] at h;exact z _ _ _ _ _ (ih _ h)
 have A:∀ (xs:List (Nat × FnD)) (a:Int) (s:σ) (t:τ),R s t->E (xs.foldl (goF n K lev step flev kf) (a,s)).2->G (xs.foldl (goF n K lev' step' flev' kf) (a,t)).2 ->
   R (xs.foldl (goF n K lev step flev kf) (a,s)).2 (xs.foldl (goF n K lev' step' flev' kf) (a,t)).2/\(xs.foldl (goF n K lev step flev kf) (a,s)).1=(xs.foldl (goF n K lev' step' flev' kf) (a,t)).1:=by
  intro xs
  induction xs with
  | nil=>intro a s t h _ _;exact ⟨h,rfl⟩
  | cons x xs ih=>
   intro a s t h he hg;rw [List.foldl_cons] at he hg ⊢;rw [List.foldl_cons];exact ih _ _ _ (My n K lev step lev' step' Q R G E hG hE hs kf _ a _ _ s t h (hf s t h x.1) (u _ _ he) (g _ _ hg)) he hg
 unfold CO at he hg ⊢;obtain ⟨f,c⟩:=A _ 0 s t h (z _ _ _ _ _ he) (y _ _ _ _ _ hg);dsimp only at he hg ⊢;rw [c] at he ⊢;exact My n K lev step lev' step' Q R G E hG hE hs kf _ _ _ _ _ _ f hb he hg
theorem Dl (f:Nat->Bool) {n i:Nat} (h:i < n):(Cj f n)[i]?.getD false=f i:=by simp [Cj,h]
theorem BJ (l) (n:Nat):Aw l l n=true:=AA.2 fun _ _=>⟨id,id⟩
theorem Cm {l k q:Lev} {n:Nat} (h:Aw l k n=true) (h2:Aw k q n=true):Aw l q n=true:=
 AA.2 fun i hi=>⟨fun h3=>(AA.1 h i hi).1 ((AA.1 h2 i hi).1 h3),fun h3=>(AA.1 h2 i hi).2 ((AA.1 h i hi).2 h3)⟩
theorem Jg {l k q:Lev} {n:Nat} (h:Aw l q n=true) (h2:Aw k q n=true):Aw (BH l k n) q n=true:=AA.2 fun i hi=>by
 have a:=AA.1 h i hi;have b:=AA.1 h2 i hi;simp only [BH,Dl _ hi,FK,I6];revert a b;cases l.r[i]?.getD false <;> cases k.r[i]?.getD false <;> cases l.w[i]?.getD false <;> cases k.w[i]?.getD false <;> cases q.r[i]?.getD false <;> cases q.w[i]?.getD false <;> simp
theorem F6 (l k) (n:Nat):Aw l (BH l k n) n=true:=AA.2 fun i hi=>by
 simp only [BH,Dl _ hi,FK,I6];cases l.r[i]?.getD false <;> cases k.r[i]?.getD false <;> cases l.w[i]?.getD false <;> cases k.w[i]?.getD false <;> simp
theorem Pc (l k) (n:Nat):Aw k (BH l k n) n=true:=AA.2 fun i hi=>by
 simp only [BH,Dl _ hi,FK,I6];cases l.r[i]?.getD false <;> cases k.r[i]?.getD false <;> cases l.w[i]?.getD false <;> cases k.w[i]?.getD false <;> simp
theorem Hk {l k l' k':Lev} {n:Nat} (h:Aw l l' n=true) (h2:Aw k k' n=true):Aw (BH l k n) (BH l' k' n) n=true:=
 Jg (Cm h (F6 _ _ _)) (Cm h2 (Pc _ _ _))
theorem RM {l k l' k':Lev} {n:Nat} (h:Aw l l' n=true) (h2:Aw k k' n=true):Aw ⟨l.r,k.w⟩ ⟨l'.r,k'.w⟩ n=true:=
 AA.2 fun i hi=>⟨(AA.1 h i hi).1,(AA.1 h2 i hi).2⟩
theorem LE (n:Nat) (q):Aw (BS n) q n=true:=AA.2 fun i hi=>by simp [BS,hi]
theorem D3 {n:Nat} {L L':List Lev} (hL:∀ i,Aw (L.getD i AL) (L'.getD i AL) n=true):∀ (vs:List Int) (l l':Lev),Aw l l' n=true->Aw (AY n L l vs) (AY n L' l' vs) n=true
 | [],_,_,h=>h
 | v::vs,l,l',h=>D3 hL vs _ _ (Hk h (hL _))
theorem GE {n:Nat} {L:List Lev}:∀ (vs:List Int) (l:Lev),l.len n->(AY n L l vs).len n
 | [],_,h=>h
 | v::vs,l,_=>GE vs _ ⟨A7 _ _,A7 _ _⟩
section ask
variable {σ:Type} (n K:Nat) (lev:σ->List Lev) (known:List Bool) (ins:List Lev) (fs:List FnD) (flow:Lev->Bool × Nat->σ->σ)
def toVar (l:Lev) (v:Int) (st:σ):σ:=if known.getD v.toNat false=true then st else flow l (true,v.toNat) st
def C3 (p:Lev) (st:σ) (q:Int × D):σ:=toVar known flow (AY n (lev st) p (Ar K q.2)) q.1 st
def D6 (d:D) (p:Lev) (st:σ):σ:=
 let st1:=((Bv fs (Ae d)).ps.zip (Al d)).foldl (C3 n K lev known flow p) st
 flow p (false,(Ae d).toNat) (toVar known flow (AY n (lev st1) p (Ar K (Bv fs (Ae d)).res)) (Ax d) st1)
def B6 (a:Int) (d:D) (p:Lev) (st:σ):σ:=
 if Af d=1 then toVar known flow (AY n (lev st) p (Ar K (Ao d))) (Ax d) st
 else if Af d=2 then D6 n K lev known fs flow d p st
 else if Af d=3 then toVar known flow (BH p (ins.getD (Ae d).toNat AL) n) (Ax d) st
 else if Af d=5 then toVar known flow ⟨p.r,(AY n (lev st) p (Ar K (Ao d))).w⟩ (Ax d) st
 else if Af d=6 then toVar known flow ⟨(AY n (lev st) p (Ar K (Ao d))).r,p.w⟩ (Ax d) st
 else st
theorem ER {R:σ->σ->Prop} (hr:∀ st,R st st) (ht:∀ {a b c},R a b->R b c->R a c) (hv:∀ l i st,known.getD i false=false->R st (flow l (true,i) st)) (hw:∀ l i st,R st (flow l (false,i) st)) (a:Int) (d p) (st:σ):R st (B6 n K lev known ins fs flow a d p st):=by
 have f:∀ l v st,R st (toVar known flow l v st):=by
  intro l v st;unfold toVar;split
  ·exact hr st
  ·rename_i h;exact hv _ _ _ (by simpa using h)
 have g:∀ (xs:List (Int × D)) st,R st (xs.foldl (C3 n K lev known flow p) st):=by
  intro xs
  induction xs with
  | nil=>intro st;exact hr st
  | cons x xs ih=>intro st;rw [List.foldl_cons];exact ht (f _ _ _) (ih _)
 unfold B6
 repeat' split
 all_goals first | exact f _ _ _ | exact hr _ | skip
 unfold D6;exact ht (g _ _) (ht (f _ _ _) (hw _ _ _))
end ask
theorem Fl {n:Nat} {Q:Lev->Lev->Prop} (hQj:∀ {a a' b b'},Q a a'->Q b b'->Q (BH a b n) (BH a' b' n)) {L L':List Lev} (hL:∀ i,Q (L.getD i AL) (L'.getD i AL)):∀ (vs:List Int) (l l':Lev),Q l l'->Q (AY n L l vs) (AY n L' l' vs)
 | [],_,_,h=>h
 | v::vs,l,l',h=>Fl hQj hL vs _ _ (hQj h (hL _))
theorem Ht {σ τ:Type} (n K:Nat) (known:List Bool) (ins fs) (lev:σ->List Lev) (flow:Lev->Bool × Nat->σ->σ) (lev':τ->List Lev) (flow':Lev->Bool × Nat->τ->τ) (Q:Lev->Lev->Prop) (hQr:∀ x,Q x x) (hQj:∀ {a a' b b'},Q a a'->Q b b'->Q (BH a b n) (BH a' b' n)) (hQm:∀ {a a' b b':Lev},Q a a'->Q b b'->Q ⟨a.r,b.w⟩ ⟨a'.r,b'.w⟩) (R:σ->τ->Prop) (G:τ->Prop) (E:σ->Prop)
  (hG:∀ l i t,G (flow' l i t)->G t) (hE:∀ l i t,E (flow l i t)->E t)
  (hl:∀ s t,R s t->∀ i,Q ((lev s).getD i AL) ((lev' t).getD i AL))
  (hs:∀ l l' i s t,R s t->Q l l'->E (flow l i s)->G (flow' l' i t)->(i.1=true->known.getD i.2 false=false)->R (flow l i s) (flow' l' i t)) (a:Int) (d:D) (p p':Lev) (s:σ) (t:τ) (h:R s t) (hp:Q p p')
  (he:E (B6 n K lev known ins fs flow a d p s)) (hg:G (B6 n K lev' known ins fs flow' a d p' t)):R (B6 n K lev known ins fs flow a d p s) (B6 n K lev' known ins fs flow' a d p' t):=by
 have C:∀ l v s,E (toVar known flow l v s)->E s:=by
  intro l v s h;unfold toVar at h;split at h
  ·exact h
  ·exact hE _ _ _ h
 have B:∀ l v s,G (toVar known flow' l v s)->G s:=by
  intro l v s h;unfold toVar at h;split at h
  ·exact h
  ·exact hG _ _ _ h
 have c:∀ l l' v s t,R s t->Q l l'->E (toVar known flow l v s)->G (toVar known flow' l' v t)->R (toVar known flow l v s) (toVar known flow' l' v t):=by
  intro l l' v s t h hl he hg;unfold toVar at he hg ⊢;split
  ·exact h
  ·rename_i hk
   rw [if_neg hk] at he hg;exact hs _ _ _ _ _ h hl he hg (fun _=>by simpa using hk)
 have g:∀ (xs:List (Int × D)) s,E (xs.foldl (C3 n K lev known flow p) s)->E s:=by
  intro xs
  induction xs with
  | nil=>intro s h;exact h
  | cons x xs ih=>intro s h;rw [List.foldl_cons] at h;exact C _ _ _ (ih _ h)
 have f:∀ (xs:List (Int × D)) s,G (xs.foldl (C3 n K lev' known flow' p') s)->G s:=by
  intro xs
  induction xs with
  | nil=>intro s h;exact h
  | cons x xs ih=>intro s h;rw [List.foldl_cons] at h;exact B _ _ _ (ih _ h)
 have I:∀ (xs:List (Int × D)) s t,R s t->E (xs.foldl (C3 n K lev known flow p) s)->G (xs.foldl (C3 n K lev' known flow' p') t)->R (xs.foldl (C3 n K lev known flow p) s) (xs.foldl (C3 n K lev' known flow' p') t):=by
  intro xs
  induction xs with
  | nil=>intro s t h _ _;exact h
  | cons x xs ih=>
   intro s t h he hg;rw [List.foldl_cons] at he hg ⊢;rw [List.foldl_cons];exact ih _ _ (c _ _ _ _ _ h (Fl hQj (hl s t h) _ _ _ hp) (g _ _ he) (f _ _ hg)) he hg
 unfold B6 at he hg ⊢;have hw:=Fl hQj (hl s t h) (Ar K (Ao d)) _ _ hp;split
 ·rename_i hk;rw [if_pos hk] at he hg;exact c _ _ _ _ _ h hw he hg
 rename_i z;rw [if_neg z] at he hg;split
 ·rename_i hk;rw [if_pos hk] at he hg
  unfold D6 at he hg ⊢;dsimp only at he hg ⊢;have H:=hE _ _ _ he;have F:=hG _ _ _ hg;have A:=I _ s t h (C _ _ _ H) (B _ _ _ F);have J:=c _ _ _ _ _ A (Fl hQj (hl _ _ A) (Ar K (Bv fs (Ae d)).res) _ _ hp) H F;exact hs _ _ _ _ _ J hp he hg (fun h=>by cases h)
 rename_i y;rw [if_neg y] at he hg;split
 ·rename_i hk;rw [if_pos hk] at he hg;exact c _ _ _ _ _ h (hQj hp (hQr _)) he hg
 rename_i u;rw [if_neg u] at he hg;split
 ·rename_i hk;rw [if_pos hk] at he hg;exact c _ _ _ _ _ h (hQm hp hw) he hg
 rename_i q;rw [if_neg q] at he hg;split
 ·rename_i hk;rw [if_pos hk] at he hg;exact c _ _ _ _ _ h (hQm hw hp) he hg
 rename_i k;rw [if_neg k] at he hg;exact h
structure ISt where
 vs:List Lev
 fs:List Lev
 more:Bool
def ISt.at (st:ISt) (i:Bool × Nat):Lev:=if i.1=true then st.vs.getD i.2 AL else st.fs.getD i.2 AL
def ISt.up (st:ISt) (i:Bool × Nat) (l:Lev):ISt:=if i.1=true then ⟨st.vs.set i.2 l,st.fs,true⟩ else ⟨st.vs,st.fs.set i.2 l,true⟩
def B7 (n:Nat) (l:Lev) (i:Bool × Nat) (st:ISt):ISt:=if Aw l (st.at i) n=true then st else st.up i (BH (st.at i) l n)
def B8 (n:Nat) (L:ISt) (l:Lev) (i:Bool × Nat) (b:Bool):Bool:=b && Aw l (L.at i) n
def Eh (n K kf:Nat) (known:List Bool) (ins:List Lev) (fs:List FnD) (main:List D) (st:ISt):ISt:=
 CO n K ISt.vs (B6 n K ISt.vs known ins fs (B7 n)) ISt.fs kf fs main st
def Fu (n K kf:Nat) (known:List Bool) (ins:List Lev) (fs:List FnD) (main:List D) (L:ISt) (b:Bool):Bool:=
 CO n K (fun _=>L.vs) (B6 n K (fun _=>L.vs) known ins fs (B8 n L)) (fun _=>L.fs) kf fs main b
theorem CW {l:List Lev} {i j:Nat} {x:Lev}:(l.set i x).getD j AL=if i=j/\j < l.length then x else l.getD j AL:=by
 simp only [List.getD_eq_getElem?_getD,List.getElem?_set];by_cases h:i=j
 ·subst h
  by_cases h2:i < l.length
  ·simp [h2]
  ·simp [h2]
 ·simp [h]
def LeI (n:Nat) (a b:ISt):Prop:=(∀ i,Aw (a.vs.getD i AL) (b.vs.getD i AL) n=true)/\∀ i,Aw (a.fs.getD i AL) (b.fs.getD i AL) n=true
theorem LeI.at {n:Nat} {a b:ISt} (h:LeI n a b) (i:Bool × Nat):Aw (a.at i) (b.at i) n=true:=by
 unfold ISt.at
 split
 ·exact h.1 _
 ·exact h.2 _
theorem Lg (n K kf:Nat) (known:List Bool) (ins fs main) (L st:ISt) (h:LeI n st L) (hb:Fu n K kf known ins fs main L true=true):LeI n (Eh n K kf known ins fs main st) L:=by
 have q:=IB n K ISt.vs ISt.fs (B6 n K ISt.vs known ins fs (B7 n)) (fun _:Bool=>L.vs) (fun _=>L.fs) (B6 n K (fun _=>L.vs) known ins fs (B8 n L)) (fun a b=>Aw a b n=true) (fun s _=>LeI n s L) (fun b=>b=true) (fun _=>True)
  (fun a d p t=>ER n K (fun _=>L.vs) known ins fs (B8 n L) (R:=fun a b=>b=true->a=true) (fun _ h=>h) (fun B A h=>B (A h)) (fun l i st _ h=>by unfold B8 at h;simp at h;exact h.1) (fun l i st h=>by unfold B8 at h;simp at h;exact h.1) a d p t)
  (fun _ _ _ _ _=>trivial)
  (fun a d p y s t h u z k=>by
   have r:=Ht n K known ins fs ISt.vs (B7 n) (fun _:Bool=>L.vs) (B8 n L) (fun a b=>Aw a b n=true) (fun x=>BJ x n) Hk RM (fun s _=>LeI n s L) (fun b=>b=true) (fun _=>True)
    (fun l i t h=>by unfold B8 at h;simp at h;exact h.1) (fun _ _ _ _=>trivial) (fun s _ h=>h.1)
    (fun l C i s t h hl _ k _=>by
     unfold B8 at k;rw [Bool.and_eq_true] at k;unfold B7;split
     ·exact h
     ·have f:Aw (BH (s.at i) l n) (L.at i) n=true:=Jg (h.at i) (Cm hl k.2)
      unfold ISt.up ISt.at at *;split
      ·rename_i g
       rw [if_pos g] at f;refine ⟨fun j=>?_,h.2⟩;rw [if_pos g] at f;dsimp only;rw [CW];split
       ·rename_i c;rw [<-c.1];exact f
       ·exact h.1 j
      ·rename_i g
       rw [if_neg g] at f;refine ⟨h.1,fun j=>?_⟩;rw [if_neg g] at f;dsimp only;rw [CW];split
       ·rename_i c;rw [<-c.1];exact f
       ·exact h.2 j) a d p y s t h u z k
   exact ⟨r,D3 r.1 _ _ _ u⟩)
  (fun s _ h=>h.2) (BJ _ _) kf fs main st true h trivial hb
 exact q
theorem MX (n K kf:Nat) (known:List Bool) (ins fs main) (st:ISt) (h:(Eh n K kf known ins fs main st).more=false) :
  Eh n K kf known ins fs main st=st/\Fu n K kf known ins fs main st true=true:=by
 have u:∀ l i t,(B7 n l i t).more=false->t.more=false:=by
  intro l i t h;unfold B7 at h;split at h
  ·exact h
  ·unfold ISt.up at h;split at h <;> cases h
 have k:=IB n K ISt.vs ISt.fs (B6 n K ISt.vs known ins fs (B7 n)) (fun _:Bool=>st.vs) (fun _=>st.fs) (B6 n K (fun _=>st.vs) known ins fs (B8 n st)) (fun a b=>a=b) (fun s b=>s=st/\b=true) (fun _=>True) (fun s=>s.more=false)
  (fun _ _ _ _ _=>trivial)
  (fun a d p t=>ER n K ISt.vs known ins fs (B7 n) (R:=fun a b=>b.more=false->a.more=false) (fun _ h=>h) (fun g f h=>g (f h)) (fun l i t _=>u l (true,i) t) (fun l i t=>u l (false,i) t) a d p t)
  (fun a d p z s t h y c A=>by
   have r:=Ht n K known ins fs ISt.vs (B7 n) (fun _:Bool=>st.vs) (B8 n st) (fun a b=>a=b) (fun _=>rfl) (fun g f=>by rw [g,f]) (fun g f=>by rw [g,f]) (fun s b=>s=st/\b=true) (fun _=>True) (fun s=>s.more=false)
    (fun _ _ _ _=>trivial) u (fun s _ h=>by rw [h.1];exact fun i=>rfl)
    (fun l B i s t h hl c _ _=>by
     obtain ⟨rfl,rfl⟩:=h;unfold B7 at c ⊢;split
     ·rename_i q
      refine ⟨rfl,?_⟩;unfold B8;rw [<-hl,q];rfl
     ·rename_i q
      rw [if_neg q] at c;unfold ISt.up at c;split at c <;> cases c) a d p z s t h y c A
   exact ⟨r,by rw [r.1,y]⟩)
  (fun s _ h=>by rw [h.1];exact fun i=>rfl) rfl kf fs main st true ⟨rfl,rfl⟩ h trivial
 exact k
def Hr (n:Nat) (l:Lev):Nat:=((List.range n).map fun i=>(if l.r[i]?.getD false=true then 1 else 0)+(if l.w[i]?.getD false=true then 0 else 1)).sum
def DS (n:Nat) (st:ISt):Nat:=(st.vs.map (Hr n)).sum+(st.fs.map (Hr n)).sum
theorem N0 {f g:Nat->Nat}:∀ {n:Nat},(∀ i,i < n->f i<=g i)->((List.range n).map f).sum<=((List.range n).map g).sum
 | 0,_=>by simp
 | n+1,h=>by
  rw [List.range_succ,List.map_append,List.map_append,List.sum_append,List.sum_append];have:=N0 (n:=n) fun i hi=>h i (by omega);have:=h n (by omega);simp;omega
theorem NZ {f g:Nat->Nat}:∀ {n:Nat},(∀ i,i < n->f i<=g i)->(∃ i,i < n/\f i < g i)->((List.range n).map f).sum < ((List.range n).map g).sum
 | 0,_,⟨i,h,_⟩=>by omega
 | n+1,h,⟨i,hi,hlt⟩=>by
  rw [List.range_succ,List.map_append,List.map_append,List.sum_append,List.sum_append];by_cases hn:i=n
  ·subst hn
   have:=N0 (n:=i) fun j hj=>h j (by omega);simp;omega
  ·have:=NZ (n:=n) (fun j hj=>h j (by omega)) ⟨i,by omega,hlt⟩
   have:=h n (by omega);simp;omega
theorem IK {n:Nat} {x l:Lev} (h:¬ Aw l x n=true):Hr n (BH x l n) < Hr n x:=by
 have f:∃ i,i < n/\¬ ((x.r[i]?.getD false=true->l.r[i]?.getD false=true)/\(l.w[i]?.getD false=true->x.w[i]?.getD false=true)):=by
  refine Classical.byContradiction fun c=>h (AA.2 fun i b=>Classical.byContradiction fun d=>c ⟨i,b,d⟩)
 obtain ⟨i,b,d⟩:=f;unfold Hr;refine NZ (fun j g=>?_) ⟨i,b,?_⟩
 ·simp only [BH,Dl _ g,FK,I6]
  cases l.r[j]?.getD false <;> cases x.r[j]?.getD false <;> cases l.w[j]?.getD false <;> cases x.w[j]?.getD false <;> simp
 ·simp only [BH,Dl _ b,FK,I6]
  revert d;cases l.r[i]?.getD false <;> cases x.r[i]?.getD false <;> cases l.w[i]?.getD false <;> cases x.w[i]?.getD false <;> simp
theorem IY {f:Lev->Nat} {y:Lev}:∀ {l:List Lev} {i:Nat},i < l.length->f y < f (l.getD i AL)->((l.set i y).map f).sum < (l.map f).sum
 | [],i,h,_=>by simp at h
 | x::l,0,_,h=>by simp at h ⊢;omega
 | x::l,i+1,hi,h=>by
  have:=IY (l:=l) (i:=i) (by simpa using hi) (by simpa using h);simp only [List.set_cons_succ,List.map_cons,List.sum_cons];omega
structure Fj (n nv nf:Nat) (known:List Bool) (L:List Lev) (st:ISt):Prop where
 lv:st.vs.length=nv
 lf:st.fs.length=nf
 rv:∀ l∈st.vs,l.len n
 rf:∀ l∈st.fs,l.len n
 kn:∀ i,known.getD i false=true->st.vs.getD i AL=L.getD i AL
theorem DY (l k) (n:Nat):(BH l k n).len n:=⟨A7 _ _,A7 _ _⟩
def Dt (n nv nf:Nat) (known:List Bool) (L:List Lev) (a b:ISt):Prop:=
 (Fj n nv nf known L a->Fj n nv nf known L b)/\LeI n a b
theorem Dt.refl (n nv nf:Nat) (known:List Bool) (L) (a:ISt):Dt n nv nf known L a a:=⟨id,fun _=>BJ _ _,fun _=>BJ _ _⟩
theorem Dt.trans {n nv nf:Nat} {known:List Bool} {L:List Lev} {a b c:ISt} (h:Dt n nv nf known L a b) (k:Dt n nv nf known L b c):Dt n nv nf known L a c:=
 ⟨fun x=>k.1 (h.1 x),fun i=>Cm (h.2.1 i) (k.2.1 i),fun i=>Cm (h.2.2 i) (k.2.2 i)⟩
theorem Gg {l:List Lev} {i:Nat} {x y:Lev} (h:y∈l.set i x):y=x\/y∈l:=by
 rcases List.mem_or_eq_of_mem_set h with h | h
 ·exact Or.inr h
 ·exact Or.inl h
theorem Hj (n nv nf:Nat) (known:List Bool) (L l) (i:Bool × Nat) (st:ISt) (hk:i.1=true->known.getD i.2 false=false):Dt n nv nf known L st (B7 n l i st):=by
 unfold B7;split
 ·exact Dt.refl ..
 ·obtain ⟨b,j⟩:=i
  cases b with
  | true=>
   have hk:=hk rfl;simp only [ISt.up,ISt.at,if_true];refine ⟨fun h=>⟨by simpa using h.lv,h.lf,fun x hx=>?_,h.rf,fun m c=>?_⟩,fun m=>?_,fun m=>BJ _ _⟩
   ·rcases Gg hx with rfl | hx
    ·exact DY _ _ _
    ·exact h.rv x hx
   ·dsimp only
    rw [CW,if_neg,h.kn m c];rintro ⟨rfl,-⟩;dsimp only at hk;rw [hk] at c;cases c
   ·dsimp only
    rw [CW];split
    ·rename_i h;rw [<-h.1];exact F6 _ _ _
    ·exact BJ _ _
  | false=>
   simp only [ISt.up,ISt.at,Bool.false_eq_true,if_false];refine ⟨fun h=>⟨h.lv,by simpa using h.lf,h.rv,fun x hx=>?_,h.kn⟩,fun m=>BJ _ _,fun m=>?_⟩
   ·rcases Gg hx with rfl | hx
    ·exact DY _ _ _
    ·exact h.rf x hx
   ·dsimp only
    rw [CW];split
    ·rename_i h;rw [<-h.1];exact F6 _ _ _
    ·exact BJ _ _
theorem MW (n nv nf K kf:Nat) (known:List Bool) (L ins fs main) (st:ISt):Dt n nv nf known L st (Eh n K kf known ins fs main st):=
 LC n K ISt.vs _ (R:=Dt n nv nf known L) (Dt.refl n nv nf known L) Dt.trans (fun a d p st=>ER n K ISt.vs known ins fs (B7 n) (R:=Dt n nv nf known L) (Dt.refl n nv nf known L) Dt.trans (fun l i st hk=>Hj n nv nf known L l (true,i) st fun _=>hk) (fun l i st=>Hj n nv nf known L l (false,i) st fun h=>by cases h) a d p st) ISt.fs kf fs main st
theorem FD {l:List Lev} {i:Nat} (h:l.length<=i):l.getD i AL=AL:=by simp [List.getD_eq_getElem?_getD,List.getElem?_eq_none h]
theorem Ny (n:Nat) (l) (i:Bool × Nat) (st:ISt) (hi:i.1=true->i.2 < st.vs.length) (hi2:i.1=false->i.2 < st.fs.length):B7 n l i st=st\/(DS n (B7 n l i st) < DS n st/\(B7 n l i st).vs.length=st.vs.length/\(B7 n l i st).fs.length=st.fs.length):=by
 unfold B7;split
 ·exact Or.inl rfl
 ·rename_i h
  obtain ⟨b,j⟩:=i
  cases b with
  | true=>
   simp only [ISt.up,ISt.at,if_true] at h ⊢;refine Or.inr ⟨?_,by simp,by simp⟩;have:=IY (f:=Hr n) (l:=st.vs) (i:=j) (hi rfl) (IK h);unfold DS;dsimp only;omega
  | false=>
   simp only [ISt.up,ISt.at,Bool.false_eq_true,if_false] at h ⊢;refine Or.inr ⟨?_,by simp,by simp⟩;have:=IY (f:=Hr n) (l:=st.fs) (i:=j) (hi2 rfl) (IK h);unfold DS;dsimp only;omega
def inR (nv nf:Nat) (fs:List FnD) (d:D):Prop:=
 ((Af d=1\/Af d=2\/Af d=3\/Af d=5\/Af d=6)->(Ax d).toNat < nv)/\(Af d=2->(Ae d).toNat < nf/\∀ v∈(Bv fs (Ae d)).ps,v.toNat < nv)
def C0 (n nv nf:Nat) (a b:ISt):Prop:=(a.vs.length=nv/\a.fs.length=nf)->(b.vs.length=nv/\b.fs.length=nf)/\DS n b<=DS n a/\(b.more=true->a.more=true\/DS n b < DS n a)
theorem C0.refl (n nv nf:Nat) (a:ISt):C0 n nv nf a a:=fun h=>⟨h,Nat.le_refl _,Or.inl⟩
theorem C0.trans {n nv nf:Nat} {a b c:ISt} (h:C0 n nv nf a b) (k:C0 n nv nf b c):C0 n nv nf a c:=fun ha=>by
 obtain ⟨h1,h2,h3⟩:=h ha;obtain ⟨k1,k2,k3⟩:=k h1;refine ⟨k1,Nat.le_trans k2 h2,fun hc=>?_⟩;rcases k3 hc with hb | hb
 ·rcases h3 hb with h | h
  ·exact Or.inl h
  ·exact Or.inr (by omega)
 ·exact Or.inr (by omega)
theorem Hq (n nv nf:Nat) (l) (i:Bool × Nat) (st:ISt) (hi:i.1=true->i.2 < nv) (hi2:i.1=false->i.2 < nf):C0 n nv nf st (B7 n l i st):=fun h=>by
 rcases Ny n l i st (by rw [h.1];exact hi) (by rw [h.2];exact hi2) with e | ⟨h1,h2,h3⟩
 ·rw [e];exact ⟨h,Nat.le_refl _,Or.inl⟩
 ·exact ⟨⟨h2.trans h.1,h3.trans h.2⟩,by omega,fun _=>Or.inr h1⟩
theorem Pr (n nv nf K:Nat) (known:List Bool) (ins fs) (a:Int) (d p) (st:ISt) (hd:inR nv nf fs d):C0 n nv nf st (B6 n K ISt.vs known ins fs (B7 n) a d p st):=by
 have c:∀ l (v:Int) st,v.toNat < nv->C0 n nv nf st (toVar known (B7 n) l v st):=by
  intro l v st i;unfold toVar;split
  ·exact C0.refl n nv nf _
  ·exact Hq n nv nf _ _ _ (fun _=>i) (fun h=>by cases h)
 have k:∀ (xs:List (Int × D)) st,(∀ x∈xs,x.1.toNat < nv)->C0 n nv nf st (xs.foldl (C3 n K ISt.vs known (B7 n) p) st):=by
  intro xs
  induction xs with
  | nil=>intro st _;exact C0.refl n nv nf _
  | cons x xs ih=>intro st f;rw [List.foldl_cons];exact (c _ _ _ (f x (by simp))).trans (ih _ fun y g=>f y (by simp [g]))
 unfold B6;split
 ·rename_i hk;exact c _ _ _ (hd.1 (by omega))
 split
 ·rename_i hk
  unfold D6;refine (k _ _ fun x f=>?_).trans ((c _ _ _ (hd.1 (by omega))).trans (Hq n nv nf _ _ _ (fun h=>by cases h) (fun _=>(hd.2 hk).1)));exact (hd.2 hk).2 _ (List.of_mem_zip (a:=x.1) (b:=x.2) f).1
 split
 ·rename_i hk;exact c _ _ _ (hd.1 (by omega))
 split
 ·rename_i hk;exact c _ _ _ (hd.1 (by omega))
 split
 ·rename_i hk;exact c _ _ _ (hd.1 (by omega))
 ·exact C0.refl n nv nf _
end Go.Proofs.YtfffpjkcfnekaaaGreat.Ex
namespace Go.Proofs.YtfffpjkcfnekaaaGreat.Ex
open Go.RowKit Go.Shelf
open Go.Value renaming slice -> O, int -> zd, bool -> zg, agg -> zh, pointer -> zj, tuple -> zm
open Go.IntKind renaming i64 -> U
open Go.Obj renaming cells -> ze
open Go.Ending renaming returned -> zk
attribute [local go_sem] Oper.semAt_some
theorem Ru {F:Fence} (hd:F.depth=none) (k:Nat):F.room k:=fun d h=>by rw [hd] at h;cases h
theorem Pu {F:Fence} (hd:F.depth=none) {m m':Nat} {P:Program} {l:Nat} {f:FuncId} {tmps:Array Value} {assign body:Code} {w:World} {R:Ending->World->Prop}
  (h:RoundIn F m P l f tmps assign body w R):RoundIn F m' P l f tmps assign body w R:=⟨h.1,fun c cs _=>h.2 c cs (Ru hd _)⟩
theorem Pt {F:Fence} (hd:F.depth=none) {m:Nat} (m':Nat) {P:Program} {l:Nat} {args:Array Value} {W:World} {R:Ending->World->Prop} (h:YieldAt F m P l args W R):YieldAt F m' P l args W R:=by
 obtain ⟨fn,c,b,body,d,f⟩:=h;exact ⟨fn,c,b,body,d,Pu hd f⟩
abbrev Eu (nv:Nat):={ x:Int // 0<=x/\x < nv }
theorem GF {k:Nat} {ds:List D} {j:Nat} (h:j < ds.length):(ds.take (j+1)).flatMap (Ar k)=(ds.take j).flatMap (Ar k)++Ar k ds[j]:=by
 rw [List.take_succ_eq_append_getElem h,List.flatMap_append];simp
theorem Mj (nv:Nat):∀ (l:List Int),(∀ v∈l,0<=v/\v < (nv:Int))->∃ ys:List (Eu nv),ys.map Subtype.val=l
 | [],_=>⟨[],rfl⟩
 | v::l,h=>by
  obtain ⟨ys,hy⟩:=Mj nv l fun x hx=>h x (by simp [hx]);exact ⟨⟨v,h v (by simp)⟩::ys,by simp [hy]⟩
theorem LP (F:Fence) (hd:F.depth=none) (hf:F.fn 211) (hro:F.round=none) (l nv N:Nat) (w0:World) (J Jx:List (Eu nv)->World->Prop)
  (hJ:∀ s A B,J s A->Ov A B->J s B)
  (hY:∀ m pre x W,J pre W->pre.length < N->YieldAt F m Tryz.prog l #[zd U x.1] W fun e W'=>
   (e=zk (zg true)/\J (pre++[x]) W'/\Below w0.heap.size W W')\/(e=zk (zg false)/\Jx (pre++[x]) W')) :
  ∀ (k n:Nat) (cs:List Value) (d:D) (pre ys:List (Eu nv)) (W:World),RX w0 k cs d->Ov w0 W->J pre W->ys.map Subtype.val=Ar k d->pre.length+ys.length<=N ->
   CallsIn F n Tryz.prog 211 #[.agg cs.toArray,.func (.yield l) #[] #[]] W fun e W'=>
    (e=zk (zg true)/\J (pre++ys) W'/\Below w0.heap.size W W')\/(e=zk (zg false)/\∃ q,q <+: ys/\Jx (pre++q) W'):=by
 intro k
 induction k with
 | zero=>intro n cs d pre ys W h;exact h.elim
 | succ k ih=>
  intro n cs d pre ys W h hW hj t hN;obtain ⟨Y,X,v,f,rfl,rfl,i1,i2,hm,ao,G,rfl,R⟩:=h;have aa:∀ k:Nat,(F.depth.isSome=true->1<=k):=fun k h=>by rw [hd] at h;cases h
  have bb:f.length<=9223372036854775807:=hm;by_cases hk:Y=2
  ·subst hk
   have p:ys.map Subtype.val=[X]:=by rw [t];simp [Ar,AD,A5,xD]
   obtain ⟨y,rfl⟩:∃ y,ys=[y]:=by
    match ys,p with
    | [y],_=>exact ⟨y,rfl⟩
   have am:y.1=X:=by simpa using p
   subst am;have c:=bA W (ze #[zd U 2,zd U y.1,O ao f.length G] 94);obtain ⟨fn,a2,aj,body,hy,hR⟩:=hY (n - 1) pre y _ (hJ _ _ _ hj c) (by simp at hN;omega);have hB:Below w0.heap.size W (W.alloc (ze #[zd U 2,zd U y.1,O ao f.length G] 94)):=c.mono hW.size;have HB:=Aa hB;clear hB c hj t p R;refine callsIn_of_wp Tryz.func211 rfl hf ?_ hro;simp only [Tryz.ntmps211,List.size_toArray,List.length_cons,List.length_nil,Nat.reduceAdd,Nat.reduceSub,Array.replicate_succ,Array.replicate_zero,List.push_toArray,List.append_toArray,List.nil_append,List.cons_append]
   gi_wp2_with ((try refine ⟨aa _,?_⟩);refine hR.mono ?_;clear hR;rintro e W2 (⟨rfl,E,C⟩ | ⟨rfl,L⟩))
   ·go_ret
    exact .inl ⟨rfl,E,HB.o.trans C⟩
   ·go_ret
    exact .inr ⟨rfl,[y],List.prefix_refl _,L⟩
  ·have hv:Ar (k+1) (xD Y X f)=f.flatMap (Ar k):=by simp [Ar,AD,AC,xD,hk]
   rw [hv] at t;have be:(Y == 2)=false:=by simpa using hk
   have c:=bA W (ze #[zd U Y,zd U X,O ao f.length G] 94);have HB:Hx (Below w0.heap.size W (W.alloc (ze #[zd U Y,zd U X,O ao f.length G] 94))):=c.mono hW.size;have ax:=Aa (hJ _ _ _ hj c);have ay:=Aa R;have ae:=Aa t;have HW:=Aa hW;have HN:=Aa hN;clear R t hv c hj hW hN hY;refine callsIn_of_wp Tryz.func211 rfl hf ?_ hro;simp only [Tryz.ntmps211,List.size_toArray,List.length_cons,List.length_nil,Nat.reduceAdd,Nat.reduceSub,Array.replicate_succ,Array.replicate_zero,List.push_toArray,List.append_toArray,List.nil_append,List.cons_append]
   gi_wp2
   gi_loopw [17] (fun i wr=>∃ (j:Nat) (q1 q2:List (Eu nv)),j<=f.length/\i=zd U j/\ys=q1++q2/\q1.map Subtype.val=(f.take j).flatMap (Ar k)/\J (pre++q1) wr/\Below w0.heap.size W wr) (fun i _=>f.length - (intOf i).toNat)
   case atStart=>exact ⟨0,[],ys,Nat.zero_le _,rfl,rfl,by simp,by simpa using ax.o,HB.o⟩
   case round=>
    obtain ⟨j,q1,q2,bf,rfl,hq,Z,ac,S⟩:=hrel;have V:=Aa hq;have H:=Aa Z;have T:=Aa ac;clear hq Z ac;by_cases hlt:j < f.length
    ·obtain ⟨b,off,rfl,ab⟩:=ay.o (by rintro rfl;simp at hlt)
     obtain ⟨bo,aq,u,hr⟩:=ab j f[j] (List.getElem?_eq_getElem hlt);obtain ⟨xa,xc,rfl⟩:=hr.form;have g:=HW.o.trans S;have g0:wr.cell? ⟨b,off+j*3,none⟩=_:=Ab g _ _ (u 0 _ rfl);have g1:=Ab g _ _ (u 1 _ rfl);have g2:=Ab g _ _ (u 2 _ rfl);have an:∃ z q3,q2=z++q3/\z.map Subtype.val=Ar k f[j]:=by
      have h1:=ae.o;rw [V.o,List.map_append,H.o] at h1;have h2:f.flatMap (Ar k)=(f.take j).flatMap (Ar k)++(Ar k f[j]++(f.drop (j+1)).flatMap (Ar k)):=by
       rw [<-List.append_assoc,<-GF hlt,<-List.flatMap_append,List.take_append_drop]
      rw [h2] at h1;have h3:=List.append_cancel_left h1;obtain ⟨z,q3,e1,e2,-⟩:=List.map_eq_append_iff.1 h3;exact ⟨z,q3,e1,e2⟩
     obtain ⟨z,q3,M,hz⟩:=an;have I:(pre++q1).length+z.length<=N:=by
      have:=HN.o;rw [V.o,M] at this;simp at this ⊢;omega
     obtain ⟨ek,Q⟩:=nm (AD f[j]);obtain ⟨en,P⟩:=nm (A5 f[j]);obtain ⟨xl,K⟩:=nm ((AC f[j]).length);have c:=bA wr (ze #[zd U ek,zd U en,O xa xl xc] 94);rw [<-Q,<-P,<-K] at hr;rw [<-Q] at g0;rw [<-P] at g1;rw [<-K] at g2;have KI:=Aa (ih (n - 1) _ f[j] (pre++q1) z _ hr (g.trans (c.mono g.size)) (hJ _ _ _ T.o c) hz I);have a0:=Aa (S.trans (c.mono g.size));have HX:Hx (ys=(q1++z)++q3/\(q1++z).map Subtype.val=(f.take (j+1)).flatMap (Ar k)):=by
      refine ⟨by rw [V.o,M,List.append_assoc],?_⟩;rw [List.map_append,H.o,hz,GF hlt]
     clear ab u hr aq Q P K M hz I c g T V H
     gi_wp2_with ((try refine ⟨aa _,?_⟩);gi_at_call 211;refine (KI.o).mono ?_;clear KI;rintro e W2 (⟨rfl,E,C⟩ | ⟨rfl,q,hq,L⟩))
     ·have aw:=Aa E
      have az:=Aa (a0.o.trans C);clear E C
      gi_wp2
      go_roundw
      case rel=>exact ⟨j+1,q1++z,q3,by omega,by go_num,HX.o.1,HX.o.2,by rw [<-List.append_assoc];exact aw.o,az.o⟩
      case measure=>simp [intOf];omega
     ·gi_wp2
      go_ret;refine .inr ⟨rfl,q1++q,?_,by rw [<-List.append_assoc];exact L⟩;rw [HX.o.1,List.append_assoc];exact (List.prefix_append_right_inj _).2 (hq.trans (List.prefix_append _ _))
    ·gi_wp2
     go_ret;refine .inl ⟨rfl,?_,S⟩;have h1:=ae.o;have h2:=H.o;rw [List.take_of_length_le (by omega),<-h1,V.o] at h2;have h3:q2=[]:=by
      have:=congrArg List.length h2;simp at this;exact this
     rw [V.o,h3,List.append_nil];exact T.o
attribute [local go_sem] Oper.semAt_some
def Sd (B:Nat) (v:Value):Prop:=∀ a n c,v=O (some a) n c->B<=a.block
def NB (B:Nat) (v:Value):Prop:=∃ x y,v=zh #[x,y]/\Sd B x/\Sd B y
theorem JN {W:World} {B e s n:Nat} {v:Value} {xs:List Value} (h:W.ownsRow B e s v n xs):Sd B v:=by
 intro a m c d;rcases h.2 with ⟨h,-⟩ | ⟨g,k,i,h,f,-⟩
 ·rw [d] at h;cases h
 ·rw [d] at h;injection h with b p l;injection b with b;rw [b];exact f
theorem BX {w w':World} {v:Value} {l:Lev} (h:Bh w w' v l):NB w.heap.size v:=by
 obtain ⟨x,y,d,c,b,-⟩:=h;exact ⟨x,y,d,JN c,JN b⟩
theorem Av {w w':World} {v:Value} {l:Lev} (h:Bh w w' v l):Bn w' v l:=by
 obtain ⟨x,y,d,c,b,-⟩:=h;exact ⟨x,y,d,Dx c,Dx b⟩
theorem EW {W W':World} {v:Value} {l:List Bool} (h:A3 W v l) (hc:∀ a u,W.cell? a=some u->W'.cell? a=some u):A3 W' v l:=by
 obtain ⟨q,g,k,c⟩:=h;refine ⟨q,g,k,fun d=>?_⟩;obtain ⟨b,off,f,c⟩:=c d;exact ⟨b,off,f,fun i p=>hc _ _ (c i p)⟩
theorem Gh {W W':World} {v:Value} {l:Lev} (h:Bn W v l) (hc:∀ a u,W.cell? a=some u->W'.cell? a=some u):Bn W' v l:=by
 obtain ⟨x,y,d,c,b⟩:=h;exact ⟨x,y,d,EW c hc,EW b hc⟩
theorem IW (F:Fence) (n:Nat) (hf:F.fn 164) (hro:F.round=none) (ek en:Int) (xa xl xc) (w:World) :
  CallsIn F n Tryz.prog 164 #[zh #[zd U ek,zd U en,O xa xl xc]] w fun e w'=>e=zk (.func (.func 210) #[] #[zj (some ⟨w.heap.size,0,none⟩)])/\w'=w.alloc (ze #[zd U ek,zd U en,O xa xl xc] 94):=by
 refine callsIn_of_wp Tryz.func164 rfl hf ?_ hro;simp only [Tryz.ntmps164,List.size_toArray,List.length_cons,List.length_nil,Nat.reduceAdd,Nat.reduceSub,Array.replicate_succ,Array.replicate_zero,List.push_toArray,List.append_toArray,List.nil_append,List.cons_append]
 gi_wp2
 go_ret;exact ⟨rfl,rfl⟩
theorem NW (F:Fence) (hd:F.depth=none) (n:Nat) (hf:F.fn 210) (hf2:F.fn 211) (hro:F.round=none) (l nv Bt K:Nat) (w0:World) (ek en:Int) (xa xl xc d) (ys:List (Eu nv)) (J Jx:List (Eu nv)->World->Prop)
  (hJ:∀ s A B,J s A->Ov A B->J s B)
  (hY:∀ pre x W,J pre W->pre.length < ys.length->YieldAt F (n - 1) Tryz.prog l #[zd U x.1] W fun e W'=>
   (e=zk (zg true)/\J (pre++[x]) W'/\Below w0.heap.size W W')\/(e=zk (zg false)/\Jx (pre++[x]) W'))
  (W:World) (c0:W.cell? ⟨Bt,0,none⟩=some (zd U ek)) (c1:W.cell? ⟨Bt,1,none⟩=some (zd U en)) (c2:W.cell? ⟨Bt,2,none⟩=some (O xa xl xc)) (hx:RX w0 K [zd U ek,zd U en,O xa xl xc] d) (hW:Ov w0 W) (hys:ys.map Subtype.val=Ar K d) (h0:J [] W) :
  CallsIn F n Tryz.prog 210 #[.func (.yield l) #[] #[],zj (some ⟨Bt,0,none⟩)] W fun e W'=>(∃ v,e=zk v) /\
   ((∃ zs,zs=ys/\J zs W')\/(∃ pre,pre <+: ys/\Jx pre W')):=by
 have b:∀ k:Nat,(F.depth.isSome=true->1<=k):=fun k h=>by rw [hd] at h;cases h
 have f:=Aa (LP F hd hf2 hro l nv ys.length w0 J Jx hJ (fun m pre x W i hl=>Pt hd m (hY pre x W i hl)) K (n - 1) _ d [] ys W hx hW h0 hys (by simp));clear hx hys hY h0 hW;refine callsIn_of_wp Tryz.func210 rfl hf ?_ hro;simp only [Tryz.ntmps210,List.size_toArray,List.length_cons,List.length_nil,Nat.reduceAdd,Nat.reduceSub,Array.replicate_succ,Array.replicate_zero,List.push_toArray,List.append_toArray,List.nil_append,List.cons_append]
 gi_wp2_with ((try refine ⟨b _,?_⟩);gi_at_call 211;refine f.o.mono ?_;clear f;rintro e p (⟨rfl,c,_⟩ | ⟨rfl,q,g,hx⟩))
 ·go_end0
  exact ⟨⟨_,rfl⟩,.inl ⟨_,rfl,by simpa using c⟩⟩
 ·go_end0
  exact ⟨⟨_,rfl⟩,.inr ⟨q,g,by simpa using hx⟩⟩
theorem E5 (F:Fence) (hd:F.depth=none) (n:Nat) (hf:F.fn 210) (hf2:F.fn 211) (hro:F.round=none) (nv Bt K:Nat) (w0:World) (ek en:Int) (xa xl xc d) (ys:List (Eu nv)) (w:World) (hBt:Bt < w.heap.size) (hw:Ov w0 w)
  (c0:w.cell? ⟨Bt,0,none⟩=some (zd U ek)) (c1:w.cell? ⟨Bt,1,none⟩=some (zd U en)) (c2:w.cell? ⟨Bt,2,none⟩=some (O xa xl xc)) (hx:RX w0 K [zd U ek,zd U en,O xa xl xc] d) (hys:ys.map Subtype.val=Ar K d) :
  SeqStopsK F n Tryz.prog 210 #[zj (some ⟨Bt,0,none⟩)] (fun x:Eu nv=>#[Value.int U x.1]) (Below w0.heap.size) (fun zs=>zs=ys) (fun pre=>pre <+: ys) ys.length w:=fun l J Jx W hW hJ _ hY h0=>
 NW F hd n hf hf2 hro l nv Bt K w0 ek en xa xl xc d ys J Jx (fun s A B hj hb=>hJ s A B none hj ⟨hb.os,hb.tape,hb.output,hb.size,fun k hk _=>hb.block k hk⟩ (fun r e=>by cases e)) hY W
  ((hW.cell (p:=⟨Bt,0,none⟩) hBt).trans c0) ((hW.cell (p:=⟨Bt,1,none⟩) hBt).trans c1) ((hW.cell (p:=⟨Bt,2,none⟩) hBt).trans c2) hx (hw.trans (hW.mono hw.size)) hys h0
end Go.Proofs.YtfffpjkcfnekaaaGreat.Ex
