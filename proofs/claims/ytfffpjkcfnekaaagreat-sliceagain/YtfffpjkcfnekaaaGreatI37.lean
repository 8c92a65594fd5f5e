/- A program that is cut, by its numbers; cut twice: plain. -/
import Derived.Test.YtfffpjkcfnekaaaGreatI36
set_option linter.unusedVariables false
set_option maxHeartbeats 8000000
set_option maxRecDepth 100000
namespace Go.Proofs.YtfffpjkcfnekaaaGreat.Ex
open Go.RowKit
open Go.Value renaming slice -> O, int -> zd, bool -> zg, agg -> zh, pointer -> zj, tuple -> zm
open Go.IntKind renaming i64 -> U
open Go.Obj renaming cells -> ze
open Go.Ending renaming returned -> zk
def rho (nd:List Bool) (a:Nat):Nat:=(nd.take a).count true
theorem Fp (nd:List Bool) (a:Nat):rho nd (a+1)=rho nd a+(if nd.getD a false=true then 1 else 0):=by
 unfold rho;by_cases h:a < nd.length
 ·have e:nd.getD a false=nd[a]:=by rw [List.getD_eq_getElem?_getD,List.getElem?_eq_getElem h];rfl
  rw [List.take_succ_eq_append_getElem h,List.count_append,e];cases nd[a] <;> simp
 ·have e:nd.getD a false=false:=by rw [List.getD_eq_getElem?_getD,List.getElem?_eq_none (by omega)];rfl
  rw [List.take_of_length_le (by omega),List.take_of_length_le (by omega),e];simp
theorem Fo {nd:List Bool} {a:Nat} (h:nd.getD a false=true):rho nd (a+1)=rho nd a+1:=by rw [Fp,if_pos h]
theorem La {nd:List Bool} {a:Nat}:∀ {c:Nat},(∀ i,a<=i->i < a+c->nd.getD i false=false)->rho nd (a+c)=rho nd a
 | 0,_=>rfl
 | c+1,h=>by
  rw [<-Nat.add_assoc,Fp,h (a+c) (by omega) (by omega),if_neg (by simp),Nat.add_zero];exact La fun i h1 h2=>h i h1 (by omega)
theorem JF (nd:List Bool) (a:Nat):∀ c,rho nd a<=rho nd (a+c)
 | 0=>Nat.le_refl _
 | c+1=>by
  rw [<-Nat.add_assoc,Fp];exact Nat.le_trans (JF nd a c) (Nat.le_add_right _ _)
theorem Lb {nd:List Bool} {a b:Nat} (h:a<=b):rho nd a<=rho nd b:=by
 have:=JF nd a (b - a)
 rwa [show a+(b - a)=b by omega] at this
theorem OA {nd:List Bool} {a b:Nat} (h:a < b) (hn:nd.getD a false=true):rho nd a < rho nd b:=by
 have:=Lb (nd:=nd) (a:=a+1) (b:=b) h;rw [Fo hn] at this;exact this
theorem GJ {nd:List Bool}:∀ {n b:Nat},b < rho nd n->∃ a,a < n/\nd.getD a false=true/\rho nd a=b
 | 0,b,h=>by simp [rho] at h
 | n+1,b,h=>by
  rw [Fp] at h;by_cases hn:nd.getD n false=true
  ·rw [if_pos hn] at h
   by_cases hb:b < rho nd n
   ·obtain ⟨a,h1,h2,h3⟩:=GJ hb
    exact ⟨a,by omega,h2,h3⟩
   ·exact ⟨n,by omega,hn,by omega⟩
  ·rw [if_neg hn] at h
   obtain ⟨a,h1,h2,h3⟩:=GJ (n:=n) (b:=b) (by omega);exact ⟨a,by omega,h2,h3⟩
theorem FJ (k:Nat):Ai k []=0:=rfl
theorem Pn (k:Nat) (l m:List D):Ai k (l++m)=Ai k l+Ai k m:=by
 unfold Ai;rw [List.map_append,List.sum_append]
structure HU (d' d:D):Prop where
 kind:Af d'=Af d
 var:Ax d'=Ax d
 oth:Ae d'=Ae d
 expr:Ao d'=Ao d
 args:Al d'=Al d
theorem J0 (nd:List Bool) (k:Nat) (d:D) (a:Nat):HU (Dh nd k d a) d:=⟨rfl,rfl,rfl,rfl,rfl⟩
section
variable {nd nv ni:List Bool} {ch:Int} {K kf:Nat} {fs:List FnD}
theorem Po {k:Nat} {d:D} {a:Nat} (h:Cl nd nv ni ch K kf fs (a,d,a+BD (k+1) d)) (hn:nd.getD a false=false):∀ i,a<=i->i < a+BD (k+1) d->nd.getD i false=false:=fun i h1 h2=>by
 by_cases hi:i=a
 ·rw [hi];exact hn
 by_cases hk:Af d=7\/Af d=8
 ·cases hh:nd.getD i false with
  | false=>rfl
  | true=>
   have:=h.inn hk ⟨i,by dsimp only;omega,h2,hh⟩;dsimp only at this;rw [hn] at this;cases this
 ·obtain ⟨e1,e2⟩:=h.flat (fun h=>hk (Or.inl h)) (fun h=>hk (Or.inr h))
  dsimp only at e1 e2;rw [AU,e1,e2,FJ] at h2;omega
theorem Jn {k:Nat} {d:D} {r:List D} {a:Nat} {P:Nat × D × Nat->Prop} (h:∀ x∈BQ (k+1) (d::r) a,P x):P (a,d,a+BD (k+1) d)/\(∀ x∈BQ k (Ag d) (a+1),P x)/\(∀ x∈BQ k (Ak d) (a+1+Ai k (Ag d)),P x)/\∀ x∈BQ (k+1) r (a+BD (k+1) d),P x:=by
 rw [BM,CJ] at h;exact ⟨h _ (by simp),fun x b=>h x (by simp [b]),fun x b=>h x (by simp [b]),fun x b=>h x (by simp [b])⟩
theorem Dg:∀ (k:Nat) (l:List D) (a:Nat),(∀ x∈BQ k l a,Cl nd nv ni ch K kf fs x)->rho nd a+Ai k (AJ nd k l a)=rho nd (a+Ai k l)
 | k,[],a,_=>rfl
 | 0,d::r,a,h=>by
  rw [Bj];show rho nd a+Ai 0 (AJ nd 0 r (a+0))=rho nd (a+(0+Ai 0 r));rw [Nat.zero_add];exact Dg 0 r a h
 | k+1,d::r,a,h=>by
  obtain ⟨h0,h1,h2,h3⟩:=Jn h;rw [BG,Pn,Bj,<-Nat.add_assoc (n:=a)];have e3:=Dg (k+1) r _ h3
  cases hn:nd.getD a false with
  | false=>
   rw [DA hn,FJ,Nat.zero_add,<-e3,La (Po h0 hn)]
  | true=>
   have e1:=Dg k _ _ h1;have e2:=Dg k _ _ h2;have e4:=Fo hn;rw [CB hn,Bj,FJ,AU k (Dh nd k d a),<-e3];have e5:Ag (Dh nd k d a)=AJ nd k (Ag d) (a+1):=rfl;have e6:Ak (Dh nd k d a)=AJ nd k (Ak d) (a+1+Ai k (Ag d)):=rfl;rw [e5,e6,AU k d,show a+(1+Ai k (Ag d)+Ai k (Ak d))=a+1+Ai k (Ag d)+Ai k (Ak d) by omega,<-e2,<-e1,e4];omega
theorem Pf {k:Nat} {d:D} {a:Nat} (h1:∀ x∈BQ k (Ag d) (a+1),Cl nd nv ni ch K kf fs x) (h2:∀ x∈BQ k (Ak d) (a+1+Ai k (Ag d)),Cl nd nv ni ch K kf fs x) (hn:nd.getD a false=true):rho nd a+BD (k+1) (Dh nd k d a)=rho nd (a+BD (k+1) d):=by
 have i:=Dg k _ _ h1;have g:=Dg k _ _ h2;have f:=Fo hn;have c:Ag (Dh nd k d a)=AJ nd k (Ag d) (a+1):=rfl;have b:Ak (Dh nd k d a)=AJ nd k (Ak d) (a+1+Ai k (Ag d)):=rfl;rw [AU,AU,c,b,show a+(1+Ai k (Ag d)+Ai k (Ak d))=a+1+Ai k (Ag d)+Ai k (Ak d) by omega,<-g,<-i,f];omega
theorem D4:∀ (k:Nat) (l:List D) (a:Nat),(∀ x∈BQ k l a,Cl nd nv ni ch K kf fs x)->∀ x∈BQ k l a,nd.getD x.1 false=true->∃ d',(rho nd x.1,d',rho nd x.2.2)∈BQ k (AJ nd k l a) (rho nd a)/\HU d' x.2.1
 | k,[],a,_,x,hx,_=>by cases hx
 | 0,d::r,a,h,x,hx,hn=>D4 0 r a h x hx hn
 | k+1,d::r,a,h,x,hx,hn=>by
  obtain ⟨h0,h1,h2,h3⟩:=Jn h;have hx0:=hx;rw [BM,List.mem_append] at hx;rw [BG]
  cases hna:nd.getD a false with
  | false=>
   rw [DA hna,List.nil_append,<-La (Po h0 hna)];rcases hx with hx | hx
   ·exfalso
    rw [<-JV] at hx;have h4:=Fy _ _ _ x hx;rw [Bj,FJ] at h4;rw [Po h0 hna x.1 h4.1 h4.2] at hn;cases hn
   ·exact D4 (k+1) r _ h3 x hx hn
  | true=>
   rw [CB hna,List.singleton_append,BM,CJ,Pf h1 h2 hna];have e5:Ag (Dh nd k d a)=AJ nd k (Ag d) (a+1):=rfl;have e6:Ak (Dh nd k d a)=AJ nd k (Ak d) (a+1+Ai k (Ag d)):=rfl;rw [e5,e6,<-Fo hna,Dg k _ _ h1];rcases hx with hx | hx
   ·rw [CJ,List.mem_cons,List.mem_append] at hx
    rcases hx with rfl | hx | hx
    ·exact ⟨Dh nd k d a,by simp,J0 _ _ _ _⟩
    ·obtain ⟨d',g1,g2⟩:=D4 k _ _ h1 x hx hn
     exact ⟨d',by simp [g1],g2⟩
    ·obtain ⟨d',g1,g2⟩:=D4 k _ _ h2 x hx hn
     exact ⟨d',by simp [g1],g2⟩
   ·obtain ⟨d',g1,g2⟩:=D4 (k+1) r _ h3 x hx hn
    exact ⟨d',by simp [g1],g2⟩
theorem Es (i:Nat) (hi:i < fs.length) (hj:i < (Bc nd kf fs).length):(Bc nd kf fs)[i]=⟨fs[i].ps,AJ nd kf fs[i].body (Ap kf (fs.take i)),fs[i].res⟩:=by
 have:=FH (kf:=kf) (fs:=fs) nd i hi;rw [List.getElem?_eq_getElem hj] at this;injection this
theorem FG (HF:ClF nd nv ni ch K kf fs):∀ j,j<=fs.length->Ap kf ((Bc nd kf fs).take j)=rho nd (Ap kf (fs.take j)):=by
 intro j
 induction j with
 | zero=>intro _;simp [Ap,rho]
 | succ j ih=>
  intro c;have b:=ih (by omega);have hl:j < (Bc nd kf fs).length:=by rw [BI];omega
  rw [B4 hl,B4 (by omega:j < fs.length),b,Es j (by omega) hl];exact Dg kf _ _ (HF.cl j (by omega))
theorem II (HF:ClF nd nv ni ch K kf fs):Ap kf (Bc nd kf fs)=rho nd (Ap kf fs):=by
 have h:=FG HF fs.length (Nat.le_refl _);rw [List.take_length,<-BI (kf:=kf) nd,List.take_length] at h;exact h
theorem Kn (HF:ClF nd nv ni ch K kf fs) {l:List D} (h:∀ x∈Cz kf fs l,Cl nd nv ni ch K kf fs x):∀ x∈Cz kf fs l,nd.getD x.1 false=true->∃ d',(rho nd x.1,d',rho nd x.2.2)∈Cz kf (Bc nd kf fs) (AJ nd kf l (Ap kf fs))/\HU d' x.2.1:=fun x hx hn=>by
 unfold Cz at hx ⊢;rcases List.mem_append.1 hx with hx | hx
 ·obtain ⟨i,hi,hx⟩:=Gy hx
  rw [Nat.zero_add] at hx;obtain ⟨d',g1,g2⟩:=D4 kf _ _ (HF.cl i hi) x hx hn;have hl:i < (Bc nd kf fs).length:=by rw [BI];exact hi
  refine ⟨d',List.mem_append_left _ (FA (i:=i) hl ?_),g2⟩;rw [Es i hi hl,Nat.zero_add,FG HF i (by omega)];exact g1
 ·obtain ⟨d',g1,g2⟩:=D4 kf l _ (fun x hx=>h x (List.mem_append_right _ hx)) x hx hn
  refine ⟨d',List.mem_append_right _ ?_,g2⟩;rw [II HF];exact g1
structure Sub (V C N:Nat->Prop) (st:NS):Prop where
 vs:∀ i,st.vs.getD i false=true->V i
 cs:∀ i,st.cs.getD i false=true->C i
 nd:∀ i,st.nd.getD i false=true->N i
variable {V C N:Nat->Prop}
theorem Sub.needV {st:NS} (h:Sub V C N st) {v:Int} (hv:V v.toNat):Sub V C N (st.needV v):=by
 unfold NS.needV;split
 ·exact h
 ·refine ⟨fun i b=>?_,h.cs,h.nd⟩
  dsimp only at b;rw [EP] at b;split at b
  ·rename_i c;rw [<-c.1];exact hv
  ·exact h.vs i b
theorem Sub.needC {st:NS} (h:Sub V C N st) {v:Int} (hv:C v.toNat):Sub V C N (st.needC v):=by
 unfold NS.needC;split
 ·exact h
 ·refine ⟨h.vs,fun i b=>?_,h.nd⟩
  dsimp only at b;rw [EP] at b;split at b
  ·rename_i c;rw [<-c.1];exact hv
  ·exact h.cs i b
theorem Sub.needN {st:NS} (h:Sub V C N st) {a:Nat} (hv:N a):Sub V C N (st.needN a):=
 ⟨fun i hi=>h.vs i (by unfold NS.needN at hi;split at hi <;> exact hi),fun i hi=>h.cs i (by unfold NS.needN at hi;split at hi <;> exact hi),fun i hi=>by
  rcases JR hi with hi | rfl
  ·exact h.nd i hi
  ·exact hv⟩
theorem Sub.foldl {α:Type} {f:NS->α->NS}:∀ (l:List α) {st:NS},Sub V C N st->(∀ x∈l,∀ st,Sub V C N st->Sub V C N (f st x))->Sub V C N (l.foldl f st)
 | [],st,h,_=>h
 | x::l,st,h,hf=>Sub.foldl l (hf x (List.mem_cons_self ..) _ h) fun y hy=>hf y (List.mem_cons_of_mem _ hy)
theorem Sub.needX {st:NS} (h:Sub V C N st) {e:D} (hv:∀ v∈Ar K e,V v.toNat):Sub V C N (st.needX K e):=
 Sub.foldl _ h fun v hx st h=>h.needV (hv v hx)
structure S0 (V C:Nat->Prop) (K:Nat) (fs:List FnD) (d:D):Prop where
 vars:∀ v∈Ar K (Ao d),V v.toNat
 chan:Af d=3->C (Ae d).toNat
 args:Af d=2->∀ q∈(Bv fs (Ae d)).ps.zip (Al d),V q.1.toNat->∀ v∈Ar K q.2,V v.toNat
 res:Af d=2->V (Ax d).toNat->∀ v∈Ar K (Bv fs (Ae d)).res,V v.toNat
theorem Sub.needFor {st:NS} (h:Sub V C N st) {d:D} (hh:S0 V C K fs d):Sub V C N (needFor K fs st d):=by
 unfold Ex.needFor;by_cases h3:Af d=3
 ·rw [if_pos h3]
  exact (h.needX hh.vars).needC (hh.chan h3)
 rw [if_neg h3];by_cases h2:Af d=2
 ·rw [if_pos h2]
  have c:Sub V C N (((Bv fs (Ae d)).ps.zip (Al d)).foldl (needA K) (st.needX K (Ao d))):=Sub.foldl _ (h.needX hh.vars) fun q f st h=>by
   unfold needA;split
   ·rename_i b
    exact h.needX (hh.args h2 q f (h.vs _ b))
   ·exact h
  split
  ·rename_i b
   exact c.needX (hh.res h2 (c.vs _ b))
  ·exact c
 rw [if_neg h2];exact h.needX hh.vars
variable {Z:NS}
def Clo (V C N:Nat->Prop) (Z:NS) (ch:Int) (K kf:Nat) (fs:List FnD) (x:Nat × D × Nat):Prop:=(∀ st,NLe st Z->Sub V C N st->Cf ch kf fs st x=true->N x.1)/\(Cf ch kf fs Z x=true->N x.1->S0 V C K fs x.2.1)
theorem Jf (l:List (Nat × D × Nat)):∀ st:NS,NLe st (l.foldl (look1 ch K kf fs) st):=by
 induction l with
 | nil=>intro st;exact NLe.refl _
 | cons x l ih=>intro st;exact (GV st x).trans (ih _)
theorem Sub.look {l:List (Nat × D × Nat)} (hc:∀ x∈l,Clo V C N Z ch K kf fs x):∀ st:NS,NLe (l.foldl (look1 ch K kf fs) st) Z->Sub V C N st->Sub V C N (l.foldl (look1 ch K kf fs) st):=by
 induction l with
 | nil=>intro st _ h;exact h
 | cons x l ih=>
  intro st d h;have c:NLe (look1 ch K kf fs st x) Z:=(Jf l _).trans d;refine ih (fun y i=>hc y (List.mem_cons_of_mem _ i)) _ d ?_;obtain ⟨c1,k⟩:=hc x (List.mem_cons_self ..);unfold look1 at c ⊢;split
  ·rename_i f
   have b:NLe st Z:=by
    have:=(GV (ch:=ch) (K:=K) (kf:=kf) (fs:=fs) st x).trans ((Jf l _).trans d);exact this
   have g:=c1 st b h f;exact (h.needN g).needFor (k (Gz b f) g)
  ·exact h
theorem Ij {l:List (Nat × D × Nat)}:∀ (g:Nat) (st:NS),NLe st (rounds ch K kf fs l g st)
 | 0,st=>NLe.refl _
 | g+1,st=>by
  unfold rounds;split
  ·have h1:NLe st { st with mo:=false }:=⟨fun _ h=>h,fun _ h=>h,fun _ h=>h⟩
   exact h1.trans ((Jf l _).trans (Ij g _))
  ·exact NLe.refl _
theorem Sub.rounds {l:List (Nat × D × Nat)} (hc:∀ x∈l,Clo V C N Z ch K kf fs x):∀ (g:Nat) (st:NS),NLe (Ex.rounds ch K kf fs l g st) Z->Sub V C N st->Sub V C N (Ex.rounds ch K kf fs l g st)
 | 0,st,_,h=>h
 | g+1,st,hz,h=>by
  unfold Ex.rounds at hz ⊢;split
  ·rename_i hm
   rw [if_pos hm] at hz;refine Sub.rounds hc g _ hz (Sub.look hc _ ((Ij g _).trans hz) ⟨h.vs,h.cs,h.nd⟩)
  ·exact h
theorem PB (vn yn n:Nat):Sub V C N (ns0 vn yn n):=by
 have b:∀ n i:Nat,¬ (List.replicate n false).getD i false=true:=fun n i h=>by
  rw [List.getD_eq_getElem?_getD,List.getElem?_replicate] at h;split at h <;> cases h
 exact ⟨fun i h=>absurd h (b _ _),fun i h=>absurd h (b _ _),fun i h=>absurd h (b _ _)⟩
theorem Sub.needs {l:List D} {vn yn:Nat} (hc:∀ x∈Cz kf fs l,Clo V C N (A6 ch K kf fs l vn yn) ch K kf fs x):Sub V C N (A6 ch K kf fs l vn yn):=
 Sub.rounds hc _ _ (NLe.refl _) (PB _ _ _)
end
section
variable {K vn yn on kf:Nat} {fs:List FnD} {m:Int} {sn:Nat} {gs:List (Int × Int)} {sp:List Int} {ls ms:List Lab} {vs:List (Bool × Lab)} {l:List D}
theorem JO (h:Ey.xP K kf m vn yn on sn gs sp ls ms vs fs l) (ch:Int) (Z:NS) (hZ:Z=A6 ch K kf fs l vn yn) (b:Nat) (hb:b < Ap kf (Bc Z.nd kf fs)+Ai kf (AJ Z.nd kf l (Ap kf fs))):(A6 ch K kf (Bc Z.nd kf fs) (AJ Z.nd kf l (Ap kf fs)) vn yn).nd.getD b false=true:=by
 have q:=(Gw h ch).2.2;rw [<-hZ] at q;have H:ClF Z.nd Z.vs Z.cs ch K kf fs:=Pp (Mo h).1 q;have k:=(Gw (Pe h Z.nd (Ap kf fs)) ch).2.2;generalize hY:A6 ch K kf (Bc Z.nd kf fs) (AJ Z.nd kf l (Ap kf fs)) vn yn=Y at k ⊢;have C:=E8 (ch:=ch) (kf:=kf) (I2 h) (vn+yn+(Ap kf fs+Ai kf l)+1) (ns0 vn yn (Ap kf fs+Ai kf l)) ⟨by simp [ns0],by simp [ns0],by simp [ns0]⟩ (fun _=>by
  unfold NS.left ns0;simp only [List.count_replicate_self];omega)
 have B:Sub (fun i=>Y.vs.getD i false=true) (fun i=>Y.cs.getD i false=true) (fun a=>Y.nd.getD (rho Z.nd a) false=true) Z:=by
  rw [hZ];refine Sub.needs fun x z=>?_;rw [<-hZ];have E:Cf ch kf fs Z x=true->Z.nd.getD x.1 false=true:=fun hi=>by
   have I:=C.2.2 rfl x z;have d:look1 ch K kf fs Z x=Z:=by rw [hZ];exact I
   unfold look1 at d;rw [if_pos hi] at d;have y:=(JQ Z x.1).nd;have G:(needFor K fs (Z.needN x.1) x.2.1).nd=(Z.needN x.1).nd:=(Up.needFor x.2.1).nd _;rw [d] at G;have V:Z.mo=false:=by rw [hZ];exact C.1
   have h5:=Ky.comp (f:=fun st=>needFor K fs st x.2.1) (g:=fun st=>st.needN x.1) (Ky.needFor x.2.1) (Ky.needN x.1);have Q:=Ky.needFor (K:=K) (fs:=fs) x.2.1 (Z.needN x.1) (by dsimp only;rw [d];exact V);dsimp only at Q;rw [d] at Q;exact JP Q.symm V
  refine ⟨fun st F A hi=>?_,fun hi hN=>?_⟩
  ·have U:=E (Gz F hi)
   obtain ⟨W,u,lk⟩:=Kn H q x z U;have c:=k _ u;have t:∀ a b,De st.nd a b=true->∃ i,a<=i/\i < b/\Z.nd.getD i false=true/\Y.nd.getD (rho Z.nd i) false=true:=fun a b P=>by
    obtain ⟨i,I,d,y⟩:=DT.1 P;exact ⟨i,I,d,F.nd i y,A.nd i y⟩
   unfold Cf at hi;by_cases d:Af x.2.1=2
   ·rw [if_pos d,Bool.or_eq_true,Bool.or_eq_true] at hi
    refine c.call (lk.kind.trans d) ?_;dsimp only;rw [lk.var,lk.oth,Ep];rcases hi with (hi | hi) | hi
    ·exact Or.inl (A.vs _ hi)
    ·obtain ⟨p,hp,X⟩:=List.any_eq_true.1 hi
     exact Or.inr (Or.inl ⟨p,hp,A.vs _ X⟩)
    ·obtain ⟨i,N,M,L,J⟩:=t _ _ hi
     have ab:(Ae x.2.1).toNat < fs.length:=by
      by_cases P:(Ae x.2.1).toNat < fs.length
      ·exact P
      ·rw [List.take_of_length_le (by omega),List.take_of_length_le (by omega)] at *
       omega
     refine Or.inr (Or.inr ⟨rho Z.nd i,?_,?_,J⟩)
     ·rw [FG H _ (by omega)]
      exact Lb N
     ·rw [FG H _ (by omega)]
      exact OA M L
   rw [if_neg d] at hi;by_cases y:Af x.2.1=3
   ·rw [if_pos y,Bool.or_eq_true] at hi
    refine c.get (lk.kind.trans y) ?_;dsimp only;rw [lk.var,lk.oth];rcases hi with hi | hi
    ·exact Or.inl (A.vs _ hi)
    ·exact Or.inr (A.cs _ hi)
   rw [if_neg y] at hi;by_cases G:Af x.2.1=4
   ·rw [if_pos G] at hi
    exact c.put (lk.kind.trans G) (lk.oth.trans (of_decide_eq_true hi))
   rw [if_neg G] at hi;by_cases h7:Af x.2.1=7\/Af x.2.1=8
   ·rw [if_pos h7] at hi
    obtain ⟨i,N,M,L,J⟩:=t _ _ hi;refine c.inn ?_ ⟨rho Z.nd i,?_,OA M L,J⟩
    ·dsimp only;rw [lk.kind];exact h7
    ·dsimp only;rw [<-Fo U];exact Lb N
   rw [if_neg h7] at hi;obtain ⟨fu,ac,O⟩:=Fr h x z;refine c.set ?_ ?_
   ·dsimp only;rw [lk.kind];have:=O.1.1;omega
   ·dsimp only;rw [lk.var];exact A.vs _ hi
  ·obtain ⟨W,u,lk⟩:=Kn H q x z (E hi)
   have c:=k _ u;have s:Y.nd.getD (rho Z.nd x.1,W,rho Z.nd x.2.2).1 false=true:=hN;have c1:=c.vars s;have T:=c.chan s;have S:=c.args s;have R:=c.res s;dsimp only at c1 T S R;rw [lk.expr] at c1;rw [lk.kind,lk.oth] at T;rw [lk.kind,lk.oth,lk.args,Ep] at S;rw [lk.kind,lk.oth,lk.var,Ep] at R;exact ⟨c1,T,S,R⟩
 rw [II H,Dg kf l _ (fun x z=>q x (List.mem_append_right _ z))] at hb;obtain ⟨a,I,d,rfl⟩:=GJ hb;exact B.nd a d
theorem C2 {nd nd':List Bool}:∀ (k:Nat) (l:List D) (a b:Nat),(∀ i,b<=i->i < b+Ai k (AJ nd k l a)->nd'.getD i false=true)->AJ nd' k (AJ nd k l a) b=AJ nd k l a
 | k,[],a,b,_=>rfl
 | 0,d::r,a,b,h=>C2 0 r a b h
 | k+1,d::r,a,b,h=>by
  rw [BG nd] at h ⊢
  cases hn:nd.getD a false with
  | false=>
   rw [DA hn,List.nil_append] at h ⊢;exact C2 (k+1) r _ b h
  | true=>
   rw [CB hn,List.singleton_append] at h ⊢;rw [Bj,AU] at h;have e5:Ag (Dh nd k d a)=AJ nd k (Ag d) (a+1):=rfl;have e6:Ak (Dh nd k d a)=AJ nd k (Ak d) (a+1+Ai k (Ag d)):=rfl;rw [e5,e6] at h;have h1:=C2 (nd:=nd) (nd':=nd') k (Ag d) (a+1) (b+1) (fun i i1 i2=>h i (by omega) (by omega));have h2:=C2 (nd:=nd) (nd':=nd') k (Ak d) (a+1+Ai k (Ag d)) (b+1+Ai k (AJ nd k (Ag d) (a+1))) (fun i i1 i2=>h i (by omega) (by omega));rw [BG,CB (h b (by omega) (by omega)),List.singleton_append];congr 1
   ·unfold Dh at h1 h2 ⊢
    show sD (Af d) (Ax d) (Ae d) (Ao d) (Al d) (AJ nd' k (AJ nd k (Ag d) (a+1)) (b+1)) (AJ nd' k (AJ nd k (Ak d) (a+1+Ai k (Ag d))) (b+1+Ai k (AJ nd k (Ag d) (a+1))))=_;rw [h1,h2]
   ·exact C2 (k+1) r _ _ (fun i i1 i2=>h i (by rw [AU,e5,e6] at i1;omega) (by rw [AU,e5,e6] at i2;omega))
theorem Ns (h:Ey.xP K kf m vn yn on sn gs sp ls ms vs fs l) (ch:Int) (Z Y:NS) (hZ:Z=A6 ch K kf fs l vn yn) (hY:Y=A6 ch K kf (Bc Z.nd kf fs) (AJ Z.nd kf l (Ap kf fs)) vn yn) :
  Bc Y.nd kf (Bc Z.nd kf fs)=Bc Z.nd kf fs/\AJ Y.nd kf (AJ Z.nd kf l (Ap kf fs)) (Ap kf (Bc Z.nd kf fs))=AJ Z.nd kf l (Ap kf fs):=by
 have b:=JO h ch Z hZ;rw [<-hY] at b;constructor
 ·refine List.ext_getElem (by rw [BI]) fun i p c=>?_
  have k:i < fs.length:=by rw [BI] at c;exact c
  rw [Es i c p];have e:=Es (nd:=Z.nd) (kf:=kf) i k c;have d:Ap kf ((Bc Z.nd kf fs).take i)+Ai kf (Bc Z.nd kf fs)[i].body<=Ap kf (Bc Z.nd kf fs):=by
   rw [<-B4 c];have:∀ (l:List FnD) (j:Nat),Ap kf (l.take j)<=Ap kf l:=fun l j=>by
    conv=>rhs;rw [<-List.take_append_drop j l]
    unfold Ap;rw [List.map_append,List.sum_append];exact Nat.le_add_right _ _
   exact this _ _
  rw [e] at d ⊢;dsimp only at d ⊢;rw [C2 kf _ _ _ fun i g f=>b i (by omega)]
 ·exact C2 kf _ _ _ fun i g f=>b i (by omega)
end
theorem He {σ:Type} (n K:Nat) (lev:σ->List Lev) (step:Int->D->Lev->σ->σ) (k:Nat) (d:D) (r:List D) (a:Int) (p:Lev) (st:σ):goS n K lev step (k+1) (d::r) a p st=goS n K lev step (k+1) r (a+(BD (k+1) d:Int)) p (goS n K lev step k (Ak d) (a+1+(Ai k (Ag d):Int)) (AY n (lev (step a d p st)) p (Ar K (Ao d))) (goS n K lev step k (Ag d) (a+1) (AY n (lev (step a d p st)) p (Ar K (Ao d))) (step a d p st))):=by
 simp only [goS,List.foldl_cons,Eo]
theorem Je {σ:Type} (n K:Nat) (lev:σ->List Lev) (step:Int->D->Lev->σ->σ) (k:Nat) (a:Int) (p:Lev) (st:σ):goS n K lev step k [] a p st=st:=by
 cases k <;> simp [goS]
section
variable {nd nv ni:List Bool} {ch:Int} {K kf n:Nat} {fs:List FnD} {σ τ β:Type} (L L':List Lev) (step:Int->D->Lev->σ->σ) (step':Int->D->Lev->τ->τ) (stepB:Int->D->Lev->β->β) (Q:Lev->Lev->Prop) (R:σ->τ->β->Prop)
theorem EO (P1:D->Prop) (hQ:∀ p p' e,Q p p'->Q (AY n L p (Ar K e)) (AY n L' p' (Ar K e)))
  (hs:∀ a a' d d' p p' s t b,HU d' d->P1 d->R s t b->Q p p'->R (step a d p s) (step' a' d' p' t) (stepB a' d' p' b))
  (hn:∀ a d p s t b,R s t b->R (step a d p s) t b) :
  ∀ (k:Nat) (l:List D) (a:Nat) (b a':Int) (p p':Lev) (s:σ) (t:τ) (c:β),(∀ x∈BQ k l a,Cl nd nv ni ch K kf fs x/\P1 x.2.1)->R s t c->Q p p'->R (goS n K (fun _=>L) step k l b p s) (goS n K (fun _=>L') step' k (AJ nd k l a) a' p' t) (goS n K (fun _=>L') stepB k (AJ nd k l a) a' p' c)
 | k,[],a,b,a',p,p',s,t,c,_,h,_=>by
  rw [Hm,Je,Je,Je];exact h
 | 0,d::r,a,b,a',p,p',s,t,c,_,h,_=>h
 | k+1,d::r,a,b,a',p,p',s,t,c,hc,h,hp=>by
  obtain ⟨h0,h1,h2,h3⟩:=Jn hc;rw [BG,He]
  cases hnd:nd.getD a false with
  | false=>
   rw [DA hnd,List.nil_append];refine EO P1 hQ hs hn (k+1) r _ _ _ _ _ _ _ _ h3 ?_ hp;have key:∀ (k:Nat) (l:List D) (b:Int) (p:Lev) (s:σ),R s t c->R (goS n K (fun _=>L) step k l b p s) t c:=fun k l b p s h=>
    Ds n K (fun _=>L) step (R:=fun a b=>R a t c->R b t c) (fun _ h=>h) (fun h1 h2 h=>h2 (h1 h)) (fun a d p st h=>hn a d p st t c h) k l b p s h
   exact key _ _ _ _ _ (key _ _ _ _ _ (hn _ _ _ _ _ _ h))
  | true=>
   rw [CB hnd,List.singleton_append,He,He];have e5:Ag (Dh nd k d a)=AJ nd k (Ag d) (a+1):=rfl;have e6:Ak (Dh nd k d a)=AJ nd k (Ak d) (a+1+Ai k (Ag d)):=rfl;have e7:Ao (Dh nd k d a)=Ao d:=rfl;rw [e5,e6,e7];have hq:=hQ p p' (Ao d) hp;have g1:=hs b a' d (Dh nd k d a) p p' s t c (J0 nd k d a) h0.2 h hp;have g2:=EO P1 hQ hs hn k (Ag d) (a+1) (b+1) (a' + 1) _ _ _ _ _ h1 g1 hq;have g3:=EO P1 hQ hs hn k (Ak d) _ (b+1+(Ai k (Ag d):Int)) (a' + 1+(Ai k (AJ nd k (Ag d) (a+1)):Int)) _ _ _ _ _ h2 g2 hq;exact EO P1 hQ hs hn (k+1) r _ _ _ _ _ _ _ _ h3 g3 hp
theorem IC (P1:D->Prop) (Fs Fs':List Lev) (hQ:∀ p p' e,Q p p'->Q (AY n L p (Ar K e)) (AY n L' p' (Ar K e)))
  (hs:∀ a a' d d' p p' s t b,HU d' d->P1 d->R s t b->Q p p'->R (step a d p s) (step' a' d' p' t) (stepB a' d' p' b))
  (hn:∀ a d p s t b,R s t b->R (step a d p s) t b) (HF:ClF nd nv ni ch K kf fs) (l:List D) (h:∀ x∈Cz kf fs l,Cl nd nv ni ch K kf fs x/\P1 x.2.1) (hf:∀ i,Q (Fs.getD i AL) (Fs'.getD i AL)) (hb:Q (BS n) (BS n)) (s:σ) (t:τ) (c:β) (hr:R s t c) :
  R (CO n K (fun _=>L) step (fun _=>Fs) kf fs l s) (CO n K (fun _=>L') step' (fun _=>Fs') kf (Bc nd kf fs) (AJ nd kf l (Ap kf fs)) t) (CO n K (fun _=>L') stepB (fun _=>Fs') kf (Bc nd kf fs) (AJ nd kf l (Ap kf fs)) c):=by
 have u:∀ j,j<=fs.length->R ((((List.range fs.length).zip fs).take j).foldl (goF n K (fun _=>L) step (fun _=>Fs) kf) (0,s)).2 ((((List.range (Bc nd kf fs).length).zip (Bc nd kf fs)).take j).foldl (goF n K (fun _=>L') step' (fun _=>Fs') kf) (0,t)).2 ((((List.range (Bc nd kf fs).length).zip (Bc nd kf fs)).take j).foldl (goF n K (fun _=>L') stepB (fun _=>Fs') kf) (0,c)).2/\((((List.range (Bc nd kf fs).length).zip (Bc nd kf fs)).take j).foldl (goF n K (fun _=>L') step' (fun _=>Fs') kf) (0,t)).1=((((List.range (Bc nd kf fs).length).zip (Bc nd kf fs)).take j).foldl (goF n K (fun _=>L') stepB (fun _=>Fs') kf) (0,c)).1:=by
  intro j
  induction j with
  | zero=>intro _;exact ⟨hr,rfl⟩
  | succ j ih=>
   intro F;have f:j < fs.length:=F;have hl:j < (Bc nd kf fs).length:=by rw [BI];omega
   have z1:j < ((List.range fs.length).zip fs).length:=by simp;omega
   have E:j < ((List.range (Bc nd kf fs).length).zip (Bc nd kf fs)).length:=by simp;omega
   obtain ⟨k,g⟩:=ih (by omega);rw [List.take_succ_eq_append_getElem z1,List.take_succ_eq_append_getElem E,List.foldl_append,List.foldl_append,List.foldl_append];simp only [List.foldl_cons,List.foldl_nil,List.getElem_zip,List.getElem_range];generalize (((List.range fs.length).zip fs).take j).foldl (goF n K (fun _=>L) step (fun _=>Fs) kf) (0,s)=A at k ⊢;generalize (((List.range (Bc nd kf fs).length).zip (Bc nd kf fs)).take j).foldl (goF n K (fun _=>L') step' (fun _=>Fs') kf) (0,t)=B at k g ⊢;generalize (((List.range (Bc nd kf fs).length).zip (Bc nd kf fs)).take j).foldl (goF n K (fun _=>L') stepB (fun _=>Fs') kf) (0,c)=C at k g ⊢;unfold goF;dsimp only;refine ⟨?_,by rw [g]⟩;rw [g,Es j f hl];dsimp only;exact EO L L' step step' stepB Q R P1 hQ hs hn kf _ _ _ _ _ _ _ _ _ (fun x q=>⟨HF.cl j f x q,(h x (List.mem_append_left _ (FA f (by rw [Nat.zero_add];exact q)))).2⟩) k (hf j)
 obtain ⟨z,y⟩:=u fs.length (Nat.le_refl _);rw [List.take_of_length_le (by simp),List.take_of_length_le (by simp [BI])] at z;rw [List.take_of_length_le (by simp [BI])] at y;unfold CO;dsimp only;rw [y];exact EO L L' step step' stepB Q R P1 hQ hs hn kf l _ _ _ _ _ _ _ _ (fun x q=>h x (List.mem_append_right _ q)) z hb
end
theorem IL {σ:Type} {n K kf:Nat} {nd:List Bool} (lev:σ->List Lev) (known:List Bool) (ins:List Lev) (fs:List FnD) (flow:Lev->Bool × Nat->σ->σ) (a a':Int) {d d':D} (h:HU d' d) (p:Lev) (st:σ):B6 n K lev known ins (Bc nd kf fs) flow a' d' p st=B6 n K lev known ins fs flow a d p st:=by
 unfold B6 D6;rw [h.kind,h.var,h.oth,h.expr,h.args,Ep]
theorem IE (n K:Nat) (L:ISt) (known:List Bool) (ins:List Lev) (fs:List FnD) (a:Int) (d:D) (p:Lev) (b:Bool) (h:B6 n K (fun _=>L.vs) known ins fs (B8 n L) a d p b=true):b=true:=
 ER n K (fun _=>L.vs) known ins fs (B8 n L) (R:=fun a b=>b=true->a=true) (fun _ h=>h) (fun h1 h2 h=>h1 (h2 h)) (fun l i st _ h=>by unfold B8 at h;simp at h;exact h.1) (fun l i st h=>by unfold B8 at h;simp at h;exact h.1) a d p b h
section
variable {nd nv ni:List Bool} {ch:Int} {K kf n:Nat} {fs:List FnD} {l:List D}
theorem Pg (HF:ClF nd nv ni ch K kf fs) (h:∀ x∈Cz kf fs l,Cl nd nv ni ch K kf fs x) (known:List Bool) (ins:List Lev) (st:ISt) (hb:Fu n K kf known ins fs l st true=true):Fu n K kf known ins (Bc nd kf fs) (AJ nd kf l (Ap kf fs)) st true=true:=by
 unfold Fu at hb ⊢;have f:=IC (β:=Unit) (n:=n) st.vs st.vs (B6 n K (fun _=>st.vs) known ins fs (B8 n st)) (B6 n K (fun _=>st.vs) known ins (Bc nd kf fs) (B8 n st)) (fun _ _ _ u=>u) (fun a b=>a=b) (fun s t _=>s=true->t=true) (fun _=>True) st.fs st.fs
  (fun p y e h=>by rw [h])
  (fun a B d E p y s t b hl _ g A=>by
   subst A;rw [IL _ known ins fs _ a B hl];exact Ht n K known ins fs (fun _=>st.vs) (B8 n st) (fun _=>st.vs) (B8 n st) (fun a b=>a=b) (fun _=>rfl) (fun q k=>by rw [q,k]) (fun q k=>by rw [q,k]) (fun s t=>s=true->t=true) (fun _=>True) (fun _=>True) (fun _ _ _ _=>trivial) (fun _ _ _ _=>trivial) (fun _ _ _ _=>rfl)
    (fun l C i s t h hl _ _ _=>by
     subst hl;intro c;unfold B8 at c ⊢;rw [Bool.and_eq_true] at c ⊢;exact ⟨h c.1,c.2⟩) a d p p s t g rfl trivial trivial)
  (fun a d p s t b g c=>g (IE n K st known ins fs a d p s c))
  HF l (fun x z=>⟨h x z,trivial⟩) (fun _=>rfl) rfl true true () (fun _=>rfl)
 exact f hb
theorem Hy (a k:Int) (fl:List (Int × Int)) (b:Bool):(addF a k fl b).length=fl.length+b.toNat:=by
 cases b <;> simp [addF]
theorem NX {a b:Bool} (h:a=true->b=true):a.toNat<=b.toNat:=by
 cases a <;> cases b <;> simp at h ⊢
theorem CU {a b:Bool} (h:b=true->a=true):(!a)=true->(!b)=true:=by
 cases a <;> cases b <;> simp at h ⊢
theorem Cu {a a' k:Int} {fl fl':List (Int × Int)} {b b':Bool} (h:fl'.length<=fl.length) (hb:b'=true->b=true):(addF a' k fl' b').length<=(addF a k fl b).length:=by
 rw [Hy,Hy];have:=NX hb;omega
theorem Cv (a k:Int) (fl:List (Int × Int)) (b:Bool):fl.length<=(addF a k fl b).length:=by
 rw [Hy];omega
theorem Hv {α:Type} {l:List α} {f g:α->Bool} (h:∀ x∈l,f x=true->g x=true):l.any f=true->l.any g=true:=fun hh=>by
 obtain ⟨x,hx,hf⟩:=List.any_eq_true.1 hh;exact List.any_eq_true.2 ⟨x,hx,h x hx hf⟩
theorem Nr (n K:Nat) (gn sp Ls vs ins outs fs) (a:Int) (d:D) (p:Lev) (fl:List (Int × Int)):fl.length<=(Cn n K gn sp Ls vs ins outs fs a d p fl).length:=by
 unfold Cn;split
 ·exact Cv _ _ _ _
 split
 ·exact Cv _ _ _ _
 split
 ·exact Cv _ _ _ _
 split
 ·exact Cv _ _ _ _
 split
 ·unfold Dv
  exact Nat.le_trans (Cv _ _ _ _) (Nat.le_trans (Cv _ _ _ _) (Nat.le_trans (Cv _ _ _ _) (Nat.le_trans (Cv _ _ _ _) (Cv _ _ _ _))))
 split
 ·unfold Ef
  exact Nat.le_trans (Cv _ _ _ _) (Nat.le_trans (Cv _ _ _ _) (Nat.le_trans (Cv _ _ _ _) (Cv _ _ _ _)))
 ·exact Nat.le_refl _
theorem Kl (n K:Nat) (gn sp Ls vs ins outs) (a a':Int) {d d':D} (h:HU d' d) (p:Lev) (fl:List (Int × Int)):Cn n K gn sp Ls vs ins outs (Bc nd kf fs) a' d' p fl=Cn n K gn sp Ls vs ins outs fs a' d p fl:=by
 unfold Cn Dv Ef Gc toL DF;rw [h.kind,h.var,h.oth,h.expr,h.args,Ep]
end
section
variable {n K:Nat} {known:List Bool} {ins:List Lev} {fs:List FnD} {st:ISt}
theorem EC {l:Lev} {v:Int} {b:Bool} (h:toVar known (B8 n st) l v b=true):b=true/\(known.getD v.toNat false=false->Aw l (st.vs.getD v.toNat AL) n=true):=by
 unfold toVar at h;split at h
 ·rename_i hk;exact ⟨h,fun c=>by rw [hk] at c;cases c⟩
 ·unfold B8 at h
  rw [Bool.and_eq_true] at h;exact ⟨h.1,fun _=>h.2⟩
theorem IM {p:Lev}:∀ (xs:List (Int × D)) (b:Bool),xs.foldl (C3 n K (fun _=>st.vs) known (B8 n st) p) b=true->b=true/\∀ q∈xs,known.getD q.1.toNat false=false->Aw (AY n st.vs p (Ar K q.2)) (st.vs.getD q.1.toNat AL) n=true
 | [],b,h=>⟨h,fun q hq=>by cases hq⟩
 | x::xs,b,h=>by
  obtain ⟨h1,h2⟩:=IM xs _ h;obtain ⟨h3,h4⟩:=EC h1;refine ⟨h3,fun q hq=>?_⟩;rcases List.mem_cons.1 hq with rfl | hq
  ·exact h4
  ·exact h2 q hq
theorem Kk {gs:List (Int × Int)} {sp:List Int} {vs:List (Bool × Lab)} {ls outs:List Lab} {Ls:List Lev} (hle:∀ i,Aw (st.vs.getD i AL) (Ls.getD i AL) n=true) (hkn:∀ i,(vs.map Prod.fst).getD i false=true->st.vs.getD i AL=Ls.getD i AL)
  {a a':Int} {d:D} {p p':Lev} {fl fl':List (Int × Int)} {b:Bool} (hp:Aw p' p n=true) (ho:Af d=3->(Ae d).toNat < ls.length) (hfl:fl'.length<=fl.length)
  (hb:B6 n K (fun _=>st.vs) (vs.map Prod.fst) (ls.map (AH (AE gs) n)) fs (B8 n st) a d p' b=true) :
  (Cn n K (AE gs) sp st.vs vs ls outs fs a' d p' fl').length<=(Cn n K (AE gs) sp Ls vs ls outs fs a d p fl).length:=by
 have s:∀ (l l':Lev) (v:Int),Aw l' l n=true->((vs.map Prod.fst).getD v.toNat false=false->Aw l' (st.vs.getD v.toNat AL) n=true)->Aw l (Ls.getD v.toNat AL) n=true->Aw l' (st.vs.getD v.toNat AL) n=true:=fun l l' v A z t=>by
  cases hk:(vs.map Prod.fst).getD v.toNat false with
  | false=>exact z hk
  | true=>rw [hkn _ hk];exact Cm A t
 have hw:=fun e=>D3 hle (Ar K e) p' p hp;have g:=fun e=>D3 hle (Ar K e) (BS n) (BS n) (BJ _ n);have y:=fun e=>D3 (L:=st.vs) (L':=st.vs) (n:=n) (fun i=>BJ _ n) (Ar K e) (BS n) p' (LE n p');unfold B6 at hb;unfold Cn;split
 ·rename_i A
  rw [if_pos A] at hb;exact Cu hfl (CU (s _ _ _ (hw _) (EC hb).2))
 rename_i A;rw [if_neg A] at hb;split
 ·rename_i z
  rw [if_pos z] at hb;unfold D6 at hb;dsimp only at hb;unfold B8 at hb;rw [Bool.and_eq_true] at hb;obtain ⟨N,M⟩:=EC hb.1;obtain ⟨Q,J⟩:=IM _ _ N;refine Cu hfl (CU fun B=>?_);unfold DF at B ⊢;rw [Bool.and_eq_true,List.all_eq_true] at B ⊢;exact ⟨fun q F=>s _ _ _ (hw _) (J q F) (B.1 q F),s _ _ _ (hw _) M B.2⟩
 rename_i z;rw [if_neg z] at hb;split
 ·rename_i t
  rw [if_pos t] at hb;have e:(ls.map (AH (AE gs) n)).getD (Ae d).toNat AL=AH (AE gs) n (ls.getD (Ae d).toNat ⟨[],[]⟩):=by
   have:=ho t;simp [List.getD_eq_getElem?_getD,this]
  rw [e] at hb;generalize AH (AE gs) n (ls.getD (Ae d).toNat ⟨[],[]⟩)=I at hb ⊢;refine Cu hfl fun hh=>?_;rw [Bool.or_eq_true] at hh ⊢;rcases hh with hh | hh
  ·refine Or.inl (CU (s _ _ _ (Hk (BJ _ n) hp) fun hk=>?_) hh)
   exact Cm (Jg (Pc _ _ _) (F6 _ _ _)) ((EC hb).2 hk)
  ·exact Or.inr (CU (fun h=>Cm hp h) hh)
 rename_i t;rw [if_neg t] at hb;split
 ·exact Cu hfl (CU fun h=>Cm (hw _) h)
 rename_i P;split
 ·rename_i E
  rw [if_pos E] at hb;have u:=(EC hb).2;unfold Dv Gc toL;refine Cu (Cu (Cu (Cu (Cu hfl (CU (s _ _ _ hp fun hk=>?_))) id) id) (Hv fun i f hh=>?_)) (Hv fun i f hh=>?_)
  ·have k:=AA.1 (u hk)
   have O:=AA.1 (D3 (L:=st.vs) (L':=st.vs) (n:=n) (fun i=>BJ _ n) (Ar K (Ao d)) p' p' (BJ _ n));have C:Aw p' (AY n st.vs p' (Ar K (Ao d))) n=true:=by
    generalize Ar K (Ao d)=V;have:∀ (V:List Int) (q:Lev),Aw q (AY n st.vs q V) n=true:=by
     intro V
     induction V with
     | nil=>intro q;exact BJ _ _
     | cons v V ih=>intro q;exact Cm (F6 _ _ _) (ih _)
    exact this V p'
   exact AA.2 fun i f=>⟨(k i f).1,fun hw=>(k i f).2 ((AA.1 C i f).2 hw)⟩
  ·have c:i < n:=List.mem_range.1 f
   rw [Bool.and_eq_true] at hh ⊢;refine ⟨(AA.1 (g (Ao d)) i c).2 hh.1,CU (fun hx=>?_) hh.2⟩
   cases hk:(vs.map Prod.fst).getD (Ax d).toNat false with
   | true=>rw [hkn _ hk];exact hx
   | false=>exact (AA.1 (u hk) i c).2 ((AA.1 (y (Ao d)) i c).2 hh.1)
  ·have c:i < n:=List.mem_range.1 f
   rw [Bool.and_eq_true,Bool.or_eq_true] at hh ⊢;refine ⟨?_,hh.2⟩;rcases hh.1 with hx | hx
   ·exact Or.inl ((AA.1 (g (Ao d)) i c).2 hx)
   ·exact Or.inr ((AA.1 hp i c).2 hx)
 rename_i E;rw [if_neg E] at hb;split
 ·rename_i k
  rw [if_pos k] at hb;have u:=(EC hb).2;unfold Ef Gc toL;refine Cu (Cu (Cu (Cu hfl (CU (s _ _ _ hp fun hk=>?_))) id) id) (Hv fun i f hh=>?_)
  ·have k:=AA.1 (u hk)
   have C:Aw p' (AY n st.vs p' (Ar K (Ao d))) n=true:=by
    generalize Ar K (Ao d)=V;have:∀ (V:List Int) (q:Lev),Aw q (AY n st.vs q V) n=true:=by
     intro V
     induction V with
     | nil=>intro q;exact BJ _ _
     | cons v V ih=>intro q;exact Cm (F6 _ _ _) (ih _)
    exact this V p'
   exact AA.2 fun i f=>⟨fun G=>(AA.1 C i f).1 ((k i f).1 G),(k i f).2⟩
  ·have c:i < n:=List.mem_range.1 f
   rw [Bool.and_eq_true] at hh ⊢
   cases hk:(vs.map Prod.fst).getD (Ax d).toNat false with
   | true=>
    refine ⟨by rw [<-hkn _ hk];exact hh.1,CU (fun hx=>?_) hh.2⟩;exact (AA.1 (g (Ao d)) i c).1 hx
   | false=>
    exfalso;have H:=(AA.1 (y (Ao d)) i c).1 ((AA.1 (u hk) i c).1 hh.1);have:=hh.2;rw [H] at this;cases this
 ·exact hfl
end
section
variable {K vn yn on kf:Nat} {fs:List FnD} {m:Int} {sn:Nat} {gs:List (Int × Int)} {sp:List Int} {ls ms:List Lab} {vs:List (Bool × Lab)} {l:List D}
theorem LQ (h:Ey.xP K kf m vn yn on sn gs sp ls ms vs fs l) (hyn:yn=ls.length) (ch:Int) (Z:NS) (hZ:Z=A6 ch K kf fs l vn yn) (n:Nat) (st st':ISt) (hi:Br n K kf gs vs ls fs l st) (hi':Br n K kf gs vs ls (Bc Z.nd kf fs) (AJ Z.nd kf l (Ap kf fs)) st') (hv:st.vs.length=vs.length) (hf:st.fs.length=fs.length) :
  (BB n K kf gs sp st'.vs st'.fs vs ls ms (Bc Z.nd kf fs) (AJ Z.nd kf l (Ap kf fs))).length<=(BB n K kf gs sp st.vs st.fs vs ls ms fs l).length:=by
 have c:=(Gw h ch).2.2;rw [<-hZ] at c;have I:ClF Z.nd Z.vs Z.cs ch K kf fs:=Pp (Mo h).1 c;have g:LeI n st' st:=Hb hi' hv (by rw [BI];exact hf) (Dr hi) (Pg I c _ _ st (EX hi));have B:∀ i,(vs.map Prod.fst).getD i false=true->st'.vs.getD i AL=st.vs.getD i AL:=fun i hk=>by
  obtain ⟨G,F⟩:=Lu hk;rw [Dr hi i G F,Dr hi' i G F]
 have f:=EX hi';unfold Fu at f;unfold BB;have u:=IC (n:=n) st.vs st'.vs (Cn n K (AE gs) sp st.vs vs ls ms fs) (Cn n K (AE gs) sp st'.vs vs ls ms (Bc Z.nd kf fs)) (B6 n K (fun _=>st'.vs) (vs.map Prod.fst) (ls.map (AH (AE gs) n)) (Bc Z.nd kf fs) (B8 n st')) (fun p q=>Aw q p n=true) (fun s t b=>b=true->t.length<=s.length) (fun d=>Af d=3->(Ae d).toNat < ls.length) st.fs st'.fs
  (fun p q e A=>D3 g.1 _ _ _ A)
  (fun a H d M p q s t b hl C z A k=>by
   rw [Kl _ _ _ _ _ _ _ _ a H hl];rw [IL _ _ _ fs _ a H hl] at k;exact Kk g.1 B A C (z (IE n K st' _ _ _ a d q b k)) k)
  (fun a d p s t b z k=>Nat.le_trans (z k) (Nr _ _ _ _ _ _ _ _ _ _ _ _ _))
  I l (fun x E=>⟨c x E,fun C=>by
   obtain ⟨L,J,y⟩:=Fr h x E;have:=y.1.2.2.2.1 C;omega⟩) g.2 (BJ _ n) [] [] true (fun _=>Nat.le_refl _)
 exact u f
end
end Go.Proofs.YtfffpjkcfnekaaaGreat.Ex
