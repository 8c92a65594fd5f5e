/- What is needed: all variables of an expression. -/
import Derived.Test.YtfffpjkcfnekaaaGreatI26
import Derived.Test.YtfffpjkcfnekaaaGreatI25
set_option linter.unusedVariables false
set_option maxHeartbeats 8000000
set_option maxRecDepth 100000
namespace Go.Proofs.YtfffpjkcfnekaaaGreat.Ex
open Go.RowKit Go.Shelf
open Go.Value renaming slice -> O, int -> zd, bool -> zg, agg -> zh, pointer -> zj, tuple -> zm
open Go.IntKind renaming i64 -> U
open Go.Obj renaming cells -> ze
open Go.Ending renaming returned -> zk
attribute [local go_sem] Oper.semAt_some
section
variable {w0:World} {pc:List Value} {ch:Int} {cv fv:Value} {bn bv bi bs:Nat} {st:NS} {W W':World}
theorem NI.blocks (h:NI w0 pc ch cv fv bn bv bi bs st W) (hb:∀ b,b=bn\/b=bv\/b=bi\/b=bs->W'.heap[b]? = W.heap[b]?) (ho:Ov w0 W') (hs:W.heap.size<=W'.heap.size):NI w0 pc ch cv fv bn bv bi bs st W':=
 ⟨ho,Bl (k:=0) h.row (hb _ (Or.inl rfl)),h.len,Bl (k:=0) h.vs (hb _ (Or.inr (Or.inl rfl))),Bl (k:=0) h.cs (hb _ (Or.inr (Or.inr (Or.inl rfl)))),Bl (k:=0) h.nd (hb _ (Or.inr (Or.inr (Or.inr rfl)))),fun b hh=>⟨(h.fz b hh).1,Nat.lt_of_lt_of_le (h.fz b hh).2.1 hs,fun j=>(World.frozen?_of_block (a:=⟨b,j,none⟩) (hb b hh)).trans ((h.fz b hh).2.2 j)⟩,h.ne⟩
theorem Im (st:NS) (v:Int):(st.needV v).vs.length=st.vs.length:=by
 unfold NS.needV;split
 ·rfl
 ·simp
theorem Fb:∀ (l:List Int) (st:NS),(l.foldl NS.needV st).vs.length=st.vs.length
 | [],st=>rfl
 | v::l,st=>(Fb l (st.needV v)).trans (Im st v)
structure VI (w0:World) (pc:List Value) (ch:Int) (cv fv:Value) (bn bv bi bs:Nat) (st:NS) (V:World) (nv:Nat) (pre:List (Eu nv)) (W:World):Prop where
 ni:NI w0 pc ch cv fv bn bv bi bs ((pre.map Subtype.val).foldl NS.needV st) W
 fr:FrW (XN bn bv bi bs) V W
 bx:W.cell? ⟨V.heap.size,0,none⟩=some (zj (some ⟨bn,0,none⟩))
theorem VI.from (nv:Nat) (V:World) (hbV:∀ b,b=bn\/b=bv\/b=bi\/b=bs->b < V.heap.size) (hw:w0.heap.size<=V.heap.size) (B:Nat) (hB:V.heap.size < B):OwnFrom B (VI w0 pc ch cv fv bn bv bi bs st V nv):=by
 intro s A i row h c g;have hk:∀ k,k < B->k < A.heap.size->i.heap[k]? = A.heap[k]?:=fun k hk hl=>c.block k hl (fun e=>by have:=(g k e.symm).1;omega);refine ⟨h.ni.blocks (fun b f=>hk b (by have:=hbV b f;omega) (h.ni.fz b f).2.1) ?_ c.size,?_,?_⟩
 ·exact h.ni.below.trans ⟨c.os,c.tape,c.output,c.size,fun k hl=>hk k (by omega) (Nat.lt_of_lt_of_le hl h.ni.below.size)⟩
 ·exact ⟨c.os.trans h.fr.os,c.tape.trans h.fr.tape,c.output.trans h.fr.output,Nat.le_trans h.fr.size c.size,fun k hl d=>(hk k (by omega) (Nat.lt_of_lt_of_le hl h.fr.size)).trans (h.fr.block k hl d),fun k _ d=>d⟩
 ·exact (World.cell?_of_block (a:=⟨V.heap.size,0,none⟩) (hk _ hB (bL h.bx))).trans h.bx
end
theorem Fv (w0:World) (pc:List Value) (ch:Int) (cv fv:Value) (bn bv bi bs:Nat) (st:NS) (W:World) (h:NI w0 pc ch cv fv bn bv bi bs st W) (K:Nat) (ek en:Int) (xa xl xc d) (hx:RX w0 K [zd U ek,zd U en,O xa xl xc] d) (hv:∀ v∈Ar K d,0<=v/\v < (st.vs.length:Int)) (hl:st.vs.length<=1000) :
  Calls Tryz.prog 234 #[zj (some ⟨bn,0,none⟩),zh #[zd U ek,zd U en,O xa xl xc]] W fun e W'=>e=zk (zm #[])/\NI w0 pc ch cv fv bn bv bi bs (st.needX K d) W'/\FrW (XN bn bv bi bs) W W':=by
 obtain ⟨ys,B⟩:=Mj st.vs.length (Ar K d) hv;have p:Ov W (((W.alloc (ze #[zj (some ⟨bn,0,none⟩)] 157)).alloc (ze #[zd U ek,zd U en,O xa xl xc] 94)).alloc (ze #[zd U ek,zd U en,O xa xl xc] 94)):=((bA W _).alloc (by simp) _).alloc (by simp <;> omega) _
 obtain ⟨V,z⟩:=nm (((W.alloc (ze #[zj (some ⟨bn,0,none⟩)] 157)).alloc (ze #[zd U ek,zd U en,O xa xl xc] 94)).alloc (ze #[zd U ek,zd U en,O xa xl xc] 94));have t:V.heap.size=W.heap.size+3:=by rw [z];simp
 have k0:V.cell? ⟨W.heap.size+1+1,0,none⟩=some (zd U ek):=by rw [z];simp [go_sem]
 have k1:V.cell? ⟨W.heap.size+1+1,1,none⟩=some (zd U en):=by rw [z];simp [go_sem]
 have k2:V.cell? ⟨W.heap.size+1+1,2,none⟩=some (O xa xl xc):=by rw [z];simp [go_sem]
 have kb:V.cell? ⟨W.heap.size,0,none⟩=some (zj (some ⟨bn,0,none⟩)):=by rw [z];simp [go_sem]
 rw [<-z] at p;have J:Ov w0 V:=h.below.trans (p.mono h.below.size);have C:∀ b,b=bn\/b=bv\/b=bi\/b=bs->b < W.heap.size:=fun b hh=>(h.fz b hh).2.1;have P:=Aa (E5 Fence.wide rfl 2 trivial trivial rfl st.vs.length (W.heap.size+1+1) K w0 ek en xa xl xc d ys V (by rw [t];omega) J k0 k1 k2 hx B);have X:Hx (VI w0 pc ch cv fv bn bv bi bs st W st.vs.length [] V):=⟨h.over p,FrW.of_below (Ed _ _ _ _) p,kb⟩;have H:=Aa (VI.from (w0:=w0) (pc:=pc) (ch:=ch) (cv:=cv) (fv:=fv) (st:=st) st.vs.length W C h.below.size V.heap.size (by rw [t];omega));have N:=Aa B;have R:=Aa C;have ai:=Aa h.below.size;have ag:=Aa t;have HV:=Aa z;have hn:st.vs.length<=1000:=hl;clear p J k0 k1 k2 kb hx hv B h C t;refine (callsIn_wide (n:=3)).1 ?_;refine callsIn_of_wp_marks Tryz.func234 rfl trivial ?_ rfl;simp only [Tryz.ntmps234,List.size_toArray,List.length_cons,List.length_nil,Nat.reduceAdd,Nat.reduceSub,Array.replicate_succ,Array.replicate_zero,List.push_toArray,List.append_toArray,List.nil_append,List.cons_append]
 gi_wp2_with (refine ⟨trivial,?_⟩;gi_at_call 164;refine (IW Fence.wide _ trivial rfl _ _ _ _ _ _).mono ?_;rintro e w' ⟨rfl,rfl⟩)
 rw [<-HV.o];clear z HV;refine wpIn_rangeFunc_ownF (F:=Fence.wide) rfl (by omega) (gf:=210) (lb:=#[zj (some ⟨W.heap.size+1+1,0,none⟩)]) rfl trivial (enters_of Tryz.func210 (by kernel_rfl) rfl)
  P.o belowK_t (belowK_b (by have:=ai.o;have:=ag.o;omega)) (Below.refl _ _) (fun _=>rfl)
  (fun k g=>VI w0 pc ch cv fv bn bv bi bs st W st.vs.length k g)
  (fun _ _ _=>False) H.o (fun _ _ _ _ _ hs _ _=>hs) X.o
  (fun x=>{ tmps:=#[zj (some ⟨bn,0,none⟩),zh #[zd U ek,zd U en,O xa xl xc],zj (some ⟨W.heap.size,0,none⟩),zj (some ⟨W.heap.size+1,0,none⟩),zd U x.1,zh #[zd U ek,zd U en,O xa xl xc],.func (.func 210) #[] #[zj (some ⟨W.heap.size+1+1,0,none⟩)],zd U x.1,undef,undef,undef,undef,undef,undef,undef],defers:=[] }) ?assign ?body ?done ?stop
 case assign=>
  intro l x W K E
  gi_wp2
  exact E
 case body=>
  clear P X H N;rintro lo k x g u _;obtain ⟨x,ac,ab⟩:=x;obtain ⟨j,rfl⟩:∃ j:Nat,x=(j:Int):=⟨x.toNat,by omega⟩;obtain ⟨q,f⟩:=nm ((k.map Subtype.val).foldl NS.needV st);have y:q.vs.length=st.vs.length:=by rw [f];exact Fb _ _
  have s:=u.ni;rw [<-f] at s;have hj:j < q.vs.length:=by omega
  have T:Hx (∀ b,b=bn\/b=bv\/b=bi\/b=bs->b < W.heap.size):=R.o;have K1:=Aa (PY (s.over (bD g)) j hj (by omega));have c11:=s.cells.2.2.2.1;have cb:=u.bx;have Y:Hx (∀ wj,NI w0 pc ch cv fv bn bv bi bs (q.needV (j:Int)) wj->FrW (XN bn bv bi bs) g.drew wj->KeepsOthers g.drew wj->Below w0.heap.size g.drew wj->KeepsOthers g wj/\Below w0.heap.size g wj/\VI w0 pc ch cv fv bn bv bi bs st W st.vs.length (k++[⟨(j:Int),ac,ab⟩]) wj):=fun wj G A h3 Z=>by
   refine ⟨(Em (bD g)).trans h3,((bD g).mono (u.ni.below.size)).trans Z,⟨?_,(u.fr.trans (FrW.of_below (Ed _ _ _ _) (bD g))).trans A,?_⟩⟩
   ·rw [List.map_append,List.foldl_append,<-f]
    exact G
   ·exact A.cell u.bx (fun hx=>by have:=T.o _ hx;omega)
  rw [y] at c11 K1;have ah:Hx (∀ wj,NI w0 pc ch cv fv bn bv bi bs (q.needV (j:Int)) wj->FrW (XN bn bv bi bs) g.drew wj->CE wj W.heap.size 0 (zj (some ⟨bn,0,none⟩))/\CE wj bn 11 (O (some ⟨bv,0,none⟩) st.vs.length st.vs.length)):=fun wj G A=>⟨A.cell u.bx (fun hx=>by have:=T.o _ hx;omega),by have:=G.cells.2.2.2.1;rw [Im,y] at this;exact this⟩;clear f s u hj;have ae:Tryz.prog.follows .mixedOrders=true:=by kernel_rfl
  have ax:1<=3 - 1 - 1:=by omega
  obtain ⟨nv,av⟩:=nm st.vs.length
  gi_wp2
  refine Df (S:=fun M=>CE M W.heap.size 0 (zj (some ⟨bn,0,none⟩))/\CE M bn 11 (O (some ⟨bv,0,none⟩) st.vs.length st.vs.length)) ae ?_ ?_
  ·intro i o ho c hc
   match i with
   | 0 | 1 | 2 | 3 | 4 | 5 | 6=>simp at ho;subst ho;cases hc
   | i+7=>simp at ho
  have az:(fun M=>CE M W.heap.size 0 (zj (some ⟨bn,0,none⟩))/\CE M bn 11 (O (some ⟨bv,0,none⟩) st.vs.length st.vs.length)) g.drew:=⟨cb,c11⟩;refine kT 0 ?_;refine kT 1 ?_;refine kT 2 ?_;refine kT 3 ?_;refine kT 4 ?_;refine kT 5 ?_;refine rdA 6 rfl fun K E=>?_;go_simp;refine K1.o.mono ?_;rintro e wj ⟨rfl,G,A,h3,Z⟩;have Q:=ah.o wj G A;have I:=Aa (Y.o wj G A h3 Z);clear G A h3 Z;go_simp;refine xK E Q fun af=>?_;clear E K;refine gE ?_;exact I.o
 case done=>
  rintro D zs g hD rfl u E
  gi_wp2
  have L:=H.o.putObj (.deferred none) u hD E rfl;refine ⟨by simp,.inl ⟨_,_,rfl,run_takeDeferred E,?_⟩⟩;refine ⟨zm #[],by simp [results,Tryz.f234,go_sem],rfl,?_,L.fr⟩;have:=L.ni;rw [N.o] at this;exact this
 case stop=>
  rintro D c k W _ _ h _;exact h.elim
end Go.Proofs.YtfffpjkcfnekaaaGreat.Ex
namespace Go.Proofs.YtfffpjkcfnekaaaGreat.Ex
open Go.RowKit
open Go.Value renaming slice -> O, int -> zd, bool -> zg, agg -> zh, pointer -> zj, tuple -> zm
open Go.IntKind renaming i64 -> U
open Go.Obj renaming cells -> ze
open Go.Ending renaming returned -> zk
theorem Ip (st:NS) (v:Int):(st.needC v).cs.length=st.cs.length/\(st.needC v).vs.length=st.vs.length/\(st.needC v).nd.length=st.nd.length:=by
 unfold NS.needC;split
 ·exact ⟨rfl,rfl,rfl⟩
 ·exact ⟨by simp,rfl,rfl⟩
theorem Lm (st:NS) (v:Int):(st.needV v).cs.length=st.cs.length/\(st.needV v).nd.length=st.nd.length:=by
 unfold NS.needV;split
 ·exact ⟨rfl,rfl⟩
 ·exact ⟨rfl,rfl⟩
theorem Ei:∀ (l:List Int) (st:NS),(l.foldl NS.needV st).cs.length=st.cs.length/\(l.foldl NS.needV st).nd.length=st.nd.length
 | [],st=>⟨rfl,rfl⟩
 | v::l,st=>by
  have h1:=Ei l (st.needV v);have h2:=Lm st v;exact ⟨h1.1.trans h2.1,h1.2.trans h2.2⟩
theorem DI (K:Nat) (st:NS) (d:D):(st.needX K d).vs.length=st.vs.length/\(st.needX K d).cs.length=st.cs.length/\(st.needX K d).nd.length=st.nd.length:=⟨Fb _ _,(Ei _ _).1,(Ei _ _).2⟩
theorem OM {w0:World} {pc:List Value} {ch:Int} {cv fv:Value} {bn bv bi bs:Nat} {st:NS} {W:World} (h:NI w0 pc ch cv fv bn bv bi bs st W) (hlv:st.vs.length<=1000) (K:Nat) (e ek en:Int) (xa xl xc aa al ac ta tl tc ea el ec) (x:D) (hx:RX w0 K [zd U ek,zd U en,O xa xl xc] x) (hxv:∀ v∈Ar K x,0<=v/\v < (st.vs.length:Int)) (kd va ot:Int) (h2:kd≠2) (h3:kd≠3) :
  Calls Tryz.prog 198 #[zj (some ⟨bn,0,none⟩),zh #[zd U kd,zd U va,zd U ot,zd U ek,zd U en,O xa xl xc,O aa al ac,O ta tl tc,O ea el ec,zd U e]] W fun r W'=>r=zk (zm #[])/\NI w0 pc ch cv fv bn bv bi bs (st.needX K x) W'/\FrW (XN bn bv bi bs) W W':=by
 have q:Ov W (W.alloc (ze #[zd U kd,zd U va,zd U ot,zd U ek,zd U en,O xa xl xc,O aa al ac,O ta tl tc,O ea el ec,zd U e] 249)):=bA W _;obtain ⟨V,s⟩:=nm (W.alloc (ze #[zd U kd,zd U va,zd U ot,zd U ek,zd U en,O xa xl xc,O aa al ac,O ta tl tc,O ea el ec,zd U e] 249));have c:Ad [zd U kd,zd U va,zd U ot,zd U ek,zd U en,O xa xl xc,O aa al ac,O ta tl tc,O ea el ec,zd U e] V W.heap.size:=by rw [s];exact AP W [zd U kd,zd U va,zd U ot,zd U ek,zd U en,O xa xl xc,O aa al ac,O ta tl tc,O ea el ec,zd U e] 249
 rw [<-s] at q;have g:∀ b,b=bn\/b=bv\/b=bi\/b=bs->b < W.heap.size:=fun b t=>(h.fz b t).2.1;have G:=Aa g;have z:=h.over q;have y:Hx (FrW (XN bn bv bi bs) W V):=FrW.of_below (Ed _ _ _ _) q;have k:∀ X,¬ XN bn bv bi bs X W.heap.size:=fun X t=>by have:=g _ t;omega
 have B:=Aa (Fv w0 pc ch cv fv bn bv bi bs st V z K ek en xa xl xc x hx hxv hlv);have p:=Aa c;have u:=Aa k;have F:=c 3 _ rfl;have E:=c 4 _ rfl;have C:=c 5 _ rfl;clear hx hxv q c h g k z;go_enter Tryz.func198,Tryz.ntmps198;go_wp2_with fail;rw [<-s];clear s;refine B.o.mono ?_;rintro r A ⟨rfl,l,i⟩;have d:=i.row p.o (u.o V);have J:=d 0 _ rfl;have I:=d 1 _ rfl;have H:=d 2 _ rfl;clear F E C B;have f:Hx (NI w0 pc ch cv fv bn bv bi bs (st.needX K x) A/\FrW (XN bn bv bi bs) W A):=⟨l,y.o.trans i⟩;clear l i d;go_wp2_with fail;go_end0;exact ⟨rfl,f.o.1,f.o.2⟩
theorem OO {w0:World} {pc:List Value} {ch:Int} {cv fv:Value} {bn bv bi bs:Nat} {st:NS} {W:World} (h:NI w0 pc ch cv fv bn bv bi bs st W) (hlv:st.vs.length<=1000) (K:Nat) (e ek en:Int) (xa xl xc aa al ac ta tl tc ea el ec) (x:D) (hx:RX w0 K [zd U ek,zd U en,O xa xl xc] x) (hxv:∀ v∈Ar K x,0<=v/\v < (st.vs.length:Int)) (va:Int) (jo:Nat) (hc:jo < st.cs.length) (hlc:st.cs.length<=1000) :
  Calls Tryz.prog 198 #[zj (some ⟨bn,0,none⟩),zh #[zd U 3,zd U va,zd U (jo:Int),zd U ek,zd U en,O xa xl xc,O aa al ac,O ta tl tc,O ea el ec,zd U e]] W fun r W'=>r=zk (zm #[])/\NI w0 pc ch cv fv bn bv bi bs ((st.needX K x).needC (jo:Int)) W'/\FrW (XN bn bv bi bs) W W':=by
 have E:Ov W (W.alloc (ze #[zd U 3,zd U va,zd U (jo:Int),zd U ek,zd U en,O xa xl xc,O aa al ac,O ta tl tc,O ea el ec,zd U e] 249)):=bA W _;obtain ⟨V,F⟩:=nm (W.alloc (ze #[zd U 3,zd U va,zd U (jo:Int),zd U ek,zd U en,O xa xl xc,O aa al ac,O ta tl tc,O ea el ec,zd U e] 249));have c:Ad [zd U 3,zd U va,zd U (jo:Int),zd U ek,zd U en,O xa xl xc,O aa al ac,O ta tl tc,O ea el ec,zd U e] V W.heap.size:=by rw [F];exact AP W [zd U 3,zd U va,zd U (jo:Int),zd U ek,zd U en,O xa xl xc,O aa al ac,O ta tl tc,O ea el ec,zd U e] 249
 rw [<-F] at E;have k:∀ b,b=bn\/b=bv\/b=bi\/b=bs->b < W.heap.size:=fun b G=>(h.fz b G).2.1;have J:=Aa k;have M:=h.over E;have A:Hx (FrW (XN bn bv bi bs) W V):=FrW.of_below (Ed _ _ _ _) E;have t:∀ X,¬ XN bn bv bi bs X W.heap.size:=fun X G=>by have:=k _ G;omega
 have Q:=Aa (Fv w0 pc ch cv fv bn bv bi bs st V M K ek en xa xl xc x hx hxv hlv);have g:=Aa c;have z:=Aa t;have Z:=c 3 _ rfl;have Y:=c 4 _ rfl;have T:=c 5 _ rfl;clear hx hxv E c h k t M;go_enter Tryz.func198,Tryz.ntmps198;go_wp2_with fail;rw [<-F];clear F;refine Q.o.mono ?_;rintro r I ⟨rfl,l,q⟩;have f:=q.row g.o (z.o V);have q0:=f 0 _ rfl;have q1:=f 1 _ rfl;have L:=f 2 _ rfl;clear Z Y T Q;have d:=DI K st x;have R:=Aa (P0 (l.over (bD I)) jo (by rw [d.2.1];exact hc) (by rw [d.2.1];exact hlc));have s:=l.cells.2.2.2.2.1;obtain ⟨C,i⟩:=nm st.cs.length;rw [d.2.1,<-i] at s R;have B:Hx (∀ Wj,NI w0 pc ch cv fv bn bv bi bs ((st.needX K x).needC (jo:Int)) Wj->FrW (XN bn bv bi bs) I.drew Wj->(CE Wj W.heap.size 2 (zd U (jo:Int))/\CE Wj bn 12 (O (some ⟨bi,0,none⟩) C C))/\FrW (XN bn bv bi bs) W Wj):=fun Wj y u=>by
  refine ⟨⟨u.cell L (z.o _),?_⟩,(A.o.trans q).trans ((FrW.of_below (Ed _ _ _ _) (bD I)).trans u)⟩;have:=y.cells.2.2.2.2.1;rw [(Ip _ _).1,d.2.1,<-i] at this;exact this
 clear l q f d hc hlc i hlv J A g;go_wp2_with fail;refine gS (fun P=>CE P W.heap.size 2 (zd U (jo:Int))/\CE P bn 12 (O (some ⟨bi,0,none⟩) C C)) ⟨L,s⟩ fun p=>?_;refine kT 0 ?_;refine kT 1 ?_;refine kT 2 ?_;refine kT 3 ?_;refine kT 4 ?_;refine kT 5 ?_;refine kT 6 ?_;refine kT 7 ?_;refine rdA 8 rfl fun K N=>?_;go_simp;refine R.o.mono ?_;rintro r W2 ⟨rfl,y,u⟩;have H:=B.o W2 y u;have S:=Aa (And.intro y H.2);have hS:=H.1;clear y u H;go_simp;refine xK N hS fun p=>?_;clear N K;refine gE ?_;go_wp2_with fail;go_end0;exact ⟨rfl,S.o.1,S.o.2⟩
theorem Na (K:Nat) (st:NS) (q:Int × D):(needA K st q).vs.length=st.vs.length/\(needA K st q).cs.length=st.cs.length/\(needA K st q).nd.length=st.nd.length:=by
 unfold needA;split
 ·exact DI K st q.2
 ·exact ⟨rfl,rfl,rfl⟩
theorem Fc (K:Nat):∀ (l:List (Int × D)) (st:NS),(l.foldl (needA K) st).vs.length=st.vs.length/\(l.foldl (needA K) st).cs.length=st.cs.length/\(l.foldl (needA K) st).nd.length=st.nd.length
 | [],st=>⟨rfl,rfl,rfl⟩
 | q::l,st=>by
  have h1:=Fc K l (needA K st q);have h2:=Na K st q;exact ⟨h1.1.trans h2.1,h1.2.1.trans h2.2.1,h1.2.2.trans h2.2.2⟩
theorem NC {ps:List Int} {ags:List D} {m:Nat} (h1:m < ps.length) (h2:m < ags.length):(ps.zip ags).take (m+1)=(ps.zip ags).take m++[(ps[m],ags[m])]:=by
 rw [List.take_succ_eq_append_getElem (by rw [List.length_zip];omega),List.getElem_zip]
theorem OP {w0:World} {pc:List Value} {ch:Int} {cv fv:Value} {bn bv bi bs:Nat} {st:NS} {W:World} (h:NI w0 pc ch cv fv bn bv bi bs st W) (hlv:st.vs.length<=1000) (K:Nat) (e ek en:Int) (xa xl xc al ac ta tl tc ea el ec) (x:D) (hx:RX w0 K [zd U ek,zd U en,O xa xl xc] x) (hxv:∀ v∈Ar K x,0<=v/\v < (st.vs.length:Int)) (jv jo:Nat) (hv:jv < st.vs.length) (kf:Nat) (fs:List FnD) (fa:Option Addr) (fn fc:Nat) (hpf:pc[6]? = some (O fa fn fc)) (hF:Bi w0 K kf (O fa fn fc) fs) (f:FnD) (hf:fs[jo]? = some f) (hf5:fs.length<=1000) (ags:List D) (aa:Option Addr) (hA:XS 3 (RX w0 K) w0 (O aa al ac) ags) (hpl:f.ps.length=ags.length) (hp1:ags.length<=1000) (hpv:∀ p∈f.ps,0<=p/\p < (st.vs.length:Int)) (hav:∀ a∈ags,∀ v∈Ar K a,0<=v/\v < (st.vs.length:Int)) (hrv:∀ v∈Ar K f.res,0<=v/\v < (st.vs.length:Int)) :
  Calls Tryz.prog 198 #[zj (some ⟨bn,0,none⟩),zh #[zd U 2,zd U (jv:Int),zd U (jo:Int),zd U ek,zd U en,O xa xl xc,O aa al ac,O ta tl tc,O ea el ec,zd U e]] W fun r W'=>r=zk (zm #[])/\NI w0 pc ch cv fv bn bv bi bs (bif ((f.ps.zip ags).foldl (needA K) (st.needX K x)).vs.getD jv false then ((f.ps.zip ags).foldl (needA K) (st.needX K x)).needX K f.res else (f.ps.zip ags).foldl (needA K) (st.needX K x)) W'/\FrW (XN bn bv bi bs) W W':=by
 have hb:Ov W (W.alloc (ze #[zd U 2,zd U (jv:Int),zd U (jo:Int),zd U ek,zd U en,O xa xl xc,O aa al ac,O ta tl tc,O ea el ec,zd U e] 249)):=bA W _;obtain ⟨V,hV⟩:=nm (W.alloc (ze #[zd U 2,zd U (jv:Int),zd U (jo:Int),zd U ek,zd U en,O xa xl xc,O aa al ac,O ta tl tc,O ea el ec,zd U e] 249));have l:Ad [zd U 2,zd U (jv:Int),zd U (jo:Int),zd U ek,zd U en,O xa xl xc,O aa al ac,O ta tl tc,O ea el ec,zd U e] V W.heap.size:=by rw [hV];exact AP W [zd U 2,zd U (jv:Int),zd U (jo:Int),zd U ek,zd U en,O xa xl xc,O aa al ac,O ta tl tc,O ea el ec,zd U e] 249
 rw [<-hV] at hb;have R:∀ b,b=bn\/b=bv\/b=bi\/b=bs->b < W.heap.size:=fun b hh=>(h.fz b hh).2.1;have dk:=Aa R;have hN:=h.over hb;have cg:Hx (FrW (XN bn bv bi bs) W V):=FrW.of_below (Ed _ _ _ _) hb;have bj:∀ X,¬ XN bn bv bi bs X W.heap.size:=fun X hh=>by have:=R _ hh;omega
 have KX:=Aa (Fv w0 pc ch cv fv bn bv bi bs st V hN K ek en xa xl xc x hx hxv hlv);have ca:=Aa l;have b9:=Aa bj;have k3:=l 3 _ rfl;have k4:=l 4 _ rfl;have k5:=l 5 _ rfl;have n6:=hN.prog 6 _ hpf;have HF:=Aa hF;have HA:=Aa hA;have cb:=Aa hpv;have dr:=Aa hav;have dc:=Aa hrv;have ay:=Aa hpl;have dg:=Aa hpf;have cc:=Aa hp1;have ce:=Aa hv;obtain ⟨ho,an⟩:=List.getElem?_eq_some_iff.1 hf;have HO:=Aa ho;have dm:Hx (∀ h:jo < fs.length,fs[jo]'h=f):=fun _=>an;clear hx hxv hb l h R bj hN hF hA hpv hav hrv hpl hpf hp1 n6 hf an ho;go_enter Tryz.func198,Tryz.ntmps198;go_wp2_with fail;rw [<-hV];clear hV;refine KX.o.mono ?_;rintro r H ⟨rfl,aj,ak⟩;have P:=ak.row ca.o (b9.o V);have q0:=P 0 _ rfl;have q1:=P 1 _ rfl;have q2:=P 2 _ rfl;clear k3 k4 k5 KX;obtain ⟨cu,eq,eo,cx,z⟩:=id HF.o;injection cx with f1 f2 f3;obtain ⟨fb,fo,ct,z⟩:=z (by intro h;have:=HO.o;rw [h] at this;simp at this);have hq:=z jo HO.o;rw [dm.o HO.o] at hq;obtain ⟨vP,vB,z0,z1,z2,p0,p1,p2,p3,p4,c3,aq,b5,av⟩:=hq;obtain ⟨-,pa,M,rfl,-⟩:=id aq;obtain ⟨-,za,zc,rfl,-⟩:=id b5;obtain ⟨ra,rc,t⟩:=av.form;injection t with e0 t;injection t with e1 t;injection t with e2 t;subst e0 e1 e2;obtain ⟨p0,p1,p2,p3,p4⟩:=co5 aj.below p0 p1 p2 p3 p4;replace p0:H.cell? ⟨fb,fo+jo*5,none⟩=_:=p0;have n6:CE H bn 6 (O fa fn fc):=aj.prog 6 _ dg.o;subst f1 f2 ct;obtain ⟨d4,dt,bt,Z⟩:=c3;injection bt with g1 g2 g3;have Z:=Aa Z;subst g1;have B:=Aa av;obtain ⟨J,Q⟩:=nm f.ps.length;have Y:=Aa Q;obtain ⟨zn,bf⟩:=nm f.body.length;obtain ⟨rk,bm⟩:=nm (AD f.res);obtain ⟨rn,bk⟩:=nm (A5 f.res);obtain ⟨rl,bl⟩:=nm (AC f.res).length;rw [<-Q] at p0;rw [<-bf] at p1;rw [<-bm] at p2 B;rw [<-bk] at p3 B;rw [<-bl] at p4 B;obtain ⟨fl,b2⟩:=nm fs.length;have d9:(jo:Int) < (fl:Int):=by have:=HO.o;omega
 have dy:fl<=1000:=by omega
 rw [<-b2] at n6;have dj:=Aa aj;have dq:=Aa ak;have df:=Aa P;have db:Hx (W.heap.size<=H.heap.size):=Nat.le_trans cg.o.size ak.size;clear aj ak P z aq b5 av t Q bf bm bk bl b2 cu g2 g3 f3 hf5;go_wp2_with fail;refine gS (fun Wz=>Below H.heap.size H Wz) (Below.refl _ _).drew fun c=>?_;refine kO 0 ?_;refine kO 1 ?_;refine kO 2 ?_;refine kO 3 ?_;refine kO 4 ?_;refine kO 5 ?_;refine kO 6 ?_;refine kO 7 ?_;refine kO 8 ?_;refine kO 9 ?_;refine rdA 10 rfl fun K hK=>?_;go_simp;refine xK hK ((bA _ _).drew) fun c=>?_;clear hK K;refine rdA 11 rfl fun K hK=>?_;go_simp;refine xK hK ((bA _ _).drew) fun c=>?_;clear hK K;refine gE ?_;have S:Ov H ((H.alloc (ze #[O pa J M,O za zn zc,zd U rk,zd U rn,O ra rl rc] 105)).drew):=(bA _ _).drew;have y:Ad [O pa J M,O za zn zc,zd U rk,zd U rn,O ra rl rc] ((H.alloc (ze #[O pa J M,O za zn zc,zd U rk,zd U rn,O ra rl rc] 105)).drew) H.heap.size:=AP H [O pa J M,O za zn zc,zd U rk,zd U rn,O ra rl rc] 105;obtain ⟨V5,b3⟩:=nm ((H.alloc (ze #[O pa J M,O za zn zc,zd U rk,zd U rn,O ra rl rc] 105)).drew);rw [<-b3] at S y ⊢;have di:=Aa (dj.o.over S);have dn:Hx (FrW (XN bn bv bi bs) W V5):=(cg.o.trans dq.o).trans (FrW.of_below (Ed _ _ _ _) S);have de:Hx (Ad [zd U 2,zd U (jv:Int),zd U (jo:Int),zd U ek,zd U en,O xa xl xc,O aa al ac,O ta tl tc,O ea el ec,zd U e] V5 W.heap.size):=df.o.over S;have dd:=Aa y;have dl:Hx (∀ X,¬ XN bn bv bi bs X H.heap.size):=fun X hh=>by have h1:=dk.o _ hh;have h2:=db.o;omega
 have f0:=y 0 _ rfl;have dw:J<=1000:=by rw [Y.o,ay.o];exact cc.o
 clear b3 S y;go_wp2_with fail;go_loopw [41] (fun i wr=>∃ m:Nat,m<=J/\i=zd U m/\NI w0 pc ch cv fv bn bv bi bs (((f.ps.zip ags).take m).foldl (needA K) (st.needX K x)) wr/\FrW (XN bn bv bi bs) V5 wr) (fun i _=>J - (intOf i).toNat)
 case atStart=>exact ⟨0,Nat.zero_le _,rfl,di.o,FrW.refl _⟩
 case round=>
  clear f0;obtain ⟨m,hm,rfl,g,q⟩:=hrel;have N:=q.row de.o (b9.o _);have F:=q.row dd.o (dl.o _);have d:=(Fc K ((f.ps.zip ags).take m) (st.needX K x)).1.trans (DI K st x).1;by_cases R:m < J
  ·have u:m < f.ps.length:=by rw [<-Y.o];exact R
   have af:m < ags.length:=by rw [<-ay.o];exact u
   obtain ⟨bp,zp,cr,au⟩:=Z.o (by intro h;rw [h] at u;simp at u);have q0:=Ab g.below _ _ (au m u);obtain ⟨L,ae⟩:∃ j:Nat,f.ps[m]=(j:Int):=⟨f.ps[m].toNat,by have:=(cb.o _ (List.getElem_mem u)).1;omega⟩;have br:L < st.vs.length:=by have:=(cb.o _ (List.getElem_mem u)).2;omega
   rw [ae] at q0;have E:=g.cells.2.2.2.1;have ai:=CC g.vs (i:=L) (by rw [d];exact br);have T:Hx (((f.ps.zip ags).take (m+1)).foldl (needA K) (st.needX K x)=needA K (((f.ps.zip ags).take m).foldl (needA K) (st.needX K x)) ((L:Int),ags[m])):=by
    show _=_;rw [NC u af,List.foldl_append,ae];rfl
   obtain ⟨I,s⟩:=nm (((f.ps.zip ags).take m).foldl (needA K) (st.needX K x));rw [<-s] at g d E ai T;rw [d] at E;have bo:(L:Int) < (st.vs.length:Int):=by omega
   have ed:(m:Int) < (J:Int):=by omega
   subst cr;obtain ⟨bb,k⟩:=nm (I.vs.getD L false);rw [<-k] at ai;have q6:=N 6 _ rfl;obtain ⟨nv,G⟩:=nm st.vs.length;rw [<-G] at E bo
   cases bb with
   | false=>
    have C:Hx (NI w0 pc ch cv fv bn bv bi bs (((f.ps.zip ags).take (m+1)).foldl (needA K) (st.needX K x)) wr/\FrW (XN bn bv bi bs) V5 wr):=by
     refine ⟨?_,q⟩;rw [T.o];unfold needA;rw [if_neg (by show ¬ I.vs.getD (L:Int).toNat false=true;rw [show (L:Int).toNat=L from rfl,<-k];decide)];exact g
    clear g q N F d s k G T ae au;go_wp2_with fail;exact ⟨⟨m+1,by omega,by go_num,C.o.1,C.o.2⟩,by simp [intOf];omega⟩
   | true=>
    obtain ⟨-,ey,ew,c2,A⟩:=id HA.o;injection c2 with a1 a2 a3;obtain ⟨ab,ao,cz,A⟩:=A (by rintro rfl;simp at af);obtain ⟨cs,cy,ah,ag⟩:=A m ags[m] (List.getElem?_eq_getElem af);obtain ⟨y1,y2,hy⟩:=ag.form;have e0:=Ab g.below _ _ (ah 0 _ (by rw [hy];rfl));have e1:=Ab g.below _ _ (ah 1 _ (by rw [hy];rfl));have e2:=Ab g.below _ _ (ah 2 _ (by rw [hy];rfl));replace e0:wr.cell? ⟨ab,ao+m*3,none⟩=_:=e0;rw [hy] at ag;have KX:=Aa (Fv w0 pc ch cv fv bn bv bi bs I wr g K _ _ _ _ _ ags[m] ag (fun v hv=>by rw [d];exact dr.o _ (List.getElem_mem af) v hv) (by rw [d];exact hlv));have C:Hx (∀ W6,NI w0 pc ch cv fv bn bv bi bs (I.needX K ags[m]) W6->FrW (XN bn bv bi bs) wr W6->NI w0 pc ch cv fv bn bv bi bs (((f.ps.zip ags).take (m+1)).foldl (needA K) (st.needX K x)) W6/\FrW (XN bn bv bi bs) V5 W6):=fun W6 h1 h2=>by
     refine ⟨?_,q.trans h2⟩;rw [T.o];unfold needA;rw [if_pos (by show I.vs.getD (L:Int).toNat false=true;rw [show (L:Int).toNat=L from rfl,<-k])];exact h1
    obtain ⟨k1,bz⟩:=nm (AD ags[m]);obtain ⟨k2,bw⟩:=nm (A5 ags[m]);obtain ⟨k3,bu⟩:=nm (AC ags[m]).length;rw [<-bz] at e0 KX;rw [<-bw] at e1 KX;rw [<-bu] at e2 KX;subst cz;rw [a1] at q6;have ee:(m:Int) < (al:Int):=by rw [a2];omega
    have dz:al<=1000:=by rw [a2];exact cc.o
    clear g q N F d s k G T ae au A ah cy ag hy bz bw bu a1 a2 a3;go_wp2_with fail;refine KX.o.mono ?_;rintro r W6 ⟨rfl,h1,h2⟩;have ad:=Aa (C.o W6 h1 h2);clear h1 h2;go_wp2_with fail;exact ⟨⟨m+1,by omega,by go_num,ad.o.1,ad.o.2⟩,by simp [intOf];omega⟩
  ·have eb:m=J:=by omega
   have bh:(f.ps.zip ags).take m=f.ps.zip ags:=List.take_of_length_le (by rw [List.length_zip,<-ay.o,<-Y.o];omega);rw [bh] at g d;obtain ⟨I,s⟩:=nm ((f.ps.zip ags).foldl (needA K) (st.needX K x));rw [<-s] at g d;have E:=g.cells.2.2.2.1;have ai:=CC g.vs (i:=jv) (by rw [d];exact ce.o);rw [d] at E;have q1:=N 1 _ rfl;have g2:=F 2 _ rfl;have g3:=F 3 _ rfl;have g4:=F 4 _ rfl;have cf:Hx (FrW (XN bn bv bi bs) W wr):=dn.o.trans q;have KX:=Aa fun (Wz:World) (hz:Ov wr Wz)=>Fv w0 pc ch cv fv bn bv bi bs I Wz (g.over hz) K _ _ _ _ _ f.res B.o (fun v hv=>by rw [d];exact dc.o v hv) (by rw [d];exact hlv);obtain ⟨bb,k⟩:=nm (I.vs.getD jv false);have dh:=Aa g;have cd:Hx (∀ Wx,NI w0 pc ch cv fv bn bv bi bs (bif bb then I.needX K f.res else I) Wx->NI w0 pc ch cv fv bn bv bi bs (bif ((f.ps.zip ags).foldl (needA K) (st.needX K x)).vs.getD jv false then ((f.ps.zip ags).foldl (needA K) (st.needX K x)).needX K f.res else (f.ps.zip ags).foldl (needA K) (st.needX K x)) Wx):=fun Wx hx=>by
    rw [<-s,<-k]
    cases bb with
    | false=>exact hx
    | true=>exact hx
   rw [<-k] at ai;have b0:(jv:Int) < (st.vs.length:Int):=by have:=ce.o;omega
   obtain ⟨nv,G⟩:=nm st.vs.length;rw [<-G] at E b0;clear g q N F d s k G bh
   cases bb with
   | false=>
    go_wp2_with fail;refine gS (fun Wz=>Below wr.heap.size wr Wz) (Below.refl _ _).drew fun c=>?_;generalize wr.drew=W at c ⊢;refine kO 0 ?_;refine kO 1 ?_;refine kO 2 ?_;refine kO 3 ?_;refine kO 4 ?_;refine kO 5 ?_;refine kO 6 ?_;refine kO 7 ?_;refine kO 8 ?_;refine gE ?_;go_wp2_with fail;go_end0;exact ⟨rfl,cd.o _ (dh.o.over c),cf.o.trans (FrW.of_below (Ed _ _ _ _) c)⟩
   | true=>
    go_wp2_with fail;refine gS (fun Wz=>Below wr.heap.size wr Wz) (Below.refl _ _).drew fun c=>?_;generalize wr.drew=W at c ⊢;refine kO 0 ?_;refine kO 1 ?_;refine kO 2 ?_;refine kO 3 ?_;refine kO 4 ?_;refine kO 5 ?_;refine kO 6 ?_;refine kO 7 ?_;refine kO 8 ?_;refine gE ?_;have ei:=Ab c _ _ g2;have eh:=Ab c _ _ g3;have ef:=Ab c _ _ g4;go_wp2_with fail;refine (KX.o _ c).mono ?_;rintro r W6 ⟨rfl,h1,h2⟩;have ad:Hx (NI w0 pc ch cv fv bn bv bi bs (I.needX K f.res) W6/\FrW (XN bn bv bi bs) _ W6):=⟨h1,h2⟩;go_wp2_with fail;go_end0;exact ⟨rfl,cd.o _ ad.o.1,(cf.o.trans (FrW.of_below (Ed _ _ _ _) c)).trans ad.o.2⟩
structure NP (w0:World) (K kf:Nat) (pc:List Value) (fs:List FnD) (C:List (Nat × D × Nat)) (vn yn n:Nat):Prop where
 fns:∃ fa fn fc,pc[6]? = some (O fa fn fc)/\Bi w0 K kf (O fa fn fc) fs
 few:fs.length<=1000/\vn<=1000/\yn<=1000/\n<=1000/\C.length<=1000
 ps:∀ f∈fs,f.ps.length<=6/\(∀ p∈f.ps,0<=p/\p < (vn:Int))/\∀ v∈Ar K f.res,0<=v/\v < (vn:Int)
 ok:∀ x∈C,(∃ funcs:Int,∃ no:Nat,funcs<=fs.length/\Cs K vn yn no funcs fs x.2.1)/\x.1+1<=x.2.2/\x.2.2<=n/\x.1 < n
 cnt:Ap kf fs<=n
def FO (kf:Nat) (fs:List FnD) (fv:Value) (W:World):Prop:=∃ bf cf,fv=O (some ⟨bf,0,none⟩) (fs.length+1) cf/\∀ i,i<=fs.length->W.cell? ⟨bf,i,none⟩=some (zd U ((Ap kf (fs.take i):Nat):Int))
section
variable {w0:World} {pc:List Value} {ch:Int} {cv fv:Value} {bn bv bi bs:Nat} {st:NS} {W:World} {K kf:Nat} {fs:List FnD} {C:List (Nat × D × Nat)} {vn yn n:Nat}
theorem MB {fs:List FnD} {jo:Nat} (h:jo < fs.length):Bv fs (jo:Int)=fs[jo]:=by unfold Bv;rw [show (jo:Int).toNat=jo from rfl,List.getD_eq_getElem?_getD,List.getElem?_eq_getElem h];rfl
theorem O2 (h:NI w0 pc ch cv fv bn bv bi bs st W) (hP:NP w0 K kf pc fs C vn yn n) (hL:Ln vn yn n st) (hf:FO kf fs fv W) {k a e:Nat} {d:D} (hx:(a,d,e)∈C) {cs:List Value} (hr:RS w0 K (k+1) cs d) :
  Calls Tryz.prog 196 #[zj (some ⟨bn,0,none⟩),zd U (a:Int),.agg (cs++[Value.int U (e:Int)]).toArray] W fun r W'=>r=zk (zg (Cf ch kf fs st (a,d,e)))/\Ov W W':=by
 obtain ⟨⟨funcs,no,Z,h1,S,R,Q,h5,h6,h7⟩,L,J,-⟩:=hP.ok _ hx;dsimp only at h1 S R Q h5 h6 h7 L J;obtain ⟨u,t,l,g,i,E,B,s,q,z,y,rfl,-,-,-,-,-,-,-,-,-,-⟩:=hr.form;have f1:=hP.few;have H:st.vs.length<=1000:=by rw [hL.vs];omega
 have G:st.cs.length<=1000:=by rw [hL.cs];omega
 have F:st.nd.length<=1000:=by rw [hL.nd];omega
 show Calls Tryz.prog 196 #[zj (some ⟨bn,0,none⟩),zd U (a:Int),zh #[zd U (Af d),zd U (Ax d),zd U (Ae d),zd U u,zd U t,O l g i,O E (Al d).length B,O s (Ag d).length q,O z (Ak d).length y,zd U (e:Int)]] W _;have M:(Af d=1\/Af d=2\/Af d=3\/Af d=5\/Af d=6)->∃ jv:Nat,Ax d=(jv:Int)/\jv < st.vs.length:=fun hk=>by
  have:=S hk;exact ⟨(Ax d).toNat,by omega,by rw [hL.vs];omega⟩
 rcases (by omega:Af d=1\/Af d=2\/Af d=3\/Af d=4\/Af d=5\/Af d=6\/Af d=7\/Af d=8) with hk | hk | hk | hk | hk | hk | hk | hk
 ·obtain ⟨jv,c,A⟩:=M (by omega)
  have b:Cf ch kf fs st (a,d,e)=st.vs.getD jv false:=by unfold Cf;simp [hk,c]
  rw [b,hk,c];exact SM h H G F a e u t l g i E _ B s _ q z _ y _ jv A
 ·obtain ⟨jv,c,A⟩:=M (by omega)
  obtain ⟨⟨o1,o2⟩,o3,-⟩:=R hk;obtain ⟨f,N⟩:∃ f:Nat,Ae d=(f:Int):=⟨(Ae d).toNat,by omega⟩;have I:f < fs.length:=by omega
  obtain ⟨fa,fn,fc,Y,X⟩:=hP.fns;obtain ⟨bf,cf,V,T⟩:=hf;have b:Cf ch kf fs st (a,d,e)=(st.vs.getD jv false || (Bv fs (f:Int)).ps.any (fun p=>st.vs.getD p.toNat false) || De st.nd (Ap kf (fs.take f)) (Ap kf (fs.take (f+1)))):=by unfold Cf;simp [hk,c,N]
  rw [b,hk,c,N];have P:=hP.ps fs[f] (List.getElem_mem I);exact SL h H G F a e u t l g i E _ B s _ q z _ y jv f A K kf fs fa fn fc Y X I f1.1 (by rw [MB I,hL.vs];exact ⟨P.1,P.2.1⟩) bf cf V T (by rw [hL.nd];exact hP.cnt)
 ·obtain ⟨jv,c,A⟩:=M (by omega)
  have ho:=Q hk;obtain ⟨f,N⟩:∃ f:Nat,Ae d=(f:Int):=⟨(Ae d).toNat,by omega⟩;have b:Cf ch kf fs st (a,d,e)=(st.vs.getD jv false || st.cs.getD f false):=by unfold Cf;simp [hk,c,N]
  rw [b,hk,c,N];exact SK h H G F a e u t l g i E _ B s _ q z _ y jv f A (by rw [hL.cs];omega)
 ·have b:Cf ch kf fs st (a,d,e)=decide (Ae d=ch):=by unfold Cf;simp [hk]
  rw [b,hk];exact SJ h H G F a e u t l g i E _ B s _ q z _ y _ _
 ·obtain ⟨jv,c,A⟩:=M (by omega)
  have b:Cf ch kf fs st (a,d,e)=st.vs.getD jv false:=by unfold Cf;simp [hk,c]
  rw [b,hk,c];exact SI h H G F a e u t l g i E _ B s _ q z _ y _ jv A
 ·obtain ⟨jv,c,A⟩:=M (by omega)
  have b:Cf ch kf fs st (a,d,e)=st.vs.getD jv false:=by unfold Cf;simp [hk,c]
  rw [b,hk,c];exact SH h H G F a e u t l g i E _ B s _ q z _ y _ jv A
 ·have b:Cf ch kf fs st (a,d,e)=De st.nd (a+1) e:=by unfold Cf;simp [hk]
  rw [b,hk];exact SG h H G F a e u t l g i E _ B s _ q z _ y _ _ L (by rw [hL.nd];exact J)
 ·have b:Cf ch kf fs st (a,d,e)=De st.nd (a+1) e:=by unfold Cf;simp [hk]
  rw [b,hk];exact SF h H G F a e u t l g i E _ B s _ q z _ y _ _ L (by rw [hL.nd];exact J)
theorem JT (h:NI w0 pc ch cv fv bn bv bi bs st W) (hP:NP w0 K kf pc fs C vn yn n) (hL:Ln vn yn n st) {k a e:Nat} {d:D} (hx:(a,d,e)∈C) {cs:List Value} (hr:RS w0 K (k+1) cs d) :
  Calls Tryz.prog 198 #[zj (some ⟨bn,0,none⟩),.agg (cs++[Value.int U (e:Int)]).toArray] W fun r W'=>r=zk (zm #[])/\NI w0 pc ch cv fv bn bv bi bs (needFor K fs st d) W'/\FrW (XN bn bv bi bs) W W':=by
 obtain ⟨⟨funcs,no,ad,p⟩,N,M,-⟩:=hP.ok _ hx;have l:=BF p;obtain ⟨h1,T,S,R,h5,h6,h7⟩:=p;dsimp only at h1 T S R h5 h6 h7 N M l;obtain ⟨B,A,u,s,t,H,G,z,y,F,E,rfl,-,-,-,P,hA,-,-,-,-,-⟩:=hr.form;have f1:=hP.few;have I:st.vs.length<=1000:=by rw [hL.vs];omega
 have g:∀ v∈Ar K (Ao d),0<=v/\v < (st.vs.length:Int):=by rw [hL.vs];exact l
 show Calls Tryz.prog 198 #[zj (some ⟨bn,0,none⟩),zh #[zd U (Af d),zd U (Ax d),zd U (Ae d),zd U B,zd U A,O u s t,O H (Al d).length G,O z (Ag d).length y,O F (Ak d).length E,zd U (e:Int)]] W _;by_cases hk3:Af d=3
 ·have ho:=R hk3
  obtain ⟨b,i⟩:∃ b:Nat,Ae d=(b:Int):=⟨(Ae d).toNat,by omega⟩;have q:needFor K fs st d=(st.needX K (Ao d)).needC (b:Int):=by unfold needFor;rw [if_pos hk3,i]
  rw [q,hk3,i];exact OO h I K e B A u s t H _ G z _ y F _ E (Ao d) P g _ b (by rw [hL.cs];omega) (by rw [hL.cs];omega)
 by_cases hk2:Af d=2
 ·obtain ⟨⟨o1,o2⟩,o3,Z⟩:=S hk2
  obtain ⟨b,i⟩:∃ b:Nat,Ae d=(b:Int):=⟨(Ae d).toNat,by omega⟩;have c:b < fs.length:=by omega
  have Q:=T (by omega);obtain ⟨f,V⟩:∃ f:Nat,Ax d=(f:Int):=⟨(Ax d).toNat,by omega⟩;obtain ⟨fa,fn,fc,Y,X⟩:=hP.fns;have L:=hP.ps fs[b] (List.getElem_mem c);have J:=o3 fs[b] (by rw [i];exact List.getElem?_eq_getElem c);have q:needFor K fs st d=bif ((fs[b].ps.zip (Al d)).foldl (needA K) (st.needX K (Ao d))).vs.getD f false then ((fs[b].ps.zip (Al d)).foldl (needA K) (st.needX K (Ao d))).needX K fs[b].res else (fs[b].ps.zip (Al d)).foldl (needA K) (st.needX K (Ao d)):=by
   unfold needFor;rw [if_neg hk3,if_pos hk2,i,V,MB c,show (f:Int).toNat=f from rfl];cases ((fs[b].ps.zip (Al d)).foldl (needA K) (st.needX K (Ao d))).vs.getD f false <;> rfl
  rw [q,hk2,V,i];refine OP h I K e B A u s t _ G z _ y F _ E (Ao d) P g f b (by rw [hL.vs];omega) kf fs fa fn fc Y X fs[b] (List.getElem?_eq_getElem c) f1.1 (Al d) H hA J (by have:=L.1;omega) (by rw [hL.vs];exact L.2.1) (fun x hx v Q=>by rw [hL.vs];exact BK (Z x hx) v Q) (by rw [hL.vs];exact L.2.2)
 ·have q:needFor K fs st d=st.needX K (Ao d):=by unfold needFor;rw [if_neg hk3,if_neg hk2]
  rw [q];exact OM h I K e B A u s t H _ G z _ y F _ E (Ao d) P g _ _ _ hk2 hk3
end
def HY (w0:World) (K kf:Nat) (X:Nat->Prop) (cv:Value) (C:List (Nat × D × Nat)) (W:World):Prop:=
 ∃ a c,cv=O a C.length c/\(C≠[]->∃ b,a=some ⟨b,0,none⟩/\¬ X b/\∀ i x,C[i]? = some x->∃ cs:List Value,cs.length=9/\RS w0 K kf cs x.2.1/\∀ j u,(cs++[Value.int U (x.2.2:Int)])[j]? = some u->W.cell? ⟨b,i*10+j,none⟩=some u)
section
variable {w0:World} {pc:List Value} {ch:Int} {cv fv:Value} {bn bv bi bs:Nat} {st:NS} {W W':World} {K kf:Nat} {fs:List FnD} {C:List (Nat × D × Nat)} {vn yn n:Nat}
theorem HY.fr (h:HY w0 K kf (XN bn bv bi bs W) cv C W) (hf:FrW (XN bn bv bi bs) W W'):HY w0 K kf (XN bn bv bi bs W') cv C W':=by
 obtain ⟨a,c,z,y⟩:=h;refine ⟨a,c,z,fun d=>?_⟩;obtain ⟨b,t,f,s⟩:=y d;refine ⟨b,t,f,fun i x p=>?_⟩;obtain ⟨cs,l,k,g⟩:=s i x p;exact ⟨cs,l,k,fun j u q=>hf.cell (g j u q) f⟩
theorem FO.fr (h:FO kf fs fv W) (hf:FrW (XN bn bv bi bs) W W') (hx:∀ b n c,fv=O (some ⟨b,0,none⟩) n c->¬ XN bn bv bi bs W b):FO kf fs fv W':=by
 obtain ⟨l,k,d,g⟩:=h;exact ⟨l,k,d,fun i f=>hf.cell (g i f) (hx _ _ _ d)⟩
theorem FO.over (h:FO kf fs fv W) (hb:Ov W W'):FO kf fs fv W':=by
 obtain ⟨g,f,d,c⟩:=h;exact ⟨g,f,d,fun i b=>Ab hb _ _ (c i b)⟩
theorem Io (st:NS) (a:Nat):(st.needN a).vs.length=st.vs.length/\(st.needN a).cs.length=st.cs.length/\(st.needN a).nd.length=st.nd.length:=by
 unfold NS.needN;split
 ·exact ⟨rfl,rfl,rfl⟩
 ·exact ⟨rfl,rfl,by simp⟩
theorem JS (K:Nat) (fs:List FnD) (st:NS) (d:D):(needFor K fs st d).vs.length=st.vs.length/\(needFor K fs st d).cs.length=st.cs.length/\(needFor K fs st d).nd.length=st.nd.length:=by
 have b:=DI K st (Ao d);unfold needFor;split
 ·have c:=Ip (st.needX K (Ao d)) (Ae d)
  exact ⟨c.2.1.trans b.1,c.1.trans b.2.1,c.2.2.trans b.2.2⟩
 ·split
  ·have c:=Fc K ((Bv fs (Ae d)).ps.zip (Al d)) (st.needX K (Ao d))
   split
   ·have f:=DI K (((Bv fs (Ae d)).ps.zip (Al d)).foldl (needA K) (st.needX K (Ao d))) (Bv fs (Ae d)).res
    exact ⟨f.1.trans (c.1.trans b.1),f.2.1.trans (c.2.1.trans b.2.1),f.2.2.trans (c.2.2.trans b.2.2)⟩
   ·exact ⟨c.1.trans b.1,c.2.1.trans b.2.1,c.2.2.trans b.2.2⟩
  ·exact b
theorem Ln.look1 {x:Nat × D × Nat} (h:Ln vn yn n st):Ln vn yn n (look1 ch K kf fs st x):=by
 unfold Ex.look1;split
 ·have c:=JS K fs (st.needN x.1) x.2.1
  have b:=Io st x.1;exact ⟨c.1.trans (b.1.trans h.vs),c.2.1.trans (b.2.1.trans h.cs),c.2.2.trans (b.2.2.trans h.nd)⟩
 ·exact h
theorem Ln.looks:∀ (l:List (Nat × D × Nat)) {st:NS},Ln vn yn n st->Ln vn yn n (l.foldl (Ex.look1 ch K kf fs) st)
 | [],_,h=>h
 | x::l,_,h=>Ln.looks l h.look1
end
theorem RE {w0:World} {pc:List Value} {ch:Int} {cv fv:Value} {bn bv bi bs:Nat} {st:NS} {W:World} {K kf:Nat} {fs:List FnD} {C:List (Nat × D × Nat)} {vn yn n:Nat} (h:NI w0 pc ch cv fv bn bv bi bs st W) (hP:NP w0 K kf pc fs C vn yn n) (hL:Ln vn yn n st) (hf:FO kf fs fv W) (hfx:∀ b n c,fv=O (some ⟨b,0,none⟩) n c->¬ XN bn bv bi bs W b) (hC:HY w0 K kf (XN bn bv bi bs W) cv C W) (hnum:∀ (i:Nat) (x:Nat × D × Nat),C[i]? = some x->x.1=i) :
  Calls Tryz.prog 138 #[zj (some ⟨bn,0,none⟩)] W fun r W'=>r=zk (zm #[])/\NI w0 pc ch cv fv bn bv bi bs (C.foldl (look1 ch K kf fs) st) W'/\FrW (XN bn bv bi bs) W W':=by
 have HC:=Aa hC;obtain ⟨ca,cc,rfl,-⟩:=hC;have n9:=h.cells.2.1;have HN:=Aa h;have HP:=Aa hP;have HL:=Aa hL;have HF:=Aa hf;have ay:=Aa hfx;have ax:=Aa hnum;have dc:C.length<=1000:=hP.few.2.2.2.2;clear h hP hL hf hfx hnum;go_enter Tryz.func138,Tryz.ntmps138;go_wp2_with fail;go_loopw [9] (fun i wr=>∃ m:Nat,m<=C.length/\i=zd U m/\NI w0 pc ch (O ca C.length cc) fv bn bv bi bs ((C.take m).foldl (look1 ch K kf fs) st) wr/\FrW (XN bn bv bi bs) W wr) (fun i _=>C.length - (intOf i).toNat)
 case atStart=>exact ⟨0,Nat.zero_le _,rfl,HN.o,FrW.refl _⟩
 case round=>
  clear n9;obtain ⟨m,hm,rfl,s,z⟩:=hrel;by_cases hlt:m < C.length
  ·obtain ⟨a',c',he,H⟩:=HC.o.fr z
   injection he with bw bu bt;obtain ⟨b,hb,dd,H⟩:=H (by rintro rfl;simp at hlt);obtain ⟨⟨a,d,e⟩,hx⟩:=nm (C[m]);have M:C[m]? = some (a,d,e):=by rw [List.getElem?_eq_getElem hlt,hx]
   obtain rfl:a=m:=ax.o m _ M;have F:(a,d,e)∈C:=by rw [hx];exact List.getElem_mem hlt
   obtain ⟨cs,br,y,l⟩:=H a _ M;dsimp only at y l;obtain ⟨k,rfl⟩:∃ k,kf=k+1:=by
    cases kf with
    | zero=>exact y.elim
    | succ k=>exact ⟨k,rfl⟩
   have Q:(C.take (a+1)).foldl (look1 ch K (k+1) fs) st=look1 ch K (k+1) fs ((C.take a).foldl (look1 ch K (k+1) fs) st) (a,d,e):=by
    rw [List.take_succ_eq_append_getElem hlt,List.foldl_append,<-hx];rfl
   have t:=Ln.looks (ch:=ch) (K:=K) (kf:=k+1) (fs:=fs) (C.take a) HL.o;obtain ⟨L,ae⟩:=nm ((C.take a).foldl (look1 ch K (k+1) fs) st);rw [<-ae] at s Q t;have I:L.nd.length<=1000:=by rw [t.nd];exact HP.o.few.2.2.2.1
   have J:a < L.nd.length:=by rw [t.nd];exact (HP.o.ok _ F).2.2.2
   have aj:=HF.o.fr z ay.o;have B:=Aa fun (Wz:World) (Y:Ov wr Wz)=>O2 (s.over Y) HP.o t (aj.over Y) F y;have an:Ln vn yn n (L.needN a):=by
    have A:=Io L a;exact ⟨A.1.trans t.vs,A.2.1.trans t.cs,A.2.2.trans t.nd⟩
   have E:=Aa fun (Wz:World) (Y:NI w0 pc ch (O ca C.length cc) fv bn bv bi bs (L.needN a) Wz)=>JT Y HP.o an F y;have KN:=Aa fun (Wz:World) (Y:Ov wr Wz)=>PZ (s.over Y) a J I;obtain ⟨ek,en,xa,xl,xc,aa,ac,ta,tc,ea,ec,rfl,-,-,-,-,-,-,-,-,-,-⟩:=y.form;have c0:=l 0 _ rfl;have c1:=l 1 _ rfl;have c2:=l 2 _ rfl;have c3:=l 3 _ rfl;have c4:=l 4 _ rfl;have c5:=l 5 _ rfl;have c6:=l 6 _ rfl;have c7:=l 7 _ rfl;have c8:=l 8 _ rfl;have c9:=l 9 _ rfl;replace c0:wr.cell? ⟨b,a*10,none⟩=_:=c0;simp only [List.cons_append,List.nil_append] at B E;obtain ⟨kd,ai⟩:=nm (Af d);obtain ⟨va,ab⟩:=nm (Ax d);obtain ⟨ot,ag⟩:=nm (Ae d);obtain ⟨al,am⟩:=nm ((Al d).length);obtain ⟨tl,ad⟩:=nm ((Ag d).length);obtain ⟨el,ak⟩:=nm ((Ak d).length);rw [<-ai] at c0 B E;rw [<-ab] at c1 B E;rw [<-ag] at c2 B E;rw [<-am] at c6 B E;rw [<-ad] at c7 B E;rw [<-ak] at c8 B E;obtain ⟨q,hq⟩:=nm (Cf ch (k+1) fs L (a,d,e));rw [<-hq] at B;have P:Ov wr (wr.alloc (ze #[zd U kd,zd U va,zd U ot,zd U ek,zd U en,O xa xl xc,O aa al ac,O ta tl tc,O ea el ec,zd U (e:Int)] 249)):=bA _ _;obtain ⟨V,hV⟩:=nm (wr.alloc (ze #[zd U kd,zd U va,zd U ot,zd U ek,zd U en,O xa xl xc,O aa al ac,O ta tl tc,O ea el ec,zd U (e:Int)] 249));have f:Ad [zd U kd,zd U va,zd U ot,zd U ek,zd U en,O xa xl xc,O aa al ac,O ta tl tc,O ea el ec,zd U (e:Int)] V wr.heap.size:=by rw [hV];exact AP wr [zd U kd,zd U va,zd U ot,zd U ek,zd U en,O xa xl xc,O aa al ac,O ta tl tc,O ea el ec,zd U (e:Int)] 249
   rw [<-hV] at P;have av:=Aa f;have T:=Aa P;have az:=Aa z;have ce:=Aa s;have cb:Hx (∀ X,¬ XN bn bv bi bs X wr.heap.size):=fun X hh=>by have:=(s.fz _ hh).2.1;omega
   have cz:(a:Int) < (C.length:Int):=by omega
   have d0:=f 0 _ rfl;have d1:=f 1 _ rfl;have d2:=f 2 _ rfl;have d3:=f 3 _ rfl;have d4:=f 4 _ rfl;have d5:=f 5 _ rfl;have d6:=f 6 _ rfl;have d7:=f 7 _ rfl;have d8:=f 8 _ rfl;have d9:=f 9 _ rfl;subst bw;subst hb;have au:=Aa Q;have HQ:=Aa hq;have ah:L.nd.length=n:=t.nd;have u:=s.cells.2.2.2.2.2.1;have cy:n<=1000:=by omega
   rw [ah] at u KN;clear s z f H l y br ai ab ag am ad ak hq Q t aj an ae hx M F P J I bu bt HC HF ay HP HN HL ah;go_wp2_with fail;rw [<-hV];clear hV c0 c1 c2 c3 c4 c5 c6 c7 c8 c9;refine (B.o _ T.o).mono ?_;rintro r W1 ⟨rfl,N⟩;have G:Ov wr W1:=T.o.trans (N.mono T.o.size);have af:=av.o.over N;have Z:=Ab G _ _ u;have R:=Aa (KN.o W1 G);have cd:=Aa af;have S:=Aa G;clear N af G d0 d1 d2 d3 d4 d5 d6 d7 d8 d9 B KN
   cases q with
   | false=>
    have g:Hx (NI w0 pc ch (O (some ⟨b,0,none⟩) C.length cc) fv bn bv bi bs ((C.take (a+1)).foldl (look1 ch K (k+1) fs) st) W1/\FrW (XN bn bv bi bs) W W1):=by
     refine ⟨?_,az.o.trans (FrW.of_below (Ed _ _ _ _) S.o)⟩;rw [au.o];unfold look1;rw [if_neg (by rw [<-HQ.o];decide)];exact ce.o.over S.o
    clear R E Z u;go_wp2_with fail;exact ⟨⟨a+1,by omega,by go_num,g.o.1,g.o.2⟩,by simp [intOf];omega⟩
   | true=>
    go_wp2_with fail;refine R.o.mono ?_;rintro r W2 ⟨rfl,h1,A⟩;have p:=A.row cd.o (cb.o _);have ar:=Aa (E.o W2 h1);have d0:=p 0 _ rfl;have d1:=p 1 _ rfl;have d2:=p 2 _ rfl;have d3:=p 3 _ rfl;have d4:=p 4 _ rfl;have d5:=p 5 _ rfl;have d6:=p 6 _ rfl;have d7:=p 7 _ rfl;have d8:=p 8 _ rfl;have d9:=p 9 _ rfl;have cf:=Aa A;clear h1 A p E R Z u;go_wp2_with fail;refine ar.o.mono ?_;rintro r W3 ⟨rfl,h1,A⟩;have g:Hx (NI w0 pc ch (O (some ⟨b,0,none⟩) C.length cc) fv bn bv bi bs ((C.take (a+1)).foldl (look1 ch K (k+1) fs) st) W3/\FrW (XN bn bv bi bs) W W3):=by
     refine ⟨?_,((az.o.trans (FrW.of_below (Ed _ _ _ _) S.o)).trans cf.o).trans A⟩;rw [au.o];unfold look1;rw [if_pos HQ.o.symm];exact h1
    clear h1 A ar d0 d1 d2 d3 d4 d5 d6 d7 d8 d9;go_wp2_with fail;exact ⟨⟨a+1,by omega,by go_num,g.o.1,g.o.2⟩,by simp [intOf];omega⟩
  ·have bp:m=C.length:=by omega
   rw [bp,List.take_length] at s;have g:=Aa (And.intro s z);clear s z HC;go_wp2_with fail;go_end0;exact ⟨rfl,g.o.1,g.o.2⟩
theorem Tryz.info4N:(Tryz.prog.info? 4).map (fun i=>(i.zero,i.size,i.bytes))=some (some (zg false),1,1):=by kernel_rfl
def Dz (n:Nat):Array Value:=(List.replicate n (Value.bool false)).toArray
theorem OS (n:Nat) (hn:n<=1000) (w:World):(Instr.makeSlice 48 (zd U n) (zd U n)).run Tryz.prog w=.ok (O (some ⟨w.heap.size,0,none⟩) n n) (w.alloc (.cells (Dz n) 4)):=by
 obtain ⟨i,f,d,c,b⟩:=info_parts Tryz.info4N;have:=run_make (P:=Tryz.prog) w 48 4 i (zg false) Tryz.underlying48 f d U U (n:Int) (n:Int) (by omega) (by omega) (by rw [b];omega) (by omega);rw [this,c];simp only [Int.toNat_natCast,Nat.mul_one];have e:madeCells (Value.bool false).cells n=Dz n:=by
  unfold Dz;apply Array.ext
  ·simp [madeCells]
  ·intro j c b
   simp [madeCells,Value.cells,Nat.mod_one]
 rw [e]
theorem LO (n:Nat) (w:World):Ad ((List.replicate n false).map Value.bool) (w.alloc (.cells (Dz n) 4)) w.heap.size:=by
 have:=AP w (List.replicate n (Value.bool false)) 4;rw [List.map_replicate];exact this
structure LF (w0:World) (cs:List Value) (bn:Nat) (cv:Value) (n:Nat) (xs:List Value) (fv:Value) (k:Nat) (ys rest:List Value) (W:World):Prop where
 li:LI w0 cs bn cv n xs (fv::rest) W
 own:W.ownsRow w0.heap.size 3 1 fv k ys
 ap:fv.ownBlock≠some bn
 ne:∀ g,fv.ownBlock=some g->cv.ownBlock≠some g
section
variable {w0:World} {cs:List Value} {bn:Nat} {fa:Option Addr} {fc:Nat} {cv cv' fv fv':Value} {n m k k':Nat} {xs xs' ys ys' rest:List Value} {W W':World}
theorem LF.c10 (h:LF w0 cs bn cv n xs fv k ys rest W):W.cell? ⟨bn,10,none⟩=some fv:=h.li.row 10 _ (by rw [List.getElem?_append_right (by rw [h.li.len];omega),h.li.len];rfl)
theorem LF.over (h:LF w0 cs bn cv n xs fv k ys rest W) (hb:Ov W W'):LF w0 cs bn cv n xs fv k ys rest W':=
 ⟨h.li.over hb,h.own.kept (row:=none) ⟨hb.os,hb.tape,hb.output,hb.size,fun k hk _=>hb.block k hk⟩ (by cases fv.ownBlock <;> simp),h.ap,h.ne⟩
theorem LF.listed (h:LF w0 cs bn cv n xs fv k ys rest W) (hl:LI w0 cs bn cv' m xs' (fv::rest) W') (hf:FrW (XL bn) W W'):LF w0 cs bn cv' m xs' fv k ys rest W':=by
 have i:∀ g,fv.ownBlock=some g->¬ XL bn W g:=fun g b=>by
  rintro (h1 | h1 | ⟨v,h1,c⟩)
  ·have:=h.li.lo.2;omega
  ·exact h.ap (by rw [b,h1])
  ·rw [h.li.c9] at h1
   injection h1 with h1;rw [<-h1] at c;exact h.ne g b c
 refine ⟨hl,?_,h.ap,fun g b l=>?_⟩
 ·refine ⟨h.own.1,?_⟩
  rcases h.own.2 with h1 | ⟨g,f,d,h1,c,q,p⟩
  ·exact Or.inl h1
  ·refine Or.inr ⟨g,f,d,h1,c,?_,p⟩
   have b:fv.ownBlock=some g:=by rw [h1];rfl
   rw [hf.block g (Dd h.own g b).2 (i g b)];exact q
 ·exact i g b (hf.mov g (Dd h.own g b).2 (Or.inr (Or.inr ⟨cv',hl.c9,l⟩)))
theorem LF.first (h:LF w0 cs bn cv n xs fv k ys rest W) (ho':W'.ownsRow w0.heap.size 3 1 fv' k' ys') (hg:W.grownBy W' fv.ownBlock) (hat:fv'.ownBlock=fv.ownBlock\/fv'.ownBlock=some W.heap.size) :
  LF w0 cs bn cv n xs fv' k' ys' rest (W'.setCell ⟨bn,10,none⟩ fv'):=by
 have b:=h.li;have p:W'.heap[bn]? = W.heap[bn]?:=hg.block bn b.lo.2 (fun e=>h.ap e.symm);have i:Ad (cs++cv::fv::rest) W' bn:=fun j u z=>(World.cell?_of_block (a:=⟨bn,j,none⟩) p).trans (b.row j u z);have t:Below w0.heap.size W W':=Da hg (fun g e=>(Dd h.own g e).1) b.below.size;have l:fv'.ownBlock≠some bn:=by
  rcases hat with e | e
  ·rw [e];exact h.ap
  ·rw [e];intro e;injection e with e;have:=b.lo.2;omega
 have q:(W'.setCell ⟨bn,10,none⟩ fv').heap.size=W'.heap.size:=by simp [World.setCell]
 have f:Ad (cs++cv::fv'::rest) (W'.setCell ⟨bn,10,none⟩ fv') bn:=by
  have:=CF (j:=10) (v:=fv') i (by simp [b.len];omega);rw [List.set_append,if_neg (by rw [b.len];omega),b.len] at this;exact this
 have s:∀ g,fv'.ownBlock=some g->cv.ownBlock≠some g:=fun g d y=>by
  rcases hat with e | e
  ·exact h.ne g (by rw [<-e];exact d) y
  ·rw [e] at d
   injection d with d;have:=(Dd b.own g y).2;omega
 refine ⟨⟨(b.below.trans t).setCell b.lo.1 _,f,fun j=>?_,?_,b.ap,⟨b.lo.1,?_⟩,b.len⟩,ho'.kept (row:=some bn) D1 (Or.inr l),l,s⟩
 ·have B:(W'.setCell ⟨bn,10,none⟩ fv').frozen? ⟨bn,j,none⟩=W'.frozen? ⟨bn,j,none⟩:=by simp [go_sem]
  rw [B,World.frozen?_of_block (a:=⟨bn,j,none⟩) p];exact b.fz j
 ·have A:=b.own.kept hg (by
   cases hcv:cv.ownBlock with
   | none=>exact Or.inl rfl
   | some c=>exact Or.inr (fun e=>h.ne c e.symm hcv))
  exact A.kept (row:=some bn) D1 (Or.inr b.ap)
 ·rw [q];exact Nat.lt_of_lt_of_le b.lo.2 hg.size
theorem MC (h:LF w0 cs bn cv n xs (O fa k fc) k ys rest W) (hk:k<=1000) (u:Int) :
  ∃ v2 w2,(Builtin.append_ #[25,25] 25 #[O fa k fc,O (some ⟨W.heap.size,0,none⟩) 1 1]).run Tryz.prog (W.alloc (ze #[zd U u] 3))=.ok v2 w2/\LF w0 cs bn cv n xs v2 (k+1) (ys++[zd U u]) rest (w2.setCell ⟨bn,10,none⟩ v2)/\w2.cell? ⟨bn,10,none⟩=some (O fa k fc)/\w2.frozen? ⟨bn,10,none⟩=false/\∀ b,b < W.heap.size->b≠bn->(Value.slice fa k fc).ownBlock≠some b->(w2.setCell ⟨bn,10,none⟩ v2).heap[b]? = W.heap[b]?/\w2.heap[b]? = W.heap[b]?:=by
 obtain ⟨F,H,s,q,p⟩:=info_parts Tryz.infoI;have g:Ov W (W.alloc (ze #[zd U u] 3)):=bA W _;have c:=h.over g;have I:=AP W [zd U u] 3;have B:w0.heap.size<=(W.alloc (ze #[zd U u] 3)).heap.size:=c.li.below.size;obtain ⟨v2,w2,i,f,d,-,A⟩:=run_append_own_at (P:=Tryz.prog) (w:=W.alloc (ze #[zd U u] 3)) w0.heap.size 25 25 3 F (zd U 0) 1 8 Tryz.underlying25 H s q p rfl (by decide) _ _ _ c.own ⟨W.heap.size,0,none⟩ 1 1 [zd U u] rfl (fun E u G=>by rw [Addr.add_lit,Nat.zero_add];exact I E u G) (by simp [Value.oneCell']) (by unfold maxLen;omega) (by omega) B;have l:=c.first f d A;refine ⟨v2,w2,i,l,d.cell c.c10 (fun t=>c.ap t.symm),(World.frozen?_of_block (a:=⟨bn,10,none⟩) (d.block bn c.li.lo.2 (fun t=>c.ap t.symm))).trans (c.li.fz 10),fun b C y z=>?_⟩;have e:w2.heap[b]? = W.heap[b]?:=(d.block b (Nat.lt_of_lt_of_le C g.size) (fun e=>z e.symm)).trans (g.block b C);exact ⟨(Bx (Ne.symm y) v2).trans e,e⟩
end
theorem DL:∀ (k:Nat) (l:List D) (a:Nat) (x) ,x∈BQ k l a->x.1+1<=x.2.2/\x.2.2<=a+Ai k l
 | k,[],a,x,h=>by cases h
 | 0,d::r,a,x,h=>by
  rw [BM] at h;have:=DL 0 r _ x h;rw [Bj];omega
 | k+1,d::r,a,x,h=>by
  rw [BM,List.mem_append,CJ,List.mem_cons,List.mem_append] at h;rw [Bj,AU];rcases h with (rfl | h | h) | h
  ·dsimp only;rw [AU];omega
  ·have:=DL k _ _ x h;omega
  ·have:=DL k _ _ x h;omega
  ·have:=DL (k+1) r _ x h;rw [AU] at this;omega
theorem OU {kf:Nat} {fs:List FnD} {l:List D} (x) (h:x∈Cz kf fs l):x.1+1<=x.2.2/\x.2.2<=Ap kf fs+Ai kf l:=by
 rcases List.mem_append.1 h with h | h
 ·obtain ⟨i,b,c⟩:=Gy h
  have d:=DL _ _ _ x c;have g:=B4 (k:=kf) b;have f:=(Ho (k:=kf) b).2;omega
 ·have d:=DL _ _ _ x h
  omega
theorem Sz {K kf:Nat} {m:Int} {ga:Option Addr} {gn gc:Nat} {sa:Option Addr} {sn sc:Nat} {ya:Option Addr} {yn yc:Nat} {oa:Option Addr} {on oc:Nat} {va:Option Addr} {vn vc:Nat} {fa:Option Addr} {fn fc:Nat} {ba:Option Addr} {bn bc:Nat} {gs:List (Int × Int)} {sp:List Int} {ls ms:List Lab} {vs:List (Bool × Lab)} {fs:List FnD} {l:List D} {w:World}
  (h:Bg K kf m ga gn gc sa sn sc ya yn yc oa on oc va vn vc fa fn fc ba bn bc gs sp ls ms vs fs l w) (hX:Ey.xP K kf m vn yn on sn gs sp ls ms vs fs l) :
  NP w K kf [zd U m,O ga gn gc,O sa sn sc,O ya yn yc,O oa on oc,O va vn vc,O fa fn fc,O ba bn bc] fs (Cz kf fs l) vn yn (Ap kf fs+Ai kf l):=by
 have hl:=hX.lim;have u:=hX.many.1;refine ⟨⟨fa,fn,fc,rfl,h.funcs⟩,⟨by omega,by omega,by omega,by omega,by rw [Fz];omega⟩,fun f q=>?_,fun x d=>?_,by omega⟩
 ·obtain ⟨i,p,rfl⟩:=List.mem_iff_getElem.1 q
  obtain ⟨g,c,b,y,s⟩:=hX.body i p;exact ⟨by omega,c,fun v k=>BK s v k⟩
 ·obtain ⟨t,g,c⟩:=Fr hX x d
  have b:=OU x d;exact ⟨⟨t,on,g,c.1⟩,b.1,b.2,by omega⟩
structure MM (w0 W X Y:World) (b n i g:Nat) (cs:List Value):Prop where
 old:Ad cs X b
 row:Ad (cs.set i (O (some ⟨g,0,none⟩) n n)) Y b
 other:∀ (ds:List Value) (k:Nat),k≠b->Ad ds W k->Ad ds Y k
 new:Ad ((List.replicate n false).map Value.bool) Y g
 fz:∀ k j,k < W.heap.size->Y.frozen? ⟨k,j,none⟩=W.frozen? ⟨k,j,none⟩
 fzN:∀ j,Y.frozen? ⟨g,j,none⟩=false
 fzX:∀ j,X.frozen? ⟨b,j,none⟩=W.frozen? ⟨b,j,none⟩
 size:Y.heap.size=W.heap.size+1
 below:Ov w0 Y
 block:∀ k,k < W.heap.size->k≠b->Y.heap[k]? = W.heap[k]?
theorem N8 (w0 W X Y:World) (b n i g:Nat) (cs:List Value) (hr:Ad cs W b) (hi:i < cs.length) (hb:b < W.heap.size) (hlo:w0.heap.size<=b) (hB:Ov w0 W) (hX:X=W.alloc (.cells (Dz n) 4)) (hg:g=W.heap.size) (hY:Y=X.setCell ⟨b,i,none⟩ (O (some ⟨g,0,none⟩) n n)):MM w0 W X Y b n i g cs:=by
 have c:Ov W X:=by rw [hX];exact bA _ _
 have d:=hr.over c;have l:X.heap.size=W.heap.size+1:=by rw [hX];simp
 have f:Y.heap.size=W.heap.size+1:=by rw [hY,<-l];simp [World.setCell]
 have q:g≠b:=by omega
 refine ⟨d,by rw [hY];exact d.set hi,fun s k hk h=>by rw [hY];exact Ad.other (h.over c) hk,?_,fun k j hk=>by rw [hY,AM];exact (Am c).2 _ _ hk,fun j=>?_,fun j=>(Am c).2 _ _ hb,f,?_,fun k hk p=>?_⟩
 ·rw [hY]
  refine Ad.other ?_ q;rw [hX,hg];exact LO n W
 ·rw [hY,AM,hX,hg]
  simp [go_sem]
 ·rw [hY]
  exact (hB.trans (c.mono hB.size)).setCell hlo _
 ·rw [hY,Bw (Ne.symm p)]
  exact c.block k hk
section
variable {w0 W4 X5 Y5 X6 Y6 X7 Y7:World} {pc:List Value} {ch:Int} {b g1 g2 g3 vn yn N:Nat} {cv fv:Value} {xs ys:List Value} {k:Nat}
theorem NI.start (hlen:pc.length=8) (hF:LF w0 (pc++[zd U ch]) b cv N xs fv k ys [O none 0 0,O none 0 0,O none 0 0,zg false] W4) (hg1:g1=W4.heap.size) (hg2:g2=Y5.heap.size) (hg3:g3=Y6.heap.size)
  (h5:MM w0 W4 X5 Y5 b vn 11 g1 ((pc++[zd U ch])++cv::[fv,O none 0 0,O none 0 0,O none 0 0,zg false])) {c6:List Value} (h6:MM w0 Y5 X6 Y6 b yn 12 g2 c6) {c7:List Value} (h7:MM w0 Y6 X7 Y7 b N 13 g3 c7) (hc6:c6=((pc++[Value.int U ch])++cv::[fv,O none 0 0,O none 0 0,O none 0 0,zg false]).set 11 (O (some ⟨g1,0,none⟩) vn vn)) (hc7:c7=c6.set 12 (O (some ⟨g2,0,none⟩) yn yn)) :
  NI w0 pc ch cv fv b g1 g2 g3 (ns0 vn yn N) (Y7.setCell ⟨b,14,none⟩ (zg true))/\(∀ q,q < W4.heap.size->q≠b->(Y7.setCell ⟨b,14,none⟩ (zg true)).heap[q]? = W4.heap[q]?)/\∀ q,q < W4.heap.size->q≠b->∀ X,¬ XN b g1 g2 g3 X q:=by
 have g:=hF.li;have t:=h5.size;have s6:=h6.size;have s:=h7.size;have p:=g.lo.2;have d:=g.lo.1;have hw:=g.below.size;refine ⟨⟨h7.below.setCell d _,?_,hlen,?_,?_,?_,fun q f=>?_,by omega⟩,fun q f c=>?_,fun q f c X=>?_⟩
 ·have i:=h7.row.set (j:=14) (v:=zg true) (by rw [hc7,hc6];simp [hlen])
  rw [hc7,hc6] at i;have e:∀ a0 a1 a2 a3:Value,(((((pc++[Value.int U ch])++cv::[fv,O none 0 0,O none 0 0,O none 0 0,zg false]).set 11 a0).set 12 a1).set 13 a2).set 14 a3=pc++[zd U ch,cv,fv,a0,a1,a2,a3]:=fun a0 a1 a2 a3=>by
   rw [List.append_assoc];simp [hlen]
  rw [e] at i;simpa [ns0] using i
 ·exact Ad.other (h7.other _ _ (by omega) (h6.other _ _ (by omega) h5.new)) (by omega)
 ·exact Ad.other (h7.other _ _ (by omega) h6.new) (by omega)
 ·exact Ad.other h7.new (by omega)
 ·have l:(Y7.setCell ⟨b,14,none⟩ (zg true)).heap.size=Y7.heap.size:=by simp [World.setCell]
  rw [l];rcases f with rfl | rfl | rfl | rfl
  ·exact ⟨d,by omega,fun j=>AM.trans ((h7.fz _ j (by omega)).trans ((h6.fz _ j (by omega)).trans ((h5.fz _ j p).trans (g.fz j))))⟩
  ·exact ⟨by omega,by omega,fun j=>AM.trans ((h7.fz _ j (by omega)).trans ((h6.fz _ j (by omega)).trans (h5.fzN j)))⟩
  ·exact ⟨by omega,by omega,fun j=>AM.trans ((h7.fz _ j (by omega)).trans (h6.fzN j))⟩
  ·exact ⟨by omega,by omega,fun j=>AM.trans (h7.fzN j)⟩
 ·rw [Bw (Ne.symm c),h7.block q (by omega) c,h6.block q (by omega) c,h5.block q f c]
 ·rintro (h | h | h | h) <;> omega
theorem Nq {kf:Nat} {fs:List FnD} {cs rest:List Value} {V8:World} (hF:LF w0 cs b cv N xs fv (fs.length+1) ((List.range (fs.length+1)).map (fun i=>Value.int U ((Ap kf (fs.take i):Nat):Int))) rest W4) (hk:∀ q,q < W4.heap.size->q≠b->V8.heap[q]? = W4.heap[q]?) (hx:∀ q,q < W4.heap.size->q≠b->∀ X,¬ XN b g1 g2 g3 X q) :
  FO kf fs fv V8/\∀ c n d,fv=O (some ⟨c,0,none⟩) n d->¬ XN b g1 g2 g3 V8 c:=by
 have t:=hF.own;obtain ⟨g,f,z⟩:∃ g f,fv=O (some ⟨g,0,none⟩) (fs.length+1) f:=by
  rcases t.2 with ⟨s,C⟩ | ⟨g,p,A,s,-⟩
  ·omega
  ·exact ⟨g,p,s⟩
 have u:=Dd t;subst z;have y:=(u g rfl).2;have k:g≠b:=fun e=>hF.ap (by rw [<-e];rfl);refine ⟨⟨g,f,rfl,fun i B=>?_⟩,fun c n d s=>?_⟩
 ·rw [World.cell?_of_block (a:=⟨g,i,none⟩) (hk g y k),t.cellAt i (by omega),List.getElem?_map,List.getElem?_range (by omega)]
  rfl
 ·injection s with l
  injection l with l;injection l with l;rw [<-l];exact hx g y k _
theorem LT {K kf:Nat} {C:List (Nat × D × Nat)} {cs ds:List Value} {V8:World} (hL:LI w0 cs b cv N xs ds W4) (hE:Ca w0 K kf xs C) (hN:C.length=N) (hk:∀ q,q < W4.heap.size->q≠b->V8.heap[q]? = W4.heap[q]?) (hx:∀ q,q < W4.heap.size->q≠b->∀ X,¬ XN b g1 g2 g3 X q):HY w0 K kf (XN b g1 g2 g3 V8) cv C V8:=by
 have f:=hL.own;subst hN;rcases f.2 with ⟨t,A⟩ | ⟨g,B,I,t,-⟩
 ·exact ⟨none,0,by rw [t,A],fun k=>absurd (List.eq_nil_of_length_eq_zero A) k⟩
 ·have p:=Dd f
  have y:=hL.ap;subst t;have z:=(p g rfl).2;have d:g≠b:=fun e=>y (by rw [<-e];rfl);refine ⟨_,_,rfl,fun _=>⟨g,rfl,hx g z d _,fun i x s=>?_⟩⟩;obtain ⟨c9,H,G,F⟩:=hE.2 i x s;refine ⟨c9,H,G,fun j u E=>?_⟩;have c:=F j u E;have l:i*10+j < C.length*10:=by rw [<-f.1];exact (List.getElem?_eq_some_iff.1 c).1
  rw [World.cell?_of_block (a:=⟨g,i*10+j,none⟩) (hk g z d),f.cellAt _ l];exact c
end
def PFn (nd:List Bool) (K kf:Nat) (fs:List FnD) (i:Nat) (cs:List Value) (X:World):Prop:=∀ g,(Bc nd kf fs)[i]? = some g->∃ vP vB x0 x1 x2,cs=[vP,vB,x0,x1,x2]/\AQ X vP g.ps/\QC vP g.ps/\AI X K kf vB g.body/\RX X K [x0,x1,x2] g.res
theorem RO (K kf bs:Nat) (nd:List Bool) (hnl:nd.length<=1000) (fa:Option Addr) (fc:Nat) (fs:List FnD) (w0 W:World) (bc bq:Nat) (hf:Bi w0 K kf (O fa fs.length fc) fs) (hn:fs.length<=100) (hsm:∀ f∈fs,f.ps.length<=1000/\(∀ d∈f.body,Ki K kf d)/\(AO K f.res).length<=15)
  (hw:Ov w0 W) (hlo:w0.heap.size<=bc) (hC:CI bs nd bc 0 W) (hbs:bs < W.heap.size\/nd=[]) (ha:Ap kf fs<=nd.length) (hq:W.cell? ⟨bq,0,none⟩=some (zj (some ⟨bc,0,none⟩))) (hqc:bq≠bc) :
  Calls Tryz.prog 144 #[O fa fs.length fc,.func (.func 145) #[] #[zj (some ⟨bq,0,none⟩)]] W fun e W'=>∃ fa2 fc2,e=zk (O fa2 fs.length fc2)/\Off W.heap.size none W' (fun X=>Bi X K kf (O fa2 fs.length fc2) (Bc nd kf fs))/\FrW (XC bc) W W'/\CI bs nd bc (Ap kf fs) W':=by
 have A:(#[zj (some ⟨bq,0,none⟩)]:Array Value)=([zj (some ⟨bq,0,none⟩)]:List Value).toArray:=rfl;rw [A];refine (SS 145 [zj (some ⟨bq,0,none⟩)] (PFn nd K kf fs) (fun i X=>CI bs nd bc (Ap kf (fs.take i)) X) bc fa fs.length fc w0 W hw hlo (by simpa [Ap] using hC) (fun i X X' h L=>?_) hC.lt hn (enters_of Tryz.func145 (by kernel_rfl) rfl) (fun l=>?_)).mono ?_
 ·rcases hbs with hbs | hbs
  ·exact h.low L hC.lt hbs
  ·subst hbs
   exact ⟨fun j u E=>(World.cell?_of_block (a:=⟨bc,j,none⟩) (L.block bc hC.lt)).trans (h.row j u E),fun j=>(World.frozen?_of_block (a:=⟨bc,j,none⟩) (L.block bc hC.lt)).trans (h.fz j),fun j u E=>by simp at E,h.ne⟩
 ·obtain ⟨-,ao,a1,I,F⟩:=hf
  injection I with e1 e2 e3;obtain ⟨b,off,M,y⟩:=F (by rintro rfl;simp at l);refine ⟨b,off,e1.trans M,fun i q=>?_⟩;obtain ⟨vP,vB,x0,x1,x2,c0,c1,c2,c3,c4,hP,aw,hB,hR⟩:=y i q;obtain ⟨V,U,H,-⟩:=id hP;obtain ⟨ba,bd,G,-⟩:=id hB.2;obtain ⟨T,S,Z⟩:=hR.form;simp only [List.cons.injEq,and_true] at Z;obtain ⟨y0,y1,y2⟩:=Z;subst H G y0 y1 y2;refine ⟨V,_,U,ba,_,bd,_,_,T,_,S,⟨c0,c1,c2,c3,c4⟩,fun X B C=>?_⟩;obtain ⟨s1,s2,s3⟩:=hsm _ (List.getElem_mem q);have J:=B4 (k:=kf) q;have av:Ap kf (fs.take (i+1))<=Ap kf fs:=(Ho (k:=kf) q).2;refine (ST K kf bs nd hnl fs[i] V U ba bd _ _ T _ S w0 X bc bq (Ap kf (fs.take i)) hP s1 hB hR s3 s2 (B.base hlo hw) hlo C (by omega) (B.cell hq (fun h=>hqc h)) hqc).mono ?_;rintro e X' ⟨qa,qc,da,dc,za,zc,rfl,hO,c,Q,R⟩;refine ⟨qa,_,qc,da,_,dc,_,_,za,_,zc,rfl,hO.imp fun Y N g s=>?_,Q,by rw [J];exact R⟩;rw [FH nd i q] at s;injection s with s;subst s;exact ⟨_,_,_,_,_,rfl,N.1,⟨Nat.le_trans c.1 c.2,_,_,rfl,c.1,c.2⟩,N.2.1,N.2.2⟩
 ·rintro e W' ⟨a,c',rfl,z,Q,C⟩
  obtain ⟨a',c2,I,t⟩:=z.cells (by decide);injection I with x1 x2 x3;subst x1 x3;refine ⟨a,c',rfl,t.imp fun X B=>?_,Q,by rw [List.take_length] at C;exact C⟩;have p:=BI (kf:=kf) (fs:=fs) nd;have s:Bi X K kf (O a (Bc nd kf fs).length c') (Bc nd kf fs):=Bi.of (P:=PFn nd K kf fs) (by omega) (fun l=>by rw [p] at l ⊢;exact B l) (fun i q cs h=>h _ (List.getElem?_eq_getElem q));rw [p] at s;exact s
theorem Qs (K kf bs:Nat) (nd:List Bool) (m:Int) (ga gn gc sa sn sc ya yn yc oa on oc va vn vc fa fn fc ba bn bd gs sp ls ms vs fs l) (w0 w:World) (bc:Nat) (h:Bg K kf m ga gn gc sa sn sc ya yn yc oa on oc va vn vc fa fn fc ba bn bd gs sp ls ms vs fs l w0) (hS:RN K kf gs sp ls ms vs fs l) (hnl:nd.length<=1000) (hnd:Ap kf fs+Ai kf l<=nd.length)
  (hw:Ov w0 w) (hlo:w0.heap.size<=bc) (hC:CI bs nd bc 0 w) (hbs:bs < w.heap.size\/nd=[]) :
  Calls Tryz.prog 84 #[zj (some ⟨bc,0,none⟩),zh #[zd U m,O ga gn gc,O sa sn sc,O ya yn yc,O oa on oc,O va vn vc,O fa fn fc,O ba bn bd]] w fun e w'=>∃ (ga2:Option Addr) (gc2:Nat) (sa2:Option Addr) (sc2:Nat) (ya2:Option Addr) (yc2:Nat) (oa2:Option Addr) (oc2:Nat) (va2:Option Addr) (vc2:Nat) (fa2:Option Addr) (fc2:Nat) (ba2:Option Addr) (bd2:Nat),e=zk (zh #[zd U m,O ga2 gs.length gc2,O sa2 sp.length sc2,O ya2 ls.length yc2,O oa2 ms.length oc2,O va2 vs.length vc2,O fa2 fs.length fc2,O ba2 (AJ nd kf l (Ap kf fs)).length bd2])/\Off w.heap.size none w' (Bg K kf m ga2 gs.length gc2 sa2 sp.length sc2 ya2 ls.length yc2 oa2 ms.length oc2 va2 vs.length vc2 fa2 fs.length fc2 ba2 (AJ nd kf l (Ap kf fs)).length bd2 gs sp ls ms vs (Bc nd kf fs) (AJ nd kf l (Ap kf fs)))/\Ov w0 w':=by
 have a5:=hC.lt;have t:=hS.lab;have R:fn=fs.length:=by obtain ⟨-,ao,dq,he,-⟩:=h.funcs;injection he
 have K1:Hx (∀ X,Ov w0 X->_):=fun X (s:Ov w0 X)=>RQ (O ga gn gc) gs X (Aj h.grants s) hS.gB;have K2:Hx (∀ X,Ov w0 X->_):=fun X (s:Ov w0 X)=>Jm (O sa sn sc) sp X (h.speak.over s) hS.sB;have K3:Hx (∀ X,Ov w0 X->_):=fun X (s:Ov w0 X)=>Kp (O ya yn yc) ls X (h.ins.over s) hS.yB (fun b hb=>t b (Or.inl hb));have K4:Hx (∀ X,Ov w0 X->_):=fun X (s:Ov w0 X)=>Kp (O oa on oc) ms X (h.outs.over s) hS.oB (fun b hb=>t b (Or.inr (Or.inl hb)));have K5:Hx (∀ X,Ov w0 X->_):=fun X (s:Ov w0 X)=>Pj (O va vn vc) vs X (h.vars.over s) hS.vB (fun b hb=>t b.2 (Or.inr (Or.inr (List.mem_map_of_mem hb))));have K6:Hx (∀ X,Ov w0 X->CI bs nd bc 0 X->bs < X.heap.size\/nd=[]->X.cell? ⟨w.heap.size,0,none⟩=some (zj (some ⟨bc,0,none⟩))->_):=fun X (s:Ov w0 X) (hc:CI bs nd bc 0 X) (hs:bs < X.heap.size\/nd=[]) (p:X.cell? ⟨w.heap.size,0,none⟩=some (zj (some ⟨bc,0,none⟩)))=>RO K kf bs nd hnl fa fc fs w0 X bc w.heap.size (by rw [<-R];exact h.funcs) hS.fB hS.body s hlo hc hs (by omega) p (by omega);have K7:Hx (∀ X,Ov w0 X->CI bs nd bc (Ap kf fs) X->_):=fun X (s:Ov w0 X) (hc:CI bs nd bc (Ap kf fs) X)=>Km K bs nd hnl kf (O ba bn bd) l w0 X bc (Ap kf fs) h.main s hlo hc hnd hS.main;have HM:=Aa h.m64;have br:=Aa h.speakL;obtain ⟨gl,Q⟩:=nm gs.length;obtain ⟨sl,N⟩:=nm sp.length;obtain ⟨yl,L⟩:=nm ls.length;obtain ⟨ol,P⟩:=nm ms.length;obtain ⟨vl,M⟩:=nm vs.length;obtain ⟨fl,S⟩:=nm fs.length;obtain ⟨bl,T⟩:=nm (AJ nd kf l (Ap kf fs)).length;rw [<-Q] at K1 ⊢;rw [<-N] at K2 ⊢;rw [<-L] at K3 ⊢;rw [<-P] at K4 ⊢;rw [<-M] at K5 ⊢;rw [<-S] at K6 R ⊢;rw [<-T] at K7 ⊢;subst R;have q:Ov w (((w.alloc (ze #[zj (some ⟨bc,0,none⟩)] 205)).alloc (ze #[zd U m,O ga gn gc,O sa sn sc,O ya yn yc,O oa on oc,O va vn vc,O fa fn fc,O ba bn bd] 31)).alloc (ze #[zd U 0,O none 0 0,O none 0 0,O none 0 0,O none 0 0,O none 0 0,O none 0 0,O none 0 0] 31)):=((bA w _).alloc (by simp) _).alloc (by simp;omega) _;obtain ⟨V,I⟩:=nm (((w.alloc (ze #[zj (some ⟨bc,0,none⟩)] 205)).alloc (ze #[zd U m,O ga gn gc,O sa sn sc,O ya yn yc,O oa on oc,O va vn vc,O fa fn fc,O ba bn bd] 31)).alloc (ze #[zd U 0,O none 0 0,O none 0 0,O none 0 0,O none 0 0,O none 0 0,O none 0 0,O none 0 0] 31));have a0:V.heap.size=w.heap.size+3:=by rw [I];simp
 have a2:(w.alloc (ze #[zj (some ⟨bc,0,none⟩)] 205)).heap.size=w.heap.size+1:=by simp
 have a1:((w.alloc (ze #[zj (some ⟨bc,0,none⟩)] 205)).alloc (ze #[zd U m,O ga gn gc,O sa sn sc,O ya yn yc,O oa on oc,O va vn vc,O fa fn fc,O ba bn bd] 31)).heap.size=w.heap.size+2:=by simp
 have ai:PI w bs nd bc 0 [zd U m,O ga gn gc,O sa sn sc,O ya yn yc,O oa on oc,O va vn vc,O fa fn fc,O ba bn bd] (fun _=>True) V:=by
  refine ⟨by rw [I];exact FrW.of_below (CZ bc) q,by rw [I];exact hC.over q,?_,?_,fun j=>by rw [I];simp [go_sem],?_,fun _ _=>trivial,by omega⟩
  ·rw [I]
   exact Nz (Nz (AP w [zj (some ⟨bc,0,none⟩)] 205 0 _ rfl) _) _
  ·rw [I,<-a2]
   exact Ad.over (AP (w.alloc (ze #[zj (some ⟨bc,0,none⟩)] 205)) [zd U m,O ga gn gc,O sa sn sc,O ya yn yc,O oa on oc,O va vn vc,O fa fn fc,O ba bn bd] 31) (bA _ _)
  ·rw [I,<-a1]
   exact NV 31 _
 have dy:=Aa a0;have d1:=Aa hC;have i:=Aa hlo;have J:=Aa hw;have f:=Aa a5;have k:=Aa hbs;have ar:=Aa ai;have dz:=Aa (And.intro Q (And.intro N (And.intro L (And.intro P (And.intro M (And.intro S T))))));obtain ⟨-,p1,-,-,-,-,-,-⟩:=rc8 ai.row;clear h hS hnl hnd hw hlo hC hbs t q a0 a2 a1 ai Q N L P M S T a5;go_enter Tryz.func84,Tryz.ntmps84;go_wp2_with fail;rw [<-I];clear I p1;refine (K1.o _ (ar.o.fr.base i.o J.o)).mono ?_;rintro e W1 ⟨ga2,gc2,rfl,bg,q,-⟩;have d:=ar.o.call f.o (FrW.of_below (CZ bc) q) (ar.o.ci.over q) bg;obtain ⟨G,F,E,C,B,A,z,y⟩:=rc8 d.row;have z1:=d.fz 1;have p:=d.bq;have c:=d.store f.o k.o (j:=1) (by simp) (O ga2 gl gc2);simp only [List.set_cons_zero,List.set_cons_succ] at c;obtain ⟨X1,ah⟩:=nm (W1.setCell ⟨w.heap.size+1,1,none⟩ (O ga2 gl gc2));rw [<-ah] at c;have aq:=Aa c;clear d c bg q;go_wp2_with fail;rw [<-ah];clear ah G F E C B A z y z1 p;refine (K2.o _ (aq.o.fr.base i.o J.o)).mono ?_;rintro e W2 ⟨sa2,sc2,rfl,bf,aa,-⟩;have d:=aq.o.call f.o (FrW.of_below (CZ bc) aa) (aq.o.ci.over aa) bf;obtain ⟨G,F,E,C,B,A,z,y⟩:=rc8 d.row;have z2:=d.fz 2;have p:=d.bq;have c:=d.store f.o k.o (j:=2) (by simp) (O sa2 sl sc2);simp only [List.set_cons_zero,List.set_cons_succ] at c;obtain ⟨X2,ag⟩:=nm (W2.setCell ⟨w.heap.size+1,2,none⟩ (O sa2 sl sc2));rw [<-ag] at c;have an:=Aa c;clear d c bf aa;go_wp2_with fail;rw [<-ag];clear ag G F E C B A z y z2 p;refine (K3.o _ (an.o.fr.base i.o J.o)).mono ?_;rintro e W3 ⟨ya2,yc2,rfl,bi,be,Z⟩;have bu:=Aa bi;have d:=an.o.call f.o (FrW.of_below (CZ bc) Z) (an.o.ci.over Z) be;obtain ⟨G,F,E,C,B,A,z,y⟩:=rc8 d.row;have z3:=d.fz 3;have p:=d.bq;have c:=d.store f.o k.o (j:=3) (by simp) (O ya2 yl yc2);simp only [List.set_cons_zero,List.set_cons_succ] at c;obtain ⟨X3,af⟩:=nm (W3.setCell ⟨w.heap.size+1,3,none⟩ (O ya2 yl yc2));rw [<-af] at c;have am:=Aa c;clear d c be Z bi;go_wp2_with fail;rw [<-af];clear af G F E C B A z y z3 p;refine (K4.o _ (am.o.fr.base i.o J.o)).mono ?_;rintro e W4 ⟨oa2,oc2,rfl,bh,bb,Y⟩;have bt:=Aa bh;have d:=am.o.call f.o (FrW.of_below (CZ bc) Y) (am.o.ci.over Y) bb;obtain ⟨G,F,E,C,B,A,z,y⟩:=rc8 d.row;have z4:=d.fz 4;have p:=d.bq;have c:=d.store f.o k.o (j:=4) (by simp) (O oa2 ol oc2);simp only [List.set_cons_zero,List.set_cons_succ] at c;obtain ⟨X4,ae⟩:=nm (W4.setCell ⟨w.heap.size+1,4,none⟩ (O oa2 ol oc2));rw [<-ae] at c;have al:=Aa c;clear d c bb Y bh;go_wp2_with fail;rw [<-ae];clear ae G F E C B A z y z4 p;refine (K5.o _ (al.o.fr.base i.o J.o)).mono ?_;rintro e W5 ⟨va2,vc2,rfl,a9,W⟩;have d:=al.o.call f.o (FrW.of_below (CZ bc) W) (al.o.ci.over W) a9;obtain ⟨G,F,E,C,B,A,z,y⟩:=rc8 d.row;have z5:=d.fz 5;have p:=d.bq;have c:=d.store f.o k.o (j:=5) (by simp) (O va2 vl vc2);simp only [List.set_cons_zero,List.set_cons_succ] at c;obtain ⟨X5,ad⟩:=nm (W5.setCell ⟨w.heap.size+1,5,none⟩ (O va2 vl vc2));rw [<-ad] at c;have H:=Aa c;clear d c a9 W;go_wp2_with fail;rw [<-ad];clear ad G F E C B A z y z5 p;refine (K6.o _ (H.o.fr.base i.o J.o) H.o.ci (k.o.imp (fun h=>Nat.lt_of_lt_of_le h H.o.fr.size) id) H.o.bq).mono ?_;rintro e W6 ⟨fa2,fc2,rfl,a8,bk,bo⟩;have d:=H.o.call f.o bk bo a8;obtain ⟨G,F,E,C,B,A,z,y⟩:=rc8 d.row;have z6:=d.fz 6;have p:=d.bq;have c:=d.store f.o k.o (j:=6) (by simp) (O fa2 fn fc2);simp only [List.set_cons_zero,List.set_cons_succ] at c;obtain ⟨X6,ac⟩:=nm (W6.setCell ⟨w.heap.size+1,6,none⟩ (O fa2 fn fc2));rw [<-ac] at c;have ak:=Aa c;clear d c a8 bk bo;go_wp2_with fail;rw [<-ac];clear ac G F E C B A z y z6 p;refine (K7.o _ (ak.o.fr.base i.o J.o) ak.o.ci).mono ?_;rintro e W7 ⟨ba2,bd2,rfl,a7,bm,bj⟩;have d:=ak.o.call f.o bj bm a7;obtain ⟨G,F,E,C,B,A,z,y⟩:=rc8 d.row;have z7:=d.fz 7;have p:=d.bq;have c:=d.store f.o k.o (j:=7) (by simp) (O ba2 bl bd2);simp only [List.set_cons_zero,List.set_cons_succ] at c;obtain ⟨X7,ab⟩:=nm (W7.setCell ⟨w.heap.size+1,7,none⟩ (O ba2 bl bd2));rw [<-ab] at c;have aj:=Aa c;obtain ⟨e0,e1,e2,e3,e4,e5,e6,e7⟩:=rc8 d.z8.row;have g:=d.z8.fz;have f0:=g 0;have f1:=g 1;have f2:=g 2;have f3:=g 3;have f4:=g 4;have f5:=g 5;have f6:=g 6;have f7:=g 7;clear d c a7 bj bm g;go_wp2_with fail;rw [<-ab];clear ab G F E C B A z y e0 e1 e2 e3 e4 e5 e6 e7 f0 f1 f2 f3 f4 f5 f6 f7 z7 p;have a3:=aj.o.z8.fill (zd U m) (O ga2 gl gc2) (O sa2 sl sc2) (O ya2 yl yc2) (O oa2 ol oc2) (O va2 vl vc2) (O fa2 fn fc2) (O ba2 bl bd2);unfold Kh at a3;obtain ⟨r0,r1,r2,r3,r4,r5,r6,r7⟩:=rc8 a3;refine bodyPost_ret (v:=zh #[zd U m,O ga2 gl gc2,O sa2 sl sc2,O ya2 yl yc2,O oa2 ol oc2,O va2 vl vc2,O fa2 fn fc2,O ba2 bl bd2]) (by simp [results,Tryz.results84,go_sem,r0,r1,r2,r3,r4,r5,r6,r7]) rfl ?_;refine ⟨ga2,gc2,sa2,sc2,ya2,yc2,oa2,oc2,va2,vc2,fa2,fc2,ba2,bd2,rfl,?_,?_⟩
 ·have a4:=(((((((aj.o.off.set (b:=w.heap.size+2) (j:=0) (u:=zd U m) (by omega)).set (b:=w.heap.size+2) (j:=1) (u:=O ga2 gl gc2) (by omega)).set (b:=w.heap.size+2) (j:=2) (u:=O sa2 sl sc2) (by omega)).set (b:=w.heap.size+2) (j:=3) (u:=O ya2 yl yc2) (by omega)).set (b:=w.heap.size+2) (j:=4) (u:=O oa2 ol oc2) (by omega)).set (b:=w.heap.size+2) (j:=5) (u:=O va2 vl vc2) (by omega)).set (b:=w.heap.size+2) (j:=6) (u:=O fa2 fn fc2) (by omega)).set (b:=w.heap.size+2) (j:=7) (u:=O ba2 bl bd2) (by omega)
  refine (a4.base (B':=w.heap.size) (by omega)).imp fun X s=>?_;obtain ⟨⟨⟨⟨⟨⟨⟨-,q1⟩,q2⟩,q3⟩,q4⟩,q5⟩,q6⟩,q7⟩:=s;exact ⟨HM.o,q1,q2,br.o,q3,q4,q5,q6,q7,bu.o,bt.o⟩
 ·have hF:=FrW.set (j:=7) (u:=O ba2 bl bd2) (b:=w.heap.size+2) (FrW.set (j:=6) (u:=O fa2 fn fc2) (b:=w.heap.size+2) (FrW.set (j:=5) (u:=O va2 vl vc2) (b:=w.heap.size+2) (FrW.set (j:=4) (u:=O oa2 ol oc2) (b:=w.heap.size+2) (FrW.set (j:=3) (u:=O ya2 yl yc2) (b:=w.heap.size+2) (FrW.set (j:=2) (u:=O sa2 sl sc2) (b:=w.heap.size+2) (FrW.set (j:=1) (u:=O ga2 gl gc2) (b:=w.heap.size+2) (FrW.set (j:=0) (u:=zd U m) (b:=w.heap.size+2) aj.o.fr (by omega)) (by omega)) (by omega)) (by omega)) (by omega)) (by omega)) (by omega)) (by omega)
  exact hF.base i.o J.o
end Go.Proofs.YtfffpjkcfnekaaaGreat.Ex
