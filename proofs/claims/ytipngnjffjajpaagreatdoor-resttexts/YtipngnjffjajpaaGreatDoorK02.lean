/- What token.scan defers: a panic of a place is recovered, and its place and reason are laid into the results. -/
import Derived.Test.YtipngnjffjajpaaGreatDoorK01
import Derived.Defers
import Derived.Recover
import Derived.Lib.AppendStr
import Derived.Lib.Builder
import Derived.Laws.Externs
import Derived.Deep.QuietTactic
import Derived.BigQuiet
set_option linter.unusedVariables false
set_option maxHeartbeats 8000000
set_option maxRecDepth 100000
namespace Go.Proofs.YtipngnjffjajpaaGreatDoor
open Go.RowKit
open Go.Value renaming int -> O, slice -> zd, bool -> ze, agg -> zf, pointer -> zh, tuple -> zj
open Go.IntKind renaming i64 -> zc
open Go.Obj renaming cells -> zg
open Go.Ending renaming returned -> zi
theorem LQ (p q r:Addr) (w:World) :
  CallsD Tryz.prog 80 #[zh (some p),zh (some q),zh (some r)] .returning w fun e u' w'=>e=zi (zj #[])/\u'=.returning/\w'=w:=by
 refine callsD_of_wpS Tryz.func80 rfl fun b c a=>?_;apply wpS_seq;apply wpS_region;simp [wpOpsS,go_sem,recoverD,a,Tryz.ntmps80,Exit.thenS];refine wpS_of_wp ?_
 change Code.wp Tryz.prog _ _ { tmps:=#[zh (some p),zh (some q),zh (some r),.nilIface,undef,.nilIface,undef,undef,undef,undef,undef,undef,undef,undef],defers:=[] } w
 go_wp2
 cases b
 simp_all [bodyPostS,results,Tryz.results80]
theorem Pf (v:Value) (w:World):(Instr.typeAssert (.iface 116 v) 20 116 false).run Tryz.prog w=.ok v w:=by
 simp [Instr.typeAssert,run_underlying Tryz.underlying116,go_sem,Result.andThen]
theorem Kx (B:Nat) (x:Value) (m n a e:Int) (older:List PanicEntry) (w:World) (hB:B+3<=w.heap.size)
  (c0:w.cell? ⟨B,0,none⟩=some x) (c1:w.cell? ⟨B+1,0,none⟩=some (O zc m)) (c2:w.cell? ⟨B+1+1,0,none⟩=some (O zc n))
  (f0:w.frozen? ⟨B,0,none⟩=false) (f1:w.frozen? ⟨B+1,0,none⟩=false) (f2:w.frozen? ⟨B+1+1,0,none⟩=false) :
  CallsD Tryz.prog 80 #[zh (some ⟨B,0,none⟩),zh (some ⟨B+1,0,none⟩),zh (some ⟨B+1+1,0,none⟩)] (.panicking ({ v:=.iface 116 (zf #[O zc a,O zc e]),recovered:=false }::older)) w fun en u' w'=>
   en=zi (zj #[])/\u'=.panicking ({ v:=.iface 116 (zf #[O zc a,O zc e]),recovered:=true }::older) /\
   w'.cell? ⟨B,0,none⟩=some (zd none 0 0)/\w'.cell? ⟨B+1,0,none⟩=some (O zc a)/\w'.cell? ⟨B+1+1,0,none⟩=some (O zc e)/\Below B w w':=by
 have c:=Pf;refine callsD_of_wpS Tryz.func80 rfl fun f g b=>?_;apply wpS_seq;apply wpS_region;simp [wpOpsS,go_sem,recoverD,b,Tryz.ntmps80,Exit.thenS];refine wpS_of_wp ?_
 change Code.wp Tryz.prog _ _ { tmps:=#[zh (some ⟨B,0,none⟩),zh (some ⟨B+1,0,none⟩),zh (some ⟨B+1+1,0,none⟩),.iface 116 (zf #[O zc a,O zc e]),undef,.iface 116 (zf #[O zc a,O zc e]),undef,undef,undef,undef,undef,undef,undef,undef],defers:=[] } w
 go_wp2
 have k1:B < w.heap.size:=by omega
 have k2:B+1 < w.heap.size:=by omega
 have k3:B+1+1 < w.heap.size:=by omega
 go_region
 go_wp2
 refine ⟨rfl,_,by cases f;simp_all,zj #[],by simp [results,Tryz.results80],rfl,rfl,?_⟩;refine ⟨by simp [go_sem,k1,c0],by simp [go_sem,k2,c1],by simp [go_sem,k3,c2],?_⟩;exact (((((Below.refl B w).setCell (by simp) _).setCell (by simp) _).setCell (by simp;omega) _).alloc (by simp [World.setCell];omega) _).drew
theorem AX {w:World} {base:Nat} {e:TypeId} {size:Nat} {v:Value} {n:Nat} {xs:List Value} (h:w.ownsRow base e size v n xs):∃ ao cap,v=zd ao n cap:=by
 rcases h.2 with ⟨rfl,rfl⟩ | ⟨g,cap,a,rfl,_⟩
 ·exact ⟨_,_,rfl⟩
 ·exact ⟨_,_,rfl⟩
def B9 (w w':World):Prop:=∀ (g:Nat) (cs:Array Value) (T:TypeId) (fr:Nat × Nat),w.heap[g]? = some (Obj.cells cs T fr)->T≠77->T≠5->w'.heap[g]? = some (Obj.cells cs T fr)
theorem B9.refl (w:World):B9 w w:=fun _ _ _ _ h _ _=>h
theorem B9.trans {a b c:World} (h:B9 a b) (k:B9 b c):B9 a c:=fun g cs T fr hg h1 h2=>k g cs T fr (h g cs T fr hg h1 h2) h1 h2
theorem B9.alloc (w:World) (o:Obj):B9 w (w.alloc o):=fun g cs T fr hg _ _=>by
 rw [Below.heap_alloc _ _ _ (Array.getElem?_eq_some_iff.1 hg).1];exact hg
theorem B9.setCell {w:World} {b:Nat} {cs:Array Value} {fr:Nat × Nat} (hb:w.heap[b]? = some (.cells cs 77 fr)) (o:Nat) (v:Value):B9 w (w.setCell ⟨b,o,none⟩ v):=fun g cs' T fr' hg h1 _=>by
 rw [Below.heap_setCell _ _ _ _ (fun e=>?_)]
 ·exact hg
 ·simp only at e
  rw [e] at hg;rw [hg] at hb;simp at hb;exact h1 hb.2.1
theorem B9.grown {w w':World} {B:Nat} {v:Value} {n:Nat} {xs:List Value} (hown:w.ownsRow B 5 1 v n xs) (hg:w.grownBy w' v.ownBlock):B9 w w':=fun g cs T fr hh _ h2=>by
 rw [hg.block g (Array.getElem?_eq_some_iff.1 hh).1 (fun e=>?_)]
 ·exact hh
 ·rcases hown.2 with ⟨rfl,_⟩ | ⟨g',cap,cur,rfl,_,hk,_⟩
  ·simp [Value.ownBlock] at e
  ·simp [Value.ownBlock] at e
   subst e;rw [hk] at hh;simp at hh;exact h2 hh.2.1.symm
theorem Tryz.size48:(Tryz.prog.info? 77).map (·.size)=some 2:=by kernel_rfl
theorem Tryz.lies48:liesAt Tryz.prog Tryz.prog.depth 77 (2 / Tryz.prog.cellsOf 77) 0 77 1=true:=by kernel_rfl
theorem Tryz.run39 (x:Value) (w:World):(callFunc 145 #[x]).run Tryz.prog w=.ok (.value x) w:=by
 rw [run_callFunc_extern Tryz.func145 (by kernel_rfl) (by kernel_rfl) (by kernel_rfl) (e:=Extern.AbiNoEscape.same) (by kernel_rfl),Lib.run_noEscape];rfl
theorem Hq (B b:Nat) (bs:List Value) (w:World) (h:Lib.IsBuilder 77 5 B b bs w) :
  Calls Tryz.prog 121 #[zh (some ⟨b,0,none⟩)] w fun e w'=>e=zi (zj #[])/\Lib.BuilderAt 77 5 B b (zh (some ⟨b,0,none⟩)) bs w'/\Below B w w'/\B9 w w':=by
 obtain ⟨j,f,c⟩:=Option.map_eq_some_iff.1 Tryz.size48;rcases h with h | h
 ·have x:=h.cell0
  have y:=h.frozen0;have l:=Lib.run_to_unsafe w ⟨b,0,none⟩ Tryz.underlying74 Tryz.underlying158 f (by rw [c];decide) h.shape (Nat.zero_lt_succ 1);have n:=Tryz.run39;have g:=Lib.run_from_unsafe w ⟨b,0,none⟩ Tryz.underlying158 Tryz.underlying74 f h.shape Tryz.lies48;have a:Lib.BuilderAt 77 5 B b (zh (some ⟨b,0,none⟩)) bs (w.setCell ⟨b,0,none⟩ (zh (some ⟨b,0,none⟩)))/\Below B w (w.setCell ⟨b,0,none⟩ (zh (some ⟨b,0,none⟩)))/\B9 w (w.setCell ⟨b,0,none⟩ (zh (some ⟨b,0,none⟩))):=
   ⟨h.used _,(Below.refl B w).setCell (p:=⟨b,0,none⟩) h.1 _,by obtain ⟨_,v,u,_⟩:=h;exact B9.setCell u _ _⟩
  have i:=Aa a;clear a h c f;go_enter Tryz.func121,Tryz.ntmps121
  go_wp2
  go_end0;exact ⟨rfl,i.out⟩
 ·have x:=h.cell0
  have r:=Lib.run_neq_ptr_same w ⟨b,0,none⟩ Tryz.underlying74 f;have i:=Aa h;clear h c f;go_enter Tryz.func121,Tryz.ntmps121
  go_wp2
  go_end0;exact ⟨rfl,i.out,Below.refl B w,B9.refl w⟩
theorem Cl {w:World} {b:Nat} {o:Obj} (h:w.heap[b]? = some o):b < w.heap.size:=(Array.getElem?_eq_some_iff.1 h).1
theorem Nw (B b:Nat) (bs:List Value) (c:Int) (w:World) (h:Lib.IsBuilder 77 5 B b bs w) (hl:bs.length<=100000) (hBw:B<=w.heap.size) :
  Calls Tryz.prog 83 #[zh (some ⟨b,0,none⟩),O .u8 c] w fun e w'=>e=zi .nilIface/\Lib.BuilderAt 77 5 B b (zh (some ⟨b,0,none⟩)) (bs++[O .u8 c]) w'/\Below B w w'/\B9 w w':=by
 obtain ⟨S,U,I,H,G⟩:=info_parts Tryz.info5;go_enter Tryz.func83,Tryz.ntmps83;go_wp2_with fail;refine (Hq B b bs _ h).mono ?_;rintro e E ⟨rfl,⟨M,v,y,f,J⟩,l,x⟩;have k1:E.cell? ⟨b,1,none⟩=some v:=by rw [Lib.cell_of_heap y];rfl
 have K:=Cl y;obtain ⟨P,C,rfl⟩:=AX f;go_wp2_with (at_builtin;refine wpList_append_own _ rfl _ _ 75 rfl B 5 S (O .u8 0) 1 1 Tryz.underlying75 U I H G rfl (by decide) _ _ _ rfl (f.alloc _) ⟨E.heap.size,0,none⟩ 1 1 [O .u8 c] rfl rfl ?c1 ?c2 ?c3 ?c4 ?c5 ?_)
 case c1=>
  intro j u F
  match j,F with
  | 0,F=>simp at F;subst F;simp [Addr.add]
 case c2=>intro u L;simp at L;subst L;rfl
 case c3=>unfold maxLen;omega
 case c4=>omega
 case c5=>have:=l.size;simp;omega
 ·intro Q n g a _
  have i:n.heap[b]? = some (zg #[zh (some ⟨b,0,none⟩),zd P bs.length C] 77 (0,0)):=by
   rw [a.block b (by simp;omega) (fun e=>J e.symm),Lib.alloc_old E _ b K];exact y
  have Z:n.cell? ⟨b,1,none⟩=some (zd P bs.length C):=by rw [Lib.cell_of_heap i];rfl
  have Y:n.frozen? ⟨b,1,none⟩=false:=Lib.frozen_of_heap i 1;have r:B9 w (n.setCell ⟨b,1,none⟩ Q):=((x.trans (B9.alloc E _)).trans (B9.grown (f.alloc _) a)).trans (B9.setCell i _ _);have A:Below B w n:=(l.alloc (by have:=l.size;omega) _).grown a (by have:=l.size;simp;omega) (fun k y=>(f.lt k y).1);obtain ⟨V,N,rfl⟩:=AX g;have R:=Lib.BuilderAt.put (T:=77) (e:=5) M i (bs':=bs++[O .u8 c]) (by simpa using g) (by decide);have W:=Aa R;have X:=Aa r;clear R k1 f a g r x
  go_wp2
  go_ret;exact ⟨rfl,W.out,A.setCell (p:=⟨b,1,none⟩) M _,X.out⟩
theorem EV (B b:Nat) (bs:List Value) (s:ByteArray) (w:World) (h:Lib.IsBuilder 77 5 B b bs w) (hl:bs.length<=100000) (hs:s.size<=6000) (hBw:B<=w.heap.size) :
  Calls Tryz.prog 84 #[zh (some ⟨b,0,none⟩),.string s] w fun e w'=>e=zi (zj #[O zc s.size,.nilIface])/\Lib.BuilderAt 77 5 B b (zh (some ⟨b,0,none⟩)) (bs++Lib.strCells s) w'/\Below B w w'/\B9 w w':=by
 obtain ⟨L,M,C,A,y⟩:=info_parts Tryz.info5;go_enter Tryz.func84,Tryz.ntmps84;go_wp2_with fail;refine (Hq B b bs _ h).mono ?_;rintro e J ⟨rfl,⟨G,v,r,c,E⟩,i,n⟩;have k1:J.cell? ⟨b,1,none⟩=some v:=by rw [Lib.cell_of_heap r];rfl
 have F:=Cl r;obtain ⟨I,x,rfl⟩:=AX c;go_wp2_with (at_builtin;refine Lib.wpList_append_own_string _ rfl _ _ 75 9 rfl B 5 L Tryz.underlying75 Tryz.underlying9 M C A y _ _ _ rfl c s rfl ?c3 ?c4 ?c5 ?_)
 case c3=>unfold maxLen;omega
 case c4=>omega
 case c5=>have:=i.size;omega
 ·intro K j f a _
  have g:j.heap[b]? = some (zg #[zh (some ⟨b,0,none⟩),zd I bs.length x] 77 (0,0)):=by
   rw [a.block b F (fun e=>E e.symm)];exact r
  have U:j.cell? ⟨b,1,none⟩=some (zd I bs.length x):=by rw [Lib.cell_of_heap g];rfl
  have S:j.frozen? ⟨b,1,none⟩=false:=Lib.frozen_of_heap g 1;have l:B9 w (j.setCell ⟨b,1,none⟩ K):=(n.trans (B9.grown c a)).trans (B9.setCell g _ _);have u:Below B w j:=i.grown a (by have:=i.size;omega) (fun k r=>(c.lt k r).1);obtain ⟨N,H,rfl⟩:=AX f;have R:=Lib.BuilderAt.put (T:=77) (e:=5) G g (bs':=bs++Lib.strCells s) (by simpa [Lib.strCells_length] using f) (by decide);have P:=Aa R;have Q:=Aa l;clear R k1 c a f l n
  go_wp2
  go_ret2
  exact ⟨rfl,P.out,u.setCell (p:=⟨b,1,none⟩) G _,Q.out⟩
theorem Eu {B b:Nat} {p:Value} {bs:List Value} {w:World} (h:Lib.BuilderAt 77 5 B b p bs w) (o:Obj):Lib.BuilderAt 77 5 B b p bs (w.alloc o):=by
 obtain ⟨g,v,f,a,c⟩:=h;exact ⟨g,v,(Lib.alloc_old w _ b (Cl f)).trans f,a.alloc _,c⟩
theorem Et {B b:Nat} {bs:List Value} {w:World} (h:Lib.IsBuilder 77 5 B b bs w) (o:Obj):Lib.IsBuilder 77 5 B b bs (w.alloc o):=by
 rcases h with h | h
 ·exact Or.inl (Eu h o)
 ·exact Or.inr (Eu h o)
theorem Tryz.info34:(Tryz.prog.info? 44).map (fun i=>(i.zero,i.size,i.bytes))=some (some (zf #[O zc 0,O zc 0,.string ⟨#[]⟩]),3,32):=by kernel_rfl
theorem MN (wr:World) (B:Nat) (x y z v m n:Value) (h0:wr.cell? ⟨B,0,none⟩=some x) (h1:wr.cell? ⟨B+1,0,none⟩=some y) (h2:wr.cell? ⟨B+1+1,0,none⟩=some z) :
  (((wr.setCell ⟨B,0,none⟩ v).setCell ⟨B+1,0,none⟩ m).setCell ⟨B+1+1,0,none⟩ n).cell? ⟨B,0,none⟩=some v /\
  (((wr.setCell ⟨B,0,none⟩ v).setCell ⟨B+1,0,none⟩ m).setCell ⟨B+1+1,0,none⟩ n).cell? ⟨B+1,0,none⟩=some m /\
  (((wr.setCell ⟨B,0,none⟩ v).setCell ⟨B+1,0,none⟩ m).setCell ⟨B+1+1,0,none⟩ n).cell? ⟨B+1+1,0,none⟩=some n:=by
 simp [go_sem,h0,h1,h2]
theorem Ic {w:World} {base base':Nat} {e:TypeId} {size:Nat} {v:Value} {n:Nat} {xs:List Value} (h:w.ownsRow base e size v n xs) (hb:base'<=base):w.ownsRow base' e size v n xs:=by
 obtain ⟨i,a⟩:=h;refine ⟨i,?_⟩;rcases a with a | ⟨g,c,b,f,j,r⟩
 ·exact Or.inl a
 ·exact Or.inr ⟨g,c,b,f,by omega,r⟩
theorem Jy {w1 w2:World} {B:Nat} {e:TypeId} {size:Nat} {v:Value} {n:Nat} {xs:List Value} {o o':Obj} (hown:w1.ownsRow (B+3) e size v n xs)
  (hg:((w1.alloc o).alloc o').grownBy w2 v.ownBlock) (hw1:B+3<=w1.heap.size) :
  (∀ b off,b < B+3->w2.cell? ⟨b,off,none⟩=w1.cell? ⟨b,off,none⟩)/\(∀ b off,b < B+3->w2.frozen? ⟨b,off,none⟩=w1.frozen? ⟨b,off,none⟩) /\
  (∀ off,w2.cell? ⟨w1.heap.size,off,none⟩=(w1.alloc o).cell? ⟨w1.heap.size,off,none⟩)/\w1.heap.size+2<=w2.heap.size/\Below B w1 w2:=by
 have g:((w1.alloc o).alloc o').heap.size=w1.heap.size+2:=by simp
 have a:∀ k,k < B+3->w2.heap[k]? = w1.heap[k]?:=fun k i=>by
  rw [hg.block k (by omega) (fun h=>by have:=(hown.lt k h.symm).1;omega),Below.heap_alloc _ _ _ (by simp;omega),Below.heap_alloc _ _ _ (by omega)]
 have c:w2.heap[w1.heap.size]? = (w1.alloc o).heap[w1.heap.size]?:=by
  rw [hg.block _ (by omega) (fun h=>by have:=(hown.lt _ h.symm).2;omega),Below.heap_alloc _ _ _ (by simp)]
 refine ⟨fun b off f=>World.cell?_of_block (a b f),fun b off f=>World.frozen?_of_block (a b f),fun off=>World.cell?_of_block c,by have:=hg.size;omega,?_⟩;exact ⟨hg.os,hg.tape,hg.output,by have:=hg.size;omega,fun k i=>a k (by omega)⟩
def Mh (s:ByteArray) (w:World) (B:Nat) (vi:Value) (wr:World):Prop:=
 ∃ (i f:Nat) (ts:List Tok) (v:Value),vi=O zc ((AI false s.data.toList i:Nat):Int)/\i<=s.size/\s.size < f+i/\Ch s=pre ts (Bv s f false i)/\ts.length<=i /\
  wr.cell? ⟨B,0,none⟩=some v/\wr.cell? ⟨B+1,0,none⟩=some (O zc 0)/\wr.cell? ⟨B+1+1,0,none⟩=some (O zc 0) /\
  wr.frozen? ⟨B,0,none⟩=false/\wr.frozen? ⟨B+1,0,none⟩=false/\wr.frozen? ⟨B+1+1,0,none⟩=false /\
  wr.ownsRow (B+3) 44 3 v ts.length (AF ts)/\Below B w wr/\B+3<=wr.heap.size
theorem N3 (s:ByteArray) (hs:s.size<=6000) (w:World) :
  Calls Tryz.prog 40 #[.string s] w fun e w'=>∃ v,e=zi (zj #[v,O zc (Ci s:Int),O zc (AZ s:Int)]) /\
   w'.ownsRow w.heap.size 44 3 v (Aq s).length (AF (Aq s))/\Below w.heap.size w w':=by
 have bi:∀ (fn:Fn) (first cap:Array Value) (w:World),(Instr.makeFunc fn first cap).run Tryz.prog w=.ok (.func fn first cap) w:=fun _ _ _ _=>rfl;obtain ⟨i0,hi,aw,av,au⟩:=info_parts Tryz.info34
 go_enter_defers Tryz.func40,Tryz.ntmps40
 go_wp2_with fail;refine (JL s 0 (Nat.zero_le _) hs _).mono ?_;rintro e w' ⟨rfl,rfl⟩;go_wp2_with fail;go_loopw [5] (fun i wr=>Mh s w w.heap.size i wr) (fun i _=>s.size - (intOf i).toNat)
 case atStart=>
  refine ⟨0,s.size+1,[],zd none 0 0,rfl,Nat.zero_le _,by omega,(Mk _).symm,Nat.zero_le _,by simp [go_sem],by simp [go_sem],by simp [go_sem],by simp [go_sem],by simp [go_sem],by simp [go_sem],World.ownsRow_nil _ _ _ _,?_,by simp⟩;exact (((Below.refl _ w).alloc (Nat.le_refl _) _).alloc (by simp) _).alloc (by simp;omega) _
 case round=>
  obtain ⟨i,f,y,v,rfl,a1,bk,ah,be,c0,c1,c2,f0,f1,f2,g,n,bg⟩:=hrel;have ac:=Aa ah;clear ah;have hj:=NN (note:=false) (l:=s.data.toList) (i:=i) (by simpa using a1);have a0:AI false s.data.toList i<=s.size:=by simpa using hj
  have az:=EI false s.data.toList i;obtain ⟨j,S⟩:∃ j,j=AI false s.data.toList i:=⟨_,rfl⟩;rw [<-S] at a0 az ⊢;have HJ:=Aa S;clear S hj;obtain ⟨ao,cap,rfl⟩:=AX g;by_cases hlt:j < s.size
  ·go_wp2_with fail
   refine (Ow s j hlt hs _).mono ?_;rintro e Q ⟨rfl,c⟩;obtain ⟨U,T⟩:=Eb c;by_cases he:AA s j=0
   ·simp only [Bt,he,if_true,AC]
    have ax:w.heap.size+3<=Q.heap.size:=by have:=c.size;omega
    have ab:=(U w.heap.size 0 (by omega)).trans c0;have aa:=(U (w.heap.size+1) 0 (by omega)).trans c1;have Z:=(U (w.heap.size+1+1) 0 (by omega)).trans c2;have Y:=(T w.heap.size 0 (by omega)).trans f0;have X:=(T (w.heap.size+1) 0 (by omega)).trans f1;have W:=(T (w.heap.size+1+1) 0 (by omega)).trans f2;have b:=FK g c;have E:Below w.heap.size w Q:=n.trans (c.mono (by omega));clear U T c0 c1 c2 f0 f1 f2 g n c;have g0:w.heap.size < Q.heap.size:=by omega
    have g1:w.heap.size+1 < Q.heap.size:=by omega
    have g2:w.heap.size+1+1 < Q.heap.size:=by omega
    have C:=Ca he;have r:GS s j=⟨(Aw s j).1,j,s.extract j (Aw s j).2⟩:=rfl;have G:(s.extract j (Aw s j).2).size=(Aw s j).2 - j:=by simp;omega
    obtain ⟨kk,aj⟩:∃ kk,kk=(Aw s j).1:=⟨_,rfl⟩;obtain ⟨N,I⟩:∃ N,N=(Aw s j).2:=⟨_,rfl⟩;rw [<-aj,<-I] at r ⊢;rw [<-I] at C G;obtain ⟨tx,af⟩:∃ tx,tx=s.extract j N:=⟨_,rfl⟩;rw [<-af] at r G ⊢;have HT:=Aa r;have HX:=Aa G;have a8:=Aa I;clear r G aj I af;go_wp2_with (at_builtin;refine wpList_append_own _ rfl _ _ 34 rfl (w.heap.size+3) 44 i0 (zf #[O zc 0,O zc 0,.string ⟨#[]⟩]) 3 32 Tryz.underlying34 hi aw av au rfl (by decide) _ _ _ rfl ((b.alloc _).alloc _) ⟨Q.heap.size+1,0,none⟩ 1 1 [O zc (kk:Int),O zc (j:Int),.string tx] rfl rfl ?c1 ?c2 ?c3 ?c4 ?c5 ?_)
    case c1=>
     intro q u F
     match q,F with
     | 0,F=>simp at F;subst F;simp [Addr.add]
     | 1,F=>simp at F;subst F;simp [Addr.add]
     | 2,F=>simp at F;subst F;simp [Addr.add]
    case c2=>intro u hu;simp at hu;rcases hu with rfl | rfl | rfl <;> rfl
    case c3=>unfold maxLen;omega
    case c4=>omega
    case c5=>simp;omega
    ·intro v' w2 A B ay
     obtain ⟨J,H,ag,bh,L⟩:=Jy b B ax;have ab:=(J w.heap.size 0 (by omega)).trans ab;have aa:=(J (w.heap.size+1) 0 (by omega)).trans aa;have Z:=(J (w.heap.size+1+1) 0 (by omega)).trans Z;have Y:=(H w.heap.size 0 (by omega)).trans Y;have X:=(H (w.heap.size+1) 0 (by omega)).trans X;have W:=(H (w.heap.size+1+1) 0 (by omega)).trans W;have t2:w2.cell? ⟨Q.heap.size,2,none⟩=some (.string tx):=by rw [ag 2];simp [go_sem]
     have V:Below w.heap.size w w2:=E.trans L;obtain ⟨ak,P,rfl⟩:=AX A;clear J H ag L b E B ay;have bf:tx.size<=6000:=by have:=HX.out;omega
     go_wp2_with fail;rw [show ((j:Int)+(tx.size:Int))=((N:Nat):Int) from by have:=HX.out;omega];refine (JL s N C.2 hs _).mono ?_;rintro e w' ⟨rfl,rfl⟩;have R:Mh s w w.heap.size (O zc ((AI false s.data.toList N:Nat):Int)) (w2.setCell { block:=w.heap.size,off:=0 } (Value.slice ak (y.length+1) P)):=by
      obtain ⟨M,rfl⟩:∃ M,f=M + 1:=⟨f - 1,by omega⟩;have x:=Iu ac.out (by rw [<-HJ.out];exact hlt) (by rw [<-HJ.out];exact he);rw [<-HJ.out,<-a8.out,HT.out] at x;refine ⟨N,M,y++[⟨kk,j,tx⟩],zd ak (y.length+1) P,rfl,C.2,by omega,x,by simp;omega,by simp [go_sem,ab],by simp [go_sem,aa],by simp [go_sem,Z],by simp [go_sem,Y],by simp [go_sem,X],by simp [go_sem,W],?_,V.setCell (by simp) _,by simp [World.setCell];omega⟩;rw [EB,List.length_append];exact ownsRow_setCell_below A (by simp) _
     have hm:=EI false s.data.toList N;go_wp2_with fail;refine ⟨R,?_⟩;simp [intOf];omega
   ·simp only [Bt,he,if_false,B4]
    go_wp2_with fail;refine leaves_cons (f:=80) (args:=#[zh (some ⟨w.heap.size,0,none⟩),zh (some ⟨w.heap.size+1,0,none⟩),zh (some ⟨w.heap.size+1+1,0,none⟩)]) (by simp) (by simp [go_sem]) ?_;refine (Kx w.heap.size _ 0 0 _ _ [] _ (by have:=c.size;omega) ((U _ _ (by omega)).trans c0) ((U _ _ (by omega)).trans c1) ((U _ _ (by omega)).trans c2) ((T _ _ (by omega)).trans f0) ((T _ _ (by omega)).trans f1) ((T _ _ (by omega)).trans f2)).mono ?_;rintro e u' w2 ⟨rfl,rfl,d0,d1,d2,L⟩;have x:=ac.out;obtain ⟨M,rfl⟩:∃ M,f=M + 1:=⟨f - 1,by omega⟩;have a:=It x (by rw [<-HJ.out];exact hlt) (by rw [<-HJ.out];exact he);rw [<-HJ.out] at a;have hT:Aq s=[]:=by simp [Aq,a]
    have hP:Ci s=j:=by simp [Ci,a]
    have hE:AZ s=AA s j:=by simp [AZ,a]
    have K:Below w.heap.size w w2:=(n.trans (c.mono (by omega))).trans L;simp [Leaves,settle,results,Tryz.results40,go_sem,d0,d1,d2,hT,hP,hE];exact ⟨World.ownsRow_nil _ _ _ _,K⟩
  ·go_wp2_with fail
   refine leaves_cons (f:=80) (args:=#[zh (some ⟨w.heap.size,0,none⟩),zh (some ⟨w.heap.size+1,0,none⟩),zh (some ⟨w.heap.size+1+1,0,none⟩)]) (by simp) (by simp [go_sem]) ?_;refine (LQ _ _ _ _).mono ?_;rintro e u' w2 ⟨rfl,rfl,rfl⟩;obtain ⟨d0,d1,d2⟩:=MN wr w.heap.size _ _ _ (zd ao y.length cap) (O zc 0) (O zc 0) c0 c1 c2;have x:=ac.out;obtain ⟨M,rfl⟩:∃ M,f=M + 1:=⟨f - 1,by omega⟩;have a:=JT x (by rw [<-HJ.out];exact hlt);have hT:Aq s=y:=by simp [Aq,a]
   have hP:Ci s=0:=by simp [Ci,a]
   have hE:AZ s=0:=by simp [AZ,a]
   have K:Below w.heap.size w (((wr.setCell ⟨w.heap.size,0,none⟩ (zd ao y.length cap)).setCell ⟨w.heap.size+1,0,none⟩ (O zc 0)).setCell ⟨w.heap.size+1+1,0,none⟩ (O zc 0)):=
    ((n.setCell (by simp) _).setCell (by simp) _).setCell (by simp;omega) _
   have ai:(((wr.setCell ⟨w.heap.size,0,none⟩ (zd ao y.length cap)).setCell ⟨w.heap.size+1,0,none⟩ (O zc 0)).setCell ⟨w.heap.size+1+1,0,none⟩ (O zc 0)).ownsRow w.heap.size 44 3 (zd ao y.length cap) y.length (AF y):=
    Ic (ownsRow_setCell_below (ownsRow_setCell_below (ownsRow_setCell_below g (by simp) _) (by simp) _) (by simp) _) (by omega)
   generalize (((wr.setCell ⟨w.heap.size,0,none⟩ (zd ao y.length cap)).setCell ⟨w.heap.size+1,0,none⟩ (O zc 0)).setCell ⟨w.heap.size+1+1,0,none⟩ (O zc 0))=wF at d0 d1 d2 K ai ⊢;simp [Leaves,settle,results,Tryz.results40,go_sem,d0,d1,d2,hT,hP,hE];exact ⟨ai,K⟩
def MB (s:ByteArray) (w:World) (e:Ending) (w':World):Prop:=
 ∃ (v:Value) (ts:List Tok) (p r:Nat),e=zi (zj #[v,O zc (p:Int),O zc (r:Int)]) /\
  w'.ownsRow w.heap.size 44 3 v ts.length (AF ts)/\Below w.heap.size w w' /\
  (if s.size<=6000 then ts=Aq s/\p=Ci s/\r=AZ s else ts=[]/\p=0/\r=2)
theorem F0 (s:ByteArray) (hs:s.size<=maxLen) (w:World):Calls Tryz.prog 17 #[.string s] w (MB s w):=by
 unfold maxLen at hs;by_cases h:s.size<=6000
 ·go_enter Tryz.func17,Tryz.ntmps17
  go_wp2_with fail;refine (N3 s h _).mono ?_;rintro e c ⟨v,rfl,a,b⟩;go_wp2_with fail
  go_ret3
  exact ⟨v,Aq s,Ci s,AZ s,rfl,a,b,by rw [if_pos h];exact ⟨rfl,rfl,rfl⟩⟩
 ·go_enter Tryz.func17,Tryz.ntmps17
  go_wp2_with fail
  go_ret3
  exact ⟨zd none 0 0,[],0,2,rfl,World.ownsRow_nil _ _ _ _,Below.refl _ _,by rw [if_neg h];exact ⟨rfl,rfl,rfl⟩⟩
def Hw (w:World) (v:Value) (ts:List Tok):Prop:=
 ∃ ao cap,v=zd ao ts.length cap/\(ts≠[]->∃ b off,ao=some ⟨b,off,none⟩/\∀ j u,(AF ts)[j]? = some u->w.cell? ⟨b,off+j,none⟩=some u)
theorem Ei {w:World} {B:Nat} {v:Value} {ts:List Tok} (h:w.ownsRow B 44 3 v ts.length (AF ts)):Hw w v ts:=by
 have n:=fun g=>h.cells (g:=g);rcases h.2 with ⟨rfl,i⟩ | ⟨g,c,r,rfl,_⟩
 ·exact ⟨none,0,by rw [i],fun b=>absurd (List.eq_nil_of_length_eq_zero i) b⟩
 ·refine ⟨_,c,rfl,fun _=>⟨g,0,rfl,fun j u l=>?_⟩⟩
  have f:=n g rfl j u l;have a:(⟨g,0,none⟩:Addr).add j=⟨g,j,none⟩:=by unfold Addr.add;split <;> simp_all
  rw [a] at f;simpa using f
theorem Ki {w w':World} {v:Value} {ts:List Tok} (h:Hw w v ts) (hb:Below w.heap.size w w'):Hw w' v ts:=by
 obtain ⟨y,i,n,x⟩:=h;refine ⟨y,i,n,fun c=>?_⟩;obtain ⟨b,a,g,f⟩:=x c;exact ⟨b,a,g,fun j u r=>by
  have l:=f j u r;rw [hb.cell (p:=⟨b,a+j,none⟩) (World.block_lt_of_cell? w _ l)];exact l⟩
def Ai (t:Tok):Bool:=
 decide (t.text.size<=6000) && decide (AZ t.text=0) && match Aq t.text with
  | [u]=>(u.kind == t.kind) && (u.text.data.toList == t.text.data.toList)
  | _=>false
theorem Nx (k a:Int) (x:ByteArray) (hx:x.size<=maxLen) (w:World) :
  Calls Tryz.prog 41 #[AC k a x] w fun e w'=>e=zi (ze (Ai ⟨k,a,x⟩))/\Below w.heap.size w w':=by
 unfold AC;go_enter Tryz.func41,Tryz.ntmps41;go_wp2_with fail;refine (F0 x hx _).mono ?_;rintro e C ⟨v,K,p,r,rfl,c,J,g⟩;obtain ⟨I,P⟩:=Eb J;have S:C.cell? ⟨w.heap.size,0,none⟩=some (O zc k):=by rw [I _ _ (by simp)];simp [go_sem]
 have R:C.cell? ⟨w.heap.size,2,none⟩=some (.string x):=by rw [I _ _ (by simp)];simp [go_sem]
 have f:Below w.heap.size w C:=((Below.refl _ w).alloc (Nat.le_refl _) _).trans (J.mono (by simp));clear I P J;by_cases hr:r=0
 ·have i:x.size<=6000:=by
   rcases Nat.lt_or_ge 6000 x.size with h | h
   ·rw [if_neg (by omega)] at g;omega
   ·exact h
  rw [if_pos i] at g;obtain ⟨j,L,y⟩:=g;have Q:((r:Int) == 0)=true:=by simp;omega
  by_cases h1:K.length=1
  ·obtain ⟨u,rfl⟩:=List.length_eq_one_iff.1 h1
   obtain ⟨N,G,rfl,F⟩:=Ei c;obtain ⟨b,E,rfl,A⟩:=F (by simp);have u0:C.cell? ⟨b,E,none⟩=some (O zc u.kind):=A 0 _ rfl;have u2:C.cell? ⟨b,E+2,none⟩=some (.string u.text):=A 2 _ rfl;have n:Ai ⟨k,a,x⟩=((u.kind == k) && (u.text.toList == x.toList)):=by
    simp [Ai,i,<-y,hr,<-j,ByteArray.toList_eq]
   have B:=Aa n;clear n A F c j L y hr h1;by_cases hk:(u.kind == k)=true
   ·go_wp2_with fail
    go_quiet ((fail))
    go_wp2
    go_ret;exact ⟨by rw [B.out,hk];rfl,below_drewN f _⟩
   ·have H:(u.kind == k)=false:=by simpa using hk
    clear hk;go_wp2_with fail
    go_quiet ((fail))
    go_wp2
    go_ret;exact ⟨by rw [B.out,H];rfl,below_drewN f _⟩
  ·have T:((K.length:Int) == 1)=false:=by simp;omega
   obtain ⟨N,G,rfl⟩:=AX c;have n:Ai ⟨k,a,x⟩=false:=by
    have M:¬ (Aq x).length=1:=by rw [<-j];exact h1
    simp only [Ai];generalize Aq x=l at M
    match l,M with
    | [],_=>simp
    | [u],h=>simp at h
    | u::v::m,_=>simp
   have B:=Aa n;clear n c j L y hr h1;go_wp2_with fail
   go_quiet ((fail))
   go_wp2
   go_ret;exact ⟨by rw [B.out];rfl,below_drewN f _⟩
 ·have Q:((r:Int) == 0)=false:=by simp;omega
  obtain ⟨N,G,rfl⟩:=AX c;have n:Ai ⟨k,a,x⟩=false:=by
   by_cases i:x.size<=6000
   ·rw [if_pos i] at g
    have:¬ AZ x=0:=by rw [<-g.2.2];exact hr
    simp [Ai,this]
   ·simp [Ai,i]
  have B:=Aa n;clear n c g;go_wp2_with fail
  go_quiet ((fail))
  go_wp2
  go_ret;exact ⟨by rw [B.out];rfl,below_drewN f _⟩
def CY:List Tok->List UInt8
 | []=>[]
 | [t]=>t.text.data.toList
 | t::u::ts=>t.text.data.toList++32::CY (u::ts)
def BW (ts:List Tok):Nat:=(ts.map fun t=>t.text.size+1).sum
theorem GY (ts:List Tok) (t:Tok):BW (ts++[t])=BW ts+(t.text.size+1):=by simp [BW]
theorem LD (ts:List Tok) (t:Tok):CY (ts++[t])=if ts=[] then t.text.data.toList else CY ts++32::t.text.data.toList:=by
 induction ts with
 | nil=>simp [CY]
 | cons u ts ih=>
  cases ts with
  | nil=>simp [CY]
  | cons v ts=>simp [CY] at ih ⊢;rw [ih]
theorem Jg (ts:List Tok):(CY ts).length+1=BW ts\/ts=[]:=by
 induction ts with
 | nil=>exact Or.inr rfl
 | cons u ts ih=>
  left
  cases ts with
  | nil=>simp [CY,BW]
  | cons v ts=>
   have:=ih.resolve_right (by simp);simp [CY,BW] at this ⊢;omega
theorem Ln (ts:List Tok) (k:Nat):BW (ts.take k)<=BW ts:=by
 induction ts generalizing k with
 | nil=>simp [BW]
 | cons u ts ih=>
  cases k with
  | zero=>simp [BW]
  | succ k=>have:=ih k;simp [BW] at this ⊢;omega
theorem DT {w:World} {b off:Nat} {ts:List Tok} (h:∀ j u,(AF ts)[j]? = some u->w.cell? ⟨b,off+j,none⟩=some u) {i:Nat} (hi:i < ts.length) :
  w.cell? ⟨b,off+i*3,none⟩=some (O zc ts[i].kind)/\w.cell? ⟨b,off+i*3+1,none⟩=some (O zc ts[i].pos)/\w.cell? ⟨b,off+i*3+2,none⟩=some (.string ts[i].text):=by
 have a:∀ (ts:List Tok) (i:Nat) (hi:i < ts.length),(AF ts)[i*3]? = some (O zc ts[i].kind)/\(AF ts)[i*3+1]? = some (O zc ts[i].pos)/\(AF ts)[i*3+2]? = some (.string ts[i].text):=by
  intro ts
  induction ts with
  | nil=>intro i hi;simp at hi
  | cons t ts ih=>
   intro i hi
   cases i with
   | zero=>simp [AF,EC]
   | succ i=>
    have:=ih i (by simpa using hi);have e:∀ j,(AF (t::ts))[(i+1)*3+j]? = (AF ts)[i*3+j]?:=fun j=>by
     have:(i+1)*3+j=i*3+j+3:=by omega
     rw [this];simp [AF,EC]
    have c:=e 0;simp only [Nat.add_zero] at c;rw [c,e 1,e 2];simpa using this
 obtain ⟨f,k1,k2⟩:=a ts i hi;exact ⟨h _ _ f,by rw [Nat.add_assoc];exact h _ _ k1,by rw [Nat.add_assoc];exact h _ _ k2⟩
theorem OU (v:Value) (ts:List Tok) (w:World) (hv:Hw w v ts) (hs:BW ts<=6001) :
  Calls Tryz.prog 42 #[v] w fun e w'=>e=zi (.string ⟨(CY ts).toArray⟩)/\Below w.heap.size w w':=by
 obtain ⟨ao,ab,rfl,L⟩:=hv;have hn:ts.length<=6001:=by
  have:∀ l:List Tok,l.length<=BW l:=by
   intro l
   induction l with
   | nil=>simp [BW]
   | cons u l ih=>simp [BW] at ih ⊢;omega
  have:=this ts;omega
 go_enter Tryz.func42,Tryz.ntmps42;go_wp2_with fail;go_loopw [8] (fun i wr=>∃ k:Nat,k<=ts.length/\i=O zc k/\Lib.IsBuilder 77 5 w.heap.size w.heap.size (Lib.byteCells (CY (ts.take k))) wr/\Below w.heap.size w wr/\w.heap.size < wr.heap.size) (fun i _=>ts.length - (intOf i).toNat)
 case atStart=>exact ⟨0,Nat.zero_le _,rfl,Lib.fresh_isBuilder 77 5 w,(Below.refl _ w).alloc (Nat.le_refl _) _,by simp⟩
 case round=>
  obtain ⟨k,hk,rfl,P,a,Y⟩:=hrel;by_cases hkl:k < ts.length
  ·obtain ⟨b,A,rfl,K⟩:=L (by rintro rfl;simp at hkl)
   obtain ⟨q0,q1,T⟩:=DT K hkl;have Q:b < w.heap.size:=World.block_lt_of_cell? w _ q0;have G:=(a.cell (p:=⟨b,A+k*3,none⟩) Q).trans q0;have F:=(a.cell (p:=⟨b,A+k*3+1,none⟩) Q).trans q1;have E:=(a.cell (p:=⟨b,A+k*3+2,none⟩) Q).trans T;clear q0 q1 T K L;obtain ⟨kk,f⟩:∃ x,x=ts[k].kind:=⟨_,rfl⟩;obtain ⟨pp,I⟩:∃ x,x=ts[k].pos:=⟨_,rfl⟩;obtain ⟨tx,B⟩:∃ x,x=ts[k].text:=⟨_,rfl⟩;rw [<-f] at G;rw [<-I] at F;rw [<-B] at E;have HT:=Aa B;clear f I B;have r:ts.take (k+1)=ts.take k++[ts[k]]:=List.take_succ_eq_append_getElem hkl;have H:=Ln ts (k+1);rw [r,GY,<-HT.out] at H;have aa:(Lib.byteCells (CY (ts.take k))).length<=6001:=by
    rw [Lib.byteCells_length];rcases Jg (ts.take k) with h | h
    ·omega
    ·rw [h];simp [CY]
   have g:CY (ts.take (k+1))=if ts.take k=[] then tx.data.toList else CY (ts.take k)++32::tx.data.toList:=by rw [r,LD,<-HT.out]
   have c:ts.take k=[] ↔ k=0:=by
    rw [List.take_eq_nil_iff];constructor
    ·rintro (h | h)
     ·exact h
     ·simp [h] at hkl
    ·exact Or.inl
   by_cases h0:k=0
   ·have X:¬ (0:Int) < (k:Int):=by omega
    rw [if_pos (c.2 h0)] at g;have J:CY (ts.take k)=[]:=by rw [c.2 h0];rfl
    have S:=Aa g;have R:=Aa J;clear h0 g J c r;go_wp2_with fail;refine (EV w.heap.size w.heap.size _ tx _ (Et P _) (by omega) (by omega) (by simp;omega)).mono ?_;rintro e C ⟨rfl,n,j,f⟩;go_wp2_with fail;refine ⟨⟨k+1,by omega,by go_num,Or.inr ?_,(a.alloc (by omega) _).trans j,by have:=j.size;simp at this;omega⟩,by simp [intOf];omega⟩;rw [S.out];rw [R.out] at n;simpa [Lib.byteCells,Lib.strCells] using n
   ·have X:(0:Int) < (k:Int):=by omega
    rw [if_neg (fun h=>h0 (c.1 h))] at g;have S:=Aa g;clear h0 g c r;go_wp2_with fail;refine (Nw w.heap.size w.heap.size _ 32 _ (Et P _) (by omega) (by simp;omega)).mono ?_;rintro e C ⟨rfl,n,j,f⟩;have W:=f wr.heap.size _ 44 (0,0) (heap_alloc_new wr _) (by decide) (by decide);have c2:C.cell? ⟨wr.heap.size,2,none⟩=some (.string tx):=by rw [Lib.cell_of_heap W];rfl
    have M:Below w.heap.size w C:=(a.alloc (by omega) _).trans j;have U:w.heap.size < C.heap.size:=by have:=j.size;simp at this;omega
    clear W f j G F E;go_wp2_with fail;refine (EV w.heap.size w.heap.size _ tx _ (Or.inr n) (by simp;omega) (by omega) (by omega)).mono ?_;rintro e w2 ⟨rfl,N,y,V⟩;go_wp2_with fail;refine ⟨⟨k+1,by omega,by go_num,Or.inr ?_,M.trans y,by have:=y.size;omega⟩,by simp [intOf];omega⟩;rw [S.out];simpa [Lib.byteCells,Lib.strCells] using N
  ·have Z:k=ts.length:=by omega
   go_wp2_with fail;refine (Tryz.Builder_String_any w.heap.size w.heap.size (CY (ts.take k)) _ P (by omega)).mono ?_;rintro e C ⟨rfl,n⟩;go_wp2_with fail;go_ret;exact ⟨rfl,a.trans n⟩
def St (rb:Nat) (tv:Value) (ts:List Tok) (en n:Nat) (w:World):Prop:=
 w.heap[rb]? = some (Obj.cells #[tv,O zc (n:Int),O zc (en:Int)] 93 (0,0))/\n<=ts.length/\ts.length<=6000/\∃ ao cap,tv=zd ao ts.length cap /\
  (ts≠[]->∃ b off,ao=some ⟨b,off,none⟩/\b≠rb/\∀ (j:Nat) (u:Value),(AF ts)[j]? = some u->w.cell? ⟨b,off+j,none⟩=some u)
theorem St.keep {rb:Nat} {tv:Value} {ts:List Tok} {en n m:Nat} {w w':World} (h:St rb tv ts en n w) (hg:w.grownBy w' (some rb))
  (hb:w'.heap[rb]? = some (Obj.cells #[tv,O zc (m:Int),O zc (en:Int)] 93 (0,0))) (hm:m<=ts.length):St rb tv ts en m w':=by
 obtain ⟨_,_,y,A,l,r,x⟩:=h;refine ⟨hb,hm,y,A,l,r,fun f=>?_⟩;obtain ⟨b,c,i,a,g⟩:=x f;exact ⟨b,c,i,a,fun j u v=>hg.cell (g j u v) (by simpa using a)⟩
theorem St.below {rb:Nat} {tv:Value} {ts:List Tok} {en n:Nat} {w w':World} (h:St rb tv ts en n w) (hb:Below w.heap.size w w'):St rb tv ts en n w':=by
 obtain ⟨v,C,B,E,l,x,A⟩:=h;refine ⟨by rw [hb.block rb (Array.getElem?_eq_some_iff.1 v).1];exact v,C,B,E,l,x,fun c=>?_⟩;obtain ⟨b,a,i,g,f⟩:=A c;exact ⟨b,a,i,g,fun j u y=>by
  have r:=f j u y;rw [hb.cell (p:=⟨b,a+j,none⟩) (World.block_lt_of_cell? w _ r)];exact r⟩
theorem Ae {w w':World} {r:Option Nat} (h:Below w.heap.size w w'):w.grownBy w' r:=⟨h.os,h.tape,h.output,h.size,fun k hk _=>h.block k hk⟩
theorem Ac {a b c:World} {r:Option Nat} (h:a.grownBy b r) (k:b.grownBy c r):a.grownBy c r:=
 ⟨k.os.trans h.os,k.tape.trans h.tape,k.output.trans h.output,Nat.le_trans h.size k.size,fun i hi hr=>(k.block i (Nat.lt_of_lt_of_le hi h.size) hr).trans (h.block i hi hr)⟩
theorem St.lt {rb:Nat} {tv:Value} {ts:List Tok} {en n:Nat} {w:World} (h:St rb tv ts en n w):rb < w.heap.size:=(Array.getElem?_eq_some_iff.1 h.1).1
theorem St.cells {rb:Nat} {tv:Value} {ts:List Tok} {en n:Nat} {w:World} (h:St rb tv ts en n w) :
  w.cell? ⟨rb,0,none⟩=some tv/\w.cell? ⟨rb,1,none⟩=some (O zc (n:Int))/\w.cell? ⟨rb,2,none⟩=some (O zc (en:Int))/\w.frozen? ⟨rb,1,none⟩=false:=by
 have:=h.1;refine ⟨?_,?_,?_,?_⟩ <;> simp [World.cell?,World.frozen?,this]
def Al (ts:List Tok) (en n:Nat):Int:=match ts[n]? with | some t=>t.pos | none=>(en:Int)
def Ag (ts:List Tok) (n:Nat):Tok:=match ts[n]? with | some t=>t | none=>⟨0,0,⟨#[]⟩⟩
def Ah (p:Int):Ending:=.panicked [{ v:=.iface 90 (O zc p),recovered:=false }]
theorem BT (rb:Nat) (tv:Value) (ts:List Tok) (en n:Nat) (w:World) (h:St rb tv ts en n w) :
  Calls Tryz.prog 93 #[zh (some ⟨rb,0,none⟩)] w fun e w'=>e=zi (O zc (Al ts en n))/\Below w.heap.size w w':=by
 obtain ⟨A,y,x,v⟩:=h.cells;obtain ⟨_,r,u,B,l,rfl,f⟩:=h;by_cases hlt:n < ts.length
 ·obtain ⟨b,i,rfl,j,c⟩:=f (by rintro rfl;simp at hlt)
  obtain ⟨q0,q1,g⟩:=DT c hlt;have a:Al ts en n=ts[n].pos:=by simp [Al,hlt]
  rw [a];clear a c f q0 g;go_enter Tryz.func93,Tryz.ntmps93
  go_wp2
  go_quiet ((fail))
  go_wp2
  go_quiet ((fail))
  go_wp2
  go_ret;exact ⟨rfl,below_drewN (below_drewN (Below.refl _ w) _) _⟩
 ·have a:Al ts en n=en:=by simp [Al,hlt]
  rw [a];clear a f;go_enter Tryz.func93,Tryz.ntmps93
  go_wp2
  go_quiet ((fail))
  go_wp2
  go_ret;exact ⟨rfl,below_drewN (Below.refl _ w) _⟩
theorem BV (rb:Nat) (tv:Value) (ts:List Tok) (en n:Nat) (w:World) (h:St rb tv ts en n w) :
  Calls Tryz.prog 55 #[zh (some ⟨rb,0,none⟩)] w fun e w'=>e=Ah (Al ts en n)/\Below w.heap.size w w':=by
 have H:=Aa (BT rb tv ts en n w h);clear h;go_enter Tryz.func55,Tryz.ntmps55;go_wp2_with fail;refine (H.out).mono ?_;rintro e b ⟨rfl,a⟩;go_wp2_with fail;exact ⟨rfl,rfl,a⟩
theorem Bk (rb:Nat) (tv:Value) (ts:List Tok) (en n:Nat) (w:World) (h:St rb tv ts en n w) :
  Calls Tryz.prog 92 #[zh (some ⟨rb,0,none⟩)] w fun e w'=>e=zi (AC (Ag ts n).kind (Ag ts n).pos (Ag ts n).text)/\Below w.heap.size w w':=by
 have A:=h.lt;obtain ⟨K,J,I,H⟩:=h.cells;obtain ⟨_,F,G,L,E,rfl,j⟩:=h;by_cases hlt:n < ts.length
 ·obtain ⟨b,u,rfl,B,i⟩:=j (by rintro rfl;simp at hlt)
  obtain ⟨q0,q1,l⟩:=DT i hlt;have C:b < w.heap.size:=World.block_lt_of_cell? w _ q0;have f:Ag ts n=ts[n]:=by simp [Ag,hlt]
  rw [f];obtain ⟨y,g⟩:∃ x,x=ts[n].kind:=⟨_,rfl⟩;obtain ⟨r,c⟩:∃ x,x=ts[n].pos:=⟨_,rfl⟩;obtain ⟨tx,a⟩:∃ x,x=ts[n].text:=⟨_,rfl⟩;rw [<-g] at q0 ⊢;rw [<-c] at q1 ⊢;rw [<-a] at l ⊢;clear f i j g c a;unfold AC;go_enter Tryz.func92,Tryz.ntmps92
  go_wp2
  go_quiet ((fail))
  go_wp2
  go_region
  go_wp2
  refine bodyPost_ret (v:=zf #[O zc y,O zc r,.string tx]) (by simp [results,Tryz.results92,go_sem]) rfl ⟨rfl,?_⟩
  repeat (first | exact Below.refl _ _ | refine Below.setCell ?_ (by simp) _ | refine below_drewN ?_ _ | refine Below.drew ?_ | refine Below.alloc ?_ (by simp) _)
 ·have f:Ag ts n=⟨0,0,⟨#[]⟩⟩:=by simp [Ag,hlt]
  rw [f];clear f j;unfold AC;go_enter Tryz.func92,Tryz.ntmps92
  go_wp2
  go_quiet ((fail))
  go_wp2
  refine bodyPost_ret (v:=zf #[O zc 0,O zc 0,.string ⟨#[]⟩]) (by simp [results,Tryz.results92,go_sem]) rfl ⟨rfl,?_⟩
  repeat (first | exact Below.refl _ _ | refine Below.setCell ?_ (by simp) _ | refine below_drewN ?_ _ | refine Below.drew ?_ | refine Below.alloc ?_ (by simp) _)
def GM:List (List UInt8):=[[97,99,116,111,114],[103,114,97,110,116],[115,112,101,97,107],[105,110],[111,117,116],[118,97,114],[102,117,110,99],[109,97,105,110],[103,101,116],[112,117,116],[114,101,118,101,97,108],[116,114,117,115,116],[105,102],[101,108,115,101],[119,104,105,108,101],[114,101,116,117,114,110]]
def CV (x:ByteArray):Bool:=GM.contains x.data.toList
theorem An {x:ByteArray} {l:List UInt8} (h:x.data.toList=l):x=⟨l.toArray⟩:=by
 apply ByteArray.ext;apply Array.toList_inj.1;simpa using h
theorem Av {x:ByteArray} {l:List UInt8} (h:¬ x.data.toList=l):(x.toList == l)=false:=by
 rw [ByteArray.toList_eq,beq_eq_false_iff_ne];exact h
theorem Hc (x:ByteArray) (w:World) :
  Calls Tryz.prog 108 #[.string x] w fun e w'=>e=zi (ze (CV x))/\w'=w:=by
 by_cases h0:x.data.toList=[97,99,116,111,114]
 ·obtain rfl:=An h0
  clear h0;go_enter Tryz.func108,Tryz.ntmps108
  go_wp2
  go_ret;exact ⟨rfl,rfl⟩
 by_cases h1:x.data.toList=[103,114,97,110,116]
 ·obtain rfl:=An h1
  clear h0 h1;go_enter Tryz.func108,Tryz.ntmps108
  go_wp2
  go_ret;exact ⟨rfl,rfl⟩
 by_cases h2:x.data.toList=[115,112,101,97,107]
 ·obtain rfl:=An h2
  clear h0 h1 h2;go_enter Tryz.func108,Tryz.ntmps108
  go_wp2
  go_ret;exact ⟨rfl,rfl⟩
 by_cases h3:x.data.toList=[105,110]
 ·obtain rfl:=An h3
  clear h0 h1 h2 h3;go_enter Tryz.func108,Tryz.ntmps108
  go_wp2
  go_ret;exact ⟨rfl,rfl⟩
 by_cases h4:x.data.toList=[111,117,116]
 ·obtain rfl:=An h4
  clear h0 h1 h2 h3 h4;go_enter Tryz.func108,Tryz.ntmps108
  go_wp2
  go_ret;exact ⟨rfl,rfl⟩
 by_cases h5:x.data.toList=[118,97,114]
 ·obtain rfl:=An h5
  clear h0 h1 h2 h3 h4 h5;go_enter Tryz.func108,Tryz.ntmps108
  go_wp2
  go_ret;exact ⟨rfl,rfl⟩
 by_cases h6:x.data.toList=[102,117,110,99]
 ·obtain rfl:=An h6
  clear h0 h1 h2 h3 h4 h5 h6;go_enter Tryz.func108,Tryz.ntmps108
  go_wp2
  go_ret;exact ⟨rfl,rfl⟩
 by_cases h7:x.data.toList=[109,97,105,110]
 ·obtain rfl:=An h7
  clear h0 h1 h2 h3 h4 h5 h6 h7;go_enter Tryz.func108,Tryz.ntmps108
  go_wp2
  go_ret;exact ⟨rfl,rfl⟩
 by_cases h8:x.data.toList=[103,101,116]
 ·obtain rfl:=An h8
  clear h0 h1 h2 h3 h4 h5 h6 h7 h8;go_enter Tryz.func108,Tryz.ntmps108
  go_wp2
  go_ret;exact ⟨rfl,rfl⟩
 by_cases h9:x.data.toList=[112,117,116]
 ·obtain rfl:=An h9
  clear h0 h1 h2 h3 h4 h5 h6 h7 h8 h9;go_enter Tryz.func108,Tryz.ntmps108
  go_wp2
  go_ret;exact ⟨rfl,rfl⟩
 by_cases h10:x.data.toList=[114,101,118,101,97,108]
 ·obtain rfl:=An h10
  clear h0 h1 h2 h3 h4 h5 h6 h7 h8 h9 h10;go_enter Tryz.func108,Tryz.ntmps108
  go_wp2
  go_ret;exact ⟨rfl,rfl⟩
 by_cases h11:x.data.toList=[116,114,117,115,116]
 ·obtain rfl:=An h11
  clear h0 h1 h2 h3 h4 h5 h6 h7 h8 h9 h10 h11;go_enter Tryz.func108,Tryz.ntmps108
  go_wp2
  go_ret;exact ⟨rfl,rfl⟩
 by_cases h12:x.data.toList=[105,102]
 ·obtain rfl:=An h12
  clear h0 h1 h2 h3 h4 h5 h6 h7 h8 h9 h10 h11 h12;go_enter Tryz.func108,Tryz.ntmps108
  go_wp2
  go_ret;exact ⟨rfl,rfl⟩
 by_cases h13:x.data.toList=[101,108,115,101]
 ·obtain rfl:=An h13
  clear h0 h1 h2 h3 h4 h5 h6 h7 h8 h9 h10 h11 h12 h13;go_enter Tryz.func108,Tryz.ntmps108
  go_wp2
  go_ret;exact ⟨rfl,rfl⟩
 by_cases h14:x.data.toList=[119,104,105,108,101]
 ·obtain rfl:=An h14
  clear h0 h1 h2 h3 h4 h5 h6 h7 h8 h9 h10 h11 h12 h13 h14;go_enter Tryz.func108,Tryz.ntmps108
  go_wp2
  go_ret;exact ⟨rfl,rfl⟩
 by_cases h15:x.data.toList=[114,101,116,117,114,110]
 ·obtain rfl:=An h15
  clear h0 h1 h2 h3 h4 h5 h6 h7 h8 h9 h10 h11 h12 h13 h14 h15;go_enter Tryz.func108,Tryz.ntmps108
  go_wp2
  go_ret;exact ⟨rfl,rfl⟩
 have hr:CV x=false:=by simp [CV,GM,h0,h1,h2,h3,h4,h5,h6,h7,h8,h9,h10,h11,h12,h13,h14,h15]
 have j:=Aa hr;have E:=Av h0;have C:=Av h1;have B:=Av h2;have A:=Av h3;have y:=Av h4;have v:=Av h5;have u:=Av h6;have r:=Av h7;have n:=Av h8;have l:=Av h9;have i:=Av h10;have g:=Av h11;have f:=Av h12;have c:=Av h13;have b:=Av h14;have a:=Av h15;clear hr h0 h1 h2 h3 h4 h5 h6 h7 h8 h9 h10 h11 h12 h13 h14 h15;go_enter Tryz.func108,Tryz.ntmps108
 go_wp2
 go_ret;exact ⟨by rw [j.out];rfl,rfl⟩
theorem BK (kk pp:Int) (tx:ByteArray) (w:World):(Instr.field 44 (zf #[O zc kk,O zc pp,.string tx]) 2).run Tryz.prog w=.ok (.string tx) w:=by
 simp [Instr.field,run_underlying Tryz.underlying44,go_sem,Result.andThen];rfl
theorem BL (kk pp:Int) (tx:ByteArray) (w:World):(Instr.field 44 (zf #[O zc kk,O zc pp,.string tx]) 0).run Tryz.prog w=.ok (O zc kk) w:=by
 simp [Instr.field,run_underlying Tryz.underlying44,go_sem,Result.andThen];rfl
theorem Q8 (rb:Nat) (tv:Value) (ts:List Tok) (en n:Nat) (x:ByteArray) (w:World) (h:St rb tv ts en n w) :
  Calls Tryz.prog 51 #[zh (some ⟨rb,0,none⟩),.string x] w fun e w'=>e=zi (ze ((Ag ts n).text.toList == x.toList))/\Below w.heap.size w w':=by
 have f:=Bk rb tv ts en n w h;obtain ⟨i,c⟩:∃ y,y=(Ag ts n).kind:=⟨_,rfl⟩;obtain ⟨g,b⟩:∃ y,y=(Ag ts n).pos:=⟨_,rfl⟩;obtain ⟨tx,a⟩:∃ y,y=(Ag ts n).text:=⟨_,rfl⟩;rw [<-c,<-b,<-a] at f;rw [<-a];unfold AC at f;have H:=Aa f;clear h f c b a;go_enter Tryz.func51,Tryz.ntmps51;go_wp2_with fail;refine (H.out).mono ?_;rintro e r ⟨rfl,l⟩;clear H;have j:=BK i g tx;go_wp2_with fail;go_ret;exact ⟨rfl,l⟩
theorem Cj {ts:List Tok} {n:Nat} (h:¬ (Ag ts n).text.data.toList=[]):n < ts.length:=by
 rcases Nat.lt_or_ge n ts.length with h1 | h1
 ·exact h1
 ·exfalso
  apply h;have:ts[n]? = none:=List.getElem?_eq_none h1;simp [Ag,this]
def isT (ts:List Tok) (n:Nat) (l:List UInt8):Bool:=(Ag ts n).text.data.toList == l
def AJ (t:Tok):Bool:=(t.kind == 1) && !CV t.text
theorem Q9 (ts:List Tok) (n:Nat) (x:ByteArray):((Ag ts n).text.toList == x.toList)=isT ts n x.data.toList:=by
 unfold isT;rw [ByteArray.toList_eq,ByteArray.toList_eq]
theorem Cf {ts:List Tok} {n:Nat} {l:List UInt8} (h:isT ts n l=true) (hl:l≠[]):n < ts.length:=
 Cj (fun h2=>hl (by rw [isT,h2] at h;exact (beq_iff_eq.1 h).symm))
theorem IG (rb:Nat) (tv:Value) (ts:List Tok) (en n:Nat) (x:ByteArray) (w:World) (h:St rb tv ts en n w) :
  Calls Tryz.prog 51 #[zh (some ⟨rb,0,none⟩),.string x] w fun e w'=>e=zi (ze (isT ts n x.data.toList))/\Below w.heap.size w w':=by
 rw [<-Q9];exact Q8 rb tv ts en n x w h
theorem CL {rb:Nat} {tv:Value} {ts:List Tok} {en n:Nat} {w:World} (h:St rb tv ts en n w) (hn:n < ts.length) :
  St rb tv ts en (n+1) (w.setCell ⟨rb,1,none⟩ (O zc ((n:Int)+1)))/\w.grownBy (w.setCell ⟨rb,1,none⟩ (O zc ((n:Int)+1))) (some rb):=by
 have b:w.grownBy (w.setCell ⟨rb,1,none⟩ (O zc ((n:Int)+1))) (some rb):=
  ⟨rfl,rfl,rfl,by simp [World.setCell],fun k c a=>Below.heap_setCell _ _ _ _ (fun e=>a (by rw [e]))⟩
 refine ⟨h.keep b ?_ hn,b⟩;have:=h.1;simp [World.setCell,Array.getElem?_modify,this]
theorem BX (rb:Nat) (tv:Value) (ts:List Tok) (en n:Nat) (x:ByteArray) (w:World) (h:St rb tv ts en n w) (hx:isT ts n x.data.toList=true) (hn:n < ts.length) :
  Calls Tryz.prog 98 #[zh (some ⟨rb,0,none⟩),.string x] w fun e w'=>e=zi (ze true)/\w.grownBy w' (some rb)/\St rb tv ts en (n+1) w':=by
 have c:=IG rb tv ts en n x w h;rw [hx] at c;have H:=Aa c;have l:=h.2.2.1;clear c hx;go_enter Tryz.func98,Tryz.ntmps98;go_wp2_with fail;refine (H.out).mono ?_;rintro e j ⟨rfl,g⟩;have i:=h.below g;obtain ⟨A,y,v,u⟩:=i.cells;have f:=Ae (r:=some rb) g;have a:=CL i hn;have b:=Aa a;clear H h a i g;go_wp2_with fail;go_ret;exact ⟨rfl,Ac f b.out.2,b.out.1⟩
theorem B5 (rb:Nat) (tv:Value) (ts:List Tok) (en n:Nat) (x:ByteArray) (w:World) (h:St rb tv ts en n w) (hx:isT ts n x.data.toList=false) :
  Calls Tryz.prog 98 #[zh (some ⟨rb,0,none⟩),.string x] w fun e w'=>e=zi (ze false)/\Below w.heap.size w w':=by
 have a:=IG rb tv ts en n x w h;rw [hx] at a;have H:=Aa a;clear a hx;go_enter Tryz.func98,Tryz.ntmps98;go_wp2_with fail;refine (H.out).mono ?_;rintro e c ⟨rfl,b⟩;go_wp2_with fail;go_ret;exact ⟨rfl,b⟩
theorem JF (rb:Nat) (tv:Value) (ts:List Tok) (en n:Nat) (x:ByteArray) (w:World) (h:St rb tv ts en n w) (hx:isT ts n x.data.toList=true) (hn:n < ts.length) :
  Calls Tryz.prog 53 #[zh (some ⟨rb,0,none⟩),.string x] w fun e w'=>e=zi (zj #[])/\w.grownBy w' (some rb)/\St rb tv ts en (n+1) w':=by
 have H:=Aa (BX rb tv ts en n x w h hx hn);clear h hx;go_enter Tryz.func53,Tryz.ntmps53;go_wp2_with fail;refine (H.out).mono ?_;rintro e c ⟨rfl,b,a⟩;go_wp2_with fail;go_end0;exact ⟨rfl,b,a⟩
theorem Ma (rb:Nat) (tv:Value) (ts:List Tok) (en n:Nat) (x:ByteArray) (w:World) (h:St rb tv ts en n w) (hx:isT ts n x.data.toList=false) :
  Calls Tryz.prog 53 #[zh (some ⟨rb,0,none⟩),.string x] w fun e w'=>e=Ah (Al ts en n)/\Below w.heap.size w w':=by
 have H:=Aa (B5 rb tv ts en n x w h hx);clear hx;go_enter Tryz.func53,Tryz.ntmps53;go_wp2_with fail;refine (H.out).mono ?_;rintro e c ⟨rfl,b⟩;have f:=Aa (BV rb tv ts en n c (h.below b));clear H h;go_wp2_with fail;refine (f.out).mono ?_;rintro e g ⟨rfl,a⟩;unfold Ah;go_wp2_with fail;exact ⟨rfl,rfl,b.trans (a.mono b.size)⟩
theorem BR (rb:Nat) (tv:Value) (ts:List Tok) (en n:Nat) (w:World) (h:St rb tv ts en n w) :
  Calls Tryz.prog 131 #[zh (some ⟨rb,0,none⟩)] w fun e w'=>e=zi (ze (AJ (Ag ts n)))/\Below w.heap.size w w':=by
 have i:=Bk rb tv ts en n w h;have hw:=Hc (Ag ts n).text;obtain ⟨r,hr⟩:∃ r,r=AJ (Ag ts n):=⟨_,rfl⟩;rw [<-hr];unfold AJ at hr;obtain ⟨l,b⟩:∃ y,y=(Ag ts n).kind:=⟨_,rfl⟩;obtain ⟨C,f⟩:∃ y,y=(Ag ts n).pos:=⟨_,rfl⟩;obtain ⟨tx,a⟩:∃ y,y=(Ag ts n).text:=⟨_,rfl⟩;rw [<-b,<-f,<-a] at i;rw [<-a] at hw;rw [<-b,<-a] at hr;unfold AC at i;obtain ⟨A,c⟩:∃ y,y=CV tx:=⟨_,rfl⟩;rw [<-c] at hw hr;have H:=Aa i;have x:=Aa hw;have u:=Aa hr;clear h i b f a hw hr c;by_cases hk:(l == 1)=true
 ·go_enter Tryz.func131,Tryz.ntmps131
  go_wp2_with fail;refine (H.out).mono ?_;rintro e v ⟨rfl,g⟩;clear H;go_wp2_with fail;refine (x.out _).mono ?_;rintro e B ⟨rfl,rfl⟩;go_wp2_with fail;go_ret;exact ⟨by rw [u.out,hk];rfl,g.alloc g.size _⟩
 ·have j:(l == 1)=false:=by simpa using hk
  clear hk;go_enter Tryz.func131,Tryz.ntmps131;go_wp2_with fail;refine (H.out).mono ?_;rintro e v ⟨rfl,g⟩;clear H;go_wp2_with fail;go_ret;exact ⟨by rw [u.out,j];rfl,g.alloc g.size _⟩
theorem Hd {ts:List Tok} {n:Nat} (h:AJ (Ag ts n)=true):n < ts.length:=by
 rcases Nat.lt_or_ge n ts.length with h1 | h1
 ·exact h1
 ·exfalso
  have e:ts[n]? = none:=List.getElem?_eq_none h1;simp [AJ,Ag,e] at h
theorem Ka (rb:Nat) (tv:Value) (ts:List Tok) (en n:Nat) (w:World) (h:St rb tv ts en n w) (hx:AJ (Ag ts n)=true) :
  Calls Tryz.prog 95 #[zh (some ⟨rb,0,none⟩)] w fun e w'=>e=zi (.string (Ag ts n).text)/\w.grownBy w' (some rb)/\St rb tv ts en (n+1) w':=by
 have G:=Hd hx;have u:=BR rb tv ts en n w h;rw [hx] at u;have H:=Aa u;have L:=h.2.2.1;clear u hx;go_enter Tryz.func95,Tryz.ntmps95;go_wp2_with fail;refine (H.out).mono ?_;rintro e C ⟨rfl,l⟩;have x:=h.below l;have j:=Bk rb tv ts en n C x;obtain ⟨F,g⟩:∃ y,y=(Ag ts n).kind:=⟨_,rfl⟩;obtain ⟨E,f⟩:∃ y,y=(Ag ts n).pos:=⟨_,rfl⟩;obtain ⟨tx,a⟩:∃ y,y=(Ag ts n).text:=⟨_,rfl⟩;rw [<-g,<-f,<-a] at j;unfold AC at j;have B:=Aa j;have A:=Aa a;have J:=BK F E tx;clear H j g f a;go_wp2_with fail;refine (B.out).mono ?_;rintro e K ⟨rfl,b⟩;have v:=x.below b;obtain ⟨P,O,N,M⟩:=v.cells;have I:=Ae (r:=some rb) (l.trans (b.mono l.size));have c:=CL v G;have i:=Aa c;clear B h c x v l b;go_wp2_with fail;go_ret;exact ⟨by rw [<-A.out];rfl,Ac I i.out.2,i.out.1⟩
theorem PZ (rb:Nat) (tv:Value) (ts:List Tok) (en n:Nat) (w:World) (h:St rb tv ts en n w) (hx:AJ (Ag ts n)=false) :
  Calls Tryz.prog 95 #[zh (some ⟨rb,0,none⟩)] w fun e w'=>e=Ah (Al ts en n)/\Below w.heap.size w w':=by
 have a:=BR rb tv ts en n w h;rw [hx] at a;have H:=Aa a;clear a hx;go_enter Tryz.func95,Tryz.ntmps95;go_wp2_with fail;refine (H.out).mono ?_;rintro e f ⟨rfl,c⟩;have g:=Aa (BV rb tv ts en n f (h.below c));clear H h;go_wp2_with fail;refine (g.out).mono ?_;rintro e i ⟨rfl,b⟩;unfold Ah;go_wp2_with fail;exact ⟨rfl,rfl,c.trans (b.mono c.size)⟩
end Go.Proofs.YtipngnjffjajpaaGreatDoor
