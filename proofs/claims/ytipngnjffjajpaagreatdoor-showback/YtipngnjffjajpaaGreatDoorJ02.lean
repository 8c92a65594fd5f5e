/- What token.scan defers: a panic of a place is recovered, and its place and reason are laid into the results. -/
import Derived.Test.YtipngnjffjajpaaGreatDoorJ01
import Derived.Defers
import Derived.Recover
import Derived.Lib.AppendStr
import Derived.Lib.Builder
import Derived.Laws.Externs
import Derived.Deep.QuietTactic
import Derived.BigQuiet
set_option linter.unusedVariables false
set_option maxHeartbeats 8000000
set_option maxRecDepth 100000
namespace Go.Proofs.YtipngnjffjajpaaGreatDoor
open Go.RowKit
open Go.Value renaming int -> I, slice -> zc, bool -> zd, pointer -> zf, agg -> zg, tuple -> zi
open Go.IntKind renaming i64 -> O
open Go.Obj renaming cells -> ze
open Go.Ending renaming returned -> zh
theorem Lq (p q r:Addr) (w:World) :
  CallsD Tryz.prog 80 #[zf (some p),zf (some q),zf (some r)] .returning w fun e u' w'=>e=zh (zi #[])/\u'=.returning/\w'=w:=by
 refine callsD_of_wpS Tryz.func80 rfl fun b c a=>?_;apply wpS_seq;apply wpS_region;simp [wpOpsS,go_sem,recoverD,a,Tryz.ntmps80,Exit.thenS];refine wpS_of_wp ?_
 change Code.wp Tryz.prog _ _ { tmps:=#[zf (some p),zf (some q),zf (some r),.nilIface,undef,.nilIface,undef,undef,undef,undef,undef,undef,undef,undef],defers:=[] } w
 go_wp2
 cases b
 simp_all [bodyPostS,results,Tryz.results80]
theorem Oj (v:Value) (w:World):(Instr.typeAssert (.iface 116 v) 20 116 false).run Tryz.prog w=.ok v w:=by
 simp [Instr.typeAssert,run_underlying Tryz.underlying116,go_sem,Result.andThen]
theorem JY (B:Nat) (x:Value) (m n a e:Int) (older:List PanicEntry) (w:World) (hB:B+3<=w.heap.size)
  (c0:w.cell? ⟨B,0,none⟩=some x) (c1:w.cell? ⟨B+1,0,none⟩=some (I O m)) (c2:w.cell? ⟨B+1+1,0,none⟩=some (I O n))
  (f0:w.frozen? ⟨B,0,none⟩=false) (f1:w.frozen? ⟨B+1,0,none⟩=false) (f2:w.frozen? ⟨B+1+1,0,none⟩=false) :
  CallsD Tryz.prog 80 #[zf (some ⟨B,0,none⟩),zf (some ⟨B+1,0,none⟩),zf (some ⟨B+1+1,0,none⟩)] (.panicking ({ v:=.iface 116 (zg #[I O a,I O e]),recovered:=false }::older)) w fun en u' w'=>
   en=zh (zi #[])/\u'=.panicking ({ v:=.iface 116 (zg #[I O a,I O e]),recovered:=true }::older) /\
   w'.cell? ⟨B,0,none⟩=some (zc none 0 0)/\w'.cell? ⟨B+1,0,none⟩=some (I O a)/\w'.cell? ⟨B+1+1,0,none⟩=some (I O e)/\Below B w w':=by
 have i:=Oj;refine callsD_of_wpS Tryz.func80 rfl fun j l g=>?_;apply wpS_seq;apply wpS_region;simp [wpOpsS,go_sem,recoverD,g,Tryz.ntmps80,Exit.thenS];refine wpS_of_wp ?_
 change Code.wp Tryz.prog _ _ { tmps:=#[zf (some ⟨B,0,none⟩),zf (some ⟨B+1,0,none⟩),zf (some ⟨B+1+1,0,none⟩),.iface 116 (zg #[I O a,I O e]),undef,.iface 116 (zg #[I O a,I O e]),undef,undef,undef,undef,undef,undef,undef,undef],defers:=[] } w
 go_wp2
 have f:B < w.heap.size:=by omega
 have c:B+1 < w.heap.size:=by omega
 have b:B+1+1 < w.heap.size:=by omega
 go_region
 go_wp2
 refine ⟨rfl,_,by cases j;simp_all,zi #[],by simp [results,Tryz.results80],rfl,rfl,?_⟩;refine ⟨by simp [go_sem,f,c0],by simp [go_sem,c,c1],by simp [go_sem,b,c2],?_⟩;exact (((((Below.refl B w).setCell (by simp) _).setCell (by simp) _).setCell (by simp;omega) _).alloc (by simp [World.setCell];omega) _).drew
theorem A1 {w:World} {base:Nat} {e:TypeId} {size:Nat} {v:Value} {n:Nat} {xs:List Value} (h:w.ownsRow base e size v n xs):∃ ao cap,v=zc ao n cap:=by
 rcases h.2 with ⟨rfl,rfl⟩ | ⟨g,cap,a,rfl,_⟩
 ·exact ⟨_,_,rfl⟩
 ·exact ⟨_,_,rfl⟩
def B9 (w w':World):Prop:=∀ (g:Nat) (cs:Array Value) (T:TypeId) (fr:Nat × Nat),w.heap[g]? = some (Obj.cells cs T fr)->T≠77->T≠5->w'.heap[g]? = some (Obj.cells cs T fr)
theorem B9.refl (w:World):B9 w w:=fun _ _ _ _ h _ _=>h
theorem B9.trans {a b c:World} (h:B9 a b) (k:B9 b c):B9 a c:=fun g cs T fr hg h1 h2=>k g cs T fr (h g cs T fr hg h1 h2) h1 h2
theorem B9.alloc (w:World) (o:Obj):B9 w (w.alloc o):=fun g cs T fr hg _ _=>by
 rw [Below.heap_alloc _ _ _ (Array.getElem?_eq_some_iff.1 hg).1];exact hg
theorem B9.setCell {w:World} {b:Nat} {cs:Array Value} {fr:Nat × Nat} (hb:w.heap[b]? = some (.cells cs 77 fr)) (o:Nat) (v:Value):B9 w (w.setCell ⟨b,o,none⟩ v):=fun g cs' T fr' hg h1 _=>by
 rw [Below.heap_setCell _ _ _ _ (fun e=>?_)]
 ·exact hg
 ·simp only at e
  rw [e] at hg;rw [hg] at hb;simp at hb;exact h1 hb.2.1
theorem B9.grown {w w':World} {B:Nat} {v:Value} {n:Nat} {xs:List Value} (hown:w.ownsRow B 5 1 v n xs) (hg:w.grownBy w' v.ownBlock):B9 w w':=fun g cs T fr hh _ h2=>by
 rw [hg.block g (Array.getElem?_eq_some_iff.1 hh).1 (fun e=>?_)]
 ·exact hh
 ·rcases hown.2 with ⟨rfl,_⟩ | ⟨g',cap,cur,rfl,_,hk,_⟩
  ·simp [Value.ownBlock] at e
  ·simp [Value.ownBlock] at e
   subst e;rw [hk] at hh;simp at hh;exact h2 hh.2.1.symm
theorem Tryz.size48:(Tryz.prog.info? 77).map (·.size)=some 2:=by kernel_rfl
theorem Tryz.lies48:liesAt Tryz.prog Tryz.prog.depth 77 (2 / Tryz.prog.cellsOf 77) 0 77 1=true:=by kernel_rfl
theorem Tryz.run39 (x:Value) (w:World):(callFunc 145 #[x]).run Tryz.prog w=.ok (.value x) w:=by
 rw [run_callFunc_extern Tryz.func145 (by kernel_rfl) (by kernel_rfl) (by kernel_rfl) (e:=Extern.AbiNoEscape.same) (by kernel_rfl),Lib.run_noEscape];rfl
theorem G1 (B b:Nat) (bs:List Value) (w:World) (h:Lib.IsBuilder 77 5 B b bs w) :
  Calls Tryz.prog 121 #[zf (some ⟨b,0,none⟩)] w fun e w'=>e=zh (zi #[])/\Lib.BuilderAt 77 5 B b (zf (some ⟨b,0,none⟩)) bs w'/\Below B w w'/\B9 w w':=by
 obtain ⟨j,f,c⟩:=Option.map_eq_some_iff.1 Tryz.size48;rcases h with h | h
 ·have x:=h.cell0
  have y:=h.frozen0;have l:=Lib.run_to_unsafe w ⟨b,0,none⟩ Tryz.underlying74 Tryz.underlying158 f (by rw [c];decide) h.shape (Nat.zero_lt_succ 1);have n:=Tryz.run39;have g:=Lib.run_from_unsafe w ⟨b,0,none⟩ Tryz.underlying158 Tryz.underlying74 f h.shape Tryz.lies48;have a:Lib.BuilderAt 77 5 B b (zf (some ⟨b,0,none⟩)) bs (w.setCell ⟨b,0,none⟩ (zf (some ⟨b,0,none⟩)))/\Below B w (w.setCell ⟨b,0,none⟩ (zf (some ⟨b,0,none⟩)))/\B9 w (w.setCell ⟨b,0,none⟩ (zf (some ⟨b,0,none⟩))):=
   ⟨h.used _,(Below.refl B w).setCell (p:=⟨b,0,none⟩) h.1 _,by obtain ⟨_,v,u,_⟩:=h;exact B9.setCell u _ _⟩
  have i:=Aa a;clear a h c f;go_enter Tryz.func121,Tryz.ntmps121
  go_wp2
  go_end0;exact ⟨rfl,i.out⟩
 ·have x:=h.cell0
  have r:=Lib.run_neq_ptr_same w ⟨b,0,none⟩ Tryz.underlying74 f;have i:=Aa h;clear h c f;go_enter Tryz.func121,Tryz.ntmps121
  go_wp2
  go_end0;exact ⟨rfl,i.out,Below.refl B w,B9.refl w⟩
theorem Ch {w:World} {b:Nat} {o:Obj} (h:w.heap[b]? = some o):b < w.heap.size:=(Array.getElem?_eq_some_iff.1 h).1
theorem MO (B b:Nat) (bs:List Value) (c:Int) (w:World) (h:Lib.IsBuilder 77 5 B b bs w) (hl:bs.length<=100000) (hBw:B<=w.heap.size) :
  Calls Tryz.prog 83 #[zf (some ⟨b,0,none⟩),I .u8 c] w fun e w'=>e=zh .nilIface/\Lib.BuilderAt 77 5 B b (zf (some ⟨b,0,none⟩)) (bs++[I .u8 c]) w'/\Below B w w'/\B9 w w':=by
 obtain ⟨U,V,J,H,G⟩:=info_parts Tryz.info5;go_enter Tryz.func83,Tryz.ntmps83;go_wp2_with fail;refine (G1 B b bs _ h).mono ?_;rintro e E ⟨rfl,⟨N,v,y,f,K⟩,l,x⟩;have S:E.cell? ⟨b,1,none⟩=some v:=by rw [Lib.cell_of_heap y];rfl
 have L:=Ch y;obtain ⟨P,C,rfl⟩:=A1 f;go_wp2_with (at_builtin;refine wpList_append_own _ rfl _ _ 75 rfl B 5 U (I .u8 0) 1 1 Tryz.underlying75 V J H G rfl (by decide) _ _ _ rfl (f.alloc _) ⟨E.heap.size,0,none⟩ 1 1 [I .u8 c] rfl rfl ?c1 ?c2 ?c3 ?c4 ?c5 ?_)
 case c1=>
  intro j u F
  match j,F with
  | 0,F=>simp at F;subst F;simp [Addr.add]
 case c2=>intro u M;simp at M;subst M;rfl
 case c3=>unfold maxLen;omega
 case c4=>omega
 case c5=>have:=l.size;simp;omega
 ·intro Q n g a _
  have i:n.heap[b]? = some (ze #[zf (some ⟨b,0,none⟩),zc P bs.length C] 77 (0,0)):=by
   rw [a.block b (by simp;omega) (fun e=>K e.symm),Lib.alloc_old E _ b L];exact y
  have d1:n.cell? ⟨b,1,none⟩=some (zc P bs.length C):=by rw [Lib.cell_of_heap i];rfl
  have Z:n.frozen? ⟨b,1,none⟩=false:=Lib.frozen_of_heap i 1;have r:B9 w (n.setCell ⟨b,1,none⟩ Q):=((x.trans (B9.alloc E _)).trans (B9.grown (f.alloc _) a)).trans (B9.setCell i _ _);have A:Below B w n:=(l.alloc (by have:=l.size;omega) _).grown a (by have:=l.size;simp;omega) (fun k y=>(f.lt k y).1);obtain ⟨W,O,rfl⟩:=A1 g;have R:=Lib.BuilderAt.put (T:=77) (e:=5) N i (bs':=bs++[I .u8 c]) (by simpa using g) (by decide);have X:=Aa R;have Y:=Aa r;clear R S f a g r x
  go_wp2
  go_ret;exact ⟨rfl,X.out,A.setCell (p:=⟨b,1,none⟩) N _,Y.out⟩
theorem EC (B b:Nat) (bs:List Value) (s:ByteArray) (w:World) (h:Lib.IsBuilder 77 5 B b bs w) (hl:bs.length<=100000) (hs:s.size<=6000) (hBw:B<=w.heap.size) :
  Calls Tryz.prog 84 #[zf (some ⟨b,0,none⟩),.string s] w fun e w'=>e=zh (zi #[I O s.size,.nilIface])/\Lib.BuilderAt 77 5 B b (zf (some ⟨b,0,none⟩)) (bs++Lib.strCells s) w'/\Below B w w'/\B9 w w':=by
 obtain ⟨N,P,C,A,y⟩:=info_parts Tryz.info5;go_enter Tryz.func84,Tryz.ntmps84;go_wp2_with fail;refine (G1 B b bs _ h).mono ?_;rintro e K ⟨rfl,⟨G,v,r,c,E⟩,i,n⟩;have M:K.cell? ⟨b,1,none⟩=some v:=by rw [Lib.cell_of_heap r];rfl
 have F:=Ch r;obtain ⟨J,x,rfl⟩:=A1 c;go_wp2_with (at_builtin;refine Lib.wpList_append_own_string _ rfl _ _ 75 9 rfl B 5 N Tryz.underlying75 Tryz.underlying9 P C A y _ _ _ rfl c s rfl ?c3 ?c4 ?c5 ?_)
 case c3=>unfold maxLen;omega
 case c4=>omega
 case c5=>have:=i.size;omega
 ·intro L j f a _
  have g:j.heap[b]? = some (ze #[zf (some ⟨b,0,none⟩),zc J bs.length x] 77 (0,0)):=by
   rw [a.block b F (fun e=>E e.symm)];exact r
  have W:j.cell? ⟨b,1,none⟩=some (zc J bs.length x):=by rw [Lib.cell_of_heap g];rfl
  have V:j.frozen? ⟨b,1,none⟩=false:=Lib.frozen_of_heap g 1;have l:B9 w (j.setCell ⟨b,1,none⟩ L):=(n.trans (B9.grown c a)).trans (B9.setCell g _ _);have u:Below B w j:=i.grown a (by have:=i.size;omega) (fun k r=>(c.lt k r).1);obtain ⟨Q,H,rfl⟩:=A1 f;have R:=Lib.BuilderAt.put (T:=77) (e:=5) G g (bs':=bs++Lib.strCells s) (by simpa [Lib.strCells_length] using f) (by decide);have S:=Aa R;have U:=Aa l;clear R M c a f l n
  go_wp2
  go_ret2
  exact ⟨rfl,S.out,u.setCell (p:=⟨b,1,none⟩) G _,U.out⟩
theorem D8 {B b:Nat} {p:Value} {bs:List Value} {w:World} (h:Lib.BuilderAt 77 5 B b p bs w) (o:Obj):Lib.BuilderAt 77 5 B b p bs (w.alloc o):=by
 obtain ⟨g,v,f,a,c⟩:=h;exact ⟨g,v,(Lib.alloc_old w _ b (Ch f)).trans f,a.alloc _,c⟩
theorem D7 {B b:Nat} {bs:List Value} {w:World} (h:Lib.IsBuilder 77 5 B b bs w) (o:Obj):Lib.IsBuilder 77 5 B b bs (w.alloc o):=by
 rcases h with h | h
 ·exact Or.inl (D8 h o)
 ·exact Or.inr (D8 h o)
theorem Tryz.info34:(Tryz.prog.info? 44).map (fun i=>(i.zero,i.size,i.bytes))=some (some (zg #[I O 0,I O 0,.string ⟨#[]⟩]),3,32):=by kernel_rfl
theorem Mk (wr:World) (B:Nat) (x y z v m n:Value) (h0:wr.cell? ⟨B,0,none⟩=some x) (h1:wr.cell? ⟨B+1,0,none⟩=some y) (h2:wr.cell? ⟨B+1+1,0,none⟩=some z) :
  (((wr.setCell ⟨B,0,none⟩ v).setCell ⟨B+1,0,none⟩ m).setCell ⟨B+1+1,0,none⟩ n).cell? ⟨B,0,none⟩=some v /\
  (((wr.setCell ⟨B,0,none⟩ v).setCell ⟨B+1,0,none⟩ m).setCell ⟨B+1+1,0,none⟩ n).cell? ⟨B+1,0,none⟩=some m /\
  (((wr.setCell ⟨B,0,none⟩ v).setCell ⟨B+1,0,none⟩ m).setCell ⟨B+1+1,0,none⟩ n).cell? ⟨B+1+1,0,none⟩=some n:=by
 simp [go_sem,h0,h1,h2]
theorem Hc {w:World} {base base':Nat} {e:TypeId} {size:Nat} {v:Value} {n:Nat} {xs:List Value} (h:w.ownsRow base e size v n xs) (hb:base'<=base):w.ownsRow base' e size v n xs:=by
 obtain ⟨i,a⟩:=h;refine ⟨i,?_⟩;rcases a with a | ⟨g,c,b,f,j,r⟩
 ·exact Or.inl a
 ·exact Or.inr ⟨g,c,b,f,by omega,r⟩
theorem I3 {w1 w2:World} {B:Nat} {e:TypeId} {size:Nat} {v:Value} {n:Nat} {xs:List Value} {o o':Obj} (hown:w1.ownsRow (B+3) e size v n xs)
  (hg:((w1.alloc o).alloc o').grownBy w2 v.ownBlock) (hw1:B+3<=w1.heap.size) :
  (∀ b off,b < B+3->w2.cell? ⟨b,off,none⟩=w1.cell? ⟨b,off,none⟩)/\(∀ b off,b < B+3->w2.frozen? ⟨b,off,none⟩=w1.frozen? ⟨b,off,none⟩) /\
  (∀ off,w2.cell? ⟨w1.heap.size,off,none⟩=(w1.alloc o).cell? ⟨w1.heap.size,off,none⟩)/\w1.heap.size+2<=w2.heap.size/\Below B w1 w2:=by
 have g:((w1.alloc o).alloc o').heap.size=w1.heap.size+2:=by simp
 have a:∀ k,k < B+3->w2.heap[k]? = w1.heap[k]?:=fun k i=>by
  rw [hg.block k (by omega) (fun h=>by have:=(hown.lt k h.symm).1;omega),Below.heap_alloc _ _ _ (by simp;omega),Below.heap_alloc _ _ _ (by omega)]
 have c:w2.heap[w1.heap.size]? = (w1.alloc o).heap[w1.heap.size]?:=by
  rw [hg.block _ (by omega) (fun h=>by have:=(hown.lt _ h.symm).2;omega),Below.heap_alloc _ _ _ (by simp)]
 refine ⟨fun b off f=>World.cell?_of_block (a b f),fun b off f=>World.frozen?_of_block (a b f),fun off=>World.cell?_of_block c,by have:=hg.size;omega,?_⟩;exact ⟨hg.os,hg.tape,hg.output,by have:=hg.size;omega,fun k i=>a k (by omega)⟩
def LM (s:ByteArray) (w:World) (B:Nat) (vi:Value) (wr:World):Prop:=
 ∃ (i f:Nat) (ts:List Tok) (v:Value),vi=I O ((AJ false s.data.toList i:Nat):Int)/\i<=s.size/\s.size < f+i/\B6 s=pre ts (Bi s f false i)/\ts.length<=i /\
  wr.cell? ⟨B,0,none⟩=some v/\wr.cell? ⟨B+1,0,none⟩=some (I O 0)/\wr.cell? ⟨B+1+1,0,none⟩=some (I O 0) /\
  wr.frozen? ⟨B,0,none⟩=false/\wr.frozen? ⟨B+1,0,none⟩=false/\wr.frozen? ⟨B+1+1,0,none⟩=false /\
  wr.ownsRow (B+3) 44 3 v ts.length (AM ts)/\Below B w wr/\B+3<=wr.heap.size
theorem Nj (s:ByteArray) (hs:s.size<=6000) (w:World) :
  Calls Tryz.prog 40 #[.string s] w fun e w'=>∃ v,e=zh (zi #[v,I O (Cf s:Int),I O (AZ s:Int)]) /\
   w'.ownsRow w.heap.size 44 3 v (An s).length (AM (An s))/\Below w.heap.size w w':=by
 have bj:∀ (fn:Fn) (first cap:Array Value) (w:World),(Instr.makeFunc fn first cap).run Tryz.prog w=.ok (.func fn first cap) w:=fun _ _ _ _=>rfl;obtain ⟨i0,hi,ax,aw,av⟩:=info_parts Tryz.info34
 go_enter_defers Tryz.func40,Tryz.ntmps40
 go_wp2_with fail;refine (Jg s 0 (Nat.zero_le _) hs _).mono ?_;rintro e w' ⟨rfl,rfl⟩;go_wp2_with fail;go_loopw [5] (fun i wr=>LM s w w.heap.size i wr) (fun i _=>s.size - (intOf i).toNat)
 case atStart=>
  refine ⟨0,s.size+1,[],zc none 0 0,rfl,Nat.zero_le _,by omega,(LP _).symm,Nat.zero_le _,by simp [go_sem],by simp [go_sem],by simp [go_sem],by simp [go_sem],by simp [go_sem],by simp [go_sem],World.ownsRow_nil _ _ _ _,?_,by simp⟩;exact (((Below.refl _ w).alloc (Nat.le_refl _) _).alloc (by simp) _).alloc (by simp;omega) _
 case round=>
  obtain ⟨i,f,y,v,rfl,a2,bl,ai,bf,c0,c1,c2,f0,f1,f2,g,n,bh⟩:=hrel;have ad:=Aa ai;clear ai;have hj:=M9 (note:=false) (l:=s.data.toList) (i:=i) (by simpa using a2);have a1:AJ false s.data.toList i<=s.size:=by simpa using hj
  have a0:=El false s.data.toList i;obtain ⟨j,T⟩:∃ j,j=AJ false s.data.toList i:=⟨_,rfl⟩;rw [<-T] at a1 a0 ⊢;have HJ:=Aa T;clear T hj;obtain ⟨ao,cap,rfl⟩:=A1 g;by_cases hlt:j < s.size
  ·go_wp2_with fail
   refine (NE s j hlt hs _).mono ?_;rintro e S ⟨rfl,c⟩;obtain ⟨V,U⟩:=D9 c;by_cases he:AE s j=0
   ·simp only [Bm,he,if_true,AG]
    have ay:w.heap.size+3<=S.heap.size:=by have:=c.size;omega
    have ac:=(V w.heap.size 0 (by omega)).trans c0;have ab:=(V (w.heap.size+1) 0 (by omega)).trans c1;have aa:=(V (w.heap.size+1+1) 0 (by omega)).trans c2;have Z:=(U w.heap.size 0 (by omega)).trans f0;have Y:=(U (w.heap.size+1) 0 (by omega)).trans f1;have X:=(U (w.heap.size+1+1) 0 (by omega)).trans f2;have b:=Fv g c;have E:Below w.heap.size w S:=n.trans (c.mono (by omega));clear V U c0 c1 c2 f0 f1 f2 g n c;have g0:w.heap.size < S.heap.size:=by omega
    have g1:w.heap.size+1 < S.heap.size:=by omega
    have g2:w.heap.size+1+1 < S.heap.size:=by omega
    have C:=Ca he;have r:Fe s j=⟨(Ay s j).1,j,s.extract j (Ay s j).2⟩:=rfl;have G:(s.extract j (Ay s j).2).size=(Ay s j).2 - j:=by simp;omega
    obtain ⟨kk,ak⟩:∃ kk,kk=(Ay s j).1:=⟨_,rfl⟩;obtain ⟨P,J⟩:∃ P,P=(Ay s j).2:=⟨_,rfl⟩;rw [<-ak,<-J] at r ⊢;rw [<-J] at C G;obtain ⟨tx,ag⟩:∃ tx,tx=s.extract j P:=⟨_,rfl⟩;rw [<-ag] at r G ⊢;have HT:=Aa r;have HX:=Aa G;have a9:=Aa J;clear r G ak J ag;go_wp2_with (at_builtin;refine wpList_append_own _ rfl _ _ 34 rfl (w.heap.size+3) 44 i0 (zg #[I O 0,I O 0,.string ⟨#[]⟩]) 3 32 Tryz.underlying34 hi ax aw av rfl (by decide) _ _ _ rfl ((b.alloc _).alloc _) ⟨S.heap.size+1,0,none⟩ 1 1 [I O (kk:Int),I O (j:Int),.string tx] rfl rfl ?c1 ?c2 ?c3 ?c4 ?c5 ?_)
    case c1=>
     intro q u F
     match q,F with
     | 0,F=>simp at F;subst F;simp [Addr.add]
     | 1,F=>simp at F;subst F;simp [Addr.add]
     | 2,F=>simp at F;subst F;simp [Addr.add]
    case c2=>intro u hu;simp at hu;rcases hu with rfl | rfl | rfl <;> rfl
    case c3=>unfold maxLen;omega
    case c4=>omega
    case c5=>simp;omega
    ·intro v' w2 A B az
     obtain ⟨K,H,ah,bi,M⟩:=I3 b B ay;have ac:=(K w.heap.size 0 (by omega)).trans ac;have ab:=(K (w.heap.size+1) 0 (by omega)).trans ab;have aa:=(K (w.heap.size+1+1) 0 (by omega)).trans aa;have Z:=(H w.heap.size 0 (by omega)).trans Z;have Y:=(H (w.heap.size+1) 0 (by omega)).trans Y;have X:=(H (w.heap.size+1+1) 0 (by omega)).trans X;have t2:w2.cell? ⟨S.heap.size,2,none⟩=some (.string tx):=by rw [ah 2];simp [go_sem]
     have W:Below w.heap.size w w2:=E.trans M;obtain ⟨al,Q,rfl⟩:=A1 A;clear K H ah M b E B az;have bg:tx.size<=6000:=by have:=HX.out;omega
     go_wp2_with fail;rw [show ((j:Int)+(tx.size:Int))=((P:Nat):Int) from by have:=HX.out;omega];refine (Jg s P C.2 hs _).mono ?_;rintro e w' ⟨rfl,rfl⟩;have R:LM s w w.heap.size (I O ((AJ false s.data.toList P:Nat):Int)) (w2.setCell { block:=w.heap.size,off:=0 } (Value.slice al (y.length+1) Q)):=by
      obtain ⟨N,rfl⟩:∃ N,f=N + 1:=⟨f - 1,by omega⟩;have x:=Ho ad.out (by rw [<-HJ.out];exact hlt) (by rw [<-HJ.out];exact he);rw [<-HJ.out,<-a9.out,HT.out] at x;refine ⟨P,N,y++[⟨kk,j,tx⟩],zc al (y.length+1) Q,rfl,C.2,by omega,x,by simp;omega,by simp [go_sem,ac],by simp [go_sem,ab],by simp [go_sem,aa],by simp [go_sem,Z],by simp [go_sem,Y],by simp [go_sem,X],?_,W.setCell (by simp) _,by simp [World.setCell];omega⟩;rw [Ee,List.length_append];exact ownsRow_setCell_below A (by simp) _
     have hm:=El false s.data.toList P;go_wp2_with fail;refine ⟨R,?_⟩;simp [intOf];omega
   ·simp only [Bm,he,if_false,B2]
    go_wp2_with fail;refine leaves_cons (f:=80) (args:=#[zf (some ⟨w.heap.size,0,none⟩),zf (some ⟨w.heap.size+1,0,none⟩),zf (some ⟨w.heap.size+1+1,0,none⟩)]) (by simp) (by simp [go_sem]) ?_;refine (JY w.heap.size _ 0 0 _ _ [] _ (by have:=c.size;omega) ((V _ _ (by omega)).trans c0) ((V _ _ (by omega)).trans c1) ((V _ _ (by omega)).trans c2) ((U _ _ (by omega)).trans f0) ((U _ _ (by omega)).trans f1) ((U _ _ (by omega)).trans f2)).mono ?_;rintro e u' w2 ⟨rfl,rfl,d0,d1,d2,M⟩;have x:=ad.out;obtain ⟨N,rfl⟩:∃ N,f=N + 1:=⟨f - 1,by omega⟩;have a:=Hn x (by rw [<-HJ.out];exact hlt) (by rw [<-HJ.out];exact he);rw [<-HJ.out] at a;have hT:An s=[]:=by simp [An,a]
    have hP:Cf s=j:=by simp [Cf,a]
    have hE:AZ s=AE s j:=by simp [AZ,a]
    have L:Below w.heap.size w w2:=(n.trans (c.mono (by omega))).trans M;simp [Leaves,settle,results,Tryz.results40,go_sem,d0,d1,d2,hT,hP,hE];exact ⟨World.ownsRow_nil _ _ _ _,L⟩
  ·go_wp2_with fail
   refine leaves_cons (f:=80) (args:=#[zf (some ⟨w.heap.size,0,none⟩),zf (some ⟨w.heap.size+1,0,none⟩),zf (some ⟨w.heap.size+1+1,0,none⟩)]) (by simp) (by simp [go_sem]) ?_;refine (Lq _ _ _ _).mono ?_;rintro e u' w2 ⟨rfl,rfl,rfl⟩;obtain ⟨d0,d1,d2⟩:=Mk wr w.heap.size _ _ _ (zc ao y.length cap) (I O 0) (I O 0) c0 c1 c2;have x:=ad.out;obtain ⟨N,rfl⟩:∃ N,f=N + 1:=⟨f - 1,by omega⟩;have a:=Jm x (by rw [<-HJ.out];exact hlt);have hT:An s=y:=by simp [An,a]
   have hP:Cf s=0:=by simp [Cf,a]
   have hE:AZ s=0:=by simp [AZ,a]
   have L:Below w.heap.size w (((wr.setCell ⟨w.heap.size,0,none⟩ (zc ao y.length cap)).setCell ⟨w.heap.size+1,0,none⟩ (I O 0)).setCell ⟨w.heap.size+1+1,0,none⟩ (I O 0)):=
    ((n.setCell (by simp) _).setCell (by simp) _).setCell (by simp;omega) _
   have aj:(((wr.setCell ⟨w.heap.size,0,none⟩ (zc ao y.length cap)).setCell ⟨w.heap.size+1,0,none⟩ (I O 0)).setCell ⟨w.heap.size+1+1,0,none⟩ (I O 0)).ownsRow w.heap.size 44 3 (zc ao y.length cap) y.length (AM y):=
    Hc (ownsRow_setCell_below (ownsRow_setCell_below (ownsRow_setCell_below g (by simp) _) (by simp) _) (by simp) _) (by omega)
   generalize (((wr.setCell ⟨w.heap.size,0,none⟩ (zc ao y.length cap)).setCell ⟨w.heap.size+1,0,none⟩ (I O 0)).setCell ⟨w.heap.size+1+1,0,none⟩ (I O 0))=wF at d0 d1 d2 L aj ⊢;simp [Leaves,settle,results,Tryz.results40,go_sem,d0,d1,d2,hT,hP,hE];exact ⟨aj,L⟩
def L8 (s:ByteArray) (w:World) (e:Ending) (w':World):Prop:=
 ∃ (v:Value) (ts:List Tok) (p r:Nat),e=zh (zi #[v,I O (p:Int),I O (r:Int)]) /\
  w'.ownsRow w.heap.size 44 3 v ts.length (AM ts)/\Below w.heap.size w w' /\
  (if s.size<=6000 then ts=An s/\p=Cf s/\r=AZ s else ts=[]/\p=0/\r=2)
theorem J0 (s:ByteArray) (hs:s.size<=maxLen) (w:World):Calls Tryz.prog 17 #[.string s] w (L8 s w):=by
 unfold maxLen at hs;by_cases h:s.size<=6000
 ·go_enter Tryz.func17,Tryz.ntmps17
  go_wp2_with fail;refine (Nj s h _).mono ?_;rintro e c ⟨v,rfl,a,b⟩;go_wp2_with fail
  go_ret3
  exact ⟨v,An s,Cf s,AZ s,rfl,a,b,by rw [if_pos h];exact ⟨rfl,rfl,rfl⟩⟩
 ·go_enter Tryz.func17,Tryz.ntmps17
  go_wp2_with fail
  go_ret3
  exact ⟨zc none 0 0,[],0,2,rfl,World.ownsRow_nil _ _ _ _,Below.refl _ _,by rw [if_neg h];exact ⟨rfl,rfl,rfl⟩⟩
def G6 (w:World) (v:Value) (ts:List Tok):Prop:=
 ∃ ao cap,v=zc ao ts.length cap/\(ts≠[]->∃ b off,ao=some ⟨b,off,none⟩/\∀ j u,(AM ts)[j]? = some u->w.cell? ⟨b,off+j,none⟩=some u)
theorem IQ {w:World} {B:Nat} {v:Value} {ts:List Tok} (h:w.ownsRow B 44 3 v ts.length (AM ts)):G6 w v ts:=by
 have n:=fun g=>h.cells (g:=g);rcases h.2 with ⟨rfl,i⟩ | ⟨g,c,r,rfl,_⟩
 ·exact ⟨none,0,by rw [i],fun b=>absurd (List.eq_nil_of_length_eq_zero i) b⟩
 ·refine ⟨_,c,rfl,fun _=>⟨g,0,rfl,fun j u l=>?_⟩⟩
  have f:=n g rfl j u l;have a:(⟨g,0,none⟩:Addr).add j=⟨g,j,none⟩:=by unfold Addr.add;split <;> simp_all
  rw [a] at f;simpa using f
theorem JI {w w':World} {v:Value} {ts:List Tok} (h:G6 w v ts) (hb:Below w.heap.size w w'):G6 w' v ts:=by
 obtain ⟨y,i,n,x⟩:=h;refine ⟨y,i,n,fun c=>?_⟩;obtain ⟨b,a,g,f⟩:=x c;exact ⟨b,a,g,fun j u r=>by
  have l:=f j u r;rw [hb.cell (p:=⟨b,a+j,none⟩) (World.block_lt_of_cell? w _ l)];exact l⟩
def Ao (t:Tok):Bool:=
 decide (t.text.size<=6000) && decide (AZ t.text=0) && match An t.text with
  | [u]=>(u.kind == t.kind) && (u.text.data.toList == t.text.data.toList)
  | _=>false
theorem MP (k a:Int) (x:ByteArray) (hx:x.size<=maxLen) (w:World) :
  Calls Tryz.prog 41 #[AG k a x] w fun e w'=>e=zh (zd (Ao ⟨k,a,x⟩))/\Below w.heap.size w w':=by
 unfold AG;go_enter Tryz.func41,Tryz.ntmps41;go_wp2_with fail;refine (J0 x hx _).mono ?_;rintro e C ⟨v,L,p,r,rfl,c,K,g⟩;obtain ⟨J,Q⟩:=D9 K;have T:C.cell? ⟨w.heap.size,0,none⟩=some (I O k):=by rw [J _ _ (by simp)];simp [go_sem]
 have S:C.cell? ⟨w.heap.size,2,none⟩=some (.string x):=by rw [J _ _ (by simp)];simp [go_sem]
 have f:Below w.heap.size w C:=((Below.refl _ w).alloc (Nat.le_refl _) _).trans (K.mono (by simp));clear J Q K;by_cases hr:r=0
 ·have i:x.size<=6000:=by
   rcases Nat.lt_or_ge 6000 x.size with h | h
   ·rw [if_neg (by omega)] at g;omega
   ·exact h
  rw [if_pos i] at g;obtain ⟨j,M,y⟩:=g;have R:((r:Int) == 0)=true:=by simp;omega
  by_cases h1:L.length=1
  ·obtain ⟨u,rfl⟩:=List.length_eq_one_iff.1 h1
   obtain ⟨P,G,rfl,F⟩:=IQ c;obtain ⟨b,E,rfl,A⟩:=F (by simp);have u0:C.cell? ⟨b,E,none⟩=some (I O u.kind):=A 0 _ rfl;have u2:C.cell? ⟨b,E+2,none⟩=some (.string u.text):=A 2 _ rfl;have n:Ao ⟨k,a,x⟩=((u.kind == k) && (u.text.toList == x.toList)):=by
    simp [Ao,i,<-y,hr,<-j,ByteArray.toList_eq]
   have B:=Aa n;clear n A F c j M y hr h1;by_cases hk:(u.kind == k)=true
   ·go_wp2_with fail
    go_quiet ((fail))
    go_wp2
    go_ret;exact ⟨by rw [B.out,hk];rfl,below_drewN f _⟩
   ·have H:(u.kind == k)=false:=by simpa using hk
    clear hk;go_wp2_with fail
    go_quiet ((fail))
    go_wp2
    go_ret;exact ⟨by rw [B.out,H];rfl,below_drewN f _⟩
  ·have U:((L.length:Int) == 1)=false:=by simp;omega
   obtain ⟨P,G,rfl⟩:=A1 c;have n:Ao ⟨k,a,x⟩=false:=by
    have N:¬ (An x).length=1:=by rw [<-j];exact h1
    simp only [Ao];generalize An x=l at N
    match l,N with
    | [],_=>simp
    | [u],h=>simp at h
    | u::v::m,_=>simp
   have B:=Aa n;clear n c j M y hr h1;go_wp2_with fail
   go_quiet ((fail))
   go_wp2
   go_ret;exact ⟨by rw [B.out];rfl,below_drewN f _⟩
 ·have R:((r:Int) == 0)=false:=by simp;omega
  obtain ⟨P,G,rfl⟩:=A1 c;have n:Ao ⟨k,a,x⟩=false:=by
   by_cases i:x.size<=6000
   ·rw [if_pos i] at g
    have:¬ AZ x=0:=by rw [<-g.2.2];exact hr
    simp [Ao,this]
   ·simp [Ao,i]
  have B:=Aa n;clear n c g;go_wp2_with fail
  go_quiet ((fail))
  go_wp2
  go_ret;exact ⟨by rw [B.out];rfl,below_drewN f _⟩
def CJ:List Tok->List UInt8
 | []=>[]
 | [t]=>t.text.data.toList
 | t::u::ts=>t.text.data.toList++32::CJ (u::ts)
def BS (ts:List Tok):Nat:=(ts.map fun t=>t.text.size+1).sum
theorem Gz (ts:List Tok) (t:Tok):BS (ts++[t])=BS ts+(t.text.size+1):=by simp [BS]
theorem Lh (ts:List Tok) (t:Tok):CJ (ts++[t])=if ts=[] then t.text.data.toList else CJ ts++32::t.text.data.toList:=by
 induction ts with
 | nil=>simp [CJ]
 | cons u ts ih=>
  cases ts with
  | nil=>simp [CJ]
  | cons v ts=>simp [CJ] at ih ⊢;rw [ih]
theorem IU (ts:List Tok):(CJ ts).length+1=BS ts\/ts=[]:=by
 induction ts with
 | nil=>exact Or.inr rfl
 | cons u ts ih=>
  left
  cases ts with
  | nil=>simp [CJ,BS]
  | cons v ts=>
   have:=ih.resolve_right (by simp);simp [CJ,BS] at this ⊢;omega
theorem Km (ts:List Tok) (k:Nat):BS (ts.take k)<=BS ts:=by
 induction ts generalizing k with
 | nil=>simp [BS]
 | cons u ts ih=>
  cases k with
  | zero=>simp [BS]
  | succ k=>have:=ih k;simp [BS] at this ⊢;omega
theorem ET {w:World} {b off:Nat} {ts:List Tok} (h:∀ j u,(AM ts)[j]? = some u->w.cell? ⟨b,off+j,none⟩=some u) {i:Nat} (hi:i < ts.length) :
  w.cell? ⟨b,off+i*3,none⟩=some (I O ts[i].kind)/\w.cell? ⟨b,off+i*3+1,none⟩=some (I O ts[i].pos)/\w.cell? ⟨b,off+i*3+2,none⟩=some (.string ts[i].text):=by
 have a:∀ (ts:List Tok) (i:Nat) (hi:i < ts.length),(AM ts)[i*3]? = some (I O ts[i].kind)/\(AM ts)[i*3+1]? = some (I O ts[i].pos)/\(AM ts)[i*3+2]? = some (.string ts[i].text):=by
  intro ts
  induction ts with
  | nil=>intro i hi;simp at hi
  | cons t ts ih=>
   intro i hi
   cases i with
   | zero=>simp [AM,Eg]
   | succ i=>
    have:=ih i (by simpa using hi);have e:∀ j,(AM (t::ts))[(i+1)*3+j]? = (AM ts)[i*3+j]?:=fun j=>by
     have:(i+1)*3+j=i*3+j+3:=by omega
     rw [this];simp [AM,Eg]
    have c:=e 0;simp only [Nat.add_zero] at c;rw [c,e 1,e 2];simpa using this
 obtain ⟨l,g,f⟩:=a ts i hi;exact ⟨h _ _ l,by rw [Nat.add_assoc];exact h _ _ g,by rw [Nat.add_assoc];exact h _ _ f⟩
theorem NY (v:Value) (ts:List Tok) (w:World) (hv:G6 w v ts) (hs:BS ts<=6001) :
  Calls Tryz.prog 42 #[v] w fun e w'=>e=zh (.string ⟨(CJ ts).toArray⟩)/\Below w.heap.size w w':=by
 obtain ⟨ao,ac,rfl,M⟩:=hv;have hn:ts.length<=6001:=by
  have:∀ l:List Tok,l.length<=BS l:=by
   intro l
   induction l with
   | nil=>simp [BS]
   | cons u l ih=>simp [BS] at ih ⊢;omega
  have:=this ts;omega
 go_enter Tryz.func42,Tryz.ntmps42;go_wp2_with fail;go_loopw [8] (fun i wr=>∃ k:Nat,k<=ts.length/\i=I O k/\Lib.IsBuilder 77 5 w.heap.size w.heap.size (Lib.byteCells (CJ (ts.take k))) wr/\Below w.heap.size w wr/\w.heap.size < wr.heap.size) (fun i _=>ts.length - (intOf i).toNat)
 case atStart=>exact ⟨0,Nat.zero_le _,rfl,Lib.fresh_isBuilder 77 5 w,(Below.refl _ w).alloc (Nat.le_refl _) _,by simp⟩
 case round=>
  obtain ⟨k,hk,rfl,Q,a,Z⟩:=hrel;by_cases hkl:k < ts.length
  ·obtain ⟨b,A,rfl,L⟩:=M (by rintro rfl;simp at hkl)
   obtain ⟨q0,q1,U⟩:=ET L hkl;have R:b < w.heap.size:=World.block_lt_of_cell? w _ q0;have G:=(a.cell (p:=⟨b,A+k*3,none⟩) R).trans q0;have F:=(a.cell (p:=⟨b,A+k*3+1,none⟩) R).trans q1;have E:=(a.cell (p:=⟨b,A+k*3+2,none⟩) R).trans U;clear q0 q1 U L M;obtain ⟨kk,f⟩:∃ x,x=ts[k].kind:=⟨_,rfl⟩;obtain ⟨pp,J⟩:∃ x,x=ts[k].pos:=⟨_,rfl⟩;obtain ⟨tx,B⟩:∃ x,x=ts[k].text:=⟨_,rfl⟩;rw [<-f] at G;rw [<-J] at F;rw [<-B] at E;have HT:=Aa B;clear f J B;have r:ts.take (k+1)=ts.take k++[ts[k]]:=List.take_succ_eq_append_getElem hkl;have H:=Km ts (k+1);rw [r,Gz,<-HT.out] at H;have ab:(Lib.byteCells (CJ (ts.take k))).length<=6001:=by
    rw [Lib.byteCells_length];rcases IU (ts.take k) with h | h
    ·omega
    ·rw [h];simp [CJ]
   have g:CJ (ts.take (k+1))=if ts.take k=[] then tx.data.toList else CJ (ts.take k)++32::tx.data.toList:=by rw [r,Lh,<-HT.out]
   have c:ts.take k=[] ↔ k=0:=by
    rw [List.take_eq_nil_iff];constructor
    ·rintro (h | h)
     ·exact h
     ·simp [h] at hkl
    ·exact Or.inl
   by_cases h0:k=0
   ·have Y:¬ (0:Int) < (k:Int):=by omega
    rw [if_pos (c.2 h0)] at g;have K:CJ (ts.take k)=[]:=by rw [c.2 h0];rfl
    have T:=Aa g;have S:=Aa K;clear h0 g K c r;go_wp2_with fail;refine (EC w.heap.size w.heap.size _ tx _ (D7 Q _) (by omega) (by omega) (by simp;omega)).mono ?_;rintro e C ⟨rfl,n,j,f⟩;go_wp2_with fail;refine ⟨⟨k+1,by omega,by go_num,Or.inr ?_,(a.alloc (by omega) _).trans j,by have:=j.size;simp at this;omega⟩,by simp [intOf];omega⟩;rw [T.out];rw [S.out] at n;simpa [Lib.byteCells,Lib.strCells] using n
   ·have Y:(0:Int) < (k:Int):=by omega
    rw [if_neg (fun h=>h0 (c.1 h))] at g;have T:=Aa g;clear h0 g c r;go_wp2_with fail;refine (MO w.heap.size w.heap.size _ 32 _ (D7 Q _) (by omega) (by simp;omega)).mono ?_;rintro e C ⟨rfl,n,j,f⟩;have X:=f wr.heap.size _ 44 (0,0) (heap_alloc_new wr _) (by decide) (by decide);have c2:C.cell? ⟨wr.heap.size,2,none⟩=some (.string tx):=by rw [Lib.cell_of_heap X];rfl
    have N:Below w.heap.size w C:=(a.alloc (by omega) _).trans j;have V:w.heap.size < C.heap.size:=by have:=j.size;simp at this;omega
    clear X f j G F E;go_wp2_with fail;refine (EC w.heap.size w.heap.size _ tx _ (Or.inr n) (by simp;omega) (by omega) (by omega)).mono ?_;rintro e w2 ⟨rfl,P,y,W⟩;go_wp2_with fail;refine ⟨⟨k+1,by omega,by go_num,Or.inr ?_,N.trans y,by have:=y.size;omega⟩,by simp [intOf];omega⟩;rw [T.out];simpa [Lib.byteCells,Lib.strCells] using P
  ·have aa:k=ts.length:=by omega
   go_wp2_with fail;refine (Tryz.Builder_String_any w.heap.size w.heap.size (CJ (ts.take k)) _ Q (by omega)).mono ?_;rintro e C ⟨rfl,n⟩;go_wp2_with fail;go_ret;exact ⟨rfl,a.trans n⟩
def St (rb:Nat) (tv:Value) (ts:List Tok) (en n:Nat) (w:World):Prop:=
 w.heap[rb]? = some (Obj.cells #[tv,I O (n:Int),I O (en:Int)] 93 (0,0))/\n<=ts.length/\ts.length<=6000/\∃ ao cap,tv=zc ao ts.length cap /\
  (ts≠[]->∃ b off,ao=some ⟨b,off,none⟩/\b≠rb/\∀ (j:Nat) (u:Value),(AM ts)[j]? = some u->w.cell? ⟨b,off+j,none⟩=some u)
theorem St.keep {rb:Nat} {tv:Value} {ts:List Tok} {en n m:Nat} {w w':World} (h:St rb tv ts en n w) (hg:w.grownBy w' (some rb))
  (hb:w'.heap[rb]? = some (Obj.cells #[tv,I O (m:Int),I O (en:Int)] 93 (0,0))) (hm:m<=ts.length):St rb tv ts en m w':=by
 obtain ⟨_,_,y,A,l,r,x⟩:=h;refine ⟨hb,hm,y,A,l,r,fun f=>?_⟩;obtain ⟨b,c,i,a,g⟩:=x f;exact ⟨b,c,i,a,fun j u v=>hg.cell (g j u v) (by simpa using a)⟩
theorem St.below {rb:Nat} {tv:Value} {ts:List Tok} {en n:Nat} {w w':World} (h:St rb tv ts en n w) (hb:Below w.heap.size w w'):St rb tv ts en n w':=by
 obtain ⟨v,C,B,E,l,x,A⟩:=h;refine ⟨by rw [hb.block rb (Array.getElem?_eq_some_iff.1 v).1];exact v,C,B,E,l,x,fun c=>?_⟩;obtain ⟨b,a,i,g,f⟩:=A c;exact ⟨b,a,i,g,fun j u y=>by
  have r:=f j u y;rw [hb.cell (p:=⟨b,a+j,none⟩) (World.block_lt_of_cell? w _ r)];exact r⟩
theorem Ad {w w':World} {r:Option Nat} (h:Below w.heap.size w w'):w.grownBy w' r:=⟨h.os,h.tape,h.output,h.size,fun k hk _=>h.block k hk⟩
theorem Ab {a b c:World} {r:Option Nat} (h:a.grownBy b r) (k:b.grownBy c r):a.grownBy c r:=
 ⟨k.os.trans h.os,k.tape.trans h.tape,k.output.trans h.output,Nat.le_trans h.size k.size,fun i hi hr=>(k.block i (Nat.lt_of_lt_of_le hi h.size) hr).trans (h.block i hi hr)⟩
theorem St.lt {rb:Nat} {tv:Value} {ts:List Tok} {en n:Nat} {w:World} (h:St rb tv ts en n w):rb < w.heap.size:=(Array.getElem?_eq_some_iff.1 h.1).1
theorem St.cells {rb:Nat} {tv:Value} {ts:List Tok} {en n:Nat} {w:World} (h:St rb tv ts en n w) :
  w.cell? ⟨rb,0,none⟩=some tv/\w.cell? ⟨rb,1,none⟩=some (I O (n:Int))/\w.cell? ⟨rb,2,none⟩=some (I O (en:Int))/\w.frozen? ⟨rb,1,none⟩=false:=by
 have:=h.1;refine ⟨?_,?_,?_,?_⟩ <;> simp [World.cell?,World.frozen?,this]
def Av (ts:List Tok) (en n:Nat):Int:=match ts[n]? with | some t=>t.pos | none=>(en:Int)
def Ag (ts:List Tok) (n:Nat):Tok:=match ts[n]? with | some t=>t | none=>⟨0,0,⟨#[]⟩⟩
def Ai (p:Int):Ending:=.panicked [{ v:=.iface 90 (I O p),recovered:=false }]
theorem BL (rb:Nat) (tv:Value) (ts:List Tok) (en n:Nat) (w:World) (h:St rb tv ts en n w) :
  Calls Tryz.prog 93 #[zf (some ⟨rb,0,none⟩)] w fun e w'=>e=zh (I O (Av ts en n))/\Below w.heap.size w w':=by
 obtain ⟨A,y,x,v⟩:=h.cells;obtain ⟨_,r,u,B,l,rfl,f⟩:=h;by_cases hlt:n < ts.length
 ·obtain ⟨b,i,rfl,j,c⟩:=f (by rintro rfl;simp at hlt)
  obtain ⟨q0,q1,g⟩:=ET c hlt;have a:Av ts en n=ts[n].pos:=by simp [Av,hlt]
  rw [a];clear a c f q0 g;go_enter Tryz.func93,Tryz.ntmps93
  go_wp2
  go_quiet ((fail))
  go_wp2
  go_quiet ((fail))
  go_wp2
  go_ret;exact ⟨rfl,below_drewN (below_drewN (Below.refl _ w) _) _⟩
 ·have a:Av ts en n=en:=by simp [Av,hlt]
  rw [a];clear a f;go_enter Tryz.func93,Tryz.ntmps93
  go_wp2
  go_quiet ((fail))
  go_wp2
  go_ret;exact ⟨rfl,below_drewN (Below.refl _ w) _⟩
theorem BQ (rb:Nat) (tv:Value) (ts:List Tok) (en n:Nat) (w:World) (h:St rb tv ts en n w) :
  Calls Tryz.prog 55 #[zf (some ⟨rb,0,none⟩)] w fun e w'=>e=Ai (Av ts en n)/\Below w.heap.size w w':=by
 have H:=Aa (BL rb tv ts en n w h);clear h;go_enter Tryz.func55,Tryz.ntmps55;go_wp2_with fail;refine (H.out).mono ?_;rintro e b ⟨rfl,a⟩;go_wp2_with fail;exact ⟨rfl,rfl,a⟩
theorem Bj (rb:Nat) (tv:Value) (ts:List Tok) (en n:Nat) (w:World) (h:St rb tv ts en n w) :
  Calls Tryz.prog 92 #[zf (some ⟨rb,0,none⟩)] w fun e w'=>e=zh (AG (Ag ts n).kind (Ag ts n).pos (Ag ts n).text)/\Below w.heap.size w w':=by
 have A:=h.lt;obtain ⟨L,K,J,H⟩:=h.cells;obtain ⟨_,F,G,M,E,rfl,j⟩:=h;by_cases hlt:n < ts.length
 ·obtain ⟨b,u,rfl,B,i⟩:=j (by rintro rfl;simp at hlt)
  obtain ⟨q0,q1,l⟩:=ET i hlt;have C:b < w.heap.size:=World.block_lt_of_cell? w _ q0;have f:Ag ts n=ts[n]:=by simp [Ag,hlt]
  rw [f];obtain ⟨y,g⟩:∃ x,x=ts[n].kind:=⟨_,rfl⟩;obtain ⟨r,c⟩:∃ x,x=ts[n].pos:=⟨_,rfl⟩;obtain ⟨tx,a⟩:∃ x,x=ts[n].text:=⟨_,rfl⟩;rw [<-g] at q0 ⊢;rw [<-c] at q1 ⊢;rw [<-a] at l ⊢;clear f i j g c a;unfold AG;go_enter Tryz.func92,Tryz.ntmps92
  go_wp2
  go_quiet ((fail))
  go_wp2
  go_region
  go_wp2
  refine bodyPost_ret (v:=zg #[I O y,I O r,.string tx]) (by simp [results,Tryz.results92,go_sem]) rfl ⟨rfl,?_⟩
  repeat (first | exact Below.refl _ _ | refine Below.setCell ?_ (by simp) _ | refine below_drewN ?_ _ | refine Below.drew ?_ | refine Below.alloc ?_ (by simp) _)
 ·have f:Ag ts n=⟨0,0,⟨#[]⟩⟩:=by simp [Ag,hlt]
  rw [f];clear f j;unfold AG;go_enter Tryz.func92,Tryz.ntmps92
  go_wp2
  go_quiet ((fail))
  go_wp2
  refine bodyPost_ret (v:=zg #[I O 0,I O 0,.string ⟨#[]⟩]) (by simp [results,Tryz.results92,go_sem]) rfl ⟨rfl,?_⟩
  repeat (first | exact Below.refl _ _ | refine Below.setCell ?_ (by simp) _ | refine below_drewN ?_ _ | refine Below.drew ?_ | refine Below.alloc ?_ (by simp) _)
def EZ:List (List UInt8):=[[97,99,116,111,114],[103,114,97,110,116],[115,112,101,97,107],[105,110],[111,117,116],[118,97,114],[102,117,110,99],[109,97,105,110],[103,101,116],[112,117,116],[114,101,118,101,97,108],[116,114,117,115,116],[105,102],[101,108,115,101],[119,104,105,108,101],[114,101,116,117,114,110]]
def Cy (x:ByteArray):Bool:=EZ.contains x.data.toList
theorem Au {x:ByteArray} {l:List UInt8} (h:x.data.toList=l):x=⟨l.toArray⟩:=by
 apply ByteArray.ext;apply Array.toList_inj.1;simpa using h
theorem AA {x:ByteArray} {l:List UInt8} (h:¬ x.data.toList=l):(x.toList == l)=false:=by
 rw [ByteArray.toList_eq,beq_eq_false_iff_ne];exact h
theorem GP (x:ByteArray) (w:World) :
  Calls Tryz.prog 108 #[.string x] w fun e w'=>e=zh (zd (Cy x))/\w'=w:=by
 by_cases h0:x.data.toList=[97,99,116,111,114]
 ·obtain rfl:=Au h0
  clear h0;go_enter Tryz.func108,Tryz.ntmps108
  go_wp2
  go_ret;exact ⟨rfl,rfl⟩
 by_cases h1:x.data.toList=[103,114,97,110,116]
 ·obtain rfl:=Au h1
  clear h0 h1;go_enter Tryz.func108,Tryz.ntmps108
  go_wp2
  go_ret;exact ⟨rfl,rfl⟩
 by_cases h2:x.data.toList=[115,112,101,97,107]
 ·obtain rfl:=Au h2
  clear h0 h1 h2;go_enter Tryz.func108,Tryz.ntmps108
  go_wp2
  go_ret;exact ⟨rfl,rfl⟩
 by_cases h3:x.data.toList=[105,110]
 ·obtain rfl:=Au h3
  clear h0 h1 h2 h3;go_enter Tryz.func108,Tryz.ntmps108
  go_wp2
  go_ret;exact ⟨rfl,rfl⟩
 by_cases h4:x.data.toList=[111,117,116]
 ·obtain rfl:=Au h4
  clear h0 h1 h2 h3 h4;go_enter Tryz.func108,Tryz.ntmps108
  go_wp2
  go_ret;exact ⟨rfl,rfl⟩
 by_cases h5:x.data.toList=[118,97,114]
 ·obtain rfl:=Au h5
  clear h0 h1 h2 h3 h4 h5;go_enter Tryz.func108,Tryz.ntmps108
  go_wp2
  go_ret;exact ⟨rfl,rfl⟩
 by_cases h6:x.data.toList=[102,117,110,99]
 ·obtain rfl:=Au h6
  clear h0 h1 h2 h3 h4 h5 h6;go_enter Tryz.func108,Tryz.ntmps108
  go_wp2
  go_ret;exact ⟨rfl,rfl⟩
 by_cases h7:x.data.toList=[109,97,105,110]
 ·obtain rfl:=Au h7
  clear h0 h1 h2 h3 h4 h5 h6 h7;go_enter Tryz.func108,Tryz.ntmps108
  go_wp2
  go_ret;exact ⟨rfl,rfl⟩
 by_cases h8:x.data.toList=[103,101,116]
 ·obtain rfl:=Au h8
  clear h0 h1 h2 h3 h4 h5 h6 h7 h8;go_enter Tryz.func108,Tryz.ntmps108
  go_wp2
  go_ret;exact ⟨rfl,rfl⟩
 by_cases h9:x.data.toList=[112,117,116]
 ·obtain rfl:=Au h9
  clear h0 h1 h2 h3 h4 h5 h6 h7 h8 h9;go_enter Tryz.func108,Tryz.ntmps108
  go_wp2
  go_ret;exact ⟨rfl,rfl⟩
 by_cases h10:x.data.toList=[114,101,118,101,97,108]
 ·obtain rfl:=Au h10
  clear h0 h1 h2 h3 h4 h5 h6 h7 h8 h9 h10;go_enter Tryz.func108,Tryz.ntmps108
  go_wp2
  go_ret;exact ⟨rfl,rfl⟩
 by_cases h11:x.data.toList=[116,114,117,115,116]
 ·obtain rfl:=Au h11
  clear h0 h1 h2 h3 h4 h5 h6 h7 h8 h9 h10 h11;go_enter Tryz.func108,Tryz.ntmps108
  go_wp2
  go_ret;exact ⟨rfl,rfl⟩
 by_cases h12:x.data.toList=[105,102]
 ·obtain rfl:=Au h12
  clear h0 h1 h2 h3 h4 h5 h6 h7 h8 h9 h10 h11 h12;go_enter Tryz.func108,Tryz.ntmps108
  go_wp2
  go_ret;exact ⟨rfl,rfl⟩
 by_cases h13:x.data.toList=[101,108,115,101]
 ·obtain rfl:=Au h13
  clear h0 h1 h2 h3 h4 h5 h6 h7 h8 h9 h10 h11 h12 h13;go_enter Tryz.func108,Tryz.ntmps108
  go_wp2
  go_ret;exact ⟨rfl,rfl⟩
 by_cases h14:x.data.toList=[119,104,105,108,101]
 ·obtain rfl:=Au h14
  clear h0 h1 h2 h3 h4 h5 h6 h7 h8 h9 h10 h11 h12 h13 h14;go_enter Tryz.func108,Tryz.ntmps108
  go_wp2
  go_ret;exact ⟨rfl,rfl⟩
 by_cases h15:x.data.toList=[114,101,116,117,114,110]
 ·obtain rfl:=Au h15
  clear h0 h1 h2 h3 h4 h5 h6 h7 h8 h9 h10 h11 h12 h13 h14 h15;go_enter Tryz.func108,Tryz.ntmps108
  go_wp2
  go_ret;exact ⟨rfl,rfl⟩
 have hr:Cy x=false:=by simp [Cy,EZ,h0,h1,h2,h3,h4,h5,h6,h7,h8,h9,h10,h11,h12,h13,h14,h15]
 have j:=Aa hr;have E:=AA h0;have C:=AA h1;have B:=AA h2;have A:=AA h3;have y:=AA h4;have v:=AA h5;have u:=AA h6;have r:=AA h7;have n:=AA h8;have l:=AA h9;have i:=AA h10;have g:=AA h11;have f:=AA h12;have c:=AA h13;have b:=AA h14;have a:=AA h15;clear hr h0 h1 h2 h3 h4 h5 h6 h7 h8 h9 h10 h11 h12 h13 h14 h15;go_enter Tryz.func108,Tryz.ntmps108
 go_wp2
 go_ret;exact ⟨by rw [j.out];rfl,rfl⟩
theorem Bz (kk pp:Int) (tx:ByteArray) (w:World):(Instr.field 44 (zg #[I O kk,I O pp,.string tx]) 2).run Tryz.prog w=.ok (.string tx) w:=by
 simp [Instr.field,run_underlying Tryz.underlying44,go_sem,Result.andThen];rfl
theorem BA (kk pp:Int) (tx:ByteArray) (w:World):(Instr.field 44 (zg #[I O kk,I O pp,.string tx]) 0).run Tryz.prog w=.ok (I O kk) w:=by
 simp [Instr.field,run_underlying Tryz.underlying44,go_sem,Result.andThen];rfl
theorem Qg (rb:Nat) (tv:Value) (ts:List Tok) (en n:Nat) (x:ByteArray) (w:World) (h:St rb tv ts en n w) :
  Calls Tryz.prog 51 #[zf (some ⟨rb,0,none⟩),.string x] w fun e w'=>e=zh (zd ((Ag ts n).text.toList == x.toList))/\Below w.heap.size w w':=by
 have f:=Bj rb tv ts en n w h;obtain ⟨i,c⟩:∃ y,y=(Ag ts n).kind:=⟨_,rfl⟩;obtain ⟨g,b⟩:∃ y,y=(Ag ts n).pos:=⟨_,rfl⟩;obtain ⟨tx,a⟩:∃ y,y=(Ag ts n).text:=⟨_,rfl⟩;rw [<-c,<-b,<-a] at f;rw [<-a];unfold AG at f;have H:=Aa f;clear h f c b a;go_enter Tryz.func51,Tryz.ntmps51;go_wp2_with fail;refine (H.out).mono ?_;rintro e r ⟨rfl,l⟩;clear H;have j:=Bz i g tx;go_wp2_with fail;go_ret;exact ⟨rfl,l⟩
theorem Cm {ts:List Tok} {n:Nat} (h:¬ (Ag ts n).text.data.toList=[]):n < ts.length:=by
 rcases Nat.lt_or_ge n ts.length with h1 | h1
 ·exact h1
 ·exfalso
  apply h;have:ts[n]? = none:=List.getElem?_eq_none h1;simp [Ag,this]
def isT (ts:List Tok) (n:Nat) (l:List UInt8):Bool:=(Ag ts n).text.data.toList == l
def AN (t:Tok):Bool:=(t.kind == 1) && !Cy t.text
theorem Qh (ts:List Tok) (n:Nat) (x:ByteArray):((Ag ts n).text.toList == x.toList)=isT ts n x.data.toList:=by
 unfold isT;rw [ByteArray.toList_eq,ByteArray.toList_eq]
theorem CS {ts:List Tok} {n:Nat} {l:List UInt8} (h:isT ts n l=true) (hl:l≠[]):n < ts.length:=
 Cm (fun h2=>hl (by rw [isT,h2] at h;exact (beq_iff_eq.1 h).symm))
theorem Hy (rb:Nat) (tv:Value) (ts:List Tok) (en n:Nat) (x:ByteArray) (w:World) (h:St rb tv ts en n w) :
  Calls Tryz.prog 51 #[zf (some ⟨rb,0,none⟩),.string x] w fun e w'=>e=zh (zd (isT ts n x.data.toList))/\Below w.heap.size w w':=by
 rw [<-Qh];exact Qg rb tv ts en n x w h
theorem CG {rb:Nat} {tv:Value} {ts:List Tok} {en n:Nat} {w:World} (h:St rb tv ts en n w) (hn:n < ts.length) :
  St rb tv ts en (n+1) (w.setCell ⟨rb,1,none⟩ (I O ((n:Int)+1)))/\w.grownBy (w.setCell ⟨rb,1,none⟩ (I O ((n:Int)+1))) (some rb):=by
 have b:w.grownBy (w.setCell ⟨rb,1,none⟩ (I O ((n:Int)+1))) (some rb):=
  ⟨rfl,rfl,rfl,by simp [World.setCell],fun k c a=>Below.heap_setCell _ _ _ _ (fun e=>a (by rw [e]))⟩
 refine ⟨h.keep b ?_ hn,b⟩;have:=h.1;simp [World.setCell,Array.getElem?_modify,this]
theorem BT (rb:Nat) (tv:Value) (ts:List Tok) (en n:Nat) (x:ByteArray) (w:World) (h:St rb tv ts en n w) (hx:isT ts n x.data.toList=true) (hn:n < ts.length) :
  Calls Tryz.prog 98 #[zf (some ⟨rb,0,none⟩),.string x] w fun e w'=>e=zh (zd true)/\w.grownBy w' (some rb)/\St rb tv ts en (n+1) w':=by
 have c:=Hy rb tv ts en n x w h;rw [hx] at c;have H:=Aa c;have l:=h.2.2.1;clear c hx;go_enter Tryz.func98,Tryz.ntmps98;go_wp2_with fail;refine (H.out).mono ?_;rintro e j ⟨rfl,g⟩;have i:=h.below g;obtain ⟨A,y,v,u⟩:=i.cells;have f:=Ad (r:=some rb) g;have a:=CG i hn;have b:=Aa a;clear H h a i g;go_wp2_with fail;go_ret;exact ⟨rfl,Ab f b.out.2,b.out.1⟩
theorem B4 (rb:Nat) (tv:Value) (ts:List Tok) (en n:Nat) (x:ByteArray) (w:World) (h:St rb tv ts en n w) (hx:isT ts n x.data.toList=false) :
  Calls Tryz.prog 98 #[zf (some ⟨rb,0,none⟩),.string x] w fun e w'=>e=zh (zd false)/\Below w.heap.size w w':=by
 have a:=Hy rb tv ts en n x w h;rw [hx] at a;have H:=Aa a;clear a hx;go_enter Tryz.func98,Tryz.ntmps98;go_wp2_with fail;refine (H.out).mono ?_;rintro e c ⟨rfl,b⟩;go_wp2_with fail;go_ret;exact ⟨rfl,b⟩
theorem I9 (rb:Nat) (tv:Value) (ts:List Tok) (en n:Nat) (x:ByteArray) (w:World) (h:St rb tv ts en n w) (hx:isT ts n x.data.toList=true) (hn:n < ts.length) :
  Calls Tryz.prog 53 #[zf (some ⟨rb,0,none⟩),.string x] w fun e w'=>e=zh (zi #[])/\w.grownBy w' (some rb)/\St rb tv ts en (n+1) w':=by
 have H:=Aa (BT rb tv ts en n x w h hx hn);clear h hx;go_enter Tryz.func53,Tryz.ntmps53;go_wp2_with fail;refine (H.out).mono ?_;rintro e c ⟨rfl,b,a⟩;go_wp2_with fail;go_end0;exact ⟨rfl,b,a⟩
theorem LG (rb:Nat) (tv:Value) (ts:List Tok) (en n:Nat) (x:ByteArray) (w:World) (h:St rb tv ts en n w) (hx:isT ts n x.data.toList=false) :
  Calls Tryz.prog 53 #[zf (some ⟨rb,0,none⟩),.string x] w fun e w'=>e=Ai (Av ts en n)/\Below w.heap.size w w':=by
 have H:=Aa (B4 rb tv ts en n x w h hx);clear hx;go_enter Tryz.func53,Tryz.ntmps53;go_wp2_with fail;refine (H.out).mono ?_;rintro e c ⟨rfl,b⟩;have f:=Aa (BQ rb tv ts en n c (h.below b));clear H h;go_wp2_with fail;refine (f.out).mono ?_;rintro e g ⟨rfl,a⟩;unfold Ai;go_wp2_with fail;exact ⟨rfl,rfl,b.trans (a.mono b.size)⟩
theorem BF (rb:Nat) (tv:Value) (ts:List Tok) (en n:Nat) (w:World) (h:St rb tv ts en n w) :
  Calls Tryz.prog 131 #[zf (some ⟨rb,0,none⟩)] w fun e w'=>e=zh (zd (AN (Ag ts n)))/\Below w.heap.size w w':=by
 have i:=Bj rb tv ts en n w h;have hw:=GP (Ag ts n).text;obtain ⟨r,hr⟩:∃ r,r=AN (Ag ts n):=⟨_,rfl⟩;rw [<-hr];unfold AN at hr;obtain ⟨l,b⟩:∃ y,y=(Ag ts n).kind:=⟨_,rfl⟩;obtain ⟨C,f⟩:∃ y,y=(Ag ts n).pos:=⟨_,rfl⟩;obtain ⟨tx,a⟩:∃ y,y=(Ag ts n).text:=⟨_,rfl⟩;rw [<-b,<-f,<-a] at i;rw [<-a] at hw;rw [<-b,<-a] at hr;unfold AG at i;obtain ⟨A,c⟩:∃ y,y=Cy tx:=⟨_,rfl⟩;rw [<-c] at hw hr;have H:=Aa i;have x:=Aa hw;have u:=Aa hr;clear h i b f a hw hr c;by_cases hk:(l == 1)=true
 ·go_enter Tryz.func131,Tryz.ntmps131
  go_wp2_with fail;refine (H.out).mono ?_;rintro e v ⟨rfl,g⟩;clear H;go_wp2_with fail;refine (x.out _).mono ?_;rintro e B ⟨rfl,rfl⟩;go_wp2_with fail;go_ret;exact ⟨by rw [u.out,hk];rfl,g.alloc g.size _⟩
 ·have j:(l == 1)=false:=by simpa using hk
  clear hk;go_enter Tryz.func131,Tryz.ntmps131;go_wp2_with fail;refine (H.out).mono ?_;rintro e v ⟨rfl,g⟩;clear H;go_wp2_with fail;go_ret;exact ⟨by rw [u.out,j];rfl,g.alloc g.size _⟩
theorem GQ {ts:List Tok} {n:Nat} (h:AN (Ag ts n)=true):n < ts.length:=by
 rcases Nat.lt_or_ge n ts.length with h1 | h1
 ·exact h1
 ·exfalso
  have e:ts[n]? = none:=List.getElem?_eq_none h1;simp [AN,Ag,e] at h
theorem JB (rb:Nat) (tv:Value) (ts:List Tok) (en n:Nat) (w:World) (h:St rb tv ts en n w) (hx:AN (Ag ts n)=true) :
  Calls Tryz.prog 95 #[zf (some ⟨rb,0,none⟩)] w fun e w'=>e=zh (.string (Ag ts n).text)/\w.grownBy w' (some rb)/\St rb tv ts en (n+1) w':=by
 have G:=GQ hx;have u:=BF rb tv ts en n w h;rw [hx] at u;have H:=Aa u;have L:=h.2.2.1;clear u hx;go_enter Tryz.func95,Tryz.ntmps95;go_wp2_with fail;refine (H.out).mono ?_;rintro e C ⟨rfl,l⟩;have x:=h.below l;have j:=Bj rb tv ts en n C x;obtain ⟨F,g⟩:∃ y,y=(Ag ts n).kind:=⟨_,rfl⟩;obtain ⟨E,f⟩:∃ y,y=(Ag ts n).pos:=⟨_,rfl⟩;obtain ⟨tx,a⟩:∃ y,y=(Ag ts n).text:=⟨_,rfl⟩;rw [<-g,<-f,<-a] at j;unfold AG at j;have B:=Aa j;have A:=Aa a;have J:=Bz F E tx;clear H j g f a;go_wp2_with fail;refine (B.out).mono ?_;rintro e K ⟨rfl,b⟩;have v:=x.below b;obtain ⟨P,O,N,M⟩:=v.cells;have I:=Ad (r:=some rb) (l.trans (b.mono l.size));have c:=CG v G;have i:=Aa c;clear B h c x v l b;go_wp2_with fail;go_ret;exact ⟨by rw [<-A.out];rfl,Ab I i.out.2,i.out.1⟩
theorem Pc (rb:Nat) (tv:Value) (ts:List Tok) (en n:Nat) (w:World) (h:St rb tv ts en n w) (hx:AN (Ag ts n)=false) :
  Calls Tryz.prog 95 #[zf (some ⟨rb,0,none⟩)] w fun e w'=>e=Ai (Av ts en n)/\Below w.heap.size w w':=by
 have a:=BF rb tv ts en n w h;rw [hx] at a;have H:=Aa a;clear a hx;go_enter Tryz.func95,Tryz.ntmps95;go_wp2_with fail;refine (H.out).mono ?_;rintro e f ⟨rfl,c⟩;have g:=Aa (BQ rb tv ts en n f (h.below c));clear H h;go_wp2_with fail;refine (g.out).mono ?_;rintro e i ⟨rfl,b⟩;unfold Ai;go_wp2_with fail;exact ⟨rfl,rfl,c.trans (b.mono c.size)⟩
end Go.Proofs.YtipngnjffjajpaaGreatDoor
