/- What token.scan defers: a panic of a place is recovered, and its place and reason are laid into the results. -/
import Derived.Test.YtipngnjffjajpaaGreatDoorH01
import Derived.Defers
import Derived.Recover
import Derived.Lib.AppendStr
import Derived.Lib.Builder
import Derived.Laws.Externs
import Derived.Deep.QuietTactic
import Derived.BigQuiet
set_option linter.unusedVariables false
set_option maxHeartbeats 8000000
set_option maxRecDepth 100000
namespace Go.Proofs.YtipngnjffjajpaaGreatDoor
open Go.RowKit
open Go.Value renaming int -> M, slice -> U, bool -> zc, pointer -> zd, agg -> zf, tuple -> zh
open Go.IntKind renaming i64 -> O
open Go.Obj renaming cells -> ze
open Go.Ending renaming returned -> zg
theorem I5 (p q r:Addr) (w:World) :
  CallsD Tryz.prog 80 #[zd (some p),zd (some q),zd (some r)] .returning w fun e u' w'=>e=zg (zh #[])/\u'=.returning/\w'=w:=by
 refine callsD_of_wpS Tryz.func80 rfl fun b c a=>?_;apply wpS_seq;apply wpS_region;simp [wpOpsS,go_sem,recoverD,a,Tryz.ntmps80,Exit.thenS];refine wpS_of_wp ?_
 change Code.wp Tryz.prog _ _ { tmps:=#[zd (some p),zd (some q),zd (some r),.nilIface,undef,.nilIface,undef,undef,undef,undef,undef,undef,undef,undef],defers:=[] } w
 go_wp2
 cases b
 simp_all [bodyPostS,results,Tryz.results80]
theorem LQ (v:Value) (w:World):(Instr.typeAssert (.iface 116 v) 20 116 false).run Tryz.prog w=.ok v w:=by
 simp [Instr.typeAssert,run_underlying Tryz.underlying116,go_sem,Result.andThen]
theorem Il (B:Nat) (x:Value) (m n a e:Int) (older:List PanicEntry) (w:World) (hB:B+3<=w.heap.size)
  (c0:w.cell? ⟨B,0,none⟩=some x) (c1:w.cell? ⟨B+1,0,none⟩=some (M O m)) (c2:w.cell? ⟨B+1+1,0,none⟩=some (M O n))
  (f0:w.frozen? ⟨B,0,none⟩=false) (f1:w.frozen? ⟨B+1,0,none⟩=false) (f2:w.frozen? ⟨B+1+1,0,none⟩=false) :
  CallsD Tryz.prog 80 #[zd (some ⟨B,0,none⟩),zd (some ⟨B+1,0,none⟩),zd (some ⟨B+1+1,0,none⟩)] (.panicking ({ v:=.iface 116 (zf #[M O a,M O e]),recovered:=false }::older)) w fun en u' w'=>
   en=zg (zh #[])/\u'=.panicking ({ v:=.iface 116 (zf #[M O a,M O e]),recovered:=true }::older) /\
   w'.cell? ⟨B,0,none⟩=some (U none 0 0)/\w'.cell? ⟨B+1,0,none⟩=some (M O a)/\w'.cell? ⟨B+1+1,0,none⟩=some (M O e)/\Below B w w':=by
 have c:=LQ;refine callsD_of_wpS Tryz.func80 rfl fun f g b=>?_;apply wpS_seq;apply wpS_region;simp [wpOpsS,go_sem,recoverD,b,Tryz.ntmps80,Exit.thenS];refine wpS_of_wp ?_
 change Code.wp Tryz.prog _ _ { tmps:=#[zd (some ⟨B,0,none⟩),zd (some ⟨B+1,0,none⟩),zd (some ⟨B+1+1,0,none⟩),.iface 116 (zf #[M O a,M O e]),undef,.iface 116 (zf #[M O a,M O e]),undef,undef,undef,undef,undef,undef,undef,undef],defers:=[] } w
 go_wp2
 have k1:B < w.heap.size:=by omega
 have k2:B+1 < w.heap.size:=by omega
 have k3:B+1+1 < w.heap.size:=by omega
 go_region
 go_wp2
 refine ⟨rfl,_,by cases f;simp_all,zh #[],by simp [results,Tryz.results80],rfl,rfl,?_⟩;refine ⟨by simp [go_sem,k1,c0],by simp [go_sem,k2,c1],by simp [go_sem,k3,c2],?_⟩;exact (((((Below.refl B w).setCell (by simp) _).setCell (by simp) _).setCell (by simp;omega) _).alloc (by simp [World.setCell];omega) _).drew
theorem BB {w:World} {base:Nat} {e:TypeId} {size:Nat} {v:Value} {n:Nat} {xs:List Value} (h:w.ownsRow base e size v n xs):∃ ao cap,v=U ao n cap:=by
 rcases h.2 with ⟨rfl,rfl⟩ | ⟨g,cap,a,rfl,_⟩
 ·exact ⟨_,_,rfl⟩
 ·exact ⟨_,_,rfl⟩
def B4 (w w':World):Prop:=∀ (g:Nat) (cs:Array Value) (T:TypeId) (fr:Nat × Nat),w.heap[g]? = some (Obj.cells cs T fr)->T≠77->T≠5->w'.heap[g]? = some (Obj.cells cs T fr)
theorem B4.refl (w:World):B4 w w:=fun _ _ _ _ h _ _=>h
theorem B4.trans {a b c:World} (h:B4 a b) (k:B4 b c):B4 a c:=fun g cs T fr hg h1 h2=>k g cs T fr (h g cs T fr hg h1 h2) h1 h2
theorem B4.alloc (w:World) (o:Obj):B4 w (w.alloc o):=fun g cs T fr hg _ _=>by
 rw [Below.heap_alloc _ _ _ (Array.getElem?_eq_some_iff.1 hg).1];exact hg
theorem B4.setCell {w:World} {b:Nat} {cs:Array Value} {fr:Nat × Nat} (hb:w.heap[b]? = some (.cells cs 77 fr)) (o:Nat) (v:Value):B4 w (w.setCell ⟨b,o,none⟩ v):=fun g cs' T fr' hg h1 _=>by
 rw [Below.heap_setCell _ _ _ _ (fun e=>?_)]
 ·exact hg
 ·simp only at e
  rw [e] at hg;rw [hg] at hb;simp at hb;exact h1 hb.2.1
theorem B4.grown {w w':World} {B:Nat} {v:Value} {n:Nat} {xs:List Value} (hown:w.ownsRow B 5 1 v n xs) (hg:w.grownBy w' v.ownBlock):B4 w w':=fun g cs T fr hh _ h2=>by
 rw [hg.block g (Array.getElem?_eq_some_iff.1 hh).1 (fun e=>?_)]
 ·exact hh
 ·rcases hown.2 with ⟨rfl,_⟩ | ⟨g',cap,cur,rfl,_,hk,_⟩
  ·simp [Value.ownBlock] at e
  ·simp [Value.ownBlock] at e
   subst e;rw [hk] at hh;simp at hh;exact h2 hh.2.1.symm
theorem Tryz.size48:(Tryz.prog.info? 77).map (·.size)=some 2:=by kernel_rfl
theorem Tryz.lies48:liesAt Tryz.prog Tryz.prog.depth 77 (2 / Tryz.prog.cellsOf 77) 0 77 1=true:=by kernel_rfl
theorem Tryz.run39 (x:Value) (w:World):(callFunc 145 #[x]).run Tryz.prog w=.ok (.value x) w:=by
 rw [run_callFunc_extern Tryz.func145 (by kernel_rfl) (by kernel_rfl) (by kernel_rfl) (e:=Extern.AbiNoEscape.same) (by kernel_rfl),Lib.run_noEscape];rfl
theorem F0 (B b:Nat) (bs:List Value) (w:World) (h:Lib.IsBuilder 77 5 B b bs w) :
  Calls Tryz.prog 121 #[zd (some ⟨b,0,none⟩)] w fun e w'=>e=zg (zh #[])/\Lib.BuilderAt 77 5 B b (zd (some ⟨b,0,none⟩)) bs w'/\Below B w w'/\B4 w w':=by
 obtain ⟨j,f,c⟩:=Option.map_eq_some_iff.1 Tryz.size48;rcases h with h | h
 ·have r:=h.cell0
  have u:=h.frozen0;have k:=Lib.run_to_unsafe w ⟨b,0,none⟩ Tryz.underlying74 Tryz.underlying158 f (by rw [c];decide) h.shape (Nat.zero_lt_succ 1);have l:=Tryz.run39;have g:=Lib.run_from_unsafe w ⟨b,0,none⟩ Tryz.underlying158 Tryz.underlying74 f h.shape Tryz.lies48;have a:Lib.BuilderAt 77 5 B b (zd (some ⟨b,0,none⟩)) bs (w.setCell ⟨b,0,none⟩ (zd (some ⟨b,0,none⟩)))/\Below B w (w.setCell ⟨b,0,none⟩ (zd (some ⟨b,0,none⟩)))/\B4 w (w.setCell ⟨b,0,none⟩ (zd (some ⟨b,0,none⟩))):=
   ⟨h.used _,(Below.refl B w).setCell (p:=⟨b,0,none⟩) h.1 _,by obtain ⟨_,v,n,_⟩:=h;exact B4.setCell n _ _⟩
  have i:=Aa a;clear a h c f;go_enter Tryz.func121,Tryz.ntmps121
  go_wp2
  go_end0;exact ⟨rfl,i.out⟩
 ·have r:=h.cell0
  have m:=Lib.run_neq_ptr_same w ⟨b,0,none⟩ Tryz.underlying74 f;have i:=Aa h;clear h c f;go_enter Tryz.func121,Tryz.ntmps121
  go_wp2
  go_end0;exact ⟨rfl,i.out,Below.refl B w,B4.refl w⟩
theorem El {w:World} {b:Nat} {o:Obj} (h:w.heap[b]? = some o):b < w.heap.size:=(Array.getElem?_eq_some_iff.1 h).1
theorem Kt (B b:Nat) (bs:List Value) (c:Int) (w:World) (h:Lib.IsBuilder 77 5 B b bs w) (hl:bs.length<=100000) (hBw:B<=w.heap.size) :
  Calls Tryz.prog 83 #[zd (some ⟨b,0,none⟩),M .u8 c] w fun e w'=>e=zg .nilIface/\Lib.BuilderAt 77 5 B b (zd (some ⟨b,0,none⟩)) (bs++[M .u8 c]) w'/\Below B w w'/\B4 w w':=by
 obtain ⟨Q,S,H,G,F⟩:=info_parts Tryz.info5;go_enter Tryz.func83,Tryz.ntmps83;go_wp2_with fail;refine (F0 B b bs _ h).mono ?_;rintro e C ⟨rfl,⟨L,v,x,f,I⟩,l,r⟩;have k1:C.cell? ⟨b,1,none⟩=some v:=by rw [Lib.cell_of_heap x];rfl
 have J:=El x;obtain ⟨O,A,rfl⟩:=BB f;go_wp2_with (at_builtin;refine wpList_append_own _ rfl _ _ 75 rfl B 5 Q (M .u8 0) 1 1 Tryz.underlying75 S H G F rfl (by decide) _ _ _ rfl (f.alloc _) ⟨C.heap.size,0,none⟩ 1 1 [M .u8 c] rfl rfl ?c1 ?c2 ?c3 ?c4 ?c5 ?_)
 case c1=>
  intro j u E
  match j,E with
  | 0,E=>simp at E;subst E;simp [Addr.add]
 case c2=>intro u K;simp at K;subst K;rfl
 case c3=>unfold maxLen;omega
 case c4=>omega
 case c5=>have:=l.size;simp;omega
 ·intro P m g a _
  have i:m.heap[b]? = some (ze #[zd (some ⟨b,0,none⟩),U O bs.length A] 77 (0,0)):=by
   rw [a.block b (by simp;omega) (fun e=>I e.symm),Lib.alloc_old C _ b J];exact x
  have Z:m.cell? ⟨b,1,none⟩=some (U O bs.length A):=by rw [Lib.cell_of_heap i];rfl
  have Y:m.frozen? ⟨b,1,none⟩=false:=Lib.frozen_of_heap i 1;have n:B4 w (m.setCell ⟨b,1,none⟩ P):=((r.trans (B4.alloc C _)).trans (B4.grown (f.alloc _) a)).trans (B4.setCell i _ _);have y:Below B w m:=(l.alloc (by have:=l.size;omega) _).grown a (by have:=l.size;simp;omega) (fun k x=>(f.lt k x).1);obtain ⟨V,N,rfl⟩:=BB g;have R:=Lib.BuilderAt.put (T:=77) (e:=5) L i (bs':=bs++[M .u8 c]) (by simpa using g) (by decide);have W:=Aa R;have X:=Aa n;clear R k1 f a g n r
  go_wp2
  go_ret;exact ⟨rfl,W.out,y.setCell (p:=⟨b,1,none⟩) L _,X.out⟩
theorem Im (B b:Nat) (bs:List Value) (s:ByteArray) (w:World) (h:Lib.IsBuilder 77 5 B b bs w) (hl:bs.length<=100000) (hs:s.size<=6000) (hBw:B<=w.heap.size) :
  Calls Tryz.prog 84 #[zd (some ⟨b,0,none⟩),.string s] w fun e w'=>e=zg (zh #[M O s.size,.nilIface])/\Lib.BuilderAt 77 5 B b (zd (some ⟨b,0,none⟩)) (bs++Lib.strCells s) w'/\Below B w w'/\B4 w w':=by
 obtain ⟨K,L,A,y,x⟩:=info_parts Tryz.info5;go_enter Tryz.func84,Tryz.ntmps84;go_wp2_with fail;refine (F0 B b bs _ h).mono ?_;rintro e I ⟨rfl,⟨F,v,n,c,C⟩,i,m⟩;have k1:I.cell? ⟨b,1,none⟩=some v:=by rw [Lib.cell_of_heap n];rfl
 have E:=El n;obtain ⟨H,u,rfl⟩:=BB c;go_wp2_with (at_builtin;refine Lib.wpList_append_own_string _ rfl _ _ 75 9 rfl B 5 K Tryz.underlying75 Tryz.underlying9 L A y x _ _ _ rfl c s rfl ?c3 ?c4 ?c5 ?_)
 case c3=>unfold maxLen;omega
 case c4=>omega
 case c5=>have:=i.size;omega
 ·intro J j f a _
  have g:j.heap[b]? = some (ze #[zd (some ⟨b,0,none⟩),U H bs.length u] 77 (0,0)):=by
   rw [a.block b E (fun e=>C e.symm)];exact n
  have V:j.cell? ⟨b,1,none⟩=some (U H bs.length u):=by rw [Lib.cell_of_heap g];rfl
  have S:j.frozen? ⟨b,1,none⟩=false:=Lib.frozen_of_heap g 1;have l:B4 w (j.setCell ⟨b,1,none⟩ J):=(m.trans (B4.grown c a)).trans (B4.setCell g _ _);have r:Below B w j:=i.grown a (by have:=i.size;omega) (fun k n=>(c.lt k n).1);obtain ⟨N,G,rfl⟩:=BB f;have R:=Lib.BuilderAt.put (T:=77) (e:=5) F g (bs':=bs++Lib.strCells s) (by simpa [Lib.strCells_length] using f) (by decide);have P:=Aa R;have Q:=Aa l;clear R k1 c a f l m
  go_wp2
  go_ret2
  exact ⟨rfl,P.out,r.setCell (p:=⟨b,1,none⟩) F _,Q.out⟩
theorem DH {B b:Nat} {p:Value} {bs:List Value} {w:World} (h:Lib.BuilderAt 77 5 B b p bs w) (o:Obj):Lib.BuilderAt 77 5 B b p bs (w.alloc o):=by
 obtain ⟨g,v,f,a,c⟩:=h;exact ⟨g,v,(Lib.alloc_old w _ b (El f)).trans f,a.alloc _,c⟩
theorem DG {B b:Nat} {bs:List Value} {w:World} (h:Lib.IsBuilder 77 5 B b bs w) (o:Obj):Lib.IsBuilder 77 5 B b bs (w.alloc o):=by
 rcases h with h | h
 ·exact Or.inl (DH h o)
 ·exact Or.inr (DH h o)
theorem Tryz.info34:(Tryz.prog.info? 44).map (fun i=>(i.zero,i.size,i.bytes))=some (some (zf #[M O 0,M O 0,.string ⟨#[]⟩]),3,32):=by kernel_rfl
theorem JN (wr:World) (B:Nat) (x y z v m n:Value) (h0:wr.cell? ⟨B,0,none⟩=some x) (h1:wr.cell? ⟨B+1,0,none⟩=some y) (h2:wr.cell? ⟨B+1+1,0,none⟩=some z) :
  (((wr.setCell ⟨B,0,none⟩ v).setCell ⟨B+1,0,none⟩ m).setCell ⟨B+1+1,0,none⟩ n).cell? ⟨B,0,none⟩=some v /\
  (((wr.setCell ⟨B,0,none⟩ v).setCell ⟨B+1,0,none⟩ m).setCell ⟨B+1+1,0,none⟩ n).cell? ⟨B+1,0,none⟩=some m /\
  (((wr.setCell ⟨B,0,none⟩ v).setCell ⟨B+1,0,none⟩ m).setCell ⟨B+1+1,0,none⟩ n).cell? ⟨B+1+1,0,none⟩=some n:=by
 simp [go_sem,h0,h1,h2]
theorem F7 {w:World} {base base':Nat} {e:TypeId} {size:Nat} {v:Value} {n:Nat} {xs:List Value} (h:w.ownsRow base e size v n xs) (hb:base'<=base):w.ownsRow base' e size v n xs:=by
 obtain ⟨i,a⟩:=h;refine ⟨i,?_⟩;rcases a with a | ⟨g,c,b,f,j,r⟩
 ·exact Or.inl a
 ·exact Or.inr ⟨g,c,b,f,by omega,r⟩
theorem G0 {w1 w2:World} {B:Nat} {e:TypeId} {size:Nat} {v:Value} {n:Nat} {xs:List Value} {o o':Obj} (hown:w1.ownsRow (B+3) e size v n xs)
  (hg:((w1.alloc o).alloc o').grownBy w2 v.ownBlock) (hw1:B+3<=w1.heap.size) :
  (∀ b off,b < B+3->w2.cell? ⟨b,off,none⟩=w1.cell? ⟨b,off,none⟩)/\(∀ b off,b < B+3->w2.frozen? ⟨b,off,none⟩=w1.frozen? ⟨b,off,none⟩) /\
  (∀ off,w2.cell? ⟨w1.heap.size,off,none⟩=(w1.alloc o).cell? ⟨w1.heap.size,off,none⟩)/\w1.heap.size+2<=w2.heap.size/\Below B w1 w2:=by
 have g:((w1.alloc o).alloc o').heap.size=w1.heap.size+2:=by simp
 have a:∀ k,k < B+3->w2.heap[k]? = w1.heap[k]?:=fun k i=>by
  rw [hg.block k (by omega) (fun h=>by have:=(hown.lt k h.symm).1;omega),Below.heap_alloc _ _ _ (by simp;omega),Below.heap_alloc _ _ _ (by omega)]
 have c:w2.heap[w1.heap.size]? = (w1.alloc o).heap[w1.heap.size]?:=by
  rw [hg.block _ (by omega) (fun h=>by have:=(hown.lt _ h.symm).2;omega),Below.heap_alloc _ _ _ (by simp)]
 refine ⟨fun b off f=>World.cell?_of_block (a b f),fun b off f=>World.frozen?_of_block (a b f),fun off=>World.cell?_of_block c,by have:=hg.size;omega,?_⟩;exact ⟨hg.os,hg.tape,hg.output,by have:=hg.size;omega,fun k i=>a k (by omega)⟩
def Ji (s:ByteArray) (w:World) (B:Nat) (vi:Value) (wr:World):Prop:=
 ∃ (i f:Nat) (ts:List Tok) (v:Value),vi=M O ((AR false s.data.toList i:Nat):Int)/\i<=s.size/\s.size < f+i/\Cc s=pre ts (Bl s f false i)/\ts.length<=i /\
  wr.cell? ⟨B,0,none⟩=some v/\wr.cell? ⟨B+1,0,none⟩=some (M O 0)/\wr.cell? ⟨B+1+1,0,none⟩=some (M O 0) /\
  wr.frozen? ⟨B,0,none⟩=false/\wr.frozen? ⟨B+1,0,none⟩=false/\wr.frozen? ⟨B+1+1,0,none⟩=false /\
  wr.ownsRow (B+3) 44 3 v ts.length (AQ ts)/\Below B w wr/\B+3<=wr.heap.size
theorem Lm (s:ByteArray) (hs:s.size<=6000) (w:World) :
  Calls Tryz.prog 40 #[.string s] w fun e w'=>∃ v,e=zg (zh #[v,M O (Ca s:Int),M O (A8 s:Int)]) /\
   w'.ownsRow w.heap.size 44 3 v (AB s).length (AQ (AB s))/\Below w.heap.size w w':=by
 have bi:∀ (fn:Fn) (first cap:Array Value) (w:World),(Instr.makeFunc fn first cap).run Tryz.prog w=.ok (.func fn first cap) w:=fun _ _ _ _=>rfl;obtain ⟨i0,hi,aw,av,au⟩:=info_parts Tryz.info34
 go_enter_defers Tryz.func40,Tryz.ntmps40
 go_wp2_with fail;refine (Hb s 0 (Nat.zero_le _) hs _).mono ?_;rintro e w' ⟨rfl,rfl⟩;go_wp2_with fail;go_loopw [5] (fun i wr=>Ji s w w.heap.size i wr) (fun i _=>s.size - (intOf i).toNat)
 case atStart=>
  refine ⟨0,s.size+1,[],U none 0 0,rfl,Nat.zero_le _,by omega,(Jl _).symm,Nat.zero_le _,by simp [go_sem],by simp [go_sem],by simp [go_sem],by simp [go_sem],by simp [go_sem],by simp [go_sem],World.ownsRow_nil _ _ _ _,?_,by simp⟩;exact (((Below.refl _ w).alloc (Nat.le_refl _) _).alloc (by simp) _).alloc (by simp;omega) _
 case round=>
  obtain ⟨i,f,r,v,rfl,a1,bk,ah,be,c0,c1,c2,f0,f1,f2,g,k,bg⟩:=hrel;have ac:=Aa ah;clear ah;have hj:=Ld (note:=false) (l:=s.data.toList) (i:=i) (by simpa using a1);have a0:AR false s.data.toList i<=s.size:=by simpa using hj
  have az:=DN false s.data.toList i;obtain ⟨j,Q⟩:∃ j,j=AR false s.data.toList i:=⟨_,rfl⟩;rw [<-Q] at a0 az ⊢;have HJ:=Aa Q;clear Q hj;obtain ⟨ao,cap,rfl⟩:=BB g;by_cases hlt:j < s.size
  ·go_wp2_with fail
   refine (Lz s j hlt hs _).mono ?_;rintro e P ⟨rfl,c⟩;obtain ⟨T,S⟩:=DI c;by_cases he:AH s j=0
   ·simp only [Bk,he,if_true,AI]
    have ax:w.heap.size+3<=P.heap.size:=by have:=c.size;omega
    have ab:=(T w.heap.size 0 (by omega)).trans c0;have aa:=(T (w.heap.size+1) 0 (by omega)).trans c1;have Z:=(T (w.heap.size+1+1) 0 (by omega)).trans c2;have Y:=(S w.heap.size 0 (by omega)).trans f0;have X:=(S (w.heap.size+1) 0 (by omega)).trans f1;have W:=(S (w.heap.size+1+1) 0 (by omega)).trans f2;have b:=GF g c;have B:Below w.heap.size w P:=k.trans (c.mono (by omega));clear T S c0 c1 c2 f0 f1 f2 g k c;have g0:w.heap.size < P.heap.size:=by omega
    have g1:w.heap.size+1 < P.heap.size:=by omega
    have g2:w.heap.size+1+1 < P.heap.size:=by omega
    have A:=B5 he;have m:FA s j=⟨(AA s j).1,j,s.extract j (AA s j).2⟩:=rfl;have E:(s.extract j (AA s j).2).size=(AA s j).2 - j:=by simp;omega
    obtain ⟨kk,aj⟩:∃ kk,kk=(AA s j).1:=⟨_,rfl⟩;obtain ⟨L,G⟩:∃ L,L=(AA s j).2:=⟨_,rfl⟩;rw [<-aj,<-G] at m ⊢;rw [<-G] at A E;obtain ⟨tx,af⟩:∃ tx,tx=s.extract j L:=⟨_,rfl⟩;rw [<-af] at m E ⊢;have HT:=Aa m;have HX:=Aa E;have a8:=Aa G;clear m E aj G af;go_wp2_with (at_builtin;refine wpList_append_own _ rfl _ _ 34 rfl (w.heap.size+3) 44 i0 (zf #[M O 0,M O 0,.string ⟨#[]⟩]) 3 32 Tryz.underlying34 hi aw av au rfl (by decide) _ _ _ rfl ((b.alloc _).alloc _) ⟨P.heap.size+1,0,none⟩ 1 1 [M O (kk:Int),M O (j:Int),.string tx] rfl rfl ?c1 ?c2 ?c3 ?c4 ?c5 ?_)
    case c1=>
     intro q u C
     match q,C with
     | 0,C=>simp at C;subst C;simp [Addr.add]
     | 1,C=>simp at C;subst C;simp [Addr.add]
     | 2,C=>simp at C;subst C;simp [Addr.add]
    case c2=>intro u hu;simp at hu;rcases hu with rfl | rfl | rfl <;> rfl
    case c3=>unfold maxLen;omega
    case c4=>omega
    case c5=>simp;omega
    ·intro v' w2 x y ay
     obtain ⟨H,F,ag,bh,J⟩:=G0 b y ax;have ab:=(H w.heap.size 0 (by omega)).trans ab;have aa:=(H (w.heap.size+1) 0 (by omega)).trans aa;have Z:=(H (w.heap.size+1+1) 0 (by omega)).trans Z;have Y:=(F w.heap.size 0 (by omega)).trans Y;have X:=(F (w.heap.size+1) 0 (by omega)).trans X;have W:=(F (w.heap.size+1+1) 0 (by omega)).trans W;have t2:w2.cell? ⟨P.heap.size,2,none⟩=some (.string tx):=by rw [ag 2];simp [go_sem]
     have V:Below w.heap.size w w2:=B.trans J;obtain ⟨ak,N,rfl⟩:=BB x;clear H F ag J b B y ay;have bf:tx.size<=6000:=by have:=HX.out;omega
     go_wp2_with fail;rw [show ((j:Int)+(tx.size:Int))=((L:Nat):Int) from by have:=HX.out;omega];refine (Hb s L A.2 hs _).mono ?_;rintro e w' ⟨rfl,rfl⟩;have R:Ji s w w.heap.size (M O ((AR false s.data.toList L:Nat):Int)) (w2.setCell { block:=w.heap.size,off:=0 } (Value.slice ak (r.length+1) N)):=by
      obtain ⟨K,rfl⟩:∃ K,f=K + 1:=⟨f - 1,by omega⟩;have n:=Gi ac.out (by rw [<-HJ.out];exact hlt) (by rw [<-HJ.out];exact he);rw [<-HJ.out,<-a8.out,HT.out] at n;refine ⟨L,K,r++[⟨kk,j,tx⟩],U ak (r.length+1) N,rfl,A.2,by omega,n,by simp;omega,by simp [go_sem,ab],by simp [go_sem,aa],by simp [go_sem,Z],by simp [go_sem,Y],by simp [go_sem,X],by simp [go_sem,W],?_,V.setCell (by simp) _,by simp [World.setCell];omega⟩;rw [DK,List.length_append];exact ownsRow_setCell_below x (by simp) _
     have hm:=DN false s.data.toList L;go_wp2_with fail;refine ⟨R,?_⟩;simp [intOf];omega
   ·simp only [Bk,he,if_false,BU]
    go_wp2_with fail;refine leaves_cons (f:=80) (args:=#[zd (some ⟨w.heap.size,0,none⟩),zd (some ⟨w.heap.size+1,0,none⟩),zd (some ⟨w.heap.size+1+1,0,none⟩)]) (by simp) (by simp [go_sem]) ?_;refine (Il w.heap.size _ 0 0 _ _ [] _ (by have:=c.size;omega) ((T _ _ (by omega)).trans c0) ((T _ _ (by omega)).trans c1) ((T _ _ (by omega)).trans c2) ((S _ _ (by omega)).trans f0) ((S _ _ (by omega)).trans f1) ((S _ _ (by omega)).trans f2)).mono ?_;rintro e u' w2 ⟨rfl,rfl,d0,d1,d2,J⟩;have n:=ac.out;obtain ⟨K,rfl⟩:∃ K,f=K + 1:=⟨f - 1,by omega⟩;have a:=Gh n (by rw [<-HJ.out];exact hlt) (by rw [<-HJ.out];exact he);rw [<-HJ.out] at a;have hT:AB s=[]:=by simp [AB,a]
    have hP:Ca s=j:=by simp [Ca,a]
    have hE:A8 s=AH s j:=by simp [A8,a]
    have I:Below w.heap.size w w2:=(k.trans (c.mono (by omega))).trans J;simp [Leaves,settle,results,Tryz.results40,go_sem,d0,d1,d2,hT,hP,hE];exact ⟨World.ownsRow_nil _ _ _ _,I⟩
  ·go_wp2_with fail
   refine leaves_cons (f:=80) (args:=#[zd (some ⟨w.heap.size,0,none⟩),zd (some ⟨w.heap.size+1,0,none⟩),zd (some ⟨w.heap.size+1+1,0,none⟩)]) (by simp) (by simp [go_sem]) ?_;refine (I5 _ _ _ _).mono ?_;rintro e u' w2 ⟨rfl,rfl,rfl⟩;obtain ⟨d0,d1,d2⟩:=JN wr w.heap.size _ _ _ (U ao r.length cap) (M O 0) (M O 0) c0 c1 c2;have n:=ac.out;obtain ⟨K,rfl⟩:∃ K,f=K + 1:=⟨f - 1,by omega⟩;have a:=Hi n (by rw [<-HJ.out];exact hlt);have hT:AB s=r:=by simp [AB,a]
   have hP:Ca s=0:=by simp [Ca,a]
   have hE:A8 s=0:=by simp [A8,a]
   have I:Below w.heap.size w (((wr.setCell ⟨w.heap.size,0,none⟩ (U ao r.length cap)).setCell ⟨w.heap.size+1,0,none⟩ (M O 0)).setCell ⟨w.heap.size+1+1,0,none⟩ (M O 0)):=
    ((k.setCell (by simp) _).setCell (by simp) _).setCell (by simp;omega) _
   have ai:(((wr.setCell ⟨w.heap.size,0,none⟩ (U ao r.length cap)).setCell ⟨w.heap.size+1,0,none⟩ (M O 0)).setCell ⟨w.heap.size+1+1,0,none⟩ (M O 0)).ownsRow w.heap.size 44 3 (U ao r.length cap) r.length (AQ r):=
    F7 (ownsRow_setCell_below (ownsRow_setCell_below (ownsRow_setCell_below g (by simp) _) (by simp) _) (by simp) _) (by omega)
   generalize (((wr.setCell ⟨w.heap.size,0,none⟩ (U ao r.length cap)).setCell ⟨w.heap.size+1,0,none⟩ (M O 0)).setCell ⟨w.heap.size+1+1,0,none⟩ (M O 0))=wF at d0 d1 d2 I ai ⊢;simp [Leaves,settle,results,Tryz.results40,go_sem,d0,d1,d2,hT,hP,hE];exact ⟨ai,I⟩
def JC (s:ByteArray) (w:World) (e:Ending) (w':World):Prop:=
 ∃ (v:Value) (ts:List Tok) (p r:Nat),e=zg (zh #[v,M O (p:Int),M O (r:Int)]) /\
  w'.ownsRow w.heap.size 44 3 v ts.length (AQ ts)/\Below w.heap.size w w' /\
  (if s.size<=6000 then ts=AB s/\p=Ca s/\r=A8 s else ts=[]/\p=0/\r=2)
theorem Io (s:ByteArray) (hs:s.size<=maxLen) (w:World):Calls Tryz.prog 17 #[.string s] w (JC s w):=by
 unfold maxLen at hs;by_cases h:s.size<=6000
 ·go_enter Tryz.func17,Tryz.ntmps17
  go_wp2_with fail;refine (Lm s h _).mono ?_;rintro e c ⟨v,rfl,a,b⟩;go_wp2_with fail
  go_ret3
  exact ⟨v,AB s,Ca s,A8 s,rfl,a,b,by rw [if_pos h];exact ⟨rfl,rfl,rfl⟩⟩
 ·go_enter Tryz.func17,Tryz.ntmps17
  go_wp2_with fail
  go_ret3
  exact ⟨U none 0 0,[],0,2,rfl,World.ownsRow_nil _ _ _ _,Below.refl _ _,by rw [if_neg h];exact ⟨rfl,rfl,rfl⟩⟩
def F3 (w:World) (v:Value) (ts:List Tok):Prop:=
 ∃ ao cap,v=U ao ts.length cap/\(ts≠[]->∃ b off,ao=some ⟨b,off,none⟩/\∀ j u,(AQ ts)[j]? = some u->w.cell? ⟨b,off+j,none⟩=some u)
theorem GQ {w:World} {B:Nat} {v:Value} {ts:List Tok} (h:w.ownsRow B 44 3 v ts.length (AQ ts)):F3 w v ts:=by
 have l:=fun g=>h.cells (g:=g);rcases h.2 with ⟨rfl,i⟩ | ⟨g,c,m,rfl,_⟩
 ·exact ⟨none,0,by rw [i],fun b=>absurd (List.eq_nil_of_length_eq_zero i) b⟩
 ·refine ⟨_,c,rfl,fun _=>⟨g,0,rfl,fun j u k=>?_⟩⟩
  have f:=l g rfl j u k;have a:(⟨g,0,none⟩:Addr).add j=⟨g,j,none⟩:=by unfold Addr.add;split <;> simp_all
  rw [a] at f;simpa using f
theorem H8 {w w':World} {v:Value} {ts:List Tok} (h:F3 w v ts) (hb:Below w.heap.size w w'):F3 w' v ts:=by
 obtain ⟨r,i,l,n⟩:=h;refine ⟨r,i,l,fun c=>?_⟩;obtain ⟨b,a,g,f⟩:=n c;exact ⟨b,a,g,fun j u m=>by
  have k:=f j u m;rw [hb.cell (p:=⟨b,a+j,none⟩) (World.block_lt_of_cell? w _ k)];exact k⟩
def An (t:Tok):Bool:=
 decide (t.text.size<=6000) && decide (A8 t.text=0) && match AB t.text with
  | [u]=>(u.kind == t.kind) && (u.text.data.toList == t.text.data.toList)
  | _=>false
theorem Ku (k a:Int) (x:ByteArray) (hx:x.size<=maxLen) (w:World) :
  Calls Tryz.prog 41 #[AI k a x] w fun e w'=>e=zg (zc (An ⟨k,a,x⟩))/\Below w.heap.size w w':=by
 unfold AI;go_enter Tryz.func41,Tryz.ntmps41;go_wp2_with fail;refine (Io x hx _).mono ?_;rintro e C ⟨v,K,p,r,rfl,c,J,g⟩;obtain ⟨I,Q⟩:=DI J;have T:C.cell? ⟨w.heap.size,0,none⟩=some (M O k):=by rw [I _ _ (by simp)];simp [go_sem]
 have S:C.cell? ⟨w.heap.size,2,none⟩=some (.string x):=by rw [I _ _ (by simp)];simp [go_sem]
 have f:Below w.heap.size w C:=((Below.refl _ w).alloc (Nat.le_refl _) _).trans (J.mono (by simp));clear I Q J;by_cases hr:r=0
 ·have i:x.size<=6000:=by
   rcases Nat.lt_or_ge 6000 x.size with h | h
   ·rw [if_neg (by omega)] at g;omega
   ·exact h
  rw [if_pos i] at g;obtain ⟨j,L,y⟩:=g;have R:((r:Int) == 0)=true:=by simp;omega
  by_cases h1:K.length=1
  ·obtain ⟨u,rfl⟩:=List.length_eq_one_iff.1 h1
   obtain ⟨P,G,rfl,F⟩:=GQ c;obtain ⟨b,E,rfl,A⟩:=F (by simp);have u0:C.cell? ⟨b,E,none⟩=some (M O u.kind):=A 0 _ rfl;have u2:C.cell? ⟨b,E+2,none⟩=some (.string u.text):=A 2 _ rfl;have n:An ⟨k,a,x⟩=((u.kind == k) && (u.text.toList == x.toList)):=by
    simp [An,i,<-y,hr,<-j,ByteArray.toList_eq]
   have B:=Aa n;clear n A F c j L y hr h1;by_cases hk:(u.kind == k)=true
   ·go_wp2_with fail
    go_quiet ((fail))
    go_wp2
    go_ret;exact ⟨by rw [B.out,hk];rfl,below_drewN f _⟩
   ·have H:(u.kind == k)=false:=by simpa using hk
    clear hk;go_wp2_with fail
    go_quiet ((fail))
    go_wp2
    go_ret;exact ⟨by rw [B.out,H];rfl,below_drewN f _⟩
  ·have U:((K.length:Int) == 1)=false:=by simp;omega
   obtain ⟨P,G,rfl⟩:=BB c;have n:An ⟨k,a,x⟩=false:=by
    have N:¬ (AB x).length=1:=by rw [<-j];exact h1
    simp only [An];generalize AB x=l at N
    match l,N with
    | [],_=>simp
    | [u],h=>simp at h
    | u::v::m,_=>simp
   have B:=Aa n;clear n c j L y hr h1;go_wp2_with fail
   go_quiet ((fail))
   go_wp2
   go_ret;exact ⟨by rw [B.out];rfl,below_drewN f _⟩
 ·have R:((r:Int) == 0)=false:=by simp;omega
  obtain ⟨P,G,rfl⟩:=BB c;have n:An ⟨k,a,x⟩=false:=by
   by_cases i:x.size<=6000
   ·rw [if_pos i] at g
    have:¬ A8 x=0:=by rw [<-g.2.2];exact hr
    simp [An,this]
   ·simp [An,i]
  have B:=Aa n;clear n c g;go_wp2_with fail
  go_quiet ((fail))
  go_wp2
  go_ret;exact ⟨by rw [B.out];rfl,below_drewN f _⟩
def CB:List Tok->List UInt8
 | []=>[]
 | [t]=>t.text.data.toList
 | t::u::ts=>t.text.data.toList++32::CB (u::ts)
def BL (ts:List Tok):Nat:=(ts.map fun t=>t.text.size+1).sum
theorem FG (ts:List Tok) (t:Tok):BL (ts++[t])=BL ts+(t.text.size+1):=by simp [BL]
theorem IU (ts:List Tok) (t:Tok):CB (ts++[t])=if ts=[] then t.text.data.toList else CB ts++32::t.text.data.toList:=by
 induction ts with
 | nil=>simp [CB]
 | cons u ts ih=>
  cases ts with
  | nil=>simp [CB]
  | cons v ts=>simp [CB] at ih ⊢;rw [ih]
theorem GT (ts:List Tok):(CB ts).length+1=BL ts\/ts=[]:=by
 induction ts with
 | nil=>exact Or.inr rfl
 | cons u ts ih=>
  left
  cases ts with
  | nil=>simp [CB,BL]
  | cons v ts=>
   have:=ih.resolve_right (by simp);simp [CB,BL] at this ⊢;omega
theorem IA (ts:List Tok) (k:Nat):BL (ts.take k)<=BL ts:=by
 induction ts generalizing k with
 | nil=>simp [BL]
 | cons u ts ih=>
  cases k with
  | zero=>simp [BL]
  | succ k=>have:=ih k;simp [BL] at this ⊢;omega
theorem D9 {w:World} {b off:Nat} {ts:List Tok} (h:∀ j u,(AQ ts)[j]? = some u->w.cell? ⟨b,off+j,none⟩=some u) {i:Nat} (hi:i < ts.length) :
  w.cell? ⟨b,off+i*3,none⟩=some (M O ts[i].kind)/\w.cell? ⟨b,off+i*3+1,none⟩=some (M O ts[i].pos)/\w.cell? ⟨b,off+i*3+2,none⟩=some (.string ts[i].text):=by
 have a:∀ (ts:List Tok) (i:Nat) (hi:i < ts.length),(AQ ts)[i*3]? = some (M O ts[i].kind)/\(AQ ts)[i*3+1]? = some (M O ts[i].pos)/\(AQ ts)[i*3+2]? = some (.string ts[i].text):=by
  intro ts
  induction ts with
  | nil=>intro i hi;simp at hi
  | cons t ts ih=>
   intro i hi
   cases i with
   | zero=>simp [AQ,DL]
   | succ i=>
    have:=ih i (by simpa using hi);have e:∀ j,(AQ (t::ts))[(i+1)*3+j]? = (AQ ts)[i*3+j]?:=fun j=>by
     have:(i+1)*3+j=i*3+j+3:=by omega
     rw [this];simp [AQ,DL]
    have c:=e 0;simp only [Nat.add_zero] at c;rw [c,e 1,e 2];simpa using this
 obtain ⟨f,k1,k2⟩:=a ts i hi;exact ⟨h _ _ f,by rw [Nat.add_assoc];exact h _ _ k1,by rw [Nat.add_assoc];exact h _ _ k2⟩
theorem LH (v:Value) (ts:List Tok) (w:World) (hv:F3 w v ts) (hs:BL ts<=6001) :
  Calls Tryz.prog 42 #[v] w fun e w'=>e=zg (.string ⟨(CB ts).toArray⟩)/\Below w.heap.size w w':=by
 obtain ⟨ao,ac,rfl,K⟩:=hv;have hn:ts.length<=6001:=by
  have:∀ l:List Tok,l.length<=BL l:=by
   intro l
   induction l with
   | nil=>simp [BL]
   | cons u l ih=>simp [BL] at ih ⊢;omega
  have:=this ts;omega
 go_enter Tryz.func42,Tryz.ntmps42;go_wp2_with fail;go_loopw [8] (fun i wr=>∃ k:Nat,k<=ts.length/\i=M O k/\Lib.IsBuilder 77 5 w.heap.size w.heap.size (Lib.byteCells (CB (ts.take k))) wr/\Below w.heap.size w wr/\w.heap.size < wr.heap.size) (fun i _=>ts.length - (intOf i).toNat)
 case atStart=>exact ⟨0,Nat.zero_le _,rfl,Lib.fresh_isBuilder 77 5 w,(Below.refl _ w).alloc (Nat.le_refl _) _,by simp⟩
 case round=>
  obtain ⟨k,hk,rfl,P,a,Z⟩:=hrel;by_cases hkl:k < ts.length
  ·obtain ⟨b,y,rfl,J⟩:=K (by rintro rfl;simp at hkl)
   obtain ⟨q0,q1,T⟩:=D9 J hkl;have Q:b < w.heap.size:=World.block_lt_of_cell? w _ q0;have F:=(a.cell (p:=⟨b,y+k*3,none⟩) Q).trans q0;have E:=(a.cell (p:=⟨b,y+k*3+1,none⟩) Q).trans q1;have C:=(a.cell (p:=⟨b,y+k*3+2,none⟩) Q).trans T;clear q0 q1 T J K;obtain ⟨kk,f⟩:∃ x,x=ts[k].kind:=⟨_,rfl⟩;obtain ⟨pp,H⟩:∃ x,x=ts[k].pos:=⟨_,rfl⟩;obtain ⟨tx,A⟩:∃ x,x=ts[k].text:=⟨_,rfl⟩;rw [<-f] at F;rw [<-H] at E;rw [<-A] at C;have X:=Aa A;clear f H A;have n:ts.take (k+1)=ts.take k++[ts[k]]:=List.take_succ_eq_append_getElem hkl;have G:=IA ts (k+1);rw [n,FG,<-X.out] at G;have ab:(Lib.byteCells (CB (ts.take k))).length<=6001:=by
    rw [Lib.byteCells_length];rcases GT (ts.take k) with h | h
    ·omega
    ·rw [h];simp [CB]
   have g:CB (ts.take (k+1))=if ts.take k=[] then tx.data.toList else CB (ts.take k)++32::tx.data.toList:=by rw [n,IU,<-X.out]
   have c:ts.take k=[] ↔ k=0:=by
    rw [List.take_eq_nil_iff];constructor
    ·rintro (h | h)
     ·exact h
     ·simp [h] at hkl
    ·exact Or.inl
   by_cases h0:k=0
   ·have Y:¬ (0:Int) < (k:Int):=by omega
    rw [if_pos (c.2 h0)] at g;have I:CB (ts.take k)=[]:=by rw [c.2 h0];rfl
    have S:=Aa g;have R:=Aa I;clear h0 g I c n;go_wp2_with fail;refine (Im w.heap.size w.heap.size _ tx _ (DG P _) (by omega) (by omega) (by simp;omega)).mono ?_;rintro e B ⟨rfl,m,j,f⟩;go_wp2_with fail;refine ⟨⟨k+1,by omega,by go_num,Or.inr ?_,(a.alloc (by omega) _).trans j,by have:=j.size;simp at this;omega⟩,by simp [intOf];omega⟩;rw [S.out];rw [R.out] at m;simpa [Lib.byteCells,Lib.strCells] using m
   ·have Y:(0:Int) < (k:Int):=by omega
    rw [if_neg (fun h=>h0 (c.1 h))] at g;have S:=Aa g;clear h0 g c n;go_wp2_with fail;refine (Kt w.heap.size w.heap.size _ 32 _ (DG P _) (by omega) (by simp;omega)).mono ?_;rintro e B ⟨rfl,m,j,f⟩;have W:=f wr.heap.size _ 44 (0,0) (heap_alloc_new wr _) (by decide) (by decide);have c2:B.cell? ⟨wr.heap.size,2,none⟩=some (.string tx):=by rw [Lib.cell_of_heap W];rfl
    have L:Below w.heap.size w B:=(a.alloc (by omega) _).trans j;have U:w.heap.size < B.heap.size:=by have:=j.size;simp at this;omega
    clear W f j F E C;go_wp2_with fail;refine (Im w.heap.size w.heap.size _ tx _ (Or.inr m) (by simp;omega) (by omega) (by omega)).mono ?_;rintro e w2 ⟨rfl,N,r,V⟩;go_wp2_with fail;refine ⟨⟨k+1,by omega,by go_num,Or.inr ?_,L.trans r,by have:=r.size;omega⟩,by simp [intOf];omega⟩;rw [S.out];simpa [Lib.byteCells,Lib.strCells] using N
  ·have aa:k=ts.length:=by omega
   go_wp2_with fail;refine (Tryz.Builder_String_any w.heap.size w.heap.size (CB (ts.take k)) _ P (by omega)).mono ?_;rintro e B ⟨rfl,m⟩;go_wp2_with fail;go_ret;exact ⟨rfl,a.trans m⟩
def St (rb:Nat) (tv:Value) (ts:List Tok) (en n:Nat) (w:World):Prop:=
 w.heap[rb]? = some (Obj.cells #[tv,M O (n:Int),M O (en:Int)] 93 (0,0))/\n<=ts.length/\ts.length<=6000/\∃ ao cap,tv=U ao ts.length cap /\
  (ts≠[]->∃ b off,ao=some ⟨b,off,none⟩/\b≠rb/\∀ (j:Nat) (u:Value),(AQ ts)[j]? = some u->w.cell? ⟨b,off+j,none⟩=some u)
theorem St.keep {rb:Nat} {tv:Value} {ts:List Tok} {en n m:Nat} {w w':World} (h:St rb tv ts en n w) (hg:w.grownBy w' (some rb))
  (hb:w'.heap[rb]? = some (Obj.cells #[tv,M O (m:Int),M O (en:Int)] 93 (0,0))) (hm:m<=ts.length):St rb tv ts en m w':=by
 obtain ⟨_,_,x,y,k,l,v⟩:=h;refine ⟨hb,hm,x,y,k,l,fun f=>?_⟩;obtain ⟨b,c,i,a,g⟩:=v f;exact ⟨b,c,i,a,fun j u r=>hg.cell (g j u r) (by simpa using a)⟩
theorem St.below {rb:Nat} {tv:Value} {ts:List Tok} {en n:Nat} {w w':World} (h:St rb tv ts en n w) (hb:Below w.heap.size w w'):St rb tv ts en n w':=by
 obtain ⟨m,A,y,B,k,r,x⟩:=h;refine ⟨by rw [hb.block rb (Array.getElem?_eq_some_iff.1 m).1];exact m,A,y,B,k,r,fun c=>?_⟩;obtain ⟨b,a,i,g,f⟩:=x c;exact ⟨b,a,i,g,fun j u v=>by
  have l:=f j u v;rw [hb.cell (p:=⟨b,a+j,none⟩) (World.block_lt_of_cell? w _ l)];exact l⟩
theorem Ad {w w':World} {r:Option Nat} (h:Below w.heap.size w w'):w.grownBy w' r:=⟨h.os,h.tape,h.output,h.size,fun k hk _=>h.block k hk⟩
theorem Ac {a b c:World} {r:Option Nat} (h:a.grownBy b r) (k:b.grownBy c r):a.grownBy c r:=
 ⟨k.os.trans h.os,k.tape.trans h.tape,k.output.trans h.output,Nat.le_trans h.size k.size,fun i hi hr=>(k.block i (Nat.lt_of_lt_of_le hi h.size) hr).trans (h.block i hi hr)⟩
theorem St.lt {rb:Nat} {tv:Value} {ts:List Tok} {en n:Nat} {w:World} (h:St rb tv ts en n w):rb < w.heap.size:=(Array.getElem?_eq_some_iff.1 h.1).1
theorem St.cells {rb:Nat} {tv:Value} {ts:List Tok} {en n:Nat} {w:World} (h:St rb tv ts en n w) :
  w.cell? ⟨rb,0,none⟩=some tv/\w.cell? ⟨rb,1,none⟩=some (M O (n:Int))/\w.cell? ⟨rb,2,none⟩=some (M O (en:Int))/\w.frozen? ⟨rb,1,none⟩=false:=by
 have:=h.1;refine ⟨?_,?_,?_,?_⟩ <;> simp [World.cell?,World.frozen?,this]
def Ar (ts:List Tok) (en n:Nat):Int:=match ts[n]? with | some t=>t.pos | none=>(en:Int)
def Ah (ts:List Tok) (n:Nat):Tok:=match ts[n]? with | some t=>t | none=>⟨0,0,⟨#[]⟩⟩
def Ai (p:Int):Ending:=.panicked [{ v:=.iface 90 (M O p),recovered:=false }]
theorem BI (rb:Nat) (tv:Value) (ts:List Tok) (en n:Nat) (w:World) (h:St rb tv ts en n w) :
  Calls Tryz.prog 93 #[zd (some ⟨rb,0,none⟩)] w fun e w'=>e=zg (M O (Ar ts en n))/\Below w.heap.size w w':=by
 obtain ⟨x,v,u,r⟩:=h.cells;obtain ⟨_,l,m,y,k,rfl,f⟩:=h;by_cases hlt:n < ts.length
 ·obtain ⟨b,i,rfl,j,c⟩:=f (by rintro rfl;simp at hlt)
  obtain ⟨q0,q1,g⟩:=D9 c hlt;have a:Ar ts en n=ts[n].pos:=by simp [Ar,hlt]
  rw [a];clear a c f q0 g;go_enter Tryz.func93,Tryz.ntmps93
  go_wp2
  go_quiet ((fail))
  go_wp2
  go_quiet ((fail))
  go_wp2
  go_ret;exact ⟨rfl,below_drewN (below_drewN (Below.refl _ w) _) _⟩
 ·have a:Ar ts en n=en:=by simp [Ar,hlt]
  rw [a];clear a f;go_enter Tryz.func93,Tryz.ntmps93
  go_wp2
  go_quiet ((fail))
  go_wp2
  go_ret;exact ⟨rfl,below_drewN (Below.refl _ w) _⟩
theorem BK (rb:Nat) (tv:Value) (ts:List Tok) (en n:Nat) (w:World) (h:St rb tv ts en n w) :
  Calls Tryz.prog 55 #[zd (some ⟨rb,0,none⟩)] w fun e w'=>e=Ai (Ar ts en n)/\Below w.heap.size w w':=by
 have H:=Aa (BI rb tv ts en n w h);clear h;go_enter Tryz.func55,Tryz.ntmps55;go_wp2_with fail;refine (H.out).mono ?_;rintro e b ⟨rfl,a⟩;go_wp2_with fail;exact ⟨rfl,rfl,a⟩
theorem Bd (rb:Nat) (tv:Value) (ts:List Tok) (en n:Nat) (w:World) (h:St rb tv ts en n w) :
  Calls Tryz.prog 92 #[zd (some ⟨rb,0,none⟩)] w fun e w'=>e=zg (AI (Ah ts n).kind (Ah ts n).pos (Ah ts n).text)/\Below w.heap.size w w':=by
 have u:=h.lt;obtain ⟨I,H,G,F⟩:=h.cells;obtain ⟨_,C,E,J,B,rfl,j⟩:=h;by_cases hlt:n < ts.length
 ·obtain ⟨b,m,rfl,y,i⟩:=j (by rintro rfl;simp at hlt)
  obtain ⟨q0,q1,k⟩:=D9 i hlt;have A:b < w.heap.size:=World.block_lt_of_cell? w _ q0;have f:Ah ts n=ts[n]:=by simp [Ah,hlt]
  rw [f];obtain ⟨r,g⟩:∃ x,x=ts[n].kind:=⟨_,rfl⟩;obtain ⟨l,c⟩:∃ x,x=ts[n].pos:=⟨_,rfl⟩;obtain ⟨tx,a⟩:∃ x,x=ts[n].text:=⟨_,rfl⟩;rw [<-g] at q0 ⊢;rw [<-c] at q1 ⊢;rw [<-a] at k ⊢;clear f i j g c a;unfold AI;go_enter Tryz.func92,Tryz.ntmps92
  go_wp2
  go_quiet ((fail))
  go_wp2
  go_region
  go_wp2
  refine bodyPost_ret (v:=zf #[M O r,M O l,.string tx]) (by simp [results,Tryz.results92,go_sem]) rfl ⟨rfl,?_⟩
  repeat (first | exact Below.refl _ _ | refine Below.setCell ?_ (by simp) _ | refine below_drewN ?_ _ | refine Below.drew ?_ | refine Below.alloc ?_ (by simp) _)
 ·have f:Ah ts n=⟨0,0,⟨#[]⟩⟩:=by simp [Ah,hlt]
  rw [f];clear f j;unfold AI;go_enter Tryz.func92,Tryz.ntmps92
  go_wp2
  go_quiet ((fail))
  go_wp2
  refine bodyPost_ret (v:=zf #[M O 0,M O 0,.string ⟨#[]⟩]) (by simp [results,Tryz.results92,go_sem]) rfl ⟨rfl,?_⟩
  repeat (first | exact Below.refl _ _ | refine Below.setCell ?_ (by simp) _ | refine below_drewN ?_ _ | refine Below.drew ?_ | refine Below.alloc ?_ (by simp) _)
def Gw:List (List UInt8):=[[97,99,116,111,114],[103,114,97,110,116],[115,112,101,97,107],[105,110],[111,117,116],[118,97,114],[102,117,110,99],[109,97,105,110],[103,101,116],[112,117,116],[114,101,118,101,97,108],[116,114,117,115,116],[105,102],[101,108,115,101],[119,104,105,108,101],[114,101,116,117,114,110]]
def Cz (x:ByteArray):Bool:=Gw.contains x.data.toList
theorem Aq {x:ByteArray} {l:List UInt8} (h:x.data.toList=l):x=⟨l.toArray⟩:=by
 apply ByteArray.ext;apply Array.toList_inj.1;simpa using h
theorem Ax {x:ByteArray} {l:List UInt8} (h:¬ x.data.toList=l):(x.toList == l)=false:=by
 rw [ByteArray.toList_eq,beq_eq_false_iff_ne];exact h
theorem FT (x:ByteArray) (w:World) :
  Calls Tryz.prog 108 #[.string x] w fun e w'=>e=zg (zc (Cz x))/\w'=w:=by
 by_cases h0:x.data.toList=[97,99,116,111,114]
 ·obtain rfl:=Aq h0
  clear h0;go_enter Tryz.func108,Tryz.ntmps108
  go_wp2
  go_ret;exact ⟨rfl,rfl⟩
 by_cases h1:x.data.toList=[103,114,97,110,116]
 ·obtain rfl:=Aq h1
  clear h0 h1;go_enter Tryz.func108,Tryz.ntmps108
  go_wp2
  go_ret;exact ⟨rfl,rfl⟩
 by_cases h2:x.data.toList=[115,112,101,97,107]
 ·obtain rfl:=Aq h2
  clear h0 h1 h2;go_enter Tryz.func108,Tryz.ntmps108
  go_wp2
  go_ret;exact ⟨rfl,rfl⟩
 by_cases h3:x.data.toList=[105,110]
 ·obtain rfl:=Aq h3
  clear h0 h1 h2 h3;go_enter Tryz.func108,Tryz.ntmps108
  go_wp2
  go_ret;exact ⟨rfl,rfl⟩
 by_cases h4:x.data.toList=[111,117,116]
 ·obtain rfl:=Aq h4
  clear h0 h1 h2 h3 h4;go_enter Tryz.func108,Tryz.ntmps108
  go_wp2
  go_ret;exact ⟨rfl,rfl⟩
 by_cases h5:x.data.toList=[118,97,114]
 ·obtain rfl:=Aq h5
  clear h0 h1 h2 h3 h4 h5;go_enter Tryz.func108,Tryz.ntmps108
  go_wp2
  go_ret;exact ⟨rfl,rfl⟩
 by_cases h6:x.data.toList=[102,117,110,99]
 ·obtain rfl:=Aq h6
  clear h0 h1 h2 h3 h4 h5 h6;go_enter Tryz.func108,Tryz.ntmps108
  go_wp2
  go_ret;exact ⟨rfl,rfl⟩
 by_cases h7:x.data.toList=[109,97,105,110]
 ·obtain rfl:=Aq h7
  clear h0 h1 h2 h3 h4 h5 h6 h7;go_enter Tryz.func108,Tryz.ntmps108
  go_wp2
  go_ret;exact ⟨rfl,rfl⟩
 by_cases h8:x.data.toList=[103,101,116]
 ·obtain rfl:=Aq h8
  clear h0 h1 h2 h3 h4 h5 h6 h7 h8;go_enter Tryz.func108,Tryz.ntmps108
  go_wp2
  go_ret;exact ⟨rfl,rfl⟩
 by_cases h9:x.data.toList=[112,117,116]
 ·obtain rfl:=Aq h9
  clear h0 h1 h2 h3 h4 h5 h6 h7 h8 h9;go_enter Tryz.func108,Tryz.ntmps108
  go_wp2
  go_ret;exact ⟨rfl,rfl⟩
 by_cases h10:x.data.toList=[114,101,118,101,97,108]
 ·obtain rfl:=Aq h10
  clear h0 h1 h2 h3 h4 h5 h6 h7 h8 h9 h10;go_enter Tryz.func108,Tryz.ntmps108
  go_wp2
  go_ret;exact ⟨rfl,rfl⟩
 by_cases h11:x.data.toList=[116,114,117,115,116]
 ·obtain rfl:=Aq h11
  clear h0 h1 h2 h3 h4 h5 h6 h7 h8 h9 h10 h11;go_enter Tryz.func108,Tryz.ntmps108
  go_wp2
  go_ret;exact ⟨rfl,rfl⟩
 by_cases h12:x.data.toList=[105,102]
 ·obtain rfl:=Aq h12
  clear h0 h1 h2 h3 h4 h5 h6 h7 h8 h9 h10 h11 h12;go_enter Tryz.func108,Tryz.ntmps108
  go_wp2
  go_ret;exact ⟨rfl,rfl⟩
 by_cases h13:x.data.toList=[101,108,115,101]
 ·obtain rfl:=Aq h13
  clear h0 h1 h2 h3 h4 h5 h6 h7 h8 h9 h10 h11 h12 h13;go_enter Tryz.func108,Tryz.ntmps108
  go_wp2
  go_ret;exact ⟨rfl,rfl⟩
 by_cases h14:x.data.toList=[119,104,105,108,101]
 ·obtain rfl:=Aq h14
  clear h0 h1 h2 h3 h4 h5 h6 h7 h8 h9 h10 h11 h12 h13 h14;go_enter Tryz.func108,Tryz.ntmps108
  go_wp2
  go_ret;exact ⟨rfl,rfl⟩
 by_cases h15:x.data.toList=[114,101,116,117,114,110]
 ·obtain rfl:=Aq h15
  clear h0 h1 h2 h3 h4 h5 h6 h7 h8 h9 h10 h11 h12 h13 h14 h15;go_enter Tryz.func108,Tryz.ntmps108
  go_wp2
  go_ret;exact ⟨rfl,rfl⟩
 have hr:Cz x=false:=by simp [Cz,Gw,h0,h1,h2,h3,h4,h5,h6,h7,h8,h9,h10,h11,h12,h13,h14,h15]
 have j:=Aa hr;have B:=Ax h0;have A:=Ax h1;have y:=Ax h2;have v:=Ax h3;have u:=Ax h4;have r:=Ax h5;have n:=Ax h6;have m:=Ax h7;have l:=Ax h8;have k:=Ax h9;have i:=Ax h10;have g:=Ax h11;have f:=Ax h12;have c:=Ax h13;have b:=Ax h14;have a:=Ax h15;clear hr h0 h1 h2 h3 h4 h5 h6 h7 h8 h9 h10 h11 h12 h13 h14 h15;go_enter Tryz.func108,Tryz.ntmps108
 go_wp2
 go_ret;exact ⟨by rw [j.out];rfl,rfl⟩
theorem Bu (kk pp:Int) (tx:ByteArray) (w:World):(Instr.field 44 (zf #[M O kk,M O pp,.string tx]) 2).run Tryz.prog w=.ok (.string tx) w:=by
 simp [Instr.field,run_underlying Tryz.underlying44,go_sem,Result.andThen];rfl
theorem Bv (kk pp:Int) (tx:ByteArray) (w:World):(Instr.field 44 (zf #[M O kk,M O pp,.string tx]) 0).run Tryz.prog w=.ok (M O kk) w:=by
 simp [Instr.field,run_underlying Tryz.underlying44,go_sem,Result.andThen];rfl
theorem MD (rb:Nat) (tv:Value) (ts:List Tok) (en n:Nat) (x:ByteArray) (w:World) (h:St rb tv ts en n w) :
  Calls Tryz.prog 51 #[zd (some ⟨rb,0,none⟩),.string x] w fun e w'=>e=zg (zc ((Ah ts n).text.toList == x.toList))/\Below w.heap.size w w':=by
 have f:=Bd rb tv ts en n w h;obtain ⟨i,c⟩:∃ y,y=(Ah ts n).kind:=⟨_,rfl⟩;obtain ⟨g,b⟩:∃ y,y=(Ah ts n).pos:=⟨_,rfl⟩;obtain ⟨tx,a⟩:∃ y,y=(Ah ts n).text:=⟨_,rfl⟩;rw [<-c,<-b,<-a] at f;rw [<-a];unfold AI at f;have H:=Aa f;clear h f c b a;go_enter Tryz.func51,Tryz.ntmps51;go_wp2_with fail;refine (H.out).mono ?_;rintro e l ⟨rfl,k⟩;clear H;have j:=Bu i g tx;go_wp2_with fail;go_ret;exact ⟨rfl,k⟩
theorem Cb {ts:List Tok} {n:Nat} (h:¬ (Ah ts n).text.data.toList=[]):n < ts.length:=by
 rcases Nat.lt_or_ge n ts.length with h1 | h1
 ·exact h1
 ·exfalso
  apply h;have:ts[n]? = none:=List.getElem?_eq_none h1;simp [Ah,this]
def isT (ts:List Tok) (n:Nat) (l:List UInt8):Bool:=(Ah ts n).text.data.toList == l
def AU (t:Tok):Bool:=(t.kind == 1) && !Cz t.text
theorem ME (ts:List Tok) (n:Nat) (x:ByteArray):((Ah ts n).text.toList == x.toList)=isT ts n x.data.toList:=by
 unfold isT;rw [ByteArray.toList_eq,ByteArray.toList_eq]
theorem B9 {ts:List Tok} {n:Nat} {l:List UInt8} (h:isT ts n l=true) (hl:l≠[]):n < ts.length:=
 Cb (fun h2=>hl (by rw [isT,h2] at h;exact (beq_iff_eq.1 h).symm))
theorem Gr (rb:Nat) (tv:Value) (ts:List Tok) (en n:Nat) (x:ByteArray) (w:World) (h:St rb tv ts en n w) :
  Calls Tryz.prog 51 #[zd (some ⟨rb,0,none⟩),.string x] w fun e w'=>e=zg (zc (isT ts n x.data.toList))/\Below w.heap.size w w':=by
 rw [<-ME];exact MD rb tv ts en n x w h
theorem Cw {rb:Nat} {tv:Value} {ts:List Tok} {en n:Nat} {w:World} (h:St rb tv ts en n w) (hn:n < ts.length) :
  St rb tv ts en (n+1) (w.setCell ⟨rb,1,none⟩ (M O ((n:Int)+1)))/\w.grownBy (w.setCell ⟨rb,1,none⟩ (M O ((n:Int)+1))) (some rb):=by
 have b:w.grownBy (w.setCell ⟨rb,1,none⟩ (M O ((n:Int)+1))) (some rb):=
  ⟨rfl,rfl,rfl,by simp [World.setCell],fun k c a=>Below.heap_setCell _ _ _ _ (fun e=>a (by rw [e]))⟩
 refine ⟨h.keep b ?_ hn,b⟩;have:=h.1;simp [World.setCell,Array.getElem?_modify,this]
theorem BN (rb:Nat) (tv:Value) (ts:List Tok) (en n:Nat) (x:ByteArray) (w:World) (h:St rb tv ts en n w) (hx:isT ts n x.data.toList=true) (hn:n < ts.length) :
  Calls Tryz.prog 98 #[zd (some ⟨rb,0,none⟩),.string x] w fun e w'=>e=zg (zc true)/\w.grownBy w' (some rb)/\St rb tv ts en (n+1) w':=by
 have c:=Gr rb tv ts en n x w h;rw [hx] at c;have H:=Aa c;have k:=h.2.2.1;clear c hx;go_enter Tryz.func98,Tryz.ntmps98;go_wp2_with fail;refine (H.out).mono ?_;rintro e j ⟨rfl,g⟩;have i:=h.below g;obtain ⟨v,u,m,l⟩:=i.cells;have f:=Ad (r:=some rb) g;have a:=Cw i hn;have b:=Aa a;clear H h a i g;go_wp2_with fail;go_ret;exact ⟨rfl,Ac f b.out.2,b.out.1⟩
theorem BX (rb:Nat) (tv:Value) (ts:List Tok) (en n:Nat) (x:ByteArray) (w:World) (h:St rb tv ts en n w) (hx:isT ts n x.data.toList=false) :
  Calls Tryz.prog 98 #[zd (some ⟨rb,0,none⟩),.string x] w fun e w'=>e=zg (zc false)/\Below w.heap.size w w':=by
 have a:=Gr rb tv ts en n x w h;rw [hx] at a;have H:=Aa a;clear a hx;go_enter Tryz.func98,Tryz.ntmps98;go_wp2_with fail;refine (H.out).mono ?_;rintro e c ⟨rfl,b⟩;go_wp2_with fail;go_ret;exact ⟨rfl,b⟩
theorem G6 (rb:Nat) (tv:Value) (ts:List Tok) (en n:Nat) (x:ByteArray) (w:World) (h:St rb tv ts en n w) (hx:isT ts n x.data.toList=true) (hn:n < ts.length) :
  Calls Tryz.prog 53 #[zd (some ⟨rb,0,none⟩),.string x] w fun e w'=>e=zg (zh #[])/\w.grownBy w' (some rb)/\St rb tv ts en (n+1) w':=by
 have H:=Aa (BN rb tv ts en n x w h hx hn);clear h hx;go_enter Tryz.func53,Tryz.ntmps53;go_wp2_with fail;refine (H.out).mono ?_;rintro e c ⟨rfl,b,a⟩;go_wp2_with fail;go_end0;exact ⟨rfl,b,a⟩
theorem Jf (rb:Nat) (tv:Value) (ts:List Tok) (en n:Nat) (x:ByteArray) (w:World) (h:St rb tv ts en n w) (hx:isT ts n x.data.toList=false) :
  Calls Tryz.prog 53 #[zd (some ⟨rb,0,none⟩),.string x] w fun e w'=>e=Ai (Ar ts en n)/\Below w.heap.size w w':=by
 have H:=Aa (BX rb tv ts en n x w h hx);clear hx;go_enter Tryz.func53,Tryz.ntmps53;go_wp2_with fail;refine (H.out).mono ?_;rintro e c ⟨rfl,b⟩;have f:=Aa (BK rb tv ts en n c (h.below b));clear H h;go_wp2_with fail;refine (f.out).mono ?_;rintro e g ⟨rfl,a⟩;unfold Ai;go_wp2_with fail;exact ⟨rfl,rfl,b.trans (a.mono b.size)⟩
theorem BE (rb:Nat) (tv:Value) (ts:List Tok) (en n:Nat) (w:World) (h:St rb tv ts en n w) :
  Calls Tryz.prog 131 #[zd (some ⟨rb,0,none⟩)] w fun e w'=>e=zg (zc (AU (Ah ts n)))/\Below w.heap.size w w':=by
 have i:=Bd rb tv ts en n w h;have hw:=FT (Ah ts n).text;obtain ⟨r,hr⟩:∃ r,r=AU (Ah ts n):=⟨_,rfl⟩;rw [<-hr];unfold AU at hr;obtain ⟨k,b⟩:∃ y,y=(Ah ts n).kind:=⟨_,rfl⟩;obtain ⟨A,f⟩:∃ y,y=(Ah ts n).pos:=⟨_,rfl⟩;obtain ⟨tx,a⟩:∃ y,y=(Ah ts n).text:=⟨_,rfl⟩;rw [<-b,<-f,<-a] at i;rw [<-a] at hw;rw [<-b,<-a] at hr;unfold AI at i;obtain ⟨v,c⟩:∃ y,y=Cz tx:=⟨_,rfl⟩;rw [<-c] at hw hr;have H:=Aa i;have u:=Aa hw;have l:=Aa hr;clear h i b f a hw hr c;by_cases hk:(k == 1)=true
 ·go_enter Tryz.func131,Tryz.ntmps131
  go_wp2_with fail;refine (H.out).mono ?_;rintro e m ⟨rfl,g⟩;clear H;go_wp2_with fail;refine (u.out _).mono ?_;rintro e x ⟨rfl,rfl⟩;go_wp2_with fail;go_ret;exact ⟨by rw [l.out,hk];rfl,g.alloc g.size _⟩
 ·have j:(k == 1)=false:=by simpa using hk
  clear hk;go_enter Tryz.func131,Tryz.ntmps131;go_wp2_with fail;refine (H.out).mono ?_;rintro e m ⟨rfl,g⟩;clear H;go_wp2_with fail;go_ret;exact ⟨by rw [l.out,j];rfl,g.alloc g.size _⟩
theorem FU {ts:List Tok} {n:Nat} (h:AU (Ah ts n)=true):n < ts.length:=by
 rcases Nat.lt_or_ge n ts.length with h1 | h1
 ·exact h1
 ·exfalso
  have e:ts[n]? = none:=List.getElem?_eq_none h1;simp [AU,Ah,e] at h
theorem Hz (rb:Nat) (tv:Value) (ts:List Tok) (en n:Nat) (w:World) (h:St rb tv ts en n w) (hx:AU (Ah ts n)=true) :
  Calls Tryz.prog 95 #[zd (some ⟨rb,0,none⟩)] w fun e w'=>e=zg (.string (Ah ts n).text)/\w.grownBy w' (some rb)/\St rb tv ts en (n+1) w':=by
 have E:=FU hx;have l:=BE rb tv ts en n w h;rw [hx] at l;have H:=Aa l;have J:=h.2.2.1;clear l hx;go_enter Tryz.func95,Tryz.ntmps95;go_wp2_with fail;refine (H.out).mono ?_;rintro e A ⟨rfl,k⟩;have u:=h.below k;have j:=Bd rb tv ts en n A u;obtain ⟨C,g⟩:∃ y,y=(Ah ts n).kind:=⟨_,rfl⟩;obtain ⟨B,f⟩:∃ y,y=(Ah ts n).pos:=⟨_,rfl⟩;obtain ⟨tx,a⟩:∃ y,y=(Ah ts n).text:=⟨_,rfl⟩;rw [<-g,<-f,<-a] at j;unfold AI at j;have x:=Aa j;have v:=Aa a;have G:=Bu C B tx;clear H j g f a;go_wp2_with fail;refine (x.out).mono ?_;rintro e I ⟨rfl,b⟩;have m:=u.below b;obtain ⟨N,M,L,K⟩:=m.cells;have F:=Ad (r:=some rb) (k.trans (b.mono k.size));have c:=Cw m E;have i:=Aa c;clear x h c u m k b;go_wp2_with fail;go_ret;exact ⟨by rw [<-v.out];rfl,Ac F i.out.2,i.out.1⟩
theorem L9 (rb:Nat) (tv:Value) (ts:List Tok) (en n:Nat) (w:World) (h:St rb tv ts en n w) (hx:AU (Ah ts n)=false) :
  Calls Tryz.prog 95 #[zd (some ⟨rb,0,none⟩)] w fun e w'=>e=Ai (Ar ts en n)/\Below w.heap.size w w':=by
 have a:=BE rb tv ts en n w h;rw [hx] at a;have H:=Aa a;clear a hx;go_enter Tryz.func95,Tryz.ntmps95;go_wp2_with fail;refine (H.out).mono ?_;rintro e f ⟨rfl,c⟩;have g:=Aa (BK rb tv ts en n f (h.below c));clear H h;go_wp2_with fail;refine (g.out).mono ?_;rintro e i ⟨rfl,b⟩;unfold Ai;go_wp2_with fail;exact ⟨rfl,rfl,c.trans (b.mono c.size)⟩
end Go.Proofs.YtipngnjffjajpaaGreatDoor
