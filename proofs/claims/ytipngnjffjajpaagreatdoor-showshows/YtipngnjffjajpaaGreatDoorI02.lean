/- What token.scan defers: a panic of a place is recovered, and its place and reason are laid into the results. -/
import Derived.Test.YtipngnjffjajpaaGreatDoorI01
import Derived.Defers
import Derived.Recover
import Derived.Lib.AppendStr
import Derived.Lib.Builder
import Derived.Laws.Externs
import Derived.Deep.QuietTactic
import Derived.BigQuiet
set_option linter.unusedVariables false
set_option maxHeartbeats 8000000
set_option maxRecDepth 100000
namespace Go.Proofs.YtipngnjffjajpaaGreatDoor
open Go.RowKit
open Go.Value renaming int -> A, slice -> O, bool -> zc, agg -> ze, pointer -> zf, tuple -> zh
open Go.IntKind renaming i64 -> J
open Go.Obj renaming cells -> zd
open Go.Ending renaming returned -> zg
theorem Js (p q r:Addr) (w:World) :
  CallsD Tryz.prog 80 #[zf (some p),zf (some q),zf (some r)] .returning w fun e u' w'=>e=zg (zh #[])/\u'=.returning/\w'=w:=by
 refine callsD_of_wpS Tryz.func80 rfl fun b c a=>?_;apply wpS_seq;apply wpS_region;simp [wpOpsS,go_sem,recoverD,a,Tryz.ntmps80,Exit.thenS];refine wpS_of_wp ?_
 change Code.wp Tryz.prog _ _ { tmps:=#[zf (some p),zf (some q),zf (some r),.nilIface,undef,.nilIface,undef,undef,undef,undef,undef,undef,undef,undef],defers:=[] } w
 go_wp2
 cases b
 simp_all [bodyPostS,results,Tryz.results80]
theorem MP (v:Value) (w:World):(Instr.typeAssert (.iface 116 v) 20 116 false).run Tryz.prog w=.ok v w:=by
 simp [Instr.typeAssert,run_underlying Tryz.underlying116,go_sem,Result.andThen]
theorem IR (B:Nat) (x:Value) (m n a e:Int) (older:List PanicEntry) (w:World) (hB:B+3<=w.heap.size)
  (c0:w.cell? ⟨B,0,none⟩=some x) (c1:w.cell? ⟨B+1,0,none⟩=some (A J m)) (c2:w.cell? ⟨B+1+1,0,none⟩=some (A J n))
  (f0:w.frozen? ⟨B,0,none⟩=false) (f1:w.frozen? ⟨B+1,0,none⟩=false) (f2:w.frozen? ⟨B+1+1,0,none⟩=false) :
  CallsD Tryz.prog 80 #[zf (some ⟨B,0,none⟩),zf (some ⟨B+1,0,none⟩),zf (some ⟨B+1+1,0,none⟩)] (.panicking ({ v:=.iface 116 (ze #[A J a,A J e]),recovered:=false }::older)) w fun en u' w'=>
   en=zg (zh #[])/\u'=.panicking ({ v:=.iface 116 (ze #[A J a,A J e]),recovered:=true }::older) /\
   w'.cell? ⟨B,0,none⟩=some (O none 0 0)/\w'.cell? ⟨B+1,0,none⟩=some (A J a)/\w'.cell? ⟨B+1+1,0,none⟩=some (A J e)/\Below B w w':=by
 have c:=MP;refine callsD_of_wpS Tryz.func80 rfl fun f g b=>?_;apply wpS_seq;apply wpS_region;simp [wpOpsS,go_sem,recoverD,b,Tryz.ntmps80,Exit.thenS];refine wpS_of_wp ?_
 change Code.wp Tryz.prog _ _ { tmps:=#[zf (some ⟨B,0,none⟩),zf (some ⟨B+1,0,none⟩),zf (some ⟨B+1+1,0,none⟩),.iface 116 (ze #[A J a,A J e]),undef,.iface 116 (ze #[A J a,A J e]),undef,undef,undef,undef,undef,undef,undef,undef],defers:=[] } w
 go_wp2
 have k1:B < w.heap.size:=by omega
 have k2:B+1 < w.heap.size:=by omega
 have k3:B+1+1 < w.heap.size:=by omega
 go_region
 go_wp2
 refine ⟨rfl,_,by cases f;simp_all,zh #[],by simp [results,Tryz.results80],rfl,rfl,?_⟩;refine ⟨by simp [go_sem,k1,c0],by simp [go_sem,k2,c1],by simp [go_sem,k3,c2],?_⟩;exact (((((Below.refl B w).setCell (by simp) _).setCell (by simp) _).setCell (by simp;omega) _).alloc (by simp [World.setCell];omega) _).drew
theorem AO {w:World} {base:Nat} {e:TypeId} {size:Nat} {v:Value} {n:Nat} {xs:List Value} (h:w.ownsRow base e size v n xs):∃ ao cap,v=O ao n cap:=by
 rcases h.2 with ⟨rfl,rfl⟩ | ⟨g,cap,a,rfl,_⟩
 ·exact ⟨_,_,rfl⟩
 ·exact ⟨_,_,rfl⟩
def BL (w w':World):Prop:=∀ (g:Nat) (cs:Array Value) (T:TypeId) (fr:Nat × Nat),w.heap[g]? = some (Obj.cells cs T fr)->T≠77->T≠5->w'.heap[g]? = some (Obj.cells cs T fr)
theorem BL.refl (w:World):BL w w:=fun _ _ _ _ h _ _=>h
theorem BL.trans {a b c:World} (h:BL a b) (k:BL b c):BL a c:=fun g cs T fr hg h1 h2=>k g cs T fr (h g cs T fr hg h1 h2) h1 h2
theorem BL.alloc (w:World) (o:Obj):BL w (w.alloc o):=fun g cs T fr hg _ _=>by
 rw [Below.heap_alloc _ _ _ (Array.getElem?_eq_some_iff.1 hg).1];exact hg
theorem BL.setCell {w:World} {b:Nat} {cs:Array Value} {fr:Nat × Nat} (hb:w.heap[b]? = some (.cells cs 77 fr)) (o:Nat) (v:Value):BL w (w.setCell ⟨b,o,none⟩ v):=fun g cs' T fr' hg h1 _=>by
 rw [Below.heap_setCell _ _ _ _ (fun e=>?_)]
 ·exact hg
 ·simp only at e
  rw [e] at hg;rw [hg] at hb;simp at hb;exact h1 hb.2.1
theorem BL.grown {w w':World} {B:Nat} {v:Value} {n:Nat} {xs:List Value} (hown:w.ownsRow B 5 1 v n xs) (hg:w.grownBy w' v.ownBlock):BL w w':=fun g cs T fr hh _ h2=>by
 rw [hg.block g (Array.getElem?_eq_some_iff.1 hh).1 (fun e=>?_)]
 ·exact hh
 ·rcases hown.2 with ⟨rfl,_⟩ | ⟨g',cap,cur,rfl,_,hk,_⟩
  ·simp [Value.ownBlock] at e
  ·simp [Value.ownBlock] at e
   subst e;rw [hk] at hh;simp at hh;exact h2 hh.2.1.symm
theorem Tryz.size48:(Tryz.prog.info? 77).map (·.size)=some 2:=by kernel_rfl
theorem Tryz.lies48:liesAt Tryz.prog Tryz.prog.depth 77 (2 / Tryz.prog.cellsOf 77) 0 77 1=true:=by kernel_rfl
theorem Tryz.run39 (x:Value) (w:World):(callFunc 145 #[x]).run Tryz.prog w=.ok (.value x) w:=by
 rw [run_callFunc_extern Tryz.func145 (by kernel_rfl) (by kernel_rfl) (by kernel_rfl) (e:=Extern.AbiNoEscape.same) (by kernel_rfl),Lib.run_noEscape];rfl
theorem Ga (B b:Nat) (bs:List Value) (w:World) (h:Lib.IsBuilder 77 5 B b bs w) :
  Calls Tryz.prog 121 #[zf (some ⟨b,0,none⟩)] w fun e w'=>e=zg (zh #[])/\Lib.BuilderAt 77 5 B b (zf (some ⟨b,0,none⟩)) bs w'/\Below B w w'/\BL w w':=by
 obtain ⟨j,f,c⟩:=Option.map_eq_some_iff.1 Tryz.size48;rcases h with h | h
 ·have t:=h.cell0
  have u:=h.frozen0;have l:=Lib.run_to_unsafe w ⟨b,0,none⟩ Tryz.underlying74 Tryz.underlying158 f (by rw [c];decide) h.shape (Nat.zero_lt_succ 1);have n:=Tryz.run39;have g:=Lib.run_from_unsafe w ⟨b,0,none⟩ Tryz.underlying158 Tryz.underlying74 f h.shape Tryz.lies48;have a:Lib.BuilderAt 77 5 B b (zf (some ⟨b,0,none⟩)) bs (w.setCell ⟨b,0,none⟩ (zf (some ⟨b,0,none⟩)))/\Below B w (w.setCell ⟨b,0,none⟩ (zf (some ⟨b,0,none⟩)))/\BL w (w.setCell ⟨b,0,none⟩ (zf (some ⟨b,0,none⟩))):=
   ⟨h.used _,(Below.refl B w).setCell (p:=⟨b,0,none⟩) h.1 _,by obtain ⟨_,v,r,_⟩:=h;exact BL.setCell r _ _⟩
  have i:=Aa a;clear a h c f;go_enter Tryz.func121,Tryz.ntmps121
  go_wp2
  go_end0;exact ⟨rfl,i.out⟩
 ·have t:=h.cell0
  have q:=Lib.run_neq_ptr_same w ⟨b,0,none⟩ Tryz.underlying74 f;have i:=Aa h;clear h c f;go_enter Tryz.func121,Tryz.ntmps121
  go_wp2
  go_end0;exact ⟨rfl,i.out,Below.refl B w,BL.refl w⟩
theorem B3 {w:World} {b:Nat} {o:Obj} (h:w.heap[b]? = some o):b < w.heap.size:=(Array.getElem?_eq_some_iff.1 h).1
theorem Lp (B b:Nat) (bs:List Value) (c:Int) (w:World) (h:Lib.IsBuilder 77 5 B b bs w) (hl:bs.length<=100000) (hBw:B<=w.heap.size) :
  Calls Tryz.prog 83 #[zf (some ⟨b,0,none⟩),A .u8 c] w fun e w'=>e=zg .nilIface/\Lib.BuilderAt 77 5 B b (zf (some ⟨b,0,none⟩)) (bs++[A .u8 c]) w'/\Below B w w'/\BL w w':=by
 obtain ⟨Q,S,H,G,F⟩:=info_parts Tryz.info5;go_enter Tryz.func83,Tryz.ntmps83;go_wp2_with fail;refine (Ga B b bs _ h).mono ?_;rintro e C ⟨rfl,⟨L,v,t,f,I⟩,l,r⟩;have k1:C.cell? ⟨b,1,none⟩=some v:=by rw [Lib.cell_of_heap t];rfl
 have J:=B3 t;obtain ⟨N,y,rfl⟩:=AO f;go_wp2_with (at_builtin;refine wpList_append_own _ rfl _ _ 75 rfl B 5 Q (A .u8 0) 1 1 Tryz.underlying75 S H G F rfl (by decide) _ _ _ rfl (f.alloc _) ⟨C.heap.size,0,none⟩ 1 1 [A .u8 c] rfl rfl ?c1 ?c2 ?c3 ?c4 ?c5 ?_)
 case c1=>
  intro j u E
  match j,E with
  | 0,E=>simp at E;subst E;simp [Addr.add]
 case c2=>intro u K;simp at K;subst K;rfl
 case c3=>unfold maxLen;omega
 case c4=>omega
 case c5=>have:=l.size;simp;omega
 ·intro P n g a _
  have i:n.heap[b]? = some (zd #[zf (some ⟨b,0,none⟩),O N bs.length y] 77 (0,0)):=by
   rw [a.block b (by simp;omega) (fun e=>I e.symm),Lib.alloc_old C _ b J];exact t
  have Y:n.cell? ⟨b,1,none⟩=some (O N bs.length y):=by rw [Lib.cell_of_heap i];rfl
  have X:n.frozen? ⟨b,1,none⟩=false:=Lib.frozen_of_heap i 1;have q:BL w (n.setCell ⟨b,1,none⟩ P):=((r.trans (BL.alloc C _)).trans (BL.grown (f.alloc _) a)).trans (BL.setCell i _ _);have x:Below B w n:=(l.alloc (by have:=l.size;omega) _).grown a (by have:=l.size;simp;omega) (fun k t=>(f.lt k t).1);obtain ⟨U,M,rfl⟩:=AO g;have R:=Lib.BuilderAt.put (T:=77) (e:=5) L i (bs':=bs++[A .u8 c]) (by simpa using g) (by decide);have V:=Aa R;have W:=Aa q;clear R k1 f a g q r
  go_wp2
  go_ret;exact ⟨rfl,V.out,x.setCell (p:=⟨b,1,none⟩) L _,W.out⟩
theorem DR (B b:Nat) (bs:List Value) (s:ByteArray) (w:World) (h:Lib.IsBuilder 77 5 B b bs w) (hl:bs.length<=100000) (hs:s.size<=6000) (hBw:B<=w.heap.size) :
  Calls Tryz.prog 84 #[zf (some ⟨b,0,none⟩),.string s] w fun e w'=>e=zg (zh #[A J s.size,.nilIface])/\Lib.BuilderAt 77 5 B b (zf (some ⟨b,0,none⟩)) (bs++Lib.strCells s) w'/\Below B w w'/\BL w w':=by
 obtain ⟨L,M,y,x,u⟩:=info_parts Tryz.info5;go_enter Tryz.func84,Tryz.ntmps84;go_wp2_with fail;refine (Ga B b bs _ h).mono ?_;rintro e I ⟨rfl,⟨F,v,q,c,C⟩,i,n⟩;have k1:I.cell? ⟨b,1,none⟩=some v:=by rw [Lib.cell_of_heap q];rfl
 have E:=B3 q;obtain ⟨H,t,rfl⟩:=AO c;go_wp2_with (at_builtin;refine Lib.wpList_append_own_string _ rfl _ _ 75 9 rfl B 5 L Tryz.underlying75 Tryz.underlying9 M y x u _ _ _ rfl c s rfl ?c3 ?c4 ?c5 ?_)
 case c3=>unfold maxLen;omega
 case c4=>omega
 case c5=>have:=i.size;omega
 ·intro K j f a _
  have g:j.heap[b]? = some (zd #[zf (some ⟨b,0,none⟩),O H bs.length t] 77 (0,0)):=by
   rw [a.block b E (fun e=>C e.symm)];exact q
  have U:j.cell? ⟨b,1,none⟩=some (O H bs.length t):=by rw [Lib.cell_of_heap g];rfl
  have S:j.frozen? ⟨b,1,none⟩=false:=Lib.frozen_of_heap g 1;have l:BL w (j.setCell ⟨b,1,none⟩ K):=(n.trans (BL.grown c a)).trans (BL.setCell g _ _);have r:Below B w j:=i.grown a (by have:=i.size;omega) (fun k q=>(c.lt k q).1);obtain ⟨N,G,rfl⟩:=AO f;have R:=Lib.BuilderAt.put (T:=77) (e:=5) F g (bs':=bs++Lib.strCells s) (by simpa [Lib.strCells_length] using f) (by decide);have P:=Aa R;have Q:=Aa l;clear R k1 c a f l n
  go_wp2
  go_ret2
  exact ⟨rfl,P.out,r.setCell (p:=⟨b,1,none⟩) F _,Q.out⟩
theorem Dx {B b:Nat} {p:Value} {bs:List Value} {w:World} (h:Lib.BuilderAt 77 5 B b p bs w) (o:Obj):Lib.BuilderAt 77 5 B b p bs (w.alloc o):=by
 obtain ⟨g,v,f,a,c⟩:=h;exact ⟨g,v,(Lib.alloc_old w _ b (B3 f)).trans f,a.alloc _,c⟩
theorem Dw {B b:Nat} {bs:List Value} {w:World} (h:Lib.IsBuilder 77 5 B b bs w) (o:Obj):Lib.IsBuilder 77 5 B b bs (w.alloc o):=by
 rcases h with h | h
 ·exact Or.inl (Dx h o)
 ·exact Or.inr (Dx h o)
theorem Tryz.info34:(Tryz.prog.info? 44).map (fun i=>(i.zero,i.size,i.bytes))=some (some (ze #[A J 0,A J 0,.string ⟨#[]⟩]),3,32):=by kernel_rfl
theorem Kh (wr:World) (B:Nat) (x y z v m n:Value) (h0:wr.cell? ⟨B,0,none⟩=some x) (h1:wr.cell? ⟨B+1,0,none⟩=some y) (h2:wr.cell? ⟨B+1+1,0,none⟩=some z) :
  (((wr.setCell ⟨B,0,none⟩ v).setCell ⟨B+1,0,none⟩ m).setCell ⟨B+1+1,0,none⟩ n).cell? ⟨B,0,none⟩=some v /\
  (((wr.setCell ⟨B,0,none⟩ v).setCell ⟨B+1,0,none⟩ m).setCell ⟨B+1+1,0,none⟩ n).cell? ⟨B+1,0,none⟩=some m /\
  (((wr.setCell ⟨B,0,none⟩ v).setCell ⟨B+1,0,none⟩ m).setCell ⟨B+1+1,0,none⟩ n).cell? ⟨B+1+1,0,none⟩=some n:=by
 simp [go_sem,h0,h1,h2]
theorem Gj {w:World} {base base':Nat} {e:TypeId} {size:Nat} {v:Value} {n:Nat} {xs:List Value} (h:w.ownsRow base e size v n xs) (hb:base'<=base):w.ownsRow base' e size v n xs:=by
 obtain ⟨i,a⟩:=h;refine ⟨i,?_⟩;rcases a with a | ⟨g,c,b,f,j,r⟩
 ·exact Or.inl a
 ·exact Or.inr ⟨g,c,b,f,by omega,r⟩
theorem Hs {w1 w2:World} {B:Nat} {e:TypeId} {size:Nat} {v:Value} {n:Nat} {xs:List Value} {o o':Obj} (hown:w1.ownsRow (B+3) e size v n xs)
  (hg:((w1.alloc o).alloc o').grownBy w2 v.ownBlock) (hw1:B+3<=w1.heap.size) :
  (∀ b off,b < B+3->w2.cell? ⟨b,off,none⟩=w1.cell? ⟨b,off,none⟩)/\(∀ b off,b < B+3->w2.frozen? ⟨b,off,none⟩=w1.frozen? ⟨b,off,none⟩) /\
  (∀ off,w2.cell? ⟨w1.heap.size,off,none⟩=(w1.alloc o).cell? ⟨w1.heap.size,off,none⟩)/\w1.heap.size+2<=w2.heap.size/\Below B w1 w2:=by
 have g:((w1.alloc o).alloc o').heap.size=w1.heap.size+2:=by simp
 have a:∀ k,k < B+3->w2.heap[k]? = w1.heap[k]?:=fun k i=>by
  rw [hg.block k (by omega) (fun h=>by have:=(hown.lt k h.symm).1;omega),Below.heap_alloc _ _ _ (by simp;omega),Below.heap_alloc _ _ _ (by omega)]
 have c:w2.heap[w1.heap.size]? = (w1.alloc o).heap[w1.heap.size]?:=by
  rw [hg.block _ (by omega) (fun h=>by have:=(hown.lt _ h.symm).2;omega),Below.heap_alloc _ _ _ (by simp)]
 refine ⟨fun b off f=>World.cell?_of_block (a b f),fun b off f=>World.frozen?_of_block (a b f),fun off=>World.cell?_of_block c,by have:=hg.size;omega,?_⟩;exact ⟨hg.os,hg.tape,hg.output,by have:=hg.size;omega,fun k i=>a k (by omega)⟩
def JJ (s:ByteArray) (w:World) (B:Nat) (vi:Value) (wr:World):Prop:=
 ∃ (i f:Nat) (ts:List Tok) (v:Value),vi=A J ((AE false s.data.toList i:Nat):Int)/\i<=s.size/\s.size < f+i/\BZ s=pre ts (Bd s f false i)/\ts.length<=i /\
  wr.cell? ⟨B,0,none⟩=some v/\wr.cell? ⟨B+1,0,none⟩=some (A J 0)/\wr.cell? ⟨B+1+1,0,none⟩=some (A J 0) /\
  wr.frozen? ⟨B,0,none⟩=false/\wr.frozen? ⟨B+1,0,none⟩=false/\wr.frozen? ⟨B+1+1,0,none⟩=false /\
  wr.ownsRow (B+3) 44 3 v ts.length (AF ts)/\Below B w wr/\B+3<=wr.heap.size
theorem LW (s:ByteArray) (hs:s.size<=6000) (w:World) :
  Calls Tryz.prog 40 #[.string s] w fun e w'=>∃ v,e=zg (zh #[v,A J (BS s:Int),A J (A7 s:Int)]) /\
   w'.ownsRow w.heap.size 44 3 v (Aw s).length (AF (Aw s))/\Below w.heap.size w w':=by
 have bj:∀ (fn:Fn) (first cap:Array Value) (w:World),(Instr.makeFunc fn first cap).run Tryz.prog w=.ok (.func fn first cap) w:=fun _ _ _ _=>rfl;obtain ⟨i0,hi,ax,aw,av⟩:=info_parts Tryz.info34
 go_enter_defers Tryz.func40,Tryz.ntmps40
 go_wp2_with fail;refine (H5 s 0 (Nat.zero_le _) hs _).mono ?_;rintro e w' ⟨rfl,rfl⟩;go_wp2_with fail;go_loopw [5] (fun i wr=>JJ s w w.heap.size i wr) (fun i _=>s.size - (intOf i).toNat)
 case atStart=>
  refine ⟨0,s.size+1,[],O none 0 0,rfl,Nat.zero_le _,by omega,(JM _).symm,Nat.zero_le _,by simp [go_sem],by simp [go_sem],by simp [go_sem],by simp [go_sem],by simp [go_sem],by simp [go_sem],World.ownsRow_nil _ _ _ _,?_,by simp⟩;exact (((Below.refl _ w).alloc (Nat.le_refl _) _).alloc (by simp) _).alloc (by simp;omega) _
 case round=>
  obtain ⟨i,f,x,v,rfl,a2,bl,ai,bf,c0,c1,c2,f0,f1,f2,g,n,bh⟩:=hrel;have ad:=Aa ai;clear ai;have hj:=LG (note:=false) (l:=s.data.toList) (i:=i) (by simpa using a2);have a1:AE false s.data.toList i<=s.size:=by simpa using hj
  have a0:=DF false s.data.toList i;obtain ⟨j,T⟩:∃ j,j=AE false s.data.toList i:=⟨_,rfl⟩;rw [<-T] at a1 a0 ⊢;have HJ:=Aa T;clear T hj;obtain ⟨ao,cap,rfl⟩:=AO g;by_cases hlt:j < s.size
  ·go_wp2_with fail
   refine (Mn s j hlt hs _).mono ?_;rintro e S ⟨rfl,c⟩;obtain ⟨V,U⟩:=Dy c;by_cases he:Av s j=0
   ·simp only [Bb,he,if_true,AN]
    have ay:w.heap.size+3<=S.heap.size:=by have:=c.size;omega
    have ac:=(V w.heap.size 0 (by omega)).trans c0;have ab:=(V (w.heap.size+1) 0 (by omega)).trans c1;have aa:=(V (w.heap.size+1+1) 0 (by omega)).trans c2;have Z:=(U w.heap.size 0 (by omega)).trans f0;have Y:=(U (w.heap.size+1) 0 (by omega)).trans f1;have X:=(U (w.heap.size+1+1) 0 (by omega)).trans f2;have b:=EF g c;have E:Below w.heap.size w S:=n.trans (c.mono (by omega));clear V U c0 c1 c2 f0 f1 f2 g n c;have g0:w.heap.size < S.heap.size:=by omega
    have g1:w.heap.size+1 < S.heap.size:=by omega
    have g2:w.heap.size+1+1 < S.heap.size:=by omega
    have C:=BM he;have r:FF s j=⟨(Al s j).1,j,s.extract j (Al s j).2⟩:=rfl;have G:(s.extract j (Al s j).2).size=(Al s j).2 - j:=by simp;omega
    obtain ⟨kk,ak⟩:∃ kk,kk=(Al s j).1:=⟨_,rfl⟩;obtain ⟨P,I⟩:∃ P,P=(Al s j).2:=⟨_,rfl⟩;rw [<-ak,<-I] at r ⊢;rw [<-I] at C G;obtain ⟨tx,ag⟩:∃ tx,tx=s.extract j P:=⟨_,rfl⟩;rw [<-ag] at r G ⊢;have HT:=Aa r;have HX:=Aa G;have a9:=Aa I;clear r G ak I ag;go_wp2_with (at_builtin;refine wpList_append_own _ rfl _ _ 34 rfl (w.heap.size+3) 44 i0 (ze #[A J 0,A J 0,.string ⟨#[]⟩]) 3 32 Tryz.underlying34 hi ax aw av rfl (by decide) _ _ _ rfl ((b.alloc _).alloc _) ⟨S.heap.size+1,0,none⟩ 1 1 [A J (kk:Int),A J (j:Int),.string tx] rfl rfl ?c1 ?c2 ?c3 ?c4 ?c5 ?_)
    case c1=>
     intro q u F
     match q,F with
     | 0,F=>simp at F;subst F;simp [Addr.add]
     | 1,F=>simp at F;subst F;simp [Addr.add]
     | 2,F=>simp at F;subst F;simp [Addr.add]
    case c2=>intro u hu;simp at hu;rcases hu with rfl | rfl | rfl <;> rfl
    case c3=>unfold maxLen;omega
    case c4=>omega
    case c5=>simp;omega
    ·intro v' w2 y B az
     obtain ⟨K,H,ah,bi,M⟩:=Hs b B ay;have ac:=(K w.heap.size 0 (by omega)).trans ac;have ab:=(K (w.heap.size+1) 0 (by omega)).trans ab;have aa:=(K (w.heap.size+1+1) 0 (by omega)).trans aa;have Z:=(H w.heap.size 0 (by omega)).trans Z;have Y:=(H (w.heap.size+1) 0 (by omega)).trans Y;have X:=(H (w.heap.size+1+1) 0 (by omega)).trans X;have t2:w2.cell? ⟨S.heap.size,2,none⟩=some (.string tx):=by rw [ah 2];simp [go_sem]
     have W:Below w.heap.size w w2:=E.trans M;obtain ⟨al,Q,rfl⟩:=AO y;clear K H ah M b E B az;have bg:tx.size<=6000:=by have:=HX.out;omega
     go_wp2_with fail;rw [show ((j:Int)+(tx.size:Int))=((P:Nat):Int) from by have:=HX.out;omega];refine (H5 s P C.2 hs _).mono ?_;rintro e w' ⟨rfl,rfl⟩;have R:JJ s w w.heap.size (A J ((AE false s.data.toList P:Nat):Int)) (w2.setCell { block:=w.heap.size,off:=0 } (Value.slice al (x.length+1) Q)):=by
      obtain ⟨N,rfl⟩:∃ N,f=N + 1:=⟨f - 1,by omega⟩;have t:=Gx ad.out (by rw [<-HJ.out];exact hlt) (by rw [<-HJ.out];exact he);rw [<-HJ.out,<-a9.out,HT.out] at t;refine ⟨P,N,x++[⟨kk,j,tx⟩],O al (x.length+1) Q,rfl,C.2,by omega,t,by simp;omega,by simp [go_sem,ac],by simp [go_sem,ab],by simp [go_sem,aa],by simp [go_sem,Z],by simp [go_sem,Y],by simp [go_sem,X],?_,W.setCell (by simp) _,by simp [World.setCell];omega⟩;rw [DA,List.length_append];exact ownsRow_setCell_below y (by simp) _
     have hm:=DF false s.data.toList P;go_wp2_with fail;refine ⟨R,?_⟩;simp [intOf];omega
   ·simp only [Bb,he,if_false,BF]
    go_wp2_with fail;refine leaves_cons (f:=80) (args:=#[zf (some ⟨w.heap.size,0,none⟩),zf (some ⟨w.heap.size+1,0,none⟩),zf (some ⟨w.heap.size+1+1,0,none⟩)]) (by simp) (by simp [go_sem]) ?_;refine (IR w.heap.size _ 0 0 _ _ [] _ (by have:=c.size;omega) ((V _ _ (by omega)).trans c0) ((V _ _ (by omega)).trans c1) ((V _ _ (by omega)).trans c2) ((U _ _ (by omega)).trans f0) ((U _ _ (by omega)).trans f1) ((U _ _ (by omega)).trans f2)).mono ?_;rintro e u' w2 ⟨rfl,rfl,d0,d1,d2,M⟩;have t:=ad.out;obtain ⟨N,rfl⟩:∃ N,f=N + 1:=⟨f - 1,by omega⟩;have a:=Gw t (by rw [<-HJ.out];exact hlt) (by rw [<-HJ.out];exact he);rw [<-HJ.out] at a;have hT:Aw s=[]:=by simp [Aw,a]
    have hP:BS s=j:=by simp [BS,a]
    have hE:A7 s=Av s j:=by simp [A7,a]
    have L:Below w.heap.size w w2:=(n.trans (c.mono (by omega))).trans M;simp [Leaves,settle,results,Tryz.results40,go_sem,d0,d1,d2,hT,hP,hE];exact ⟨World.ownsRow_nil _ _ _ _,L⟩
  ·go_wp2_with fail
   refine leaves_cons (f:=80) (args:=#[zf (some ⟨w.heap.size,0,none⟩),zf (some ⟨w.heap.size+1,0,none⟩),zf (some ⟨w.heap.size+1+1,0,none⟩)]) (by simp) (by simp [go_sem]) ?_;refine (Js _ _ _ _).mono ?_;rintro e u' w2 ⟨rfl,rfl,rfl⟩;obtain ⟨d0,d1,d2⟩:=Kh wr w.heap.size _ _ _ (O ao x.length cap) (A J 0) (A J 0) c0 c1 c2;have t:=ad.out;obtain ⟨N,rfl⟩:∃ N,f=N + 1:=⟨f - 1,by omega⟩;have a:=Ih t (by rw [<-HJ.out];exact hlt);have hT:Aw s=x:=by simp [Aw,a]
   have hP:BS s=0:=by simp [BS,a]
   have hE:A7 s=0:=by simp [A7,a]
   have L:Below w.heap.size w (((wr.setCell ⟨w.heap.size,0,none⟩ (O ao x.length cap)).setCell ⟨w.heap.size+1,0,none⟩ (A J 0)).setCell ⟨w.heap.size+1+1,0,none⟩ (A J 0)):=
    ((n.setCell (by simp) _).setCell (by simp) _).setCell (by simp;omega) _
   have aj:(((wr.setCell ⟨w.heap.size,0,none⟩ (O ao x.length cap)).setCell ⟨w.heap.size+1,0,none⟩ (A J 0)).setCell ⟨w.heap.size+1+1,0,none⟩ (A J 0)).ownsRow w.heap.size 44 3 (O ao x.length cap) x.length (AF x):=
    Gj (ownsRow_setCell_below (ownsRow_setCell_below (ownsRow_setCell_below g (by simp) _) (by simp) _) (by simp) _) (by omega)
   generalize (((wr.setCell ⟨w.heap.size,0,none⟩ (O ao x.length cap)).setCell ⟨w.heap.size+1,0,none⟩ (A J 0)).setCell ⟨w.heap.size+1+1,0,none⟩ (A J 0))=wF at d0 d1 d2 L aj ⊢;simp [Leaves,settle,results,Tryz.results40,go_sem,d0,d1,d2,hT,hP,hE];exact ⟨aj,L⟩
def J5 (s:ByteArray) (w:World) (e:Ending) (w':World):Prop:=
 ∃ (v:Value) (ts:List Tok) (p r:Nat),e=zg (zh #[v,A J (p:Int),A J (r:Int)]) /\
  w'.ownsRow w.heap.size 44 3 v ts.length (AF ts)/\Below w.heap.size w w' /\
  (if s.size<=6000 then ts=Aw s/\p=BS s/\r=A7 s else ts=[]/\p=0/\r=2)
theorem MT (s:ByteArray) (hs:s.size<=maxLen) (w:World):Calls Tryz.prog 17 #[.string s] w (J5 s w):=by
 unfold maxLen at hs;by_cases h:s.size<=6000
 ·go_enter Tryz.func17,Tryz.ntmps17
  go_wp2_with fail;refine (LW s h _).mono ?_;rintro e c ⟨v,rfl,a,b⟩;go_wp2_with fail
  go_ret3
  exact ⟨v,Aw s,BS s,A7 s,rfl,a,b,by rw [if_pos h];exact ⟨rfl,rfl,rfl⟩⟩
 ·go_enter Tryz.func17,Tryz.ntmps17
  go_wp2_with fail
  go_ret3
  exact ⟨O none 0 0,[],0,2,rfl,World.ownsRow_nil _ _ _ _,Below.refl _ _,by rw [if_neg h];exact ⟨rfl,rfl,rfl⟩⟩
def Gc (w:World) (v:Value) (ts:List Tok):Prop:=
 ∃ ao cap,v=O ao ts.length cap/\(ts≠[]->∃ b off,ao=some ⟨b,off,none⟩/\∀ j u,(AF ts)[j]? = some u->w.cell? ⟨b,off+j,none⟩=some u)
theorem G8 {w:World} {B:Nat} {v:Value} {ts:List Tok} (h:w.ownsRow B 44 3 v ts.length (AF ts)):Gc w v ts:=by
 have n:=fun g=>h.cells (g:=g);rcases h.2 with ⟨rfl,i⟩ | ⟨g,c,q,rfl,_⟩
 ·exact ⟨none,0,by rw [i],fun b=>absurd (List.eq_nil_of_length_eq_zero i) b⟩
 ·refine ⟨_,c,rfl,fun _=>⟨g,0,rfl,fun j u l=>?_⟩⟩
  have f:=n g rfl j u l;have a:(⟨g,0,none⟩:Addr).add j=⟨g,j,none⟩:=by unfold Addr.add;split <;> simp_all
  rw [a] at f;simpa using f
theorem IA {w w':World} {v:Value} {ts:List Tok} (h:Gc w v ts) (hb:Below w.heap.size w w'):Gc w' v ts:=by
 obtain ⟨t,i,n,r⟩:=h;refine ⟨t,i,n,fun c=>?_⟩;obtain ⟨b,a,g,f⟩:=r c;exact ⟨b,a,g,fun j u q=>by
  have l:=f j u q;rw [hb.cell (p:=⟨b,a+j,none⟩) (World.block_lt_of_cell? w _ l)];exact l⟩
def Ak (t:Tok):Bool:=
 decide (t.text.size<=6000) && decide (A7 t.text=0) && match Aw t.text with
  | [u]=>(u.kind == t.kind) && (u.text.data.toList == t.text.data.toList)
  | _=>false
theorem Lq (k a:Int) (x:ByteArray) (hx:x.size<=maxLen) (w:World) :
  Calls Tryz.prog 41 #[AN k a x] w fun e w'=>e=zg (zc (Ak ⟨k,a,x⟩))/\Below w.heap.size w w':=by
 unfold AN;go_enter Tryz.func41,Tryz.ntmps41;go_wp2_with fail;refine (MT x hx _).mono ?_;rintro e B ⟨v,K,p,r,rfl,c,I,g⟩;obtain ⟨H,O⟩:=Dy I;have R:B.cell? ⟨w.heap.size,0,none⟩=some (A J k):=by rw [H _ _ (by simp)];simp [go_sem]
 have Q:B.cell? ⟨w.heap.size,2,none⟩=some (.string x):=by rw [H _ _ (by simp)];simp [go_sem]
 have f:Below w.heap.size w B:=((Below.refl _ w).alloc (Nat.le_refl _) _).trans (I.mono (by simp));clear H O I;by_cases hr:r=0
 ·have i:x.size<=6000:=by
   rcases Nat.lt_or_ge 6000 x.size with h | h
   ·rw [if_neg (by omega)] at g;omega
   ·exact h
  rw [if_pos i] at g;obtain ⟨j,L,q⟩:=g;have P:((r:Int) == 0)=true:=by simp;omega
  by_cases h1:K.length=1
  ·obtain ⟨u,rfl⟩:=List.length_eq_one_iff.1 h1
   obtain ⟨N,F,rfl,E⟩:=G8 c;obtain ⟨b,C,rfl,t⟩:=E (by simp);have u0:B.cell? ⟨b,C,none⟩=some (A J u.kind):=t 0 _ rfl;have u2:B.cell? ⟨b,C+2,none⟩=some (.string u.text):=t 2 _ rfl;have n:Ak ⟨k,a,x⟩=((u.kind == k) && (u.text.toList == x.toList)):=by
    simp [Ak,i,<-q,hr,<-j,ByteArray.toList_eq]
   have y:=Aa n;clear n t E c j L q hr h1;by_cases hk:(u.kind == k)=true
   ·go_wp2_with fail
    go_quiet ((fail))
    go_wp2
    go_ret;exact ⟨by rw [y.out,hk];rfl,below_drewN f _⟩
   ·have G:(u.kind == k)=false:=by simpa using hk
    clear hk;go_wp2_with fail
    go_quiet ((fail))
    go_wp2
    go_ret;exact ⟨by rw [y.out,G];rfl,below_drewN f _⟩
  ·have S:((K.length:Int) == 1)=false:=by simp;omega
   obtain ⟨N,F,rfl⟩:=AO c;have n:Ak ⟨k,a,x⟩=false:=by
    have M:¬ (Aw x).length=1:=by rw [<-j];exact h1
    simp only [Ak];generalize Aw x=l at M
    match l,M with
    | [],_=>simp
    | [u],h=>simp at h
    | u::v::m,_=>simp
   have y:=Aa n;clear n c j L q hr h1;go_wp2_with fail
   go_quiet ((fail))
   go_wp2
   go_ret;exact ⟨by rw [y.out];rfl,below_drewN f _⟩
 ·have P:((r:Int) == 0)=false:=by simp;omega
  obtain ⟨N,F,rfl⟩:=AO c;have n:Ak ⟨k,a,x⟩=false:=by
   by_cases i:x.size<=6000
   ·rw [if_pos i] at g
    have:¬ A7 x=0:=by rw [<-g.2.2];exact hr
    simp [Ak,this]
   ·simp [Ak,i]
  have y:=Aa n;clear n c g;go_wp2_with fail
  go_quiet ((fail))
  go_wp2
  go_ret;exact ⟨by rw [y.out];rfl,below_drewN f _⟩
def Cq:List Tok->List UInt8
 | []=>[]
 | [t]=>t.text.data.toList
 | t::u::ts=>t.text.data.toList++32::Cq (u::ts)
def Bv (ts:List Tok):Nat:=(ts.map fun t=>t.text.size+1).sum
theorem FL (ts:List Tok) (t:Tok):Bv (ts++[t])=Bv ts+(t.text.size+1):=by simp [Bv]
theorem Jj (ts:List Tok) (t:Tok):Cq (ts++[t])=if ts=[] then t.text.data.toList else Cq ts++32::t.text.data.toList:=by
 induction ts with
 | nil=>simp [Cq]
 | cons u ts ih=>
  cases ts with
  | nil=>simp [Cq]
  | cons v ts=>simp [Cq] at ih ⊢;rw [ih]
theorem Hb (ts:List Tok):(Cq ts).length+1=Bv ts\/ts=[]:=by
 induction ts with
 | nil=>exact Or.inr rfl
 | cons u ts ih=>
  left
  cases ts with
  | nil=>simp [Cq,Bv]
  | cons v ts=>
   have:=ih.resolve_right (by simp);simp [Cq,Bv] at this ⊢;omega
theorem I3 (ts:List Tok) (k:Nat):Bv (ts.take k)<=Bv ts:=by
 induction ts generalizing k with
 | nil=>simp [Bv]
 | cons u ts ih=>
  cases k with
  | zero=>simp [Bv]
  | succ k=>have:=ih k;simp [Bv] at this ⊢;omega
theorem Fy {w:World} {b off:Nat} {ts:List Tok} (h:∀ j u,(AF ts)[j]? = some u->w.cell? ⟨b,off+j,none⟩=some u) {i:Nat} (hi:i < ts.length) :
  w.cell? ⟨b,off+i*3,none⟩=some (A J ts[i].kind)/\w.cell? ⟨b,off+i*3+1,none⟩=some (A J ts[i].pos)/\w.cell? ⟨b,off+i*3+2,none⟩=some (.string ts[i].text):=by
 have a:∀ (ts:List Tok) (i:Nat) (hi:i < ts.length),(AF ts)[i*3]? = some (A J ts[i].kind)/\(AF ts)[i*3+1]? = some (A J ts[i].pos)/\(AF ts)[i*3+2]? = some (.string ts[i].text):=by
  intro ts
  induction ts with
  | nil=>intro i hi;simp at hi
  | cons t ts ih=>
   intro i hi
   cases i with
   | zero=>simp [AF,DB]
   | succ i=>
    have:=ih i (by simpa using hi);have e:∀ j,(AF (t::ts))[(i+1)*3+j]? = (AF ts)[i*3+j]?:=fun j=>by
     have:(i+1)*3+j=i*3+j+3:=by omega
     rw [this];simp [AF,DB]
    have c:=e 0;simp only [Nat.add_zero] at c;rw [c,e 1,e 2];simpa using this
 obtain ⟨f,k1,k2⟩:=a ts i hi;exact ⟨h _ _ f,by rw [Nat.add_assoc];exact h _ _ k1,by rw [Nat.add_assoc];exact h _ _ k2⟩
theorem MB (v:Value) (ts:List Tok) (w:World) (hv:Gc w v ts) (hs:Bv ts<=6001) :
  Calls Tryz.prog 42 #[v] w fun e w'=>e=zg (.string ⟨(Cq ts).toArray⟩)/\Below w.heap.size w w':=by
 obtain ⟨ao,ac,rfl,L⟩:=hv;have hn:ts.length<=6001:=by
  have:∀ l:List Tok,l.length<=Bv l:=by
   intro l
   induction l with
   | nil=>simp [Bv]
   | cons u l ih=>simp [Bv] at ih ⊢;omega
  have:=this ts;omega
 go_enter Tryz.func42,Tryz.ntmps42;go_wp2_with fail;go_loopw [8] (fun i wr=>∃ k:Nat,k<=ts.length/\i=A J k/\Lib.IsBuilder 77 5 w.heap.size w.heap.size (Lib.byteCells (Cq (ts.take k))) wr/\Below w.heap.size w wr/\w.heap.size < wr.heap.size) (fun i _=>ts.length - (intOf i).toNat)
 case atStart=>exact ⟨0,Nat.zero_le _,rfl,Lib.fresh_isBuilder 77 5 w,(Below.refl _ w).alloc (Nat.le_refl _) _,by simp⟩
 case round=>
  obtain ⟨k,hk,rfl,P,a,Z⟩:=hrel;by_cases hkl:k < ts.length
  ·obtain ⟨b,t,rfl,K⟩:=L (by rintro rfl;simp at hkl)
   obtain ⟨N,U,T⟩:=Fy K hkl;have Q:b < w.heap.size:=World.block_lt_of_cell? w _ N;have F:=(a.cell (p:=⟨b,t+k*3,none⟩) Q).trans N;have E:=(a.cell (p:=⟨b,t+k*3+1,none⟩) Q).trans U;have C:=(a.cell (p:=⟨b,t+k*3+2,none⟩) Q).trans T;clear N U T K L;obtain ⟨kk,f⟩:∃ x,x=ts[k].kind:=⟨_,rfl⟩;obtain ⟨pp,H⟩:∃ x,x=ts[k].pos:=⟨_,rfl⟩;obtain ⟨tx,y⟩:∃ x,x=ts[k].text:=⟨_,rfl⟩;rw [<-f] at F;rw [<-H] at E;rw [<-y] at C;have HT:=Aa y;clear f H y;have q:ts.take (k+1)=ts.take k++[ts[k]]:=List.take_succ_eq_append_getElem hkl;have G:=I3 ts (k+1);rw [q,FL,<-HT.out] at G;have ab:(Lib.byteCells (Cq (ts.take k))).length<=6001:=by
    rw [Lib.byteCells_length];rcases Hb (ts.take k) with h | h
    ·omega
    ·rw [h];simp [Cq]
   have g:Cq (ts.take (k+1))=if ts.take k=[] then tx.data.toList else Cq (ts.take k)++32::tx.data.toList:=by rw [q,Jj,<-HT.out]
   have c:ts.take k=[] ↔ k=0:=by
    rw [List.take_eq_nil_iff];constructor
    ·rintro (h | h)
     ·exact h
     ·simp [h] at hkl
    ·exact Or.inl
   by_cases h0:k=0
   ·have Y:¬ (0:Int) < (k:Int):=by omega
    rw [if_pos (c.2 h0)] at g;have I:Cq (ts.take k)=[]:=by rw [c.2 h0];rfl
    have S:=Aa g;have R:=Aa I;clear h0 g I c q;go_wp2_with fail;refine (DR w.heap.size w.heap.size _ tx _ (Dw P _) (by omega) (by omega) (by simp;omega)).mono ?_;rintro e B ⟨rfl,n,j,f⟩;go_wp2_with fail;refine ⟨⟨k+1,by omega,by go_num,Or.inr ?_,(a.alloc (by omega) _).trans j,by have:=j.size;simp at this;omega⟩,by simp [intOf];omega⟩;rw [S.out];rw [R.out] at n;simpa [Lib.byteCells,Lib.strCells] using n
   ·have Y:(0:Int) < (k:Int):=by omega
    rw [if_neg (fun h=>h0 (c.1 h))] at g;have S:=Aa g;clear h0 g c q;go_wp2_with fail;refine (Lp w.heap.size w.heap.size _ 32 _ (Dw P _) (by omega) (by simp;omega)).mono ?_;rintro e B ⟨rfl,n,j,f⟩;have X:=f wr.heap.size _ 44 (0,0) (heap_alloc_new wr _) (by decide) (by decide);have c2:B.cell? ⟨wr.heap.size,2,none⟩=some (.string tx):=by rw [Lib.cell_of_heap X];rfl
    have M:Below w.heap.size w B:=(a.alloc (by omega) _).trans j;have V:w.heap.size < B.heap.size:=by have:=j.size;simp at this;omega
    clear X f j F E C;go_wp2_with fail;refine (DR w.heap.size w.heap.size _ tx _ (Or.inr n) (by simp;omega) (by omega) (by omega)).mono ?_;rintro e w2 ⟨rfl,O,r,W⟩;go_wp2_with fail;refine ⟨⟨k+1,by omega,by go_num,Or.inr ?_,M.trans r,by have:=r.size;omega⟩,by simp [intOf];omega⟩;rw [S.out];simpa [Lib.byteCells,Lib.strCells] using O
  ·have aa:k=ts.length:=by omega
   go_wp2_with fail;refine (Tryz.Builder_String_any w.heap.size w.heap.size (Cq (ts.take k)) _ P (by omega)).mono ?_;rintro e B ⟨rfl,n⟩;go_wp2_with fail;go_ret;exact ⟨rfl,a.trans n⟩
end Go.Proofs.YtipngnjffjajpaaGreatDoor
