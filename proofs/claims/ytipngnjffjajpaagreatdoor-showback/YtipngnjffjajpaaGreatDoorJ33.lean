/- The small text, shown. -/
import Derived.Test.YtipngnjffjajpaaGreatDoorJ19
import Derived.Test.YtipngnjffjajpaaGreatDoorJ18
import Derived.Lib.UnsafeStr
import Derived.Laws.BytesString
import Derived.Lib.ItoaMem
import Derived.Lib.ItoaLen
import Derived.Test.YtipngnjffjajpaaGreatDoorShelf
import Derived.Lib.MakeNoZero
import Derived.Laws.MakeOwn
set_option linter.unusedVariables false
set_option maxHeartbeats 8000000
set_option maxRecDepth 100000
namespace Go.Proofs.YtipngnjffjajpaaGreatDoor.Tx
open Go.RowKit
open Go.Value renaming int -> I, slice -> zc, bool -> zd, pointer -> zf, agg -> zg, tuple -> zi
open Go.IntKind renaming i64 -> O
open Go.Obj renaming cells -> ze
open Go.Ending renaming returned -> zh
theorem Jc:trT 61 (2*(An AX).length+3) Cg Co=AX.data.toList:=by kernel_rfl
def C5 (B b:Nat) (deep:Int) (p:Value) (bs:List Value) (w:World):Prop:=
 B<=b/\∃ v,w.heap[b]? = some (ze #[p,v,I O deep] 79 (0,0))/\w.ownsRow B 5 1 v bs.length bs/\v.ownBlock≠some b
def Bb (B b:Nat) (deep:Int) (bs:List Value) (w:World):Prop:=C5 B b deep (zf none) bs w\/C5 B b deep (zf (some ⟨b,0,none⟩)) bs w
def Az (w w':World):Prop:=∀ (g:Nat) (cs:Array Value) (T:TypeId) (fr:Nat × Nat),w.heap[g]? = some (Obj.cells cs T fr)->T≠79->T≠5->w'.heap[g]? = some (Obj.cells cs T fr)
theorem Az.refl (w:World):Az w w:=fun _ _ _ _ h _ _=>h
theorem Az.trans {a b c:World} (h:Az a b) (k:Az b c):Az a c:=fun g cs T fr hg h1 h2=>k g cs T fr (h g cs T fr hg h1 h2) h1 h2
theorem Az.alloc (w:World) (o:Obj):Az w (w.alloc o):=fun g cs T fr hg _ _=>by
 rw [Below.heap_alloc _ _ _ (Array.getElem?_eq_some_iff.1 hg).1];exact hg
theorem Az.over {w w':World} (h:Ov w w'):Az w w':=fun g cs T fr hg _ _=>by
 rw [h.block g (Array.getElem?_eq_some_iff.1 hg).1];exact hg
theorem Az.setCell {w:World} {b:Nat} {cs:Array Value} {fr:Nat × Nat} (hb:w.heap[b]? = some (.cells cs 79 fr)) (o:Nat) (v:Value):Az w (w.setCell ⟨b,o,none⟩ v):=fun g cs' T fr' hg h1 _=>by
 rw [Below.heap_setCell _ _ _ _ (fun e=>?_)]
 ·exact hg
 ·simp only at e
  rw [e] at hg;rw [hg] at hb;simp at hb;exact h1 hb.2.1
theorem Az.grown {w w':World} {B:Nat} {v:Value} {n:Nat} {xs:List Value} (hown:w.ownsRow B 5 1 v n xs) (hg:w.grownBy w' v.ownBlock):Az w w':=fun g cs T fr hh _ h2=>by
 rw [hg.block g (Array.getElem?_eq_some_iff.1 hh).1 (fun e=>?_)]
 ·exact hh
 ·rcases hown.2 with ⟨rfl,_⟩ | ⟨g',cap,cur,rfl,_,hk,_⟩
  ·simp [Value.ownBlock] at e
  ·simp [Value.ownBlock] at e
   subst e;rw [hk] at hh;simp at hh;exact h2 hh.2.1.symm
theorem C5.cells {B b:Nat} {deep:Int} {p:Value} {bs:List Value} {w:World} (h:C5 B b deep p bs w):w.cell? ⟨b,0,none⟩=some p/\w.frozen? ⟨b,0,none⟩=false/\w.shape? b=some (79,3)/\w.cell? ⟨b,2,none⟩=some (I O deep)/\w.frozen? ⟨b,2,none⟩=false/\b < w.heap.size:=by
 obtain ⟨_,v,a,_⟩:=h;refine ⟨by rw [Lib.cell_of_heap a];rfl,Lib.frozen_of_heap a 0,by simp [World.shape?,a],by rw [Lib.cell_of_heap a];rfl,Lib.frozen_of_heap a 2,Ch a⟩
theorem Iz {w:World} {B b o:Nat} {q v:Value} {bs:List Value} (hown:w.ownsRow B 5 1 v bs.length bs) (hne:v.ownBlock≠some b):(w.setCell ⟨b,o,none⟩ q).ownsRow B 5 1 v bs.length bs:=
 hown.kept (row:=some b) ⟨rfl,rfl,rfl,by simp [World.setCell],fun k _ hk=>Below.heap_setCell _ _ _ _ (fun e=>hk (by simp [e]))⟩ (Or.inr hne)
theorem C5.used {B b:Nat} {deep:Int} {p:Value} {bs:List Value} {w:World} (h:C5 B b deep p bs w) (q:Value):C5 B b deep q bs (w.setCell ⟨b,0,none⟩ q):=by
 obtain ⟨g,v,f,a,c⟩:=h;exact ⟨g,v,by simp [World.setCell,Array.getElem?_modify,f],Iz a c,c⟩
theorem C5.move {B b:Nat} {deep:Int} {p:Value} {bs:List Value} {w:World} (h:C5 B b deep p bs w) (d:Int):C5 B b d p bs (w.setCell ⟨b,2,none⟩ (I O d)):=by
 obtain ⟨g,v,f,a,c⟩:=h;exact ⟨g,v,by simp [World.setCell,Array.getElem?_modify,f],Iz a c,c⟩
theorem C5.put {B b:Nat} {deep:Int} {p v v':Value} {bs':List Value} {w:World} (hB:B<=b) (hb:w.heap[b]? = some (ze #[p,v,I O deep] 79 (0,0))) (hown:w.ownsRow B 5 1 v' bs'.length bs'):C5 B b deep p bs' (w.setCell ⟨b,1,none⟩ v'):=by
 have a:=Lib.ownBlock_ne hown hb (by decide);exact ⟨hB,v',by simp [World.setCell,Array.getElem?_modify,hb],Iz hown a,a⟩
theorem C5.alloc {B b:Nat} {deep:Int} {p:Value} {bs:List Value} {w:World} (h:C5 B b deep p bs w) (o:Obj):C5 B b deep p bs (w.alloc o):=by
 obtain ⟨g,v,f,a,c⟩:=h;exact ⟨g,v,(Lib.alloc_old w _ b (Ch f)).trans f,a.alloc _,c⟩
theorem Bb.alloc {B b:Nat} {deep:Int} {bs:List Value} {w:World} (h:Bb B b deep bs w) (o:Obj):Bb B b deep bs (w.alloc o):=h.imp (fun h=>h.alloc o) fun h=>h.alloc o
theorem C5.over {B b:Nat} {deep:Int} {p:Value} {bs:List Value} {w w':World} (h:C5 B b deep p bs w) (hb:Ov w w'):C5 B b deep p bs w':=by
 obtain ⟨g,v,f,a,c⟩:=h;exact ⟨g,v,(hb.block b (Ch f)).trans f,Fv a hb,c⟩
theorem Bb.over {B b:Nat} {deep:Int} {bs:List Value} {w w':World} (h:Bb B b deep bs w) (hb:Ov w w'):Bb B b deep bs w':=h.imp (fun h=>h.over hb) fun h=>h.over hb
theorem Bb.move {B b:Nat} {deep:Int} {bs:List Value} {w:World} (h:Bb B b deep bs w) (d:Int):Bb B b d bs (w.setCell ⟨b,2,none⟩ (I O d)):=h.imp (fun h=>h.move d) fun h=>h.move d
theorem Bb.cells {B b:Nat} {deep:Int} {bs:List Value} {w:World} (h:Bb B b deep bs w):w.cell? ⟨b,2,none⟩=some (I O deep)/\w.frozen? ⟨b,2,none⟩=false/\b < w.heap.size/\B<=b:=by
 rcases h with h | h
 ·exact ⟨h.cells.2.2.2.1,h.cells.2.2.2.2.1,h.cells.2.2.2.2.2,h.1⟩
 ·exact ⟨h.cells.2.2.2.1,h.cells.2.2.2.2.1,h.cells.2.2.2.2.2,h.1⟩
theorem Bb.heap {B b:Nat} {deep:Int} {bs:List Value} {w:World} (h:Bb B b deep bs w):∃ cs,w.heap[b]? = some (.cells cs 79 (0,0)):=by
 rcases h with ⟨_,v,a,_⟩ | ⟨_,v,a,_⟩ <;> exact ⟨_,a⟩
theorem Qe:liesAt Tryz.prog Tryz.prog.depth 79 (3 / Tryz.prog.cellsOf 79) 0 77 1=true:=by kernel_rfl
theorem Nx (B b:Nat) (deep:Int) (bs:List Value) (w:World) (h:Bb B b deep bs w) :
  Calls Tryz.prog 121 #[zf (some ⟨b,0,none⟩)] w fun e w'=>e=zh (zi #[])/\C5 B b deep (zf (some ⟨b,0,none⟩)) bs w'/\Below B w w'/\Az w w':=by
 obtain ⟨j,g,f⟩:=Option.map_eq_some_iff.1 Tryz.size48;rcases h with h | h
 ·obtain ⟨y,A,c,-⟩:=h.cells
  have n:=Lib.run_to_unsafe w ⟨b,0,none⟩ Tryz.underlying74 Tryz.underlying158 g (by rw [f];decide) c (Nat.zero_lt_succ 2);have r:=Tryz.run39;have i:=Lib.run_from_unsafe w ⟨b,0,none⟩ Tryz.underlying158 Tryz.underlying74 g c Qe;have a:C5 B b deep (zf (some ⟨b,0,none⟩)) bs (w.setCell ⟨b,0,none⟩ (zf (some ⟨b,0,none⟩)))/\Below B w (w.setCell ⟨b,0,none⟩ (zf (some ⟨b,0,none⟩)))/\Az w (w.setCell ⟨b,0,none⟩ (zf (some ⟨b,0,none⟩))):=
   ⟨h.used _,(Below.refl B w).setCell (p:=⟨b,0,none⟩) h.1 _,by obtain ⟨_,v,x,_⟩:=h;exact Az.setCell x _ _⟩
  have l:=Aa a;clear a h f g c;go_enter Tryz.func121,Tryz.ntmps121
  go_wp2
  go_end0;exact ⟨rfl,l.o⟩
 ·have y:=h.cells.1
  have u:=Lib.run_neq_ptr_same w ⟨b,0,none⟩ Tryz.underlying74 g;have l:=Aa h;clear h f g;go_enter Tryz.func121,Tryz.ntmps121
  go_wp2
  go_end0;exact ⟨rfl,l.o,Below.refl B w,Az.refl w⟩
theorem QZ (B b:Nat) (deep:Int) (bs:List Value) (c:Int) (w:World) (h:Bb B b deep bs w) (hl:bs.length<=100000000) (hBw:B<=w.heap.size) :
  Calls Tryz.prog 83 #[zf (some ⟨b,0,none⟩),I .u8 c] w fun e w'=>e=zh .nilIface/\C5 B b deep (zf (some ⟨b,0,none⟩)) (bs++[I .u8 c]) w'/\Below B w w'/\Az w w':=by
 obtain ⟨U,V,J,H,G⟩:=info_parts Tryz.info5;go_enter Tryz.func83,Tryz.ntmps83;go_wp2_with fail;refine (Nx B b deep bs _ h).mono ?_;rintro e E ⟨rfl,⟨N,v,y,f,K⟩,l,x⟩;have T:E.cell? ⟨b,1,none⟩=some v:=by rw [Lib.cell_of_heap y];rfl
 have L:=Ch y;obtain ⟨Q,C,rfl⟩:=A1 f;go_wp2_with (at_builtin;refine wpList_append_own _ rfl _ _ 75 rfl B 5 U (I .u8 0) 1 1 Tryz.underlying75 V J H G rfl (by decide) _ _ _ rfl (f.alloc _) ⟨E.heap.size,0,none⟩ 1 1 [I .u8 c] rfl rfl ?c1 ?c2 ?c3 ?c4 ?c5 ?_)
 case c1=>
  intro j u F
  match j,F with
  | 0,F=>simp at F;subst F;simp [Addr.add]
 case c2=>intro u M;simp at M;subst M;rfl
 case c3=>unfold maxLen;omega
 case c4=>omega
 case c5=>have:=l.size;simp;omega
 ·intro S n g a _
  have i:n.heap[b]? = some (ze #[zf (some ⟨b,0,none⟩),zc Q bs.length C,I O deep] 79 (0,0)):=by
   rw [a.block b (by simp;omega) (fun e=>K e.symm),Lib.alloc_old E _ b L];exact y
  have d1:n.cell? ⟨b,1,none⟩=some (zc Q bs.length C):=by rw [Lib.cell_of_heap i];rfl
  have Z:n.frozen? ⟨b,1,none⟩=false:=Lib.frozen_of_heap i 1;have r:Az w (n.setCell ⟨b,1,none⟩ S):=((x.trans (Az.alloc E _)).trans (Az.grown (f.alloc _) a)).trans (Az.setCell i _ _);have A:Below B w n:=(l.alloc (by have:=l.size;omega) _).grown a (by have:=l.size;simp;omega) (fun k y=>(f.lt k y).1);obtain ⟨W,P,rfl⟩:=A1 g;have R:=C5.put N i (bs':=bs++[I .u8 c]) (by simpa using g);have X:=Aa R;have Y:=Aa r;clear R T f a g r x
  go_wp2
  go_ret;exact ⟨rfl,X.o,A.setCell (p:=⟨b,1,none⟩) N _,Y.o⟩
theorem QY (B b:Nat) (deep:Int) (bs:List Value) (s:ByteArray) (w:World) (h:Bb B b deep bs w) (hl:bs.length<=100000000) (hs:s.size<=100000000) (hBw:B<=w.heap.size) :
  Calls Tryz.prog 84 #[zf (some ⟨b,0,none⟩),.string s] w fun e w'=>e=zh (zi #[I O s.size,.nilIface])/\C5 B b deep (zf (some ⟨b,0,none⟩)) (bs++Lib.strCells s) w'/\Below B w w'/\Az w w':=by
 obtain ⟨N,P,C,A,y⟩:=info_parts Tryz.info5;go_enter Tryz.func84,Tryz.ntmps84;go_wp2_with fail;refine (Nx B b deep bs _ h).mono ?_;rintro e K ⟨rfl,⟨G,v,r,c,E⟩,i,n⟩;have M:K.cell? ⟨b,1,none⟩=some v:=by rw [Lib.cell_of_heap r];rfl
 have F:=Ch r;obtain ⟨J,x,rfl⟩:=A1 c;go_wp2_with (at_builtin;refine Lib.wpList_append_own_string _ rfl _ _ 75 9 rfl B 5 N Tryz.underlying75 Tryz.underlying9 P C A y _ _ _ rfl c s rfl ?c3 ?c4 ?c5 ?_)
 case c3=>unfold maxLen;omega
 case c4=>omega
 case c5=>have:=i.size;omega
 ·intro L j f a _
  have g:j.heap[b]? = some (ze #[zf (some ⟨b,0,none⟩),zc J bs.length x,I O deep] 79 (0,0)):=by
   rw [a.block b F (fun e=>E e.symm)];exact r
  have V:j.cell? ⟨b,1,none⟩=some (zc J bs.length x):=by rw [Lib.cell_of_heap g];rfl
  have U:j.frozen? ⟨b,1,none⟩=false:=Lib.frozen_of_heap g 1;have l:Az w (j.setCell ⟨b,1,none⟩ L):=(n.trans (Az.grown c a)).trans (Az.setCell g _ _);have u:Below B w j:=i.grown a (by have:=i.size;omega) (fun k r=>(c.lt k r).1);obtain ⟨Q,H,rfl⟩:=A1 f;have R:=C5.put G g (bs':=bs++Lib.strCells s) (by simpa [Lib.strCells_length] using f);have S:=Aa R;have T:=Aa l;clear R M c a f l n
  go_wp2
  go_ret2
  exact ⟨rfl,S.o,u.setCell (p:=⟨b,1,none⟩) G _,T.o⟩
theorem QX (B b:Nat) (deep:Int) (l:List UInt8) (w:World) (h:Bb B b deep (Lib.byteCells l) w) (h0:l≠[]) (hl:l.length<=100000000) :
  Calls Tryz.prog 44 #[zf (some ⟨b,0,none⟩)] w fun e w'=>e=zh (.string ⟨l.toArray⟩)/\Below B w w':=by
 obtain ⟨p,T,v,C,f,A⟩:∃ p,C5 B b deep p (Lib.byteCells l) w:=by
  rcases h with h | h
  ·exact ⟨_,h⟩
  ·exact ⟨_,h⟩
 have a:=Lib.byteCells_length l;rcases f.2 with ⟨rfl,I⟩ | ⟨g,c,G,rfl,F,E,r,J,y,u⟩
 ·rw [a] at I
  exact absurd (List.eq_nil_of_length_eq_zero I) h0
 ·have L:0 < l.length:=List.length_pos_iff.2 h0
  rw [a] at r C;have Q:w.drew.cell? ⟨b,1,none⟩=some (zc (some ⟨g,0,none⟩) l.length c):=by
   have e:w.drew.heap[b]? = _:=C;rw [Lib.cell_of_heap e];rfl
  have n:w.drew.shape? g=some (5,c):=by
   have e:w.drew.heap[g]? = _:=E;simp [World.shape?,e,y]
  have S:=Lib.run_unsafeSliceData_row (P:=Tryz.prog) w.drew #[75] 128 ⟨g,0,none⟩ l.length c (by omega);have R:=Lib.run_unsafeString_row (P:=Tryz.prog) w.drew 128 3 9 5 Tryz.underlying128 (by kernel_rfl) g c n l h0 r (by omega) (fun j x H=>by
   have e:w.drew.heap[g]? = _:=E;have M:j < l.length:=(List.getElem?_eq_some_iff.1 H).1;have N:(⟨g,0,none⟩:Addr).add j=⟨g,j,none⟩:=by cases j <;> simp [Addr.add]
   rw [N,Lib.cell_of_heap e];have K:(G.toList.take ((Lib.byteCells l).length*1))[j]? = (Lib.byteCells l)[j]?:=congrArg (fun z:List Value=>z[j]?) u;rw [a,Nat.mul_one,List.getElem?_take,if_pos M] at K;rw [<-Array.getElem?_toList,K];simp [Lib.byteCells,H])
  have i:Below B w (w.drew.freeze ⟨g,0,none⟩ l.length):=Lib.below_freeze (Below.refl B w).drew F _;have O:=Aa i;clear i f A C E n;go_enter Tryz.func44,Tryz.ntmps44;go_wp2_with fail;go_region;all_goals (go_wp2_with fail;go_ret;exact ⟨rfl,O.o⟩)
theorem Lg (x a:List UInt8) (l:List (List UInt8)):AY x (a::l)=a++(l.map (fun y=>x++y)).flatten:=by
 induction l generalizing a with
 | nil=>simp [AY]
 | cons b l ih=>rw [AY,ih b];simp
theorem Bv {w:World} {b:Nat} {o:Obj} (h:w.heap[b]? = some o):b < w.heap.size:=(Array.getElem?_eq_some_iff.1 h).1
theorem Qi (B b n:Nat) (w:World) (hB:B<=b) (hb:w.heap[b]? = some (ze #[zf (some ⟨b,0,none⟩),zc none 0 0] 77 (0,0))) (hBw:B<=w.heap.size) (hn:n<=1000000) :
  Calls Tryz.prog 177 #[zf (some ⟨b,0,none⟩),I O (n:Int)] w fun e w'=>e=zh (zi #[])/\Lib.BuilderAt 77 5 B b (zf (some ⟨b,0,none⟩)) [] w'/\Below B w w':=by
 obtain ⟨cs,f,-,g⟩:=Lib.run_makeNoZero (P:=Tryz.prog) w.drew #[3] 75 5 Tryz.underlying75 n (by omega);have i:=Bv hb;have hw:IntKind.i64.wrap (IntKind.i64.wrap 0+(n:Int))=n:=by rw [IntKind.wrap_i64,IntKind.wrap_i64];omega
 have x:(callFunc 184 #[I O (IntKind.i64.wrap (IntKind.i64.wrap 0+(n:Int)))]).run Tryz.prog w.drew=.ok (.value (zc (some ⟨w.drew.heap.size,0,none⟩) n cs.size)) (w.drew.drew.drew.alloc (.cells cs 5)):=by
  rw [hw,run_callFunc_extern Tryz.func184 (by kernel_rfl) (by kernel_rfl) (by kernel_rfl) (e:=Extern.BytealgMakeNoZero.makeNoZero #[3] #[75]) (by kernel_rfl),f];rfl
 have G:w.drew.cell? ⟨b,1,none⟩=some (zc none 0 0):=by rw [Lib.cell_of_heap (show w.drew.heap[b]? = _ from hb)];rfl
 have j:(w.alloc (.cells cs 5)).heap[b]? = some (ze #[zf (some ⟨b,0,none⟩),zc none 0 0] 77 (0,0)):=(Lib.alloc_old w _ b i).trans hb;have F:(w.alloc (.cells cs 5)).cell? ⟨b,1,none⟩=some (zc none 0 0):=by rw [Lib.cell_of_heap j];rfl
 have H:(w.alloc (.cells cs 5)).frozen? ⟨b,1,none⟩=false:=Lib.frozen_of_heap j 1;obtain ⟨c,A,y⟩:∃ c,Tryz.prog.info? 5=some c/\c.size=1:=by
  obtain ⟨c,C,u,r,l⟩:=info_parts Tryz.info5;exact ⟨c,C,by first | exact u | exact r | exact l⟩
 have v:∀ W:World,(Builtin.copy_ #[75,75] 3 #[zc (some ⟨w.heap.size,0,none⟩) 0 cs.size,zc none 0 0]).run Tryz.prog W=.ok (goInt 0) W:=fun W=>
  run_copy_none W 75 75 3 5 _ _ 0 cs.size 0 0 Tryz.underlying75 (by kernel_rfl) rfl
 have a:=Lib.grown_fresh (T:=77) (e:=5) (cs:=cs) hB hb hBw (g (by unfold maxLen;omega)) (by decide);rw [World.setCell_alloc_past _ _ _ _ i] at a;have E:=Aa a;clear hw a;go_enter Tryz.func177,Tryz.ntmps177
 go_wp2
 go_region;all_goals (go_wp2;go_end0;exact ⟨rfl,E.o⟩)
theorem PG (b:Nat) (v:Value) (w:World) (hb:w.heap[b]? = some (ze #[zf none,v] 77 (0,0))) :
  Calls Tryz.prog 121 #[zf (some ⟨b,0,none⟩)] w fun e w'=>e=zh (zi #[])/\w'=w.setCell ⟨b,0,none⟩ (zf (some ⟨b,0,none⟩)):=by
 obtain ⟨j,f,c⟩:=Option.map_eq_some_iff.1 Tryz.size48;have r:w.cell? ⟨b,0,none⟩=some (zf none):=by rw [Lib.cell_of_heap hb];rfl
 have n:w.frozen? ⟨b,0,none⟩=false:=Lib.frozen_of_heap hb 0;have a:w.shape? b=some (77,2):=by simp [World.shape?,hb]
 have i:=Lib.run_to_unsafe w ⟨b,0,none⟩ Tryz.underlying74 Tryz.underlying158 f (by rw [c];decide) a (Nat.zero_lt_succ 1);have l:=Tryz.run39;have g:=Lib.run_from_unsafe w ⟨b,0,none⟩ Tryz.underlying158 Tryz.underlying74 f a Tryz.lies48;clear hb c f a;go_enter Tryz.func121,Tryz.ntmps121
 go_wp2
 go_end0;exact ⟨rfl,rfl⟩
theorem QK (B b n:Nat) (w:World) (hB:B<=b) (hb:w.heap[b]? = some (ze #[zf none,zc none 0 0] 77 (0,0))) (hBw:B<=w.heap.size) (hn:n<=1000000) :
  Calls Tryz.prog 172 #[zf (some ⟨b,0,none⟩),I O (n:Int)] w fun e w'=>e=zh (zi #[])/\Lib.BuilderAt 77 5 B b (zf (some ⟨b,0,none⟩)) [] w'/\Below B w w':=by
 have j:=Aa (PG b _ w hb);obtain ⟨f,c⟩:=nm (w.setCell ⟨b,0,none⟩ (zf (some ⟨b,0,none⟩)));have g:f.heap[b]? = some (ze #[zf (some ⟨b,0,none⟩),zc none 0 0] 77 (0,0)):=by rw [c];simp [World.setCell,Array.getElem?_modify,hb]
 have a:Below B w f:=by rw [c];exact (Below.refl B w).setCell (p:=⟨b,0,none⟩) hB _
 rw [<-c] at j;have l:=Aa a;have C:=Aa hBw;have A:f.drew.cell? ⟨b,1,none⟩=some (zc none 0 0):=by rw [Lib.cell_of_heap (show f.drew.heap[b]? = _ from g)];rfl
 have x:=Aa (Qi B b n f.drew hB g (Nat.le_trans hBw a.size) hn);have v:Hx (Lib.BuilderAt 77 5 B b (zf (some ⟨b,0,none⟩)) [] f.drew/\Below B w f.drew):=⟨⟨hB,_,g,World.ownsRow_nil _ _ _ _,by simp [Value.ownBlock]⟩,a.drew⟩;clear c g a hBw hb;by_cases hn0:(0:Int) < (n:Int)
 ·go_enter Tryz.func172,Tryz.ntmps172
  go_wp2_with fail;refine j.o.mono ?_;rintro e r ⟨rfl,rfl⟩;go_wp2_with fail;go_region;all_goals (
   go_wp2_with fail;refine x.o.mono ?_;rintro e y ⟨rfl,u,i⟩;go_wp2_with fail;go_end0;exact ⟨rfl,u,l.o.drew.trans i⟩)
 ·go_enter Tryz.func172,Tryz.ntmps172
  go_wp2_with fail;refine j.o.mono ?_;rintro e r ⟨rfl,rfl⟩;go_wp2_with fail;go_region;all_goals (go_wp2_with fail;go_end0;exact ⟨rfl,v.o⟩)
theorem MC (ao:Option Addr) (c:Nat) (sep:ByteArray) (w:World):Ro 161 #[zc ao 0 c,.string sep] w (.string ⟨#[]⟩):=by
 go_enter Tryz.func161,Tryz.ntmps161;go_wp2_with fail;go_ret;exact ⟨rfl,Below.refl _ _⟩
theorem NT (b o c:Nat) (x sep:ByteArray) (w:World) (hc:w.cell? ⟨b,o,none⟩=some (.string x)):Ro 161 #[zc (some ⟨b,o,none⟩) 1 c,.string sep] w (.string x):=by
 go_enter Tryz.func161,Tryz.ntmps161;go_wp2_with fail;go_ret;exact ⟨rfl,Below.refl _ _⟩
theorem MD (bk o c:Nat) (x0:ByteArray) (r:List ByteArray) (sep:ByteArray) (w:World) (nn:Nat) (hnn:nn=(x0::r).length) (hcells:∀ (j:Nat) x,(x0::r)[j]? = some x->w.cell? ⟨bk,o+j,none⟩=some (.string x)) (h2:2<=nn) (hn:nn<=100) (hc:nn<=c) (hx:∀ x∈x0::r,x.size<=700) (hs0:0 < sep.size) (hs:sep.size<=8) :
  Ro 161 #[zc (some ⟨bk,o,none⟩) nn c,.string sep] w (.string ⟨(AY sep.data.toList ((x0::r).map (fun y=>y.data.toList))).toArray⟩):=by
 obtain ⟨fin,b⟩:=nm (AY sep.data.toList ((x0::r).map (fun y=>y.data.toList)));rw [<-b];rw [List.map_cons,Lg] at b;have HF:=Aa b;have HN:=Aa hnn;have HC:=Aa hcells;have HX:=Aa hx;have F:bk < w.heap.size:=World.block_lt_of_cell? w _ (hcells 0 x0 rfl);have R:=Aa F;have C:r.length=nn - 1:=by rw [hnn];simp
 have HR:=Aa C;obtain ⟨M,hM⟩:∃ M:Nat,M=sep.size*(nn - 1):=⟨_,rfl⟩;have a8:M<=800:=by rw [hM];exact Nat.le_trans (Nat.mul_le_mul hs (show nn - 1<=100 by omega)) (by decide)
 have a:((nn:Int) - 1)=((nn - 1:Nat):Int):=by omega
 have Y:wrap64 ((sep.size:Int)*((nn:Int) - 1))=(M:Int):=by
  have e:(sep.size:Int)*((nn - 1:Nat):Int)=((sep.size*(nn - 1):Nat):Int):=IntWalk.up_mul rfl rfl;rw [a,e,<-hM];exact IntWalk.wrap64_in _ ⟨by omega,by omega⟩
 have a7:¬ (9223372036854775807 / ((nn:Int) - 1)<=(sep.size:Int)):=by
  have e:(9223372036854775807:Int) / ((nn - 1:Nat):Int)=((9223372036854775807 / (nn - 1):Nat):Int):=IntWalk.up_div (x:=9223372036854775807) rfl rfl;rw [a,e];have hq:9223372036854775807 / 100<=9223372036854775807 / (nn - 1):=Nat.div_le_div_left (by omega) (by omega);generalize 9223372036854775807 / (nn - 1)=q at hq ⊢;omega
 have a4:¬ (nn:Int)=0:=by omega
 have a3:¬ (nn:Int)=1:=by omega
 have a6:(0:Int) < (sep.size:Int):=by omega
 clear b hnn hcells hx F C hM a;go_enter Tryz.func161,Tryz.ntmps161;go_wp2_with fail
 go_loop [5,41] (fun n i=>∃ (k N:Nat),k<=nn/\i=I O k/\n=I O N/\N<=800+k*700) (fun _ i=>nn - (intOf i).toNat)
 case atStart=>exact ⟨0,M,Nat.zero_le _,rfl,rfl,by omega⟩
 case round=>
  obtain ⟨k,N,hk,rfl,rfl,hN⟩:=hrel;by_cases hkn:k < nn
  ·have u:k < (x0::r).length:=by have:=HN.o;omega
   have ab:=HC.o k _ (List.getElem?_eq_getElem u);have X:=HX.o _ (List.getElem_mem u);generalize (x0::r)[k]=x at ab X;have Z:(k:Int) < (nn:Int):=by omega
   have hg:¬ (9223372036854775807:Int) - (N:Int) < (x.size:Int):=by omega
   clear u;go_wp2_with fail;exact ⟨⟨k+1,N+x.size,by omega,by go_num,by go_num,by omega⟩,by simp [intOf];omega⟩
  ·have Z:¬ (k:Int) < (nn:Int):=by omega
   have A:Below w.heap.size w (w.alloc (ze #[zf none,zc none 0 0] 77)):=(Below.refl _ w).alloc (Nat.le_refl _) _;have L:(w.alloc (ze #[zf none,zc none 0 0] 77)).heap[w.heap.size]? = some (ze #[zf none,zc none 0 0] 77 (0,0)):=heap_alloc_new w _;have KG:=Aa (QK w.heap.size w.heap.size N _ (Nat.le_refl _) L A.size (by omega));have T:=Aa A;clear L A;go_wp2_with fail;refine KG.o.mono ?_;rintro e U ⟨rfl,h1,K⟩;have g:Hx (Below w.heap.size w U):=T.o.trans K;have H1:Hx (Lib.IsBuilder 77 5 w.heap.size w.heap.size [] U):=Or.inr h1;have c0:U.cell? ⟨bk,o,none⟩=some (.string x0):=by
    have:=HC.o 0 x0 rfl;rw [g.o.cell (p:=⟨bk,o,none⟩) R.o];exact this
   have a1:=HX.o x0 (by simp);have KW:=Aa (EC w.heap.size w.heap.size [] x0 U H1.o (by simp) (by omega) g.o.size);clear h1 K KG T;go_wp2_with fail;refine KW.o.mono ?_;rintro e w2 ⟨rfl,B,J,-⟩;rw [List.nil_append,Lib.strCells_eq] at B;have al:Hx (Below w.heap.size w w2):=g.o.trans J;have H2:Hx (Lib.IsBuilder 77 5 w.heap.size w.heap.size (Lib.byteCells x0.data.toList) w2):=Or.inr B;clear B J KW c0 H1 g;go_wp2_with fail;go_loopw [65] (fun i wr=>∃ (j:Nat) (z:List UInt8),j<=nn - 1/\i=I O j/\z++((r.drop j).map (fun y=>sep.data.toList++y.data.toList)).flatten=fin/\z.length<=700+j*708/\Hx (Lib.IsBuilder 77 5 w.heap.size w.heap.size (Lib.byteCells z) wr)/\Hx (Below w.heap.size w wr)) (fun i _=>nn - 1 - (intOf i).toNat)
   case atStart=>
    refine ⟨0,x0.data.toList,Nat.zero_le _,rfl,?_,?_,H2,al⟩
    ·rw [List.drop_zero,HF.o,List.map_map];rfl
    ·have e:x0.data.toList.length=x0.size:=rfl
     omega
   case round=>
    obtain ⟨j,z,hj,rfl,l,a0,P,Q⟩:=hrel;by_cases hjr:j < nn - 1
    ·have f:j < r.length:=by have:=HR.o;omega
     have v:=HC.o (j+1) _ (by rw [List.getElem?_cons_succ];exact List.getElem?_eq_getElem f);have W:=HX.o r[j] (by simp);rw [List.drop_eq_getElem_cons f,List.map_cons,List.flatten_cons] at l;generalize r[j]=y at v W l;have d0:wr.cell? ⟨bk,o+1+j,none⟩=some (.string y):=by
      rw [Q.o.cell (p:=⟨bk,o+1+j,none⟩) R.o,show o+1+j=o+(j+1) by omega];exact v
     have aa:(j:Int) < (nn:Int) - 1:=by omega
     have E:(j:Int) < ((nn - 1:Nat):Int):=by omega
     have ac:(Lib.byteCells z).length=z.length:=Lib.byteCells_length z;have V:=Aa (EC w.heap.size w.heap.size (Lib.byteCells z) sep wr P.o (by omega) (by omega) Q.o.size);have ag:=Aa l;clear v l f P;go_wp2_with fail;refine V.o.mono ?_;rintro e w3 ⟨rfl,h3,H,-⟩;have S:Hx (Below w.heap.size w w3):=Q.o.trans H;have a5:(Lib.byteCells z++Lib.strCells sep).length=z.length+sep.size:=by rw [List.length_append,ac,Lib.strCells_length]
     have K2:=Aa (EC w.heap.size w.heap.size (Lib.byteCells z++Lib.strCells sep) y w3 (Or.inr h3) (by omega) (by omega) S.o.size);clear h3 H V;go_wp2_with fail;refine K2.o.mono ?_;rintro e w4 ⟨rfl,h4,G,-⟩;rw [Lib.strCells_eq,Lib.strCells_eq,<-Lib.byteCells_append,<-Lib.byteCells_append] at h4;have ak:Hx (Below w.heap.size w w4):=S.o.trans G;have H4:Hx (Lib.IsBuilder 77 5 w.heap.size w.heap.size (Lib.byteCells (z++sep.data.toList++y.data.toList)) w4):=Or.inr h4;clear h4 G K2 d0;go_wp2_with fail;refine ⟨⟨j+1,z++sep.data.toList++y.data.toList,by omega,by go_num,?_,?_,H4,ak⟩,by simp [intOf];omega⟩
     ·rw [<-ag.o];simp
     ·have e1:sep.data.toList.length=sep.size:=rfl
      have e2:y.data.toList.length=y.size:=rfl;simp only [List.length_append];omega
    ·have hd:r.drop j=[]:=List.drop_eq_nil_of_le (by have:=HR.o;omega)
     rw [hd,List.map_nil,List.flatten_nil,List.append_nil] at l;have aa:¬ (j:Int) < (nn:Int) - 1:=by omega
     have E:¬ (j:Int) < ((nn - 1:Nat):Int):=by omega
     rw [l] at P;have V:=Aa (Tryz.Builder_String_any w.heap.size w.heap.size fin wr P.o Q.o.size);clear l hd P;go_wp2_with fail;refine V.o.mono ?_;rintro e w5 ⟨rfl,ad⟩;have aj:Hx (Below w.heap.size w w5):=Q.o.trans ad;go_wp2_with fail;go_ret;exact ⟨rfl,aj.o⟩
theorem Kz (xs:List ByteArray) (sep:ByteArray) (ao:Option Addr) (nn cap:Nat) (w:World) (hnn:nn=xs.length) (h:LS 1 ZN w (zc ao nn cap) xs) (hn:nn<=100) (hc:nn<=cap) (hx:∀ x∈xs,x.size<=700) (hs0:0 < sep.size) (hs:sep.size<=8) :
  Ro 161 #[zc ao nn cap,.string sep] w (.string ⟨(AY sep.data.toList (xs.map (fun y=>y.data.toList))).toArray⟩):=by
 subst hnn
 match xs,h,hn,hc,hx with
 | [],_,_,_,_=>exact MC ao cap sep w
 | [x],h,_,_,_=>
  obtain ⟨b,c,e,v,-,a,hr⟩:=h.at (j:=0) (by simp);rw [hr.1] at a;have n:w.cell? ⟨b,c,none⟩=some (.string x):=by have:=a 0 _ rfl;simpa using this
  rw [e];exact NT b c cap x sep w n
 | x::y::r,h,hn,hc,hx=>
  obtain ⟨b,c,e,-⟩:=h.at (j:=0) (by simp);rw [e] at h ⊢;refine MD b c cap x (y::r) sep w _ rfl (fun j u f=>?_) (by simp) hn hc hx hs0 hs;have i:j < (x::y::r).length:=(List.getElem?_eq_some_iff.1 f).1;obtain ⟨A,g,l,v,-,a,hr⟩:=h.at (j:=j) i;simp only [Option.some.injEq,Addr.mk.injEq] at l;obtain ⟨rfl,rfl,-⟩:=l;rw [hr.1] at a;have:=a 0 _ rfl;rw [List.getElem?_eq_getElem i] at f;simp only [Option.some.injEq] at f;rw [f] at this;simpa using this
theorem Re:(Tryz.prog.info? 9).map (fun i=>(i.zero,i.size,i.bytes))=some (some (.string ⟨#[]⟩),1,16):=by kernel_rfl
def F9 (ys:List ByteArray) (m:Nat):Array Value:=(ys.map Value.string++List.replicate m (Value.string ⟨#[]⟩)).toArray
theorem NM (n:Nat) (hn:n<=1000) (w:World):(Instr.makeSlice 46 (I O n) (I O n)).run Tryz.prog w=.ok (zc (some ⟨w.heap.size,0,none⟩) n n) (w.alloc (.cells (F9 [] n) 9)):=by
 obtain ⟨i,f,c,b,a⟩:=info_parts Re;have:=run_make (P:=Tryz.prog) w 46 9 i (.string ⟨#[]⟩) Tryz.underlying46 f c O O (n:Int) (n:Int) (by omega) (by omega) (by rw [a];omega) (by omega);rw [this,b];simp only [Int.toNat_natCast,Nat.mul_one];have e:madeCells (Value.string ⟨#[]⟩).cells n=F9 [] n:=by
  unfold F9;apply Array.ext
  ·simp [madeCells]
  ·intro j b a
   simp [madeCells,Value.cells,Nat.mod_one]
 rw [e]
def CN (g:Nat) (ys:List ByteArray) (m:Nat) (W:World):Prop:=W.heap[g]? = some (.cells (F9 ys m) 9 (0,0))
theorem CN.over {g m:Nat} {ys:List ByteArray} {W W':World} (h:CN g ys m W) (hb:Ov W W'):CN g ys m W':=by
 unfold CN;rw [hb.block g (Bv h)];exact h
theorem CN.frozen {g m:Nat} {ys:List ByteArray} {W:World} (h:CN g ys m W) (j:Nat):W.frozen? ⟨g,j,none⟩=false:=Lib.frozen_of_heap h j
theorem CN.next {g m:Nat} {ys:List ByteArray} {W:World} (h:CN g ys (m+1) W):W.cell? ⟨g,ys.length,none⟩=some (.string ⟨#[]⟩):=by
 rw [Lib.cell_of_heap h];simp [F9]
theorem CN.put {g m:Nat} {ys:List ByteArray} {W:World} (h:CN g ys (m+1) W) (y:ByteArray):CN g (ys++[y]) m (W.setCell ⟨g,ys.length,none⟩ (.string y)):=by
 unfold CN at h ⊢;have e:(F9 ys (m+1)).setIfInBounds ys.length (.string y)=F9 (ys++[y]) m:=by
  unfold F9;apply Array.ext';simp [List.replicate_succ,List.set_append_right]
 simp [World.setCell,Array.getElem?_modify,h,e]
theorem CN.ls {g:Nat} {ys:List ByteArray} {W:World} (h:CN g ys 0 W) (hn:ys.length<=100) (hy:∀ y∈ys,y.size<=700):LS 1 ZN W (zc (some ⟨g,0,none⟩) ys.length ys.length) ys:=by
 refine ⟨by unfold maxLen;omega,some ⟨g,0,none⟩,ys.length,rfl,fun f=>⟨g,0,rfl,Fz0.new h,fun i a c=>⟨[.string a],rfl,fun j u b=>?_,rfl,?_⟩⟩⟩
 ·match j,b with
  | 0,b=>
   simp only [List.getElem?_cons_zero,Option.some.injEq] at b;rw [<-b,show 0+i*1+0=i by omega,Lib.cell_of_heap h];simp [F9,c]
  | j+1,b=>simp at b
 ·have:=hy a (List.mem_of_getElem? c)
  unfold maxLen;omega
theorem Df {α:Type} (l:List α) (j:Nat) (h:j < l.length):l.take (j+1)=l.take j++[l[j]]:=by
 rw [List.take_add_one,List.getElem?_eq_getElem h];rfl
theorem Ls  (F:FuncId) (hC:∀ (args:Array Value) (w:World),(callFunc F args).run Tryz.prog w=.ok (.enter F args) w) (f:ByteArray->ByteArray) (l:List ByteArray) (sep:ByteArray) (ao:Option Addr) (nn cap:Nat) (w:World) (hnn:nn=l.length) (hc:LS 1 (ZN) w (zc ao nn cap) l) (hn:nn<=100) (hf:∀ d∈l,(f d).size<=700) (hs0:0 < sep.size) (hs:sep.size<=8) (KF:Hx (∀ x∈l,∀ X,Ov w X->Ro F #[.string x] X (.string (f x)))) :
  Ro 162 #[zc ao nn cap,.string sep,.func (.func F) #[] #[]] w (.string ⟨(AY sep.data.toList (l.map (fun d=>(f d).data.toList))).toArray⟩):=by
 have HC:=Aa hc;have Q:=Aa hf;obtain ⟨fin,B⟩:=nm (⟨(AY sep.data.toList (l.map (fun d=>(f d).data.toList))).toArray⟩:ByteArray);rw [<-B];have R:=Aa B;have HN:=Aa hnn;have aa:=NM nn (by omega);obtain ⟨V,U⟩:=nm (w.alloc (.cells (F9 [] nn) 9));obtain ⟨g,T⟩:=nm w.heap.size;have HG:=Aa T;have ai:Hx (Below w.heap.size w V):=by show Below _ _ _;rw [U];exact bA _ _
 have ae:Hx (CN g [] nn V):=by show CN _ _ _ _;rw [U,T];exact heap_alloc_new w _
 clear hc hf B hnn;go_enter Tryz.func162,Tryz.ntmps162;go_wp2_with fail;rw [<-U,<-T];clear U T aa;go_loopw [15] (fun i wr=>∃ (j:Nat),j<=nn/\i=I O j/\Hx (CN g ((l.take j).map f) (nn - j) wr)/\Hx (Below w.heap.size w wr)) (fun i _=>nn - (intOf i).toNat)
 case atStart=>exact ⟨0,Nat.zero_le _,rfl,ae,ai⟩
 case round=>
  obtain ⟨j,hj,rfl,Y,S⟩:=hrel;by_cases hjl:j < nn
  ·have a:j < l.length:=by have:=HN.o;omega
   obtain ⟨b,Z,rfl,cs,ab,K,hr⟩:=HC.o.at a;have u:=List.getElem_mem a;have n:(l.take (j+1)).map f=(l.take j).map f++[f l[j]]:=by rw [Df l j a,List.map_append];rfl
   have H:((l.take j).map f).length=j:=by simp;omega
   obtain ⟨W,N⟩:=nm l[j];rw [<-N] at hr u n;obtain ⟨y,G⟩:=nm (f W);rw [<-G] at n;have hB:=S.o;rw [hr.1] at K;have KC:Hx (∀ X,Ov w X->Ro F #[.string W] X (.string y)):=fun X hX=>by rw [G];exact KF.o W u X hX
   have d0:wr.cell? ⟨b,Z+j,none⟩=some (.string W):=by have:=ce1 hB (K 0 _ rfl);simpa using this
   obtain ⟨pre,r⟩:=nm ((l.take j).map f);rw [<-r] at n H;have P:Hx (CN g pre (nn - (j+1)+1) wr):=by have:=Y.o;rw [<-r,show nn - j=nn - (j+1)+1 by omega] at this;exact this
   have HT:=Aa n;have HL:=Aa H;have ac:(j:Int) < (nn:Int):=by omega
   clear K ab hr hB a G N u Y n r H;go_wp2_with fail;refine (KC.o _ S.o).mono ?_;rintro e E ⟨rfl,c⟩;have M:Hx (Below w.heap.size w E):=Ac S.o c;have C:=Aa (P.o.over c);have k1:E.cell? ⟨g,j,none⟩=some (.string ⟨#[]⟩):=by have:=C.o.next;rw [HL.o] at this;exact this
   have g1:E.frozen? ⟨g,j,none⟩=false:=C.o.frozen j;have af:Hx (CN g ((l.take (j+1)).map f) (nn - (j+1)) (E.setCell ⟨g,j,none⟩ (.string y))):=by
    have:=C.o.put y;rw [HL.o] at this;rw [HT.o];exact this
   have aj:Hx (Below w.heap.size w (E.setCell ⟨g,j,none⟩ (.string y))):=M.o.setCell (p:=⟨g,j,none⟩) (Nat.le_of_eq HG.o.symm) _;clear c KC C HT HL S P d0;go_wp2_with fail;exact ⟨⟨j+1,by omega,by go_num,af,aj⟩,by simp [intOf];omega⟩
  ·have ac:¬ (j:Int) < (nn:Int):=by omega
   have A:(l.take j).map f=l.map f:=by rw [List.take_of_length_le (by have:=HN.o;omega)]
   have hr:=Y.o;rw [A,show nn - j=0 by omega] at hr;have v:nn=(l.map f).length:=by rw [List.length_map];exact HN.o
   have J:=hr.ls (by omega) (fun y G=>by obtain ⟨d,hd,rfl⟩:=List.mem_map.1 G;exact Q.o d hd);rw [<-v] at J;have L:=Kz (l.map f) sep _ nn nn wr v J hn (Nat.le_refl _) (fun y G=>by obtain ⟨d,hd,rfl⟩:=List.mem_map.1 G;exact Q.o d hd) hs0 hs;rw [List.map_map] at L;have KJ:Hx (Ro 161 #[zc (some ⟨g,0,none⟩) nn nn,.string sep] wr (.string fin)):=by rw [R.o];exact L
   clear A hr v J L Y;go_wp2_with fail;refine KJ.o.mono ?_;rintro e E ⟨rfl,c⟩;have M:Hx (Below w.heap.size w E):=Ac S.o c;clear c KJ;go_wp2_with fail;go_ret;exact ⟨rfl,M.o⟩
theorem GZ {k:Nat} (F:FuncId) (hC:∀ (args:Array Value) (w:World),(callFunc F args).run Tryz.prog w=.ok (.enter F args) w) (f:D->ByteArray) (l:List D) (sep:ByteArray) (ao:Option Addr) (nn cap:Nat) (w:World) (hnn:nn=l.length) (hc:LS 5 (ZE w k) w (zc ao nn cap) l) (hn:nn<=100) (hf:∀ d∈l,(f d).size<=700) (hs0:0 < sep.size) (hs:sep.size<=8) (KF:Hx (∀ d∈l,∀ cs X,Ov w X->ZE X k cs d->Ro F #[.agg cs.toArray] X (.string (f d)))) :
  Ro 150 #[zc ao nn cap,.string sep,.func (.func F) #[] #[]] w (.string ⟨(AY sep.data.toList (l.map (fun d=>(f d).data.toList))).toArray⟩):=by
 have HC:=Aa hc;have Q:=Aa hf;obtain ⟨fin,B⟩:=nm (⟨(AY sep.data.toList (l.map (fun d=>(f d).data.toList))).toArray⟩:ByteArray);rw [<-B];have R:=Aa B;have HN:=Aa hnn;have Z:=NM nn (by omega);obtain ⟨V,U⟩:=nm (w.alloc (.cells (F9 [] nn) 9));obtain ⟨g,T⟩:=nm w.heap.size;have HG:=Aa T;have ak:Hx (Below w.heap.size w V):=by show Below _ _ _;rw [U];exact bA _ _
 have ag:Hx (CN g [] nn V):=by show CN _ _ _ _;rw [U,T];exact heap_alloc_new w _
 clear hc hf B hnn;go_enter Tryz.func150,Tryz.ntmps150;go_wp2_with fail;rw [<-U,<-T];clear U T Z;go_loopw [15] (fun i wr=>∃ (j:Nat),j<=nn/\i=I O j/\Hx (CN g ((l.take j).map f) (nn - j) wr)/\Hx (Below w.heap.size w wr)) (fun i _=>nn - (intOf i).toNat)
 case atStart=>exact ⟨0,Nat.zero_le _,rfl,ag,ak⟩
 case round=>
  obtain ⟨j,hj,rfl,W,S⟩:=hrel;by_cases hjl:j < nn
  ·have a:j < l.length:=by have:=HN.o;omega
   obtain ⟨b,Y,rfl,cs,aa,c,hr⟩:=HC.o.at a;have v:=List.getElem_mem a;have r:(l.take (j+1)).map f=(l.take j).map f++[f l[j]]:=by rw [Df l j a,List.map_append];rfl
   have H:((l.take j).map f).length=j:=by simp;omega
   obtain ⟨dj,N⟩:=nm l[j];rw [<-N] at hr v r;obtain ⟨y,G⟩:=nm (f dj);rw [<-G] at r;have M:=S.o;obtain ⟨c0,c1,c2,c3,af,ad,ae,rfl⟩:=hr.cells;have KC:Hx (∀ X,Ov w X->Ro F #[zg #[I O c0,I O c1,I O c2,.string c3,zc af ad ae]] X (.string y)):=fun X hX=>by rw [G];exact KF.o dj v _ X hX (hr.over hX)
   have d0:wr.cell? ⟨b,Y+j*5,none⟩=_:=ce1 M (c 0 _ rfl);have d1:=ce1 M (c 1 _ rfl);have d2:=ce1 M (c 2 _ rfl);have d3:=ce1 M (c 3 _ rfl);have d4:=ce1 M (c 4 _ rfl);obtain ⟨pre,u⟩:=nm ((l.take j).map f);rw [<-u] at r H;have P:Hx (CN g pre (nn - (j+1)+1) wr):=by have:=W.o;rw [<-u,show nn - j=nn - (j+1)+1 by omega] at this;exact this
   have HT:=Aa r;have HL:=Aa H;have ab:(j:Int) < (nn:Int):=by omega
   clear c aa hr M a G N v W r u H;go_wp2_with fail;refine (KC.o _ (Ac S.o (bA _ _))).mono ?_;rintro e E ⟨rfl,n⟩;have L:Hx (Below w.heap.size w E):=Ac S.o (Ac (bA _ _) n);have C:=Aa (P.o.over (Ac (bA _ _) n));have k1:E.cell? ⟨g,j,none⟩=some (.string ⟨#[]⟩):=by have:=C.o.next;rw [HL.o] at this;exact this
   have g1:E.frozen? ⟨g,j,none⟩=false:=C.o.frozen j;have ah:Hx (CN g ((l.take (j+1)).map f) (nn - (j+1)) (E.setCell ⟨g,j,none⟩ (.string y))):=by
    have:=C.o.put y;rw [HL.o] at this;rw [HT.o];exact this
   have al:Hx (Below w.heap.size w (E.setCell ⟨g,j,none⟩ (.string y))):=L.o.setCell (p:=⟨g,j,none⟩) (Nat.le_of_eq HG.o.symm) _;clear n KC C HT HL S P d0 d1 d2 d3 d4;go_wp2_with fail;exact ⟨⟨j+1,by omega,by go_num,ah,al⟩,by simp [intOf];omega⟩
  ·have ab:¬ (j:Int) < (nn:Int):=by omega
   have A:(l.take j).map f=l.map f:=by rw [List.take_of_length_le (by have:=HN.o;omega)]
   have hr:=W.o;rw [A,show nn - j=0 by omega] at hr;have x:nn=(l.map f).length:=by rw [List.length_map];exact HN.o
   have J:=hr.ls (by omega) (fun y G=>by obtain ⟨d,hd,rfl⟩:=List.mem_map.1 G;exact Q.o d hd);rw [<-x] at J;have K:=Kz (l.map f) sep _ nn nn wr x J hn (Nat.le_refl _) (fun y G=>by obtain ⟨d,hd,rfl⟩:=List.mem_map.1 G;exact Q.o d hd) hs0 hs;rw [List.map_map] at K;have KJ:Hx (Ro 161 #[zc (some ⟨g,0,none⟩) nn nn,.string sep] wr (.string fin)):=by rw [R.o];exact K
   clear A hr x J K W;go_wp2_with fail;refine KJ.o.mono ?_;rintro e E ⟨rfl,n⟩;have L:Hx (Below w.heap.size w E):=Ac S.o n;clear n KJ;go_wp2_with fail;go_ret;exact ⟨rfl,L.o⟩
theorem Lt  (F:FuncId) (hC:∀ (args:Array Value) (w:World),(callFunc F args).run Tryz.prog w=.ok (.enter F args) w) (f:D->ByteArray) (l:List D) (sep:ByteArray) (ao:Option Addr) (nn cap:Nat) (w:World) (hnn:nn=l.length) (hc:LS 4 (ZP w) w (zc ao nn cap) l) (hn:nn<=100) (hf:∀ d∈l,(f d).size<=700) (hs0:0 < sep.size) (hs:sep.size<=8) (KF:Hx (∀ d∈l,∀ cs X,Ov w X->ZP X cs d->Ro F #[.agg cs.toArray] X (.string (f d)))) :
  Ro 146 #[zc ao nn cap,.string sep,.func (.func F) #[] #[]] w (.string ⟨(AY sep.data.toList (l.map (fun d=>(f d).data.toList))).toArray⟩):=by
 have HC:=Aa hc;have Q:=Aa hf;obtain ⟨fin,A⟩:=nm (⟨(AY sep.data.toList (l.map (fun d=>(f d).data.toList))).toArray⟩:ByteArray);rw [<-A];have R:=Aa A;have HN:=Aa hnn;have Z:=NM nn (by omega);obtain ⟨V,U⟩:=nm (w.alloc (.cells (F9 [] nn) 9));obtain ⟨g,T⟩:=nm w.heap.size;have HG:=Aa T;have ak:Hx (Below w.heap.size w V):=by show Below _ _ _;rw [U];exact bA _ _
 have ag:Hx (CN g [] nn V):=by show CN _ _ _ _;rw [U,T];exact heap_alloc_new w _
 clear hc hf A hnn;go_enter Tryz.func146,Tryz.ntmps146;go_wp2_with fail;rw [<-U,<-T];clear U T Z;go_loopw [15] (fun i wr=>∃ (j:Nat),j<=nn/\i=I O j/\Hx (CN g ((l.take j).map f) (nn - j) wr)/\Hx (Below w.heap.size w wr)) (fun i _=>nn - (intOf i).toNat)
 case atStart=>exact ⟨0,Nat.zero_le _,rfl,ag,ak⟩
 case round=>
  obtain ⟨j,hj,rfl,W,S⟩:=hrel;by_cases hjl:j < nn
  ·have a:j < l.length:=by have:=HN.o;omega
   obtain ⟨b,Y,rfl,cs,aa,B,hr⟩:=HC.o.at a;have u:=List.getElem_mem a;have n:(l.take (j+1)).map f=(l.take j).map f++[f l[j]]:=by rw [Df l j a,List.map_append];rfl
   have H:((l.take j).map f).length=j:=by simp;omega
   obtain ⟨dj,M⟩:=nm l[j];rw [<-M] at hr u n;obtain ⟨y,G⟩:=nm (f dj);rw [<-G] at n;have N:=S.o;obtain ⟨c0,c1,c2,af,ad,ae,rfl⟩:=hr.cells;have KC:Hx (∀ X,Ov w X->Ro F #[zg #[I O c0,.string c1,zd c2,zc af ad ae]] X (.string y)):=fun X hX=>by rw [G];exact KF.o dj u _ X hX (hr.over hX)
   have d0:wr.cell? ⟨b,Y+j*4,none⟩=_:=ce1 N (B 0 _ rfl);have d1:=ce1 N (B 1 _ rfl);have d2:=ce1 N (B 2 _ rfl);have d3:=ce1 N (B 3 _ rfl);obtain ⟨pre,r⟩:=nm ((l.take j).map f);rw [<-r] at n H;have P:Hx (CN g pre (nn - (j+1)+1) wr):=by have:=W.o;rw [<-r,show nn - j=nn - (j+1)+1 by omega] at this;exact this
   have HT:=Aa n;have HL:=Aa H;have ab:(j:Int) < (nn:Int):=by omega
   clear B aa hr N a G M u W n r H;go_wp2_with fail;refine (KC.o _ (Ac S.o (bA _ _))).mono ?_;rintro e E ⟨rfl,c⟩;have L:Hx (Below w.heap.size w E):=Ac S.o (Ac (bA _ _) c);have C:=Aa (P.o.over (Ac (bA _ _) c));have k1:E.cell? ⟨g,j,none⟩=some (.string ⟨#[]⟩):=by have:=C.o.next;rw [HL.o] at this;exact this
   have g1:E.frozen? ⟨g,j,none⟩=false:=C.o.frozen j;have ah:Hx (CN g ((l.take (j+1)).map f) (nn - (j+1)) (E.setCell ⟨g,j,none⟩ (.string y))):=by
    have:=C.o.put y;rw [HL.o] at this;rw [HT.o];exact this
   have al:Hx (Below w.heap.size w (E.setCell ⟨g,j,none⟩ (.string y))):=L.o.setCell (p:=⟨g,j,none⟩) (Nat.le_of_eq HG.o.symm) _;clear c KC C HT HL S P d0 d1 d2 d3;go_wp2_with fail;exact ⟨⟨j+1,by omega,by go_num,ah,al⟩,by simp [intOf];omega⟩
  ·have ab:¬ (j:Int) < (nn:Int):=by omega
   have x:(l.take j).map f=l.map f:=by rw [List.take_of_length_le (by have:=HN.o;omega)]
   have hr:=W.o;rw [x,show nn - j=0 by omega] at hr;have v:nn=(l.map f).length:=by rw [List.length_map];exact HN.o
   have J:=hr.ls (by omega) (fun y G=>by obtain ⟨d,hd,rfl⟩:=List.mem_map.1 G;exact Q.o d hd);rw [<-v] at J;have K:=Kz (l.map f) sep _ nn nn wr v J hn (Nat.le_refl _) (fun y G=>by obtain ⟨d,hd,rfl⟩:=List.mem_map.1 G;exact Q.o d hd) hs0 hs;rw [List.map_map] at K;have KJ:Hx (Ro 161 #[zc (some ⟨g,0,none⟩) nn nn,.string sep] wr (.string fin)):=by rw [R.o];exact K
   clear x hr v J K W;go_wp2_with fail;refine KJ.o.mono ?_;rintro e E ⟨rfl,c⟩;have L:Hx (Below w.heap.size w E):=Ac S.o c;clear c KJ;go_wp2_with fail;go_ret;exact ⟨rfl,L.o⟩
end Go.Proofs.YtipngnjffjajpaaGreatDoor.Tx
