/- What a tree is shown as, in plain words. -/
import Derived.Shelf.Strconv.Itoa4
import Derived.Test.YtipngnjffjajpaaGreatDoorI24
import Derived.Lib.UnsafeStr
import Derived.Laws.BytesString
import Derived.Lib.ItoaMem
import Derived.Lib.ItoaLen
import Derived.Test.YtipngnjffjajpaaGreatDoorShelf
import Derived.Lib.MakeNoZero
import Derived.Laws.MakeOwn
set_option linter.unusedVariables false
set_option maxHeartbeats 8000000
set_option maxRecDepth 100000
namespace Go.Proofs.YtipngnjffjajpaaGreatDoor.Tx
open Go.RowKit
open Go.Value renaming int -> A, slice -> O, bool -> zc, agg -> ze, pointer -> zf, tuple -> zh
open Go.IntKind renaming i64 -> J
open Go.Obj renaming cells -> zd
open Go.Ending renaming returned -> zg
def Ax (x:List UInt8):List (List UInt8)->List UInt8
 | []=>[]
 | [a]=>a
 | a::b::l=>a++x++Ax x (b::l)
def Bm (k:Int):List UInt8:=
 if k=3 then [32,43,32] else if k=4 then [32,45,32] else if k=5 then [32,42,32] else if k=6 then [32,60,32] else [32,61,61,32]
def exT:Nat->D->List UInt8
 | 0,_=>[]
 | k+1,d=>if gI 0 d=1 then Lib.itoa (gI 2 d) else if gI 0 d=2 then gZ 3 d else [40]++Ax (Bm (gI 0 d)) ((gL 4 d).map (exT k))++[41]
def inT (deep:Nat):List UInt8:=(List.replicate deep [32,32]).flatten
def cmT (ke:Nat):Nat->Nat->D->List UInt8
 | 0,_,_=>[]
 | k+1,deep,d=>
  let i:=inT deep
  let e:=exT ke (gD 4 d)
  let body:=fun l:List D=>(l.map (cmT ke k (deep+1))).flatten
  if gI 0 d=1 then i++gZ 2 d++[32,61,32]++e++[59,10]
  else if gI 0 d=2 then i++gZ 2 d++[32,61,32]++gZ 3 d++[40]++Ax [44,32] ((gL 5 d).map (exT ke))++[41,59,10]
  else if gI 0 d=3 then i++[103,101,116,32]++gZ 2 d++[32]++gZ 3 d++[59,10]
  else if gI 0 d=4 then i++[112,117,116,32]++gZ 3 d++[32]++e++[59,10]
  else if gI 0 d=5 then i++[114,101,118,101,97,108,32]++gZ 2 d++[32]++e++[59,10]
  else if gI 0 d=6 then i++[116,114,117,115,116,32]++gZ 2 d++[32]++e++[59,10]
  else (if gI 0 d=7 then i++[105,102,32] else i++[119,104,105,108,101,32])++e++[32,123,10]++body (gL 6 d)
   ++ (if gL 7 d=[] then [] else i++[125,32,101,108,115,101,32,123,10]++body (gL 7 d))++i++[125,10]
def AJ (ke k deep:Nat) (l:List D):List UInt8:=(l.map (cmT ke k deep)).flatten
def poT (d:D):List UInt8:=gZ 1 d++(if gB 2 d=true then [33] else [58])++(if gL 3 d=[] then [] else [32]++Ax [44,32] ((gL 3 d).map asS))
def laT (d:D):List UInt8:=if gB 4 d=true then [32,123]++Ax [59,32] ((gL 5 d).map poT)++[125] else []
def wdT (k:Int):List UInt8:=
 if k=1 then [97,99,116,111,114,32] else if k=2 then [103,114,97,110,116,32] else if k=3 then [115,112,101,97,107,32] else if k=4 then [105,110,32] else if k=5 then [111,117,116,32] else if k=6 then [118,97,114,32] else [102,117,110,99,32]
def deT (ke kc:Nat) (d:D):List UInt8:=
 if gI 0 d=7 then wdT 7++gZ 2 d++[40]++Ax [44,32] ((gL 6 d).map asS)++[41,32,123,10]++AJ ke kc 1 (gL 7 d)++[32,32,114,101,116,117,114,110,32]++exT ke (gD 8 d)++[59,10,125,10]
 else wdT (gI 0 d)++gZ 2 d++(if gI 0 d=2 then [32]++gZ 3 d else [])++laT d++[59,10]
def trT (ke kc:Nat) (ds l:List D):List UInt8:=(ds.map (deT ke kc)).flatten++[109,97,105,110,32,123,10]++AJ ke kc 1 l++[125,10]
def C5:ByteArray:=⟨#[97,99,116,111,114,32,97,59,10,111,117,116,32,99,32,123,97,58,32,97,125,59,10,109,97,105,110,32,123,10,32,32,112,117,116,32,99,32,40,49,32,43,32,50,41,59,10,125,10]⟩
def Ef:List D:=[deD 1 0 ⟨#[97]⟩ noS false [] [] [] noE,deD 5 9 ⟨#[99]⟩ noS true [C1 16 ⟨#[97]⟩ false [⟨#[97]⟩]] [] [] noE]
def E0:List D:=[stD 4 32 noS ⟨#[99]⟩ (eD 3 38 0 noS [eD 1 39 1 noS [],eD 1 43 2 noS []]) [] [] []]
theorem HH:E5 C5=.inl (Ef,E0):=by kernel_rfl
theorem HO:ckT 61 (2*(Aw C5).length+3) Ef E0=0:=by kernel_rfl
theorem Hz:trT 61 (2*(Aw C5).length+3) Ef E0=C5.data.toList:=by kernel_rfl
def CN (B b:Nat) (deep:Int) (p:Value) (bs:List Value) (w:World):Prop:=
 B<=b/\∃ v,w.heap[b]? = some (zd #[p,v,A J deep] 79 (0,0))/\w.ownsRow B 5 1 v bs.length bs/\v.ownBlock≠some b
def A1 (B b:Nat) (deep:Int) (bs:List Value) (w:World):Prop:=CN B b deep (zf none) bs w\/CN B b deep (zf (some ⟨b,0,none⟩)) bs w
def Am (w w':World):Prop:=∀ (g:Nat) (cs:Array Value) (T:TypeId) (fr:Nat × Nat),w.heap[g]? = some (Obj.cells cs T fr)->T≠79->T≠5->w'.heap[g]? = some (Obj.cells cs T fr)
theorem Am.refl (w:World):Am w w:=fun _ _ _ _ h _ _=>h
theorem Am.trans {a b c:World} (h:Am a b) (k:Am b c):Am a c:=fun g cs T fr hg h1 h2=>k g cs T fr (h g cs T fr hg h1 h2) h1 h2
theorem Am.alloc (w:World) (o:Obj):Am w (w.alloc o):=fun g cs T fr hg _ _=>by
 rw [Below.heap_alloc _ _ _ (Array.getElem?_eq_some_iff.1 hg).1];exact hg
theorem Am.over {w w':World} (h:Ov w w'):Am w w':=fun g cs T fr hg _ _=>by
 rw [h.block g (Array.getElem?_eq_some_iff.1 hg).1];exact hg
theorem Am.setCell {w:World} {b:Nat} {cs:Array Value} {fr:Nat × Nat} (hb:w.heap[b]? = some (.cells cs 79 fr)) (o:Nat) (v:Value):Am w (w.setCell ⟨b,o,none⟩ v):=fun g cs' T fr' hg h1 _=>by
 rw [Below.heap_setCell _ _ _ _ (fun e=>?_)]
 ·exact hg
 ·simp only at e
  rw [e] at hg;rw [hg] at hb;simp at hb;exact h1 hb.2.1
theorem Am.grown {w w':World} {B:Nat} {v:Value} {n:Nat} {xs:List Value} (hown:w.ownsRow B 5 1 v n xs) (hg:w.grownBy w' v.ownBlock):Am w w':=fun g cs T fr hh _ h2=>by
 rw [hg.block g (Array.getElem?_eq_some_iff.1 hh).1 (fun e=>?_)]
 ·exact hh
 ·rcases hown.2 with ⟨rfl,_⟩ | ⟨g',cap,cur,rfl,_,hk,_⟩
  ·simp [Value.ownBlock] at e
  ·simp [Value.ownBlock] at e
   subst e;rw [hk] at hh;simp at hh;exact h2 hh.2.1.symm
theorem CN.cells {B b:Nat} {deep:Int} {p:Value} {bs:List Value} {w:World} (h:CN B b deep p bs w):w.cell? ⟨b,0,none⟩=some p/\w.frozen? ⟨b,0,none⟩=false/\w.shape? b=some (79,3)/\w.cell? ⟨b,2,none⟩=some (A J deep)/\w.frozen? ⟨b,2,none⟩=false/\b < w.heap.size:=by
 obtain ⟨_,v,a,_⟩:=h;refine ⟨by rw [Lib.cell_of_heap a];rfl,Lib.frozen_of_heap a 0,by simp [World.shape?,a],by rw [Lib.cell_of_heap a];rfl,Lib.frozen_of_heap a 2,B3 a⟩
theorem GZ {w:World} {B b o:Nat} {q v:Value} {bs:List Value} (hown:w.ownsRow B 5 1 v bs.length bs) (hne:v.ownBlock≠some b):(w.setCell ⟨b,o,none⟩ q).ownsRow B 5 1 v bs.length bs:=
 hown.kept (row:=some b) ⟨rfl,rfl,rfl,by simp [World.setCell],fun k _ hk=>Below.heap_setCell _ _ _ _ (fun e=>hk (by simp [e]))⟩ (Or.inr hne)
theorem CN.used {B b:Nat} {deep:Int} {p:Value} {bs:List Value} {w:World} (h:CN B b deep p bs w) (q:Value):CN B b deep q bs (w.setCell ⟨b,0,none⟩ q):=by
 obtain ⟨g,v,f,a,c⟩:=h;exact ⟨g,v,by simp [World.setCell,Array.getElem?_modify,f],GZ a c,c⟩
theorem CN.move {B b:Nat} {deep:Int} {p:Value} {bs:List Value} {w:World} (h:CN B b deep p bs w) (d:Int):CN B b d p bs (w.setCell ⟨b,2,none⟩ (A J d)):=by
 obtain ⟨g,v,f,a,c⟩:=h;exact ⟨g,v,by simp [World.setCell,Array.getElem?_modify,f],GZ a c,c⟩
theorem CN.put {B b:Nat} {deep:Int} {p v v':Value} {bs':List Value} {w:World} (hB:B<=b) (hb:w.heap[b]? = some (zd #[p,v,A J deep] 79 (0,0))) (hown:w.ownsRow B 5 1 v' bs'.length bs'):CN B b deep p bs' (w.setCell ⟨b,1,none⟩ v'):=by
 have a:=Lib.ownBlock_ne hown hb (by decide);exact ⟨hB,v',by simp [World.setCell,Array.getElem?_modify,hb],GZ hown a,a⟩
theorem CN.alloc {B b:Nat} {deep:Int} {p:Value} {bs:List Value} {w:World} (h:CN B b deep p bs w) (o:Obj):CN B b deep p bs (w.alloc o):=by
 obtain ⟨g,v,f,a,c⟩:=h;exact ⟨g,v,(Lib.alloc_old w _ b (B3 f)).trans f,a.alloc _,c⟩
theorem A1.alloc {B b:Nat} {deep:Int} {bs:List Value} {w:World} (h:A1 B b deep bs w) (o:Obj):A1 B b deep bs (w.alloc o):=h.imp (fun h=>h.alloc o) fun h=>h.alloc o
theorem CN.over {B b:Nat} {deep:Int} {p:Value} {bs:List Value} {w w':World} (h:CN B b deep p bs w) (hb:Ov w w'):CN B b deep p bs w':=by
 obtain ⟨g,v,f,a,c⟩:=h;exact ⟨g,v,(hb.block b (B3 f)).trans f,EF a hb,c⟩
theorem A1.over {B b:Nat} {deep:Int} {bs:List Value} {w w':World} (h:A1 B b deep bs w) (hb:Ov w w'):A1 B b deep bs w':=h.imp (fun h=>h.over hb) fun h=>h.over hb
theorem A1.move {B b:Nat} {deep:Int} {bs:List Value} {w:World} (h:A1 B b deep bs w) (d:Int):A1 B b d bs (w.setCell ⟨b,2,none⟩ (A J d)):=h.imp (fun h=>h.move d) fun h=>h.move d
theorem A1.cells {B b:Nat} {deep:Int} {bs:List Value} {w:World} (h:A1 B b deep bs w):w.cell? ⟨b,2,none⟩=some (A J deep)/\w.frozen? ⟨b,2,none⟩=false/\b < w.heap.size/\B<=b:=by
 rcases h with h | h
 ·exact ⟨h.cells.2.2.2.1,h.cells.2.2.2.2.1,h.cells.2.2.2.2.2,h.1⟩
 ·exact ⟨h.cells.2.2.2.1,h.cells.2.2.2.2.1,h.cells.2.2.2.2.2,h.1⟩
theorem A1.heap {B b:Nat} {deep:Int} {bs:List Value} {w:World} (h:A1 B b deep bs w):∃ cs,w.heap[b]? = some (.cells cs 79 (0,0)):=by
 rcases h with ⟨_,v,a,_⟩ | ⟨_,v,a,_⟩ <;> exact ⟨_,a⟩
theorem Ow:liesAt Tryz.prog Tryz.prog.depth 79 (3 / Tryz.prog.cellsOf 79) 0 77 1=true:=by kernel_rfl
theorem Mc (B b:Nat) (deep:Int) (bs:List Value) (w:World) (h:A1 B b deep bs w) :
  Calls Tryz.prog 121 #[zf (some ⟨b,0,none⟩)] w fun e w'=>e=zg (zh #[])/\CN B b deep (zf (some ⟨b,0,none⟩)) bs w'/\Below B w w'/\Am w w':=by
 obtain ⟨j,g,f⟩:=Option.map_eq_some_iff.1 Tryz.size48;rcases h with h | h
 ·obtain ⟨u,x,c,-⟩:=h.cells
  have n:=Lib.run_to_unsafe w ⟨b,0,none⟩ Tryz.underlying74 Tryz.underlying158 g (by rw [f];decide) c (Nat.zero_lt_succ 2);have q:=Tryz.run39;have i:=Lib.run_from_unsafe w ⟨b,0,none⟩ Tryz.underlying158 Tryz.underlying74 g c Ow;have a:CN B b deep (zf (some ⟨b,0,none⟩)) bs (w.setCell ⟨b,0,none⟩ (zf (some ⟨b,0,none⟩)))/\Below B w (w.setCell ⟨b,0,none⟩ (zf (some ⟨b,0,none⟩)))/\Am w (w.setCell ⟨b,0,none⟩ (zf (some ⟨b,0,none⟩))):=
   ⟨h.used _,(Below.refl B w).setCell (p:=⟨b,0,none⟩) h.1 _,by obtain ⟨_,v,t,_⟩:=h;exact Am.setCell t _ _⟩
  have l:=Aa a;clear a h f g c;go_enter Tryz.func121,Tryz.ntmps121
  go_wp2
  go_end0;exact ⟨rfl,l.o⟩
 ·have u:=h.cells.1
  have r:=Lib.run_neq_ptr_same w ⟨b,0,none⟩ Tryz.underlying74 g;have l:=Aa h;clear h f g;go_enter Tryz.func121,Tryz.ntmps121
  go_wp2
  go_end0;exact ⟨rfl,l.o,Below.refl B w,Am.refl w⟩
theorem O3 (B b:Nat) (deep:Int) (bs:List Value) (c:Int) (w:World) (h:A1 B b deep bs w) (hl:bs.length<=100000000) (hBw:B<=w.heap.size) :
  Calls Tryz.prog 83 #[zf (some ⟨b,0,none⟩),A .u8 c] w fun e w'=>e=zg .nilIface/\CN B b deep (zf (some ⟨b,0,none⟩)) (bs++[A .u8 c]) w'/\Below B w w'/\Am w w':=by
 obtain ⟨S,T,H,G,F⟩:=info_parts Tryz.info5;go_enter Tryz.func83,Tryz.ntmps83;go_wp2_with fail;refine (Mc B b deep bs _ h).mono ?_;rintro e C ⟨rfl,⟨M,v,t,f,I⟩,l,r⟩;have k1:C.cell? ⟨b,1,none⟩=some v:=by rw [Lib.cell_of_heap t];rfl
 have K:=B3 t;obtain ⟨P,y,rfl⟩:=AO f;go_wp2_with (at_builtin;refine wpList_append_own _ rfl _ _ 75 rfl B 5 S (A .u8 0) 1 1 Tryz.underlying75 T H G F rfl (by decide) _ _ _ rfl (f.alloc _) ⟨C.heap.size,0,none⟩ 1 1 [A .u8 c] rfl rfl ?c1 ?c2 ?c3 ?c4 ?c5 ?_)
 case c1=>
  intro j u E
  match j,E with
  | 0,E=>simp at E;subst E;simp [Addr.add]
 case c2=>intro u L;simp at L;subst L;rfl
 case c3=>unfold maxLen;omega
 case c4=>omega
 case c5=>have:=l.size;simp;omega
 ·intro Q n g a _
  have i:n.heap[b]? = some (zd #[zf (some ⟨b,0,none⟩),O P bs.length y,A J deep] 79 (0,0)):=by
   rw [a.block b (by simp;omega) (fun e=>I e.symm),Lib.alloc_old C _ b K];exact t
  have Y:n.cell? ⟨b,1,none⟩=some (O P bs.length y):=by rw [Lib.cell_of_heap i];rfl
  have X:n.frozen? ⟨b,1,none⟩=false:=Lib.frozen_of_heap i 1;have q:Am w (n.setCell ⟨b,1,none⟩ Q):=((r.trans (Am.alloc C _)).trans (Am.grown (f.alloc _) a)).trans (Am.setCell i _ _);have x:Below B w n:=(l.alloc (by have:=l.size;omega) _).grown a (by have:=l.size;simp;omega) (fun k t=>(f.lt k t).1);obtain ⟨U,N,rfl⟩:=AO g;have R:=CN.put M i (bs':=bs++[A .u8 c]) (by simpa using g);have V:=Aa R;have W:=Aa q;clear R k1 f a g q r
  go_wp2
  go_ret;exact ⟨rfl,V.o,x.setCell (p:=⟨b,1,none⟩) M _,W.o⟩
theorem O2 (B b:Nat) (deep:Int) (bs:List Value) (s:ByteArray) (w:World) (h:A1 B b deep bs w) (hl:bs.length<=100000000) (hs:s.size<=100000000) (hBw:B<=w.heap.size) :
  Calls Tryz.prog 84 #[zf (some ⟨b,0,none⟩),.string s] w fun e w'=>e=zg (zh #[A J s.size,.nilIface])/\CN B b deep (zf (some ⟨b,0,none⟩)) (bs++Lib.strCells s) w'/\Below B w w'/\Am w w':=by
 obtain ⟨L,M,y,x,u⟩:=info_parts Tryz.info5;go_enter Tryz.func84,Tryz.ntmps84;go_wp2_with fail;refine (Mc B b deep bs _ h).mono ?_;rintro e I ⟨rfl,⟨F,v,q,c,C⟩,i,n⟩;have k1:I.cell? ⟨b,1,none⟩=some v:=by rw [Lib.cell_of_heap q];rfl
 have E:=B3 q;obtain ⟨H,t,rfl⟩:=AO c;go_wp2_with (at_builtin;refine Lib.wpList_append_own_string _ rfl _ _ 75 9 rfl B 5 L Tryz.underlying75 Tryz.underlying9 M y x u _ _ _ rfl c s rfl ?c3 ?c4 ?c5 ?_)
 case c3=>unfold maxLen;omega
 case c4=>omega
 case c5=>have:=i.size;omega
 ·intro K j f a _
  have g:j.heap[b]? = some (zd #[zf (some ⟨b,0,none⟩),O H bs.length t,A J deep] 79 (0,0)):=by
   rw [a.block b E (fun e=>C e.symm)];exact q
  have T:j.cell? ⟨b,1,none⟩=some (O H bs.length t):=by rw [Lib.cell_of_heap g];rfl
  have S:j.frozen? ⟨b,1,none⟩=false:=Lib.frozen_of_heap g 1;have l:Am w (j.setCell ⟨b,1,none⟩ K):=(n.trans (Am.grown c a)).trans (Am.setCell g _ _);have r:Below B w j:=i.grown a (by have:=i.size;omega) (fun k q=>(c.lt k q).1);obtain ⟨N,G,rfl⟩:=AO f;have R:=CN.put F g (bs':=bs++Lib.strCells s) (by simpa [Lib.strCells_length] using f);have P:=Aa R;have Q:=Aa l;clear R k1 c a f l n
  go_wp2
  go_ret2
  exact ⟨rfl,P.o,r.setCell (p:=⟨b,1,none⟩) F _,Q.o⟩
theorem O1 (B b:Nat) (deep:Int) (l:List UInt8) (w:World) (h:A1 B b deep (Lib.byteCells l) w) (h0:l≠[]) (hl:l.length<=100000000) :
  Calls Tryz.prog 44 #[zf (some ⟨b,0,none⟩)] w fun e w'=>e=zg (.string ⟨l.toArray⟩)/\Below B w w':=by
 obtain ⟨p,R,v,y,f,u⟩:∃ p,CN B b deep p (Lib.byteCells l) w:=by
  rcases h with h | h
  ·exact ⟨_,h⟩
  ·exact ⟨_,h⟩
 have a:=Lib.byteCells_length l;rcases f.2 with ⟨rfl,G⟩ | ⟨g,c,E,rfl,C,A,q,H,t,r⟩
 ·rw [a] at G
  exact absurd (List.eq_nil_of_length_eq_zero G) h0
 ·have J:0 < l.length:=List.length_pos_iff.2 h0
  rw [a] at q y;have k1:w.drew.cell? ⟨b,1,none⟩=some (O (some ⟨g,0,none⟩) l.length c):=by
   have e:w.drew.heap[b]? = _:=y;rw [Lib.cell_of_heap e];rfl
  have n:w.drew.shape? g=some (5,c):=by
   have e:w.drew.heap[g]? = _:=A;simp [World.shape?,e,t]
  have Q:=Lib.run_unsafeSliceData_row (P:=Tryz.prog) w.drew #[75] 128 ⟨g,0,none⟩ l.length c (by omega);have N:=Lib.run_unsafeString_row (P:=Tryz.prog) w.drew 128 3 9 5 Tryz.underlying128 (by kernel_rfl) g c n l h0 q (by omega) (fun j x F=>by
   have e:w.drew.heap[g]? = _:=A;have K:j < l.length:=(List.getElem?_eq_some_iff.1 F).1;have L:(⟨g,0,none⟩:Addr).add j=⟨g,j,none⟩:=by cases j <;> simp [Addr.add]
   rw [L,Lib.cell_of_heap e];have I:(E.toList.take ((Lib.byteCells l).length*1))[j]? = (Lib.byteCells l)[j]?:=congrArg (fun z:List Value=>z[j]?) r;rw [a,Nat.mul_one,List.getElem?_take,if_pos K] at I;rw [<-Array.getElem?_toList,I];simp [Lib.byteCells,F])
  have i:Below B w (w.drew.freeze ⟨g,0,none⟩ l.length):=Lib.below_freeze (Below.refl B w).drew C _;have M:=Aa i;clear i f u y A n;go_enter Tryz.func44,Tryz.ntmps44;go_wp2_with fail;go_region;all_goals (go_wp2_with fail;go_ret;exact ⟨rfl,M.o⟩)
theorem ES (n:Nat) (hn:n<=9223372036854775807):(⟨(Lib.decDigits n).toArray⟩:ByteArray).size<=21:=by
 have:=Lib.itoa_length_le (n:Int) (by omega) (by omega);rw [Lib.itoa_nonneg] at this;simpa [ByteArray.size] using this
theorem Hq (x y:List UInt8):(⟨x.toArray⟩:ByteArray)++⟨y.toArray⟩=⟨(x++y).toArray⟩:=by
 apply ByteArray.ext;simp
theorem MH (n:Nat) (h:n < 10) (w:World):Ro 88 #[A J (n:Int)] w (.string ⟨(Lib.decDigits n).toArray⟩):=by
 rw [Lib.decDigits_one h];have c:¬ (n:Int) < 0:=by omega
 have b:(n:Int) < 10:=by omega
 have a:(convert 75 9 (O (some ⟨w.heap.size,0,none⟩) 1 1)).run Tryz.prog (w.alloc (zd #[A .u8 (48+(n:Int))] 5))=.ok (.string ⟨#[UInt8.ofNat (48+n)]⟩) (w.alloc (zd #[A .u8 (48+(n:Int))] 5)):=by
  rw [run_convert_bytes_string _ 75 9 5 _ _ _ Tryz.underlying75 Tryz.underlying5 Tryz.underlying9,run_bytesToString _ _ _ _ [48+(n:Int)] (by simp [go_sem,loadCells,loadCellsFrom])];have e:(48+(n:Int)).toNat=48+n:=by omega
  simp only [List.foldl_cons,List.foldl_nil,e];rfl
 go_enter Tryz.func88,Tryz.ntmps88;go_wp2_with fail;go_ret;exact ⟨rfl,bA _ _⟩
theorem ER:∀ (n:Nat) (hn:n<=9223372036854775807) (w:World),Ro 88 #[A J (n:Int)] w (.string ⟨(Lib.decDigits n).toArray⟩):=by
 intro n
 induction n using Nat.strongRecOn with
 | ind n ih=>
  intro hn w;by_cases h:n < 10
  ·exact MH n h w
  ·have q:Lib.decDigits n=Lib.decDigits (n / 10)++Lib.decDigits (n % 10):=by
    rw [Lib.decDigits_one (Nat.mod_lt _ (by omega))];rw [Lib.decDigits,dif_neg h]
   obtain ⟨a,i⟩:=nm (⟨(Lib.decDigits (n / 10)).toArray⟩:ByteArray);obtain ⟨b,g⟩:=nm (⟨(Lib.decDigits (n % 10)).toArray⟩:ByteArray);have t:((n / 10:Nat):Int)=(n:Int) / 10:=by omega
   have r:((n % 10:Nat):Int)=(n:Int) % 10:=by omega
   have x:Hx (∀ X,Ro 88 #[A J ((n:Int) / 10)] X (.string a)):=fun X=>by
    have:=ih (n / 10) (by omega) (by omega) X;rw [<-i,t] at this;exact this
   have v:Hx (∀ X,Ro 88 #[A J ((n:Int) % 10)] X (.string b)):=fun X=>by
    have:=ih (n % 10) (by omega) (by omega) X;rw [<-g,r] at this;exact this
   have y:Hx ((⟨(Lib.decDigits n).toArray⟩:ByteArray)=a++b):=by show _=_;rw [q,i,g,Hq]
   have H:¬ (n:Int) < 0:=by omega
   have G:¬ (n:Int) < 10:=by omega
   have F:a.size<=21:=by rw [i];exact ES _ (by omega)
   have E:b.size<=21:=by rw [g];exact ES _ (by omega)
   have u:¬ 9223372036854775807 < a.size+b.size:=by omega
   clear ih q i g t r;go_enter Tryz.func88,Tryz.ntmps88;go_wp2_with fail;refine (x.o _).mono ?_;rintro e C ⟨rfl,f⟩;have l:=Aa f;clear f;go_wp2_with fail;refine (v.o _).mono ?_;rintro e B ⟨rfl,c⟩;have j:=Aa (Ab l.o c);clear c;go_wp2_with fail;go_ret;exact ⟨by rw [y.o];rfl,j.o⟩
theorem MG (n:Int) (h0:-9223372036854775807<=n) (h1:n<=9223372036854775807) (w:World):Ro 88 #[A J n] w (.string ⟨(Lib.itoa n).toArray⟩):=by
 by_cases hz:n < 0
 ·have r:Lib.itoa n=45::Lib.decDigits n.natAbs:=by unfold Lib.itoa;rw [if_pos hz]
  rw [r];by_cases h10:-10 < n
  ·obtain ⟨a,f⟩:=nm (⟨(Lib.decDigits n.natAbs).toArray⟩:ByteArray)
   have t:Hx (∀ X,Ro 88 #[A J (-n)] X (.string a)):=fun X=>by
    have:=ER n.natAbs (by omega) X;rw [<-f,show ((n.natAbs:Nat):Int)=-n by omega] at this;exact this
   have u:Hx ((⟨(45::Lib.decDigits n.natAbs).toArray⟩:ByteArray)=⟨#[45]⟩++a):=by show _=_;rw [f];exact (Hq [45] _).symm
   have K:a.size<=21:=by rw [f];exact ES _ (by omega)
   have I:¬ 9223372036854775807 < (⟨#[45]⟩:ByteArray).size+a.size:=by show ¬ _ < 1+a.size;omega
   have i:¬ 9223372036854775807 < 1+a.size:=by omega
   clear r f;go_enter Tryz.func88,Tryz.ntmps88;go_wp2_with fail;refine (t.o _).mono ?_;rintro e H ⟨rfl,c⟩;have g:=Aa c;clear c;go_wp2_with fail;go_ret;exact ⟨by rw [u.o];rfl,g.o⟩
  ·obtain ⟨a,f⟩:=nm (⟨(Lib.decDigits (n.natAbs / 10)).toArray⟩:ByteArray)
   obtain ⟨b,l⟩:=nm (⟨(Lib.decDigits (n.natAbs % 10)).toArray⟩:ByteArray);have F:n=-((n.natAbs:Nat):Int):=by omega
   have q:-n.tdiv 10=((n.natAbs / 10:Nat):Int):=by
    have e:n.tdiv 10=-(((n.natAbs:Nat):Int).tdiv 10):=(congrArg (fun x:Int=>x.tdiv 10) F).trans (Int.neg_tdiv _ _);rw [e,Int.tdiv_eq_ediv_of_nonneg (by omega)];omega
   have E:-n.tmod 10=((n.natAbs % 10:Nat):Int):=by
    have e:=Int.tmod_def n 10;have O:=q;omega
   have C:wrap64 (-n.tdiv 10)=((n.natAbs / 10:Nat):Int):=by rw [q];unfold wrap64;omega
   have B:wrap64 (-n.tmod 10)=((n.natAbs % 10:Nat):Int):=by rw [E];unfold wrap64;omega
   have t:Hx (∀ X,Ro 88 #[A J (wrap64 (-n.tdiv 10))] X (.string a)):=fun X=>by rw [C,f];exact ER _ (by omega) X
   have L:Hx (∀ X,Ro 88 #[A J (wrap64 (-n.tmod 10))] X (.string b)):=fun X=>by rw [B,l];exact ER _ (by omega) X
   have G:Lib.decDigits n.natAbs=Lib.decDigits (n.natAbs / 10)++Lib.decDigits (n.natAbs % 10):=by
    rw [Lib.decDigits_one (Nat.mod_lt _ (by omega)),Lib.decDigits,dif_neg (by omega)]
   have u:Hx ((⟨(45::Lib.decDigits n.natAbs).toArray⟩:ByteArray)=⟨#[45]⟩++a++b):=by show _=_;rw [G,f,l];have e:=Hq [45] (Lib.decDigits (n.natAbs / 10));rw [show (⟨#[45]⟩:ByteArray)=⟨[45].toArray⟩ from rfl,e,Hq];rfl
   have K:a.size<=21:=by rw [f];exact ES _ (by omega)
   have N:b.size<=21:=by rw [l];exact ES _ (by omega)
   have i:¬ 9223372036854775807 < 1+a.size:=by omega
   have y:¬ 9223372036854775807 < 1+a.size+b.size:=by omega
   clear r f l G q E C B F;go_enter Tryz.func88,Tryz.ntmps88;go_wp2_with fail;refine (t.o _).mono ?_;rintro e H ⟨rfl,c⟩;have g:=Aa c;clear c;go_wp2_with fail;refine (L.o _).mono ?_;rintro e M ⟨rfl,j⟩;have v:=Aa (Ab g.o j);clear j;go_wp2_with fail;go_ret;exact ⟨by rw [u.o];rfl,v.o⟩
 ·obtain ⟨m,rfl⟩:∃ m:Nat,n=(m:Int):=⟨n.toNat,by omega⟩
  rw [Lib.itoa_nonneg];exact ER m (by omega) w
def Hn (s:ByteArray) (i:Nat) (x:ByteArray):ByteArray:=(if 0 < i then s++⟨#[44,32]⟩ else s)++x
def F5:ByteArray->Nat->List ByteArray->ByteArray
 | s,_,[]=>s
 | s,i,x::l=>F5 (Hn s i x) (i+1) l
theorem Lj (s:ByteArray) (i:Nat) (x:ByteArray):(Hn s i x).size<=s.size+2+x.size:=by
 unfold Hn;split
 ·rw [ByteArray.size_append,ByteArray.size_append];exact Nat.le_refl _
 ·rw [ByteArray.size_append];omega
theorem MM (M:Nat) (ns:List ByteArray) (ao:Option Addr) (cap:Nat) (w:World) (h:LS 1 ZN w (O ao ns.length cap) ns) (hM:∀ x∈ns,x.size<=M) (hs:ns.length*(M+2)<=1000000000):Ro 45 #[O ao ns.length cap] w (.string (F5 ⟨#[]⟩ 0 ns)):=by
 obtain ⟨v,c⟩:=nm (F5 ⟨#[]⟩ 0 ns);rw [<-c];have S:=Aa c;have T:=Aa h;have R:=h.max;have Q:=Aa hM;obtain ⟨r,g⟩:=nm ns.length;rw [<-g] at R ⊢;have H:=Aa g;have P:=Aa hs;clear c h hM g hs;go_enter Tryz.func45,Tryz.ntmps45;go_wp2_with fail;go_loopw [3,4] (fun s i wr=>∃ (j:Nat) (x:ByteArray),j<=r/\i=A J j/\s=.string x/\F5 x j (ns.drop j)=v/\x.size<=j*(M+2)/\wr=w) (fun _ i _=>r - (intOf i).toNat)
 case atStart=>exact ⟨0,⟨#[]⟩,Nat.zero_le _,rfl,rfl,S.o.symm,Nat.zero_le _,rfl⟩
 case round=>
  obtain ⟨j,s,X,rfl,rfl,f,t,rfl⟩:=hrel;by_cases hjl:j < r
  ·have a:j < ns.length:=by have:=H.o;omega
   have C:(j:Int) < (r:Int):=by omega
   obtain ⟨b,q,rfl,cs,-,l,hr⟩:=T.o.at a;rw [List.drop_eq_getElem_cons a,F5] at f;have F:=Q.o ns[j] (List.getElem_mem _);have B:(j+1)*(M+2)<=1000000000:=by have Z:=P.o;have Y:(j+1)*(M+2)<=ns.length*(M+2):=Nat.mul_le_mul_right _ a;omega
   generalize ns[j]=x at f hr F;rw [hr.1] at l;have N:wr.cell? ⟨b,q+j,none⟩=some (.string x):=by have:=l 0 _ rfl;simpa using this
   have E:=Lj s j x;have K:(j+1)*(M+2)=j*(M+2)+M+2:=by rw [Nat.add_mul];omega
   have n:=Aa f;have y:Hx ((Hn s j x).size<=(j+1)*(M+2)):=by show _<=_;omega
   have W:¬ 9223372036854775807 < s.size+2:=by omega
   have V:¬ 9223372036854775807 < s.size+2+x.size:=by omega
   have U:¬ 9223372036854775807 < s.size+x.size:=by omega
   clear l hr f E K B t F a;by_cases hj0:j=0
   ·subst hj0
    have u:Hn s 0 x=s++x:=rfl;rw [u] at y n;have L:wr.cell? ⟨b,q,none⟩=some (.string x):=by simpa using N
    clear u;go_wp2_with fail;exact ⟨⟨1,_,by omega,by go_num,rfl,n.o,y.o,by trivial⟩,by simp [intOf];omega⟩
   ·have I:(0:Int) < (j:Int):=by omega
    have u:Hn s j x=s++⟨#[44,32]⟩++x:=by unfold Hn;rw [if_pos (by omega)]
    rw [u] at y n;clear u hj0;go_wp2_with fail;exact ⟨⟨j+1,_,by omega,by go_num,rfl,n.o,y.o,by trivial⟩,by simp [intOf];omega⟩
  ·have C:¬ (j:Int) < (r:Int):=by omega
   have G:ns.drop j=[]:=List.drop_eq_nil_of_le (by have:=H.o;omega);rw [G] at f;have n:Hx (s=v):=f;clear f G t;go_wp2_with fail;go_ret;exact ⟨by rw [<-n.o];rfl,Below.refl _ _⟩
theorem El (x a:List UInt8) (l:List (List UInt8)):Ax x (a::l)=a++(l.map (fun y=>x++y)).flatten:=by
 induction l generalizing a with
 | nil=>simp [Ax]
 | cons b l ih=>rw [Ax,ih b];simp
theorem GL (s:ByteArray) (i:Nat) (x:List UInt8):(Hn s i ⟨x.toArray⟩).data.toList=s.data.toList++(if 0 < i then [44,32] else [])++x:=by
 unfold Hn;split
 ·simp [ByteArray.data_append]
 ·simp [ByteArray.data_append]
theorem Lh (s:ByteArray) (i:Nat) (l:List (List UInt8)):(F5 s (i+1) (l.map (fun y=>(⟨y.toArray⟩:ByteArray)))).data.toList=s.data.toList++(l.map (fun y=>[44,32]++y)).flatten:=by
 induction l generalizing s i with
 | nil=>simp [F5]
 | cons a l ih=>
  rw [List.map_cons,F5,ih,GL,if_pos (Nat.succ_pos _)];simp
theorem Li (l:List (List UInt8)):F5 ⟨#[]⟩ 0 (l.map (fun y=>(⟨y.toArray⟩:ByteArray)))=⟨(Ax [44,32] l).toArray⟩:=by
 have h:(F5 ⟨#[]⟩ 0 (l.map (fun y=>(⟨y.toArray⟩:ByteArray)))).data.toList=Ax [44,32] l:=by
  cases l with
  | nil=>rfl
  | cons a l=>rw [List.map_cons,F5,Lh,GL,El];simp
 rw [<-h]
theorem Bh {w:World} {b:Nat} {o:Obj} (h:w.heap[b]? = some o):b < w.heap.size:=(Array.getElem?_eq_some_iff.1 h).1
theorem Oy (B b n:Nat) (w:World) (hB:B<=b) (hb:w.heap[b]? = some (zd #[zf (some ⟨b,0,none⟩),O none 0 0] 77 (0,0))) (hBw:B<=w.heap.size) (hn:n<=1000000) :
  Calls Tryz.prog 177 #[zf (some ⟨b,0,none⟩),A J (n:Int)] w fun e w'=>e=zg (zh #[])/\Lib.BuilderAt 77 5 B b (zf (some ⟨b,0,none⟩)) [] w'/\Below B w w':=by
 obtain ⟨cs,f,-,g⟩:=Lib.run_makeNoZero (P:=Tryz.prog) w.drew #[3] 75 5 Tryz.underlying75 n (by omega);have i:=Bh hb;have hw:IntKind.i64.wrap (IntKind.i64.wrap 0+(n:Int))=n:=by rw [IntKind.wrap_i64,IntKind.wrap_i64];omega
 have u:(callFunc 184 #[A J (IntKind.i64.wrap (IntKind.i64.wrap 0+(n:Int)))]).run Tryz.prog w.drew=.ok (.value (O (some ⟨w.drew.heap.size,0,none⟩) n cs.size)) (w.drew.drew.drew.alloc (.cells cs 5)):=by
  rw [hw,run_callFunc_extern Tryz.func184 (by kernel_rfl) (by kernel_rfl) (by kernel_rfl) (e:=Extern.BytealgMakeNoZero.makeNoZero #[3] #[75]) (by kernel_rfl),f];rfl
 have k1:w.drew.cell? ⟨b,1,none⟩=some (O none 0 0):=by rw [Lib.cell_of_heap (show w.drew.heap[b]? = _ from hb)];rfl
 have j:(w.alloc (.cells cs 5)).heap[b]? = some (zd #[zf (some ⟨b,0,none⟩),O none 0 0] 77 (0,0)):=(Lib.alloc_old w _ b i).trans hb;have k2:(w.alloc (.cells cs 5)).cell? ⟨b,1,none⟩=some (O none 0 0):=by rw [Lib.cell_of_heap j];rfl
 have E:(w.alloc (.cells cs 5)).frozen? ⟨b,1,none⟩=false:=Lib.frozen_of_heap j 1;obtain ⟨c,x,v⟩:∃ c,Tryz.prog.info? 5=some c/\c.size=1:=by
  obtain ⟨c,y,r,q,l⟩:=info_parts Tryz.info5;exact ⟨c,y,by first | exact r | exact q | exact l⟩
 have t:∀ W:World,(Builtin.copy_ #[75,75] 3 #[O (some ⟨w.heap.size,0,none⟩) 0 cs.size,O none 0 0]).run Tryz.prog W=.ok (goInt 0) W:=fun W=>
  run_copy_none W 75 75 3 5 _ _ 0 cs.size 0 0 Tryz.underlying75 (by kernel_rfl) rfl
 have a:=Lib.grown_fresh (T:=77) (e:=5) (cs:=cs) hB hb hBw (g (by unfold maxLen;omega)) (by decide);rw [World.setCell_alloc_past _ _ _ _ i] at a;have C:=Aa a;clear hw a;go_enter Tryz.func177,Tryz.ntmps177
 go_wp2
 go_region;all_goals (go_wp2;go_end0;exact ⟨rfl,C.o⟩)
theorem NZ (b:Nat) (v:Value) (w:World) (hb:w.heap[b]? = some (zd #[zf none,v] 77 (0,0))) :
  Calls Tryz.prog 121 #[zf (some ⟨b,0,none⟩)] w fun e w'=>e=zg (zh #[])/\w'=w.setCell ⟨b,0,none⟩ (zf (some ⟨b,0,none⟩)):=by
 obtain ⟨j,f,c⟩:=Option.map_eq_some_iff.1 Tryz.size48;have q:w.cell? ⟨b,0,none⟩=some (zf none):=by rw [Lib.cell_of_heap hb];rfl
 have n:w.frozen? ⟨b,0,none⟩=false:=Lib.frozen_of_heap hb 0;have a:w.shape? b=some (77,2):=by simp [World.shape?,hb]
 have i:=Lib.run_to_unsafe w ⟨b,0,none⟩ Tryz.underlying74 Tryz.underlying158 f (by rw [c];decide) a (Nat.zero_lt_succ 1);have l:=Tryz.run39;have g:=Lib.run_from_unsafe w ⟨b,0,none⟩ Tryz.underlying158 Tryz.underlying74 f a Tryz.lies48;clear hb c f a;go_enter Tryz.func121,Tryz.ntmps121
 go_wp2
 go_end0;exact ⟨rfl,rfl⟩
theorem OT (B b n:Nat) (w:World) (hB:B<=b) (hb:w.heap[b]? = some (zd #[zf none,O none 0 0] 77 (0,0))) (hBw:B<=w.heap.size) (hn:n<=1000000) :
  Calls Tryz.prog 172 #[zf (some ⟨b,0,none⟩),A J (n:Int)] w fun e w'=>e=zg (zh #[])/\Lib.BuilderAt 77 5 B b (zf (some ⟨b,0,none⟩)) [] w'/\Below B w w':=by
 have j:=Aa (NZ b _ w hb);obtain ⟨f,c⟩:=nm (w.setCell ⟨b,0,none⟩ (zf (some ⟨b,0,none⟩)));have g:f.heap[b]? = some (zd #[zf (some ⟨b,0,none⟩),O none 0 0] 77 (0,0)):=by rw [c];simp [World.setCell,Array.getElem?_modify,hb]
 have a:Below B w f:=by rw [c];exact (Below.refl B w).setCell (p:=⟨b,0,none⟩) hB _
 rw [<-c] at j;have l:=Aa a;have x:=Aa hBw;have k1:f.drew.cell? ⟨b,1,none⟩=some (O none 0 0):=by rw [Lib.cell_of_heap (show f.drew.heap[b]? = _ from g)];rfl
 have u:=Aa (Oy B b n f.drew hB g (Nat.le_trans hBw a.size) hn);have t:Hx (Lib.BuilderAt 77 5 B b (zf (some ⟨b,0,none⟩)) [] f.drew/\Below B w f.drew):=⟨⟨hB,_,g,World.ownsRow_nil _ _ _ _,by simp [Value.ownBlock]⟩,a.drew⟩;clear c g a hBw hb;by_cases hn0:(0:Int) < (n:Int)
 ·go_enter Tryz.func172,Tryz.ntmps172
  go_wp2_with fail;refine j.o.mono ?_;rintro e q ⟨rfl,rfl⟩;go_wp2_with fail;go_region;all_goals (
   go_wp2_with fail;refine u.o.mono ?_;rintro e v ⟨rfl,r,i⟩;go_wp2_with fail;go_end0;exact ⟨rfl,r,l.o.drew.trans i⟩)
 ·go_enter Tryz.func172,Tryz.ntmps172
  go_wp2_with fail;refine j.o.mono ?_;rintro e q ⟨rfl,rfl⟩;go_wp2_with fail;go_region;all_goals (go_wp2_with fail;go_end0;exact ⟨rfl,t.o⟩)
theorem Kw (ao:Option Addr) (c:Nat) (sep:ByteArray) (w:World):Ro 161 #[O ao 0 c,.string sep] w (.string ⟨#[]⟩):=by
 go_enter Tryz.func161,Tryz.ntmps161;go_wp2_with fail;go_ret;exact ⟨rfl,Below.refl _ _⟩
theorem Mw (b o c:Nat) (x sep:ByteArray) (w:World) (hc:w.cell? ⟨b,o,none⟩=some (.string x)):Ro 161 #[O (some ⟨b,o,none⟩) 1 c,.string sep] w (.string x):=by
 go_enter Tryz.func161,Tryz.ntmps161;go_wp2_with fail;go_ret;exact ⟨rfl,Below.refl _ _⟩
theorem Kx (bk o c:Nat) (x0:ByteArray) (r:List ByteArray) (sep:ByteArray) (w:World) (nn:Nat) (hnn:nn=(x0::r).length) (hcells:∀ (j:Nat) x,(x0::r)[j]? = some x->w.cell? ⟨bk,o+j,none⟩=some (.string x)) (h2:2<=nn) (hn:nn<=100) (hc:nn<=c) (hx:∀ x∈x0::r,x.size<=700) (hs0:0 < sep.size) (hs:sep.size<=8) :
  Ro 161 #[O (some ⟨bk,o,none⟩) nn c,.string sep] w (.string ⟨(Ax sep.data.toList ((x0::r).map (fun y=>y.data.toList))).toArray⟩):=by
 obtain ⟨P,b⟩:=nm (Ax sep.data.toList ((x0::r).map (fun y=>y.data.toList)));rw [<-b];rw [List.map_cons,El] at b;have HF:=Aa b;have HN:=Aa hnn;have HC:=Aa hcells;have HX:=Aa hx;have F:bk < w.heap.size:=World.block_lt_of_cell? w _ (hcells 0 x0 rfl);have S:=Aa F;have C:r.length=nn - 1:=by rw [hnn];simp
 have HR:=Aa C;obtain ⟨M,hM⟩:∃ M:Nat,M=sep.size*(nn - 1):=⟨_,rfl⟩;have a9:M<=800:=by rw [hM];exact Nat.le_trans (Nat.mul_le_mul hs (show nn - 1<=100 by omega)) (by decide)
 have a:((nn:Int) - 1)=((nn - 1:Nat):Int):=by omega
 have Z:wrap64 ((sep.size:Int)*((nn:Int) - 1))=(M:Int):=by
  have e:(sep.size:Int)*((nn - 1:Nat):Int)=((sep.size*(nn - 1):Nat):Int):=IntWalk.up_mul rfl rfl;rw [a,e,<-hM];exact IntWalk.wrap64_in _ ⟨by omega,by omega⟩
 have a8:¬ (9223372036854775807 / ((nn:Int) - 1)<=(sep.size:Int)):=by
  have e:(9223372036854775807:Int) / ((nn - 1:Nat):Int)=((9223372036854775807 / (nn - 1):Nat):Int):=IntWalk.up_div (x:=9223372036854775807) rfl rfl;rw [a,e];have hq:9223372036854775807 / 100<=9223372036854775807 / (nn - 1):=Nat.div_le_div_left (by omega) (by omega);generalize 9223372036854775807 / (nn - 1)=q at hq ⊢;omega
 have a5:¬ (nn:Int)=0:=by omega
 have a4:¬ (nn:Int)=1:=by omega
 have a7:(0:Int) < (sep.size:Int):=by omega
 clear b hnn hcells hx F C hM a;go_enter Tryz.func161,Tryz.ntmps161;go_wp2_with fail
 go_loop [5,41] (fun n i=>∃ (k N:Nat),k<=nn/\i=A J k/\n=A J N/\N<=800+k*700) (fun _ i=>nn - (intOf i).toNat)
 case atStart=>exact ⟨0,M,Nat.zero_le _,rfl,rfl,by omega⟩
 case round=>
  obtain ⟨k,N,hk,rfl,rfl,hN⟩:=hrel;by_cases hkn:k < nn
  ·have t:k < (x0::r).length:=by have:=HN.o;omega
   have ac:=HC.o k _ (List.getElem?_eq_getElem t);have Y:=HX.o _ (List.getElem_mem t);generalize (x0::r)[k]=x at ac Y;have aa:(k:Int) < (nn:Int):=by omega
   have hg:¬ (9223372036854775807:Int) - (N:Int) < (x.size:Int):=by omega
   clear t;go_wp2_with fail;exact ⟨⟨k+1,N+x.size,by omega,by go_num,by go_num,by omega⟩,by simp [intOf];omega⟩
  ·have aa:¬ (k:Int) < (nn:Int):=by omega
   have v:Below w.heap.size w (w.alloc (zd #[zf none,O none 0 0] 77)):=(Below.refl _ w).alloc (Nat.le_refl _) _;have L:(w.alloc (zd #[zf none,O none 0 0] 77)).heap[w.heap.size]? = some (zd #[zf none,O none 0 0] 77 (0,0)):=heap_alloc_new w _;have KG:=Aa (OT w.heap.size w.heap.size N _ (Nat.le_refl _) L v.size (by omega));have U:=Aa v;clear L v;go_wp2_with fail;refine KG.o.mono ?_;rintro e V ⟨rfl,h1,K⟩;have g:Hx (Below w.heap.size w V):=U.o.trans K;have H1:Hx (Lib.IsBuilder 77 5 w.heap.size w.heap.size [] V):=Or.inr h1;have c0:V.cell? ⟨bk,o,none⟩=some (.string x0):=by
    have:=HC.o 0 x0 rfl;rw [g.o.cell (p:=⟨bk,o,none⟩) S.o];exact this
   have a2:=HX.o x0 (by simp);have KW:=Aa (DR w.heap.size w.heap.size [] x0 V H1.o (by simp) (by omega) g.o.size);clear h1 K KG U;go_wp2_with fail;refine KW.o.mono ?_;rintro e w2 ⟨rfl,B,I,-⟩;rw [List.nil_append,Lib.strCells_eq] at B;have am:Hx (Below w.heap.size w w2):=g.o.trans I;have H2:Hx (Lib.IsBuilder 77 5 w.heap.size w.heap.size (Lib.byteCells x0.data.toList) w2):=Or.inr B;clear B I KW c0 H1 g;go_wp2_with fail;go_loopw [65] (fun i wr=>∃ (j:Nat) (z:List UInt8),j<=nn - 1/\i=A J j/\z++((r.drop j).map (fun y=>sep.data.toList++y.data.toList)).flatten=P/\z.length<=700+j*708/\Hx (Lib.IsBuilder 77 5 w.heap.size w.heap.size (Lib.byteCells z) wr)/\Hx (Below w.heap.size w wr)) (fun i _=>nn - 1 - (intOf i).toNat)
   case atStart=>
    refine ⟨0,x0.data.toList,Nat.zero_le _,rfl,?_,?_,H2,am⟩
    ·rw [List.drop_zero,HF.o,List.map_map];rfl
    ·have e:x0.data.toList.length=x0.size:=rfl
     omega
   case round=>
    obtain ⟨j,z,hj,rfl,l,a1,Q,R⟩:=hrel;by_cases hjr:j < nn - 1
    ·have f:j < r.length:=by have:=HR.o;omega
     have u:=HC.o (j+1) _ (by rw [List.getElem?_cons_succ];exact List.getElem?_eq_getElem f);have X:=HX.o r[j] (by simp);rw [List.drop_eq_getElem_cons f,List.map_cons,List.flatten_cons] at l;generalize r[j]=y at u X l;have d0:wr.cell? ⟨bk,o+1+j,none⟩=some (.string y):=by
      rw [R.o.cell (p:=⟨bk,o+1+j,none⟩) S.o,show o+1+j=o+(j+1) by omega];exact u
     have ab:(j:Int) < (nn:Int) - 1:=by omega
     have E:(j:Int) < ((nn - 1:Nat):Int):=by omega
     have ad:(Lib.byteCells z).length=z.length:=Lib.byteCells_length z;have W:=Aa (DR w.heap.size w.heap.size (Lib.byteCells z) sep wr Q.o (by omega) (by omega) R.o.size);have ah:=Aa l;clear u l f Q;go_wp2_with fail;refine W.o.mono ?_;rintro e w3 ⟨rfl,h3,H,-⟩;have T:Hx (Below w.heap.size w w3):=R.o.trans H;have a6:(Lib.byteCells z++Lib.strCells sep).length=z.length+sep.size:=by rw [List.length_append,ad,Lib.strCells_length]
     have K2:=Aa (DR w.heap.size w.heap.size (Lib.byteCells z++Lib.strCells sep) y w3 (Or.inr h3) (by omega) (by omega) T.o.size);clear h3 H W;go_wp2_with fail;refine K2.o.mono ?_;rintro e w4 ⟨rfl,h4,G,-⟩;rw [Lib.strCells_eq,Lib.strCells_eq,<-Lib.byteCells_append,<-Lib.byteCells_append] at h4;have al:Hx (Below w.heap.size w w4):=T.o.trans G;have H4:Hx (Lib.IsBuilder 77 5 w.heap.size w.heap.size (Lib.byteCells (z++sep.data.toList++y.data.toList)) w4):=Or.inr h4;clear h4 G K2 d0;go_wp2_with fail;refine ⟨⟨j+1,z++sep.data.toList++y.data.toList,by omega,by go_num,?_,?_,H4,al⟩,by simp [intOf];omega⟩
     ·rw [<-ah.o];simp
     ·have e1:sep.data.toList.length=sep.size:=rfl
      have e2:y.data.toList.length=y.size:=rfl;simp only [List.length_append];omega
    ·have hd:r.drop j=[]:=List.drop_eq_nil_of_le (by have:=HR.o;omega)
     rw [hd,List.map_nil,List.flatten_nil,List.append_nil] at l;have ab:¬ (j:Int) < (nn:Int) - 1:=by omega
     have E:¬ (j:Int) < ((nn - 1:Nat):Int):=by omega
     rw [l] at Q;have W:=Aa (Tryz.Builder_String_any w.heap.size w.heap.size P wr Q.o R.o.size);clear l hd Q;go_wp2_with fail;refine W.o.mono ?_;rintro e w5 ⟨rfl,ae⟩;have ak:Hx (Below w.heap.size w w5):=R.o.trans ae;go_wp2_with fail;go_ret;exact ⟨rfl,ak.o⟩
theorem Jf (xs:List ByteArray) (sep:ByteArray) (ao:Option Addr) (nn cap:Nat) (w:World) (hnn:nn=xs.length) (h:LS 1 ZN w (O ao nn cap) xs) (hn:nn<=100) (hc:nn<=cap) (hx:∀ x∈xs,x.size<=700) (hs0:0 < sep.size) (hs:sep.size<=8) :
  Ro 161 #[O ao nn cap,.string sep] w (.string ⟨(Ax sep.data.toList (xs.map (fun y=>y.data.toList))).toArray⟩):=by
 subst hnn
 match xs,h,hn,hc,hx with
 | [],_,_,_,_=>exact Kw ao cap sep w
 | [x],h,_,_,_=>
  obtain ⟨b,c,e,q,-,a,hr⟩:=h.at (j:=0) (by simp);rw [hr.1] at a;have n:w.cell? ⟨b,c,none⟩=some (.string x):=by have:=a 0 _ rfl;simpa using this
  rw [e];exact Mw b c cap x sep w n
 | x::y::r,h,hn,hc,hx=>
  obtain ⟨b,c,e,-⟩:=h.at (j:=0) (by simp);rw [e] at h ⊢;refine Kx b c cap x (y::r) sep w _ rfl (fun j u f=>?_) (by simp) hn hc hx hs0 hs;have i:j < (x::y::r).length:=(List.getElem?_eq_some_iff.1 f).1;obtain ⟨t,g,l,q,-,a,hr⟩:=h.at (j:=j) i;simp only [Option.some.injEq,Addr.mk.injEq] at l;obtain ⟨rfl,rfl,-⟩:=l;rw [hr.1] at a;have:=a 0 _ rfl;rw [List.getElem?_eq_getElem i] at f;simp only [Option.some.injEq] at f;rw [f] at this;simpa using this
theorem N7:(Tryz.prog.info? 9).map (fun i=>(i.zero,i.size,i.bytes))=some (some (.string ⟨#[]⟩),1,16):=by kernel_rfl
def Fq (ys:List ByteArray) (m:Nat):Array Value:=(ys.map Value.string++List.replicate m (Value.string ⟨#[]⟩)).toArray
theorem Mq (n:Nat) (hn:n<=1000) (w:World):(Instr.makeSlice 46 (A J n) (A J n)).run Tryz.prog w=.ok (O (some ⟨w.heap.size,0,none⟩) n n) (w.alloc (.cells (Fq [] n) 9)):=by
 obtain ⟨i,f,c,b,a⟩:=info_parts N7;have:=run_make (P:=Tryz.prog) w 46 9 i (.string ⟨#[]⟩) Tryz.underlying46 f c J J (n:Int) (n:Int) (by omega) (by omega) (by rw [a];omega) (by omega);rw [this,b];simp only [Int.toNat_natCast,Nat.mul_one];have e:madeCells (Value.string ⟨#[]⟩).cells n=Fq [] n:=by
  unfold Fq;apply Array.ext
  ·simp [madeCells]
  ·intro j b a
   simp [madeCells,Value.cells,Nat.mod_one]
 rw [e]
def Cr (g:Nat) (ys:List ByteArray) (m:Nat) (W:World):Prop:=W.heap[g]? = some (.cells (Fq ys m) 9 (0,0))
theorem Cr.over {g m:Nat} {ys:List ByteArray} {W W':World} (h:Cr g ys m W) (hb:Ov W W'):Cr g ys m W':=by
 unfold Cr;rw [hb.block g (Bh h)];exact h
theorem Cr.frozen {g m:Nat} {ys:List ByteArray} {W:World} (h:Cr g ys m W) (j:Nat):W.frozen? ⟨g,j,none⟩=false:=Lib.frozen_of_heap h j
theorem Cr.next {g m:Nat} {ys:List ByteArray} {W:World} (h:Cr g ys (m+1) W):W.cell? ⟨g,ys.length,none⟩=some (.string ⟨#[]⟩):=by
 rw [Lib.cell_of_heap h];simp [Fq]
theorem Cr.put {g m:Nat} {ys:List ByteArray} {W:World} (h:Cr g ys (m+1) W) (y:ByteArray):Cr g (ys++[y]) m (W.setCell ⟨g,ys.length,none⟩ (.string y)):=by
 unfold Cr at h ⊢;have e:(Fq ys (m+1)).setIfInBounds ys.length (.string y)=Fq (ys++[y]) m:=by
  unfold Fq;apply Array.ext';simp [List.replicate_succ,List.set_append_right]
 simp [World.setCell,Array.getElem?_modify,h,e]
theorem Cr.ls {g:Nat} {ys:List ByteArray} {W:World} (h:Cr g ys 0 W) (hn:ys.length<=100) (hy:∀ y∈ys,y.size<=700):LS 1 ZN W (O (some ⟨g,0,none⟩) ys.length ys.length) ys:=by
 refine ⟨by unfold maxLen;omega,some ⟨g,0,none⟩,ys.length,rfl,fun f=>⟨g,0,rfl,Fz0.new h,fun i a c=>⟨[.string a],rfl,fun j u b=>?_,rfl,?_⟩⟩⟩
 ·match j,b with
  | 0,b=>
   simp only [List.getElem?_cons_zero,Option.some.injEq] at b;rw [<-b,show 0+i*1+0=i by omega,Lib.cell_of_heap h];simp [Fq,c]
  | j+1,b=>simp at b
 ·have:=hy a (List.mem_of_getElem? c)
  unfold maxLen;omega
theorem Cx {α:Type} (l:List α) (j:Nat) (h:j < l.length):l.take (j+1)=l.take j++[l[j]]:=by
 rw [List.take_add_one,List.getElem?_eq_getElem h];rfl
theorem Ju  (F:FuncId) (hC:∀ (args:Array Value) (w:World),(callFunc F args).run Tryz.prog w=.ok (.enter F args) w) (f:ByteArray->ByteArray) (l:List ByteArray) (sep:ByteArray) (ao:Option Addr) (nn cap:Nat) (w:World) (hnn:nn=l.length) (hc:LS 1 (ZN) w (O ao nn cap) l) (hn:nn<=100) (hf:∀ d∈l,(f d).size<=700) (hs0:0 < sep.size) (hs:sep.size<=8) (KF:Hx (∀ x∈l,∀ X,Ov w X->Ro F #[.string x] X (.string (f x)))) :
  Ro 162 #[O ao nn cap,.string sep,.func (.func F) #[] #[]] w (.string ⟨(Ax sep.data.toList (l.map (fun d=>(f d).data.toList))).toArray⟩):=by
 have HC:=Aa hc;have P:=Aa hf;obtain ⟨ad,v⟩:=nm (⟨(Ax sep.data.toList (l.map (fun d=>(f d).data.toList))).toArray⟩:ByteArray);rw [<-v];have Q:=Aa v;have HN:=Aa hnn;have Z:=Mq nn (by omega);obtain ⟨V,T⟩:=nm (w.alloc (.cells (Fq [] nn) 9));obtain ⟨g,S⟩:=nm w.heap.size;have HG:=Aa S;have ai:Hx (Below w.heap.size w V):=by show Below _ _ _;rw [T];exact bA _ _
 have ae:Hx (Cr g [] nn V):=by show Cr _ _ _ _;rw [T,S];exact heap_alloc_new w _
 clear hc hf v hnn;go_enter Tryz.func162,Tryz.ntmps162;go_wp2_with fail;rw [<-T,<-S];clear T S Z;go_loopw [15] (fun i wr=>∃ (j:Nat),j<=nn/\i=A J j/\Hx (Cr g ((l.take j).map f) (nn - j) wr)/\Hx (Below w.heap.size w wr)) (fun i _=>nn - (intOf i).toNat)
 case atStart=>exact ⟨0,Nat.zero_le _,rfl,ae,ai⟩
 case round=>
  obtain ⟨j,hj,rfl,W,R⟩:=hrel;by_cases hjl:j < nn
  ·have a:j < l.length:=by have:=HN.o;omega
   obtain ⟨b,Y,rfl,cs,aa,I,hr⟩:=HC.o.at a;have r:=List.getElem_mem a;have n:(l.take (j+1)).map f=(l.take j).map f++[f l[j]]:=by rw [Cx l j a,List.map_append];rfl
   have G:((l.take j).map f).length=j:=by simp;omega
   obtain ⟨U,M⟩:=nm l[j];rw [<-M] at hr r n;obtain ⟨y,E⟩:=nm (f U);rw [<-E] at n;have hB:=R.o;rw [hr.1] at I;have KC:Hx (∀ X,Ov w X->Ro F #[.string U] X (.string y)):=fun X hX=>by rw [E];exact KF.o U r X hX
   have d0:wr.cell? ⟨b,Y+j,none⟩=some (.string U):=by have:=ce1 hB (I 0 _ rfl);simpa using this
   obtain ⟨pre,q⟩:=nm ((l.take j).map f);rw [<-q] at n G;have N:Hx (Cr g pre (nn - (j+1)+1) wr):=by have:=W.o;rw [<-q,show nn - j=nn - (j+1)+1 by omega] at this;exact this
   have HT:=Aa n;have HL:=Aa G;have ab:(j:Int) < (nn:Int):=by omega
   clear I aa hr hB a E M r W n q G;go_wp2_with fail;refine (KC.o _ R.o).mono ?_;rintro e C ⟨rfl,c⟩;have L:Hx (Below w.heap.size w C):=Ab R.o c;have B:=Aa (N.o.over c);have k1:C.cell? ⟨g,j,none⟩=some (.string ⟨#[]⟩):=by have:=B.o.next;rw [HL.o] at this;exact this
   have g1:C.frozen? ⟨g,j,none⟩=false:=B.o.frozen j;have af:Hx (Cr g ((l.take (j+1)).map f) (nn - (j+1)) (C.setCell ⟨g,j,none⟩ (.string y))):=by
    have:=B.o.put y;rw [HL.o] at this;rw [HT.o];exact this
   have aj:Hx (Below w.heap.size w (C.setCell ⟨g,j,none⟩ (.string y))):=L.o.setCell (p:=⟨g,j,none⟩) (Nat.le_of_eq HG.o.symm) _;clear c KC B HT HL R N d0;go_wp2_with fail;exact ⟨⟨j+1,by omega,by go_num,af,aj⟩,by simp [intOf];omega⟩
  ·have ab:¬ (j:Int) < (nn:Int):=by omega
   have u:(l.take j).map f=l.map f:=by rw [List.take_of_length_le (by have:=HN.o;omega)]
   have hr:=W.o;rw [u,show nn - j=0 by omega] at hr;have t:nn=(l.map f).length:=by rw [List.length_map];exact HN.o
   have H:=hr.ls (by omega) (fun y E=>by obtain ⟨d,hd,rfl⟩:=List.mem_map.1 E;exact P.o d hd);rw [<-t] at H;have K:=Jf (l.map f) sep _ nn nn wr t H hn (Nat.le_refl _) (fun y E=>by obtain ⟨d,hd,rfl⟩:=List.mem_map.1 E;exact P.o d hd) hs0 hs;rw [List.map_map] at K;have KJ:Hx (Ro 161 #[O (some ⟨g,0,none⟩) nn nn,.string sep] wr (.string ad)):=by rw [Q.o];exact K
   clear u hr t H K W;go_wp2_with fail;refine KJ.o.mono ?_;rintro e C ⟨rfl,c⟩;have L:Hx (Below w.heap.size w C):=Ab R.o c;clear c KJ;go_wp2_with fail;go_ret;exact ⟨rfl,L.o⟩
theorem F8 {k:Nat} (F:FuncId) (hC:∀ (args:Array Value) (w:World),(callFunc F args).run Tryz.prog w=.ok (.enter F args) w) (f:D->ByteArray) (l:List D) (sep:ByteArray) (ao:Option Addr) (nn cap:Nat) (w:World) (hnn:nn=l.length) (hc:LS 5 (ZE w k) w (O ao nn cap) l) (hn:nn<=100) (hf:∀ d∈l,(f d).size<=700) (hs0:0 < sep.size) (hs:sep.size<=8) (KF:Hx (∀ d∈l,∀ cs X,Ov w X->ZE X k cs d->Ro F #[.agg cs.toArray] X (.string (f d)))) :
  Ro 150 #[O ao nn cap,.string sep,.func (.func F) #[] #[]] w (.string ⟨(Ax sep.data.toList (l.map (fun d=>(f d).data.toList))).toArray⟩):=by
 have HC:=Aa hc;have P:=Aa hf;obtain ⟨ac,x⟩:=nm (⟨(Ax sep.data.toList (l.map (fun d=>(f d).data.toList))).toArray⟩:ByteArray);rw [<-x];have Q:=Aa x;have HN:=Aa hnn;have Y:=Mq nn (by omega);obtain ⟨V,T⟩:=nm (w.alloc (.cells (Fq [] nn) 9));obtain ⟨g,S⟩:=nm w.heap.size;have HG:=Aa S;have ak:Hx (Below w.heap.size w V):=by show Below _ _ _;rw [T];exact bA _ _
 have ag:Hx (Cr g [] nn V):=by show Cr _ _ _ _;rw [T,S];exact heap_alloc_new w _
 clear hc hf x hnn;go_enter Tryz.func150,Tryz.ntmps150;go_wp2_with fail;rw [<-T,<-S];clear T S Y;go_loopw [15] (fun i wr=>∃ (j:Nat),j<=nn/\i=A J j/\Hx (Cr g ((l.take j).map f) (nn - j) wr)/\Hx (Below w.heap.size w wr)) (fun i _=>nn - (intOf i).toNat)
 case atStart=>exact ⟨0,Nat.zero_le _,rfl,ag,ak⟩
 case round=>
  obtain ⟨j,hj,rfl,U,R⟩:=hrel;by_cases hjl:j < nn
  ·have a:j < l.length:=by have:=HN.o;omega
   obtain ⟨b,W,rfl,cs,Z,c,hr⟩:=HC.o.at a;have t:=List.getElem_mem a;have q:(l.take (j+1)).map f=(l.take j).map f++[f l[j]]:=by rw [Cx l j a,List.map_append];rfl
   have G:((l.take j).map f).length=j:=by simp;omega
   obtain ⟨dj,M⟩:=nm l[j];rw [<-M] at hr t q;obtain ⟨y,E⟩:=nm (f dj);rw [<-E] at q;have L:=R.o;obtain ⟨c0,c1,c2,c3,af,ad,ae,rfl⟩:=hr.cells;have KC:Hx (∀ X,Ov w X->Ro F #[ze #[A J c0,A J c1,A J c2,.string c3,O af ad ae]] X (.string y)):=fun X hX=>by rw [E];exact KF.o dj t _ X hX (hr.over hX)
   have d0:wr.cell? ⟨b,W+j*5,none⟩=_:=ce1 L (c 0 _ rfl);have d1:=ce1 L (c 1 _ rfl);have d2:=ce1 L (c 2 _ rfl);have d3:=ce1 L (c 3 _ rfl);have d4:=ce1 L (c 4 _ rfl);obtain ⟨pre,r⟩:=nm ((l.take j).map f);rw [<-r] at q G;have N:Hx (Cr g pre (nn - (j+1)+1) wr):=by have:=U.o;rw [<-r,show nn - j=nn - (j+1)+1 by omega] at this;exact this
   have HT:=Aa q;have HL:=Aa G;have aa:(j:Int) < (nn:Int):=by omega
   clear c Z hr L a E M t U q r G;go_wp2_with fail;refine (KC.o _ (Ab R.o (bA _ _))).mono ?_;rintro e C ⟨rfl,n⟩;have K:Hx (Below w.heap.size w C):=Ab R.o (Ab (bA _ _) n);have B:=Aa (N.o.over (Ab (bA _ _) n));have k1:C.cell? ⟨g,j,none⟩=some (.string ⟨#[]⟩):=by have:=B.o.next;rw [HL.o] at this;exact this
   have g1:C.frozen? ⟨g,j,none⟩=false:=B.o.frozen j;have ah:Hx (Cr g ((l.take (j+1)).map f) (nn - (j+1)) (C.setCell ⟨g,j,none⟩ (.string y))):=by
    have:=B.o.put y;rw [HL.o] at this;rw [HT.o];exact this
   have al:Hx (Below w.heap.size w (C.setCell ⟨g,j,none⟩ (.string y))):=K.o.setCell (p:=⟨g,j,none⟩) (Nat.le_of_eq HG.o.symm) _;clear n KC B HT HL R N d0 d1 d2 d3 d4;go_wp2_with fail;exact ⟨⟨j+1,by omega,by go_num,ah,al⟩,by simp [intOf];omega⟩
  ·have aa:¬ (j:Int) < (nn:Int):=by omega
   have v:(l.take j).map f=l.map f:=by rw [List.take_of_length_le (by have:=HN.o;omega)]
   have hr:=U.o;rw [v,show nn - j=0 by omega] at hr;have u:nn=(l.map f).length:=by rw [List.length_map];exact HN.o
   have H:=hr.ls (by omega) (fun y E=>by obtain ⟨d,hd,rfl⟩:=List.mem_map.1 E;exact P.o d hd);rw [<-u] at H;have I:=Jf (l.map f) sep _ nn nn wr u H hn (Nat.le_refl _) (fun y E=>by obtain ⟨d,hd,rfl⟩:=List.mem_map.1 E;exact P.o d hd) hs0 hs;rw [List.map_map] at I;have KJ:Hx (Ro 161 #[O (some ⟨g,0,none⟩) nn nn,.string sep] wr (.string ac)):=by rw [Q.o];exact I
   clear v hr u H I U;go_wp2_with fail;refine KJ.o.mono ?_;rintro e C ⟨rfl,n⟩;have K:Hx (Below w.heap.size w C):=Ab R.o n;clear n KJ;go_wp2_with fail;go_ret;exact ⟨rfl,K.o⟩
theorem Jv  (F:FuncId) (hC:∀ (args:Array Value) (w:World),(callFunc F args).run Tryz.prog w=.ok (.enter F args) w) (f:D->ByteArray) (l:List D) (sep:ByteArray) (ao:Option Addr) (nn cap:Nat) (w:World) (hnn:nn=l.length) (hc:LS 4 (ZP w) w (O ao nn cap) l) (hn:nn<=100) (hf:∀ d∈l,(f d).size<=700) (hs0:0 < sep.size) (hs:sep.size<=8) (KF:Hx (∀ d∈l,∀ cs X,Ov w X->ZP X cs d->Ro F #[.agg cs.toArray] X (.string (f d)))) :
  Ro 146 #[O ao nn cap,.string sep,.func (.func F) #[] #[]] w (.string ⟨(Ax sep.data.toList (l.map (fun d=>(f d).data.toList))).toArray⟩):=by
 have HC:=Aa hc;have P:=Aa hf;obtain ⟨ac,v⟩:=nm (⟨(Ax sep.data.toList (l.map (fun d=>(f d).data.toList))).toArray⟩:ByteArray);rw [<-v];have Q:=Aa v;have HN:=Aa hnn;have Y:=Mq nn (by omega);obtain ⟨V,T⟩:=nm (w.alloc (.cells (Fq [] nn) 9));obtain ⟨g,S⟩:=nm w.heap.size;have HG:=Aa S;have ak:Hx (Below w.heap.size w V):=by show Below _ _ _;rw [T];exact bA _ _
 have ag:Hx (Cr g [] nn V):=by show Cr _ _ _ _;rw [T,S];exact heap_alloc_new w _
 clear hc hf v hnn;go_enter Tryz.func146,Tryz.ntmps146;go_wp2_with fail;rw [<-T,<-S];clear T S Y;go_loopw [15] (fun i wr=>∃ (j:Nat),j<=nn/\i=A J j/\Hx (Cr g ((l.take j).map f) (nn - j) wr)/\Hx (Below w.heap.size w wr)) (fun i _=>nn - (intOf i).toNat)
 case atStart=>exact ⟨0,Nat.zero_le _,rfl,ag,ak⟩
 case round=>
  obtain ⟨j,hj,rfl,U,R⟩:=hrel;by_cases hjl:j < nn
  ·have a:j < l.length:=by have:=HN.o;omega
   obtain ⟨b,W,rfl,cs,Z,x,hr⟩:=HC.o.at a;have r:=List.getElem_mem a;have n:(l.take (j+1)).map f=(l.take j).map f++[f l[j]]:=by rw [Cx l j a,List.map_append];rfl
   have G:((l.take j).map f).length=j:=by simp;omega
   obtain ⟨dj,L⟩:=nm l[j];rw [<-L] at hr r n;obtain ⟨y,E⟩:=nm (f dj);rw [<-E] at n;have M:=R.o;obtain ⟨c0,c1,c2,af,ad,ae,rfl⟩:=hr.cells;have KC:Hx (∀ X,Ov w X->Ro F #[ze #[A J c0,.string c1,zc c2,O af ad ae]] X (.string y)):=fun X hX=>by rw [E];exact KF.o dj r _ X hX (hr.over hX)
   have d0:wr.cell? ⟨b,W+j*4,none⟩=_:=ce1 M (x 0 _ rfl);have d1:=ce1 M (x 1 _ rfl);have d2:=ce1 M (x 2 _ rfl);have d3:=ce1 M (x 3 _ rfl);obtain ⟨pre,q⟩:=nm ((l.take j).map f);rw [<-q] at n G;have N:Hx (Cr g pre (nn - (j+1)+1) wr):=by have:=U.o;rw [<-q,show nn - j=nn - (j+1)+1 by omega] at this;exact this
   have HT:=Aa n;have HL:=Aa G;have aa:(j:Int) < (nn:Int):=by omega
   clear x Z hr M a E L r U n q G;go_wp2_with fail;refine (KC.o _ (Ab R.o (bA _ _))).mono ?_;rintro e C ⟨rfl,c⟩;have K:Hx (Below w.heap.size w C):=Ab R.o (Ab (bA _ _) c);have B:=Aa (N.o.over (Ab (bA _ _) c));have k1:C.cell? ⟨g,j,none⟩=some (.string ⟨#[]⟩):=by have:=B.o.next;rw [HL.o] at this;exact this
   have g1:C.frozen? ⟨g,j,none⟩=false:=B.o.frozen j;have ah:Hx (Cr g ((l.take (j+1)).map f) (nn - (j+1)) (C.setCell ⟨g,j,none⟩ (.string y))):=by
    have:=B.o.put y;rw [HL.o] at this;rw [HT.o];exact this
   have al:Hx (Below w.heap.size w (C.setCell ⟨g,j,none⟩ (.string y))):=K.o.setCell (p:=⟨g,j,none⟩) (Nat.le_of_eq HG.o.symm) _;clear c KC B HT HL R N d0 d1 d2 d3;go_wp2_with fail;exact ⟨⟨j+1,by omega,by go_num,ah,al⟩,by simp [intOf];omega⟩
  ·have aa:¬ (j:Int) < (nn:Int):=by omega
   have u:(l.take j).map f=l.map f:=by rw [List.take_of_length_le (by have:=HN.o;omega)]
   have hr:=U.o;rw [u,show nn - j=0 by omega] at hr;have t:nn=(l.map f).length:=by rw [List.length_map];exact HN.o
   have H:=hr.ls (by omega) (fun y E=>by obtain ⟨d,hd,rfl⟩:=List.mem_map.1 E;exact P.o d hd);rw [<-t] at H;have I:=Jf (l.map f) sep _ nn nn wr t H hn (Nat.le_refl _) (fun y E=>by obtain ⟨d,hd,rfl⟩:=List.mem_map.1 E;exact P.o d hd) hs0 hs;rw [List.map_map] at I;have KJ:Hx (Ro 161 #[O (some ⟨g,0,none⟩) nn nn,.string sep] wr (.string ac)):=by rw [Q.o];exact I
   clear u hr t H I U;go_wp2_with fail;refine KJ.o.mono ?_;rintro e C ⟨rfl,c⟩;have K:Hx (Below w.heap.size w C):=Ab R.o c;clear c KJ;go_wp2_with fail;go_ret;exact ⟨rfl,K.o⟩
end Go.Proofs.YtipngnjffjajpaaGreatDoor.Tx
