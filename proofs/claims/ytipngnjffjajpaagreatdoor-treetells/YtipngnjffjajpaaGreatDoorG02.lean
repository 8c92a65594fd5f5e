/- What token.scan defers: a panic of a place is recovered, and its place and reason are laid into the results. -/
import Derived.Test.YtipngnjffjajpaaGreatDoorG01
import Derived.Defers
import Derived.Recover
import Derived.Lib.AppendStr
import Derived.Lib.Builder
import Derived.Laws.Externs
import Derived.Deep.QuietTactic
import Derived.BigQuiet
namespace Go.Proofs.YtipngnjffjajpaaGreatDoor
open Go.RowKit
set_option linter.unusedVariables false
set_option maxHeartbeats 1000000 in
theorem catch_idle (p q r : Addr) (w : World) :
    CallsD Tryz.prog 80 #[.pointer (some p),.pointer (some q),.pointer (some r)] .returning w fun e u' w' => e = .returned (.tuple #[])∧u' = .returning∧w' = w:=by
  refine callsD_of_wpS Tryz.func80 rfl fun c₀ cs hu => ?_
  apply wpS_seq
  apply wpS_region
  simp [wpOpsS,go_sem,recoverD,hu,Tryz.ntmps80,Exit.thenS]
  refine wpS_of_wp ?_
  change Code.wp Tryz.prog _ _ { tmps:=#[.pointer (some p),.pointer (some q),.pointer (some r),.nilIface,undef,.nilIface,undef,undef,undef,undef,undef,undef,undef,undef],defers:=[] } w
  go_wp2
  cases c₀
  simp_all [bodyPostS,results,Tryz.results80]
theorem assert41 (v : Value) (w : World) : (Instr.typeAssert (.iface 116 v) 20 116 false).run Tryz.prog w = .ok v w:=by
  simp [Instr.typeAssert,run_underlying Tryz.underlying116,go_sem,Result.andThen]
set_option maxHeartbeats 1000000 in
theorem catch_place (B : Nat) (x : Value) (m n a e : Int) (older : List PanicEntry) (w : World) (hB : B + 3≤w.heap.size)
    (c0 : w.cell? ⟨B,0,none⟩ = some x) (c1 : w.cell? ⟨B + 1,0,none⟩ = some (.int .i64 m)) (c2 : w.cell? ⟨B + 1 + 1,0,none⟩ = some (.int .i64 n))
    (f0 : w.frozen? ⟨B,0,none⟩ = false) (f1 : w.frozen? ⟨B + 1,0,none⟩ = false) (f2 : w.frozen? ⟨B + 1 + 1,0,none⟩ = false) :
    CallsD Tryz.prog 80 #[.pointer (some ⟨B,0,none⟩),.pointer (some ⟨B + 1,0,none⟩),.pointer (some ⟨B + 1 + 1,0,none⟩)] (.panicking ({ v:=.iface 116 (.agg #[.int .i64 a,.int .i64 e]),recovered:=false } :: older)) w fun en u' w' =>
      en = .returned (.tuple #[])∧u' = .panicking ({ v:=.iface 116 (.agg #[.int .i64 a,.int .i64 e]),recovered:=true } :: older) ∧
      w'.cell? ⟨B,0,none⟩ = some (.slice none 0 0)∧w'.cell? ⟨B + 1,0,none⟩ = some (.int .i64 a)∧w'.cell? ⟨B + 1 + 1,0,none⟩ = some (.int .i64 e)∧Below B w w':=by
  have hta:=assert41
  refine callsD_of_wpS Tryz.func80 rfl fun c₀ cs hu => ?_
  apply wpS_seq
  apply wpS_region
  simp [wpOpsS,go_sem,recoverD,hu,Tryz.ntmps80,Exit.thenS]
  refine wpS_of_wp ?_
  change Code.wp Tryz.prog _ _ { tmps:=#[.pointer (some ⟨B,0,none⟩),.pointer (some ⟨B + 1,0,none⟩),.pointer (some ⟨B + 1 + 1,0,none⟩),.iface 116 (.agg #[.int .i64 a,.int .i64 e]),undef,.iface 116 (.agg #[.int .i64 a,.int .i64 e]),undef,undef,undef,undef,undef,undef,undef,undef],defers:=[] } w
  go_wp2
  have k1 : B < w.heap.size:=by omega
  have k2 : B + 1 < w.heap.size:=by omega
  have k3 : B + 1 + 1 < w.heap.size:=by omega
  go_region
  go_wp2
  refine ⟨rfl,_,by cases c₀; simp_all,.tuple #[],by simp [results,Tryz.results80],rfl,rfl,?_⟩
  refine ⟨by simp [go_sem,k1,c0],by simp [go_sem,k2,c1],by simp [go_sem,k3,c2],?_⟩
  exact (((((Below.refl B w).setCell (by simp) _).setCell (by simp) _).setCell (by simp; omega) _).alloc (by simp [World.setCell]; omega) _).drew
theorem ownsRow_slice {w : World} {base : Nat} {e : TypeId} {size : Nat} {v : Value} {n : Nat} {xs : List Value} (h : w.ownsRow base e size v n xs) : ∃ ao cap,v = .slice ao n cap:=by
  rcases h.2 with ⟨rfl,rfl⟩ | ⟨g,cap,cur,rfl,_⟩
  · exact ⟨_,_,rfl⟩
  · exact ⟨_,_,rfl⟩
/-- rows of other types than a builder's own are as they were. -/
def Keeps (w w' : World) : Prop:=∀ (g : Nat) (cs : Array Value) (T : TypeId) (fr : Nat × Nat),w.heap[g]? = some (Obj.cells cs T fr)→T≠77→T≠5→w'.heap[g]? = some (Obj.cells cs T fr)
theorem Keeps.refl (w : World) : Keeps w w:=fun _ _ _ _ h _ _ => h
theorem Keeps.trans {a b c : World} (h : Keeps a b) (k : Keeps b c) : Keeps a c:=fun g cs T fr hg h1 h2 => k g cs T fr (h g cs T fr hg h1 h2) h1 h2
theorem Keeps.alloc (w : World) (o : Obj) : Keeps w (w.alloc o):=fun g cs T fr hg _ _ => by
  rw [Below.heap_alloc _ _ _ (Array.getElem?_eq_some_iff.1 hg).1]; exact hg
theorem Keeps.setCell {w : World} {b : Nat} {cs : Array Value} {fr : Nat × Nat} (hb : w.heap[b]? = some (.cells cs 77 fr)) (o : Nat) (v : Value) : Keeps w (w.setCell ⟨b,o,none⟩ v):=fun g cs' T fr' hg h1 _ => by
  rw [Below.heap_setCell _ _ _ _ (fun e => ?_)]
  · exact hg
  · simp only at e
    rw [e] at hg
    rw [hg] at hb
    simp at hb
    exact h1 hb.2.1
theorem Keeps.grown {w w' : World} {B : Nat} {v : Value} {n : Nat} {xs : List Value} (hown : w.ownsRow B 5 1 v n xs) (hg : w.grownBy w' v.ownBlock) : Keeps w w':=fun g cs T fr hh _ h2 => by
  rw [hg.block g (Array.getElem?_eq_some_iff.1 hh).1 (fun e => ?_)]
  · exact hh
  · rcases hown.2 with ⟨rfl,_⟩ | ⟨g',cap,cur,rfl,_,hk,_⟩
    · simp [Value.ownBlock] at e
    · simp [Value.ownBlock] at e
      subst e
      rw [hk] at hh
      simp at hh
      exact h2 hh.2.1.symm
theorem Tryz.size48 : (Tryz.prog.info? 77).map (·.size) = some 2:=by kernel_rfl
theorem Tryz.lies48 : liesAt Tryz.prog Tryz.prog.depth 77 (2 / Tryz.prog.cellsOf 77) 0 77 1 = true:=by kernel_rfl
theorem Tryz.run39 (x : Value) (w : World) : (callFunc 145 #[x]).run Tryz.prog w = .ok (.value x) w:=by
  rw [run_callFunc_extern Tryz.func145 (by kernel_rfl) (by kernel_rfl) (by kernel_rfl) (e:=Extern.AbiNoEscape.same) (by kernel_rfl),Lib.run_noEscape]
  rfl
set_option maxHeartbeats 1000000 in
set_option maxRecDepth 100000 in
theorem bCheck_any (B b : Nat) (bs : List Value) (w : World) (h : Lib.IsBuilder 77 5 B b bs w) :
    Calls Tryz.prog 121 #[.pointer (some ⟨b,0,none⟩)] w fun e w' => e = .returned (.tuple #[])∧Lib.BuilderAt 77 5 B b (.pointer (some ⟨b,0,none⟩)) bs w'∧Below B w w'∧Keeps w w':=by
  obtain ⟨j,hj,hjs⟩:=Option.map_eq_some_iff.1 Tryz.size48
  rcases h with h | h
  · have c0:=h.cell0
    have f0:=h.frozen0
    have hto:=Lib.run_to_unsafe w ⟨b,0,none⟩ Tryz.underlying74 Tryz.underlying158 hj (by rw [hjs]; decide) h.shape (Nat.zero_lt_succ 1)
    have hno:=Tryz.run39
    have hfrom:=Lib.run_from_unsafe w ⟨b,0,none⟩ Tryz.underlying158 Tryz.underlying74 hj h.shape Tryz.lies48
    have hfin : Lib.BuilderAt 77 5 B b (.pointer (some ⟨b,0,none⟩)) bs (w.setCell ⟨b,0,none⟩ (.pointer (some ⟨b,0,none⟩)))∧Below B w (w.setCell ⟨b,0,none⟩ (.pointer (some ⟨b,0,none⟩)))∧Keeps w (w.setCell ⟨b,0,none⟩ (.pointer (some ⟨b,0,none⟩))) :=
      ⟨h.used _,(Below.refl B w).setCell (p:=⟨b,0,none⟩) h.1 _,by obtain ⟨_,v,hk,_⟩:=h; exact Keeps.setCell hk _ _⟩
    have HF:=hide hfin
    clear hfin h hjs hj
    go_enter Tryz.func121,Tryz.ntmps121
    go_wp2
    go_end0
    exact ⟨rfl,HF.out⟩
  · have c0:=h.cell0
    have hne:=Lib.run_neq_ptr_same w ⟨b,0,none⟩ Tryz.underlying74 hj
    have HF:=hide h
    clear h hjs hj
    go_enter Tryz.func121,Tryz.ntmps121
    go_wp2
    go_end0
    exact ⟨rfl,HF.out,Below.refl B w,Keeps.refl w⟩
theorem lt_of_heap {w : World} {b : Nat} {o : Obj} (h : w.heap[b]? = some o) : b < w.heap.size:=(Array.getElem?_eq_some_iff.1 h).1
set_option maxHeartbeats 1000000 in
set_option maxRecDepth 100000 in
theorem bByte_any (B b : Nat) (bs : List Value) (c : Int) (w : World) (h : Lib.IsBuilder 77 5 B b bs w) (hl : bs.length≤100000) (hBw : B≤w.heap.size) :
    Calls Tryz.prog 83 #[.pointer (some ⟨b,0,none⟩),.int .u8 c] w fun e w' => e = .returned .nilIface∧Lib.BuilderAt 77 5 B b (.pointer (some ⟨b,0,none⟩)) (bs ++ [.int .u8 c]) w'∧Below B w w'∧Keeps w w':=by
  obtain ⟨i0,hi,hz0,hz1,hz2⟩:=info_parts Tryz.info5
  go_enter Tryz.func83,Tryz.ntmps83
  go_wp2_with fail
  refine (bCheck_any B b bs _ h).mono ?_
  rintro e w1 ⟨rfl,⟨hB,v,hk,hown,hne⟩,hb1,hk1⟩
  have k1 : w1.cell? ⟨b,1,none⟩ = some v:=by rw [Lib.cell_of_heap hk]; rfl
  have hlt:=lt_of_heap hk
  obtain ⟨ao,cap,rfl⟩:=ownsRow_slice hown
  go_wp2_with (at_builtin; refine wpList_append_own _ rfl _ _ 75 rfl B 5 i0 (.int .u8 0) 1 1 Tryz.underlying75 hi hz0 hz1 hz2 rfl (by decide) _ _ _ rfl (hown.alloc _) ⟨w1.heap.size,0,none⟩ 1 1 [.int .u8 c] rfl rfl ?c1 ?c2 ?c3 ?c4 ?c5 ?_)
  case c1 =>
    intro j u hj
    match j,hj with
    | 0,hj => simp at hj; subst hj; simp [Addr.add]
  case c2 => intro u hu; simp at hu; subst hu; rfl
  case c3 => unfold maxLen; omega
  case c4 => omega
  case c5 => have:=hb1.size; simp; omega
  · intro v' w2 hown' hgrow _
    have hk2 : w2.heap[b]? = some (.cells #[.pointer (some ⟨b,0,none⟩),.slice ao bs.length cap] 77 (0,0)):=by
      rw [hgrow.block b (by simp; omega) (fun e => hne e.symm),Lib.alloc_old w1 _ b hlt]
      exact hk
    have d1 : w2.cell? ⟨b,1,none⟩ = some (.slice ao bs.length cap):=by rw [Lib.cell_of_heap hk2]; rfl
    have f1 : w2.frozen? ⟨b,1,none⟩ = false:=Lib.frozen_of_heap hk2 1
    have hkp : Keeps w (w2.setCell ⟨b,1,none⟩ v'):=((hk1.trans (Keeps.alloc w1 _)).trans (Keeps.grown (hown.alloc _) hgrow)).trans (Keeps.setCell hk2 _ _)
    have hbel : Below B w w2:=(hb1.alloc (by have:=hb1.size; omega) _).grown hgrow (by have:=hb1.size; simp; omega) (fun k hk => (hown.lt k hk).1)
    obtain ⟨ao',cap',rfl⟩:=ownsRow_slice hown'
    have R:=Lib.BuilderAt.put (T:=77) (e:=5) hB hk2 (bs':=bs ++ [.int .u8 c]) (by simpa using hown') (by decide)
    have HR:=hide R
    have HK:=hide hkp
    clear R k1 hown hgrow hown' hkp hk1
    go_wp2
    go_ret
    exact ⟨rfl,HR.out,hbel.setCell (p:=⟨b,1,none⟩) hB _,HK.out⟩
set_option maxHeartbeats 1000000 in
set_option maxRecDepth 100000 in
theorem bStr_any (B b : Nat) (bs : List Value) (s : ByteArray) (w : World) (h : Lib.IsBuilder 77 5 B b bs w) (hl : bs.length≤100000) (hs : s.size≤6000) (hBw : B≤w.heap.size) :
    Calls Tryz.prog 84 #[.pointer (some ⟨b,0,none⟩),.string s] w fun e w' => e = .returned (.tuple #[.int .i64 s.size,.nilIface])∧Lib.BuilderAt 77 5 B b (.pointer (some ⟨b,0,none⟩)) (bs ++ Lib.strCells s) w'∧Below B w w'∧Keeps w w':=by
  obtain ⟨i0,hi,hz0,hz1,hz2⟩:=info_parts Tryz.info5
  go_enter Tryz.func84,Tryz.ntmps84
  go_wp2_with fail
  refine (bCheck_any B b bs _ h).mono ?_
  rintro e w1 ⟨rfl,⟨hB,v,hk,hown,hne⟩,hb1,hk1⟩
  have k1 : w1.cell? ⟨b,1,none⟩ = some v:=by rw [Lib.cell_of_heap hk]; rfl
  have hlt:=lt_of_heap hk
  obtain ⟨ao,cap,rfl⟩:=ownsRow_slice hown
  go_wp2_with (at_builtin; refine Lib.wpList_append_own_string _ rfl _ _ 75 9 rfl B 5 i0 Tryz.underlying75 Tryz.underlying9 hi hz0 hz1 hz2 _ _ _ rfl hown s rfl ?c3 ?c4 ?c5 ?_)
  case c3 => unfold maxLen; omega
  case c4 => omega
  case c5 => have:=hb1.size; omega
  · intro v' w2 hown' hgrow _
    have hk2 : w2.heap[b]? = some (.cells #[.pointer (some ⟨b,0,none⟩),.slice ao bs.length cap] 77 (0,0)):=by
      rw [hgrow.block b hlt (fun e => hne e.symm)]
      exact hk
    have d1 : w2.cell? ⟨b,1,none⟩ = some (.slice ao bs.length cap):=by rw [Lib.cell_of_heap hk2]; rfl
    have f1 : w2.frozen? ⟨b,1,none⟩ = false:=Lib.frozen_of_heap hk2 1
    have hkp : Keeps w (w2.setCell ⟨b,1,none⟩ v'):=(hk1.trans (Keeps.grown hown hgrow)).trans (Keeps.setCell hk2 _ _)
    have hbel : Below B w w2:=hb1.grown hgrow (by have:=hb1.size; omega) (fun k hk => (hown.lt k hk).1)
    obtain ⟨ao',cap',rfl⟩:=ownsRow_slice hown'
    have R:=Lib.BuilderAt.put (T:=77) (e:=5) hB hk2 (bs':=bs ++ Lib.strCells s) (by simpa [Lib.strCells_length] using hown') (by decide)
    have HR:=hide R
    have HK:=hide hkp
    clear R k1 hown hgrow hown' hkp hk1
    go_wp2
    go_ret2
    exact ⟨rfl,HR.out,hbel.setCell (p:=⟨b,1,none⟩) hB _,HK.out⟩
theorem builderAt_alloc {B b : Nat} {p : Value} {bs : List Value} {w : World} (h : Lib.BuilderAt 77 5 B b p bs w) (o : Obj) : Lib.BuilderAt 77 5 B b p bs (w.alloc o):=by
  obtain ⟨hB,v,hk,hown,hne⟩:=h
  exact ⟨hB,v,(Lib.alloc_old w _ b (lt_of_heap hk)).trans hk,hown.alloc _,hne⟩
theorem isBuilder_alloc {B b : Nat} {bs : List Value} {w : World} (h : Lib.IsBuilder 77 5 B b bs w) (o : Obj) : Lib.IsBuilder 77 5 B b bs (w.alloc o):=by
  rcases h with h | h
  · exact Or.inl (builderAt_alloc h o)
  · exact Or.inr (builderAt_alloc h o)
theorem Tryz.info34 : (Tryz.prog.info? 44).map (fun i => (i.zero,i.size,i.bytes)) = some (some (.agg #[.int .i64 0,.int .i64 0,.string ⟨#[]⟩]),3,32):=by kernel_rfl
theorem res_cells (wr : World) (B : Nat) (x y z v m n : Value) (h0 : wr.cell? ⟨B,0,none⟩ = some x) (h1 : wr.cell? ⟨B + 1,0,none⟩ = some y) (h2 : wr.cell? ⟨B + 1 + 1,0,none⟩ = some z) :
    (((wr.setCell ⟨B,0,none⟩ v).setCell ⟨B + 1,0,none⟩ m).setCell ⟨B + 1 + 1,0,none⟩ n).cell? ⟨B,0,none⟩ = some v ∧
    (((wr.setCell ⟨B,0,none⟩ v).setCell ⟨B + 1,0,none⟩ m).setCell ⟨B + 1 + 1,0,none⟩ n).cell? ⟨B + 1,0,none⟩ = some m ∧
    (((wr.setCell ⟨B,0,none⟩ v).setCell ⟨B + 1,0,none⟩ m).setCell ⟨B + 1 + 1,0,none⟩ n).cell? ⟨B + 1 + 1,0,none⟩ = some n:=by
  simp [go_sem,h0,h1,h2]
theorem ownsRow_lower {w : World} {base base' : Nat} {e : TypeId} {size : Nat} {v : Value} {n : Nat} {xs : List Value} (h : w.ownsRow base e size v n xs) (hb : base'≤base) : w.ownsRow base' e size v n xs:=by
  obtain ⟨h1,h2⟩:=h
  refine ⟨h1,?_⟩
  rcases h2 with h2 | ⟨g,cap,cur,hv,hg,r⟩
  · exact Or.inl h2
  · exact Or.inr ⟨g,cap,cur,hv,by omega,r⟩
theorem after_append {w1 w2 : World} {B : Nat} {e : TypeId} {size : Nat} {v : Value} {n : Nat} {xs : List Value} {o o' : Obj} (hown : w1.ownsRow (B + 3) e size v n xs)
    (hg : ((w1.alloc o).alloc o').grownBy w2 v.ownBlock) (hw1 : B + 3≤w1.heap.size) :
    (∀ b off,b < B + 3→w2.cell? ⟨b,off,none⟩ = w1.cell? ⟨b,off,none⟩)∧(∀ b off,b < B + 3→w2.frozen? ⟨b,off,none⟩ = w1.frozen? ⟨b,off,none⟩) ∧
    (∀ off,w2.cell? ⟨w1.heap.size,off,none⟩ = (w1.alloc o).cell? ⟨w1.heap.size,off,none⟩)∧w1.heap.size + 2≤w2.heap.size∧Below B w1 w2:=by
  have hsz : ((w1.alloc o).alloc o').heap.size = w1.heap.size + 2:=by simp
  have hlow : ∀ k,k < B + 3→w2.heap[k]? = w1.heap[k]?:=fun k hk => by
    rw [hg.block k (by omega) (fun h => by have:=(hown.lt k h.symm).1; omega),Below.heap_alloc _ _ _ (by simp; omega),Below.heap_alloc _ _ _ (by omega)]
  have htop : w2.heap[w1.heap.size]? = (w1.alloc o).heap[w1.heap.size]?:=by
    rw [hg.block _ (by omega) (fun h => by have:=(hown.lt _ h.symm).2; omega),Below.heap_alloc _ _ _ (by simp)]
  refine ⟨fun b off hb => World.cell?_of_block (hlow b hb),fun b off hb => World.frozen?_of_block (hlow b hb),fun off => World.cell?_of_block htop,by have:=hg.size; omega,?_⟩
  exact ⟨hg.os,hg.tape,hg.output,by have:=hg.size; omega,fun k hk => hlow k (by omega)⟩
def scanRel (s : ByteArray) (w : World) (B : Nat) (vi : Value) (wr : World) : Prop :=
  ∃ (i f : Nat) (ts : List Tok) (v : Value),vi = .int .i64 ((skipL false s.data.toList i : Nat) : Int)∧i≤s.size∧s.size < f + i∧scanS s = pre ts (scanF s f false i)∧ts.length≤i ∧
    wr.cell? ⟨B,0,none⟩ = some v∧wr.cell? ⟨B + 1,0,none⟩ = some (.int .i64 0)∧wr.cell? ⟨B + 1 + 1,0,none⟩ = some (.int .i64 0) ∧
    wr.frozen? ⟨B,0,none⟩ = false∧wr.frozen? ⟨B + 1,0,none⟩ = false∧wr.frozen? ⟨B + 1 + 1,0,none⟩ = false ∧
    wr.ownsRow (B + 3) 44 3 v ts.length (toksCells ts)∧Below B w wr∧B + 3≤wr.heap.size
set_option maxHeartbeats 1000000 in
set_option maxRecDepth 100000 in
theorem scan_any (s : ByteArray) (hs : s.size≤6000) (w : World) :
    Calls Tryz.prog 40 #[.string s] w fun e w' => ∃ v,e = .returned (.tuple #[v,.int .i64 (scanPos s : Int),.int .i64 (scanErr s : Int)]) ∧
      w'.ownsRow w.heap.size 44 3 v (scanToks s).length (toksCells (scanToks s))∧Below w.heap.size w w':=by
  have hmf : ∀ (fn : Fn) (first cap : Array Value) (w : World),(Instr.makeFunc fn first cap).run Tryz.prog w = .ok (.func fn first cap) w:=fun _ _ _ _ => rfl
  obtain ⟨i0,hi,hz0,hz1,hz2⟩:=info_parts Tryz.info34
  go_enter_defers Tryz.func40,Tryz.ntmps40
  go_wp2_with fail
  refine (skip_any s 0 (Nat.zero_le _) hs _).mono ?_
  rintro e w' ⟨rfl,rfl⟩
  go_wp2_with fail
  go_loopw [5] (fun i wr => scanRel s w w.heap.size i wr) (fun i _ => s.size - (intOf i).toNat)
  case atStart =>
    refine ⟨0,s.size + 1,[],.slice none 0 0,rfl,Nat.zero_le _,by omega,(pre_nil _).symm,Nat.zero_le _,by simp [go_sem],by simp [go_sem],by simp [go_sem],by simp [go_sem],by simp [go_sem],by simp [go_sem],World.ownsRow_nil _ _ _ _,?_,by simp⟩
    exact (((Below.refl _ w).alloc (Nat.le_refl _) _).alloc (by simp) _).alloc (by simp; omega) _
  case round =>
    obtain ⟨i,f,ts,v,rfl,hi1,hf1,hsc,htl,c0,c1,c2,f0,f1,f2,hown,hbel,hsz⟩:=hrel
    have HSC:=hide hsc
    clear hsc
    have hj:=skipL_le (note:=false) (l:=s.data.toList) (i:=i) (by simpa using hi1)
    have hj' : skipL false s.data.toList i≤s.size:=by simpa using hj
    have hji:=skipL_ge false s.data.toList i
    obtain ⟨j,hjj⟩ : ∃ j,j = skipL false s.data.toList i:=⟨_,rfl⟩
    rw [← hjj] at hj' hji ⊢
    have HJ:=hide hjj
    clear hjj hj
    obtain ⟨ao,cap,rfl⟩:=ownsRow_slice hown
    by_cases hlt : j < s.size
    · go_wp2_with fail
      refine (next_any s j hlt hs _).mono ?_
      rintro e w1 ⟨rfl,hb1⟩
      obtain ⟨hc,hf⟩:=bcell hb1
      by_cases he : tokErr s j = 0
      · simp only [nextSaid,he,if_true,tokVal]
        have hw1 : w.heap.size + 3≤w1.heap.size:=by have:=hb1.size; omega
        have c0':=(hc w.heap.size 0 (by omega)).trans c0
        have c1':=(hc (w.heap.size + 1) 0 (by omega)).trans c1
        have c2':=(hc (w.heap.size + 1 + 1) 0 (by omega)).trans c2
        have f0':=(hf w.heap.size 0 (by omega)).trans f0
        have f1':=(hf (w.heap.size + 1) 0 (by omega)).trans f1
        have f2':=(hf (w.heap.size + 1 + 1) 0 (by omega)).trans f2
        have hown1:=ownsRow_over hown hb1
        have hbel1 : Below w.heap.size w w1:=hbel.trans (hb1.mono (by omega))
        clear hc hf c0 c1 c2 f0 f1 f2 hown hbel hb1
        have g0 : w.heap.size < w1.heap.size:=by omega
        have g1 : w.heap.size + 1 < w1.heap.size:=by omega
        have g2 : w.heap.size + 1 + 1 < w1.heap.size:=by omega
        have hend:=tokKN_end he
        have hTok : tokAt s j = ⟨(tokKN s j).1,j,s.extract j (tokKN s j).2⟩:=rfl
        have hxs : (s.extract j (tokKN s j).2).size = (tokKN s j).2 - j:=by simp; omega
        obtain ⟨kk,hkk⟩ : ∃ kk,kk = (tokKN s j).1:=⟨_,rfl⟩
        obtain ⟨en,hen⟩ : ∃ en,en = (tokKN s j).2:=⟨_,rfl⟩
        rw [← hkk,← hen] at hTok ⊢
        rw [← hen] at hend hxs
        obtain ⟨tx,htx⟩ : ∃ tx,tx = s.extract j en:=⟨_,rfl⟩
        rw [← htx] at hTok hxs ⊢
        have HT:=hide hTok
        have HX:=hide hxs
        have HEN:=hide hen
        clear hTok hxs hkk hen htx
        go_wp2_with (at_builtin; refine wpList_append_own _ rfl _ _ 34 rfl (w.heap.size + 3) 44 i0 (.agg #[.int .i64 0,.int .i64 0,.string ⟨#[]⟩]) 3 32 Tryz.underlying34 hi hz0 hz1 hz2 rfl (by decide) _ _ _ rfl ((hown1.alloc _).alloc _) ⟨w1.heap.size + 1,0,none⟩ 1 1 [.int .i64 (kk : Int),.int .i64 (j : Int),.string tx] rfl rfl ?c1 ?c2 ?c3 ?c4 ?c5 ?_)
        case c1 =>
          intro q u hq
          match q,hq with
          | 0,hq => simp at hq; subst hq; simp [Addr.add]
          | 1,hq => simp at hq; subst hq; simp [Addr.add]
          | 2,hq => simp at hq; subst hq; simp [Addr.add]
        case c2 => intro u hu; simp at hu; rcases hu with rfl | rfl | rfl <;> rfl
        case c3 => unfold maxLen; omega
        case c4 => omega
        case c5 => simp; omega
        · intro v' w2 hown2 hgrow hne
          obtain ⟨hc2,hf2,ht2,hs2,hb2⟩:=after_append hown1 hgrow hw1
          have c0':=(hc2 w.heap.size 0 (by omega)).trans c0'
          have c1':=(hc2 (w.heap.size + 1) 0 (by omega)).trans c1'
          have c2':=(hc2 (w.heap.size + 1 + 1) 0 (by omega)).trans c2'
          have f0':=(hf2 w.heap.size 0 (by omega)).trans f0'
          have f1':=(hf2 (w.heap.size + 1) 0 (by omega)).trans f1'
          have f2':=(hf2 (w.heap.size + 1 + 1) 0 (by omega)).trans f2'
          have t2 : w2.cell? ⟨w1.heap.size,2,none⟩ = some (.string tx):=by rw [ht2 2]; simp [go_sem]
          have hbel2 : Below w.heap.size w w2:=hbel1.trans hb2
          obtain ⟨ao',cap',rfl⟩:=ownsRow_slice hown2
          clear hc2 hf2 ht2 hb2 hown1 hbel1 hgrow hne
          have htb : tx.size≤6000:=by have:=HX.out; omega
          go_wp2_with fail
          rw [show ((j : Int) + (tx.size : Int)) = ((en : Nat) : Int) from by have:=HX.out; omega]
          refine (skip_any s en hend.2 hs _).mono ?_
          rintro e w' ⟨rfl,rfl⟩
          have R : scanRel s w w.heap.size (.int .i64 ((skipL false s.data.toList en : Nat) : Int)) (w2.setCell { block:=w.heap.size,off:=0 } (Value.slice ao' (ts.length + 1) cap')):=by
            obtain ⟨f',rfl⟩ : ∃ f',f = f' + 1:=⟨f - 1,by omega⟩
            have hst:=scan_step HSC.out (by rw [← HJ.out]; exact hlt) (by rw [← HJ.out]; exact he)
            rw [← HJ.out,← HEN.out,HT.out] at hst
            refine ⟨en,f',ts ++ [⟨kk,j,tx⟩],.slice ao' (ts.length + 1) cap',rfl,hend.2,by omega,hst,by simp; omega,by simp [go_sem,c0'],by simp [go_sem,c1'],by simp [go_sem,c2'],by simp [go_sem,f0'],by simp [go_sem,f1'],by simp [go_sem,f2'],?_,hbel2.setCell (by simp) _,by simp [World.setCell]; omega⟩
            rw [toksCells_snoc,List.length_append]
            exact ownsRow_setCell_below hown2 (by simp) _
          have hm:=skipL_ge false s.data.toList en
          go_wp2_with fail
          refine ⟨R,?_⟩
          simp [intOf]; omega
      · simp only [nextSaid,he,if_false,gaveUp]
        go_wp2_with fail
        refine leaves_cons (f:=80) (args:=#[.pointer (some ⟨w.heap.size,0,none⟩),.pointer (some ⟨w.heap.size + 1,0,none⟩),.pointer (some ⟨w.heap.size + 1 + 1,0,none⟩)]) (by simp) (by simp [go_sem]) ?_
        refine (catch_place w.heap.size _ 0 0 _ _ [] _ (by have:=hb1.size; omega) ((hc _ _ (by omega)).trans c0) ((hc _ _ (by omega)).trans c1) ((hc _ _ (by omega)).trans c2) ((hf _ _ (by omega)).trans f0) ((hf _ _ (by omega)).trans f1) ((hf _ _ (by omega)).trans f2)).mono ?_
        rintro e u' w2 ⟨rfl,rfl,d0,d1,d2,hb2⟩
        have hst:=HSC.out
        obtain ⟨f',rfl⟩ : ∃ f',f = f' + 1:=⟨f - 1,by omega⟩
        have hst':=scan_stop hst (by rw [← HJ.out]; exact hlt) (by rw [← HJ.out]; exact he)
        rw [← HJ.out] at hst'
        have hT : scanToks s = []:=by simp [scanToks,hst']
        have hP : scanPos s = j:=by simp [scanPos,hst']
        have hE : scanErr s = tokErr s j:=by simp [scanErr,hst']
        have hbb : Below w.heap.size w w2:=(hbel.trans (hb1.mono (by omega))).trans hb2
        simp [Leaves,settle,results,Tryz.results40,go_sem,d0,d1,d2,hT,hP,hE]
        exact ⟨World.ownsRow_nil _ _ _ _,hbb⟩
    · go_wp2_with fail
      refine leaves_cons (f:=80) (args:=#[.pointer (some ⟨w.heap.size,0,none⟩),.pointer (some ⟨w.heap.size + 1,0,none⟩),.pointer (some ⟨w.heap.size + 1 + 1,0,none⟩)]) (by simp) (by simp [go_sem]) ?_
      refine (catch_idle _ _ _ _).mono ?_
      rintro e u' w2 ⟨rfl,rfl,rfl⟩
      obtain ⟨d0,d1,d2⟩:=res_cells wr w.heap.size _ _ _ (.slice ao ts.length cap) (.int .i64 0) (.int .i64 0) c0 c1 c2
      have hst:=HSC.out
      obtain ⟨f',rfl⟩ : ∃ f',f = f' + 1:=⟨f - 1,by omega⟩
      have hst':=scan_end hst (by rw [← HJ.out]; exact hlt)
      have hT : scanToks s = ts:=by simp [scanToks,hst']
      have hP : scanPos s = 0:=by simp [scanPos,hst']
      have hE : scanErr s = 0:=by simp [scanErr,hst']
      have hbb : Below w.heap.size w (((wr.setCell ⟨w.heap.size,0,none⟩ (.slice ao ts.length cap)).setCell ⟨w.heap.size + 1,0,none⟩ (.int .i64 0)).setCell ⟨w.heap.size + 1 + 1,0,none⟩ (.int .i64 0)) :=
        ((hbel.setCell (by simp) _).setCell (by simp) _).setCell (by simp; omega) _
      have ho2 : (((wr.setCell ⟨w.heap.size,0,none⟩ (.slice ao ts.length cap)).setCell ⟨w.heap.size + 1,0,none⟩ (.int .i64 0)).setCell ⟨w.heap.size + 1 + 1,0,none⟩ (.int .i64 0)).ownsRow w.heap.size 44 3 (.slice ao ts.length cap) ts.length (toksCells ts) :=
        ownsRow_lower (ownsRow_setCell_below (ownsRow_setCell_below (ownsRow_setCell_below hown (by simp) _) (by simp) _) (by simp) _) (by omega)
      generalize (((wr.setCell ⟨w.heap.size,0,none⟩ (.slice ao ts.length cap)).setCell ⟨w.heap.size + 1,0,none⟩ (.int .i64 0)).setCell ⟨w.heap.size + 1 + 1,0,none⟩ (.int .i64 0)) = wF at d0 d1 d2 hbb ho2 ⊢
      simp [Leaves,settle,results,Tryz.results40,go_sem,d0,d1,d2,hT,hP,hE]
      exact ⟨ho2,hbb⟩
/-- what Scan answers of a text: its tokens, where, why. -/
def Scanned (s : ByteArray) (w : World) (e : Ending) (w' : World) : Prop :=
  ∃ (v : Value) (ts : List Tok) (p r : Nat),e = .returned (.tuple #[v,.int .i64 (p : Int),.int .i64 (r : Int)]) ∧
    w'.ownsRow w.heap.size 44 3 v ts.length (toksCells ts)∧Below w.heap.size w w' ∧
    (if s.size≤6000 then ts = scanToks s∧p = scanPos s∧r = scanErr s else ts = []∧p = 0∧r = 2)
set_option maxHeartbeats 400000 in
theorem Scan_any (s : ByteArray) (hs : s.size≤maxLen) (w : World) : Calls Tryz.prog 17 #[.string s] w (Scanned s w):=by
  unfold maxLen at hs
  by_cases h : s.size≤6000
  · go_enter Tryz.func17,Tryz.ntmps17
    go_wp2_with fail
    refine (scan_any s h _).mono ?_
    rintro e w1 ⟨v,rfl,hown,hb⟩
    go_wp2_with fail
    go_ret3
    exact ⟨v,scanToks s,scanPos s,scanErr s,rfl,hown,hb,by rw [if_pos h]; exact ⟨rfl,rfl,rfl⟩⟩
  · go_enter Tryz.func17,Tryz.ntmps17
    go_wp2_with fail
    go_ret3
    exact ⟨.slice none 0 0,[],0,2,rfl,World.ownsRow_nil _ _ _ _,Below.refl _ _,by rw [if_neg h]; exact ⟨rfl,rfl,rfl⟩⟩
/-- a list of tokens lies in memory. -/
def IsToks (w : World) (v : Value) (ts : List Tok) : Prop :=
  ∃ ao cap,v = .slice ao ts.length cap∧(ts≠[]→∃ b off,ao = some ⟨b,off,none⟩∧∀ j u,(toksCells ts)[j]? = some u→w.cell? ⟨b,off + j,none⟩ = some u)
theorem isToks_owned {w : World} {B : Nat} {v : Value} {ts : List Tok} (h : w.ownsRow B 44 3 v ts.length (toksCells ts)) : IsToks w v ts:=by
  have hc:=fun g => h.cells (g:=g)
  rcases h.2 with ⟨rfl,h0⟩ | ⟨g,cap,cur,rfl,_⟩
  · exact ⟨none,0,by rw [h0],fun hne => absurd (List.eq_nil_of_length_eq_zero h0) hne⟩
  · refine ⟨_,cap,rfl,fun _ => ⟨g,0,rfl,fun j u hu => ?_⟩⟩
    have h1:=hc g rfl j u hu
    have hadd : (⟨g,0,none⟩ : Addr).add j = ⟨g,j,none⟩:=by unfold Addr.add; split <;> simp_all
    rw [hadd] at h1
    simpa using h1
theorem isToks_over {w w' : World} {v : Value} {ts : List Tok} (h : IsToks w v ts) (hb : Below w.heap.size w w') : IsToks w' v ts:=by
  obtain ⟨ao,cap,hv,hc⟩:=h
  refine ⟨ao,cap,hv,fun hne => ?_⟩
  obtain ⟨b,off,hao,hcc⟩:=hc hne
  exact ⟨b,off,hao,fun j u hu => by
    have h1:=hcc j u hu
    rw [hb.cell (p:=⟨b,off + j,none⟩) (World.block_lt_of_cell? w _ h1)]
    exact h1⟩
def isAlone (t : Tok) : Bool :=
  decide (t.text.size≤6000) && decide (scanErr t.text = 0) && match scanToks t.text with
    | [u] => (u.kind == t.kind) && (u.text.data.toList == t.text.data.toList)
    | _ => false
set_option maxHeartbeats 1000000 in
theorem alone_any (k a : Int) (x : ByteArray) (hx : x.size≤maxLen) (w : World) :
    Calls Tryz.prog 41 #[tokVal k a x] w fun e w' => e = .returned (.bool (isAlone ⟨k,a,x⟩))∧Below w.heap.size w w':=by
  unfold tokVal
  go_enter Tryz.func41,Tryz.ntmps41
  go_wp2_with fail
  refine (Scan_any x hx _).mono ?_
  rintro e w1 ⟨v,ts,p,r,rfl,hown,hb,hif⟩
  obtain ⟨hc,hf⟩:=bcell hb
  have t0 : w1.cell? ⟨w.heap.size,0,none⟩ = some (.int .i64 k):=by rw [hc _ _ (by simp)]; simp [go_sem]
  have t2 : w1.cell? ⟨w.heap.size,2,none⟩ = some (.string x):=by rw [hc _ _ (by simp)]; simp [go_sem]
  have hbel : Below w.heap.size w w1:=((Below.refl _ w).alloc (Nat.le_refl _) _).trans (hb.mono (by simp))
  clear hc hf hb
  by_cases hr : r = 0
  · have hsz : x.size≤6000:=by
      rcases Nat.lt_or_ge 6000 x.size with h | h
      · rw [if_neg (by omega)] at hif; omega
      · exact h
    rw [if_pos hsz] at hif
    obtain ⟨hts,hp,hre⟩:=hif
    have b0 : ((r : Int) == 0) = true:=by simp; omega
    by_cases h1 : ts.length = 1
    · obtain ⟨u,rfl⟩:=List.length_eq_one_iff.1 h1
      obtain ⟨ao,cap,rfl,hcc⟩:=isToks_owned hown
      obtain ⟨b,off,rfl,hcl⟩:=hcc (by simp)
      have u0 : w1.cell? ⟨b,off,none⟩ = some (.int .i64 u.kind):=hcl 0 _ rfl
      have u2 : w1.cell? ⟨b,off + 2,none⟩ = some (.string u.text):=hcl 2 _ rfl
      have hA : isAlone ⟨k,a,x⟩ = ((u.kind == k) && (u.text.toList == x.toList)):=by
        simp [isAlone,hsz,← hre,hr,← hts,ByteArray.toList_eq]
      have HA:=hide hA
      clear hA hcl hcc hown hts hp hre hr h1
      by_cases hk : (u.kind == k) = true
      · go_wp2_with fail
        go_quiet ((fail))
        go_wp2
        go_ret
        exact ⟨by rw [HA.out,hk]; rfl,below_drewN hbel _⟩
      · have hk' : (u.kind == k) = false:=by simpa using hk
        clear hk
        go_wp2_with fail
        go_quiet ((fail))
        go_wp2
        go_ret
        exact ⟨by rw [HA.out,hk']; rfl,below_drewN hbel _⟩
    · have b1 : ((ts.length : Int) == 1) = false:=by simp; omega
      obtain ⟨ao,cap,rfl⟩:=ownsRow_slice hown
      have hA : isAlone ⟨k,a,x⟩ = false:=by
        have h2 : ¬ (scanToks x).length = 1:=by rw [← hts]; exact h1
        simp only [isAlone]
        generalize scanToks x = l at h2
        match l,h2 with
        | [],_ => simp
        | [u],h => simp at h
        | u :: v :: m,_ => simp
      have HA:=hide hA
      clear hA hown hts hp hre hr h1
      go_wp2_with fail
      go_quiet ((fail))
      go_wp2
      go_ret
      exact ⟨by rw [HA.out]; rfl,below_drewN hbel _⟩
  · have b0 : ((r : Int) == 0) = false:=by simp; omega
    obtain ⟨ao,cap,rfl⟩:=ownsRow_slice hown
    have hA : isAlone ⟨k,a,x⟩ = false:=by
      by_cases hsz : x.size≤6000
      · rw [if_pos hsz] at hif
        have : ¬ scanErr x = 0:=by rw [← hif.2.2]; exact hr
        simp [isAlone,this]
      · simp [isAlone,hsz]
    have HA:=hide hA
    clear hA hown hif
    go_wp2_with fail
    go_quiet ((fail))
    go_wp2
    go_ret
    exact ⟨by rw [HA.out]; rfl,below_drewN hbel _⟩
/-- one behind the other, a blank between. -/
def glueL : List Tok→List UInt8
  | [] => []
  | [t] => t.text.data.toList
  | t :: u :: ts => t.text.data.toList ++ 32 :: glueL (u :: ts)
def sizes (ts : List Tok) : Nat:=(ts.map fun t => t.text.size + 1).sum
theorem sizes_snoc (ts : List Tok) (t : Tok) : sizes (ts ++ [t]) = sizes ts + (t.text.size + 1):=by simp [sizes]
theorem glueL_snoc (ts : List Tok) (t : Tok) : glueL (ts ++ [t]) = if ts = [] then t.text.data.toList else glueL ts ++ 32 :: t.text.data.toList:=by
  induction ts with
  | nil => simp [glueL]
  | cons u ts ih =>
    cases ts with
    | nil => simp [glueL]
    | cons v ts => simp [glueL] at ih ⊢; rw [ih]
theorem glueL_length (ts : List Tok) : (glueL ts).length + 1 = sizes ts∨ts = []:=by
  induction ts with
  | nil => exact Or.inr rfl
  | cons u ts ih =>
    left
    cases ts with
    | nil => simp [glueL,sizes]
    | cons v ts =>
      have:=ih.resolve_right (by simp)
      simp [glueL,sizes] at this ⊢
      omega
theorem sizes_take (ts : List Tok) (k : Nat) : sizes (ts.take k)≤sizes ts:=by
  induction ts generalizing k with
  | nil => simp [sizes]
  | cons u ts ih =>
    cases k with
    | zero => simp [sizes]
    | succ k => have:=ih k; simp [sizes] at this ⊢; omega
theorem cellsAt {w : World} {b off : Nat} {ts : List Tok} (h : ∀ j u,(toksCells ts)[j]? = some u→w.cell? ⟨b,off + j,none⟩ = some u) {i : Nat} (hi : i < ts.length) :
    w.cell? ⟨b,off + i * 3,none⟩ = some (.int .i64 ts[i].kind)∧w.cell? ⟨b,off + i * 3 + 1,none⟩ = some (.int .i64 ts[i].pos)∧w.cell? ⟨b,off + i * 3 + 2,none⟩ = some (.string ts[i].text):=by
  have key : ∀ (ts : List Tok) (i : Nat) (hi : i < ts.length),(toksCells ts)[i * 3]? = some (.int .i64 ts[i].kind)∧(toksCells ts)[i * 3 + 1]? = some (.int .i64 ts[i].pos)∧(toksCells ts)[i * 3 + 2]? = some (.string ts[i].text):=by
    intro ts
    induction ts with
    | nil => intro i hi; simp at hi
    | cons t ts ih =>
      intro i hi
      cases i with
      | zero => simp [toksCells,tokCells]
      | succ i =>
        have:=ih i (by simpa using hi)
        have e : ∀ j,(toksCells (t :: ts))[(i + 1) * 3 + j]? = (toksCells ts)[i * 3 + j]?:=fun j => by
          have : (i + 1) * 3 + j = i * 3 + j + 3:=by omega
          rw [this]
          simp [toksCells,tokCells]
        have e0:=e 0
        simp only [Nat.add_zero] at e0
        rw [e0,e 1,e 2]
        simpa using this
  obtain ⟨k0,k1,k2⟩:=key ts i hi
  exact ⟨h _ _ k0,by rw [Nat.add_assoc]; exact h _ _ k1,by rw [Nat.add_assoc]; exact h _ _ k2⟩
set_option maxHeartbeats 1000000 in
theorem glue_any (v : Value) (ts : List Tok) (w : World) (hv : IsToks w v ts) (hs : sizes ts≤6001) :
    Calls Tryz.prog 42 #[v] w fun e w' => e = .returned (.string ⟨(glueL ts).toArray⟩)∧Below w.heap.size w w':=by
  obtain ⟨ao,cap,rfl,hcc⟩:=hv
  have hn : ts.length≤6001:=by
    have : ∀ l : List Tok,l.length≤sizes l:=by
      intro l
      induction l with
      | nil => simp [sizes]
      | cons u l ih => simp [sizes] at ih ⊢; omega
    have:=this ts
    omega
  go_enter Tryz.func42,Tryz.ntmps42
  go_wp2_with fail
  go_loopw [8] (fun i wr => ∃ k : Nat,k≤ts.length∧i = .int .i64 k∧Lib.IsBuilder 77 5 w.heap.size w.heap.size (Lib.byteCells (glueL (ts.take k))) wr∧Below w.heap.size w wr∧w.heap.size < wr.heap.size) (fun i _ => ts.length - (intOf i).toNat)
  case atStart => exact ⟨0,Nat.zero_le _,rfl,Lib.fresh_isBuilder 77 5 w,(Below.refl _ w).alloc (Nat.le_refl _) _,by simp⟩
  case round =>
    obtain ⟨k,hk,rfl,hB,hbel,hlt⟩:=hrel
    by_cases hkl : k < ts.length
    · obtain ⟨b,off,rfl,hcl⟩:=hcc (by rintro rfl; simp at hkl)
      obtain ⟨q0,q1,q2⟩:=cellsAt hcl hkl
      have g0 : b < w.heap.size:=World.block_lt_of_cell? w _ q0
      have q0':=(hbel.cell (p:=⟨b,off + k * 3,none⟩) g0).trans q0
      have q1':=(hbel.cell (p:=⟨b,off + k * 3 + 1,none⟩) g0).trans q1
      have q2':=(hbel.cell (p:=⟨b,off + k * 3 + 2,none⟩) g0).trans q2
      clear q0 q1 q2 hcl hcc
      obtain ⟨kk,hkk⟩ : ∃ x,x = ts[k].kind:=⟨_,rfl⟩
      obtain ⟨pp,hpp⟩ : ∃ x,x = ts[k].pos:=⟨_,rfl⟩
      obtain ⟨tx,htx⟩ : ∃ x,x = ts[k].text:=⟨_,rfl⟩
      rw [← hkk] at q0'
      rw [← hpp] at q1'
      rw [← htx] at q2'
      have HT:=hide htx
      clear hkk hpp htx
      have htk : ts.take (k + 1) = ts.take k ++ [ts[k]]:=List.take_succ_eq_append_getElem hkl
      have hsz1:=sizes_take ts (k + 1)
      rw [htk,sizes_snoc,← HT.out] at hsz1
      have hgl : (Lib.byteCells (glueL (ts.take k))).length≤6001:=by
        rw [Lib.byteCells_length]
        rcases glueL_length (ts.take k) with h | h
        · omega
        · rw [h]; simp [glueL]
      have hgn : glueL (ts.take (k + 1)) = if ts.take k = [] then tx.data.toList else glueL (ts.take k) ++ 32 :: tx.data.toList:=by rw [htk,glueL_snoc,← HT.out]
      have hnil : ts.take k = []↔k = 0:=by
        rw [List.take_eq_nil_iff]
        constructor
        · rintro (h | h)
          · exact h
          · simp [h] at hkl
        · exact Or.inl
      by_cases h0 : k = 0
      · have hp : ¬ (0 : Int) < (k : Int):=by omega
        rw [if_pos (hnil.2 h0)] at hgn
        have hg0 : glueL (ts.take k) = []:=by rw [hnil.2 h0]; rfl
        have HG:=hide hgn
        have HG0:=hide hg0
        clear h0 hgn hg0 hnil htk
        go_wp2_with fail
        refine (bStr_any w.heap.size w.heap.size _ tx _ (isBuilder_alloc hB _) (by omega) (by omega) (by simp; omega)).mono ?_
        rintro e w1 ⟨rfl,hb1,hbb,hkk⟩
        go_wp2_with fail
        refine ⟨⟨k + 1,by omega,by go_num,Or.inr ?_,(hbel.alloc (by omega) _).trans hbb,by have:=hbb.size; simp at this; omega⟩,by simp [intOf]; omega⟩
        rw [HG.out]
        rw [HG0.out] at hb1
        simpa [Lib.byteCells,Lib.strCells] using hb1
      · have hp : (0 : Int) < (k : Int):=by omega
        rw [if_neg (fun h => h0 (hnil.1 h))] at hgn
        have HG:=hide hgn
        clear h0 hgn hnil htk
        go_wp2_with fail
        refine (bByte_any w.heap.size w.heap.size _ 32 _ (isBuilder_alloc hB _) (by omega) (by simp; omega)).mono ?_
        rintro e w1 ⟨rfl,hb1,hbb,hkk⟩
        have hh:=hkk wr.heap.size _ 44 (0,0) (heap_alloc_new wr _) (by decide) (by decide)
        have c2 : w1.cell? ⟨wr.heap.size,2,none⟩ = some (.string tx):=by rw [Lib.cell_of_heap hh]; rfl
        have hbb' : Below w.heap.size w w1:=(hbel.alloc (by omega) _).trans hbb
        have hsz2 : w.heap.size < w1.heap.size:=by have:=hbb.size; simp at this; omega
        clear hh hkk hbb q0' q1' q2'
        go_wp2_with fail
        refine (bStr_any w.heap.size w.heap.size _ tx _ (Or.inr hb1) (by simp; omega) (by omega) (by omega)).mono ?_
        rintro e w2 ⟨rfl,hb2,hbb2,hkk2⟩
        go_wp2_with fail
        refine ⟨⟨k + 1,by omega,by go_num,Or.inr ?_,hbb'.trans hbb2,by have:=hbb2.size; omega⟩,by simp [intOf]; omega⟩
        rw [HG.out]
        simpa [Lib.byteCells,Lib.strCells] using hb2
    · have hke : k = ts.length:=by omega
      go_wp2_with fail
      refine (Tryz.Builder_String_any w.heap.size w.heap.size (glueL (ts.take k)) _ hB (by omega)).mono ?_
      rintro e w1 ⟨rfl,hb1⟩
      go_wp2_with fail
      go_ret
      exact ⟨rfl,hbel.trans hb1⟩
/-- a reader lies in its own block, its tokens elsewhere. -/
def St (rb : Nat) (tv : Value) (ts : List Tok) (en n : Nat) (w : World) : Prop :=
  w.heap[rb]? = some (Obj.cells #[tv,.int .i64 (n : Int),.int .i64 (en : Int)] 93 (0,0))∧n≤ts.length∧ts.length≤6000∧∃ ao cap,tv = .slice ao ts.length cap ∧
    (ts≠[]→∃ b off,ao = some ⟨b,off,none⟩∧b≠rb∧∀ (j : Nat) (u : Value),(toksCells ts)[j]? = some u→w.cell? ⟨b,off + j,none⟩ = some u)
theorem St.keep {rb : Nat} {tv : Value} {ts : List Tok} {en n m : Nat} {w w' : World} (h : St rb tv ts en n w) (hg : w.grownBy w' (some rb))
    (hb : w'.heap[rb]? = some (Obj.cells #[tv,.int .i64 (m : Int),.int .i64 (en : Int)] 93 (0,0))) (hm : m≤ts.length) : St rb tv ts en m w':=by
  obtain ⟨_,_,h6,ao,cap,hv,hc⟩:=h
  refine ⟨hb,hm,h6,ao,cap,hv,fun hne => ?_⟩
  obtain ⟨b,off,hao,hbr,hcc⟩:=hc hne
  exact ⟨b,off,hao,hbr,fun j u hu => hg.cell (hcc j u hu) (by simpa using hbr)⟩
theorem St.below {rb : Nat} {tv : Value} {ts : List Tok} {en n : Nat} {w w' : World} (h : St rb tv ts en n w) (hb : Below w.heap.size w w') : St rb tv ts en n w':=by
  obtain ⟨h1,h2,h6,ao,cap,hv,hc⟩:=h
  refine ⟨by rw [hb.block rb (Array.getElem?_eq_some_iff.1 h1).1]; exact h1,h2,h6,ao,cap,hv,fun hne => ?_⟩
  obtain ⟨b,off,hao,hbr,hcc⟩:=hc hne
  exact ⟨b,off,hao,hbr,fun j u hu => by
    have h3:=hcc j u hu
    rw [hb.cell (p:=⟨b,off + j,none⟩) (World.block_lt_of_cell? w _ h3)]
    exact h3⟩
theorem grownBy_below {w w' : World} {r : Option Nat} (h : Below w.heap.size w w') : w.grownBy w' r:=⟨h.os,h.tape,h.output,h.size,fun k hk _ => h.block k hk⟩
theorem grownBy_trans {a b c : World} {r : Option Nat} (h : a.grownBy b r) (k : b.grownBy c r) : a.grownBy c r :=
  ⟨k.os.trans h.os,k.tape.trans h.tape,k.output.trans h.output,Nat.le_trans h.size k.size,fun i hi hr => (k.block i (Nat.lt_of_lt_of_le hi h.size) hr).trans (h.block i hi hr)⟩
theorem St.lt {rb : Nat} {tv : Value} {ts : List Tok} {en n : Nat} {w : World} (h : St rb tv ts en n w) : rb < w.heap.size:=(Array.getElem?_eq_some_iff.1 h.1).1
theorem St.cells {rb : Nat} {tv : Value} {ts : List Tok} {en n : Nat} {w : World} (h : St rb tv ts en n w) :
    w.cell? ⟨rb,0,none⟩ = some tv∧w.cell? ⟨rb,1,none⟩ = some (.int .i64 (n : Int))∧w.cell? ⟨rb,2,none⟩ = some (.int .i64 (en : Int))∧w.frozen? ⟨rb,1,none⟩ = false:=by
  have:=h.1
  refine ⟨?_,?_,?_,?_⟩ <;> simp [World.cell?,World.frozen?,this]
def posn (ts : List Tok) (en n : Nat) : Int:=match ts[n]? with | some t => t.pos | none => (en : Int)
def peekT (ts : List Tok) (n : Nat) : Tok:=match ts[n]? with | some t => t | none => ⟨0,0,⟨#[]⟩⟩
/-- a panic of a place. -/
def gaveUpAt (p : Int) : Ending:=.panicked [{ v:=.iface 90 (.int .i64 p),recovered:=false }]
set_option maxHeartbeats 1000000 in
theorem here_any (rb : Nat) (tv : Value) (ts : List Tok) (en n : Nat) (w : World) (h : St rb tv ts en n w) :
    Calls Tryz.prog 93 #[.pointer (some ⟨rb,0,none⟩)] w fun e w' => e = .returned (.int .i64 (posn ts en n))∧Below w.heap.size w w':=by
  obtain ⟨c0,c1,c2,f1⟩:=h.cells
  obtain ⟨_,hn,h6,ao,cap,rfl,hc⟩:=h
  by_cases hlt : n < ts.length
  · obtain ⟨b,off,rfl,hbr,hcc⟩:=hc (by rintro rfl; simp at hlt)
    obtain ⟨q0,q1,q2⟩:=cellsAt hcc hlt
    have hp : posn ts en n = ts[n].pos:=by simp [posn,hlt]
    rw [hp]
    clear hp hcc hc q0 q2
    go_enter Tryz.func93,Tryz.ntmps93
    go_wp2
    go_quiet ((fail))
    go_wp2
    go_quiet ((fail))
    go_wp2
    go_ret
    exact ⟨rfl,below_drewN (below_drewN (Below.refl _ w) _) _⟩
  · have hp : posn ts en n = en:=by simp [posn,hlt]
    rw [hp]
    clear hp hc
    go_enter Tryz.func93,Tryz.ntmps93
    go_wp2
    go_quiet ((fail))
    go_wp2
    go_ret
    exact ⟨rfl,below_drewN (Below.refl _ w) _⟩
set_option maxHeartbeats 1000000 in
theorem giveUp_any (rb : Nat) (tv : Value) (ts : List Tok) (en n : Nat) (w : World) (h : St rb tv ts en n w) :
    Calls Tryz.prog 55 #[.pointer (some ⟨rb,0,none⟩)] w fun e w' => e = gaveUpAt (posn ts en n)∧Below w.heap.size w w':=by
  have H:=hide (here_any rb tv ts en n w h)
  clear h
  go_enter Tryz.func55,Tryz.ntmps55
  go_wp2_with fail
  refine (H.out).mono ?_
  rintro e w1 ⟨rfl,hb⟩
  go_wp2_with fail
  exact ⟨rfl,rfl,hb⟩
set_option maxHeartbeats 1000000 in
theorem peek_any (rb : Nat) (tv : Value) (ts : List Tok) (en n : Nat) (w : World) (h : St rb tv ts en n w) :
    Calls Tryz.prog 92 #[.pointer (some ⟨rb,0,none⟩)] w fun e w' => e = .returned (tokVal (peekT ts n).kind (peekT ts n).pos (peekT ts n).text)∧Below w.heap.size w w':=by
  have hrl:=h.lt
  obtain ⟨c0,c1,c2,f1⟩:=h.cells
  obtain ⟨_,hn,h6,ao,cap,rfl,hc⟩:=h
  by_cases hlt : n < ts.length
  · obtain ⟨b,off,rfl,hbr,hcc⟩:=hc (by rintro rfl; simp at hlt)
    obtain ⟨q0,q1,q2⟩:=cellsAt hcc hlt
    have hbl : b < w.heap.size:=World.block_lt_of_cell? w _ q0
    have hp : peekT ts n = ts[n]:=by simp [peekT,hlt]
    rw [hp]
    obtain ⟨kk,hkk⟩ : ∃ x,x = ts[n].kind:=⟨_,rfl⟩
    obtain ⟨pp,hpp⟩ : ∃ x,x = ts[n].pos:=⟨_,rfl⟩
    obtain ⟨tx,htx⟩ : ∃ x,x = ts[n].text:=⟨_,rfl⟩
    rw [← hkk] at q0 ⊢
    rw [← hpp] at q1 ⊢
    rw [← htx] at q2 ⊢
    clear hp hcc hc hkk hpp htx
    unfold tokVal
    go_enter Tryz.func92,Tryz.ntmps92
    go_wp2
    go_quiet ((fail))
    go_wp2
    go_region
    go_wp2
    refine bodyPost_ret (v:=.agg #[.int .i64 kk,.int .i64 pp,.string tx]) (by simp [results,Tryz.results92,go_sem]) rfl ⟨rfl,?_⟩
    repeat (first | exact Below.refl _ _ | refine Below.setCell ?_ (by simp) _ | refine below_drewN ?_ _ | refine Below.drew ?_ | refine Below.alloc ?_ (by simp) _)
  · have hp : peekT ts n = ⟨0,0,⟨#[]⟩⟩:=by simp [peekT,hlt]
    rw [hp]
    clear hp hc
    unfold tokVal
    go_enter Tryz.func92,Tryz.ntmps92
    go_wp2
    go_quiet ((fail))
    go_wp2
    refine bodyPost_ret (v:=.agg #[.int .i64 0,.int .i64 0,.string ⟨#[]⟩]) (by simp [results,Tryz.results92,go_sem]) rfl ⟨rfl,?_⟩
    repeat (first | exact Below.refl _ _ | refine Below.setCell ?_ (by simp) _ | refine below_drewN ?_ _ | refine Below.drew ?_ | refine Below.alloc ?_ (by simp) _)
def wordsL : List (List UInt8):=[[97,99,116,111,114],[103,114,97,110,116],[115,112,101,97,107],[105,110],[111,117,116],[118,97,114],[102,117,110,99],[109,97,105,110],[103,101,116],[112,117,116],[114,101,118,101,97,108],[116,114,117,115,116],[105,102],[101,108,115,101],[119,104,105,108,101],[114,101,116,117,114,110]]
def isWordB (x : ByteArray) : Bool:=wordsL.contains x.data.toList
theorem ba_of_list {x : ByteArray} {l : List UInt8} (h : x.data.toList = l) : x = ⟨l.toArray⟩:=by
  apply ByteArray.ext
  apply Array.toList_inj.1
  simpa using h
theorem ne_of_list {x : ByteArray} {l : List UInt8} (h : ¬ x.data.toList = l) : (x.toList == l) = false:=by
  rw [ByteArray.toList_eq,beq_eq_false_iff_ne]
  exact h
set_option maxHeartbeats 2000000 in
set_option maxRecDepth 100000 in
theorem isWord_any (x : ByteArray) (w : World) :
    Calls Tryz.prog 108 #[.string x] w fun e w' => e = .returned (.bool (isWordB x))∧w' = w:=by
  by_cases h0 : x.data.toList = [97,99,116,111,114]
  · obtain rfl:=ba_of_list h0
    clear h0
    go_enter Tryz.func108,Tryz.ntmps108
    go_wp2
    go_ret
    exact ⟨rfl,rfl⟩
  by_cases h1 : x.data.toList = [103,114,97,110,116]
  · obtain rfl:=ba_of_list h1
    clear h0 h1
    go_enter Tryz.func108,Tryz.ntmps108
    go_wp2
    go_ret
    exact ⟨rfl,rfl⟩
  by_cases h2 : x.data.toList = [115,112,101,97,107]
  · obtain rfl:=ba_of_list h2
    clear h0 h1 h2
    go_enter Tryz.func108,Tryz.ntmps108
    go_wp2
    go_ret
    exact ⟨rfl,rfl⟩
  by_cases h3 : x.data.toList = [105,110]
  · obtain rfl:=ba_of_list h3
    clear h0 h1 h2 h3
    go_enter Tryz.func108,Tryz.ntmps108
    go_wp2
    go_ret
    exact ⟨rfl,rfl⟩
  by_cases h4 : x.data.toList = [111,117,116]
  · obtain rfl:=ba_of_list h4
    clear h0 h1 h2 h3 h4
    go_enter Tryz.func108,Tryz.ntmps108
    go_wp2
    go_ret
    exact ⟨rfl,rfl⟩
  by_cases h5 : x.data.toList = [118,97,114]
  · obtain rfl:=ba_of_list h5
    clear h0 h1 h2 h3 h4 h5
    go_enter Tryz.func108,Tryz.ntmps108
    go_wp2
    go_ret
    exact ⟨rfl,rfl⟩
  by_cases h6 : x.data.toList = [102,117,110,99]
  · obtain rfl:=ba_of_list h6
    clear h0 h1 h2 h3 h4 h5 h6
    go_enter Tryz.func108,Tryz.ntmps108
    go_wp2
    go_ret
    exact ⟨rfl,rfl⟩
  by_cases h7 : x.data.toList = [109,97,105,110]
  · obtain rfl:=ba_of_list h7
    clear h0 h1 h2 h3 h4 h5 h6 h7
    go_enter Tryz.func108,Tryz.ntmps108
    go_wp2
    go_ret
    exact ⟨rfl,rfl⟩
  by_cases h8 : x.data.toList = [103,101,116]
  · obtain rfl:=ba_of_list h8
    clear h0 h1 h2 h3 h4 h5 h6 h7 h8
    go_enter Tryz.func108,Tryz.ntmps108
    go_wp2
    go_ret
    exact ⟨rfl,rfl⟩
  by_cases h9 : x.data.toList = [112,117,116]
  · obtain rfl:=ba_of_list h9
    clear h0 h1 h2 h3 h4 h5 h6 h7 h8 h9
    go_enter Tryz.func108,Tryz.ntmps108
    go_wp2
    go_ret
    exact ⟨rfl,rfl⟩
  by_cases h10 : x.data.toList = [114,101,118,101,97,108]
  · obtain rfl:=ba_of_list h10
    clear h0 h1 h2 h3 h4 h5 h6 h7 h8 h9 h10
    go_enter Tryz.func108,Tryz.ntmps108
    go_wp2
    go_ret
    exact ⟨rfl,rfl⟩
  by_cases h11 : x.data.toList = [116,114,117,115,116]
  · obtain rfl:=ba_of_list h11
    clear h0 h1 h2 h3 h4 h5 h6 h7 h8 h9 h10 h11
    go_enter Tryz.func108,Tryz.ntmps108
    go_wp2
    go_ret
    exact ⟨rfl,rfl⟩
  by_cases h12 : x.data.toList = [105,102]
  · obtain rfl:=ba_of_list h12
    clear h0 h1 h2 h3 h4 h5 h6 h7 h8 h9 h10 h11 h12
    go_enter Tryz.func108,Tryz.ntmps108
    go_wp2
    go_ret
    exact ⟨rfl,rfl⟩
  by_cases h13 : x.data.toList = [101,108,115,101]
  · obtain rfl:=ba_of_list h13
    clear h0 h1 h2 h3 h4 h5 h6 h7 h8 h9 h10 h11 h12 h13
    go_enter Tryz.func108,Tryz.ntmps108
    go_wp2
    go_ret
    exact ⟨rfl,rfl⟩
  by_cases h14 : x.data.toList = [119,104,105,108,101]
  · obtain rfl:=ba_of_list h14
    clear h0 h1 h2 h3 h4 h5 h6 h7 h8 h9 h10 h11 h12 h13 h14
    go_enter Tryz.func108,Tryz.ntmps108
    go_wp2
    go_ret
    exact ⟨rfl,rfl⟩
  by_cases h15 : x.data.toList = [114,101,116,117,114,110]
  · obtain rfl:=ba_of_list h15
    clear h0 h1 h2 h3 h4 h5 h6 h7 h8 h9 h10 h11 h12 h13 h14 h15
    go_enter Tryz.func108,Tryz.ntmps108
    go_wp2
    go_ret
    exact ⟨rfl,rfl⟩
  have hr : isWordB x = false:=by simp [isWordB,wordsL,h0,h1,h2,h3,h4,h5,h6,h7,h8,h9,h10,h11,h12,h13,h14,h15]
  have HR:=hide hr
  have b0:=ne_of_list h0
  have b1:=ne_of_list h1
  have b2:=ne_of_list h2
  have b3:=ne_of_list h3
  have b4:=ne_of_list h4
  have b5:=ne_of_list h5
  have b6:=ne_of_list h6
  have b7:=ne_of_list h7
  have b8:=ne_of_list h8
  have b9:=ne_of_list h9
  have b10:=ne_of_list h10
  have b11:=ne_of_list h11
  have b12:=ne_of_list h12
  have b13:=ne_of_list h13
  have b14:=ne_of_list h14
  have b15:=ne_of_list h15
  clear hr h0 h1 h2 h3 h4 h5 h6 h7 h8 h9 h10 h11 h12 h13 h14 h15
  go_enter Tryz.func108,Tryz.ntmps108
  go_wp2
  go_ret
  exact ⟨by rw [HR.out]; rfl,rfl⟩
theorem field_text (kk pp : Int) (tx : ByteArray) (w : World) : (Instr.field 44 (.agg #[.int .i64 kk,.int .i64 pp,.string tx]) 2).run Tryz.prog w = .ok (.string tx) w:=by
  simp [Instr.field,run_underlying Tryz.underlying44,go_sem,Result.andThen]
  rfl
theorem field_kind (kk pp : Int) (tx : ByteArray) (w : World) : (Instr.field 44 (.agg #[.int .i64 kk,.int .i64 pp,.string tx]) 0).run Tryz.prog w = .ok (.int .i64 kk) w:=by
  simp [Instr.field,run_underlying Tryz.underlying44,go_sem,Result.andThen]
  rfl
set_option maxHeartbeats 1000000 in
set_option maxRecDepth 100000 in
theorem is_any (rb : Nat) (tv : Value) (ts : List Tok) (en n : Nat) (x : ByteArray) (w : World) (h : St rb tv ts en n w) :
    Calls Tryz.prog 51 #[.pointer (some ⟨rb,0,none⟩),.string x] w fun e w' => e = .returned (.bool ((peekT ts n).text.toList == x.toList))∧Below w.heap.size w w':=by
  have hp:=peek_any rb tv ts en n w h
  obtain ⟨kk,hkk⟩ : ∃ y,y = (peekT ts n).kind:=⟨_,rfl⟩
  obtain ⟨pp,hpp⟩ : ∃ y,y = (peekT ts n).pos:=⟨_,rfl⟩
  obtain ⟨tx,htx⟩ : ∃ y,y = (peekT ts n).text:=⟨_,rfl⟩
  rw [← hkk,← hpp,← htx] at hp
  rw [← htx]
  unfold tokVal at hp
  have H:=hide hp
  clear h hp hkk hpp htx
  go_enter Tryz.func51,Tryz.ntmps51
  go_wp2_with fail
  refine (H.out).mono ?_
  rintro e w1 ⟨rfl,hb⟩
  clear H
  have hft:=field_text kk pp tx
  go_wp2_with fail
  go_ret
  exact ⟨rfl,hb⟩
theorem peek_lt {ts : List Tok} {n : Nat} (h : ¬ (peekT ts n).text.data.toList = []) : n < ts.length:=by
  rcases Nat.lt_or_ge n ts.length with h1 | h1
  · exact h1
  · exfalso
    apply h
    have : ts[n]? = none:=List.getElem?_eq_none h1
    simp [peekT,this]
/-- is the next token that one? -/
def isT (ts : List Tok) (n : Nat) (l : List UInt8) : Bool:=(peekT ts n).text.data.toList == l
def isNameT (t : Tok) : Bool:=(t.kind == 1) && !isWordB t.text
theorem isT_eq (ts : List Tok) (n : Nat) (x : ByteArray) : ((peekT ts n).text.toList == x.toList) = isT ts n x.data.toList:=by
  unfold isT
  rw [ByteArray.toList_eq,ByteArray.toList_eq]
theorem isT_lt {ts : List Tok} {n : Nat} {l : List UInt8} (h : isT ts n l = true) (hl : l≠[]) : n < ts.length :=
  peek_lt (fun h2 => hl (by rw [isT,h2] at h; exact (beq_iff_eq.1 h).symm))
theorem is_at (rb : Nat) (tv : Value) (ts : List Tok) (en n : Nat) (x : ByteArray) (w : World) (h : St rb tv ts en n w) :
    Calls Tryz.prog 51 #[.pointer (some ⟨rb,0,none⟩),.string x] w fun e w' => e = .returned (.bool (isT ts n x.data.toList))∧Below w.heap.size w w':=by
  rw [← isT_eq]
  exact is_any rb tv ts en n x w h
theorem st_next {rb : Nat} {tv : Value} {ts : List Tok} {en n : Nat} {w : World} (h : St rb tv ts en n w) (hn : n < ts.length) :
    St rb tv ts en (n + 1) (w.setCell ⟨rb,1,none⟩ (.int .i64 ((n : Int) + 1)))∧w.grownBy (w.setCell ⟨rb,1,none⟩ (.int .i64 ((n : Int) + 1))) (some rb):=by
  have hg : w.grownBy (w.setCell ⟨rb,1,none⟩ (.int .i64 ((n : Int) + 1))) (some rb) :=
    ⟨rfl,rfl,rfl,by simp [World.setCell],fun k hk hne => Below.heap_setCell _ _ _ _ (fun e => hne (by rw [e]))⟩
  refine ⟨h.keep hg ?_ hn,hg⟩
  have:=h.1
  simp [World.setCell,Array.getElem?_modify,this]
set_option maxHeartbeats 1000000 in
set_option maxRecDepth 100000 in
theorem takes_yes (rb : Nat) (tv : Value) (ts : List Tok) (en n : Nat) (x : ByteArray) (w : World) (h : St rb tv ts en n w) (hx : isT ts n x.data.toList = true) (hn : n < ts.length) :
    Calls Tryz.prog 98 #[.pointer (some ⟨rb,0,none⟩),.string x] w fun e w' => e = .returned (.bool true)∧w.grownBy w' (some rb)∧St rb tv ts en (n + 1) w':=by
  have hi:=is_at rb tv ts en n x w h
  rw [hx] at hi
  have H:=hide hi
  have h6:=h.2.2.1
  clear hi hx
  go_enter Tryz.func98,Tryz.ntmps98
  go_wp2_with fail
  refine (H.out).mono ?_
  rintro e w1 ⟨rfl,hb⟩
  have h1:=h.below hb
  obtain ⟨c0,c1,c2,f1⟩:=h1.cells
  have hb2:=grownBy_below (r:=some rb) hb
  have hst:=st_next h1 hn
  have HST:=hide hst
  clear H h hst h1 hb
  go_wp2_with fail
  go_ret
  exact ⟨rfl,grownBy_trans hb2 HST.out.2,HST.out.1⟩
set_option maxHeartbeats 1000000 in
set_option maxRecDepth 100000 in
theorem takes_no (rb : Nat) (tv : Value) (ts : List Tok) (en n : Nat) (x : ByteArray) (w : World) (h : St rb tv ts en n w) (hx : isT ts n x.data.toList = false) :
    Calls Tryz.prog 98 #[.pointer (some ⟨rb,0,none⟩),.string x] w fun e w' => e = .returned (.bool false)∧Below w.heap.size w w':=by
  have hi:=is_at rb tv ts en n x w h
  rw [hx] at hi
  have H:=hide hi
  clear hi hx
  go_enter Tryz.func98,Tryz.ntmps98
  go_wp2_with fail
  refine (H.out).mono ?_
  rintro e w1 ⟨rfl,hb⟩
  go_wp2_with fail
  go_ret
  exact ⟨rfl,hb⟩
set_option maxHeartbeats 1000000 in
set_option maxRecDepth 100000 in
theorem take_yes (rb : Nat) (tv : Value) (ts : List Tok) (en n : Nat) (x : ByteArray) (w : World) (h : St rb tv ts en n w) (hx : isT ts n x.data.toList = true) (hn : n < ts.length) :
    Calls Tryz.prog 53 #[.pointer (some ⟨rb,0,none⟩),.string x] w fun e w' => e = .returned (.tuple #[])∧w.grownBy w' (some rb)∧St rb tv ts en (n + 1) w':=by
  have H:=hide (takes_yes rb tv ts en n x w h hx hn)
  clear h hx
  go_enter Tryz.func53,Tryz.ntmps53
  go_wp2_with fail
  refine (H.out).mono ?_
  rintro e w1 ⟨rfl,hg,hst⟩
  go_wp2_with fail
  go_end0
  exact ⟨rfl,hg,hst⟩
set_option maxHeartbeats 1000000 in
set_option maxRecDepth 100000 in
theorem take_no (rb : Nat) (tv : Value) (ts : List Tok) (en n : Nat) (x : ByteArray) (w : World) (h : St rb tv ts en n w) (hx : isT ts n x.data.toList = false) :
    Calls Tryz.prog 53 #[.pointer (some ⟨rb,0,none⟩),.string x] w fun e w' => e = gaveUpAt (posn ts en n)∧Below w.heap.size w w':=by
  have H:=hide (takes_no rb tv ts en n x w h hx)
  clear hx
  go_enter Tryz.func53,Tryz.ntmps53
  go_wp2_with fail
  refine (H.out).mono ?_
  rintro e w1 ⟨rfl,hb⟩
  have HG:=hide (giveUp_any rb tv ts en n w1 (h.below hb))
  clear H h
  go_wp2_with fail
  refine (HG.out).mono ?_
  rintro e w2 ⟨rfl,hb2⟩
  unfold gaveUpAt
  go_wp2_with fail
  exact ⟨rfl,rfl,hb.trans (hb2.mono hb.size)⟩
set_option maxHeartbeats 1000000 in
set_option maxRecDepth 100000 in
theorem isName_any (rb : Nat) (tv : Value) (ts : List Tok) (en n : Nat) (w : World) (h : St rb tv ts en n w) :
    Calls Tryz.prog 131 #[.pointer (some ⟨rb,0,none⟩)] w fun e w' => e = .returned (.bool (isNameT (peekT ts n)))∧Below w.heap.size w w':=by
  have hp:=peek_any rb tv ts en n w h
  have hw:=isWord_any (peekT ts n).text
  obtain ⟨r,hr⟩ : ∃ r,r = isNameT (peekT ts n):=⟨_,rfl⟩
  rw [← hr]
  unfold isNameT at hr
  obtain ⟨kk,hkk⟩ : ∃ y,y = (peekT ts n).kind:=⟨_,rfl⟩
  obtain ⟨pp,hpp⟩ : ∃ y,y = (peekT ts n).pos:=⟨_,rfl⟩
  obtain ⟨tx,htx⟩ : ∃ y,y = (peekT ts n).text:=⟨_,rfl⟩
  rw [← hkk,← hpp,← htx] at hp
  rw [← htx] at hw
  rw [← hkk,← htx] at hr
  unfold tokVal at hp
  obtain ⟨wb,hwb⟩ : ∃ y,y = isWordB tx:=⟨_,rfl⟩
  rw [← hwb] at hw hr
  have H:=hide hp
  have HW:=hide hw
  have HR:=hide hr
  clear h hp hkk hpp htx hw hr hwb
  by_cases hk : (kk == 1) = true
  · go_enter Tryz.func131,Tryz.ntmps131
    go_wp2_with fail
    refine (H.out).mono ?_
    rintro e w1 ⟨rfl,hb⟩
    clear H
    go_wp2_with fail
    refine (HW.out _).mono ?_
    rintro e w2 ⟨rfl,rfl⟩
    go_wp2_with fail
    go_ret
    exact ⟨by rw [HR.out,hk]; rfl,hb.alloc hb.size _⟩
  · have hk' : (kk == 1) = false:=by simpa using hk
    clear hk
    go_enter Tryz.func131,Tryz.ntmps131
    go_wp2_with fail
    refine (H.out).mono ?_
    rintro e w1 ⟨rfl,hb⟩
    clear H
    go_wp2_with fail
    go_ret
    exact ⟨by rw [HR.out,hk']; rfl,hb.alloc hb.size _⟩
theorem isNameT_lt {ts : List Tok} {n : Nat} (h : isNameT (peekT ts n) = true) : n < ts.length:=by
  rcases Nat.lt_or_ge n ts.length with h1 | h1
  · exact h1
  · exfalso
    have e : ts[n]? = none:=List.getElem?_eq_none h1
    simp [isNameT,peekT,e] at h
set_option maxHeartbeats 1000000 in
set_option maxRecDepth 100000 in
theorem name_yes (rb : Nat) (tv : Value) (ts : List Tok) (en n : Nat) (w : World) (h : St rb tv ts en n w) (hx : isNameT (peekT ts n) = true) :
    Calls Tryz.prog 95 #[.pointer (some ⟨rb,0,none⟩)] w fun e w' => e = .returned (.string (peekT ts n).text)∧w.grownBy w' (some rb)∧St rb tv ts en (n + 1) w':=by
  have hn:=isNameT_lt hx
  have hi:=isName_any rb tv ts en n w h
  rw [hx] at hi
  have H:=hide hi
  have h6:=h.2.2.1
  clear hi hx
  go_enter Tryz.func95,Tryz.ntmps95
  go_wp2_with fail
  refine (H.out).mono ?_
  rintro e w1 ⟨rfl,hb⟩
  have h1:=h.below hb
  have hp:=peek_any rb tv ts en n w1 h1
  obtain ⟨kk,hkk⟩ : ∃ y,y = (peekT ts n).kind:=⟨_,rfl⟩
  obtain ⟨pp,hpp⟩ : ∃ y,y = (peekT ts n).pos:=⟨_,rfl⟩
  obtain ⟨tx,htx⟩ : ∃ y,y = (peekT ts n).text:=⟨_,rfl⟩
  rw [← hkk,← hpp,← htx] at hp
  unfold tokVal at hp
  have HP:=hide hp
  have HTX:=hide htx
  have hft:=field_text kk pp tx
  clear H hp hkk hpp htx
  go_wp2_with fail
  refine (HP.out).mono ?_
  rintro e w2 ⟨rfl,hb2⟩
  have h2:=h1.below hb2
  obtain ⟨c0,c1,c2,f1⟩:=h2.cells
  have hg:=grownBy_below (r:=some rb) (hb.trans (hb2.mono hb.size))
  have hst:=st_next h2 hn
  have HST:=hide hst
  clear HP h hst h1 h2 hb hb2
  go_wp2_with fail
  go_ret
  exact ⟨by rw [← HTX.out]; rfl,grownBy_trans hg HST.out.2,HST.out.1⟩
set_option maxHeartbeats 1000000 in
set_option maxRecDepth 100000 in
theorem name_no (rb : Nat) (tv : Value) (ts : List Tok) (en n : Nat) (w : World) (h : St rb tv ts en n w) (hx : isNameT (peekT ts n) = false) :
    Calls Tryz.prog 95 #[.pointer (some ⟨rb,0,none⟩)] w fun e w' => e = gaveUpAt (posn ts en n)∧Below w.heap.size w w':=by
  have hi:=isName_any rb tv ts en n w h
  rw [hx] at hi
  have H:=hide hi
  clear hi hx
  go_enter Tryz.func95,Tryz.ntmps95
  go_wp2_with fail
  refine (H.out).mono ?_
  rintro e w1 ⟨rfl,hb⟩
  have HG:=hide (giveUp_any rb tv ts en n w1 (h.below hb))
  clear H h
  go_wp2_with fail
  refine (HG.out).mono ?_
  rintro e w2 ⟨rfl,hb2⟩
  unfold gaveUpAt
  go_wp2_with fail
  exact ⟨rfl,rfl,hb.trans (hb2.mono hb.size)⟩
end Go.Proofs.YtipngnjffjajpaaGreatDoor
