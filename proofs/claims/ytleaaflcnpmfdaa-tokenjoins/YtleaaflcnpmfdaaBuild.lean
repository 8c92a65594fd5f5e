/- A strings.Builder that the call itself made takes a byte, or a text, behind what it holds. -/
import Derived.Test.YtleaaflcnpmfdaaCut
import Derived.Lib.AppendStr
import Derived.Lib.Builder
import Derived.Laws.Externs
namespace Go.Proofs.Ytleaaflcnpmfdaa
open Go.RowKit
set_option linter.unusedVariables false

theorem ownsRow_slice {w : World} {base : Nat} {e : TypeId} {size : Nat} {v : Value} {n : Nat} {xs : List Value} (h : w.ownsRow base e size v n xs) : ∃ ao cap, v = .slice ao n cap := by
  rcases h.2 with ⟨rfl, rfl⟩ | ⟨g, cap, cur, rfl, _⟩
  · exact ⟨_, _, rfl⟩
  · exact ⟨_, _, rfl⟩

/-- rows of other types than a builder's own are as they were. -/
def Keeps (w w' : World) : Prop := ∀ (g : Nat) (cs : Array Value) (T : TypeId) (fr : Nat × Nat), w.heap[g]? = some (Obj.cells cs T fr) → T ≠ 48 → T ≠ 5 → w'.heap[g]? = some (Obj.cells cs T fr)

theorem Keeps.refl (w : World) : Keeps w w := fun _ _ _ _ h _ _ => h
theorem Keeps.trans {a b c : World} (h : Keeps a b) (k : Keeps b c) : Keeps a c := fun g cs T fr hg h1 h2 => k g cs T fr (h g cs T fr hg h1 h2) h1 h2
theorem Keeps.alloc (w : World) (o : Obj) : Keeps w (w.alloc o) := fun g cs T fr hg _ _ => by
  rw [Below.heap_alloc _ _ _ (Array.getElem?_eq_some_iff.1 hg).1]; exact hg
theorem Keeps.setCell {w : World} {b : Nat} {cs : Array Value} {fr : Nat × Nat} (hb : w.heap[b]? = some (.cells cs 48 fr)) (o : Nat) (v : Value) : Keeps w (w.setCell ⟨b, o, none⟩ v) := fun g cs' T fr' hg h1 _ => by
  rw [Below.heap_setCell _ _ _ _ (fun e => ?_)]
  · exact hg
  · simp only at e
    rw [e] at hg
    rw [hg] at hb
    simp at hb
    exact h1 hb.2.1
theorem Keeps.grown {w w' : World} {B : Nat} {v : Value} {n : Nat} {xs : List Value} (hown : w.ownsRow B 5 1 v n xs) (hg : w.grownBy w' v.ownBlock) : Keeps w w' := fun g cs T fr hh _ h2 => by
  rw [hg.block g (Array.getElem?_eq_some_iff.1 hh).1 (fun e => ?_)]
  · exact hh
  · rcases hown.2 with ⟨rfl, _⟩ | ⟨g', cap, cur, rfl, _, hk, _⟩
    · simp [Value.ownBlock] at e
    · simp [Value.ownBlock] at e
      subst e
      rw [hk] at hh
      simp at hh
      exact h2 hh.2.1.symm

theorem Try.size48 : (Try.prog.info? 48).map (·.size) = some 2 := by kernel_rfl
theorem Try.lies48 : liesAt Try.prog Try.prog.depth 48 (2 / Try.prog.cellsOf 48) 0 48 1 = true := by kernel_rfl
theorem Try.run39 (x : Value) (w : World) : (callFunc 39 #[x]).run Try.prog w = .ok (.value x) w := by
  rw [run_callFunc_extern Try.func39 (by kernel_rfl) (by kernel_rfl) (by kernel_rfl) (e := Extern.AbiNoEscape.same) (by kernel_rfl), Lib.run_noEscape]
  rfl

set_option maxHeartbeats 1000000 in
set_option maxRecDepth 100000 in
theorem bCheck_any (B b : Nat) (bs : List Value) (w : World) (h : Lib.IsBuilder 48 5 B b bs w) :
    Calls Try.prog 34 #[.pointer (some ⟨b, 0, none⟩)] w fun e w' => e = .returned (.tuple #[]) ∧ Lib.BuilderAt 48 5 B b (.pointer (some ⟨b, 0, none⟩)) bs w' ∧ Below B w w' ∧ Keeps w w' := by
  obtain ⟨j, hj, hjs⟩ := Option.map_eq_some_iff.1 Try.size48
  rcases h with h | h
  · have c0 := h.cell0
    have f0 := h.frozen0
    have hto := Lib.run_to_unsafe w ⟨b, 0, none⟩ Try.underlying45 Try.underlying61 hj (by rw [hjs]; decide) h.shape (Nat.zero_lt_succ 1)
    have hno := Try.run39
    have hfrom := Lib.run_from_unsafe w ⟨b, 0, none⟩ Try.underlying61 Try.underlying45 hj h.shape Try.lies48
    have hfin : Lib.BuilderAt 48 5 B b (.pointer (some ⟨b, 0, none⟩)) bs (w.setCell ⟨b, 0, none⟩ (.pointer (some ⟨b, 0, none⟩))) ∧ Below B w (w.setCell ⟨b, 0, none⟩ (.pointer (some ⟨b, 0, none⟩))) ∧ Keeps w (w.setCell ⟨b, 0, none⟩ (.pointer (some ⟨b, 0, none⟩))) :=
      ⟨h.used _, (Below.refl B w).setCell (p := ⟨b, 0, none⟩) h.1 _, by obtain ⟨_, v, hk, _⟩ := h; exact Keeps.setCell hk _ _⟩
    have HF := hide hfin
    clear hfin h hjs hj
    go_enter Try.func34, Try.ntmps34
    go_wp2
    go_end0
    exact ⟨rfl, HF.out⟩
  · have c0 := h.cell0
    have hne := Lib.run_neq_ptr_same w ⟨b, 0, none⟩ Try.underlying45 hj
    have HF := hide h
    clear h hjs hj
    go_enter Try.func34, Try.ntmps34
    go_wp2
    go_end0
    exact ⟨rfl, HF.out, Below.refl B w, Keeps.refl w⟩

theorem lt_of_heap {w : World} {b : Nat} {o : Obj} (h : w.heap[b]? = some o) : b < w.heap.size := (Array.getElem?_eq_some_iff.1 h).1

set_option maxHeartbeats 1000000 in
set_option maxRecDepth 100000 in
theorem bByte_any (B b : Nat) (bs : List Value) (c : Int) (w : World) (h : Lib.IsBuilder 48 5 B b bs w) (hl : bs.length ≤ 100000) (hBw : B ≤ w.heap.size) :
    Calls Try.prog 23 #[.pointer (some ⟨b, 0, none⟩), .int .u8 c] w fun e w' => e = .returned .nilIface ∧ Lib.BuilderAt 48 5 B b (.pointer (some ⟨b, 0, none⟩)) (bs ++ [.int .u8 c]) w' ∧ Below B w w' ∧ Keeps w w' := by
  obtain ⟨i0, hi, hz0, hz1, hz2⟩ := info_parts Try.info5
  go_enter Try.func23, Try.ntmps23
  go_wp2_with fail
  refine (bCheck_any B b bs _ h).mono ?_
  rintro e w1 ⟨rfl, ⟨hB, v, hk, hown, hne⟩, hb1, hk1⟩
  have k1 : w1.cell? ⟨b, 1, none⟩ = some v := by rw [Lib.cell_of_heap hk]; rfl
  have hlt := lt_of_heap hk
  obtain ⟨ao, cap, rfl⟩ := ownsRow_slice hown
  go_wp2_with (at_builtin; refine wpList_append_own _ rfl _ _ 46 rfl B 5 i0 (.int .u8 0) 1 1 Try.underlying46 hi hz0 hz1 hz2 rfl (by decide) _ _ _ rfl (hown.alloc _) ⟨w1.heap.size, 0, none⟩ 1 1 [.int .u8 c] rfl rfl ?c1 ?c2 ?c3 ?c4 ?c5 ?_)
  case c1 =>
    intro j u hj
    match j, hj with
    | 0, hj => simp at hj; subst hj; simp [Addr.add]
  case c2 => intro u hu; simp at hu; subst hu; rfl
  case c3 => unfold maxLen; omega
  case c4 => omega
  case c5 => have := hb1.size; simp; omega
  · intro v' w2 hown' hgrow _
    have hk2 : w2.heap[b]? = some (.cells #[.pointer (some ⟨b, 0, none⟩), .slice ao bs.length cap] 48 (0, 0)) := by
      rw [hgrow.block b (by simp; omega) (fun e => hne e.symm), Lib.alloc_old w1 _ b hlt]
      exact hk
    have d1 : w2.cell? ⟨b, 1, none⟩ = some (.slice ao bs.length cap) := by rw [Lib.cell_of_heap hk2]; rfl
    have f1 : w2.frozen? ⟨b, 1, none⟩ = false := Lib.frozen_of_heap hk2 1
    have hkp : Keeps w (w2.setCell ⟨b, 1, none⟩ v') := ((hk1.trans (Keeps.alloc w1 _)).trans (Keeps.grown (hown.alloc _) hgrow)).trans (Keeps.setCell hk2 _ _)
    have hbel : Below B w w2 := (hb1.alloc (by have := hb1.size; omega) _).grown hgrow (by have := hb1.size; simp; omega) (fun k hk => (hown.lt k hk).1)
    obtain ⟨ao', cap', rfl⟩ := ownsRow_slice hown'
    have R := Lib.BuilderAt.put (T := 48) (e := 5) hB hk2 (bs' := bs ++ [.int .u8 c]) (by simpa using hown') (by decide)
    have HR := hide R
    have HK := hide hkp
    clear R k1 hown hgrow hown' hkp hk1
    go_wp2
    go_ret
    exact ⟨rfl, HR.out, hbel.setCell (p := ⟨b, 1, none⟩) hB _, HK.out⟩

set_option maxHeartbeats 1000000 in
set_option maxRecDepth 100000 in
theorem bStr_any (B b : Nat) (bs : List Value) (s : ByteArray) (w : World) (h : Lib.IsBuilder 48 5 B b bs w) (hl : bs.length ≤ 100000) (hs : s.size ≤ 6000) (hBw : B ≤ w.heap.size) :
    Calls Try.prog 24 #[.pointer (some ⟨b, 0, none⟩), .string s] w fun e w' => e = .returned (.tuple #[.int .i64 s.size, .nilIface]) ∧ Lib.BuilderAt 48 5 B b (.pointer (some ⟨b, 0, none⟩)) (bs ++ Lib.strCells s) w' ∧ Below B w w' ∧ Keeps w w' := by
  obtain ⟨i0, hi, hz0, hz1, hz2⟩ := info_parts Try.info5
  go_enter Try.func24, Try.ntmps24
  go_wp2_with fail
  refine (bCheck_any B b bs _ h).mono ?_
  rintro e w1 ⟨rfl, ⟨hB, v, hk, hown, hne⟩, hb1, hk1⟩
  have k1 : w1.cell? ⟨b, 1, none⟩ = some v := by rw [Lib.cell_of_heap hk]; rfl
  have hlt := lt_of_heap hk
  obtain ⟨ao, cap, rfl⟩ := ownsRow_slice hown
  go_wp2_with (at_builtin; refine Lib.wpList_append_own_string _ rfl _ _ 46 9 rfl B 5 i0 Try.underlying46 Try.underlying9 hi hz0 hz1 hz2 _ _ _ rfl hown s rfl ?c3 ?c4 ?c5 ?_)
  case c3 => unfold maxLen; omega
  case c4 => omega
  case c5 => have := hb1.size; omega
  · intro v' w2 hown' hgrow _
    have hk2 : w2.heap[b]? = some (.cells #[.pointer (some ⟨b, 0, none⟩), .slice ao bs.length cap] 48 (0, 0)) := by
      rw [hgrow.block b hlt (fun e => hne e.symm)]
      exact hk
    have d1 : w2.cell? ⟨b, 1, none⟩ = some (.slice ao bs.length cap) := by rw [Lib.cell_of_heap hk2]; rfl
    have f1 : w2.frozen? ⟨b, 1, none⟩ = false := Lib.frozen_of_heap hk2 1
    have hkp : Keeps w (w2.setCell ⟨b, 1, none⟩ v') := (hk1.trans (Keeps.grown hown hgrow)).trans (Keeps.setCell hk2 _ _)
    have hbel : Below B w w2 := hb1.grown hgrow (by have := hb1.size; omega) (fun k hk => (hown.lt k hk).1)
    obtain ⟨ao', cap', rfl⟩ := ownsRow_slice hown'
    have R := Lib.BuilderAt.put (T := 48) (e := 5) hB hk2 (bs' := bs ++ Lib.strCells s) (by simpa [Lib.strCells_length] using hown') (by decide)
    have HR := hide R
    have HK := hide hkp
    clear R k1 hown hgrow hown' hkp hk1
    go_wp2
    go_ret2
    exact ⟨rfl, HR.out, hbel.setCell (p := ⟨b, 1, none⟩) hB _, HK.out⟩

theorem builderAt_alloc {B b : Nat} {p : Value} {bs : List Value} {w : World} (h : Lib.BuilderAt 48 5 B b p bs w) (o : Obj) : Lib.BuilderAt 48 5 B b p bs (w.alloc o) := by
  obtain ⟨hB, v, hk, hown, hne⟩ := h
  exact ⟨hB, v, (Lib.alloc_old w _ b (lt_of_heap hk)).trans hk, hown.alloc _, hne⟩

theorem isBuilder_alloc {B b : Nat} {bs : List Value} {w : World} (h : Lib.IsBuilder 48 5 B b bs w) (o : Obj) : Lib.IsBuilder 48 5 B b bs (w.alloc o) := by
  rcases h with h | h
  · exact Or.inl (builderAt_alloc h o)
  · exact Or.inr (builderAt_alloc h o)
end Go.Proofs.Ytleaaflcnpmfdaa
