/- token.Scan answers the tokens of any text, or where and why there are none. -/
import Derived.Test.YtleaaflcnpmfdaaScanF
import Derived.Test.YtleaaflcnpmfdaaCatch
import Derived.Test.YtleaaflcnpmfdaaBuild
namespace Go.Proofs.Ytleaaflcnpmfdaa
open Go.RowKit
set_option linter.unusedVariables false

theorem Try.info34 : (Try.prog.info? 34).map (fun i => (i.zero, i.size, i.bytes)) = some (some (.agg #[.int .i64 0, .int .i64 0, .string ⟨#[]⟩]), 3, 32) := by kernel_rfl

theorem below_up {w w' : World} {B : Nat} (h : Below w.heap.size w w') (hB : B ≤ w.heap.size) : Below B w w' := h.mono hB

theorem res_cells (wr : World) (B : Nat) (x y z v m n : Value) (h0 : wr.cell? ⟨B, 0, none⟩ = some x) (h1 : wr.cell? ⟨B + 1, 0, none⟩ = some y) (h2 : wr.cell? ⟨B + 1 + 1, 0, none⟩ = some z) :
    (((wr.setCell ⟨B, 0, none⟩ v).setCell ⟨B + 1, 0, none⟩ m).setCell ⟨B + 1 + 1, 0, none⟩ n).cell? ⟨B, 0, none⟩ = some v ∧
    (((wr.setCell ⟨B, 0, none⟩ v).setCell ⟨B + 1, 0, none⟩ m).setCell ⟨B + 1 + 1, 0, none⟩ n).cell? ⟨B + 1, 0, none⟩ = some m ∧
    (((wr.setCell ⟨B, 0, none⟩ v).setCell ⟨B + 1, 0, none⟩ m).setCell ⟨B + 1 + 1, 0, none⟩ n).cell? ⟨B + 1 + 1, 0, none⟩ = some n := by
  simp [go_sem, h0, h1, h2]

theorem ownsRow_lower {w : World} {base base' : Nat} {e : TypeId} {size : Nat} {v : Value} {n : Nat} {xs : List Value} (h : w.ownsRow base e size v n xs) (hb : base' ≤ base) : w.ownsRow base' e size v n xs := by
  obtain ⟨h1, h2⟩ := h
  refine ⟨h1, ?_⟩
  rcases h2 with h2 | ⟨g, cap, cur, hv, hg, r⟩
  · exact Or.inl h2
  · exact Or.inr ⟨g, cap, cur, hv, by omega, r⟩

theorem after_append {w1 w2 : World} {B : Nat} {e : TypeId} {size : Nat} {v : Value} {n : Nat} {xs : List Value} {o o' : Obj} (hown : w1.ownsRow (B + 3) e size v n xs)
    (hg : ((w1.alloc o).alloc o').grownBy w2 v.ownBlock) (hw1 : B + 3 ≤ w1.heap.size) :
    (∀ b off, b < B + 3 → w2.cell? ⟨b, off, none⟩ = w1.cell? ⟨b, off, none⟩) ∧ (∀ b off, b < B + 3 → w2.frozen? ⟨b, off, none⟩ = w1.frozen? ⟨b, off, none⟩) ∧
    (∀ off, w2.cell? ⟨w1.heap.size, off, none⟩ = (w1.alloc o).cell? ⟨w1.heap.size, off, none⟩) ∧ w1.heap.size + 2 ≤ w2.heap.size ∧ Below B w1 w2 := by
  have hsz : ((w1.alloc o).alloc o').heap.size = w1.heap.size + 2 := by simp
  have hlow : ∀ k, k < B + 3 → w2.heap[k]? = w1.heap[k]? := fun k hk => by
    rw [hg.block k (by omega) (fun h => by have := (hown.lt k h.symm).1; omega), Below.heap_alloc _ _ _ (by simp; omega), Below.heap_alloc _ _ _ (by omega)]
  have htop : w2.heap[w1.heap.size]? = (w1.alloc o).heap[w1.heap.size]? := by
    rw [hg.block _ (by omega) (fun h => by have := (hown.lt _ h.symm).2; omega), Below.heap_alloc _ _ _ (by simp)]
  refine ⟨fun b off hb => World.cell?_of_block (hlow b hb), fun b off hb => World.frozen?_of_block (hlow b hb), fun off => World.cell?_of_block htop, by have := hg.size; omega, ?_⟩
  exact ⟨hg.os, hg.tape, hg.output, by have := hg.size; omega, fun k hk => hlow k (by omega)⟩

def scanRel (s : ByteArray) (w : World) (B : Nat) (vi : Value) (wr : World) : Prop :=
  ∃ (i f : Nat) (ts : List Tok) (v : Value), vi = .int .i64 ((skipL false s.data.toList i : Nat) : Int) ∧ i ≤ s.size ∧ s.size < f + i ∧ scanS s = pre ts (scanF s f false i) ∧ ts.length ≤ i ∧
    wr.cell? ⟨B, 0, none⟩ = some v ∧ wr.cell? ⟨B + 1, 0, none⟩ = some (.int .i64 0) ∧ wr.cell? ⟨B + 1 + 1, 0, none⟩ = some (.int .i64 0) ∧
    wr.frozen? ⟨B, 0, none⟩ = false ∧ wr.frozen? ⟨B + 1, 0, none⟩ = false ∧ wr.frozen? ⟨B + 1 + 1, 0, none⟩ = false ∧
    wr.ownsRow (B + 3) 34 3 v ts.length (toksCells ts) ∧ Below B w wr ∧ B + 3 ≤ wr.heap.size

set_option maxHeartbeats 1000000 in
set_option maxRecDepth 100000 in
theorem scan_any (s : ByteArray) (hs : s.size ≤ 6000) (w : World) :
    Calls Try.prog 13 #[.string s] w fun e w' => ∃ v, e = .returned (.tuple #[v, .int .i64 (scanPos s : Int), .int .i64 (scanErr s : Int)]) ∧
      w'.ownsRow w.heap.size 34 3 v (scanToks s).length (toksCells (scanToks s)) ∧ Below w.heap.size w w' := by
  have hmf : ∀ (fn : Fn) (first cap : Array Value) (w : World), (Instr.makeFunc fn first cap).run Try.prog w = .ok (.func fn first cap) w := fun _ _ _ _ => rfl
  obtain ⟨i0, hi, hz0, hz1, hz2⟩ := info_parts Try.info34
  go_enter_defers Try.func13, Try.ntmps13
  go_wp2_with fail
  refine (skip_any s 0 (Nat.zero_le _) hs _).mono ?_
  rintro e w' ⟨rfl, rfl⟩
  go_wp2_with fail
  go_loopw [5] (fun i wr => scanRel s w w.heap.size i wr) (fun i _ => s.size - (intOf i).toNat)
  case atStart =>
    refine ⟨0, s.size + 1, [], .slice none 0 0, rfl, Nat.zero_le _, by omega, (pre_nil _).symm, Nat.zero_le _, by simp [go_sem], by simp [go_sem], by simp [go_sem], by simp [go_sem], by simp [go_sem], by simp [go_sem], World.ownsRow_nil _ _ _ _, ?_, by simp⟩
    exact (((Below.refl _ w).alloc (Nat.le_refl _) _).alloc (by simp) _).alloc (by simp; omega) _
  case round =>
    obtain ⟨i, f, ts, v, rfl, hi1, hf1, hsc, htl, c0, c1, c2, f0, f1, f2, hown, hbel, hsz⟩ := hrel
    have HSC := hide hsc
    clear hsc
    have hj := skipL_le (note := false) (l := s.data.toList) (i := i) (by simpa using hi1)
    have hj' : skipL false s.data.toList i ≤ s.size := by simpa using hj
    have hji := skipL_ge false s.data.toList i
    obtain ⟨j, hjj⟩ : ∃ j, j = skipL false s.data.toList i := ⟨_, rfl⟩
    rw [← hjj] at hj' hji ⊢
    have HJ := hide hjj
    clear hjj hj
    obtain ⟨ao, cap, rfl⟩ := ownsRow_slice hown
    by_cases hlt : j < s.size
    · go_wp2_with fail
      refine (next_any s j hlt hs _).mono ?_
      rintro e w1 ⟨rfl, hb1⟩
      obtain ⟨hc, hf⟩ := bcell hb1
      by_cases he : tokErr s j = 0
      · simp only [nextSaid, he, if_true, tokVal]
        have hw1 : w.heap.size + 3 ≤ w1.heap.size := by have := hb1.size; omega
        have c0' := (hc w.heap.size 0 (by omega)).trans c0
        have c1' := (hc (w.heap.size + 1) 0 (by omega)).trans c1
        have c2' := (hc (w.heap.size + 1 + 1) 0 (by omega)).trans c2
        have f0' := (hf w.heap.size 0 (by omega)).trans f0
        have f1' := (hf (w.heap.size + 1) 0 (by omega)).trans f1
        have f2' := (hf (w.heap.size + 1 + 1) 0 (by omega)).trans f2
        have hown1 := ownsRow_over hown hb1
        have hbel1 : Below w.heap.size w w1 := hbel.trans (hb1.mono (by omega))
        clear hc hf c0 c1 c2 f0 f1 f2 hown hbel hb1
        have g0 : w.heap.size < w1.heap.size := by omega
        have g1 : w.heap.size + 1 < w1.heap.size := by omega
        have g2 : w.heap.size + 1 + 1 < w1.heap.size := by omega
        have hend := tokKN_end he
        have hTok : tokAt s j = ⟨(tokKN s j).1, j, s.extract j (tokKN s j).2⟩ := rfl
        have hxs : (s.extract j (tokKN s j).2).size = (tokKN s j).2 - j := by simp; omega
        obtain ⟨kk, hkk⟩ : ∃ kk, kk = (tokKN s j).1 := ⟨_, rfl⟩
        obtain ⟨en, hen⟩ : ∃ en, en = (tokKN s j).2 := ⟨_, rfl⟩
        rw [← hkk, ← hen] at hTok ⊢
        rw [← hen] at hend hxs
        obtain ⟨tx, htx⟩ : ∃ tx, tx = s.extract j en := ⟨_, rfl⟩
        rw [← htx] at hTok hxs ⊢
        have HT := hide hTok
        have HX := hide hxs
        have HEN := hide hen
        clear hTok hxs hkk hen htx
        go_wp2_with (at_builtin; refine wpList_append_own _ rfl _ _ 22 rfl (w.heap.size + 3) 34 i0 (.agg #[.int .i64 0, .int .i64 0, .string ⟨#[]⟩]) 3 32 Try.underlying22 hi hz0 hz1 hz2 rfl (by decide) _ _ _ rfl ((hown1.alloc _).alloc _) ⟨w1.heap.size + 1, 0, none⟩ 1 1 [.int .i64 (kk : Int), .int .i64 (j : Int), .string tx] rfl rfl ?c1 ?c2 ?c3 ?c4 ?c5 ?_)
        case c1 =>
          intro q u hq
          match q, hq with
          | 0, hq => simp at hq; subst hq; simp [Addr.add]
          | 1, hq => simp at hq; subst hq; simp [Addr.add]
          | 2, hq => simp at hq; subst hq; simp [Addr.add]
        case c2 => intro u hu; simp at hu; rcases hu with rfl | rfl | rfl <;> rfl
        case c3 => unfold maxLen; omega
        case c4 => omega
        case c5 => simp; omega
        · intro v' w2 hown2 hgrow hne
          obtain ⟨hc2, hf2, ht2, hs2, hb2⟩ := after_append hown1 hgrow hw1
          have c0' := (hc2 w.heap.size 0 (by omega)).trans c0'
          have c1' := (hc2 (w.heap.size + 1) 0 (by omega)).trans c1'
          have c2' := (hc2 (w.heap.size + 1 + 1) 0 (by omega)).trans c2'
          have f0' := (hf2 w.heap.size 0 (by omega)).trans f0'
          have f1' := (hf2 (w.heap.size + 1) 0 (by omega)).trans f1'
          have f2' := (hf2 (w.heap.size + 1 + 1) 0 (by omega)).trans f2'
          have t2 : w2.cell? ⟨w1.heap.size, 2, none⟩ = some (.string tx) := by rw [ht2 2]; simp [go_sem]
          have hbel2 : Below w.heap.size w w2 := hbel1.trans hb2
          obtain ⟨ao', cap', rfl⟩ := ownsRow_slice hown2
          clear hc2 hf2 ht2 hb2 hown1 hbel1 hgrow hne
          have htb : tx.size ≤ 6000 := by have := HX.out; omega
          go_wp2_with fail
          rw [show ((j : Int) + (tx.size : Int)) = ((en : Nat) : Int) from by have := HX.out; omega]
          refine (skip_any s en hend.2 hs _).mono ?_
          rintro e w' ⟨rfl, rfl⟩
          have R : scanRel s w w.heap.size (.int .i64 ((skipL false s.data.toList en : Nat) : Int)) (w2.setCell { block := w.heap.size, off := 0 } (Value.slice ao' (ts.length + 1) cap')) := by
            obtain ⟨f', rfl⟩ : ∃ f', f = f' + 1 := ⟨f - 1, by omega⟩
            have hst := scan_step HSC.out (by rw [← HJ.out]; exact hlt) (by rw [← HJ.out]; exact he)
            rw [← HJ.out, ← HEN.out, HT.out] at hst
            refine ⟨en, f', ts ++ [⟨kk, j, tx⟩], .slice ao' (ts.length + 1) cap', rfl, hend.2, by omega, hst, by simp; omega, by simp [go_sem, c0'], by simp [go_sem, c1'], by simp [go_sem, c2'], by simp [go_sem, f0'], by simp [go_sem, f1'], by simp [go_sem, f2'], ?_, hbel2.setCell (by simp) _, by simp [World.setCell]; omega⟩
            rw [toksCells_snoc, List.length_append]
            exact ownsRow_setCell_below hown2 (by simp) _
          have hm := skipL_ge false s.data.toList en
          go_wp2_with fail
          refine ⟨R, ?_⟩
          simp [intOf]; omega
      · simp only [nextSaid, he, if_false, gaveUp]
        go_wp2_with fail
        refine leaves_cons (f := 18) (args := #[.pointer (some ⟨w.heap.size, 0, none⟩), .pointer (some ⟨w.heap.size + 1, 0, none⟩), .pointer (some ⟨w.heap.size + 1 + 1, 0, none⟩)]) (by simp) (by simp [go_sem]) ?_
        refine (catch_place w.heap.size _ 0 0 _ _ [] _ (by have := hb1.size; omega) ((hc _ _ (by omega)).trans c0) ((hc _ _ (by omega)).trans c1) ((hc _ _ (by omega)).trans c2) ((hf _ _ (by omega)).trans f0) ((hf _ _ (by omega)).trans f1) ((hf _ _ (by omega)).trans f2)).mono ?_
        rintro e u' w2 ⟨rfl, rfl, d0, d1, d2, hb2⟩
        have hst := HSC.out
        obtain ⟨f', rfl⟩ : ∃ f', f = f' + 1 := ⟨f - 1, by omega⟩
        have hst' := scan_stop hst (by rw [← HJ.out]; exact hlt) (by rw [← HJ.out]; exact he)
        rw [← HJ.out] at hst'
        have hT : scanToks s = [] := by simp [scanToks, hst']
        have hP : scanPos s = j := by simp [scanPos, hst']
        have hE : scanErr s = tokErr s j := by simp [scanErr, hst']
        have hbb : Below w.heap.size w w2 := (hbel.trans (hb1.mono (by omega))).trans hb2
        simp [Leaves, settle, results, Try.results13, go_sem, d0, d1, d2, hT, hP, hE]
        exact ⟨World.ownsRow_nil _ _ _ _, hbb⟩
    · go_wp2_with fail
      refine leaves_cons (f := 18) (args := #[.pointer (some ⟨w.heap.size, 0, none⟩), .pointer (some ⟨w.heap.size + 1, 0, none⟩), .pointer (some ⟨w.heap.size + 1 + 1, 0, none⟩)]) (by simp) (by simp [go_sem]) ?_
      refine (catch_idle _ _ _ _).mono ?_
      rintro e u' w2 ⟨rfl, rfl, rfl⟩
      obtain ⟨d0, d1, d2⟩ := res_cells wr w.heap.size _ _ _ (.slice ao ts.length cap) (.int .i64 0) (.int .i64 0) c0 c1 c2
      have hst := HSC.out
      obtain ⟨f', rfl⟩ : ∃ f', f = f' + 1 := ⟨f - 1, by omega⟩
      have hst' := scan_end hst (by rw [← HJ.out]; exact hlt)
      have hT : scanToks s = ts := by simp [scanToks, hst']
      have hP : scanPos s = 0 := by simp [scanPos, hst']
      have hE : scanErr s = 0 := by simp [scanErr, hst']
      have hbb : Below w.heap.size w (((wr.setCell ⟨w.heap.size, 0, none⟩ (.slice ao ts.length cap)).setCell ⟨w.heap.size + 1, 0, none⟩ (.int .i64 0)).setCell ⟨w.heap.size + 1 + 1, 0, none⟩ (.int .i64 0)) :=
        ((hbel.setCell (by simp) _).setCell (by simp) _).setCell (by simp; omega) _
      have ho2 : (((wr.setCell ⟨w.heap.size, 0, none⟩ (.slice ao ts.length cap)).setCell ⟨w.heap.size + 1, 0, none⟩ (.int .i64 0)).setCell ⟨w.heap.size + 1 + 1, 0, none⟩ (.int .i64 0)).ownsRow w.heap.size 34 3 (.slice ao ts.length cap) ts.length (toksCells ts) :=
        ownsRow_lower (ownsRow_setCell_below (ownsRow_setCell_below (ownsRow_setCell_below hown (by simp) _) (by simp) _) (by simp) _) (by omega)
      generalize (((wr.setCell ⟨w.heap.size, 0, none⟩ (.slice ao ts.length cap)).setCell ⟨w.heap.size + 1, 0, none⟩ (.int .i64 0)).setCell ⟨w.heap.size + 1 + 1, 0, none⟩ (.int .i64 0)) = wF at d0 d1 d2 hbb ho2 ⊢
      simp [Leaves, settle, results, Try.results13, go_sem, d0, d1, d2, hT, hP, hE]
      exact ⟨ho2, hbb⟩

/-- what Scan answers of a text: its tokens, where, why. -/
def Scanned (s : ByteArray) (w : World) (e : Ending) (w' : World) : Prop :=
  ∃ (v : Value) (ts : List Tok) (p r : Nat), e = .returned (.tuple #[v, .int .i64 (p : Int), .int .i64 (r : Int)]) ∧
    w'.ownsRow w.heap.size 34 3 v ts.length (toksCells ts) ∧ Below w.heap.size w w' ∧
    (if s.size ≤ 6000 then ts = scanToks s ∧ p = scanPos s ∧ r = scanErr s else ts = [] ∧ p = 0 ∧ r = 2)

set_option maxHeartbeats 400000 in
theorem Scan_any (s : ByteArray) (hs : s.size ≤ maxLen) (w : World) : Calls Try.prog 7 #[.string s] w (Scanned s w) := by
  unfold maxLen at hs
  by_cases h : s.size ≤ 6000
  · go_enter Try.func7, Try.ntmps7
    go_wp2_with fail
    refine (scan_any s h _).mono ?_
    rintro e w1 ⟨v, rfl, hown, hb⟩
    go_wp2_with fail
    go_ret3
    exact ⟨v, scanToks s, scanPos s, scanErr s, rfl, hown, hb, by rw [if_pos h]; exact ⟨rfl, rfl, rfl⟩⟩
  · go_enter Try.func7, Try.ntmps7
    go_wp2_with fail
    go_ret3
    exact ⟨.slice none 0 0, [], 0, 2, rfl, World.ownsRow_nil _ _ _ _, Below.refl _ _, by rw [if_neg h]; exact ⟨rfl, rfl, rfl⟩⟩
end Go.Proofs.Ytleaaflcnpmfdaa
