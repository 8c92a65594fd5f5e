/- What is caught where nothing is given up; scope.Check of the small program. -/
import Derived.Test.YtpbnmmgocpobcaaM19
import Derived.Test.YtpbnmmgocpobcaaM08
import Derived.Laws.AppendOwnNone
namespace Go.Proofs.Ytpbnmmgocpobcaa.Ex
open Go.RowKit
set_option linter.unusedVariables false

set_option maxHeartbeats 1000000 in
theorem catch_idle (p q : Addr) (w : World) :
    CallsD Try.prog 37 #[.pointer (some p), .pointer (some q)] .returning w fun e u' w' => e = .returned (.tuple #[]) ∧ u' = .returning ∧ w' = w := by
  refine callsD_of_wpS Try.func37 rfl fun c₀ cs hu => ?_
  apply wpS_seq
  apply wpS_region
  simp [wpOpsS, go_sem, recoverD, hu, Try.ntmps37, Exit.thenS]
  refine wpS_of_wp ?_
  change Code.wp Try.prog _ _ { tmps := #[.pointer (some p), .pointer (some q), .nilIface, undef, .nilIface, undef, undef, undef, undef, undef, undef, undef, undef], defers := [] } w
  go_wp2
  cases c₀
  simp_all [bodyPostS, results, Try.results37]

theorem call37 (args : Array Value) (w : World) : (callFunc 27 args).run Try.prog w = .ok (.enter 27 args) w := by simp [go_sem]

set_option maxHeartbeats 1000000 in
set_option maxRecDepth 100000 in
theorem caught_small (bi bo bv bm : Nat) (w : World) (h : Small bi bo bv bm w) : Calls Try.prog 26 #[.func (.func 27) #[smallV bi bo bv bm] #[]] w fun e w' => e = .returned (.tuple #[.int .i64 0, .int .i64 0]) ∧ Below w.heap.size w w' := by
  have hmf : ∀ (fn : Fn) (first cap : Array Value) (w : World), (Instr.makeFunc fn first cap).run Try.prog w = .ok (.func fn first cap) w := fun _ _ _ _ => rfl
  have HC := call37
  have hbel : Below w.heap.size w ((w.alloc (.cells #[.int .i64 0] 3)).alloc (.cells #[.int .i64 0] 36)) := ((Below.refl _ w).alloc (Nat.le_refl _) _).alloc (by simp) _
  have K := hide (check_small bi bo bv bm _ (h.over hbel))
  have q0 : ((w.alloc (.cells #[.int .i64 0] 3)).alloc (.cells #[.int .i64 0] 36)).cell? ⟨w.heap.size, 0, none⟩ = some (.int .i64 0) := by simp [go_sem]
  have q1 : ((w.alloc (.cells #[.int .i64 0] 3)).alloc (.cells #[.int .i64 0] 36)).cell? ⟨w.heap.size + 1, 0, none⟩ = some (.int .i64 0) := by simp [go_sem]
  have z0 : ((w.alloc (.cells #[.int .i64 0] 3)).alloc (.cells #[.int .i64 0] 36)).frozen? ⟨w.heap.size, 0, none⟩ = false := by simp [go_sem]
  have z1 : ((w.alloc (.cells #[.int .i64 0] 3)).alloc (.cells #[.int .i64 0] 36)).frozen? ⟨w.heap.size + 1, 0, none⟩ = false := by simp [go_sem]
  clear h
  unfold smallV at K ⊢
  go_enter_defers Try.func26, Try.ntmps26
  go_wp2_with fail
  refine (K.out).mono ?_
  rintro e w1 ⟨rfl, hb1⟩
  obtain ⟨hc, hf⟩ := bcell hb1
  have hB1 := hbel.trans (hb1.mono hbel.size)
  have p0 := cell_over hb1 _ _ q0
  have p1 := cell_over hb1 _ _ q1
  have y0 := (hf w.heap.size 0 (by simp; omega)).trans z0
  have y1 := (hf (w.heap.size + 1) 0 (by simp)).trans z1
  have g1 : w.heap.size + 1 < w1.heap.size := World.block_lt_of_cell? w1 _ p1
  have g0 : w.heap.size < w1.heap.size := by omega
  clear hc hf q0 q1 z0 z1 hb1 K hbel
  go_wp2_with fail
  refine leaves_cons (f := 37) (args := #[.pointer (some ⟨w.heap.size, 0, none⟩), .pointer (some ⟨w.heap.size + 1, 0, none⟩)]) (by simp) (by simp [go_sem]) ?_
  refine (catch_idle _ _ _).mono ?_
  rintro e u' w2 ⟨rfl, rfl, rfl⟩
  have d0 : ((w1.setCell ⟨w.heap.size, 0, none⟩ (.int .i64 0)).setCell ⟨w.heap.size + 1, 0, none⟩ (.int .i64 0)).cell? ⟨w.heap.size, 0, none⟩ = some (.int .i64 0) := by simp [go_sem, p0]
  have d1 : ((w1.setCell ⟨w.heap.size, 0, none⟩ (.int .i64 0)).setCell ⟨w.heap.size + 1, 0, none⟩ (.int .i64 0)).cell? ⟨w.heap.size + 1, 0, none⟩ = some (.int .i64 0) := by simp [go_sem, p1]
  have hbb : Below w.heap.size w ((w1.setCell ⟨w.heap.size, 0, none⟩ (.int .i64 0)).setCell ⟨w.heap.size + 1, 0, none⟩ (.int .i64 0)) := (hB1.setCell (by simp) _).setCell (by simp) _
  generalize ((w1.setCell ⟨w.heap.size, 0, none⟩ (.int .i64 0)).setCell ⟨w.heap.size + 1, 0, none⟩ (.int .i64 0)) = wF at d0 d1 hbb ⊢
  simp [Leaves, settle, results, Try.results26, go_sem, d0, d1]
  exact hbb

set_option maxHeartbeats 1000000 in
set_option maxRecDepth 100000 in
theorem scopeCheck_small (bi bo bv bm : Nat) (w : World) (h : Small bi bo bv bm w) : Calls Try.prog 16 #[smallV bi bo bv bm] w fun e w' => e = .returned (.int .i64 0) ∧ Below w.heap.size w w' := by
  have hbel : Below w.heap.size w ((w.alloc (smallO bi bo bv bm 31)).alloc (smallO bi bo bv bm 75)) := ((Below.refl _ w).alloc (Nat.le_refl _) _).alloc (by simp) _
  have K := hide (caught_small bi bo bv bm _ (h.over hbel))
  unfold smallV at K ⊢
  unfold smallO at K hbel
  clear h
  go_enter Try.func16, Try.ntmps16
  go_wp2_with fail
  refine (K.out).mono ?_
  rintro e w1 ⟨rfl, hb1⟩
  have hB1 := hbel.trans (hb1.mono hbel.size)
  clear hbel hb1 K
  go_wp2_with fail
  go_ret
  exact ⟨rfl, hB1⟩
end Go.Proofs.Ytpbnmmgocpobcaa.Ex
/- Checks of labels, whatever they are. -/
namespace Go.Proofs.Ytpbnmmgocpobcaa.Ex
open Go.RowKit
set_option linter.unusedVariables false

/-- the cells of labels that lie one behind the other. -/
def LabCells (w : World) : List Lab → List Value → Prop
  | [], xs => xs = []
  | l :: r, xs => ∃ (pr pw : Value) (ys : List Value), xs = pr :: pw :: ys ∧ IsPols w pr l.r ∧ IsPols w pw l.w ∧ LabCells w r ys
theorem LabCells.over {w w' : World} (hb : Below w.heap.size w w') : ∀ {l : List Lab} {xs : List Value}, LabCells w l xs → LabCells w' l xs
  | [], _, h => h
  | a :: l, _, h => by
    obtain ⟨pr, pw, ys, rfl, h1, h2, h3⟩ := h
    exact ⟨pr, pw, ys, rfl, isPols_over h1 hb, isPols_over h2 hb, h3.over hb⟩
theorem LabCells.append {w : World} : ∀ {l m : List Lab} {xs ys : List Value}, LabCells w l xs → LabCells w m ys → LabCells w (l ++ m) (xs ++ ys)
  | [], _, _, _, h, h' => by have e : _ = _ := h; subst e; exact h'
  | a :: l, _, _, _, h, h' => by
    obtain ⟨pr, pw, zs, rfl, h1, h2, h3⟩ := h
    exact ⟨pr, pw, zs ++ _, rfl, h1, h2, h3.append h'⟩
theorem LabCells.length {w : World} : ∀ {l : List Lab} {xs : List Value}, LabCells w l xs → xs.length = l.length * 2
  | [], _, h => by have e : _ = _ := h; subst e; rfl
  | a :: l, _, h => by
    obtain ⟨pr, pw, zs, rfl, h1, h2, h3⟩ := h
    have := h3.length
    simp
    omega
theorem LabCells.one {w : World} : ∀ {l : List Lab} {xs : List Value}, LabCells w l xs → ∀ u ∈ xs, u.oneCell' = true
  | [], _, h, u, hu => by have e : _ = _ := h; subst e; cases hu
  | a :: l, _, h, u, hu => by
    obtain ⟨pr, pw, zs, rfl, h1, h2, h3⟩ := h
    obtain ⟨x, n, c, rfl⟩ := pols_form h1
    obtain ⟨y, n', c', rfl⟩ := pols_form h2
    simp only [List.mem_cons] at hu
    rcases hu with rfl | rfl | hu
    · rfl
    · rfl
    · exact h3.one u hu
theorem LabCells.at {w : World} : ∀ {l : List Lab} {xs : List Value}, LabCells w l xs → ∀ (j : Nat) (hj : j < l.length), ∃ pr pw, xs[j * 2]? = some pr ∧ xs[j * 2 + 1]? = some pw ∧ IsPols w pr l[j].r ∧ IsPols w pw l[j].w
  | a :: l, _, h, 0, hj => by
    obtain ⟨pr, pw, zs, rfl, h1, h2, h3⟩ := h
    exact ⟨pr, pw, rfl, rfl, h1, h2⟩
  | a :: l, _, h, j + 1, hj => by
    obtain ⟨pr, pw, zs, rfl, h1, h2, h3⟩ := h
    obtain ⟨pr', pw', e1, e2, e3, e4⟩ := h3.at j (by simpa using hj)
    exact ⟨pr', pw', by rw [Nat.succ_mul]; exact e1, by rw [Nat.succ_mul]; exact e2, e3, e4⟩
theorem labs_cells {w : World} {b off : Nat} : ∀ (ls : List Lab) (o : Nat), (∀ i (h : i < ls.length), ∃ (pr pw : Value), w.cell? ⟨b, o + i * 2, none⟩ = some pr ∧ w.cell? ⟨b, o + i * 2 + 1, none⟩ = some pw ∧ IsPols w pr ls[i].r ∧ IsPols w pw ls[i].w) →
    ∃ xs, LabCells w ls xs ∧ ∀ j u, xs[j]? = some u → w.cell? ⟨b, o + j, none⟩ = some u
  | [], o, _ => ⟨[], rfl, fun j u hu => by simp at hu⟩
  | l :: ls, o, h => by
    obtain ⟨pr, pw, h0, h1, h2, h3⟩ := h 0 (by simp)
    obtain ⟨xs, hx, hc⟩ := labs_cells (w := w) (b := b) (off := off) ls (o + 2) (fun i hi => by
      obtain ⟨pr', pw', e0, e1, e2, e3⟩ := h (i + 1) (by simpa using hi)
      refine ⟨pr', pw', ?_, ?_, e2, e3⟩
      · rw [← e0]; congr 2; omega
      · rw [← e1]; congr 2; omega)
    refine ⟨pr :: pw :: xs, ⟨pr, pw, xs, rfl, h2, h3, hx⟩, fun j u hu => ?_⟩
    match j, hu with
    | 0, hu => simp at hu; subst hu; simpa using h0
    | 1, hu => simp at hu; subst hu; simpa using h1
    | j + 2, hu =>
      have := hc j u (by simpa using hu)
      rw [← this]
      congr 2
      omega
/-- a list of labels as a source of cells. -/
theorem LabsAt.src {w : World} {v : Value} {ls : List Lab} (h : LabsAt w v ls) : ∃ ad cap xs, (v = .slice (some ad) ls.length cap ∨ ls = [] ∧ ∃ ao, v = .slice ao 0 cap) ∧ LabCells w ls xs ∧ ∀ j u, xs[j]? = some u → w.cell? (ad.add j) = some u := by
  obtain ⟨-, ao, cap, rfl, hc⟩ := h
  cases hl : ls with
  | nil => exact ⟨⟨0, 0, none⟩, cap, [], Or.inr ⟨rfl, ao, rfl⟩, rfl, fun j u hu => by simp at hu⟩
  | cons a l =>
    obtain ⟨b, off, rfl, hel⟩ := hc (by rw [hl]; simp)
    obtain ⟨xs, hx, hxc⟩ := labs_cells (w := w) (b := b) (off := off) ls off (fun i hi => hel i hi)
    refine ⟨⟨b, off, none⟩, cap, xs, Or.inl (by rw [← hl]), hl ▸ hx, fun j u hu => ?_⟩
    rw [Addr.add_lit]
    exact hxc j u hu

set_option maxHeartbeats 1000000 in
theorem growOf0 (w : World) : Calls Try.prog 64 #[.slice none 0 0, .int .i64 0] w fun e w' => ∃ v, e = .returned v ∧ w'.ownsRow w.heap.size 67 2 v 0 [] ∧ Below w.heap.size w w' := by
  go_enter Try.func64, Try.ntmps64
  go_wp2_with fail
  go_ret
  exact ⟨_, rfl, World.ownsRow_nil _ _ _ _, Below.refl _ _⟩

set_option maxHeartbeats 1000000 in
theorem growOf1 (w : World) : Calls Try.prog 64 #[.slice none 0 0, .int .i64 1] w fun e w' => ∃ v, e = .returned v ∧ w'.ownsRow w.heap.size 67 2 v 0 [] ∧ Below w.heap.size w w' := by
  go_enter Try.func64, Try.ntmps64
  go_wp2_with fail
  go_ret
  refine ⟨_, rfl, ⟨rfl, Or.inr ⟨w.heap.size, grownCap w 1 0 67, _, rfl, Nat.le_refl _, heap_alloc_new w _, Nat.zero_le _, grownCap_le_maxLen _ _ _ _ (by decide), ?_, rfl⟩⟩, ((Below.refl _ w).alloc (Nat.le_refl _) _).drew⟩
  have := grownCap_ge w 1 0 67
  simp [Builtin.zeroCells]
  unfold grownCap at this ⊢
  omega

set_option maxHeartbeats 1000000 in
theorem growOf2 (w : World) : Calls Try.prog 64 #[.slice none 0 0, .int .i64 2] w fun e w' => ∃ v, e = .returned v ∧ w'.ownsRow w.heap.size 67 2 v 0 [] ∧ Below w.heap.size w w' := by
  go_enter Try.func64, Try.ntmps64
  go_wp2_with fail
  go_ret
  refine ⟨_, rfl, ⟨rfl, Or.inr ⟨w.heap.size, grownCap w 2 0 67, _, rfl, Nat.le_refl _, heap_alloc_new w _, Nat.zero_le _, grownCap_le_maxLen _ _ _ _ (by decide), ?_, rfl⟩⟩, ((Below.refl _ w).alloc (Nat.le_refl _) _).drew⟩
  have := grownCap_ge w 2 0 67
  simp [Builtin.zeroCells]
  unfold grownCap at this ⊢
  omega

set_option maxHeartbeats 1000000 in
theorem growOf3 (w : World) : Calls Try.prog 64 #[.slice none 0 0, .int .i64 3] w fun e w' => ∃ v, e = .returned v ∧ w'.ownsRow w.heap.size 67 2 v 0 [] ∧ Below w.heap.size w w' := by
  go_enter Try.func64, Try.ntmps64
  go_wp2_with fail
  go_ret
  refine ⟨_, rfl, ⟨rfl, Or.inr ⟨w.heap.size, grownCap w 3 0 67, _, rfl, Nat.le_refl _, heap_alloc_new w _, Nat.zero_le _, grownCap_le_maxLen _ _ _ _ (by decide), ?_, rfl⟩⟩, ((Below.refl _ w).alloc (Nat.le_refl _) _).drew⟩
  have := grownCap_ge w 3 0 67
  simp [Builtin.zeroCells]
  unfold grownCap at this ⊢
  omega

set_option maxHeartbeats 1000000 in
theorem growOf4 (w : World) : Calls Try.prog 64 #[.slice none 0 0, .int .i64 4] w fun e w' => ∃ v, e = .returned v ∧ w'.ownsRow w.heap.size 67 2 v 0 [] ∧ Below w.heap.size w w' := by
  go_enter Try.func64, Try.ntmps64
  go_wp2_with fail
  go_ret
  refine ⟨_, rfl, ⟨rfl, Or.inr ⟨w.heap.size, grownCap w 4 0 67, _, rfl, Nat.le_refl _, heap_alloc_new w _, Nat.zero_le _, grownCap_le_maxLen _ _ _ _ (by decide), ?_, rfl⟩⟩, ((Below.refl _ w).alloc (Nat.le_refl _) _).drew⟩
  have := grownCap_ge w 4 0 67
  simp [Builtin.zeroCells]
  unfold grownCap at this ⊢
  omega

set_option maxHeartbeats 1000000 in
theorem growOf5 (w : World) : Calls Try.prog 64 #[.slice none 0 0, .int .i64 5] w fun e w' => ∃ v, e = .returned v ∧ w'.ownsRow w.heap.size 67 2 v 0 [] ∧ Below w.heap.size w w' := by
  go_enter Try.func64, Try.ntmps64
  go_wp2_with fail
  go_ret
  refine ⟨_, rfl, ⟨rfl, Or.inr ⟨w.heap.size, grownCap w 5 0 67, _, rfl, Nat.le_refl _, heap_alloc_new w _, Nat.zero_le _, grownCap_le_maxLen _ _ _ _ (by decide), ?_, rfl⟩⟩, ((Below.refl _ w).alloc (Nat.le_refl _) _).drew⟩
  have := grownCap_ge w 5 0 67
  simp [Builtin.zeroCells]
  unfold grownCap at this ⊢
  omega

set_option maxHeartbeats 1000000 in
theorem growOf6 (w : World) : Calls Try.prog 64 #[.slice none 0 0, .int .i64 6] w fun e w' => ∃ v, e = .returned v ∧ w'.ownsRow w.heap.size 67 2 v 0 [] ∧ Below w.heap.size w w' := by
  go_enter Try.func64, Try.ntmps64
  go_wp2_with fail
  go_ret
  refine ⟨_, rfl, ⟨rfl, Or.inr ⟨w.heap.size, grownCap w 6 0 67, _, rfl, Nat.le_refl _, heap_alloc_new w _, Nat.zero_le _, grownCap_le_maxLen _ _ _ _ (by decide), ?_, rfl⟩⟩, ((Below.refl _ w).alloc (Nat.le_refl _) _).drew⟩
  have := grownCap_ge w 6 0 67
  simp [Builtin.zeroCells]
  unfold grownCap at this ⊢
  omega

set_option maxHeartbeats 1000000 in
theorem growOf7 (w : World) : Calls Try.prog 64 #[.slice none 0 0, .int .i64 7] w fun e w' => ∃ v, e = .returned v ∧ w'.ownsRow w.heap.size 67 2 v 0 [] ∧ Below w.heap.size w w' := by
  go_enter Try.func64, Try.ntmps64
  go_wp2_with fail
  go_ret
  refine ⟨_, rfl, ⟨rfl, Or.inr ⟨w.heap.size, grownCap w 7 0 67, _, rfl, Nat.le_refl _, heap_alloc_new w _, Nat.zero_le _, grownCap_le_maxLen _ _ _ _ (by decide), ?_, rfl⟩⟩, ((Below.refl _ w).alloc (Nat.le_refl _) _).drew⟩
  have := grownCap_ge w 7 0 67
  simp [Builtin.zeroCells]
  unfold grownCap at this ⊢
  omega

set_option maxHeartbeats 1000000 in
theorem growOf8 (w : World) : Calls Try.prog 64 #[.slice none 0 0, .int .i64 8] w fun e w' => ∃ v, e = .returned v ∧ w'.ownsRow w.heap.size 67 2 v 0 [] ∧ Below w.heap.size w w' := by
  go_enter Try.func64, Try.ntmps64
  go_wp2_with fail
  go_ret
  refine ⟨_, rfl, ⟨rfl, Or.inr ⟨w.heap.size, grownCap w 8 0 67, _, rfl, Nat.le_refl _, heap_alloc_new w _, Nat.zero_le _, grownCap_le_maxLen _ _ _ _ (by decide), ?_, rfl⟩⟩, ((Below.refl _ w).alloc (Nat.le_refl _) _).drew⟩
  have := grownCap_ge w 8 0 67
  simp [Builtin.zeroCells]
  unfold grownCap at this ⊢
  omega

set_option maxHeartbeats 1000000 in
theorem growOf9 (w : World) : Calls Try.prog 64 #[.slice none 0 0, .int .i64 9] w fun e w' => ∃ v, e = .returned v ∧ w'.ownsRow w.heap.size 67 2 v 0 [] ∧ Below w.heap.size w w' := by
  go_enter Try.func64, Try.ntmps64
  go_wp2_with fail
  go_ret
  refine ⟨_, rfl, ⟨rfl, Or.inr ⟨w.heap.size, grownCap w 9 0 67, _, rfl, Nat.le_refl _, heap_alloc_new w _, Nat.zero_le _, grownCap_le_maxLen _ _ _ _ (by decide), ?_, rfl⟩⟩, ((Below.refl _ w).alloc (Nat.le_refl _) _).drew⟩
  have := grownCap_ge w 9 0 67
  simp [Builtin.zeroCells]
  unfold grownCap at this ⊢
  omega

set_option maxHeartbeats 1000000 in
theorem growOf10 (w : World) : Calls Try.prog 64 #[.slice none 0 0, .int .i64 10] w fun e w' => ∃ v, e = .returned v ∧ w'.ownsRow w.heap.size 67 2 v 0 [] ∧ Below w.heap.size w w' := by
  go_enter Try.func64, Try.ntmps64
  go_wp2_with fail
  go_ret
  refine ⟨_, rfl, ⟨rfl, Or.inr ⟨w.heap.size, grownCap w 10 0 67, _, rfl, Nat.le_refl _, heap_alloc_new w _, Nat.zero_le _, grownCap_le_maxLen _ _ _ _ (by decide), ?_, rfl⟩⟩, ((Below.refl _ w).alloc (Nat.le_refl _) _).drew⟩
  have := grownCap_ge w 10 0 67
  simp [Builtin.zeroCells]
  unfold grownCap at this ⊢
  omega

theorem growOf (n : Nat) (hn : n ≤ 10) (w : World) : Calls Try.prog 64 #[.slice none 0 0, .int .i64 n] w fun e w' => ∃ v, e = .returned v ∧ w'.ownsRow w.heap.size 67 2 v 0 [] ∧ Below w.heap.size w w' := by
  match n, hn with
  | 0, _ => exact growOf0 w
  | 1, _ => exact growOf1 w
  | 2, _ => exact growOf2 w
  | 3, _ => exact growOf3 w
  | 4, _ => exact growOf4 w
  | 5, _ => exact growOf5 w
  | 6, _ => exact growOf6 w
  | 7, _ => exact growOf7 w
  | 8, _ => exact growOf8 w
  | 9, _ => exact growOf9 w
  | 10, _ => exact growOf10 w

theorem LabsAt.src2 {w : World} {ad : Addr} {n cap : Nat} {ls : List Lab} (h : LabsAt w (.slice (some ad) n cap) ls) : ∃ xs, LabCells w ls xs ∧ ∀ j u, xs[j]? = some u → w.cell? (ad.add j) = some u := by
  obtain ⟨-, ao, cap', he, hc⟩ := h
  injection he with e1 e2 e3
  rcases hl : ls with _ | ⟨a, l⟩
  · exact ⟨[], rfl, fun j u hu => by simp at hu⟩
  · obtain ⟨b, off, hbo, hel⟩ := hc (by rw [hl]; simp)
    rw [← e1] at hbo
    have hbo2 := Option.some.inj hbo
    subst hbo2
    obtain ⟨xs, hx, hxc⟩ := labs_cells (w := w) (b := b) (off := off) ls off (fun i hi => hel i hi)
    refine ⟨xs, hl ▸ hx, fun j u hu => ?_⟩
    rw [Addr.add_lit]
    exact hxc j u hu

set_option maxHeartbeats 8000000 in
set_option maxRecDepth 100000 in
theorem concat_any (g : Nat) (ya : Option Addr) (yn yc : Nat) (oa : Option Addr) (on oc : Nat) (ls ms : List Lab) (w : World) (hg : RowAt [.slice ya yn yc, .slice oa on oc] w g) (h1 : LabsAt w (.slice ya yn yc) ls) (h2 : LabsAt w (.slice oa on oc) ms) (hy : yn ≤ 5) (ho : on ≤ 5) (hyc : ya = none → yc = 0) (hoc : oa = none → oc = 0) :
    Calls Try.prog 57 #[.slice (some ⟨g, 0, none⟩) 2 2] w fun e w' => ∃ v xs, e = .returned v ∧ w'.ownsRow w.heap.size 67 2 v (ls ++ ms).length xs ∧ LabCells w' (ls ++ ms) xs ∧ Below w.heap.size w w' := by
  obtain ⟨i0, hi, hz0, hz1, hz2⟩ := info_parts Try.infoL
  have K1 := hide (growOf (yn + on) (by omega) w)
  have HG := hide hg
  have H1 := hide h1
  have H2 := hide h2
  have hyn : yn = ls.length := by obtain ⟨-, a, c, he, -⟩ := h1; injection he
  have hon : on = ms.length := by obtain ⟨-, a, c, he, -⟩ := h2; injection he
  have HYN := hide hyn
  have HON := hide hon
  clear hg h1 h2 hyn hon
  go_enter Try.func57, Try.ntmps57
  go_wp2_with fail
  go_loopw [3, 11] (fun s i wr => ∃ j : Int, 0 ≤ j ∧ j ≤ 2 ∧ i = .int .i64 j ∧ s = .int .i64 (if j = 0 then 0 else if j = 1 then (yn : Int) else (yn : Int) + on) ∧ wr = w) (fun _ i _ => 2 - (intOf i).toNat)
  case atStart => exact ⟨0, by omega, by omega, rfl, rfl, rfl⟩
  case round =>
    obtain ⟨j, hj0, hj, rfl, rfl, hw⟩ := hrel
    have hw' := hw.symm
    subst hw'
    clear hw
    rcases (by omega : j = 0 ∨ j = 1 ∨ j = 2) with rfl | rfl | rfl
    · have q := HG.out 0 _ rfl
      rw [if_pos rfl]
      go_wp2_with fail
      exact ⟨⟨1, by omega, by omega, by first | rfl | go_num, by first | rfl | simp, by first | rfl | trivial⟩, by simp [intOf]⟩
    · have q := HG.out 1 _ rfl
      rw [if_neg (by omega), if_pos rfl]
      go_wp2_with fail
      exact ⟨⟨2, by omega, by omega, by first | rfl | go_num, by first | rfl | simp, by first | rfl | trivial⟩, by simp [intOf]⟩
    · rw [if_neg (by omega), if_neg (by omega)]
      have K1' : Hid (Calls Try.prog 64 #[.slice none 0 0, .int .i64 ((yn : Int) + on)] w fun e w' => ∃ v, e = .returned v ∧ w'.ownsRow w.heap.size 67 2 v 0 [] ∧ Below w.heap.size w w') := by
        have := K1.out
        rw [Int.natCast_add] at this
        exact this
      obtain ⟨T, hT⟩ : ∃ T, T = (yn : Int) + on := ⟨_, rfl⟩
      rw [← hT] at K1' ⊢
      have hT0 : 0 ≤ T := by omega
      have hT1 : T ≤ 10 := by omega
      clear hT
      go_wp2_with fail
      refine (K1'.out).mono ?_
      rintro e w1 ⟨v, rfl, hown, hb1⟩
      clear K1 K1'
      obtain ⟨va, vn, vc, hvf⟩ : ∃ a n c, v = .slice a n c := by
        rcases hown.2 with ⟨h, _⟩ | ⟨g, cap, cur, h, _⟩
        · exact ⟨_, _, _, h⟩
        · exact ⟨_, _, _, h⟩
      subst hvf
      go_wp2_with fail
      go_loopw [6, 27] (fun nv i wq => ∃ (j : Int) (xs : List Value), 0 ≤ j ∧ j ≤ 2 ∧ i = .int .i64 j ∧ wq.ownsRow w.heap.size 67 2 nv (if j = 0 then [] else if j = 1 then ls else ls ++ ms).length xs ∧ LabCells w (if j = 0 then [] else if j = 1 then ls else ls ++ ms) xs ∧ Below w.heap.size w wq) (fun _ i _ => 2 - (intOf i).toNat)
      case atStart => exact ⟨0, [], by omega, by omega, rfl, hown, rfl, hb1⟩
      case round =>
        clear hown hb1
        obtain ⟨j, xs, hj0, hj, rfl, hown, hcl, hB⟩ := hrel
        rcases (by omega : j = 0 ∨ j = 1 ∨ j = 2) with rfl | rfl | rfl
        · rw [if_pos rfl] at hown hcl
          have q := HG.out.over hB 0 _ rfl
          have hs1 : w.heap.size ≤ wr.heap.size := hB.size
          cases ya with
          | none =>
            have hc0 := hyc rfl
            have hl0 : ls = [] := by
              obtain ⟨-, a0, c0, he, hcc⟩ := H1.out
              injection he with e1 e2 e3
              rcases h : ls with _ | ⟨x, r⟩
              · rfl
              · obtain ⟨b, off, hbo, -⟩ := hcc (by rw [h]; simp)
                rw [← e1] at hbo
                cases hbo
            have hn0 : yn = 0 := by rw [HYN.out, hl0]; rfl
            subst hc0 hn0
            go_wp2_with (at_builtin; refine wpList_append_own_none rfl _ _ 26 rfl w.heap.size 67 i0 2 Try.underlying26 hi _ _ _ rfl hown rfl ?_)
            go_wp2_with fail
            refine ⟨⟨1, xs, by omega, by omega, by first | rfl | go_num, ?_, ?_, hB⟩, by simp [intOf]⟩
            · rw [if_neg (by omega), if_pos rfl]
              rw [hl0]
              simpa using hown
            · rw [if_neg (by omega), if_pos rfl]
              rw [hl0]
              simpa using hcl
          | some ad =>
            obtain ⟨ys, hys, hyc0⟩ := H1.out.src2
            have hyc2 := fun j u hu => cell_over hB _ _ (hyc0 j u hu)
            have hb0 : ([] : List Lab).length + yn ≤ 10 := by simp; omega
            go_wp2_with (at_builtin; refine wpList_append_own _ rfl _ _ 26 rfl w.heap.size 67 i0 (.agg #[.slice none 0 0, .slice none 0 0]) 2 48 Try.underlying26 hi hz0 hz1 hz2 rfl (by decide) _ _ _ rfl hown ad yn yc ys rfl (by rw [hys.length, HYN.out]) hyc2 hys.one (by unfold maxLen; omega) (by omega) hs1 ?_)
            intro v2 w3 hown2 hgr2 _
            have hbl2 := below_grown hown hgr2 hs1
            have HO2 := hide hown2
            have hcl2 := (hcl.append hys)
            go_wp2_with fail
            refine ⟨⟨1, xs ++ ys, by omega, by omega, by first | rfl | go_num, ?_, ?_, hB.trans hbl2⟩, by simp [intOf]⟩
            · rw [if_neg (by omega), if_pos rfl]
              have h3 := HO2.out
              rw [HYN.out] at h3
              simpa using h3
            · rw [if_neg (by omega), if_pos rfl]
              simpa using hcl2
        · rw [if_neg (by omega), if_pos rfl] at hown hcl
          have q := HG.out.over hB 1 _ rfl
          have hs1 : w.heap.size ≤ wr.heap.size := hB.size
          cases oa with
          | none =>
            have hc0 := hoc rfl
            have hl0 : ms = [] := by
              obtain ⟨-, a0, c0, he, hcc⟩ := H2.out
              injection he with e1 e2 e3
              rcases h : ms with _ | ⟨x, r⟩
              · rfl
              · obtain ⟨b, off, hbo, -⟩ := hcc (by rw [h]; simp)
                rw [← e1] at hbo
                cases hbo
            have hn0 : on = 0 := by rw [HON.out, hl0]; rfl
            subst hc0 hn0
            go_wp2_with (at_builtin; refine wpList_append_own_none rfl _ _ 26 rfl w.heap.size 67 i0 2 Try.underlying26 hi _ _ _ rfl hown rfl ?_)
            go_wp2_with fail
            refine ⟨⟨2, xs, by omega, by omega, by first | rfl | go_num, ?_, ?_, hB⟩, by simp [intOf]⟩
            · rw [if_neg (by omega), if_neg (by omega)]
              rw [hl0]
              simpa using hown
            · rw [if_neg (by omega), if_neg (by omega)]
              rw [hl0]
              simpa using hcl
          | some ad =>
            obtain ⟨ys, hys, hyc0⟩ := H2.out.src2
            have hyc2 := fun j u hu => cell_over hB _ _ (hyc0 j u hu)
            have hb0 : ls.length + on ≤ 10 := by have := HYN.out; omega
            go_wp2_with (at_builtin; refine wpList_append_own _ rfl _ _ 26 rfl w.heap.size 67 i0 (.agg #[.slice none 0 0, .slice none 0 0]) 2 48 Try.underlying26 hi hz0 hz1 hz2 rfl (by decide) _ _ _ rfl hown ad on oc ys rfl (by rw [hys.length, HON.out]) hyc2 hys.one (by unfold maxLen; omega) (by omega) hs1 ?_)
            intro v2 w3 hown2 hgr2 _
            have hbl2 := below_grown hown hgr2 hs1
            have HO2 := hide hown2
            have hcl2 := (hcl.append hys)
            go_wp2_with fail
            refine ⟨⟨2, xs ++ ys, by omega, by omega, by first | rfl | go_num, ?_, ?_, hB.trans hbl2⟩, by simp [intOf]⟩
            · rw [if_neg (by omega), if_neg (by omega)]
              have h3 := HO2.out
              rw [HON.out] at h3
              simpa using h3
            · rw [if_neg (by omega), if_neg (by omega)]
              simpa using hcl2
        · rw [if_neg (by omega), if_neg (by omega)] at hown hcl
          go_wp2_with fail
          go_ret
          exact ⟨_, xs, rfl, hown, hcl.over hB, hB⟩
end Go.Proofs.Ytpbnmmgocpobcaa.Ex
