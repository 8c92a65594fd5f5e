/- The lowest level, as who goes through commands makes it: slices.Repeat of one bool. -/
import Derived.Laws.CopyOwn
import Derived.Test.YtcbbjjenkommeaaM07
namespace Go.Proofs.Ytcbbjjenkommeaa.Ex
open Go.RowKit
set_option linter.unusedVariables false
set_option maxHeartbeats 2000000 in
set_option maxRecDepth 100000 in
theorem mul64_1 (w : World) : Calls Try.prog 155 #[.int .u64 1, .int .u64 1] w fun e w' => e = .returned (.tuple #[.int .u64 0, .int .u64 1]) ∧ Below w.heap.size w w' := by
  go_enter Try.func155, Try.ntmps155
  go_wp2_with fail
  exact bodyPost_ret (v := .tuple #[.int .u64 0, .int .u64 1]) (by simp [results, Try.results155, go_sem]; decide) rfl ⟨rfl, Below.refl _ _⟩
set_option maxHeartbeats 2000000 in
set_option maxRecDepth 100000 in
theorem mul64_2 (w : World) : Calls Try.prog 155 #[.int .u64 1, .int .u64 2] w fun e w' => e = .returned (.tuple #[.int .u64 0, .int .u64 2]) ∧ Below w.heap.size w w' := by
  go_enter Try.func155, Try.ntmps155
  go_wp2_with fail
  exact bodyPost_ret (v := .tuple #[.int .u64 0, .int .u64 2]) (by simp [results, Try.results155, go_sem]; decide) rfl ⟨rfl, Below.refl _ _⟩
set_option maxHeartbeats 2000000 in
set_option maxRecDepth 100000 in
theorem mul64_3 (w : World) : Calls Try.prog 155 #[.int .u64 1, .int .u64 3] w fun e w' => e = .returned (.tuple #[.int .u64 0, .int .u64 3]) ∧ Below w.heap.size w w' := by
  go_enter Try.func155, Try.ntmps155
  go_wp2_with fail
  exact bodyPost_ret (v := .tuple #[.int .u64 0, .int .u64 3]) (by simp [results, Try.results155, go_sem]; decide) rfl ⟨rfl, Below.refl _ _⟩
set_option maxHeartbeats 2000000 in
set_option maxRecDepth 100000 in
theorem mul64_4 (w : World) : Calls Try.prog 155 #[.int .u64 1, .int .u64 4] w fun e w' => e = .returned (.tuple #[.int .u64 0, .int .u64 4]) ∧ Below w.heap.size w w' := by
  go_enter Try.func155, Try.ntmps155
  go_wp2_with fail
  exact bodyPost_ret (v := .tuple #[.int .u64 0, .int .u64 4]) (by simp [results, Try.results155, go_sem]; decide) rfl ⟨rfl, Below.refl _ _⟩
set_option maxHeartbeats 2000000 in
set_option maxRecDepth 100000 in
theorem mul64_5 (w : World) : Calls Try.prog 155 #[.int .u64 1, .int .u64 5] w fun e w' => e = .returned (.tuple #[.int .u64 0, .int .u64 5]) ∧ Below w.heap.size w w' := by
  go_enter Try.func155, Try.ntmps155
  go_wp2_with fail
  exact bodyPost_ret (v := .tuple #[.int .u64 0, .int .u64 5]) (by simp [results, Try.results155, go_sem]; decide) rfl ⟨rfl, Below.refl _ _⟩
set_option maxHeartbeats 2000000 in
set_option maxRecDepth 100000 in
theorem mul64_6 (w : World) : Calls Try.prog 155 #[.int .u64 1, .int .u64 6] w fun e w' => e = .returned (.tuple #[.int .u64 0, .int .u64 6]) ∧ Below w.heap.size w w' := by
  go_enter Try.func155, Try.ntmps155
  go_wp2_with fail
  exact bodyPost_ret (v := .tuple #[.int .u64 0, .int .u64 6]) (by simp [results, Try.results155, go_sem]; decide) rfl ⟨rfl, Below.refl _ _⟩
set_option maxHeartbeats 2000000 in
set_option maxRecDepth 100000 in
theorem mulW_1 (w : World) : Calls Try.prog 142 #[.int .u64 1, .int .u64 1] w fun e w' => e = .returned (.tuple #[.int .u64 0, .int .u64 1]) ∧ Below w.heap.size w w' := by
  go_enter Try.func142, Try.ntmps142
  go_wp2_with fail
  refine (mul64_1 _).mono ?_
  rintro e w1 ⟨rfl, hb1⟩
  go_wp2_with fail
  exact bodyPost_ret (v := .tuple #[.int .u64 0, .int .u64 1]) (by simp [results, Try.results142, go_sem]) rfl ⟨rfl, hb1⟩
set_option maxHeartbeats 2000000 in
set_option maxRecDepth 100000 in
theorem mulW_2 (w : World) : Calls Try.prog 142 #[.int .u64 1, .int .u64 2] w fun e w' => e = .returned (.tuple #[.int .u64 0, .int .u64 2]) ∧ Below w.heap.size w w' := by
  go_enter Try.func142, Try.ntmps142
  go_wp2_with fail
  refine (mul64_2 _).mono ?_
  rintro e w1 ⟨rfl, hb1⟩
  go_wp2_with fail
  exact bodyPost_ret (v := .tuple #[.int .u64 0, .int .u64 2]) (by simp [results, Try.results142, go_sem]) rfl ⟨rfl, hb1⟩
set_option maxHeartbeats 2000000 in
set_option maxRecDepth 100000 in
theorem mulW_3 (w : World) : Calls Try.prog 142 #[.int .u64 1, .int .u64 3] w fun e w' => e = .returned (.tuple #[.int .u64 0, .int .u64 3]) ∧ Below w.heap.size w w' := by
  go_enter Try.func142, Try.ntmps142
  go_wp2_with fail
  refine (mul64_3 _).mono ?_
  rintro e w1 ⟨rfl, hb1⟩
  go_wp2_with fail
  exact bodyPost_ret (v := .tuple #[.int .u64 0, .int .u64 3]) (by simp [results, Try.results142, go_sem]) rfl ⟨rfl, hb1⟩
set_option maxHeartbeats 2000000 in
set_option maxRecDepth 100000 in
theorem mulW_4 (w : World) : Calls Try.prog 142 #[.int .u64 1, .int .u64 4] w fun e w' => e = .returned (.tuple #[.int .u64 0, .int .u64 4]) ∧ Below w.heap.size w w' := by
  go_enter Try.func142, Try.ntmps142
  go_wp2_with fail
  refine (mul64_4 _).mono ?_
  rintro e w1 ⟨rfl, hb1⟩
  go_wp2_with fail
  exact bodyPost_ret (v := .tuple #[.int .u64 0, .int .u64 4]) (by simp [results, Try.results142, go_sem]) rfl ⟨rfl, hb1⟩
set_option maxHeartbeats 2000000 in
set_option maxRecDepth 100000 in
theorem mulW_5 (w : World) : Calls Try.prog 142 #[.int .u64 1, .int .u64 5] w fun e w' => e = .returned (.tuple #[.int .u64 0, .int .u64 5]) ∧ Below w.heap.size w w' := by
  go_enter Try.func142, Try.ntmps142
  go_wp2_with fail
  refine (mul64_5 _).mono ?_
  rintro e w1 ⟨rfl, hb1⟩
  go_wp2_with fail
  exact bodyPost_ret (v := .tuple #[.int .u64 0, .int .u64 5]) (by simp [results, Try.results142, go_sem]) rfl ⟨rfl, hb1⟩
set_option maxHeartbeats 2000000 in
set_option maxRecDepth 100000 in
theorem mulW_6 (w : World) : Calls Try.prog 142 #[.int .u64 1, .int .u64 6] w fun e w' => e = .returned (.tuple #[.int .u64 0, .int .u64 6]) ∧ Below w.heap.size w w' := by
  go_enter Try.func142, Try.ntmps142
  go_wp2_with fail
  refine (mul64_6 _).mono ?_
  rintro e w1 ⟨rfl, hb1⟩
  go_wp2_with fail
  exact bodyPost_ret (v := .tuple #[.int .u64 0, .int .u64 6]) (by simp [results, Try.results142, go_sem]) rfl ⟨rfl, hb1⟩
theorem sz4 : (Try.prog.info? 4).map (·.size) = some 1 := by kernel_rfl

set_option maxHeartbeats 2000000 in
set_option maxRecDepth 100000 in
theorem rep_1 (g : Nat) (w : World) (hlt : g < w.heap.size) (hg : w.cell? ⟨g, 0, none⟩ = some (.bool true)) : Calls Try.prog 114 #[.slice (some ⟨g, 0, none⟩) 1 1, .int .i64 1] w fun e w' => ∃ v, e = .returned v ∧ w'.ownsRow w.heap.size 4 1 v 1 [.bool true] ∧ Below w.heap.size w w' := by
  go_enter Try.func114, Try.ntmps114
  go_wp2_with fail
  refine (mulW_1 _).mono ?_
  rintro e w1 ⟨rfl, hb1⟩
  have hg1 := cell_over hb1 _ _ hg
  have hs1 := hb1.size
  clear hg
  have hmk : (Instr.makeSlice 60 (.int .i64 1) (.int .i64 1)).run Try.prog w1 = .ok (.slice (some ⟨w1.heap.size, 0, none⟩) 1 1) (w1.alloc (.cells #[.bool false] 4)) := make35 1 (by decide) w1
  have hbz : Below w1.heap.size w1 (w1.alloc (.cells #[.bool false] 4)) := (Below.refl _ w1).alloc (Nat.le_refl _) _
  have hg2 := cell_over hbz _ _ hg1
  have hcp : ∀ (j : Nat) (v : Value), ([.bool true] : List Value)[j]? = some v → (w1.alloc (.cells #[.bool false] 4)).cell? ((⟨g, 0, none⟩ : Addr).add j) = some v := by
    intro j v hj
    rcases j with _ | j
    · simp at hj; subst hj; simpa [Addr.add] using hg2
    · simp at hj
  have hA : (w1.alloc (.cells #[.bool false] 4)).heap[w1.heap.size]? = some (.cells ([.bool false] : List Value).toArray 4 (0, 0)) := heap_alloc_new w1 _
  have hone : ∀ v ∈ ([.bool true] : List Value), v.oneCell' = true := by simp [Value.oneCell']
  have hlen : ([.bool true] : List Value).length = Nat.min 1 1 := by decide
  go_wp2_with (refine wpList_copy_splice rfl (.tmp 31) (.tmp 32) 60 60 rfl 4 Try.underlying60 sz4 (some ⟨w1.heap.size, 0, none⟩) (some ⟨g, 0, none⟩) 1 1 1 1 rfl rfl w1.heap.size 0 [.bool false] 4 hA [.bool true] hlen (fun _ => ⟨rfl, _, rfl, hcp⟩) (by simp) hone w1.heap.size w1 hbz (Nat.le_refl _) ?_)
  intro w2 hrow hb2
  have hrow := hrow.out
  simp [splice] at hrow
  clear hg2 hbz hmk hg1 hcp hA hone hlen
  go_wp2_with fail
  go_loopw [8] (fun i wq => ((i = .int .i64 1 ∧ wq.heap[w1.heap.size]? = some (.cells #[.bool true] 4 (0, 0)))) ∧ Below w1.heap.size w1 wq) (fun i _ => 1 - (intOf i).toNat)
  case atStart => exact ⟨⟨rfl, hrow⟩, hb2⟩
  case round =>
    clear hrow hb2
    obtain ⟨hh, hB⟩ := hrel
    rcases hh with ⟨rfl, hrow⟩
    · have HROW := hide hrow
      clear hrow
      go_wp2_with fail
      exact bodyPost_ret (v := .slice (some ⟨w1.heap.size, 0, none⟩) 1 1) (by simp [results, Try.results114, go_sem]) rfl ⟨_, rfl, ⟨rfl, Or.inr ⟨w1.heap.size, 1, _, rfl, hs1, HROW.out, Nat.le_refl _, by decide, rfl, rfl⟩⟩, hb1.trans (hB.mono hs1)⟩
set_option maxHeartbeats 2000000 in
set_option maxRecDepth 100000 in
theorem rep_2 (g : Nat) (w : World) (hlt : g < w.heap.size) (hg : w.cell? ⟨g, 0, none⟩ = some (.bool true)) : Calls Try.prog 114 #[.slice (some ⟨g, 0, none⟩) 1 1, .int .i64 2] w fun e w' => ∃ v, e = .returned v ∧ w'.ownsRow w.heap.size 4 1 v 2 [.bool true, .bool true] ∧ Below w.heap.size w w' := by
  go_enter Try.func114, Try.ntmps114
  go_wp2_with fail
  refine (mulW_2 _).mono ?_
  rintro e w1 ⟨rfl, hb1⟩
  have hg1 := cell_over hb1 _ _ hg
  have hs1 := hb1.size
  clear hg
  have hmk : (Instr.makeSlice 60 (.int .i64 2) (.int .i64 2)).run Try.prog w1 = .ok (.slice (some ⟨w1.heap.size, 0, none⟩) 2 2) (w1.alloc (.cells #[.bool false, .bool false] 4)) := make35 2 (by decide) w1
  have hbz : Below w1.heap.size w1 (w1.alloc (.cells #[.bool false, .bool false] 4)) := (Below.refl _ w1).alloc (Nat.le_refl _) _
  have hg2 := cell_over hbz _ _ hg1
  have hcp : ∀ (j : Nat) (v : Value), ([.bool true] : List Value)[j]? = some v → (w1.alloc (.cells #[.bool false, .bool false] 4)).cell? ((⟨g, 0, none⟩ : Addr).add j) = some v := by
    intro j v hj
    rcases j with _ | j
    · simp at hj; subst hj; simpa [Addr.add] using hg2
    · simp at hj
  have hA : (w1.alloc (.cells #[.bool false, .bool false] 4)).heap[w1.heap.size]? = some (.cells ([.bool false, .bool false] : List Value).toArray 4 (0, 0)) := heap_alloc_new w1 _
  have hone : ∀ v ∈ ([.bool true] : List Value), v.oneCell' = true := by simp [Value.oneCell']
  have hlen : ([.bool true] : List Value).length = Nat.min 1 2 := by decide
  go_wp2_with (refine wpList_copy_splice rfl (.tmp 31) (.tmp 32) 60 60 rfl 4 Try.underlying60 sz4 (some ⟨w1.heap.size, 0, none⟩) (some ⟨g, 0, none⟩) 2 2 1 1 rfl rfl w1.heap.size 0 [.bool false, .bool false] 4 hA [.bool true] hlen (fun _ => ⟨rfl, _, rfl, hcp⟩) (by simp) hone w1.heap.size w1 hbz (Nat.le_refl _) ?_)
  intro w2 hrow hb2
  have hrow := hrow.out
  simp [splice] at hrow
  clear hg2 hbz hmk hg1 hcp hA hone hlen
  go_wp2_with fail
  go_loopw [8] (fun i wq => ((i = .int .i64 1 ∧ wq.heap[w1.heap.size]? = some (.cells #[.bool true, .bool false] 4 (0, 0))) ∨ (i = .int .i64 2 ∧ wq.heap[w1.heap.size]? = some (.cells #[.bool true, .bool true] 4 (0, 0)))) ∧ Below w1.heap.size w1 wq) (fun i _ => 2 - (intOf i).toNat)
  case atStart => exact ⟨Or.inl ⟨rfl, hrow⟩, hb2⟩
  case round =>
    clear hrow hb2
    obtain ⟨hh, hB⟩ := hrel
    rcases hh with ⟨rfl, hrow⟩ | ⟨rfl, hrow⟩
    · have hrowd : wr.drew.heap[w1.heap.size]? = some (.cells #[.bool true, .bool false] 4 (0, 0)) := hrow
      have hcp : ∀ (j : Nat) (v : Value), ([.bool true] : List Value)[j]? = some v → wr.drew.cell? ((⟨w1.heap.size, 0, none⟩ : Addr).add j) = some v := by
        intro j v hj
        rcases j with _ | j
        · simp at hj; subst hj; simp [Addr.add, World.cell?, hrowd]
        · simp at hj
      have hone : ∀ v ∈ ([.bool true] : List Value), v.oneCell' = true := by simp [Value.oneCell']
      have hlen : ([.bool true] : List Value).length = Nat.min 1 1 := by decide
      have hcopy : (Builtin.copy_ #[60, 60] 3 #[.slice (some ⟨w1.heap.size, 1, none⟩) 1 1, .slice (some ⟨w1.heap.size, 0, none⟩) 1 2]).run Try.prog wr.drew = .ok (.int .i64 1) (wr.drew.setRow w1.heap.size #[.bool true, .bool true]) := run_copy_row (P := Try.prog) wr.drew 60 60 3 4 w1.heap.size 1 1 1 ⟨w1.heap.size, 0, none⟩ 1 2 #[.bool true, .bool false] 4 [.bool true] Try.underlying60 sz4 hrow hlen hcp (by simp) hone
      have HROW := hide hrowd
      clear hrow hrowd hcp hone hlen
      go_wp2_with fail
      go_region_with fail
      simp [Act.put]
      go_wp2_with fail
      refine ⟨⟨Or.inr (⟨by first | rfl | go_num, setRow_heap _ _ _ _ _ _ HROW.out⟩), below_setRow hB.drew (Nat.le_refl _) _⟩, by simp [intOf]; decide⟩
    · have HROW := hide hrow
      clear hrow
      go_wp2_with fail
      exact bodyPost_ret (v := .slice (some ⟨w1.heap.size, 0, none⟩) 2 2) (by simp [results, Try.results114, go_sem]) rfl ⟨_, rfl, ⟨rfl, Or.inr ⟨w1.heap.size, 2, _, rfl, hs1, HROW.out, Nat.le_refl _, by decide, rfl, rfl⟩⟩, hb1.trans (hB.mono hs1)⟩
set_option maxHeartbeats 2000000 in
set_option maxRecDepth 100000 in
theorem rep_3 (g : Nat) (w : World) (hlt : g < w.heap.size) (hg : w.cell? ⟨g, 0, none⟩ = some (.bool true)) : Calls Try.prog 114 #[.slice (some ⟨g, 0, none⟩) 1 1, .int .i64 3] w fun e w' => ∃ v, e = .returned v ∧ w'.ownsRow w.heap.size 4 1 v 3 [.bool true, .bool true, .bool true] ∧ Below w.heap.size w w' := by
  go_enter Try.func114, Try.ntmps114
  go_wp2_with fail
  refine (mulW_3 _).mono ?_
  rintro e w1 ⟨rfl, hb1⟩
  have hg1 := cell_over hb1 _ _ hg
  have hs1 := hb1.size
  clear hg
  have hmk : (Instr.makeSlice 60 (.int .i64 3) (.int .i64 3)).run Try.prog w1 = .ok (.slice (some ⟨w1.heap.size, 0, none⟩) 3 3) (w1.alloc (.cells #[.bool false, .bool false, .bool false] 4)) := make35 3 (by decide) w1
  have hbz : Below w1.heap.size w1 (w1.alloc (.cells #[.bool false, .bool false, .bool false] 4)) := (Below.refl _ w1).alloc (Nat.le_refl _) _
  have hg2 := cell_over hbz _ _ hg1
  have hcp : ∀ (j : Nat) (v : Value), ([.bool true] : List Value)[j]? = some v → (w1.alloc (.cells #[.bool false, .bool false, .bool false] 4)).cell? ((⟨g, 0, none⟩ : Addr).add j) = some v := by
    intro j v hj
    rcases j with _ | j
    · simp at hj; subst hj; simpa [Addr.add] using hg2
    · simp at hj
  have hA : (w1.alloc (.cells #[.bool false, .bool false, .bool false] 4)).heap[w1.heap.size]? = some (.cells ([.bool false, .bool false, .bool false] : List Value).toArray 4 (0, 0)) := heap_alloc_new w1 _
  have hone : ∀ v ∈ ([.bool true] : List Value), v.oneCell' = true := by simp [Value.oneCell']
  have hlen : ([.bool true] : List Value).length = Nat.min 1 3 := by decide
  go_wp2_with (refine wpList_copy_splice rfl (.tmp 31) (.tmp 32) 60 60 rfl 4 Try.underlying60 sz4 (some ⟨w1.heap.size, 0, none⟩) (some ⟨g, 0, none⟩) 3 3 1 1 rfl rfl w1.heap.size 0 [.bool false, .bool false, .bool false] 4 hA [.bool true] hlen (fun _ => ⟨rfl, _, rfl, hcp⟩) (by simp) hone w1.heap.size w1 hbz (Nat.le_refl _) ?_)
  intro w2 hrow hb2
  have hrow := hrow.out
  simp [splice] at hrow
  clear hg2 hbz hmk hg1 hcp hA hone hlen
  go_wp2_with fail
  go_loopw [8] (fun i wq => ((i = .int .i64 1 ∧ wq.heap[w1.heap.size]? = some (.cells #[.bool true, .bool false, .bool false] 4 (0, 0))) ∨ (i = .int .i64 2 ∧ wq.heap[w1.heap.size]? = some (.cells #[.bool true, .bool true, .bool false] 4 (0, 0))) ∨ (i = .int .i64 3 ∧ wq.heap[w1.heap.size]? = some (.cells #[.bool true, .bool true, .bool true] 4 (0, 0)))) ∧ Below w1.heap.size w1 wq) (fun i _ => 3 - (intOf i).toNat)
  case atStart => exact ⟨Or.inl ⟨rfl, hrow⟩, hb2⟩
  case round =>
    clear hrow hb2
    obtain ⟨hh, hB⟩ := hrel
    rcases hh with ⟨rfl, hrow⟩ | ⟨rfl, hrow⟩ | ⟨rfl, hrow⟩
    · have hrowd : wr.drew.heap[w1.heap.size]? = some (.cells #[.bool true, .bool false, .bool false] 4 (0, 0)) := hrow
      have hcp : ∀ (j : Nat) (v : Value), ([.bool true] : List Value)[j]? = some v → wr.drew.cell? ((⟨w1.heap.size, 0, none⟩ : Addr).add j) = some v := by
        intro j v hj
        rcases j with _ | j
        · simp at hj; subst hj; simp [Addr.add, World.cell?, hrowd]
        · simp at hj
      have hone : ∀ v ∈ ([.bool true] : List Value), v.oneCell' = true := by simp [Value.oneCell']
      have hlen : ([.bool true] : List Value).length = Nat.min 1 2 := by decide
      have hcopy : (Builtin.copy_ #[60, 60] 3 #[.slice (some ⟨w1.heap.size, 1, none⟩) 2 2, .slice (some ⟨w1.heap.size, 0, none⟩) 1 3]).run Try.prog wr.drew = .ok (.int .i64 1) (wr.drew.setRow w1.heap.size #[.bool true, .bool true, .bool false]) := run_copy_row (P := Try.prog) wr.drew 60 60 3 4 w1.heap.size 1 2 2 ⟨w1.heap.size, 0, none⟩ 1 3 #[.bool true, .bool false, .bool false] 4 [.bool true] Try.underlying60 sz4 hrow hlen hcp (by simp) hone
      have HROW := hide hrowd
      clear hrow hrowd hcp hone hlen
      go_wp2_with fail
      go_region_with fail
      simp [Act.put]
      go_wp2_with fail
      refine ⟨⟨Or.inr (Or.inl ⟨by first | rfl | go_num, setRow_heap _ _ _ _ _ _ HROW.out⟩), below_setRow hB.drew (Nat.le_refl _) _⟩, by simp [intOf]; decide⟩
    · have hrowd : wr.drew.heap[w1.heap.size]? = some (.cells #[.bool true, .bool true, .bool false] 4 (0, 0)) := hrow
      have hcp : ∀ (j : Nat) (v : Value), ([.bool true] : List Value)[j]? = some v → wr.drew.cell? ((⟨w1.heap.size, 0, none⟩ : Addr).add j) = some v := by
        intro j v hj
        rcases j with _ | j
        · simp at hj; subst hj; simp [Addr.add, World.cell?, hrowd]
        · simp at hj
      have hone : ∀ v ∈ ([.bool true] : List Value), v.oneCell' = true := by simp [Value.oneCell']
      have hlen : ([.bool true] : List Value).length = Nat.min 2 1 := by decide
      have hcopy : (Builtin.copy_ #[60, 60] 3 #[.slice (some ⟨w1.heap.size, 2, none⟩) 1 1, .slice (some ⟨w1.heap.size, 0, none⟩) 2 3]).run Try.prog wr.drew = .ok (.int .i64 1) (wr.drew.setRow w1.heap.size #[.bool true, .bool true, .bool true]) := run_copy_row (P := Try.prog) wr.drew 60 60 3 4 w1.heap.size 2 1 1 ⟨w1.heap.size, 0, none⟩ 2 3 #[.bool true, .bool true, .bool false] 4 [.bool true] Try.underlying60 sz4 hrow hlen hcp (by simp) hone
      have HROW := hide hrowd
      clear hrow hrowd hcp hone hlen
      go_wp2_with fail
      go_region_with fail
      simp [Act.put]
      go_wp2_with fail
      refine ⟨⟨Or.inr (Or.inr (⟨by first | rfl | go_num, setRow_heap _ _ _ _ _ _ HROW.out⟩)), below_setRow hB.drew (Nat.le_refl _) _⟩, by simp [intOf]; decide⟩
    · have HROW := hide hrow
      clear hrow
      go_wp2_with fail
      exact bodyPost_ret (v := .slice (some ⟨w1.heap.size, 0, none⟩) 3 3) (by simp [results, Try.results114, go_sem]) rfl ⟨_, rfl, ⟨rfl, Or.inr ⟨w1.heap.size, 3, _, rfl, hs1, HROW.out, Nat.le_refl _, by decide, rfl, rfl⟩⟩, hb1.trans (hB.mono hs1)⟩
set_option maxHeartbeats 2000000 in
set_option maxRecDepth 100000 in
theorem rep_4 (g : Nat) (w : World) (hlt : g < w.heap.size) (hg : w.cell? ⟨g, 0, none⟩ = some (.bool true)) : Calls Try.prog 114 #[.slice (some ⟨g, 0, none⟩) 1 1, .int .i64 4] w fun e w' => ∃ v, e = .returned v ∧ w'.ownsRow w.heap.size 4 1 v 4 [.bool true, .bool true, .bool true, .bool true] ∧ Below w.heap.size w w' := by
  go_enter Try.func114, Try.ntmps114
  go_wp2_with fail
  refine (mulW_4 _).mono ?_
  rintro e w1 ⟨rfl, hb1⟩
  have hg1 := cell_over hb1 _ _ hg
  have hs1 := hb1.size
  clear hg
  have hmk : (Instr.makeSlice 60 (.int .i64 4) (.int .i64 4)).run Try.prog w1 = .ok (.slice (some ⟨w1.heap.size, 0, none⟩) 4 4) (w1.alloc (.cells #[.bool false, .bool false, .bool false, .bool false] 4)) := make35 4 (by decide) w1
  have hbz : Below w1.heap.size w1 (w1.alloc (.cells #[.bool false, .bool false, .bool false, .bool false] 4)) := (Below.refl _ w1).alloc (Nat.le_refl _) _
  have hg2 := cell_over hbz _ _ hg1
  have hcp : ∀ (j : Nat) (v : Value), ([.bool true] : List Value)[j]? = some v → (w1.alloc (.cells #[.bool false, .bool false, .bool false, .bool false] 4)).cell? ((⟨g, 0, none⟩ : Addr).add j) = some v := by
    intro j v hj
    rcases j with _ | j
    · simp at hj; subst hj; simpa [Addr.add] using hg2
    · simp at hj
  have hA : (w1.alloc (.cells #[.bool false, .bool false, .bool false, .bool false] 4)).heap[w1.heap.size]? = some (.cells ([.bool false, .bool false, .bool false, .bool false] : List Value).toArray 4 (0, 0)) := heap_alloc_new w1 _
  have hone : ∀ v ∈ ([.bool true] : List Value), v.oneCell' = true := by simp [Value.oneCell']
  have hlen : ([.bool true] : List Value).length = Nat.min 1 4 := by decide
  go_wp2_with (refine wpList_copy_splice rfl (.tmp 31) (.tmp 32) 60 60 rfl 4 Try.underlying60 sz4 (some ⟨w1.heap.size, 0, none⟩) (some ⟨g, 0, none⟩) 4 4 1 1 rfl rfl w1.heap.size 0 [.bool false, .bool false, .bool false, .bool false] 4 hA [.bool true] hlen (fun _ => ⟨rfl, _, rfl, hcp⟩) (by simp) hone w1.heap.size w1 hbz (Nat.le_refl _) ?_)
  intro w2 hrow hb2
  have hrow := hrow.out
  simp [splice] at hrow
  clear hg2 hbz hmk hg1 hcp hA hone hlen
  go_wp2_with fail
  go_loopw [8] (fun i wq => ((i = .int .i64 1 ∧ wq.heap[w1.heap.size]? = some (.cells #[.bool true, .bool false, .bool false, .bool false] 4 (0, 0))) ∨ (i = .int .i64 2 ∧ wq.heap[w1.heap.size]? = some (.cells #[.bool true, .bool true, .bool false, .bool false] 4 (0, 0))) ∨ (i = .int .i64 4 ∧ wq.heap[w1.heap.size]? = some (.cells #[.bool true, .bool true, .bool true, .bool true] 4 (0, 0)))) ∧ Below w1.heap.size w1 wq) (fun i _ => 4 - (intOf i).toNat)
  case atStart => exact ⟨Or.inl ⟨rfl, hrow⟩, hb2⟩
  case round =>
    clear hrow hb2
    obtain ⟨hh, hB⟩ := hrel
    rcases hh with ⟨rfl, hrow⟩ | ⟨rfl, hrow⟩ | ⟨rfl, hrow⟩
    · have hrowd : wr.drew.heap[w1.heap.size]? = some (.cells #[.bool true, .bool false, .bool false, .bool false] 4 (0, 0)) := hrow
      have hcp : ∀ (j : Nat) (v : Value), ([.bool true] : List Value)[j]? = some v → wr.drew.cell? ((⟨w1.heap.size, 0, none⟩ : Addr).add j) = some v := by
        intro j v hj
        rcases j with _ | j
        · simp at hj; subst hj; simp [Addr.add, World.cell?, hrowd]
        · simp at hj
      have hone : ∀ v ∈ ([.bool true] : List Value), v.oneCell' = true := by simp [Value.oneCell']
      have hlen : ([.bool true] : List Value).length = Nat.min 1 3 := by decide
      have hcopy : (Builtin.copy_ #[60, 60] 3 #[.slice (some ⟨w1.heap.size, 1, none⟩) 3 3, .slice (some ⟨w1.heap.size, 0, none⟩) 1 4]).run Try.prog wr.drew = .ok (.int .i64 1) (wr.drew.setRow w1.heap.size #[.bool true, .bool true, .bool false, .bool false]) := run_copy_row (P := Try.prog) wr.drew 60 60 3 4 w1.heap.size 1 3 3 ⟨w1.heap.size, 0, none⟩ 1 4 #[.bool true, .bool false, .bool false, .bool false] 4 [.bool true] Try.underlying60 sz4 hrow hlen hcp (by simp) hone
      have HROW := hide hrowd
      clear hrow hrowd hcp hone hlen
      go_wp2_with fail
      go_region_with fail
      simp [Act.put]
      go_wp2_with fail
      refine ⟨⟨Or.inr (Or.inl ⟨by first | rfl | go_num, setRow_heap _ _ _ _ _ _ HROW.out⟩), below_setRow hB.drew (Nat.le_refl _) _⟩, by simp [intOf]; decide⟩
    · have hrowd : wr.drew.heap[w1.heap.size]? = some (.cells #[.bool true, .bool true, .bool false, .bool false] 4 (0, 0)) := hrow
      have hcp : ∀ (j : Nat) (v : Value), ([.bool true, .bool true] : List Value)[j]? = some v → wr.drew.cell? ((⟨w1.heap.size, 0, none⟩ : Addr).add j) = some v := by
        intro j v hj
        rcases j with _ | _ | j
        · simp at hj; subst hj; simp [Addr.add, World.cell?, hrowd]
        · simp at hj; subst hj; simp [Addr.add, World.cell?, hrowd]
        · simp at hj
      have hone : ∀ v ∈ ([.bool true, .bool true] : List Value), v.oneCell' = true := by simp [Value.oneCell']
      have hlen : ([.bool true, .bool true] : List Value).length = Nat.min 2 2 := by decide
      have hcopy : (Builtin.copy_ #[60, 60] 3 #[.slice (some ⟨w1.heap.size, 2, none⟩) 2 2, .slice (some ⟨w1.heap.size, 0, none⟩) 2 4]).run Try.prog wr.drew = .ok (.int .i64 2) (wr.drew.setRow w1.heap.size #[.bool true, .bool true, .bool true, .bool true]) := run_copy_row (P := Try.prog) wr.drew 60 60 3 4 w1.heap.size 2 2 2 ⟨w1.heap.size, 0, none⟩ 2 4 #[.bool true, .bool true, .bool false, .bool false] 4 [.bool true, .bool true] Try.underlying60 sz4 hrow hlen hcp (by simp) hone
      have HROW := hide hrowd
      clear hrow hrowd hcp hone hlen
      go_wp2_with fail
      go_region_with fail
      simp [Act.put]
      go_wp2_with fail
      refine ⟨⟨Or.inr (Or.inr (⟨by first | rfl | go_num, setRow_heap _ _ _ _ _ _ HROW.out⟩)), below_setRow hB.drew (Nat.le_refl _) _⟩, by simp [intOf]; decide⟩
    · have HROW := hide hrow
      clear hrow
      go_wp2_with fail
      exact bodyPost_ret (v := .slice (some ⟨w1.heap.size, 0, none⟩) 4 4) (by simp [results, Try.results114, go_sem]) rfl ⟨_, rfl, ⟨rfl, Or.inr ⟨w1.heap.size, 4, _, rfl, hs1, HROW.out, Nat.le_refl _, by decide, rfl, rfl⟩⟩, hb1.trans (hB.mono hs1)⟩
set_option maxHeartbeats 2000000 in
set_option maxRecDepth 100000 in
theorem rep_5 (g : Nat) (w : World) (hlt : g < w.heap.size) (hg : w.cell? ⟨g, 0, none⟩ = some (.bool true)) : Calls Try.prog 114 #[.slice (some ⟨g, 0, none⟩) 1 1, .int .i64 5] w fun e w' => ∃ v, e = .returned v ∧ w'.ownsRow w.heap.size 4 1 v 5 [.bool true, .bool true, .bool true, .bool true, .bool true] ∧ Below w.heap.size w w' := by
  go_enter Try.func114, Try.ntmps114
  go_wp2_with fail
  refine (mulW_5 _).mono ?_
  rintro e w1 ⟨rfl, hb1⟩
  have hg1 := cell_over hb1 _ _ hg
  have hs1 := hb1.size
  clear hg
  have hmk : (Instr.makeSlice 60 (.int .i64 5) (.int .i64 5)).run Try.prog w1 = .ok (.slice (some ⟨w1.heap.size, 0, none⟩) 5 5) (w1.alloc (.cells #[.bool false, .bool false, .bool false, .bool false, .bool false] 4)) := make35 5 (by decide) w1
  have hbz : Below w1.heap.size w1 (w1.alloc (.cells #[.bool false, .bool false, .bool false, .bool false, .bool false] 4)) := (Below.refl _ w1).alloc (Nat.le_refl _) _
  have hg2 := cell_over hbz _ _ hg1
  have hcp : ∀ (j : Nat) (v : Value), ([.bool true] : List Value)[j]? = some v → (w1.alloc (.cells #[.bool false, .bool false, .bool false, .bool false, .bool false] 4)).cell? ((⟨g, 0, none⟩ : Addr).add j) = some v := by
    intro j v hj
    rcases j with _ | j
    · simp at hj; subst hj; simpa [Addr.add] using hg2
    · simp at hj
  have hA : (w1.alloc (.cells #[.bool false, .bool false, .bool false, .bool false, .bool false] 4)).heap[w1.heap.size]? = some (.cells ([.bool false, .bool false, .bool false, .bool false, .bool false] : List Value).toArray 4 (0, 0)) := heap_alloc_new w1 _
  have hone : ∀ v ∈ ([.bool true] : List Value), v.oneCell' = true := by simp [Value.oneCell']
  have hlen : ([.bool true] : List Value).length = Nat.min 1 5 := by decide
  go_wp2_with (refine wpList_copy_splice rfl (.tmp 31) (.tmp 32) 60 60 rfl 4 Try.underlying60 sz4 (some ⟨w1.heap.size, 0, none⟩) (some ⟨g, 0, none⟩) 5 5 1 1 rfl rfl w1.heap.size 0 [.bool false, .bool false, .bool false, .bool false, .bool false] 4 hA [.bool true] hlen (fun _ => ⟨rfl, _, rfl, hcp⟩) (by simp) hone w1.heap.size w1 hbz (Nat.le_refl _) ?_)
  intro w2 hrow hb2
  have hrow := hrow.out
  simp [splice] at hrow
  clear hg2 hbz hmk hg1 hcp hA hone hlen
  go_wp2_with fail
  go_loopw [8] (fun i wq => ((i = .int .i64 1 ∧ wq.heap[w1.heap.size]? = some (.cells #[.bool true, .bool false, .bool false, .bool false, .bool false] 4 (0, 0))) ∨ (i = .int .i64 2 ∧ wq.heap[w1.heap.size]? = some (.cells #[.bool true, .bool true, .bool false, .bool false, .bool false] 4 (0, 0))) ∨ (i = .int .i64 4 ∧ wq.heap[w1.heap.size]? = some (.cells #[.bool true, .bool true, .bool true, .bool true, .bool false] 4 (0, 0))) ∨ (i = .int .i64 5 ∧ wq.heap[w1.heap.size]? = some (.cells #[.bool true, .bool true, .bool true, .bool true, .bool true] 4 (0, 0)))) ∧ Below w1.heap.size w1 wq) (fun i _ => 5 - (intOf i).toNat)
  case atStart => exact ⟨Or.inl ⟨rfl, hrow⟩, hb2⟩
  case round =>
    clear hrow hb2
    obtain ⟨hh, hB⟩ := hrel
    rcases hh with ⟨rfl, hrow⟩ | ⟨rfl, hrow⟩ | ⟨rfl, hrow⟩ | ⟨rfl, hrow⟩
    · have hrowd : wr.drew.heap[w1.heap.size]? = some (.cells #[.bool true, .bool false, .bool false, .bool false, .bool false] 4 (0, 0)) := hrow
      have hcp : ∀ (j : Nat) (v : Value), ([.bool true] : List Value)[j]? = some v → wr.drew.cell? ((⟨w1.heap.size, 0, none⟩ : Addr).add j) = some v := by
        intro j v hj
        rcases j with _ | j
        · simp at hj; subst hj; simp [Addr.add, World.cell?, hrowd]
        · simp at hj
      have hone : ∀ v ∈ ([.bool true] : List Value), v.oneCell' = true := by simp [Value.oneCell']
      have hlen : ([.bool true] : List Value).length = Nat.min 1 4 := by decide
      have hcopy : (Builtin.copy_ #[60, 60] 3 #[.slice (some ⟨w1.heap.size, 1, none⟩) 4 4, .slice (some ⟨w1.heap.size, 0, none⟩) 1 5]).run Try.prog wr.drew = .ok (.int .i64 1) (wr.drew.setRow w1.heap.size #[.bool true, .bool true, .bool false, .bool false, .bool false]) := run_copy_row (P := Try.prog) wr.drew 60 60 3 4 w1.heap.size 1 4 4 ⟨w1.heap.size, 0, none⟩ 1 5 #[.bool true, .bool false, .bool false, .bool false, .bool false] 4 [.bool true] Try.underlying60 sz4 hrow hlen hcp (by simp) hone
      have HROW := hide hrowd
      clear hrow hrowd hcp hone hlen
      go_wp2_with fail
      go_region_with fail
      simp [Act.put]
      go_wp2_with fail
      refine ⟨⟨Or.inr (Or.inl ⟨by first | rfl | go_num, setRow_heap _ _ _ _ _ _ HROW.out⟩), below_setRow hB.drew (Nat.le_refl _) _⟩, by simp [intOf]; decide⟩
    · have hrowd : wr.drew.heap[w1.heap.size]? = some (.cells #[.bool true, .bool true, .bool false, .bool false, .bool false] 4 (0, 0)) := hrow
      have hcp : ∀ (j : Nat) (v : Value), ([.bool true, .bool true] : List Value)[j]? = some v → wr.drew.cell? ((⟨w1.heap.size, 0, none⟩ : Addr).add j) = some v := by
        intro j v hj
        rcases j with _ | _ | j
        · simp at hj; subst hj; simp [Addr.add, World.cell?, hrowd]
        · simp at hj; subst hj; simp [Addr.add, World.cell?, hrowd]
        · simp at hj
      have hone : ∀ v ∈ ([.bool true, .bool true] : List Value), v.oneCell' = true := by simp [Value.oneCell']
      have hlen : ([.bool true, .bool true] : List Value).length = Nat.min 2 3 := by decide
      have hcopy : (Builtin.copy_ #[60, 60] 3 #[.slice (some ⟨w1.heap.size, 2, none⟩) 3 3, .slice (some ⟨w1.heap.size, 0, none⟩) 2 5]).run Try.prog wr.drew = .ok (.int .i64 2) (wr.drew.setRow w1.heap.size #[.bool true, .bool true, .bool true, .bool true, .bool false]) := run_copy_row (P := Try.prog) wr.drew 60 60 3 4 w1.heap.size 2 3 3 ⟨w1.heap.size, 0, none⟩ 2 5 #[.bool true, .bool true, .bool false, .bool false, .bool false] 4 [.bool true, .bool true] Try.underlying60 sz4 hrow hlen hcp (by simp) hone
      have HROW := hide hrowd
      clear hrow hrowd hcp hone hlen
      go_wp2_with fail
      go_region_with fail
      simp [Act.put]
      go_wp2_with fail
      refine ⟨⟨Or.inr (Or.inr (Or.inl ⟨by first | rfl | go_num, setRow_heap _ _ _ _ _ _ HROW.out⟩)), below_setRow hB.drew (Nat.le_refl _) _⟩, by simp [intOf]; decide⟩
    · have hrowd : wr.drew.heap[w1.heap.size]? = some (.cells #[.bool true, .bool true, .bool true, .bool true, .bool false] 4 (0, 0)) := hrow
      have hcp : ∀ (j : Nat) (v : Value), ([.bool true] : List Value)[j]? = some v → wr.drew.cell? ((⟨w1.heap.size, 0, none⟩ : Addr).add j) = some v := by
        intro j v hj
        rcases j with _ | j
        · simp at hj; subst hj; simp [Addr.add, World.cell?, hrowd]
        · simp at hj
      have hone : ∀ v ∈ ([.bool true] : List Value), v.oneCell' = true := by simp [Value.oneCell']
      have hlen : ([.bool true] : List Value).length = Nat.min 4 1 := by decide
      have hcopy : (Builtin.copy_ #[60, 60] 3 #[.slice (some ⟨w1.heap.size, 4, none⟩) 1 1, .slice (some ⟨w1.heap.size, 0, none⟩) 4 5]).run Try.prog wr.drew = .ok (.int .i64 1) (wr.drew.setRow w1.heap.size #[.bool true, .bool true, .bool true, .bool true, .bool true]) := run_copy_row (P := Try.prog) wr.drew 60 60 3 4 w1.heap.size 4 1 1 ⟨w1.heap.size, 0, none⟩ 4 5 #[.bool true, .bool true, .bool true, .bool true, .bool false] 4 [.bool true] Try.underlying60 sz4 hrow hlen hcp (by simp) hone
      have HROW := hide hrowd
      clear hrow hrowd hcp hone hlen
      go_wp2_with fail
      go_region_with fail
      simp [Act.put]
      go_wp2_with fail
      refine ⟨⟨Or.inr (Or.inr (Or.inr (⟨by first | rfl | go_num, setRow_heap _ _ _ _ _ _ HROW.out⟩))), below_setRow hB.drew (Nat.le_refl _) _⟩, by simp [intOf]; decide⟩
    · have HROW := hide hrow
      clear hrow
      go_wp2_with fail
      exact bodyPost_ret (v := .slice (some ⟨w1.heap.size, 0, none⟩) 5 5) (by simp [results, Try.results114, go_sem]) rfl ⟨_, rfl, ⟨rfl, Or.inr ⟨w1.heap.size, 5, _, rfl, hs1, HROW.out, Nat.le_refl _, by decide, rfl, rfl⟩⟩, hb1.trans (hB.mono hs1)⟩
set_option maxHeartbeats 2000000 in
set_option maxRecDepth 100000 in
theorem rep_6 (g : Nat) (w : World) (hlt : g < w.heap.size) (hg : w.cell? ⟨g, 0, none⟩ = some (.bool true)) : Calls Try.prog 114 #[.slice (some ⟨g, 0, none⟩) 1 1, .int .i64 6] w fun e w' => ∃ v, e = .returned v ∧ w'.ownsRow w.heap.size 4 1 v 6 [.bool true, .bool true, .bool true, .bool true, .bool true, .bool true] ∧ Below w.heap.size w w' := by
  go_enter Try.func114, Try.ntmps114
  go_wp2_with fail
  refine (mulW_6 _).mono ?_
  rintro e w1 ⟨rfl, hb1⟩
  have hg1 := cell_over hb1 _ _ hg
  have hs1 := hb1.size
  clear hg
  have hmk : (Instr.makeSlice 60 (.int .i64 6) (.int .i64 6)).run Try.prog w1 = .ok (.slice (some ⟨w1.heap.size, 0, none⟩) 6 6) (w1.alloc (.cells #[.bool false, .bool false, .bool false, .bool false, .bool false, .bool false] 4)) := make35 6 (by decide) w1
  have hbz : Below w1.heap.size w1 (w1.alloc (.cells #[.bool false, .bool false, .bool false, .bool false, .bool false, .bool false] 4)) := (Below.refl _ w1).alloc (Nat.le_refl _) _
  have hg2 := cell_over hbz _ _ hg1
  have hcp : ∀ (j : Nat) (v : Value), ([.bool true] : List Value)[j]? = some v → (w1.alloc (.cells #[.bool false, .bool false, .bool false, .bool false, .bool false, .bool false] 4)).cell? ((⟨g, 0, none⟩ : Addr).add j) = some v := by
    intro j v hj
    rcases j with _ | j
    · simp at hj; subst hj; simpa [Addr.add] using hg2
    · simp at hj
  have hA : (w1.alloc (.cells #[.bool false, .bool false, .bool false, .bool false, .bool false, .bool false] 4)).heap[w1.heap.size]? = some (.cells ([.bool false, .bool false, .bool false, .bool false, .bool false, .bool false] : List Value).toArray 4 (0, 0)) := heap_alloc_new w1 _
  have hone : ∀ v ∈ ([.bool true] : List Value), v.oneCell' = true := by simp [Value.oneCell']
  have hlen : ([.bool true] : List Value).length = Nat.min 1 6 := by decide
  go_wp2_with (refine wpList_copy_splice rfl (.tmp 31) (.tmp 32) 60 60 rfl 4 Try.underlying60 sz4 (some ⟨w1.heap.size, 0, none⟩) (some ⟨g, 0, none⟩) 6 6 1 1 rfl rfl w1.heap.size 0 [.bool false, .bool false, .bool false, .bool false, .bool false, .bool false] 4 hA [.bool true] hlen (fun _ => ⟨rfl, _, rfl, hcp⟩) (by simp) hone w1.heap.size w1 hbz (Nat.le_refl _) ?_)
  intro w2 hrow hb2
  have hrow := hrow.out
  simp [splice] at hrow
  clear hg2 hbz hmk hg1 hcp hA hone hlen
  go_wp2_with fail
  go_loopw [8] (fun i wq => ((i = .int .i64 1 ∧ wq.heap[w1.heap.size]? = some (.cells #[.bool true, .bool false, .bool false, .bool false, .bool false, .bool false] 4 (0, 0))) ∨ (i = .int .i64 2 ∧ wq.heap[w1.heap.size]? = some (.cells #[.bool true, .bool true, .bool false, .bool false, .bool false, .bool false] 4 (0, 0))) ∨ (i = .int .i64 4 ∧ wq.heap[w1.heap.size]? = some (.cells #[.bool true, .bool true, .bool true, .bool true, .bool false, .bool false] 4 (0, 0))) ∨ (i = .int .i64 6 ∧ wq.heap[w1.heap.size]? = some (.cells #[.bool true, .bool true, .bool true, .bool true, .bool true, .bool true] 4 (0, 0)))) ∧ Below w1.heap.size w1 wq) (fun i _ => 6 - (intOf i).toNat)
  case atStart => exact ⟨Or.inl ⟨rfl, hrow⟩, hb2⟩
  case round =>
    clear hrow hb2
    obtain ⟨hh, hB⟩ := hrel
    rcases hh with ⟨rfl, hrow⟩ | ⟨rfl, hrow⟩ | ⟨rfl, hrow⟩ | ⟨rfl, hrow⟩
    · have hrowd : wr.drew.heap[w1.heap.size]? = some (.cells #[.bool true, .bool false, .bool false, .bool false, .bool false, .bool false] 4 (0, 0)) := hrow
      have hcp : ∀ (j : Nat) (v : Value), ([.bool true] : List Value)[j]? = some v → wr.drew.cell? ((⟨w1.heap.size, 0, none⟩ : Addr).add j) = some v := by
        intro j v hj
        rcases j with _ | j
        · simp at hj; subst hj; simp [Addr.add, World.cell?, hrowd]
        · simp at hj
      have hone : ∀ v ∈ ([.bool true] : List Value), v.oneCell' = true := by simp [Value.oneCell']
      have hlen : ([.bool true] : List Value).length = Nat.min 1 5 := by decide
      have hcopy : (Builtin.copy_ #[60, 60] 3 #[.slice (some ⟨w1.heap.size, 1, none⟩) 5 5, .slice (some ⟨w1.heap.size, 0, none⟩) 1 6]).run Try.prog wr.drew = .ok (.int .i64 1) (wr.drew.setRow w1.heap.size #[.bool true, .bool true, .bool false, .bool false, .bool false, .bool false]) := run_copy_row (P := Try.prog) wr.drew 60 60 3 4 w1.heap.size 1 5 5 ⟨w1.heap.size, 0, none⟩ 1 6 #[.bool true, .bool false, .bool false, .bool false, .bool false, .bool false] 4 [.bool true] Try.underlying60 sz4 hrow hlen hcp (by simp) hone
      have HROW := hide hrowd
      clear hrow hrowd hcp hone hlen
      go_wp2_with fail
      go_region_with fail
      simp [Act.put]
      go_wp2_with fail
      refine ⟨⟨Or.inr (Or.inl ⟨by first | rfl | go_num, setRow_heap _ _ _ _ _ _ HROW.out⟩), below_setRow hB.drew (Nat.le_refl _) _⟩, by simp [intOf]; decide⟩
    · have hrowd : wr.drew.heap[w1.heap.size]? = some (.cells #[.bool true, .bool true, .bool false, .bool false, .bool false, .bool false] 4 (0, 0)) := hrow
      have hcp : ∀ (j : Nat) (v : Value), ([.bool true, .bool true] : List Value)[j]? = some v → wr.drew.cell? ((⟨w1.heap.size, 0, none⟩ : Addr).add j) = some v := by
        intro j v hj
        rcases j with _ | _ | j
        · simp at hj; subst hj; simp [Addr.add, World.cell?, hrowd]
        · simp at hj; subst hj; simp [Addr.add, World.cell?, hrowd]
        · simp at hj
      have hone : ∀ v ∈ ([.bool true, .bool true] : List Value), v.oneCell' = true := by simp [Value.oneCell']
      have hlen : ([.bool true, .bool true] : List Value).length = Nat.min 2 4 := by decide
      have hcopy : (Builtin.copy_ #[60, 60] 3 #[.slice (some ⟨w1.heap.size, 2, none⟩) 4 4, .slice (some ⟨w1.heap.size, 0, none⟩) 2 6]).run Try.prog wr.drew = .ok (.int .i64 2) (wr.drew.setRow w1.heap.size #[.bool true, .bool true, .bool true, .bool true, .bool false, .bool false]) := run_copy_row (P := Try.prog) wr.drew 60 60 3 4 w1.heap.size 2 4 4 ⟨w1.heap.size, 0, none⟩ 2 6 #[.bool true, .bool true, .bool false, .bool false, .bool false, .bool false] 4 [.bool true, .bool true] Try.underlying60 sz4 hrow hlen hcp (by simp) hone
      have HROW := hide hrowd
      clear hrow hrowd hcp hone hlen
      go_wp2_with fail
      go_region_with fail
      simp [Act.put]
      go_wp2_with fail
      refine ⟨⟨Or.inr (Or.inr (Or.inl ⟨by first | rfl | go_num, setRow_heap _ _ _ _ _ _ HROW.out⟩)), below_setRow hB.drew (Nat.le_refl _) _⟩, by simp [intOf]; decide⟩
    · have hrowd : wr.drew.heap[w1.heap.size]? = some (.cells #[.bool true, .bool true, .bool true, .bool true, .bool false, .bool false] 4 (0, 0)) := hrow
      have hcp : ∀ (j : Nat) (v : Value), ([.bool true, .bool true] : List Value)[j]? = some v → wr.drew.cell? ((⟨w1.heap.size, 0, none⟩ : Addr).add j) = some v := by
        intro j v hj
        rcases j with _ | _ | j
        · simp at hj; subst hj; simp [Addr.add, World.cell?, hrowd]
        · simp at hj; subst hj; simp [Addr.add, World.cell?, hrowd]
        · simp at hj
      have hone : ∀ v ∈ ([.bool true, .bool true] : List Value), v.oneCell' = true := by simp [Value.oneCell']
      have hlen : ([.bool true, .bool true] : List Value).length = Nat.min 4 2 := by decide
      have hcopy : (Builtin.copy_ #[60, 60] 3 #[.slice (some ⟨w1.heap.size, 4, none⟩) 2 2, .slice (some ⟨w1.heap.size, 0, none⟩) 4 6]).run Try.prog wr.drew = .ok (.int .i64 2) (wr.drew.setRow w1.heap.size #[.bool true, .bool true, .bool true, .bool true, .bool true, .bool true]) := run_copy_row (P := Try.prog) wr.drew 60 60 3 4 w1.heap.size 4 2 2 ⟨w1.heap.size, 0, none⟩ 4 6 #[.bool true, .bool true, .bool true, .bool true, .bool false, .bool false] 4 [.bool true, .bool true] Try.underlying60 sz4 hrow hlen hcp (by simp) hone
      have HROW := hide hrowd
      clear hrow hrowd hcp hone hlen
      go_wp2_with fail
      go_region_with fail
      simp [Act.put]
      go_wp2_with fail
      refine ⟨⟨Or.inr (Or.inr (Or.inr (⟨by first | rfl | go_num, setRow_heap _ _ _ _ _ _ HROW.out⟩))), below_setRow hB.drew (Nat.le_refl _) _⟩, by simp [intOf]; decide⟩
    · have HROW := hide hrow
      clear hrow
      go_wp2_with fail
      exact bodyPost_ret (v := .slice (some ⟨w1.heap.size, 0, none⟩) 6 6) (by simp [results, Try.results114, go_sem]) rfl ⟨_, rfl, ⟨rfl, Or.inr ⟨w1.heap.size, 6, _, rfl, hs1, HROW.out, Nat.le_refl _, by decide, rfl, rfl⟩⟩, hb1.trans (hB.mono hs1)⟩

theorem rep_any (n : Nat) (h1 : 1 ≤ n) (h6 : n ≤ 6) (g : Nat) (w : World) (hlt : g < w.heap.size) (hg : w.cell? ⟨g, 0, none⟩ = some (.bool true)) : Calls Try.prog 114 #[.slice (some ⟨g, 0, none⟩) 1 1, .int .i64 n] w fun e w' => ∃ v, e = .returned v ∧ w'.ownsRow w.heap.size 4 1 v n (List.replicate n (.bool true)) ∧ Below w.heap.size w w' := by
  rcases (by omega : n = 1 ∨ n = 2 ∨ n = 3 ∨ n = 4 ∨ n = 5 ∨ n = 6) with rfl | rfl | rfl | rfl | rfl | rfl
  · exact rep_1 g w hlt hg
  · exact rep_2 g w hlt hg
  · exact rep_3 g w hlt hg
  · exact rep_4 g w hlt hg
  · exact rep_5 g w hlt hg
  · exact rep_6 g w hlt hg
theorem heap_set_other {W : World} {b g o : Nat} (h : b ≠ g) (u : Value) : (W.setCell ⟨b, o, none⟩ u).heap[g]? = W.heap[g]? := by
  simp [World.setCell, Array.getElem?_modify, h]

theorem apart_of {W : World} {B : Nat} {v : Value} {k g n c : Nat} {xs : List Value} (h : W.ownsRow B 4 1 v k xs) (hg : g < B ∨ W.heap.size ≤ g) : Apart v (.slice (some ⟨g, 0, none⟩) n c) := by
  cases hv : v.ownBlock with
  | none => exact Or.inl hv
  | some x =>
    have h2 := ownB_lt h hv
    refine Or.inr ?_
    rw [hv]
    simp [Value.ownBlock]
    omega

theorem endA {w wp : World} {n : Nat} {v : Value} (h6 : n ≤ 6) (hw : w.heap.size + 1 + 1 ≤ wp.heap.size) (hor : wp.ownsRow (w.heap.size + 1 + 1) 4 1 v n (List.replicate n (.bool true))) (u0 u1 : Value) :
    LevFresh w (((wp.setCell ⟨w.heap.size + 1, 0, none⟩ u0).setCell ⟨w.heap.size + 1, 1, none⟩ u1).alloc (.cells (Array.replicate n (.bool false)) 4)) (.agg #[v, .slice (some ⟨wp.heap.size, 0, none⟩) n n]) (botL n) := by
  refine ⟨_, _, rfl, ?_, ?_, apart_of hor (Or.inr (Nat.le_refl _))⟩
  · simp only [botL, List.length_replicate, boolCells, List.map_replicate]
    exact own_low (ownB_alloc (ownB_set (ownB_set hor (by simp) _) (by simp) _) _) (by omega)
  · simp only [botL, List.length_replicate, boolCells, List.map_replicate]
    refine ⟨by simp, Or.inr ⟨wp.heap.size, n, Array.replicate n (.bool false), rfl, by omega, ?_, Nat.le_refl _, by unfold maxLen; omega, by simp, by simp⟩⟩
    have := heap_of_alloc ((wp.setCell ⟨w.heap.size + 1, 0, none⟩ u0).setCell ⟨w.heap.size + 1, 1, none⟩ u1) (.cells (Array.replicate n (.bool false)) 4)
    simpa [World.setCell] using this

theorem endB {w wp : World} {n g : Nat} {v : Value} (h6 : n ≤ 6) (hg : w.heap.size + 1 + 1 ≤ g) (hor : wp.ownsRow (g + 1) 4 1 v n (List.replicate n (.bool true))) (hrow : wp.heap[g]? = some (.cells (Array.replicate n (.bool false)) 4 (0, 0))) (u0 u1 : Value) :
    LevFresh w ((wp.setCell ⟨w.heap.size + 1, 0, none⟩ u0).setCell ⟨w.heap.size + 1, 1, none⟩ u1) (.agg #[v, .slice (some ⟨g, 0, none⟩) n n]) (botL n) := by
  refine ⟨_, _, rfl, ?_, ?_, apart_of hor (Or.inl (Nat.lt_succ_self _))⟩
  · simp only [botL, List.length_replicate, boolCells, List.map_replicate]
    exact own_low (ownB_set (ownB_set hor (by simp; omega) _) (by simp; omega) _) (by omega)
  · simp only [botL, List.length_replicate, boolCells, List.map_replicate]
    refine ⟨by simp, Or.inr ⟨g, n, Array.replicate n (.bool false), rfl, by omega, ?_, Nat.le_refl _, by unfold maxLen; omega, by simp, by simp⟩⟩
    rw [heap_set_other (by omega), heap_set_other (by omega)]
    exact hrow

theorem rowBM {w wp : World} {o1 o2 o3 o4 : Obj} {B : Nat} (h : Below B ((((w.alloc o1).alloc o2).alloc o3).alloc o4).drew wp) (hB : w.heap.size + 1 + 1 + 1 < B) : wp.heap[w.heap.size + 1 + 1]? = some o3 ∧ wp.heap[w.heap.size + 1 + 1 + 1]? = some o4 := by
  have h5 := h.block
  refine ⟨?_, ?_⟩
  · rw [h5 _ (by omega)]
    show ((((w.heap.push o1).push o2).push o3).push o4)[_]? = _
    simp [Array.getElem_push]
  · rw [h5 _ (by omega)]
    show ((((w.heap.push o1).push o2).push o3).push o4)[_]? = _
    simp [Array.getElem_push]


set_option maxHeartbeats 2000000 in
set_option maxRecDepth 100000 in
theorem bottomW (n : Nat) (h1 : 1 ≤ n) (h6 : n ≤ 6) (ga : Option Addr) (gn gc : Nat) (sa : Option Addr) (sn sc : Nat) (ya : Option Addr) (yn yc : Nat) (oa : Option Addr) (on oc : Nat) (va : Option Addr) (vn vc : Nat) (fa : Option Addr) (fn fc : Nat) (ba : Option Addr) (bn bc : Nat) (la : Option Addr) (ln lc : Nat) (ka : Option Addr) (kn kc : Nat) (w : World) :
    Calls Try.prog 73 #[.agg #[.int .i64 n, .slice ga gn gc, .slice sa sn sc, .slice ya yn yc, .slice oa on oc, .slice va vn vc, .slice fa fn fc, .slice ba bn bc, .slice la ln lc, .slice ka kn kc]] w fun e w' => ∃ vj, e = .returned vj ∧ LevFresh w w' vj (botL n) ∧ Below w.heap.size w w' := by
  have hmk := fun w => make35 n h6 w
  go_enter Try.func73, Try.ntmps73
  go_wp2_with fail
  go_region_with (go_at_call 114; refine (rep_any n h1 h6 _ _ (by simp <;> omega) (by simp [go_sem])).mono ?_; rintro e wp ⟨vr, rfl, hor, hbp⟩; obtain ⟨xa, xn, xc, rfl⟩ := own_form hor; have hbw : Below w.heap.size w wp := (by refine Below.trans ?_ (hbp.mono (by simp <;> omega)); repeat (first | exact Below.refl _ _ | refine Below.drew ?_ | refine Below.alloc ?_ (by simp <;> omega) _)); have ec : wp.cell? ⟨w.heap.size, 0, none⟩ = some (.int .i64 n) := (by rw [(bcell hbp).1 _ _ (by simp <;> omega)]; simp [go_sem]); have e0 : wp.cell? ⟨w.heap.size + 1, 0, none⟩ = some (.slice none 0 0) := (by rw [(bcell hbp).1 _ _ (by simp <;> omega)]; simp [go_sem]); have e1 : wp.cell? ⟨w.heap.size + 1, 1, none⟩ = some (.slice none 0 0) := (by rw [(bcell hbp).1 _ _ (by simp <;> omega)]; simp [go_sem]); have f0 : wp.frozen? ⟨w.heap.size + 1, 0, none⟩ = false := (by rw [(bcell hbp).2 _ _ (by simp <;> omega)]; simp [go_sem]); have f1 : wp.frozen? ⟨w.heap.size + 1, 1, none⟩ = false := (by rw [(bcell hbp).2 _ _ (by simp <;> omega)]; simp [go_sem]); have ltp : w.heap.size + 1 < wp.heap.size := (World.block_lt_of_cell? wp _ e0); have e0a : ∀ o, (wp.alloc o).cell? ⟨w.heap.size + 1, 0, none⟩ = some (.slice none 0 0) := (fun o => cell_over ((Below.refl _ wp).alloc (Nat.le_refl _) o) _ _ e0); have e1a : ∀ o, (wp.alloc o).cell? ⟨w.heap.size + 1, 1, none⟩ = some (.slice none 0 0) := (fun o => cell_over ((Below.refl _ wp).alloc (Nat.le_refl _) o) _ _ e1); have f0a : ∀ o, (wp.alloc o).frozen? ⟨w.heap.size + 1, 0, none⟩ = false := (fun o => by rw [(bcell ((Below.refl _ wp).alloc (Nat.le_refl _) o)).2 _ _ ltp]; exact f0); have f1a : ∀ o, (wp.alloc o).frozen? ⟨w.heap.size + 1, 1, none⟩ = false := (fun o => by rw [(bcell ((Below.refl _ wp).alloc (Nat.le_refl _) o)).2 _ _ ltp]; exact f1); have HOR := hide hor; have HBP := hide hbp; have HBW := hide hbw; clear hor hbp hbw)
  all_goals go_wp2_with fail
  all_goals first
    | exact bodyPost_ret (v := .agg #[.slice xa xn xc, .slice (some ⟨wp.heap.size, 0, none⟩) n n]) (by simp [results, Try.results73, go_sem, e0, e1, ltp]) rfl ⟨_, rfl, endA h6 (by omega) (own_low HOR.out (by simp <;> omega)) _ _, ((HBW.out.setCell (by simp <;> omega) _).setCell (by simp <;> omega) _).alloc (by simp [World.setCell] <;> omega) _⟩
    | exact bodyPost_ret (v := .agg #[.slice xa xn xc, .slice (some ⟨w.heap.size + 1 + 1, 0, none⟩) n n]) (by simp [results, Try.results73, go_sem, e0, e1]) rfl ⟨_, rfl, endB h6 (by omega) (own_low HOR.out (by simp <;> omega)) (rowBM HBP.out (by simp <;> omega)).1 _ _, (HBW.out.setCell (by simp <;> omega) _).setCell (by simp <;> omega) _⟩
    | exact bodyPost_ret (v := .agg #[.slice xa xn xc, .slice (some ⟨w.heap.size + 1 + 1 + 1, 0, none⟩) n n]) (by simp [results, Try.results73, go_sem, e0, e1]) rfl ⟨_, rfl, endB h6 (by omega) (own_low HOR.out (by simp <;> omega)) (rowBM HBP.out (by simp <;> omega)).2 _ _, (HBW.out.setCell (by simp <;> omega) _).setCell (by simp <;> omega) _⟩
end Go.Proofs.Ytcbbjjenkommeaa.Ex
