/- A piece of a text is cut out and copied: strings.Clone, HasPrefix, IndexByte and token.cut, over any text. -/
import Derived.Test.YtleaaflcnpmfdaaLeaf
import Derived.Test.YtleaaflcnpmfdaaShelf
import Derived.Lib.Strings
import Derived.Lib.Bytealg
namespace Go.Proofs.Ytleaaflcnpmfdaa
open Go.RowKit
set_option linter.unusedVariables false

theorem bcell {W w1 : World} (hb : Below W.heap.size W w1) : (∀ b o, b < W.heap.size → w1.cell? ⟨b, o, none⟩ = W.cell? ⟨b, o, none⟩) ∧ (∀ b o, b < W.heap.size → w1.frozen? ⟨b, o, none⟩ = W.frozen? ⟨b, o, none⟩) :=
  ⟨fun b o h => hb.cell (p := ⟨b, o, none⟩) h, fun b o h => hb.frozen (p := ⟨b, o, none⟩) h⟩

theorem Try.info5 : (Try.prog.info? 5).map (fun i => (i.zero, i.size, i.bytes)) = some (some (.int .u8 0), 1, 1) := by kernel_rfl

set_option maxHeartbeats 400000 in
theorem clone_any (s : ByteArray) (w : World) (hlim : s.size ≤ 6000) :
    Calls Try.prog 40 #[.string s] w fun e w' => e = .returned (.string s) ∧ Below w.heap.size w w' := by
  go_enter Try.func40, Try.ntmps40
  go_wp2_with fail
  refine (Try.stringslite_Clone s _ (by omega)).mono ?_
  rintro e w' ⟨rfl, hb⟩
  go_wp2_with fail
  go_ret
  exact ⟨rfl, hb⟩

set_option maxHeartbeats 400000 in
theorem cut_any (s : ByteArray) (k : Int) (a b : Nat) (hs : s.size ≤ 6000) (hab : a ≤ b) (hb : b ≤ s.size) (w : World) :
    Calls Try.prog 36 #[.string s, .int .i64 k, .int .i64 (a : Int), .int .i64 (b : Int)] w fun e w' =>
      e = .returned (.agg #[.int .i64 k, .int .i64 (a : Int), .string (s.extract a b)]) ∧ Below w.heap.size w w' := by
  go_enter Try.func36, Try.ntmps36
  go_wp2_with fail
  refine (clone_any (s.extract a b) _ (by simp; omega)).mono ?_
  rintro e w1 ⟨rfl, hb1⟩
  have hb1' : Below (w.heap.size + 1) (w.alloc (Obj.cells #[Value.int IntKind.i64 0, Value.int IntKind.i64 0, Value.string { data := #[] }] 34)) w1 := by simpa using hb1
  obtain ⟨hc, hf⟩ := bcell hb1
  have hz : w.heap.size < w1.heap.size := by have := hb1.size; simp at this; omega
  go_wp2_with fail
  refine bodyPost_ret (v := .agg #[.int .i64 k, .int .i64 (a : Int), .string (s.extract a b)]) (by simp [results, Try.results36, go_sem, hc]) rfl ⟨rfl, ?_⟩
  have hb0 : Below w.heap.size w w1 := ((Below.refl _ w).alloc (Nat.le_refl _) _).trans (hb1.mono (by simp))
  exact ((hb0.setCell (by simp) _).setCell (by simp) _).setCell (by simp) _

set_option maxHeartbeats 400000 in
theorem liteHasPrefix_any (s t : ByteArray) (hs : s.size ≤ 6000) (ht : t.size ≤ 6000) (w : World) :
    Calls Try.prog 41 #[.string s, .string t] w fun e w' => e = .returned (.bool (decide (t.size ≤ s.size) && ((s.extract 0 t.size).toList == t.toList))) ∧ w' = w := by
  by_cases h : t.size ≤ s.size
  · go_enter Try.func41, Try.ntmps41
    go_wp2
    go_ret
    exact ⟨by simp [h], rfl⟩
  · go_enter Try.func41, Try.ntmps41
    go_wp2
    go_ret
    exact ⟨by simp [h], rfl⟩

set_option maxHeartbeats 400000 in
theorem hasPrefix_any (s t : ByteArray) (hs : s.size ≤ 6000) (ht : t.size ≤ 6000) (w : World) :
    Calls Try.prog 37 #[.string s, .string t] w fun e w' => e = .returned (.bool (decide (t.size ≤ s.size) && ((s.extract 0 t.size).toList == t.toList))) ∧ w' = w := by
  go_enter Try.func37, Try.ntmps37
  go_wp2_with fail
  refine (liteHasPrefix_any s t hs ht _).mono ?_
  rintro e w' ⟨rfl, rfl⟩
  go_wp2_with fail
  go_ret
  exact ⟨rfl, rfl⟩

theorem Try.run44 (args : Array Value) (w : World) : (callFunc 44 args).run Try.prog w = ((Extern.BytealgIndexByte.indexByte args).run Try.prog w).andThen fun v w' => .ok (.value v) w' :=
  run_callFunc_indexByte Try.func44 (by kernel_rfl) (by kernel_rfl) (by kernel_rfl) (by kernel_rfl) args w

set_option maxHeartbeats 400000 in
theorem liteIndexByte_any (s : ByteArray) (c : UInt8) (w : World) :
    Calls Try.prog 42 #[.string s, .int .u8 (c.toNat : Int)] w fun e w' => e = .returned (.int .i64 (Lib.indexByte s.data.toList c)) ∧ w' = w := by
  have h44 : ∀ w, (callFunc 44 #[.string s, .int .u8 (c.toNat : Int)]).run Try.prog w = .ok (.value (.int .i64 (Lib.indexByte s.data.toList c))) w := fun w => by
    rw [Try.run44, Lib.run_indexByteString]
    simp [Result.andThen]
  go_enter Try.func42, Try.ntmps42
  go_wp2
  go_ret
  exact ⟨rfl, rfl⟩

set_option maxHeartbeats 400000 in
theorem indexByte_any (s : ByteArray) (c : UInt8) (w : World) :
    Calls Try.prog 38 #[.string s, .int .u8 (c.toNat : Int)] w fun e w' => e = .returned (.int .i64 (Lib.indexByte s.data.toList c)) ∧ w' = w := by
  go_enter Try.func38, Try.ntmps38
  go_wp2_with fail
  refine (liteIndexByte_any s c _).mono ?_
  rintro e w' ⟨rfl, rfl⟩
  go_wp2_with fail
  go_ret
  exact ⟨rfl, rfl⟩

/-- what a panic of a place lays: where, and why. -/
def gaveUp (a e : Int) : Ending := .panicked [{ v := .iface 41 (.agg #[.int .i64 a, .int .i64 e]), recovered := false }]

def tokVal (k a : Int) (t : ByteArray) : Value := .agg #[.int .i64 k, .int .i64 a, .string t]

set_option maxHeartbeats 400000 in
theorem name_ok (s : ByteArray) (a : Nat) (ha : a ≤ s.size) (hs : s.size ≤ 6000) (h : spanL isN s.data.toList a - a ≤ 12) (w : World) :
    Calls Try.prog 29 #[.string s, .int .i64 (a : Int)] w fun e w' => e = .returned (tokVal 1 a (s.extract a (spanL isN s.data.toList a))) ∧ Below w.heap.size w w' := by
  have hle : spanL isN s.data.toList a ≤ s.size := by have := spanL_le (p := isN) (l := s.data.toList) (i := a) (by simpa using ha); simpa using this
  have hge : a ≤ spanL isN s.data.toList a := by unfold spanL; omega
  obtain ⟨b, hb⟩ : ∃ b, b = spanL isN s.data.toList a := ⟨_, rfl⟩
  rw [← hb] at h hle hge ⊢
  have hsp := span_any 35 isN (hide nameGoes_any) call35 s a ha hs
  rw [← hb] at hsp
  have HSP := hide hsp
  clear hb hsp
  go_enter Try.func29, Try.ntmps29
  go_wp2_with fail
  refine (HSP.out _).mono ?_
  rintro e w' ⟨rfl, rfl⟩
  go_wp2_with fail
  refine (cut_any s 1 a b hs hge hle _).mono ?_
  rintro e w1 ⟨rfl, hb1⟩
  obtain ⟨hc, hf⟩ := bcell hb1
  have hz : w.heap.size < w1.heap.size := by have := hb1.size; simp at this; omega
  go_wp2_with fail
  refine bodyPost_ret (v := tokVal 1 a (s.extract a b)) (by simp [tokVal, results, Try.results29, go_sem, hc]) rfl ⟨rfl, ?_⟩
  have hb0 : Below w.heap.size w w1 := ((Below.refl _ w).alloc (Nat.le_refl _) _).trans (hb1.mono (by simp))
  exact ((hb0.setCell (by simp) _).setCell (by simp) _).setCell (by simp) _

set_option maxHeartbeats 400000 in
theorem name_bad (s : ByteArray) (a : Nat) (ha : a ≤ s.size) (hs : s.size ≤ 6000) (h : 12 < spanL isN s.data.toList a - a) (w : World) :
    Calls Try.prog 29 #[.string s, .int .i64 (a : Int)] w fun e w' => e = gaveUp a 2 ∧ Below w.heap.size w w' := by
  have hle : spanL isN s.data.toList a ≤ s.size := by have := spanL_le (p := isN) (l := s.data.toList) (i := a) (by simpa using ha); simpa using this
  have hge : a ≤ spanL isN s.data.toList a := by unfold spanL; omega
  obtain ⟨b, hb⟩ : ∃ b, b = spanL isN s.data.toList a := ⟨_, rfl⟩
  rw [← hb] at h hle hge
  have hsp := span_any 35 isN (hide nameGoes_any) call35 s a ha hs
  rw [← hb] at hsp
  have HSP := hide hsp
  clear hb hsp
  go_enter Try.func29, Try.ntmps29
  go_wp2_with fail
  refine (HSP.out _).mono ?_
  rintro e w' ⟨rfl, rfl⟩
  go_wp2_with fail
  exact ⟨rfl, rfl, (Below.refl _ w).alloc (Nat.le_refl _) _⟩

set_option maxHeartbeats 400000 in
theorem number_ok (s : ByteArray) (a : Nat) (ha : a < s.size) (hs : s.size ≤ 6000) (h : spanL isD s.data.toList a - a ≤ 7) (h2 : s[a].toNat = 48 → spanL isD s.data.toList a - a ≤ 1) (w : World) :
    Calls Try.prog 31 #[.string s, .int .i64 (a : Int)] w fun e w' => e = .returned (tokVal 2 a (s.extract a (spanL isD s.data.toList a))) ∧ Below w.heap.size w w' := by
  have hle : spanL isD s.data.toList a ≤ s.size := by have := spanL_le (p := isD) (l := s.data.toList) (i := a) (by simp; omega); simpa using this
  have hge : a ≤ spanL isD s.data.toList a := by unfold spanL; omega
  obtain ⟨b, hb⟩ : ∃ b, b = spanL isD s.data.toList a := ⟨_, rfl⟩
  rw [← hb] at h h2 hle hge ⊢
  have hsp := span_any 30 isD (hide isDigit_any) call30 s a (by omega) hs
  rw [← hb] at hsp
  have HSP := hide hsp
  clear hb hsp
  by_cases h48 : s[a].toNat = 48
  · have b48 : ((s[a].toNat : Int) == 48) = true := by simp; omega
    have h1 := h2 h48
    clear h2 h48
    go_enter Try.func31, Try.ntmps31
    go_wp2_with fail
    refine (HSP.out _).mono ?_
    rintro e w' ⟨rfl, rfl⟩
    go_wp2_with fail
    refine (cut_any s 2 a b hs hge hle _).mono ?_
    rintro e w1 ⟨rfl, hb1⟩
    obtain ⟨hc, hf⟩ := bcell hb1
    have hz : w.heap.size < w1.heap.size := by have := hb1.size; simp at this; omega
    go_wp2_with fail
    refine bodyPost_ret (v := tokVal 2 a (s.extract a b)) (by simp [tokVal, results, Try.results31, go_sem, hc]) rfl ⟨rfl, ?_⟩
    have hb0 : Below w.heap.size w w1 := ((Below.refl _ w).alloc (Nat.le_refl _) _).trans (hb1.mono (by simp))
    exact ((hb0.setCell (by simp) _).setCell (by simp) _).setCell (by simp) _
  · have b48 : ((s[a].toNat : Int) == 48) = false := by simp; omega
    clear h2 h48
    go_enter Try.func31, Try.ntmps31
    go_wp2_with fail
    refine (HSP.out _).mono ?_
    rintro e w' ⟨rfl, rfl⟩
    go_wp2_with fail
    refine (cut_any s 2 a b hs hge hle _).mono ?_
    rintro e w1 ⟨rfl, hb1⟩
    obtain ⟨hc, hf⟩ := bcell hb1
    have hz : w.heap.size < w1.heap.size := by have := hb1.size; simp at this; omega
    go_wp2_with fail
    refine bodyPost_ret (v := tokVal 2 a (s.extract a b)) (by simp [tokVal, results, Try.results31, go_sem, hc]) rfl ⟨rfl, ?_⟩
    have hb0 : Below w.heap.size w w1 := ((Below.refl _ w).alloc (Nat.le_refl _) _).trans (hb1.mono (by simp))
    exact ((hb0.setCell (by simp) _).setCell (by simp) _).setCell (by simp) _

set_option maxHeartbeats 400000 in
theorem number_long (s : ByteArray) (a : Nat) (ha : a < s.size) (hs : s.size ≤ 6000) (h : 7 < spanL isD s.data.toList a - a) (w : World) :
    Calls Try.prog 31 #[.string s, .int .i64 (a : Int)] w fun e w' => e = gaveUp a 2 ∧ Below w.heap.size w w' := by
  have hle : spanL isD s.data.toList a ≤ s.size := by have := spanL_le (p := isD) (l := s.data.toList) (i := a) (by simp; omega); simpa using this
  have hge : a ≤ spanL isD s.data.toList a := by unfold spanL; omega
  obtain ⟨b, hb⟩ : ∃ b, b = spanL isD s.data.toList a := ⟨_, rfl⟩
  rw [← hb] at h hle hge
  have hsp := span_any 30 isD (hide isDigit_any) call30 s a (by omega) hs
  rw [← hb] at hsp
  have HSP := hide hsp
  clear hb hsp
  go_enter Try.func31, Try.ntmps31
  go_wp2_with fail
  refine (HSP.out _).mono ?_
  rintro e w' ⟨rfl, rfl⟩
  go_wp2_with fail
  exact ⟨rfl, rfl, (Below.refl _ w).alloc (Nat.le_refl _) _⟩

set_option maxHeartbeats 400000 in
theorem number_nought (s : ByteArray) (a : Nat) (ha : a < s.size) (hs : s.size ≤ 6000) (h : spanL isD s.data.toList a - a ≤ 7) (h1 : 1 < spanL isD s.data.toList a - a) (h48 : s[a].toNat = 48) (w : World) :
    Calls Try.prog 31 #[.string s, .int .i64 (a : Int)] w fun e w' => e = gaveUp a 1 ∧ Below w.heap.size w w' := by
  have hle : spanL isD s.data.toList a ≤ s.size := by have := spanL_le (p := isD) (l := s.data.toList) (i := a) (by simp; omega); simpa using this
  have hge : a ≤ spanL isD s.data.toList a := by unfold spanL; omega
  obtain ⟨b, hb⟩ : ∃ b, b = spanL isD s.data.toList a := ⟨_, rfl⟩
  rw [← hb] at h h1 hle hge
  have hsp := span_any 30 isD (hide isDigit_any) call30 s a (by omega) hs
  rw [← hb] at hsp
  have HSP := hide hsp
  have b48 : ((s[a].toNat : Int) == 48) = true := by simp; omega
  clear hb hsp h48
  go_enter Try.func31, Try.ntmps31
  go_wp2_with fail
  refine (HSP.out _).mono ?_
  rintro e w' ⟨rfl, rfl⟩
  go_wp2_with fail
  exact ⟨rfl, rfl, (Below.refl _ w).alloc (Nat.le_refl _) _⟩

def eqeq : ByteArray := ⟨#[61, 61]⟩
def signsB : ByteArray := ⟨#[123, 125, 40, 41, 59, 58, 33, 44, 61, 43, 45, 42, 60]⟩
def hasEq (s : ByteArray) (a : Nat) : Bool := decide (eqeq.size ≤ (s.extract a s.size).size) && (((s.extract a s.size).extract 0 eqeq.size).toList == eqeq.toList)
def isS (c : UInt8) : Bool := decide (0 ≤ Lib.indexByte signsB.data.toList c)

theorem hasEq_two {s : ByteArray} {a : Nat} (h : hasEq s a = true) : a + 2 ≤ s.size := by
  simp only [hasEq, Bool.and_eq_true, decide_eq_true_eq] at h
  have h1 := h.1
  simp [eqeq] at h1
  have : (ByteArray.mk #[61, 61]).size = 2 := rfl
  omega

set_option maxHeartbeats 400000 in
theorem sign_two (s : ByteArray) (a : Nat) (ha : a < s.size) (hs : s.size ≤ 6000) (h : hasEq s a = true) (w : World) :
    Calls Try.prog 32 #[.string s, .int .i64 (a : Int)] w fun e w' => e = .returned (tokVal 3 a (s.extract a (a + 2))) ∧ Below w.heap.size w w' := by
  have h2 := hasEq_two h
  have hp := hasPrefix_any (s.extract a s.size) eqeq (by simp; omega) (by decide)
  have e : (decide (eqeq.size ≤ (s.extract a s.size).size) && (((s.extract a s.size).extract 0 eqeq.size).toList == eqeq.toList)) = true := h
  rw [e] at hp
  unfold eqeq at hp
  have HP := hide hp
  clear hp e h
  go_enter Try.func32, Try.ntmps32
  go_wp2_with fail
  refine (HP.out _).mono ?_
  rintro e w' ⟨rfl, rfl⟩
  go_wp2_with fail
  refine (cut_any s 3 a (a + 2) hs (by omega) h2 _).mono ?_
  rintro e w1 ⟨rfl, hb1⟩
  obtain ⟨hc, hf⟩ := bcell hb1
  have hz : w.heap.size < w1.heap.size := by have := hb1.size; simp at this; omega
  go_wp2_with fail
  refine bodyPost_ret (v := tokVal 3 a (s.extract a (a + 2))) (by simp [tokVal, results, Try.results32, go_sem, hc]) rfl ⟨rfl, ?_⟩
  have hb0 : Below w.heap.size w w1 := ((Below.refl _ w).alloc (Nat.le_refl _) _).trans (hb1.mono (by simp))
  exact ((hb0.setCell (by simp) _).setCell (by simp) _).setCell (by simp) _
end Go.Proofs.Ytleaaflcnpmfdaa
