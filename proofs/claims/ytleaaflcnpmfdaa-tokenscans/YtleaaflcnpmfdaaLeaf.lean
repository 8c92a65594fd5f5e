/- The small functions of package token return what they say: letters, digits, and how far one goes on. -/
import Derived.Test.YtleaaflcnpmfdaaRows
import Derived.WalkKit
import Derived.WalkSpells
import Derived.WalkLawsBesides
namespace Go.Proofs.Ytleaaflcnpmfdaa
open Go.RowKit

theorem hide {p : Prop} (h : p) : Hid p := h

def isL (c : UInt8) : Bool := decide (97 ≤ c.toNat ∧ c.toNat ≤ 122)
def isD (c : UInt8) : Bool := decide (48 ≤ c.toNat ∧ c.toNat ≤ 57)
def isN (c : UInt8) : Bool := isL c || isD c
def noLf (c : UInt8) : Bool := decide (¬ c.toNat = 10)

theorem isL_yes {n : Nat} (c : UInt8) (hn : c.toNat = n) (h1 : 97 ≤ n) (h2 : n ≤ 122) : isL c = true := by simp [isL, hn, h1, h2]

set_option maxHeartbeats 400000 in
theorem isLetter_any (c : UInt8) (w : World) :
    Calls Try.prog 28 #[.int .u8 (c.toNat : Int)] w fun e w' => e = .returned (.bool (isL c)) ∧ w' = w := by
  by_cases h1 : (97 : Int) ≤ (c.toNat : Int)
  · by_cases h2 : (c.toNat : Int) ≤ 122
    · go_enter Try.func28, Try.ntmps28
      go_wp2
      go_ret
      exact ⟨by simp [isL]; omega, rfl⟩
    · go_enter Try.func28, Try.ntmps28
      go_wp2
      go_ret
      exact ⟨by simp [isL]; omega, rfl⟩
  · go_enter Try.func28, Try.ntmps28
    go_wp2
    go_ret
    exact ⟨by simp [isL]; omega, rfl⟩

set_option maxHeartbeats 400000 in
theorem isDigit_any (c : UInt8) (w : World) :
    Calls Try.prog 30 #[.int .u8 (c.toNat : Int)] w fun e w' => e = .returned (.bool (isD c)) ∧ w' = w := by
  by_cases h1 : (48 : Int) ≤ (c.toNat : Int)
  · by_cases h2 : (c.toNat : Int) ≤ 57
    · go_enter Try.func30, Try.ntmps30
      go_wp2
      go_ret
      exact ⟨by simp [isD]; omega, rfl⟩
    · go_enter Try.func30, Try.ntmps30
      go_wp2
      go_ret
      exact ⟨by simp [isD]; omega, rfl⟩
  · go_enter Try.func30, Try.ntmps30
    go_wp2
    go_ret
    exact ⟨by simp [isD]; omega, rfl⟩

set_option maxHeartbeats 400000 in
theorem notLf_any (c : UInt8) (w : World) :
    Calls Try.prog 27 #[.int .u8 (c.toNat : Int)] w fun e w' => e = .returned (.bool (noLf c)) ∧ w' = w := by
  go_enter Try.func27, Try.ntmps27
  go_wp2
  go_ret
  exact ⟨congrArg (fun b => Ending.returned (.bool b)) (by rw [Bool.eq_iff_iff]; simp [noLf]; omega), rfl⟩

set_option maxHeartbeats 400000 in
theorem nameGoes_any (c : UInt8) (w : World) :
    Calls Try.prog 35 #[.int .u8 (c.toNat : Int)] w fun e w' => e = .returned (.bool (isN c)) ∧ w' = w := by
  by_cases h : isL c = true
  · go_enter Try.func35, Try.ntmps35
    go_wp2_with fail
    refine (isLetter_any c _).mono ?_
    rintro e w' ⟨rfl, rfl⟩
    go_wp2_with fail
    go_ret
    exact ⟨by simp [isN, h], rfl⟩
  · go_enter Try.func35, Try.ntmps35
    go_wp2_with fail
    refine (isLetter_any c _).mono ?_
    rintro e w' ⟨rfl, rfl⟩
    go_wp2_with fail
    refine (isDigit_any c _).mono ?_
    rintro e w' ⟨rfl, rfl⟩
    go_wp2_with fail
    go_ret
    exact ⟨by simp [isN, h], rfl⟩

def spanL (p : UInt8 → Bool) (l : List UInt8) (i : Nat) : Nat := i + ((l.drop i).takeWhile p).length

theorem spanL_step {p : UInt8 → Bool} {l : List UInt8} {i : Nat} (h : i < l.length) (hp : p l[i] = true) : spanL p l i = spanL p l (i + 1) := by
  unfold spanL
  rw [List.drop_eq_getElem_cons h, List.takeWhile_cons, if_pos hp]
  simp; omega

theorem spanL_stop {p : UInt8 → Bool} {l : List UInt8} {i : Nat} (h : i < l.length) (hp : p l[i] = false) : spanL p l i = i := by
  unfold spanL
  rw [List.drop_eq_getElem_cons h, List.takeWhile_cons, if_neg (by simp [hp])]
  simp

theorem spanL_end {p : UInt8 → Bool} {l : List UInt8} {i : Nat} (h : l.length ≤ i) : spanL p l i = i := by
  unfold spanL
  rw [List.drop_of_length_le h]
  simp

set_option maxHeartbeats 400000 in
theorem span_any (F : FuncId) (p : UInt8 → Bool) (hF : Hid (∀ (c : UInt8) (w : World), Calls Try.prog F #[.int .u8 (c.toNat : Int)] w fun e w' => e = .returned (.bool (p c)) ∧ w' = w))
    (hC : ∀ (args : Array Value) (w : World), (callFunc F args).run Try.prog w = .ok (.enter F args) w) (s : ByteArray) (a : Nat) (ha : a ≤ s.size) (hs : s.size ≤ 6000) (w : World) :
    Calls Try.prog 26 #[.string s, .int .i64 (a : Int), .func (.func F) #[] #[]] w fun e w' => e = .returned (.int .i64 (spanL p s.data.toList a : Nat)) ∧ w' = w := by
  go_enter Try.func26, Try.ntmps26
  go_wp2
  go_loop [1] (fun i => ∃ k : Nat, k ≤ s.size ∧ i = .int .i64 k ∧ spanL p s.data.toList k = spanL p s.data.toList a) (fun i => s.size - (intOf i).toNat)
  case atStart => exact ⟨a, ha, rfl, rfl⟩
  case round =>
    obtain ⟨k, hk, rfl, hsp⟩ := hrel
    have HS := hide hsp
    clear hsp
    by_cases hlt : k < s.size
    · go_wp2_with fail
      refine (hF.out _ _).mono ?_
      rintro e w' ⟨rfl, rfl⟩
      by_cases hp : p s[k] = true
      · go_wp2_with fail
        refine ⟨⟨k + 1, by omega, by go_num, ?_⟩, by simp [intOf]; omega⟩
        rw [← HS.out]
        exact (spanL_step (by simpa using hlt) hp).symm
      · have hp' : p s[k] = false := by simpa using hp
        go_wp2_with fail
        go_ret
        refine ⟨?_, rfl⟩
        have := HS.out
        rw [spanL_stop (by simpa using hlt) hp'] at this
        simp [← this]
    · go_wp2_with fail
      go_ret
      have hke : k = s.size := by omega
      refine ⟨?_, rfl⟩
      have := HS.out
      rw [spanL_end (by simp; omega)] at this
      simp [← this]

def blank (c : UInt8) : Bool := decide (c.toNat = 32 ∨ c.toNat = 9 ∨ c.toNat = 10)

def skipN : Bool → List UInt8 → Nat
  | _, [] => 0
  | true, c :: l => 1 + skipN (noLf c) l
  | false, c :: l => if c.toNat = 35 then 1 + skipN true l else if blank c = true then 1 + skipN false l else 0

def skipL (note : Bool) (l : List UInt8) (i : Nat) : Nat := i + skipN note (l.drop i)

theorem skipN_le (note : Bool) (l : List UInt8) : skipN note l ≤ l.length := by
  induction l generalizing note with
  | nil => cases note <;> simp [skipN]
  | cons c l ih =>
    cases note with
    | true => simp only [skipN, List.length_cons]; have := ih (noLf c); omega
    | false =>
      have h1 := ih true
      have h2 := ih false
      simp only [skipN, List.length_cons]
      split
      · omega
      · split <;> omega

theorem skipL_le {note : Bool} {l : List UInt8} {i : Nat} (h : i ≤ l.length) : skipL note l i ≤ l.length := by
  have := skipN_le note (l.drop i)
  simp only [List.length_drop] at this
  unfold skipL
  omega

theorem skipN_true (l : List UInt8) : skipN true l = (l.takeWhile noLf).length + skipN false (l.drop (l.takeWhile noLf).length) := by
  induction l with
  | nil => simp [skipN]
  | cons c l ih =>
    by_cases h : noLf c = true
    · rw [List.takeWhile_cons, if_pos h]
      simp only [skipN, h, List.length_cons, List.drop_succ_cons]
      omega
    · have h' : noLf c = false := by simpa using h
      rw [List.takeWhile_cons, if_neg h]
      simp only [skipN, h', List.length_nil, List.drop_zero]
      have h10 : c.toNat = 10 := by simpa [noLf] using h
      rw [if_neg (by omega), if_pos (by simp [blank, h10])]
      omega

theorem skipL_blank {l : List UInt8} {i : Nat} (h : i < l.length) (h35 : ¬ l[i].toNat = 35) (hb : blank l[i] = true) : skipL false l i = skipL false l (i + 1) := by
  unfold skipL
  rw [List.drop_eq_getElem_cons h]
  simp only [skipN, h35, hb, if_true, if_false]
  omega

theorem skipL_note {l : List UInt8} {i : Nat} (h : i < l.length) (h35 : l[i].toNat = 35) : skipL false l i = skipL false l (spanL noLf l i) := by
  unfold skipL spanL
  have e : skipN false (l.drop i) = skipN true (l.drop i) := by
    rw [List.drop_eq_getElem_cons h]
    simp [skipN, h35, noLf]
  rw [e, skipN_true, List.drop_drop]
  omega

theorem skipL_stop {l : List UInt8} {i : Nat} (h : i < l.length) (h35 : ¬ l[i].toNat = 35) (hb : blank l[i] = false) : skipL false l i = i := by
  unfold skipL
  rw [List.drop_eq_getElem_cons h]
  simp [skipN, h35, hb]

theorem skipL_end {note : Bool} {l : List UInt8} {i : Nat} (h : l.length ≤ i) : skipL note l i = i := by
  unfold skipL
  rw [List.drop_of_length_le h]
  simp [skipN]

theorem spanL_gt {p : UInt8 → Bool} {l : List UInt8} {i : Nat} (h : i < l.length) (hp : p l[i] = true) : i < spanL p l i := by
  unfold spanL
  rw [List.drop_eq_getElem_cons h, List.takeWhile_cons, if_pos hp]
  simp

theorem spanL_le {p : UInt8 → Bool} {l : List UInt8} {i : Nat} (h : i ≤ l.length) : spanL p l i ≤ l.length := by
  unfold spanL
  have := (List.takeWhile_sublist p (l := l.drop i)).length_le
  simp only [List.length_drop] at this
  omega

theorem call27 (args : Array Value) (w : World) : (callFunc 27 args).run Try.prog w = .ok (.enter 27 args) w := by simp [go_sem]
theorem call30 (args : Array Value) (w : World) : (callFunc 30 args).run Try.prog w = .ok (.enter 30 args) w := by simp [go_sem]
theorem call35 (args : Array Value) (w : World) : (callFunc 35 args).run Try.prog w = .ok (.enter 35 args) w := by simp [go_sem]

set_option maxHeartbeats 400000 in
theorem skip_any (s : ByteArray) (a : Nat) (ha : a ≤ s.size) (hs : s.size ≤ 6000) (w : World) :
    Calls Try.prog 19 #[.string s, .int .i64 (a : Int)] w fun e w' => e = .returned (.int .i64 (skipL false s.data.toList a : Nat)) ∧ w' = w := by
  go_enter Try.func19, Try.ntmps19
  go_wp2
  go_loop [1] (fun i => ∃ k : Nat, k ≤ s.size ∧ i = .int .i64 k ∧ skipL false s.data.toList k = skipL false s.data.toList a) (fun i => s.size - (intOf i).toNat)
  case atStart => exact ⟨a, ha, rfl, rfl⟩
  case round =>
    obtain ⟨k, hk, rfl, hsp⟩ := hrel
    have HS := hide hsp
    clear hsp
    by_cases hlt : k < s.size
    · have step : ¬ s[k].toNat = 35 → blank s[k] = true → skipL false s.data.toList (k + 1) = skipL false s.data.toList a := fun h35 hb => by
        rw [← HS.out]
        exact (skipL_blank (by simpa using hlt) h35 hb).symm
      have STEP := hide step
      clear step
      by_cases h32 : s[k].toNat = 32
      · have b32 : ((s[k].toNat : Int) == 32) = true := by simp; omega
        have H32 := hide h32
        clear h32
        go_wp2_with fail
        exact ⟨⟨k + 1, by omega, by go_num, STEP.out (by have := H32.out; omega) (by simp [blank, H32.out])⟩, by simp [intOf]; omega⟩
      by_cases h9 : s[k].toNat = 9
      · have b9 : ((s[k].toNat : Int) == 9) = true := by simp; omega
        have b32 : ((s[k].toNat : Int) == 32) = false := by simp; omega
        have H9 := hide h9
        clear h9 h32
        go_wp2_with fail
        exact ⟨⟨k + 1, by omega, by go_num, STEP.out (by have := H9.out; omega) (by simp [blank, H9.out])⟩, by simp [intOf]; omega⟩
      by_cases h10 : s[k].toNat = 10
      · have b10 : ((s[k].toNat : Int) == 10) = true := by simp; omega
        have b32 : ((s[k].toNat : Int) == 32) = false := by simp; omega
        have b9 : ((s[k].toNat : Int) == 9) = false := by simp; omega
        have H10 := hide h10
        clear h9 h32 h10
        go_wp2_with fail
        exact ⟨⟨k + 1, by omega, by go_num, STEP.out (by have := H10.out; omega) (by simp [blank, H10.out])⟩, by simp [intOf]; omega⟩
      have b32 : ((s[k].toNat : Int) == 32) = false := by simp; omega
      have b9 : ((s[k].toNat : Int) == 9) = false := by simp; omega
      have b10 : ((s[k].toNat : Int) == 10) = false := by simp; omega
      have nb : blank s[k] = false := by simp [blank]; omega
      have NB := hide nb
      clear nb h32 h9
      by_cases h35 : s[k].toNat = 35
      · have b35 : ((s[k].toNat : Int) == 35) = true := by simp; omega
        have hgt : k < spanL noLf s.data.toList k := spanL_gt (by simpa using hlt) (by simp [noLf]; exact h10)
        have hle : spanL noLf s.data.toList k ≤ s.size := by have := spanL_le (p := noLf) (l := s.data.toList) (i := k) (by simp; omega); simpa using this
        have e : skipL false s.data.toList (spanL noLf s.data.toList k) = skipL false s.data.toList a := by
          rw [← HS.out]
          exact (skipL_note (by simpa using hlt) h35).symm
        have E := hide e
        clear e h35 h10
        go_wp2_with fail
        refine (span_any 27 noLf (hide notLf_any) call27 s k hk hs _).mono ?_
        rintro e w' ⟨rfl, rfl⟩
        go_wp2_with fail
        exact ⟨⟨_, hle, rfl, E.out⟩, by simp [intOf]; omega⟩
      · have b35 : ((s[k].toNat : Int) == 35) = false := by simp; omega
        have h35' : skipL false s.data.toList k = k := skipL_stop (by simpa using hlt) h35 NB.out
        have H35 := hide h35'
        clear h35 h35' h10
        go_wp2_with fail
        go_ret
        refine ⟨?_, rfl⟩
        have := HS.out
        rw [H35.out] at this
        simp [← this]
    · go_wp2_with fail
      go_ret
      refine ⟨?_, rfl⟩
      have := HS.out
      rw [skipL_end (by simp; omega)] at this
      simp [← this]
end Go.Proofs.Ytleaaflcnpmfdaa
