/- token.alone answers whether a token is the only one of its text, whatever token it is handed. -/
import Derived.Test.YtleaaflcnpmfdaaScan
import Derived.Deep.QuietTactic
import Derived.BigQuiet
namespace Go.Proofs.Ytleaaflcnpmfdaa
open Go.RowKit
set_option linter.unusedVariables false

/-- a list of tokens lies in memory. -/
def IsToks (w : World) (v : Value) (ts : List Tok) : Prop :=
  ∃ ao cap, v = .slice ao ts.length cap ∧ (ts ≠ [] → ∃ b off, ao = some ⟨b, off, none⟩ ∧ ∀ j u, (toksCells ts)[j]? = some u → w.cell? ⟨b, off + j, none⟩ = some u)

theorem isToks_owned {w : World} {B : Nat} {v : Value} {ts : List Tok} (h : w.ownsRow B 34 3 v ts.length (toksCells ts)) : IsToks w v ts := by
  have hc := fun g => h.cells (g := g)
  rcases h.2 with ⟨rfl, h0⟩ | ⟨g, cap, cur, rfl, _⟩
  · exact ⟨none, 0, by rw [h0], fun hne => absurd (List.eq_nil_of_length_eq_zero h0) hne⟩
  · refine ⟨_, cap, rfl, fun _ => ⟨g, 0, rfl, fun j u hu => ?_⟩⟩
    have h1 := hc g rfl j u hu
    have hadd : (⟨g, 0, none⟩ : Addr).add j = ⟨g, j, none⟩ := by unfold Addr.add; split <;> simp_all
    rw [hadd] at h1
    simpa using h1

theorem isToks_over {w w' : World} {v : Value} {ts : List Tok} (h : IsToks w v ts) (hb : Below w.heap.size w w') : IsToks w' v ts := by
  obtain ⟨ao, cap, hv, hc⟩ := h
  refine ⟨ao, cap, hv, fun hne => ?_⟩
  obtain ⟨b, off, hao, hcc⟩ := hc hne
  exact ⟨b, off, hao, fun j u hu => by
    have h1 := hcc j u hu
    rw [hb.cell (p := ⟨b, off + j, none⟩) (World.block_lt_of_cell? w _ h1)]
    exact h1⟩

def isAlone (t : Tok) : Bool :=
  decide (t.text.size ≤ 6000) && decide (scanErr t.text = 0) && match scanToks t.text with
    | [u] => (u.kind == t.kind) && (u.text.data.toList == t.text.data.toList)
    | _ => false

set_option maxHeartbeats 1000000 in
theorem alone_any (k a : Int) (x : ByteArray) (hx : x.size ≤ maxLen) (w : World) :
    Calls Try.prog 15 #[tokVal k a x] w fun e w' => e = .returned (.bool (isAlone ⟨k, a, x⟩)) ∧ Below w.heap.size w w' := by
  unfold tokVal
  go_enter Try.func15, Try.ntmps15
  go_wp2_with fail
  refine (Scan_any x hx _).mono ?_
  rintro e w1 ⟨v, ts, p, r, rfl, hown, hb, hif⟩
  obtain ⟨hc, hf⟩ := bcell hb
  have t0 : w1.cell? ⟨w.heap.size, 0, none⟩ = some (.int .i64 k) := by rw [hc _ _ (by simp)]; simp [go_sem]
  have t2 : w1.cell? ⟨w.heap.size, 2, none⟩ = some (.string x) := by rw [hc _ _ (by simp)]; simp [go_sem]
  have hbel : Below w.heap.size w w1 := ((Below.refl _ w).alloc (Nat.le_refl _) _).trans (hb.mono (by simp))
  clear hc hf hb
  by_cases hr : r = 0
  · have hsz : x.size ≤ 6000 := by
      rcases Nat.lt_or_ge 6000 x.size with h | h
      · rw [if_neg (by omega)] at hif; omega
      · exact h
    rw [if_pos hsz] at hif
    obtain ⟨hts, hp, hre⟩ := hif
    have b0 : ((r : Int) == 0) = true := by simp; omega
    by_cases h1 : ts.length = 1
    · obtain ⟨u, rfl⟩ := List.length_eq_one_iff.1 h1
      obtain ⟨ao, cap, rfl, hcc⟩ := isToks_owned hown
      obtain ⟨b, off, rfl, hcl⟩ := hcc (by simp)
      have u0 : w1.cell? ⟨b, off, none⟩ = some (.int .i64 u.kind) := hcl 0 _ rfl
      have u2 : w1.cell? ⟨b, off + 2, none⟩ = some (.string u.text) := hcl 2 _ rfl
      have hA : isAlone ⟨k, a, x⟩ = ((u.kind == k) && (u.text.toList == x.toList)) := by
        simp [isAlone, hsz, ← hre, hr, ← hts, ByteArray.toList_eq]
      have HA := hide hA
      clear hA hcl hcc hown hts hp hre hr h1
      by_cases hk : (u.kind == k) = true
      · go_wp2_with fail
        go_quiet ((fail))
        go_wp2
        go_ret
        exact ⟨by rw [HA.out, hk]; rfl, below_drewN hbel _⟩
      · have hk' : (u.kind == k) = false := by simpa using hk
        clear hk
        go_wp2_with fail
        go_quiet ((fail))
        go_wp2
        go_ret
        exact ⟨by rw [HA.out, hk']; rfl, below_drewN hbel _⟩
    · have b1 : ((ts.length : Int) == 1) = false := by simp; omega
      obtain ⟨ao, cap, rfl⟩ := ownsRow_slice hown
      have hA : isAlone ⟨k, a, x⟩ = false := by
        have h2 : ¬ (scanToks x).length = 1 := by rw [← hts]; exact h1
        simp only [isAlone]
        generalize scanToks x = l at h2
        match l, h2 with
        | [], _ => simp
        | [u], h => simp at h
        | u :: v :: m, _ => simp
      have HA := hide hA
      clear hA hown hts hp hre hr h1
      go_wp2_with fail
      go_quiet ((fail))
      go_wp2
      go_ret
      exact ⟨by rw [HA.out]; rfl, below_drewN hbel _⟩
  · have b0 : ((r : Int) == 0) = false := by simp; omega
    obtain ⟨ao, cap, rfl⟩ := ownsRow_slice hown
    have hA : isAlone ⟨k, a, x⟩ = false := by
      by_cases hsz : x.size ≤ 6000
      · rw [if_pos hsz] at hif
        have : ¬ scanErr x = 0 := by rw [← hif.2.2]; exact hr
        simp [isAlone, this]
      · simp [isAlone, hsz]
    have HA := hide hA
    clear hA hown hif
    go_wp2_with fail
    go_quiet ((fail))
    go_wp2
    go_ret
    exact ⟨by rw [HA.out]; rfl, below_drewN hbel _⟩

/-- one behind the other, a blank between. -/
def glueL : List Tok → List UInt8
  | [] => []
  | [t] => t.text.data.toList
  | t :: u :: ts => t.text.data.toList ++ 32 :: glueL (u :: ts)

def sizes (ts : List Tok) : Nat := (ts.map fun t => t.text.size + 1).sum

theorem sizes_snoc (ts : List Tok) (t : Tok) : sizes (ts ++ [t]) = sizes ts + (t.text.size + 1) := by simp [sizes]

theorem glueL_snoc (ts : List Tok) (t : Tok) : glueL (ts ++ [t]) = if ts = [] then t.text.data.toList else glueL ts ++ 32 :: t.text.data.toList := by
  induction ts with
  | nil => simp [glueL]
  | cons u ts ih =>
    cases ts with
    | nil => simp [glueL]
    | cons v ts => simp [glueL] at ih ⊢; rw [ih]

theorem glueL_length (ts : List Tok) : (glueL ts).length + 1 = sizes ts ∨ ts = [] := by
  induction ts with
  | nil => exact Or.inr rfl
  | cons u ts ih =>
    left
    cases ts with
    | nil => simp [glueL, sizes]
    | cons v ts =>
      have := ih.resolve_right (by simp)
      simp [glueL, sizes] at this ⊢
      omega

theorem sizes_take (ts : List Tok) (k : Nat) : sizes (ts.take k) ≤ sizes ts := by
  induction ts generalizing k with
  | nil => simp [sizes]
  | cons u ts ih =>
    cases k with
    | zero => simp [sizes]
    | succ k => have := ih k; simp [sizes] at this ⊢; omega

theorem cellsAt {w : World} {b off : Nat} {ts : List Tok} (h : ∀ j u, (toksCells ts)[j]? = some u → w.cell? ⟨b, off + j, none⟩ = some u) {i : Nat} (hi : i < ts.length) :
    w.cell? ⟨b, off + i * 3, none⟩ = some (.int .i64 ts[i].kind) ∧ w.cell? ⟨b, off + i * 3 + 1, none⟩ = some (.int .i64 ts[i].pos) ∧ w.cell? ⟨b, off + i * 3 + 2, none⟩ = some (.string ts[i].text) := by
  have key : ∀ (ts : List Tok) (i : Nat) (hi : i < ts.length), (toksCells ts)[i * 3]? = some (.int .i64 ts[i].kind) ∧ (toksCells ts)[i * 3 + 1]? = some (.int .i64 ts[i].pos) ∧ (toksCells ts)[i * 3 + 2]? = some (.string ts[i].text) := by
    intro ts
    induction ts with
    | nil => intro i hi; simp at hi
    | cons t ts ih =>
      intro i hi
      cases i with
      | zero => simp [toksCells, tokCells]
      | succ i =>
        have := ih i (by simpa using hi)
        have e : ∀ j, (toksCells (t :: ts))[(i + 1) * 3 + j]? = (toksCells ts)[i * 3 + j]? := fun j => by
          have : (i + 1) * 3 + j = i * 3 + j + 3 := by omega
          rw [this]
          simp [toksCells, tokCells]
        have e0 := e 0
        simp only [Nat.add_zero] at e0
        rw [e0, e 1, e 2]
        simpa using this
  obtain ⟨k0, k1, k2⟩ := key ts i hi
  exact ⟨h _ _ k0, by rw [Nat.add_assoc]; exact h _ _ k1, by rw [Nat.add_assoc]; exact h _ _ k2⟩

set_option maxHeartbeats 1000000 in
theorem glue_any (v : Value) (ts : List Tok) (w : World) (hv : IsToks w v ts) (hs : sizes ts ≤ 6001) :
    Calls Try.prog 16 #[v] w fun e w' => e = .returned (.string ⟨(glueL ts).toArray⟩) ∧ Below w.heap.size w w' := by
  obtain ⟨ao, cap, rfl, hcc⟩ := hv
  have hn : ts.length ≤ 6001 := by
    have : ∀ l : List Tok, l.length ≤ sizes l := by
      intro l
      induction l with
      | nil => simp [sizes]
      | cons u l ih => simp [sizes] at ih ⊢; omega
    have := this ts
    omega
  go_enter Try.func16, Try.ntmps16
  go_wp2_with fail
  go_loopw [8] (fun i wr => ∃ k : Nat, k ≤ ts.length ∧ i = .int .i64 k ∧ Lib.IsBuilder 48 5 w.heap.size w.heap.size (Lib.byteCells (glueL (ts.take k))) wr ∧ Below w.heap.size w wr ∧ w.heap.size < wr.heap.size) (fun i _ => ts.length - (intOf i).toNat)
  case atStart => exact ⟨0, Nat.zero_le _, rfl, Lib.fresh_isBuilder 48 5 w, (Below.refl _ w).alloc (Nat.le_refl _) _, by simp⟩
  case round =>
    obtain ⟨k, hk, rfl, hB, hbel, hlt⟩ := hrel
    by_cases hkl : k < ts.length
    · obtain ⟨b, off, rfl, hcl⟩ := hcc (by rintro rfl; simp at hkl)
      obtain ⟨q0, q1, q2⟩ := cellsAt hcl hkl
      have g0 : b < w.heap.size := World.block_lt_of_cell? w _ q0
      have q0' := (hbel.cell (p := ⟨b, off + k * 3, none⟩) g0).trans q0
      have q1' := (hbel.cell (p := ⟨b, off + k * 3 + 1, none⟩) g0).trans q1
      have q2' := (hbel.cell (p := ⟨b, off + k * 3 + 2, none⟩) g0).trans q2
      clear q0 q1 q2 hcl hcc
      obtain ⟨kk, hkk⟩ : ∃ x, x = ts[k].kind := ⟨_, rfl⟩
      obtain ⟨pp, hpp⟩ : ∃ x, x = ts[k].pos := ⟨_, rfl⟩
      obtain ⟨tx, htx⟩ : ∃ x, x = ts[k].text := ⟨_, rfl⟩
      rw [← hkk] at q0'
      rw [← hpp] at q1'
      rw [← htx] at q2'
      have HT := hide htx
      clear hkk hpp htx
      have htk : ts.take (k + 1) = ts.take k ++ [ts[k]] := List.take_succ_eq_append_getElem hkl
      have hsz1 := sizes_take ts (k + 1)
      rw [htk, sizes_snoc, ← HT.out] at hsz1
      have hgl : (Lib.byteCells (glueL (ts.take k))).length ≤ 6001 := by
        rw [Lib.byteCells_length]
        rcases glueL_length (ts.take k) with h | h
        · omega
        · rw [h]; simp [glueL]
      have hgn : glueL (ts.take (k + 1)) = if ts.take k = [] then tx.data.toList else glueL (ts.take k) ++ 32 :: tx.data.toList := by rw [htk, glueL_snoc, ← HT.out]
      have hnil : ts.take k = [] ↔ k = 0 := by
        rw [List.take_eq_nil_iff]
        constructor
        · rintro (h | h)
          · exact h
          · simp [h] at hkl
        · exact Or.inl
      by_cases h0 : k = 0
      · have hp : ¬ (0 : Int) < (k : Int) := by omega
        rw [if_pos (hnil.2 h0)] at hgn
        have hg0 : glueL (ts.take k) = [] := by rw [hnil.2 h0]; rfl
        have HG := hide hgn
        have HG0 := hide hg0
        clear h0 hgn hg0 hnil htk
        go_wp2_with fail
        refine (bStr_any w.heap.size w.heap.size _ tx _ (isBuilder_alloc hB _) (by omega) (by omega) (by simp; omega)).mono ?_
        rintro e w1 ⟨rfl, hb1, hbb, hkk⟩
        go_wp2_with fail
        refine ⟨⟨k + 1, by omega, by go_num, Or.inr ?_, (hbel.alloc (by omega) _).trans hbb, by have := hbb.size; simp at this; omega⟩, by simp [intOf]; omega⟩
        rw [HG.out]
        rw [HG0.out] at hb1
        simpa [Lib.byteCells, Lib.strCells] using hb1
      · have hp : (0 : Int) < (k : Int) := by omega
        rw [if_neg (fun h => h0 (hnil.1 h))] at hgn
        have HG := hide hgn
        clear h0 hgn hnil htk
        go_wp2_with fail
        refine (bByte_any w.heap.size w.heap.size _ 32 _ (isBuilder_alloc hB _) (by omega) (by simp; omega)).mono ?_
        rintro e w1 ⟨rfl, hb1, hbb, hkk⟩
        have hh := hkk wr.heap.size _ 34 (0, 0) (heap_alloc_new wr _) (by decide) (by decide)
        have c2 : w1.cell? ⟨wr.heap.size, 2, none⟩ = some (.string tx) := by rw [Lib.cell_of_heap hh]; rfl
        have hbb' : Below w.heap.size w w1 := (hbel.alloc (by omega) _).trans hbb
        have hsz2 : w.heap.size < w1.heap.size := by have := hbb.size; simp at this; omega
        clear hh hkk hbb q0' q1' q2'
        go_wp2_with fail
        refine (bStr_any w.heap.size w.heap.size _ tx _ (Or.inr hb1) (by simp; omega) (by omega) (by omega)).mono ?_
        rintro e w2 ⟨rfl, hb2, hbb2, hkk2⟩
        go_wp2_with fail
        refine ⟨⟨k + 1, by omega, by go_num, Or.inr ?_, hbb'.trans hbb2, by have := hbb2.size; omega⟩, by simp [intOf]; omega⟩
        rw [HG.out]
        simpa [Lib.byteCells, Lib.strCells] using hb2
    · have hke : k = ts.length := by omega
      go_wp2_with fail
      refine (Try.Builder_String_any w.heap.size w.heap.size (glueL (ts.take k)) _ hB (by omega)).mono ?_
      rintro e w1 ⟨rfl, hb1⟩
      go_wp2_with fail
      go_ret
      exact ⟨rfl, hbel.trans hb1⟩
end Go.Proofs.Ytleaaflcnpmfdaa
