/- Expressions of a program in memory, as plain data; what was handed in lies so. -/
import Derived.Test.YtcbbjjenkommeaaRows
import Derived.RowKit
import Derived.ProofKit
import Derived.OpenShut
import Derived.Deep.Strs
import Derived.Lib.SmallJoins
import Derived.WalkKit
import Derived.WalkSpells
import Derived.WalkLawsBesides
import Derived.WalkSmall
import Derived.Deep.RegionHeld3
import Derived.Deep.AppendLies
import Derived.OwnWalk
import Derived.Deep.SlicePairs
namespace Go.Proofs.Ytcbbjjenkommeaa.Ex
open Go.RowKit Go.ChangeShapes Go.WideShapes
set_option linter.unusedVariables false
abbrev D := DataW Empty
def xD (k n : Int) (args : List D) : D := .agg [.lit (.int .i64 k), .lit (.int .i64 n), .slice args []]

/-- a list lies in memory, each element by itself. -/
def XS (size : Nat) (R : List Value → D → Prop) (w : World) (v : Value) (ds : List D) : Prop :=
  ds.length ≤ maxLen ∧ ∃ ao cap, v = .slice ao ds.length cap ∧ (ds ≠ [] → ∃ b off, ao = some ⟨b, off, none⟩ ∧
    ∀ (i : Nat) (d : D), ds[i]? = some d → ∃ cs : List Value, cs.length = size ∧ (∀ (j : Nat) (u : Value), cs[j]? = some u → w.cell? ⟨b, off + i * size + j, none⟩ = some u) ∧ R cs d)

def In64 (n : Int) : Prop := -9223372036854775808 ≤ n ∧ n ≤ 9223372036854775807

theorem wf64 {n : Int} (h : (Lit.int .i64 n).wf = true) : In64 n := by
  have h2 : (decide (IntKind.i64.min ≤ n) && decide (n ≤ IntKind.i64.max)) = true := h
  rw [Bool.and_eq_true, decide_eq_true_iff, decide_eq_true_iff] at h2
  exact h2

/-- an expression, so deep at most. -/
def RX (w : World) : Nat → List Value → D → Prop
  | 0, _, _ => False
  | k + 1, cs, d => ∃ (kd n : Int) (v : Value) (ds : List D), cs = [.int .i64 kd, .int .i64 n, v] ∧ d = xD kd n ds ∧ In64 kd ∧ In64 n ∧ XS 3 (RX w k) w v ds

theorem XS.mono {size : Nat} {R R' : List Value → D → Prop} {w w' : World} {v : Value} {ds : List D} (h : XS size R w v ds)
    (hw : ∀ a u, w.cell? a = some u → w'.cell? a = some u) (hR : ∀ cs d, d ∈ ds → R cs d → R' cs d) : XS size R' w' v ds := by
  obtain ⟨hm, ao, cap, hv, hc⟩ := h
  refine ⟨hm, ao, cap, hv, fun hne => ?_⟩
  obtain ⟨b, off, hao, hel⟩ := hc hne
  refine ⟨b, off, hao, fun i d hd => ?_⟩
  obtain ⟨cs, hl, hcs, hr⟩ := hel i d hd
  exact ⟨cs, hl, fun j u hu => hw _ _ (hcs j u hu), hR cs d (List.mem_of_getElem? hd) hr⟩

theorem RX.mono {w w' : World} (hw : ∀ a u, w.cell? a = some u → w'.cell? a = some u) :
    ∀ (k m : Nat) (cs : List Value) (d : D), k ≤ m → RX w k cs d → RX w' m cs d := by
  intro k
  induction k with
  | zero => intro m cs d _ h; exact h.elim
  | succ k ih =>
    intro m cs d hkm h
    obtain ⟨m', rfl⟩ : ∃ m', m = m' + 1 := ⟨m - 1, by omega⟩
    obtain ⟨kd, n, v, ds, hcs, hd, h1, h2, hr⟩ := h
    exact ⟨kd, n, v, ds, hcs, hd, h1, h2, hr.mono hw (fun cs d _ hh => ih m' cs d (by omega) hh)⟩
end Go.Proofs.Ytcbbjjenkommeaa.Ex
namespace Go.Proofs.Ytcbbjjenkommeaa.Ex
open Go.RowKit
set_option linter.unusedVariables false
theorem hide {p : Prop} (h : p) : Hid p := h

def wrap32 (z : Int) : Int := (z + 2147483648) % 4294967296 - 2147483648
theorem bcell {W w1 : World} (hb : Below W.heap.size W w1) : (∀ b o, b < W.heap.size → w1.cell? ⟨b, o, none⟩ = W.cell? ⟨b, o, none⟩) ∧ (∀ b o, b < W.heap.size → w1.frozen? ⟨b, o, none⟩ = W.frozen? ⟨b, o, none⟩) :=
  ⟨fun b o h => hb.cell (p := ⟨b, o, none⟩) h, fun b o h => hb.frozen (p := ⟨b, o, none⟩) h⟩

theorem cell_over {w w' : World} (hb : Below w.heap.size w w') (a : Addr) (u : Value) (h : w.cell? a = some u) : w'.cell? a = some u := by
  rw [hb.cell (World.block_lt_of_cell? w _ h)]
  exact h

theorem RX.over {w w' : World} {k : Nat} {cs : List Value} {d : D} (h : RX w k cs d) (hb : Below w.heap.size w w') : RX w' k cs d := RX.mono (cell_over hb) k k cs d (Nat.le_refl _) h

def argsOf : D → List D
  | .agg [_, _, .slice l _] => l
  | _ => []
def kindOf : D → Int
  | .agg (.lit (.int _ n) :: _) => n
  | _ => 0
def numOf : D → Int
  | .agg (_ :: .lit (.int _ n) :: _) => n
  | _ => 0
@[simp] theorem argsOf_x (k n : Int) (l : List D) : argsOf (xD k n l) = l := rfl
@[simp] theorem kindOf_x (k n : Int) (l : List D) : kindOf (xD k n l) = k := rfl
@[simp] theorem numOf_x (k n : Int) (l : List D) : numOf (xD k n l) = n := rfl

theorem RX.form {w : World} {k : Nat} {cs : List Value} {d : D} (h : RX w k cs d) : ∃ ao cap, cs = [.int .i64 (kindOf d), .int .i64 (numOf d), .slice ao (argsOf d).length cap] := by
  cases k with
  | zero => exact h.elim
  | succ k =>
    obtain ⟨kd, n, v, ds, rfl, rfl, -, -, -, ao, cap, rfl, -⟩ := h
    exact ⟨ao, cap, rfl⟩

def addParts (f : D → Int → Int) (m : Int) : List D → Int → Int
  | [], n => n
  | a :: l, n => if n ≤ m then addParts f m l (n + f a (m - n)) else n
def partsX : Nat → D → Int → Int
  | 0, _, _ => 1
  | k + 1, d, m => addParts (partsX k) m (argsOf d) 1

theorem addParts_le (f : D → Int → Int) (hf : ∀ d m, 0 ≤ m → 1 ≤ f d m ∧ f d m ≤ m + 1) (m : Int) : ∀ (l : List D) (n : Int), 1 ≤ n → n ≤ m + 1 → 1 ≤ addParts f m l n ∧ addParts f m l n ≤ m + 1
  | [], n, h1, h2 => ⟨h1, h2⟩
  | a :: l, n, h1, h2 => by
    unfold addParts
    split
    · have := hf a (m - n) (by omega)
      exact addParts_le f hf m l _ (by omega) (by omega)
    · exact ⟨h1, h2⟩
theorem partsX_le : ∀ (k : Nat) (d : D) (m : Int), 0 ≤ m → 1 ≤ partsX k d m ∧ partsX k d m ≤ m + 1
  | 0, _, m, h => by unfold partsX; omega
  | k + 1, d, m, h => addParts_le _ (partsX_le k) m _ 1 (by omega) (by omega)
theorem addParts_done (f : D → Int → Int) (m : Int) (l : List D) (n : Int) (h : m < n) : addParts f m l n = n := by
  cases l with
  | nil => rfl
  | cons a l => unfold addParts; rw [if_neg (by omega)]
theorem addParts_drop {f : D → Int → Int} {m n : Int} {l : List D} {j : Nat} (hj : j < l.length) (h : n ≤ m) : addParts f m (l.drop j) n = addParts f m (l.drop (j + 1)) (n + f l[j] (m - n)) := by
  rw [List.drop_eq_getElem_cons hj]
  rw [addParts, if_pos h]
def IsInts (w : World) (v : Value) (l : List Int) : Prop :=
  ∃ ao cap, v = .slice ao l.length cap ∧ (l ≠ [] → ∃ b off, ao = some ⟨b, off, none⟩ ∧ ∀ i (h : i < l.length), w.cell? ⟨b, off + i, none⟩ = some (.int .i64 l[i]))

theorem IsInts.over {w w' : World} {v : Value} {l : List Int} (h : IsInts w v l) (hb : Below w.heap.size w w') : IsInts w' v l := by
  obtain ⟨ao, cap, hv, hc⟩ := h
  refine ⟨ao, cap, hv, fun hne => ?_⟩
  obtain ⟨b, off, hao, hel⟩ := hc hne
  exact ⟨b, off, hao, fun i hi => cell_over hb _ _ (hel i hi)⟩

def opX (k a b : Int) : Int :=
  if k = 3 then wrap32 (a + b) else if k = 4 then wrap32 (a - b) else if k = 5 then wrap32 (a * b) else if k = 6 ∧ a < b ∨ k = 7 ∧ a = b then 1 else 0
def valX (vs : List Int) : Nat → D → Int
  | 0, _ => 0
  | k + 1, d => if kindOf d = 1 then numOf d else if kindOf d = 2 then vs.getD (numOf d).toNat 0 else
    match argsOf d with
    | [x, y] => opX (kindOf d) (valX vs k x) (valX vs k y)
    | _ => 0
def I32 (n : Int) : Prop := -2147483648 ≤ n ∧ n ≤ 2147483647

theorem below_drewN {W w : World} {n : Nat} (h : Below n W w) (k : Nat) : Below n W (w.drewN k) := by
  induction k with
  | zero => exact h
  | succ k ih => exact ih.drew
theorem own_base {W : World} {B B' e s : Nat} {v : Value} {k : Nat} {xs : List Value} (h : W.ownsRow B e s v k xs) (hb : B' ≤ B) : W.ownsRow B' e s v k xs := by
  obtain ⟨h1, h2⟩ := h
  refine ⟨h1, ?_⟩
  rcases h2 with h2 | ⟨g, cap, cur, hv, hg, r⟩
  · exact Or.inl h2
  · exact Or.inr ⟨g, cap, cur, hv, Nat.le_trans hb hg, r⟩

theorem own_lt {W : World} {B e s : Nat} {v : Value} {k : Nat} {xs : List Value} (h : W.ownsRow B e s v k xs) {g : Nat} (hg : v.ownBlock = some g) : B ≤ g ∧ g < W.heap.size := by
  rcases h.2 with ⟨rfl, _⟩ | ⟨g', cap, cur, rfl, hg', hh, _⟩
  · cases hg
  · simp [Value.ownBlock] at hg
    subst hg
    exact ⟨hg', (Array.getElem?_eq_some_iff.1 hh).1⟩

theorem below_grown {B e s : Nat} {W W' : World} {v : Value} {k : Nat} {xs : List Value} (h : W.ownsRow B e s v k xs) (hg : W.grownBy W' v.ownBlock) (hB : B ≤ W.heap.size) : Below B W W' :=
  ⟨hg.os, hg.tape, hg.output, hg.size, fun j hj => hg.block j (Nat.lt_of_lt_of_le hj hB) (fun e => by have := (own_lt h e.symm).1; omega)⟩

/-- the cells of parts that lie one behind the other. -/
def CellsOf : List D → List Value → Prop
  | [], xs => xs = []
  | d :: l, xs => ∃ (ao : Option Addr) (cap : Nat) (r : List Value), xs = .int .i64 (kindOf d) :: .int .i64 (numOf d) :: .slice ao (argsOf d).length cap :: r ∧ CellsOf l r

theorem CellsOf.append : ∀ {l l' : List D} {xs xs' : List Value}, CellsOf l xs → CellsOf l' xs' → CellsOf (l ++ l') (xs ++ xs')
  | [], _, _, _, h, h' => by have e : _ = _ := h; subst e; exact h'
  | d :: l, _, _, _, h, h' => by
    obtain ⟨ao, cap, r, rfl, hr⟩ := h
    exact ⟨ao, cap, r ++ _, rfl, hr.append h'⟩
theorem CellsOf.one : ∀ {l : List D} {xs : List Value}, CellsOf l xs → ∀ u ∈ xs, u.oneCell' = true
  | [], _, h, u, hu => by have e : _ = _ := h; subst e; cases hu
  | d :: l, _, h, u, hu => by
    obtain ⟨ao, cap, r, rfl, hr⟩ := h
    simp only [List.mem_cons] at hu
    rcases hu with rfl | rfl | rfl | hu
    · rfl
    · rfl
    · rfl
    · exact hr.one u hu
theorem CellsOf.length : ∀ {l : List D} {xs : List Value}, CellsOf l xs → xs.length = l.length * 3
  | [], _, h => by have e : _ = _ := h; subst e; rfl
  | d :: l, _, h => by
    obtain ⟨ao, cap, r, rfl, hr⟩ := h
    have := hr.length
    simp
    omega

def listX : Nat → D → List D
  | 0, _ => []
  | k + 1, d => d :: (argsOf d).flatMap (listX k)
def errX (vars k n : Int) (l : Nat) : Int :=
  if ¬ (1 ≤ k ∧ k ≤ 7) then 7 else if k ≤ 2 ∧ l ≠ 0 ∨ 2 < k ∧ l ≠ 2 then 1 else if k = 1 ∧ ¬ (-9999999 ≤ n ∧ n ≤ 9999999) ∨ 2 < k ∧ n ≠ 0 then 3 else if k = 2 ∧ ¬ (0 ≤ n ∧ n ≤ vars - 1) then 5 else 0
def firstX (vars : Int) : List D → Int
  | [] => 0
  | d :: l => if errX vars (kindOf d) (numOf d) (argsOf d).length = 0 then firstX vars l else errX vars (kindOf d) (numOf d) (argsOf d).length
def checkX (vars : Int) (k : Nat) (d : D) : Int := if 15 < partsX k d 15 then 2 else firstX vars (listX k d)

theorem CellsOf.at : ∀ {l : List D} {xs : List Value}, CellsOf l xs → ∀ (j : Nat) (hj : j < l.length), ∃ (ao : Option Addr) (cap : Nat), xs[j * 3]? = some (.int .i64 (kindOf l[j])) ∧ xs[j * 3 + 1]? = some (.int .i64 (numOf l[j])) ∧ xs[j * 3 + 2]? = some (.slice ao (argsOf l[j]).length cap)
  | d :: l, _, h, 0, hj => by
    obtain ⟨ao, cap, r, rfl, hr⟩ := h
    exact ⟨ao, cap, rfl, rfl, rfl⟩
  | d :: l, _, h, j + 1, hj => by
    obtain ⟨ao, cap, r, rfl, hr⟩ := h
    obtain ⟨ao', cap', h0, h1, h2⟩ := hr.at j (by simpa using hj)
    refine ⟨ao', cap', ?_, ?_, ?_⟩
    · rw [Nat.succ_mul]; exact h0
    · rw [Nat.succ_mul]; exact h1
    · rw [Nat.succ_mul]; exact h2
theorem firstX_zero {vars : Int} : ∀ {l : List D}, firstX vars l = 0 → ∀ d ∈ l, errX vars (kindOf d) (numOf d) (argsOf d).length = 0
  | [], _, d, hd => by cases hd
  | a :: l, h, d, hd => by
    rw [firstX] at h
    split at h
    · rename_i h0
      rcases List.mem_cons.1 hd with rfl | hd
      · exact h0
      · exact firstX_zero h d hd
    · rename_i h0
      exact absurd h h0

theorem errX_zero {vars k n : Int} {l : Nat} (h : errX vars k n l = 0) : (k = 1 ∧ -9999999 ≤ n ∧ n ≤ 9999999) ∨ (k = 2 ∧ 0 ≤ n ∧ n < vars) ∨ (3 ≤ k ∧ k ≤ 7 ∧ l = 2) := by
  unfold errX at h
  split at h
  · omega
  · split at h
    · omega
    · split at h
      · omega
      · split at h
        · omega
        · omega
set_option maxHeartbeats 2000000 in
set_option maxRecDepth 100000 in
theorem left_any : ∀ (k : Nat) (cs : List Value) (d : D) (w : World) (m : Int), RX w k cs d → 0 ≤ m → m ≤ 15 →
    Calls Try.prog 61 #[.agg cs.toArray, .int .i64 m] w fun e w' => e = .returned (.int .i64 (m - partsX k d m)) ∧ Below w.heap.size w w' := by
  intro k
  induction k with
  | zero => intro cs d w m h; exact h.elim
  | succ k ih =>
    intro cs d w m h m0 m1
    obtain ⟨kd, n, v, ds, rfl, rfl, hkd, hn, hlen, ao, cap, rfl, hc⟩ := h
    have HC := hide hc
    have IH := hide ih
    have HL : ds.length ≤ 9223372036854775807 := hlen
    have hspec : partsX (k + 1) (xD kd n ds) m = addParts (partsX k) m ds 1 := rfl
    rw [hspec]
    have hbel : Below w.heap.size w (w.alloc (.cells #[.int .i64 kd, .int .i64 n, .slice ao ds.length cap] 24)) := (Below.refl _ w).alloc (Nat.le_refl _) _
    clear hc ih hspec hkd hn hlen
    show Calls Try.prog 61 #[.agg #[.int .i64 kd, .int .i64 n, .slice ao ds.length cap], .int .i64 m] w _
    go_enter Try.func61, Try.ntmps61
    go_wp2_with fail
    go_loopw [1, 12] (fun c i wr => ∃ (j : Nat) (t : Int), j ≤ ds.length ∧ i = .int .i64 j ∧ c = .int .i64 (m - t) ∧ 1 ≤ t ∧ t ≤ m + 1 ∧ addParts (partsX k) m ds 1 = addParts (partsX k) m (ds.drop j) t ∧ Below w.heap.size w wr) (fun _ i _ => ds.length - (intOf i).toNat)
    case atStart => exact ⟨0, 1, Nat.zero_le _, rfl, rfl, by omega, by omega, rfl, hbel⟩
    case round =>
      clear hbel
      obtain ⟨j, t, hj, rfl, rfl, t1, t2, hp, hB⟩ := hrel
      have HP := hide hp
      clear hp
      by_cases hjl : j < ds.length
      · obtain ⟨b, off, rfl, hcl⟩ := HC.out (by rintro rfl; simp at hjl)
        obtain ⟨cs, hl3, hcs, hr⟩ := hcl j ds[j] (List.getElem?_eq_getElem hjl)
        obtain ⟨ao', cap', hcse⟩ := hr.form
        have hnext := fun h => addParts_drop (f := partsX k) (m := m) (n := t) hjl h
        have hle := fun h => partsX_le k ds[j] (m - t) h
        obtain ⟨dj, hdj⟩ : ∃ dj, dj = ds[j] := ⟨_, rfl⟩
        rw [← hdj] at hnext hle hr hcse
        obtain ⟨kj, hkj⟩ : ∃ q, q = kindOf dj := ⟨_, rfl⟩
        obtain ⟨nj, hnj⟩ : ∃ q, q = numOf dj := ⟨_, rfl⟩
        obtain ⟨lj, hlj⟩ : ∃ q, q = (argsOf dj).length := ⟨_, rfl⟩
        rw [← hkj, ← hnj, ← hlj] at hcse
        subst hcse
        have q0 : wr.cell? ⟨b, off + j * 3, none⟩ = _ := cell_over hB _ _ (hcs 0 _ rfl)
        have q1 := cell_over hB _ _ (hcs 1 _ rfl)
        have q2 := cell_over hB _ _ (hcs 2 _ rfl)
        have hba : Below wr.heap.size wr (wr.alloc (.cells #[.int .i64 kj, .int .i64 nj, .slice ao' lj cap'] 24)) := (Below.refl _ wr).alloc (Nat.le_refl _) _
        have hBa : Below w.heap.size w (wr.alloc (.cells #[.int .i64 kj, .int .i64 nj, .slice ao' lj cap'] 24)) := hB.trans (hba.mono hB.size)
        by_cases htm : t ≤ m
        · have hnext := hnext htm
          have hle := hle (by omega)
          have hcall := IH.out _ dj _ (m - t) (hr.over hBa) (by omega) (by omega)
          obtain ⟨r, hre⟩ : ∃ r, r = partsX k dj (m - t) := ⟨_, rfl⟩
          rw [← hre] at hcall hnext hle
          have HCALL := hide hcall
          have HN := hide hnext
          clear hcall hnext hre hkj hnj hlj hr hcs hcl hl3 hdj
          go_wp2_with fail
          refine (HCALL.out).mono ?_
          rintro e w1 ⟨rfl, hb1⟩
          have hB' : Below w.heap.size w w1 := hBa.trans (hb1.mono hBa.size)
          clear q0 q1 q2 hB hb1 HCALL hba hBa
          go_wp2_with fail
          exact ⟨⟨j + 1, t + r, by omega, by go_num, by go_num, by omega, by omega, by rw [HP.out, HN.out], hB'⟩, by simp [intOf]; omega⟩
        · have hd := addParts_done (partsX k) m (ds.drop j) t (by omega)
          have HD := hide hd
          have hneg : m - t < 0 := by omega
          clear hd hnext hle hr hcs hcl hl3 hdj hkj hnj hlj htm
          go_wp2_with fail
          go_ret
          exact ⟨by rw [HP.out, HD.out]; rfl, hBa⟩
      · have hd : addParts (partsX k) m (ds.drop j) t = t := by rw [List.drop_eq_nil_of_le (by omega)]; rfl
        have HD := hide hd
        clear hd
        go_wp2_with fail
        go_ret
        exact ⟨by rw [HP.out, HD.out]; rfl, hB⟩

def argsX (k : Int) : Int := if k = 1 ∨ k = 2 then 0 else 2

set_option maxHeartbeats 400000 in
theorem args_any (k : Int) (w : World) : Calls Try.prog 96 #[.int .i64 k] w fun e w' => e = .returned (.int .i64 (argsX k)) ∧ w' = w := by
  by_cases h1 : k = 1
  · subst h1
    go_enter Try.func96, Try.ntmps96
    go_wp2
    go_ret
    exact ⟨rfl, rfl⟩
  · by_cases h2 : k = 2
    · subst h2
      go_enter Try.func96, Try.ntmps96
      go_wp2
      go_ret
      exact ⟨rfl, rfl⟩
    · have b1 : (k == 1) = false := by simpa using h1
      have b2 : (k == 2) = false := by simpa using h2
      go_enter Try.func96, Try.ntmps96
      go_wp2
      go_ret
      exact ⟨by simp [argsX, h1, h2], rfl⟩

theorem firstX_append (vars : Int) : ∀ (l m : List D), firstX vars (l ++ m) = if firstX vars l = 0 then firstX vars m else firstX vars l
  | [], m => by simp [firstX]
  | a :: l, m => by
    rw [List.cons_append, firstX, firstX]
    split
    · exact firstX_append vars l m
    · rfl
/-- what the parts of the arguments say, one behind the other. -/
def restX (vars : Int) (k : Nat) : List D → Int
  | [] => 0
  | a :: l => if firstX vars (listX k a) = 0 then restX vars k l else firstX vars (listX k a)
theorem restX_flat (vars : Int) (k : Nat) : ∀ l : List D, restX vars k l = firstX vars (l.flatMap (listX k))
  | [] => rfl
  | a :: l => by rw [restX, List.flatMap_cons, firstX_append, restX_flat vars k l]
theorem restX_drop {vars : Int} {k : Nat} {l : List D} {j : Nat} (hj : j < l.length) : restX vars k (l.drop j) = if firstX vars (listX k l[j]) = 0 then restX vars k (l.drop (j + 1)) else firstX vars (listX k l[j]) := by
  rw [List.drop_eq_getElem_cons hj]
  rfl
set_option maxHeartbeats 4000000 in
set_option maxRecDepth 100000 in
theorem part_head (vars kd n : Int) (dl cap : Nat) (ao : Option Addr) (w : World) (v0 : 0 ≤ vars) (v1 : vars ≤ 9223372036854775807) (HL : dl ≤ 9223372036854775807) (hkd : In64 kd) (hn : In64 n) (hE : errX vars kd n dl ≠ 0) :
    Calls Try.prog 62 #[.agg #[.int .i64 kd, .int .i64 n, .slice ao dl cap], .int .i64 vars] w fun e w' => e = .returned (.int .i64 (errX vars kd n dl)) ∧ Below w.heap.size w w' := by
  have hbel : Below w.heap.size w (w.alloc (.cells #[.int .i64 kd, .int .i64 n, .slice ao dl cap] 24)) := (Below.refl _ w).alloc (Nat.le_refl _) _
  have KA := hide fun W => args_any kd W
  obtain ⟨kl, ku⟩ := hkd
  obtain ⟨nl, nu⟩ := hn
  by_cases c1 : kd < 1 ∨ 7 < kd
  · have hr : errX vars kd n dl = 7 := by unfold errX; rw [if_pos (by omega)]
    rw [hr]
    clear hr hE
    rcases c1 with c1 | c1
    · go_enter Try.func62, Try.ntmps62
      go_wp2_with fail
      go_ret
      exact ⟨rfl, hbel⟩
    · have c0 : ¬ kd < 1 := by omega
      go_enter Try.func62, Try.ntmps62
      go_wp2_with fail
      go_ret
      exact ⟨rfl, hbel⟩
  · have c2 : 1 ≤ kd := by omega
    have c3 : kd ≤ 7 := by omega
    clear c1
    have e0 : (w.alloc (.cells #[.int .i64 kd, .int .i64 n, .slice ao dl cap] 24)).cell? ⟨w.heap.size, 0, none⟩ = some (.int .i64 kd) := by simp [go_sem]
    have e1 : (w.alloc (.cells #[.int .i64 kd, .int .i64 n, .slice ao dl cap] 24)).cell? ⟨w.heap.size, 1, none⟩ = some (.int .i64 n) := by simp [go_sem]
    have e2 : (w.alloc (.cells #[.int .i64 kd, .int .i64 n, .slice ao dl cap] 24)).cell? ⟨w.heap.size, 2, none⟩ = some (.slice ao dl cap) := by simp [go_sem]
    by_cases c4 : (dl : Int) = argsX kd
    · by_cases c5 : kd = 1
      · subst c5
        have c6 : dl = 0 := by simpa [argsX] using c4
        subst c6
        have ka : argsX 1 = 0 := rfl
        rw [ka] at KA
        have hr : errX vars 1 n 0 = 3 ∧ (n < -9999999 ∨ 9999999 < n) := by
          unfold errX at hE ⊢
          rw [if_neg (by omega), if_neg (by omega)] at hE ⊢
          by_cases q : n < -9999999 ∨ 9999999 < n
          · exact ⟨by rw [if_pos (by omega)], q⟩
          · rw [if_neg (by omega), if_neg (by omega)] at hE
            exact absurd rfl hE
        obtain ⟨hr, c5⟩ := hr
        rw [hr]
        clear hr hE c4 ka
        rcases c5 with c5 | c5
        · go_enter Try.func62, Try.ntmps62
          go_wp2_with fail
          go_region_held3 (fun W => W.cell? ⟨w.heap.size, 0, none⟩ = some (.int .i64 1) ∧ W.cell? ⟨w.heap.size, 1, none⟩ = some (.int .i64 n) ∧ W.cell? ⟨w.heap.size, 2, none⟩ = some (.slice ao 0 cap) ∧ Below w.heap.size w W) (first | assumption | exact ⟨e0, e1, e2, below_drewN hbel 1⟩ | fail) (first | (go_at_call 96; refine (KA.out _).mono ?_; rintro e wp ⟨rfl, rfl⟩))
          obtain ⟨g0, g1, g2, hB⟩ := (by assumption : _ ∧ _ ∧ _ ∧ Below _ _ _)
          go_wp2_with fail
          go_ret
          exact ⟨rfl, hB⟩
        · have c6 : ¬ n < -9999999 := by omega
          go_enter Try.func62, Try.ntmps62
          go_wp2_with fail
          go_region_held3 (fun W => W.cell? ⟨w.heap.size, 0, none⟩ = some (.int .i64 1) ∧ W.cell? ⟨w.heap.size, 1, none⟩ = some (.int .i64 n) ∧ W.cell? ⟨w.heap.size, 2, none⟩ = some (.slice ao 0 cap) ∧ Below w.heap.size w W) (first | assumption | exact ⟨e0, e1, e2, below_drewN hbel 1⟩ | fail) (first | (go_at_call 96; refine (KA.out _).mono ?_; rintro e wp ⟨rfl, rfl⟩))
          obtain ⟨g0, g1, g2, hB⟩ := (by assumption : _ ∧ _ ∧ _ ∧ Below _ _ _)
          go_wp2_with fail
          go_ret
          exact ⟨rfl, hB⟩
      · by_cases c7 : kd = 2
        · subst c7
          have c6 : dl = 0 := by simpa [argsX] using c4
          subst c6
          have ka : argsX 2 = 0 := rfl
          rw [ka] at KA
          have hr : errX vars 2 n 0 = 5 ∧ (n < 0 ∨ vars ≤ n) := by
            unfold errX at hE ⊢
            rw [if_neg (by omega), if_neg (by omega), if_neg (by omega)] at hE ⊢
            by_cases q : n < 0 ∨ vars ≤ n
            · exact ⟨by rw [if_pos (by omega)], q⟩
            · rw [if_neg (by omega)] at hE
              exact absurd rfl hE
          obtain ⟨hr, c5⟩ := hr
          rw [hr]
          clear hr hE c4 ka
          rcases c5 with c5 | c5
          · go_enter Try.func62, Try.ntmps62
            go_wp2_with fail
            go_region_held3 (fun W => W.cell? ⟨w.heap.size, 0, none⟩ = some (.int .i64 2) ∧ W.cell? ⟨w.heap.size, 1, none⟩ = some (.int .i64 n) ∧ W.cell? ⟨w.heap.size, 2, none⟩ = some (.slice ao 0 cap) ∧ Below w.heap.size w W) (first | assumption | exact ⟨e0, e1, e2, below_drewN hbel 1⟩ | fail) (first | (go_at_call 96; refine (KA.out _).mono ?_; rintro e wp ⟨rfl, rfl⟩))
            obtain ⟨g0, g1, g2, hB⟩ := (by assumption : _ ∧ _ ∧ _ ∧ Below _ _ _)
            go_wp2_with fail
            go_ret
            exact ⟨rfl, hB⟩
          · have c6 : ¬ n < 0 := by omega
            go_enter Try.func62, Try.ntmps62
            go_wp2_with fail
            go_region_held3 (fun W => W.cell? ⟨w.heap.size, 0, none⟩ = some (.int .i64 2) ∧ W.cell? ⟨w.heap.size, 1, none⟩ = some (.int .i64 n) ∧ W.cell? ⟨w.heap.size, 2, none⟩ = some (.slice ao 0 cap) ∧ Below w.heap.size w W) (first | assumption | exact ⟨e0, e1, e2, below_drewN hbel 1⟩ | fail) (first | (go_at_call 96; refine (KA.out _).mono ?_; rintro e wp ⟨rfl, rfl⟩))
            obtain ⟨g0, g1, g2, hB⟩ := (by assumption : _ ∧ _ ∧ _ ∧ Below _ _ _)
            go_wp2_with fail
            go_ret
            exact ⟨rfl, hB⟩
        · have ka : argsX kd = 2 := by unfold argsX; rw [if_neg (by omega)]
          rw [ka] at KA c4
          have c8 : dl = 2 := by omega
          subst c8
          have hr : errX vars kd n 2 = 3 ∧ n ≠ 0 := by
            unfold errX at hE ⊢
            rw [if_neg (by omega), if_neg (by omega)] at hE ⊢
            by_cases q : n = 0
            · rw [if_neg (by omega), if_neg (by omega)] at hE
              exact absurd rfl hE
            · exact ⟨by rw [if_pos (by omega)], q⟩
          obtain ⟨hr, c9⟩ := hr
          rw [hr]
          clear hr hE c4 ka
          go_enter Try.func62, Try.ntmps62
          go_wp2_with fail
          go_region_held3 (fun W => W.cell? ⟨w.heap.size, 0, none⟩ = some (.int .i64 kd) ∧ W.cell? ⟨w.heap.size, 1, none⟩ = some (.int .i64 n) ∧ W.cell? ⟨w.heap.size, 2, none⟩ = some (.slice ao 2 cap) ∧ Below w.heap.size w W) (first | assumption | exact ⟨e0, e1, e2, below_drewN hbel 1⟩ | fail) (first | (go_at_call 96; refine (KA.out _).mono ?_; rintro e wp ⟨rfl, rfl⟩))
          obtain ⟨g0, g1, g2, hB⟩ := (by assumption : _ ∧ _ ∧ _ ∧ Below _ _ _)
          go_wp2_with fail
          go_ret
          exact ⟨rfl, hB⟩
    · have hr : errX vars kd n dl = 1 := by
        unfold errX
        unfold argsX at c4
        rw [if_neg (by omega)]
        split at c4
        · rw [if_pos (by omega)]
        · rw [if_pos (by omega)]
      rw [hr]
      clear hr hE
      go_enter Try.func62, Try.ntmps62
      go_wp2_with fail
      go_region_held3 (fun W => W.cell? ⟨w.heap.size, 0, none⟩ = some (.int .i64 kd) ∧ W.cell? ⟨w.heap.size, 1, none⟩ = some (.int .i64 n) ∧ W.cell? ⟨w.heap.size, 2, none⟩ = some (.slice ao dl cap) ∧ Below w.heap.size w W) (first | assumption | exact ⟨e0, e1, e2, below_drewN hbel 1⟩ | fail) (first | (go_at_call 96; refine (KA.out _).mono ?_; rintro e wp ⟨rfl, rfl⟩))
      obtain ⟨g0, g1, g2, hB⟩ := (by assumption : _ ∧ _ ∧ _ ∧ Below _ _ _)
      go_wp2_with fail
      go_ret
      exact ⟨rfl, hB⟩

set_option maxHeartbeats 4000000 in
set_option maxRecDepth 100000 in
theorem part_leaf (vars kd n : Int) (cap : Nat) (ao : Option Addr) (w : World) (v0 : 0 ≤ vars) (v1 : vars ≤ 9223372036854775807) (hE : errX vars kd n 0 = 0) :
    Calls Try.prog 62 #[.agg #[.int .i64 kd, .int .i64 n, .slice ao 0 cap], .int .i64 vars] w fun e w' => e = .returned (.int .i64 0) ∧ Below w.heap.size w w' := by
  have KA := hide fun W => args_any kd W
  rcases errX_zero hE with ⟨rfl, c1, c2⟩ | ⟨rfl, c1, c2⟩ | ⟨_, _, c3⟩
  · have hbel : Below w.heap.size w (w.alloc (.cells #[.int .i64 1, .int .i64 n, .slice ao 0 cap] 24)) := (Below.refl _ w).alloc (Nat.le_refl _) _
    have e0 : (w.alloc (.cells #[.int .i64 1, .int .i64 n, .slice ao 0 cap] 24)).cell? ⟨w.heap.size, 0, none⟩ = some (.int .i64 1) := by simp [go_sem]
    have e1 : (w.alloc (.cells #[.int .i64 1, .int .i64 n, .slice ao 0 cap] 24)).cell? ⟨w.heap.size, 1, none⟩ = some (.int .i64 n) := by simp [go_sem]
    have e2 : (w.alloc (.cells #[.int .i64 1, .int .i64 n, .slice ao 0 cap] 24)).cell? ⟨w.heap.size, 2, none⟩ = some (.slice ao 0 cap) := by simp [go_sem]
    have ka : argsX 1 = 0 := rfl
    rw [ka] at KA
    clear hE ka
    have c3 : ¬ n < -9999999 := by omega
    have c4 : ¬ 9999999 < n := by omega
    go_enter Try.func62, Try.ntmps62
    go_wp2_with fail
    go_region_held3 (fun W => W.cell? ⟨w.heap.size, 0, none⟩ = some (.int .i64 1) ∧ W.cell? ⟨w.heap.size, 1, none⟩ = some (.int .i64 n) ∧ W.cell? ⟨w.heap.size, 2, none⟩ = some (.slice ao 0 cap) ∧ Below w.heap.size w W) (first | assumption | exact ⟨e0, e1, e2, below_drewN hbel 1⟩ | fail) (first | (go_at_call 96; refine (KA.out _).mono ?_; rintro e wp ⟨rfl, rfl⟩))
    obtain ⟨g0, g1, g2, hB⟩ := (by assumption : _ ∧ _ ∧ _ ∧ Below _ _ _)
    go_wp2_with fail
    go_loopw [67] (fun i wr => i = .int .i64 0 ∧ Below w.heap.size w wr) (fun _ _ => 0)
    case atStart => exact ⟨rfl, hB⟩
    case round =>
      obtain ⟨rfl, hB2⟩ := hrel
      go_wp2_with fail
      go_ret
      exact ⟨rfl, hB2⟩
  · have hbel : Below w.heap.size w (w.alloc (.cells #[.int .i64 2, .int .i64 n, .slice ao 0 cap] 24)) := (Below.refl _ w).alloc (Nat.le_refl _) _
    have e0 : (w.alloc (.cells #[.int .i64 2, .int .i64 n, .slice ao 0 cap] 24)).cell? ⟨w.heap.size, 0, none⟩ = some (.int .i64 2) := by simp [go_sem]
    have e1 : (w.alloc (.cells #[.int .i64 2, .int .i64 n, .slice ao 0 cap] 24)).cell? ⟨w.heap.size, 1, none⟩ = some (.int .i64 n) := by simp [go_sem]
    have e2 : (w.alloc (.cells #[.int .i64 2, .int .i64 n, .slice ao 0 cap] 24)).cell? ⟨w.heap.size, 2, none⟩ = some (.slice ao 0 cap) := by simp [go_sem]
    have ka : argsX 2 = 0 := rfl
    rw [ka] at KA
    clear hE ka
    have c3 : ¬ n < 0 := by omega
    have c4 : ¬ vars ≤ n := by omega
    go_enter Try.func62, Try.ntmps62
    go_wp2_with fail
    go_region_held3 (fun W => W.cell? ⟨w.heap.size, 0, none⟩ = some (.int .i64 2) ∧ W.cell? ⟨w.heap.size, 1, none⟩ = some (.int .i64 n) ∧ W.cell? ⟨w.heap.size, 2, none⟩ = some (.slice ao 0 cap) ∧ Below w.heap.size w W) (first | assumption | exact ⟨e0, e1, e2, below_drewN hbel 1⟩ | fail) (first | (go_at_call 96; refine (KA.out _).mono ?_; rintro e wp ⟨rfl, rfl⟩))
    obtain ⟨g0, g1, g2, hB⟩ := (by assumption : _ ∧ _ ∧ _ ∧ Below _ _ _)
    go_wp2_with fail
    go_loopw [67] (fun i wr => i = .int .i64 0 ∧ Below w.heap.size w wr) (fun _ _ => 0)
    case atStart => exact ⟨rfl, hB⟩
    case round =>
      obtain ⟨rfl, hB2⟩ := hrel
      go_wp2_with fail
      go_ret
      exact ⟨rfl, hB2⟩
  · omega
set_option maxHeartbeats 4000000 in
set_option maxRecDepth 100000 in
theorem part_any (vars : Int) (v0 : 0 ≤ vars) (v1 : vars ≤ 9223372036854775807) : ∀ (k : Nat) (cs : List Value) (d : D) (w : World), RX w k cs d →
    Calls Try.prog 62 #[.agg cs.toArray, .int .i64 vars] w fun e w' => e = .returned (.int .i64 (firstX vars (listX k d))) ∧ Below w.heap.size w w' := by
  intro k
  induction k with
  | zero => intro cs d w h; exact h.elim
  | succ k ih =>
    intro cs d w h
    obtain ⟨kd, n, v, ds, rfl, rfl, hkd, hn, hlen, ao, cap, rfl, hc⟩ := h
    have hspec : firstX vars (listX (k + 1) (xD kd n ds)) = if errX vars kd n ds.length = 0 then restX vars k ds else errX vars kd n ds.length := by
      rw [restX_flat]
      rfl
    rw [hspec]
    show Calls Try.prog 62 #[.agg #[.int .i64 kd, .int .i64 n, .slice ao ds.length cap], .int .i64 vars] w _
    by_cases hE : errX vars kd n ds.length = 0
    · rw [if_pos hE]
      have hz := errX_zero hE
      cases ds with
      | nil => exact part_leaf vars kd n cap ao w v0 v1 hE
      | cons d0 dr =>
        have hk3 : 3 ≤ kd ∧ kd ≤ 7 ∧ (d0 :: dr).length = 2 ∧ n = 0 := by
          rcases hz with ⟨rfl, _, _⟩ | ⟨rfl, _, _⟩ | ⟨z1, z2, z3⟩
          · exfalso
            unfold errX at hE
            rw [if_neg (by omega), if_pos (by simp)] at hE
            omega
          · exfalso
            unfold errX at hE
            rw [if_neg (by omega), if_pos (by simp)] at hE
            omega
          · refine ⟨z1, z2, z3, ?_⟩
            rw [z3] at hE
            unfold errX at hE
            rw [if_neg (by omega), if_neg (by omega)] at hE
            by_cases q : n = 0
            · exact q
            · rw [if_pos (by omega)] at hE
              omega
        obtain ⟨k1, k2, z3, rfl⟩ := hk3
        obtain ⟨ds, hds⟩ : ∃ q, q = d0 :: dr := ⟨_, rfl⟩
        rw [← hds] at hc z3 ⊢
        rw [z3]
        have HC := hide hc
        have IH := hide ih
        have KA := hide fun W => args_any kd W
        have ka : argsX kd = 2 := by unfold argsX; rw [if_neg (by omega)]
        rw [ka] at KA
        have hbel : Below w.heap.size w (w.alloc (.cells #[.int .i64 kd, .int .i64 0, .slice ao 2 cap] 24)) := (Below.refl _ w).alloc (Nat.le_refl _) _
        have e0 : (w.alloc (.cells #[.int .i64 kd, .int .i64 0, .slice ao 2 cap] 24)).cell? ⟨w.heap.size, 0, none⟩ = some (.int .i64 kd) := by simp [go_sem]
        have e1 : (w.alloc (.cells #[.int .i64 kd, .int .i64 0, .slice ao 2 cap] 24)).cell? ⟨w.heap.size, 1, none⟩ = some (.int .i64 0) := by simp [go_sem]
        have e2 : (w.alloc (.cells #[.int .i64 kd, .int .i64 0, .slice ao 2 cap] 24)).cell? ⟨w.heap.size, 2, none⟩ = some (.slice ao 2 cap) := by simp [go_sem]
        have n1 : kd ≠ 1 := by omega
        have n2 : kd ≠ 2 := by omega
        obtain ⟨R, hR⟩ : ∃ q, q = restX vars k ds := ⟨_, rfl⟩
        have HR := hide hR
        have HZ := hide z3
        rw [← hR]
        clear hc ih hspec hE hz hlen hkd hn ka hds z3 hR
        go_enter Try.func62, Try.ntmps62
        go_wp2_with fail
        go_region_held3 (fun W => W.cell? ⟨w.heap.size, 0, none⟩ = some (.int .i64 kd) ∧ W.cell? ⟨w.heap.size, 1, none⟩ = some (.int .i64 0) ∧ W.cell? ⟨w.heap.size, 2, none⟩ = some (.slice ao 2 cap) ∧ Below w.heap.size w W) (first | assumption | exact ⟨e0, e1, e2, below_drewN hbel 1⟩ | fail) (first | (go_at_call 96; refine (KA.out _).mono ?_; rintro e wp ⟨rfl, rfl⟩))
        obtain ⟨g0, g1, g2, hB⟩ := (by assumption : _ ∧ _ ∧ _ ∧ Below _ _ _)
        go_wp2_with fail
        go_loopw [67] (fun i wr => ∃ (j : Nat), j ≤ 2 ∧ i = .int .i64 j ∧ R = restX vars k (ds.drop j) ∧ Below w.heap.size w wr) (fun i _ => 2 - (intOf i).toNat)
        case atStart => exact ⟨0, Nat.zero_le _, rfl, HR.out, hB⟩
        case round =>
          clear hB g0 g1 g2
          obtain ⟨j, hj, rfl, hp, hB⟩ := hrel
          have HP := hide hp
          clear hp
          by_cases hjl : j < 2
          · have hjd : j < ds.length := by rw [HZ.out]; exact hjl
            obtain ⟨b, off, rfl, hcl⟩ := HC.out (by rintro rfl; simp at hjd)
            obtain ⟨cs, hl3, hcs, hr⟩ := hcl j ds[j] (List.getElem?_eq_getElem hjd)
            obtain ⟨ao', cap', hcse⟩ := hr.form
            have hnext := restX_drop (vars := vars) (k := k) hjd
            obtain ⟨dj, hdj⟩ : ∃ dj, dj = ds[j] := ⟨_, rfl⟩
            rw [← hdj] at hnext hr hcse
            obtain ⟨kj, hkj⟩ : ∃ q, q = kindOf dj := ⟨_, rfl⟩
            obtain ⟨nj, hnj⟩ : ∃ q, q = numOf dj := ⟨_, rfl⟩
            obtain ⟨lj, hlj⟩ : ∃ q, q = (argsOf dj).length := ⟨_, rfl⟩
            rw [← hkj, ← hnj, ← hlj] at hcse
            subst hcse
            have q0 : wr.cell? ⟨b, off + j * 3, none⟩ = _ := cell_over hB _ _ (hcs 0 _ rfl)
            have q1 := cell_over hB _ _ (hcs 1 _ rfl)
            have q2 := cell_over hB _ _ (hcs 2 _ rfl)
            have hba : Below wr.heap.size wr (wr.alloc (.cells #[.int .i64 kj, .int .i64 nj, .slice ao' lj cap'] 24)) := (Below.refl _ wr).alloc (Nat.le_refl _) _
            have hBa : Below w.heap.size w (wr.alloc (.cells #[.int .i64 kj, .int .i64 nj, .slice ao' lj cap'] 24)) := hB.trans (hba.mono hB.size)
            have hcall := IH.out _ dj _ (hr.over hBa)
            obtain ⟨r, hre⟩ : ∃ r, r = firstX vars (listX k dj) := ⟨_, rfl⟩
            rw [← hre] at hcall hnext
            have HCALL := hide hcall
            have HN := hide hnext
            clear hcall hnext hre hkj hnj hlj hr hcs hcl hl3 hdj hjd
            by_cases hr0 : r = 0
            · subst hr0
              go_wp2_with fail
              refine (HCALL.out).mono ?_
              rintro e w1 ⟨rfl, hb1⟩
              have hB' : Below w.heap.size w w1 := hBa.trans (hb1.mono hBa.size)
              clear q0 q1 q2 hB hb1 HCALL hba hBa
              go_wp2_with fail
              exact ⟨⟨j + 1, by omega, by go_num, by rw [HP.out, HN.out]; rfl, hB'⟩, by simp [intOf]; omega⟩
            · have hd : R = r := by rw [HP.out, HN.out, if_neg hr0]
              subst hd
              clear HP HN HR
              go_wp2_with fail
              refine (HCALL.out).mono ?_
              rintro e w1 ⟨rfl, hb1⟩
              have hB' : Below w.heap.size w w1 := hBa.trans (hb1.mono hBa.size)
              clear q0 q1 q2 hB hb1 HCALL hba hBa
              go_wp2_with fail
              go_ret
              exact ⟨rfl, hB'⟩
          · have hd : R = 0 := by
              rw [HP.out, List.drop_eq_nil_of_le (by rw [HZ.out]; omega)]
              rfl
            subst hd
            clear HP HR
            go_wp2_with fail
            go_ret
            exact ⟨rfl, hB⟩
    · rw [if_neg hE]
      exact part_head vars kd n ds.length cap ao w v0 v1 hlen hkd hn hE

set_option maxHeartbeats 1000000 in
set_option maxRecDepth 100000 in
theorem check_any (k : Nat) (cs : List Value) (d : D) (w : World) (vars : Int) (v0 : 0 ≤ vars) (v1 : vars ≤ 9223372036854775807) (h : RX w k cs d) :
    Calls Try.prog 23 #[.agg cs.toArray, .int .i64 vars] w fun e w' => e = .returned (.int .i64 (checkX vars k d)) ∧ Below w.heap.size w w' := by
  have K1 := hide fun W hB => left_any k cs d W 15 (h.over hB) (by omega) (by omega)
  have K2 := hide fun W hB => part_any vars v0 v1 k cs d W (h.over hB)
  obtain ⟨ao, cap, rfl⟩ := h.form
  obtain ⟨kd, hkd⟩ : ∃ q, q = kindOf d := ⟨_, rfl⟩
  obtain ⟨n, hn⟩ : ∃ q, q = numOf d := ⟨_, rfl⟩
  obtain ⟨dl, hdl⟩ : ∃ q, q = (argsOf d).length := ⟨_, rfl⟩
  rw [← hkd, ← hn, ← hdl] at K1 K2 ⊢
  clear hkd hn hdl
  obtain ⟨p, hp⟩ : ∃ q, q = partsX k d 15 := ⟨_, rfl⟩
  have hspec : checkX vars k d = if 15 < p then 2 else firstX vars (listX k d) := by rw [hp]; rfl
  rw [← hp] at K1
  have hple := partsX_le k d 15 (by omega)
  rw [← hp] at hple
  obtain ⟨z, hz⟩ : ∃ z, z = 15 - p := ⟨_, rfl⟩
  rw [← hz] at K1
  clear hp
  have e0 : (w.alloc (.cells #[.int .i64 kd, .int .i64 n, .slice ao dl cap] 24)).cell? ⟨w.heap.size, 0, none⟩ = some (.int .i64 kd) := by simp [go_sem]
  have e1 : (w.alloc (.cells #[.int .i64 kd, .int .i64 n, .slice ao dl cap] 24)).cell? ⟨w.heap.size, 1, none⟩ = some (.int .i64 n) := by simp [go_sem]
  have e2 : (w.alloc (.cells #[.int .i64 kd, .int .i64 n, .slice ao dl cap] 24)).cell? ⟨w.heap.size, 2, none⟩ = some (.slice ao dl cap) := by simp [go_sem]
  have hbel : Below w.heap.size w (w.alloc (.cells #[.int .i64 kd, .int .i64 n, .slice ao dl cap] 24)) := (Below.refl _ w).alloc (Nat.le_refl _) _
  by_cases hq : 15 < p
  · rw [hspec, if_pos hq]
    have hneg : z < 0 := by omega
    clear hspec K2 hq hz hple
    show Calls Try.prog 23 #[.agg #[.int .i64 kd, .int .i64 n, .slice ao dl cap], .int .i64 vars] w _
    go_enter Try.func23, Try.ntmps23
    go_wp2_with fail
    refine (K1.out _ hbel).mono ?_
    rintro e w1 ⟨rfl, hb1⟩
    have hB1 : Below w.heap.size w w1 := hbel.trans (hb1.mono hbel.size)
    clear hb1 K1
    go_wp2_with fail
    go_ret
    exact ⟨rfl, hB1⟩
  · rw [hspec, if_neg hq]
    have hneg : ¬ z < 0 := by omega
    obtain ⟨R, hR⟩ : ∃ q, q = firstX vars (listX k d) := ⟨_, rfl⟩
    rw [← hR] at K2 ⊢
    clear hspec hq hR hz hple
    show Calls Try.prog 23 #[.agg #[.int .i64 kd, .int .i64 n, .slice ao dl cap], .int .i64 vars] w _
    go_enter Try.func23, Try.ntmps23
    go_wp2_with fail
    refine (K1.out _ hbel).mono ?_
    rintro e w1 ⟨rfl, hb1⟩
    have hB1 : Below w.heap.size w w1 := hbel.trans (hb1.mono hbel.size)
    have g0 := cell_over hb1 _ _ e0
    have g1 := cell_over hb1 _ _ e1
    have g2 := cell_over hb1 _ _ e2
    clear hb1 K1 e0 e1 e2
    go_wp2_with fail
    refine (K2.out _ hB1).mono ?_
    rintro e w2 ⟨rfl, hb2⟩
    have hB2 : Below w.heap.size w w2 := hB1.trans (hb2.mono hB1.size)
    clear hb2 K2
    go_wp2_with fail
    go_ret
    exact ⟨rfl, hB2⟩
set_option maxHeartbeats 1000000 in
theorem mustAt_ok (at' why : Int) (w : World) : Calls Try.prog 136 #[.int .i64 at', .bool true, .int .i64 why] w fun e w' => e = .returned (.tuple #[]) ∧ w' = w := by
  go_enter Try.func136, Try.ntmps136
  go_wp2_with fail
  go_end0
  exact ⟨rfl, rfl⟩

set_option maxHeartbeats 1000000 in
theorem must_ok (why : Int) (w : World) : Calls Try.prog 108 #[.bool true, .int .i64 why] w fun e w' => e = .returned (.tuple #[]) ∧ w' = w := by
  have K := hide fun W => mustAt_ok 0 why W
  go_enter Try.func108, Try.ntmps108
  go_wp2_with fail
  refine (K.out _).mono ?_
  rintro e w1 ⟨rfl, rfl⟩
  go_wp2_with fail
  go_end0
  exact ⟨rfl, rfl⟩

set_option maxHeartbeats 1000000 in
theorem pass_ok (w : World) : Calls Try.prog 107 #[.int .i64 0] w fun e w' => e = .returned (.tuple #[]) ∧ w' = w := by
  have K := hide fun W => must_ok 0 W
  go_enter Try.func107, Try.ntmps107
  go_wp2_with fail
  refine (K.out _).mono ?_
  rintro e w1 ⟨rfl, rfl⟩
  go_wp2_with fail
  go_end0
  exact ⟨rfl, rfl⟩

set_option maxHeartbeats 1000000 in
theorem isOneOf_any (x m : Int) (w : World) : Calls Try.prog 109 #[.int .i64 x, .int .i64 m] w fun e w' => e = .returned (.bool (decide (0 ≤ x ∧ x < m))) ∧ w' = w := by
  by_cases h1 : 0 ≤ x
  · by_cases h2 : x < m
    · go_enter Try.func109, Try.ntmps109
      go_wp2
      go_ret
      exact ⟨by simp; omega, rfl⟩
    · go_enter Try.func109, Try.ntmps109
      go_wp2
      go_ret
      exact ⟨by simp; omega, rfl⟩
  · go_enter Try.func109, Try.ntmps109
    go_wp2
    go_ret
    exact ⟨by simp; omega, rfl⟩

theorem over_trans {w0 w1 w2 : World} (h : Below w0.heap.size w0 w1) (h2 : Below w1.heap.size w1 w2) : Below w0.heap.size w0 w2 := h.trans (h2.mono h.size)
end Go.Proofs.Ytcbbjjenkommeaa.Ex
namespace Go.Proofs.Ytcbbjjenkommeaa
open Go.RowKit
set_option linter.unusedVariables false
/-- whom one acts for. -/
def Reach (gs : List (Nat × Nat)) (w k : Nat) : Prop := ∀ S : Nat → Prop, S w → (∀ g ∈ gs, S g.1 → S g.2) → S k

theorem reach_self (gs : List (Nat × Nat)) (w : Nat) : Reach gs w w := fun _ h _ => h
theorem reach_step {gs : List (Nat × Nat)} {w : Nat} {g : Nat × Nat} (hg : g ∈ gs) (h : Reach gs w g.1) : Reach gs w g.2 := fun S h0 hS => hS g hg (h S h0 hS)
/-- those known so far are all reached, and one is known. -/
def Sound (gs : List (Nat × Nat)) (w : Nat) (l : List Bool) : Prop := l[w]? = some true ∧ ∀ k : Nat, l[k]? = some true → Reach gs w k
def Closed (gs : List (Nat × Nat)) (l : List Bool) : Prop := ∀ g ∈ gs, l[g.1]? = some true → l[g.2]? = some true

theorem sound_set {gs : List (Nat × Nat)} {w : Nat} {l : List Bool} {g : Nat × Nat} (h : Sound gs w l) (hg : g ∈ gs) (hk : l[g.1]? = some true) : Sound gs w (l.set g.2 true) := by
  refine ⟨?_, fun k hk2 => ?_⟩
  · rw [List.getElem?_set]
    split
    · split
      · rfl
      · rename_i e h1
        subst e
        have h0 := h.1
        rw [List.getElem?_eq_none (by omega)] at h0
        cases h0
    · exact h.1
  · rw [List.getElem?_set] at hk2
    split at hk2
    · rename_i e
      subst e
      exact reach_step hg (h.2 _ hk)
    · exact h.2 k hk2

theorem known_iff {gs : List (Nat × Nat)} {w : Nat} {l : List Bool} (h : Sound gs w l) (hc : Closed gs l) (k : Nat) : l[k]? = some true ↔ Reach gs w k :=
  ⟨fun e => h.2 k e, fun hr => hr (fun k => l[k]? = some true) h.1 hc⟩

theorem known_one {gs : List (Nat × Nat)} {w : Nat} {l m : List Bool} (h : Sound gs w l) (hc : Closed gs l) (h2 : Sound gs w m) (hc2 : Closed gs m) (hl : l.length = m.length) : l = m := by
  apply List.ext_getElem? 
  intro k
  have e := (known_iff h hc k).trans (known_iff h2 hc2 k).symm
  by_cases hk : k < l.length
  · have hk2 : k < m.length := by omega
    rw [List.getElem?_eq_getElem hk, List.getElem?_eq_getElem hk2] at e ⊢
    simp only [Option.some.injEq] at e ⊢
    exact Bool.eq_iff_iff.2 e
  · rw [List.getElem?_eq_none (by omega), List.getElem?_eq_none (by omega)]

/-- one round over all grants. -/
def stepG (l : List Bool) (g : Nat × Nat) : List Bool := if l[g.1]? = some true then l.set g.2 true else l
def pass (gs : List (Nat × Nat)) (l : List Bool) : List Bool := gs.foldl stepG l

theorem stepG_length (l : List Bool) (g : Nat × Nat) : (stepG l g).length = l.length := by
  unfold stepG; split <;> simp
theorem pass_length (gs : List (Nat × Nat)) (l : List Bool) : (pass gs l).length = l.length := by
  unfold pass
  induction gs generalizing l with
  | nil => rfl
  | cons g gs ih => rw [List.foldl_cons, ih, stepG_length]

theorem stepG_count (l : List Bool) (g : Nat × Nat) : stepG l g = l ∨ l.count true < (stepG l g).count true := by
  unfold stepG
  split
  · by_cases h : g.2 < l.length
    · by_cases hb : l[g.2] = true
      · left
        rw [← hb]
        exact List.set_getElem_self h
      · right
        have hb' : l[g.2] = false := by simpa using hb
        rw [List.count_set h]
        rw [hb']
        simp
    · left
      exact List.set_eq_of_length_le (by omega)
  · exact Or.inl rfl

theorem pass_count (gs : List (Nat × Nat)) (l : List Bool) : (pass gs l = l ∧ ∀ g ∈ gs, stepG l g = l) ∨ l.count true < (pass gs l).count true := by
  unfold pass
  induction gs generalizing l with
  | nil => exact Or.inl ⟨rfl, by simp⟩
  | cons g gs ih =>
    rw [List.foldl_cons]
    rcases stepG_count l g with h | h
    · rw [h]
      rcases ih l with ⟨h1, h2⟩ | h1
      · left
        refine ⟨h1, fun g' hg' => ?_⟩
        rcases List.mem_cons.1 hg' with rfl | hg'
        · exact h
        · exact h2 g' hg'
      · exact Or.inr h1
    · right
      rcases ih (stepG l g) with ⟨h1, _⟩ | h1
      · rw [h1]; exact h
      · omega

theorem closed_of_steps {gs : List (Nat × Nat)} {l : List Bool} (hb : ∀ g ∈ gs, g.2 < l.length) (h : ∀ g ∈ gs, stepG l g = l) : Closed gs l := fun g hg hk => by
  have := h g hg
  unfold stepG at this
  rw [if_pos hk] at this
  rw [← this, List.getElem?_set_self (hb g hg)]

theorem pass_sound {gs hs : List (Nat × Nat)} {w : Nat} {l : List Bool} (h : Sound gs w l) (hm : ∀ g ∈ hs, g ∈ gs) : Sound gs w (pass hs l) := by
  unfold pass
  induction hs generalizing l with
  | nil => exact h
  | cons g hs ih =>
    rw [List.foldl_cons]
    refine ih ?_ fun g' hg' => hm g' (List.mem_cons_of_mem _ hg')
    unfold stepG
    split
    · rename_i hk
      exact sound_set h (hm g (by simp)) hk
    · exact h

def passes (gs : List (Nat × Nat)) : Nat → List Bool → List Bool
  | 0, l => l
  | n + 1, l => pass gs (passes gs n l)

theorem passes_length (gs : List (Nat × Nat)) (n : Nat) (l : List Bool) : (passes gs n l).length = l.length := by
  induction n with
  | zero => rfl
  | succ n ih => rw [passes, pass_length, ih]

theorem passes_sound {gs : List (Nat × Nat)} {w n : Nat} {l : List Bool} (h : Sound gs w l) : Sound gs w (passes gs n l) := by
  induction n with
  | zero => exact h
  | succ n ih => exact pass_sound ih fun _ h => h

theorem passes_count (gs : List (Nat × Nat)) (n : Nat) (l : List Bool) (hb : ∀ g ∈ gs, g.2 < l.length) : Closed gs (passes gs n l) ∨ l.count true + n ≤ (passes gs n l).count true := by
  induction n with
  | zero => right; simp [passes]
  | succ n ih =>
    rw [passes]
    have hb' : ∀ g ∈ gs, g.2 < (passes gs n l).length := by rw [passes_length]; exact hb
    rcases pass_count gs (passes gs n l) with ⟨h1, h2⟩ | h1
    · left
      rw [h1]
      exact closed_of_steps hb' h2
    · rcases ih with ih | ih
      · left
        have hst : ∀ g ∈ gs, stepG (passes gs n l) g = passes gs n l := fun g hg => by
          unfold stepG
          split
          · rename_i hk
            have := ih g hg hk
            obtain ⟨hl, he⟩ := List.getElem?_eq_some_iff.1 this
            rw [← he]
            exact List.set_getElem_self hl
          · rfl
        have : pass gs (passes gs n l) = passes gs n l := by
          generalize passes gs n l = m at hst
          unfold pass
          clear h1 ih hb hb'
          induction gs with
          | nil => rfl
          | cons g gs ih2 =>
            rw [List.foldl_cons, hst g (by simp)]
            exact ih2 fun g' hg' => hst g' (List.mem_cons_of_mem _ hg')
        rw [this]
        exact ih
      · right; omega

theorem passes_closed {gs : List (Nat × Nat)} {w : Nat} {l : List Bool} (h : Sound gs w l) (hb : ∀ g ∈ gs, g.2 < l.length) : Closed gs (passes gs l.length l) := by
  rcases passes_count gs l.length l hb with h1 | h1
  · exact h1
  · have h2 := List.count_le_length (a := true) (l := passes gs l.length l)
    rw [passes_length] at h2
    have h3 : 0 < l.count true := List.count_pos_iff.2 (List.mem_of_getElem? h.1)
    omega

/-- none is known but one. -/
def start (n w : Nat) : List Bool := (List.replicate n false).set w true
theorem start_sound (gs : List (Nat × Nat)) {n w : Nat} (h : w < n) : Sound gs w (start n w) := by
  unfold start
  refine ⟨by rw [List.getElem?_set_self (by simpa using h)], fun k hk => ?_⟩
  rw [List.getElem?_set] at hk
  split at hk
  · rename_i e; subst e; exact reach_self _ _
  · rw [List.getElem?_replicate] at hk
    split at hk <;> cases hk

/-- whom one acts for, of so many. -/
def acts (gs : List (Nat × Nat)) (n w : Nat) : List Bool := passes gs n (start n w)

theorem start_length (n w : Nat) : (start n w).length = n := by simp [start]

theorem acts_length (gs : List (Nat × Nat)) (n w : Nat) : (acts gs n w).length = n := by rw [acts, passes_length, start_length]
theorem acts_sound (gs : List (Nat × Nat)) {n w : Nat} (h : w < n) : Sound gs w (acts gs n w) := passes_sound (start_sound gs h)
theorem acts_closed {gs : List (Nat × Nat)} {n w : Nat} (h : w < n) (hb : ∀ g ∈ gs, g.2 < n) : Closed gs (acts gs n w) := by
  have := passes_closed (gs := gs) (start_sound gs h) (by rw [start_length]; exact hb)
  rw [start_length] at this
  exact this
theorem acts_one {gs : List (Nat × Nat)} {n w : Nat} (h : w < n) (hb : ∀ g ∈ gs, g.2 < n) {l : List Bool} (hl : l.length = n) (h1 : Sound gs w l) (h2 : Closed gs l) : l = acts gs n w :=
  known_one h1 h2 (acts_sound gs h) (acts_closed h hb) (by rw [hl, acts_length])
theorem hide {p : Prop} (h : p) : Hid p := h

theorem bcell {W w1 : World} (hb : Below W.heap.size W w1) : (∀ b o, b < W.heap.size → w1.cell? ⟨b, o, none⟩ = W.cell? ⟨b, o, none⟩) ∧ (∀ b o, b < W.heap.size → w1.frozen? ⟨b, o, none⟩ = W.frozen? ⟨b, o, none⟩) :=
  ⟨fun b o h => hb.cell (p := ⟨b, o, none⟩) h, fun b o h => hb.frozen (p := ⟨b, o, none⟩) h⟩

def isOne (m x : Int) : Bool := decide (0 ≤ x ∧ x < m)

set_option maxHeartbeats 400000 in
theorem isOne_any (m x : Int) (s : Value) (w : World) :
    Calls Try.prog 121 #[.agg #[.int .i64 m, s], .int .i64 x] w fun e w' => e = .returned (.bool (isOne m x)) ∧ Below w.heap.size w w' := by
  have hbel : Below w.heap.size w (w.alloc (.cells #[.int .i64 m, s] 35)) := (Below.refl _ w).alloc (Nat.le_refl _) _
  by_cases h1 : (0 : Int) ≤ x
  · by_cases h2 : x < m
    · go_enter Try.func121, Try.ntmps121
      go_wp2
      go_ret
      exact ⟨by simp [isOne]; omega, hbel⟩
    · go_enter Try.func121, Try.ntmps121
      go_wp2
      go_ret
      exact ⟨by simp [isOne]; omega, hbel⟩
  · go_enter Try.func121, Try.ntmps121
    go_wp2
    go_ret
    exact ⟨by simp [isOne]; omega, hbel⟩

/-- a slice that holds grants. -/
def IsGrants (w : World) (v : Value) (gs : List (Int × Int)) : Prop :=
  ∃ ao cap, v = .slice ao gs.length cap ∧ (gs ≠ [] → ∃ b off, ao = some ⟨b, off, none⟩ ∧ ∀ i (h : i < gs.length), w.cell? ⟨b, off + i * 2, none⟩ = some (.int .i64 gs[i].1) ∧ w.cell? ⟨b, off + i * 2 + 1, none⟩ = some (.int .i64 gs[i].2))

theorem isGrants_over {w w' : World} {v : Value} {gs : List (Int × Int)} (h : IsGrants w v gs) (hb : Below w.heap.size w w') : IsGrants w' v gs := by
  obtain ⟨ao, cap, rfl, hc⟩ := h
  refine ⟨ao, cap, rfl, fun hne => ?_⟩
  obtain ⟨b, off, rfl, hcl⟩ := hc hne
  refine ⟨b, off, rfl, fun i hi => ?_⟩
  obtain ⟨h1, h2⟩ := hcl i hi
  have hlt := World.block_lt_of_cell? w _ h1
  exact ⟨by rw [(bcell hb).1 _ _ hlt]; exact h1, by rw [(bcell hb).1 _ _ hlt]; exact h2⟩

/-- where the first is of which something holds; none: -1. -/
def idxOf (p : Int × Int → Bool) (gs : List (Int × Int)) : Int := match gs.findIdx? p with | some i => i | none => -1

theorem idxOf_at {p : Int × Int → Bool} {gs : List (Int × Int)} {k : Nat} (hk : k < gs.length) (h : (gs.take k).all (fun g => !p g) = true) (hp : p gs[k] = true) : idxOf p gs = k := by
  have : gs.findIdx? p = some k := by
    rw [List.findIdx?_eq_some_iff_getElem]
    refine ⟨hk, hp, fun j hj => ?_⟩
    have := List.all_eq_true.1 h gs[j] (by rw [List.mem_take_iff_getElem]; exact ⟨j, by omega, rfl⟩)
    simpa using this
  simp [idxOf, this]
theorem idxOf_none {p : Int × Int → Bool} {gs : List (Int × Int)} (h : gs.all (fun g => !p g) = true) : idxOf p gs = -1 := by
  have : gs.findIdx? p = none := by
    rw [List.findIdx?_eq_none_iff]
    intro x hx
    have := List.all_eq_true.1 h x hx
    simpa using this
  simp [idxOf, this]

set_option maxHeartbeats 1000000 in
theorem indexFunc_any (F : FuncId) (cv : Value) (p : Int × Int → Bool) (v : Value) (gs : List (Int × Int)) (w : World) (hv : IsGrants w v gs) (hn : gs.length ≤ 20)
    (hF : Hid (∀ (i : Nat) (h : i < gs.length) (w1 : World), Below w.heap.size w w1 → Calls Try.prog F #[.agg #[.int .i64 gs[i].1, .int .i64 gs[i].2], cv] w1 fun e w2 => e = .returned (.bool (p gs[i])) ∧ Below w1.heap.size w1 w2))
    (hC : ∀ (args : Array Value) (w : World), (callFunc F args).run Try.prog w = .ok (.enter F args) w) :
    Calls Try.prog 146 #[v, .func (.func F) #[] #[cv]] w fun e w' => e = .returned (.int .i64 (idxOf p gs)) ∧ Below w.heap.size w w' := by
  obtain ⟨ao, cap, rfl, hcc⟩ := hv
  go_enter Try.func146, Try.ntmps146
  go_wp2_with fail
  go_loopw [8] (fun i wr => ∃ k : Nat, k ≤ gs.length ∧ i = .int .i64 k ∧ (gs.take k).all (fun g => !p g) = true ∧ Below w.heap.size w wr) (fun i _ => gs.length - (intOf i).toNat)
  case atStart => exact ⟨0, Nat.zero_le _, rfl, rfl, Below.refl _ w⟩
  case round =>
    obtain ⟨k, hk, rfl, hall, hbel⟩ := hrel
    by_cases hkl : k < gs.length
    · obtain ⟨b, off, rfl, hcl⟩ := hcc (by rintro rfl; simp at hkl)
      obtain ⟨q0, q1⟩ := hcl k hkl
      have hlt := World.block_lt_of_cell? w _ q0
      rw [← (bcell hbel).1 _ _ hlt] at q0 q1
      have hcall := hF.out k hkl
      have hat := fun (hp : p gs[k] = true) => idxOf_at hkl hall hp
      have htk : p gs[k] = false → (gs.take (k + 1)).all (fun g => !p g) = true := fun hp => by
        rw [List.take_succ_eq_append_getElem hkl, List.all_append, hall]
        simp [hp]
      obtain ⟨r, hr⟩ : ∃ r, r = p gs[k] := ⟨_, rfl⟩
      obtain ⟨g0, hg0⟩ : ∃ r, r = gs[k].1 := ⟨_, rfl⟩
      obtain ⟨g1, hg1⟩ : ∃ r, r = gs[k].2 := ⟨_, rfl⟩
      rw [← hr] at hcall hat htk
      rw [← hg0] at q0 hcall
      rw [← hg1] at q1 hcall
      have HC := hide hcall
      have HA := hide hat
      have HT := hide htk
      clear hr hg0 hg1 hcall hat htk hcl hcc hF
      cases r with
      | true =>
        go_wp2_with fail
        refine (HC.out _ hbel).mono ?_
        rintro e w2 ⟨rfl, hb2⟩
        have hbel2 : Below w.heap.size w w2 := hbel.trans (hb2.mono hbel.size)
        go_wp2_with fail
        go_ret
        exact ⟨by rw [HA.out (by first | rfl | trivial)]; rfl, hbel2⟩
      | false =>
        go_wp2_with fail
        refine (HC.out _ hbel).mono ?_
        rintro e w2 ⟨rfl, hb2⟩
        have hbel2 : Below w.heap.size w w2 := hbel.trans (hb2.mono hbel.size)
        go_wp2_with fail
        exact ⟨⟨k + 1, by omega, by go_num, HT.out (by first | rfl | trivial), hbel2⟩, by simp [intOf]; omega⟩
    · have hke : k = gs.length := by omega
      rw [hke, List.take_length] at hall
      have hx := idxOf_none hall
      clear hall hcc hF
      go_wp2_with fail
      go_ret
      exact ⟨by rw [hx]; rfl, hbel⟩
end Go.Proofs.Ytcbbjjenkommeaa
