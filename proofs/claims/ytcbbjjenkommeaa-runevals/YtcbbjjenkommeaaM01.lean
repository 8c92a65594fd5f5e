/- Expressions of a program in memory, as plain data; what was handed in lies so. -/
import Derived.Test.YtcbbjjenkommeaaRows
import Derived.RowKit
import Derived.ProofKit
import Derived.OpenShut
import Derived.Deep.Strs
import Derived.Lib.SmallJoins
import Derived.WalkKit
import Derived.WalkSpells
import Derived.WalkLawsBesides
import Derived.WalkSmall
import Derived.Deep.RegionHeld3
import Derived.Deep.AppendLies
import Derived.OwnWalk
namespace Go.Proofs.Ytcbbjjenkommeaa.Ex
open Go.RowKit Go.ChangeShapes Go.WideShapes
set_option linter.unusedVariables false
theorem Try.cellsX : Try.prog.cellsOf 24 = 3 := by kernel_rfl
theorem Try.cellsXs : Try.prog.cellsOf 22 = 1 := by kernel_rfl
theorem Try.cellsI : Try.prog.cellsOf 3 = 1 := by kernel_rfl

abbrev D := DataW Empty
def xD (k n : Int) (args : List D) : D := .agg [.lit (.int .i64 k), .lit (.int .i64 n), .slice args []]

/-- a list lies in memory, each element by itself. -/
def XS (size : Nat) (R : List Value → D → Prop) (w : World) (v : Value) (ds : List D) : Prop :=
  ds.length ≤ maxLen ∧ ∃ ao cap, v = .slice ao ds.length cap ∧ (ds ≠ [] → ∃ b off, ao = some ⟨b, off, none⟩ ∧
    ∀ (i : Nat) (d : D), ds[i]? = some d → ∃ cs : List Value, cs.length = size ∧ (∀ (j : Nat) (u : Value), cs[j]? = some u → w.cell? ⟨b, off + i * size + j, none⟩ = some u) ∧ R cs d)

def In64 (n : Int) : Prop := -9223372036854775808 ≤ n ∧ n ≤ 9223372036854775807

theorem wf64 {n : Int} (h : (Lit.int .i64 n).wf = true) : In64 n := by
  have h2 : (decide (IntKind.i64.min ≤ n) && decide (n ≤ IntKind.i64.max)) = true := h
  rw [Bool.and_eq_true, decide_eq_true_iff, decide_eq_true_iff] at h2
  exact h2

/-- an expression, so deep at most. -/
def RX (w : World) : Nat → List Value → D → Prop
  | 0, _, _ => False
  | k + 1, cs, d => ∃ (kd n : Int) (v : Value) (ds : List D), cs = [.int .i64 kd, .int .i64 n, v] ∧ d = xD kd n ds ∧ In64 kd ∧ In64 n ∧ XS 3 (RX w k) w v ds

theorem XS.mono {size : Nat} {R R' : List Value → D → Prop} {w w' : World} {v : Value} {ds : List D} (h : XS size R w v ds)
    (hw : ∀ a u, w.cell? a = some u → w'.cell? a = some u) (hR : ∀ cs d, d ∈ ds → R cs d → R' cs d) : XS size R' w' v ds := by
  obtain ⟨hm, ao, cap, hv, hc⟩ := h
  refine ⟨hm, ao, cap, hv, fun hne => ?_⟩
  obtain ⟨b, off, hao, hel⟩ := hc hne
  refine ⟨b, off, hao, fun i d hd => ?_⟩
  obtain ⟨cs, hl, hcs, hr⟩ := hel i d hd
  exact ⟨cs, hl, fun j u hu => hw _ _ (hcs j u hu), hR cs d (List.mem_of_getElem? hd) hr⟩

theorem RX.mono {w w' : World} (hw : ∀ a u, w.cell? a = some u → w'.cell? a = some u) :
    ∀ (k m : Nat) (cs : List Value) (d : D), k ≤ m → RX w k cs d → RX w' m cs d := by
  intro k
  induction k with
  | zero => intro m cs d _ h; exact h.elim
  | succ k ih =>
    intro m cs d hkm h
    obtain ⟨m', rfl⟩ : ∃ m', m = m' + 1 := ⟨m - 1, by omega⟩
    obtain ⟨kd, n, v, ds, hcs, hd, h1, h2, hr⟩ := h
    exact ⟨kd, n, v, ds, hcs, hd, h1, h2, hr.mono hw (fun cs d _ hh => ih m' cs d (by omega) hh)⟩

set_option maxRecDepth 100000 in
theorem open_expr {H : Type} {enc : TypeId × Value → H} {W : World} : ∀ (fuel : Nat) (cs : List Value) (x : DataW H × List MemPlace), DataW.trod enc Try.prog W 0 (fun _ => true) true fuel 24 cs = some x → ∃ d, RX W fuel cs d := by
  intro fuel
  induction fuel using Nat.strongRecOn with
  | ind fuel ih =>
    intro cs x h
    obtain ⟨xs, n, rfl, hx, hl, hxl, hf⟩ := DataW.trod_struct Try.underlying24 h
    rw [Try.cellsX] at hl
    match cs, hl, xs, hxl with
    | [c0, c1, c2], _, [y0, y1, y2], _ =>
      have h0 := hf 0 _ rfl
      have h1 := hf 1 _ rfl
      have h2 := hf 2 _ rfl
      simp [Try.cellsI, Try.cellsXs] at h0 h1 h2
      obtain ⟨a, e0, r0⟩ := DataW.trod_int Try.underlying3 h0
      obtain ⟨b, e1, r1⟩ := DataW.trod_int Try.underlying3 h1
      simp at e0 e1
      subst e0
      subst e1
      have wa : In64 a := wf64 r0.2
      have wb : In64 b := wf64 r1.2
      rcases DataW.trod_slice Try.underlying22 h2 with ⟨hcs, -⟩ | ⟨ad, len, cap, elems, rest, m, rfl, hcs, -, -, hlc, hcm, hel, hat, -, -⟩
      · simp at hcs
        subst hcs
        exact ⟨xD a b [], a, b, _, [], rfl, rfl, wa, wb, by simp, none, 0, rfl, fun h => absurd rfl h⟩
      · simp at hcs
        subst hcs
        rw [Try.cellsX] at hat
        have hget : ∀ i, i < len → ∃ d : D, ∃ cs : List Value, cs.length = 3 ∧ (∀ (j : Nat) (u : Value), cs[j]? = some u → W.cell? (ad.add (i * 3 + j)) = some u) ∧ RX W (m + 1) cs d := fun i hi => by
          have hi2 := hat i hi
          rw [List.getElem?_eq_getElem (by omega), Option.bind_eq_some_iff] at hi2
          obtain ⟨cs, hc, ht⟩ := hi2
          obtain ⟨-, hlen, hcell⟩ := World.cells?_some hc
          obtain ⟨d, hd⟩ := ih m (by omega) cs _ ht
          refine ⟨d, cs, hlen, fun j u hu => ?_, RX.mono (fun _ _ h => h) m (m + 1) cs d (by omega) hd⟩
          have hj : j < 3 := by have := (List.getElem?_eq_some_iff.1 hu).1; omega
          have hk := hcell j hj
          rw [hu] at hk
          rw [Addr.add_add] at hk
          exact hk
        obtain ⟨f, hf⟩ := Deep.choose_lt hget
        refine ⟨xD a b ((List.range len).map f), a, b, _, (List.range len).map f, rfl, rfl, wa, wb, by simp; omega, some ad, cap, by simp, fun hne => ?_⟩
        have h0 : 0 < len := by
          rcases Nat.eq_zero_or_pos len with h | h
          · subst h; simp at hne
          · exact h
        have hp : ∃ b off, ad = ⟨b, off, none⟩ := by
          obtain ⟨cs, hl, hc, -⟩ := hf 0 h0
          obtain ⟨u, hu⟩ : ∃ u, cs[0]? = some u := ⟨cs[0]'(by omega), List.getElem?_eq_getElem (by omega)⟩
          have hk := hc 0 u hu
          have hsp : ad.spot = none := by simpa [Addr.add] using World.cell?_spot hk
          obtain ⟨b, off, sp⟩ := ad
          simp only at hsp
          subst hsp
          exact ⟨b, off, rfl⟩
        obtain ⟨bb, off, rfl⟩ := hp
        refine ⟨bb, off, rfl, fun i d hd => ?_⟩
        have hi : i < len := by
          have := (List.getElem?_eq_some_iff.1 hd).1
          simpa using this
        have hd' : d = f i := by
          rw [List.getElem?_map, List.getElem?_range hi] at hd
          simpa using hd.symm
        subst hd'
        obtain ⟨cs, hl, hc, hr⟩ := hf i hi
        exact ⟨cs, hl, fun j u hu => by have := hc j u hu; rw [Addr.add_lit] at this; simpa [Nat.add_assoc] using this, hr⟩
end Go.Proofs.Ytcbbjjenkommeaa.Ex
namespace Go.Proofs.Ytcbbjjenkommeaa.Ex
open Go.RowKit
set_option linter.unusedVariables false
theorem hide {p : Prop} (h : p) : Hid p := h

set_option maxHeartbeats 400000 in
theorem between_any (x a b : Int) (w : World) :
    Calls Try.prog 67 #[.int .i64 x, .int .i64 a, .int .i64 b] w fun e w' => e = .returned (.bool (decide (a ≤ x ∧ x ≤ b))) ∧ w' = w := by
  by_cases h1 : a ≤ x
  · by_cases h2 : x ≤ b
    · go_enter Try.func67, Try.ntmps67
      go_wp2
      go_ret
      exact ⟨by simp; omega, rfl⟩
    · go_enter Try.func67, Try.ntmps67
      go_wp2
      go_ret
      exact ⟨by simp; omega, rfl⟩
  · go_enter Try.func67, Try.ntmps67
    go_wp2
    go_ret
    exact ⟨by simp; omega, rfl⟩

def in32 (n : Int) : Bool := decide (-2147483648 ≤ n ∧ n ≤ 2147483647)

set_option maxHeartbeats 400000 in
theorem isNumber_any (x : Int) (w : World) : Calls Try.prog 28 #[.int .i64 x] w fun e w' => e = .returned (.bool (in32 x)) ∧ w' = w := by
  go_enter Try.func28, Try.ntmps28
  go_wp2_with fail
  refine (between_any x (-2147483648) 2147483647 _).mono ?_
  rintro e w' ⟨rfl, rfl⟩
  go_wp2_with fail
  go_ret
  exact ⟨by simp [in32], rfl⟩

def wrap32 (z : Int) : Int := (z + 2147483648) % 4294967296 - 2147483648

theorem wrap32_in (z : Int) : -2147483648 ≤ wrap32 z ∧ wrap32 z ≤ 2147483647 := by unfold wrap32; omega

theorem tmod_facts (n : Int) : ∃ q, n = 4294967296 * q + n.tmod 4294967296 ∧ -4294967296 < n.tmod 4294967296 ∧ n.tmod 4294967296 < 4294967296 :=
  ⟨n.tdiv 4294967296, (Int.mul_tdiv_add_tmod n 4294967296).symm, Int.lt_tmod_of_pos n (by decide), Int.tmod_lt_of_pos n (by decide)⟩

set_option maxHeartbeats 1000000 in
theorem wrap_any (n : Int) (hn : In64 n) (w : World) : Calls Try.prog 29 #[.int .i64 n] w fun e w' => e = .returned (.int .i64 (wrap32 n)) ∧ w' = w := by
  obtain ⟨l, u⟩ := hn
  obtain ⟨q, hq, h1, h2⟩ := tmod_facts n
  have HQ := hide hq
  clear hq
  go_enter Try.func29, Try.ntmps29
  go_wp2_with fail
  all_goals go_ret
  all_goals refine ⟨?_, rfl⟩
  all_goals simp
  all_goals have hq := HQ.out
  all_goals unfold wrap32
  all_goals omega
theorem bcell {W w1 : World} (hb : Below W.heap.size W w1) : (∀ b o, b < W.heap.size → w1.cell? ⟨b, o, none⟩ = W.cell? ⟨b, o, none⟩) ∧ (∀ b o, b < W.heap.size → w1.frozen? ⟨b, o, none⟩ = W.frozen? ⟨b, o, none⟩) :=
  ⟨fun b o h => hb.cell (p := ⟨b, o, none⟩) h, fun b o h => hb.frozen (p := ⟨b, o, none⟩) h⟩

theorem cell_over {w w' : World} (hb : Below w.heap.size w w') (a : Addr) (u : Value) (h : w.cell? a = some u) : w'.cell? a = some u := by
  rw [hb.cell (World.block_lt_of_cell? w _ h)]
  exact h

theorem RX.over {w w' : World} {k : Nat} {cs : List Value} {d : D} (h : RX w k cs d) (hb : Below w.heap.size w w') : RX w' k cs d := RX.mono (cell_over hb) k k cs d (Nat.le_refl _) h

def argsOf : D → List D
  | .agg [_, _, .slice l _] => l
  | _ => []
def kindOf : D → Int
  | .agg (.lit (.int _ n) :: _) => n
  | _ => 0
def numOf : D → Int
  | .agg (_ :: .lit (.int _ n) :: _) => n
  | _ => 0
@[simp] theorem argsOf_x (k n : Int) (l : List D) : argsOf (xD k n l) = l := rfl
@[simp] theorem kindOf_x (k n : Int) (l : List D) : kindOf (xD k n l) = k := rfl
@[simp] theorem numOf_x (k n : Int) (l : List D) : numOf (xD k n l) = n := rfl

theorem RX.form {w : World} {k : Nat} {cs : List Value} {d : D} (h : RX w k cs d) : ∃ ao cap, cs = [.int .i64 (kindOf d), .int .i64 (numOf d), .slice ao (argsOf d).length cap] := by
  cases k with
  | zero => exact h.elim
  | succ k =>
    obtain ⟨kd, n, v, ds, rfl, rfl, -, -, -, ao, cap, rfl, -⟩ := h
    exact ⟨ao, cap, rfl⟩

def addParts (f : D → Int → Int) (m : Int) : List D → Int → Int
  | [], n => n
  | a :: l, n => if n ≤ m then addParts f m l (n + f a (m - n)) else n
def partsX : Nat → D → Int → Int
  | 0, _, _ => 1
  | k + 1, d, m => addParts (partsX k) m (argsOf d) 1

theorem addParts_le (f : D → Int → Int) (hf : ∀ d m, 0 ≤ m → 1 ≤ f d m ∧ f d m ≤ m + 1) (m : Int) : ∀ (l : List D) (n : Int), 1 ≤ n → n ≤ m + 1 → 1 ≤ addParts f m l n ∧ addParts f m l n ≤ m + 1
  | [], n, h1, h2 => ⟨h1, h2⟩
  | a :: l, n, h1, h2 => by
    unfold addParts
    split
    · have := hf a (m - n) (by omega)
      exact addParts_le f hf m l _ (by omega) (by omega)
    · exact ⟨h1, h2⟩
theorem partsX_le : ∀ (k : Nat) (d : D) (m : Int), 0 ≤ m → 1 ≤ partsX k d m ∧ partsX k d m ≤ m + 1
  | 0, _, m, h => by unfold partsX; omega
  | k + 1, d, m, h => addParts_le _ (partsX_le k) m _ 1 (by omega) (by omega)
theorem addParts_done (f : D → Int → Int) (m : Int) (l : List D) (n : Int) (h : m < n) : addParts f m l n = n := by
  cases l with
  | nil => rfl
  | cons a l => unfold addParts; rw [if_neg (by omega)]
theorem addParts_drop {f : D → Int → Int} {m n : Int} {l : List D} {j : Nat} (hj : j < l.length) (h : n ≤ m) : addParts f m (l.drop j) n = addParts f m (l.drop (j + 1)) (n + f l[j] (m - n)) := by
  rw [List.drop_eq_getElem_cons hj]
  rw [addParts, if_pos h]

set_option maxHeartbeats 2000000 in
set_option maxRecDepth 100000 in
theorem parts_any : ∀ (k : Nat) (cs : List Value) (d : D) (w : World) (m : Int), RX w k cs d → 0 ≤ m → m ≤ 15 →
    Calls Try.prog 65 #[.agg cs.toArray, .int .i64 m] w fun e w' => e = .returned (.int .i64 (partsX k d m)) ∧ Below w.heap.size w w' := by
  intro k
  induction k with
  | zero => intro cs d w m h; exact h.elim
  | succ k ih =>
    intro cs d w m h m0 m1
    obtain ⟨kd, n, v, ds, rfl, rfl, hkd, hn, hlen, ao, cap, rfl, hc⟩ := h
    have HC := hide hc
    have IH := hide ih
    have HL : ds.length ≤ 9223372036854775807 := hlen
    have hspec : partsX (k + 1) (xD kd n ds) m = addParts (partsX k) m ds 1 := rfl
    rw [hspec]
    have hbel : Below w.heap.size w (w.alloc (.cells #[.int .i64 kd, .int .i64 n, .slice ao ds.length cap] 24)) := (Below.refl _ w).alloc (Nat.le_refl _) _
    clear hc ih hspec hkd hn hlen
    show Calls Try.prog 65 #[.agg #[.int .i64 kd, .int .i64 n, .slice ao ds.length cap], .int .i64 m] w _
    go_enter Try.func65, Try.ntmps65
    go_wp2_with fail
    go_loopw [5, 6] (fun c i wr => ∃ (j : Nat) (t : Int), j ≤ ds.length ∧ i = .int .i64 j ∧ c = .int .i64 t ∧ 1 ≤ t ∧ t ≤ m + 1 ∧ addParts (partsX k) m ds 1 = addParts (partsX k) m (ds.drop j) t ∧ wr.cell? ⟨w.heap.size, 2, none⟩ = some (.slice ao ds.length cap) ∧ Below w.heap.size w wr) (fun _ i _ => ds.length - (intOf i).toNat)
    case atStart => exact ⟨0, 1, Nat.zero_le _, rfl, rfl, by omega, by omega, rfl, by simp [go_sem], hbel⟩
    case round =>
      clear hbel
      obtain ⟨j, t, hj, rfl, rfl, t1, t2, hp, c2, hB⟩ := hrel
      have HP := hide hp
      clear hp
      by_cases hjl : j < ds.length
      · by_cases htm : t ≤ m
        · obtain ⟨b, off, rfl, hcl⟩ := HC.out (by rintro rfl; simp at hjl)
          obtain ⟨cs, hl3, hcs, hr⟩ := hcl j ds[j] (List.getElem?_eq_getElem hjl)
          have hnext := addParts_drop (f := partsX k) hjl htm
          have hle := partsX_le k ds[j] (m - t) (by omega)
          obtain ⟨ao', cap', hcse⟩ := hr.form
          obtain ⟨dj, hdj⟩ : ∃ dj, dj = ds[j] := ⟨_, rfl⟩
          rw [← hdj] at hnext hle hr hcse
          obtain ⟨kj, hkj⟩ : ∃ q, q = kindOf dj := ⟨_, rfl⟩
          obtain ⟨nj, hnj⟩ : ∃ q, q = numOf dj := ⟨_, rfl⟩
          obtain ⟨lj, hlj⟩ : ∃ q, q = (argsOf dj).length := ⟨_, rfl⟩
          rw [← hkj, ← hnj, ← hlj] at hcse
          subst hcse
          have q0 : wr.cell? ⟨b, off + j * 3, none⟩ = _ := cell_over hB _ _ (hcs 0 _ rfl)
          have q1 := cell_over hB _ _ (hcs 1 _ rfl)
          have q2 := cell_over hB _ _ (hcs 2 _ rfl)
          have hcall := IH.out _ dj wr (m - t) (hr.over hB) (by omega) (by omega)
          obtain ⟨r, hre⟩ : ∃ r, r = partsX k dj (m - t) := ⟨_, rfl⟩
          rw [← hre] at hcall hnext hle
          have HCALL := hide hcall
          have HN := hide hnext
          clear hcall hnext hre hkj hnj hlj hr hcs hcl hl3 hdj
          go_wp2_with fail
          refine (HCALL.out).mono ?_
          rintro e w1 ⟨rfl, hb1⟩
          have c2' := cell_over hb1 _ _ c2
          have hB' : Below w.heap.size w w1 := hB.trans (hb1.mono hB.size)
          clear c2 q0 q1 q2 hB hb1 HCALL
          go_wp2_with fail
          exact ⟨⟨j + 1, t + r, by omega, by go_num, by go_num, by omega, by omega, by rw [HP.out, HN.out], c2', hB'⟩, by simp [intOf]; omega⟩
        · have hd := addParts_done (partsX k) m (ds.drop j) t (by omega)
          have HD := hide hd
          clear hd
          go_wp2_with fail
          go_ret
          exact ⟨by rw [HP.out, HD.out]; rfl, hB⟩
      · have hd : addParts (partsX k) m (ds.drop j) t = t := by rw [List.drop_eq_nil_of_le (by omega)]; rfl
        have HD := hide hd
        clear hd
        go_wp2_with fail
        go_ret
        exact ⟨by rw [HP.out, HD.out]; rfl, hB⟩
def IsInts (w : World) (v : Value) (l : List Int) : Prop :=
  ∃ ao cap, v = .slice ao l.length cap ∧ (l ≠ [] → ∃ b off, ao = some ⟨b, off, none⟩ ∧ ∀ i (h : i < l.length), w.cell? ⟨b, off + i, none⟩ = some (.int .i64 l[i]))

theorem IsInts.over {w w' : World} {v : Value} {l : List Int} (h : IsInts w v l) (hb : Below w.heap.size w w') : IsInts w' v l := by
  obtain ⟨ao, cap, hv, hc⟩ := h
  refine ⟨ao, cap, hv, fun hne => ?_⟩
  obtain ⟨b, off, hao, hel⟩ := hc hne
  exact ⟨b, off, hao, fun i hi => cell_over hb _ _ (hel i hi)⟩

def opX (k a b : Int) : Int :=
  if k = 3 then wrap32 (a + b) else if k = 4 then wrap32 (a - b) else if k = 5 then wrap32 (a * b) else if k = 6 ∧ a < b ∨ k = 7 ∧ a = b then 1 else 0
def valX (vs : List Int) : Nat → D → Int
  | 0, _ => 0
  | k + 1, d => if kindOf d = 1 then numOf d else if kindOf d = 2 then vs.getD (numOf d).toNat 0 else
    match argsOf d with
    | [x, y] => opX (kindOf d) (valX vs k x) (valX vs k y)
    | _ => 0
def okX (m : Nat) : Nat → D → Prop
  | 0, _ => False
  | k + 1, d => (kindOf d = 1 ∧ -9999999 ≤ numOf d ∧ numOf d ≤ 9999999) ∨ (kindOf d = 2 ∧ 0 ≤ numOf d ∧ numOf d < m) ∨ (3 ≤ kindOf d ∧ kindOf d ≤ 7 ∧ ∃ x y, argsOf d = [x, y] ∧ okX m k x ∧ okX m k y)

def I32 (n : Int) : Prop := -2147483648 ≤ n ∧ n ≤ 2147483647

theorem opX_in (k a b : Int) : I32 (opX k a b) := by
  unfold opX I32
  have h1 := wrap32_in (a + b)
  have h2 := wrap32_in (a - b)
  have h3 := wrap32_in (a * b)
  repeat' split
  all_goals omega

theorem valX_in {vs : List Int} (hv : ∀ x ∈ vs, I32 x) : ∀ (k : Nat) (d : D), okX vs.length k d → I32 (valX vs k d) := by
  intro k
  induction k with
  | zero => intro d h; exact h.elim
  | succ k ih =>
    intro d h
    rcases h with ⟨h1, h2, h3⟩ | ⟨h1, h2, h3⟩ | ⟨h1, h2, x, y, hxy, hx, hy⟩
    · unfold valX
      rw [if_pos h1]
      unfold I32
      omega
    · unfold valX
      rw [if_neg (by omega), if_pos h1]
      have hl : (numOf d).toNat < vs.length := by omega
      rw [List.getD_eq_getElem?_getD, List.getElem?_eq_getElem hl]
      exact hv _ (List.getElem_mem hl)
    · unfold valX
      rw [if_neg (by omega), if_neg (by omega), hxy]
      exact opX_in _ _ _

theorem held8 {w w0 w1 : World} {a0 a1 a2 a3 a4 a5 a6 a7 : Addr} {v0 v1 v2 v3 v4 v5 v6 v7 : Value}
    (h : w0.cell? a0 = some v0 ∧ w0.cell? a1 = some v1 ∧ w0.cell? a2 = some v2 ∧ w0.cell? a3 = some v3 ∧ w0.cell? a4 = some v4 ∧ w0.cell? a5 = some v5 ∧ w0.cell? a6 = some v6 ∧ w0.cell? a7 = some v7 ∧ Below w.heap.size w w0) (hb : Below w0.heap.size w0 w1) :
    w1.cell? a0 = some v0 ∧ w1.cell? a1 = some v1 ∧ w1.cell? a2 = some v2 ∧ w1.cell? a3 = some v3 ∧ w1.cell? a4 = some v4 ∧ w1.cell? a5 = some v5 ∧ w1.cell? a6 = some v6 ∧ w1.cell? a7 = some v7 ∧ Below w.heap.size w w1 := by
  obtain ⟨h0, h1, h2, h3, h4, h5, h6, h7, hB⟩ := h
  exact ⟨cell_over hb _ _ h0, cell_over hb _ _ h1, cell_over hb _ _ h2, cell_over hb _ _ h3, cell_over hb _ _ h4, cell_over hb _ _ h5, cell_over hb _ _ h6, cell_over hb _ _ h7, hB.trans (hb.mono hB.size)⟩

theorem below_drewN {W w : World} {n : Nat} (h : Below n W w) (k : Nat) : Below n W (w.drewN k) := by
  induction k with
  | zero => exact h
  | succ k ih => exact ih.drew

set_option maxHeartbeats 1000000 in
set_option maxRecDepth 100000 in
theorem val_leaf (cs : List Value) (d : D) (k : Nat) (w : World) (vv : Value) (vs : List Int) (h : RX w (k + 1) cs d) (hi : IsInts w vv vs) (hk : (kindOf d = 1) ∨ (kindOf d = 2 ∧ 0 ≤ numOf d ∧ numOf d < vs.length)) :
    Calls Try.prog 10 #[.agg cs.toArray, vv] w fun e w' => e = .returned (.int .i64 (valX vs (k + 1) d)) ∧ Below w.heap.size w w' := by
  obtain ⟨kd, n, v, ds, rfl, rfl, hkd, hn, hlen, ao, cap, rfl, hc⟩ := h
  simp only [kindOf_x, numOf_x] at hk
  obtain ⟨va, vc, rfl, hvc⟩ := hi
  have hbel : Below w.heap.size w (w.alloc (.cells #[.int .i64 kd, .int .i64 n, .slice ao ds.length cap] 24)) := (Below.refl _ w).alloc (Nat.le_refl _) _
  show Calls Try.prog 10 #[.agg #[.int .i64 kd, .int .i64 n, .slice ao ds.length cap], .slice va vs.length vc] w _
  rcases hk with rfl | ⟨rfl, n0, n1⟩
  · have hs : valX vs (k + 1) (xD 1 n ds) = n := rfl
    rw [hs]
    clear hs hc hvc hlen hkd
    go_enter Try.func10, Try.ntmps10
    go_wp2_with fail
    go_ret
    exact ⟨rfl, hbel⟩
  · have hl : n.toNat < vs.length := by omega
    have hs : valX vs (k + 1) (xD 2 n ds) = vs[n.toNat] := by
      show vs.getD n.toNat 0 = _
      rw [List.getD_eq_getElem?_getD, List.getElem?_eq_getElem hl]
      rfl
    obtain ⟨b, off, rfl, hel⟩ := hvc (by rintro rfl; simp at hl)
    have c := hel _ hl
    obtain ⟨j, rfl⟩ : ∃ j : Nat, n = j := ⟨n.toNat, by omega⟩
    rw [hs]
    simp only [Int.toNat_natCast] at c hl ⊢
    obtain ⟨r, hr⟩ : ∃ r, r = vs[j] := ⟨_, rfl⟩
    rw [← hr] at c ⊢
    have c' := cell_over hbel _ _ c
    clear hs hc hvc hlen hkd hel hr
    go_enter Try.func10, Try.ntmps10
    go_wp2_with fail
    go_ret
    exact ⟨rfl, hbel⟩
theorem mul_in {a c : Int} (a1 : -2147483648 ≤ a) (a2 : a ≤ 2147483647) (c1 : -2147483648 ≤ c) (c2 : c ≤ 2147483647) : -4611686018427387904 ≤ a * c ∧ a * c ≤ 4611686018427387904 := by
  have h : (a * c).natAbs ≤ 2147483648 * 2147483648 := by
    rw [Int.natAbs_mul]
    exact Nat.mul_le_mul (by omega) (by omega)
  omega

set_option maxHeartbeats 4000000 in
set_option maxRecDepth 100000 in
theorem val_node (kd n : Int) (b off cap : Nat) (xk xn yk yn : Int) (xa ya : Option Addr) (xl yl xc yc : Nat) (vv : Value) (w : World) (a c : Int) (ha : I32 a) (hc : I32 c) (hkd : 3 ≤ kd ∧ kd ≤ 7)
    (q0 : w.cell? ⟨b, off, none⟩ = some (.int .i64 xk)) (q1 : w.cell? ⟨b, off + 1, none⟩ = some (.int .i64 xn)) (q2 : w.cell? ⟨b, off + 2, none⟩ = some (.slice xa xl xc))
    (r0 : w.cell? ⟨b, off + 3, none⟩ = some (.int .i64 yk)) (r1 : w.cell? ⟨b, off + 3 + 1, none⟩ = some (.int .i64 yn)) (r2 : w.cell? ⟨b, off + 3 + 2, none⟩ = some (.slice ya yl yc))
    (KX : Hid (∀ W, Below w.heap.size w W → Calls Try.prog 10 #[.agg #[.int .i64 xk, .int .i64 xn, .slice xa xl xc], vv] W fun e w' => e = .returned (.int .i64 a) ∧ Below W.heap.size W w'))
    (KY : Hid (∀ W, Below w.heap.size w W → Calls Try.prog 10 #[.agg #[.int .i64 yk, .int .i64 yn, .slice ya yl yc], vv] W fun e w' => e = .returned (.int .i64 c) ∧ Below W.heap.size W w')) :
    Calls Try.prog 10 #[.agg #[.int .i64 kd, .int .i64 n, .slice (some ⟨b, off, none⟩) 2 cap], vv] w fun e w' => e = .returned (.int .i64 (opX kd a c)) ∧ Below w.heap.size w w' := by
  have hbel : Below w.heap.size w (w.alloc (.cells #[.int .i64 kd, .int .i64 n, .slice (some ⟨b, off, none⟩) 2 cap] 24)) := (Below.refl _ w).alloc (Nat.le_refl _) _
  have q0' := cell_over hbel _ _ q0
  have q1' := cell_over hbel _ _ q1
  have q2' := cell_over hbel _ _ q2
  have r0' := cell_over hbel _ _ r0
  have r1' := cell_over hbel _ _ r1
  have r2' := cell_over hbel _ _ r2
  have e0 : (w.alloc (.cells #[.int .i64 kd, .int .i64 n, .slice (some ⟨b, off, none⟩) 2 cap] 24)).cell? ⟨w.heap.size, 0, none⟩ = some (.int .i64 kd) := by simp [go_sem]
  have e2 : (w.alloc (.cells #[.int .i64 kd, .int .i64 n, .slice (some ⟨b, off, none⟩) 2 cap] 24)).cell? ⟨w.heap.size, 2, none⟩ = some (.slice (some ⟨b, off, none⟩) 2 cap) := by simp [go_sem]
  have hk1 : kd ≠ 1 := by omega
  have hk2 : kd ≠ 2 := by omega
  clear q0 q1 q2 r0 r1 r2
  go_enter Try.func10, Try.ntmps10
  go_wp2_with fail
  go_region_held3 (fun W => W.cell? ⟨w.heap.size, 0, none⟩ = some (.int .i64 kd) ∧ W.cell? ⟨w.heap.size, 2, none⟩ = some (.slice (some ⟨b, off, none⟩) 2 cap) ∧ W.cell? ⟨b, off, none⟩ = some (.int .i64 xk) ∧ W.cell? ⟨b, off + 1, none⟩ = some (.int .i64 xn) ∧ W.cell? ⟨b, off + 2, none⟩ = some (.slice xa xl xc) ∧ W.cell? ⟨b, off + 3, none⟩ = some (.int .i64 yk) ∧ W.cell? ⟨b, off + 3 + 1, none⟩ = some (.int .i64 yn) ∧ W.cell? ⟨b, off + 3 + 2, none⟩ = some (.slice ya yl yc) ∧ Below w.heap.size w W) (first | assumption | exact ⟨e0, e2, q0', q1', q2', r0', r1', r2', below_drewN hbel 1⟩ | exact held8 (by assumption) hbp | exact held8 (by assumption) hbq | fail) (first | (go_at_call_of 10 (Value.agg #[.int .i64 xk, .int .i64 xn, .slice xa xl xc]); refine (KX.out _ (by assumption : _ ∧ _ ∧ _ ∧ _ ∧ _ ∧ _ ∧ _ ∧ _ ∧ Below _ _ _).2.2.2.2.2.2.2.2).mono ?_; rintro e wp ⟨rfl, hbp⟩) | (go_at_call_of 10 (Value.agg #[.int .i64 yk, .int .i64 yn, .slice ya yl yc]); refine (KY.out _ (by assumption : _ ∧ _ ∧ _ ∧ _ ∧ _ ∧ _ ∧ _ ∧ _ ∧ Below _ _ _).2.2.2.2.2.2.2.2).mono ?_; rintro e wq ⟨rfl, hbq⟩))
  obtain ⟨g0, -, -, -, -, -, -, -, hB⟩ := (by assumption : _ ∧ _ ∧ _ ∧ _ ∧ _ ∧ _ ∧ _ ∧ _ ∧ Below _ _ _)
  clear q0' q1' q2' r0' r1' r2' e0 e2 hbel KX KY
  obtain ⟨a1, a2⟩ := ha
  obtain ⟨c1, c2⟩ := hc
  have hm1 : -4611686018427387904 ≤ a * c ∧ a * c ≤ 4611686018427387904 := mul_in a1 a2 c1 c2
  rcases (by omega : kd = 3 ∨ kd = 4 ∨ kd = 5 ∨ kd = 6 ∨ kd = 7) with rfl | rfl | rfl | rfl | rfl
  · have KW := hide fun W => wrap_any (a + c) ⟨by omega, by omega⟩ W
    go_wp2_with fail
    refine (KW.out _).mono ?_
    rintro e w2 ⟨rfl, rfl⟩
    go_wp2_with fail
    go_ret
    exact ⟨rfl, hB⟩
  · have KW := hide fun W => wrap_any (a - c) ⟨by omega, by omega⟩ W
    go_wp2_with fail
    refine (KW.out _).mono ?_
    rintro e w2 ⟨rfl, rfl⟩
    go_wp2_with fail
    go_ret
    exact ⟨rfl, hB⟩
  · have KW := hide fun W => wrap_any (a * c) ⟨by omega, by omega⟩ W
    obtain ⟨p, hp⟩ : ∃ p, p = a * c := ⟨_, rfl⟩
    go_wp2_with fail
    refine (KW.out _).mono ?_
    rintro e w2 ⟨rfl, rfl⟩
    go_wp2_with fail
    go_ret
    exact ⟨rfl, hB⟩
  · by_cases h : a < c
    · go_wp2_with fail
      go_ret
      exact ⟨by simp [opX, h], hB⟩
    · go_wp2_with fail
      go_ret
      exact ⟨by simp [opX, h], hB⟩
  · by_cases h : a = c
    · go_wp2_with fail
      go_ret
      exact ⟨by simp [opX, h], hB⟩
    · go_wp2_with fail
      go_ret
      exact ⟨by simp [opX, h], hB⟩
theorem val_any (vs : List Int) (hv : ∀ x ∈ vs, I32 x) : ∀ (k : Nat) (cs : List Value) (d : D) (w : World) (vv : Value), RX w k cs d → okX vs.length k d → IsInts w vv vs →
    Calls Try.prog 10 #[.agg cs.toArray, vv] w fun e w' => e = .returned (.int .i64 (valX vs k d)) ∧ Below w.heap.size w w' := by
  intro k
  induction k with
  | zero => intro cs d w vv h; exact h.elim
  | succ k ih =>
    intro cs d w vv h ho hi
    rcases ho with ⟨h1, -, -⟩ | ⟨h1, h2, h3⟩ | ⟨h1, h2, x, y, hxy, hx, hy⟩
    · exact val_leaf cs d k w vv vs h hi (Or.inl h1)
    · exact val_leaf cs d k w vv vs h hi (Or.inr ⟨h1, h2, h3⟩)
    · obtain ⟨kd, n, v, ds, rfl, rfl, hkd, hn, hlen, ao, cap, rfl, hc⟩ := h
      simp only [kindOf_x, argsOf_x] at h1 h2 hxy
      subst hxy
      obtain ⟨b, off, rfl, hel⟩ := hc (by simp)
      obtain ⟨xs, -, hxc, hxr⟩ := hel 0 x rfl
      obtain ⟨ys, -, hyc, hyr⟩ := hel 1 y rfl
      obtain ⟨xa, xcap, hxs⟩ := hxr.form
      obtain ⟨ya, ycap, hys⟩ := hyr.form
      subst hxs
      subst hys
      have hs : valX vs (k + 1) (xD kd n [x, y]) = opX kd (valX vs k x) (valX vs k y) := by
        show (if kd = 1 then n else if kd = 2 then vs.getD n.toNat 0 else opX kd (valX vs k x) (valX vs k y)) = _
        rw [if_neg (by omega), if_neg (by omega)]
      rw [hs]
      have q0 := hxc 0 _ rfl
      have q1 := hxc 1 _ rfl
      have q2 := hxc 2 _ rfl
      have r0 := hyc 0 _ rfl
      have r1 := hyc 1 _ rfl
      have r2 := hyc 2 _ rfl
      simp only [Nat.zero_mul, Nat.one_mul, Nat.add_zero] at q0 q1 q2 r0 r1 r2
      exact val_node kd n b off cap _ _ _ _ _ _ _ _ _ _ vv w _ _ (valX_in hv k x hx) (valX_in hv k y hy) ⟨h1, h2⟩ q0 q1 q2 r0 r1 r2
        (hide fun W hB => ih _ x W vv (hxr.over hB) hx (hi.over hB)) (hide fun W hB => ih _ y W vv (hyr.over hB) hy (hi.over hB))
theorem own_over {W W' : World} {B e s : Nat} {v : Value} {k : Nat} {xs : List Value} (h : W.ownsRow B e s v k xs) (hb : Below W.heap.size W W') : W'.ownsRow B e s v k xs := by
  obtain ⟨h1, h2⟩ := h
  refine ⟨h1, ?_⟩
  rcases h2 with h2 | ⟨g, cap, cur, hv, hg, hh, r⟩
  · exact Or.inl h2
  · refine Or.inr ⟨g, cap, cur, hv, hg, ?_, r⟩
    rw [hb.block g (Array.getElem?_eq_some_iff.1 hh).1]
    exact hh

theorem own_base {W : World} {B B' e s : Nat} {v : Value} {k : Nat} {xs : List Value} (h : W.ownsRow B e s v k xs) (hb : B' ≤ B) : W.ownsRow B' e s v k xs := by
  obtain ⟨h1, h2⟩ := h
  refine ⟨h1, ?_⟩
  rcases h2 with h2 | ⟨g, cap, cur, hv, hg, r⟩
  · exact Or.inl h2
  · exact Or.inr ⟨g, cap, cur, hv, Nat.le_trans hb hg, r⟩

theorem own_lt {W : World} {B e s : Nat} {v : Value} {k : Nat} {xs : List Value} (h : W.ownsRow B e s v k xs) {g : Nat} (hg : v.ownBlock = some g) : B ≤ g ∧ g < W.heap.size := by
  rcases h.2 with ⟨rfl, _⟩ | ⟨g', cap, cur, rfl, hg', hh, _⟩
  · cases hg
  · simp [Value.ownBlock] at hg
    subst hg
    exact ⟨hg', (Array.getElem?_eq_some_iff.1 hh).1⟩

theorem below_grown {B e s : Nat} {W W' : World} {v : Value} {k : Nat} {xs : List Value} (h : W.ownsRow B e s v k xs) (hg : W.grownBy W' v.ownBlock) (hB : B ≤ W.heap.size) : Below B W W' :=
  ⟨hg.os, hg.tape, hg.output, hg.size, fun j hj => hg.block j (Nat.lt_of_lt_of_le hj hB) (fun e => by have := (own_lt h e.symm).1; omega)⟩

/-- the cells of parts that lie one behind the other. -/
def CellsOf : List D → List Value → Prop
  | [], xs => xs = []
  | d :: l, xs => ∃ (ao : Option Addr) (cap : Nat) (r : List Value), xs = .int .i64 (kindOf d) :: .int .i64 (numOf d) :: .slice ao (argsOf d).length cap :: r ∧ CellsOf l r

theorem CellsOf.append : ∀ {l l' : List D} {xs xs' : List Value}, CellsOf l xs → CellsOf l' xs' → CellsOf (l ++ l') (xs ++ xs')
  | [], _, _, _, h, h' => by have e : _ = _ := h; subst e; exact h'
  | d :: l, _, _, _, h, h' => by
    obtain ⟨ao, cap, r, rfl, hr⟩ := h
    exact ⟨ao, cap, r ++ _, rfl, hr.append h'⟩
theorem CellsOf.one : ∀ {l : List D} {xs : List Value}, CellsOf l xs → ∀ u ∈ xs, u.oneCell' = true
  | [], _, h, u, hu => by have e : _ = _ := h; subst e; cases hu
  | d :: l, _, h, u, hu => by
    obtain ⟨ao, cap, r, rfl, hr⟩ := h
    simp only [List.mem_cons] at hu
    rcases hu with rfl | rfl | rfl | hu
    · rfl
    · rfl
    · rfl
    · exact hr.one u hu
theorem CellsOf.length : ∀ {l : List D} {xs : List Value}, CellsOf l xs → xs.length = l.length * 3
  | [], _, h => by have e : _ = _ := h; subst e; rfl
  | d :: l, _, h => by
    obtain ⟨ao, cap, r, rfl, hr⟩ := h
    have := hr.length
    simp
    omega

def listX : Nat → D → List D
  | 0, _ => []
  | k + 1, d => d :: (argsOf d).flatMap (listX k)
theorem listX_pos {w : World} {k : Nat} {cs : List Value} {d : D} (h : RX w k cs d) : 0 < (listX k d).length := by
  cases k with
  | zero => exact h.elim
  | succ k => simp [listX]

theorem own_cells {W : World} {B e : Nat} {v : Value} {n : Nat} {xs : List Value} (h : W.ownsRow B e 3 v n xs) (hn : 0 < n) : ∃ g cap, v = .slice (some ⟨g, 0, none⟩) n cap ∧ B ≤ g ∧ g < W.heap.size ∧ ∀ j u, xs[j]? = some u → W.cell? ((⟨g, 0, none⟩ : Addr).add j) = some u := by
  rcases h.2 with ⟨_, h0⟩ | ⟨g, cap, cur, hv, hb, hg, h1, h2, h3, h4⟩
  · omega
  · refine ⟨g, cap, hv, hb, (Array.getElem?_eq_some_iff.1 hg).1, fun j u hu => ?_⟩
    rw [Addr.add_lit, Lib.cell_of_heap hg]
    rw [← h4, List.getElem?_take] at hu
    split at hu
    · simpa using hu
    · cases hu
theorem Try.infoX : (Try.prog.info? 24).map (fun i => (i.zero, i.size, i.bytes)) = some (some (.agg #[.int .i64 0, .int .i64 0, .slice none 0 0]), 3, 40) := by kernel_rfl

theorem own_first (w : World) (x y z : Value) (B : Nat) (hB : B ≤ w.heap.size) : (w.alloc (.cells #[x, y, z] 24)).ownsRow B 24 3 (.slice (some ⟨w.heap.size, 0, none⟩) 1 1) 1 [x, y, z] :=
  ⟨rfl, Or.inr ⟨w.heap.size, 1, #[x, y, z], rfl, hB, heap_alloc_new w _, Nat.le_refl _, by decide, rfl, rfl⟩⟩

set_option maxHeartbeats 4000000 in
set_option maxRecDepth 100000 in
theorem all_any : ∀ (k : Nat) (cs : List Value) (d : D) (w : World), RX w k cs d → (listX k d).length ≤ 15 →
    Calls Try.prog 66 #[.agg cs.toArray] w fun e w' => ∃ v xs, e = .returned v ∧ w'.ownsRow w.heap.size 24 3 v (listX k d).length xs ∧ CellsOf (listX k d) xs ∧ Below w.heap.size w w' := by
  intro k
  induction k with
  | zero => intro cs d w h; exact h.elim
  | succ k ih =>
    intro cs d w h hm
    obtain ⟨kd, n, v, ds, rfl, rfl, hkd, hn, hlen, ao, cap, rfl, hc⟩ := h
    obtain ⟨i0, hi, hz0, hz1, hz2⟩ := info_parts Try.infoX
    have HC := hide hc
    have IH := hide ih
    have HL : ds.length ≤ 9223372036854775807 := hlen
    have hspec : listX (k + 1) (xD kd n ds) = xD kd n ds :: ds.flatMap (listX k) := rfl
    rw [hspec] at hm ⊢
    have hmm : ∀ j, j ≤ ds.length → (xD kd n ds :: (ds.take j).flatMap (listX k)).length ≤ 15 := fun j hj => by
      have h2 : ds.flatMap (listX k) = (ds.take j).flatMap (listX k) ++ (ds.drop j).flatMap (listX k) := by rw [← List.flatMap_append, List.take_append_drop]
      rw [h2] at hm
      simp only [List.length_cons, List.length_append] at hm ⊢
      omega
    have HM := hide hmm
    clear hc ih hspec hkd hn hlen hmm
    obtain ⟨w0, hw0⟩ : ∃ w0, w0 = w.alloc (.cells #[.int .i64 kd, .int .i64 n, .slice ao ds.length cap] 24) := ⟨_, rfl⟩
    have hbel : Below w.heap.size w w0 := by rw [hw0]; exact (Below.refl _ w).alloc (Nat.le_refl _) _
    have hsz0 : w0.heap.size = w.heap.size + 1 := by rw [hw0]; simp
    have hbx : w0.cell? ⟨w.heap.size, 2, none⟩ = some (.slice ao ds.length cap) := by rw [hw0]; simp [go_sem]
    have hal : Below w0.heap.size w0 (w0.alloc (.cells #[.int .i64 kd, .int .i64 n, .slice ao ds.length cap] 24)) := (Below.refl _ w0).alloc (Nat.le_refl _) _
    have hbx' := cell_over hal _ _ hbx
    have hown0 := own_first w0 (.int .i64 kd) (.int .i64 n) (.slice ao ds.length cap) (w.heap.size + 1) (by omega)
    have hB0 : Below w.heap.size w (w0.alloc (.cells #[.int .i64 kd, .int .i64 n, .slice ao ds.length cap] 24)) := hbel.trans (hal.mono hbel.size)
    have HS := hide (And.intro hown0 (And.intro hbx' hB0))
    rw [hw0] at HS
    clear hal hbx hbx' hown0 hB0 hbel hsz0 hw0
    show Calls Try.prog 66 #[.agg #[.int .i64 kd, .int .i64 n, .slice ao ds.length cap]] w _
    go_enter Try.func66, Try.ntmps66
    go_wp2_with fail
    go_loopw [3, 4] (fun out i wr => ∃ (j : Nat) (xs : List Value), j ≤ ds.length ∧ i = .int .i64 j ∧ wr.ownsRow (w.heap.size + 1) 24 3 out (xD kd n ds :: (ds.take j).flatMap (listX k)).length xs ∧ CellsOf (xD kd n ds :: (ds.take j).flatMap (listX k)) xs ∧ wr.cell? ⟨w.heap.size, 2, none⟩ = some (.slice ao ds.length cap) ∧ Below w.heap.size w wr) (fun _ i _ => ds.length - (intOf i).toNat)
    case atStart =>
      obtain ⟨h1, h2, h3⟩ := HS.out
      refine ⟨0, [.int .i64 kd, .int .i64 n, .slice ao ds.length cap], Nat.zero_le _, rfl, ?_, ⟨ao, cap, [], rfl, rfl⟩, h2, h3⟩
      simpa using h1
    case round =>
      clear HS
      obtain ⟨j, xs, hj, rfl, hown, hcl, c2, hB⟩ := hrel
      by_cases hjl : j < ds.length
      · obtain ⟨b, off, rfl, hel⟩ := HC.out (by rintro rfl; simp at hjl)
        obtain ⟨cs, hl3, hcs, hr⟩ := hel j ds[j] (List.getElem?_eq_getElem hjl)
        have hm1 := HM.out (j + 1) hjl
        have htk : (ds.take (j + 1)).flatMap (listX k) = (ds.take j).flatMap (listX k) ++ listX k ds[j] := by
          rw [List.take_succ_eq_append_getElem hjl, List.flatMap_append]; simp
        rw [htk] at hm1
        have HTK := hide htk
        have hpos := listX_pos hr
        obtain ⟨ao', cap', hcse⟩ := hr.form
        obtain ⟨dj, hdj⟩ : ∃ dj, dj = ds[j] := ⟨_, rfl⟩
        rw [← hdj] at hr hcse hpos hm1 HTK
        obtain ⟨pre, hpre⟩ : ∃ p, p = xD kd n ds :: (ds.take j).flatMap (listX k) := ⟨_, rfl⟩
        rw [← List.cons_append, ← hpre, List.length_append] at hm1
        rw [← hpre] at hown hcl
        obtain ⟨kj, hkj⟩ : ∃ q, q = kindOf dj := ⟨_, rfl⟩
        obtain ⟨nj, hnj⟩ : ∃ q, q = numOf dj := ⟨_, rfl⟩
        obtain ⟨lj, hlj⟩ : ∃ q, q = (argsOf dj).length := ⟨_, rfl⟩
        rw [← hkj, ← hnj, ← hlj] at hcse
        subst hcse
        have q0 : wr.cell? ⟨b, off + j * 3, none⟩ = _ := cell_over hB _ _ (hcs 0 _ rfl)
        have q1 := cell_over hB _ _ (hcs 1 _ rfl)
        have q2 := cell_over hB _ _ (hcs 2 _ rfl)
        have hcall := IH.out _ dj wr (hr.over hB) (by omega)
        have HCALL := hide hcall
        have HPRE := hide hpre
        have HOWN := hide hown
        have hppos : 0 < pre.length := by rw [hpre]; simp
        obtain ⟨g, gc, hgv, hgb, hgl, hgc⟩ := own_cells hown hppos
        clear hcall hkj hnj hlj hr hcs hel hl3 hdj htk hpre hown hgc
        subst hgv
        go_wp2_with fail
        refine (HCALL.out).mono ?_
        rintro e w1 ⟨v1, ys, rfl, hown1, hcl1, hb1⟩
        obtain ⟨g1, gc1, rfl, hgb1, hgl1, hgc1⟩ := own_cells hown1 hpos
        have c2' := cell_over hb1 _ _ c2
        have hB' : Below w.heap.size w w1 := hB.trans (hb1.mono hB.size)
        have hownA := own_over HOWN.out hb1
        have hs1 : w.heap.size + 1 ≤ w1.heap.size := World.block_lt_of_cell? w1 _ c2'
        clear c2 q0 q1 q2 hB hb1 HCALL HOWN
        go_wp2_with (at_builtin; refine wpList_append_own _ rfl _ _ 22 rfl (w.heap.size + 1) 24 i0 (.agg #[.int .i64 0, .int .i64 0, .slice none 0 0]) 3 40 Try.underlying22 hi hz0 hz1 hz2 rfl (by decide) _ _ _ rfl hownA ⟨g1, 0, none⟩ (listX k dj).length gc1 ys rfl hcl1.length hgc1 hcl1.one (by unfold maxLen; omega) (by omega) hs1 ?_)
        intro v2 w2 hown2 hgr2 _
        have hbl2 := below_grown hownA hgr2 hs1
        have c3 : w2.cell? ⟨w.heap.size, 2, none⟩ = some (.slice (some ⟨b, off, none⟩) ds.length cap) := by
          rw [hbl2.cell (p := ⟨w.heap.size, 2, none⟩) (Nat.lt_succ_self _)]
          exact c2'
        have hB2 : Below w.heap.size w w2 := hB'.trans (hbl2.mono (Nat.le_succ _))
        have HF := hide (And.intro hown2 (hcl.append hcl1))
        clear c2' hownA hown2 hgr2 hbl2 hB' hown1 hcl1 hgc1 hcl
        go_wp2_with fail
        refine ⟨⟨j + 1, xs ++ ys, by omega, by go_num, ?_, ?_, c3, hB2⟩, by simp [intOf]; omega⟩
        · rw [HTK.out, ← List.cons_append, ← HPRE.out, List.length_append]
          exact HF.out.1
        · rw [HTK.out, ← List.cons_append, ← HPRE.out]
          exact HF.out.2
      · have hd : (ds.take j).flatMap (listX k) = ds.flatMap (listX k) := by rw [List.take_of_length_le (by omega)]
        rw [hd] at hown hcl
        have HO := hide hown
        have HCL := hide hcl
        have hppos : 0 < (xD kd n ds :: ds.flatMap (listX k)).length := by simp
        obtain ⟨g, gc, hgv, hgb, hgl, hgc⟩ := own_cells hown hppos
        subst hgv
        clear hd hown hcl hgc
        go_wp2_with fail
        go_ret
        exact ⟨_, xs, rfl, own_base HO.out (by omega), HCL.out, hB⟩
end Go.Proofs.Ytcbbjjenkommeaa.Ex
