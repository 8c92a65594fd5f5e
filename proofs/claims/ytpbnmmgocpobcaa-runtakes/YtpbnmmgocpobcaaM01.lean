/- Expressions of a program in memory, as plain data; what was handed in lies so. -/
import Derived.Test.YtpbnmmgocpobcaaRows
import Derived.RowKit
import Derived.ProofKit
import Derived.OpenShut
import Derived.Deep.Strs
import Derived.Lib.SmallJoins
import Derived.WalkKit
import Derived.WalkSpells
import Derived.WalkLawsBesides
import Derived.WalkSmall
import Derived.Deep.RegionHeld3
import Derived.Deep.AppendLies
import Derived.OwnWalk
import Derived.Deep.SlicePairs
namespace Go.Proofs.Ytpbnmmgocpobcaa.Ex
open Go.RowKit Go.ChangeShapes Go.WideShapes
set_option linter.unusedVariables false

theorem Try.cellsX : Try.prog.cellsOf 54 = 3 := by kernel_rfl
theorem Try.cellsXs : Try.prog.cellsOf 52 = 1 := by kernel_rfl
theorem Try.cellsI : Try.prog.cellsOf 3 = 1 := by kernel_rfl

abbrev D := DataW Empty
def xD (k n : Int) (args : List D) : D := .agg [.lit (.int .i64 k), .lit (.int .i64 n), .slice args []]

/-- a list lies in memory, each element by itself. -/
def XS (size : Nat) (R : List Value → D → Prop) (w : World) (v : Value) (ds : List D) : Prop :=
  ds.length ≤ maxLen ∧ ∃ ao cap, v = .slice ao ds.length cap ∧ (ds ≠ [] → ∃ b off, ao = some ⟨b, off, none⟩ ∧
    ∀ (i : Nat) (d : D), ds[i]? = some d → ∃ cs : List Value, cs.length = size ∧ (∀ (j : Nat) (u : Value), cs[j]? = some u → w.cell? ⟨b, off + i * size + j, none⟩ = some u) ∧ R cs d)

def In64 (n : Int) : Prop := -9223372036854775808 ≤ n ∧ n ≤ 9223372036854775807

theorem wf64 {n : Int} (h : (Lit.int .i64 n).wf = true) : In64 n := by
  have h2 : (decide (IntKind.i64.min ≤ n) && decide (n ≤ IntKind.i64.max)) = true := h
  rw [Bool.and_eq_true, decide_eq_true_iff, decide_eq_true_iff] at h2
  exact h2

/-- an expression, so deep at most. -/
def RX (w : World) : Nat → List Value → D → Prop
  | 0, _, _ => False
  | k + 1, cs, d => ∃ (kd n : Int) (v : Value) (ds : List D), cs = [.int .i64 kd, .int .i64 n, v] ∧ d = xD kd n ds ∧ In64 kd ∧ In64 n ∧ XS 3 (RX w k) w v ds

theorem XS.mono {size : Nat} {R R' : List Value → D → Prop} {w w' : World} {v : Value} {ds : List D} (h : XS size R w v ds)
    (hw : ∀ a u, w.cell? a = some u → w'.cell? a = some u) (hR : ∀ cs d, d ∈ ds → R cs d → R' cs d) : XS size R' w' v ds := by
  obtain ⟨hm, ao, cap, hv, hc⟩ := h
  refine ⟨hm, ao, cap, hv, fun hne => ?_⟩
  obtain ⟨b, off, hao, hel⟩ := hc hne
  refine ⟨b, off, hao, fun i d hd => ?_⟩
  obtain ⟨cs, hl, hcs, hr⟩ := hel i d hd
  exact ⟨cs, hl, fun j u hu => hw _ _ (hcs j u hu), hR cs d (List.mem_of_getElem? hd) hr⟩

theorem RX.mono {w w' : World} (hw : ∀ a u, w.cell? a = some u → w'.cell? a = some u) :
    ∀ (k m : Nat) (cs : List Value) (d : D), k ≤ m → RX w k cs d → RX w' m cs d := by
  intro k
  induction k with
  | zero => intro m cs d _ h; exact h.elim
  | succ k ih =>
    intro m cs d hkm h
    obtain ⟨m', rfl⟩ : ∃ m', m = m' + 1 := ⟨m - 1, by omega⟩
    obtain ⟨kd, n, v, ds, hcs, hd, h1, h2, hr⟩ := h
    exact ⟨kd, n, v, ds, hcs, hd, h1, h2, hr.mono hw (fun cs d _ hh => ih m' cs d (by omega) hh)⟩

set_option maxRecDepth 100000 in
theorem open_expr {H : Type} {enc : TypeId × Value → H} {W : World} : ∀ (fuel : Nat) (cs : List Value) (x : DataW H × List MemPlace), DataW.trod enc Try.prog W 0 (fun _ => true) true fuel 54 cs = some x → ∃ d, RX W fuel cs d := by
  intro fuel
  induction fuel using Nat.strongRecOn with
  | ind fuel ih =>
    intro cs x h
    obtain ⟨xs, n, rfl, hx, hl, hxl, hf⟩ := DataW.trod_struct Try.underlying54 h
    rw [Try.cellsX] at hl
    match cs, hl, xs, hxl with
    | [c0, c1, c2], _, [y0, y1, y2], _ =>
      have h0 := hf 0 _ rfl
      have h1 := hf 1 _ rfl
      have h2 := hf 2 _ rfl
      simp [Try.cellsI, Try.cellsXs] at h0 h1 h2
      obtain ⟨a, e0, r0⟩ := DataW.trod_int Try.underlying3 h0
      obtain ⟨b, e1, r1⟩ := DataW.trod_int Try.underlying3 h1
      simp at e0 e1
      subst e0
      subst e1
      have wa : In64 a := wf64 r0.2
      have wb : In64 b := wf64 r1.2
      rcases DataW.trod_slice Try.underlying52 h2 with ⟨hcs, -⟩ | ⟨ad, len, cap, elems, rest, m, rfl, hcs, -, -, hlc, hcm, hel, hat, -, -⟩
      · simp at hcs
        subst hcs
        exact ⟨xD a b [], a, b, _, [], rfl, rfl, wa, wb, by simp, none, 0, rfl, fun h => absurd rfl h⟩
      · simp at hcs
        subst hcs
        rw [Try.cellsX] at hat
        have hget : ∀ i, i < len → ∃ d : D, ∃ cs : List Value, cs.length = 3 ∧ (∀ (j : Nat) (u : Value), cs[j]? = some u → W.cell? (ad.add (i * 3 + j)) = some u) ∧ RX W (m + 1) cs d := fun i hi => by
          have hi2 := hat i hi
          rw [List.getElem?_eq_getElem (by omega), Option.bind_eq_some_iff] at hi2
          obtain ⟨cs, hc, ht⟩ := hi2
          obtain ⟨-, hlen, hcell⟩ := World.cells?_some hc
          obtain ⟨d, hd⟩ := ih m (by omega) cs _ ht
          refine ⟨d, cs, hlen, fun j u hu => ?_, RX.mono (fun _ _ h => h) m (m + 1) cs d (by omega) hd⟩
          have hj : j < 3 := by have := (List.getElem?_eq_some_iff.1 hu).1; omega
          have hk := hcell j hj
          rw [hu] at hk
          rw [Addr.add_add] at hk
          exact hk
        obtain ⟨f, hf⟩ := Deep.choose_lt hget
        refine ⟨xD a b ((List.range len).map f), a, b, _, (List.range len).map f, rfl, rfl, wa, wb, by simp; omega, some ad, cap, by simp, fun hne => ?_⟩
        have h0 : 0 < len := by
          rcases Nat.eq_zero_or_pos len with h | h
          · subst h; simp at hne
          · exact h
        have hp : ∃ b off, ad = ⟨b, off, none⟩ := by
          obtain ⟨cs, hl, hc, -⟩ := hf 0 h0
          obtain ⟨u, hu⟩ : ∃ u, cs[0]? = some u := ⟨cs[0]'(by omega), List.getElem?_eq_getElem (by omega)⟩
          have hk := hc 0 u hu
          have hsp : ad.spot = none := by simpa [Addr.add] using World.cell?_spot hk
          obtain ⟨b, off, sp⟩ := ad
          simp only at hsp
          subst hsp
          exact ⟨b, off, rfl⟩
        obtain ⟨bb, off, rfl⟩ := hp
        refine ⟨bb, off, rfl, fun i d hd => ?_⟩
        have hi : i < len := by
          have := (List.getElem?_eq_some_iff.1 hd).1
          simpa using this
        have hd' : d = f i := by
          rw [List.getElem?_map, List.getElem?_range hi] at hd
          simpa using hd.symm
        subst hd'
        obtain ⟨cs, hl, hc, hr⟩ := hf i hi
        exact ⟨cs, hl, fun j u hu => by have := hc j u hu; rw [Addr.add_lit] at this; simpa [Nat.add_assoc] using this, hr⟩
end Go.Proofs.Ytpbnmmgocpobcaa.Ex
/- The document's own small functions of numbers: between, IsNumber, Wrap. -/
namespace Go.Proofs.Ytpbnmmgocpobcaa.Ex
open Go.RowKit
set_option linter.unusedVariables false

theorem hide {p : Prop} (h : p) : Hid p := h

def in32 (n : Int) : Bool := decide (-2147483648 ≤ n ∧ n ≤ 2147483647)

def wrap32 (z : Int) : Int := (z + 2147483648) % 4294967296 - 2147483648

theorem wrap32_in (z : Int) : -2147483648 ≤ wrap32 z ∧ wrap32 z ≤ 2147483647 := by unfold wrap32; omega

theorem tmod_facts (n : Int) : ∃ q, n = 4294967296 * q + n.tmod 4294967296 ∧ -4294967296 < n.tmod 4294967296 ∧ n.tmod 4294967296 < 4294967296 :=
  ⟨n.tdiv 4294967296, (Int.mul_tdiv_add_tmod n 4294967296).symm, Int.lt_tmod_of_pos n (by decide), Int.tmod_lt_of_pos n (by decide)⟩

end Go.Proofs.Ytpbnmmgocpobcaa.Ex
/- The document's own count of an expression's parts, up to enough. -/
namespace Go.Proofs.Ytpbnmmgocpobcaa.Ex
open Go.RowKit
set_option linter.unusedVariables false

theorem bcell {W w1 : World} (hb : Below W.heap.size W w1) : (∀ b o, b < W.heap.size → w1.cell? ⟨b, o, none⟩ = W.cell? ⟨b, o, none⟩) ∧ (∀ b o, b < W.heap.size → w1.frozen? ⟨b, o, none⟩ = W.frozen? ⟨b, o, none⟩) :=
  ⟨fun b o h => hb.cell (p := ⟨b, o, none⟩) h, fun b o h => hb.frozen (p := ⟨b, o, none⟩) h⟩

theorem cell_over {w w' : World} (hb : Below w.heap.size w w') (a : Addr) (u : Value) (h : w.cell? a = some u) : w'.cell? a = some u := by
  rw [hb.cell (World.block_lt_of_cell? w _ h)]
  exact h

theorem RX.over {w w' : World} {k : Nat} {cs : List Value} {d : D} (h : RX w k cs d) (hb : Below w.heap.size w w') : RX w' k cs d := RX.mono (cell_over hb) k k cs d (Nat.le_refl _) h

def argsOf : D → List D
  | .agg [_, _, .slice l _] => l
  | _ => []
def kindOf : D → Int
  | .agg (.lit (.int _ n) :: _) => n
  | _ => 0
def numOf : D → Int
  | .agg (_ :: .lit (.int _ n) :: _) => n
  | _ => 0
@[simp] theorem argsOf_x (k n : Int) (l : List D) : argsOf (xD k n l) = l := rfl
@[simp] theorem kindOf_x (k n : Int) (l : List D) : kindOf (xD k n l) = k := rfl
@[simp] theorem numOf_x (k n : Int) (l : List D) : numOf (xD k n l) = n := rfl

theorem RX.form {w : World} {k : Nat} {cs : List Value} {d : D} (h : RX w k cs d) : ∃ ao cap, cs = [.int .i64 (kindOf d), .int .i64 (numOf d), .slice ao (argsOf d).length cap] := by
  cases k with
  | zero => exact h.elim
  | succ k =>
    obtain ⟨kd, n, v, ds, rfl, rfl, -, -, -, ao, cap, rfl, -⟩ := h
    exact ⟨ao, cap, rfl⟩

def addParts (f : D → Int → Int) (m : Int) : List D → Int → Int
  | [], n => n
  | a :: l, n => if n ≤ m then addParts f m l (n + f a (m - n)) else n
def partsX : Nat → D → Int → Int
  | 0, _, _ => 1
  | k + 1, d, m => addParts (partsX k) m (argsOf d) 1

theorem addParts_le (f : D → Int → Int) (hf : ∀ d m, 0 ≤ m → 1 ≤ f d m ∧ f d m ≤ m + 1) (m : Int) : ∀ (l : List D) (n : Int), 1 ≤ n → n ≤ m + 1 → 1 ≤ addParts f m l n ∧ addParts f m l n ≤ m + 1
  | [], n, h1, h2 => ⟨h1, h2⟩
  | a :: l, n, h1, h2 => by
    unfold addParts
    split
    · have := hf a (m - n) (by omega)
      exact addParts_le f hf m l _ (by omega) (by omega)
    · exact ⟨h1, h2⟩
theorem partsX_le : ∀ (k : Nat) (d : D) (m : Int), 0 ≤ m → 1 ≤ partsX k d m ∧ partsX k d m ≤ m + 1
  | 0, _, m, h => by unfold partsX; omega
  | k + 1, d, m, h => addParts_le _ (partsX_le k) m _ 1 (by omega) (by omega)
theorem addParts_done (f : D → Int → Int) (m : Int) (l : List D) (n : Int) (h : m < n) : addParts f m l n = n := by
  cases l with
  | nil => rfl
  | cons a l => unfold addParts; rw [if_neg (by omega)]
theorem addParts_drop {f : D → Int → Int} {m n : Int} {l : List D} {j : Nat} (hj : j < l.length) (h : n ≤ m) : addParts f m (l.drop j) n = addParts f m (l.drop (j + 1)) (n + f l[j] (m - n)) := by
  rw [List.drop_eq_getElem_cons hj]
  rw [addParts, if_pos h]

end Go.Proofs.Ytpbnmmgocpobcaa.Ex
/- The document's own value of an expression. -/
namespace Go.Proofs.Ytpbnmmgocpobcaa.Ex
open Go.RowKit
set_option linter.unusedVariables false

def IsInts (w : World) (v : Value) (l : List Int) : Prop :=
  ∃ ao cap, v = .slice ao l.length cap ∧ (l ≠ [] → ∃ b off, ao = some ⟨b, off, none⟩ ∧ ∀ i (h : i < l.length), w.cell? ⟨b, off + i, none⟩ = some (.int .i64 l[i]))

theorem IsInts.over {w w' : World} {v : Value} {l : List Int} (h : IsInts w v l) (hb : Below w.heap.size w w') : IsInts w' v l := by
  obtain ⟨ao, cap, hv, hc⟩ := h
  refine ⟨ao, cap, hv, fun hne => ?_⟩
  obtain ⟨b, off, hao, hel⟩ := hc hne
  exact ⟨b, off, hao, fun i hi => cell_over hb _ _ (hel i hi)⟩

def opX (k a b : Int) : Int :=
  if k = 3 then wrap32 (a + b) else if k = 4 then wrap32 (a - b) else if k = 5 then wrap32 (a * b) else if k = 6 ∧ a < b ∨ k = 7 ∧ a = b then 1 else 0
def valX (vs : List Int) : Nat → D → Int
  | 0, _ => 0
  | k + 1, d => if kindOf d = 1 then numOf d else if kindOf d = 2 then vs.getD (numOf d).toNat 0 else
    match argsOf d with
    | [x, y] => opX (kindOf d) (valX vs k x) (valX vs k y)
    | _ => 0
def okX (m : Nat) : Nat → D → Prop
  | 0, _ => False
  | k + 1, d => (kindOf d = 1 ∧ -9999999 ≤ numOf d ∧ numOf d ≤ 9999999) ∨ (kindOf d = 2 ∧ 0 ≤ numOf d ∧ numOf d < m) ∨ (3 ≤ kindOf d ∧ kindOf d ≤ 7 ∧ ∃ x y, argsOf d = [x, y] ∧ okX m k x ∧ okX m k y)

def I32 (n : Int) : Prop := -2147483648 ≤ n ∧ n ≤ 2147483647

theorem opX_in (k a b : Int) : I32 (opX k a b) := by
  unfold opX I32
  have h1 := wrap32_in (a + b)
  have h2 := wrap32_in (a - b)
  have h3 := wrap32_in (a * b)
  repeat' split
  all_goals omega

theorem valX_in {vs : List Int} (hv : ∀ x ∈ vs, I32 x) : ∀ (k : Nat) (d : D), okX vs.length k d → I32 (valX vs k d) := by
  intro k
  induction k with
  | zero => intro d h; exact h.elim
  | succ k ih =>
    intro d h
    rcases h with ⟨h1, h2, h3⟩ | ⟨h1, h2, h3⟩ | ⟨h1, h2, x, y, hxy, hx, hy⟩
    · unfold valX
      rw [if_pos h1]
      unfold I32
      omega
    · unfold valX
      rw [if_neg (by omega), if_pos h1]
      have hl : (numOf d).toNat < vs.length := by omega
      rw [List.getD_eq_getElem?_getD, List.getElem?_eq_getElem hl]
      exact hv _ (List.getElem_mem hl)
    · unfold valX
      rw [if_neg (by omega), if_neg (by omega), hxy]
      exact opX_in _ _ _

theorem held8 {w w0 w1 : World} {a0 a1 a2 a3 a4 a5 a6 a7 : Addr} {v0 v1 v2 v3 v4 v5 v6 v7 : Value}
    (h : w0.cell? a0 = some v0 ∧ w0.cell? a1 = some v1 ∧ w0.cell? a2 = some v2 ∧ w0.cell? a3 = some v3 ∧ w0.cell? a4 = some v4 ∧ w0.cell? a5 = some v5 ∧ w0.cell? a6 = some v6 ∧ w0.cell? a7 = some v7 ∧ Below w.heap.size w w0) (hb : Below w0.heap.size w0 w1) :
    w1.cell? a0 = some v0 ∧ w1.cell? a1 = some v1 ∧ w1.cell? a2 = some v2 ∧ w1.cell? a3 = some v3 ∧ w1.cell? a4 = some v4 ∧ w1.cell? a5 = some v5 ∧ w1.cell? a6 = some v6 ∧ w1.cell? a7 = some v7 ∧ Below w.heap.size w w1 := by
  obtain ⟨h0, h1, h2, h3, h4, h5, h6, h7, hB⟩ := h
  exact ⟨cell_over hb _ _ h0, cell_over hb _ _ h1, cell_over hb _ _ h2, cell_over hb _ _ h3, cell_over hb _ _ h4, cell_over hb _ _ h5, cell_over hb _ _ h6, cell_over hb _ _ h7, hB.trans (hb.mono hB.size)⟩

theorem below_drewN {W w : World} {n : Nat} (h : Below n W w) (k : Nat) : Below n W (w.drewN k) := by
  induction k with
  | zero => exact h
  | succ k ih => exact ih.drew

end Go.Proofs.Ytpbnmmgocpobcaa.Ex
/- The document's own value of an expression: of two parts. -/
namespace Go.Proofs.Ytpbnmmgocpobcaa.Ex
open Go.RowKit
set_option linter.unusedVariables false

theorem mul_in {a c : Int} (a1 : -2147483648 ≤ a) (a2 : a ≤ 2147483647) (c1 : -2147483648 ≤ c) (c2 : c ≤ 2147483647) : -4611686018427387904 ≤ a * c ∧ a * c ≤ 4611686018427387904 := by
  have h : (a * c).natAbs ≤ 2147483648 * 2147483648 := by
    rw [Int.natAbs_mul]
    exact Nat.mul_le_mul (by omega) (by omega)
  omega

end Go.Proofs.Ytpbnmmgocpobcaa.Ex
/- The document's own value of an expression that is right. -/
namespace Go.Proofs.Ytpbnmmgocpobcaa.Ex
open Go.RowKit
set_option linter.unusedVariables false

end Go.Proofs.Ytpbnmmgocpobcaa.Ex
/- The document's own list of an expression's parts. -/
namespace Go.Proofs.Ytpbnmmgocpobcaa.Ex
open Go.RowKit
set_option linter.unusedVariables false

theorem own_over {W W' : World} {B e s : Nat} {v : Value} {k : Nat} {xs : List Value} (h : W.ownsRow B e s v k xs) (hb : Below W.heap.size W W') : W'.ownsRow B e s v k xs := by
  obtain ⟨h1, h2⟩ := h
  refine ⟨h1, ?_⟩
  rcases h2 with h2 | ⟨g, cap, cur, hv, hg, hh, r⟩
  · exact Or.inl h2
  · refine Or.inr ⟨g, cap, cur, hv, hg, ?_, r⟩
    rw [hb.block g (Array.getElem?_eq_some_iff.1 hh).1]
    exact hh

theorem own_base {W : World} {B B' e s : Nat} {v : Value} {k : Nat} {xs : List Value} (h : W.ownsRow B e s v k xs) (hb : B' ≤ B) : W.ownsRow B' e s v k xs := by
  obtain ⟨h1, h2⟩ := h
  refine ⟨h1, ?_⟩
  rcases h2 with h2 | ⟨g, cap, cur, hv, hg, r⟩
  · exact Or.inl h2
  · exact Or.inr ⟨g, cap, cur, hv, Nat.le_trans hb hg, r⟩

theorem own_lt {W : World} {B e s : Nat} {v : Value} {k : Nat} {xs : List Value} (h : W.ownsRow B e s v k xs) {g : Nat} (hg : v.ownBlock = some g) : B ≤ g ∧ g < W.heap.size := by
  rcases h.2 with ⟨rfl, _⟩ | ⟨g', cap, cur, rfl, hg', hh, _⟩
  · cases hg
  · simp [Value.ownBlock] at hg
    subst hg
    exact ⟨hg', (Array.getElem?_eq_some_iff.1 hh).1⟩

theorem below_grown {B e s : Nat} {W W' : World} {v : Value} {k : Nat} {xs : List Value} (h : W.ownsRow B e s v k xs) (hg : W.grownBy W' v.ownBlock) (hB : B ≤ W.heap.size) : Below B W W' :=
  ⟨hg.os, hg.tape, hg.output, hg.size, fun j hj => hg.block j (Nat.lt_of_lt_of_le hj hB) (fun e => by have := (own_lt h e.symm).1; omega)⟩

/-- the cells of parts that lie one behind the other. -/
def CellsOf : List D → List Value → Prop
  | [], xs => xs = []
  | d :: l, xs => ∃ (ao : Option Addr) (cap : Nat) (r : List Value), xs = .int .i64 (kindOf d) :: .int .i64 (numOf d) :: .slice ao (argsOf d).length cap :: r ∧ CellsOf l r

theorem CellsOf.append : ∀ {l l' : List D} {xs xs' : List Value}, CellsOf l xs → CellsOf l' xs' → CellsOf (l ++ l') (xs ++ xs')
  | [], _, _, _, h, h' => by have e : _ = _ := h; subst e; exact h'
  | d :: l, _, _, _, h, h' => by
    obtain ⟨ao, cap, r, rfl, hr⟩ := h
    exact ⟨ao, cap, r ++ _, rfl, hr.append h'⟩
theorem CellsOf.one : ∀ {l : List D} {xs : List Value}, CellsOf l xs → ∀ u ∈ xs, u.oneCell' = true
  | [], _, h, u, hu => by have e : _ = _ := h; subst e; cases hu
  | d :: l, _, h, u, hu => by
    obtain ⟨ao, cap, r, rfl, hr⟩ := h
    simp only [List.mem_cons] at hu
    rcases hu with rfl | rfl | rfl | hu
    · rfl
    · rfl
    · rfl
    · exact hr.one u hu
theorem CellsOf.length : ∀ {l : List D} {xs : List Value}, CellsOf l xs → xs.length = l.length * 3
  | [], _, h => by have e : _ = _ := h; subst e; rfl
  | d :: l, _, h => by
    obtain ⟨ao, cap, r, rfl, hr⟩ := h
    have := hr.length
    simp
    omega

def listX : Nat → D → List D
  | 0, _ => []
  | k + 1, d => d :: (argsOf d).flatMap (listX k)
theorem listX_pos {w : World} {k : Nat} {cs : List Value} {d : D} (h : RX w k cs d) : 0 < (listX k d).length := by
  cases k with
  | zero => exact h.elim
  | succ k => simp [listX]

theorem own_cells {W : World} {B e : Nat} {v : Value} {n : Nat} {xs : List Value} (h : W.ownsRow B e 3 v n xs) (hn : 0 < n) : ∃ g cap, v = .slice (some ⟨g, 0, none⟩) n cap ∧ B ≤ g ∧ g < W.heap.size ∧ ∀ j u, xs[j]? = some u → W.cell? ((⟨g, 0, none⟩ : Addr).add j) = some u := by
  rcases h.2 with ⟨_, h0⟩ | ⟨g, cap, cur, hv, hb, hg, h1, h2, h3, h4⟩
  · omega
  · refine ⟨g, cap, hv, hb, (Array.getElem?_eq_some_iff.1 hg).1, fun j u hu => ?_⟩
    rw [Addr.add_lit, Lib.cell_of_heap hg]
    rw [← h4, List.getElem?_take] at hu
    split at hu
    · simpa using hu
    · cases hu
end Go.Proofs.Ytpbnmmgocpobcaa.Ex
/- The document's own list of an expression's parts: the walk. -/
namespace Go.Proofs.Ytpbnmmgocpobcaa.Ex
open Go.RowKit
set_option linter.unusedVariables false

theorem Try.infoX : (Try.prog.info? 54).map (fun i => (i.zero, i.size, i.bytes)) = some (some (.agg #[.int .i64 0, .int .i64 0, .slice none 0 0]), 3, 40) := by kernel_rfl

theorem own_first (w : World) (x y z : Value) (B : Nat) (hB : B ≤ w.heap.size) : (w.alloc (.cells #[x, y, z] 54)).ownsRow B 54 3 (.slice (some ⟨w.heap.size, 0, none⟩) 1 1) 1 [x, y, z] :=
  ⟨rfl, Or.inr ⟨w.heap.size, 1, #[x, y, z], rfl, hB, heap_alloc_new w _, Nat.le_refl _, by decide, rfl, rfl⟩⟩

end Go.Proofs.Ytpbnmmgocpobcaa.Ex
/- The document's own check of an expression. -/
namespace Go.Proofs.Ytpbnmmgocpobcaa.Ex
open Go.RowKit
set_option linter.unusedVariables false

def errX (vars k n : Int) (l : Nat) : Int :=
  if ¬ (1 ≤ k ∧ k ≤ 7) then 7 else if k ≤ 2 ∧ l ≠ 0 ∨ 2 < k ∧ l ≠ 2 then 1 else if k = 1 ∧ ¬ (-9999999 ≤ n ∧ n ≤ 9999999) ∨ 2 < k ∧ n ≠ 0 then 3 else if k = 2 ∧ ¬ (0 ≤ n ∧ n ≤ vars - 1) then 5 else 0
def firstX (vars : Int) : List D → Int
  | [] => 0
  | d :: l => if errX vars (kindOf d) (numOf d) (argsOf d).length = 0 then firstX vars l else errX vars (kindOf d) (numOf d) (argsOf d).length
def checkX (vars : Int) (k : Nat) (d : D) : Int := if 15 < partsX k d 15 then 2 else firstX vars (listX k d)

theorem firstX_drop {vars : Int} {l : List D} {j : Nat} (hj : j < l.length) : firstX vars (l.drop j) = if errX vars (kindOf l[j]) (numOf l[j]) (argsOf l[j]).length = 0 then firstX vars (l.drop (j + 1)) else errX vars (kindOf l[j]) (numOf l[j]) (argsOf l[j]).length := by
  rw [List.drop_eq_getElem_cons hj]
  rfl

theorem CellsOf.at : ∀ {l : List D} {xs : List Value}, CellsOf l xs → ∀ (j : Nat) (hj : j < l.length), ∃ (ao : Option Addr) (cap : Nat), xs[j * 3]? = some (.int .i64 (kindOf l[j])) ∧ xs[j * 3 + 1]? = some (.int .i64 (numOf l[j])) ∧ xs[j * 3 + 2]? = some (.slice ao (argsOf l[j]).length cap)
  | d :: l, _, h, 0, hj => by
    obtain ⟨ao, cap, r, rfl, hr⟩ := h
    exact ⟨ao, cap, rfl, rfl, rfl⟩
  | d :: l, _, h, j + 1, hj => by
    obtain ⟨ao, cap, r, rfl, hr⟩ := h
    obtain ⟨ao', cap', h0, h1, h2⟩ := hr.at j (by simpa using hj)
    refine ⟨ao', cap', ?_, ?_, ?_⟩
    · rw [Nat.succ_mul]; exact h0
    · rw [Nat.succ_mul]; exact h1
    · rw [Nat.succ_mul]; exact h2

theorem addParts_len (f : D → Int → Int) (g : D → List D) (hf : ∀ d m, 0 ≤ m → f d m ≤ m → ((g d).length : Int) ≤ f d m) (m : Int) : ∀ (l : List D) (n : Int), addParts f m l n ≤ m → ((l.flatMap g).length : Int) + n ≤ addParts f m l n
  | [], n, _ => by simp [addParts]
  | a :: l, n, h => by
    rw [addParts] at h ⊢
    split at h
    · rename_i hn
      rw [if_pos hn]
      have h1 := addParts_len f g hf m l _ h
      have h2 : (((a :: l).flatMap g).length : Int) = ((g a).length : Int) + ((l.flatMap g).length : Int) := by simp
      have h3 := hf a (m - n) (by omega) (by omega)
      omega
    · omega
theorem listX_len : ∀ (k : Nat) (d : D) (m : Int), 0 ≤ m → partsX k d m ≤ m → ((listX k d).length : Int) ≤ partsX k d m
  | 0, _, m, _, h => by simp [listX, partsX]
  | k + 1, d, m, h0, h => by
    have h1 := addParts_len (partsX k) (listX k) (listX_len k) m (argsOf d) 1 h
    have h2 : ((listX (k + 1) d).length : Int) = (((argsOf d).flatMap (listX k)).length : Int) + 1 := by simp [listX]
    rw [h2]
    exact h1

end Go.Proofs.Ytpbnmmgocpobcaa.Ex
/- The document's own check of what is to be reckoned; an expression that passes it is right. -/
namespace Go.Proofs.Ytpbnmmgocpobcaa.Ex
open Go.RowKit
set_option linter.unusedVariables false

def evalErr (vs : List Int) (k : Nat) (d : D) : Int := if checkX vs.length k d = 0 then (if vs.all in32 = true then 0 else 3) else checkX vs.length k d

theorem firstX_zero {vars : Int} : ∀ {l : List D}, firstX vars l = 0 → ∀ d ∈ l, errX vars (kindOf d) (numOf d) (argsOf d).length = 0
  | [], _, d, hd => by cases hd
  | a :: l, h, d, hd => by
    rw [firstX] at h
    split at h
    · rename_i h0
      rcases List.mem_cons.1 hd with rfl | hd
      · exact h0
      · exact firstX_zero h d hd
    · rename_i h0
      exact absurd h h0

theorem errX_zero {vars k n : Int} {l : Nat} (h : errX vars k n l = 0) : (k = 1 ∧ -9999999 ≤ n ∧ n ≤ 9999999) ∨ (k = 2 ∧ 0 ≤ n ∧ n < vars) ∨ (3 ≤ k ∧ k ≤ 7 ∧ l = 2) := by
  unfold errX at h
  split at h
  · omega
  · split at h
    · omega
    · split at h
      · omega
      · split at h
        · omega
        · omega

theorem okX_of {w : World} {m : Nat} : ∀ (k : Nat) (cs : List Value) (d : D), RX w k cs d → (∀ x ∈ listX k d, errX m (kindOf x) (numOf x) (argsOf x).length = 0) → okX m k d := by
  intro k
  induction k with
  | zero => intro cs d h; exact h.elim
  | succ k ih =>
    intro cs d h ha
    obtain ⟨kd, n, v, ds, rfl, rfl, hkd, hn, hlen, ao, cap, rfl, hc⟩ := h
    have h0 := errX_zero (ha (xD kd n ds) (by simp [listX]))
    simp only [kindOf_x, numOf_x, argsOf_x] at h0
    rcases h0 with h0 | h0 | ⟨h1, h2, h3⟩
    · exact Or.inl h0
    · exact Or.inr (Or.inl h0)
    · refine Or.inr (Or.inr ⟨h1, h2, ?_⟩)
      match ds, h3 with
      | [x, y], _ =>
        obtain ⟨b, off, -, hel⟩ := hc (by simp)
        obtain ⟨xs, -, -, hx⟩ := hel 0 x rfl
        obtain ⟨ys, -, -, hy⟩ := hel 1 y rfl
        exact ⟨x, y, rfl, ih xs x hx (fun q hq => ha q (by simp [listX, hq])), ih ys y hy (fun q hq => ha q (by simp [listX, hq]))⟩

theorem evalErr_zero {w : World} {vs : List Int} {k : Nat} {cs : List Value} {d : D} (h : RX w k cs d) (h0 : evalErr vs k d = 0) : okX vs.length k d ∧ ∀ x ∈ vs, I32 x := by
  unfold evalErr at h0
  split at h0
  · rename_i hc
    split at h0
    · rename_i hv
      refine ⟨?_, fun x hx => by have := List.all_eq_true.1 hv x hx; simpa [in32, I32] using this⟩
      unfold checkX at hc
      split at hc
      · omega
      · exact okX_of k cs d h (firstX_zero hc)
    · omega
  · rename_i hc
    exact absurd h0 hc

end Go.Proofs.Ytpbnmmgocpobcaa.Ex
/- An expression and numbers that were handed in lie in memory as such. -/
namespace Go.Proofs.Ytpbnmmgocpobcaa.Ex
open Go.RowKit Go.ChangeShapes Go.WideShapes
set_option linter.unusedVariables false

theorem open_vars {H : Type} {enc : TypeId × Value → H} {W : World} {fuel : Nat} {v : Value} {x : DataW H × List MemPlace} (h : DataW.trod enc Try.prog W 0 (fun _ => true) true fuel 25 [v] = some x) :
    ∃ l : List Int, IsInts W v l ∧ l.length ≤ maxLen := by
  rcases Deep.open_slice1 Try.underlying25 Try.cellsI h with ⟨hcs, hx⟩ | ⟨a, len, cap, m, n, V, D, Pl, hcs, _, hl, hm, hmm, hx, hel⟩
  · simp at hcs
    subst hcs
    exact ⟨[], ⟨none, 0, rfl, fun h => absurd rfl h⟩, by simp⟩
  · simp at hcs
    subst hcs
    simp only [if_true] at hmm
    have hget : ∀ i, i < len → ∃ t : Int, W.cell? (a.add i) = some (.int .i64 t) := fun i hi => by
      obtain ⟨hc, htr⟩ := hel i (by omega)
      obtain ⟨t, e, _⟩ := DataW.trod_int Try.underlying3 htr
      simp at e
      rw [e] at hc
      exact ⟨t, hc⟩
    obtain ⟨f, hf⟩ := Deep.choose_lt hget
    refine ⟨(List.range len).map f, ⟨some a, cap, by simp, fun hne => ?_⟩, by simpa using Nat.le_trans hl hm⟩
    have h0 : 0 < len := by
      rcases Nat.eq_zero_or_pos len with h | h
      · subst h; simp at hne
      · exact h
    have hp : ∃ b off, a = ⟨b, off, none⟩ := by
      have hk := hf 0 h0
      have hsp : a.spot = none := by simpa [Addr.add] using World.cell?_spot hk
      obtain ⟨b, off, sp⟩ := a
      simp only at hsp
      subst hsp
      exact ⟨b, off, rfl⟩
    obtain ⟨b, off, rfl⟩ := hp
    refine ⟨b, off, rfl, fun i hi => ?_⟩
    have hi' : i < len := by simpa using hi
    have hc := hf i hi'
    rw [Addr.add_lit] at hc
    simpa using hc

set_option maxRecDepth 100000 in
/-- an argument that is an expression. -/
theorem open_arg {H : Type} {enc : TypeId × Value → H} {W : World} {r : Go.Reach} {b0 : Nat} {v : Value} {d : DataW H} {p : List MemPlace} (hv : Value.okWide Try.prog W r b0 54 v) (h : DataW.Trod enc Try.prog W 0 (fun _ => true) true 54 v d p) :
    ∃ (k : Nat) (cs : List Value) (d' : Ex.D), v = .agg cs.toArray ∧ RX W k cs d' := by
  obtain ⟨cs, rfl, hsz⟩ := okWide_struct Try.underlying54 hv
  obtain ⟨fuel, hf⟩ := h
  obtain ⟨d', hd⟩ := open_expr fuel _ _ hf
  exact ⟨fuel, _, d', by simp [Value.cells], hd⟩
end Go.Proofs.Ytpbnmmgocpobcaa.Ex
