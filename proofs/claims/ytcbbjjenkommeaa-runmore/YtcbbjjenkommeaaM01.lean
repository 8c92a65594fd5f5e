/- Expressions of a program in memory, as plain data; what was handed in lies so. -/
import Derived.Test.YtcbbjjenkommeaaRows
import Derived.RowKit
import Derived.ProofKit
import Derived.OpenShut
import Derived.Deep.Strs
import Derived.Lib.SmallJoins
import Derived.WalkKit
import Derived.WalkSpells
import Derived.WalkLawsBesides
import Derived.WalkSmall
import Derived.Deep.RegionHeld3
import Derived.Deep.AppendLies
import Derived.OwnWalk
import Derived.Deep.SlicePairs
namespace Go.Proofs.Ytcbbjjenkommeaa.Ex
open Go.RowKit Go.ChangeShapes Go.WideShapes
set_option linter.unusedVariables false
theorem Try.cellsX : Try.prog.cellsOf 24 = 3 := by kernel_rfl
theorem Try.cellsXs : Try.prog.cellsOf 22 = 1 := by kernel_rfl
theorem Try.cellsI : Try.prog.cellsOf 3 = 1 := by kernel_rfl

abbrev D := DataW Empty
def xD (k n : Int) (args : List D) : D := .agg [.lit (.int .i64 k), .lit (.int .i64 n), .slice args []]

/-- a list lies in memory, each element by itself. -/
def XS (size : Nat) (R : List Value → D → Prop) (w : World) (v : Value) (ds : List D) : Prop :=
  ds.length ≤ maxLen ∧ ∃ ao cap, v = .slice ao ds.length cap ∧ (ds ≠ [] → ∃ b off, ao = some ⟨b, off, none⟩ ∧
    ∀ (i : Nat) (d : D), ds[i]? = some d → ∃ cs : List Value, cs.length = size ∧ (∀ (j : Nat) (u : Value), cs[j]? = some u → w.cell? ⟨b, off + i * size + j, none⟩ = some u) ∧ R cs d)

def In64 (n : Int) : Prop := -9223372036854775808 ≤ n ∧ n ≤ 9223372036854775807

theorem wf64 {n : Int} (h : (Lit.int .i64 n).wf = true) : In64 n := by
  have h2 : (decide (IntKind.i64.min ≤ n) && decide (n ≤ IntKind.i64.max)) = true := h
  rw [Bool.and_eq_true, decide_eq_true_iff, decide_eq_true_iff] at h2
  exact h2

/-- an expression, so deep at most. -/
def RX (w : World) : Nat → List Value → D → Prop
  | 0, _, _ => False
  | k + 1, cs, d => ∃ (kd n : Int) (v : Value) (ds : List D), cs = [.int .i64 kd, .int .i64 n, v] ∧ d = xD kd n ds ∧ In64 kd ∧ In64 n ∧ XS 3 (RX w k) w v ds

theorem XS.mono {size : Nat} {R R' : List Value → D → Prop} {w w' : World} {v : Value} {ds : List D} (h : XS size R w v ds)
    (hw : ∀ a u, w.cell? a = some u → w'.cell? a = some u) (hR : ∀ cs d, d ∈ ds → R cs d → R' cs d) : XS size R' w' v ds := by
  obtain ⟨hm, ao, cap, hv, hc⟩ := h
  refine ⟨hm, ao, cap, hv, fun hne => ?_⟩
  obtain ⟨b, off, hao, hel⟩ := hc hne
  refine ⟨b, off, hao, fun i d hd => ?_⟩
  obtain ⟨cs, hl, hcs, hr⟩ := hel i d hd
  exact ⟨cs, hl, fun j u hu => hw _ _ (hcs j u hu), hR cs d (List.mem_of_getElem? hd) hr⟩

theorem RX.mono {w w' : World} (hw : ∀ a u, w.cell? a = some u → w'.cell? a = some u) :
    ∀ (k m : Nat) (cs : List Value) (d : D), k ≤ m → RX w k cs d → RX w' m cs d := by
  intro k
  induction k with
  | zero => intro m cs d _ h; exact h.elim
  | succ k ih =>
    intro m cs d hkm h
    obtain ⟨m', rfl⟩ : ∃ m', m = m' + 1 := ⟨m - 1, by omega⟩
    obtain ⟨kd, n, v, ds, hcs, hd, h1, h2, hr⟩ := h
    exact ⟨kd, n, v, ds, hcs, hd, h1, h2, hr.mono hw (fun cs d _ hh => ih m' cs d (by omega) hh)⟩

set_option maxRecDepth 100000 in
theorem open_expr {H : Type} {enc : TypeId × Value → H} {W : World} : ∀ (fuel : Nat) (cs : List Value) (x : DataW H × List MemPlace), DataW.trod enc Try.prog W 0 (fun _ => true) true fuel 24 cs = some x → ∃ d, RX W fuel cs d := by
  intro fuel
  induction fuel using Nat.strongRecOn with
  | ind fuel ih =>
    intro cs x h
    obtain ⟨xs, n, rfl, hx, hl, hxl, hf⟩ := DataW.trod_struct Try.underlying24 h
    rw [Try.cellsX] at hl
    match cs, hl, xs, hxl with
    | [c0, c1, c2], _, [y0, y1, y2], _ =>
      have h0 := hf 0 _ rfl
      have h1 := hf 1 _ rfl
      have h2 := hf 2 _ rfl
      simp [Try.cellsI, Try.cellsXs] at h0 h1 h2
      obtain ⟨a, e0, r0⟩ := DataW.trod_int Try.underlying3 h0
      obtain ⟨b, e1, r1⟩ := DataW.trod_int Try.underlying3 h1
      simp at e0 e1
      subst e0
      subst e1
      have wa : In64 a := wf64 r0.2
      have wb : In64 b := wf64 r1.2
      rcases DataW.trod_slice Try.underlying22 h2 with ⟨hcs, -⟩ | ⟨ad, len, cap, elems, rest, m, rfl, hcs, -, -, hlc, hcm, hel, hat, -, -⟩
      · simp at hcs
        subst hcs
        exact ⟨xD a b [], a, b, _, [], rfl, rfl, wa, wb, by simp, none, 0, rfl, fun h => absurd rfl h⟩
      · simp at hcs
        subst hcs
        rw [Try.cellsX] at hat
        have hget : ∀ i, i < len → ∃ d : D, ∃ cs : List Value, cs.length = 3 ∧ (∀ (j : Nat) (u : Value), cs[j]? = some u → W.cell? (ad.add (i * 3 + j)) = some u) ∧ RX W (m + 1) cs d := fun i hi => by
          have hi2 := hat i hi
          rw [List.getElem?_eq_getElem (by omega), Option.bind_eq_some_iff] at hi2
          obtain ⟨cs, hc, ht⟩ := hi2
          obtain ⟨-, hlen, hcell⟩ := World.cells?_some hc
          obtain ⟨d, hd⟩ := ih m (by omega) cs _ ht
          refine ⟨d, cs, hlen, fun j u hu => ?_, RX.mono (fun _ _ h => h) m (m + 1) cs d (by omega) hd⟩
          have hj : j < 3 := by have := (List.getElem?_eq_some_iff.1 hu).1; omega
          have hk := hcell j hj
          rw [hu] at hk
          rw [Addr.add_add] at hk
          exact hk
        obtain ⟨f, hf⟩ := Deep.choose_lt hget
        refine ⟨xD a b ((List.range len).map f), a, b, _, (List.range len).map f, rfl, rfl, wa, wb, by simp; omega, some ad, cap, by simp, fun hne => ?_⟩
        have h0 : 0 < len := by
          rcases Nat.eq_zero_or_pos len with h | h
          · subst h; simp at hne
          · exact h
        have hp : ∃ b off, ad = ⟨b, off, none⟩ := by
          obtain ⟨cs, hl, hc, -⟩ := hf 0 h0
          obtain ⟨u, hu⟩ : ∃ u, cs[0]? = some u := ⟨cs[0]'(by omega), List.getElem?_eq_getElem (by omega)⟩
          have hk := hc 0 u hu
          have hsp : ad.spot = none := by simpa [Addr.add] using World.cell?_spot hk
          obtain ⟨b, off, sp⟩ := ad
          simp only at hsp
          subst hsp
          exact ⟨b, off, rfl⟩
        obtain ⟨bb, off, rfl⟩ := hp
        refine ⟨bb, off, rfl, fun i d hd => ?_⟩
        have hi : i < len := by
          have := (List.getElem?_eq_some_iff.1 hd).1
          simpa using this
        have hd' : d = f i := by
          rw [List.getElem?_map, List.getElem?_range hi] at hd
          simpa using hd.symm
        subst hd'
        obtain ⟨cs, hl, hc, hr⟩ := hf i hi
        exact ⟨cs, hl, fun j u hu => by have := hc j u hu; rw [Addr.add_lit] at this; simpa [Nat.add_assoc] using this, hr⟩
end Go.Proofs.Ytcbbjjenkommeaa.Ex
namespace Go.Proofs.Ytcbbjjenkommeaa.Ex
open Go.RowKit
set_option linter.unusedVariables false
theorem hide {p : Prop} (h : p) : Hid p := h

def in32 (n : Int) : Bool := decide (-2147483648 ≤ n ∧ n ≤ 2147483647)

def wrap32 (z : Int) : Int := (z + 2147483648) % 4294967296 - 2147483648

theorem wrap32_in (z : Int) : -2147483648 ≤ wrap32 z ∧ wrap32 z ≤ 2147483647 := by unfold wrap32; omega
theorem bcell {W w1 : World} (hb : Below W.heap.size W w1) : (∀ b o, b < W.heap.size → w1.cell? ⟨b, o, none⟩ = W.cell? ⟨b, o, none⟩) ∧ (∀ b o, b < W.heap.size → w1.frozen? ⟨b, o, none⟩ = W.frozen? ⟨b, o, none⟩) :=
  ⟨fun b o h => hb.cell (p := ⟨b, o, none⟩) h, fun b o h => hb.frozen (p := ⟨b, o, none⟩) h⟩

theorem cell_over {w w' : World} (hb : Below w.heap.size w w') (a : Addr) (u : Value) (h : w.cell? a = some u) : w'.cell? a = some u := by
  rw [hb.cell (World.block_lt_of_cell? w _ h)]
  exact h

theorem RX.over {w w' : World} {k : Nat} {cs : List Value} {d : D} (h : RX w k cs d) (hb : Below w.heap.size w w') : RX w' k cs d := RX.mono (cell_over hb) k k cs d (Nat.le_refl _) h

def argsOf : D → List D
  | .agg [_, _, .slice l _] => l
  | _ => []
def kindOf : D → Int
  | .agg (.lit (.int _ n) :: _) => n
  | _ => 0
def numOf : D → Int
  | .agg (_ :: .lit (.int _ n) :: _) => n
  | _ => 0
@[simp] theorem argsOf_x (k n : Int) (l : List D) : argsOf (xD k n l) = l := rfl
@[simp] theorem kindOf_x (k n : Int) (l : List D) : kindOf (xD k n l) = k := rfl
@[simp] theorem numOf_x (k n : Int) (l : List D) : numOf (xD k n l) = n := rfl

theorem RX.form {w : World} {k : Nat} {cs : List Value} {d : D} (h : RX w k cs d) : ∃ ao cap, cs = [.int .i64 (kindOf d), .int .i64 (numOf d), .slice ao (argsOf d).length cap] := by
  cases k with
  | zero => exact h.elim
  | succ k =>
    obtain ⟨kd, n, v, ds, rfl, rfl, -, -, -, ao, cap, rfl, -⟩ := h
    exact ⟨ao, cap, rfl⟩

def addParts (f : D → Int → Int) (m : Int) : List D → Int → Int
  | [], n => n
  | a :: l, n => if n ≤ m then addParts f m l (n + f a (m - n)) else n
def partsX : Nat → D → Int → Int
  | 0, _, _ => 1
  | k + 1, d, m => addParts (partsX k) m (argsOf d) 1

theorem addParts_le (f : D → Int → Int) (hf : ∀ d m, 0 ≤ m → 1 ≤ f d m ∧ f d m ≤ m + 1) (m : Int) : ∀ (l : List D) (n : Int), 1 ≤ n → n ≤ m + 1 → 1 ≤ addParts f m l n ∧ addParts f m l n ≤ m + 1
  | [], n, h1, h2 => ⟨h1, h2⟩
  | a :: l, n, h1, h2 => by
    unfold addParts
    split
    · have := hf a (m - n) (by omega)
      exact addParts_le f hf m l _ (by omega) (by omega)
    · exact ⟨h1, h2⟩
theorem partsX_le : ∀ (k : Nat) (d : D) (m : Int), 0 ≤ m → 1 ≤ partsX k d m ∧ partsX k d m ≤ m + 1
  | 0, _, m, h => by unfold partsX; omega
  | k + 1, d, m, h => addParts_le _ (partsX_le k) m _ 1 (by omega) (by omega)
theorem addParts_done (f : D → Int → Int) (m : Int) (l : List D) (n : Int) (h : m < n) : addParts f m l n = n := by
  cases l with
  | nil => rfl
  | cons a l => unfold addParts; rw [if_neg (by omega)]
theorem addParts_drop {f : D → Int → Int} {m n : Int} {l : List D} {j : Nat} (hj : j < l.length) (h : n ≤ m) : addParts f m (l.drop j) n = addParts f m (l.drop (j + 1)) (n + f l[j] (m - n)) := by
  rw [List.drop_eq_getElem_cons hj]
  rw [addParts, if_pos h]
def IsInts (w : World) (v : Value) (l : List Int) : Prop :=
  ∃ ao cap, v = .slice ao l.length cap ∧ (l ≠ [] → ∃ b off, ao = some ⟨b, off, none⟩ ∧ ∀ i (h : i < l.length), w.cell? ⟨b, off + i, none⟩ = some (.int .i64 l[i]))

theorem IsInts.over {w w' : World} {v : Value} {l : List Int} (h : IsInts w v l) (hb : Below w.heap.size w w') : IsInts w' v l := by
  obtain ⟨ao, cap, hv, hc⟩ := h
  refine ⟨ao, cap, hv, fun hne => ?_⟩
  obtain ⟨b, off, hao, hel⟩ := hc hne
  exact ⟨b, off, hao, fun i hi => cell_over hb _ _ (hel i hi)⟩

def opX (k a b : Int) : Int :=
  if k = 3 then wrap32 (a + b) else if k = 4 then wrap32 (a - b) else if k = 5 then wrap32 (a * b) else if k = 6 ∧ a < b ∨ k = 7 ∧ a = b then 1 else 0
def valX (vs : List Int) : Nat → D → Int
  | 0, _ => 0
  | k + 1, d => if kindOf d = 1 then numOf d else if kindOf d = 2 then vs.getD (numOf d).toNat 0 else
    match argsOf d with
    | [x, y] => opX (kindOf d) (valX vs k x) (valX vs k y)
    | _ => 0
def okX (m : Nat) : Nat → D → Prop
  | 0, _ => False
  | k + 1, d => (kindOf d = 1 ∧ -9999999 ≤ numOf d ∧ numOf d ≤ 9999999) ∨ (kindOf d = 2 ∧ 0 ≤ numOf d ∧ numOf d < m) ∨ (3 ≤ kindOf d ∧ kindOf d ≤ 7 ∧ ∃ x y, argsOf d = [x, y] ∧ okX m k x ∧ okX m k y)

def I32 (n : Int) : Prop := -2147483648 ≤ n ∧ n ≤ 2147483647

theorem opX_in (k a b : Int) : I32 (opX k a b) := by
  unfold opX I32
  have h1 := wrap32_in (a + b)
  have h2 := wrap32_in (a - b)
  have h3 := wrap32_in (a * b)
  repeat' split
  all_goals omega

theorem valX_in {vs : List Int} (hv : ∀ x ∈ vs, I32 x) : ∀ (k : Nat) (d : D), okX vs.length k d → I32 (valX vs k d) := by
  intro k
  induction k with
  | zero => intro d h; exact h.elim
  | succ k ih =>
    intro d h
    rcases h with ⟨h1, h2, h3⟩ | ⟨h1, h2, h3⟩ | ⟨h1, h2, x, y, hxy, hx, hy⟩
    · unfold valX
      rw [if_pos h1]
      unfold I32
      omega
    · unfold valX
      rw [if_neg (by omega), if_pos h1]
      have hl : (numOf d).toNat < vs.length := by omega
      rw [List.getD_eq_getElem?_getD, List.getElem?_eq_getElem hl]
      exact hv _ (List.getElem_mem hl)
    · unfold valX
      rw [if_neg (by omega), if_neg (by omega), hxy]
      exact opX_in _ _ _

theorem held8 {w w0 w1 : World} {a0 a1 a2 a3 a4 a5 a6 a7 : Addr} {v0 v1 v2 v3 v4 v5 v6 v7 : Value}
    (h : w0.cell? a0 = some v0 ∧ w0.cell? a1 = some v1 ∧ w0.cell? a2 = some v2 ∧ w0.cell? a3 = some v3 ∧ w0.cell? a4 = some v4 ∧ w0.cell? a5 = some v5 ∧ w0.cell? a6 = some v6 ∧ w0.cell? a7 = some v7 ∧ Below w.heap.size w w0) (hb : Below w0.heap.size w0 w1) :
    w1.cell? a0 = some v0 ∧ w1.cell? a1 = some v1 ∧ w1.cell? a2 = some v2 ∧ w1.cell? a3 = some v3 ∧ w1.cell? a4 = some v4 ∧ w1.cell? a5 = some v5 ∧ w1.cell? a6 = some v6 ∧ w1.cell? a7 = some v7 ∧ Below w.heap.size w w1 := by
  obtain ⟨h0, h1, h2, h3, h4, h5, h6, h7, hB⟩ := h
  exact ⟨cell_over hb _ _ h0, cell_over hb _ _ h1, cell_over hb _ _ h2, cell_over hb _ _ h3, cell_over hb _ _ h4, cell_over hb _ _ h5, cell_over hb _ _ h6, cell_over hb _ _ h7, hB.trans (hb.mono hB.size)⟩

theorem below_drewN {W w : World} {n : Nat} (h : Below n W w) (k : Nat) : Below n W (w.drewN k) := by
  induction k with
  | zero => exact h
  | succ k ih => exact ih.drew
theorem own_base {W : World} {B B' e s : Nat} {v : Value} {k : Nat} {xs : List Value} (h : W.ownsRow B e s v k xs) (hb : B' ≤ B) : W.ownsRow B' e s v k xs := by
  obtain ⟨h1, h2⟩ := h
  refine ⟨h1, ?_⟩
  rcases h2 with h2 | ⟨g, cap, cur, hv, hg, r⟩
  · exact Or.inl h2
  · exact Or.inr ⟨g, cap, cur, hv, Nat.le_trans hb hg, r⟩

theorem own_lt {W : World} {B e s : Nat} {v : Value} {k : Nat} {xs : List Value} (h : W.ownsRow B e s v k xs) {g : Nat} (hg : v.ownBlock = some g) : B ≤ g ∧ g < W.heap.size := by
  rcases h.2 with ⟨rfl, _⟩ | ⟨g', cap, cur, rfl, hg', hh, _⟩
  · cases hg
  · simp [Value.ownBlock] at hg
    subst hg
    exact ⟨hg', (Array.getElem?_eq_some_iff.1 hh).1⟩

theorem below_grown {B e s : Nat} {W W' : World} {v : Value} {k : Nat} {xs : List Value} (h : W.ownsRow B e s v k xs) (hg : W.grownBy W' v.ownBlock) (hB : B ≤ W.heap.size) : Below B W W' :=
  ⟨hg.os, hg.tape, hg.output, hg.size, fun j hj => hg.block j (Nat.lt_of_lt_of_le hj hB) (fun e => by have := (own_lt h e.symm).1; omega)⟩

/-- the cells of parts that lie one behind the other. -/
def CellsOf : List D → List Value → Prop
  | [], xs => xs = []
  | d :: l, xs => ∃ (ao : Option Addr) (cap : Nat) (r : List Value), xs = .int .i64 (kindOf d) :: .int .i64 (numOf d) :: .slice ao (argsOf d).length cap :: r ∧ CellsOf l r

theorem CellsOf.append : ∀ {l l' : List D} {xs xs' : List Value}, CellsOf l xs → CellsOf l' xs' → CellsOf (l ++ l') (xs ++ xs')
  | [], _, _, _, h, h' => by have e : _ = _ := h; subst e; exact h'
  | d :: l, _, _, _, h, h' => by
    obtain ⟨ao, cap, r, rfl, hr⟩ := h
    exact ⟨ao, cap, r ++ _, rfl, hr.append h'⟩
theorem CellsOf.one : ∀ {l : List D} {xs : List Value}, CellsOf l xs → ∀ u ∈ xs, u.oneCell' = true
  | [], _, h, u, hu => by have e : _ = _ := h; subst e; cases hu
  | d :: l, _, h, u, hu => by
    obtain ⟨ao, cap, r, rfl, hr⟩ := h
    simp only [List.mem_cons] at hu
    rcases hu with rfl | rfl | rfl | hu
    · rfl
    · rfl
    · rfl
    · exact hr.one u hu
theorem CellsOf.length : ∀ {l : List D} {xs : List Value}, CellsOf l xs → xs.length = l.length * 3
  | [], _, h => by have e : _ = _ := h; subst e; rfl
  | d :: l, _, h => by
    obtain ⟨ao, cap, r, rfl, hr⟩ := h
    have := hr.length
    simp
    omega

def listX : Nat → D → List D
  | 0, _ => []
  | k + 1, d => d :: (argsOf d).flatMap (listX k)
def errX (vars k n : Int) (l : Nat) : Int :=
  if ¬ (1 ≤ k ∧ k ≤ 7) then 7 else if k ≤ 2 ∧ l ≠ 0 ∨ 2 < k ∧ l ≠ 2 then 1 else if k = 1 ∧ ¬ (-9999999 ≤ n ∧ n ≤ 9999999) ∨ 2 < k ∧ n ≠ 0 then 3 else if k = 2 ∧ ¬ (0 ≤ n ∧ n ≤ vars - 1) then 5 else 0
def firstX (vars : Int) : List D → Int
  | [] => 0
  | d :: l => if errX vars (kindOf d) (numOf d) (argsOf d).length = 0 then firstX vars l else errX vars (kindOf d) (numOf d) (argsOf d).length
def checkX (vars : Int) (k : Nat) (d : D) : Int := if 15 < partsX k d 15 then 2 else firstX vars (listX k d)

theorem CellsOf.at : ∀ {l : List D} {xs : List Value}, CellsOf l xs → ∀ (j : Nat) (hj : j < l.length), ∃ (ao : Option Addr) (cap : Nat), xs[j * 3]? = some (.int .i64 (kindOf l[j])) ∧ xs[j * 3 + 1]? = some (.int .i64 (numOf l[j])) ∧ xs[j * 3 + 2]? = some (.slice ao (argsOf l[j]).length cap)
  | d :: l, _, h, 0, hj => by
    obtain ⟨ao, cap, r, rfl, hr⟩ := h
    exact ⟨ao, cap, rfl, rfl, rfl⟩
  | d :: l, _, h, j + 1, hj => by
    obtain ⟨ao, cap, r, rfl, hr⟩ := h
    obtain ⟨ao', cap', h0, h1, h2⟩ := hr.at j (by simpa using hj)
    refine ⟨ao', cap', ?_, ?_, ?_⟩
    · rw [Nat.succ_mul]; exact h0
    · rw [Nat.succ_mul]; exact h1
    · rw [Nat.succ_mul]; exact h2
def evalErr (vs : List Int) (k : Nat) (d : D) : Int := if checkX vs.length k d = 0 then (if vs.all in32 = true then 0 else 3) else checkX vs.length k d

theorem firstX_zero {vars : Int} : ∀ {l : List D}, firstX vars l = 0 → ∀ d ∈ l, errX vars (kindOf d) (numOf d) (argsOf d).length = 0
  | [], _, d, hd => by cases hd
  | a :: l, h, d, hd => by
    rw [firstX] at h
    split at h
    · rename_i h0
      rcases List.mem_cons.1 hd with rfl | hd
      · exact h0
      · exact firstX_zero h d hd
    · rename_i h0
      exact absurd h h0

theorem errX_zero {vars k n : Int} {l : Nat} (h : errX vars k n l = 0) : (k = 1 ∧ -9999999 ≤ n ∧ n ≤ 9999999) ∨ (k = 2 ∧ 0 ≤ n ∧ n < vars) ∨ (3 ≤ k ∧ k ≤ 7 ∧ l = 2) := by
  unfold errX at h
  split at h
  · omega
  · split at h
    · omega
    · split at h
      · omega
      · split at h
        · omega
        · omega

theorem okX_of {w : World} {m : Nat} : ∀ (k : Nat) (cs : List Value) (d : D), RX w k cs d → (∀ x ∈ listX k d, errX m (kindOf x) (numOf x) (argsOf x).length = 0) → okX m k d := by
  intro k
  induction k with
  | zero => intro cs d h; exact h.elim
  | succ k ih =>
    intro cs d h ha
    obtain ⟨kd, n, v, ds, rfl, rfl, hkd, hn, hlen, ao, cap, rfl, hc⟩ := h
    have h0 := errX_zero (ha (xD kd n ds) (by simp [listX]))
    simp only [kindOf_x, numOf_x, argsOf_x] at h0
    rcases h0 with h0 | h0 | ⟨h1, h2, h3⟩
    · exact Or.inl h0
    · exact Or.inr (Or.inl h0)
    · refine Or.inr (Or.inr ⟨h1, h2, ?_⟩)
      match ds, h3 with
      | [x, y], _ =>
        obtain ⟨b, off, -, hel⟩ := hc (by simp)
        obtain ⟨xs, -, -, hx⟩ := hel 0 x rfl
        obtain ⟨ys, -, -, hy⟩ := hel 1 y rfl
        exact ⟨x, y, rfl, ih xs x hx (fun q hq => ha q (by simp [listX, hq])), ih ys y hy (fun q hq => ha q (by simp [listX, hq]))⟩

theorem evalErr_zero {w : World} {vs : List Int} {k : Nat} {cs : List Value} {d : D} (h : RX w k cs d) (h0 : evalErr vs k d = 0) : okX vs.length k d ∧ ∀ x ∈ vs, I32 x := by
  unfold evalErr at h0
  split at h0
  · rename_i hc
    split at h0
    · rename_i hv
      refine ⟨?_, fun x hx => by have := List.all_eq_true.1 hv x hx; simpa [in32, I32] using this⟩
      unfold checkX at hc
      split at hc
      · omega
      · exact okX_of k cs d h (firstX_zero hc)
    · omega
  · rename_i hc
    exact absurd h0 hc
set_option maxHeartbeats 2000000 in
set_option maxRecDepth 100000 in
theorem left_any : ∀ (k : Nat) (cs : List Value) (d : D) (w : World) (m : Int), RX w k cs d → 0 ≤ m → m ≤ 15 →
    Calls Try.prog 61 #[.agg cs.toArray, .int .i64 m] w fun e w' => e = .returned (.int .i64 (m - partsX k d m)) ∧ Below w.heap.size w w' := by
  intro k
  induction k with
  | zero => intro cs d w m h; exact h.elim
  | succ k ih =>
    intro cs d w m h m0 m1
    obtain ⟨kd, n, v, ds, rfl, rfl, hkd, hn, hlen, ao, cap, rfl, hc⟩ := h
    have HC := hide hc
    have IH := hide ih
    have HL : ds.length ≤ 9223372036854775807 := hlen
    have hspec : partsX (k + 1) (xD kd n ds) m = addParts (partsX k) m ds 1 := rfl
    rw [hspec]
    have hbel : Below w.heap.size w (w.alloc (.cells #[.int .i64 kd, .int .i64 n, .slice ao ds.length cap] 24)) := (Below.refl _ w).alloc (Nat.le_refl _) _
    clear hc ih hspec hkd hn hlen
    show Calls Try.prog 61 #[.agg #[.int .i64 kd, .int .i64 n, .slice ao ds.length cap], .int .i64 m] w _
    go_enter Try.func61, Try.ntmps61
    go_wp2_with fail
    go_loopw [1, 12] (fun c i wr => ∃ (j : Nat) (t : Int), j ≤ ds.length ∧ i = .int .i64 j ∧ c = .int .i64 (m - t) ∧ 1 ≤ t ∧ t ≤ m + 1 ∧ addParts (partsX k) m ds 1 = addParts (partsX k) m (ds.drop j) t ∧ Below w.heap.size w wr) (fun _ i _ => ds.length - (intOf i).toNat)
    case atStart => exact ⟨0, 1, Nat.zero_le _, rfl, rfl, by omega, by omega, rfl, hbel⟩
    case round =>
      clear hbel
      obtain ⟨j, t, hj, rfl, rfl, t1, t2, hp, hB⟩ := hrel
      have HP := hide hp
      clear hp
      by_cases hjl : j < ds.length
      · obtain ⟨b, off, rfl, hcl⟩ := HC.out (by rintro rfl; simp at hjl)
        obtain ⟨cs, hl3, hcs, hr⟩ := hcl j ds[j] (List.getElem?_eq_getElem hjl)
        obtain ⟨ao', cap', hcse⟩ := hr.form
        have hnext := fun h => addParts_drop (f := partsX k) (m := m) (n := t) hjl h
        have hle := fun h => partsX_le k ds[j] (m - t) h
        obtain ⟨dj, hdj⟩ : ∃ dj, dj = ds[j] := ⟨_, rfl⟩
        rw [← hdj] at hnext hle hr hcse
        obtain ⟨kj, hkj⟩ : ∃ q, q = kindOf dj := ⟨_, rfl⟩
        obtain ⟨nj, hnj⟩ : ∃ q, q = numOf dj := ⟨_, rfl⟩
        obtain ⟨lj, hlj⟩ : ∃ q, q = (argsOf dj).length := ⟨_, rfl⟩
        rw [← hkj, ← hnj, ← hlj] at hcse
        subst hcse
        have q0 : wr.cell? ⟨b, off + j * 3, none⟩ = _ := cell_over hB _ _ (hcs 0 _ rfl)
        have q1 := cell_over hB _ _ (hcs 1 _ rfl)
        have q2 := cell_over hB _ _ (hcs 2 _ rfl)
        have hba : Below wr.heap.size wr (wr.alloc (.cells #[.int .i64 kj, .int .i64 nj, .slice ao' lj cap'] 24)) := (Below.refl _ wr).alloc (Nat.le_refl _) _
        have hBa : Below w.heap.size w (wr.alloc (.cells #[.int .i64 kj, .int .i64 nj, .slice ao' lj cap'] 24)) := hB.trans (hba.mono hB.size)
        by_cases htm : t ≤ m
        · have hnext := hnext htm
          have hle := hle (by omega)
          have hcall := IH.out _ dj _ (m - t) (hr.over hBa) (by omega) (by omega)
          obtain ⟨r, hre⟩ : ∃ r, r = partsX k dj (m - t) := ⟨_, rfl⟩
          rw [← hre] at hcall hnext hle
          have HCALL := hide hcall
          have HN := hide hnext
          clear hcall hnext hre hkj hnj hlj hr hcs hcl hl3 hdj
          go_wp2_with fail
          refine (HCALL.out).mono ?_
          rintro e w1 ⟨rfl, hb1⟩
          have hB' : Below w.heap.size w w1 := hBa.trans (hb1.mono hBa.size)
          clear q0 q1 q2 hB hb1 HCALL hba hBa
          go_wp2_with fail
          exact ⟨⟨j + 1, t + r, by omega, by go_num, by go_num, by omega, by omega, by rw [HP.out, HN.out], hB'⟩, by simp [intOf]; omega⟩
        · have hd := addParts_done (partsX k) m (ds.drop j) t (by omega)
          have HD := hide hd
          have hneg : m - t < 0 := by omega
          clear hd hnext hle hr hcs hcl hl3 hdj hkj hnj hlj htm
          go_wp2_with fail
          go_ret
          exact ⟨by rw [HP.out, HD.out]; rfl, hBa⟩
      · have hd : addParts (partsX k) m (ds.drop j) t = t := by rw [List.drop_eq_nil_of_le (by omega)]; rfl
        have HD := hide hd
        clear hd
        go_wp2_with fail
        go_ret
        exact ⟨by rw [HP.out, HD.out]; rfl, hB⟩

def argsX (k : Int) : Int := if k = 1 ∨ k = 2 then 0 else 2

set_option maxHeartbeats 400000 in
theorem args_any (k : Int) (w : World) : Calls Try.prog 96 #[.int .i64 k] w fun e w' => e = .returned (.int .i64 (argsX k)) ∧ w' = w := by
  by_cases h1 : k = 1
  · subst h1
    go_enter Try.func96, Try.ntmps96
    go_wp2
    go_ret
    exact ⟨rfl, rfl⟩
  · by_cases h2 : k = 2
    · subst h2
      go_enter Try.func96, Try.ntmps96
      go_wp2
      go_ret
      exact ⟨rfl, rfl⟩
    · have b1 : (k == 1) = false := by simpa using h1
      have b2 : (k == 2) = false := by simpa using h2
      go_enter Try.func96, Try.ntmps96
      go_wp2
      go_ret
      exact ⟨by simp [argsX, h1, h2], rfl⟩

theorem firstX_append (vars : Int) : ∀ (l m : List D), firstX vars (l ++ m) = if firstX vars l = 0 then firstX vars m else firstX vars l
  | [], m => by simp [firstX]
  | a :: l, m => by
    rw [List.cons_append, firstX, firstX]
    split
    · exact firstX_append vars l m
    · rfl
/-- what the parts of the arguments say, one behind the other. -/
def restX (vars : Int) (k : Nat) : List D → Int
  | [] => 0
  | a :: l => if firstX vars (listX k a) = 0 then restX vars k l else firstX vars (listX k a)
theorem restX_flat (vars : Int) (k : Nat) : ∀ l : List D, restX vars k l = firstX vars (l.flatMap (listX k))
  | [] => rfl
  | a :: l => by rw [restX, List.flatMap_cons, firstX_append, restX_flat vars k l]
theorem restX_drop {vars : Int} {k : Nat} {l : List D} {j : Nat} (hj : j < l.length) : restX vars k (l.drop j) = if firstX vars (listX k l[j]) = 0 then restX vars k (l.drop (j + 1)) else firstX vars (listX k l[j]) := by
  rw [List.drop_eq_getElem_cons hj]
  rfl
set_option maxHeartbeats 4000000 in
set_option maxRecDepth 100000 in
theorem part_head (vars kd n : Int) (dl cap : Nat) (ao : Option Addr) (w : World) (v0 : 0 ≤ vars) (v1 : vars ≤ 9223372036854775807) (HL : dl ≤ 9223372036854775807) (hkd : In64 kd) (hn : In64 n) (hE : errX vars kd n dl ≠ 0) :
    Calls Try.prog 62 #[.agg #[.int .i64 kd, .int .i64 n, .slice ao dl cap], .int .i64 vars] w fun e w' => e = .returned (.int .i64 (errX vars kd n dl)) ∧ Below w.heap.size w w' := by
  have hbel : Below w.heap.size w (w.alloc (.cells #[.int .i64 kd, .int .i64 n, .slice ao dl cap] 24)) := (Below.refl _ w).alloc (Nat.le_refl _) _
  have KA := hide fun W => args_any kd W
  obtain ⟨kl, ku⟩ := hkd
  obtain ⟨nl, nu⟩ := hn
  by_cases c1 : kd < 1 ∨ 7 < kd
  · have hr : errX vars kd n dl = 7 := by unfold errX; rw [if_pos (by omega)]
    rw [hr]
    clear hr hE
    rcases c1 with c1 | c1
    · go_enter Try.func62, Try.ntmps62
      go_wp2_with fail
      go_ret
      exact ⟨rfl, hbel⟩
    · have c0 : ¬ kd < 1 := by omega
      go_enter Try.func62, Try.ntmps62
      go_wp2_with fail
      go_ret
      exact ⟨rfl, hbel⟩
  · have c2 : 1 ≤ kd := by omega
    have c3 : kd ≤ 7 := by omega
    clear c1
    have e0 : (w.alloc (.cells #[.int .i64 kd, .int .i64 n, .slice ao dl cap] 24)).cell? ⟨w.heap.size, 0, none⟩ = some (.int .i64 kd) := by simp [go_sem]
    have e1 : (w.alloc (.cells #[.int .i64 kd, .int .i64 n, .slice ao dl cap] 24)).cell? ⟨w.heap.size, 1, none⟩ = some (.int .i64 n) := by simp [go_sem]
    have e2 : (w.alloc (.cells #[.int .i64 kd, .int .i64 n, .slice ao dl cap] 24)).cell? ⟨w.heap.size, 2, none⟩ = some (.slice ao dl cap) := by simp [go_sem]
    by_cases c4 : (dl : Int) = argsX kd
    · by_cases c5 : kd = 1
      · subst c5
        have c6 : dl = 0 := by simpa [argsX] using c4
        subst c6
        have ka : argsX 1 = 0 := rfl
        rw [ka] at KA
        have hr : errX vars 1 n 0 = 3 ∧ (n < -9999999 ∨ 9999999 < n) := by
          unfold errX at hE ⊢
          rw [if_neg (by omega), if_neg (by omega)] at hE ⊢
          by_cases q : n < -9999999 ∨ 9999999 < n
          · exact ⟨by rw [if_pos (by omega)], q⟩
          · rw [if_neg (by omega), if_neg (by omega)] at hE
            exact absurd rfl hE
        obtain ⟨hr, c5⟩ := hr
        rw [hr]
        clear hr hE c4 ka
        rcases c5 with c5 | c5
        · go_enter Try.func62, Try.ntmps62
          go_wp2_with fail
          go_region_held3 (fun W => W.cell? ⟨w.heap.size, 0, none⟩ = some (.int .i64 1) ∧ W.cell? ⟨w.heap.size, 1, none⟩ = some (.int .i64 n) ∧ W.cell? ⟨w.heap.size, 2, none⟩ = some (.slice ao 0 cap) ∧ Below w.heap.size w W) (first | assumption | exact ⟨e0, e1, e2, below_drewN hbel 1⟩ | fail) (first | (go_at_call 96; refine (KA.out _).mono ?_; rintro e wp ⟨rfl, rfl⟩))
          obtain ⟨g0, g1, g2, hB⟩ := (by assumption : _ ∧ _ ∧ _ ∧ Below _ _ _)
          go_wp2_with fail
          go_ret
          exact ⟨rfl, hB⟩
        · have c6 : ¬ n < -9999999 := by omega
          go_enter Try.func62, Try.ntmps62
          go_wp2_with fail
          go_region_held3 (fun W => W.cell? ⟨w.heap.size, 0, none⟩ = some (.int .i64 1) ∧ W.cell? ⟨w.heap.size, 1, none⟩ = some (.int .i64 n) ∧ W.cell? ⟨w.heap.size, 2, none⟩ = some (.slice ao 0 cap) ∧ Below w.heap.size w W) (first | assumption | exact ⟨e0, e1, e2, below_drewN hbel 1⟩ | fail) (first | (go_at_call 96; refine (KA.out _).mono ?_; rintro e wp ⟨rfl, rfl⟩))
          obtain ⟨g0, g1, g2, hB⟩ := (by assumption : _ ∧ _ ∧ _ ∧ Below _ _ _)
          go_wp2_with fail
          go_ret
          exact ⟨rfl, hB⟩
      · by_cases c7 : kd = 2
        · subst c7
          have c6 : dl = 0 := by simpa [argsX] using c4
          subst c6
          have ka : argsX 2 = 0 := rfl
          rw [ka] at KA
          have hr : errX vars 2 n 0 = 5 ∧ (n < 0 ∨ vars ≤ n) := by
            unfold errX at hE ⊢
            rw [if_neg (by omega), if_neg (by omega), if_neg (by omega)] at hE ⊢
            by_cases q : n < 0 ∨ vars ≤ n
            · exact ⟨by rw [if_pos (by omega)], q⟩
            · rw [if_neg (by omega)] at hE
              exact absurd rfl hE
          obtain ⟨hr, c5⟩ := hr
          rw [hr]
          clear hr hE c4 ka
          rcases c5 with c5 | c5
          · go_enter Try.func62, Try.ntmps62
            go_wp2_with fail
            go_region_held3 (fun W => W.cell? ⟨w.heap.size, 0, none⟩ = some (.int .i64 2) ∧ W.cell? ⟨w.heap.size, 1, none⟩ = some (.int .i64 n) ∧ W.cell? ⟨w.heap.size, 2, none⟩ = some (.slice ao 0 cap) ∧ Below w.heap.size w W) (first | assumption | exact ⟨e0, e1, e2, below_drewN hbel 1⟩ | fail) (first | (go_at_call 96; refine (KA.out _).mono ?_; rintro e wp ⟨rfl, rfl⟩))
            obtain ⟨g0, g1, g2, hB⟩ := (by assumption : _ ∧ _ ∧ _ ∧ Below _ _ _)
            go_wp2_with fail
            go_ret
            exact ⟨rfl, hB⟩
          · have c6 : ¬ n < 0 := by omega
            go_enter Try.func62, Try.ntmps62
            go_wp2_with fail
            go_region_held3 (fun W => W.cell? ⟨w.heap.size, 0, none⟩ = some (.int .i64 2) ∧ W.cell? ⟨w.heap.size, 1, none⟩ = some (.int .i64 n) ∧ W.cell? ⟨w.heap.size, 2, none⟩ = some (.slice ao 0 cap) ∧ Below w.heap.size w W) (first | assumption | exact ⟨e0, e1, e2, below_drewN hbel 1⟩ | fail) (first | (go_at_call 96; refine (KA.out _).mono ?_; rintro e wp ⟨rfl, rfl⟩))
            obtain ⟨g0, g1, g2, hB⟩ := (by assumption : _ ∧ _ ∧ _ ∧ Below _ _ _)
            go_wp2_with fail
            go_ret
            exact ⟨rfl, hB⟩
        · have ka : argsX kd = 2 := by unfold argsX; rw [if_neg (by omega)]
          rw [ka] at KA c4
          have c8 : dl = 2 := by omega
          subst c8
          have hr : errX vars kd n 2 = 3 ∧ n ≠ 0 := by
            unfold errX at hE ⊢
            rw [if_neg (by omega), if_neg (by omega)] at hE ⊢
            by_cases q : n = 0
            · rw [if_neg (by omega), if_neg (by omega)] at hE
              exact absurd rfl hE
            · exact ⟨by rw [if_pos (by omega)], q⟩
          obtain ⟨hr, c9⟩ := hr
          rw [hr]
          clear hr hE c4 ka
          go_enter Try.func62, Try.ntmps62
          go_wp2_with fail
          go_region_held3 (fun W => W.cell? ⟨w.heap.size, 0, none⟩ = some (.int .i64 kd) ∧ W.cell? ⟨w.heap.size, 1, none⟩ = some (.int .i64 n) ∧ W.cell? ⟨w.heap.size, 2, none⟩ = some (.slice ao 2 cap) ∧ Below w.heap.size w W) (first | assumption | exact ⟨e0, e1, e2, below_drewN hbel 1⟩ | fail) (first | (go_at_call 96; refine (KA.out _).mono ?_; rintro e wp ⟨rfl, rfl⟩))
          obtain ⟨g0, g1, g2, hB⟩ := (by assumption : _ ∧ _ ∧ _ ∧ Below _ _ _)
          go_wp2_with fail
          go_ret
          exact ⟨rfl, hB⟩
    · have hr : errX vars kd n dl = 1 := by
        unfold errX
        unfold argsX at c4
        rw [if_neg (by omega)]
        split at c4
        · rw [if_pos (by omega)]
        · rw [if_pos (by omega)]
      rw [hr]
      clear hr hE
      go_enter Try.func62, Try.ntmps62
      go_wp2_with fail
      go_region_held3 (fun W => W.cell? ⟨w.heap.size, 0, none⟩ = some (.int .i64 kd) ∧ W.cell? ⟨w.heap.size, 1, none⟩ = some (.int .i64 n) ∧ W.cell? ⟨w.heap.size, 2, none⟩ = some (.slice ao dl cap) ∧ Below w.heap.size w W) (first | assumption | exact ⟨e0, e1, e2, below_drewN hbel 1⟩ | fail) (first | (go_at_call 96; refine (KA.out _).mono ?_; rintro e wp ⟨rfl, rfl⟩))
      obtain ⟨g0, g1, g2, hB⟩ := (by assumption : _ ∧ _ ∧ _ ∧ Below _ _ _)
      go_wp2_with fail
      go_ret
      exact ⟨rfl, hB⟩

set_option maxHeartbeats 4000000 in
set_option maxRecDepth 100000 in
theorem part_leaf (vars kd n : Int) (cap : Nat) (ao : Option Addr) (w : World) (v0 : 0 ≤ vars) (v1 : vars ≤ 9223372036854775807) (hE : errX vars kd n 0 = 0) :
    Calls Try.prog 62 #[.agg #[.int .i64 kd, .int .i64 n, .slice ao 0 cap], .int .i64 vars] w fun e w' => e = .returned (.int .i64 0) ∧ Below w.heap.size w w' := by
  have KA := hide fun W => args_any kd W
  rcases errX_zero hE with ⟨rfl, c1, c2⟩ | ⟨rfl, c1, c2⟩ | ⟨_, _, c3⟩
  · have hbel : Below w.heap.size w (w.alloc (.cells #[.int .i64 1, .int .i64 n, .slice ao 0 cap] 24)) := (Below.refl _ w).alloc (Nat.le_refl _) _
    have e0 : (w.alloc (.cells #[.int .i64 1, .int .i64 n, .slice ao 0 cap] 24)).cell? ⟨w.heap.size, 0, none⟩ = some (.int .i64 1) := by simp [go_sem]
    have e1 : (w.alloc (.cells #[.int .i64 1, .int .i64 n, .slice ao 0 cap] 24)).cell? ⟨w.heap.size, 1, none⟩ = some (.int .i64 n) := by simp [go_sem]
    have e2 : (w.alloc (.cells #[.int .i64 1, .int .i64 n, .slice ao 0 cap] 24)).cell? ⟨w.heap.size, 2, none⟩ = some (.slice ao 0 cap) := by simp [go_sem]
    have ka : argsX 1 = 0 := rfl
    rw [ka] at KA
    clear hE ka
    have c3 : ¬ n < -9999999 := by omega
    have c4 : ¬ 9999999 < n := by omega
    go_enter Try.func62, Try.ntmps62
    go_wp2_with fail
    go_region_held3 (fun W => W.cell? ⟨w.heap.size, 0, none⟩ = some (.int .i64 1) ∧ W.cell? ⟨w.heap.size, 1, none⟩ = some (.int .i64 n) ∧ W.cell? ⟨w.heap.size, 2, none⟩ = some (.slice ao 0 cap) ∧ Below w.heap.size w W) (first | assumption | exact ⟨e0, e1, e2, below_drewN hbel 1⟩ | fail) (first | (go_at_call 96; refine (KA.out _).mono ?_; rintro e wp ⟨rfl, rfl⟩))
    obtain ⟨g0, g1, g2, hB⟩ := (by assumption : _ ∧ _ ∧ _ ∧ Below _ _ _)
    go_wp2_with fail
    go_loopw [67] (fun i wr => i = .int .i64 0 ∧ Below w.heap.size w wr) (fun _ _ => 0)
    case atStart => exact ⟨rfl, hB⟩
    case round =>
      obtain ⟨rfl, hB2⟩ := hrel
      go_wp2_with fail
      go_ret
      exact ⟨rfl, hB2⟩
  · have hbel : Below w.heap.size w (w.alloc (.cells #[.int .i64 2, .int .i64 n, .slice ao 0 cap] 24)) := (Below.refl _ w).alloc (Nat.le_refl _) _
    have e0 : (w.alloc (.cells #[.int .i64 2, .int .i64 n, .slice ao 0 cap] 24)).cell? ⟨w.heap.size, 0, none⟩ = some (.int .i64 2) := by simp [go_sem]
    have e1 : (w.alloc (.cells #[.int .i64 2, .int .i64 n, .slice ao 0 cap] 24)).cell? ⟨w.heap.size, 1, none⟩ = some (.int .i64 n) := by simp [go_sem]
    have e2 : (w.alloc (.cells #[.int .i64 2, .int .i64 n, .slice ao 0 cap] 24)).cell? ⟨w.heap.size, 2, none⟩ = some (.slice ao 0 cap) := by simp [go_sem]
    have ka : argsX 2 = 0 := rfl
    rw [ka] at KA
    clear hE ka
    have c3 : ¬ n < 0 := by omega
    have c4 : ¬ vars ≤ n := by omega
    go_enter Try.func62, Try.ntmps62
    go_wp2_with fail
    go_region_held3 (fun W => W.cell? ⟨w.heap.size, 0, none⟩ = some (.int .i64 2) ∧ W.cell? ⟨w.heap.size, 1, none⟩ = some (.int .i64 n) ∧ W.cell? ⟨w.heap.size, 2, none⟩ = some (.slice ao 0 cap) ∧ Below w.heap.size w W) (first | assumption | exact ⟨e0, e1, e2, below_drewN hbel 1⟩ | fail) (first | (go_at_call 96; refine (KA.out _).mono ?_; rintro e wp ⟨rfl, rfl⟩))
    obtain ⟨g0, g1, g2, hB⟩ := (by assumption : _ ∧ _ ∧ _ ∧ Below _ _ _)
    go_wp2_with fail
    go_loopw [67] (fun i wr => i = .int .i64 0 ∧ Below w.heap.size w wr) (fun _ _ => 0)
    case atStart => exact ⟨rfl, hB⟩
    case round =>
      obtain ⟨rfl, hB2⟩ := hrel
      go_wp2_with fail
      go_ret
      exact ⟨rfl, hB2⟩
  · omega
set_option maxHeartbeats 4000000 in
set_option maxRecDepth 100000 in
theorem part_any (vars : Int) (v0 : 0 ≤ vars) (v1 : vars ≤ 9223372036854775807) : ∀ (k : Nat) (cs : List Value) (d : D) (w : World), RX w k cs d →
    Calls Try.prog 62 #[.agg cs.toArray, .int .i64 vars] w fun e w' => e = .returned (.int .i64 (firstX vars (listX k d))) ∧ Below w.heap.size w w' := by
  intro k
  induction k with
  | zero => intro cs d w h; exact h.elim
  | succ k ih =>
    intro cs d w h
    obtain ⟨kd, n, v, ds, rfl, rfl, hkd, hn, hlen, ao, cap, rfl, hc⟩ := h
    have hspec : firstX vars (listX (k + 1) (xD kd n ds)) = if errX vars kd n ds.length = 0 then restX vars k ds else errX vars kd n ds.length := by
      rw [restX_flat]
      rfl
    rw [hspec]
    show Calls Try.prog 62 #[.agg #[.int .i64 kd, .int .i64 n, .slice ao ds.length cap], .int .i64 vars] w _
    by_cases hE : errX vars kd n ds.length = 0
    · rw [if_pos hE]
      have hz := errX_zero hE
      cases ds with
      | nil => exact part_leaf vars kd n cap ao w v0 v1 hE
      | cons d0 dr =>
        have hk3 : 3 ≤ kd ∧ kd ≤ 7 ∧ (d0 :: dr).length = 2 ∧ n = 0 := by
          rcases hz with ⟨rfl, _, _⟩ | ⟨rfl, _, _⟩ | ⟨z1, z2, z3⟩
          · exfalso
            unfold errX at hE
            rw [if_neg (by omega), if_pos (by simp)] at hE
            omega
          · exfalso
            unfold errX at hE
            rw [if_neg (by omega), if_pos (by simp)] at hE
            omega
          · refine ⟨z1, z2, z3, ?_⟩
            rw [z3] at hE
            unfold errX at hE
            rw [if_neg (by omega), if_neg (by omega)] at hE
            by_cases q : n = 0
            · exact q
            · rw [if_pos (by omega)] at hE
              omega
        obtain ⟨k1, k2, z3, rfl⟩ := hk3
        obtain ⟨ds, hds⟩ : ∃ q, q = d0 :: dr := ⟨_, rfl⟩
        rw [← hds] at hc z3 ⊢
        rw [z3]
        have HC := hide hc
        have IH := hide ih
        have KA := hide fun W => args_any kd W
        have ka : argsX kd = 2 := by unfold argsX; rw [if_neg (by omega)]
        rw [ka] at KA
        have hbel : Below w.heap.size w (w.alloc (.cells #[.int .i64 kd, .int .i64 0, .slice ao 2 cap] 24)) := (Below.refl _ w).alloc (Nat.le_refl _) _
        have e0 : (w.alloc (.cells #[.int .i64 kd, .int .i64 0, .slice ao 2 cap] 24)).cell? ⟨w.heap.size, 0, none⟩ = some (.int .i64 kd) := by simp [go_sem]
        have e1 : (w.alloc (.cells #[.int .i64 kd, .int .i64 0, .slice ao 2 cap] 24)).cell? ⟨w.heap.size, 1, none⟩ = some (.int .i64 0) := by simp [go_sem]
        have e2 : (w.alloc (.cells #[.int .i64 kd, .int .i64 0, .slice ao 2 cap] 24)).cell? ⟨w.heap.size, 2, none⟩ = some (.slice ao 2 cap) := by simp [go_sem]
        have n1 : kd ≠ 1 := by omega
        have n2 : kd ≠ 2 := by omega
        obtain ⟨R, hR⟩ : ∃ q, q = restX vars k ds := ⟨_, rfl⟩
        have HR := hide hR
        have HZ := hide z3
        rw [← hR]
        clear hc ih hspec hE hz hlen hkd hn ka hds z3 hR
        go_enter Try.func62, Try.ntmps62
        go_wp2_with fail
        go_region_held3 (fun W => W.cell? ⟨w.heap.size, 0, none⟩ = some (.int .i64 kd) ∧ W.cell? ⟨w.heap.size, 1, none⟩ = some (.int .i64 0) ∧ W.cell? ⟨w.heap.size, 2, none⟩ = some (.slice ao 2 cap) ∧ Below w.heap.size w W) (first | assumption | exact ⟨e0, e1, e2, below_drewN hbel 1⟩ | fail) (first | (go_at_call 96; refine (KA.out _).mono ?_; rintro e wp ⟨rfl, rfl⟩))
        obtain ⟨g0, g1, g2, hB⟩ := (by assumption : _ ∧ _ ∧ _ ∧ Below _ _ _)
        go_wp2_with fail
        go_loopw [67] (fun i wr => ∃ (j : Nat), j ≤ 2 ∧ i = .int .i64 j ∧ R = restX vars k (ds.drop j) ∧ Below w.heap.size w wr) (fun i _ => 2 - (intOf i).toNat)
        case atStart => exact ⟨0, Nat.zero_le _, rfl, HR.out, hB⟩
        case round =>
          clear hB g0 g1 g2
          obtain ⟨j, hj, rfl, hp, hB⟩ := hrel
          have HP := hide hp
          clear hp
          by_cases hjl : j < 2
          · have hjd : j < ds.length := by rw [HZ.out]; exact hjl
            obtain ⟨b, off, rfl, hcl⟩ := HC.out (by rintro rfl; simp at hjd)
            obtain ⟨cs, hl3, hcs, hr⟩ := hcl j ds[j] (List.getElem?_eq_getElem hjd)
            obtain ⟨ao', cap', hcse⟩ := hr.form
            have hnext := restX_drop (vars := vars) (k := k) hjd
            obtain ⟨dj, hdj⟩ : ∃ dj, dj = ds[j] := ⟨_, rfl⟩
            rw [← hdj] at hnext hr hcse
            obtain ⟨kj, hkj⟩ : ∃ q, q = kindOf dj := ⟨_, rfl⟩
            obtain ⟨nj, hnj⟩ : ∃ q, q = numOf dj := ⟨_, rfl⟩
            obtain ⟨lj, hlj⟩ : ∃ q, q = (argsOf dj).length := ⟨_, rfl⟩
            rw [← hkj, ← hnj, ← hlj] at hcse
            subst hcse
            have q0 : wr.cell? ⟨b, off + j * 3, none⟩ = _ := cell_over hB _ _ (hcs 0 _ rfl)
            have q1 := cell_over hB _ _ (hcs 1 _ rfl)
            have q2 := cell_over hB _ _ (hcs 2 _ rfl)
            have hba : Below wr.heap.size wr (wr.alloc (.cells #[.int .i64 kj, .int .i64 nj, .slice ao' lj cap'] 24)) := (Below.refl _ wr).alloc (Nat.le_refl _) _
            have hBa : Below w.heap.size w (wr.alloc (.cells #[.int .i64 kj, .int .i64 nj, .slice ao' lj cap'] 24)) := hB.trans (hba.mono hB.size)
            have hcall := IH.out _ dj _ (hr.over hBa)
            obtain ⟨r, hre⟩ : ∃ r, r = firstX vars (listX k dj) := ⟨_, rfl⟩
            rw [← hre] at hcall hnext
            have HCALL := hide hcall
            have HN := hide hnext
            clear hcall hnext hre hkj hnj hlj hr hcs hcl hl3 hdj hjd
            by_cases hr0 : r = 0
            · subst hr0
              go_wp2_with fail
              refine (HCALL.out).mono ?_
              rintro e w1 ⟨rfl, hb1⟩
              have hB' : Below w.heap.size w w1 := hBa.trans (hb1.mono hBa.size)
              clear q0 q1 q2 hB hb1 HCALL hba hBa
              go_wp2_with fail
              exact ⟨⟨j + 1, by omega, by go_num, by rw [HP.out, HN.out]; rfl, hB'⟩, by simp [intOf]; omega⟩
            · have hd : R = r := by rw [HP.out, HN.out, if_neg hr0]
              subst hd
              clear HP HN HR
              go_wp2_with fail
              refine (HCALL.out).mono ?_
              rintro e w1 ⟨rfl, hb1⟩
              have hB' : Below w.heap.size w w1 := hBa.trans (hb1.mono hBa.size)
              clear q0 q1 q2 hB hb1 HCALL hba hBa
              go_wp2_with fail
              go_ret
              exact ⟨rfl, hB'⟩
          · have hd : R = 0 := by
              rw [HP.out, List.drop_eq_nil_of_le (by rw [HZ.out]; omega)]
              rfl
            subst hd
            clear HP HR
            go_wp2_with fail
            go_ret
            exact ⟨rfl, hB⟩
    · rw [if_neg hE]
      exact part_head vars kd n ds.length cap ao w v0 v1 hlen hkd hn hE

set_option maxHeartbeats 1000000 in
set_option maxRecDepth 100000 in
theorem check_any (k : Nat) (cs : List Value) (d : D) (w : World) (vars : Int) (v0 : 0 ≤ vars) (v1 : vars ≤ 9223372036854775807) (h : RX w k cs d) :
    Calls Try.prog 23 #[.agg cs.toArray, .int .i64 vars] w fun e w' => e = .returned (.int .i64 (checkX vars k d)) ∧ Below w.heap.size w w' := by
  have K1 := hide fun W hB => left_any k cs d W 15 (h.over hB) (by omega) (by omega)
  have K2 := hide fun W hB => part_any vars v0 v1 k cs d W (h.over hB)
  obtain ⟨ao, cap, rfl⟩ := h.form
  obtain ⟨kd, hkd⟩ : ∃ q, q = kindOf d := ⟨_, rfl⟩
  obtain ⟨n, hn⟩ : ∃ q, q = numOf d := ⟨_, rfl⟩
  obtain ⟨dl, hdl⟩ : ∃ q, q = (argsOf d).length := ⟨_, rfl⟩
  rw [← hkd, ← hn, ← hdl] at K1 K2 ⊢
  clear hkd hn hdl
  obtain ⟨p, hp⟩ : ∃ q, q = partsX k d 15 := ⟨_, rfl⟩
  have hspec : checkX vars k d = if 15 < p then 2 else firstX vars (listX k d) := by rw [hp]; rfl
  rw [← hp] at K1
  have hple := partsX_le k d 15 (by omega)
  rw [← hp] at hple
  obtain ⟨z, hz⟩ : ∃ z, z = 15 - p := ⟨_, rfl⟩
  rw [← hz] at K1
  clear hp
  have e0 : (w.alloc (.cells #[.int .i64 kd, .int .i64 n, .slice ao dl cap] 24)).cell? ⟨w.heap.size, 0, none⟩ = some (.int .i64 kd) := by simp [go_sem]
  have e1 : (w.alloc (.cells #[.int .i64 kd, .int .i64 n, .slice ao dl cap] 24)).cell? ⟨w.heap.size, 1, none⟩ = some (.int .i64 n) := by simp [go_sem]
  have e2 : (w.alloc (.cells #[.int .i64 kd, .int .i64 n, .slice ao dl cap] 24)).cell? ⟨w.heap.size, 2, none⟩ = some (.slice ao dl cap) := by simp [go_sem]
  have hbel : Below w.heap.size w (w.alloc (.cells #[.int .i64 kd, .int .i64 n, .slice ao dl cap] 24)) := (Below.refl _ w).alloc (Nat.le_refl _) _
  by_cases hq : 15 < p
  · rw [hspec, if_pos hq]
    have hneg : z < 0 := by omega
    clear hspec K2 hq hz hple
    show Calls Try.prog 23 #[.agg #[.int .i64 kd, .int .i64 n, .slice ao dl cap], .int .i64 vars] w _
    go_enter Try.func23, Try.ntmps23
    go_wp2_with fail
    refine (K1.out _ hbel).mono ?_
    rintro e w1 ⟨rfl, hb1⟩
    have hB1 : Below w.heap.size w w1 := hbel.trans (hb1.mono hbel.size)
    clear hb1 K1
    go_wp2_with fail
    go_ret
    exact ⟨rfl, hB1⟩
  · rw [hspec, if_neg hq]
    have hneg : ¬ z < 0 := by omega
    obtain ⟨R, hR⟩ : ∃ q, q = firstX vars (listX k d) := ⟨_, rfl⟩
    rw [← hR] at K2 ⊢
    clear hspec hq hR hz hple
    show Calls Try.prog 23 #[.agg #[.int .i64 kd, .int .i64 n, .slice ao dl cap], .int .i64 vars] w _
    go_enter Try.func23, Try.ntmps23
    go_wp2_with fail
    refine (K1.out _ hbel).mono ?_
    rintro e w1 ⟨rfl, hb1⟩
    have hB1 : Below w.heap.size w w1 := hbel.trans (hb1.mono hbel.size)
    have g0 := cell_over hb1 _ _ e0
    have g1 := cell_over hb1 _ _ e1
    have g2 := cell_over hb1 _ _ e2
    clear hb1 K1 e0 e1 e2
    go_wp2_with fail
    refine (K2.out _ hB1).mono ?_
    rintro e w2 ⟨rfl, hb2⟩
    have hB2 : Below w.heap.size w w2 := hB1.trans (hb2.mono hB1.size)
    clear hb2 K2
    go_wp2_with fail
    go_ret
    exact ⟨rfl, hB2⟩
set_option maxHeartbeats 400000 in
theorem oneIf_any (b : Bool) (w : World) : Calls Try.prog 97 #[.bool b] w fun e w' => e = .returned (.int .i64 (if b then 1 else 0)) ∧ w' = w := by
  cases b
  · go_enter Try.func97, Try.ntmps97
    go_wp2
    go_ret
    exact ⟨rfl, rfl⟩
  · go_enter Try.func97, Try.ntmps97
    go_wp2
    go_ret
    exact ⟨rfl, rfl⟩

theorem wraps (z : Int) : wrap64 (RowKit.wrap32 z) = wrap32 z := by
  have h := wrap32_in z
  have e : RowKit.wrap32 z = wrap32 z := by
    simp only [RowKit.wrap32, wrap32]
  rw [e]
  simp only [wrap64]
  omega

set_option maxHeartbeats 4000000 in
theorem reckon_any (k a b : Int) (ha : I32 a) (hb : I32 b) (hk : 3 ≤ k ∧ k ≤ 7) (w : World) : Calls Try.prog 64 #[.int .i64 k, .int .i64 a, .int .i64 b] w fun e w' => e = .returned (.int .i64 (opX k a b)) ∧ w' = w := by
  obtain ⟨a1, a2⟩ := ha
  obtain ⟨b1, b2⟩ := hb
  rcases (by omega : k = 3 ∨ k = 4 ∨ k = 5 ∨ k = 6 ∨ k = 7) with rfl | rfl | rfl | rfl | rfl
  · go_enter Try.func64, Try.ntmps64
    go_wp2_with fail
    go_ret
    refine ⟨?_, rfl⟩
    show Ending.returned (Value.int IntKind.i64 (wrap64 (RowKit.wrap32 (a + b)))) = _
    rw [wraps]
    rfl
  · go_enter Try.func64, Try.ntmps64
    go_wp2_with fail
    go_ret
    refine ⟨?_, rfl⟩
    show Ending.returned (Value.int IntKind.i64 (wrap64 (RowKit.wrap32 (a - b)))) = _
    rw [wraps]
    rfl
  · go_enter Try.func64, Try.ntmps64
    go_wp2_with fail
    go_ret
    refine ⟨?_, rfl⟩
    show Ending.returned (Value.int IntKind.i64 (wrap64 (RowKit.wrap32 (a * b)))) = _
    rw [wraps]
    rfl
  · by_cases h : a < b
    · have KO := hide fun W => oneIf_any true W
      go_enter Try.func64, Try.ntmps64
      go_wp2_with fail
      refine (KO.out _).mono ?_
      rintro e w1 ⟨rfl, rfl⟩
      go_wp2_with fail
      go_ret
      exact ⟨by simp [opX, h], rfl⟩
    · have KO := hide fun W => oneIf_any false W
      go_enter Try.func64, Try.ntmps64
      go_wp2_with fail
      refine (KO.out _).mono ?_
      rintro e w1 ⟨rfl, rfl⟩
      go_wp2_with fail
      go_ret
      exact ⟨by simp [opX, h], rfl⟩
  · by_cases h : a = b
    · have KO := hide fun W => oneIf_any true W
      have hb : (a == b) = true := by simpa using h
      go_enter Try.func64, Try.ntmps64
      go_wp2_with fail
      try rw [hb]
      refine (KO.out _).mono ?_
      rintro e w1 ⟨rfl, rfl⟩
      go_wp2_with fail
      go_ret
      exact ⟨by simp [opX, h], rfl⟩
    · have KO := hide fun W => oneIf_any false W
      have hb : (a == b) = false := by simpa using h
      go_enter Try.func64, Try.ntmps64
      go_wp2_with fail
      try rw [hb]
      refine (KO.out _).mono ?_
      rintro e w1 ⟨rfl, rfl⟩
      go_wp2_with fail
      go_ret
      exact ⟨by simp [opX, h], rfl⟩

set_option maxHeartbeats 1000000 in
set_option maxRecDepth 100000 in
theorem pval_leaf (cs : List Value) (d : D) (k : Nat) (w : World) (vv : Value) (vs : List Int) (h : RX w (k + 1) cs d) (hi : IsInts w vv vs) (hk : (kindOf d = 1) ∨ (kindOf d = 2 ∧ 0 ≤ numOf d ∧ numOf d < vs.length)) :
    Calls Try.prog 26 #[.agg cs.toArray, vv] w fun e w' => e = .returned (.int .i64 (valX vs (k + 1) d)) ∧ Below w.heap.size w w' := by
  obtain ⟨kd, n, v, ds, rfl, rfl, hkd, hn, hlen, ao, cap, rfl, hc⟩ := h
  simp only [kindOf_x, numOf_x] at hk
  obtain ⟨va, vc, rfl, hvc⟩ := hi
  have hbel : Below w.heap.size w (w.alloc (.cells #[.int .i64 kd, .int .i64 n, .slice ao ds.length cap] 24)) := (Below.refl _ w).alloc (Nat.le_refl _) _
  show Calls Try.prog 26 #[.agg #[.int .i64 kd, .int .i64 n, .slice ao ds.length cap], .slice va vs.length vc] w _
  rcases hk with rfl | ⟨rfl, n0, n1⟩
  · have hs : valX vs (k + 1) (xD 1 n ds) = n := rfl
    rw [hs]
    clear hs hc hvc hlen hkd
    go_enter Try.func26, Try.ntmps26
    go_wp2_with fail
    go_ret
    exact ⟨rfl, hbel⟩
  · have hl : n.toNat < vs.length := by omega
    have hs : valX vs (k + 1) (xD 2 n ds) = vs[n.toNat] := by
      show vs.getD n.toNat 0 = _
      rw [List.getD_eq_getElem?_getD, List.getElem?_eq_getElem hl]
      rfl
    obtain ⟨b, off, rfl, hel⟩ := hvc (by rintro rfl; simp at hl)
    have c := hel _ hl
    obtain ⟨j, rfl⟩ : ∃ j : Nat, n = j := ⟨n.toNat, by omega⟩
    rw [hs]
    simp only [Int.toNat_natCast] at c hl ⊢
    obtain ⟨r, hr⟩ : ∃ r, r = vs[j] := ⟨_, rfl⟩
    rw [← hr] at c ⊢
    have c' := cell_over hbel _ _ c
    clear hs hc hvc hlen hkd hel hr
    go_enter Try.func26, Try.ntmps26
    go_wp2_with fail
    go_ret
    exact ⟨rfl, hbel⟩
set_option maxHeartbeats 4000000 in
set_option maxRecDepth 100000 in
theorem pval_node (kd n : Int) (b off cap : Nat) (xk xn yk yn : Int) (xa ya : Option Addr) (xl yl xc yc : Nat) (vv : Value) (w : World) (a c : Int) (ha : I32 a) (hc : I32 c) (hkd : 3 ≤ kd ∧ kd ≤ 7)
    (q0 : w.cell? ⟨b, off, none⟩ = some (.int .i64 xk)) (q1 : w.cell? ⟨b, off + 1, none⟩ = some (.int .i64 xn)) (q2 : w.cell? ⟨b, off + 2, none⟩ = some (.slice xa xl xc))
    (r0 : w.cell? ⟨b, off + 3, none⟩ = some (.int .i64 yk)) (r1 : w.cell? ⟨b, off + 3 + 1, none⟩ = some (.int .i64 yn)) (r2 : w.cell? ⟨b, off + 3 + 2, none⟩ = some (.slice ya yl yc))
    (KX : Hid (∀ W, Below w.heap.size w W → Calls Try.prog 26 #[.agg #[.int .i64 xk, .int .i64 xn, .slice xa xl xc], vv] W fun e w' => e = .returned (.int .i64 a) ∧ Below W.heap.size W w'))
    (KY : Hid (∀ W, Below w.heap.size w W → Calls Try.prog 26 #[.agg #[.int .i64 yk, .int .i64 yn, .slice ya yl yc], vv] W fun e w' => e = .returned (.int .i64 c) ∧ Below W.heap.size W w')) :
    Calls Try.prog 26 #[.agg #[.int .i64 kd, .int .i64 n, .slice (some ⟨b, off, none⟩) 2 cap], vv] w fun e w' => e = .returned (.int .i64 (opX kd a c)) ∧ Below w.heap.size w w' := by
  have hbel : Below w.heap.size w (w.alloc (.cells #[.int .i64 kd, .int .i64 n, .slice (some ⟨b, off, none⟩) 2 cap] 24)) := (Below.refl _ w).alloc (Nat.le_refl _) _
  have q0' := cell_over hbel _ _ q0
  have q1' := cell_over hbel _ _ q1
  have q2' := cell_over hbel _ _ q2
  have r0' := cell_over hbel _ _ r0
  have r1' := cell_over hbel _ _ r1
  have r2' := cell_over hbel _ _ r2
  have e0 : (w.alloc (.cells #[.int .i64 kd, .int .i64 n, .slice (some ⟨b, off, none⟩) 2 cap] 24)).cell? ⟨w.heap.size, 0, none⟩ = some (.int .i64 kd) := by simp [go_sem]
  have e2 : (w.alloc (.cells #[.int .i64 kd, .int .i64 n, .slice (some ⟨b, off, none⟩) 2 cap] 24)).cell? ⟨w.heap.size, 2, none⟩ = some (.slice (some ⟨b, off, none⟩) 2 cap) := by simp [go_sem]
  have hk1 : kd ≠ 1 := by omega
  have hk2 : kd ≠ 2 := by omega
  clear q0 q1 q2 r0 r1 r2
  have KR := hide fun W => reckon_any kd a c ha hc hkd W
  go_enter Try.func26, Try.ntmps26
  go_wp2_with fail
  go_region_held3 (fun W => W.cell? ⟨w.heap.size, 0, none⟩ = some (.int .i64 kd) ∧ W.cell? ⟨w.heap.size, 2, none⟩ = some (.slice (some ⟨b, off, none⟩) 2 cap) ∧ W.cell? ⟨b, off, none⟩ = some (.int .i64 xk) ∧ W.cell? ⟨b, off + 1, none⟩ = some (.int .i64 xn) ∧ W.cell? ⟨b, off + 2, none⟩ = some (.slice xa xl xc) ∧ W.cell? ⟨b, off + 3, none⟩ = some (.int .i64 yk) ∧ W.cell? ⟨b, off + 3 + 1, none⟩ = some (.int .i64 yn) ∧ W.cell? ⟨b, off + 3 + 2, none⟩ = some (.slice ya yl yc) ∧ Below w.heap.size w W) (first | assumption | exact ⟨e0, e2, q0', q1', q2', r0', r1', r2', below_drewN hbel 1⟩ | exact held8 (by assumption) hbp | exact held8 (by assumption) hbq | fail) (first | (go_at_call_of 26 (Value.agg #[.int .i64 xk, .int .i64 xn, .slice xa xl xc]); refine (KX.out _ (by assumption : _ ∧ _ ∧ _ ∧ _ ∧ _ ∧ _ ∧ _ ∧ _ ∧ Below _ _ _).2.2.2.2.2.2.2.2).mono ?_; rintro e wp ⟨rfl, hbp⟩) | (go_at_call_of 26 (Value.agg #[.int .i64 yk, .int .i64 yn, .slice ya yl yc]); refine (KY.out _ (by assumption : _ ∧ _ ∧ _ ∧ _ ∧ _ ∧ _ ∧ _ ∧ _ ∧ Below _ _ _).2.2.2.2.2.2.2.2).mono ?_; rintro e wq ⟨rfl, hbq⟩) | (go_at_call 64; refine (KR.out _).mono ?_; rintro e wz ⟨rfl, rfl⟩))
  obtain ⟨-, -, -, -, -, -, -, -, hB⟩ := (by assumption : _ ∧ _ ∧ _ ∧ _ ∧ _ ∧ _ ∧ _ ∧ _ ∧ Below _ _ _)
  clear q0' q1' q2' r0' r1' r2' e0 e2 hbel KX KY KR
  go_wp2_with fail
  go_ret
  exact ⟨rfl, hB⟩

theorem pval_any (vs : List Int) (hv : ∀ x ∈ vs, I32 x) : ∀ (k : Nat) (cs : List Value) (d : D) (w : World) (vv : Value), RX w k cs d → okX vs.length k d → IsInts w vv vs →
    Calls Try.prog 26 #[.agg cs.toArray, vv] w fun e w' => e = .returned (.int .i64 (valX vs k d)) ∧ Below w.heap.size w w' := by
  intro k
  induction k with
  | zero => intro cs d w vv h; exact h.elim
  | succ k ih =>
    intro cs d w vv h ho hi
    rcases ho with ⟨h1, -, -⟩ | ⟨h1, h2, h3⟩ | ⟨h1, h2, x, y, hxy, hx, hy⟩
    · exact pval_leaf cs d k w vv vs h hi (Or.inl h1)
    · exact pval_leaf cs d k w vv vs h hi (Or.inr ⟨h1, h2, h3⟩)
    · obtain ⟨kd, n, v, ds, rfl, rfl, hkd, hn, hlen, ao, cap, rfl, hc⟩ := h
      simp only [kindOf_x, argsOf_x] at h1 h2 hxy
      subst hxy
      obtain ⟨b, off, rfl, hel⟩ := hc (by simp)
      obtain ⟨xs, -, hxc, hxr⟩ := hel 0 x rfl
      obtain ⟨ys, -, hyc, hyr⟩ := hel 1 y rfl
      obtain ⟨xa, xcap, hxs⟩ := hxr.form
      obtain ⟨ya, ycap, hys⟩ := hyr.form
      subst hxs
      subst hys
      have hs : valX vs (k + 1) (xD kd n [x, y]) = opX kd (valX vs k x) (valX vs k y) := by
        show (if kd = 1 then n else if kd = 2 then vs.getD n.toNat 0 else opX kd (valX vs k x) (valX vs k y)) = _
        rw [if_neg (by omega), if_neg (by omega)]
      rw [hs]
      have q0 := hxc 0 _ rfl
      have q1 := hxc 1 _ rfl
      have q2 := hxc 2 _ rfl
      have r0 := hyc 0 _ rfl
      have r1 := hyc 1 _ rfl
      have r2 := hyc 2 _ rfl
      simp only [Nat.zero_mul, Nat.one_mul, Nat.add_zero] at q0 q1 q2 r0 r1 r2
      exact pval_node kd n b off cap _ _ _ _ _ _ _ _ _ _ vv w _ _ (valX_in hv k x hx) (valX_in hv k y hy) ⟨h1, h2⟩ q0 q1 q2 r0 r1 r2
        (hide fun W hB => ih _ x W vv (hxr.over hB) hx (hi.over hB)) (hide fun W hB => ih _ y W vv (hyr.over hB) hy (hi.over hB))
end Go.Proofs.Ytcbbjjenkommeaa.Ex
