/- The document's own count of an expression's parts, up to enough. -/
import Derived.Test.YtdbepdabkciiiaaEv
namespace Go.Proofs.Ytdbepdabkciiiaa.Ex
open Go.RowKit
set_option linter.unusedVariables false

theorem bcell {W w1 : World} (hb : Below W.heap.size W w1) : (∀ b o, b < W.heap.size → w1.cell? ⟨b, o, none⟩ = W.cell? ⟨b, o, none⟩) ∧ (∀ b o, b < W.heap.size → w1.frozen? ⟨b, o, none⟩ = W.frozen? ⟨b, o, none⟩) :=
  ⟨fun b o h => hb.cell (p := ⟨b, o, none⟩) h, fun b o h => hb.frozen (p := ⟨b, o, none⟩) h⟩

theorem cell_over {w w' : World} (hb : Below w.heap.size w w') (a : Addr) (u : Value) (h : w.cell? a = some u) : w'.cell? a = some u := by
  rw [hb.cell (World.block_lt_of_cell? w _ h)]
  exact h

theorem RX.over {w w' : World} {k : Nat} {cs : List Value} {d : D} (h : RX w k cs d) (hb : Below w.heap.size w w') : RX w' k cs d := RX.mono (cell_over hb) k k cs d (Nat.le_refl _) h

def argsOf : D → List D
  | .agg [_, _, .slice l _] => l
  | _ => []
def kindOf : D → Int
  | .agg (.lit (.int _ n) :: _) => n
  | _ => 0
def numOf : D → Int
  | .agg (_ :: .lit (.int _ n) :: _) => n
  | _ => 0
@[simp] theorem argsOf_x (k n : Int) (l : List D) : argsOf (xD k n l) = l := rfl
@[simp] theorem kindOf_x (k n : Int) (l : List D) : kindOf (xD k n l) = k := rfl
@[simp] theorem numOf_x (k n : Int) (l : List D) : numOf (xD k n l) = n := rfl

theorem RX.form {w : World} {k : Nat} {cs : List Value} {d : D} (h : RX w k cs d) : ∃ ao cap, cs = [.int .i64 (kindOf d), .int .i64 (numOf d), .slice ao (argsOf d).length cap] := by
  cases k with
  | zero => exact h.elim
  | succ k =>
    obtain ⟨kd, n, v, ds, rfl, rfl, -, -, -, ao, cap, rfl, -⟩ := h
    exact ⟨ao, cap, rfl⟩

def addParts (f : D → Int → Int) (m : Int) : List D → Int → Int
  | [], n => n
  | a :: l, n => if n ≤ m then addParts f m l (n + f a (m - n)) else n
def partsX : Nat → D → Int → Int
  | 0, _, _ => 1
  | k + 1, d, m => addParts (partsX k) m (argsOf d) 1

theorem addParts_le (f : D → Int → Int) (hf : ∀ d m, 0 ≤ m → 1 ≤ f d m ∧ f d m ≤ m + 1) (m : Int) : ∀ (l : List D) (n : Int), 1 ≤ n → n ≤ m + 1 → 1 ≤ addParts f m l n ∧ addParts f m l n ≤ m + 1
  | [], n, h1, h2 => ⟨h1, h2⟩
  | a :: l, n, h1, h2 => by
    unfold addParts
    split
    · have := hf a (m - n) (by omega)
      exact addParts_le f hf m l _ (by omega) (by omega)
    · exact ⟨h1, h2⟩
theorem partsX_le : ∀ (k : Nat) (d : D) (m : Int), 0 ≤ m → 1 ≤ partsX k d m ∧ partsX k d m ≤ m + 1
  | 0, _, m, h => by unfold partsX; omega
  | k + 1, d, m, h => addParts_le _ (partsX_le k) m _ 1 (by omega) (by omega)
theorem addParts_done (f : D → Int → Int) (m : Int) (l : List D) (n : Int) (h : m < n) : addParts f m l n = n := by
  cases l with
  | nil => rfl
  | cons a l => unfold addParts; rw [if_neg (by omega)]
theorem addParts_drop {f : D → Int → Int} {m n : Int} {l : List D} {j : Nat} (hj : j < l.length) (h : n ≤ m) : addParts f m (l.drop j) n = addParts f m (l.drop (j + 1)) (n + f l[j] (m - n)) := by
  rw [List.drop_eq_getElem_cons hj]
  rw [addParts, if_pos h]

set_option maxHeartbeats 2000000 in
set_option maxRecDepth 100000 in
theorem parts_any : ∀ (k : Nat) (cs : List Value) (d : D) (w : World) (m : Int), RX w k cs d → 0 ≤ m → m ≤ 15 →
    Calls Try.prog 22 #[.agg cs.toArray, .int .i64 m] w fun e w' => e = .returned (.int .i64 (partsX k d m)) ∧ Below w.heap.size w w' := by
  intro k
  induction k with
  | zero => intro cs d w m h; exact h.elim
  | succ k ih =>
    intro cs d w m h m0 m1
    obtain ⟨kd, n, v, ds, rfl, rfl, hkd, hn, hlen, ao, cap, rfl, hc⟩ := h
    have HC := hide hc
    have IH := hide ih
    have HL : ds.length ≤ 9223372036854775807 := hlen
    have hspec : partsX (k + 1) (xD kd n ds) m = addParts (partsX k) m ds 1 := rfl
    rw [hspec]
    have hbel : Below w.heap.size w (w.alloc (.cells #[.int .i64 kd, .int .i64 n, .slice ao ds.length cap] 24)) := (Below.refl _ w).alloc (Nat.le_refl _) _
    clear hc ih hspec hkd hn hlen
    show Calls Try.prog 22 #[.agg #[.int .i64 kd, .int .i64 n, .slice ao ds.length cap], .int .i64 m] w _
    go_enter Try.func22, Try.ntmps22
    go_wp2_with fail
    go_loopw [5, 6] (fun c i wr => ∃ (j : Nat) (t : Int), j ≤ ds.length ∧ i = .int .i64 j ∧ c = .int .i64 t ∧ 1 ≤ t ∧ t ≤ m + 1 ∧ addParts (partsX k) m ds 1 = addParts (partsX k) m (ds.drop j) t ∧ wr.cell? ⟨w.heap.size, 2, none⟩ = some (.slice ao ds.length cap) ∧ Below w.heap.size w wr) (fun _ i _ => ds.length - (intOf i).toNat)
    case atStart => exact ⟨0, 1, Nat.zero_le _, rfl, rfl, by omega, by omega, rfl, by simp [go_sem], hbel⟩
    case round =>
      clear hbel
      obtain ⟨j, t, hj, rfl, rfl, t1, t2, hp, c2, hB⟩ := hrel
      have HP := hide hp
      clear hp
      by_cases hjl : j < ds.length
      · by_cases htm : t ≤ m
        · obtain ⟨b, off, rfl, hcl⟩ := HC.out (by rintro rfl; simp at hjl)
          obtain ⟨cs, hl3, hcs, hr⟩ := hcl j ds[j] (List.getElem?_eq_getElem hjl)
          have hnext := addParts_drop (f := partsX k) hjl htm
          have hle := partsX_le k ds[j] (m - t) (by omega)
          obtain ⟨ao', cap', hcse⟩ := hr.form
          obtain ⟨dj, hdj⟩ : ∃ dj, dj = ds[j] := ⟨_, rfl⟩
          rw [← hdj] at hnext hle hr hcse
          obtain ⟨kj, hkj⟩ : ∃ q, q = kindOf dj := ⟨_, rfl⟩
          obtain ⟨nj, hnj⟩ : ∃ q, q = numOf dj := ⟨_, rfl⟩
          obtain ⟨lj, hlj⟩ : ∃ q, q = (argsOf dj).length := ⟨_, rfl⟩
          rw [← hkj, ← hnj, ← hlj] at hcse
          subst hcse
          have q0 : wr.cell? ⟨b, off + j * 3, none⟩ = _ := cell_over hB _ _ (hcs 0 _ rfl)
          have q1 := cell_over hB _ _ (hcs 1 _ rfl)
          have q2 := cell_over hB _ _ (hcs 2 _ rfl)
          have hcall := IH.out _ dj wr (m - t) (hr.over hB) (by omega) (by omega)
          obtain ⟨r, hre⟩ : ∃ r, r = partsX k dj (m - t) := ⟨_, rfl⟩
          rw [← hre] at hcall hnext hle
          have HCALL := hide hcall
          have HN := hide hnext
          clear hcall hnext hre hkj hnj hlj hr hcs hcl hl3 hdj
          go_wp2_with fail
          refine (HCALL.out).mono ?_
          rintro e w1 ⟨rfl, hb1⟩
          have c2' := cell_over hb1 _ _ c2
          have hB' : Below w.heap.size w w1 := hB.trans (hb1.mono hB.size)
          clear c2 q0 q1 q2 hB hb1 HCALL
          go_wp2_with fail
          exact ⟨⟨j + 1, t + r, by omega, by go_num, by go_num, by omega, by omega, by rw [HP.out, HN.out], c2', hB'⟩, by simp [intOf]; omega⟩
        · have hd := addParts_done (partsX k) m (ds.drop j) t (by omega)
          have HD := hide hd
          clear hd
          go_wp2_with fail
          go_ret
          exact ⟨by rw [HP.out, HD.out]; rfl, hB⟩
      · have hd : addParts (partsX k) m (ds.drop j) t = t := by rw [List.drop_eq_nil_of_le (by omega)]; rfl
        have HD := hide hd
        clear hd
        go_wp2_with fail
        go_ret
        exact ⟨by rw [HP.out, HD.out]; rfl, hB⟩
end Go.Proofs.Ytdbepdabkciiiaa.Ex
