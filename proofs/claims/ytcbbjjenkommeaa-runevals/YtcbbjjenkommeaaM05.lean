/- Checks of labels, whatever they are. -/
import Derived.Test.YtcbbjjenkommeaaM04
import Derived.Laws.AppendOwnNone
import Derived.Recover
import Derived.Defers
import Derived.Deep.RegionHeld2
namespace Go.Proofs.Ytcbbjjenkommeaa.Ex
open Go.RowKit
set_option linter.unusedVariables false
/-- the cells of labels that lie one behind the other. -/
def LabCells (w : World) : List Lab → List Value → Prop
  | [], xs => xs = []
  | l :: r, xs => ∃ (pr pw : Value) (ys : List Value), xs = pr :: pw :: ys ∧ IsPols w pr l.r ∧ IsPols w pw l.w ∧ LabCells w r ys
theorem LabCells.over {w w' : World} (hb : Below w.heap.size w w') : ∀ {l : List Lab} {xs : List Value}, LabCells w l xs → LabCells w' l xs
  | [], _, h => h
  | a :: l, _, h => by
    obtain ⟨pr, pw, ys, rfl, h1, h2, h3⟩ := h
    exact ⟨pr, pw, ys, rfl, isPols_over h1 hb, isPols_over h2 hb, h3.over hb⟩
theorem LabCells.append {w : World} : ∀ {l m : List Lab} {xs ys : List Value}, LabCells w l xs → LabCells w m ys → LabCells w (l ++ m) (xs ++ ys)
  | [], _, _, _, h, h' => by have e : _ = _ := h; subst e; exact h'
  | a :: l, _, _, _, h, h' => by
    obtain ⟨pr, pw, zs, rfl, h1, h2, h3⟩ := h
    exact ⟨pr, pw, zs ++ _, rfl, h1, h2, h3.append h'⟩
theorem LabCells.length {w : World} : ∀ {l : List Lab} {xs : List Value}, LabCells w l xs → xs.length = l.length * 2
  | [], _, h => by have e : _ = _ := h; subst e; rfl
  | a :: l, _, h => by
    obtain ⟨pr, pw, zs, rfl, h1, h2, h3⟩ := h
    have := h3.length
    simp
    omega
theorem LabCells.one {w : World} : ∀ {l : List Lab} {xs : List Value}, LabCells w l xs → ∀ u ∈ xs, u.oneCell' = true
  | [], _, h, u, hu => by have e : _ = _ := h; subst e; cases hu
  | a :: l, _, h, u, hu => by
    obtain ⟨pr, pw, zs, rfl, h1, h2, h3⟩ := h
    obtain ⟨x, n, c, rfl⟩ := pols_form h1
    obtain ⟨y, n', c', rfl⟩ := pols_form h2
    simp only [List.mem_cons] at hu
    rcases hu with rfl | rfl | hu
    · rfl
    · rfl
    · exact h3.one u hu
theorem LabCells.at {w : World} : ∀ {l : List Lab} {xs : List Value}, LabCells w l xs → ∀ (j : Nat) (hj : j < l.length), ∃ pr pw, xs[j * 2]? = some pr ∧ xs[j * 2 + 1]? = some pw ∧ IsPols w pr l[j].r ∧ IsPols w pw l[j].w
  | a :: l, _, h, 0, hj => by
    obtain ⟨pr, pw, zs, rfl, h1, h2, h3⟩ := h
    exact ⟨pr, pw, rfl, rfl, h1, h2⟩
  | a :: l, _, h, j + 1, hj => by
    obtain ⟨pr, pw, zs, rfl, h1, h2, h3⟩ := h
    obtain ⟨pr', pw', e1, e2, e3, e4⟩ := h3.at j (by simpa using hj)
    exact ⟨pr', pw', by rw [Nat.succ_mul]; exact e1, by rw [Nat.succ_mul]; exact e2, e3, e4⟩
theorem labs_cells {w : World} {b off : Nat} : ∀ (ls : List Lab) (o : Nat), (∀ i (h : i < ls.length), ∃ (pr pw : Value), w.cell? ⟨b, o + i * 2, none⟩ = some pr ∧ w.cell? ⟨b, o + i * 2 + 1, none⟩ = some pw ∧ IsPols w pr ls[i].r ∧ IsPols w pw ls[i].w) →
    ∃ xs, LabCells w ls xs ∧ ∀ j u, xs[j]? = some u → w.cell? ⟨b, o + j, none⟩ = some u
  | [], o, _ => ⟨[], rfl, fun j u hu => by simp at hu⟩
  | l :: ls, o, h => by
    obtain ⟨pr, pw, h0, h1, h2, h3⟩ := h 0 (by simp)
    obtain ⟨xs, hx, hc⟩ := labs_cells (w := w) (b := b) (off := off) ls (o + 2) (fun i hi => by
      obtain ⟨pr', pw', e0, e1, e2, e3⟩ := h (i + 1) (by simpa using hi)
      refine ⟨pr', pw', ?_, ?_, e2, e3⟩
      · rw [← e0]; congr 2; omega
      · rw [← e1]; congr 2; omega)
    refine ⟨pr :: pw :: xs, ⟨pr, pw, xs, rfl, h2, h3, hx⟩, fun j u hu => ?_⟩
    match j, hu with
    | 0, hu => simp at hu; subst hu; simpa using h0
    | 1, hu => simp at hu; subst hu; simpa using h1
    | j + 2, hu =>
      have := hc j u (by simpa using hu)
      rw [← this]
      congr 2
      omega
set_option maxHeartbeats 1000000 in
theorem growOf0 (w : World) : Calls Try.prog 150 #[.slice none 0 0, .int .i64 0] w fun e w' => ∃ v, e = .returned v ∧ w'.ownsRow w.heap.size 102 2 v 0 [] ∧ Below w.heap.size w w' := by
  go_enter Try.func150, Try.ntmps150
  go_wp2_with fail
  go_ret
  exact ⟨_, rfl, World.ownsRow_nil _ _ _ _, Below.refl _ _⟩

set_option maxHeartbeats 1000000 in
theorem growOf1 (w : World) : Calls Try.prog 150 #[.slice none 0 0, .int .i64 1] w fun e w' => ∃ v, e = .returned v ∧ w'.ownsRow w.heap.size 102 2 v 0 [] ∧ Below w.heap.size w w' := by
  go_enter Try.func150, Try.ntmps150
  go_wp2_with fail
  go_ret
  refine ⟨_, rfl, ⟨rfl, Or.inr ⟨w.heap.size, grownCap w 1 0 102, _, rfl, Nat.le_refl _, heap_alloc_new w _, Nat.zero_le _, grownCap_le_maxLen _ _ _ _ (by decide), ?_, rfl⟩⟩, ((Below.refl _ w).alloc (Nat.le_refl _) _).drew⟩
  have := grownCap_ge w 1 0 102
  simp [Builtin.zeroCells]
  unfold grownCap at this ⊢
  omega

set_option maxHeartbeats 1000000 in
theorem growOf2 (w : World) : Calls Try.prog 150 #[.slice none 0 0, .int .i64 2] w fun e w' => ∃ v, e = .returned v ∧ w'.ownsRow w.heap.size 102 2 v 0 [] ∧ Below w.heap.size w w' := by
  go_enter Try.func150, Try.ntmps150
  go_wp2_with fail
  go_ret
  refine ⟨_, rfl, ⟨rfl, Or.inr ⟨w.heap.size, grownCap w 2 0 102, _, rfl, Nat.le_refl _, heap_alloc_new w _, Nat.zero_le _, grownCap_le_maxLen _ _ _ _ (by decide), ?_, rfl⟩⟩, ((Below.refl _ w).alloc (Nat.le_refl _) _).drew⟩
  have := grownCap_ge w 2 0 102
  simp [Builtin.zeroCells]
  unfold grownCap at this ⊢
  omega

set_option maxHeartbeats 1000000 in
theorem growOf3 (w : World) : Calls Try.prog 150 #[.slice none 0 0, .int .i64 3] w fun e w' => ∃ v, e = .returned v ∧ w'.ownsRow w.heap.size 102 2 v 0 [] ∧ Below w.heap.size w w' := by
  go_enter Try.func150, Try.ntmps150
  go_wp2_with fail
  go_ret
  refine ⟨_, rfl, ⟨rfl, Or.inr ⟨w.heap.size, grownCap w 3 0 102, _, rfl, Nat.le_refl _, heap_alloc_new w _, Nat.zero_le _, grownCap_le_maxLen _ _ _ _ (by decide), ?_, rfl⟩⟩, ((Below.refl _ w).alloc (Nat.le_refl _) _).drew⟩
  have := grownCap_ge w 3 0 102
  simp [Builtin.zeroCells]
  unfold grownCap at this ⊢
  omega

set_option maxHeartbeats 1000000 in
theorem growOf4 (w : World) : Calls Try.prog 150 #[.slice none 0 0, .int .i64 4] w fun e w' => ∃ v, e = .returned v ∧ w'.ownsRow w.heap.size 102 2 v 0 [] ∧ Below w.heap.size w w' := by
  go_enter Try.func150, Try.ntmps150
  go_wp2_with fail
  go_ret
  refine ⟨_, rfl, ⟨rfl, Or.inr ⟨w.heap.size, grownCap w 4 0 102, _, rfl, Nat.le_refl _, heap_alloc_new w _, Nat.zero_le _, grownCap_le_maxLen _ _ _ _ (by decide), ?_, rfl⟩⟩, ((Below.refl _ w).alloc (Nat.le_refl _) _).drew⟩
  have := grownCap_ge w 4 0 102
  simp [Builtin.zeroCells]
  unfold grownCap at this ⊢
  omega

set_option maxHeartbeats 1000000 in
theorem growOf5 (w : World) : Calls Try.prog 150 #[.slice none 0 0, .int .i64 5] w fun e w' => ∃ v, e = .returned v ∧ w'.ownsRow w.heap.size 102 2 v 0 [] ∧ Below w.heap.size w w' := by
  go_enter Try.func150, Try.ntmps150
  go_wp2_with fail
  go_ret
  refine ⟨_, rfl, ⟨rfl, Or.inr ⟨w.heap.size, grownCap w 5 0 102, _, rfl, Nat.le_refl _, heap_alloc_new w _, Nat.zero_le _, grownCap_le_maxLen _ _ _ _ (by decide), ?_, rfl⟩⟩, ((Below.refl _ w).alloc (Nat.le_refl _) _).drew⟩
  have := grownCap_ge w 5 0 102
  simp [Builtin.zeroCells]
  unfold grownCap at this ⊢
  omega

set_option maxHeartbeats 1000000 in
theorem growOf6 (w : World) : Calls Try.prog 150 #[.slice none 0 0, .int .i64 6] w fun e w' => ∃ v, e = .returned v ∧ w'.ownsRow w.heap.size 102 2 v 0 [] ∧ Below w.heap.size w w' := by
  go_enter Try.func150, Try.ntmps150
  go_wp2_with fail
  go_ret
  refine ⟨_, rfl, ⟨rfl, Or.inr ⟨w.heap.size, grownCap w 6 0 102, _, rfl, Nat.le_refl _, heap_alloc_new w _, Nat.zero_le _, grownCap_le_maxLen _ _ _ _ (by decide), ?_, rfl⟩⟩, ((Below.refl _ w).alloc (Nat.le_refl _) _).drew⟩
  have := grownCap_ge w 6 0 102
  simp [Builtin.zeroCells]
  unfold grownCap at this ⊢
  omega

set_option maxHeartbeats 1000000 in
theorem growOf7 (w : World) : Calls Try.prog 150 #[.slice none 0 0, .int .i64 7] w fun e w' => ∃ v, e = .returned v ∧ w'.ownsRow w.heap.size 102 2 v 0 [] ∧ Below w.heap.size w w' := by
  go_enter Try.func150, Try.ntmps150
  go_wp2_with fail
  go_ret
  refine ⟨_, rfl, ⟨rfl, Or.inr ⟨w.heap.size, grownCap w 7 0 102, _, rfl, Nat.le_refl _, heap_alloc_new w _, Nat.zero_le _, grownCap_le_maxLen _ _ _ _ (by decide), ?_, rfl⟩⟩, ((Below.refl _ w).alloc (Nat.le_refl _) _).drew⟩
  have := grownCap_ge w 7 0 102
  simp [Builtin.zeroCells]
  unfold grownCap at this ⊢
  omega

set_option maxHeartbeats 1000000 in
theorem growOf8 (w : World) : Calls Try.prog 150 #[.slice none 0 0, .int .i64 8] w fun e w' => ∃ v, e = .returned v ∧ w'.ownsRow w.heap.size 102 2 v 0 [] ∧ Below w.heap.size w w' := by
  go_enter Try.func150, Try.ntmps150
  go_wp2_with fail
  go_ret
  refine ⟨_, rfl, ⟨rfl, Or.inr ⟨w.heap.size, grownCap w 8 0 102, _, rfl, Nat.le_refl _, heap_alloc_new w _, Nat.zero_le _, grownCap_le_maxLen _ _ _ _ (by decide), ?_, rfl⟩⟩, ((Below.refl _ w).alloc (Nat.le_refl _) _).drew⟩
  have := grownCap_ge w 8 0 102
  simp [Builtin.zeroCells]
  unfold grownCap at this ⊢
  omega

set_option maxHeartbeats 1000000 in
theorem growOf9 (w : World) : Calls Try.prog 150 #[.slice none 0 0, .int .i64 9] w fun e w' => ∃ v, e = .returned v ∧ w'.ownsRow w.heap.size 102 2 v 0 [] ∧ Below w.heap.size w w' := by
  go_enter Try.func150, Try.ntmps150
  go_wp2_with fail
  go_ret
  refine ⟨_, rfl, ⟨rfl, Or.inr ⟨w.heap.size, grownCap w 9 0 102, _, rfl, Nat.le_refl _, heap_alloc_new w _, Nat.zero_le _, grownCap_le_maxLen _ _ _ _ (by decide), ?_, rfl⟩⟩, ((Below.refl _ w).alloc (Nat.le_refl _) _).drew⟩
  have := grownCap_ge w 9 0 102
  simp [Builtin.zeroCells]
  unfold grownCap at this ⊢
  omega

set_option maxHeartbeats 1000000 in
theorem growOf10 (w : World) : Calls Try.prog 150 #[.slice none 0 0, .int .i64 10] w fun e w' => ∃ v, e = .returned v ∧ w'.ownsRow w.heap.size 102 2 v 0 [] ∧ Below w.heap.size w w' := by
  go_enter Try.func150, Try.ntmps150
  go_wp2_with fail
  go_ret
  refine ⟨_, rfl, ⟨rfl, Or.inr ⟨w.heap.size, grownCap w 10 0 102, _, rfl, Nat.le_refl _, heap_alloc_new w _, Nat.zero_le _, grownCap_le_maxLen _ _ _ _ (by decide), ?_, rfl⟩⟩, ((Below.refl _ w).alloc (Nat.le_refl _) _).drew⟩
  have := grownCap_ge w 10 0 102
  simp [Builtin.zeroCells]
  unfold grownCap at this ⊢
  omega

theorem growOf (n : Nat) (hn : n ≤ 10) (w : World) : Calls Try.prog 150 #[.slice none 0 0, .int .i64 n] w fun e w' => ∃ v, e = .returned v ∧ w'.ownsRow w.heap.size 102 2 v 0 [] ∧ Below w.heap.size w w' := by
  match n, hn with
  | 0, _ => exact growOf0 w
  | 1, _ => exact growOf1 w
  | 2, _ => exact growOf2 w
  | 3, _ => exact growOf3 w
  | 4, _ => exact growOf4 w
  | 5, _ => exact growOf5 w
  | 6, _ => exact growOf6 w
  | 7, _ => exact growOf7 w
  | 8, _ => exact growOf8 w
  | 9, _ => exact growOf9 w
  | 10, _ => exact growOf10 w

theorem LabsAt.src2 {w : World} {ad : Addr} {n cap : Nat} {ls : List Lab} (h : LabsAt w (.slice (some ad) n cap) ls) : ∃ xs, LabCells w ls xs ∧ ∀ j u, xs[j]? = some u → w.cell? (ad.add j) = some u := by
  obtain ⟨-, ao, cap', he, hc⟩ := h
  injection he with e1 e2 e3
  rcases hl : ls with _ | ⟨a, l⟩
  · exact ⟨[], rfl, fun j u hu => by simp at hu⟩
  · obtain ⟨b, off, hbo, hel⟩ := hc (by rw [hl]; simp)
    rw [← e1] at hbo
    have hbo2 := Option.some.inj hbo
    subst hbo2
    obtain ⟨xs, hx, hxc⟩ := labs_cells (w := w) (b := b) (off := off) ls off (fun i hi => hel i hi)
    refine ⟨xs, hl ▸ hx, fun j u hu => ?_⟩
    rw [Addr.add_lit]
    exact hxc j u hu

set_option maxHeartbeats 8000000 in
set_option maxRecDepth 100000 in
theorem concat_any (g : Nat) (ya : Option Addr) (yn yc : Nat) (oa : Option Addr) (on oc : Nat) (ls ms : List Lab) (w : World) (hg : RowAt [.slice ya yn yc, .slice oa on oc] w g) (h1 : LabsAt w (.slice ya yn yc) ls) (h2 : LabsAt w (.slice oa on oc) ms) (hy : yn ≤ 5) (ho : on ≤ 5) (hyc : ya = none → yc = 0) (hoc : oa = none → oc = 0) :
    Calls Try.prog 137 #[.slice (some ⟨g, 0, none⟩) 2 2] w fun e w' => ∃ v xs, e = .returned v ∧ w'.ownsRow w.heap.size 102 2 v (ls ++ ms).length xs ∧ LabCells w' (ls ++ ms) xs ∧ Below w.heap.size w w' := by
  obtain ⟨i0, hi, hz0, hz1, hz2⟩ := info_parts Try.infoL
  have K1 := hide (growOf (yn + on) (by omega) w)
  have HG := hide hg
  have H1 := hide h1
  have H2 := hide h2
  have hyn : yn = ls.length := by obtain ⟨-, a, c, he, -⟩ := h1; injection he
  have hon : on = ms.length := by obtain ⟨-, a, c, he, -⟩ := h2; injection he
  have HYN := hide hyn
  have HON := hide hon
  clear hg h1 h2 hyn hon
  go_enter Try.func137, Try.ntmps137
  go_wp2_with fail
  go_loopw [3, 11] (fun s i wr => ∃ j : Int, 0 ≤ j ∧ j ≤ 2 ∧ i = .int .i64 j ∧ s = .int .i64 (if j = 0 then 0 else if j = 1 then (yn : Int) else (yn : Int) + on) ∧ wr = w) (fun _ i _ => 2 - (intOf i).toNat)
  case atStart => exact ⟨0, by omega, by omega, rfl, rfl, rfl⟩
  case round =>
    obtain ⟨j, hj0, hj, rfl, rfl, hw⟩ := hrel
    have hw' := hw.symm
    subst hw'
    clear hw
    rcases (by omega : j = 0 ∨ j = 1 ∨ j = 2) with rfl | rfl | rfl
    · have q := HG.out 0 _ rfl
      rw [if_pos rfl]
      go_wp2_with fail
      exact ⟨⟨1, by omega, by omega, by first | rfl | go_num, by first | rfl | simp, by first | rfl | trivial⟩, by simp [intOf]⟩
    · have q := HG.out 1 _ rfl
      rw [if_neg (by omega), if_pos rfl]
      go_wp2_with fail
      exact ⟨⟨2, by omega, by omega, by first | rfl | go_num, by first | rfl | simp, by first | rfl | trivial⟩, by simp [intOf]⟩
    · rw [if_neg (by omega), if_neg (by omega)]
      have K1' : Hid (Calls Try.prog 150 #[.slice none 0 0, .int .i64 ((yn : Int) + on)] w fun e w' => ∃ v, e = .returned v ∧ w'.ownsRow w.heap.size 102 2 v 0 [] ∧ Below w.heap.size w w') := by
        have := K1.out
        rw [Int.natCast_add] at this
        exact this
      obtain ⟨T, hT⟩ : ∃ T, T = (yn : Int) + on := ⟨_, rfl⟩
      rw [← hT] at K1' ⊢
      have hT0 : 0 ≤ T := by omega
      have hT1 : T ≤ 10 := by omega
      clear hT
      go_wp2_with fail
      refine (K1'.out).mono ?_
      rintro e w1 ⟨v, rfl, hown, hb1⟩
      clear K1 K1'
      obtain ⟨va, vn, vc, hvf⟩ : ∃ a n c, v = .slice a n c := by
        rcases hown.2 with ⟨h, _⟩ | ⟨g, cap, cur, h, _⟩
        · exact ⟨_, _, _, h⟩
        · exact ⟨_, _, _, h⟩
      subst hvf
      go_wp2_with fail
      go_loopw [6, 27] (fun nv i wq => ∃ (j : Int) (xs : List Value), 0 ≤ j ∧ j ≤ 2 ∧ i = .int .i64 j ∧ wq.ownsRow w.heap.size 102 2 nv (if j = 0 then [] else if j = 1 then ls else ls ++ ms).length xs ∧ LabCells w (if j = 0 then [] else if j = 1 then ls else ls ++ ms) xs ∧ Below w.heap.size w wq) (fun _ i _ => 2 - (intOf i).toNat)
      case atStart => exact ⟨0, [], by omega, by omega, rfl, hown, rfl, hb1⟩
      case round =>
        clear hown hb1
        obtain ⟨j, xs, hj0, hj, rfl, hown, hcl, hB⟩ := hrel
        rcases (by omega : j = 0 ∨ j = 1 ∨ j = 2) with rfl | rfl | rfl
        · rw [if_pos rfl] at hown hcl
          have q := HG.out.over hB 0 _ rfl
          have hs1 : w.heap.size ≤ wr.heap.size := hB.size
          cases ya with
          | none =>
            have hc0 := hyc rfl
            have hl0 : ls = [] := by
              obtain ⟨-, a0, c0, he, hcc⟩ := H1.out
              injection he with e1 e2 e3
              rcases h : ls with _ | ⟨x, r⟩
              · rfl
              · obtain ⟨b, off, hbo, -⟩ := hcc (by rw [h]; simp)
                rw [← e1] at hbo
                cases hbo
            have hn0 : yn = 0 := by rw [HYN.out, hl0]; rfl
            subst hc0 hn0
            go_wp2_with (at_builtin; refine wpList_append_own_none rfl _ _ 36 rfl w.heap.size 102 i0 2 Try.underlying36 hi _ _ _ rfl hown rfl ?_)
            go_wp2_with fail
            refine ⟨⟨1, xs, by omega, by omega, by first | rfl | go_num, ?_, ?_, hB⟩, by simp [intOf]⟩
            · rw [if_neg (by omega), if_pos rfl]
              rw [hl0]
              simpa using hown
            · rw [if_neg (by omega), if_pos rfl]
              rw [hl0]
              simpa using hcl
          | some ad =>
            obtain ⟨ys, hys, hyc0⟩ := H1.out.src2
            have hyc2 := fun j u hu => cell_over hB _ _ (hyc0 j u hu)
            have hb0 : ([] : List Lab).length + yn ≤ 10 := by simp; omega
            go_wp2_with (at_builtin; refine wpList_append_own _ rfl _ _ 36 rfl w.heap.size 102 i0 (.agg #[.slice none 0 0, .slice none 0 0]) 2 48 Try.underlying36 hi hz0 hz1 hz2 rfl (by decide) _ _ _ rfl hown ad yn yc ys rfl (by rw [hys.length, HYN.out]) hyc2 hys.one (by unfold maxLen; omega) (by omega) hs1 ?_)
            intro v2 w3 hown2 hgr2 _
            have hbl2 := below_grown hown hgr2 hs1
            have HO2 := hide hown2
            have hcl2 := (hcl.append hys)
            go_wp2_with fail
            refine ⟨⟨1, xs ++ ys, by omega, by omega, by first | rfl | go_num, ?_, ?_, hB.trans hbl2⟩, by simp [intOf]⟩
            · rw [if_neg (by omega), if_pos rfl]
              have h3 := HO2.out
              rw [HYN.out] at h3
              simpa using h3
            · rw [if_neg (by omega), if_pos rfl]
              simpa using hcl2
        · rw [if_neg (by omega), if_pos rfl] at hown hcl
          have q := HG.out.over hB 1 _ rfl
          have hs1 : w.heap.size ≤ wr.heap.size := hB.size
          cases oa with
          | none =>
            have hc0 := hoc rfl
            have hl0 : ms = [] := by
              obtain ⟨-, a0, c0, he, hcc⟩ := H2.out
              injection he with e1 e2 e3
              rcases h : ms with _ | ⟨x, r⟩
              · rfl
              · obtain ⟨b, off, hbo, -⟩ := hcc (by rw [h]; simp)
                rw [← e1] at hbo
                cases hbo
            have hn0 : on = 0 := by rw [HON.out, hl0]; rfl
            subst hc0 hn0
            go_wp2_with (at_builtin; refine wpList_append_own_none rfl _ _ 36 rfl w.heap.size 102 i0 2 Try.underlying36 hi _ _ _ rfl hown rfl ?_)
            go_wp2_with fail
            refine ⟨⟨2, xs, by omega, by omega, by first | rfl | go_num, ?_, ?_, hB⟩, by simp [intOf]⟩
            · rw [if_neg (by omega), if_neg (by omega)]
              rw [hl0]
              simpa using hown
            · rw [if_neg (by omega), if_neg (by omega)]
              rw [hl0]
              simpa using hcl
          | some ad =>
            obtain ⟨ys, hys, hyc0⟩ := H2.out.src2
            have hyc2 := fun j u hu => cell_over hB _ _ (hyc0 j u hu)
            have hb0 : ls.length + on ≤ 10 := by have := HYN.out; omega
            go_wp2_with (at_builtin; refine wpList_append_own _ rfl _ _ 36 rfl w.heap.size 102 i0 (.agg #[.slice none 0 0, .slice none 0 0]) 2 48 Try.underlying36 hi hz0 hz1 hz2 rfl (by decide) _ _ _ rfl hown ad on oc ys rfl (by rw [hys.length, HON.out]) hyc2 hys.one (by unfold maxLen; omega) (by omega) hs1 ?_)
            intro v2 w3 hown2 hgr2 _
            have hbl2 := below_grown hown hgr2 hs1
            have HO2 := hide hown2
            have hcl2 := (hcl.append hys)
            go_wp2_with fail
            refine ⟨⟨2, xs ++ ys, by omega, by omega, by first | rfl | go_num, ?_, ?_, hB.trans hbl2⟩, by simp [intOf]⟩
            · rw [if_neg (by omega), if_neg (by omega)]
              have h3 := HO2.out
              rw [HON.out] at h3
              simpa using h3
            · rw [if_neg (by omega), if_neg (by omega)]
              simpa using hcl2
        · rw [if_neg (by omega), if_neg (by omega)] at hown hcl
          go_wp2_with fail
          go_ret
          exact ⟨_, xs, rfl, hown, hcl.over hB, hB⟩
theorem own_cellsL {W : World} {B e : Nat} {v : Value} {n : Nat} {xs : List Value} (h : W.ownsRow B e 2 v n xs) (hn : 0 < n) : ∃ g cap, v = .slice (some ⟨g, 0, none⟩) n cap ∧ B ≤ g ∧ g < W.heap.size ∧ ∀ j u, xs[j]? = some u → W.cell? ((⟨g, 0, none⟩ : Addr).add j) = some u := by
  rcases h.2 with ⟨_, h0⟩ | ⟨g, cap, cur, hv, hb, hg, h1, h2, h3, h4⟩
  · omega
  · refine ⟨g, cap, hv, hb, (Array.getElem?_eq_some_iff.1 hg).1, fun j u hu => ?_⟩
    rw [Addr.add_lit, Lib.cell_of_heap hg]
    rw [← h4, List.getElem?_take] at hu
    split at hu
    · simpa using hu
    · cases hu

/-- labels that passed. -/
def labsOk (m : Int) (gs : List (Int × Int)) (ls : List Lab) (vs : List (Bool × Lab)) : Prop :=
  (∀ b ∈ ls, lChk m gs b = 0) ∧ (∀ v ∈ vs, lChk m gs v.2 = 0) ∧ ∀ v ∈ vs, v.1 = false → v.2.r = [] ∧ v.2.w = []
theorem take_next {α : Type} {P : α → Prop} {l : List α} {n : Nat} (h : n < l.length) (h1 : ∀ b ∈ l.take n, P b) (h2 : P l[n]) : ∀ b ∈ l.take (n + 1), P b := fun b hb => by
  rw [List.take_succ_eq_append_getElem h, List.mem_append, List.mem_singleton] at hb
  rcases hb with hb | rfl
  · exact h1 b hb
  · exact h2
theorem take_full {α : Type} {P : α → Prop} {l : List α} {n : Nat} (h : l.length ≤ n) (h1 : ∀ b ∈ l.take n, P b) : ∀ b ∈ l, P b := by
  rw [List.take_of_length_le h] at h1
  exact h1
theorem pols_len {w : World} {a : Option Addr} {n c : Nat} {ps : List Pol} (h : IsPols w (.slice a n c) ps) : n = ps.length := by
  obtain ⟨ao, cap, he, -⟩ := h
  injection he
/-- a program in memory. -/
structure ProgAt (K kf : Nat) (m : Int) (ga : Option Addr) (gn gc : Nat) (sa : Option Addr) (sn sc : Nat) (ya : Option Addr) (yn yc : Nat) (oa : Option Addr) (on oc : Nat) (va : Option Addr) (vn vc : Nat) (fa : Option Addr) (fn fc : Nat) (ba : Option Addr) (bn bc : Nat) (gs : List (Int × Int)) (sp : List Int) (ls ms : List Lab) (vs : List (Bool × Lab)) (fs : List FnD) (l : List D) (w : World) : Prop where
  m64 : In64 m
  grants : IsGrants w (.slice ga gn gc) gs
  speak : IsInts w (.slice sa sn sc) sp
  speakL : sp.length ≤ 9223372036854775807
  ins : LabsAt w (.slice ya yn yc) ls
  outs : LabsAt w (.slice oa on oc) ms
  vars : VarsAt w (.slice va vn vc) vs
  funcs : FnsAt w K kf (.slice fa fn fc) fs
  main : StmtsAt w K kf (.slice ba bn bc) l
  insN : ya = none → yc = 0
  outsN : oa = none → oc = 0
theorem ProgAt.over {K kf : Nat} {m : Int} {ga : Option Addr} {gn gc : Nat} {sa : Option Addr} {sn sc : Nat} {ya : Option Addr} {yn yc : Nat} {oa : Option Addr} {on oc : Nat} {va : Option Addr} {vn vc : Nat} {fa : Option Addr} {fn fc : Nat} {ba : Option Addr} {bn bc : Nat} {gs : List (Int × Int)} {sp : List Int} {ls ms : List Lab} {vs : List (Bool × Lab)} {fs : List FnD} {l : List D} {w w' : World} (h : ProgAt K kf m ga gn gc sa sn sc ya yn yc oa on oc va vn vc fa fn fc ba bn bc gs sp ls ms vs fs l w) (hb : Below w.heap.size w w') : ProgAt K kf m ga gn gc sa sn sc ya yn yc oa on oc va vn vc fa fn fc ba bn bc gs sp ls ms vs fs l w' :=
  ⟨h.m64, isGrants_over h.grants hb, h.speak.over hb, h.speakL, h.ins.over hb, h.outs.over hb, h.vars.over hb, h.funcs.over hb, h.main.over hb, h.insN, h.outsN⟩

/-- a program that may be run. -/
structure okP (K kf : Nat) (m : Int) (vn yn on : Nat) (gs : List (Int × Int)) (sp : List Int) (ls ms : List Lab) (vs : List (Bool × Lab)) (fs : List FnD) (l : List D) : Prop where
  chk : chkErr m gs = 0
  speak : ∀ x ∈ sp, 0 ≤ x ∧ x < m
  labs : labsOk m gs (ls ++ ms) vs
  outs : on ≤ 5
  vars : vn ≤ 16
  ins : yn ≤ 5
  funcs : fs.length ≤ 5
  many : cntF kf fs + cnts kf l ≤ 50
  body : ∀ i (h : i < fs.length), okF K vn yn on (i : Int) fs kf fs[i]
  main : ∀ s ∈ l, okS K vn yn on (fs.length : Int) fs kf s
theorem assertW (v : Value) (w : World) : (Instr.typeAssert (.iface 162 v) 20 162 false).run Try.prog w = .ok v w := by
  simp [Instr.typeAssert, run_underlying Try.underlying162, go_sem, Result.andThen]

set_option maxHeartbeats 1000000 in
theorem catch_gave (B : Nat) (x y a e : Int) (older : List PanicEntry) (w : World) (hB : B + 2 ≤ w.heap.size)
    (c0 : w.cell? ⟨B, 0, none⟩ = some (.int .i64 x)) (c1 : w.cell? ⟨B + 1, 0, none⟩ = some (.int .i64 y))
    (f0 : w.frozen? ⟨B, 0, none⟩ = false) (f1 : w.frozen? ⟨B + 1, 0, none⟩ = false) :
    CallsD Try.prog 106 #[.pointer (some ⟨B, 0, none⟩), .pointer (some ⟨B + 1, 0, none⟩)] (.panicking ({ v := .iface 162 (.agg #[.int .i64 a, .int .i64 e]), recovered := false } :: older)) w fun en u' w' =>
      en = .returned (.tuple #[]) ∧ u' = .panicking ({ v := .iface 162 (.agg #[.int .i64 a, .int .i64 e]), recovered := true } :: older) ∧
      w'.cell? ⟨B, 0, none⟩ = some (.int .i64 a) ∧ w'.cell? ⟨B + 1, 0, none⟩ = some (.int .i64 e) ∧ Below B w w' := by
  have hta := assertW
  refine callsD_of_wpS Try.func106 rfl fun c₀ cs hu => ?_
  apply wpS_seq
  apply wpS_region
  simp [wpOpsS, go_sem, recoverD, hu, Try.ntmps106, Exit.thenS]
  refine wpS_of_wp ?_
  change Code.wp Try.prog _ _ { tmps := #[.pointer (some ⟨B, 0, none⟩), .pointer (some ⟨B + 1, 0, none⟩), .iface 162 (.agg #[.int .i64 a, .int .i64 e]), undef, .iface 162 (.agg #[.int .i64 a, .int .i64 e]), undef, undef, undef, undef, undef, undef, undef, undef], defers := [] } w
  go_wp2
  have k1 : B < w.heap.size := by omega
  have k2 : B + 1 < w.heap.size := by omega
  go_region
  go_wp2
  refine ⟨rfl, _, by cases c₀; simp_all, .tuple #[], by simp [results, Try.results106], rfl, rfl, ?_⟩
  refine ⟨by simp [go_sem, k1, c0], by simp [go_sem, k2, c1], ?_⟩
  exact (((((Below.refl B w).setCell (by simp) _).setCell (by simp) _)).alloc (by simp [World.setCell]; omega) _).drew
end Go.Proofs.Ytcbbjjenkommeaa.Ex
namespace Go.Proofs.Ytcbbjjenkommeaa.Ex.Ey
open Go.RowKit
set_option linter.unusedVariables false
/-- it goes on, and something holds then; or it gives up, and that does not hold. -/
def Goes (ok : Prop) (w : World) (e : Ending) (w' : World) : Prop := ((ok ∧ e = .returned (.tuple #[])) ∨ (¬ ok ∧ ∃ why : Int, why ≠ 0 ∧ e = gaveW why)) ∧ Below w.heap.size w w'
theorem Goes.imp {p q : Prop} {w : World} {e : Ending} {w' : World} (h : Goes p w e w') (hpq : p ↔ q) : Goes q w e w' := by
  have : p = q := propext hpq
  subst this
  exact h

set_option maxHeartbeats 1000000 in
set_option maxRecDepth 100000 in
theorem exprG_any (K : Nat) (m : Int) (ga : Option Addr) (gn gc : Nat) (sa : Option Addr) (sn sc : Nat) (ya : Option Addr) (yn yc : Nat) (oa : Option Addr) (on oc : Nat) (va : Option Addr) (vn vc : Nat) (fa : Option Addr) (fn fc : Nat) (ba : Option Addr) (bn bc : Nat) (cs : List Value) (d : D) (w : World) (h : RX w K cs d) (hv : vn ≤ 9223372036854775807) : Calls Try.prog 140 #[.agg #[.int .i64 m, .slice ga gn gc, .slice sa sn sc, .slice ya yn yc, .slice oa on oc, .slice va vn vc, .slice fa fn fc, .slice ba bn bc], .agg cs.toArray] w (Goes (checkX vn K d = 0) w) := by
  have K1 := hide fun W hB => check_any K cs d W (vn : Int) (by omega) (by omega) (h.over hB)
  have K2 := hide pass_any
  obtain ⟨xa, xc, rfl⟩ := h.form
  obtain ⟨ek, hek⟩ : ∃ q, q = kindOf d := ⟨_, rfl⟩
  obtain ⟨en, hen⟩ : ∃ q, q = numOf d := ⟨_, rfl⟩
  obtain ⟨xl, hxl⟩ : ∃ q, q = (argsOf d).length := ⟨_, rfl⟩
  rw [← hek, ← hen, ← hxl] at K1 ⊢
  clear hek hen hxl h
  obtain ⟨r, hr⟩ : ∃ q, q = checkX vn K d := ⟨_, rfl⟩
  rw [← hr] at K1 ⊢
  clear hr
  have hbel : Below w.heap.size w ((w.alloc (.cells #[.int .i64 m, .slice ga gn gc, .slice sa sn sc, .slice ya yn yc, .slice oa on oc, .slice va vn vc, .slice fa fn fc, .slice ba bn bc] 125)).alloc (.cells #[.int .i64 ek, .int .i64 en, .slice xa xl xc] 24)) := ((Below.refl _ w).alloc (Nat.le_refl _) _).alloc (by simp) _
  show Calls Try.prog 140 #[.agg #[.int .i64 m, .slice ga gn gc, .slice sa sn sc, .slice ya yn yc, .slice oa on oc, .slice va vn vc, .slice fa fn fc, .slice ba bn bc], .agg #[.int .i64 ek, .int .i64 en, .slice xa xl xc]] w _
  go_enter Try.func140, Try.ntmps140
  go_wp2_with fail
  refine (K1.out _ hbel).mono ?_
  rintro e w1 ⟨rfl, hb1⟩
  have hB1 := hbel.trans (hb1.mono hbel.size)
  go_wp2_with fail
  refine (K2.out _ _).mono ?_
  rintro e wz ⟨he, rfl⟩
  rcases he with ⟨h0, rfl⟩ | ⟨h0, rfl⟩
  · have h1 : r = 0 := by simpa using h0
    clear h0
    subst h1
    go_wp2_with fail
    go_end0
    exact ⟨Or.inl ⟨by first | rfl | trivial, rfl⟩, hB1⟩
  · have h1 : r ≠ 0 := by simpa using h0
    unfold gaveW
    go_wp2_with fail
    exact ⟨rfl, Or.inr ⟨by first | exact h1 | simp, r, h1, rfl⟩, hB1⟩
theorem held11 {w w0 w1 : World} {a0 a1 a2 a3 a4 a5 a6 a7 a8 a9 a10 : Addr} {v0 v1 v2 v3 v4 v5 v6 v7 v8 v9 v10 : Value}
    (h : w0.cell? a0 = some v0 ∧ w0.cell? a1 = some v1 ∧ w0.cell? a2 = some v2 ∧ w0.cell? a3 = some v3 ∧ w0.cell? a4 = some v4 ∧ w0.cell? a5 = some v5 ∧ w0.cell? a6 = some v6 ∧ w0.cell? a7 = some v7 ∧ w0.cell? a8 = some v8 ∧ w0.cell? a9 = some v9 ∧ w0.cell? a10 = some v10 ∧ Below w.heap.size w w0) (hb : Below w0.heap.size w0 w1) :
    w1.cell? a0 = some v0 ∧ w1.cell? a1 = some v1 ∧ w1.cell? a2 = some v2 ∧ w1.cell? a3 = some v3 ∧ w1.cell? a4 = some v4 ∧ w1.cell? a5 = some v5 ∧ w1.cell? a6 = some v6 ∧ w1.cell? a7 = some v7 ∧ w1.cell? a8 = some v8 ∧ w1.cell? a9 = some v9 ∧ w1.cell? a10 = some v10 ∧ Below w.heap.size w w1 := by
  obtain ⟨h0, h1, h2, h3, h4, h5, h6, h7, h8, h9, h10, hB⟩ := h
  exact ⟨cell_over hb _ _ h0, cell_over hb _ _ h1, cell_over hb _ _ h2, cell_over hb _ _ h3, cell_over hb _ _ h4, cell_over hb _ _ h5, cell_over hb _ _ h6, cell_over hb _ _ h7, cell_over hb _ _ h8, cell_over hb _ _ h9, cell_over hb _ _ h10, hB.trans (hb.mono hB.size)⟩

theorem cellN {w : World} {n : Nat} {a : Addr} {v : Value} (h : w.cell? a = some v) : (w.drewN n).cell? a = some v := h

set_option maxHeartbeats 8000000 in
set_option maxRecDepth 100000 in
theorem stmtG3 (K k : Nat) (fs : List FnD) (de : D) (das : List D) (funcs : Int) (m : Int) (ga : Option Addr) (gn gc : Nat) (sa : Option Addr) (sn sc : Nat) (ya : Option Addr) (yn yc : Nat) (oa : Option Addr) (on oc : Nat) (va : Option Addr) (vn vc : Nat) (fa : Option Addr) (fn fc : Nat) (ba : Option Addr) (bn bc : Nat) (vr ot ek en : Int) (xa : Option Addr) (xl xc : Nat) (aa : Option Addr) (al ac : Nat) (ta : Option Addr) (tl tc : Nat) (ea : Option Addr) (el ec : Nat) (w : World) (hv : vn ≤ 9223372036854775807) (i1 : In64 vr) (i2 : In64 ot) (h0f : 0 ≤ funcs) (h1f : funcs ≤ 9223372036854775807) (hyl : yn ≤ 9223372036854775807) (hol : on ≤ 9223372036854775807)
    (hde : RX w K [.int .i64 ek, .int .i64 en, .slice xa xl xc] de) (hda : XS 3 (RX w K) w (.slice aa al ac) das) (hfs : FnsAt w K k (.slice fa fn fc) fs) (hff : funcs ≤ fs.length) :
    Calls Try.prog 141 #[.agg #[.int .i64 m, .slice ga gn gc, .slice sa sn sc, .slice ya yn yc, .slice oa on oc, .slice va vn vc, .slice fa fn fc, .slice ba bn bc], .agg #[.int .i64 3, .int .i64 vr, .int .i64 ot, .int .i64 ek, .int .i64 en, .slice xa xl xc, .slice aa al ac, .slice ta tl tc, .slice ea el ec], .int .i64 funcs] w (Goes ((0 ≤ vr ∧ vr < vn) ∧ (0 ≤ ot ∧ ot < (yn : Int)) ∧ (ek = 0 ∧ en = 0 ∧ xl = 0) ∧ (al = 0) ∧ (tl = 0) ∧ (el = 0)) w) := by
  obtain ⟨Q, hQ⟩ : ∃ Q : Prop, Q = ((0 ≤ vr ∧ vr < vn) ∧ (0 ≤ ot ∧ ot < (yn : Int)) ∧ (ek = 0 ∧ en = 0 ∧ xl = 0) ∧ (al = 0) ∧ (tl = 0) ∧ (el = 0)) := ⟨_, rfl⟩
  rw [← hQ]
  have HQ : Hid (((0 ≤ vr ∧ vr < vn) ∧ (0 ≤ ot ∧ ot < (yn : Int)) ∧ (ek = 0 ∧ en = 0 ∧ xl = 0) ∧ (al = 0) ∧ (tl = 0) ∧ (el = 0)) → Q) := hide (fun p => by rw [hQ]; exact p)
  have N1 : Hid (¬ (0 ≤ vr ∧ vr < vn) → ¬ Q) := hide (fun h p => by rw [hQ] at p; exact h p.1)
  have N2 : Hid (¬ (0 ≤ ot ∧ ot < (yn : Int)) → ¬ Q) := hide (fun h p => by rw [hQ] at p; exact h p.2.1)
  have N3 : Hid (¬ (ek = 0 ∧ en = 0 ∧ xl = 0) → ¬ Q) := hide (fun h p => by rw [hQ] at p; exact h p.2.2.1)
  have N4 : Hid (¬ (al = 0) → ¬ Q) := hide (fun h p => by rw [hQ] at p; exact h p.2.2.2.1)
  have N5 : Hid (¬ (tl = 0) → ¬ Q) := hide (fun h p => by rw [hQ] at p; exact h p.2.2.2.2.1)
  have N6 : Hid (¬ (el = 0) → ¬ Q) := hide (fun h p => by rw [hQ] at p; exact h p.2.2.2.2.2)
  clear hQ
  have K1 := hide shapeOf3
  have K2 := hide must_any
  have K3 := hide isOneOf_any
  have K4 := hide fun W => others_any 3 funcs m ga gn gc sa sn sc ya yn yc oa on oc va vn vc fa fn fc ba bn bc W
  simp only [Int.reduceEq, if_true, if_false] at K4
  have K5 := hide fun W (hB : Below w.heap.size w W) => exprG_any K m ga gn gc sa sn sc ya yn yc oa on oc va vn vc fa fn fc ba bn bc _ _ W (hde.over hB) hv
  have hal : al ≤ 9223372036854775807 ∧ al = das.length := ⟨by obtain ⟨hm, ao, cap, he, -⟩ := hda; injection he with e1 e2 e3; rw [e2]; exact hm, by obtain ⟨hm, ao, cap, he, -⟩ := hda; injection he⟩
  obtain ⟨hal, hale⟩ := hal
  have HAL := hide hale
  obtain ⟨i1, i1'⟩ := i1
  obtain ⟨i2, i2'⟩ := i2
  clear hde hda hfs hale
  have c0 : ((w.alloc (.cells #[.int .i64 m, .slice ga gn gc, .slice sa sn sc, .slice ya yn yc, .slice oa on oc, .slice va vn vc, .slice fa fn fc, .slice ba bn bc] 125)).alloc (.cells #[.int .i64 3, .int .i64 vr, .int .i64 ot, .int .i64 ek, .int .i64 en, .slice xa xl xc, .slice aa al ac, .slice ta tl tc, .slice ea el ec] 78)).cell? ⟨w.heap.size, 0, none⟩ = some (.int .i64 m) := by simp [go_sem]
  have c1 : ((w.alloc (.cells #[.int .i64 m, .slice ga gn gc, .slice sa sn sc, .slice ya yn yc, .slice oa on oc, .slice va vn vc, .slice fa fn fc, .slice ba bn bc] 125)).alloc (.cells #[.int .i64 3, .int .i64 vr, .int .i64 ot, .int .i64 ek, .int .i64 en, .slice xa xl xc, .slice aa al ac, .slice ta tl tc, .slice ea el ec] 78)).cell? ⟨w.heap.size, 1, none⟩ = some (.slice ga gn gc) := by simp [go_sem]
  have c2 : ((w.alloc (.cells #[.int .i64 m, .slice ga gn gc, .slice sa sn sc, .slice ya yn yc, .slice oa on oc, .slice va vn vc, .slice fa fn fc, .slice ba bn bc] 125)).alloc (.cells #[.int .i64 3, .int .i64 vr, .int .i64 ot, .int .i64 ek, .int .i64 en, .slice xa xl xc, .slice aa al ac, .slice ta tl tc, .slice ea el ec] 78)).cell? ⟨w.heap.size, 2, none⟩ = some (.slice sa sn sc) := by simp [go_sem]
  have c3 : ((w.alloc (.cells #[.int .i64 m, .slice ga gn gc, .slice sa sn sc, .slice ya yn yc, .slice oa on oc, .slice va vn vc, .slice fa fn fc, .slice ba bn bc] 125)).alloc (.cells #[.int .i64 3, .int .i64 vr, .int .i64 ot, .int .i64 ek, .int .i64 en, .slice xa xl xc, .slice aa al ac, .slice ta tl tc, .slice ea el ec] 78)).cell? ⟨w.heap.size, 3, none⟩ = some (.slice ya yn yc) := by simp [go_sem]
  have c4 : ((w.alloc (.cells #[.int .i64 m, .slice ga gn gc, .slice sa sn sc, .slice ya yn yc, .slice oa on oc, .slice va vn vc, .slice fa fn fc, .slice ba bn bc] 125)).alloc (.cells #[.int .i64 3, .int .i64 vr, .int .i64 ot, .int .i64 ek, .int .i64 en, .slice xa xl xc, .slice aa al ac, .slice ta tl tc, .slice ea el ec] 78)).cell? ⟨w.heap.size, 4, none⟩ = some (.slice oa on oc) := by simp [go_sem]
  have c5 : ((w.alloc (.cells #[.int .i64 m, .slice ga gn gc, .slice sa sn sc, .slice ya yn yc, .slice oa on oc, .slice va vn vc, .slice fa fn fc, .slice ba bn bc] 125)).alloc (.cells #[.int .i64 3, .int .i64 vr, .int .i64 ot, .int .i64 ek, .int .i64 en, .slice xa xl xc, .slice aa al ac, .slice ta tl tc, .slice ea el ec] 78)).cell? ⟨w.heap.size, 5, none⟩ = some (.slice va vn vc) := by simp [go_sem]
  have c6 : ((w.alloc (.cells #[.int .i64 m, .slice ga gn gc, .slice sa sn sc, .slice ya yn yc, .slice oa on oc, .slice va vn vc, .slice fa fn fc, .slice ba bn bc] 125)).alloc (.cells #[.int .i64 3, .int .i64 vr, .int .i64 ot, .int .i64 ek, .int .i64 en, .slice xa xl xc, .slice aa al ac, .slice ta tl tc, .slice ea el ec] 78)).cell? ⟨w.heap.size, 6, none⟩ = some (.slice fa fn fc) := by simp [go_sem]
  have c7 : ((w.alloc (.cells #[.int .i64 m, .slice ga gn gc, .slice sa sn sc, .slice ya yn yc, .slice oa on oc, .slice va vn vc, .slice fa fn fc, .slice ba bn bc] 125)).alloc (.cells #[.int .i64 3, .int .i64 vr, .int .i64 ot, .int .i64 ek, .int .i64 en, .slice xa xl xc, .slice aa al ac, .slice ta tl tc, .slice ea el ec] 78)).cell? ⟨w.heap.size, 7, none⟩ = some (.slice ba bn bc) := by simp [go_sem]
  have s0 : ((w.alloc (.cells #[.int .i64 m, .slice ga gn gc, .slice sa sn sc, .slice ya yn yc, .slice oa on oc, .slice va vn vc, .slice fa fn fc, .slice ba bn bc] 125)).alloc (.cells #[.int .i64 3, .int .i64 vr, .int .i64 ot, .int .i64 ek, .int .i64 en, .slice xa xl xc, .slice aa al ac, .slice ta tl tc, .slice ea el ec] 78)).cell? ⟨w.heap.size + 1, 0, none⟩ = some (.int .i64 3) := by simp [go_sem]
  have s1 : ((w.alloc (.cells #[.int .i64 m, .slice ga gn gc, .slice sa sn sc, .slice ya yn yc, .slice oa on oc, .slice va vn vc, .slice fa fn fc, .slice ba bn bc] 125)).alloc (.cells #[.int .i64 3, .int .i64 vr, .int .i64 ot, .int .i64 ek, .int .i64 en, .slice xa xl xc, .slice aa al ac, .slice ta tl tc, .slice ea el ec] 78)).cell? ⟨w.heap.size + 1, 1, none⟩ = some (.int .i64 vr) := by simp [go_sem]
  have s2 : ((w.alloc (.cells #[.int .i64 m, .slice ga gn gc, .slice sa sn sc, .slice ya yn yc, .slice oa on oc, .slice va vn vc, .slice fa fn fc, .slice ba bn bc] 125)).alloc (.cells #[.int .i64 3, .int .i64 vr, .int .i64 ot, .int .i64 ek, .int .i64 en, .slice xa xl xc, .slice aa al ac, .slice ta tl tc, .slice ea el ec] 78)).cell? ⟨w.heap.size + 1, 2, none⟩ = some (.int .i64 ot) := by simp [go_sem]
  have s3 : ((w.alloc (.cells #[.int .i64 m, .slice ga gn gc, .slice sa sn sc, .slice ya yn yc, .slice oa on oc, .slice va vn vc, .slice fa fn fc, .slice ba bn bc] 125)).alloc (.cells #[.int .i64 3, .int .i64 vr, .int .i64 ot, .int .i64 ek, .int .i64 en, .slice xa xl xc, .slice aa al ac, .slice ta tl tc, .slice ea el ec] 78)).cell? ⟨w.heap.size + 1, 3, none⟩ = some (.int .i64 ek) := by simp [go_sem]
  have s4 : ((w.alloc (.cells #[.int .i64 m, .slice ga gn gc, .slice sa sn sc, .slice ya yn yc, .slice oa on oc, .slice va vn vc, .slice fa fn fc, .slice ba bn bc] 125)).alloc (.cells #[.int .i64 3, .int .i64 vr, .int .i64 ot, .int .i64 ek, .int .i64 en, .slice xa xl xc, .slice aa al ac, .slice ta tl tc, .slice ea el ec] 78)).cell? ⟨w.heap.size + 1, 4, none⟩ = some (.int .i64 en) := by simp [go_sem]
  have s5 : ((w.alloc (.cells #[.int .i64 m, .slice ga gn gc, .slice sa sn sc, .slice ya yn yc, .slice oa on oc, .slice va vn vc, .slice fa fn fc, .slice ba bn bc] 125)).alloc (.cells #[.int .i64 3, .int .i64 vr, .int .i64 ot, .int .i64 ek, .int .i64 en, .slice xa xl xc, .slice aa al ac, .slice ta tl tc, .slice ea el ec] 78)).cell? ⟨w.heap.size + 1, 5, none⟩ = some (.slice xa xl xc) := by simp [go_sem]
  have s6 : ((w.alloc (.cells #[.int .i64 m, .slice ga gn gc, .slice sa sn sc, .slice ya yn yc, .slice oa on oc, .slice va vn vc, .slice fa fn fc, .slice ba bn bc] 125)).alloc (.cells #[.int .i64 3, .int .i64 vr, .int .i64 ot, .int .i64 ek, .int .i64 en, .slice xa xl xc, .slice aa al ac, .slice ta tl tc, .slice ea el ec] 78)).cell? ⟨w.heap.size + 1, 6, none⟩ = some (.slice aa al ac) := by simp [go_sem]
  have s7 : ((w.alloc (.cells #[.int .i64 m, .slice ga gn gc, .slice sa sn sc, .slice ya yn yc, .slice oa on oc, .slice va vn vc, .slice fa fn fc, .slice ba bn bc] 125)).alloc (.cells #[.int .i64 3, .int .i64 vr, .int .i64 ot, .int .i64 ek, .int .i64 en, .slice xa xl xc, .slice aa al ac, .slice ta tl tc, .slice ea el ec] 78)).cell? ⟨w.heap.size + 1, 7, none⟩ = some (.slice ta tl tc) := by simp [go_sem]
  have s8 : ((w.alloc (.cells #[.int .i64 m, .slice ga gn gc, .slice sa sn sc, .slice ya yn yc, .slice oa on oc, .slice va vn vc, .slice fa fn fc, .slice ba bn bc] 125)).alloc (.cells #[.int .i64 3, .int .i64 vr, .int .i64 ot, .int .i64 ek, .int .i64 en, .slice xa xl xc, .slice aa al ac, .slice ta tl tc, .slice ea el ec] 78)).cell? ⟨w.heap.size + 1, 8, none⟩ = some (.slice ea el ec) := by simp [go_sem]
  have hbel : Below w.heap.size w ((w.alloc (.cells #[.int .i64 m, .slice ga gn gc, .slice sa sn sc, .slice ya yn yc, .slice oa on oc, .slice va vn vc, .slice fa fn fc, .slice ba bn bc] 125)).alloc (.cells #[.int .i64 3, .int .i64 vr, .int .i64 ot, .int .i64 ek, .int .i64 en, .slice xa xl xc, .slice aa al ac, .slice ta tl tc, .slice ea el ec] 78)) := ((Below.refl _ w).alloc (Nat.le_refl _) _).alloc (by simp) _
  go_enter Try.func141, Try.ntmps141
  go_wp2_with fail
  refine (K1.out _).mono ?_
  rintro e w1 ⟨rfl, hb1⟩
  have hB1 := hbel.trans (hb1.mono hbel.size)
  have hb2 := over_trans hb1 ((Below.refl _ w1).alloc (Nat.le_refl _) (.cells #[.bool true, .bool true, .bool false, .bool false, .bool false, .bool false] 201))
  have hB2 := hbel.trans (hb2.mono hbel.size)
  have c0a := cell_over hb2 _ _ c0
  have c1a := cell_over hb2 _ _ c1
  have c2a := cell_over hb2 _ _ c2
  have c3a := cell_over hb2 _ _ c3
  have c4a := cell_over hb2 _ _ c4
  have c5a := cell_over hb2 _ _ c5
  have c6a := cell_over hb2 _ _ c6
  have c7a := cell_over hb2 _ _ c7
  have s0a := cell_over hb2 _ _ s0
  have s1a := cell_over hb2 _ _ s1
  have s2a := cell_over hb2 _ _ s2
  have s3a := cell_over hb2 _ _ s3
  have s4a := cell_over hb2 _ _ s4
  have s5a := cell_over hb2 _ _ s5
  have s6a := cell_over hb2 _ _ s6
  have s7a := cell_over hb2 _ _ s7
  have s8a := cell_over hb2 _ _ s8
  have h0a : (w1.alloc (.cells #[.bool true, .bool true, .bool false, .bool false, .bool false, .bool false] 201)).cell? ⟨w1.heap.size, 0, none⟩ = some (.bool true) := by simp [go_sem]
  have h1a : (w1.alloc (.cells #[.bool true, .bool true, .bool false, .bool false, .bool false, .bool false] 201)).cell? ⟨w1.heap.size, 1, none⟩ = some (.bool true) := by simp [go_sem]
  have h2a : (w1.alloc (.cells #[.bool true, .bool true, .bool false, .bool false, .bool false, .bool false] 201)).cell? ⟨w1.heap.size, 2, none⟩ = some (.bool false) := by simp [go_sem]
  have h3a : (w1.alloc (.cells #[.bool true, .bool true, .bool false, .bool false, .bool false, .bool false] 201)).cell? ⟨w1.heap.size, 3, none⟩ = some (.bool false) := by simp [go_sem]
  have h4a : (w1.alloc (.cells #[.bool true, .bool true, .bool false, .bool false, .bool false, .bool false] 201)).cell? ⟨w1.heap.size, 4, none⟩ = some (.bool false) := by simp [go_sem]
  have h5a : (w1.alloc (.cells #[.bool true, .bool true, .bool false, .bool false, .bool false, .bool false] 201)).cell? ⟨w1.heap.size, 5, none⟩ = some (.bool false) := by simp [go_sem]
  clear hb1 hb2 hbel hB1 c0 c1 c2 c3 c4 c5 c6 c7 s0 s1 s2 s3 s4 s5 s6 s7 s8
  go_wp2_with fail
  refine (K2.out _ _ _).mono ?_
  rintro e wz ⟨he, rfl⟩
  have he2 : e = .returned (.tuple #[]) := by
    rcases he with ⟨_, he⟩ | ⟨he, _⟩
    · exact he
    · cases he
  subst he2
  clear he
  go_wp2_with fail
  refine (K3.out _ _ _).mono ?_
  rintro e wz ⟨rfl, rfl⟩
  go_wp2_with fail
  refine (K2.out _ _ _).mono ?_
  rintro e wz ⟨he, rfl⟩
  rcases he with ⟨hvar, rfl⟩ | ⟨hz, rfl⟩
  rotate_left
  · skip
    first
      | have HN := hide (N1.out (by (try simp at hz); (try simp); omega))
      | have HN := hide (N2.out (by (try simp at hz); (try simp); omega))
      | have HN := hide (N3.out (by (try simp at hz); (try simp); omega))
      | have HN := hide (N4.out (by (try simp at hz); (try simp); omega))
      | have HN := hide (N5.out (by (try simp at hz); (try simp); omega))
      | have HN := hide (N6.out (by (try simp at hz); (try simp); omega))
    clear hz
    unfold gaveW
    go_wp2_with fail
    exact ⟨rfl, Or.inr ⟨HN.out, 5, by decide, rfl⟩, hB2⟩
  have hvar2 : 0 ≤ vr ∧ vr < vn := by simpa using hvar
  have HVAR := hide hvar2
  clear hvar hvar2
  go_wp2_with fail
  have hr0 := Below.refl (w1.alloc (.cells #[.bool true, .bool true, .bool false, .bool false, .bool false, .bool false] 201)).heap.size (w1.alloc (.cells #[.bool true, .bool true, .bool false, .bool false, .bool false, .bool false] 201))
  obtain ⟨ob, hob⟩ : ∃ q, q = decide (0 ≤ ot ∧ ot < (yn : Int)) := ⟨_, rfl⟩
  have K3o := hide fun W => isOneOf_any ot (yn : Int) W
  rw [← hob] at K3o
  have HOB := hide hob
  clear hob
  cases ob with
  | false =>
    have HNO := hide (N2.out (by have hq := HOB.out; simp at hq; omega))
    go_region_held2 (fun W => W.cell? ⟨w.heap.size, 0, none⟩ = some (.int .i64 m) ∧ W.cell? ⟨w.heap.size, 1, none⟩ = some (.slice ga gn gc) ∧ W.cell? ⟨w.heap.size, 2, none⟩ = some (.slice sa sn sc) ∧ W.cell? ⟨w.heap.size, 3, none⟩ = some (.slice ya yn yc) ∧ W.cell? ⟨w.heap.size, 4, none⟩ = some (.slice oa on oc) ∧ W.cell? ⟨w.heap.size, 5, none⟩ = some (.slice va vn vc) ∧ W.cell? ⟨w.heap.size, 6, none⟩ = some (.slice fa fn fc) ∧ W.cell? ⟨w.heap.size, 7, none⟩ = some (.slice ba bn bc) ∧ W.cell? ⟨w.heap.size + 1, 0, none⟩ = some (.int .i64 3) ∧ W.cell? ⟨w.heap.size + 1, 2, none⟩ = some (.int .i64 ot) ∧ W.cell? ⟨w1.heap.size, 1, none⟩ = some (.bool true) ∧ Below (w1.alloc (.cells #[.bool true, .bool true, .bool false, .bool false, .bool false, .bool false] 201)).heap.size (w1.alloc (.cells #[.bool true, .bool true, .bool false, .bool false, .bool false, .bool false] 201)) W) (first | assumption | exact ⟨c0a, c1a, c2a, c3a, c4a, c5a, c6a, c7a, s0a, s2a, h1a, below_drewN hr0 1⟩ | exact held11 (by assumption) hbp | fail) (first | (go_at_call 153; refine (K4.out _).mono ?_; rintro e wp ⟨rfl, hbp⟩) | (go_at_call 109; refine (K3o.out _).mono ?_; rintro e wq ⟨rfl, rfl⟩) | (go_at_call 108; refine (K2.out false 5 _).mono ?_; rintro e wq ⟨he, rfl⟩; rcases he with ⟨hb, rfl⟩ | ⟨hb, rfl⟩; rotate_left; exact ⟨rfl, Or.inr ⟨HNO.out, 5, by decide, rfl⟩, hB2.trans ((by assumption : _ ∧ _ ∧ _ ∧ _ ∧ _ ∧ _ ∧ _ ∧ _ ∧ _ ∧ _ ∧ _ ∧ Below _ _ _).2.2.2.2.2.2.2.2.2.2.2.mono hB2.size)⟩; have hbad := hide hb; clear hb))
    exact absurd hbad.out (by simp)
  | true =>
    have hot : 0 ≤ ot ∧ ot < (yn : Int) := by simpa using HOB.out.symm
    have HOT := hide hot
    clear hot
    go_region_held3 (fun W => W.cell? ⟨w.heap.size, 0, none⟩ = some (.int .i64 m) ∧ W.cell? ⟨w.heap.size, 1, none⟩ = some (.slice ga gn gc) ∧ W.cell? ⟨w.heap.size, 2, none⟩ = some (.slice sa sn sc) ∧ W.cell? ⟨w.heap.size, 3, none⟩ = some (.slice ya yn yc) ∧ W.cell? ⟨w.heap.size, 4, none⟩ = some (.slice oa on oc) ∧ W.cell? ⟨w.heap.size, 5, none⟩ = some (.slice va vn vc) ∧ W.cell? ⟨w.heap.size, 6, none⟩ = some (.slice fa fn fc) ∧ W.cell? ⟨w.heap.size, 7, none⟩ = some (.slice ba bn bc) ∧ W.cell? ⟨w.heap.size + 1, 0, none⟩ = some (.int .i64 3) ∧ W.cell? ⟨w.heap.size + 1, 2, none⟩ = some (.int .i64 ot) ∧ W.cell? ⟨w1.heap.size, 1, none⟩ = some (.bool true) ∧ Below (w1.alloc (.cells #[.bool true, .bool true, .bool false, .bool false, .bool false, .bool false] 201)).heap.size (w1.alloc (.cells #[.bool true, .bool true, .bool false, .bool false, .bool false, .bool false] 201)) W) (first | assumption | exact ⟨c0a, c1a, c2a, c3a, c4a, c5a, c6a, c7a, s0a, s2a, h1a, below_drewN hr0 1⟩ | exact held11 (by assumption) hbp | fail) (first | (go_at_call 153; refine (K4.out _).mono ?_; rintro e wp ⟨rfl, hbp⟩) | (go_at_call 109; refine (K3o.out _).mono ?_; rintro e wq ⟨rfl, rfl⟩) | (go_at_call 108; refine (must_ok 5 _).mono ?_; rintro e wq ⟨rfl, rfl⟩))
    have hb2 := (by assumption : _ ∧ _ ∧ _ ∧ _ ∧ _ ∧ _ ∧ _ ∧ _ ∧ _ ∧ _ ∧ _ ∧ Below _ _ _).2.2.2.2.2.2.2.2.2.2.2
    have hB3 := hB2.trans (hb2.mono hB2.size)
    have c0b := cell_over hb2 _ _ c0a
    have c1b := cell_over hb2 _ _ c1a
    have c2b := cell_over hb2 _ _ c2a
    have c3b := cell_over hb2 _ _ c3a
    have c4b := cell_over hb2 _ _ c4a
    have c5b := cell_over hb2 _ _ c5a
    have c6b := cell_over hb2 _ _ c6a
    have c7b := cell_over hb2 _ _ c7a
    have s0b := cell_over hb2 _ _ s0a
    have s1b := cell_over hb2 _ _ s1a
    have s2b := cell_over hb2 _ _ s2a
    have s3b := cell_over hb2 _ _ s3a
    have s4b := cell_over hb2 _ _ s4a
    have s5b := cell_over hb2 _ _ s5a
    have s6b := cell_over hb2 _ _ s6a
    have s7b := cell_over hb2 _ _ s7a
    have s8b := cell_over hb2 _ _ s8a
    have h0b := cell_over hb2 _ _ h0a
    have h1b := cell_over hb2 _ _ h1a
    have h2b := cell_over hb2 _ _ h2a
    have h3b := cell_over hb2 _ _ h3a
    have h4b := cell_over hb2 _ _ h4a
    have h5b := cell_over hb2 _ _ h5a
    clear hb2 hB2 hr0 c0a c1a c2a c3a c4a c5a c6a c7a s0a s1a s2a s3a s4a s5a s6a s7a s8a h0a h1a h2a h3a h4a h5a
    go_wp2_with fail
    refine (K2.out _ _ _).mono ?_
    rintro e wz ⟨he, rfl⟩
    have he2 : e = .returned (.tuple #[]) := by
      rcases he with ⟨_, he⟩ | ⟨he, _⟩
      · exact he
      · cases he
    subst he2
    clear he
    go_wp2_with fail
    refine (K2.out _ _ _).mono ?_
    rintro e wz ⟨he, rfl⟩
    have he2 : e = .returned (.tuple #[]) := by
      rcases he with ⟨_, he⟩ | ⟨he, _⟩
      · exact he
      · cases he
    subst he2
    clear he
    by_cases z1 : ek = 0
    rotate_left
    · have zb : (ek == 0) = false := by simpa using z1
      have HN := hide (N3.out (by omega))
      go_wp2_with fail
      refine (K2.out _ _ _).mono ?_
      rintro e wz ⟨he, rfl⟩
      have he2 : e = gaveW 1 := by
        rcases he with ⟨he, _⟩ | ⟨_, he⟩
        · cases he
        · exact he
      subst he2
      clear he
      unfold gaveW
      go_wp2_with fail
      exact ⟨rfl, Or.inr ⟨HN.out, 1, by decide, rfl⟩, hB3⟩
    have zb1 : (ek == 0) = true := by simpa using z1
    have HZ1 := hide z1
    clear z1
    by_cases z2 : en = 0
    rotate_left
    · have zb : (en == 0) = false := by simpa using z2
      have HN := hide (N3.out (by omega))
      go_wp2_with fail
      refine (K2.out _ _ _).mono ?_
      rintro e wz ⟨he, rfl⟩
      have he2 : e = gaveW 1 := by
        rcases he with ⟨he, _⟩ | ⟨_, he⟩
        · cases he
        · exact he
      subst he2
      clear he
      unfold gaveW
      go_wp2_with fail
      exact ⟨rfl, Or.inr ⟨HN.out, 1, by decide, rfl⟩, hB3⟩
    have zb2 : (en == 0) = true := by simpa using z2
    have HZ2 := hide z2
    clear z2
    go_wp2_with fail
    refine (K2.out _ _ _).mono ?_
    rintro e wz ⟨he, rfl⟩
    rcases he with ⟨hz, rfl⟩ | ⟨hz, rfl⟩
    rotate_left
    · skip
      first
        | have HN := hide (N1.out (by (try simp at hz); (try simp); omega))
        | have HN := hide (N2.out (by (try simp at hz); (try simp); omega))
        | have HN := hide (N3.out (by (try simp at hz); (try simp); omega))
        | have HN := hide (N4.out (by (try simp at hz); (try simp); omega))
        | have HN := hide (N5.out (by (try simp at hz); (try simp); omega))
        | have HN := hide (N6.out (by (try simp at hz); (try simp); omega))
      clear hz
      unfold gaveW
      go_wp2_with fail
      exact ⟨rfl, Or.inr ⟨HN.out, 1, by decide, rfl⟩, hB3⟩
    have hxl0 : xl = 0 := by simp at hz; omega
    have HXL := hide hxl0
    clear hz hxl0
    go_wp2_with fail
    refine (K2.out _ _ _).mono ?_
    rintro e wz ⟨he, rfl⟩
    rcases he with ⟨hargs, rfl⟩ | ⟨hz, rfl⟩
    rotate_left
    · skip
      first
        | have HN := hide (N1.out (by (try simp at hz); (try simp); omega))
        | have HN := hide (N2.out (by (try simp at hz); (try simp); omega))
        | have HN := hide (N3.out (by (try simp at hz); (try simp); omega))
        | have HN := hide (N4.out (by (try simp at hz); (try simp); omega))
        | have HN := hide (N5.out (by (try simp at hz); (try simp); omega))
        | have HN := hide (N6.out (by (try simp at hz); (try simp); omega))
      clear hz
      unfold gaveW
      go_wp2_with fail
      exact ⟨rfl, Or.inr ⟨HN.out, 1, by decide, rfl⟩, hB3⟩
    have hal0 : al = 0 := by simp at hargs; omega
    subst hal0
    clear hargs
    go_wp2_with fail
    refine (K2.out _ _ _).mono ?_
    rintro e wz ⟨he, rfl⟩
    rcases he with ⟨hz, rfl⟩ | ⟨hz, rfl⟩
    rotate_left
    · skip
      first
        | have HN := hide (N1.out (by (try simp at hz); (try simp); omega))
        | have HN := hide (N2.out (by (try simp at hz); (try simp); omega))
        | have HN := hide (N3.out (by (try simp at hz); (try simp); omega))
        | have HN := hide (N4.out (by (try simp at hz); (try simp); omega))
        | have HN := hide (N5.out (by (try simp at hz); (try simp); omega))
        | have HN := hide (N6.out (by (try simp at hz); (try simp); omega))
      clear hz
      unfold gaveW
      go_wp2_with fail
      exact ⟨rfl, Or.inr ⟨HN.out, 1, by decide, rfl⟩, hB3⟩
    have HZ_1 := hide hz
    clear hz
    go_wp2_with fail
    refine (K2.out _ _ _).mono ?_
    rintro e wz ⟨he, rfl⟩
    rcases he with ⟨hz, rfl⟩ | ⟨hz, rfl⟩
    rotate_left
    · skip
      first
        | have HN := hide (N1.out (by (try simp at hz); (try simp); omega))
        | have HN := hide (N2.out (by (try simp at hz); (try simp); omega))
        | have HN := hide (N3.out (by (try simp at hz); (try simp); omega))
        | have HN := hide (N4.out (by (try simp at hz); (try simp); omega))
        | have HN := hide (N5.out (by (try simp at hz); (try simp); omega))
        | have HN := hide (N6.out (by (try simp at hz); (try simp); omega))
      clear hz
      unfold gaveW
      go_wp2_with fail
      exact ⟨rfl, Or.inr ⟨HN.out, 1, by decide, rfl⟩, hB3⟩
    have HZ_2 := hide hz
    clear hz
    go_wp2_with fail
    go_quiet ((go_at_call 108; exact Calls.quiet_of_same (must_ok _ _)))
    have c0q := cellN (n := nq) c0b
    have c1q := cellN (n := nq) c1b
    have c2q := cellN (n := nq) c2b
    have c3q := cellN (n := nq) c3b
    have c4q := cellN (n := nq) c4b
    have c5q := cellN (n := nq) c5b
    have c6q := cellN (n := nq) c6b
    have c7q := cellN (n := nq) c7b
    have s0q := cellN (n := nq) s0b
    have s1q := cellN (n := nq) s1b
    have s2q := cellN (n := nq) s2b
    have s3q := cellN (n := nq) s3b
    have s4q := cellN (n := nq) s4b
    have s5q := cellN (n := nq) s5b
    have s6q := cellN (n := nq) s6b
    have s7q := cellN (n := nq) s7b
    have s8q := cellN (n := nq) s8b
    have h0q := cellN (n := nq) h0b
    have h1q := cellN (n := nq) h1b
    have h2q := cellN (n := nq) h2b
    have h3q := cellN (n := nq) h3b
    have h4q := cellN (n := nq) h4b
    have h5q := cellN (n := nq) h5b
    have hBq := below_drewN hB3 nq
    clear c0b c1b c2b c3b c4b c5b c6b c7b s0b s1b s2b s3b s4b s5b s6b s7b s8b h0b h1b h2b h3b h4b h5b
    go_wp2_with fail
    go_loopw [138] (fun i wr => i = .int .i64 0 ∧ Below w.heap.size w wr) (fun _ _ => 0)
    case atStart => exact ⟨rfl, hBq⟩
    case round =>
      obtain ⟨rfl, hB⟩ := hrel
      go_wp2_with fail
      go_end0
      refine ⟨Or.inl ⟨HQ.out ⟨?_, ?_, ?_, ?_, ?_, ?_⟩, rfl⟩, hB⟩
      all_goals first | trivial | exact HVAR.out | exact HOT.out | exact HEX.out | exact ⟨HZ1.out, HZ2.out, HXL.out⟩ | (have hq := HZ_1.out; simp at hq; omega) | (have hq := HZ_2.out; simp at hq; omega) | omega
end Go.Proofs.Ytcbbjjenkommeaa.Ex.Ey
