/- Checks of one command, whatever it is: small parts. -/
import Derived.Test.YtcbbjjenkommeaaM03
import Derived.Deep.QuietTactic
import Derived.BigQuiet
import Derived.Deep.RegionHeld2
namespace Go.Proofs.Ytcbbjjenkommeaa.Ex
open Go.RowKit
set_option linter.unusedVariables false
set_option maxHeartbeats 1000000 in
theorem shapeOf1 (w : World) : Calls Try.prog 152 #[.int .i64 1] w fun e w' => e = .returned (.tuple #[.agg #[.bool true, .bool false, .bool true, .bool false, .bool false, .bool false], .bool true]) ∧ Below w.heap.size w w' := by
  go_enter Try.func152, Try.ntmps152
  go_wp2_with fail
  exact bodyPost_ret (v := .tuple #[.agg #[.bool true, .bool false, .bool true, .bool false, .bool false, .bool false], .bool true]) (by simp [results, Try.results152, go_sem]) rfl ⟨rfl, (Below.refl _ w).alloc (Nat.le_refl _) _⟩

set_option maxHeartbeats 1000000 in
theorem shapeOf2 (w : World) : Calls Try.prog 152 #[.int .i64 2] w fun e w' => e = .returned (.tuple #[.agg #[.bool true, .bool true, .bool false, .bool true, .bool false, .bool false], .bool true]) ∧ Below w.heap.size w w' := by
  go_enter Try.func152, Try.ntmps152
  go_wp2_with fail
  exact bodyPost_ret (v := .tuple #[.agg #[.bool true, .bool true, .bool false, .bool true, .bool false, .bool false], .bool true]) (by simp [results, Try.results152, go_sem]) rfl ⟨rfl, (Below.refl _ w).alloc (Nat.le_refl _) _⟩

set_option maxHeartbeats 1000000 in
theorem shapeOf3 (w : World) : Calls Try.prog 152 #[.int .i64 3] w fun e w' => e = .returned (.tuple #[.agg #[.bool true, .bool true, .bool false, .bool false, .bool false, .bool false], .bool true]) ∧ Below w.heap.size w w' := by
  go_enter Try.func152, Try.ntmps152
  go_wp2_with fail
  exact bodyPost_ret (v := .tuple #[.agg #[.bool true, .bool true, .bool false, .bool false, .bool false, .bool false], .bool true]) (by simp [results, Try.results152, go_sem]) rfl ⟨rfl, (Below.refl _ w).alloc (Nat.le_refl _) _⟩

set_option maxHeartbeats 1000000 in
theorem shapeOf4 (w : World) : Calls Try.prog 152 #[.int .i64 4] w fun e w' => e = .returned (.tuple #[.agg #[.bool false, .bool true, .bool true, .bool false, .bool false, .bool false], .bool true]) ∧ Below w.heap.size w w' := by
  go_enter Try.func152, Try.ntmps152
  go_wp2_with fail
  exact bodyPost_ret (v := .tuple #[.agg #[.bool false, .bool true, .bool true, .bool false, .bool false, .bool false], .bool true]) (by simp [results, Try.results152, go_sem]) rfl ⟨rfl, (Below.refl _ w).alloc (Nat.le_refl _) _⟩

set_option maxHeartbeats 1000000 in
theorem shapeOf5 (w : World) : Calls Try.prog 152 #[.int .i64 5] w fun e w' => e = .returned (.tuple #[.agg #[.bool true, .bool false, .bool true, .bool false, .bool false, .bool false], .bool true]) ∧ Below w.heap.size w w' := by
  go_enter Try.func152, Try.ntmps152
  go_wp2_with fail
  exact bodyPost_ret (v := .tuple #[.agg #[.bool true, .bool false, .bool true, .bool false, .bool false, .bool false], .bool true]) (by simp [results, Try.results152, go_sem]) rfl ⟨rfl, (Below.refl _ w).alloc (Nat.le_refl _) _⟩

set_option maxHeartbeats 1000000 in
theorem shapeOf6 (w : World) : Calls Try.prog 152 #[.int .i64 6] w fun e w' => e = .returned (.tuple #[.agg #[.bool true, .bool false, .bool true, .bool false, .bool false, .bool false], .bool true]) ∧ Below w.heap.size w w' := by
  go_enter Try.func152, Try.ntmps152
  go_wp2_with fail
  exact bodyPost_ret (v := .tuple #[.agg #[.bool true, .bool false, .bool true, .bool false, .bool false, .bool false], .bool true]) (by simp [results, Try.results152, go_sem]) rfl ⟨rfl, (Below.refl _ w).alloc (Nat.le_refl _) _⟩

set_option maxHeartbeats 1000000 in
theorem shapeOf7 (w : World) : Calls Try.prog 152 #[.int .i64 7] w fun e w' => e = .returned (.tuple #[.agg #[.bool false, .bool false, .bool true, .bool false, .bool true, .bool true], .bool true]) ∧ Below w.heap.size w w' := by
  go_enter Try.func152, Try.ntmps152
  go_wp2_with fail
  exact bodyPost_ret (v := .tuple #[.agg #[.bool false, .bool false, .bool true, .bool false, .bool true, .bool true], .bool true]) (by simp [results, Try.results152, go_sem]) rfl ⟨rfl, (Below.refl _ w).alloc (Nat.le_refl _) _⟩

set_option maxHeartbeats 1000000 in
theorem shapeOf8 (w : World) : Calls Try.prog 152 #[.int .i64 8] w fun e w' => e = .returned (.tuple #[.agg #[.bool false, .bool false, .bool true, .bool false, .bool true, .bool false], .bool true]) ∧ Below w.heap.size w w' := by
  go_enter Try.func152, Try.ntmps152
  go_wp2_with fail
  exact bodyPost_ret (v := .tuple #[.agg #[.bool false, .bool false, .bool true, .bool false, .bool true, .bool false], .bool true]) (by simp [results, Try.results152, go_sem]) rfl ⟨rfl, (Below.refl _ w).alloc (Nat.le_refl _) _⟩

set_option maxHeartbeats 1000000 in
theorem shapeOfNone (k : Int) (hk : ¬ (1 ≤ k ∧ k ≤ 8)) (w : World) : Calls Try.prog 152 #[.int .i64 k] w fun e w' => e = .returned (.tuple #[.agg #[.bool false, .bool false, .bool false, .bool false, .bool false, .bool false], .bool false]) ∧ Below w.heap.size w w' := by
  have b1 : (k == 1) = false := by simp; omega
  have b2 : (k == 2) = false := by simp; omega
  have b3 : (k == 3) = false := by simp; omega
  have b4 : (k == 4) = false := by simp; omega
  have b5 : (k == 5) = false := by simp; omega
  have b6 : (k == 6) = false := by simp; omega
  have b7 : (k == 7) = false := by simp; omega
  have b8 : (k == 8) = false := by simp; omega
  clear hk
  go_enter Try.func152, Try.ntmps152
  go_wp2_with fail
  exact bodyPost_ret (v := .tuple #[.agg #[.bool false, .bool false, .bool false, .bool false, .bool false, .bool false], .bool false]) (by simp [results, Try.results152, go_sem]) rfl ⟨rfl, (Below.refl _ w).alloc (Nat.le_refl _) _⟩

set_option maxHeartbeats 1000000 in
set_option maxRecDepth 100000 in
theorem others_any (k : Int) (funcs : Int) (m : Int) (ga : Option Addr) (gn gc : Nat) (sa : Option Addr) (sn sc : Nat) (ya : Option Addr) (yn yc : Nat) (oa : Option Addr) (on oc : Nat) (va : Option Addr) (vn vc : Nat) (fa : Option Addr) (fn fc : Nat) (ba : Option Addr) (bn bc : Nat) (w : World) : Calls Try.prog 153 #[.agg #[.int .i64 m, .slice ga gn gc, .slice sa sn sc, .slice ya yn yc, .slice oa on oc, .slice va vn vc, .slice fa fn fc, .slice ba bn bc], .int .i64 k, .int .i64 funcs] w fun e w' => e = .returned (.int .i64 (if k = 2 then funcs else if k = 3 then yn else on)) ∧ Below w.heap.size w w' := by
  have hbel : Below w.heap.size w (w.alloc (.cells #[.int .i64 m, .slice ga gn gc, .slice sa sn sc, .slice ya yn yc, .slice oa on oc, .slice va vn vc, .slice fa fn fc, .slice ba bn bc] 125)) := (Below.refl _ w).alloc (Nat.le_refl _) _
  by_cases h2 : k = 2
  · subst h2
    go_enter Try.func153, Try.ntmps153
    go_wp2_with fail
    go_ret
    exact ⟨rfl, hbel⟩
  · by_cases h3 : k = 3
    · subst h3
      go_enter Try.func153, Try.ntmps153
      go_wp2_with fail
      go_ret
      exact ⟨rfl, hbel⟩
    · rw [if_neg h2, if_neg h3]
      go_enter Try.func153, Try.ntmps153
      go_wp2_with fail
      go_ret
      exact ⟨rfl, hbel⟩
/-- a command that may be done: by itself. -/
def okS1 (K : Nat) (nv ni no : Nat) (funcs : Int) (fs : List FnD) (d : D) : Prop :=
  (1 ≤ sKind d ∧ sKind d ≤ 8) ∧ ((sKind d = 1 ∨ sKind d = 2 ∨ sKind d = 3 ∨ sKind d = 5 ∨ sKind d = 6) → 0 ≤ sVar d ∧ sVar d < nv) ∧
  (sKind d = 2 → (0 ≤ sOther d ∧ sOther d < funcs) ∧ (∀ f, fs[(sOther d).toNat]? = some f → f.ps.length = (sArgs d).length) ∧ ∀ a ∈ sArgs d, checkX nv K a = 0) ∧
  (sKind d = 3 → 0 ≤ sOther d ∧ sOther d < ni) ∧ ((sKind d = 1 ∨ 4 ≤ sKind d) → checkX nv K (sExpr d) = 0) ∧ ((sKind d = 2 ∨ sKind d = 3) → kindOf (sExpr d) = 0 ∧ argsOf (sExpr d) = []) ∧ (sKind d = 4 → 0 ≤ sOther d ∧ sOther d < no)
/-- commands that may be done, with those in them. -/
def okS (K : Nat) (nv ni no : Nat) (funcs : Int) (fs : List FnD) : Nat → D → Prop
  | 0, _ => False
  | k + 1, d => okS1 K nv ni no funcs fs d ∧ (∀ s ∈ sThen d, okS K nv ni no funcs fs k s) ∧ ∀ s ∈ sElse d, okS K nv ni no funcs fs k s
theorem FnsAt.mono {w : World} {K k m : Nat} {v : Value} {l : List FnD} (h : FnsAt w K k v l) (hkm : k ≤ m) : FnsAt w K m v l := by
  obtain ⟨hm, ao, cap, hv, hc⟩ := h
  refine ⟨hm, ao, cap, hv, fun hne => ?_⟩
  obtain ⟨b, off, hao, hel⟩ := hc hne
  refine ⟨b, off, hao, fun i hi => ?_⟩
  obtain ⟨vP, vB, x0, x1, x2, h0, h1, h2, h3, h4, hp, hpl, hs, hx⟩ := hel i hi
  exact ⟨vP, vB, x0, x1, x2, h0, h1, h2, h3, h4, hp, hpl, XS.mono hs (fun _ _ hh => hh) (fun cs d _ hh => RS.mono (fun _ _ q => q) k m cs d hkm hh), hx⟩
theorem IsInts.prefix {w : World} {ao : Option Addr} {cap : Nat} {vs : List Int} (h : IsInts w (.slice ao vs.length cap) vs) {i : Nat} (hi : i ≤ vs.length) (c : Nat) : IsInts w (.slice ao i c) (vs.take i) := by
  obtain ⟨a2, c2, he, hc⟩ := h
  injection he with e1 e2 e3
  subst e1
  refine ⟨ao, c, by simp [Nat.min_eq_left hi], fun hne => ?_⟩
  obtain ⟨b, off, hao, hel⟩ := hc (by rintro rfl; simp at hne)
  refine ⟨b, off, hao, fun j hj => ?_⟩
  have hj2 : j < vs.length := by simp at hj; omega
  rw [List.getElem_take]
  exact hel j hj2

/-- a function that may be called, with so many ahead of it. -/
def okF (K : Nat) (nv ni no : Nat) (ahead : Int) (fs : List FnD) (k : Nat) (f : FnD) : Prop :=
  f.ps.length ≤ 4 ∧ (∀ p ∈ f.ps, 0 ≤ p ∧ p < nv) ∧ (∀ s ∈ f.body, okS K nv ni no ahead fs k s) ∧ checkX nv K f.res = 0
end Go.Proofs.Ytcbbjjenkommeaa.Ex
namespace Go.Proofs.Ytcbbjjenkommeaa
open Go.RowKit
set_option linter.unusedVariables false
theorem take_set_succ {α : Type} (l : List α) (k : Nat) (x : α) (h : k < l.length) : (l.set k x).take (k + 1) = l.take k ++ [x] := by
  rw [List.take_succ_eq_append_getElem (by simpa using h)]
  simp only [List.take_set, List.getElem_set_self]
  rw [List.set_eq_of_length_le (by simp; omega)]

/-- a list of its own that is filled up to a place. -/
def Filled (f : Nat → Bool) (g n k : Nat) (W : World) : Prop := ∃ cur : List Value, cur.length = n ∧ cur.take k = boolCells (rowOf f k) ∧ W.heap[g]? = some (.cells cur.toArray 4 (0, 0))

theorem filled_over {f : Nat → Bool} {g n k : Nat} {W W' : World} (h : Filled f g n k W) (hb : Below W.heap.size W W') : Filled f g n k W' := by
  obtain ⟨cur, h1, h2, h3⟩ := h
  exact ⟨cur, h1, h2, by rw [hb.block g (Array.getElem?_eq_some_iff.1 h3).1]; exact h3⟩

theorem filled_set {f : Nat → Bool} {g n k : Nat} {W : World} (h : Filled f g n k W) (hk : k < n) : Filled f g n (k + 1) (W.setCell ⟨g, k, none⟩ (.bool (f k))) := by
  obtain ⟨cur, h1, h2, h3⟩ := h
  refine ⟨cur.set k (.bool (f k)), by simpa using h1, ?_, ?_⟩
  · rw [take_set_succ _ _ _ (by omega), h2, rowOf_succ]
    simp [boolCells]
  · have := heap_setCell_same W g k _ 4 (.bool (f k)) h3
    simpa using this

theorem filled_cell {f : Nat → Bool} {g n k j : Nat} {W : World} (h : Filled f g n k W) (hj : j < n) : (∃ u, W.cell? ⟨g, j, none⟩ = some u) ∧ W.frozen? ⟨g, j, none⟩ = false := by
  obtain ⟨cur, h1, h2, h3⟩ := h
  refine ⟨⟨cur[j]'(by omega), ?_⟩, ?_⟩
  · simp [World.cell?, h3, h1, hj]
  · simp [World.frozen?, h3]

theorem filled_own {f : Nat → Bool} {g n B : Nat} {W : World} (h : Filled f g n n W) (hn : n ≤ 6) (hg : B ≤ g) : W.ownsRow B 4 1 (.slice (some ⟨g, 0, none⟩) n n) n (boolCells (rowOf f n)) := by
  obtain ⟨cur, h1, h2, h3⟩ := h
  refine ⟨by simp [boolCells, rowOf_length], Or.inr ⟨g, n, cur.toArray, rfl, hg, h3, Nat.le_refl _, by unfold maxLen; omega, by simp [h1], ?_⟩⟩
  rw [Nat.mul_one]
  exact h2

set_option maxHeartbeats 1000000 in
theorem those_any (F : FuncId) (c1 c2 : Value) (f : Nat → Bool) (n : Nat) (h1 : 1 ≤ n) (hn : n ≤ 6) (s : Value) (w : World)
    (hF : Hid (∀ (k : Nat), k < n → ∀ W : World, Below w.heap.size w W → Calls Try.prog F #[.int .i64 k, c1, c2] W fun e w2 => e = .returned (.bool (f k)) ∧ Below W.heap.size W w2))
    (hC : ∀ (args : Array Value) (w : World), (callFunc F args).run Try.prog w = .ok (.enter F args) w) :
    Calls Try.prog 80 #[.agg #[.int .i64 n, s], .func (.func F) #[] #[c1, c2]] w fun e w' => ∃ g, e = .returned (.slice (some ⟨g, 0, none⟩) n n) ∧ w.heap.size ≤ g ∧ g < w'.heap.size ∧ w'.ownsRow w.heap.size 4 1 (.slice (some ⟨g, 0, none⟩) n n) n (boolCells (rowOf f n)) ∧ Below w.heap.size w w' := by
  have hmk := fun w => make35 n hn w
  have hst : Filled f (w.heap.size + 1) n 0 ((w.alloc (.cells #[.int .i64 n, s] 35)).alloc (.cells (List.replicate n (Value.bool false)).toArray 4)) := by
    refine ⟨List.replicate n (.bool false), by simp, by simp [rowOf, boolCells], ?_⟩
    have := heap_alloc_new (w.alloc (.cells #[.int .i64 n, s] 35)) (.cells (List.replicate n (Value.bool false)).toArray 4)
    simpa using this
  have hbel : Below w.heap.size w ((w.alloc (.cells #[.int .i64 n, s] 35)).alloc (.cells (List.replicate n (Value.bool false)).toArray 4)) := ((Below.refl _ w).alloc (Nat.le_refl _) _).alloc (by simp) _
  have HST := hide hst
  have HB := hide hbel
  clear hst hbel
  go_enter Try.func80, Try.ntmps80
  go_wp2_with fail
  go_loopw [12] (fun i wr => ∃ k : Nat, k ≤ n ∧ i = .int .i64 k ∧ Filled f (w.heap.size + 1) n k wr ∧ Below w.heap.size w wr) (fun i _ => n - (intOf i).toNat)
  case atStart => exact ⟨0, Nat.zero_le _, rfl, by simpa using HST.out, by simpa using HB.out⟩
  case round =>
    clear HST HB hmk
    obtain ⟨k, hk, rfl, hfil, hbw⟩ := hrel
    by_cases hkn : k < n
    · have HC := hide (hF.out k hkn _ hbw)
      go_wp2_with fail
      refine (HC.out).mono ?_
      rintro e w2 ⟨rfl, hb2⟩
      have hf2 := filled_over hfil hb2
      have hb3 := hbw.trans (hb2.mono hbw.size)
      obtain ⟨⟨u, d1⟩, d2⟩ := filled_cell hf2 hkn
      have hf3 := filled_set hf2 hkn
      have hb4 := hb3.setCell (p := ⟨w.heap.size + 1, k, none⟩) (by simp) (.bool (f k))
      have HF3 := hide hf3
      have HB4 := hide hb4
      clear hfil hf2 hb2 hb3 hf3 hb4 HC hbw
      go_wp2_with fail
      exact ⟨⟨k + 1, by omega, by go_num, HF3.out, HB4.out⟩, by simp [intOf]; omega⟩
    · have hke : k = n := by omega
      subst hke
      have hlt : w.heap.size + 1 < wr.heap.size := by obtain ⟨cur, _, _, h3⟩ := hfil; exact (Array.getElem?_eq_some_iff.1 h3).1
      have HO := hide (filled_own hfil hn (B := w.heap.size) (by omega))
      clear hfil hF
      go_wp2_with fail
      go_ret
      exact ⟨w.heap.size + 1, rfl, by omega, hlt, HO.out, hbw⟩

/-- a slice that holds levels. -/
def IsLevs (w : World) (v : Value) (ls : List Lev) : Prop :=
  ∃ ao cap, v = .slice ao ls.length cap ∧ (ls ≠ [] → ∃ b off, ao = some ⟨b, off, none⟩ ∧ ∀ i (h : i < ls.length), ∃ rv wv, w.cell? ⟨b, off + i * 2, none⟩ = some rv ∧ w.cell? ⟨b, off + i * 2 + 1, none⟩ = some wv ∧ LevAt w (.agg #[rv, wv]) ls[i])

theorem isLevs_over {w w' : World} {v : Value} {ls : List Lev} (h : IsLevs w v ls) (hb : Below w.heap.size w w') : IsLevs w' v ls := by
  obtain ⟨ao, cap, rfl, hc⟩ := h
  refine ⟨ao, cap, rfl, fun hne => ?_⟩
  obtain ⟨b, off, rfl, hcl⟩ := hc hne
  refine ⟨b, off, rfl, fun i hi => ?_⟩
  obtain ⟨rv, wv, h1, h2, h3⟩ := hcl i hi
  exact ⟨rv, wv, by rw [(bcell hb).1 _ _ (World.block_lt_of_cell? w _ h1)]; exact h1, by rw [(bcell hb).1 _ _ (World.block_lt_of_cell? w _ h2)]; exact h2, levAt_over h3 hb⟩

theorem isLevs_at {w : World} {v : Value} {ls : List Lev} (h : IsLevs w v ls) {i : Nat} (hi : i < ls.length) : ∃ b off cap rv wv, v = .slice (some ⟨b, off, none⟩) ls.length cap ∧ w.cell? ⟨b, off + i * 2, none⟩ = some rv ∧ w.cell? ⟨b, off + i * 2 + 1, none⟩ = some wv ∧ LevAt w (.agg #[rv, wv]) ls[i] := by
  obtain ⟨ao, cap, rfl, hc⟩ := h
  obtain ⟨b, off, rfl, hcl⟩ := hc (by rintro rfl; simp at hi)
  obtain ⟨rv, wv, h1, h2, h3⟩ := hcl i hi
  exact ⟨b, off, cap, rv, wv, rfl, h1, h2, h3⟩

/-- the first level that is none. -/
def firstLev (m : Int) : List Lev → Int
  | [] => 0
  | l :: ls => if levErr m l = 0 then firstLev m ls else levErr m l
theorem firstLev_drop {m : Int} {ls : List Lev} {k : Nat} (hk : k < ls.length) : firstLev m (ls.drop k) = if levErr m ls[k] = 0 then firstLev m (ls.drop (k + 1)) else levErr m ls[k] := by
  rw [List.drop_eq_getElem_cons hk]
  rfl
def allErr (m : Int) (gs : List (Int × Int)) (ls : List Lev) : Int := if chkErr m gs = 0 then firstLev m ls else chkErr m gs

theorem levErr_cases (m : Int) (l : Lev) : (levErr m l = 0 ∧ ((l.r.length : Int) = m ∧ (l.w.length : Int) = m)) ∨ (levErr m l = 1 ∧ ((l.r.length : Int) ≠ m ∨ ((l.r.length : Int) = m ∧ (l.w.length : Int) ≠ m))) := by
  unfold levErr
  by_cases h : (l.r.length : Int) = m ∧ (l.w.length : Int) = m
  · exact Or.inl ⟨if_pos h, h⟩
  · refine Or.inr ⟨if_neg h, ?_⟩
    by_cases h1 : (l.r.length : Int) = m
    · exact Or.inr ⟨h1, fun h2 => h ⟨h1, h2⟩⟩
    · exact Or.inl h1

set_option maxHeartbeats 2000000 in
theorem allRight_any (m : Int) (v vs : Value) (gs : List (Int × Int)) (ls : List Lev) (w : World) (hv : IsGrants w v gs) (hl : IsLevs w vs ls) (hn : ls.length ≤ 2) :
    Calls Try.prog 56 #[.agg #[.int .i64 m, v], vs] w fun e w' => e = .returned (.int .i64 (allErr m gs ls)) ∧ Below w.heap.size w w' := by
  have hbel : Below w.heap.size w (w.alloc (.cells #[.int .i64 m, v] 35)) := (Below.refl _ w).alloc (Nat.le_refl _) _
  have hC := check_any m v gs (w.alloc (.cells #[.int .i64 m, v] 35)) (isGrants_over hv hbel)
  have hE : allErr m gs ls = if chkErr m gs = 0 then firstLev m ls else chkErr m gs := rfl
  have HL := hide hl
  obtain ⟨ao, cap, rfl, -⟩ := hl
  obtain ⟨r, hr⟩ : ∃ r, r = chkErr m gs := ⟨_, rfl⟩
  rw [← hr] at hC hE
  obtain ⟨va, vn, vc, rfl⟩ := grants_form hv
  have HC := hide hC
  have HE := hide hE
  clear hC hE hr hv
  go_enter Try.func56, Try.ntmps56
  go_wp2_with fail
  refine (HC.out).mono ?_
  rintro e w1 ⟨rfl, hb1⟩
  have c0 : w1.cell? ⟨w.heap.size, 0, none⟩ = some (.int .i64 m) := by rw [(bcell hb1).1 _ _ (by simp)]; simp [go_sem]
  have hB1 : Below w.heap.size w w1 := hbel.trans (hb1.mono (by simp))
  clear HC hb1 hbel
  by_cases hr0 : r = 0
  · subst hr0
    go_wp2_with fail
    go_loopw [15] (fun i wr => ∃ k : Nat, k ≤ ls.length ∧ i = .int .i64 k ∧ firstLev m ls = firstLev m (ls.drop k) ∧ Below w.heap.size w wr ∧ wr.cell? ⟨w.heap.size, 0, none⟩ = some (.int .i64 m)) (fun i _ => ls.length - (intOf i).toNat)
    case atStart => exact ⟨0, Nat.zero_le _, rfl, rfl, hB1, c0⟩
    case round =>
      clear hB1 c0
      obtain ⟨k, hk, rfl, hfe, hbw, c0⟩ := hrel
      by_cases hkl : k < ls.length
      · obtain ⟨b, off, cap', rv, wv, hve, q0, q1, q2⟩ := isLevs_at (isLevs_over HL.out hbw) hkl
        injection hve with e1 e2 e3
        subst e1 e3
        clear e2
        have hfd := firstLev_drop (m := m) hkl
        rw [← hfe] at hfd
        have hlc := levErr_cases m ls[k]
        obtain ⟨x, y, hxy, ⟨a1, k1, e1, -⟩, ⟨a2, k2, e2, -⟩⟩ := q2
        obtain ⟨rfl, rfl⟩ : rv = x ∧ wv = y := by simpa using hxy
        subst e1 e2
        obtain ⟨n1, hn1⟩ : ∃ r, r = ls[k].r.length := ⟨_, rfl⟩
        obtain ⟨n2, hn2⟩ : ∃ r, r = ls[k].w.length := ⟨_, rfl⟩
        rw [← hn1, ← hn2] at hlc
        rw [← hn1] at q0
        rw [← hn2] at q1
        have ltw := World.block_lt_of_cell? wr _ c0
        have hal : Below wr.heap.size wr (wr.alloc (.cells #[.slice a1 n1 k1, .slice a2 n2 k2] 62)) := (Below.refl _ wr).alloc (Nat.le_refl _) _
        have hbw2 := hbw.trans (hal.mono hbw.size)
        have d0 : (wr.alloc (.cells #[.slice a1 n1 k1, .slice a2 n2 k2] 62)).cell? ⟨w.heap.size, 0, none⟩ = some (.int .i64 m) := by rw [(bcell hal).1 _ _ ltw]; exact c0
        have D0 := hide d0
        clear hxy hn1 hn2 hfe d0 hal hbw
        rcases hlc with ⟨hz, h1, h2⟩ | ⟨hz, h1 | ⟨h1, h2⟩⟩
        · rw [hz] at hfd
          have HF := hide hfd
          have b1 : ((n1 : Int) != m) = false := by simp [h1]
          have b2 : ((n2 : Int) != m) = false := by simp [h2]
          clear hz hfd h1 h2
          go_wp2_with fail
          exact ⟨⟨k + 1, by omega, by go_num, by rw [HF.out]; simp, hbw2, D0.out⟩, by simp [intOf]; omega⟩
        · rw [hz] at hfd
          have HF := hide hfd
          have b1 : ((n1 : Int) != m) = true := by simpa using h1
          clear hz hfd h1
          go_wp2_with fail
          go_ret
          exact ⟨by rw [HE.out, HF.out]; simp, hbw2⟩
        · rw [hz] at hfd
          have HF := hide hfd
          have b1 : ((n1 : Int) != m) = false := by simp [h1]
          have b2 : ((n2 : Int) != m) = true := by simpa using h2
          clear hz hfd h1 h2
          go_wp2_with fail
          go_ret
          exact ⟨by rw [HE.out, HF.out]; simp, hbw2⟩
      · have hke : k = ls.length := by omega
        have hz : firstLev m ls = 0 := by rw [hfe, hke, List.drop_length]; rfl
        have HZ := hide hz
        clear hz hfe c0
        go_wp2_with fail
        go_ret
        exact ⟨by rw [HE.out, HZ.out]; simp, hbw⟩
  · have hne : (r != 0) = true := by simpa using hr0
    go_wp2_with fail
    go_ret
    exact ⟨by rw [HE.out]; simp [hr0], hB1⟩

/-- is each one of a list one of another list? -/
def withinB (a b : List Bool) (n : Nat) : Bool := (List.range n).all fun i => !((a[i]?.getD false) && !(b[i]?.getD false))

theorem within_flows (l m : Lev) (n : Nat) : (withinB m.r l.r n && withinB l.w m.w n) = flowsB l m n := by
  rw [Bool.eq_iff_iff, flowsB_iff]
  simp only [withinB, Bool.and_eq_true, List.all_eq_true, List.mem_range]
  constructor
  · rintro ⟨h1, h2⟩ i hi
    have a := h1 i hi
    have b := h2 i hi
    revert a b
    cases m.r[i]?.getD false <;> cases l.r[i]?.getD false <;> cases l.w[i]?.getD false <;> cases m.w[i]?.getD false <;> simp
  · intro h
    refine ⟨fun i hi => ?_, fun i hi => ?_⟩ <;> have a := h i hi <;> revert a <;> cases m.r[i]?.getD false <;> cases l.r[i]?.getD false <;> cases l.w[i]?.getD false <;> cases m.w[i]?.getD false <;> simp

set_option maxHeartbeats 1000000 in
theorem within_any (va vb : Value) (a b : List Bool) (n : Nat) (w : World) (h0 : 1 ≤ n) (hn : n ≤ 6) (ha : IsBools w va a) (hb : IsBools w vb b) (hla : a.length = n) (hlb : b.length = n) :
    Calls Try.prog 57 #[va, vb] w fun e w' => e = .returned (.bool (withinB a b n)) ∧ Below w.heap.size w w' := by
  obtain ⟨b1, o1, c1, rfl, q1⟩ := isBools_pos ha hla h0
  obtain ⟨b2, o2, c2, rfl, q2⟩ := isBools_pos hb hlb h0
  have Q1 := hide q1
  have Q2 := hide q2
  clear q1 q2 ha hb hla hlb
  go_enter Try.func57, Try.ntmps57
  go_wp2_with fail
  go_loop [9] (fun i => ∃ k : Nat, k ≤ n ∧ i = .int .i64 k ∧ (List.range k).all (fun i => !((a[i]?.getD false) && !(b[i]?.getD false))) = true) (fun i => n - (intOf i).toNat)
  case atStart => exact ⟨0, Nat.zero_le _, rfl, rfl⟩
  case round =>
    obtain ⟨k, hk, rfl, hall⟩ := hrel
    by_cases hkn : k < n
    · have q1 := Q1.out k hkn
      have q2 := Q2.out k hkn
      have hnext : (!((a[k]?.getD false) && !(b[k]?.getD false))) = true → (List.range (k + 1)).all (fun i => !((a[i]?.getD false) && !(b[i]?.getD false))) = true := fun h => by
        rw [List.range_succ, List.all_append, hall]
        simpa using h
      have hstop : (!((a[k]?.getD false) && !(b[k]?.getD false))) = false → withinB a b n = false := fun h => by
        unfold withinB
        rw [List.all_eq_false]
        exact ⟨k, List.mem_range.2 hkn, by simpa using h⟩
      generalize a[k]?.getD false = x at q1 hnext hstop
      generalize b[k]?.getD false = y at q2 hnext hstop
      have HN := hide hnext
      have HS := hide hstop
      clear hnext hstop hall
      cases x <;> cases y
      all_goals go_wp2_with fail
      all_goals first
        | exact ⟨⟨k + 1, by omega, by go_num, HN.out (by first | rfl | trivial)⟩, by simp [intOf]; omega⟩
        | (go_ret; exact ⟨by rw [HS.out (by first | rfl | trivial)]; rfl, Below.refl _ w⟩)
    · have hke : k = n := by omega
      have hf : withinB a b n = true := by unfold withinB; rw [← hke]; exact hall
      have HF := hide hf
      clear hf hall
      go_wp2_with fail
      go_ret
      exact ⟨by rw [HF.out]; rfl, Below.refl _ w⟩
theorem isLevs_one {W : World} {b : Nat} {rv wv : Value} {l : Lev} (h0 : W.cell? ⟨b, 0, none⟩ = some rv) (h1 : W.cell? ⟨b, 1, none⟩ = some wv) (hl : LevAt W (.agg #[rv, wv]) l) : IsLevs W (.slice (some ⟨b, 0, none⟩) 1 1) [l] := by
  refine ⟨_, 1, rfl, fun _ => ⟨b, 0, rfl, fun i hi => ?_⟩⟩
  have : i = 0 := by simp at hi; omega
  subst this
  exact ⟨rv, wv, by simpa using h0, by simpa using h1, hl⟩
theorem isLevs_two {W : World} {b : Nat} {rv wv ru wu : Value} {l k : Lev} (h0 : W.cell? ⟨b, 0, none⟩ = some rv) (h1 : W.cell? ⟨b, 1, none⟩ = some wv) (h2 : W.cell? ⟨b, 2, none⟩ = some ru) (h3 : W.cell? ⟨b, 3, none⟩ = some wu) (hl : LevAt W (.agg #[rv, wv]) l) (hk : LevAt W (.agg #[ru, wu]) k) : IsLevs W (.slice (some ⟨b, 0, none⟩) 2 2) [l, k] := by
  refine ⟨_, 2, rfl, fun _ => ⟨b, 0, rfl, fun i hi => ?_⟩⟩
  have : i = 0 ∨ i = 1 := by simp at hi; omega
  rcases this with rfl | rfl
  · exact ⟨rv, wv, by simpa using h0, by simpa using h1, hl⟩
  · exact ⟨ru, wu, by simpa using h2, by simpa using h3, hk⟩

theorem allErr_one (m : Int) (gs : List (Int × Int)) (l : Lev) : allErr m gs [l] = lRight m gs l := by
  unfold allErr lRight firstLev firstLev
  split
  · split
    · rename_i h; rw [h]
    · rfl
  · rfl
theorem allErr_two (m : Int) (gs : List (Int × Int)) (l k : Lev) : allErr m gs [l, k] = lTwo m gs l k := by
  unfold allErr lTwo lRight firstLev firstLev firstLev
  by_cases hc : chkErr m gs = 0
  · simp only [if_pos hc]
    by_cases h1 : levErr m l = 0
    · simp only [if_pos h1]
      by_cases h2 : levErr m k = 0
      · simp [h2]
      · simp [h2]
    · simp [h1]
  · simp [hc]

theorem lev_form {w : World} {v : Value} {l : Lev} (h : LevAt w v l) : ∃ a1 c1 a2 c2, v = .agg #[.slice a1 l.r.length c1, .slice a2 l.w.length c2] := by
  obtain ⟨vr, vw, rfl, ⟨a1, k1, rfl, -⟩, ⟨a2, k2, rfl, -⟩⟩ := h
  exact ⟨_, _, _, _, rfl⟩

set_option maxHeartbeats 1000000 in
theorem rightOk : RightOk := by
  intro m v gs vl l w hv hl
  have HL := hide hl
  obtain ⟨a1, k1, a2, k2, rfl⟩ := lev_form hl
  have HV := hide hv
  obtain ⟨va, vn, vc, rfl⟩ := grants_form hv
  have hb3 : Below w.heap.size w (((w.alloc (.cells #[.int .i64 m, .slice va vn vc] 35)).alloc (.cells #[.slice a1 l.r.length k1, .slice a2 l.w.length k2] 62)).alloc (.cells #[.slice a1 l.r.length k1, .slice a2 l.w.length k2] 62)) := (((Below.refl _ w).alloc (Nat.le_refl _) _).alloc (by simp) _).alloc (by simp; omega) _
  have hcall := allRight_any m (.slice va vn vc) (.slice (some ⟨w.heap.size + 1 + 1, 0, none⟩) 1 1) gs [l] _ (isGrants_over HV.out hb3) (isLevs_one (by simp [go_sem]) (by simp [go_sem]) (levAt_over HL.out hb3)) (by simp)
  rw [allErr_one] at hcall
  obtain ⟨r, hr⟩ : ∃ r, r = lRight m gs l := ⟨_, rfl⟩
  rw [← hr] at hcall ⊢
  have HC := hide hcall
  clear hl hv hcall hr
  go_enter Try.func51, Try.ntmps51
  go_wp2_with fail
  refine (HC.out).mono ?_
  rintro e w1 ⟨rfl, hb1⟩
  have hB1 := hb3.trans (hb1.mono (by simp; omega))
  clear HC hb1 hb3
  go_wp2_with fail
  go_ret
  exact ⟨rfl, hB1⟩

theorem lTwo_ok {m : Int} {gs : List (Int × Int)} {l k : Lev} (h : lTwo m gs l k = 0) : ∃ n : Nat, m = n ∧ 1 ≤ n ∧ n ≤ 6 ∧ l.len n ∧ k.len n ∧ chkErr m gs = 0 := by
  unfold lTwo at h
  split at h
  · rename_i h1
    have hc : chkErr m gs = 0 := by
      unfold lRight at h
      split at h
      · assumption
      · exact h
    obtain ⟨n, hm, h3, h4, _⟩ := chk_ok hc
    unfold lRight at h h1
    rw [if_pos hc] at h h1
    rcases levErr_cases m l with ⟨_, g1, g2⟩ | ⟨g, _⟩
    · rcases levErr_cases m k with ⟨_, g3, g4⟩ | ⟨g, _⟩
      · exact ⟨n, hm, h3, h4, ⟨by omega, by omega⟩, ⟨by omega, by omega⟩, hc⟩
      · rw [g] at h; cases h
    · rw [g] at h1; cases h1
  · rename_i h1
    exact absurd h h1

theorem allTwo (w : World) (m : Int) (gs : List (Int × Int)) (v : Value) (x y z u : Value) (l k : Lev) (hv : IsGrants w v gs) (hl : LevAt w (.agg #[x, y]) l) (hk : LevAt w (.agg #[z, u]) k) (W : World) (b : Nat) (hb : Below w.heap.size w W)
    (h0 : W.cell? ⟨b, 0, none⟩ = some x) (h1 : W.cell? ⟨b, 1, none⟩ = some y) (h2 : W.cell? ⟨b, 2, none⟩ = some z) (h3 : W.cell? ⟨b, 3, none⟩ = some u) :
    Calls Try.prog 56 #[.agg #[.int .i64 m, v], .slice (some ⟨b, 0, none⟩) 2 2] W fun e w' => e = .returned (.int .i64 (lTwo m gs l k)) ∧ Below W.heap.size W w' := by
  have hcall := allRight_any m v (.slice (some ⟨b, 0, none⟩) 2 2) gs [l, k] W (isGrants_over hv hb) (isLevs_two h0 h1 h2 h3 (levAt_over hl hb) (levAt_over hk hb)) (by simp)
  rw [allErr_two] at hcall
  exact hcall

set_option maxHeartbeats 1000000 in
theorem flowsOk : FlowsOk := by
  intro m v gs vl vk l k w hv hl hk
  have HL := hide hl
  have HK := hide hk
  have HV := hide hv
  obtain ⟨a1, k1, a2, k2, rfl⟩ := lev_form hl
  obtain ⟨a3, k3, a4, k4, rfl⟩ := lev_form hk
  obtain ⟨va, vn, vc, rfl⟩ := grants_form hv
  have hb3 : Below w.heap.size w ((((w.alloc (.cells #[.int .i64 m, .slice va vn vc] 35)).alloc (.cells #[.slice a1 l.r.length k1, .slice a2 l.w.length k2] 62)).alloc (.cells #[.slice a3 k.r.length k3, .slice a4 k.w.length k4] 62)).alloc (.cells #[.slice a1 l.r.length k1, .slice a2 l.w.length k2, .slice a3 k.r.length k3, .slice a4 k.w.length k4] 62)) := ((((Below.refl _ w).alloc (Nat.le_refl _) _).alloc (by simp) _).alloc (by simp; omega) _).alloc (by simp; omega) _
  have hcall := allTwo w m gs (.slice va vn vc) _ _ _ _ l k HV.out HL.out HK.out _ (w.heap.size + 1 + 1 + 1) hb3 (by simp [go_sem]) (by simp [go_sem]) (by simp [go_sem]) (by simp [go_sem])
  have hW := fun (n : Nat) (h1 : 1 ≤ n) (h6 : n ≤ 6) (hln : l.len n) (hkn : k.len n) (W : World) (hB : Below w.heap.size w W) => within_any (.slice a3 k.r.length k3) (.slice a1 l.r.length k1) k.r l.r n W h1 h6 (by obtain ⟨_, _, e, h, _⟩ := HK.out; obtain ⟨rfl, rfl⟩ := (by simpa using e : _ ∧ _); exact isBools_over h hB) (by obtain ⟨_, _, e, h, _⟩ := HL.out; obtain ⟨rfl, rfl⟩ := (by simpa using e : _ ∧ _); exact isBools_over h hB) hkn.1 hln.1
  have hX := fun (n : Nat) (h1 : 1 ≤ n) (h6 : n ≤ 6) (hln : l.len n) (hkn : k.len n) (W : World) (hB : Below w.heap.size w W) => within_any (.slice a2 l.w.length k2) (.slice a4 k.w.length k4) l.w k.w n W h1 h6 (by obtain ⟨_, _, e, _, h⟩ := HL.out; obtain ⟨rfl, rfl⟩ := (by simpa using e : _ ∧ _); exact isBools_over h hB) (by obtain ⟨_, _, e, _, h⟩ := HK.out; obtain ⟨rfl, rfl⟩ := (by simpa using e : _ ∧ _); exact isBools_over h hB) hln.2 hkn.2
  have hok := fun h => lTwo_ok (m := m) (gs := gs) (l := l) (k := k) h
  obtain ⟨r, hr⟩ : ∃ r, r = lTwo m gs l k := ⟨_, rfl⟩
  rw [← hr] at hcall hok ⊢
  have HC := hide hcall
  have KW := hide hW
  have KX := hide hX
  have HOK := hide hok
  clear hl hk hv hcall hW hX hok hr
  go_enter Try.func19, Try.ntmps19
  go_wp2_with fail
  refine (HC.out).mono ?_
  rintro e w1 ⟨rfl, hb1⟩
  have hB1 := hb3.trans (hb1.mono (by simp; omega))
  obtain ⟨hc, hf⟩ := bcell hb1
  have c0 : w1.cell? ⟨w.heap.size + 1, 0, none⟩ = some (.slice a1 l.r.length k1) := by rw [hc _ _ (by simp <;> omega)]; simp [go_sem]
  have c1 : w1.cell? ⟨w.heap.size + 1, 1, none⟩ = some (.slice a2 l.w.length k2) := by rw [hc _ _ (by simp <;> omega)]; simp [go_sem]
  have c2 : w1.cell? ⟨w.heap.size + 1 + 1, 0, none⟩ = some (.slice a3 k.r.length k3) := by rw [hc _ _ (by simp <;> omega)]; simp [go_sem]
  have c3 : w1.cell? ⟨w.heap.size + 1 + 1, 1, none⟩ = some (.slice a4 k.w.length k4) := by rw [hc _ _ (by simp <;> omega)]; simp [go_sem]
  clear hc hf hb1 hb3 HC
  by_cases hr0 : r = 0
  · subst hr0
    obtain ⟨n, hm, h1, h6, hln, hkn, hch⟩ := HOK.out (by first | rfl | trivial)
    subst hm
    have hw1 := KW.out n h1 h6 hln hkn
    have hx1 := KX.out n h1 h6 hln hkn
    have hfl := within_flows l k n
    obtain ⟨x, hx⟩ : ∃ x, x = withinB k.r l.r n := ⟨_, rfl⟩
    obtain ⟨y, hy⟩ : ∃ y, y = withinB l.w k.w n := ⟨_, rfl⟩
    rw [← hx] at hw1 hfl
    rw [← hy] at hx1 hfl
    have hfin : flowsB l k n = (x && y) := hfl.symm
    have HFIN := hide hfin
    have HW1 := hide hw1
    have HX1 := hide hx1
    clear hw1 hx1 hfl hx hy hfin KW KX HOK hch
    cases x with
    | false =>
      go_wp2_with fail
      refine (HW1.out _ hB1).mono ?_
      rintro e w2 ⟨rfl, hb2⟩
      have hB2 := hB1.trans (hb2.mono hB1.size)
      clear hb2
      go_wp2_with fail
      go_ret2
      exact ⟨by rw [HFIN.out]; simp, hB2⟩
    | true =>
      go_wp2_with fail
      refine (HW1.out _ hB1).mono ?_
      rintro e w2 ⟨rfl, hb2⟩
      have hB2 := hB1.trans (hb2.mono hB1.size)
      obtain ⟨hc, hf⟩ := bcell hb2
      have d1 : w2.cell? ⟨w.heap.size + 1, 1, none⟩ = some (.slice a2 l.w.length k2) := by rw [hc _ _ (World.block_lt_of_cell? w1 _ c1)]; exact c1
      have d3 : w2.cell? ⟨w.heap.size + 1 + 1, 1, none⟩ = some (.slice a4 k.w.length k4) := by rw [hc _ _ (World.block_lt_of_cell? w1 _ c3)]; exact c3
      clear hb2 hc hf c0 c1 c2 c3 hB1
      go_wp2_with fail
      refine (HX1.out _ hB2).mono ?_
      rintro e w3 ⟨rfl, hb3⟩
      have hB3 := hB2.trans (hb3.mono hB2.size)
      clear hb3 d1 d3
      go_wp2_with fail
      go_ret2
      exact ⟨by rw [HFIN.out]; simp, hB3⟩
  · have hne : (r != 0) = true := by simpa using hr0
    go_wp2_with fail
    go_ret2
    exact ⟨by simp [hr0], hB1⟩

theorem call44 (args : Array Value) (w : World) : (callFunc 84 args).run Try.prog w = .ok (.enter 84 args) w := by simp [go_sem]
set_option maxHeartbeats 400000 in
theorem join1_any (bl bm n k b1 o1 c1 b2 o2 c2 : Nat) (x y : Bool) (W : World) (hk : k < n) (hn : n ≤ 6) (h1 : W.cell? ⟨bl, 0, none⟩ = some (.slice (some ⟨b1, o1, none⟩) n c1)) (h2 : W.cell? ⟨bm, 0, none⟩ = some (.slice (some ⟨b2, o2, none⟩) n c2))
    (q1 : W.cell? ⟨b1, o1 + k, none⟩ = some (.bool x)) (q2 : W.cell? ⟨b2, o2 + k, none⟩ = some (.bool y)) :
    Calls Try.prog 84 #[.int .i64 k, .pointer (some ⟨bl, 0, none⟩), .pointer (some ⟨bm, 0, none⟩)] W fun e w' => e = .returned (.bool (x && y)) ∧ Below W.heap.size W w' := by
  cases x
  all_goals
    go_enter Try.func84, Try.ntmps84
    go_wp2_with fail
    go_ret
    exact ⟨by simp, Below.refl _ W⟩

theorem call45 (args : Array Value) (w : World) : (callFunc 85 args).run Try.prog w = .ok (.enter 85 args) w := by simp [go_sem]
set_option maxHeartbeats 400000 in
theorem join2_any (bl bm n k b1 o1 c1 b2 o2 c2 : Nat) (x y : Bool) (W : World) (hk : k < n) (hn : n ≤ 6) (h1 : W.cell? ⟨bl, 1, none⟩ = some (.slice (some ⟨b1, o1, none⟩) n c1)) (h2 : W.cell? ⟨bm, 1, none⟩ = some (.slice (some ⟨b2, o2, none⟩) n c2))
    (q1 : W.cell? ⟨b1, o1 + k, none⟩ = some (.bool x)) (q2 : W.cell? ⟨b2, o2 + k, none⟩ = some (.bool y)) :
    Calls Try.prog 85 #[.int .i64 k, .pointer (some ⟨bl, 0, none⟩), .pointer (some ⟨bm, 0, none⟩)] W fun e w' => e = .returned (.bool (x || y)) ∧ Below W.heap.size W w' := by
  cases x
  all_goals
    go_enter Try.func85, Try.ntmps85
    go_wp2_with fail
    go_ret
    exact ⟨by simp, Below.refl _ W⟩

theorem call46 (args : Array Value) (w : World) : (callFunc 86 args).run Try.prog w = .ok (.enter 86 args) w := by simp [go_sem]
set_option maxHeartbeats 400000 in
theorem meet1_any (bl bm n k b1 o1 c1 b2 o2 c2 : Nat) (x y : Bool) (W : World) (hk : k < n) (hn : n ≤ 6) (h1 : W.cell? ⟨bl, 0, none⟩ = some (.slice (some ⟨b1, o1, none⟩) n c1)) (h2 : W.cell? ⟨bm, 0, none⟩ = some (.slice (some ⟨b2, o2, none⟩) n c2))
    (q1 : W.cell? ⟨b1, o1 + k, none⟩ = some (.bool x)) (q2 : W.cell? ⟨b2, o2 + k, none⟩ = some (.bool y)) :
    Calls Try.prog 86 #[.int .i64 k, .pointer (some ⟨bl, 0, none⟩), .pointer (some ⟨bm, 0, none⟩)] W fun e w' => e = .returned (.bool (x || y)) ∧ Below W.heap.size W w' := by
  cases x
  all_goals
    go_enter Try.func86, Try.ntmps86
    go_wp2_with fail
    go_ret
    exact ⟨by simp, Below.refl _ W⟩

theorem call47 (args : Array Value) (w : World) : (callFunc 87 args).run Try.prog w = .ok (.enter 87 args) w := by simp [go_sem]
set_option maxHeartbeats 400000 in
theorem meet2_any (bl bm n k b1 o1 c1 b2 o2 c2 : Nat) (x y : Bool) (W : World) (hk : k < n) (hn : n ≤ 6) (h1 : W.cell? ⟨bl, 1, none⟩ = some (.slice (some ⟨b1, o1, none⟩) n c1)) (h2 : W.cell? ⟨bm, 1, none⟩ = some (.slice (some ⟨b2, o2, none⟩) n c2))
    (q1 : W.cell? ⟨b1, o1 + k, none⟩ = some (.bool x)) (q2 : W.cell? ⟨b2, o2 + k, none⟩ = some (.bool y)) :
    Calls Try.prog 87 #[.int .i64 k, .pointer (some ⟨bl, 0, none⟩), .pointer (some ⟨bm, 0, none⟩)] W fun e w' => e = .returned (.bool (x && y)) ∧ Below W.heap.size W w' := by
  cases x
  all_goals
    go_enter Try.func87, Try.ntmps87
    go_wp2_with fail
    go_ret
    exact ⟨by simp, Below.refl _ W⟩
end Go.Proofs.Ytcbbjjenkommeaa
