/- A program that was handed in lies in memory as such. -/
import Derived.Test.YtcbbjjenkommeaaM30
import Derived.Deep.SlicePairs
namespace Go.Proofs.Ytcbbjjenkommeaa.Ex
open Go.RowKit Go.ChangeShapes Go.WideShapes
set_option linter.unusedVariables false
theorem Try.cells25 : Try.prog.cellsOf 25 = 1 := by kernel_rfl
theorem Try.cells26 : Try.prog.cellsOf 36 = 1 := by kernel_rfl
theorem Try.cells27 : Try.prog.cellsOf 37 = 1 := by kernel_rfl
theorem Try.cells28 : Try.prog.cellsOf 38 = 1 := by kernel_rfl
theorem Try.cells29 : Try.prog.cellsOf 39 = 1 := by kernel_rfl
theorem Try.cells22 : Try.prog.cellsOf 33 = 1 := by kernel_rfl
theorem Try.cells52 : Try.prog.cellsOf 22 = 1 := by kernel_rfl
theorem Try.cells65 : Try.prog.cellsOf 100 = 1 := by kernel_rfl
theorem Try.cells4 : Try.prog.cellsOf 4 = 1 := by kernel_rfl
theorem Try.cells3' : Try.prog.cellsOf 3 = 1 := by kernel_rfl
theorem Try.cells24 : Try.prog.cellsOf 35 = 2 := by kernel_rfl
theorem Try.cells54 : Try.prog.cellsOf 24 = 3 := by kernel_rfl
theorem Try.cells67 : Try.prog.cellsOf 102 = 2 := by kernel_rfl
theorem Try.cells122 : Try.prog.cellsOf 143 = 2 := by kernel_rfl
theorem Try.cells71 : Try.prog.cellsOf 78 = 9 := by kernel_rfl
theorem Try.cells80 : Try.prog.cellsOf 133 = 5 := by kernel_rfl
theorem Try.cells69 : Try.prog.cellsOf 120 = 3 := by kernel_rfl
theorem Try.cells101 : Try.prog.cellsOf 141 = 2 := by kernel_rfl
theorem Try.cells31 : Try.prog.cellsOf 41 = 8 := by kernel_rfl

/-- a list lies in memory, each element by itself. -/
def LAt {α : Type} (s : Nat) (R : List Value → α → Prop) (W : World) (v : Value) (ds : List α) : Prop :=
  ds.length ≤ maxLen ∧ ∃ ao cap, v = .slice ao ds.length cap ∧ ds.length ≤ cap ∧ cap ≤ maxLen ∧ (ao = none → cap = 0) ∧ (ds ≠ [] → ∃ b off, ao = some ⟨b, off, none⟩ ∧
    ∀ (i : Nat) (d : α), ds[i]? = some d → ∃ cs : List Value, cs.length = s ∧ (∀ (j : Nat) (u : Value), cs[j]? = some u → W.cell? ⟨b, off + i * s + j, none⟩ = some u) ∧ R cs d)

section
variable {H : Type} {enc : TypeId × Value → H} {W : World}

theorem open_list {α : Type} {TS E s : Nat} (hU : Try.prog.underlying TS = some (.slice E)) (hc : Try.prog.cellsOf E = s) (hs : 0 < s) {fuel : Nat} {v : Value} {x : DataW H × List MemPlace} (h : DataW.trod enc Try.prog W 0 (fun _ => true) true fuel TS [v] = some x)
    (d0 : α) (R : List Value → α → Prop) (hel : ∀ (m : Nat) (cs : List Value) (y : DataW H × List MemPlace), m < fuel → DataW.trod enc Try.prog W 0 (fun _ => true) true m E cs = some y → ∃ d, R cs d) : ∃ ds : List α, LAt s R W v ds := by
  haveI : Inhabited α := ⟨d0⟩
  rcases DataW.trod_slice hU h with ⟨hcs, -⟩ | ⟨ad, len, cap, elems, rest, m, rfl, hcs, -, -, hlc, hcm, hen, hat, -, -⟩
  · simp at hcs
    subst hcs
    exact ⟨[], by simp, none, 0, rfl, by simp, by unfold maxLen; omega, fun _ => rfl, fun h => absurd rfl h⟩
  · simp at hcs
    subst hcs
    rw [hc] at hat
    have hget : ∀ i, i < len → ∃ d : α, ∃ cs : List Value, cs.length = s ∧ (∀ (j : Nat) (u : Value), cs[j]? = some u → W.cell? (ad.add (i * s + j)) = some u) ∧ R cs d := fun i hi => by
      have hi2 := hat i hi
      rw [List.getElem?_eq_getElem (by omega), Option.bind_eq_some_iff] at hi2
      obtain ⟨cs, hcc, ht⟩ := hi2
      obtain ⟨-, hlen, hcell⟩ := World.cells?_some hcc
      obtain ⟨d, hd⟩ := hel m cs _ (Nat.lt_succ_self _) ht
      refine ⟨d, cs, hlen, fun j u hu => ?_, hd⟩
      have hj : j < s := by have := (List.getElem?_eq_some_iff.1 hu).1; omega
      have hk := hcell j hj
      rw [hu] at hk
      rw [Addr.add_add] at hk
      exact hk
    obtain ⟨f, hf⟩ := Deep.choose_lt hget
    refine ⟨(List.range len).map f, by simp; omega, some ad, cap, by simp, by simpa using hlc, hcm, fun h => absurd h (by simp), fun hne => ?_⟩
    have h0 : 0 < len := by
      rcases Nat.eq_zero_or_pos len with h | h
      · subst h; simp at hne
      · exact h
    have hp : ∃ b off, ad = ⟨b, off, none⟩ := by
      obtain ⟨cs, hl, hcl, -⟩ := hf 0 h0
      obtain ⟨u, hu⟩ : ∃ u, cs[0]? = some u := ⟨cs[0]'(by omega), List.getElem?_eq_getElem (by omega)⟩
      have hk := hcl 0 u hu
      have hsp : ad.spot = none := by simpa [Addr.add] using World.cell?_spot hk
      obtain ⟨b, off, sp⟩ := ad
      simp only at hsp
      subst hsp
      exact ⟨b, off, rfl⟩
    obtain ⟨bb, off, rfl⟩ := hp
    refine ⟨bb, off, rfl, fun i d hd => ?_⟩
    have hi : i < len := by
      have := (List.getElem?_eq_some_iff.1 hd).1
      simpa using this
    have hd' : d = f i := by
      rw [List.getElem?_map, List.getElem?_range hi] at hd
      simpa using hd.symm
    subst hd'
    obtain ⟨cs, hl, hcl, hr⟩ := hf i hi
    exact ⟨cs, hl, fun j u hu => by have := hcl j u hu; rw [Addr.add_lit] at this; simpa [Nat.add_assoc] using this, hr⟩

theorem intsOf {v : Value} {l : List Int} (h : LAt 1 (fun cs x => cs = [.int .i64 x]) W v l) : IsInts W v l := by
  obtain ⟨-, ao, cap, hv, -, -, -, hc⟩ := h
  refine ⟨ao, cap, hv, fun hne => ?_⟩
  obtain ⟨b, off, hb, hel⟩ := hc hne
  refine ⟨b, off, hb, fun i hi => ?_⟩
  obtain ⟨cs, -, hcs, rfl⟩ := hel i l[i] (List.getElem?_eq_getElem hi)
  have := hcs 0 _ rfl
  simpa using this
theorem open_int1 {m : Nat} {cs : List Value} {y : DataW H × List MemPlace} (h : DataW.trod enc Try.prog W 0 (fun _ => true) true m 3 cs = some y) : ∃ n : Int, cs = [.int .i64 n] ∧ In64 n := by
  obtain ⟨n, e, -, hw⟩ := DataW.trod_int Try.underlying3 h
  exact ⟨n, e, wf64 hw⟩
theorem open_intsL {fuel : Nat} {v : Value} {x : DataW H × List MemPlace} (h : DataW.trod enc Try.prog W 0 (fun _ => true) true fuel 25 [v] = some x) : ∃ l : List Int, LAt 1 (fun cs x => cs = [.int .i64 x]) W v l :=
  open_list Try.underlying25 Try.cells3' (by omega) h 0 _ fun m cs y _ hy => by obtain ⟨n, e, -⟩ := open_int1 hy; exact ⟨n, e⟩

set_option maxRecDepth 100000 in
theorem open_grantsL {fuel : Nat} {v : Value} {x : DataW H × List MemPlace} (h : DataW.trod enc Try.prog W 0 (fun _ => true) true fuel 33 [v] = some x) : ∃ l : List (Int × Int), IsGrants W v l := by
  obtain ⟨l, hl⟩ := open_list Try.underlying33 Try.cells101 (by omega) h (0, 0) (fun cs (x : Int × Int) => cs = [.int .i64 x.1, .int .i64 x.2]) fun m cs y _ hy => by
    obtain ⟨xs, n, rfl, -, hl, hxl, hf⟩ := DataW.trod_struct Try.underlying141 hy
    rw [Try.cells101] at hl
    match cs, hl, xs, hxl with
    | [c0, c1], _, [y0, y1], _ =>
      have h0 := hf 0 _ rfl
      have h1 := hf 1 _ rfl
      simp [Try.cells3'] at h0 h1
      obtain ⟨a, e0, -⟩ := open_int1 h0
      obtain ⟨b, e1, -⟩ := open_int1 h1
      simp at e0 e1
      subst e0
      subst e1
      exact ⟨(a, b), rfl⟩
  obtain ⟨-, ao, cap, hv, -, -, -, hc⟩ := hl
  refine ⟨l, ao, cap, hv, fun hne => ?_⟩
  obtain ⟨b, off, hb, hel⟩ := hc hne
  refine ⟨b, off, hb, fun i hi => ?_⟩
  obtain ⟨cs, -, hcs, rfl⟩ := hel i l[i] (List.getElem?_eq_getElem hi)
  exact ⟨hcs 0 _ rfl, hcs 1 _ rfl⟩

set_option maxRecDepth 100000 in
theorem open_polsL {fuel : Nat} {v : Value} {x : DataW H × List MemPlace} (h : DataW.trod enc Try.prog W 0 (fun _ => true) true fuel 100 [v] = some x) : ∃ l : List Pol, IsPols W v l := by
  obtain ⟨l, hl⟩ := open_list Try.underlying100 Try.cells122 (by omega) h ⟨0, []⟩ (fun cs (x : Pol) => ∃ u, cs = [.int .i64 x.owner, u] ∧ IsInts W u x.names) fun m cs y _ hy => by
    obtain ⟨xs, n, rfl, -, hl, hxl, hf⟩ := DataW.trod_struct Try.underlying143 hy
    rw [Try.cells122] at hl
    match cs, hl, xs, hxl with
    | [c0, c1], _, [y0, y1], _ =>
      have h0 := hf 0 _ rfl
      have h1 := hf 1 _ rfl
      simp [Try.cells3', Try.cells25] at h0 h1
      obtain ⟨a, e0, -⟩ := open_int1 h0
      simp at e0
      subst e0
      obtain ⟨ns, hns⟩ := open_intsL h1
      exact ⟨⟨a, ns⟩, c1, rfl, intsOf hns⟩
  obtain ⟨-, ao, cap, hv, -, -, -, hc⟩ := hl
  refine ⟨l, ao, cap, hv, fun hne => ?_⟩
  obtain ⟨b, off, hb, hel⟩ := hc hne
  refine ⟨b, off, hb, fun i hi => ?_⟩
  obtain ⟨cs, -, hcs, u, rfl, hu⟩ := hel i l[i] (List.getElem?_eq_getElem hi)
  exact ⟨hcs 0 _ rfl, u, hcs 1 _ rfl, hu⟩

set_option maxRecDepth 100000 in
theorem open_lab {m : Nat} {cs : List Value} {y : DataW H × List MemPlace} (h : DataW.trod enc Try.prog W 0 (fun _ => true) true m 102 cs = some y) : ∃ (l : Lab) (pr pw : Value), cs = [pr, pw] ∧ IsPols W pr l.r ∧ IsPols W pw l.w := by
  obtain ⟨xs, n, rfl, -, hl, hxl, hf⟩ := DataW.trod_struct Try.underlying102 h
  rw [Try.cells67] at hl
  match cs, hl, xs, hxl with
  | [c0, c1], _, [y0, y1], _ =>
    have h0 := hf 0 _ rfl
    have h1 := hf 1 _ rfl
    simp [Try.cells65] at h0 h1
    obtain ⟨a, ha⟩ := open_polsL h0
    obtain ⟨b, hb⟩ := open_polsL h1
    exact ⟨⟨a, b⟩, c0, c1, rfl, ha, hb⟩

theorem open_labsL {fuel : Nat} {ao : Option Addr} {n cap : Nat} {x : DataW H × List MemPlace} (h : DataW.trod enc Try.prog W 0 (fun _ => true) true fuel 36 [.slice ao n cap] = some x) : ∃ l : List Lab, LabsAt W (.slice ao n cap) l ∧ (ao = none → cap = 0) := by
  obtain ⟨l, hl⟩ := open_list Try.underlying36 Try.cells67 (by omega) h ⟨[], []⟩ (fun cs (l : Lab) => ∃ pr pw, cs = [pr, pw] ∧ IsPols W pr l.r ∧ IsPols W pw l.w) fun m cs y _ hy => open_lab hy
  obtain ⟨hm, ao', cap', hv, -, -, hz, hc⟩ := hl
  injection hv with e1 e2 e3
  subst e1 e2 e3
  refine ⟨l, ⟨hm, ao, cap, rfl, fun hne => ?_⟩, hz⟩
  obtain ⟨b, off, hb, hel⟩ := hc hne
  refine ⟨b, off, hb, fun i hi => ?_⟩
  obtain ⟨cs, -, hcs, pr, pw, rfl, h1, h2⟩ := hel i l[i] (List.getElem?_eq_getElem hi)
  exact ⟨pr, pw, hcs 0 _ rfl, hcs 1 _ rfl, h1, h2⟩

set_option maxRecDepth 100000 in
theorem open_varsL {fuel : Nat} {v : Value} {x : DataW H × List MemPlace} (h : DataW.trod enc Try.prog W 0 (fun _ => true) true fuel 37 [v] = some x) : ∃ l : List (Bool × Lab), VarsAt W v l := by
  obtain ⟨l, hl⟩ := open_list Try.underlying37 Try.cells69 (by omega) h (false, ⟨[], []⟩) (fun cs (l : Bool × Lab) => ∃ pr pw, cs = [.bool l.1, pr, pw] ∧ IsPols W pr l.2.r ∧ IsPols W pw l.2.w) fun m cs y _ hy => by
    obtain ⟨xs, n, rfl, -, hl, hxl, hf⟩ := DataW.trod_struct Try.underlying120 hy
    rw [Try.cells69] at hl
    match cs, hl, xs, hxl with
    | [c0, c1, c2], _, [y0, y1], _ =>
      have h0 := hf 0 _ rfl
      have h1 := hf 1 _ rfl
      simp [Try.cells4, Try.cells67] at h0 h1
      obtain ⟨b, e0, -⟩ := DataW.trod_bool Try.underlying4 h0
      simp at e0
      subst e0
      obtain ⟨lb, pr, pw, e1, h2, h3⟩ := open_lab h1
      simp at e1
      obtain ⟨rfl, rfl⟩ := e1
      exact ⟨(b, lb), c1, c2, rfl, h2, h3⟩
  obtain ⟨hm, ao, cap, hv, -, -, -, hc⟩ := hl
  refine ⟨l, hm, ao, cap, hv, fun hne => ?_⟩
  obtain ⟨b, off, hb, hel⟩ := hc hne
  refine ⟨b, off, hb, fun i hi => ?_⟩
  obtain ⟨cs, -, hcs, pr, pw, rfl, h1, h2⟩ := hel i l[i] (List.getElem?_eq_getElem hi)
  exact ⟨pr, pw, hcs 0 _ rfl, hcs 1 _ rfl, hcs 2 _ rfl, h1, h2⟩

theorem xsOf {s : Nat} {R : List Value → D → Prop} {v : Value} {l : List D} (h : LAt s R W v l) : XS s R W v l := by
  obtain ⟨hm, ao, cap, hv, -, -, -, hc⟩ := h
  exact ⟨hm, ao, cap, hv, hc⟩

set_option maxRecDepth 100000 in
theorem open_stmt (K : Nat) : ∀ (fuel : Nat) (cs : List Value) (x : DataW H × List MemPlace), fuel ≤ K → DataW.trod enc Try.prog W 0 (fun _ => true) true fuel 78 cs = some x → ∃ d, RS W K fuel cs d := by
  intro fuel
  induction fuel using Nat.strongRecOn with
  | ind fuel ih =>
    intro cs x hK h
    obtain ⟨xs, n, rfl, -, hl, hxl, hf⟩ := DataW.trod_struct Try.underlying78 h
    rw [Try.cells71] at hl
    match cs, hl, xs, hxl with
    | [c0, c1, c2, c3, c4, c5, c6, c7, c8], _, [y0, y1, y2, y3, y4, y5, y6], _ =>
      have h0 := hf 0 _ rfl
      have h1 := hf 1 _ rfl
      have h2 := hf 2 _ rfl
      have h3 := hf 3 _ rfl
      have h4 := hf 4 _ rfl
      have h5 := hf 5 _ rfl
      have h6 := hf 6 _ rfl
      simp [Try.cells3', Try.cells54, Try.cells52, Try.cells29] at h0 h1 h2 h3 h4 h5 h6
      obtain ⟨kd, e0, w0⟩ := open_int1 h0
      obtain ⟨va, e1, w1⟩ := open_int1 h1
      obtain ⟨ot, e2, w2⟩ := open_int1 h2
      simp at e0 e1 e2
      subst e0
      subst e1
      subst e2
      obtain ⟨e, he⟩ := open_expr n _ _ h3
      obtain ⟨ags, hA⟩ := open_list Try.underlying22 Try.cells54 (by omega) h4 (.agg []) (RX W K) fun m cs y hm hy => by
        obtain ⟨d, hd⟩ := open_expr m _ _ hy
        exact ⟨d, RX.mono (fun _ _ h => h) m K _ _ (by omega) hd⟩
      obtain ⟨ts, hT⟩ := open_list Try.underlying39 Try.cells71 (by omega) h5 (.agg []) (RS W K n) fun m cs y hm hy => by
        obtain ⟨d, hd⟩ := ih m (by omega) cs y (by omega) hy
        exact ⟨d, RS.mono (fun _ _ h => h) m n _ _ (by omega) hd⟩
      obtain ⟨es, hE⟩ := open_list Try.underlying39 Try.cells71 (by omega) h6 (.agg []) (RS W K n) fun m cs y hm hy => by
        obtain ⟨d, hd⟩ := ih m (by omega) cs y (by omega) hy
        exact ⟨d, RS.mono (fun _ _ h => h) m n _ _ (by omega) hd⟩
      exact ⟨sD kd va ot e ags ts es, kd, va, ot, c3, c4, c5, e, c6, ags, c7, ts, c8, es, rfl, rfl, w0, w1, w2, RX.mono (fun _ _ h => h) n K _ _ (by omega) he, xsOf hA, xsOf hT, xsOf hE⟩

theorem open_stmtsL (K : Nat) {fuel : Nat} {v : Value} {x : DataW H × List MemPlace} (hK : fuel ≤ K) (h : DataW.trod enc Try.prog W 0 (fun _ => true) true fuel 39 [v] = some x) : ∃ l, StmtsAt W K K v l := by
  obtain ⟨l, hl⟩ := open_list Try.underlying39 Try.cells71 (by omega) h (.agg []) (RS W K K) fun m cs y hm hy => by
    obtain ⟨d, hd⟩ := open_stmt K m cs y (by omega) hy
    exact ⟨d, RS.mono (fun _ _ h => h) m K _ _ (by omega) hd⟩
  exact ⟨l, xsOf hl⟩

set_option maxRecDepth 100000 in
theorem open_funcsL (K : Nat) {fuel : Nat} {v : Value} {x : DataW H × List MemPlace} (hK : fuel ≤ K) (h : DataW.trod enc Try.prog W 0 (fun _ => true) true fuel 38 [v] = some x) : ∃ l, FnsAt W K K v l := by
  obtain ⟨l, hl⟩ := open_list Try.underlying38 Try.cells80 (by omega) h ⟨[], [], .agg []⟩ (fun cs (f : FnD) => ∃ vP vB x0 x1 x2, cs = [vP, vB, x0, x1, x2] ∧ IsInts W vP f.ps ∧ PsOk vP f.ps ∧ StmtsAt W K K vB f.body ∧ RX W K [x0, x1, x2] f.res) fun m cs y hm hy => by
    obtain ⟨xs, n, rfl, -, hl, hxl, hf⟩ := DataW.trod_struct Try.underlying133 hy
    rw [Try.cells80] at hl
    match cs, hl, xs, hxl with
    | [c0, c1, c2, c3, c4], _, [y0, y1, y2], _ =>
      have h0 := hf 0 _ rfl
      have h1 := hf 1 _ rfl
      have h2 := hf 2 _ rfl
      simp [Try.cells25, Try.cells29, Try.cells54] at h0 h1 h2
      obtain ⟨ps, hps⟩ := open_intsL h0
      obtain ⟨bd, hbd⟩ := open_stmtsL K (by omega) h1
      obtain ⟨e, he⟩ := open_expr n _ _ h2
      refine ⟨⟨ps, bd, e⟩, c0, c1, c2, c3, c4, rfl, intsOf hps, ?_, hbd, RX.mono (fun _ _ h => h) n K _ _ (by omega) he⟩
      obtain ⟨hm2, ao, cap, hv, h5, h6, -⟩ := hps
      exact ⟨hm2, ao, cap, hv, h5, h6⟩
  obtain ⟨hm, ao, cap, hv, -, -, -, hc⟩ := hl
  refine ⟨l, hm, ao, cap, hv, fun hne => ?_⟩
  obtain ⟨b, off, hb, hel⟩ := hc hne
  refine ⟨b, off, hb, fun i hi => ?_⟩
  obtain ⟨cs, -, hcs, vP, vB, x0, x1, x2, rfl, h1, h2, h3, h4⟩ := hel i l[i] (List.getElem?_eq_getElem hi)
  exact ⟨vP, vB, x0, x1, x2, hcs 0 _ rfl, hcs 1 _ rfl, hcs 2 _ rfl, hcs 3 _ rfl, hcs 4 _ rfl, h1, h2, h3, h4⟩
end
section
variable {H : Type} {enc : TypeId × Value → H} {W : World}
theorem slice_shape {TS E : Nat} (hU : Try.prog.underlying TS = some (.slice E)) {fuel : Nat} {v : Value} {x : DataW H × List MemPlace} (h : DataW.trod enc Try.prog W 0 (fun _ => true) true fuel TS [v] = some x) : ∃ a n c, v = .slice a n c := by
  rcases DataW.trod_slice hU h with ⟨hcs, -⟩ | ⟨ad, len, cap, elems, rest, m, rfl, hcs, -⟩
  · simp at hcs
    exact ⟨_, _, _, hcs⟩
  · simp at hcs
    exact ⟨_, _, _, hcs⟩

set_option maxRecDepth 100000 in
theorem open_prog {fuel : Nat} {cs : List Value} {x : DataW H × List MemPlace} (h : DataW.trod enc Try.prog W 0 (fun _ => true) true fuel 41 cs = some x) :
    ∃ (m : Int) (ga : Option Addr) (gn gc : Nat) (sa : Option Addr) (sn sc : Nat) (ya : Option Addr) (yn yc : Nat) (oa : Option Addr) (on oc : Nat) (va : Option Addr) (vn vc : Nat) (fa : Option Addr) (fn fc : Nat) (ba : Option Addr) (bn bc : Nat) (gs : List (Int × Int)) (sp : List Int) (ls ms : List Lab) (vs : List (Bool × Lab)) (fs : List FnD) (l : List D), cs = [.int .i64 m, .slice ga gn gc, .slice sa sn sc, .slice ya yn yc, .slice oa on oc, .slice va vn vc, .slice fa fn fc, .slice ba bn bc] ∧ ProgAt fuel fuel m ga gn gc sa sn sc ya yn yc oa on oc va vn vc fa fn fc ba bn bc gs sp ls ms vs fs l W := by
  obtain ⟨xs, n, rfl, -, hl, hxl, hf⟩ := DataW.trod_struct Try.underlying41 h
  rw [Try.cells31] at hl
  match cs, hl, xs, hxl with
  | [c0, c1, c2, c3, c4, c5, c6, c7], _, [y0, y1, y2, y3, y4, y5, y6], _ =>
    have h0 := hf 0 _ rfl
    have h1 := hf 1 _ rfl
    have h2 := hf 2 _ rfl
    have h3 := hf 3 _ rfl
    have h4 := hf 4 _ rfl
    have h5 := hf 5 _ rfl
    have h6 := hf 6 _ rfl
    simp [Try.cells24, Try.cells25, Try.cells26, Try.cells27, Try.cells28, Try.cells29] at h0 h1 h2 h3 h4 h5 h6
    obtain ⟨zs, n2, rfl, -, hl2, hzl, hf2⟩ := DataW.trod_struct Try.underlying35 h0
    match zs, hzl with
    | [z0, z1], _ =>
      have g0 := hf2 0 _ rfl
      have g1 := hf2 1 _ rfl
      simp [Try.cells3', Try.cells22] at g0 g1
      obtain ⟨m, e0, hm⟩ := open_int1 g0
      simp at e0
      subst e0
      obtain ⟨ga, gn, gc, rfl⟩ := slice_shape Try.underlying33 g1
      obtain ⟨sa, sn, sc, rfl⟩ := slice_shape Try.underlying25 h1
      obtain ⟨ya, yn, yc, rfl⟩ := slice_shape Try.underlying36 h2
      obtain ⟨oa, on, oc, rfl⟩ := slice_shape Try.underlying36 h3
      obtain ⟨va, vn, vc, rfl⟩ := slice_shape Try.underlying37 h4
      obtain ⟨fa, fn, fc, rfl⟩ := slice_shape Try.underlying38 h5
      obtain ⟨ba, bn, bc, rfl⟩ := slice_shape Try.underlying39 h6
      obtain ⟨gs, hgs⟩ := open_grantsL g1
      obtain ⟨sp, hsp⟩ := open_intsL h1
      obtain ⟨ls, hls, hln⟩ := open_labsL h2
      obtain ⟨ms, hms, hmn⟩ := open_labsL h3
      obtain ⟨vs, hvs⟩ := open_varsL h4
      obtain ⟨fs, hfs⟩ := open_funcsL (n2 + 1 + 1) (by omega) h5
      obtain ⟨l, hl⟩ := open_stmtsL (n2 + 1 + 1) (by omega) h6
      exact ⟨m, ga, gn, gc, sa, sn, sc, ya, yn, yc, oa, on, oc, va, vn, vc, fa, fn, fc, ba, bn, bc, gs, sp, ls, ms, vs, fs, l, rfl, hm, hgs, intsOf hsp, by have := hsp.1; unfold maxLen at this; omega, hls, hms, hvs, hfs, hl, hln, hmn⟩

set_option maxRecDepth 100000 in
theorem open_program {r : Go.Reach} {b0 : Nat} {v : Value} {d : DataW H} {p : List MemPlace} (hv : Value.okWide Try.prog W r b0 41 v) (h : DataW.Trod enc Try.prog W 0 (fun _ => true) true 41 v d p) :
    ∃ (K : Nat) (m : Int) (ga : Option Addr) (gn gc : Nat) (sa : Option Addr) (sn sc : Nat) (ya : Option Addr) (yn yc : Nat) (oa : Option Addr) (on oc : Nat) (va : Option Addr) (vn vc : Nat) (fa : Option Addr) (fn fc : Nat) (ba : Option Addr) (bn bc : Nat) (gs : List (Int × Int)) (sp : List Int) (ls ms : List Lab) (vs : List (Bool × Lab)) (fs : List FnD) (l : List D), v = .agg #[.int .i64 m, .slice ga gn gc, .slice sa sn sc, .slice ya yn yc, .slice oa on oc, .slice va vn vc, .slice fa fn fc, .slice ba bn bc] ∧ ProgAt K K m ga gn gc sa sn sc ya yn yc oa on oc va vn vc fa fn fc ba bn bc gs sp ls ms vs fs l W := by
  obtain ⟨cs, rfl, hsz⟩ := okWide_struct Try.underlying41 hv
  obtain ⟨fuel, hf⟩ := h
  have hf2 : DataW.trod enc Try.prog W 0 (fun _ => true) true fuel 41 cs.toList = some (d, p) := by simpa [Value.cells] using hf
  obtain ⟨m, ga, gn, gc, sa, sn, sc, ya, yn, yc, oa, on, oc, va, vn, vc, fa, fn, fc, ba, bn, bc, gs, sp, ls, ms, vs, fs, l, hcs, hp⟩ := open_prog hf2
  refine ⟨fuel, m, ga, gn, gc, sa, sn, sc, ya, yn, yc, oa, on, oc, va, vn, vc, fa, fn, fc, ba, bn, bc, gs, sp, ls, ms, vs, fs, l, ?_, hp⟩
  have : cs = #[.int .i64 m, .slice ga gn gc, .slice sa sn sc, .slice ya yn yc, .slice oa on oc, .slice va vn vc, .slice fa fn fc, .slice ba bn bc] := by
    cases cs
    simp_all
  rw [this]

theorem Try.cells62L : Try.prog.cellsOf 62 = 2 := by kernel_rfl
theorem Try.cells60L : Try.prog.cellsOf 60 = 1 := by kernel_rfl
theorem Try.cells52L : Try.prog.cellsOf 52 = 1 := by kernel_rfl
theorem Try.cells54L : Try.prog.cellsOf 54 = 2 := by kernel_rfl
theorem boolsOf {v : Value} {l : List Bool} (h : LAt 1 (fun cs x => cs = [.bool x]) W v l) : IsBools W v l := by
  obtain ⟨hm, ao, cap, hv, -, -, -, hc⟩ := h
  refine ⟨ao, cap, hv, fun hne => ?_⟩
  obtain ⟨b, off, hb, hel⟩ := hc hne
  refine ⟨b, off, hb, fun i hi => ?_⟩
  obtain ⟨cs, -, hcs, rfl⟩ := hel i l[i] (List.getElem?_eq_getElem hi)
  have := hcs 0 _ rfl
  simpa using this
theorem open_boolsL {fuel : Nat} {v : Value} {x : DataW H × List MemPlace} (h : DataW.trod enc Try.prog W 0 (fun _ => true) true fuel 60 [v] = some x) : ∃ l : List Bool, IsBools W v l := by
  obtain ⟨l, hl⟩ := open_list Try.underlying60 Try.cells4 (by omega) h false (fun cs x => cs = [.bool x]) fun m cs y _ hy => by
    obtain ⟨b, e, -⟩ := DataW.trod_bool Try.underlying4 hy
    exact ⟨b, e⟩
  exact ⟨l, boolsOf hl⟩
set_option maxRecDepth 100000 in
theorem open_lev {m : Nat} {cs : List Value} {y : DataW H × List MemPlace} (h : DataW.trod enc Try.prog W 0 (fun _ => true) true m 62 cs = some y) : ∃ (l : Lev) (pr pw : Value), cs = [pr, pw] ∧ IsBools W pr l.r ∧ IsBools W pw l.w := by
  obtain ⟨xs, n, rfl, -, hl, hxl, hf⟩ := DataW.trod_struct Try.underlying62 h
  rw [Try.cells62L] at hl
  match cs, hl, xs, hxl with
  | [c0, c1], _, [y0, y1], _ =>
    have h0 := hf 0 _ rfl
    have h1 := hf 1 _ rfl
    simp [Try.cells60L] at h0 h1
    obtain ⟨r, hr⟩ := open_boolsL h0
    obtain ⟨w, hw⟩ := open_boolsL h1
    exact ⟨⟨r, w⟩, c0, c1, rfl, hr, hw⟩
theorem open_levsL {fuel : Nat} {ao : Option Addr} {n cap : Nat} {x : DataW H × List MemPlace} (h : DataW.trod enc Try.prog W 0 (fun _ => true) true fuel 52 [.slice ao n cap] = some x) : ∃ l : List Lev, IsLevs W (.slice ao n cap) l ∧ (ao = none → cap = 0) ∧ l.length ≤ 9223372036854775807 := by
  obtain ⟨l, hl⟩ := open_list Try.underlying52 Try.cells62L (by omega) h ⟨[], []⟩ (fun cs (l : Lev) => ∃ pr pw, cs = [pr, pw] ∧ IsBools W pr l.r ∧ IsBools W pw l.w) fun m cs y _ hy => open_lev hy
  obtain ⟨hm, ao', cap', hv, -, -, hz, hc⟩ := hl
  injection hv with e1 e2 e3
  subst e1 e2 e3
  refine ⟨l, ⟨ao, cap, rfl, fun hne => ?_⟩, hz, by unfold maxLen at hm; omega⟩
  obtain ⟨b, off, hb, hel⟩ := hc hne
  refine ⟨b, off, hb, fun i hi => ?_⟩
  obtain ⟨cs, -, hcs, pr, pw, rfl, h1, h2⟩ := hel i l[i] (List.getElem?_eq_getElem hi)
  exact ⟨pr, pw, hcs 0 _ rfl, hcs 1 _ rfl, pr, pw, rfl, h1, h2⟩
set_option maxRecDepth 100000 in
theorem open_levels {r : Go.Reach} {b0 : Nat} {v : Value} {d : DataW H} {p : List MemPlace} (hv : Value.okWide Try.prog W r b0 54 v) (h : DataW.Trod enc Try.prog W 0 (fun _ => true) true 54 v d p) :
    ∃ (la : Option Addr) (ln lc : Nat) (ka : Option Addr) (kn kc : Nat) (L : ISt), v = .agg #[.slice la ln lc, .slice ka kn kc] ∧ IsLevs W (.slice la ln lc) L.vs ∧ IsLevs W (.slice ka kn kc) L.fs ∧ L.vs.length ≤ 9223372036854775807 ∧ L.fs.length ≤ 9223372036854775807 ∧ (la = none → lc = 0) ∧ (ka = none → kc = 0) := by
  obtain ⟨cs, rfl, hsz⟩ := okWide_struct Try.underlying54 hv
  obtain ⟨fuel, hf⟩ := h
  have hf2 : DataW.trod enc Try.prog W 0 (fun _ => true) true fuel 54 cs.toList = some (d, p) := by simpa [Value.cells] using hf
  obtain ⟨xs, n, hd, -, hl, hxl, hfe⟩ := DataW.trod_struct Try.underlying54 hf2
  rw [Try.cells54L] at hl
  match hcs : cs.toList, hl, xs, hxl with
  | [c0, c1], _, [y0, y1], _ =>
    rw [hcs] at hfe
    have h0 := hfe 0 _ rfl
    have h1 := hfe 1 _ rfl
    simp [Try.cells52L] at h0 h1
    obtain ⟨la, ln, lc, rfl⟩ := slice_shape Try.underlying52 h0
    obtain ⟨ka, kn, kc, rfl⟩ := slice_shape Try.underlying52 h1
    obtain ⟨l1, q1, q2, q3⟩ := open_levsL h0
    obtain ⟨l2, r1, r2, r3⟩ := open_levsL h1
    refine ⟨la, ln, lc, ka, kn, kc, ⟨l1, l2, false⟩, ?_, q1, r1, q3, r3, q2, r2⟩
    have : cs = #[.slice la ln lc, .slice ka kn kc] := by
      cases cs
      simp_all
    rw [this]
end
end Go.Proofs.Ytcbbjjenkommeaa.Ex
