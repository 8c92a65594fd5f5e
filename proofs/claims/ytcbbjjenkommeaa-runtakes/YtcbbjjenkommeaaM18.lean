/- Who runs any program, anew. -/
import Derived.Test.YtcbbjjenkommeaaM17
import Derived.Laws.EntriesVeiled
namespace Go.Proofs.Ytcbbjjenkommeaa.Ex
open Go.RowKit
set_option linter.unusedVariables false
def zerosA (n : Nat) : Array Value := (List.replicate n (Value.int .i64 0)).toArray
theorem makeI (n : Nat) (hn : n ≤ 100) (w : World) : (Instr.makeSlice 25 (.int .i64 n) (.int .i64 n)).run Try.prog w = .ok (.slice (some ⟨w.heap.size, 0, none⟩) n n) (w.alloc (.cells (zerosA n) 3)) := by
  obtain ⟨i, hi, hz, h1, h2⟩ := info_parts Try.infoI
  have := run_make (P := Try.prog) w 25 3 i (.int .i64 0) Try.underlying25 hi hz .i64 .i64 (n : Int) (n : Int) (by omega) (by omega) (by rw [h2]; omega) (by omega)
  rw [this, h1]
  simp only [Int.toNat_natCast, Nat.mul_one]
  have e : madeCells (Value.int .i64 0).cells n = zerosA n := by
    unfold zerosA
    apply Array.ext
    · simp [madeCells]
    · intro j h1 h2
      simp [madeCells, Value.cells, Nat.mod_one]
  rw [e]

def st0 (vn yn : Nat) (o : WSt) : RSt := ⟨[], List.replicate vn 0, List.replicate yn 0, 0, 0, 0, o⟩
theorem st0_ok (vn yn F : Nat) (o : WSt) : NumOk vn yn F (st0 vn yn o) := by
  refine ⟨by simp [st0], by simp [st0], fun x hx => ?_, fun x hx => ?_, by simp [st0], by simp [st0]⟩
  · have := List.eq_of_mem_replicate hx
    subst this
    exact ⟨by omega, by omega⟩
  · have := List.eq_of_mem_replicate hx
    subst this
    simp [st0]

/-- a runner that has not begun. -/
structure NewR (B : Nat) (R : List Value) (br b1 b2 b3 : Nat) (fl : List Int) (vn yn : Nat) (w : World) : Prop where
  row : RowAt (.slice none 0 0 :: .slice (some ⟨b1, 0, none⟩) vn vn :: .slice (some ⟨b2, 0, none⟩) yn yn :: .int .i64 0 :: .int .i64 0 :: .int .i64 0 :: (R ++ [.int .i64 0, .nilFunc])) w br
  vars : RowAt (intsV (List.replicate vn 0)) w b1
  taken : RowAt (intsV (List.replicate yn 0)) w b2
  first : RowAt (intsV fl) w b3
  z0 : ∀ j, w.frozen? ⟨br, j, none⟩ = false
  z1 : ∀ j, w.frozen? ⟨b1, j, none⟩ = false
  z2 : ∀ j, w.frozen? ⟨b2, j, none⟩ = false
  apart : br ≠ b1 ∧ br ≠ b2 ∧ b1 ≠ b2 ∧ b3 ≠ br ∧ b3 ≠ b1 ∧ b3 ≠ b2
  lo : B ≤ br ∧ B ≤ b1 ∧ B ≤ b2 ∧ B ≤ b3
  hi : br < w.heap.size ∧ b1 < w.heap.size ∧ b2 < w.heap.size ∧ b3 < w.heap.size ∧ B ≤ w.heap.size
theorem NewR.over {B : Nat} {R : List Value} {br b1 b2 b3 : Nat} {fl : List Int} {vn yn : Nat} {w w' : World} (h : NewR B R br b1 b2 b3 fl vn yn w) (hb : Below w.heap.size w w') : NewR B R br b1 b2 b3 fl vn yn w' := by
  obtain ⟨hc, hf⟩ := bcell hb
  have hs := hb.size
  have hi := h.hi
  exact ⟨h.row.over hb, h.vars.over hb, h.taken.over hb, h.first.over hb, fun j => (hf _ _ hi.1).trans (h.z0 j), fun j => (hf _ _ hi.2.1).trans (h.z1 j), fun j => (hf _ _ hi.2.2.1).trans (h.z2 j), h.apart, h.lo, ⟨by omega, by omega, by omega, by omega, by omega⟩⟩
theorem NewR.new (B : Nat) (R : List Value) (w : World) (g : Nat) (fl : List Int) (vn yn : Nat) (hB : B ≤ w.heap.size) (hg : g < w.heap.size) (hgB : B ≤ g) (hr : RowAt (intsV fl) w g) :
    NewR B R w.heap.size (w.heap.size + 1) (w.heap.size + 1 + 1) g fl vn yn (((w.alloc (.cells (.slice none 0 0 :: .slice (some ⟨w.heap.size + 1, 0, none⟩) vn vn :: .slice (some ⟨w.heap.size + 1 + 1, 0, none⟩) yn yn :: .int .i64 0 :: .int .i64 0 :: .int .i64 0 :: (R ++ [.int .i64 0, .nilFunc])).toArray 83)).alloc (.cells (zerosA vn) 3)).alloc (.cells (zerosA yn) 3)) := by
  have b1 := (Below.refl _ w).alloc (Nat.le_refl _) (.cells (.slice none 0 0 :: .slice (some ⟨w.heap.size + 1, 0, none⟩) vn vn :: .slice (some ⟨w.heap.size + 1 + 1, 0, none⟩) yn yn :: .int .i64 0 :: .int .i64 0 :: .int .i64 0 :: (R ++ [.int .i64 0, .nilFunc])).toArray 83)
  have b2 := fun (W : World) (ob : Obj) => (Below.refl _ W).alloc (Nat.le_refl _) ob
  refine ⟨?_, ?_, ?_, ((hr.over b1).over (b2 _ _)).over (b2 _ _), fun j => by simp [go_sem], fun j => by simp [go_sem], fun j => by simp [go_sem], ⟨by omega, by omega, by omega, by omega, by omega, by omega⟩, ⟨hB, by omega, by omega, hgB⟩, ⟨by simp; omega, by simp, by simp, by simp; omega, by simp; omega⟩⟩
  · exact ((RowAt.newA (.slice none 0 0 :: .slice (some ⟨w.heap.size + 1, 0, none⟩) vn vn :: .slice (some ⟨w.heap.size + 1 + 1, 0, none⟩) yn yn :: .int .i64 0 :: .int .i64 0 :: .int .i64 0 :: (R ++ [.int .i64 0, .nilFunc])).toArray 83 w).over (b2 _ (.cells (zerosA vn) 3))).over (b2 _ (.cells (zerosA yn) 3))
  · have := (RowAt.newA (zerosA vn) 3 (w.alloc (.cells (.slice none 0 0 :: .slice (some ⟨w.heap.size + 1, 0, none⟩) vn vn :: .slice (some ⟨w.heap.size + 1 + 1, 0, none⟩) yn yn :: .int .i64 0 :: .int .i64 0 :: .int .i64 0 :: (R ++ [.int .i64 0, .nilFunc])).toArray 83))).over (b2 _ (.cells (zerosA yn) 3))
    simpa [zerosA, intsV] using this
  · have := RowAt.newA (zerosA yn) 3 ((w.alloc (.cells (.slice none 0 0 :: .slice (some ⟨w.heap.size + 1, 0, none⟩) vn vn :: .slice (some ⟨w.heap.size + 1 + 1, 0, none⟩) yn yn :: .int .i64 0 :: .int .i64 0 :: .int .i64 0 :: (R ++ [.int .i64 0, .nilFunc])).toArray 83)).alloc (.cells (zerosA vn) 3))
    simpa [zerosA, intsV] using this
/-- it begins, watched. -/
theorem NewR.begin {B : Nat} {a0 a1 a2 a3 a4 a5 a6 a7 a8 a9 a10 : Value} {br b1 b2 b3 : Nat} {fl : List Int} {vn yn : Nat} {w : World} (h : NewR B [a0, a1, a2, a3, a4, a5, a6, a7, a8, a9, a10] br b1 b2 b3 fl vn yn w) (I : ObsI) (o : WSt) (X : Nat → Prop) (hI : I.In (Yb br b1 b2 (.slice none 0 0)) o X w) (hlo : ∀ k, X k → B ≤ k) (hx3 : ¬ X b3) (hok : I.ok 0 o) :
    RnG I B [a0, a1, a2, a3, a4, a5, a6, a7, a8, a9, a10] br b1 b2 b3 fl 0 (st0 vn yn o) ⟨.slice none 0 0, X⟩ (w.setCell ⟨br, 18, none⟩ (.func (.func I.fn) #[] I.cap.toArray)) ∧ Fr br b1 b2 ⟨.slice none 0 0, X⟩ ⟨.slice none 0 0, X⟩ w (w.setCell ⟨br, 18, none⟩ (.func (.func I.fn) #[] I.cap.toArray)) := by
  obtain ⟨p1, p2, p3, p4, p5, p6⟩ := h.apart
  have g := grow_set1 (w := w) (r := br) (j := 18) (u := .func (.func I.fn) #[] I.cap.toArray)
  have hn : ∀ b, ¬ X b → ¬ (Ow.mk (.slice none 0 0) X).at b := fun b hb hx => by
    rcases hx with hx | hx
    · simp [Value.ownBlock] at hx
    · exact hb hx
  constructor
  · refine ⟨?_, ?_, ?_, h.first.other p4, World.ownsRow_nil _ _ _ _, fun k => frozen_set.trans (h.z0 k), fun k => frozen_set.trans (h.z1 k), fun k => frozen_set.trans (h.z2 k), h.apart, ⟨hn _ (fun q => (I.lt hI _ q).2 (Or.inl rfl)), hn _ (fun q => (I.lt hI _ q).2 (Or.inr (Or.inl rfl))), hn _ (fun q => (I.lt hI _ q).2 (Or.inr (Or.inr (Or.inl rfl)))), hn _ hx3⟩, ⟨h.lo.1, h.lo.2.1, h.lo.2.2.1⟩, by simpa [World.setCell] using h.hi, ?_, hlo, hok⟩
    · have := h.row.set (j := 18) (v := .func (.func I.fn) #[] I.cap.toArray) (by simp)
      simpa [st0] using this
    · have := h.vars.other (j := 18) (v := .func (.func I.fn) #[] I.cap.toArray) (Ne.symm p1)
      simpa [st0] using this
    · have := h.taken.other (j := 18) (v := .func (.func I.fn) #[] I.cap.toArray) (Ne.symm p2)
      simpa [st0] using this
    · exact I.kept hI g.os g.tape g.output g.size (fun k hk hy => g.block k hk (fun q => hy (Or.inl (Option.some.inj q)))) (fun k hk => Or.inl hk)
  · exact ⟨g.os, g.tape, g.output, g.size, fun k hk h0 _ _ _ => g.block k hk (by simpa using h0), fun k hk => Or.inl hk⟩

/-- what New answers. -/
def NewSaid (K kf : Nat) (m : Int) (ga : Option Addr) (gn gc : Nat) (sa : Option Addr) (sn sc : Nat) (ya : Option Addr) (yn yc : Nat) (oa : Option Addr) (on oc : Nat) (va : Option Addr) (vn vc : Nat) (fa : Option Addr) (fn fc : Nat) (ba : Option Addr) (bn bc : Nat) (xa : Option Addr) (xn xc : Nat) (ins : List (List Int)) (fuel : Int) (gs : List (Int × Int)) (sp : List Int) (ls ms : List Lab) (vs : List (Bool × Lab)) (fs : List FnD) (l : List D) (w : World) (e : Ending) (w' : World) : Prop :=
  ∃ why : Int, (why = 0 ↔ okR K kf m vn yn on sn gs sp ls ms vs fs l ins fuel) ∧ Below w.heap.size w w' ∧ ((why ≠ 0 ∧ e = .returned (.tuple #[.pointer none, .int .i64 why])) ∨ (why = 0 ∧ ∃ br b1 b2 b3 c3, e = .returned (.tuple #[.pointer (some ⟨br, 0, none⟩), .int .i64 0]) ∧ NewR w.heap.size [.int .i64 m, .slice ga gn gc, .slice sa sn sc, .slice ya yn yc, .slice oa on oc, .slice va vn vc, .slice fa fn fc, .slice ba bn bc, .slice xa xn xc, .int .i64 fuel, .slice (some ⟨b3, 0, none⟩) (fs.length + 1) c3] br b1 b2 b3 (flOf kf fs fs.length) vn yn w'))

set_option maxHeartbeats 4000000 in
set_option maxRecDepth 100000 in
theorem New_any (K kf : Nat) (m : Int) (ga : Option Addr) (gn gc : Nat) (sa : Option Addr) (sn sc : Nat) (ya : Option Addr) (yn yc : Nat) (oa : Option Addr) (on oc : Nat) (va : Option Addr) (vn vc : Nat) (fa : Option Addr) (fn fc : Nat) (ba : Option Addr) (bn bc : Nat) (xa : Option Addr) (xn xc : Nat) (ins : List (List Int)) (fuel : Int) (gs : List (Int × Int)) (sp : List Int) (ls ms : List Lab) (vs : List (Bool × Lab)) (fs : List FnD) (l : List D) (w : World) (h : ProgAt K kf m ga gn gc sa sn sc ya yn yc oa on oc va vn vc fa fn fc ba bn bc gs sp ls ms vs fs l w) (hx : ListsAt w (.slice xa xn xc) ins) :
    Calls Try.prog 32 #[.agg #[.int .i64 m, .slice ga gn gc, .slice sa sn sc, .slice ya yn yc, .slice oa on oc, .slice va vn vc, .slice fa fn fc, .slice ba bn bc], .slice xa xn xc, .int .i64 fuel] w (NewSaid K kf m ga gn gc sa sn sc ya yn yc oa on oc va vn vc fa fn fc ba bn bc xa xn xc ins fuel gs sp ls ms vs fs l w) := by
  have hbel : Below w.heap.size w (w.alloc (.cells #[.int .i64 m, .slice ga gn gc, .slice sa sn sc, .slice ya yn yc, .slice oa on oc, .slice va vn vc, .slice fa fn fc, .slice ba bn bc] 41)) := (Below.refl _ w).alloc (Nat.le_refl _) _
  have HP := hide (h.over hbel)
  have K1 := hide (runCheck_any K kf m ga gn gc sa sn sc ya yn yc oa on oc va vn vc fa fn fc ba bn bc xa xn xc ins fuel gs sp ls ms vs fs l _ HP.out (hx.over hbel))
  have c0 : (w.alloc (.cells #[.int .i64 m, .slice ga gn gc, .slice sa sn sc, .slice ya yn yc, .slice oa on oc, .slice va vn vc, .slice fa fn fc, .slice ba bn bc] 41)).cell? ⟨w.heap.size, 0, none⟩ = some (.int .i64 m) := by simp [go_sem]
  have c1 : (w.alloc (.cells #[.int .i64 m, .slice ga gn gc, .slice sa sn sc, .slice ya yn yc, .slice oa on oc, .slice va vn vc, .slice fa fn fc, .slice ba bn bc] 41)).cell? ⟨w.heap.size, 1, none⟩ = some (.slice ga gn gc) := by simp [go_sem]
  have c2 : (w.alloc (.cells #[.int .i64 m, .slice ga gn gc, .slice sa sn sc, .slice ya yn yc, .slice oa on oc, .slice va vn vc, .slice fa fn fc, .slice ba bn bc] 41)).cell? ⟨w.heap.size, 2, none⟩ = some (.slice sa sn sc) := by simp [go_sem]
  have c3 : (w.alloc (.cells #[.int .i64 m, .slice ga gn gc, .slice sa sn sc, .slice ya yn yc, .slice oa on oc, .slice va vn vc, .slice fa fn fc, .slice ba bn bc] 41)).cell? ⟨w.heap.size, 3, none⟩ = some (.slice ya yn yc) := by simp [go_sem]
  have c4 : (w.alloc (.cells #[.int .i64 m, .slice ga gn gc, .slice sa sn sc, .slice ya yn yc, .slice oa on oc, .slice va vn vc, .slice fa fn fc, .slice ba bn bc] 41)).cell? ⟨w.heap.size, 4, none⟩ = some (.slice oa on oc) := by simp [go_sem]
  have c5 : (w.alloc (.cells #[.int .i64 m, .slice ga gn gc, .slice sa sn sc, .slice ya yn yc, .slice oa on oc, .slice va vn vc, .slice fa fn fc, .slice ba bn bc] 41)).cell? ⟨w.heap.size, 5, none⟩ = some (.slice va vn vc) := by simp [go_sem]
  have c6 : (w.alloc (.cells #[.int .i64 m, .slice ga gn gc, .slice sa sn sc, .slice ya yn yc, .slice oa on oc, .slice va vn vc, .slice fa fn fc, .slice ba bn bc] 41)).cell? ⟨w.heap.size, 6, none⟩ = some (.slice fa fn fc) := by simp [go_sem]
  have c7 : (w.alloc (.cells #[.int .i64 m, .slice ga gn gc, .slice sa sn sc, .slice ya yn yc, .slice oa on oc, .slice va vn vc, .slice fa fn fc, .slice ba bn bc] 41)).cell? ⟨w.heap.size, 7, none⟩ = some (.slice ba bn bc) := by simp [go_sem]
  have hfl : fn = fs.length := by obtain ⟨-, a, c, he, -⟩ := h.funcs; injection he
  have HFL := hide hfl
  clear h hx hfl
  go_enter Try.func32, Try.ntmps32
  go_wp2_with fail
  refine (K1.out).mono ?_
  rintro e w1 ⟨why, rfl, hok, hb1⟩
  have d0 := cell_over hb1 _ _ c0
  have d1 := cell_over hb1 _ _ c1
  have d2 := cell_over hb1 _ _ c2
  have d3 := cell_over hb1 _ _ c3
  have d4 := cell_over hb1 _ _ c4
  have d5 := cell_over hb1 _ _ c5
  have d6 := cell_over hb1 _ _ c6
  have d7 := cell_over hb1 _ _ c7
  have HP1 := hide (HP.out.over hb1)
  have hB1 := hbel.trans (hb1.mono hbel.size)
  have HB1 := hide hB1
  have HOK := hide hok
  clear K1 c0 c1 c2 c3 c4 c5 c6 c7 hb1 HP hok hbel
  by_cases hw : why = 0
  rotate_left
  · have hwb : (why == 0) = false := by simpa using hw
    clear hB1
    go_wp2_with fail
    go_ret2
    exact ⟨why, HOK.out, HB1.out, Or.inl ⟨hw, rfl⟩⟩
  subst hw
  have hok := HOK.out.1 rfl
  have hpk := hok.prog.ok
  have hcnt := hpk.many
  have hv16 := hpk.vars
  have hy5 := hpk.ins
  have KF := hide (firsts_any K kf m ga gn gc sa sn sc ya yn yc oa on oc va vn vc fa fn fc ba bn bc fs w1.drew (HP1.out.funcs.over (below_drewN (Below.refl _ _) 1)) (by omega) (by rw [HFL.out]; exact hpk.funcs))
  have mk1 := makeI vn (by omega)
  have mk2 := makeI yn (by omega)
  have hbel1 := hB1.drew
  clear hok hpk hcnt hv16 hy5 hB1
  go_wp2_with fail
  go_region_held3 (fun W => W.cell? ⟨w.heap.size, 0, none⟩ = some (.int .i64 m) ∧ W.cell? ⟨w.heap.size, 1, none⟩ = some (.slice ga gn gc) ∧ W.cell? ⟨w.heap.size, 2, none⟩ = some (.slice sa sn sc) ∧ W.cell? ⟨w.heap.size, 3, none⟩ = some (.slice ya yn yc) ∧ W.cell? ⟨w.heap.size, 4, none⟩ = some (.slice oa on oc) ∧ W.cell? ⟨w.heap.size, 5, none⟩ = some (.slice va vn vc) ∧ W.cell? ⟨w.heap.size, 6, none⟩ = some (.slice fa fn fc) ∧ W.cell? ⟨w.heap.size, 7, none⟩ = some (.slice ba bn bc) ∧ Below w.heap.size w W) (first | assumption | exact ⟨d0, d1, d2, d3, d4, d5, d6, d7, hbel1⟩ | exact held8b (by assumption) hbp | exact held8b (by assumption) ((Below.refl _ _).alloc (Nat.le_refl _) _) | fail) (first | (go_at_call 69; refine (KF.out).mono ?_; rintro e wp ⟨g, cap, rfl, hg, hgl, hgc, hbp⟩))
  have e3 := cell_over hbp _ _ d3
  have e5 := cell_over hbp _ _ d5
  have hlt := World.block_lt_of_cell? wp _ e3
  have hne : w.heap.size ≠ wp.heap.size := Nat.ne_of_lt hlt
  have hBp := hbel1.trans (hbp.mono hbel1.size)
  have HR := hide (NewR.new w.heap.size [.int .i64 m, .slice ga gn gc, .slice sa sn sc, .slice ya yn yc, .slice oa on oc, .slice va vn vc, .slice fa fn fc, .slice ba bn bc, .slice xa xn xc, .int .i64 fuel, .slice (some ⟨g, 0, none⟩) (fs.length + 1) cap] wp g (flOf kf fs fs.length) vn yn hBp.size hgl (Nat.le_trans hbel1.size hg) hgc)
  have HBP := hide hBp
  clear d0 d1 d2 d3 d4 d5 d6 d7 hbp hbel1 hgc hBp KF
  go_wp2_with fail
  go_ret2
  have hs := HBP.out.size
  refine ⟨0, by simpa using HOK.out, ?_, Or.inr ⟨rfl, wp.heap.size, wp.heap.size + 1, wp.heap.size + 1 + 1, g, cap, rfl, ?_⟩⟩
  · exact (((HBP.out).alloc (by omega) _).alloc (by simp; omega) _).alloc (by simp; omega) _
  · exact HR.out
/-- when all was done. -/
def finX (r : Bool × RSt) : RSt := if r.1 = true then { r.2 with en := 1 } else r.2
def runX (K kf : Nat) (fs : List FnD) (F : Nat) (ins : List (List Int)) (ob : Ob) (l : List D) (vn yn : Nat) (o : WSt) : RSt := finX (rn K kf fs F ins ob 6001 0 kf l (cntF kf fs : Nat) 0 (st0 vn yn o))

theorem flOf_at (kf : Nat) (fs : List FnD) : (flOf kf fs fs.length)[fs.length]? = some ((cntF kf fs : Nat) : Int) := by
  rw [flOf_last, List.take_length]

set_option maxHeartbeats 4000000 in
set_option maxRecDepth 100000 in
theorem doR (I : ObsI) (K kf : Nat) (m : Int) (ga : Option Addr) (gn gc : Nat) (sa : Option Addr) (sn sc : Nat) (ya : Option Addr) (yn yc : Nat) (oa : Option Addr) (on oc : Nat) (va : Option Addr) (vn vc : Nat) (fa : Option Addr) (fn fc : Nat) (ba : Option Addr) (bn bc : Nat) (xa : Option Addr) (xn xc : Nat) (F fln c3 : Nat) (br b1 b2 b3 : Nat) (fl : List Int) (fs : List FnD) (ins : List (List Int)) (l : List D) (o : WSt) (X0 : Nat → Prop) (w0 w : World) (X : CtxR I K kf m ga gn gc sa sn sc ya yn yc oa on oc va vn vc fa fn fc ba bn bc xa xn xc F fln c3 br b1 b2 b3 fl fs ins w0) (hl : StmtsAt w0 K kf (.slice ba bn bc) l) (hok : ∀ s ∈ l, okS K vn yn on (fs.length : Int) fs kf s) (hcn : cntF kf fs + cnts kf l ≤ 50)
    (h : NewR w0.heap.size [.int .i64 m, .slice ga gn gc, .slice sa sn sc, .slice ya yn yc, .slice oa on oc, .slice va vn vc, .slice fa fn fc, .slice ba bn bc, .slice xa xn xc, .int .i64 (F : Int), .slice (some ⟨b3, 0, none⟩) fln c3] br b1 b2 b3 fl vn yn w) (hB0 : Below w0.heap.size w0 w) (hI : I.In (Yb br b1 b2 (.slice none 0 0)) o X0 w) (hlo : ∀ k, X0 k → w0.heap.size ≤ k) (hx3 : ¬ X0 b3) (hok0 : I.ok 0 o) :
    Calls Try.prog 33 #[.pointer (some ⟨br, 0, none⟩), .func (.func I.fn) #[] I.cap.toArray] w fun e w' => e = .returned (.tuple #[]) ∧ ∃ ev, RnG I w0.heap.size [.int .i64 m, .slice ga gn gc, .slice sa sn sc, .slice ya yn yc, .slice oa on oc, .slice va vn vc, .slice fa fn fc, .slice ba bn bc, .slice xa xn xc, .int .i64 (F : Int), .slice (some ⟨b3, 0, none⟩) fln c3] br b1 b2 b3 fl 0 (runX K kf fs F ins I.ob l vn yn o) ev w' ∧ Fr br b1 b2 ⟨.slice none 0 0, X0⟩ ev w w' ∧ NumOk vn yn F (runX K kf fs F ins I.ob l vn yn o) := by
  obtain ⟨h2, hf2⟩ := h.begin I o X0 hI hlo hx3 hok0
  have hF := X.fuel
  have hB2 : Below w0.heap.size w0 (w.setCell ⟨br, 18, none⟩ (.func (.func I.fn) #[] I.cap.toArray)) := hB0.trans ⟨hf2.os, hf2.tape, hf2.output, hf2.size, fun k hk => hf2.block k (Nat.lt_of_lt_of_le hk hB0.size) (by have := h.lo; omega) (by have := h.lo; omega) (by have := h.lo; omega) (fun hx => by have := (h2.ev' k hx).1; omega)⟩
  have hfl : fl = flOf kf fs fs.length := X.flE
  have hat : fl[fs.length]? = some ((cntF kf fs : Nat) : Int) := by rw [hfl]; exact flOf_at kf fs
  have KS := hide (stmts_all I K kf m ga gn gc sa sn sc ya yn yc oa on oc va vn vc fa fn fc ba bn bc xa xn xc F fln c3 br b1 b2 b3 fl fs ins w0 X 6001 kf _ l (fs.length : Int) (cntF kf fs : Nat) 0 (st0 vn yn o) _ (w.setCell ⟨br, 18, none⟩ (.func (.func I.fn) #[] I.cap.toArray)).drew hl (Int.le_refl _) hok (by omega) (by omega) (by omega) hB2.drew (h2.drewN 1) (st0_ok vn yn F o) (by show 3 * (F - 0) + 1 ≤ 6001; omega))
  have c18 := h.row 18 _ rfl
  have z18 := h.z0 18
  have l0 := h.hi.1
  have a12 := h2.row 12 _ rfl
  have a13 := h2.row 13 _ rfl
  have a16 := h2.row 16 _ rfl
  have ab3 : (w.setCell ⟨br, 18, none⟩ (.func (.func I.fn) #[] I.cap.toArray)).cell? ⟨b3, fs.length, none⟩ = some (.int .i64 ((cntF kf fs : Nat) : Int)) := h2.first fs.length _ (by simp [hat])
  have hfn := X.fnE
  subst hfn
  have hfln := X.flN
  have hfi : (fs.length : Int) < (fln : Int) := by omega
  have HF0 := hide hf2
  have hrun : runX K kf fs F ins I.ob l vn yn o = finX (rn K kf fs F ins I.ob 6001 0 kf l (cntF kf fs : Nat) 0 (st0 vn yn o)) := rfl
  rw [hrun]
  obtain ⟨T, hT⟩ : ∃ T, T = rn K kf fs F ins I.ob 6001 0 kf l (cntF kf fs : Nat) 0 (st0 vn yn o) := ⟨_, rfl⟩
  rw [← hT] at KS ⊢
  have HK : Hid (∀ W st ev, RnG I w0.heap.size [.int .i64 m, .slice ga gn gc, .slice sa sn sc, .slice ya yn yc, .slice oa on oc, .slice va vn vc, .slice fa fs.length fc, .slice ba bn bc, .slice xa xn xc, .int .i64 (F : Int), .slice (some ⟨b3, 0, none⟩) fln c3] br b1 b2 b3 fl 0 st ev W → (W.cell? ⟨br, 12, none⟩ = some (.slice fa fs.length fc) ∧ W.cell? ⟨br, 13, none⟩ = some (.slice ba bn bc) ∧ W.cell? ⟨br, 16, none⟩ = some (.slice (some ⟨b3, 0, none⟩) fln c3) ∧ W.cell? ⟨b3, fs.length, none⟩ = some (.int .i64 ((cntF kf fs : Nat) : Int)))) := fun W st ev hr => ⟨hr.row 12 _ rfl, hr.row 13 _ rfl, hr.row 16 _ rfl, hr.first fs.length _ (by simp [hat])⟩
  obtain ⟨C, hC⟩ : ∃ C : Int, C = ((cntF kf fs : Nat) : Int) := ⟨_, rfl⟩
  rw [← hC] at KS HK ab3
  obtain ⟨fnn, hfnn⟩ : ∃ q, q = fs.length := ⟨_, rfl⟩
  rw [← hfnn] at KS HK ab3 a12 hfi ⊢
  clear h2 hf2 hB2 hfl hat hT hC hl hok hcn hfln X h hfnn hrun hI hlo hx3 hok0
  obtain ⟨tb, ts⟩ := T
  cases tb with
  | false =>
    go_enter Try.func33, Try.ntmps33
    go_wp2_with fail
    go_region_held3 (fun W => W.cell? ⟨br, 12, none⟩ = some (.slice fa fnn fc) ∧ W.cell? ⟨br, 13, none⟩ = some (.slice ba bn bc) ∧ W.cell? ⟨br, 16, none⟩ = some (.slice (some ⟨b3, 0, none⟩) fln c3) ∧ W.cell? ⟨b3, fnn, none⟩ = some (.int .i64 C)) (first | assumption | exact ⟨a12, a13, a16, ab3⟩ | exact HK.out _ _ _ hr2 | fail) (first | (go_at_call 70; refine (KS.out).mono ?_; rintro e wp ⟨he, ⟨ev2, hr2, hf2⟩, hno2⟩; dsimp only at he; subst he))
    have hr2' : RnG I w0.heap.size [.int .i64 m, .slice ga gn gc, .slice sa sn sc, .slice ya yn yc, .slice oa on oc, .slice va vn vc, .slice fa fnn fc, .slice ba bn bc, .slice xa xn xc, .int .i64 (F : Int), .slice (some ⟨b3, 0, none⟩) fln c3] br b1 b2 b3 fl 0 ts ev2 wp := hr2
    have d4 := hr2'.row 4 _ rfl
    have y4 := hr2'.z0 4
    have y0 := hr2'.hi.1
    have HN := hide (show NumOk vn yn F ts from hno2)
    have HF2 := hide ((HF0.out.over (below_drewN (Below.refl _ _) 1)).trans hf2)
    have HR2 := hide hr2'
    clear hr2 hr2' hf2 hno2 KS HK a12 a13 a16 ab3
    go_wp2_with fail
    go_end0
    exact ⟨rfl, ev2, HR2.out, HF2.out, HN.out⟩
  | true =>
    go_enter Try.func33, Try.ntmps33
    go_wp2_with fail
    go_region_held3 (fun W => W.cell? ⟨br, 12, none⟩ = some (.slice fa fnn fc) ∧ W.cell? ⟨br, 13, none⟩ = some (.slice ba bn bc) ∧ W.cell? ⟨br, 16, none⟩ = some (.slice (some ⟨b3, 0, none⟩) fln c3) ∧ W.cell? ⟨b3, fnn, none⟩ = some (.int .i64 C)) (first | assumption | exact ⟨a12, a13, a16, ab3⟩ | exact HK.out _ _ _ hr2 | fail) (first | (go_at_call 70; refine (KS.out).mono ?_; rintro e wp ⟨he, ⟨ev2, hr2, hf2⟩, hno2⟩; dsimp only at he; subst he))
    have hr2' : RnG I w0.heap.size [.int .i64 m, .slice ga gn gc, .slice sa sn sc, .slice ya yn yc, .slice oa on oc, .slice va vn vc, .slice fa fnn fc, .slice ba bn bc, .slice xa xn xc, .int .i64 (F : Int), .slice (some ⟨b3, 0, none⟩) fln c3] br b1 b2 b3 fl 0 ts ev2 wp := hr2
    have d4 := hr2'.row 4 _ rfl
    have y4 := hr2'.z0 4
    have y0 := hr2'.hi.1
    have HN := hide (show NumOk vn yn F ts from hno2)
    have HF2 := hide ((HF0.out.over (below_drewN (Below.refl _ _) 1)).trans hf2)
    have HR2 := hide hr2'
    clear hr2 hr2' hf2 hno2 KS HK a12 a13 a16 ab3
    go_wp2_with fail
    go_end0
    exact ⟨rfl, ev2, HR2.out.setEnd 1, HF2.out.trans (fr_set0 HR2.out _ _), ⟨HN.out.vl, HN.out.tl, HN.out.i32, HN.out.tk, HN.out.el, HN.out.sb⟩⟩
/-- nobody watches. -/
def obRun : ObsI where
  fn := 34
  cap := []
  ent := fun args w => by simp [go_sem]
  ob := obAll
  In := fun _ _ X _ => ∀ k, ¬ X k
  ok := fun _ _ => True
  lt := fun h k hk => absurd hk (h k)
  kept := fun h _ _ _ _ _ _ => h
  less := fun _ => trivial
set_option maxHeartbeats 1000000 in
theorem obRun_ok (w0 : World) (K nv ni no : Nat) (fs : List FnD) : MayOk obRun w0 K nv ni no fs := by
  intro Y s X W kind a dp k cs d funcs hI hB hrs hf ho ha0 ha1 hdp hok hk
  obtain ⟨k', rfl⟩ : ∃ k', k = k' + 1 := by
    cases k with
    | zero => exact hrs.elim
    | succ k => exact ⟨k, rfl⟩
  obtain ⟨ek, ex, pa, pl, pc, aa, ac, ta, tc, ea, ec, rfl, -, -, -, -, -, -, -, -, -, -⟩ := hrs.form
  show Calls Try.prog 34 #[.agg #[.int .i64 kind, .int .i64 a, .int .i64 dp, .int .i64 (sKind d), .int .i64 (sVar d), .int .i64 (sOther d), .int .i64 ek, .int .i64 ex, .slice pa pl pc, .slice aa (sArgs d).length ac, .slice ta (sThen d).length tc, .slice ea (sElse d).length ec]] W fun e W' => e = .returned (.bool true) ∧ ∃ X' : Nat → Prop, (∀ k, ¬ X' k) ∧ (∀ k, X' k → X k ∨ W.heap.size ≤ k) ∧ FrX X W W' ∧ True ∧ (true = true → (kind = 1 ∧ (sKind d = 7 ∨ sKind d = 8)) ∨ kind = 2 → True)
  have hI' : ∀ k, ¬ X k := hI
  have HI := hide hI'
  clear hI hI' hrs ho hok hk hB
  go_enter Try.func34, Try.ntmps34
  go_wp2_with fail
  go_ret
  exact ⟨rfl, X, HI.out, fun k hk => Or.inl hk, ⟨rfl, rfl, rfl, by simp, fun k hk _ => heap_alloc_old W _ hk⟩, trivial, fun _ _ => trivial⟩

/-- a run as a value. -/
abbrev runV (ev : Value) (b1 b2 vn yn : Nat) (r : RSt) : Value := .agg #[ev, .slice (some ⟨b1, 0, none⟩) vn vn, .slice (some ⟨b2, 0, none⟩) yn yn, .int .i64 (r.steps : Int), .int .i64 r.en, .int .i64 r.sp]
/-- a run in memory. -/
structure RunAt (B : Nat) (vn yn F : Nat) (r : RSt) (ev : Value) (b1 b2 : Nat) (w : World) : Prop where
  own : w.ownsRow B 71 4 ev r.ev.length (evCells r.ev)
  vars : RowAt (intsV r.vars) w b1
  taken : RowAt (intsV r.taken) w b2
  num : NumOk vn yn F r
theorem RunAt.over {B vn yn F : Nat} {r : RSt} {ev : Value} {b1 b2 : Nat} {w w' : World} (h : RunAt B vn yn F r ev b1 b2 w) (hb : Below w.heap.size w w') : RunAt B vn yn F r ev b1 b2 w' :=
  ⟨own_overG h.own hb, h.vars.over hb, h.taken.over hb, h.num⟩
theorem RunAt.other {B vn yn F : Nat} {r : RSt} {ev : Value} {b1 b2 : Nat} {w : World} (h : RunAt B vn yn F r ev b1 b2 w) {b : Nat} (h1 : b1 ≠ b) (h2 : b2 ≠ b) (h3 : ev.ownBlock ≠ some b) (j : Nat) (v : Value) : RunAt B vn yn F r ev b1 b2 (w.setCell ⟨b, j, none⟩ v) :=
  ⟨h.own.kept grow_set1 (Or.inr h3), h.vars.other h1, h.taken.other h2, h.num⟩
def o0 : WSt := ⟨[], []⟩
/-- what run.Run answers. -/
def RunSaid (K kf : Nat) (m : Int) (vn yn on sn : Nat) (gs : List (Int × Int)) (sp : List Int) (ls ms : List Lab) (vs : List (Bool × Lab)) (fs : List FnD) (l : List D) (ins : List (List Int)) (fuel : Int) (w : World) (e : Ending) (w' : World) : Prop :=
  ∃ why : Int, (why = 0 ↔ okR K kf m vn yn on sn gs sp ls ms vs fs l ins fuel) ∧ Below w.heap.size w w' ∧ ((why ≠ 0 ∧ e = .returned (.tuple #[.agg #[.slice none 0 0, .slice none 0 0, .slice none 0 0, .int .i64 0, .int .i64 0, .int .i64 0], .int .i64 why])) ∨
   (why = 0 ∧ ∃ ev b1 b2, e = .returned (.tuple #[runV ev b1 b2 vn yn (runX K kf fs fuel.toNat ins obAll l vn yn o0), .int .i64 0]) ∧ RunAt w.heap.size vn yn fuel.toNat (runX K kf fs fuel.toNat ins obAll l vn yn o0) ev b1 b2 w'))

set_option maxHeartbeats 4000000 in
set_option maxRecDepth 100000 in
theorem Run_any (K kf : Nat) (m : Int) (ga : Option Addr) (gn gc : Nat) (sa : Option Addr) (sn sc : Nat) (ya : Option Addr) (yn yc : Nat) (oa : Option Addr) (on oc : Nat) (va : Option Addr) (vn vc : Nat) (fa : Option Addr) (fn fc : Nat) (ba : Option Addr) (bn bc : Nat) (xa : Option Addr) (xn xc : Nat) (ins : List (List Int)) (fuel : Int) (gs : List (Int × Int)) (sp : List Int) (ls ms : List Lab) (vs : List (Bool × Lab)) (fs : List FnD) (l : List D) (w : World) (h : ProgAt K kf m ga gn gc sa sn sc ya yn yc oa on oc va vn vc fa fn fc ba bn bc gs sp ls ms vs fs l w) (hx : ListsAt w (.slice xa xn xc) ins) :
    Calls Try.prog 12 #[.agg #[.int .i64 m, .slice ga gn gc, .slice sa sn sc, .slice ya yn yc, .slice oa on oc, .slice va vn vc, .slice fa fn fc, .slice ba bn bc], .slice xa xn xc, .int .i64 fuel] w (RunSaid K kf m vn yn on sn gs sp ls ms vs fs l ins fuel w) := by
  have hbel : Below w.heap.size w ((w.alloc (.cells #[.int .i64 m, .slice ga gn gc, .slice sa sn sc, .slice ya yn yc, .slice oa on oc, .slice va vn vc, .slice fa fn fc, .slice ba bn bc] 41)).alloc (.cells #[.slice none 0 0, .slice none 0 0, .slice none 0 0, .int .i64 0, .int .i64 0, .int .i64 0] 45)) := ((Below.refl _ w).alloc (Nat.le_refl _) _).alloc (by simp) _
  have HP := hide (h.over hbel)
  have HX := hide (hx.over hbel)
  have K1 := hide (New_any K kf m ga gn gc sa sn sc ya yn yc oa on oc va vn vc fa fn fc ba bn bc xa xn xc ins fuel gs sp ls ms vs fs l _ HP.out HX.out)
  have c0 : ((w.alloc (.cells #[.int .i64 m, .slice ga gn gc, .slice sa sn sc, .slice ya yn yc, .slice oa on oc, .slice va vn vc, .slice fa fn fc, .slice ba bn bc] 41)).alloc (.cells #[.slice none 0 0, .slice none 0 0, .slice none 0 0, .int .i64 0, .int .i64 0, .int .i64 0] 45)).cell? ⟨w.heap.size, 0, none⟩ = some (.int .i64 m) := by simp [go_sem]
  have c1 : ((w.alloc (.cells #[.int .i64 m, .slice ga gn gc, .slice sa sn sc, .slice ya yn yc, .slice oa on oc, .slice va vn vc, .slice fa fn fc, .slice ba bn bc] 41)).alloc (.cells #[.slice none 0 0, .slice none 0 0, .slice none 0 0, .int .i64 0, .int .i64 0, .int .i64 0] 45)).cell? ⟨w.heap.size, 1, none⟩ = some (.slice ga gn gc) := by simp [go_sem]
  have c2 : ((w.alloc (.cells #[.int .i64 m, .slice ga gn gc, .slice sa sn sc, .slice ya yn yc, .slice oa on oc, .slice va vn vc, .slice fa fn fc, .slice ba bn bc] 41)).alloc (.cells #[.slice none 0 0, .slice none 0 0, .slice none 0 0, .int .i64 0, .int .i64 0, .int .i64 0] 45)).cell? ⟨w.heap.size, 2, none⟩ = some (.slice sa sn sc) := by simp [go_sem]
  have c3 : ((w.alloc (.cells #[.int .i64 m, .slice ga gn gc, .slice sa sn sc, .slice ya yn yc, .slice oa on oc, .slice va vn vc, .slice fa fn fc, .slice ba bn bc] 41)).alloc (.cells #[.slice none 0 0, .slice none 0 0, .slice none 0 0, .int .i64 0, .int .i64 0, .int .i64 0] 45)).cell? ⟨w.heap.size, 3, none⟩ = some (.slice ya yn yc) := by simp [go_sem]
  have c4 : ((w.alloc (.cells #[.int .i64 m, .slice ga gn gc, .slice sa sn sc, .slice ya yn yc, .slice oa on oc, .slice va vn vc, .slice fa fn fc, .slice ba bn bc] 41)).alloc (.cells #[.slice none 0 0, .slice none 0 0, .slice none 0 0, .int .i64 0, .int .i64 0, .int .i64 0] 45)).cell? ⟨w.heap.size, 4, none⟩ = some (.slice oa on oc) := by simp [go_sem]
  have c5 : ((w.alloc (.cells #[.int .i64 m, .slice ga gn gc, .slice sa sn sc, .slice ya yn yc, .slice oa on oc, .slice va vn vc, .slice fa fn fc, .slice ba bn bc] 41)).alloc (.cells #[.slice none 0 0, .slice none 0 0, .slice none 0 0, .int .i64 0, .int .i64 0, .int .i64 0] 45)).cell? ⟨w.heap.size, 5, none⟩ = some (.slice va vn vc) := by simp [go_sem]
  have c6 : ((w.alloc (.cells #[.int .i64 m, .slice ga gn gc, .slice sa sn sc, .slice ya yn yc, .slice oa on oc, .slice va vn vc, .slice fa fn fc, .slice ba bn bc] 41)).alloc (.cells #[.slice none 0 0, .slice none 0 0, .slice none 0 0, .int .i64 0, .int .i64 0, .int .i64 0] 45)).cell? ⟨w.heap.size, 6, none⟩ = some (.slice fa fn fc) := by simp [go_sem]
  have c7 : ((w.alloc (.cells #[.int .i64 m, .slice ga gn gc, .slice sa sn sc, .slice ya yn yc, .slice oa on oc, .slice va vn vc, .slice fa fn fc, .slice ba bn bc] 41)).alloc (.cells #[.slice none 0 0, .slice none 0 0, .slice none 0 0, .int .i64 0, .int .i64 0, .int .i64 0] 45)).cell? ⟨w.heap.size, 7, none⟩ = some (.slice ba bn bc) := by simp [go_sem]
  have HO0 : Hid (RowAt [.slice none 0 0, .slice none 0 0, .slice none 0 0, .int .i64 0, .int .i64 0, .int .i64 0] ((w.alloc (.cells #[.int .i64 m, .slice ga gn gc, .slice sa sn sc, .slice ya yn yc, .slice oa on oc, .slice va vn vc, .slice fa fn fc, .slice ba bn bc] 41)).alloc (.cells #[.slice none 0 0, .slice none 0 0, .slice none 0 0, .int .i64 0, .int .i64 0, .int .i64 0] 45)) (w.heap.size + 1) ∧ ∀ j, ((w.alloc (.cells #[.int .i64 m, .slice ga gn gc, .slice sa sn sc, .slice ya yn yc, .slice oa on oc, .slice va vn vc, .slice fa fn fc, .slice ba bn bc] 41)).alloc (.cells #[.slice none 0 0, .slice none 0 0, .slice none 0 0, .int .i64 0, .int .i64 0, .int .i64 0] 45)).frozen? ⟨w.heap.size + 1, j, none⟩ = false) := by
    refine ⟨?_, fun j => by simp [go_sem]⟩
    have := RowAt.newA #[.slice none 0 0, .slice none 0 0, .slice none 0 0, .int .i64 0, .int .i64 0, .int .i64 0] 45 (w.alloc (.cells #[.int .i64 m, .slice ga gn gc, .slice sa sn sc, .slice ya yn yc, .slice oa on oc, .slice va vn vc, .slice fa fn fc, .slice ba bn bc] 41))
    simpa using this
  have hfl : fn = fs.length := by obtain ⟨-, a, c, he, -⟩ := h.funcs; injection he
  have HFL := hide hfl
  have hszA : ((w.alloc (.cells #[.int .i64 m, .slice ga gn gc, .slice sa sn sc, .slice ya yn yc, .slice oa on oc, .slice va vn vc, .slice fa fn fc, .slice ba bn bc] 41)).alloc (.cells #[.slice none 0 0, .slice none 0 0, .slice none 0 0, .int .i64 0, .int .i64 0, .int .i64 0] 45)).heap.size = w.heap.size + 2 := by simp
  clear h hx hfl
  go_enter Try.func12, Try.ntmps12
  go_wp2_with fail
  refine (K1.out).mono ?_
  obtain ⟨WA, hWA⟩ : ∃ q, q = ((w.alloc (.cells #[.int .i64 m, .slice ga gn gc, .slice sa sn sc, .slice ya yn yc, .slice oa on oc, .slice va vn vc, .slice fa fn fc, .slice ba bn bc] 41)).alloc (.cells #[.slice none 0 0, .slice none 0 0, .slice none 0 0, .int .i64 0, .int .i64 0, .int .i64 0] 45)) := ⟨_, rfl⟩
  rw [← hWA] at HP HX HO0 hbel hszA ⊢
  rintro e w1 ⟨why, hok, hb1, hnew⟩
  have hB1 := hbel.trans (hb1.mono hbel.size)
  have HO := hide (And.intro (HO0.out.1.over hb1) (fun j => ((bcell hb1).2 (w.heap.size + 1) j (by rw [hszA]; omega)).trans (HO0.out.2 j)))
  have hl1 : w.heap.size + 1 < w1.heap.size := by have := hb1.size; omega
  have HOK := hide hok
  have HB1 := hide hB1
  have HB01 := hide hb1
  have HSZ := hide hszA
  have HBW := hide hbel
  clear K1 c0 c1 c2 c3 c4 c5 c6 c7 hb1 hok hbel hWA hszA hB1 HO0
  rcases hnew with ⟨hw, rfl⟩ | ⟨rfl, br, b1, b2, b3, c3, rfl, hr2⟩
  · have hwb : (why == 0) = false := by simpa using hw
    have o0 := HO.out.1 0 _ rfl
    have y0 := HO.out.2 0
    have o1 := HO.out.1 1 _ rfl
    have y1 := HO.out.2 1
    have o2 := HO.out.1 2 _ rfl
    have y2 := HO.out.2 2
    have o3 := HO.out.1 3 _ rfl
    have y3 := HO.out.2 3
    have o4 := HO.out.1 4 _ rfl
    have y4 := HO.out.2 4
    have o5 := HO.out.1 5 _ rfl
    have y5 := HO.out.2 5
    go_wp2_with fail
    have hF := ((((((HO.out.1.set (j := 0) (v := .slice none 0 0) (by simp)).set (j := 1) (v := .slice none 0 0) (by simp)).set (j := 2) (v := .slice none 0 0) (by simp)).set (j := 3) (v := .int .i64 0) (by simp)).set (j := 4) (v := .int .i64 0) (by simp)).set (j := 5) (v := .int .i64 0) (by simp))
    have e0 := hF 0 _ rfl
    have e1 := hF 1 _ rfl
    have e2 := hF 2 _ rfl
    have e3 := hF 3 _ rfl
    have e4 := hF 4 _ rfl
    have e5 := hF 5 _ rfl
    have hBf : Below w.heap.size w ((((((w1.setCell ⟨w.heap.size + 1, 0, none⟩ (.slice none 0 0)).setCell ⟨w.heap.size + 1, 1, none⟩ (.slice none 0 0)).setCell ⟨w.heap.size + 1, 2, none⟩ (.slice none 0 0)).setCell ⟨w.heap.size + 1, 3, none⟩ (.int .i64 0)).setCell ⟨w.heap.size + 1, 4, none⟩ (.int .i64 0)).setCell ⟨w.heap.size + 1, 5, none⟩ (.int .i64 0)) := ((((((((((((HB1.out).setCell (by simp) _)).setCell (by simp) _)).setCell (by simp) _)).setCell (by simp) _)).setCell (by simp) _)).setCell (by simp) _)
    refine bodyPost_ret (v := .tuple #[.agg #[.slice none 0 0, .slice none 0 0, .slice none 0 0, .int .i64 0, .int .i64 0, .int .i64 0], .int .i64 why]) ?_ rfl ⟨why, HOK.out, hBf, Or.inl ⟨hw, rfl⟩⟩
    generalize ((((((w1.setCell ⟨w.heap.size + 1, 0, none⟩ (.slice none 0 0)).setCell ⟨w.heap.size + 1, 1, none⟩ (.slice none 0 0)).setCell ⟨w.heap.size + 1, 2, none⟩ (.slice none 0 0)).setCell ⟨w.heap.size + 1, 3, none⟩ (.int .i64 0)).setCell ⟨w.heap.size + 1, 4, none⟩ (.int .i64 0)).setCell ⟨w.heap.size + 1, 5, none⟩ (.int .i64 0)) = WF at e0 e1 e2 e3 e4 e5 ⊢
    simp [results, Try.results12, go_sem, e0, e1, e2, e3, e4, e5]
  have hok := HOK.out.1 rfl
  have hpk := hok.prog.ok
  obtain ⟨F, hF⟩ := Int.eq_ofNat_of_zero_le hok.f0
  subst hF
  have hf1 := hok.f1
  have hX : CtxR obRun K kf m ga gn gc sa sn sc ya yn yc oa on oc va vn vc fa fn fc ba bn bc xa xn xc F (fs.length + 1) c3 br b1 b2 b3 (flOf kf fs fs.length) fs ins WA :=
    ⟨HP.out.funcs, HX.out, hok.many, hok.long, hok.num, by omega, hpk.vars, HFL.out, hpk.funcs, rfl, rfl, by have := hpk.many; omega, obRun_ok WA K vn yn on fs, hpk.body⟩
  have hx0 : obRun.In (Yb br b1 b2 (.slice none 0 0)) o0 (fun _ => False) w1 := fun k hk => hk
  have KR := hide (doR obRun K kf m ga gn gc sa sn sc ya yn yc oa on oc va vn vc fa fn fc ba bn bc xa xn xc F (fs.length + 1) c3 br b1 b2 b3 (flOf kf fs fs.length) fs ins l o0 (fun _ => False) WA w1 hX HP.out.main hpk.main hpk.many hr2 HB01.out hx0 (fun k hk => hk.elim) (fun hk => hk) trivial)
  have hKR : obRun.ob = obAll := rfl
  rw [hKR] at KR
  obtain ⟨T, hT⟩ : ∃ T, T = runX K kf fs F ins obAll l vn yn o0 := ⟨_, rfl⟩
  rw [← hT] at KR
  have HT := hide hT
  have HR2 := hide hr2
  clear hT hok hpk hX hr2 hx0 hKR HP HX
  change Hid (Calls Try.prog 33 #[.pointer (some ⟨br, 0, none⟩), .func (.func 34) #[] #[]] w1 _) at KR
  go_wp2_with fail
  refine (KR.out).mono ?_
  rintro e w3 ⟨rfl, ev, hr3, hf3, hno3⟩
  have hb13 : Below WA.heap.size w1 w3 := ⟨hf3.os, hf3.tape, hf3.output, hf3.size, fun k hk => hf3.block k (by have := HB01.out.size; omega) (by have := HR2.out.lo; omega) (by have := HR2.out.lo; omega) (by have := HR2.out.lo; omega) (fun hx => by rcases hx with hx | hx; simp [Value.ownBlock] at hx; exact hx)⟩
  have hB3 : Below w.heap.size w w3 := HB1.out.trans (hb13.mono HBW.out.size)
  have x0 := hr3.row 0 _ rfl
  have x1 := hr3.row 1 _ rfl
  have x2 := hr3.row 2 _ rfl
  have x3 := hr3.row 3 _ rfl
  have x4 := hr3.row 4 _ rfl
  have x5 := hr3.row 5 _ rfl
  rw [hno3.vl] at x1
  rw [hno3.tl] at x2
  have hla := hr3.hi.1
  have HF : Hid (RunAt w.heap.size vn yn F T ev.ev b1 b2 w3) := ⟨own_base hr3.own HBW.out.size, hr3.vars, hr3.taken, hno3⟩
  obtain ⟨stp, hsp⟩ : ∃ q, q = (T.steps : Int) := ⟨_, rfl⟩
  obtain ⟨en, hen⟩ : ∃ q, q = T.en := ⟨_, rfl⟩
  obtain ⟨tsp, htsp⟩ : ∃ q, q = T.sp := ⟨_, rfl⟩
  rw [← hsp] at x3
  rw [← hen] at x4
  rw [← htsp] at x5
  have HSP := hide hsp
  have HEN := hide hen
  have HTS := hide htsp
  have hsz := HSZ.out
  have hlo := hr3.lo
  have n1 : b1 ≠ w.heap.size + 1 := by omega
  have n2 : b2 ≠ w.heap.size + 1 := by omega
  have n3 : ev.ev.ownBlock ≠ some (w.heap.size + 1) := fun hx => by have := (hr3.ev' _ (Or.inl hx)).1; omega
  obtain ⟨evv, evX⟩ := ev
  dsimp only at x0 HF n3 hr3
  obtain ⟨ea, el, ec, hev⟩ : ∃ a n c, evv = .slice a n c := by
    rcases hr3.own.2 with ⟨h, _⟩ | ⟨g, cap, cur, h, _⟩
    · exact ⟨_, _, _, h⟩
    · exact ⟨_, _, _, h⟩
  subst hev
  have HO3 : Hid (RowAt [.slice none 0 0, .slice none 0 0, .slice none 0 0, .int .i64 0, .int .i64 0, .int .i64 0] w3 (w.heap.size + 1) ∧ ∀ j, w3.frozen? ⟨w.heap.size + 1, j, none⟩ = false) := by
    have hk : w3.heap[w.heap.size + 1]? = w1.heap[w.heap.size + 1]? := hb13.block _ (by omega)
    exact ⟨fun j u hu => (World.cell?_of_block hk).trans (HO.out.1 j u hu), fun j => (World.frozen?_of_block hk).trans (HO.out.2 j)⟩
  have o0 := HO3.out.1 0 _ rfl
  have y0 := HO3.out.2 0
  have o1 := HO3.out.1 1 _ rfl
  have y1 := HO3.out.2 1
  have o2 := HO3.out.1 2 _ rfl
  have y2 := HO3.out.2 2
  have o3 := HO3.out.1 3 _ rfl
  have y3 := HO3.out.2 3
  have o4 := HO3.out.1 4 _ rfl
  have y4 := HO3.out.2 4
  have o5 := HO3.out.1 5 _ rfl
  have y5 := HO3.out.2 5
  have hl3 : w.heap.size + 1 < w3.heap.size := Nat.lt_of_lt_of_le hl1 hb13.size
  clear KR hr3 hf3 hno3 hsp hen htsp hlo hsz
  go_wp2_with fail
  have hF := ((((((HO3.out.1.set (j := 0) (v := .slice ea el ec) (by simp)).set (j := 1) (v := .slice (some ⟨b1, 0, none⟩) vn vn) (by simp)).set (j := 2) (v := .slice (some ⟨b2, 0, none⟩) yn yn) (by simp)).set (j := 3) (v := .int .i64 stp) (by simp)).set (j := 4) (v := .int .i64 en) (by simp)).set (j := 5) (v := .int .i64 tsp) (by simp))
  have e0 := hF 0 _ rfl
  have e1 := hF 1 _ rfl
  have e2 := hF 2 _ rfl
  have e3 := hF 3 _ rfl
  have e4 := hF 4 _ rfl
  have e5 := hF 5 _ rfl
  have hBf : Below w.heap.size w ((((((w3.setCell ⟨w.heap.size + 1, 0, none⟩ (.slice ea el ec)).setCell ⟨w.heap.size + 1, 1, none⟩ (.slice (some ⟨b1, 0, none⟩) vn vn)).setCell ⟨w.heap.size + 1, 2, none⟩ (.slice (some ⟨b2, 0, none⟩) yn yn)).setCell ⟨w.heap.size + 1, 3, none⟩ (.int .i64 stp)).setCell ⟨w.heap.size + 1, 4, none⟩ (.int .i64 en)).setCell ⟨w.heap.size + 1, 5, none⟩ (.int .i64 tsp)) := ((((((((((((hB3).setCell (by simp) _)).setCell (by simp) _)).setCell (by simp) _)).setCell (by simp) _)).setCell (by simp) _)).setCell (by simp) _)
  have hRA := ((((((HF.out.other n1 n2 n3 0 (.slice ea el ec)).other n1 n2 n3 1 (.slice (some ⟨b1, 0, none⟩) vn vn)).other n1 n2 n3 2 (.slice (some ⟨b2, 0, none⟩) yn yn)).other n1 n2 n3 3 (.int .i64 stp)).other n1 n2 n3 4 (.int .i64 en)).other n1 n2 n3 5 (.int .i64 tsp))
  refine bodyPost_ret (v := .tuple #[.agg #[.slice ea el ec, .slice (some ⟨b1, 0, none⟩) vn vn, .slice (some ⟨b2, 0, none⟩) yn yn, .int .i64 stp, .int .i64 en, .int .i64 tsp], .int .i64 0]) ?_ rfl ?_
  rotate_left
  · have hT := HT.out
    have h1 := HSP.out
    have h2 := HEN.out
    have h3 := HTS.out
    subst h1 h2 h3
    subst hT
    exact ⟨0, by simpa using HOK.out, hBf, Or.inr ⟨rfl, _, b1, b2, rfl, hRA⟩⟩
  generalize ((((((w3.setCell ⟨w.heap.size + 1, 0, none⟩ (.slice ea el ec)).setCell ⟨w.heap.size + 1, 1, none⟩ (.slice (some ⟨b1, 0, none⟩) vn vn)).setCell ⟨w.heap.size + 1, 2, none⟩ (.slice (some ⟨b2, 0, none⟩) yn yn)).setCell ⟨w.heap.size + 1, 3, none⟩ (.int .i64 stp)).setCell ⟨w.heap.size + 1, 4, none⟩ (.int .i64 en)).setCell ⟨w.heap.size + 1, 5, none⟩ (.int .i64 tsp)) = WF at e0 e1 e2 e3 e4 e5 ⊢
  simp [results, Try.results12, go_sem, e0, e1, e2, e3, e4, e5]
theorem evCells_get : ∀ (l : List Ev4) (i : Nat) (h : i < l.length), (evCells l)[i * 4]? = some (.int .i64 l[i].1) ∧ (evCells l)[i * 4 + 1]? = some (.int .i64 l[i].2.1) ∧ (evCells l)[i * 4 + 2]? = some (.int .i64 l[i].2.2.1) ∧ (evCells l)[i * 4 + 3]? = some (.int .i64 l[i].2.2.2)
  | [], i, h => by simp at h
  | e :: r, 0, h => ⟨rfl, rfl, rfl, rfl⟩
  | e :: r, i + 1, h => by
    have := evCells_get r i (by simpa using h)
    rw [Nat.succ_mul]
    simpa [evCells] using this

/-- events in memory. -/
def EvAt (w : World) (v : Value) (l : List Ev4) : Prop := ∃ ao cap, v = .slice ao l.length cap ∧ l.length ≤ cap ∧ cap ≤ maxLen ∧ (l ≠ [] → ∃ b, ao = some ⟨b, 0, none⟩ ∧ RowAt (evCells l) w b)
theorem EvAt.over {w w' : World} {v : Value} {l : List Ev4} (h : EvAt w v l) (hb : Below w.heap.size w w') : EvAt w' v l := by
  obtain ⟨ao, cap, hv, hc, hm, hr⟩ := h
  exact ⟨ao, cap, hv, hc, hm, fun hne => by obtain ⟨b, h1, h2⟩ := hr hne; exact ⟨b, h1, h2.over hb⟩⟩
theorem EvAt.of_own {w : World} {B : Nat} {v : Value} {l : List Ev4} (h : w.ownsRow B 71 4 v l.length (evCells l)) : EvAt w v l := by
  rcases h.2 with ⟨h1, h2⟩ | ⟨g, cap, cur, hv, hb, hg, h1, h2, h3, h4⟩
  · exact ⟨none, 0, by rw [h1, h2], by omega, by unfold maxLen; omega, fun hne => absurd (List.length_eq_zero_iff.1 h2) hne⟩
  · refine ⟨_, cap, hv, h1, h2, fun _ => ⟨g, rfl, fun j u hu => ?_⟩⟩
    have := h.cells (g := g) (by rw [hv]; rfl) j u hu
    rwa [Addr.add_lit, Nat.zero_add] at this
theorem evCells_prefix {l m : List Ev4} (h : l <+: m) {w : World} {b : Nat} (hr : RowAt (evCells m) w b) : RowAt (evCells l) w b := by
  obtain ⟨t, rfl⟩ := h
  rw [evCells_append] at hr
  exact hr.more

set_option maxHeartbeats 1000000 in
theorem sameInts_eq (l : List Int) (va vb : Value) (w : World) (ha : IsInts w va l) (hb : IsInts w vb l) (hl : l.length ≤ 9223372036854775807) :
    Calls Try.prog 31 #[va, vb] w fun e w' => e = .returned (.bool true) ∧ ∃ n, w' = w.drewN n := by
  obtain ⟨ao, ac, rfl, hac⟩ := ha
  obtain ⟨bo, bc, rfl, hbc⟩ := hb
  have HA := hide hac
  have HB := hide hbc
  clear hac hbc
  go_enter Try.func31, Try.ntmps31
  go_wp2_with fail
  go_loopw [5] (fun i wr => ∃ j : Nat, j ≤ l.length ∧ i = .int .i64 j ∧ ∃ n, wr = w.drewN n) (fun i _ => l.length - (intOf i).toNat)
  case atStart => exact ⟨0, Nat.zero_le _, rfl, 0, rfl⟩
  case round =>
    obtain ⟨j, hj, rfl, n, rfl⟩ := hrel
    by_cases hjl : j < l.length
    · obtain ⟨b, off, rfl, hel⟩ := HA.out (by intro hz; rw [hz] at hjl; simp at hjl)
      obtain ⟨b', off', rfl, hel'⟩ := HB.out (by intro hz; rw [hz] at hjl; simp at hjl)
      have q0 := hel j hjl
      have q1 := hel' j hjl
      have hji : (j : Int) < (l.length : Int) := by omega
      obtain ⟨x, hx⟩ : ∃ x, x = l[j] := ⟨_, rfl⟩
      rw [← hx] at q0 q1
      obtain ⟨n0, hn0⟩ : ∃ q, q = l.length := ⟨_, rfl⟩
      rw [← hn0] at hji ⊢
      have HN0 := hide hn0
      clear hel hel' hx hn0
      go_wp2_with fail
      go_quiet ((fail))
      go_wp2_with fail
      have hn0 := HN0.out
      subst hn0
      exact ⟨⟨j + 1, by omega, by go_num, _, by first | rfl | exact World.drewN_drewN _ _ _⟩, by simp [intOf]; omega⟩
    · go_wp2_with fail
      go_ret
      exact ⟨rfl, n, by first | rfl | trivial⟩

set_option maxHeartbeats 2000000 in
set_option maxRecDepth 100000 in
theorem sameEvents_eq (l : List Ev4) (va vb : Value) (w : World) (ha : EvAt w va l) (hb : EvAt w vb l) (hl : l.length ≤ 9223372036854775807) :
    Calls Try.prog 35 #[va, vb] w fun e w' => e = .returned (.bool true) ∧ Below w.heap.size w w' := by
  obtain ⟨ao, ac, rfl, -, -, hac⟩ := ha
  obtain ⟨bo, bc, rfl, -, -, hbc⟩ := hb
  have HA := hide hac
  have HB := hide hbc
  clear hac hbc
  go_enter Try.func35, Try.ntmps35
  go_wp2_with fail
  go_loopw [5] (fun i wr => ∃ j : Nat, j ≤ l.length ∧ i = .int .i64 j ∧ Below w.heap.size w wr) (fun i _ => l.length - (intOf i).toNat)
  case atStart => exact ⟨0, Nat.zero_le _, rfl, Below.refl _ _⟩
  case round =>
    obtain ⟨j, hj, rfl, hBr⟩ := hrel
    by_cases hjl : j < l.length
    · obtain ⟨b, rfl, hel⟩ := HA.out (by intro hz; rw [hz] at hjl; simp at hjl)
      obtain ⟨b', rfl, hel'⟩ := HB.out (by intro hz; rw [hz] at hjl; simp at hjl)
      obtain ⟨g0, g1, g2, g3⟩ := evCells_get l j hjl
      have q0 := cell_over hBr _ _ (hel _ _ g0)
      have q1 := cell_over hBr _ _ (hel _ _ g1)
      have q2 := cell_over hBr _ _ (hel _ _ g2)
      have q3 := cell_over hBr _ _ (hel _ _ g3)
      have r0 := cell_over hBr _ _ (hel' _ _ g0)
      have r1 := cell_over hBr _ _ (hel' _ _ g1)
      have r2 := cell_over hBr _ _ (hel' _ _ g2)
      have r3 := cell_over hBr _ _ (hel' _ _ g3)
      have hji : (j : Int) < (l.length : Int) := by omega
      obtain ⟨x0, hx0⟩ : ∃ x, x = l[j].1 := ⟨_, rfl⟩
      obtain ⟨x1, hx1⟩ : ∃ x, x = l[j].2.1 := ⟨_, rfl⟩
      obtain ⟨x2, hx2⟩ : ∃ x, x = l[j].2.2.1 := ⟨_, rfl⟩
      obtain ⟨x3, hx3⟩ : ∃ x, x = l[j].2.2.2 := ⟨_, rfl⟩
      rw [← hx0] at q0 r0
      rw [← hx1] at q1 r1
      rw [← hx2] at q2 r2
      rw [← hx3] at q3 r3
      obtain ⟨n0, hn0⟩ : ∃ q, q = l.length := ⟨_, rfl⟩
      rw [← hn0] at hji ⊢
      have HN0 := hide hn0
      clear hel hel' hx0 hx1 hx2 hx3 hn0 g0 g1 g2 g3
      go_wp2_with fail
      go_quiet ((fail))
      go_wp2_with fail
      have hn0 := HN0.out
      subst hn0
      exact ⟨⟨j + 1, by omega, by go_num, below_drewN hBr _⟩, by simp [intOf]; omega⟩
    · go_wp2_with fail
      go_ret
      exact ⟨rfl, hBr⟩
theorem keep12 {w w0 w1 : World} {a0 a1 a2 a3 a4 a5 a6 a7 a8 a9 a10 a11 : Addr} {v0 v1 v2 v3 v4 v5 v6 v7 v8 v9 v10 v11 : Value} (h : w0.cell? a0 = some v0 ∧ w0.cell? a1 = some v1 ∧ w0.cell? a2 = some v2 ∧ w0.cell? a3 = some v3 ∧ w0.cell? a4 = some v4 ∧ w0.cell? a5 = some v5 ∧ w0.cell? a6 = some v6 ∧ w0.cell? a7 = some v7 ∧ w0.cell? a8 = some v8 ∧ w0.cell? a9 = some v9 ∧ w0.cell? a10 = some v10 ∧ w0.cell? a11 = some v11 ∧ Below w.heap.size w w0) (hb : Below w0.heap.size w0 w1) :
    w1.cell? a0 = some v0 ∧ w1.cell? a1 = some v1 ∧ w1.cell? a2 = some v2 ∧ w1.cell? a3 = some v3 ∧ w1.cell? a4 = some v4 ∧ w1.cell? a5 = some v5 ∧ w1.cell? a6 = some v6 ∧ w1.cell? a7 = some v7 ∧ w1.cell? a8 = some v8 ∧ w1.cell? a9 = some v9 ∧ w1.cell? a10 = some v10 ∧ w1.cell? a11 = some v11 ∧ Below w.heap.size w w1 := by
  obtain ⟨h0, h1, h2, h3, h4, h5, h6, h7, h8, h9, h10, h11, hB⟩ := h
  exact ⟨cell_over hb _ _ h0, cell_over hb _ _ h1, cell_over hb _ _ h2, cell_over hb _ _ h3, cell_over hb _ _ h4, cell_over hb _ _ h5, cell_over hb _ _ h6, cell_over hb _ _ h7, cell_over hb _ _ h8, cell_over hb _ _ h9, cell_over hb _ _ h10, cell_over hb _ _ h11, over_trans hB hb⟩

set_option maxHeartbeats 4000000 in
set_option maxRecDepth 100000 in
theorem sameRun_walk (ea : Option Addr) (el ec : Nat) (fa : Option Addr) (fc : Nat) (b1 b2 c1 c2 vn yn : Nat) (s en tp : Int) (w : World)
    (KE : Hid (∀ W, Below w.heap.size w W → Calls Try.prog 35 #[.slice ea el ec, .slice fa el fc] W fun e w' => e = .returned (.bool true) ∧ Below W.heap.size W w'))
    (KV : Hid (∀ W, Below w.heap.size w W → Calls Try.prog 31 #[.slice (some ⟨b1, 0, none⟩) vn vn, .slice (some ⟨c1, 0, none⟩) vn vn] W fun e w' => e = .returned (.bool true) ∧ ∃ n, w' = W.drewN n))
    (KT : Hid (∀ W, Below w.heap.size w W → Calls Try.prog 31 #[.slice (some ⟨b2, 0, none⟩) yn yn, .slice (some ⟨c2, 0, none⟩) yn yn] W fun e w' => e = .returned (.bool true) ∧ ∃ n, w' = W.drewN n)) :
    Calls Try.prog 13 #[.agg #[.slice ea el ec, .slice (some ⟨b1, 0, none⟩) vn vn, .slice (some ⟨b2, 0, none⟩) yn yn, .int .i64 s, .int .i64 en, .int .i64 tp], .agg #[.slice fa el fc, .slice (some ⟨c1, 0, none⟩) vn vn, .slice (some ⟨c2, 0, none⟩) yn yn, .int .i64 s, .int .i64 en, .int .i64 tp]] w fun e w' => e = .returned (.bool true) ∧ Below w.heap.size w w' := by
  have hbel : Below w.heap.size w ((w.alloc (.cells #[.slice ea el ec, .slice (some ⟨b1, 0, none⟩) vn vn, .slice (some ⟨b2, 0, none⟩) yn yn, .int .i64 s, .int .i64 en, .int .i64 tp] 45)).alloc (.cells #[.slice fa el fc, .slice (some ⟨c1, 0, none⟩) vn vn, .slice (some ⟨c2, 0, none⟩) yn yn, .int .i64 s, .int .i64 en, .int .i64 tp] 45)) := ((Below.refl _ w).alloc (Nat.le_refl _) _).alloc (by simp) _
  have p0 : ((w.alloc (.cells #[.slice ea el ec, .slice (some ⟨b1, 0, none⟩) vn vn, .slice (some ⟨b2, 0, none⟩) yn yn, .int .i64 s, .int .i64 en, .int .i64 tp] 45)).alloc (.cells #[.slice fa el fc, .slice (some ⟨c1, 0, none⟩) vn vn, .slice (some ⟨c2, 0, none⟩) yn yn, .int .i64 s, .int .i64 en, .int .i64 tp] 45)).cell? ⟨w.heap.size, 0, none⟩ = some (.slice ea el ec) := by simp [go_sem]
  have p1 : ((w.alloc (.cells #[.slice ea el ec, .slice (some ⟨b1, 0, none⟩) vn vn, .slice (some ⟨b2, 0, none⟩) yn yn, .int .i64 s, .int .i64 en, .int .i64 tp] 45)).alloc (.cells #[.slice fa el fc, .slice (some ⟨c1, 0, none⟩) vn vn, .slice (some ⟨c2, 0, none⟩) yn yn, .int .i64 s, .int .i64 en, .int .i64 tp] 45)).cell? ⟨w.heap.size, 1, none⟩ = some (.slice (some ⟨b1, 0, none⟩) vn vn) := by simp [go_sem]
  have p2 : ((w.alloc (.cells #[.slice ea el ec, .slice (some ⟨b1, 0, none⟩) vn vn, .slice (some ⟨b2, 0, none⟩) yn yn, .int .i64 s, .int .i64 en, .int .i64 tp] 45)).alloc (.cells #[.slice fa el fc, .slice (some ⟨c1, 0, none⟩) vn vn, .slice (some ⟨c2, 0, none⟩) yn yn, .int .i64 s, .int .i64 en, .int .i64 tp] 45)).cell? ⟨w.heap.size, 2, none⟩ = some (.slice (some ⟨b2, 0, none⟩) yn yn) := by simp [go_sem]
  have p3 : ((w.alloc (.cells #[.slice ea el ec, .slice (some ⟨b1, 0, none⟩) vn vn, .slice (some ⟨b2, 0, none⟩) yn yn, .int .i64 s, .int .i64 en, .int .i64 tp] 45)).alloc (.cells #[.slice fa el fc, .slice (some ⟨c1, 0, none⟩) vn vn, .slice (some ⟨c2, 0, none⟩) yn yn, .int .i64 s, .int .i64 en, .int .i64 tp] 45)).cell? ⟨w.heap.size, 3, none⟩ = some (.int .i64 s) := by simp [go_sem]
  have p4 : ((w.alloc (.cells #[.slice ea el ec, .slice (some ⟨b1, 0, none⟩) vn vn, .slice (some ⟨b2, 0, none⟩) yn yn, .int .i64 s, .int .i64 en, .int .i64 tp] 45)).alloc (.cells #[.slice fa el fc, .slice (some ⟨c1, 0, none⟩) vn vn, .slice (some ⟨c2, 0, none⟩) yn yn, .int .i64 s, .int .i64 en, .int .i64 tp] 45)).cell? ⟨w.heap.size, 4, none⟩ = some (.int .i64 en) := by simp [go_sem]
  have p5 : ((w.alloc (.cells #[.slice ea el ec, .slice (some ⟨b1, 0, none⟩) vn vn, .slice (some ⟨b2, 0, none⟩) yn yn, .int .i64 s, .int .i64 en, .int .i64 tp] 45)).alloc (.cells #[.slice fa el fc, .slice (some ⟨c1, 0, none⟩) vn vn, .slice (some ⟨c2, 0, none⟩) yn yn, .int .i64 s, .int .i64 en, .int .i64 tp] 45)).cell? ⟨w.heap.size, 5, none⟩ = some (.int .i64 tp) := by simp [go_sem]
  have q0 : ((w.alloc (.cells #[.slice ea el ec, .slice (some ⟨b1, 0, none⟩) vn vn, .slice (some ⟨b2, 0, none⟩) yn yn, .int .i64 s, .int .i64 en, .int .i64 tp] 45)).alloc (.cells #[.slice fa el fc, .slice (some ⟨c1, 0, none⟩) vn vn, .slice (some ⟨c2, 0, none⟩) yn yn, .int .i64 s, .int .i64 en, .int .i64 tp] 45)).cell? ⟨w.heap.size + 1, 0, none⟩ = some (.slice fa el fc) := by simp [go_sem]
  have q1 : ((w.alloc (.cells #[.slice ea el ec, .slice (some ⟨b1, 0, none⟩) vn vn, .slice (some ⟨b2, 0, none⟩) yn yn, .int .i64 s, .int .i64 en, .int .i64 tp] 45)).alloc (.cells #[.slice fa el fc, .slice (some ⟨c1, 0, none⟩) vn vn, .slice (some ⟨c2, 0, none⟩) yn yn, .int .i64 s, .int .i64 en, .int .i64 tp] 45)).cell? ⟨w.heap.size + 1, 1, none⟩ = some (.slice (some ⟨c1, 0, none⟩) vn vn) := by simp [go_sem]
  have q2 : ((w.alloc (.cells #[.slice ea el ec, .slice (some ⟨b1, 0, none⟩) vn vn, .slice (some ⟨b2, 0, none⟩) yn yn, .int .i64 s, .int .i64 en, .int .i64 tp] 45)).alloc (.cells #[.slice fa el fc, .slice (some ⟨c1, 0, none⟩) vn vn, .slice (some ⟨c2, 0, none⟩) yn yn, .int .i64 s, .int .i64 en, .int .i64 tp] 45)).cell? ⟨w.heap.size + 1, 2, none⟩ = some (.slice (some ⟨c2, 0, none⟩) yn yn) := by simp [go_sem]
  have q3 : ((w.alloc (.cells #[.slice ea el ec, .slice (some ⟨b1, 0, none⟩) vn vn, .slice (some ⟨b2, 0, none⟩) yn yn, .int .i64 s, .int .i64 en, .int .i64 tp] 45)).alloc (.cells #[.slice fa el fc, .slice (some ⟨c1, 0, none⟩) vn vn, .slice (some ⟨c2, 0, none⟩) yn yn, .int .i64 s, .int .i64 en, .int .i64 tp] 45)).cell? ⟨w.heap.size + 1, 3, none⟩ = some (.int .i64 s) := by simp [go_sem]
  have q4 : ((w.alloc (.cells #[.slice ea el ec, .slice (some ⟨b1, 0, none⟩) vn vn, .slice (some ⟨b2, 0, none⟩) yn yn, .int .i64 s, .int .i64 en, .int .i64 tp] 45)).alloc (.cells #[.slice fa el fc, .slice (some ⟨c1, 0, none⟩) vn vn, .slice (some ⟨c2, 0, none⟩) yn yn, .int .i64 s, .int .i64 en, .int .i64 tp] 45)).cell? ⟨w.heap.size + 1, 4, none⟩ = some (.int .i64 en) := by simp [go_sem]
  have q5 : ((w.alloc (.cells #[.slice ea el ec, .slice (some ⟨b1, 0, none⟩) vn vn, .slice (some ⟨b2, 0, none⟩) yn yn, .int .i64 s, .int .i64 en, .int .i64 tp] 45)).alloc (.cells #[.slice fa el fc, .slice (some ⟨c1, 0, none⟩) vn vn, .slice (some ⟨c2, 0, none⟩) yn yn, .int .i64 s, .int .i64 en, .int .i64 tp] 45)).cell? ⟨w.heap.size + 1, 5, none⟩ = some (.int .i64 tp) := by simp [go_sem]
  go_enter Try.func13, Try.ntmps13
  go_wp2_with fail
  refine (KE.out _ hbel).mono ?_
  rintro e w1 ⟨rfl, hb1⟩
  obtain ⟨p0, p1, p2, p3, p4, p5, q0, q1, q2, q3, q4, q5, hB1⟩ := keep12 (w := w) ⟨p0, p1, p2, p3, p4, p5, q0, q1, q2, q3, q4, q5, hbel⟩ hb1
  clear hb1 hbel KE
  go_wp2_with fail
  refine (KV.out _ hB1).mono ?_
  rintro e w2 ⟨rfl, n2, rfl⟩
  have hB2 := below_drewN hB1 n2
  go_wp2_with fail
  refine (KT.out _ hB2).mono ?_
  rintro e w3 ⟨rfl, n3, rfl⟩
  have hB3 := below_drewN hB2 n3
  go_wp2_with fail
  go_ret
  exact ⟨by first | rfl | simp, by first | exact hB3 | exact below_drewN hB1 _⟩

theorem rowInts {l : List Int} {w : World} {b : Nat} (h : RowAt (intsV l) w b) : IsInts w (.slice (some ⟨b, 0, none⟩) l.length l.length) l := by
  refine ⟨_, _, rfl, fun _ => ⟨b, 0, rfl, fun i hi => ?_⟩⟩
  rw [Nat.zero_add]
  exact h i _ (by simp [hi])

theorem sameRun_eq (B B' F F' vn yn : Nat) (r : RSt) (ev ev' : Value) (b1 b2 c1 c2 : Nat) (w : World) (h : RunAt B vn yn F r ev b1 b2 w) (h' : RunAt B' vn yn F' r ev' c1 c2 w) (hv : vn ≤ 100) (hy : yn ≤ 100) (hl : r.ev.length ≤ 2000) :
    Calls Try.prog 13 #[runV ev b1 b2 vn yn r, runV ev' c1 c2 vn yn r] w fun e w' => e = .returned (.bool true) ∧ Below w.heap.size w w' := by
  have e1 := EvAt.of_own h.own
  have e2 := EvAt.of_own h'.own
  have v1 := rowInts h.vars
  have v2 := rowInts h'.vars
  have t1 := rowInts h.taken
  have t2 := rowInts h'.taken
  rw [h.num.vl] at v1 v2
  rw [h.num.tl] at t1 t2
  obtain ⟨ea, ec, he, -⟩ := id e1
  obtain ⟨fa, fc, he', -⟩ := id e2
  subst he
  subst he'
  exact sameRun_walk ea _ ec fa fc b1 b2 c1 c2 vn yn _ _ _ w (hide fun W hW => sameEvents_eq r.ev _ _ W (e1.over hW) (e2.over hW) (by omega))
    (hide fun W hW => sameInts_eq r.vars _ _ W (v1.over hW) (v2.over hW) (by rw [h.num.vl]; omega)) (hide fun W hW => sameInts_eq r.taken _ _ W (t1.over hW) (t2.over hW) (by rw [h.num.tl]; omega))

set_option maxHeartbeats 2000000 in
set_option maxRecDepth 100000 in
theorem begins_eq (l m : List Ev4) (va vb : Value) (w : World) (ha : EvAt w va l) (hb : EvAt w vb m) (hp : l <+: m) (hl : m.length ≤ 2000) :
    Calls Try.prog 14 #[va, vb] w fun e w' => e = .returned (.bool true) ∧ Below w.heap.size w w' := by
  have hlm : l.length ≤ m.length := hp.length_le
  obtain ⟨ao, ac, rfl, ha1, ha2, hac⟩ := id ha
  obtain ⟨bo, bc, rfl, hb1, hb2, hbc⟩ := hb
  have hb2' : bc ≤ 9223372036854775807 := hb2
  have K := hide (sameEvents_eq l (.slice ao l.length ac) (.slice bo l.length bc) w ha ⟨bo, bc, rfl, by omega, hb2, fun hne => by
    obtain ⟨b, h1, h2⟩ := hbc (by intro hz; rw [hz] at hp; exact hne (List.prefix_nil.1 hp))
    exact ⟨b, h1, evCells_prefix hp h2⟩⟩ (by omega))
  obtain ⟨n1, hn1⟩ : ∃ q, q = l.length := ⟨_, rfl⟩
  obtain ⟨n2, hn2⟩ : ∃ q, q = m.length := ⟨_, rfl⟩
  rw [← hn1, ← hn2] at hlm
  rw [← hn1] at K
  have hle : (n1 : Int) ≤ (n2 : Int) := by omega
  have hlb : (n1 : Int) ≤ (bc : Int) := by omega
  rw [← hn1, ← hn2]
  clear ha hac hbc hp hn1 hn2 ha1 ha2
  go_enter Try.func14, Try.ntmps14
  go_wp2_with fail
  refine (K.out).mono ?_
  rintro e w1 ⟨rfl, hb⟩
  go_wp2_with fail
  go_ret
  exact ⟨by first | rfl | simp, hb⟩
end Go.Proofs.Ytcbbjjenkommeaa.Ex
