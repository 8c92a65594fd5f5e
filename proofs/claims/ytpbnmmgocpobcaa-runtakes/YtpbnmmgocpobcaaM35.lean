/- run.Run of any program. -/
import Derived.Test.YtpbnmmgocpobcaaM34
namespace Go.Proofs.Ytpbnmmgocpobcaa.Ex
open Go.RowKit
set_option linter.unusedVariables false

/-- what a run comes to. -/
def runX (K kf : Nat) (fs : List FnD) (F : Nat) (ins : List (List Int)) (l : List D) (vn yn : Nat) : Bool × RSt := rn K kf fs F ins 6001 0 kf l (cntF kf fs : Nat) (st0 vn yn)
def endX (b : Bool) : Int := if b = true then 1 else 2

theorem flOf_at (kf : Nat) (fs : List FnD) : (flOf kf fs fs.length)[fs.length]? = some ((cntF kf fs : Nat) : Int) := by
  rw [flOf_last, List.take_length]

set_option maxHeartbeats 4000000 in
set_option maxRecDepth 100000 in
theorem runM_any (K kf : Nat) (m : Int) (ga : Option Addr) (gn gc : Nat) (sa : Option Addr) (sn sc : Nat) (ya : Option Addr) (yn yc : Nat) (oa : Option Addr) (on oc : Nat) (va : Option Addr) (vn vc : Nat) (fa : Option Addr) (fn fc : Nat) (ba : Option Addr) (bn bc : Nat) (xa : Option Addr) (xn xc : Nat) (F fln c3 : Nat) (br b1 b2 b3 : Nat) (fl : List Int) (fs : List FnD) (ins : List (List Int)) (l : List D) (w0 w : World) (X : CtxR K kf m ga gn gc sa sn sc ya yn yc oa on oc va vn vc fa fn fc ba bn bc xa xn xc F fln c3 br b1 b2 b3 fl 2 fs ins w0) (hl : StmtsAt w0 K kf (.slice ba bn bc) l) (hok : ∀ s ∈ l, okS K vn yn (fs.length : Int) fs kf s) (hcn : cntF kf fs + cnts kf l ≤ 50)
    (h : RnG w0.heap.size [.int .i64 m, .slice ga gn gc, .slice sa sn sc, .slice ya yn yc, .slice oa on oc, .slice va vn vc, .slice fa fn fc, .slice ba bn bc, .slice xa xn xc, .int .i64 (F : Int), .slice (some ⟨b3, 0, none⟩) fln c3] br b1 b2 b3 fl 0 (st0 vn yn) (.slice none 0 0) w) (hB0 : Below w0.heap.size w0 w) :
    Calls Try.prog 11 #[.pointer (some ⟨br, 0, none⟩)] w fun e w' => e = .returned (.tuple #[]) ∧ ∃ ev, RnG w0.heap.size [.int .i64 m, .slice ga gn gc, .slice sa sn sc, .slice ya yn yc, .slice oa on oc, .slice va vn vc, .slice fa fn fc, .slice ba bn bc, .slice xa xn xc, .int .i64 (F : Int), .slice (some ⟨b3, 0, none⟩) fln c3] br b1 b2 b3 fl (endX (runX K kf fs F ins l vn yn).1) (runX K kf fs F ins l vn yn).2 ev w' ∧ Fr br b1 b2 (.slice none 0 0) ev w w' ∧ NumOk vn yn F (runX K kf fs F ins l vn yn).2 := by
  have h2 := h.setEnd 2
  have hF := X.fuel
  have hB2 : Below w0.heap.size w0 (w.setCell ⟨br, 4, none⟩ (.int .i64 2)) := hB0.trans (h.below (fr_set0 h _ _))
  have hfl : fl = flOf kf fs fs.length := X.flE
  have hat : fl[fs.length]? = some ((cntF kf fs : Nat) : Int) := by rw [hfl]; exact flOf_at kf fs
  have KS := hide (stmts_all K kf m ga gn gc sa sn sc ya yn yc oa on oc va vn vc fa fn fc ba bn bc xa xn xc F fln c3 br b1 b2 b3 fl 2 fs ins w0 X 6001 kf _ l (fs.length : Int) (cntF kf fs : Nat) (st0 vn yn) _ (w.setCell ⟨br, 4, none⟩ (.int .i64 2)).drew hl (Int.le_refl _) hok (by omega) (by omega) hB2.drew (h2.drewN 1) (st0_ok vn yn F) (by show 3 * (F - 0) + 1 ≤ 6001; omega))
  have c4 := h.row 4 _ rfl
  have z4 := h.z0 4
  have l0 := h.hi.1
  have a12 := h2.row 12 _ rfl
  have a13 := h2.row 13 _ rfl
  have a16 := h2.row 16 _ rfl
  have ab3 : (w.setCell ⟨br, 4, none⟩ (.int .i64 2)).cell? ⟨b3, fs.length, none⟩ = some (.int .i64 ((cntF kf fs : Nat) : Int)) := h2.first fs.length _ (by simp [hat])
  have hfn := X.fnE
  subst hfn
  have hfln := X.flN
  have hfi : (fs.length : Int) < (fln : Int) := by omega
  have HF0 := hide (fr_set0 h 4 (.int .i64 2))
  obtain ⟨T, hT⟩ : ∃ T, T = runX K kf fs F ins l vn yn := ⟨_, rfl⟩
  have hT2 : rn K kf fs F ins 6001 0 kf l (cntF kf fs : Nat) (st0 vn yn) = T := hT.symm
  rw [hT2] at KS
  rw [← hT]
  have HK : Hid (∀ W st ev, RnG w0.heap.size [.int .i64 m, .slice ga gn gc, .slice sa sn sc, .slice ya yn yc, .slice oa on oc, .slice va vn vc, .slice fa fs.length fc, .slice ba bn bc, .slice xa xn xc, .int .i64 (F : Int), .slice (some ⟨b3, 0, none⟩) fln c3] br b1 b2 b3 fl 2 st ev W → (W.cell? ⟨br, 12, none⟩ = some (.slice fa fs.length fc) ∧ W.cell? ⟨br, 13, none⟩ = some (.slice ba bn bc) ∧ W.cell? ⟨br, 16, none⟩ = some (.slice (some ⟨b3, 0, none⟩) fln c3) ∧ W.cell? ⟨b3, fs.length, none⟩ = some (.int .i64 ((cntF kf fs : Nat) : Int)))) := fun W st ev hr => ⟨hr.row 12 _ rfl, hr.row 13 _ rfl, hr.row 16 _ rfl, hr.first fs.length _ (by simp [hat])⟩
  obtain ⟨C, hC⟩ : ∃ C : Int, C = ((cntF kf fs : Nat) : Int) := ⟨_, rfl⟩
  rw [← hC] at KS HK ab3
  obtain ⟨fnn, hfnn⟩ : ∃ q, q = fs.length := ⟨_, rfl⟩
  rw [← hfnn] at KS HK ab3 a12 hfi ⊢
  clear h2 hB2 hfl hat hT hT2 hC hl hok hcn hfln X h hfnn
  obtain ⟨tb, ts⟩ := T
  cases tb with
  | false =>
    go_enter Try.func11, Try.ntmps11
    go_wp2_with fail
    go_region_held3 (fun W => W.cell? ⟨br, 12, none⟩ = some (.slice fa fnn fc) ∧ W.cell? ⟨br, 13, none⟩ = some (.slice ba bn bc) ∧ W.cell? ⟨br, 16, none⟩ = some (.slice (some ⟨b3, 0, none⟩) fln c3) ∧ W.cell? ⟨b3, fnn, none⟩ = some (.int .i64 C)) (first | assumption | exact ⟨a12, a13, a16, ab3⟩ | exact HK.out _ _ _ hr2 | fail) (first | (go_at_call 23; refine (KS.out).mono ?_; rintro e wp ⟨he, ⟨ev2, hr2, hf2⟩, hno2⟩; subst he))
    have hr2' : RnG w0.heap.size [.int .i64 m, .slice ga gn gc, .slice sa sn sc, .slice ya yn yc, .slice oa on oc, .slice va vn vc, .slice fa fnn fc, .slice ba bn bc, .slice xa xn xc, .int .i64 (F : Int), .slice (some ⟨b3, 0, none⟩) fln c3] br b1 b2 b3 fl 2 ts ev2 wp := hr2
    have d4 := hr2'.row 4 _ rfl
    have y4 := hr2'.z0 4
    have y0 := hr2'.hi.1
    have HN := hide hno2
    have HF2 := hide ((HF0.out.over (below_drewN (Below.refl _ _) 1)).trans hf2)
    have HR2 := hide hr2'
    clear hr2 hr2' hf2 hno2 KS HK a12 a13 a16 ab3
    go_wp2_with fail
    go_end0
    exact ⟨rfl, ev2, HR2.out, HF2.out, HN.out⟩
  | true =>
    go_enter Try.func11, Try.ntmps11
    go_wp2_with fail
    go_region_held3 (fun W => W.cell? ⟨br, 12, none⟩ = some (.slice fa fnn fc) ∧ W.cell? ⟨br, 13, none⟩ = some (.slice ba bn bc) ∧ W.cell? ⟨br, 16, none⟩ = some (.slice (some ⟨b3, 0, none⟩) fln c3) ∧ W.cell? ⟨b3, fnn, none⟩ = some (.int .i64 C)) (first | assumption | exact ⟨a12, a13, a16, ab3⟩ | exact HK.out _ _ _ hr2 | fail) (first | (go_at_call 23; refine (KS.out).mono ?_; rintro e wp ⟨he, ⟨ev2, hr2, hf2⟩, hno2⟩; subst he))
    have hr2' : RnG w0.heap.size [.int .i64 m, .slice ga gn gc, .slice sa sn sc, .slice ya yn yc, .slice oa on oc, .slice va vn vc, .slice fa fnn fc, .slice ba bn bc, .slice xa xn xc, .int .i64 (F : Int), .slice (some ⟨b3, 0, none⟩) fln c3] br b1 b2 b3 fl 2 ts ev2 wp := hr2
    have d4 := hr2'.row 4 _ rfl
    have y4 := hr2'.z0 4
    have y0 := hr2'.hi.1
    have HN := hide hno2
    have HF2 := hide ((HF0.out.over (below_drewN (Below.refl _ _) 1)).trans hf2)
    have HR2 := hide hr2'
    clear hr2 hr2' hf2 hno2 KS HK a12 a13 a16 ab3
    go_wp2_with fail
    go_end0
    exact ⟨rfl, ev2, HR2.out.setEnd 1, HF2.out.trans (fr_set0 HR2.out _ _), HN.out⟩
end Go.Proofs.Ytpbnmmgocpobcaa.Ex
/- run.Run, whatever it is handed. -/
namespace Go.Proofs.Ytpbnmmgocpobcaa.Ex
open Go.RowKit
set_option linter.unusedVariables false

abbrev runV (ev : Value) (b1 b2 vn yn : Nat) (r : Bool × RSt) : Value := .agg #[ev, .slice (some ⟨b1, 0, none⟩) vn vn, .slice (some ⟨b2, 0, none⟩) yn yn, .int .i64 (r.2.steps : Int), .int .i64 (endX r.1), .int .i64 0]

/-- a run in memory. -/
structure RunAt (B : Nat) (vn yn F : Nat) (r : Bool × RSt) (ev : Value) (b1 b2 : Nat) (w : World) : Prop where
  own : w.ownsRow B 56 4 ev r.2.ev.length (evCells r.2.ev)
  vars : RowAt (intsV r.2.vars) w b1
  taken : RowAt (intsV r.2.taken) w b2
  num : NumOk vn yn F r.2
theorem RunAt.over {B vn yn F : Nat} {r : Bool × RSt} {ev : Value} {b1 b2 : Nat} {w w' : World} (h : RunAt B vn yn F r ev b1 b2 w) (hb : Below w.heap.size w w') : RunAt B vn yn F r ev b1 b2 w' :=
  ⟨own_overG h.own hb, h.vars.over hb, h.taken.over hb, h.num⟩

theorem RunAt.other {B vn yn F : Nat} {r : Bool × RSt} {ev : Value} {b1 b2 : Nat} {w : World} (h : RunAt B vn yn F r ev b1 b2 w) {b : Nat} (h1 : b1 ≠ b) (h2 : b2 ≠ b) (h3 : ev.ownBlock ≠ some b) (j : Nat) (v : Value) : RunAt B vn yn F r ev b1 b2 (w.setCell ⟨b, j, none⟩ v) :=
  ⟨h.own.kept grow_set1 (Or.inr h3), h.vars.other h1, h.taken.other h2, h.num⟩

/-- what run.Run answers. -/
def RunSaid (K kf vn yn : Nat) (fs : List FnD) (l : List D) (ins : List (List Int)) (fuel : Int) (w : World) (e : Ending) (w' : World) : Prop :=
  ((∃ why : Int, why ≠ 0 ∧ e = .returned (.tuple #[.agg #[.slice none 0 0, .slice none 0 0, .slice none 0 0, .int .i64 0, .int .i64 0, .int .i64 0], .int .i64 why])) ∨
   (okR K kf vn yn fs l ins fuel ∧ ∃ ev b1 b2, e = .returned (.tuple #[runV ev b1 b2 vn yn (runX K kf fs fuel.toNat ins l vn yn), .int .i64 0]) ∧ RunAt w.heap.size vn yn fuel.toNat (runX K kf fs fuel.toNat ins l vn yn) ev b1 b2 w')) ∧ Below w.heap.size w w'

set_option maxHeartbeats 4000000 in
set_option maxRecDepth 100000 in
theorem Run_any (K kf : Nat) (m : Int) (ga : Option Addr) (gn gc : Nat) (sa : Option Addr) (sn sc : Nat) (ya : Option Addr) (yn yc : Nat) (oa : Option Addr) (on oc : Nat) (va : Option Addr) (vn vc : Nat) (fa : Option Addr) (fn fc : Nat) (ba : Option Addr) (bn bc : Nat) (xa : Option Addr) (xn xc : Nat) (ins : List (List Int)) (fuel : Int) (gs : List (Int × Int)) (sp : List Int) (ls ms : List Lab) (vs : List (Bool × Lab)) (fs : List FnD) (l : List D) (w : World) (h : ProgAt K kf m ga gn gc sa sn sc ya yn yc oa on oc va vn vc fa fn fc ba bn bc gs sp ls ms vs fs l w) (hx : ListsAt w (.slice xa xn xc) ins) :
    Calls Try.prog 5 #[.agg #[.int .i64 m, .slice ga gn gc, .slice sa sn sc, .slice ya yn yc, .slice oa on oc, .slice va vn vc, .slice fa fn fc, .slice ba bn bc], .slice xa xn xc, .int .i64 fuel] w (RunSaid K kf vn yn fs l ins fuel w) := by
  have hbel : Below w.heap.size w ((w.alloc (.cells #[.int .i64 m, .slice ga gn gc, .slice sa sn sc, .slice ya yn yc, .slice oa on oc, .slice va vn vc, .slice fa fn fc, .slice ba bn bc] 31)).alloc (.cells #[.slice none 0 0, .slice none 0 0, .slice none 0 0, .int .i64 0, .int .i64 0, .int .i64 0] 35)) := ((Below.refl _ w).alloc (Nat.le_refl _) _).alloc (by simp) _
  have HP := hide (h.over hbel)
  have HX := hide (hx.over hbel)
  have K1 := hide (runCheck_any K kf m ga gn gc sa sn sc ya yn yc oa on oc va vn vc fa fn fc ba bn bc xa xn xc ins fuel gs sp ls ms vs fs l _ HP.out HX.out)
  have c0 : ((w.alloc (.cells #[.int .i64 m, .slice ga gn gc, .slice sa sn sc, .slice ya yn yc, .slice oa on oc, .slice va vn vc, .slice fa fn fc, .slice ba bn bc] 31)).alloc (.cells #[.slice none 0 0, .slice none 0 0, .slice none 0 0, .int .i64 0, .int .i64 0, .int .i64 0] 35)).cell? ⟨w.heap.size, 0, none⟩ = some (.int .i64 m) := by simp [go_sem]
  have c1 : ((w.alloc (.cells #[.int .i64 m, .slice ga gn gc, .slice sa sn sc, .slice ya yn yc, .slice oa on oc, .slice va vn vc, .slice fa fn fc, .slice ba bn bc] 31)).alloc (.cells #[.slice none 0 0, .slice none 0 0, .slice none 0 0, .int .i64 0, .int .i64 0, .int .i64 0] 35)).cell? ⟨w.heap.size, 1, none⟩ = some (.slice ga gn gc) := by simp [go_sem]
  have c2 : ((w.alloc (.cells #[.int .i64 m, .slice ga gn gc, .slice sa sn sc, .slice ya yn yc, .slice oa on oc, .slice va vn vc, .slice fa fn fc, .slice ba bn bc] 31)).alloc (.cells #[.slice none 0 0, .slice none 0 0, .slice none 0 0, .int .i64 0, .int .i64 0, .int .i64 0] 35)).cell? ⟨w.heap.size, 2, none⟩ = some (.slice sa sn sc) := by simp [go_sem]
  have c3 : ((w.alloc (.cells #[.int .i64 m, .slice ga gn gc, .slice sa sn sc, .slice ya yn yc, .slice oa on oc, .slice va vn vc, .slice fa fn fc, .slice ba bn bc] 31)).alloc (.cells #[.slice none 0 0, .slice none 0 0, .slice none 0 0, .int .i64 0, .int .i64 0, .int .i64 0] 35)).cell? ⟨w.heap.size, 3, none⟩ = some (.slice ya yn yc) := by simp [go_sem]
  have c4 : ((w.alloc (.cells #[.int .i64 m, .slice ga gn gc, .slice sa sn sc, .slice ya yn yc, .slice oa on oc, .slice va vn vc, .slice fa fn fc, .slice ba bn bc] 31)).alloc (.cells #[.slice none 0 0, .slice none 0 0, .slice none 0 0, .int .i64 0, .int .i64 0, .int .i64 0] 35)).cell? ⟨w.heap.size, 4, none⟩ = some (.slice oa on oc) := by simp [go_sem]
  have c5 : ((w.alloc (.cells #[.int .i64 m, .slice ga gn gc, .slice sa sn sc, .slice ya yn yc, .slice oa on oc, .slice va vn vc, .slice fa fn fc, .slice ba bn bc] 31)).alloc (.cells #[.slice none 0 0, .slice none 0 0, .slice none 0 0, .int .i64 0, .int .i64 0, .int .i64 0] 35)).cell? ⟨w.heap.size, 5, none⟩ = some (.slice va vn vc) := by simp [go_sem]
  have c6 : ((w.alloc (.cells #[.int .i64 m, .slice ga gn gc, .slice sa sn sc, .slice ya yn yc, .slice oa on oc, .slice va vn vc, .slice fa fn fc, .slice ba bn bc] 31)).alloc (.cells #[.slice none 0 0, .slice none 0 0, .slice none 0 0, .int .i64 0, .int .i64 0, .int .i64 0] 35)).cell? ⟨w.heap.size, 6, none⟩ = some (.slice fa fn fc) := by simp [go_sem]
  have c7 : ((w.alloc (.cells #[.int .i64 m, .slice ga gn gc, .slice sa sn sc, .slice ya yn yc, .slice oa on oc, .slice va vn vc, .slice fa fn fc, .slice ba bn bc] 31)).alloc (.cells #[.slice none 0 0, .slice none 0 0, .slice none 0 0, .int .i64 0, .int .i64 0, .int .i64 0] 35)).cell? ⟨w.heap.size, 7, none⟩ = some (.slice ba bn bc) := by simp [go_sem]
  have HO0 : Hid (RowAt [.slice none 0 0, .slice none 0 0, .slice none 0 0, .int .i64 0, .int .i64 0, .int .i64 0] ((w.alloc (.cells #[.int .i64 m, .slice ga gn gc, .slice sa sn sc, .slice ya yn yc, .slice oa on oc, .slice va vn vc, .slice fa fn fc, .slice ba bn bc] 31)).alloc (.cells #[.slice none 0 0, .slice none 0 0, .slice none 0 0, .int .i64 0, .int .i64 0, .int .i64 0] 35)) (w.heap.size + 1) ∧ ∀ j, ((w.alloc (.cells #[.int .i64 m, .slice ga gn gc, .slice sa sn sc, .slice ya yn yc, .slice oa on oc, .slice va vn vc, .slice fa fn fc, .slice ba bn bc] 31)).alloc (.cells #[.slice none 0 0, .slice none 0 0, .slice none 0 0, .int .i64 0, .int .i64 0, .int .i64 0] 35)).frozen? ⟨w.heap.size + 1, j, none⟩ = false) := by
    refine ⟨?_, fun j => by simp [go_sem]⟩
    have := RowAt.newA #[.slice none 0 0, .slice none 0 0, .slice none 0 0, .int .i64 0, .int .i64 0, .int .i64 0] 35 (w.alloc (.cells #[.int .i64 m, .slice ga gn gc, .slice sa sn sc, .slice ya yn yc, .slice oa on oc, .slice va vn vc, .slice fa fn fc, .slice ba bn bc] 31))
    simpa using this
  have hfl : fn = fs.length := by obtain ⟨-, a, c, he, -⟩ := h.funcs; injection he
  have HFL := hide hfl
  have HB := hide hbel
  clear h hx hfl
  go_enter Try.func5, Try.ntmps5
  go_wp2_with fail
  refine (K1.out).mono ?_
  rintro e w1 ⟨why, rfl, hok, hb1⟩
  have d0 := cell_over hb1 _ _ c0
  have d1 := cell_over hb1 _ _ c1
  have d2 := cell_over hb1 _ _ c2
  have d3 := cell_over hb1 _ _ c3
  have d4 := cell_over hb1 _ _ c4
  have d5 := cell_over hb1 _ _ c5
  have d6 := cell_over hb1 _ _ c6
  have d7 := cell_over hb1 _ _ c7
  have HP1 := hide (HP.out.over hb1)
  have HX1 := hide (HX.out.over hb1)
  have hB1 := hbel.trans (hb1.mono hbel.size)
  have HO := hide (And.intro (HO0.out.1.over hb1) (fun j => ((bcell hb1).2 (w.heap.size + 1) j (by simp)).trans (HO0.out.2 j)))
  have hl1 : w.heap.size + 1 < w1.heap.size := by have := hb1.size; simp at this; omega
  have HOK := hide hok
  clear K1 c0 c1 c2 c3 c4 c5 c6 c7 hb1 HP HX hok hbel
  by_cases hw : why = 0
  rotate_left
  · have hwb : (why == 0) = false := by simpa using hw
    have o0 := HO.out.1 0 _ rfl
    have y0 := HO.out.2 0
    have o1 := HO.out.1 1 _ rfl
    have y1 := HO.out.2 1
    have o2 := HO.out.1 2 _ rfl
    have y2 := HO.out.2 2
    have o3 := HO.out.1 3 _ rfl
    have y3 := HO.out.2 3
    have o4 := HO.out.1 4 _ rfl
    have y4 := HO.out.2 4
    have o5 := HO.out.1 5 _ rfl
    have y5 := HO.out.2 5
    go_wp2_with fail
    have hF := ((((((HO.out.1.set (j := 0) (v := .slice none 0 0) (by simp)).set (j := 1) (v := .slice none 0 0) (by simp)).set (j := 2) (v := .slice none 0 0) (by simp)).set (j := 3) (v := .int .i64 0) (by simp)).set (j := 4) (v := .int .i64 0) (by simp)).set (j := 5) (v := .int .i64 0) (by simp))
    have e0 := hF 0 _ rfl
    have e1 := hF 1 _ rfl
    have e2 := hF 2 _ rfl
    have e3 := hF 3 _ rfl
    have e4 := hF 4 _ rfl
    have e5 := hF 5 _ rfl
    have hBf : Below w.heap.size w ((((((w1.setCell ⟨w.heap.size + 1, 0, none⟩ (.slice none 0 0)).setCell ⟨w.heap.size + 1, 1, none⟩ (.slice none 0 0)).setCell ⟨w.heap.size + 1, 2, none⟩ (.slice none 0 0)).setCell ⟨w.heap.size + 1, 3, none⟩ (.int .i64 0)).setCell ⟨w.heap.size + 1, 4, none⟩ (.int .i64 0)).setCell ⟨w.heap.size + 1, 5, none⟩ (.int .i64 0)) := ((((((((((((hB1).setCell (by simp) _)).setCell (by simp) _)).setCell (by simp) _)).setCell (by simp) _)).setCell (by simp) _)).setCell (by simp) _)
    refine bodyPost_ret (v := .tuple #[.agg #[.slice none 0 0, .slice none 0 0, .slice none 0 0, .int .i64 0, .int .i64 0, .int .i64 0], .int .i64 why]) ?_ rfl ⟨Or.inl ⟨why, hw, rfl⟩, hBf⟩
    generalize ((((((w1.setCell ⟨w.heap.size + 1, 0, none⟩ (.slice none 0 0)).setCell ⟨w.heap.size + 1, 1, none⟩ (.slice none 0 0)).setCell ⟨w.heap.size + 1, 2, none⟩ (.slice none 0 0)).setCell ⟨w.heap.size + 1, 3, none⟩ (.int .i64 0)).setCell ⟨w.heap.size + 1, 4, none⟩ (.int .i64 0)).setCell ⟨w.heap.size + 1, 5, none⟩ (.int .i64 0)) = WF at e0 e1 e2 e3 e4 e5 ⊢
    simp [results, Try.results5, go_sem, e0, e1, e2, e3, e4, e5]
  subst hw
  have hok := HOK.out rfl
  have hpk := hok.prog
  obtain ⟨F, hF⟩ := Int.eq_ofNat_of_zero_le hok.f0
  subst hF
  have hf1 := hok.f1
  have hcnt : cntF kf fs + cnts kf l ≤ 50 := hpk.many
  have KN := hide (newRunner_any K kf m ga gn gc sa sn sc ya yn yc oa on oc va vn vc fa fn fc ba bn bc xa xn xc F fs w1 HP1.out.funcs (by omega) (by rw [HFL.out]; exact hpk.funcs) hpk.vars hpk.ins)
  have HOK2 := hide hok
  clear hok hpk hcnt HOK
  go_wp2_with fail
  refine (KN.out).mono ?_
  rintro e w2 ⟨br, b1, b2, b3, c3, rfl, hr2, hb2⟩
  have hX : CtxR K kf m ga gn gc sa sn sc ya yn yc oa on oc va vn vc fa fn fc ba bn bc xa xn xc F (fs.length + 1) c3 br b1 b2 b3 (flOf kf fs fs.length) 2 fs ins w1 := by
    have hok := HOK2.out
    exact ⟨HP1.out.funcs, HX1.out, hok.many, hok.long, hok.num, by omega, hok.prog.vars, HFL.out, hok.prog.funcs, rfl, rfl, by have := hok.prog.many; omega, hok.prog.body⟩
  have KR := hide (runM_any K kf m ga gn gc sa sn sc ya yn yc oa on oc va vn vc fa fn fc ba bn bc xa xn xc F (fs.length + 1) c3 br b1 b2 b3 (flOf kf fs fs.length) fs ins l w1 w2 hX HP1.out.main HOK2.out.prog.main HOK2.out.prog.many hr2 hb2)
  have hB2 := hB1.trans (hb2.mono hB1.size)
  have HB2 := hide hB2
  have HB12 := hide hb2
  have HR2 := hide hr2
  have HB1 := hide hB1
  clear KN hr2 hb2 hX hB1 hB2 d0 d1 d2 d3 d4 d5 d6 d7 HP1 HX1
  obtain ⟨T, hT⟩ : ∃ T, T = runX K kf fs F ins l vn yn := ⟨_, rfl⟩
  rw [← hT] at KR
  have HT := hide hT
  clear hT
  go_wp2_with fail
  refine (KR.out).mono ?_
  rintro e w3 ⟨rfl, ev, hr3, hf3, hno3⟩
  have hB3 : Below w.heap.size w w3 := HB2.out.trans ((HR2.out.below hf3).mono HB1.out.size)
  have x0 := hr3.row 0 _ rfl
  have x1 := hr3.row 1 _ rfl
  have x2 := hr3.row 2 _ rfl
  have x3 := hr3.row 3 _ rfl
  have x4 := hr3.row 4 _ rfl
  have x5 := hr3.row 5 _ rfl
  rw [hno3.vl] at x1
  rw [hno3.tl] at x2
  have hla := hr3.hi.1
  have HF : Hid (RunAt w.heap.size vn yn F T ev b1 b2 w3) := ⟨own_base hr3.own HB1.out.size, hr3.vars, hr3.taken, hno3⟩
  obtain ⟨stp, hsp⟩ : ∃ q, q = (T.2.steps : Int) := ⟨_, rfl⟩
  obtain ⟨en, hen⟩ : ∃ q, q = endX T.1 := ⟨_, rfl⟩
  rw [← hsp] at x3
  rw [← hen] at x4
  have HSP := hide hsp
  have HEN := hide hen
  obtain ⟨ea, el, ec, hev⟩ : ∃ a n c, ev = .slice a n c := by
    rcases hr3.own.2 with ⟨h, _⟩ | ⟨g, cap, cur, h, _⟩
    · exact ⟨_, _, _, h⟩
    · exact ⟨_, _, _, h⟩
  subst hev
  have hlo := hr3.lo
  have n1 : b1 ≠ w.heap.size + 1 := by omega
  have n2 : b2 ≠ w.heap.size + 1 := by omega
  have n3 : (Value.slice ea el ec).ownBlock ≠ some (w.heap.size + 1) := fun hx => by have := (hr3.ev' _ hx).1; omega
  have hb13 : Below w1.heap.size w1 w3 := HB12.out.trans (HR2.out.below hf3)
  have HO3 : Hid (RowAt [.slice none 0 0, .slice none 0 0, .slice none 0 0, .int .i64 0, .int .i64 0, .int .i64 0] w3 (w.heap.size + 1) ∧ ∀ j, w3.frozen? ⟨w.heap.size + 1, j, none⟩ = false) := ⟨HO.out.1.over hb13, fun j => ((bcell hb13).2 (w.heap.size + 1) j hl1).trans (HO.out.2 j)⟩
  have o0 := HO3.out.1 0 _ rfl
  have y0 := HO3.out.2 0
  have o1 := HO3.out.1 1 _ rfl
  have y1 := HO3.out.2 1
  have o2 := HO3.out.1 2 _ rfl
  have y2 := HO3.out.2 2
  have o3 := HO3.out.1 3 _ rfl
  have y3 := HO3.out.2 3
  have o4 := HO3.out.1 4 _ rfl
  have y4 := HO3.out.2 4
  have o5 := HO3.out.1 5 _ rfl
  have y5 := HO3.out.2 5
  have hl3 : w.heap.size + 1 < w3.heap.size := Nat.lt_of_lt_of_le hl1 hb13.size
  clear KR hr3 hf3 hno3 hsp hen hlo
  go_wp2_with fail
  have hF := ((((((HO3.out.1.set (j := 0) (v := .slice ea el ec) (by simp)).set (j := 1) (v := .slice (some ⟨b1, 0, none⟩) vn vn) (by simp)).set (j := 2) (v := .slice (some ⟨b2, 0, none⟩) yn yn) (by simp)).set (j := 3) (v := .int .i64 stp) (by simp)).set (j := 4) (v := .int .i64 en) (by simp)).set (j := 5) (v := .int .i64 0) (by simp))
  have e0 := hF 0 _ rfl
  have e1 := hF 1 _ rfl
  have e2 := hF 2 _ rfl
  have e3 := hF 3 _ rfl
  have e4 := hF 4 _ rfl
  have e5 := hF 5 _ rfl
  have hBf : Below w.heap.size w ((((((w3.setCell ⟨w.heap.size + 1, 0, none⟩ (.slice ea el ec)).setCell ⟨w.heap.size + 1, 1, none⟩ (.slice (some ⟨b1, 0, none⟩) vn vn)).setCell ⟨w.heap.size + 1, 2, none⟩ (.slice (some ⟨b2, 0, none⟩) yn yn)).setCell ⟨w.heap.size + 1, 3, none⟩ (.int .i64 stp)).setCell ⟨w.heap.size + 1, 4, none⟩ (.int .i64 en)).setCell ⟨w.heap.size + 1, 5, none⟩ (.int .i64 0)) := ((((((((((((hB3).setCell (by simp) _)).setCell (by simp) _)).setCell (by simp) _)).setCell (by simp) _)).setCell (by simp) _)).setCell (by simp) _)
  have hRA := ((((((HF.out.other n1 n2 n3 0 (.slice ea el ec)).other n1 n2 n3 1 (.slice (some ⟨b1, 0, none⟩) vn vn)).other n1 n2 n3 2 (.slice (some ⟨b2, 0, none⟩) yn yn)).other n1 n2 n3 3 (.int .i64 stp)).other n1 n2 n3 4 (.int .i64 en)).other n1 n2 n3 5 (.int .i64 0))
  refine bodyPost_ret (v := .tuple #[.agg #[.slice ea el ec, .slice (some ⟨b1, 0, none⟩) vn vn, .slice (some ⟨b2, 0, none⟩) yn yn, .int .i64 stp, .int .i64 en, .int .i64 0], .int .i64 0]) ?_ rfl ?_
  rotate_left
  · have hT := HT.out
    subst hT
    have h1 := HSP.out
    subst h1
    have h2 := HEN.out
    subst h2
    exact ⟨Or.inr ⟨HOK2.out, _, b1, b2, rfl, hRA⟩, hBf⟩
  generalize ((((((w3.setCell ⟨w.heap.size + 1, 0, none⟩ (.slice ea el ec)).setCell ⟨w.heap.size + 1, 1, none⟩ (.slice (some ⟨b1, 0, none⟩) vn vn)).setCell ⟨w.heap.size + 1, 2, none⟩ (.slice (some ⟨b2, 0, none⟩) yn yn)).setCell ⟨w.heap.size + 1, 3, none⟩ (.int .i64 stp)).setCell ⟨w.heap.size + 1, 4, none⟩ (.int .i64 en)).setCell ⟨w.heap.size + 1, 5, none⟩ (.int .i64 0)) = WF at e0 e1 e2 e3 e4 e5 ⊢
  simp [results, Try.results5, go_sem, e0, e1, e2, e3, e4, e5]
end Go.Proofs.Ytpbnmmgocpobcaa.Ex
