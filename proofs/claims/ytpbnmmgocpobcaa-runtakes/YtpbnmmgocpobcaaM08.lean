/- How many commands there are: the program's own count, whatever it is handed. -/
import Derived.Test.YtpbnmmgocpobcaaM07
import Derived.Deep.QuietTactic
import Derived.BigQuiet
namespace Go.Proofs.Ytpbnmmgocpobcaa.Ex
open Go.RowKit
set_option linter.unusedVariables false

@[simp] theorem sKind_s (kd va ot : Int) (e : D) (ags ts es : List D) : sKind (sD kd va ot e ags ts es) = kd := rfl
@[simp] theorem sVar_s (kd va ot : Int) (e : D) (ags ts es : List D) : sVar (sD kd va ot e ags ts es) = va := rfl
@[simp] theorem sOther_s (kd va ot : Int) (e : D) (ags ts es : List D) : sOther (sD kd va ot e ags ts es) = ot := rfl
@[simp] theorem sExpr_s (kd va ot : Int) (e : D) (ags ts es : List D) : sExpr (sD kd va ot e ags ts es) = e := rfl
@[simp] theorem sArgs_s (kd va ot : Int) (e : D) (ags ts es : List D) : sArgs (sD kd va ot e ags ts es) = ags := rfl
@[simp] theorem sThen_s (kd va ot : Int) (e : D) (ags ts es : List D) : sThen (sD kd va ot e ags ts es) = ts := rfl
@[simp] theorem sElse_s (kd va ot : Int) (e : D) (ags ts es : List D) : sElse (sD kd va ot e ags ts es) = es := rfl

/-- the nine cells of a command. -/
abbrev sC (kd va ot ek en : Int) (xa : Option Addr) (xl xc : Nat) (aa : Option Addr) (al ac : Nat) (ta : Option Addr) (tl tc : Nat) (ea : Option Addr) (el ec : Nat) : List Value :=
  [.int .i64 kd, .int .i64 va, .int .i64 ot, .int .i64 ek, .int .i64 en, .slice xa xl xc, .slice aa al ac, .slice ta tl tc, .slice ea el ec]

theorem RS.form {w : World} {K k : Nat} {cs : List Value} {d : D} (h : RS w K (k + 1) cs d) :
    ∃ (ek en : Int) (xa : Option Addr) (xl xc : Nat) (aa : Option Addr) (ac : Nat) (ta : Option Addr) (tc : Nat) (ea : Option Addr) (ec : Nat),
      cs = sC (sKind d) (sVar d) (sOther d) ek en xa xl xc aa (sArgs d).length ac ta (sThen d).length tc ea (sElse d).length ec ∧ In64 (sKind d) ∧ In64 (sVar d) ∧ In64 (sOther d) ∧
      RX w K [.int .i64 ek, .int .i64 en, .slice xa xl xc] (sExpr d) ∧ XS 3 (RX w K) w (.slice aa (sArgs d).length ac) (sArgs d) ∧ StmtsAt w K k (.slice ta (sThen d).length tc) (sThen d) ∧ StmtsAt w K k (.slice ea (sElse d).length ec) (sElse d) ∧
      ek = kindOf (sExpr d) ∧ en = numOf (sExpr d) ∧ xl = (argsOf (sExpr d)).length := by
  obtain ⟨kd, va, ot, x0, x1, x2, e, vA, ags, vT, ts, vE, es, rfl, rfl, h1, h2, h3, he, hA, hT, hE⟩ := h
  obtain ⟨xa, xc, hx⟩ := he.form
  simp only [List.cons.injEq, and_true] at hx
  obtain ⟨rfl, rfl, rfl⟩ := hx
  obtain ⟨aa, ac, rfl, -⟩ := hA.2
  obtain ⟨ta, tc, rfl, -⟩ := hT.2
  obtain ⟨ea, ec, rfl, -⟩ := hE.2
  exact ⟨_, _, xa, _, xc, aa, ac, ta, tc, ea, ec, rfl, h1, h2, h3, he, hA, hT, hE, rfl, rfl, rfl⟩

def cntS : Nat → D → Nat
  | 0, _ => 0
  | k + 1, d => 1 + ((sThen d).map (cntS k)).sum + ((sElse d).map (cntS k)).sum
def cnts (k : Nat) (l : List D) : Nat := (l.map (cntS k)).sum
theorem cnts_take {k : Nat} {l : List D} {j : Nat} (hj : j < l.length) : cnts k (l.take (j + 1)) = cnts k (l.take j) + cntS k l[j] := by
  unfold cnts
  rw [List.take_succ_eq_append_getElem hj, List.map_append, List.sum_append]
  simp
theorem StmtsAt.zero {w : World} {K : Nat} {v : Value} {l : List D} (h : StmtsAt w K 0 v l) : l = [] := by
  cases l with
  | nil => rfl
  | cons d l =>
    obtain ⟨-, ao, cap, -, hc⟩ := h
    obtain ⟨b, off, -, hel⟩ := hc (by simp)
    obtain ⟨cs, -, -, hr⟩ := hel 0 d rfl
    exact hr.elim

/-- it says how many there are, if there are not too many; or it gives up. -/
def Counted (many n : Int) (w : World) (e : Ending) (w' : World) : Prop := ((e = .returned (.int .i64 (many + n)) ∧ many + n ≤ 50) ∨ e = gaveW 2) ∧ Below w.heap.size w w'

set_option maxHeartbeats 4000000 in
set_option maxRecDepth 100000 in
theorem count_any (K : Nat) : ∀ (k : Nat) (v : Value) (l : List D) (deep many : Int) (w : World), StmtsAt w K k v l → 0 ≤ deep → deep ≤ 7 → 0 ≤ many → many ≤ 50 →
    Calls Try.prog 59 #[v, .int .i64 deep, .int .i64 many] w (Counted many (cnts k l) w) := by
  intro k
  induction k with
  | zero =>
    intro v l deep many w h d0 d1 m0 m1
    obtain rfl := h.zero
    obtain ⟨-, ao, cap, rfl, -⟩ := h
    have hz : many + ((cnts 0 [] : Nat) : Int) = many := by simp [cnts]
    show Calls Try.prog 59 #[.slice ao 0 cap, .int .i64 deep, .int .i64 many] w _
    go_enter Try.func59, Try.ntmps59
    go_wp2_with fail
    go_loopw [2, 11] (fun c i wr => c = .int .i64 many ∧ i = .int .i64 0 ∧ wr = w) (fun _ _ _ => 0)
    case atStart => exact ⟨rfl, rfl, rfl⟩
    case round =>
      obtain ⟨rfl, rfl, hw⟩ := hrel
      have hw' := hw.symm
      subst hw'
      clear hw
      go_wp2_with fail
      go_ret
      exact ⟨Or.inl ⟨by rw [hz]; rfl, by rw [hz]; exact m1⟩, Below.refl _ _⟩
  | succ k ih =>
    intro v l deep many w h d0 d1 m0 m1
    have HS := hide h
    have hlen : l.length ≤ 9223372036854775807 := h.1
    obtain ⟨ao, cap, rfl, hc⟩ := h.2
    have HC := hide hc
    have IH := hide ih
    clear hc ih h
    have KM := hide must_any
    go_enter Try.func59, Try.ntmps59
    go_wp2_with fail
    go_loopw [2, 11] (fun c i wr => ∃ j : Nat, j ≤ l.length ∧ i = .int .i64 j ∧ c = .int .i64 (many + (cnts (k + 1) (l.take j) : Nat)) ∧ many + (cnts (k + 1) (l.take j) : Nat) ≤ 50 ∧ Below w.heap.size w wr) (fun _ i _ => l.length - (intOf i).toNat)
    case atStart => exact ⟨0, Nat.zero_le _, rfl, by simp [cnts], by simp [cnts]; omega, Below.refl _ w⟩
    case round =>
      obtain ⟨j, hj, rfl, rfl, hle, hB⟩ := hrel
      by_cases hjl : j < l.length
      · obtain ⟨b, off, rfl, hcl⟩ := HC.out (by rintro rfl; simp at hjl)
        obtain ⟨cs, hl9, hcs, hr⟩ := hcl j l[j] (List.getElem?_eq_getElem hjl)
        have htk := cnts_take (k := k + 1) hjl
        have hcn : cntS (k + 1) l[j] = 1 + cnts k (sThen l[j]) + cnts k (sElse l[j]) := rfl
        rw [hcn] at htk
        obtain ⟨d, hd⟩ : ∃ d, d = l[j] := ⟨_, rfl⟩
        rw [← hd] at hr htk
        obtain ⟨ek, en, xa, xl, xc, aa, ac, ta, tc, ea, ec, hcse, -, -, -, -, -, hT, hE, -, -, -⟩ := hr.form
        subst hcse
        obtain ⟨M, hM⟩ : ∃ M : Int, M = many + (cnts (k + 1) (l.take j) : Nat) := ⟨_, rfl⟩
        rw [← hM] at hle ⊢
        have hM0 : 0 ≤ M := by omega
        obtain ⟨n1, hn1⟩ : ∃ n : Nat, n = cnts k (sThen d) := ⟨_, rfl⟩
        obtain ⟨n2, hn2⟩ : ∃ n : Nat, n = cnts k (sElse d) := ⟨_, rfl⟩
        rw [← hn1, ← hn2] at htk
        have HTK := hide htk
        have HMM := hide hM
        clear htk hM hcn
        obtain ⟨kd, hkd⟩ : ∃ q, q = sKind d := ⟨_, rfl⟩
        obtain ⟨va, hva⟩ : ∃ q, q = sVar d := ⟨_, rfl⟩
        obtain ⟨ot, hot⟩ : ∃ q, q = sOther d := ⟨_, rfl⟩
        obtain ⟨al, hal⟩ : ∃ q, q = (sArgs d).length := ⟨_, rfl⟩
        obtain ⟨tl, htl⟩ : ∃ q, q = (sThen d).length := ⟨_, rfl⟩
        obtain ⟨el, hel⟩ : ∃ q, q = (sElse d).length := ⟨_, rfl⟩
        rw [← htl] at hT
        rw [← hel] at hE
        rw [← hkd, ← hva, ← hot, ← hal, ← htl, ← hel] at hcs
        have q0 : wr.cell? ⟨b, off + j * 9, none⟩ = _ := cell_over hB _ _ (hcs 0 _ rfl)
        have q1 := cell_over hB _ _ (hcs 1 _ rfl)
        have q2 := cell_over hB _ _ (hcs 2 _ rfl)
        have q3 := cell_over hB _ _ (hcs 3 _ rfl)
        have q4 := cell_over hB _ _ (hcs 4 _ rfl)
        have q5 := cell_over hB _ _ (hcs 5 _ rfl)
        have q6 := cell_over hB _ _ (hcs 6 _ rfl)
        have q7 := cell_over hB _ _ (hcs 7 _ rfl)
        have q8 := cell_over hB _ _ (hcs 8 _ rfl)
        have hba : Below wr.heap.size wr (wr.alloc (.cells #[.int .i64 kd, .int .i64 va, .int .i64 ot, .int .i64 ek, .int .i64 en, .slice xa xl xc, .slice aa al ac, .slice ta tl tc, .slice ea el ec] 71)) := (Below.refl _ wr).alloc (Nat.le_refl _) _
        have hBa := hB.trans (hba.mono hB.size)
        have hTa := hT.over hBa
        have K1 := hide fun (h1 : M + 1 ≤ 50) (h2 : deep ≤ 6) => IH.out (.slice ta tl tc) (sThen d) (deep + 1) (M + 1) _ hTa (by omega) (by omega) (by omega) h1
        have K2 := hide fun W (hW : Below w.heap.size w W) (mm : Int) (h0 : 0 ≤ mm) (h1 : mm ≤ 50) (h2 : deep ≤ 6) => IH.out (.slice ea el ec) (sElse d) (deep + 1) mm W (hE.over hW) (by omega) (by omega) h0 h1
        rw [← hn1] at K1
        rw [← hn2] at K2
        have s8 : (wr.alloc (.cells #[.int .i64 kd, .int .i64 va, .int .i64 ot, .int .i64 ek, .int .i64 en, .slice xa xl xc, .slice aa al ac, .slice ta tl tc, .slice ea el ec] 71)).cell? ⟨wr.heap.size, 8, none⟩ = some (.slice ea el ec) := by simp [go_sem]
        clear hT hE hTa hcs hcl hr hl9 hn1 hn2 hkd hva hot hal htl hel hd
        by_cases c1 : M + 1 ≤ 50 ∧ deep ≤ 6
        · obtain ⟨c1, c2⟩ := c1
          have K1' := hide (K1.out c1 c2)
          go_wp2_with fail
          refine (KM.out true 2 _).mono ?_
          rintro e wz ⟨he, rfl⟩
          have he2 : e = .returned (.tuple #[]) := by
            rcases he with ⟨_, he⟩ | ⟨he, _⟩
            · exact he
            · cases he
          subst he2
          clear he
          go_wp2_with fail
          refine (K1'.out).mono ?_
          rintro e w1 ⟨he, hb1⟩
          have hB1 := hBa.trans (hb1.mono hBa.size)
          rcases he with ⟨rfl, hm1⟩ | rfl
          · have t8 := cell_over hb1 _ _ s8
            have hM1 : 0 ≤ M + 1 + (n1 : Int) := by omega
            obtain ⟨M1, hM1e⟩ : ∃ q, q = M + 1 + (n1 : Int) := ⟨_, rfl⟩
            rw [← hM1e] at hm1 hM1 ⊢
            have HME := hide hM1e
            clear hM1e
            have K2' := hide (K2.out w1 hB1 M1 hM1 hm1 c2)
            clear K1 K2 K1' s8 hb1 hBa q0 q1 q2 q3 q4 q5 q6 q7 q8 hB hba
            go_wp2_with fail
            refine (K2'.out).mono ?_
            rintro e w2 ⟨he, hb2⟩
            have hB2 := hB1.trans (hb2.mono hB1.size)
            rcases he with ⟨rfl, hm2⟩ | rfl
            · clear K2' t8 hb2 hB1
              go_wp2_with fail
              refine ⟨⟨j + 1, by omega, by go_num, ?_, ?_, hB2⟩, by simp [intOf]; omega⟩
              · rw [HTK.out]
                have := HMM.out
                refine congrArg (Value.int IntKind.i64) ?_
                have h2 := HME.out
                push_cast
                omega
              · rw [HTK.out]
                have := HMM.out
                have h2 := HME.out
                push_cast
                omega
            · unfold gaveW
              go_wp2_with fail
              exact ⟨rfl, Or.inr rfl, hB2⟩
          · unfold gaveW
            go_wp2_with fail
            exact ⟨rfl, Or.inr rfl, hB1⟩
        · clear K1 K2 s8
          by_cases c2 : M + 1 ≤ 50
          · have c3 : ¬ deep ≤ 6 := fun h => c1 ⟨c2, h⟩
            clear c1
            go_wp2_with fail
            refine (KM.out false 2 _).mono ?_
            rintro e wz ⟨he, rfl⟩
            have he2 : e = gaveW 2 := by
              rcases he with ⟨he, _⟩ | ⟨_, he⟩
              · cases he
              · exact he
            subst he2
            clear he
            unfold gaveW
            go_wp2_with fail
            exact ⟨rfl, Or.inr rfl, hBa⟩
          · clear c1
            go_wp2_with fail
            refine (KM.out false 2 _).mono ?_
            rintro e wz ⟨he, rfl⟩
            have he2 : e = gaveW 2 := by
              rcases he with ⟨he, _⟩ | ⟨_, he⟩
              · cases he
              · exact he
            subst he2
            clear he
            unfold gaveW
            go_wp2_with fail
            exact ⟨rfl, Or.inr rfl, hBa⟩
      · have hd : l.take j = l := List.take_of_length_le (by omega)
        rw [hd] at hle ⊢
        go_wp2_with fail
        go_ret
        exact ⟨Or.inl ⟨rfl, hle⟩, hB⟩
end Go.Proofs.Ytpbnmmgocpobcaa.Ex
/- The limits of commands, whatever program it is. -/
namespace Go.Proofs.Ytpbnmmgocpobcaa.Ex
open Go.RowKit
set_option linter.unusedVariables false

def cntF (k : Nat) (fs : List FnD) : Nat := (fs.map fun f => cnts k f.body).sum
theorem cntF_take {k : Nat} {l : List FnD} {j : Nat} (hj : j < l.length) : cntF k (l.take (j + 1)) = cntF k (l.take j) + cnts k l[j].body := by
  unfold cntF
  rw [List.take_succ_eq_append_getElem hj, List.map_append, List.sum_append]
  simp

/-- all is within the limits, or it gives up. -/
def Limited (n : Int) (w : World) (e : Ending) (w' : World) : Prop := ((e = .returned (.tuple #[]) ∧ n ≤ 50) ∨ e = gaveW 2) ∧ Below w.heap.size w w'

set_option maxHeartbeats 4000000 in
set_option maxRecDepth 100000 in
theorem limits_any (K k : Nat) (m : Int) (ga : Option Addr) (gn gc : Nat) (sa : Option Addr) (sn sc : Nat) (ya : Option Addr) (yn yc : Nat) (oa : Option Addr) (on oc : Nat) (va : Option Addr) (vn vc : Nat) (fa : Option Addr) (fn fc : Nat) (ba : Option Addr) (bn bc : Nat) (fs : List FnD) (l : List D) (w : World) (hf : FnsAt w K k (.slice fa fn fc) fs) (hl : StmtsAt w K k (.slice ba bn bc) l) :
    Calls Try.prog 43 #[.agg #[.int .i64 m, .slice ga gn gc, .slice sa sn sc, .slice ya yn yc, .slice oa on oc, .slice va vn vc, .slice fa fn fc, .slice ba bn bc]] w (Limited ((cntF k fs : Nat) + (cnts k l : Nat)) w) := by
  have c6 : (w.alloc (.cells #[.int .i64 m, .slice ga gn gc, .slice sa sn sc, .slice ya yn yc, .slice oa on oc, .slice va vn vc, .slice fa fn fc, .slice ba bn bc] 75)).cell? ⟨w.heap.size, 6, none⟩ = some (.slice fa fn fc) := by simp [go_sem]
  have c7 : (w.alloc (.cells #[.int .i64 m, .slice ga gn gc, .slice sa sn sc, .slice ya yn yc, .slice oa on oc, .slice va vn vc, .slice fa fn fc, .slice ba bn bc] 75)).cell? ⟨w.heap.size, 7, none⟩ = some (.slice ba bn bc) := by simp [go_sem]
  have hbel : Below w.heap.size w (w.alloc (.cells #[.int .i64 m, .slice ga gn gc, .slice sa sn sc, .slice ya yn yc, .slice oa on oc, .slice va vn vc, .slice fa fn fc, .slice ba bn bc] 75)) := (Below.refl _ w).alloc (Nat.le_refl _) _
  obtain ⟨hfl, fa', fc', hfe, hfc⟩ := hf
  injection hfe with e1 e2 e3
  subst e1 e2 e3
  have hfl' : fs.length ≤ 9223372036854775807 := hfl
  have HF := hide hfc
  have HM := hide hl
  clear hfc hl hfl
  have K1 := hide (count_any K)
  go_enter Try.func43, Try.ntmps43
  go_wp2_with fail
  go_loopw [2, 9] (fun c i wr => ∃ j : Nat, j ≤ fs.length ∧ i = .int .i64 j ∧ c = .int .i64 (cntF k (fs.take j) : Nat) ∧ ((cntF k (fs.take j) : Nat) : Int) ≤ 50 ∧ wr.cell? ⟨w.heap.size, 7, none⟩ = some (.slice ba bn bc) ∧ Below w.heap.size w wr) (fun _ i _ => fs.length - (intOf i).toNat)
  case atStart => exact ⟨0, Nat.zero_le _, rfl, by simp [cntF], by simp [cntF], c7, hbel⟩
  case round =>
    clear c6 c7 hbel
    obtain ⟨j, hj, rfl, rfl, hle, c7, hB⟩ := hrel
    by_cases hjl : j < fs.length
    · obtain ⟨b, off, rfl, hcl⟩ := HF.out (by rintro rfl; simp at hjl)
      obtain ⟨vP, vB, x0, x1, x2, q0, q1, q2, q3, q4, hp, hpl, hs, hx⟩ := hcl j hjl
      obtain ⟨pa, pc, rfl, -⟩ := hp
      obtain ⟨za, zc, rfl, -⟩ := hs.2
      obtain ⟨xa, xc, hxf⟩ := hx.form
      simp only [List.cons.injEq, and_true] at hxf
      obtain ⟨rfl, rfl, rfl⟩ := hxf
      have htk := cntF_take (k := k) hjl
      obtain ⟨fd, hfd⟩ : ∃ d, d = fs[j] := ⟨_, rfl⟩
      rw [← hfd] at q0 q1 q2 q3 q4 hs htk
      obtain ⟨M, hM⟩ : ∃ M : Nat, M = cntF k (fs.take j) := ⟨_, rfl⟩
      rw [← hM] at hle htk ⊢
      have HTK := hide htk
      clear htk hM
      have r0 : wr.cell? ⟨b, off + j * 5, none⟩ = _ := cell_over hB _ _ q0
      have r1 := cell_over hB _ _ q1
      have r2 := cell_over hB _ _ q2
      have r3 := cell_over hB _ _ q3
      have r4 := cell_over hB _ _ q4
      obtain ⟨pn, hpn⟩ : ∃ q, q = fd.ps.length := ⟨_, rfl⟩
      obtain ⟨zn, hzn⟩ : ∃ q, q = fd.body.length := ⟨_, rfl⟩
      obtain ⟨ek, hek⟩ : ∃ q, q = kindOf fd.res := ⟨_, rfl⟩
      obtain ⟨en, hen⟩ : ∃ q, q = numOf fd.res := ⟨_, rfl⟩
      obtain ⟨xl, hxl⟩ : ∃ q, q = (argsOf fd.res).length := ⟨_, rfl⟩
      rw [← hpn] at r0
      rw [← hzn] at r1 hs
      rw [← hek] at r2
      rw [← hen] at r3
      rw [← hxl] at r4
      have hba := (Below.refl _ wr).alloc (Nat.le_refl _) (.cells #[.slice pa pn pc, .slice za zn zc, .int .i64 ek, .int .i64 en, .slice xa xl xc] 80)
      have hBa := hB.trans (hba.mono hB.size)
      have c7' := cell_over hba _ _ c7
      have K1' := hide (K1.out k _ _ 1 (M : Int) _ (hs.over hBa) (by omega) (by omega) (by omega) hle)
      obtain ⟨n1, hn1⟩ : ∃ q, q = cnts k fd.body := ⟨_, rfl⟩
      rw [← hn1] at K1' HTK
      clear q0 q1 q2 q3 q4 hs hx hcl hfd hpn hzn hek hen hxl hn1 hpl
      go_wp2_with fail
      refine (K1'.out).mono ?_
      rintro e w1 ⟨he, hb1⟩
      have hB1 := hBa.trans (hb1.mono hBa.size)
      rcases he with ⟨rfl, hm1⟩ | rfl
      · have c7'' := cell_over hb1 _ _ c7'
        clear K1' hb1 hBa hba hB r0 r1 r2 r3 r4 c7 c7'
        go_wp2_with fail
        refine ⟨⟨j + 1, by omega, by go_num, ?_, ?_, c7'', hB1⟩, by simp [intOf]; omega⟩
        · rw [HTK.out]
          refine congrArg (Value.int IntKind.i64) ?_
          push_cast
          omega
        · rw [HTK.out]
          push_cast
          omega
      · unfold gaveW
        go_wp2_with fail
        exact ⟨rfl, Or.inr rfl, hB1⟩
    · have hd : fs.take j = fs := List.take_of_length_le (by omega)
      rw [hd] at hle ⊢
      have K1' := hide (K1.out k _ _ 1 ((cntF k fs : Nat) : Int) _ (HM.out.over hB) (by omega) (by omega) (by omega) hle)
      obtain ⟨M, hM⟩ : ∃ M : Nat, M = cntF k fs := ⟨_, rfl⟩
      rw [← hM] at K1' hle ⊢
      have HMM := hide hM
      clear hM hd
      go_wp2_with fail
      refine (K1'.out).mono ?_
      rintro e w1 ⟨he, hb1⟩
      have hB1 := hB.trans (hb1.mono hB.size)
      rcases he with ⟨rfl, hm1⟩ | rfl
      · have hm2 : ((cntF k fs : Nat) : Int) + (cnts k l : Nat) ≤ 50 := by rw [← HMM.out]; exact hm1
        have HM2 := hide hm2
        clear K1' hm2
        go_wp2_with fail
        go_end0
        exact ⟨Or.inl ⟨rfl, HM2.out⟩, hB1⟩
      · unfold gaveW
        go_wp2_with fail
        exact ⟨rfl, Or.inr rfl, hB1⟩
end Go.Proofs.Ytpbnmmgocpobcaa.Ex
/- Checks of one command, whatever it is: small parts. -/
namespace Go.Proofs.Ytpbnmmgocpobcaa.Ex
open Go.RowKit
set_option linter.unusedVariables false

/-- it goes on, and something holds then; or it gives up. -/
def Goes (ok : Prop) (w : World) (e : Ending) (w' : World) : Prop := ((ok ∧ e = .returned (.tuple #[])) ∨ ∃ why : Int, why ≠ 0 ∧ e = gaveW why) ∧ Below w.heap.size w w'

set_option maxHeartbeats 1000000 in
theorem shapeOf1 (w : World) : Calls Try.prog 67 #[.int .i64 1] w fun e w' => e = .returned (.tuple #[.agg #[.bool true, .bool false, .bool true, .bool false, .bool false, .bool false], .bool true]) ∧ Below w.heap.size w w' := by
  go_enter Try.func67, Try.ntmps67
  go_wp2_with fail
  exact bodyPost_ret (v := .tuple #[.agg #[.bool true, .bool false, .bool true, .bool false, .bool false, .bool false], .bool true]) (by simp [results, Try.results67, go_sem]) rfl ⟨rfl, (Below.refl _ w).alloc (Nat.le_refl _) _⟩

set_option maxHeartbeats 1000000 in
theorem shapeOf2 (w : World) : Calls Try.prog 67 #[.int .i64 2] w fun e w' => e = .returned (.tuple #[.agg #[.bool true, .bool true, .bool false, .bool true, .bool false, .bool false], .bool true]) ∧ Below w.heap.size w w' := by
  go_enter Try.func67, Try.ntmps67
  go_wp2_with fail
  exact bodyPost_ret (v := .tuple #[.agg #[.bool true, .bool true, .bool false, .bool true, .bool false, .bool false], .bool true]) (by simp [results, Try.results67, go_sem]) rfl ⟨rfl, (Below.refl _ w).alloc (Nat.le_refl _) _⟩

set_option maxHeartbeats 1000000 in
theorem shapeOf3 (w : World) : Calls Try.prog 67 #[.int .i64 3] w fun e w' => e = .returned (.tuple #[.agg #[.bool true, .bool true, .bool false, .bool false, .bool false, .bool false], .bool true]) ∧ Below w.heap.size w w' := by
  go_enter Try.func67, Try.ntmps67
  go_wp2_with fail
  exact bodyPost_ret (v := .tuple #[.agg #[.bool true, .bool true, .bool false, .bool false, .bool false, .bool false], .bool true]) (by simp [results, Try.results67, go_sem]) rfl ⟨rfl, (Below.refl _ w).alloc (Nat.le_refl _) _⟩

set_option maxHeartbeats 1000000 in
theorem shapeOf4 (w : World) : Calls Try.prog 67 #[.int .i64 4] w fun e w' => e = .returned (.tuple #[.agg #[.bool false, .bool true, .bool true, .bool false, .bool false, .bool false], .bool true]) ∧ Below w.heap.size w w' := by
  go_enter Try.func67, Try.ntmps67
  go_wp2_with fail
  exact bodyPost_ret (v := .tuple #[.agg #[.bool false, .bool true, .bool true, .bool false, .bool false, .bool false], .bool true]) (by simp [results, Try.results67, go_sem]) rfl ⟨rfl, (Below.refl _ w).alloc (Nat.le_refl _) _⟩

set_option maxHeartbeats 1000000 in
theorem shapeOf5 (w : World) : Calls Try.prog 67 #[.int .i64 5] w fun e w' => e = .returned (.tuple #[.agg #[.bool true, .bool false, .bool true, .bool false, .bool false, .bool false], .bool true]) ∧ Below w.heap.size w w' := by
  go_enter Try.func67, Try.ntmps67
  go_wp2_with fail
  exact bodyPost_ret (v := .tuple #[.agg #[.bool true, .bool false, .bool true, .bool false, .bool false, .bool false], .bool true]) (by simp [results, Try.results67, go_sem]) rfl ⟨rfl, (Below.refl _ w).alloc (Nat.le_refl _) _⟩

set_option maxHeartbeats 1000000 in
theorem shapeOf6 (w : World) : Calls Try.prog 67 #[.int .i64 6] w fun e w' => e = .returned (.tuple #[.agg #[.bool true, .bool false, .bool true, .bool false, .bool false, .bool false], .bool true]) ∧ Below w.heap.size w w' := by
  go_enter Try.func67, Try.ntmps67
  go_wp2_with fail
  exact bodyPost_ret (v := .tuple #[.agg #[.bool true, .bool false, .bool true, .bool false, .bool false, .bool false], .bool true]) (by simp [results, Try.results67, go_sem]) rfl ⟨rfl, (Below.refl _ w).alloc (Nat.le_refl _) _⟩

set_option maxHeartbeats 1000000 in
theorem shapeOf7 (w : World) : Calls Try.prog 67 #[.int .i64 7] w fun e w' => e = .returned (.tuple #[.agg #[.bool false, .bool false, .bool true, .bool false, .bool true, .bool true], .bool true]) ∧ Below w.heap.size w w' := by
  go_enter Try.func67, Try.ntmps67
  go_wp2_with fail
  exact bodyPost_ret (v := .tuple #[.agg #[.bool false, .bool false, .bool true, .bool false, .bool true, .bool true], .bool true]) (by simp [results, Try.results67, go_sem]) rfl ⟨rfl, (Below.refl _ w).alloc (Nat.le_refl _) _⟩

set_option maxHeartbeats 1000000 in
theorem shapeOf8 (w : World) : Calls Try.prog 67 #[.int .i64 8] w fun e w' => e = .returned (.tuple #[.agg #[.bool false, .bool false, .bool true, .bool false, .bool true, .bool false], .bool true]) ∧ Below w.heap.size w w' := by
  go_enter Try.func67, Try.ntmps67
  go_wp2_with fail
  exact bodyPost_ret (v := .tuple #[.agg #[.bool false, .bool false, .bool true, .bool false, .bool true, .bool false], .bool true]) (by simp [results, Try.results67, go_sem]) rfl ⟨rfl, (Below.refl _ w).alloc (Nat.le_refl _) _⟩

set_option maxHeartbeats 1000000 in
theorem shapeOfNone (k : Int) (hk : ¬ (1 ≤ k ∧ k ≤ 8)) (w : World) : Calls Try.prog 67 #[.int .i64 k] w fun e w' => e = .returned (.tuple #[.agg #[.bool false, .bool false, .bool false, .bool false, .bool false, .bool false], .bool false]) ∧ Below w.heap.size w w' := by
  have b1 : (k == 1) = false := by simp; omega
  have b2 : (k == 2) = false := by simp; omega
  have b3 : (k == 3) = false := by simp; omega
  have b4 : (k == 4) = false := by simp; omega
  have b5 : (k == 5) = false := by simp; omega
  have b6 : (k == 6) = false := by simp; omega
  have b7 : (k == 7) = false := by simp; omega
  have b8 : (k == 8) = false := by simp; omega
  clear hk
  go_enter Try.func67, Try.ntmps67
  go_wp2_with fail
  exact bodyPost_ret (v := .tuple #[.agg #[.bool false, .bool false, .bool false, .bool false, .bool false, .bool false], .bool false]) (by simp [results, Try.results67, go_sem]) rfl ⟨rfl, (Below.refl _ w).alloc (Nat.le_refl _) _⟩

set_option maxHeartbeats 1000000 in
set_option maxRecDepth 100000 in
theorem others_any (k : Int) (funcs : Int) (m : Int) (ga : Option Addr) (gn gc : Nat) (sa : Option Addr) (sn sc : Nat) (ya : Option Addr) (yn yc : Nat) (oa : Option Addr) (on oc : Nat) (va : Option Addr) (vn vc : Nat) (fa : Option Addr) (fn fc : Nat) (ba : Option Addr) (bn bc : Nat) (w : World) : Calls Try.prog 68 #[.agg #[.int .i64 m, .slice ga gn gc, .slice sa sn sc, .slice ya yn yc, .slice oa on oc, .slice va vn vc, .slice fa fn fc, .slice ba bn bc], .int .i64 k, .int .i64 funcs] w fun e w' => e = .returned (.int .i64 (if k = 2 then funcs else if k = 3 then yn else on)) ∧ Below w.heap.size w w' := by
  have hbel : Below w.heap.size w (w.alloc (.cells #[.int .i64 m, .slice ga gn gc, .slice sa sn sc, .slice ya yn yc, .slice oa on oc, .slice va vn vc, .slice fa fn fc, .slice ba bn bc] 75)) := (Below.refl _ w).alloc (Nat.le_refl _) _
  by_cases h2 : k = 2
  · subst h2
    go_enter Try.func68, Try.ntmps68
    go_wp2_with fail
    go_ret
    exact ⟨rfl, hbel⟩
  · by_cases h3 : k = 3
    · subst h3
      go_enter Try.func68, Try.ntmps68
      go_wp2_with fail
      go_ret
      exact ⟨rfl, hbel⟩
    · rw [if_neg h2, if_neg h3]
      go_enter Try.func68, Try.ntmps68
      go_wp2_with fail
      go_ret
      exact ⟨rfl, hbel⟩

set_option maxHeartbeats 1000000 in
set_option maxRecDepth 100000 in
theorem exprG_any (K : Nat) (m : Int) (ga : Option Addr) (gn gc : Nat) (sa : Option Addr) (sn sc : Nat) (ya : Option Addr) (yn yc : Nat) (oa : Option Addr) (on oc : Nat) (va : Option Addr) (vn vc : Nat) (fa : Option Addr) (fn fc : Nat) (ba : Option Addr) (bn bc : Nat) (cs : List Value) (d : D) (w : World) (h : RX w K cs d) (hv : vn ≤ 9223372036854775807) : Calls Try.prog 61 #[.agg #[.int .i64 m, .slice ga gn gc, .slice sa sn sc, .slice ya yn yc, .slice oa on oc, .slice va vn vc, .slice fa fn fc, .slice ba bn bc], .agg cs.toArray] w (Goes (checkX vn K d = 0) w) := by
  have K1 := hide fun W hB => check_any K cs d W (vn : Int) (by omega) (by omega) (h.over hB)
  have K2 := hide pass_any
  obtain ⟨xa, xc, rfl⟩ := h.form
  obtain ⟨ek, hek⟩ : ∃ q, q = kindOf d := ⟨_, rfl⟩
  obtain ⟨en, hen⟩ : ∃ q, q = numOf d := ⟨_, rfl⟩
  obtain ⟨xl, hxl⟩ : ∃ q, q = (argsOf d).length := ⟨_, rfl⟩
  rw [← hek, ← hen, ← hxl] at K1 ⊢
  clear hek hen hxl h
  obtain ⟨r, hr⟩ : ∃ q, q = checkX vn K d := ⟨_, rfl⟩
  rw [← hr] at K1 ⊢
  clear hr
  have hbel : Below w.heap.size w ((w.alloc (.cells #[.int .i64 m, .slice ga gn gc, .slice sa sn sc, .slice ya yn yc, .slice oa on oc, .slice va vn vc, .slice fa fn fc, .slice ba bn bc] 75)).alloc (.cells #[.int .i64 ek, .int .i64 en, .slice xa xl xc] 54)) := ((Below.refl _ w).alloc (Nat.le_refl _) _).alloc (by simp) _
  show Calls Try.prog 61 #[.agg #[.int .i64 m, .slice ga gn gc, .slice sa sn sc, .slice ya yn yc, .slice oa on oc, .slice va vn vc, .slice fa fn fc, .slice ba bn bc], .agg #[.int .i64 ek, .int .i64 en, .slice xa xl xc]] w _
  go_enter Try.func61, Try.ntmps61
  go_wp2_with fail
  refine (K1.out _ hbel).mono ?_
  rintro e w1 ⟨rfl, hb1⟩
  have hB1 := hbel.trans (hb1.mono hbel.size)
  go_wp2_with fail
  refine (K2.out _ _).mono ?_
  rintro e wz ⟨he, rfl⟩
  rcases he with ⟨h0, rfl⟩ | ⟨h0, rfl⟩
  · have h1 : r = 0 := by simpa using h0
    clear h0
    subst h1
    go_wp2_with fail
    go_end0
    exact ⟨Or.inl ⟨by first | rfl | trivial, rfl⟩, hB1⟩
  · have h1 : r ≠ 0 := by simpa using h0
    unfold gaveW
    go_wp2_with fail
    exact ⟨rfl, Or.inr ⟨r, h1, rfl⟩, hB1⟩
end Go.Proofs.Ytpbnmmgocpobcaa.Ex
