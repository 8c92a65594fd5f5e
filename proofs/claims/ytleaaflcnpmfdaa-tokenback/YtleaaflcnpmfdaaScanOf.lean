/- The document's own words on tokens: veilworkref.ScanOf answers the tokens of any text, or where and why there are none. -/
import Derived.Test.YtleaaflcnpmfdaaRefTok
import Derived.Test.YtleaaflcnpmfdaaScan
namespace Go.Proofs.Ytleaaflcnpmfdaa
open Go.RowKit
set_option linter.unusedVariables false

theorem scanF_shift {s : ByteArray} {f i j : Nat} {note note' : Bool} (h : skipL note s.data.toList i = skipL note' s.data.toList j) : scanF s f note i = scanF s f note' j := by
  cases f with
  | zero => rfl
  | succ f => simp only [scanF, h]

theorem skip_true {l : List UInt8} {i : Nat} (h : i < l.length) : skipL true l i = skipL (noLf l[i]) l (i + 1) := by
  unfold skipL
  rw [List.drop_eq_getElem_cons h]
  simp only [skipN]
  omega

theorem skip_hash {l : List UInt8} {i : Nat} (h : i < l.length) (h35 : l[i].toNat = 35) : skipL false l i = skipL true l (i + 1) := by
  unfold skipL
  rw [List.drop_eq_getElem_cons h]
  simp only [skipN, h35, if_true]
  omega

theorem tok_cells (w : World) (a b : Int) (x : ByteArray) : ∀ (j : Nat) (u : Value), [Value.int .i64 a, .int .i64 b, .string x][j]? = some u → (w.alloc (.cells #[.int .i64 a, .int .i64 b, .string x] 34)).cell? ((⟨w.heap.size, 0, none⟩ : Addr).add j) = some u := by
  intro q u hq
  match q, hq with
  | 0, hq => simp at hq; subst hq; simp [Addr.add]
  | 1, hq => simp at hq; subst hq; simp [Addr.add]
  | 2, hq => simp at hq; subst hq; simp [Addr.add]

theorem tok_one (a b : Int) (x : ByteArray) : ∀ u ∈ [Value.int .i64 a, .int .i64 b, .string x], u.oneCell' = true := by
  intro u hu; simp at hu; rcases hu with rfl | rfl | rfl <;> rfl

theorem tok_max {n i m : Nat} (h1 : n ≤ i) (h2 : i ≤ m) (h3 : m ≤ 6000) : n + 1 ≤ maxLen := by unfold maxLen; omega
theorem tok_bytes {n i m : Nat} (h1 : n ≤ i) (h2 : i ≤ m) (h3 : m ≤ 6000) : (n + 1) * 32 ≤ 140737488355328 := by omega
theorem tok_base {w w' : World} {o : Obj} (h : Below w.heap.size w w') : w.heap.size ≤ (w'.alloc o).heap.size := by have := h.size; simp; omega

/-- one of the document's rounds behind another. -/
def refRel (s : ByteArray) (w : World) (o nt vi : Value) (wr : World) : Prop :=
  ∃ (note : Bool) (i f : Nat) (ts : List Tok), nt = .bool note ∧ vi = .int .i64 (i : Int) ∧ i ≤ s.size ∧ s.size < f + i ∧ Hid (scanS s = pre ts (scanF s f note i)) ∧ ts.length ≤ i ∧
    wr.ownsRow w.heap.size 34 3 o ts.length (toksCells ts) ∧ Below w.heap.size w wr

theorem ref_step {s : ByteArray} {w wr w2 : World} {i f n : Nat} {ts : List Tok} {kk : Nat} {v' : Value} {o : Obj} {v : Value} (HS : Hid (scanS s = pre ts (scanF s f false i))) (hf : s.size < f + i) (htl : ts.length ≤ i) (hlt : i < s.size)
    (hsk : Hid (skipL false s.data.toList i = i)) (hk : Hid (tokKN s i = (kk, i + n))) (he : Hid (tokErr s i = 0)) (hown0 : wr.ownsRow w.heap.size 34 3 v ts.length (toksCells ts))
    (hown : w2.ownsRow w.heap.size 34 3 v' (ts.length + 1) (toksCells ts ++ [.int .i64 (kk : Int), .int .i64 (i : Int), .string (s.extract i (i + n))]))
    (hg : (wr.alloc o).grownBy w2 v.ownBlock) (hb : Below w.heap.size w wr) : refRel s w v' (.bool false) (.int .i64 ((i : Int) + (n : Int))) w2 := by
  obtain ⟨f', rfl⟩ : ∃ f', f = f' + 1 := ⟨f - 1, by omega⟩
  have hend := tokKN_end he.out
  rw [hk.out] at hend
  have hst := scan_step HS.out (by rw [hsk.out]; exact hlt) (by rw [hsk.out]; exact he.out)
  rw [hsk.out] at hst
  have hT : tokAt s i = ⟨kk, i, s.extract i (i + n)⟩ := by unfold tokAt; rw [hk.out]
  rw [hT, hk.out] at hst
  simp only at hst hend
  refine ⟨false, i + n, f', ts ++ [⟨kk, i, s.extract i (i + n)⟩], rfl, by go_num, hend.2, by omega, hide hst, by simp; omega, ?_, ?_⟩
  · rw [toksCells_snoc, List.length_append]
    exact hown
  · exact (hb.alloc hb.size _).grown hg (by have := hb.size; simp; omega) (fun k hk => (hown0.lt k hk).1)

set_option maxHeartbeats 2000000 in
set_option maxRecDepth 100000 in
theorem scanOf_small (s : ByteArray) (hs : s.size ≤ 6000) (w : World) :
    Calls Try.prog 8 #[.string s] w fun e w' => ∃ v, e = .returned (.tuple #[v, .int .i64 (scanPos s : Int), .int .i64 (scanErr s : Int)]) ∧
      w'.ownsRow w.heap.size 34 3 v (scanToks s).length (toksCells (scanToks s)) ∧ Below w.heap.size w w' := by
  obtain ⟨i0, hi, hz0, hz1, hz2⟩ := info_parts Try.info34
  go_enter Try.func8, Try.ntmps8
  go_wp2_with fail
  go_loopw [5, 6, 7] (fun o nt vi wr => refRel s w o nt vi wr) (fun _ _ vi _ => s.size - (intOf vi).toNat)
  case atStart => exact ⟨false, 0, s.size + 1, [], rfl, rfl, Nat.zero_le _, by omega, (pre_nil _).symm, Nat.zero_le _, World.ownsRow_nil _ _ _ _, Below.refl _ _⟩
  case round =>
    obtain ⟨note, i, f, ts, rfl, rfl, hi1, hf1, HS, htl, hown, hbel⟩ := hrel
    by_cases hlt : i < s.size
    · have hl : i < s.data.toList.length := by simpa using hlt
      cases note with
      | true =>
        have hsh : Hid (scanS s = pre ts (scanF s f (noLf s[i]) (i + 1))) := by
          show _ = _
          rw [HS.out]
          exact congrArg _ (scanF_shift (skip_true hl))
        have hno : Hid (noLf s[i] = ((s[i].toNat : Int) != 10)) := by
          show _ = _
          unfold noLf
          rw [Bool.eq_iff_iff]
          simp
          omega
        clear HS
        go_wp2_with fail
        refine ⟨⟨noLf s[i], i + 1, f, ts, by rw [hno.out], by go_num, by omega, by omega, hsh, by omega, hown, hbel⟩, by simp [intOf]; omega⟩
      | false =>
        by_cases h35 : s[i].toNat = 35
        · have b35 : ((s[i].toNat : Int) == 35) = true := beq_iff_eq.2 (by omega)
          have bn : ((s[i].toNat : Int) != 10) = true := by rw [bne_iff_ne]; omega
          have hsh : Hid (scanS s = pre ts (scanF s f true (i + 1))) := by
            show _ = _
            rw [HS.out]
            exact congrArg _ (scanF_shift (skip_hash hl h35))
          clear HS h35
          go_wp2_with fail
          refine ⟨⟨true, i + 1, f, ts, rfl, by go_num, by omega, by omega, hsh, by omega, hown, hbel⟩, by simp [intOf]; omega⟩
        have b35 : ((s[i].toNat : Int) == 35) = false := beq_eq_false_iff_ne.2 (by omega)
        have hblank : blank s[i] = true → Hid (scanS s = pre ts (scanF s f false (i + 1))) := fun hb => by
          show _ = _
          rw [HS.out]
          exact congrArg _ (scanF_shift (skipL_blank hl h35 hb))
        have HBL := hide hblank
        clear hblank
        by_cases h32 : s[i].toNat = 32
        · have b32 : ((s[i].toNat : Int) == 32) = true := beq_iff_eq.2 (by omega)
          have hsh := HBL.out (by simp [blank, h32])
          clear HS h35 h32 HBL
          go_wp2_with fail
          refine ⟨⟨false, i + 1, f, ts, rfl, by go_num, by omega, by omega, hsh, by omega, hown, hbel⟩, by simp [intOf]; omega⟩
        have b32 : ((s[i].toNat : Int) == 32) = false := beq_eq_false_iff_ne.2 (by omega)
        by_cases h9 : s[i].toNat = 9
        · have b9 : ((s[i].toNat : Int) == 9) = true := beq_iff_eq.2 (by omega)
          have hsh := HBL.out (by simp [blank, h9])
          clear HS h35 h32 h9 HBL
          go_wp2_with fail
          refine ⟨⟨false, i + 1, f, ts, rfl, by go_num, by omega, by omega, hsh, by omega, hown, hbel⟩, by simp [intOf]; omega⟩
        have b9 : ((s[i].toNat : Int) == 9) = false := beq_eq_false_iff_ne.2 (by omega)
        by_cases h10 : s[i].toNat = 10
        · have b10 : ((s[i].toNat : Int) == 10) = true := beq_iff_eq.2 (by omega)
          have hsh := HBL.out (by simp [blank, h10])
          clear HS h35 h32 h9 h10 HBL
          go_wp2_with fail
          refine ⟨⟨false, i + 1, f, ts, rfl, by go_num, by omega, by omega, hsh, by omega, hown, hbel⟩, by simp [intOf]; omega⟩
        have b10 : ((s[i].toNat : Int) == 10) = false := beq_eq_false_iff_ne.2 (by omega)
        have hsk : skipL false s.data.toList i = i := skipL_stop hl h35 (by show blank s[i] = false; simp only [blank]; rw [decide_eq_false_iff_not]; omega)
        have hge : i ≤ (tokKN s i).2 := by
          by_cases h0 : tokErr s i = 0
          · have := (tokKN_end h0).1; omega
          · exact tokKN_ge s i
        have hkk3 := tokKN_kind (s := s) (j := i)
        have hle := tokKN_le (s := s) (i := i) hi1
        have ht := tokenAt_any s i hlt hs
        obtain ⟨kk, hkk⟩ : ∃ kk, kk = (tokKN s i).1 := ⟨_, rfl⟩
        obtain ⟨n, hn⟩ : ∃ n, n = tokLen s i := ⟨_, rfl⟩
        rw [← hkk, ← hn] at ht
        rw [← hkk] at hkk3
        have hk : tokKN s i = (kk, i + n) := by
          rw [hkk, hn]
          unfold tokLen
          ext
          · rfl
          · show _ = i + ((tokKN s i).2 - i); omega
        have hin : i + n ≤ s.size := by rw [hk] at hle; exact hle
        have hbad : tokErr s i ≠ 0 → scanToks s = [] ∧ scanPos s = i ∧ scanErr s = tokErr s i := fun he => by
          obtain ⟨f', rfl⟩ : ∃ f', f = f' + 1 := ⟨f - 1, by omega⟩
          have hst := scan_stop HS.out (by rw [hsk]; exact hlt) (by rw [hsk]; exact he)
          rw [hsk] at hst
          simp [scanToks, scanPos, scanErr, hst]
        have hq := getQ hlt
        have HT := hide ht
        have HSK := hide hsk
        have HK := hide hk
        have HBAD := hide hbad
        have HQ := hide hq
        clear h35 h32 h9 h10 HBL hsk hge hle hkk ht hn hk hbad hq
        rcases (show kk = 0 ∨ kk = 1 ∨ kk = 2 ∨ kk = 3 by omega) with rfl | rfl | rfl | rfl
        · have HE : Hid (tokErr s i = 1) := by show _ = _; simp [tokErr, HK.out]
          obtain ⟨hA, hB, hC⟩ := HBAD.out (by rw [HE.out]; decide)
          rw [HE.out] at hC
          have HA := hide hA
          have HB := hide hB
          have HC := hide hC
          clear hA hB hC HBAD
          go_wp2_with fail
          refine (HT.out _).mono ?_
          rintro e w' ⟨rfl, rfl⟩
          go_wp2_with fail
          go_ret3
          exact ⟨.slice none 0 0, by rw [HB.out, HC.out]; rfl, by rw [HA.out]; exact World.ownsRow_nil _ _ _ _, hbel⟩
        · by_cases h12 : 12 < n
          · have HE : Hid (tokErr s i = 2) := by show _ = _; simp [tokErr, HK.out, h12]
            obtain ⟨hA, hB, hC⟩ := HBAD.out (by rw [HE.out]; decide)
            rw [HE.out] at hC
            have HA := hide hA
            have HB := hide hB
            have HC := hide hC
            clear hA hB hC HBAD
            go_wp2_with fail
            refine (HT.out _).mono ?_
            rintro e w' ⟨rfl, rfl⟩
            go_wp2_with fail
            go_ret3
            exact ⟨.slice none 0 0, by rw [HB.out, HC.out]; rfl, by rw [HA.out]; exact World.ownsRow_nil _ _ _ _, hbel⟩
          · have HE : Hid (tokErr s i = 0) := by show _ = _; simp [tokErr, HK.out, h12]
            go_wp2_with fail
            refine (HT.out _).mono ?_
            rintro e w' ⟨rfl, rfl⟩
            go_wp2_with (at_builtin; refine wpList_append_own _ rfl _ _ 22 rfl w.heap.size 34 i0 (.agg #[.int .i64 0, .int .i64 0, .string ⟨#[]⟩]) 3 32 Try.underlying22 hi hz0 hz1 hz2 rfl (by decide) _ _ _ rfl (hown.alloc _) ⟨w'.heap.size, 0, none⟩ 1 1 [.int .i64 1, .int .i64 (i : Int), .string (s.extract i (i + n))] rfl rfl (tok_cells w' 1 i _) (tok_one 1 i _) (tok_max htl hi1 hs) (tok_bytes htl hi1 hs) (tok_base hbel) ?_)
            · intro v' w2 hown2 hgrow hne
              have hnp : 0 < n := by have := (tokKN_end HE.out).1; rw [HK.out] at this; simp at this; omega
              have R := ref_step (kk := 1) HS hf1 htl hlt HSK HK HE hown hown2 hgrow hbel
              have HR := hide R
              clear R hown2 hgrow hne hown
              go_wp2_with fail
              exact ⟨HR.out, by simp [intOf]; omega⟩
        · by_cases h7 : 7 < n
          · have HE : Hid (tokErr s i = 2) := by show _ = _; simp [tokErr, HK.out, h7]
            obtain ⟨hA, hB, hC⟩ := HBAD.out (by rw [HE.out]; decide)
            rw [HE.out] at hC
            have HA := hide hA
            have HB := hide hB
            have HC := hide hC
            clear hA hB hC HBAD
            go_wp2_with fail
            refine (HT.out _).mono ?_
            rintro e w' ⟨rfl, rfl⟩
            go_wp2_with fail
            go_ret3
            exact ⟨.slice none 0 0, by rw [HB.out, HC.out]; rfl, by rw [HA.out]; exact World.ownsRow_nil _ _ _ _, hbel⟩
          by_cases h1 : 1 < n
          · have hx0 : (s.extract i (i + n))[0]'(by simp; omega) = s[i] := by
              simp [ByteArray.getElem_extract]
            by_cases h48 : s[i].toNat = 48
            · have b48 : (((s.extract i (i + n))[0]'(by simp; omega)).toNat : Int) == 48 := by rw [hx0]; exact beq_iff_eq.2 (by omega)
              have h48' : s[i] = 48 := (byte_eq_iff _ _).2 h48
              have HE : Hid (tokErr s i = 1) := by show _ = _; simp only [tokErr, HK.out, HQ.out, h48']; simp [h1, h7]
              clear h48 h48' hx0
              obtain ⟨hA, hB, hC⟩ := HBAD.out (by rw [HE.out]; decide)
              rw [HE.out] at hC
              have HA := hide hA
              have HB := hide hB
              have HC := hide hC
              clear hA hB hC HBAD
              go_wp2_with fail
              refine (HT.out _).mono ?_
              rintro e w' ⟨rfl, rfl⟩
              go_wp2_with fail
              go_ret3
              exact ⟨.slice none 0 0, by rw [HB.out, HC.out]; rfl, by rw [HA.out]; exact World.ownsRow_nil _ _ _ _, hbel⟩
            · have b48 : ((((s.extract i (i + n))[0]'(by simp; omega)).toNat : Int) == 48) = false := by rw [hx0]; exact beq_eq_false_iff_ne.2 (by omega)
              have h48' : ¬ s[i] = 48 := fun h => h48 (by rw [h]; rfl)
              have HE : Hid (tokErr s i = 0) := by show _ = _; simp only [tokErr, HK.out, HQ.out]; simp [h1, h7, h48']
              clear h48 h48' hx0
              go_wp2_with fail
              refine (HT.out _).mono ?_
              rintro e w' ⟨rfl, rfl⟩
              go_wp2_with (at_builtin; refine wpList_append_own _ rfl _ _ 22 rfl w.heap.size 34 i0 (.agg #[.int .i64 0, .int .i64 0, .string ⟨#[]⟩]) 3 32 Try.underlying22 hi hz0 hz1 hz2 rfl (by decide) _ _ _ rfl (hown.alloc _) ⟨w'.heap.size, 0, none⟩ 1 1 [.int .i64 2, .int .i64 (i : Int), .string (s.extract i (i + n))] rfl rfl (tok_cells w' 2 i _) (tok_one 2 i _) (tok_max htl hi1 hs) (tok_bytes htl hi1 hs) (tok_base hbel) ?_)
              · intro v' w2 hown2 hgrow hne
                have hnp : 0 < n := by have := (tokKN_end HE.out).1; rw [HK.out] at this; simp at this; omega
                have R := ref_step (kk := 2) HS hf1 htl hlt HSK HK HE hown hown2 hgrow hbel
                have HR := hide R
                clear R hown2 hgrow hne hown
                go_wp2_with fail
                exact ⟨HR.out, by simp [intOf]; omega⟩
          · have HE : Hid (tokErr s i = 0) := by show _ = _; simp only [tokErr, HK.out]; simp [h1, h7]
            go_wp2_with fail
            refine (HT.out _).mono ?_
            rintro e w' ⟨rfl, rfl⟩
            go_wp2_with (at_builtin; refine wpList_append_own _ rfl _ _ 22 rfl w.heap.size 34 i0 (.agg #[.int .i64 0, .int .i64 0, .string ⟨#[]⟩]) 3 32 Try.underlying22 hi hz0 hz1 hz2 rfl (by decide) _ _ _ rfl (hown.alloc _) ⟨w'.heap.size, 0, none⟩ 1 1 [.int .i64 2, .int .i64 (i : Int), .string (s.extract i (i + n))] rfl rfl (tok_cells w' 2 i _) (tok_one 2 i _) (tok_max htl hi1 hs) (tok_bytes htl hi1 hs) (tok_base hbel) ?_)
            · intro v' w2 hown2 hgrow hne
              have hnp : 0 < n := by have := (tokKN_end HE.out).1; rw [HK.out] at this; simp at this; omega
              have R := ref_step (kk := 2) HS hf1 htl hlt HSK HK HE hown hown2 hgrow hbel
              have HR := hide R
              clear R hown2 hgrow hne hown
              go_wp2_with fail
              exact ⟨HR.out, by simp [intOf]; omega⟩
        · have HE : Hid (tokErr s i = 0) := by show _ = _; simp [tokErr, HK.out]
          go_wp2_with fail
          refine (HT.out _).mono ?_
          rintro e w' ⟨rfl, rfl⟩
          go_wp2_with (at_builtin; refine wpList_append_own _ rfl _ _ 22 rfl w.heap.size 34 i0 (.agg #[.int .i64 0, .int .i64 0, .string ⟨#[]⟩]) 3 32 Try.underlying22 hi hz0 hz1 hz2 rfl (by decide) _ _ _ rfl (hown.alloc _) ⟨w'.heap.size, 0, none⟩ 1 1 [.int .i64 3, .int .i64 (i : Int), .string (s.extract i (i + n))] rfl rfl (tok_cells w' 3 i _) (tok_one 3 i _) (tok_max htl hi1 hs) (tok_bytes htl hi1 hs) (tok_base hbel) ?_)
          · intro v' w2 hown2 hgrow hne
            have hnp : 0 < n := by have := (tokKN_end HE.out).1; rw [HK.out] at this; simp at this; omega
            have R := ref_step (kk := 3) HS hf1 htl hlt HSK HK HE hown hown2 hgrow hbel
            have HR := hide R
            clear R hown2 hgrow hne hown
            go_wp2_with fail
            exact ⟨HR.out, by simp [intOf]; omega⟩
    · have hfin : scanS s = .inl ts := by
        obtain ⟨f', rfl⟩ : ∃ f', f = f' + 1 := ⟨f - 1, by omega⟩
        exact scan_end HS.out (by have := skipL_ge note s.data.toList i; omega)
      have hA : scanToks s = ts := by simp [scanToks, hfin]
      have hB : scanPos s = 0 := by simp [scanPos, hfin]
      have hC : scanErr s = 0 := by simp [scanErr, hfin]
      have HA := hide hA
      have HB := hide hB
      have HC := hide hC
      clear hA hB hC hfin HS
      go_wp2_with fail
      go_ret3
      exact ⟨_, by rw [HB.out, HC.out]; rfl, by rw [HA.out]; exact hown, hbel⟩

set_option maxHeartbeats 400000 in
theorem scanOf_any (s : ByteArray) (hs : s.size ≤ maxLen) (w : World) : Calls Try.prog 8 #[.string s] w (Scanned s w) := by
  unfold maxLen at hs
  by_cases h : s.size ≤ 6000
  · refine (scanOf_small s h w).mono ?_
    rintro e w1 ⟨v, rfl, hown, hb⟩
    exact ⟨v, scanToks s, scanPos s, scanErr s, rfl, hown, hb, by rw [if_pos h]; exact ⟨rfl, rfl, rfl⟩⟩
  · go_enter Try.func8, Try.ntmps8
    go_wp2_with fail
    go_ret3
    exact ⟨.slice none 0 0, [], 0, 2, rfl, World.ownsRow_nil _ _ _ _, Below.refl _ _, by rw [if_neg h]; exact ⟨rfl, rfl, rfl⟩⟩
end Go.Proofs.Ytleaaflcnpmfdaa
