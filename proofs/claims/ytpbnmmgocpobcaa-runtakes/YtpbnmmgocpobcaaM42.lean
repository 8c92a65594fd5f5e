/- Lists of numbers that were handed in, with how long they can be. -/
import Derived.Test.YtpbnmmgocpobcaaM39
import Derived.Test.YtpbnmmgocpobcaaM41
import Derived.SizedLaws
namespace Go.Proofs.Ytpbnmmgocpobcaa.Ex
open Go.RowKit Go.ChangeShapes Go.WideShapes
set_option linter.unusedVariables false

section
variable {H : Type} {enc : TypeId × Value → H} {W : World}

theorem Try.bytes3 : Try.prog.bytesOf 3 = 8 := by kernel_rfl

theorem weightsAll_mem {P : Program} {e : TypeId} : ∀ {l : List (DataW H)} {d : DataW H}, d ∈ l → ∀ n ∈ d.weights P e, n ∈ DataW.weightsAll P e l
  | a :: l, d, h, n, hn => by
    simp only [DataW.weightsAll, List.mem_append]
    rcases List.mem_cons.1 h with rfl | h
    · exact Or.inl hn
    · exact Or.inr (weightsAll_mem h n hn)

theorem listsC {v : Value} {l : List (List Int)} (hl : LAt 1 (fun cs x => ∃ u, cs = [u] ∧ LAt 1 (fun cs x => cs = [.int .i64 x]) W u x) W v l) : CListsAt W v l := by
  obtain ⟨hm, ao, cap, hv, -, -, -, hc⟩ := hl
  refine ⟨hm, ao, cap, hv, fun hne => ?_⟩
  obtain ⟨b, off, hb, hel⟩ := hc hne
  refine ⟨b, off, hb, fun i hi => ?_⟩
  obtain ⟨cs, -, hcs, u, rfl, hu⟩ := hel i l[i] (List.getElem?_eq_getElem hi)
  have hin := intsOf hu
  obtain ⟨-, ua, uc, rfl, h1, h2, h3, -⟩ := hu
  exact ⟨ua, uc, by have := hcs 0 _ rfl; simpa using this, hin, h1, h2, h3⟩

set_option maxRecDepth 100000 in
theorem lists_small {fuel : Nat} {v : Value} {x : DataW H × List MemPlace} (h : DataW.trod enc Try.prog W 0 (fun _ => true) true fuel 32 [v] = some x) (hw : ∀ n ∈ x.1.weights Try.prog 32, n ≤ reachBytes) {l : List (List Int)} (hl : CListsAt W v l) : ∀ y ∈ l, y.length * 8 ≤ 140737488351232 := by
  intro y hy
  obtain ⟨i, hi⟩ := List.mem_iff_getElem?.1 hy
  have hil := (List.getElem?_eq_some_iff.1 hi).1
  obtain ⟨-, ao, cap, hv, hc⟩ := hl
  obtain ⟨b, off, hb, hel⟩ := hc (by intro hz; rw [hz] at hil; simp at hil)
  obtain ⟨ua, uc, hcell, hin, -⟩ := hel i hil
  have hyi : l[i] = y := (List.getElem?_eq_some_iff.1 hi).2
  rw [hyi] at hcell hin
  subst hb
  subst hv
  rcases DataW.trod_slice Try.underlying32 h with ⟨hcs, -⟩ | ⟨ad, len, cap', elems, rest, m, rfl, hcs, rfl, -, hlc, hcm, hen, hat, -, -⟩
  · simp at hcs
  · simp only [List.cons.injEq, Value.slice.injEq, and_true, Option.some.injEq] at hcs
    obtain ⟨rfl, hlen, rfl⟩ := hcs
    rw [Try.cells25] at hat
    have hi2 := hat i (by omega)
    rw [List.getElem?_eq_getElem (by omega), Option.bind_eq_some_iff] at hi2
    obtain ⟨cs, hcc, ht⟩ := hi2
    obtain ⟨-, hl1, hcl⟩ := World.cells?_some hcc
    have h0 := hcl 0 (by omega)
    have hlen1 : cs.length = 1 := hl1
    match cs, hlen1 with
    | [u], _ =>
      simp only [Nat.mul_one, Addr.add_lit, Nat.add_zero, List.getElem?_cons_zero] at h0
      rw [hcell] at h0
      have hu := Option.some.inj h0
      subst hu
      have hwe : ∀ n ∈ (elems[i]'(by omega)).1.weights Try.prog 25, n ≤ reachBytes := fun n hn => hw n (by
        simp only [DataW.weights, Try.underlying32]
        refine List.mem_cons_of_mem _ (List.mem_append_left _ (weightsAll_mem (List.mem_map_of_mem (List.getElem_mem (by omega : i < elems.length))) n hn)))
      rcases DataW.trod_slice Try.underlying25 ht with ⟨hcs2, -⟩ | ⟨ad2, len2, cap2, es, rs, m2, rfl, hcs2, hx2, -, -, -, hen2, -, -, -⟩
      · simp only [List.cons.injEq, Value.slice.injEq, and_true] at hcs2
        obtain ⟨-, h5, -⟩ := hcs2
        rw [h5]
        omega
      · simp only [List.cons.injEq, Value.slice.injEq, and_true] at hcs2
        obtain ⟨-, h5, -⟩ := hcs2
        have hw0 := hwe (((es.map (·.1)).length + (rs.map (·.1)).length) * Try.prog.bytesOf 3) (by
          rw [hx2]
          simp only [DataW.weights, Try.underlying25]
          exact List.mem_cons_self)
        rw [Try.bytes3] at hw0
        simp only [List.length_map, reachBytes] at hw0
        omega
end
end Go.Proofs.Ytpbnmmgocpobcaa.Ex
