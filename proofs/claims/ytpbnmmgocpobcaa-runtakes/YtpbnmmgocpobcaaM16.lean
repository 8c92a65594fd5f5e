/- Checks of a function, whatever it is. -/
import Derived.Test.YtpbnmmgocpobcaaM15
namespace Go.Proofs.Ytpbnmmgocpobcaa.Ex
open Go.RowKit
set_option linter.unusedVariables false

set_option maxHeartbeats 1000000 in
theorem index_any (vs : List Int) (x : Int) (v : Value) (w : World) (hv : IsInts w v vs) (hl : vs.length ≤ 9223372036854775807) :
    Calls Try.prog 66 #[v, .int .i64 x] w fun e w' => ∃ r : Int, e = .returned (.int .i64 r) ∧ -1 ≤ r ∧ ∃ n, w' = w.drewN n := by
  obtain ⟨ao, cap, rfl, hcc⟩ := hv
  have HCC := hide hcc
  clear hcc
  go_enter Try.func66, Try.ntmps66
  go_wp2_with fail
  go_loopw [8] (fun i wr => ∃ k : Nat, k ≤ vs.length ∧ i = .int .i64 k ∧ ∃ n, wr = w.drewN n) (fun i _ => vs.length - (intOf i).toNat)
  case atStart => exact ⟨0, Nat.zero_le _, rfl, 0, rfl⟩
  case round =>
    obtain ⟨k, hk, rfl, n, rfl⟩ := hrel
    by_cases hkl : k < vs.length
    · obtain ⟨b, off, rfl, hcl⟩ := HCC.out (by rintro rfl; simp at hkl)
      have q0 := hcl k hkl
      obtain ⟨y, hy⟩ : ∃ y, y = vs[k] := ⟨_, rfl⟩
      rw [← hy] at q0
      clear hcl hy
      by_cases hxy : x = y
      · subst hxy
        go_wp2_with fail
        go_ret
        exact ⟨(k : Int), rfl, by omega, n, rfl⟩
      · have hb : (x == y) = false := by simpa using hxy
        go_wp2_with fail
        exact ⟨⟨k + 1, by omega, by go_num, n, rfl⟩, by simp [intOf]; omega⟩
    · go_wp2_with fail
      go_ret
      exact ⟨-1, rfl, by omega, n, rfl⟩

set_option maxHeartbeats 1000000 in
theorem contains_any (vs : List Int) (x : Int) (v : Value) (w : World) (hv : IsInts w v vs) (hl : vs.length ≤ 9223372036854775807) :
    Calls Try.prog 60 #[v, .int .i64 x] w fun e w' => ∃ r : Bool, e = .returned (.bool r) ∧ ∃ n, w' = w.drewN n := by
  have HI := hide (index_any vs x v w hv hl)
  obtain ⟨ao, cap, rfl, -⟩ := hv
  go_enter Try.func60, Try.ntmps60
  go_wp2_with fail
  refine (HI.out).mono ?_
  rintro e w1 ⟨r, rfl, hr, n, rfl⟩
  clear HI
  go_wp2_with fail
  go_ret
  exact ⟨_, rfl, n, rfl⟩

theorem IsInts.prefix {w : World} {ao : Option Addr} {cap : Nat} {vs : List Int} (h : IsInts w (.slice ao vs.length cap) vs) {i : Nat} (hi : i ≤ vs.length) (c : Nat) : IsInts w (.slice ao i c) (vs.take i) := by
  obtain ⟨a2, c2, he, hc⟩ := h
  injection he with e1 e2 e3
  subst e1
  refine ⟨ao, c, by simp [Nat.min_eq_left hi], fun hne => ?_⟩
  obtain ⟨b, off, hao, hel⟩ := hc (by rintro rfl; simp at hne)
  refine ⟨b, off, hao, fun j hj => ?_⟩
  have hj2 : j < vs.length := by simp at hj; omega
  rw [List.getElem_take]
  exact hel j hj2

/-- a function that may be called, with so many ahead of it. -/
def okF (K : Nat) (nv ni : Nat) (ahead : Int) (fs : List FnD) (k : Nat) (f : FnD) : Prop :=
  f.ps.length ≤ 4 ∧ (∀ p ∈ f.ps, 0 ≤ p ∧ p < nv) ∧ (∀ s ∈ f.body, okS K nv ni ahead fs k s) ∧ checkX nv K f.res = 0

set_option maxHeartbeats 8000000 in
set_option maxRecDepth 100000 in
theorem functionG_any (K kf k : Nat) (fs : List FnD) (f : FnD) (funcs : Int) (m : Int) (ga : Option Addr) (gn gc : Nat) (sa : Option Addr) (sn sc : Nat) (ya : Option Addr) (yn yc : Nat) (oa : Option Addr) (on oc : Nat) (va : Option Addr) (vn vc : Nat) (fa : Option Addr) (fn fc : Nat) (ba : Option Addr) (bn bc : Nat) (pa : Option Addr) (pn pc : Nat) (za : Option Addr) (zn zc : Nat) (ek en : Int) (xa : Option Addr) (xl xc : Nat) (w : World)
    (hv : vn ≤ 9223372036854775807) (h0f : 0 ≤ funcs) (h1f : funcs ≤ 9223372036854775807) (hyl : yn ≤ 9223372036854775807) (hol : on ≤ 9223372036854775807) (hff : funcs ≤ fs.length)
    (hp : IsInts w (.slice pa pn pc) f.ps) (hpl : f.ps.length ≤ maxLen) (hpc : pn ≤ pc ∧ pc ≤ maxLen) (hs : StmtsAt w K k (.slice za zn zc) f.body) (hx : RX w K [.int .i64 ek, .int .i64 en, .slice xa xl xc] f.res) (hfs : FnsAt w K kf (.slice fa fn fc) fs) :
    Calls Try.prog 44 #[.agg #[.int .i64 m, .slice ga gn gc, .slice sa sn sc, .slice ya yn yc, .slice oa on oc, .slice va vn vc, .slice fa fn fc, .slice ba bn bc], .agg #[.slice pa pn pc, .slice za zn zc, .int .i64 ek, .int .i64 en, .slice xa xl xc], .int .i64 funcs] w (Goes (okF K vn yn funcs fs k f) w) := by
  have K1 := hide must_any
  have K2 := hide isOneOf_any
  have KS := hide fun W (hB : Below w.heap.size w W) => stmtsG_any K kf fs funcs m ga gn gc sa sn sc ya yn yc oa on oc va vn vc fa fn fc ba bn bc hv h0f h1f hyl hol hff k (.slice za zn zc) f.body W (hs.over hB) (hfs.over hB)
  have KX := hide fun W (hB : Below w.heap.size w W) => exprG_any K m ga gn gc sa sn sc ya yn yc oa on oc va vn vc fa fn fc ba bn bc _ f.res W (hx.over hB) hv
  have KC := hide fun W (hB : Below w.heap.size w W) (x : Int) (i : Nat) (hi : i ≤ pn) (c : Nat) => contains_any (f.ps.take i) x (.slice pa i c) W
  have hpn : pn = f.ps.length := by obtain ⟨a2, c2, he, -⟩ := hp; injection he
  have HP := hide hp
  have HPN := hide hpn
  have hpn2 : pn ≤ 9223372036854775807 := by rw [hpn]; exact hpl
  obtain ⟨hpc1, hpc2⟩ := hpc
  have hpc3 : pc ≤ 9223372036854775807 := hpc2
  clear hp hpl hs hx hfs hpn hpc2
  have hbel : Below w.heap.size w ((w.alloc (.cells #[.int .i64 m, .slice ga gn gc, .slice sa sn sc, .slice ya yn yc, .slice oa on oc, .slice va vn vc, .slice fa fn fc, .slice ba bn bc] 75)).alloc (.cells #[.slice pa pn pc, .slice za zn zc, .int .i64 ek, .int .i64 en, .slice xa xl xc] 80)) := ((Below.refl _ w).alloc (Nat.le_refl _) _).alloc (by simp) _
  have c0 : ((w.alloc (.cells #[.int .i64 m, .slice ga gn gc, .slice sa sn sc, .slice ya yn yc, .slice oa on oc, .slice va vn vc, .slice fa fn fc, .slice ba bn bc] 75)).alloc (.cells #[.slice pa pn pc, .slice za zn zc, .int .i64 ek, .int .i64 en, .slice xa xl xc] 80)).cell? ⟨w.heap.size, 0, none⟩ = some (.int .i64 m) := by simp [go_sem]
  have c1 : ((w.alloc (.cells #[.int .i64 m, .slice ga gn gc, .slice sa sn sc, .slice ya yn yc, .slice oa on oc, .slice va vn vc, .slice fa fn fc, .slice ba bn bc] 75)).alloc (.cells #[.slice pa pn pc, .slice za zn zc, .int .i64 ek, .int .i64 en, .slice xa xl xc] 80)).cell? ⟨w.heap.size, 1, none⟩ = some (.slice ga gn gc) := by simp [go_sem]
  have c2 : ((w.alloc (.cells #[.int .i64 m, .slice ga gn gc, .slice sa sn sc, .slice ya yn yc, .slice oa on oc, .slice va vn vc, .slice fa fn fc, .slice ba bn bc] 75)).alloc (.cells #[.slice pa pn pc, .slice za zn zc, .int .i64 ek, .int .i64 en, .slice xa xl xc] 80)).cell? ⟨w.heap.size, 2, none⟩ = some (.slice sa sn sc) := by simp [go_sem]
  have c3 : ((w.alloc (.cells #[.int .i64 m, .slice ga gn gc, .slice sa sn sc, .slice ya yn yc, .slice oa on oc, .slice va vn vc, .slice fa fn fc, .slice ba bn bc] 75)).alloc (.cells #[.slice pa pn pc, .slice za zn zc, .int .i64 ek, .int .i64 en, .slice xa xl xc] 80)).cell? ⟨w.heap.size, 3, none⟩ = some (.slice ya yn yc) := by simp [go_sem]
  have c4 : ((w.alloc (.cells #[.int .i64 m, .slice ga gn gc, .slice sa sn sc, .slice ya yn yc, .slice oa on oc, .slice va vn vc, .slice fa fn fc, .slice ba bn bc] 75)).alloc (.cells #[.slice pa pn pc, .slice za zn zc, .int .i64 ek, .int .i64 en, .slice xa xl xc] 80)).cell? ⟨w.heap.size, 4, none⟩ = some (.slice oa on oc) := by simp [go_sem]
  have c5 : ((w.alloc (.cells #[.int .i64 m, .slice ga gn gc, .slice sa sn sc, .slice ya yn yc, .slice oa on oc, .slice va vn vc, .slice fa fn fc, .slice ba bn bc] 75)).alloc (.cells #[.slice pa pn pc, .slice za zn zc, .int .i64 ek, .int .i64 en, .slice xa xl xc] 80)).cell? ⟨w.heap.size, 5, none⟩ = some (.slice va vn vc) := by simp [go_sem]
  have c6 : ((w.alloc (.cells #[.int .i64 m, .slice ga gn gc, .slice sa sn sc, .slice ya yn yc, .slice oa on oc, .slice va vn vc, .slice fa fn fc, .slice ba bn bc] 75)).alloc (.cells #[.slice pa pn pc, .slice za zn zc, .int .i64 ek, .int .i64 en, .slice xa xl xc] 80)).cell? ⟨w.heap.size, 6, none⟩ = some (.slice fa fn fc) := by simp [go_sem]
  have c7 : ((w.alloc (.cells #[.int .i64 m, .slice ga gn gc, .slice sa sn sc, .slice ya yn yc, .slice oa on oc, .slice va vn vc, .slice fa fn fc, .slice ba bn bc] 75)).alloc (.cells #[.slice pa pn pc, .slice za zn zc, .int .i64 ek, .int .i64 en, .slice xa xl xc] 80)).cell? ⟨w.heap.size, 7, none⟩ = some (.slice ba bn bc) := by simp [go_sem]
  have f0 : ((w.alloc (.cells #[.int .i64 m, .slice ga gn gc, .slice sa sn sc, .slice ya yn yc, .slice oa on oc, .slice va vn vc, .slice fa fn fc, .slice ba bn bc] 75)).alloc (.cells #[.slice pa pn pc, .slice za zn zc, .int .i64 ek, .int .i64 en, .slice xa xl xc] 80)).cell? ⟨w.heap.size + 1, 0, none⟩ = some (.slice pa pn pc) := by simp [go_sem]
  have f1 : ((w.alloc (.cells #[.int .i64 m, .slice ga gn gc, .slice sa sn sc, .slice ya yn yc, .slice oa on oc, .slice va vn vc, .slice fa fn fc, .slice ba bn bc] 75)).alloc (.cells #[.slice pa pn pc, .slice za zn zc, .int .i64 ek, .int .i64 en, .slice xa xl xc] 80)).cell? ⟨w.heap.size + 1, 1, none⟩ = some (.slice za zn zc) := by simp [go_sem]
  have f2 : ((w.alloc (.cells #[.int .i64 m, .slice ga gn gc, .slice sa sn sc, .slice ya yn yc, .slice oa on oc, .slice va vn vc, .slice fa fn fc, .slice ba bn bc] 75)).alloc (.cells #[.slice pa pn pc, .slice za zn zc, .int .i64 ek, .int .i64 en, .slice xa xl xc] 80)).cell? ⟨w.heap.size + 1, 2, none⟩ = some (.int .i64 ek) := by simp [go_sem]
  have f3 : ((w.alloc (.cells #[.int .i64 m, .slice ga gn gc, .slice sa sn sc, .slice ya yn yc, .slice oa on oc, .slice va vn vc, .slice fa fn fc, .slice ba bn bc] 75)).alloc (.cells #[.slice pa pn pc, .slice za zn zc, .int .i64 ek, .int .i64 en, .slice xa xl xc] 80)).cell? ⟨w.heap.size + 1, 3, none⟩ = some (.int .i64 en) := by simp [go_sem]
  have f4 : ((w.alloc (.cells #[.int .i64 m, .slice ga gn gc, .slice sa sn sc, .slice ya yn yc, .slice oa on oc, .slice va vn vc, .slice fa fn fc, .slice ba bn bc] 75)).alloc (.cells #[.slice pa pn pc, .slice za zn zc, .int .i64 ek, .int .i64 en, .slice xa xl xc] 80)).cell? ⟨w.heap.size + 1, 4, none⟩ = some (.slice xa xl xc) := by simp [go_sem]
  go_enter Try.func44, Try.ntmps44
  go_wp2_with fail
  refine (K1.out _ _ _).mono ?_
  rintro e wz ⟨he, rfl⟩
  rcases he with ⟨hz, rfl⟩ | ⟨hz, rfl⟩
  rotate_left
  · clear hz
    unfold gaveW
    go_wp2_with fail
    exact ⟨rfl, Or.inr ⟨2, by decide, rfl⟩, hbel⟩
  have hp4 : pn ≤ 4 := by simp at hz; omega
  have HP4 : Hid (f.ps.length ≤ 4) := by rw [← HPN.out]; exact hp4
  clear hz hp4
  go_wp2_with fail
  go_loopw [18] (fun i wr => ∃ n : Nat, n ≤ pn ∧ i = .int .i64 n ∧ (∀ p ∈ f.ps.take n, 0 ≤ p ∧ p < (vn : Int)) ∧ (wr.cell? ⟨w.heap.size, 0, none⟩ = some (.int .i64 m) ∧ wr.cell? ⟨w.heap.size, 1, none⟩ = some (.slice ga gn gc) ∧ wr.cell? ⟨w.heap.size, 2, none⟩ = some (.slice sa sn sc) ∧ wr.cell? ⟨w.heap.size, 3, none⟩ = some (.slice ya yn yc) ∧ wr.cell? ⟨w.heap.size, 4, none⟩ = some (.slice oa on oc) ∧ wr.cell? ⟨w.heap.size, 5, none⟩ = some (.slice va vn vc) ∧ wr.cell? ⟨w.heap.size, 6, none⟩ = some (.slice fa fn fc) ∧ wr.cell? ⟨w.heap.size, 7, none⟩ = some (.slice ba bn bc) ∧ wr.cell? ⟨w.heap.size + 1, 0, none⟩ = some (.slice pa pn pc) ∧ wr.cell? ⟨w.heap.size + 1, 1, none⟩ = some (.slice za zn zc) ∧ wr.cell? ⟨w.heap.size + 1, 2, none⟩ = some (.int .i64 ek) ∧ wr.cell? ⟨w.heap.size + 1, 3, none⟩ = some (.int .i64 en) ∧ wr.cell? ⟨w.heap.size + 1, 4, none⟩ = some (.slice xa xl xc)) ∧ Below w.heap.size w wr) (fun i _ => pn - (intOf i).toNat)
  case atStart => exact ⟨0, Nat.zero_le _, rfl, by simp, ⟨c0, c1, c2, c3, c4, c5, c6, c7, f0, f1, f2, f3, f4⟩, hbel⟩
  case round =>
    clear c0 c1 c2 c3 c4 c5 c6 c7 f0 f1 f2 f3 f4 hbel
    obtain ⟨n, hn, rfl, hok, ⟨c0, c1, c2, c3, c4, c5, c6, c7, f0, f1, f2, f3, f4⟩, hB⟩ := hrel
    have HOK := hide hok
    clear hok
    by_cases hnl : n < pn
    · have hnd : n < f.ps.length := by rw [← HPN.out]; exact hnl
      obtain ⟨a2, kk2, he, hpc⟩ := HP.out
      injection he with e1 e2 e3
      subst e1
      obtain ⟨b, off, rfl, hel⟩ := hpc (by intro h; rw [h] at hnd; simp at hnd)
      have q := cell_over hB _ _ (hel n hnd)
      have htk : f.ps.take (n + 1) = f.ps.take n ++ [f.ps[n]] := List.take_succ_eq_append_getElem hnd
      obtain ⟨x, hx⟩ : ∃ q, q = f.ps[n] := ⟨_, rfl⟩
      rw [← hx] at q htk
      have HTK := hide htk
      clear hpc hel hx htk e2 e3
      go_wp2_with fail
      refine (K2.out _ _ _).mono ?_
      rintro e wz ⟨rfl, rfl⟩
      go_wp2_with fail
      refine (K1.out _ _ _).mono ?_
      rintro e wz ⟨he, rfl⟩
      rcases he with ⟨hvar, rfl⟩ | ⟨hz, rfl⟩
      rotate_left
      · clear hz
        unfold gaveW
        go_wp2_with fail
        exact ⟨rfl, Or.inr ⟨5, by decide, rfl⟩, hB⟩
      have hv2 : 0 ≤ x ∧ x < vn := by simpa using hvar
      have hnx : ∀ p ∈ f.ps.take (n + 1), 0 ≤ p ∧ p < (vn : Int) := fun p hp => by
        rw [HTK.out, List.mem_append, List.mem_singleton] at hp
        rcases hp with hp | rfl
        · exact HOK.out p hp
        · exact hv2
      have HNX := hide hnx
      clear hnx hv2 hvar
      go_wp2_with fail
      exact ⟨⟨n + 1, by omega, by go_num, HNX.out, ⟨c0, c1, c2, c3, c4, c5, c6, c7, f0, f1, f2, f3, f4⟩, hB⟩, by simp [intOf]; omega⟩
    · have hall : f.ps.take n = f.ps := List.take_of_length_le (by rw [← HPN.out]; omega)
      have hok2 := HOK.out
      rw [hall] at hok2
      have HOK2 := hide hok2
      clear hok2 hall HOK
      obtain ⟨w1, hw1⟩ : ∃ q, q = wr := ⟨_, rfl⟩
      rw [← hw1] at c0 c1 c2 c3 c4 c5 c6 c7 f0 f1 f2 f3 f4 hB ⊢
      clear hw1
      go_wp2_with fail
      go_loopw [33] (fun i wr => ∃ n : Nat, n ≤ pn ∧ i = .int .i64 n ∧ (wr.cell? ⟨w.heap.size, 0, none⟩ = some (.int .i64 m) ∧ wr.cell? ⟨w.heap.size, 1, none⟩ = some (.slice ga gn gc) ∧ wr.cell? ⟨w.heap.size, 2, none⟩ = some (.slice sa sn sc) ∧ wr.cell? ⟨w.heap.size, 3, none⟩ = some (.slice ya yn yc) ∧ wr.cell? ⟨w.heap.size, 4, none⟩ = some (.slice oa on oc) ∧ wr.cell? ⟨w.heap.size, 5, none⟩ = some (.slice va vn vc) ∧ wr.cell? ⟨w.heap.size, 6, none⟩ = some (.slice fa fn fc) ∧ wr.cell? ⟨w.heap.size, 7, none⟩ = some (.slice ba bn bc) ∧ wr.cell? ⟨w.heap.size + 1, 0, none⟩ = some (.slice pa pn pc) ∧ wr.cell? ⟨w.heap.size + 1, 1, none⟩ = some (.slice za zn zc) ∧ wr.cell? ⟨w.heap.size + 1, 2, none⟩ = some (.int .i64 ek) ∧ wr.cell? ⟨w.heap.size + 1, 3, none⟩ = some (.int .i64 en) ∧ wr.cell? ⟨w.heap.size + 1, 4, none⟩ = some (.slice xa xl xc)) ∧ Below w.heap.size w wr) (fun i _ => pn - (intOf i).toNat)
      case atStart => exact ⟨0, Nat.zero_le _, rfl, ⟨c0, c1, c2, c3, c4, c5, c6, c7, f0, f1, f2, f3, f4⟩, hB⟩
      case round =>
        clear c0 c1 c2 c3 c4 c5 c6 c7 f0 f1 f2 f3 f4 hB
        obtain ⟨n, hn, rfl, ⟨c0, c1, c2, c3, c4, c5, c6, c7, f0, f1, f2, f3, f4⟩, hB⟩ := hrel
        by_cases hnl : n < pn
        · have hnd : n < f.ps.length := by rw [← HPN.out]; exact hnl
          obtain ⟨a2, kk2, he, hpc⟩ := HP.out
          injection he with e1 e2 e3
          subst e1
          have hpre := (HP.out.over hB)
          rw [HPN.out] at hpre
          have hpre2 := hpre.prefix (i := n) (by omega) pc
          obtain ⟨b, off, rfl, hel⟩ := hpc (by intro h; rw [h] at hnd; simp at hnd)
          have q := cell_over hB _ _ (hel n hnd)
          obtain ⟨x, hx⟩ : ∃ q, q = f.ps[n] := ⟨_, rfl⟩
          rw [← hx] at q
          have KC' := hide (contains_any _ x _ _ hpre2 (by simp; omega))
          clear hpc hel hx e2 e3 hpre hpre2
          go_wp2_with fail
          refine (KC'.out).mono ?_
          rintro e w5 ⟨rb, rfl, nd, rfl⟩
          have hBd := below_drewN hB nd
          go_wp2_with fail
          refine (K1.out _ _ _).mono ?_
          rintro e wz ⟨he, rfl⟩
          rcases he with ⟨hz, rfl⟩ | ⟨hz, rfl⟩
          rotate_left
          · clear hz
            unfold gaveW
            go_wp2_with fail
            exact ⟨rfl, Or.inr ⟨6, by decide, rfl⟩, hBd⟩
          clear hz
          go_wp2_with fail
          exact ⟨⟨n + 1, by omega, by go_num, ⟨c0, c1, c2, c3, c4, c5, c6, c7, f0, f1, f2, f3, f4⟩, hBd⟩, by simp [intOf]; omega⟩
        · have KS' := hide (KS.out _ hB)
          go_wp2_with fail
          refine (KS'.out).mono ?_
          rintro e w6 ⟨he, hb6⟩
          have hB6 := hB.trans (hb6.mono hB.size)
          rcases he with ⟨hbd, rfl⟩ | ⟨why, hwhy, rfl⟩
          rotate_left
          · unfold gaveW
            go_wp2_with fail
            exact ⟨rfl, Or.inr ⟨why, hwhy, rfl⟩, hB6⟩
          have HBD := hide hbd
          have r0 := cell_over hb6 _ _ c0
          have r1 := cell_over hb6 _ _ c1
          have r2 := cell_over hb6 _ _ c2
          have r3 := cell_over hb6 _ _ c3
          have r4 := cell_over hb6 _ _ c4
          have r5 := cell_over hb6 _ _ c5
          have r6 := cell_over hb6 _ _ c6
          have r7 := cell_over hb6 _ _ c7
          have g0 := cell_over hb6 _ _ f0
          have g1 := cell_over hb6 _ _ f1
          have g2 := cell_over hb6 _ _ f2
          have g3 := cell_over hb6 _ _ f3
          have g4 := cell_over hb6 _ _ f4
          have KX' := hide (KX.out _ hB6)
          clear hbd hb6 hB c0 c1 c2 c3 c4 c5 c6 c7 f0 f1 f2 f3 f4 KS'
          go_wp2_with fail
          refine (KX'.out).mono ?_
          rintro e w7 ⟨he, hb7⟩
          have hB7 := hB6.trans (hb7.mono hB6.size)
          rcases he with ⟨hex, rfl⟩ | ⟨why, hwhy, rfl⟩
          rotate_left
          · unfold gaveW
            go_wp2_with fail
            exact ⟨rfl, Or.inr ⟨why, hwhy, rfl⟩, hB7⟩
          have HEX := hide hex
          clear hex KX'
          go_wp2_with fail
          go_end0
          exact ⟨Or.inl ⟨⟨HP4.out, HOK2.out, HBD.out, HEX.out⟩, rfl⟩, hB7⟩
end Go.Proofs.Ytpbnmmgocpobcaa.Ex
