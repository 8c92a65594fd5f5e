/- Package tree's Check: expressions that are fine. -/
import Derived.Test.YtipngnjffjajpaaGreatDoorG20
namespace Go.Proofs.YtipngnjffjajpaaGreatDoor.Tx
open Go.RowKit
set_option linter.unusedVariables false
set_option maxHeartbeats 4000000 in
set_option maxRecDepth 100000 in
theorem exprFine_c : ∀ (k : Nat) (cs : List Value) (d : D) (w : World),ZE w k cs d→Ro 70 #[.agg cs.toArray] w (.bool (efK k d)):=by
  intro k
  induction k with
  | zero => intro cs d w h; exact h.elim
  | succ k ih =>
    intro cs d w h
    obtain ⟨kd,a,n,x,ao,c,ds,rfl,rfl,hx,hc⟩:=h
    obtain ⟨fin,hfin⟩:=nm (efK (k + 1) (eD kd a n x ds))
    rw [← hfin]
    simp only [efK,gEe] at hfin
    obtain ⟨qa,hqa⟩:=nm (ds.all (efK k))
    rw [← hqa] at hfin
    have KA : Hx (∀ X,Ov w X→Ro 111 #[.slice ao ds.length c,.func (.func 70) #[] #[]] X (.bool qa)):=fun X hX => by rw [hqa]; exact allE_c 70 (fun args w => by simp [go_sem]) (efK k) ds ao c X (fun cs d X _ h => ih cs d X h) (lsE_over hX hc)
    have HL:=hc.max
    clear hqa ih hc
    show Ro 70 #[.agg #[.int .i64 kd,.int .i64 a,.int .i64 n,.string x,.slice ao ds.length c]] w _
    obtain ⟨nn,hnn⟩:=nm ds.length
    rw [← hnn] at hfin KA HL ⊢
    clear hnn
    by_cases hlo : kd < 1
    · have HV : Hx (fin = false):=by show _ = _; rw [hfin,decide_eq_false (show ¬ 1≤kd by omega)]; simp
      clear hfin
      go_enter Tryz.func70,Tryz.ntmps70
      go_wp2_with fail
      go_ret
      exact ⟨by rw [HV.o]; (first | rfl | (simp; done) | (simp; assumption) | (simp; omega)),bA _ _⟩
    by_cases hhi : 7 < kd
    · have HV : Hx (fin = false):=by show _ = _; rw [hfin,decide_eq_false (show ¬ kd≤7 by omega)]; simp
      clear hfin
      go_enter Tryz.func70,Tryz.ntmps70
      go_wp2_with fail
      go_ret
      exact ⟨by rw [HV.o]; (first | rfl | (simp; done) | (simp; assumption) | (simp; omega)),bA _ _⟩
    have hk : kd = 1∨kd = 2∨kd = 3∨kd = 4∨kd = 5∨kd = 6∨kd = 7:=by omega
    clear hlo hhi
    rcases hk with rfl | rfl | rfl | rfl | rfl | rfl | rfl
    · obtain ⟨qn,hqn⟩:=nm (nfS x.data.toList false)
      have HF : Hx (fin = (decide ((-9999999 : Int)≤n) && decide (n≤9999999) && qn && decide (nn = 0) && qa)):=by show _ = _; rw [hfin,hqn]; simp
      have KN : Hx (∀ X,Ov w X→Ro 66 #[.string x,.bool false] X (.bool qn)):=fun X _ => by rw [hqn]; exact nameFine_c x false X hx
      clear hfin hqn hx
      go_enter Tryz.func70,Tryz.ntmps70
      by_cases h1 : (-9999999 : Int)≤n
      · by_cases h2 : n≤9999999
        · go_wp2_with fail
          refine (KN.o _ (bA w (.cells #[.int .i64 1,.int .i64 a,.int .i64 n,.string x,.slice ao nn c] 49))).mono ?_
          rintro e w1 ⟨rfl,hb⟩
          have HB1 : Hx (Ov w w1):=over_trans (bA w (.cells #[.int .i64 1,.int .i64 a,.int .i64 n,.string x,.slice ao nn c] 49)) hb
          have HR0_1 : Hx (RowAt [.int .i64 1,.int .i64 a,.int .i64 n,.string x,.slice ao nn c] w1 w.heap.size):=RowAt.over (al10 w [.int .i64 1,.int .i64 a,.int .i64 n,.string x,.slice ao nn c] 49) hb
          clear hb  KN
          cases qn with
          | true =>
            by_cases h3 : nn = 0
            · subst h3
              obtain ⟨m0x0,m0x1,m0x2,m0x3,m0x4⟩:=rc5 HR0_1.o
              go_wp2_with fail
              refine (KA.o _ HB1.o).mono ?_
              rintro e w2 ⟨rfl,hb⟩
              have HB2 : Hx (Ov w w2):=over_trans HB1.o hb
              have HR0_2 : Hx (RowAt [.int .i64 1,.int .i64 a,.int .i64 n,.string x,.slice ao 0 c] w2 w.heap.size):=HR0_1.o.over hb
              clear hb m0x0 m0x1 m0x2 m0x3 m0x4 KA
              have HV : Hx (fin = qa):=by have h:=HF.o; simp [h1,h2] at h; exact h
              obtain ⟨m0x0,m0x1,m0x2,m0x3,m0x4⟩:=rc5 HR0_2.o
              go_wp2_with fail
              go_ret
              exact ⟨by rw [HV.o]; (first | rfl | (simp; done) | (simp; assumption) | (simp; omega)),HB2.o⟩
            · have hi : ¬ (nn : Int) = 0:=by omega
              have HV : Hx (fin = false):=by have h:=HF.o; simp [h3] at h; exact h
              obtain ⟨m0x0,m0x1,m0x2,m0x3,m0x4⟩:=rc5 HR0_1.o
              go_wp2_with fail
              go_ret
              exact ⟨by rw [HV.o]; (first | rfl | (simp; done) | (simp; assumption) | (simp; omega)),HB1.o⟩
          | false =>
            have HV : Hx (fin = false):=by have h:=HF.o; simp at h; exact h
            obtain ⟨m0x0,m0x1,m0x2,m0x3,m0x4⟩:=rc5 HR0_1.o
            go_wp2_with fail
            go_ret
            exact ⟨by rw [HV.o]; (first | rfl | (simp; done) | (simp; assumption) | (simp; omega)),HB1.o⟩
        · have HV : Hx (fin = false):=by have h:=HF.o; simp [h2] at h; exact h
          go_wp2_with fail
          go_ret
          exact ⟨by rw [HV.o]; (first | rfl | (simp; done) | (simp; assumption) | (simp; omega)),bA w (.cells #[.int .i64 1,.int .i64 a,.int .i64 n,.string x,.slice ao nn c] 49)⟩
      · have HV : Hx (fin = false):=by have h:=HF.o; simp [h1] at h; exact h
        go_wp2_with fail
        go_ret
        exact ⟨by rw [HV.o]; (first | rfl | (simp; done) | (simp; assumption) | (simp; omega)),bA w (.cells #[.int .i64 1,.int .i64 a,.int .i64 n,.string x,.slice ao nn c] 49)⟩
    · obtain ⟨qn,hqn⟩:=nm (nfS x.data.toList true)
      have HF : Hx (fin = (decide ((0 : Int)≤n) && decide (n≤0) && qn && decide (nn = 0) && qa)):=by show _ = _; rw [hfin,hqn]; simp
      have KN : Hx (∀ X,Ov w X→Ro 66 #[.string x,.bool true] X (.bool qn)):=fun X _ => by rw [hqn]; exact nameFine_c x true X hx
      clear hfin hqn hx
      go_enter Tryz.func70,Tryz.ntmps70
      by_cases h1 : 0≤n
      · by_cases h2 : n≤0
        · go_wp2_with fail
          refine (KN.o _ (bA w (.cells #[.int .i64 2,.int .i64 a,.int .i64 n,.string x,.slice ao nn c] 49))).mono ?_
          rintro e w1 ⟨rfl,hb⟩
          have HB1 : Hx (Ov w w1):=over_trans (bA w (.cells #[.int .i64 2,.int .i64 a,.int .i64 n,.string x,.slice ao nn c] 49)) hb
          have HR0_1 : Hx (RowAt [.int .i64 2,.int .i64 a,.int .i64 n,.string x,.slice ao nn c] w1 w.heap.size):=RowAt.over (al10 w [.int .i64 2,.int .i64 a,.int .i64 n,.string x,.slice ao nn c] 49) hb
          clear hb  KN
          cases qn with
          | true =>
            by_cases h3 : nn = 0
            · subst h3
              obtain ⟨m0x0,m0x1,m0x2,m0x3,m0x4⟩:=rc5 HR0_1.o
              go_wp2_with fail
              refine (KA.o _ HB1.o).mono ?_
              rintro e w2 ⟨rfl,hb⟩
              have HB2 : Hx (Ov w w2):=over_trans HB1.o hb
              have HR0_2 : Hx (RowAt [.int .i64 2,.int .i64 a,.int .i64 n,.string x,.slice ao 0 c] w2 w.heap.size):=HR0_1.o.over hb
              clear hb m0x0 m0x1 m0x2 m0x3 m0x4 KA
              have HV : Hx (fin = qa):=by have h:=HF.o; simp [h1,h2] at h; exact h
              obtain ⟨m0x0,m0x1,m0x2,m0x3,m0x4⟩:=rc5 HR0_2.o
              go_wp2_with fail
              go_ret
              exact ⟨by rw [HV.o]; (first | rfl | (simp; done) | (simp; assumption) | (simp; omega)),HB2.o⟩
            · have hi : ¬ (nn : Int) = 0:=by omega
              have HV : Hx (fin = false):=by have h:=HF.o; simp [h3] at h; exact h
              obtain ⟨m0x0,m0x1,m0x2,m0x3,m0x4⟩:=rc5 HR0_1.o
              go_wp2_with fail
              go_ret
              exact ⟨by rw [HV.o]; (first | rfl | (simp; done) | (simp; assumption) | (simp; omega)),HB1.o⟩
          | false =>
            have HV : Hx (fin = false):=by have h:=HF.o; simp at h; exact h
            obtain ⟨m0x0,m0x1,m0x2,m0x3,m0x4⟩:=rc5 HR0_1.o
            go_wp2_with fail
            go_ret
            exact ⟨by rw [HV.o]; (first | rfl | (simp; done) | (simp; assumption) | (simp; omega)),HB1.o⟩
        · have HV : Hx (fin = false):=by have h:=HF.o; simp [h2] at h; exact h
          go_wp2_with fail
          go_ret
          exact ⟨by rw [HV.o]; (first | rfl | (simp; done) | (simp; assumption) | (simp; omega)),bA w (.cells #[.int .i64 2,.int .i64 a,.int .i64 n,.string x,.slice ao nn c] 49)⟩
      · have HV : Hx (fin = false):=by have h:=HF.o; simp [h1] at h; exact h
        go_wp2_with fail
        go_ret
        exact ⟨by rw [HV.o]; (first | rfl | (simp; done) | (simp; assumption) | (simp; omega)),bA w (.cells #[.int .i64 2,.int .i64 a,.int .i64 n,.string x,.slice ao nn c] 49)⟩
    · obtain ⟨qn,hqn⟩:=nm (nfS x.data.toList false)
      have HF : Hx (fin = (decide ((0 : Int)≤n) && decide (n≤0) && qn && decide (nn = 2) && qa)):=by show _ = _; rw [hfin,hqn]; simp
      have KN : Hx (∀ X,Ov w X→Ro 66 #[.string x,.bool false] X (.bool qn)):=fun X _ => by rw [hqn]; exact nameFine_c x false X hx
      clear hfin hqn hx
      go_enter Tryz.func70,Tryz.ntmps70
      by_cases h1 : 0≤n
      · by_cases h2 : n≤0
        · go_wp2_with fail
          refine (KN.o _ (bA w (.cells #[.int .i64 3,.int .i64 a,.int .i64 n,.string x,.slice ao nn c] 49))).mono ?_
          rintro e w1 ⟨rfl,hb⟩
          have HB1 : Hx (Ov w w1):=over_trans (bA w (.cells #[.int .i64 3,.int .i64 a,.int .i64 n,.string x,.slice ao nn c] 49)) hb
          have HR0_1 : Hx (RowAt [.int .i64 3,.int .i64 a,.int .i64 n,.string x,.slice ao nn c] w1 w.heap.size):=RowAt.over (al10 w [.int .i64 3,.int .i64 a,.int .i64 n,.string x,.slice ao nn c] 49) hb
          clear hb  KN
          cases qn with
          | true =>
            by_cases h3 : nn = 2
            · subst h3
              obtain ⟨m0x0,m0x1,m0x2,m0x3,m0x4⟩:=rc5 HR0_1.o
              go_wp2_with fail
              refine (KA.o _ HB1.o).mono ?_
              rintro e w2 ⟨rfl,hb⟩
              have HB2 : Hx (Ov w w2):=over_trans HB1.o hb
              have HR0_2 : Hx (RowAt [.int .i64 3,.int .i64 a,.int .i64 n,.string x,.slice ao 2 c] w2 w.heap.size):=HR0_1.o.over hb
              clear hb m0x0 m0x1 m0x2 m0x3 m0x4 KA
              have HV : Hx (fin = qa):=by have h:=HF.o; simp [h1,h2] at h; exact h
              obtain ⟨m0x0,m0x1,m0x2,m0x3,m0x4⟩:=rc5 HR0_2.o
              go_wp2_with fail
              go_ret
              exact ⟨by rw [HV.o]; (first | rfl | (simp; done) | (simp; assumption) | (simp; omega)),HB2.o⟩
            · have hi : ¬ (nn : Int) = 2:=by omega
              have HV : Hx (fin = false):=by have h:=HF.o; simp [h3] at h; exact h
              obtain ⟨m0x0,m0x1,m0x2,m0x3,m0x4⟩:=rc5 HR0_1.o
              go_wp2_with fail
              go_ret
              exact ⟨by rw [HV.o]; (first | rfl | (simp; done) | (simp; assumption) | (simp; omega)),HB1.o⟩
          | false =>
            have HV : Hx (fin = false):=by have h:=HF.o; simp at h; exact h
            obtain ⟨m0x0,m0x1,m0x2,m0x3,m0x4⟩:=rc5 HR0_1.o
            go_wp2_with fail
            go_ret
            exact ⟨by rw [HV.o]; (first | rfl | (simp; done) | (simp; assumption) | (simp; omega)),HB1.o⟩
        · have HV : Hx (fin = false):=by have h:=HF.o; simp [h2] at h; exact h
          go_wp2_with fail
          go_ret
          exact ⟨by rw [HV.o]; (first | rfl | (simp; done) | (simp; assumption) | (simp; omega)),bA w (.cells #[.int .i64 3,.int .i64 a,.int .i64 n,.string x,.slice ao nn c] 49)⟩
      · have HV : Hx (fin = false):=by have h:=HF.o; simp [h1] at h; exact h
        go_wp2_with fail
        go_ret
        exact ⟨by rw [HV.o]; (first | rfl | (simp; done) | (simp; assumption) | (simp; omega)),bA w (.cells #[.int .i64 3,.int .i64 a,.int .i64 n,.string x,.slice ao nn c] 49)⟩
    · obtain ⟨qn,hqn⟩:=nm (nfS x.data.toList false)
      have HF : Hx (fin = (decide ((0 : Int)≤n) && decide (n≤0) && qn && decide (nn = 2) && qa)):=by show _ = _; rw [hfin,hqn]; simp
      have KN : Hx (∀ X,Ov w X→Ro 66 #[.string x,.bool false] X (.bool qn)):=fun X _ => by rw [hqn]; exact nameFine_c x false X hx
      clear hfin hqn hx
      go_enter Tryz.func70,Tryz.ntmps70
      by_cases h1 : 0≤n
      · by_cases h2 : n≤0
        · go_wp2_with fail
          refine (KN.o _ (bA w (.cells #[.int .i64 4,.int .i64 a,.int .i64 n,.string x,.slice ao nn c] 49))).mono ?_
          rintro e w1 ⟨rfl,hb⟩
          have HB1 : Hx (Ov w w1):=over_trans (bA w (.cells #[.int .i64 4,.int .i64 a,.int .i64 n,.string x,.slice ao nn c] 49)) hb
          have HR0_1 : Hx (RowAt [.int .i64 4,.int .i64 a,.int .i64 n,.string x,.slice ao nn c] w1 w.heap.size):=RowAt.over (al10 w [.int .i64 4,.int .i64 a,.int .i64 n,.string x,.slice ao nn c] 49) hb
          clear hb  KN
          cases qn with
          | true =>
            by_cases h3 : nn = 2
            · subst h3
              obtain ⟨m0x0,m0x1,m0x2,m0x3,m0x4⟩:=rc5 HR0_1.o
              go_wp2_with fail
              refine (KA.o _ HB1.o).mono ?_
              rintro e w2 ⟨rfl,hb⟩
              have HB2 : Hx (Ov w w2):=over_trans HB1.o hb
              have HR0_2 : Hx (RowAt [.int .i64 4,.int .i64 a,.int .i64 n,.string x,.slice ao 2 c] w2 w.heap.size):=HR0_1.o.over hb
              clear hb m0x0 m0x1 m0x2 m0x3 m0x4 KA
              have HV : Hx (fin = qa):=by have h:=HF.o; simp [h1,h2] at h; exact h
              obtain ⟨m0x0,m0x1,m0x2,m0x3,m0x4⟩:=rc5 HR0_2.o
              go_wp2_with fail
              go_ret
              exact ⟨by rw [HV.o]; (first | rfl | (simp; done) | (simp; assumption) | (simp; omega)),HB2.o⟩
            · have hi : ¬ (nn : Int) = 2:=by omega
              have HV : Hx (fin = false):=by have h:=HF.o; simp [h3] at h; exact h
              obtain ⟨m0x0,m0x1,m0x2,m0x3,m0x4⟩:=rc5 HR0_1.o
              go_wp2_with fail
              go_ret
              exact ⟨by rw [HV.o]; (first | rfl | (simp; done) | (simp; assumption) | (simp; omega)),HB1.o⟩
          | false =>
            have HV : Hx (fin = false):=by have h:=HF.o; simp at h; exact h
            obtain ⟨m0x0,m0x1,m0x2,m0x3,m0x4⟩:=rc5 HR0_1.o
            go_wp2_with fail
            go_ret
            exact ⟨by rw [HV.o]; (first | rfl | (simp; done) | (simp; assumption) | (simp; omega)),HB1.o⟩
        · have HV : Hx (fin = false):=by have h:=HF.o; simp [h2] at h; exact h
          go_wp2_with fail
          go_ret
          exact ⟨by rw [HV.o]; (first | rfl | (simp; done) | (simp; assumption) | (simp; omega)),bA w (.cells #[.int .i64 4,.int .i64 a,.int .i64 n,.string x,.slice ao nn c] 49)⟩
      · have HV : Hx (fin = false):=by have h:=HF.o; simp [h1] at h; exact h
        go_wp2_with fail
        go_ret
        exact ⟨by rw [HV.o]; (first | rfl | (simp; done) | (simp; assumption) | (simp; omega)),bA w (.cells #[.int .i64 4,.int .i64 a,.int .i64 n,.string x,.slice ao nn c] 49)⟩
    · obtain ⟨qn,hqn⟩:=nm (nfS x.data.toList false)
      have HF : Hx (fin = (decide ((0 : Int)≤n) && decide (n≤0) && qn && decide (nn = 2) && qa)):=by show _ = _; rw [hfin,hqn]; simp
      have KN : Hx (∀ X,Ov w X→Ro 66 #[.string x,.bool false] X (.bool qn)):=fun X _ => by rw [hqn]; exact nameFine_c x false X hx
      clear hfin hqn hx
      go_enter Tryz.func70,Tryz.ntmps70
      by_cases h1 : 0≤n
      · by_cases h2 : n≤0
        · go_wp2_with fail
          refine (KN.o _ (bA w (.cells #[.int .i64 5,.int .i64 a,.int .i64 n,.string x,.slice ao nn c] 49))).mono ?_
          rintro e w1 ⟨rfl,hb⟩
          have HB1 : Hx (Ov w w1):=over_trans (bA w (.cells #[.int .i64 5,.int .i64 a,.int .i64 n,.string x,.slice ao nn c] 49)) hb
          have HR0_1 : Hx (RowAt [.int .i64 5,.int .i64 a,.int .i64 n,.string x,.slice ao nn c] w1 w.heap.size):=RowAt.over (al10 w [.int .i64 5,.int .i64 a,.int .i64 n,.string x,.slice ao nn c] 49) hb
          clear hb  KN
          cases qn with
          | true =>
            by_cases h3 : nn = 2
            · subst h3
              obtain ⟨m0x0,m0x1,m0x2,m0x3,m0x4⟩:=rc5 HR0_1.o
              go_wp2_with fail
              refine (KA.o _ HB1.o).mono ?_
              rintro e w2 ⟨rfl,hb⟩
              have HB2 : Hx (Ov w w2):=over_trans HB1.o hb
              have HR0_2 : Hx (RowAt [.int .i64 5,.int .i64 a,.int .i64 n,.string x,.slice ao 2 c] w2 w.heap.size):=HR0_1.o.over hb
              clear hb m0x0 m0x1 m0x2 m0x3 m0x4 KA
              have HV : Hx (fin = qa):=by have h:=HF.o; simp [h1,h2] at h; exact h
              obtain ⟨m0x0,m0x1,m0x2,m0x3,m0x4⟩:=rc5 HR0_2.o
              go_wp2_with fail
              go_ret
              exact ⟨by rw [HV.o]; (first | rfl | (simp; done) | (simp; assumption) | (simp; omega)),HB2.o⟩
            · have hi : ¬ (nn : Int) = 2:=by omega
              have HV : Hx (fin = false):=by have h:=HF.o; simp [h3] at h; exact h
              obtain ⟨m0x0,m0x1,m0x2,m0x3,m0x4⟩:=rc5 HR0_1.o
              go_wp2_with fail
              go_ret
              exact ⟨by rw [HV.o]; (first | rfl | (simp; done) | (simp; assumption) | (simp; omega)),HB1.o⟩
          | false =>
            have HV : Hx (fin = false):=by have h:=HF.o; simp at h; exact h
            obtain ⟨m0x0,m0x1,m0x2,m0x3,m0x4⟩:=rc5 HR0_1.o
            go_wp2_with fail
            go_ret
            exact ⟨by rw [HV.o]; (first | rfl | (simp; done) | (simp; assumption) | (simp; omega)),HB1.o⟩
        · have HV : Hx (fin = false):=by have h:=HF.o; simp [h2] at h; exact h
          go_wp2_with fail
          go_ret
          exact ⟨by rw [HV.o]; (first | rfl | (simp; done) | (simp; assumption) | (simp; omega)),bA w (.cells #[.int .i64 5,.int .i64 a,.int .i64 n,.string x,.slice ao nn c] 49)⟩
      · have HV : Hx (fin = false):=by have h:=HF.o; simp [h1] at h; exact h
        go_wp2_with fail
        go_ret
        exact ⟨by rw [HV.o]; (first | rfl | (simp; done) | (simp; assumption) | (simp; omega)),bA w (.cells #[.int .i64 5,.int .i64 a,.int .i64 n,.string x,.slice ao nn c] 49)⟩
    · obtain ⟨qn,hqn⟩:=nm (nfS x.data.toList false)
      have HF : Hx (fin = (decide ((0 : Int)≤n) && decide (n≤0) && qn && decide (nn = 2) && qa)):=by show _ = _; rw [hfin,hqn]; simp
      have KN : Hx (∀ X,Ov w X→Ro 66 #[.string x,.bool false] X (.bool qn)):=fun X _ => by rw [hqn]; exact nameFine_c x false X hx
      clear hfin hqn hx
      go_enter Tryz.func70,Tryz.ntmps70
      by_cases h1 : 0≤n
      · by_cases h2 : n≤0
        · go_wp2_with fail
          refine (KN.o _ (bA w (.cells #[.int .i64 6,.int .i64 a,.int .i64 n,.string x,.slice ao nn c] 49))).mono ?_
          rintro e w1 ⟨rfl,hb⟩
          have HB1 : Hx (Ov w w1):=over_trans (bA w (.cells #[.int .i64 6,.int .i64 a,.int .i64 n,.string x,.slice ao nn c] 49)) hb
          have HR0_1 : Hx (RowAt [.int .i64 6,.int .i64 a,.int .i64 n,.string x,.slice ao nn c] w1 w.heap.size):=RowAt.over (al10 w [.int .i64 6,.int .i64 a,.int .i64 n,.string x,.slice ao nn c] 49) hb
          clear hb  KN
          cases qn with
          | true =>
            by_cases h3 : nn = 2
            · subst h3
              obtain ⟨m0x0,m0x1,m0x2,m0x3,m0x4⟩:=rc5 HR0_1.o
              go_wp2_with fail
              refine (KA.o _ HB1.o).mono ?_
              rintro e w2 ⟨rfl,hb⟩
              have HB2 : Hx (Ov w w2):=over_trans HB1.o hb
              have HR0_2 : Hx (RowAt [.int .i64 6,.int .i64 a,.int .i64 n,.string x,.slice ao 2 c] w2 w.heap.size):=HR0_1.o.over hb
              clear hb m0x0 m0x1 m0x2 m0x3 m0x4 KA
              have HV : Hx (fin = qa):=by have h:=HF.o; simp [h1,h2] at h; exact h
              obtain ⟨m0x0,m0x1,m0x2,m0x3,m0x4⟩:=rc5 HR0_2.o
              go_wp2_with fail
              go_ret
              exact ⟨by rw [HV.o]; (first | rfl | (simp; done) | (simp; assumption) | (simp; omega)),HB2.o⟩
            · have hi : ¬ (nn : Int) = 2:=by omega
              have HV : Hx (fin = false):=by have h:=HF.o; simp [h3] at h; exact h
              obtain ⟨m0x0,m0x1,m0x2,m0x3,m0x4⟩:=rc5 HR0_1.o
              go_wp2_with fail
              go_ret
              exact ⟨by rw [HV.o]; (first | rfl | (simp; done) | (simp; assumption) | (simp; omega)),HB1.o⟩
          | false =>
            have HV : Hx (fin = false):=by have h:=HF.o; simp at h; exact h
            obtain ⟨m0x0,m0x1,m0x2,m0x3,m0x4⟩:=rc5 HR0_1.o
            go_wp2_with fail
            go_ret
            exact ⟨by rw [HV.o]; (first | rfl | (simp; done) | (simp; assumption) | (simp; omega)),HB1.o⟩
        · have HV : Hx (fin = false):=by have h:=HF.o; simp [h2] at h; exact h
          go_wp2_with fail
          go_ret
          exact ⟨by rw [HV.o]; (first | rfl | (simp; done) | (simp; assumption) | (simp; omega)),bA w (.cells #[.int .i64 6,.int .i64 a,.int .i64 n,.string x,.slice ao nn c] 49)⟩
      · have HV : Hx (fin = false):=by have h:=HF.o; simp [h1] at h; exact h
        go_wp2_with fail
        go_ret
        exact ⟨by rw [HV.o]; (first | rfl | (simp; done) | (simp; assumption) | (simp; omega)),bA w (.cells #[.int .i64 6,.int .i64 a,.int .i64 n,.string x,.slice ao nn c] 49)⟩
    · obtain ⟨qn,hqn⟩:=nm (nfS x.data.toList false)
      have HF : Hx (fin = (decide ((0 : Int)≤n) && decide (n≤0) && qn && decide (nn = 2) && qa)):=by show _ = _; rw [hfin,hqn]; simp
      have KN : Hx (∀ X,Ov w X→Ro 66 #[.string x,.bool false] X (.bool qn)):=fun X _ => by rw [hqn]; exact nameFine_c x false X hx
      clear hfin hqn hx
      go_enter Tryz.func70,Tryz.ntmps70
      by_cases h1 : 0≤n
      · by_cases h2 : n≤0
        · go_wp2_with fail
          refine (KN.o _ (bA w (.cells #[.int .i64 7,.int .i64 a,.int .i64 n,.string x,.slice ao nn c] 49))).mono ?_
          rintro e w1 ⟨rfl,hb⟩
          have HB1 : Hx (Ov w w1):=over_trans (bA w (.cells #[.int .i64 7,.int .i64 a,.int .i64 n,.string x,.slice ao nn c] 49)) hb
          have HR0_1 : Hx (RowAt [.int .i64 7,.int .i64 a,.int .i64 n,.string x,.slice ao nn c] w1 w.heap.size):=RowAt.over (al10 w [.int .i64 7,.int .i64 a,.int .i64 n,.string x,.slice ao nn c] 49) hb
          clear hb  KN
          cases qn with
          | true =>
            by_cases h3 : nn = 2
            · subst h3
              obtain ⟨m0x0,m0x1,m0x2,m0x3,m0x4⟩:=rc5 HR0_1.o
              go_wp2_with fail
              refine (KA.o _ HB1.o).mono ?_
              rintro e w2 ⟨rfl,hb⟩
              have HB2 : Hx (Ov w w2):=over_trans HB1.o hb
              have HR0_2 : Hx (RowAt [.int .i64 7,.int .i64 a,.int .i64 n,.string x,.slice ao 2 c] w2 w.heap.size):=HR0_1.o.over hb
              clear hb m0x0 m0x1 m0x2 m0x3 m0x4 KA
              have HV : Hx (fin = qa):=by have h:=HF.o; simp [h1,h2] at h; exact h
              obtain ⟨m0x0,m0x1,m0x2,m0x3,m0x4⟩:=rc5 HR0_2.o
              go_wp2_with fail
              go_ret
              exact ⟨by rw [HV.o]; (first | rfl | (simp; done) | (simp; assumption) | (simp; omega)),HB2.o⟩
            · have hi : ¬ (nn : Int) = 2:=by omega
              have HV : Hx (fin = false):=by have h:=HF.o; simp [h3] at h; exact h
              obtain ⟨m0x0,m0x1,m0x2,m0x3,m0x4⟩:=rc5 HR0_1.o
              go_wp2_with fail
              go_ret
              exact ⟨by rw [HV.o]; (first | rfl | (simp; done) | (simp; assumption) | (simp; omega)),HB1.o⟩
          | false =>
            have HV : Hx (fin = false):=by have h:=HF.o; simp at h; exact h
            obtain ⟨m0x0,m0x1,m0x2,m0x3,m0x4⟩:=rc5 HR0_1.o
            go_wp2_with fail
            go_ret
            exact ⟨by rw [HV.o]; (first | rfl | (simp; done) | (simp; assumption) | (simp; omega)),HB1.o⟩
        · have HV : Hx (fin = false):=by have h:=HF.o; simp [h2] at h; exact h
          go_wp2_with fail
          go_ret
          exact ⟨by rw [HV.o]; (first | rfl | (simp; done) | (simp; assumption) | (simp; omega)),bA w (.cells #[.int .i64 7,.int .i64 a,.int .i64 n,.string x,.slice ao nn c] 49)⟩
      · have HV : Hx (fin = false):=by have h:=HF.o; simp [h1] at h; exact h
        go_wp2_with fail
        go_ret
        exact ⟨by rw [HV.o]; (first | rfl | (simp; done) | (simp; assumption) | (simp; omega)),bA w (.cells #[.int .i64 7,.int .i64 a,.int .i64 n,.string x,.slice ao nn c] 49)⟩
set_option maxHeartbeats 4000000 in
set_option maxRecDepth 100000 in
theorem listFineE_c {k : Nat} (F : FuncId) (hC : ∀ (args : Array Value) (w : World),(callFunc F args).run Tryz.prog w = .ok (.enter F args) w) (p : D→Bool) (l : List D) (ao : Option Addr) (cap : Nat) (may : Bool) (w : World) (hp : ∀ (cs : List Value) (d : D) (X : World),d∈l→ZE X k cs d→Ro F #[.agg cs.toArray] X (.bool (p d))) (hc : LS 5 (ZE w k) w (.slice ao l.length cap) l) :
    Ro 72 #[.slice ao l.length cap,.bool may,.func (.func F) #[] #[]] w (.bool (lfS l may p)):=by
  obtain ⟨fin,hfin⟩:=nm (lfS l may p)
  rw [← hfin]
  unfold lfS at hfin
  obtain ⟨qa,hqa⟩:=nm (l.all p)
  have he : l.isEmpty = decide (l.length = 0):=by cases l <;> simp
  rw [← hqa,he] at hfin
  have KA : Hx (∀ X,Ov w X→Ro 111 #[.slice ao l.length cap,.func (.func F) #[] #[]] X (.bool qa)):=fun X hX => by rw [hqa]; exact allE_c F hC p l ao cap X hp (lsE_over hX hc)
  have HL:=hc.max
  obtain ⟨nn,hnn⟩:=nm l.length
  rw [← hnn] at hfin KA HL ⊢
  have HF:=hide hfin
  clear hqa hc hp hnn hfin he
  go_enter Tryz.func72,Tryz.ntmps72
  cases may with
  | true =>
    go_wp2_with fail
    refine (KA.o _ (Below.refl _ _)).mono ?_
    rintro e w1 ⟨rfl,hb⟩
    have HB1 : Hx (Ov w w1):=over_trans (Below.refl _ _) hb
    clear hb  KA
    have HV : Hx (fin = qa):=by have h:=HF.o; simp at h; exact h
    go_wp2_with fail
    go_ret
    exact ⟨by rw [HV.o]; (first | rfl | (simp; done) | (simp; assumption) | (simp; omega)),HB1.o⟩
  | false =>
    by_cases h0 : nn = 0
    · subst h0
      go_wp2_with fail
      refine (KA.o _ (Below.refl _ _)).mono ?_
      rintro e w1 ⟨rfl,hb⟩
      have HB1 : Hx (Ov w w1):=over_trans (Below.refl _ _) hb
      clear hb  KA
      have HV : Hx (fin = qa):=by have h:=HF.o; simp at h; exact h
      go_wp2_with fail
      go_ret
      exact ⟨by rw [HV.o]; (first | rfl | (simp; done) | (simp; assumption) | (simp; omega)),HB1.o⟩
    · have hi : ¬ (nn : Int) = 0:=by omega
      have HV : Hx (fin = false):=by have h:=HF.o; simp [h0] at h; exact h
      go_wp2_with fail
      go_ret
      exact ⟨by rw [HV.o]; (first | rfl | (simp; done) | (simp; assumption) | (simp; omega)),Below.refl _ _⟩
set_option maxHeartbeats 4000000 in
set_option maxRecDepth 100000 in
theorem listFineC_c {ke k : Nat} (F : FuncId) (hC : ∀ (args : Array Value) (w : World),(callFunc F args).run Tryz.prog w = .ok (.enter F args) w) (p : D→Bool) (l : List D) (ao : Option Addr) (cap : Nat) (may : Bool) (w : World) (hp : ∀ (cs : List Value) (d : D) (X : World),d∈l→ZC X ke k cs d→Ro F #[.agg cs.toArray] X (.bool (p d))) (hc : LS 12 (ZC w ke k) w (.slice ao l.length cap) l) :
    Ro 73 #[.slice ao l.length cap,.bool may,.func (.func F) #[] #[]] w (.bool (lfS l may p)):=by
  obtain ⟨fin,hfin⟩:=nm (lfS l may p)
  rw [← hfin]
  unfold lfS at hfin
  obtain ⟨qa,hqa⟩:=nm (l.all p)
  have he : l.isEmpty = decide (l.length = 0):=by cases l <;> simp
  rw [← hqa,he] at hfin
  have KA : Hx (∀ X,Ov w X→Ro 35 #[.slice ao l.length cap,.func (.func F) #[] #[]] X (.bool qa)):=fun X hX => by rw [hqa]; exact allC_c F hC p l ao cap X hp (lsC_over hX hc)
  have HL:=hc.max
  obtain ⟨nn,hnn⟩:=nm l.length
  rw [← hnn] at hfin KA HL ⊢
  have HF:=hide hfin
  clear hqa hc hp hnn hfin he
  go_enter Tryz.func73,Tryz.ntmps73
  cases may with
  | true =>
    go_wp2_with fail
    refine (KA.o _ (Below.refl _ _)).mono ?_
    rintro e w1 ⟨rfl,hb⟩
    have HB1 : Hx (Ov w w1):=over_trans (Below.refl _ _) hb
    clear hb  KA
    have HV : Hx (fin = qa):=by have h:=HF.o; simp at h; exact h
    go_wp2_with fail
    go_ret
    exact ⟨by rw [HV.o]; (first | rfl | (simp; done) | (simp; assumption) | (simp; omega)),HB1.o⟩
  | false =>
    by_cases h0 : nn = 0
    · subst h0
      go_wp2_with fail
      refine (KA.o _ (Below.refl _ _)).mono ?_
      rintro e w1 ⟨rfl,hb⟩
      have HB1 : Hx (Ov w w1):=over_trans (Below.refl _ _) hb
      clear hb  KA
      have HV : Hx (fin = qa):=by have h:=HF.o; simp at h; exact h
      go_wp2_with fail
      go_ret
      exact ⟨by rw [HV.o]; (first | rfl | (simp; done) | (simp; assumption) | (simp; omega)),HB1.o⟩
    · have hi : ¬ (nn : Int) = 0:=by omega
      have HV : Hx (fin = false):=by have h:=HF.o; simp [h0] at h; exact h
      go_wp2_with fail
      go_ret
      exact ⟨by rw [HV.o]; (first | rfl | (simp; done) | (simp; assumption) | (simp; omega)),Below.refl _ _⟩
end Go.Proofs.YtipngnjffjajpaaGreatDoor.Tx
