/- token.Join answers what it must, whatever tokens it is handed. -/
import Derived.Test.YtipngnjffjajpaaGreatDoorG02
namespace Go.Proofs.YtipngnjffjajpaaGreatDoor
open Go.RowKit
set_option linter.unusedVariables false
def joinErr (ts : List Tok) : Int:=if ts.all isAlone = true then (if sizes ts≤6001 then 0 else 2) else 1
def joinStr (ts : List Tok) : ByteArray:=if joinErr ts = 0 then ⟨(glueL ts).toArray⟩ else ⟨#[]⟩
theorem isAlone_size {t : Tok} (h : isAlone t = true) : t.text.size≤6000:=by
  simp only [isAlone,Bool.and_eq_true,decide_eq_true_eq] at h
  exact h.1.1
theorem isToks_bcell {w w' : World} {b off : Nat} {ts : List Tok} (h : ∀ j u,(toksCells ts)[j]? = some u→w.cell? ⟨b,off + j,none⟩ = some u) (hb : Below w.heap.size w w') :
    ∀ j u,(toksCells ts)[j]? = some u→w'.cell? ⟨b,off + j,none⟩ = some u:=fun j u hu => by
  have h1:=h j u hu
  rw [hb.cell (p:=⟨b,off + j,none⟩) (World.block_lt_of_cell? w _ h1)]
  exact h1
theorem sizes_bound (ts : List Tok) (h : ts.all isAlone = true) : sizes ts≤6001 * ts.length:=by
  induction ts with
  | nil => simp [sizes]
  | cons t ts ih =>
    simp only [List.all_cons,Bool.and_eq_true] at h
    have h1:=isAlone_size h.1
    have h2:=ih h.2
    simp [sizes] at h2 ⊢
    omega
set_option maxHeartbeats 1000000 in
theorem Join_any (v : Value) (ts : List Tok) (w : World) (hv : IsToks w v ts) (hn : ts.length * 32≤140737488355328) (hx : ∀ t∈ts,t.text.size≤maxLen) :
    Calls Tryz.prog 18 #[v] w fun e w' => e = .returned (.tuple #[.string (joinStr ts),.int .i64 (joinErr ts)])∧Below w.heap.size w w':=by
  have hv0:=hv
  obtain ⟨ao,cap,rfl,hcc⟩:=hv
  go_enter Tryz.func18,Tryz.ntmps18
  go_wp2_with fail
  go_loopw [4,9] (fun l i wr => ∃ k : Nat,k≤ts.length∧i = .int .i64 k∧l = .int .i64 (sizes (ts.take k) : Nat)∧(ts.take k).all isAlone = true∧Below w.heap.size w wr) (fun _ i _ => ts.length - (intOf i).toNat)
  case atStart => exact ⟨0,Nat.zero_le _,rfl,rfl,rfl,Below.refl _ w⟩
  case round =>
    obtain ⟨k,hk,rfl,rfl,hall,hbel⟩:=hrel
    have hsb:=sizes_bound _ hall
    have hsb' : sizes (ts.take k)≤6001 * k:=by rw [List.length_take] at hsb; exact Nat.le_trans hsb (Nat.mul_le_mul_left _ (Nat.min_le_left _ _))
    clear hsb
    by_cases hkl : k < ts.length
    · obtain ⟨b,off,rfl,hcl⟩:=hcc (by rintro rfl; simp at hkl)
      obtain ⟨q0,q1,q2⟩:=cellsAt (isToks_bcell hcl hbel) hkl
      have htx0:=hx _ (List.getElem_mem hkl)
      have htk : ts.take (k + 1) = ts.take k ++ [ts[k]]:=List.take_succ_eq_append_getElem hkl
      have hal:=alone_any ts[k].kind ts[k].pos ts[k].text htx0
      have hex : ts[k] = ⟨ts[k].kind,ts[k].pos,ts[k].text⟩:=rfl
      obtain ⟨al,halv⟩ : ∃ al,al = isAlone ts[k]:=⟨_,rfl⟩
      have hsz : sizes (ts.take (k + 1)) = sizes (ts.take k) + (ts[k].text.size + 1):=by rw [htk,sizes_snoc]
      have hal2 : (ts.take (k + 1)).all isAlone = al:=by rw [htk,List.all_append,hall,halv]; simp
      have hae : al = true→ts[k].text.size≤6000:=fun h => isAlone_size (by rw [← halv]; exact h)
      have hbad : al = false→joinErr ts = 1:=fun h => by
        unfold joinErr
        rw [if_neg]
        intro hh
        have:=List.all_eq_true.1 hh ts[k] (List.getElem_mem hkl)
        rw [← halv,h] at this
        cases this
      rw [← hex,← halv] at hal
      unfold tokVal at hal
      obtain ⟨kk,hkk⟩ : ∃ x,x = ts[k].kind:=⟨_,rfl⟩
      obtain ⟨pp,hpp⟩ : ∃ x,x = ts[k].pos:=⟨_,rfl⟩
      obtain ⟨tx,htx⟩ : ∃ x,x = ts[k].text:=⟨_,rfl⟩
      rw [← hkk] at q0 hal
      rw [← hpp] at q1 hal
      rw [← htx] at q2 hal hsz hae htx0
      have HAL:=hide hal
      have HSZ:=hide hsz
      have HA2:=hide hal2
      have HB:=hide hbad
      clear hkk hpp htx hal hsz hal2 hbad halv hex htk hcl hcc hx hv0
      cases al with
      | true =>
        have h6:=hae rfl
        clear hae
        go_wp2_with fail
        refine (HAL.out _).mono ?_
        rintro e w1 ⟨rfl,hb1⟩
        obtain ⟨hc1,hf1⟩:=bcell hb1
        have t2 : w1.cell? ⟨wr.heap.size,2,none⟩ = some (.string tx):=by rw [hc1 _ _ (by simp)]; simp [go_sem]
        have hbel1 : Below w.heap.size w w1:=(hbel.alloc (by have:=hbel.size; omega) _).trans (hb1.mono (by have:=hbel.size; simp; omega))
        clear hc1 hf1 hb1 q0 q1 q2
        go_wp2_with fail
        refine ⟨⟨k + 1,by omega,by go_num,?_,HA2.out,hbel1⟩,by simp [intOf]; omega⟩
        rw [HSZ.out]
        go_num
      | false =>
        clear hae
        go_wp2_with fail
        refine (HAL.out _).mono ?_
        rintro e w1 ⟨rfl,hb1⟩
        have hbel1 : Below w.heap.size w w1:=(hbel.alloc (by have:=hbel.size; omega) _).trans (hb1.mono (by have:=hbel.size; simp; omega))
        clear hb1 q0 q1 q2
        go_wp2_with fail
        go_ret2
        have hj:=HB.out (by first | rfl | trivial)
        exact ⟨by simp [joinStr,hj],hbel1⟩
    · have hke : k = ts.length:=by omega
      have hz : sizes (ts.take k) = sizes ts:=by rw [hke,List.take_length]
      have hal : ts.all isAlone = true:=by rw [hke,List.take_length] at hall; exact hall
      rw [hz] at hsb' ⊢
      clear hz hall
      by_cases h6 : sizes ts≤6001
      · have hj : joinErr ts = 0:=by simp [joinErr,hal,h6]
        have hjs : joinStr ts = ⟨(glueL ts).toArray⟩:=by simp [joinStr,hj]
        have hg:=glue_any (.slice ao ts.length cap) ts wr (isToks_over hv0 hbel) h6
        have HJ:=hide hj
        have HJS:=hide hjs
        have HG:=hide hg
        clear hj hjs hg hcc hv0 hal hx
        go_wp2_with fail
        refine (HG.out).mono ?_
        rintro e w1 ⟨rfl,hb1⟩
        have hbel1 : Below w.heap.size w w1:=hbel.trans (hb1.mono hbel.size)
        go_wp2_with fail
        go_ret2
        exact ⟨by rw [HJ.out,HJS.out]; rfl,hbel1⟩
      · have hj : joinErr ts = 2:=by simp [joinErr,hal,h6]
        have hjs : joinStr ts = ⟨#[]⟩:=by simp [joinStr,hj]
        have HJ:=hide hj
        have HJS:=hide hjs
        clear hj hjs hcc hv0 hal hx
        go_wp2_with fail
        go_ret2
        exact ⟨by rw [HJ.out,HJS.out]; rfl,hbel⟩
end Go.Proofs.YtipngnjffjajpaaGreatDoor
