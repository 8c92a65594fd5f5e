/- What must be in any case: veilworklaw.tokenBegun answers true. -/
import Derived.Test.YtipngnjffjajpaaGreatDoorG17
namespace Go.Proofs.YtipngnjffjajpaaGreatDoor
open Go.RowKit
set_option linter.unusedVariables false
theorem Tryz.own : ownKnob Tryz.prog.godebug = none:=by kernel_rfl
def begunS : ByteArray:=⟨#[97,98,32,61,61,32,55,59,35,120]⟩
def begunT : List Tok:=[⟨1,0,⟨#[97,98]⟩⟩,⟨3,3,⟨#[61,61]⟩⟩,⟨2,6,⟨#[55]⟩⟩,⟨3,7,⟨#[59]⟩⟩]
theorem begun_scan : scanS begunS = .inl begunT:=by kernel_rfl
theorem begun_toks : scanToks begunS = begunT:=by simp [scanToks,begun_scan]
theorem begun_err : scanErr begunS = 0:=by simp [scanErr,begun_scan]
theorem begun_join : joinErr begunT = 0:=by kernel_rfl
theorem begun_str : joinStr begunT = ⟨#[97,98,32,61,61,32,55,32,59]⟩:=by kernel_rfl
set_option maxHeartbeats 1000000 in
theorem begun_any (w : World) : Calls Tryz.prog 16 #[] w fun e w' => e = .returned (.bool true)∧Below w.heap.size w w':=by
  have hS:=fun w => Scan_any begunS (by decide) w
  unfold begunS at hS
  have HS:=hide hS
  clear hS
  go_enter Tryz.func16,Tryz.ntmps16
  go_wp2_with fail
  refine (HS.out _).mono ?_
  rintro e w1 ⟨v,ts,p,r,rfl,hown,hb,hif⟩
  rw [if_pos (by decide)] at hif
  obtain ⟨hts,hp,hr⟩:=hif
  have e1 : scanToks ⟨#[97,98,32,61,61,32,55,59,35,120]⟩ = begunT:=begun_toks
  have e2 : scanErr ⟨#[97,98,32,61,61,32,55,59,35,120]⟩ = 0:=begun_err
  rw [e1] at hts
  rw [e2] at hr
  subst hts hr
  clear e1 e2 hp
  have hv:=isToks_owned hown
  have hJ:=Join_any v begunT w1 hv (by decide) (by intro t ht; simp [begunT] at ht; rcases ht with rfl | rfl | rfl | rfl <;> (unfold maxLen; simp; decide))
  rw [begun_join,begun_str] at hJ
  have HJ:=hide hJ
  clear hJ hown
  obtain ⟨ao,cap,rfl,hcc⟩:=hv
  obtain ⟨b,off,rfl,hcl⟩:=hcc (by simp [begunT])
  obtain ⟨q0,q1,q2⟩:=cellsAt (i:=1) hcl (by decide)
  have hlt : b < w1.heap.size:=World.block_lt_of_cell? w1 _ q0
  go_wp2_with fail
  refine (HJ.out).mono ?_
  rintro e w2 ⟨rfl,hb2⟩
  obtain ⟨hc2,hf2⟩:=bcell hb2
  have r0 : w2.cell? ⟨b,off + 3,none⟩ = some (.int .i64 3):=(hc2 _ _ hlt).trans q0
  have r1 : w2.cell? ⟨b,off + 3 + 1,none⟩ = some (.int .i64 3):=(hc2 _ _ hlt).trans q1
  have r2 : w2.cell? ⟨b,off + 3 + 2,none⟩ = some (.string ⟨#[61,61]⟩):=(hc2 _ _ hlt).trans q2
  have hbel : Below w.heap.size w w2:=hb.trans (hb2.mono hb.size)
  clear hc2 hf2 q0 q1 q2 hcl hcc hb hb2
  have h4 : begunT.length = 4:=rfl
  rw [h4]
  clear HJ
  go_wp2
  go_ret
  exact ⟨rfl,hbel⟩
end Go.Proofs.YtipngnjffjajpaaGreatDoor
