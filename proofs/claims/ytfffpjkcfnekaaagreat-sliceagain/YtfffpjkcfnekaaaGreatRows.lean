/-
  NARROWER THAN 'FOR EVERY INPUT', by the rows' own cells (each row's printed sentence says how): JudgeKnown: loops · WatchBegins: loops · WatchKnown: loops · WatchReads: loops · SliceKeeps: loops · SliceNeeds: loops · SliceAgain: loops.
  DERIVED. THE GIVEN ROWS OF THIS SEAT. 7 by the template 'for every input the law returns true; each argument reads behind the call as it read before'; 0 by the template 'total and deterministic' (their statements: YtfffpjkcfnekaaaGreatTotals.lean).
  GIVEN WITH THE SEED: the statements are not yours to turn. If you find one false, say at which input.
  Laid BY PROGRAM, IN A SANDBOX (cutbox-rows.mjs): the forced cells as the released guide's own fill.sh prints them over the translation ffe137c53fe0feb2… (all of the seat's roots in one cut). By AI agents, Wed Nov 11 2026. No macro, syntax, notation, axiom, sorry.
-/
import Derived.Test.YtfffpjkcfnekaaaGreatChecked
import GoSem.Claim
import GoSem.ClaimJoined
import GoSem.ClaimMapViews
import Derived.JoinedTies
import Derived.KernelRfl
namespace Go.Proofs.YtfffpjkcfnekaaaGreat
/- THE CELL 'sum', in the pinned program and in every row, IS THE sha256 OF THE DUMP (.gsa) THAT YtfffpjkcfnekaaaGreatProg.lean LOADS. Nothing in Lean hashes anything: it is a label: what it is worth is what the hold of that sum in a sandbox is worth. -/
noncomputable def Tryz.pinned : Pinned := { name := "ytfffpjkcfnekaaagreat", sum := "ffe137c53fe0feb24468b41b76db7d9004b08b39f821d2241ad876dce98e05bc", checked := Tryz.checked }
namespace Rows
def none {H : Type} : Left H := { results := [], args := [] }

/-- 'veilworklaw.JudgeKnown': WHATEVER THE INPUT: true; the input reads as it did. -/
def judgeKnownSpec : ChangeSpec := { name := "judgeKnown", fn := fun _ => fun
  | [d] => { results := [.lit (.bool true)], args := [d] }
  | _ => none }
def judgeKnownRow : OpenClaim := { program := "ytfffpjkcfnekaaagreat", sum := "ffe137c53fe0feb24468b41b76db7d9004b08b39f821d2241ad876dce98e05bc", func := "veilwork/veilworklaw.JudgeKnown", spec := "judgeKnown", unfollowed := true, recurses := true, loops := true, apart := false }
def JudgeKnownSaid : Prop := judgeKnownRow.holds Tryz.pinned (OpenSpec.ofChange judgeKnownSpec)

/-- ITS FALSE NEIGHBOUR: 'it returns false'. Refute it at one input. -/
def judgeKnownWrong : ChangeSpec := { name := "judgeKnown", fn := fun _ => fun
  | [d] => { results := [.lit (.bool false)], args := [d] }
  | _ => none }
def JudgeKnownWrongFalsely : Prop := judgeKnownRow.holds Tryz.pinned (OpenSpec.ofChange judgeKnownWrong)

/-- 'veilworklaw.WatchBegins': WHATEVER THE INPUT: true; the input reads as it did. -/
def watchBeginsSpec : ChangeSpec := { name := "watchBegins", fn := fun _ => fun
  | [d1, d2, d3] => { results := [.lit (.bool true)], args := [d1, d2, d3] }
  | _ => none }
def watchBeginsRow : OpenClaim := { program := "ytfffpjkcfnekaaagreat", sum := "ffe137c53fe0feb24468b41b76db7d9004b08b39f821d2241ad876dce98e05bc", func := "veilwork/veilworklaw.WatchBegins", spec := "watchBegins", unfollowed := true, recurses := true, loops := true, apart := false }
def WatchBeginsSaid : Prop := watchBeginsRow.holds Tryz.pinned (OpenSpec.ofChange watchBeginsSpec)

/-- ITS FALSE NEIGHBOUR: 'it returns false'. Refute it at one input. -/
def watchBeginsWrong : ChangeSpec := { name := "watchBegins", fn := fun _ => fun
  | [d1, d2, d3] => { results := [.lit (.bool false)], args := [d1, d2, d3] }
  | _ => none }
def WatchBeginsWrongFalsely : Prop := watchBeginsRow.holds Tryz.pinned (OpenSpec.ofChange watchBeginsWrong)

/-- 'veilworklaw.WatchKnown': WHATEVER THE INPUT: true; the input reads as it did. -/
def watchKnownSpec : ChangeSpec := { name := "watchKnown", fn := fun _ => fun
  | [d1, d2, d3] => { results := [.lit (.bool true)], args := [d1, d2, d3] }
  | _ => none }
def watchKnownRow : OpenClaim := { program := "ytfffpjkcfnekaaagreat", sum := "ffe137c53fe0feb24468b41b76db7d9004b08b39f821d2241ad876dce98e05bc", func := "veilwork/veilworklaw.WatchKnown", spec := "watchKnown", unfollowed := true, recurses := true, loops := true, apart := false }
def WatchKnownSaid : Prop := watchKnownRow.holds Tryz.pinned (OpenSpec.ofChange watchKnownSpec)

/-- ITS FALSE NEIGHBOUR: 'it returns false'. Refute it at one input. -/
def watchKnownWrong : ChangeSpec := { name := "watchKnown", fn := fun _ => fun
  | [d1, d2, d3] => { results := [.lit (.bool false)], args := [d1, d2, d3] }
  | _ => none }
def WatchKnownWrongFalsely : Prop := watchKnownRow.holds Tryz.pinned (OpenSpec.ofChange watchKnownWrong)

/-- 'veilworklaw.WatchReads': WHATEVER THE INPUT: true; the input reads as it did. -/
def watchReadsSpec : ChangeSpec := { name := "watchReads", fn := fun _ => fun
  | [d1, d2, d3, d4, d5] => { results := [.lit (.bool true)], args := [d1, d2, d3, d4, d5] }
  | _ => none }
def watchReadsRow : OpenClaim := { program := "ytfffpjkcfnekaaagreat", sum := "ffe137c53fe0feb24468b41b76db7d9004b08b39f821d2241ad876dce98e05bc", func := "veilwork/veilworklaw.WatchReads", spec := "watchReads", unfollowed := true, recurses := true, loops := true, apart := false }
def WatchReadsSaid : Prop := watchReadsRow.holds Tryz.pinned (OpenSpec.ofChange watchReadsSpec)

/-- ITS FALSE NEIGHBOUR: 'it returns false'. Refute it at one input. -/
def watchReadsWrong : ChangeSpec := { name := "watchReads", fn := fun _ => fun
  | [d1, d2, d3, d4, d5] => { results := [.lit (.bool false)], args := [d1, d2, d3, d4, d5] }
  | _ => none }
def WatchReadsWrongFalsely : Prop := watchReadsRow.holds Tryz.pinned (OpenSpec.ofChange watchReadsWrong)

/-- 'veilworklaw.SliceKeeps': WHATEVER THE INPUT: true; the input reads as it did. -/
def sliceKeepsSpec : ChangeSpec := { name := "sliceKeeps", fn := fun _ => fun
  | [d1, d2, d3, d4] => { results := [.lit (.bool true)], args := [d1, d2, d3, d4] }
  | _ => none }
def sliceKeepsRow : OpenClaim := { program := "ytfffpjkcfnekaaagreat", sum := "ffe137c53fe0feb24468b41b76db7d9004b08b39f821d2241ad876dce98e05bc", func := "veilwork/veilworklaw.SliceKeeps", spec := "sliceKeeps", unfollowed := true, recurses := true, loops := true, apart := false }
def SliceKeepsSaid : Prop := sliceKeepsRow.holds Tryz.pinned (OpenSpec.ofChange sliceKeepsSpec)

/-- ITS FALSE NEIGHBOUR: 'it returns false'. Refute it at one input. -/
def sliceKeepsWrong : ChangeSpec := { name := "sliceKeeps", fn := fun _ => fun
  | [d1, d2, d3, d4] => { results := [.lit (.bool false)], args := [d1, d2, d3, d4] }
  | _ => none }
def SliceKeepsWrongFalsely : Prop := sliceKeepsRow.holds Tryz.pinned (OpenSpec.ofChange sliceKeepsWrong)

/-- 'veilworklaw.SliceNeeds': WHATEVER THE INPUT: true; the input reads as it did. -/
def sliceNeedsSpec : ChangeSpec := { name := "sliceNeeds", fn := fun _ => fun
  | [d1, d2, d3, d4, d5] => { results := [.lit (.bool true)], args := [d1, d2, d3, d4, d5] }
  | _ => none }
def sliceNeedsRow : OpenClaim := { program := "ytfffpjkcfnekaaagreat", sum := "ffe137c53fe0feb24468b41b76db7d9004b08b39f821d2241ad876dce98e05bc", func := "veilwork/veilworklaw.SliceNeeds", spec := "sliceNeeds", unfollowed := true, recurses := true, loops := true, apart := false }
def SliceNeedsSaid : Prop := sliceNeedsRow.holds Tryz.pinned (OpenSpec.ofChange sliceNeedsSpec)

/-- ITS FALSE NEIGHBOUR: 'it returns false'. Refute it at one input. -/
def sliceNeedsWrong : ChangeSpec := { name := "sliceNeeds", fn := fun _ => fun
  | [d1, d2, d3, d4, d5] => { results := [.lit (.bool false)], args := [d1, d2, d3, d4, d5] }
  | _ => none }
def SliceNeedsWrongFalsely : Prop := sliceNeedsRow.holds Tryz.pinned (OpenSpec.ofChange sliceNeedsWrong)

/-- 'veilworklaw.SliceAgain': WHATEVER THE INPUT: true; the input reads as it did. -/
def sliceAgainSpec : ChangeSpec := { name := "sliceAgain", fn := fun _ => fun
  | [d1, d2] => { results := [.lit (.bool true)], args := [d1, d2] }
  | _ => none }
def sliceAgainRow : OpenClaim := { program := "ytfffpjkcfnekaaagreat", sum := "ffe137c53fe0feb24468b41b76db7d9004b08b39f821d2241ad876dce98e05bc", func := "veilwork/veilworklaw.SliceAgain", spec := "sliceAgain", unfollowed := true, recurses := true, loops := true, apart := false }
def SliceAgainSaid : Prop := sliceAgainRow.holds Tryz.pinned (OpenSpec.ofChange sliceAgainSpec)

/-- ITS FALSE NEIGHBOUR: 'it returns false'. Refute it at one input. -/
def sliceAgainWrong : ChangeSpec := { name := "sliceAgain", fn := fun _ => fun
  | [d1, d2] => { results := [.lit (.bool false)], args := [d1, d2] }
  | _ => none }
def SliceAgainWrongFalsely : Prop := sliceAgainRow.holds Tryz.pinned (OpenSpec.ofChange sliceAgainWrong)

/- THE SECOND FORM. 'bulk': how many values and letters a reading holds, each counted each time it is reached (what is shared counts as often as it is met; a slice's spare places count too). A statement '..UptoSaid' is the law's where the arguments, and the package variables that the reading takes, are together of bulk at most 1048576: NARROWER than '..Said'. Prove '..Said' where nothing that the law and all that it calls make is longer than what came in: it says more and counts as full. Else prove '..UptoSaid'. A law counts once. -/
mutual
def uptoBulk {H : Type} : DataW H → Nat
  | .lit (.string bytes) => bytes.length + 1
  | .lit _ => 1
  | .nil => 1
  | .ptr d => uptoBulk d + 1
  | .slice elems spare => uptoBulkAll elems + uptoBulkAll spare + 1
  | .agg parts => uptoBulkAll parts + 1
  | .iface _ d => uptoBulk d + 1
  | .map entries => uptoBulkEntries entries + 1
  | .held _ => 1
def uptoBulkAll {H : Type} : List (DataW H) → Nat
  | [] => 0
  | d :: r => uptoBulk d + uptoBulkAll r
def uptoBulkEntries {H : Type} : List (Lit × DataW H) → Nat
  | [] => 0
  | x :: r => uptoBulkEntry x + uptoBulkEntries r
def uptoBulkEntry {H : Type} : Lit × DataW H → Nat
  | (.string bytes, d) => bytes.length + uptoBulk d + 1
  | (_, d) => uptoBulk d + 1
 end
def uptoSmall : (H : Type) → List (DataW H) → Bool := fun _ ds => decide (uptoBulkAll ds ≤ 1048576)
def OpenSpec.upto (s : _root_.Go.ChangeSpec) : _root_.Go.OpenSpec := { _root_.Go.OpenSpec.ofChange s with cond := some uptoSmall }

/-- 'veilworklaw.JudgeKnown', WHERE WHAT IT READS IS OF BULK AT MOST 1048576: true; the input reads as it did. -/
def judgeKnownUptoRow : OpenClaim := { program := "ytfffpjkcfnekaaagreat", sum := "ffe137c53fe0feb24468b41b76db7d9004b08b39f821d2241ad876dce98e05bc", func := "veilwork/veilworklaw.JudgeKnown", spec := "judgeKnown", unfollowed := true, recurses := true, loops := true, apart := false, narrowed := true }
def JudgeKnownUptoSaid : Prop := judgeKnownUptoRow.holds Tryz.pinned (OpenSpec.upto judgeKnownSpec)

/-- 'veilworklaw.WatchBegins', WHERE WHAT IT READS IS OF BULK AT MOST 1048576: true; the input reads as it did. -/
def watchBeginsUptoRow : OpenClaim := { program := "ytfffpjkcfnekaaagreat", sum := "ffe137c53fe0feb24468b41b76db7d9004b08b39f821d2241ad876dce98e05bc", func := "veilwork/veilworklaw.WatchBegins", spec := "watchBegins", unfollowed := true, recurses := true, loops := true, apart := false, narrowed := true }
def WatchBeginsUptoSaid : Prop := watchBeginsUptoRow.holds Tryz.pinned (OpenSpec.upto watchBeginsSpec)

/-- 'veilworklaw.WatchKnown', WHERE WHAT IT READS IS OF BULK AT MOST 1048576: true; the input reads as it did. -/
def watchKnownUptoRow : OpenClaim := { program := "ytfffpjkcfnekaaagreat", sum := "ffe137c53fe0feb24468b41b76db7d9004b08b39f821d2241ad876dce98e05bc", func := "veilwork/veilworklaw.WatchKnown", spec := "watchKnown", unfollowed := true, recurses := true, loops := true, apart := false, narrowed := true }
def WatchKnownUptoSaid : Prop := watchKnownUptoRow.holds Tryz.pinned (OpenSpec.upto watchKnownSpec)

/-- 'veilworklaw.WatchReads', WHERE WHAT IT READS IS OF BULK AT MOST 1048576: true; the input reads as it did. -/
def watchReadsUptoRow : OpenClaim := { program := "ytfffpjkcfnekaaagreat", sum := "ffe137c53fe0feb24468b41b76db7d9004b08b39f821d2241ad876dce98e05bc", func := "veilwork/veilworklaw.WatchReads", spec := "watchReads", unfollowed := true, recurses := true, loops := true, apart := false, narrowed := true }
def WatchReadsUptoSaid : Prop := watchReadsUptoRow.holds Tryz.pinned (OpenSpec.upto watchReadsSpec)

/-- 'veilworklaw.SliceKeeps', WHERE WHAT IT READS IS OF BULK AT MOST 1048576: true; the input reads as it did. -/
def sliceKeepsUptoRow : OpenClaim := { program := "ytfffpjkcfnekaaagreat", sum := "ffe137c53fe0feb24468b41b76db7d9004b08b39f821d2241ad876dce98e05bc", func := "veilwork/veilworklaw.SliceKeeps", spec := "sliceKeeps", unfollowed := true, recurses := true, loops := true, apart := false, narrowed := true }
def SliceKeepsUptoSaid : Prop := sliceKeepsUptoRow.holds Tryz.pinned (OpenSpec.upto sliceKeepsSpec)

/-- 'veilworklaw.SliceNeeds', WHERE WHAT IT READS IS OF BULK AT MOST 1048576: true; the input reads as it did. -/
def sliceNeedsUptoRow : OpenClaim := { program := "ytfffpjkcfnekaaagreat", sum := "ffe137c53fe0feb24468b41b76db7d9004b08b39f821d2241ad876dce98e05bc", func := "veilwork/veilworklaw.SliceNeeds", spec := "sliceNeeds", unfollowed := true, recurses := true, loops := true, apart := false, narrowed := true }
def SliceNeedsUptoSaid : Prop := sliceNeedsUptoRow.holds Tryz.pinned (OpenSpec.upto sliceNeedsSpec)

/-- 'veilworklaw.SliceAgain', WHERE WHAT IT READS IS OF BULK AT MOST 1048576: true; the input reads as it did. -/
def sliceAgainUptoRow : OpenClaim := { program := "ytfffpjkcfnekaaagreat", sum := "ffe137c53fe0feb24468b41b76db7d9004b08b39f821d2241ad876dce98e05bc", func := "veilwork/veilworklaw.SliceAgain", spec := "sliceAgain", unfollowed := true, recurses := true, loops := true, apart := false, narrowed := true }
def SliceAgainUptoSaid : Prop := sliceAgainUptoRow.holds Tryz.pinned (OpenSpec.upto sliceAgainSpec)

end Rows
end Go.Proofs.YtfffpjkcfnekaaaGreat
