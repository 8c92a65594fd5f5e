/- One who judges: a command that trusts. -/
import Derived.Test.YtfffpjkcfnekaaaGreatH25
set_option linter.unusedVariables false
set_option maxHeartbeats 8000000
set_option maxRecDepth 100000
namespace Go.Proofs.YtfffpjkcfnekaaaGreat.Ex
open Go.RowKit
open Go.Value renaming slice -> O, int -> zd, bool -> ze, agg -> zg, pointer -> zi, tuple -> zj
open Go.IntKind renaming i64 -> U
open Go.Obj renaming cells -> zf
open Go.Ending renaming returned -> zh
theorem C1 {P:Program} {id:Nat} {ops:Array Oper} {dr:Bool} {Q:Exit->Act->World->Prop} {a:Act} {w:World} (R:Act->World->Prop) (h:(Code.region id ops dr).wp P (BR R) a w) (hq:∀ a w,R a w->Q .normal a w):(Code.region id ops dr).wp P Q a w:=
 wp_mono h fun e a w h=>by cases e <;> first | exact hq _ _ h | exact h.elim
theorem AJ {R:Act->World->Prop} {a:Act} {w:World} (h:R a w):BR R .normal a w:=h
end Go.Proofs.YtfffpjkcfnekaaaGreat.Ex
