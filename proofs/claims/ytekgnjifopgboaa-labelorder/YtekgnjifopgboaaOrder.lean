/- veilworklaw.LabelOrder answers true, whatever it is handed: all ways. -/
import Derived.Test.YtekgnjifopgboaaOrderFF
import Derived.Test.YtekgnjifopgboaaOrderFT
import Derived.Test.YtekgnjifopgboaaOrderTF
import Derived.Test.YtekgnjifopgboaaOrderTT
namespace Go.Proofs.Ytekgnjifopgboaa
open Go.RowKit
set_option linter.unusedVariables false

theorem order_any (m : Int) (v : Value) (gs : List (Int × Int)) (vl : Value) (l : Lev) (vk : Value) (k : Lev) (vq : Value) (q : Lev) (w : World) (hv : IsGrants w v gs) (hl : LevAt w vl l) (hsm : l.small) (hk : LevAt w vk k) (_ : k.small) (hq : LevAt w vq q) (_ : q.small) :
    Calls Try.prog 5 #[.agg #[.int .i64 m, v], vl, vk, vq] w fun e w' => e = .returned (.bool true) ∧ Below w.heap.size w w' := by
  by_cases hE : lTwo m gs l k = 0
  · by_cases hQ : lRight m gs q = 0
    · cases hF : flowsB l q m.toNat with
      | false =>
        cases hG : flowsB q l m.toNat with
        | false => exact order_false_false m v gs vl vk vq l k q w hv hl hk hq hE hQ hsm hF hG
        | true => exact order_false_true m v gs vl vk vq l k q w hv hl hk hq hE hQ hsm hF hG
      | true =>
        cases hG : flowsB q l m.toNat with
        | false => exact order_true_false m v gs vl vk vq l k q w hv hl hk hq hE hQ hsm hF hG
        | true => exact order_true_true m v gs vl vk vq l k q w hv hl hk hq hE hQ hsm hF hG
    · exact order_q m v gs vl vk vq l k q w hv hl hk hq hE hQ
  · exact order_bad m v gs vl vk vq l k q w hv hl hk hq hE
end Go.Proofs.Ytekgnjifopgboaa
