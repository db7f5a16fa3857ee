/- the document's answer for layer 2: Read. -/
import Derived.Test.YtjfcmoappbfnjaaP17
import Derived.Test.YtjfcmoappbfnjaaP15
import Derived.Test.YtjfcmoappbfnjaaP08
import Derived.Test.YtjfcmoappbfnjaaP19
namespace Go.Proofs.Ytjfcmoappbfnjaa
open Go.RowKit
attribute [local go_sem] Oper.semAt_some
attribute [local go_sem] run_store_bv run_store_wc
section
variable {w w' : World} {r : Rp} {R : Rf} {z : Nat}
end
end Go.Proofs.Ytjfcmoappbfnjaa
namespace Go.Proofs.Ytjfcmoappbfnjaa
open Go.RowKit
section
variable {w w' : World} {r : Rp} {R : Rf} {s z : Nat}
set_option maxRecDepth 8000 in
theorem Alike.stepped {D : Dk} (ha : Alike D R s z) : Alike D.stepped R (s + 1) z :=
  { size := ha.size, lasts := ha.lasts, waits := ha.waits, steps := by show D.steps + 1 = s + 1; rw [ha.steps]
    fails := fun n h2 h3 => by
      show delS D.fails ((D.steps : Int) - (D.frm : Int)) (n - (D.frm : Int)) = _
      unfold delS
      rw [if_neg (by rw [ha.steps]; omega)]
      exact ha.fails n (by omega) h3 }
end
end Go.Proofs.Ytjfcmoappbfnjaa
