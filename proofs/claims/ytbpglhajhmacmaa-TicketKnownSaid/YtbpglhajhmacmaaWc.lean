/- The closed law runs to true. -/
import Derived.Test.YtbpglhajhmacmaaWb
set_option linter.unusedVariables false
set_option linter.unusedSimpArgs false
namespace Go.Proofs
open Go Go.RowKit Go.Sim
set_option maxRecDepth 1000000
theorem Try.known (W : World) : Calls Try.prog 11 #[] W fun e W' => e = .returned (.bool true) ∧ Below W.heap.size W W' :=
  calls_true (F := 1000000) Try.fits Try.mixed Try.toldT (n := 99) (by decide +kernel) (by decide +kernel) W
end Go.Proofs
