/- The closed law runs to true. -/
import Derived.Test.YtbmgalmnjaimeaaWb
set_option linter.unusedVariables false
set_option linter.unusedSimpArgs false
namespace Go.Proofs
open Go Go.RowKit Go.Sim
set_option maxRecDepth 1000000
def Try.T : ToldF := toldTrue 19 (toldClone 118 (fun _ _ _ => none))
theorem Try.toldT (N : Nat) : ToldOk Try.prog N Try.T := toldTrue_ok (fun args w => Try.call19 args w) Try.works Try.told N
theorem Try.known (W : World) : Calls Try.prog 13 #[] W fun e W' => e = .returned (.bool true) ∧ Below W.heap.size W W' :=
  calls_true (F := 1000000) Try.fits Try.mixed Try.toldT (n := 99) (by decide +kernel) (by decide +kernel) W
end Go.Proofs
