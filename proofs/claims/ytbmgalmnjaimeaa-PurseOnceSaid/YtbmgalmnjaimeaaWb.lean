/- The program's own check runs to true. -/
import Derived.Test.YtbmgalmnjaimeaaWa
set_option linter.unusedVariables false
set_option linter.unusedSimpArgs false
namespace Go.Proofs
open Go Go.RowKit Go.Sim
set_option maxRecDepth 1000000
theorem Try.works (W : World) : Calls Try.prog 19 #[] W fun e W' => e = .returned (.bool true) ∧ Below W.heap.size W W' :=
  calls_true (F := 1000000) Try.fits Try.mixed Try.told (n := 99) (by decide +kernel) (by decide +kernel) W
def Try.T1 : ToldF := toldTrue 19 (toldClone 118 fun _ _ _ => none)
theorem Try.toldT1 (N : Nat) : ToldOk Try.prog N Try.T1 := toldTrue_ok (fun args w => Try.call19 args w) Try.works Try.told N
end Go.Proofs
