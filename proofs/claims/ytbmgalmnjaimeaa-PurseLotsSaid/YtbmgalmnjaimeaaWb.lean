/- The program's own check runs to true. -/
import Derived.Test.YtbmgalmnjaimeaaWa
set_option linter.unusedVariables false
set_option linter.unusedSimpArgs false
/- Purse: the program's own check. -/
namespace Go.Proofs
open Go Go.RowKit Go.Sim
set_option maxRecDepth 1000000
/-- The program's own check holds, in every world, on every tape. -/
theorem Try.works (W : World) : Calls Try.prog 19 #[] W fun e W' => e = .returned (.bool true) ∧ Below W.heap.size W W' :=
  calls_true (F := 1000000) Try.fits Try.mixed Try.told (n := 99) (by decide +kernel) (by decide +kernel) W
def Try.T1 : ToldF := toldTrue 19 fun _ _ _ => none
theorem Try.toldT1 (N : Nat) : ToldOk Try.prog N Try.T1 := toldTrue_ok (fun args w => Try.call19 args w) Try.works (fun N => fun f args w w1 v h => by cases h) N
end Go.Proofs
