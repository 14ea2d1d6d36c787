/- The program's own check runs to true. -/
import Derived.Test.YtbpglhajhmacmaaWm
set_option linter.unusedVariables false
set_option linter.unusedSimpArgs false
namespace Go.Proofs
open Go Go.RowKit Go.Sim
set_option maxRecDepth 1000000
def Try.toldM : ToldF := toldMemo Try.memos (toldClone 112 (fun _ _ _ => none))
theorem Try.toldM_ok (N : Nat) : ToldOk Try.prog N Try.toldM := toldMemo_ok Try.memos_ok Try.told N
/-- The program's own check holds, in every world, on every tape. -/
theorem Try.works (W : World) : Calls Try.prog 19 #[] W fun e W' => e = .returned (.bool true) ∧ Below W.heap.size W W' :=
  calls_true (F := 1000000) Try.fits Try.mixed Try.toldM_ok (n := 99) (by decide +kernel) (by decide +kernel) W
def Try.T : ToldF := toldTrue 19 Try.toldM
theorem Try.toldT (N : Nat) : ToldOk Try.prog N Try.T := toldTrue_ok (fun args w => Try.call19 args w) Try.works Try.toldM_ok N
end Go.Proofs
