/- What every law's closing of this program asks. -/
import Derived.Test.YtdbeiefgokocnaaGreatNb
import Derived.Test.YtdbeiefgokocnaaGreatTa
import Derived.Test.YtdbeiefgokocnaaGreatRows
import Derived.ProofKit
import Derived.SizedLaws
set_option linter.unusedVariables false
set_option linter.unusedSimpArgs false
/- What every law's closing of this program asks. -/
namespace Go.Proofs
open Go Go.RowKit Go.Sim Go.ChangeShapes Go.WideShapes Go.ChangeAt
set_option maxRecDepth 100000
theorem Tryz.own : ownKnob Tryz.prog.godebug = none := by kernel_rfl
theorem Tryz.laidOut : laidOutB Tryz.prog = true := by kernel_rfl
theorem Tryz.und4 : Tryz.prog.underlying 4 = some .bool := by kernel_rfl
end Go.Proofs
