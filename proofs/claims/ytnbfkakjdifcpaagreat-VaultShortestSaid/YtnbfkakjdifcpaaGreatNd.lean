/- Open calls of the machine, part 3: structs compared; calls that return or panic, deferred calls that recover. -/
import Derived.Test.YtnbfkakjdifcpaaGreatNc
set_option linter.unusedVariables false
set_option linter.unusedSimpArgs false
namespace Go.Sim
open Go Go.RowKit
end Go.Sim
