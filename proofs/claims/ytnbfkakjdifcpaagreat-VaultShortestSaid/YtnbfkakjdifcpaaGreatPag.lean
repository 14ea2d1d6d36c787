/- This program: its code, contracts, numbers, part 7. -/
import Derived.Test.YtnbfkakjdifcpaaGreatPae
import Derived.Test.YtnbfkakjdifcpaaGreatPaf
set_option linter.unusedVariables false
set_option linter.unusedSimpArgs false
namespace Go.Proofs
open Go Go.RowKit Go.Sim
set_option maxRecDepth 100000
theorem entN_is {s:StrN} {g:Nat} (h:askN s (g:Int)=0):entN s (g:Int)=(endR s g 1:Int):=by unfold entN;rw[if_pos h];rfl
end Go.Proofs
