/- The program's own check. -/
import Derived.Test.YtnbfkakjdifcpaaGreatPm
set_option linter.unusedVariables false
set_option linter.unusedSimpArgs false
namespace Go.Proofs
open Go Go.RowKit Go.Sim
set_option maxRecDepth 1000000
def Tryz.toldG:ToldF:=toldGive Tryz.gives (fun _ _ _=>none)
theorem Tryz.toldG_ok (N:Nat):ToldOk Tryz.prog N Tryz.toldG:=toldGive_ok Tryz.gives_ok Tryz.told0 N
theorem Tryz.works (W:World):Calls Tryz.prog 21 #[] W fun e W'=>e=.returned (.bool true)/\BelowD W.heap.size W W' :=
 calls_true (F:=1000000) Tryz.fits Tryz.mixed Tryz.toldG_ok (n:=99) (by decide +kernel) (by decide +kernel) W
def Tryz.T0:ToldF:=toldTrue 21 fun _ _ _=>none
theorem Tryz.toldT0 (N:Nat):ToldOk Tryz.prog N Tryz.T0:=toldTrue_ok (fun args w=>Tryz.call21 args w) Tryz.works (fun N=>fun f args w w1 v h=>by cases h) N
end Go.Proofs
