/- This program's types, and what the machine is told of it in open calls. -/
import Derived.Test.YtbpglhajhmacmaaNb
import Derived.Test.YtbpglhajhmacmaaChecked
import Derived.Test.YtbpglhajhmacmaaWb
set_option linter.unusedVariables false
set_option linter.unusedSimpArgs false
/- Facts on this program's types. -/
namespace Go.Proofs
open Go Go.RowKit Go.Sim
set_option maxRecDepth 100000
theorem Try.ty3 : (prg Try.prog).ty 3 = some ⟨false, (.int .i64), 1, 8, .int .i64 0⟩ := by kernel_rfl
attribute [go_sem] Try.ty3
theorem Try.ty4 : (prg Try.prog).ty 4 = some ⟨false, .bool, 1, 1, .bool false⟩ := by kernel_rfl
attribute [go_sem] Try.ty4
theorem Try.ty22 : (prg Try.prog).ty 22 = some ⟨false, (.int .i64), 1, 8, .int .i64 0⟩ := by kernel_rfl
attribute [go_sem] Try.ty22
theorem Try.ty27 : (prg Try.prog).ty 27 = some ⟨false, (.slice 3), 1, 24, .slice none 0 0⟩ := by kernel_rfl
attribute [go_sem] Try.ty27
theorem Try.ty33 : (prg Try.prog).ty 33 = some ⟨false, (.slice 27), 1, 24, .slice none 0 0⟩ := by kernel_rfl
attribute [go_sem] Try.ty33
theorem Try.ia27 (t : Tmps) (w : AW) (x y : Operand) : fast (prg Try.prog) t w (.indexAddr 27 x y) = indexV 1 (ev t x) (ev t y) := fast_indexAddr Try.ty27 Try.ty3
attribute [go_sem] Try.ia27
theorem Try.ln27 (t : Tmps) (w : AW) (x : Operand) : fast (prg Try.prog) t w (.call ⟨.builtin .len, ⟨[x]⟩, ⟨[27]⟩⟩) = lenV (ev t x) := fast_len Try.ty27
attribute [go_sem] Try.ln27
theorem Try.ia33 (t : Tmps) (w : AW) (x y : Operand) : fast (prg Try.prog) t w (.indexAddr 33 x y) = indexV 1 (ev t x) (ev t y) := fast_indexAddr Try.ty33 Try.ty27
attribute [go_sem] Try.ia33
theorem Try.ln33 (t : Tmps) (w : AW) (x : Operand) : fast (prg Try.prog) t w (.call ⟨.builtin .len, ⟨[x]⟩, ⟨[33]⟩⟩) = lenV (ev t x) := fast_len Try.ty33
attribute [go_sem] Try.ln33
end Go.Proofs

/- What this seat's proofs are told: the program's own check, and no more. -/
namespace Go.Proofs
open Go Go.RowKit Go.Sim
set_option maxRecDepth 100000
def Try.T1 : ToldF := toldTrue 19 fun _ _ _ => none
theorem Try.toldT1 (N : Nat) : ToldOk Try.prog N Try.T1 := toldTrue_ok (fun args w => Try.call19 args w) Try.works (fun N => fun f args w w1 v h => by cases h) N
end Go.Proofs
