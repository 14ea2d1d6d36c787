/- What the machine is told of this program; the program's own check runs to true. -/
import Derived.Test.YtdbeiefgokocnaaMc
import Derived.Test.YtdbeiefgokocnaaProg
set_option linter.unusedVariables false
set_option linter.unusedSimpArgs false
/- The program's own check of loan, and the closed statement on it, run by the kernel. -/
namespace Go.Proofs
open Go Go.RowKit Go.Sim

set_option maxRecDepth 1000000
theorem Try.fits : Fit Try.prog := fit_of (by decide +kernel)
theorem Try.mixed : Try.prog.follows .mixedOrders = true := by decide +kernel
def Try.ids : SortIds := ⟨78, 80, 79, 97, 93, 94, 23, 3, 0⟩
theorem Try.infoInt : ∃ i, Try.prog.info? 3 = some i ∧ i.desc = .int .i64 ∧ i.str = "int" ∧ i.hasPointers = false ∧ i.bytes = 8 := ⟨_, rfl, by kernel_rfl, by kernel_rfl, by kernel_rfl, by kernel_rfl⟩
theorem Try.infoInts : ∃ i, Try.prog.info? 23 = some i ∧ i.desc = .slice 3 := ⟨_, rfl, by kernel_rfl⟩
theorem Try.kindInt (w : World) : (Extern.Rtype.kind 3).run Try.prog w = .ok 2 w := by
  obtain ⟨i, h1, h2, h3, _⟩ := Try.infoInt
  simp [Extern.Rtype.kind, Extern.Rtype.under, Lib.rl_info 3 i h1, h2, h3, Result.andThen]
theorem Try.lit : Try.prog.funcs.findIdx? (·.name == "internal/reflectlite" ++ ".Swapper$" ++ toString 5) = some 97 ∧ Try.prog.funcs.findIdx? (·.name == "internal/reflectlite" ++ ".Swapper$" ++ toString 1) = some 93 ∧ Try.prog.funcs.findIdx? (·.name == "internal/reflectlite" ++ ".Swapper$" ++ toString 2) = some 94 := by
  refine ⟨?_, ?_, ?_⟩ <;> decide +kernel
theorem Try.sortOk : SortOk Try.prog Try.ids := by
  obtain ⟨ie, e1, e2, e3, e4, e5⟩ := Try.infoInt
  obtain ⟨i, i1, i2⟩ := Try.infoInts
  obtain ⟨l1, l2, l3⟩ := Try.lit
  refine { vV := fun args W => ?_, vL := fun args W => ?_, vW := fun args W => ?_, vS := ⟨true, fun args W => ?_⟩, info := ⟨i, ie, 2, i1, i2, e1, Try.kindInt, fun n hn => ?_, ?_, ?_⟩, packed := by kernel_rfl, hb := by kernel_rfl }
  · exact run_callFunc_extern Try.func78 (by kernel_rfl) (by kernel_rfl) (by kernel_rfl) (e := fun args => Extern.ReflectliteValue.unpack (args.getD 0 (.tuple #[]))) (by kernel_rfl) args W
  · exact run_callFunc_extern Try.func80 (by kernel_rfl) (by kernel_rfl) (by kernel_rfl) (by kernel_rfl) args W
  · exact run_callFunc_extern Try.func79 (by kernel_rfl) (by kernel_rfl) (by kernel_rfl) (by kernel_rfl) args W
  · exact run_callFunc_extern Try.func97 (by kernel_rfl) (by kernel_rfl) (by kernel_rfl) (by kernel_rfl) args W
  · have : Lib.swapperK n ie 2 = 5 := by
      unfold Lib.swapperK
      have h0 : (n == 0) = false := by rw [beq_eq_false_iff_ne]; omega
      have h1 : (n == 1) = false := by rw [beq_eq_false_iff_ne]; omega
      simp [h0, h1, e4, e5]
    rw [this]
    exact ⟨l1, by decide⟩
  · exact l2
  · exact l3
def Try.none_ : ToldF := fun _ _ _ => none
theorem Try.told (N : Nat) : ToldOk Try.prog N (toldSort (prg Try.prog) Try.ids Try.none_) := toldSort_ok Try.fits Try.sortOk (fun N => fun f args w w1 v h => by cases h) N
end Go.Proofs

namespace Go.Proofs
open Go Go.RowKit Go.Sim
set_option maxRecDepth 1000000
/-- The program's own check holds, in every world, on every tape. -/
theorem Try.works (W : World) : Calls Try.prog 21 #[] W fun e W' => e = .returned (.bool true) ∧ Below W.heap.size W W' :=
  calls_true (F := 1000000) Try.fits Try.mixed Try.told (n := 99) (by decide +kernel) (by decide +kernel) W
noncomputable def Try.T : ToldF := toldTrue 21 (toldSort (prg Try.prog) Try.ids Try.none_)

theorem Try.toldT (N : Nat) : ToldOk Try.prog N Try.T := toldTrue_ok (fun args w => Try.call21 args w) Try.works Try.told N
end Go.Proofs
