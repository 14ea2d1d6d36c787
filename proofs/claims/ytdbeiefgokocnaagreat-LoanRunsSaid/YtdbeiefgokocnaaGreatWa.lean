/- What the machine is told of this program; the program's own check runs to true. -/
import Derived.Test.YtdbeiefgokocnaaGreatMc
import Derived.Test.YtdbeiefgokocnaaGreatProg
set_option linter.unusedVariables false
set_option linter.unusedSimpArgs false
/- The program's own check of loan, and the closed statement on it, run by the kernel. -/
namespace Go.Proofs
open Go Go.RowKit Go.Sim

set_option maxRecDepth 1000000
theorem Tryz.fits : Fit Tryz.prog := fit_of (by decide +kernel)
theorem Tryz.mixed : Tryz.prog.follows .mixedOrders = true := by decide +kernel
def Tryz.ids : SortIds := ⟨70, 72, 71, 79, 75, 76, 26, 3, 0⟩
theorem Tryz.infoInt : ∃ i, Tryz.prog.info? 3 = some i ∧ i.desc = .int .i64 ∧ i.str = "int" ∧ i.hasPointers = false ∧ i.bytes = 8 := ⟨_, rfl, by kernel_rfl, by kernel_rfl, by kernel_rfl, by kernel_rfl⟩
theorem Tryz.infoInts : ∃ i, Tryz.prog.info? 26 = some i ∧ i.desc = .slice 3 := ⟨_, rfl, by kernel_rfl⟩
theorem Tryz.kindInt (w : World) : (Extern.Rtype.kind 3).run Tryz.prog w = .ok 2 w := by
  obtain ⟨i, h1, h2, h3, _⟩ := Tryz.infoInt
  simp [Extern.Rtype.kind, Extern.Rtype.under, Lib.rl_info 3 i h1, h2, h3, Result.andThen]
theorem Tryz.lit : Tryz.prog.funcs.findIdx? (·.name == "internal/reflectlite" ++ ".Swapper$" ++ toString 5) = some 79 ∧ Tryz.prog.funcs.findIdx? (·.name == "internal/reflectlite" ++ ".Swapper$" ++ toString 1) = some 75 ∧ Tryz.prog.funcs.findIdx? (·.name == "internal/reflectlite" ++ ".Swapper$" ++ toString 2) = some 76 := by
  refine ⟨?_, ?_, ?_⟩ <;> decide +kernel
theorem Tryz.sortOk : SortOk Tryz.prog Tryz.ids := by
  obtain ⟨ie, e1, e2, e3, e4, e5⟩ := Tryz.infoInt
  obtain ⟨i, i1, i2⟩ := Tryz.infoInts
  obtain ⟨l1, l2, l3⟩ := Tryz.lit
  refine { vV := fun args W => ?_, vL := fun args W => ?_, vW := fun args W => ?_, vS := ⟨true, fun args W => ?_⟩, info := ⟨i, ie, 2, i1, i2, e1, Tryz.kindInt, fun n hn => ?_, ?_, ?_⟩, packed := by kernel_rfl, hb := by kernel_rfl }
  · exact run_callFunc_extern Tryz.func70 (by kernel_rfl) (by kernel_rfl) (by kernel_rfl) (e := fun args => Extern.ReflectliteValue.unpack (args.getD 0 (.tuple #[]))) (by kernel_rfl) args W
  · exact run_callFunc_extern Tryz.func72 (by kernel_rfl) (by kernel_rfl) (by kernel_rfl) (by kernel_rfl) args W
  · exact run_callFunc_extern Tryz.func71 (by kernel_rfl) (by kernel_rfl) (by kernel_rfl) (by kernel_rfl) args W
  · exact run_callFunc_extern Tryz.func79 (by kernel_rfl) (by kernel_rfl) (by kernel_rfl) (by kernel_rfl) args W
  · have : Lib.swapperK n ie 2 = 5 := by
      unfold Lib.swapperK
      have h0 : (n == 0) = false := by rw [beq_eq_false_iff_ne]; omega
      have h1 : (n == 1) = false := by rw [beq_eq_false_iff_ne]; omega
      simp [h0, h1, e4, e5]
    rw [this]
    exact ⟨l1, by decide⟩
  · exact l2
  · exact l3
def Tryz.none_ : ToldF := fun _ _ _ => none
theorem Tryz.told (N : Nat) : ToldOk Tryz.prog N (toldSort (prg Tryz.prog) Tryz.ids Tryz.none_) := toldSort_ok Tryz.fits Tryz.sortOk (fun N => fun f args w w1 v h => by cases h) N
end Go.Proofs

namespace Go.Proofs
open Go Go.RowKit Go.Sim
set_option maxRecDepth 1000000
/-- The program's own check holds, in every world, on every tape. -/
theorem Tryz.works (W : World) : Calls Tryz.prog 13 #[] W fun e W' => e = .returned (.bool true) ∧ Below W.heap.size W W' :=
  calls_true (F := 1000000) Tryz.fits Tryz.mixed Tryz.told (n := 99) (by decide +kernel) (by decide +kernel) W
noncomputable def Tryz.T : ToldF := toldTrue 13 (toldSort (prg Tryz.prog) Tryz.ids Tryz.none_)

theorem Tryz.toldT (N : Nat) : ToldOk Tryz.prog N Tryz.T := toldTrue_ok (fun args w => Tryz.call13 args w) Tryz.works Tryz.told N
end Go.Proofs
