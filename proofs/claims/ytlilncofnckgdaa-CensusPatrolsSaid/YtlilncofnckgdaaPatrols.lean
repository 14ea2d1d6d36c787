/- It is proved that Risk and Need answer what the chapter says, and that Patrol answers weights with the least risk, or the error that the chapter says, as P10.4 and CensusPatrols say: the law answers true at all losses, weights and risks, and the input reads as it did. No condition. -/
import Derived.Test.YtlilncofnckgdaaPab
set_option linter.unusedVariables false
set_option linter.unusedSimpArgs false
namespace Go.Proofs
open Go Go.RowKit Go.Sim Go.ChangeShapes Go.WideShapes Go.ChangeAt
set_option maxRecDepth 100000
theorem patrols_lifted (os : Os) (started : os.Started) (H : Type) (enc : TypeId × Value → H) :
    ReturnsInHanded {} Try.checked os 5 .any (Ytlilncofnckgdaa.Rows.censusPatrolsSpec.pre6 enc Try.prog Try.f5 Ytlilncofnckgdaa.Rows.censusPatrolsRow.domain false) (Ytlilncofnckgdaa.Rows.censusPatrolsSpec.post enc Try.prog Try.f5 false true false false) := by
  refine returnsInHanded_of_change_sized (C := Try.checked) Try.own started (by kernel_rfl) Try.func5
    (ChangeSpec.witness6 (enc := enc) (C := Try.checked) false ⟨#[], #[.slice none 0 0, .slice none 0 0, .int .i64 0], []⟩ 8 (by kernel_rfl) (by kernel_rfl) (by kernel_rfl) (by kernel_rfl)) ?_
  intro W base args ds gs before hval hW _ hsz _
  refine law_open (P := Try.prog) (told := Try.T1) (S := [3, 22]) (fn := Try.f5) (f := 5) (base := base) Try.fits Try.mixed Try.toldT1 Try.laidOut (fun _ _ => rfl) rfl (by kernel_rfl) (by kernel_rfl) (tb := 4) rfl Try.und4 ?_ (fun w xs f h => patrols_law w xs f h) hval hW hsz
  intro ds hl
  match ds, hl with
  | [d1, d2, d3], _ => exact ⟨rfl, rfl, rfl⟩
theorem Ytlilncofnckgdaa.patrols_holds : Ytlilncofnckgdaa.Rows.CensusPatrolsSaid :=
  OpenClaim.holds_of_wide 5 Try.f5 rfl rfl rfl rfl rfl rfl rfl ⟨rfl, rfl, rfl, rfl, rfl⟩ rfl rfl rfl rfl rfl (by kernel_rfl) Try.func5 (by kernel_rfl)
    (of_decide_eq_true (by kernel_rfl)) (by unfold Func.isWrapper; first | (rw [if_pos (by decide +kernel)]; kernel_rfl) | (rw [if_neg (by decide +kernel)]; exact ⟨rfl, rfl⟩))
    (fun os started H enc _ => patrols_lifted os started H enc)
end Go.Proofs
