/- It is proved that Least answers the sample, the cost and the error that the chapter finds by looking at all samples from the last to the first, as P10.3 and CensusLeast say: the law answers true at all sizes, and the input reads as it did. No condition. -/
import Derived.Test.YtlilncofnckgdaaPag
set_option linter.unusedVariables false
set_option linter.unusedSimpArgs false
namespace Go.Proofs
open Go Go.RowKit Go.Sim Go.ChangeShapes Go.WideShapes Go.ChangeAt
set_option maxRecDepth 100000
theorem least_lifted (os : Os) (started : os.Started) (H : Type) (enc : TypeId × Value → H) :
    ReturnsInHanded {} Try.checked os 4 .any (Ytlilncofnckgdaa.Rows.censusLeastSpec.pre6 enc Try.prog Try.f4 Ytlilncofnckgdaa.Rows.censusLeastRow.domain false) (Ytlilncofnckgdaa.Rows.censusLeastSpec.post enc Try.prog Try.f4 false true false false) := by
  refine returnsInHanded_of_change_sized (C := Try.checked) Try.own started (by kernel_rfl) Try.func4
    (ChangeSpec.witness6 (enc := enc) (C := Try.checked) false ⟨#[], #[.agg #[.slice none 0 0, .slice none 0 0, .int .i64 0, .int .i64 0]], []⟩ 8 (by kernel_rfl) (by kernel_rfl) (by kernel_rfl) (by kernel_rfl)) ?_
  intro W base args ds gs before hval hW _ hsz _
  refine law_open (P := Try.prog) (told := Try.T1) (S := [3, 22, 24]) (fn := Try.f4) (f := 4) (base := base) Try.fits Try.mixed Try.toldT1 Try.laidOut (fun _ _ => rfl) rfl (by kernel_rfl) (by kernel_rfl) (tb := 4) rfl Try.und4 ?_ (fun w xs f h => least_law w xs f h) hval hW hsz
  intro ds hl
  match ds, hl with
  | [d1], _ => exact ⟨rfl, rfl, rfl⟩
theorem Ytlilncofnckgdaa.least_holds : Ytlilncofnckgdaa.Rows.CensusLeastSaid :=
  OpenClaim.holds_of_wide 4 Try.f4 rfl rfl rfl rfl rfl rfl rfl ⟨rfl, rfl, rfl, rfl, rfl⟩ rfl rfl rfl rfl rfl (by kernel_rfl) Try.func4 (by kernel_rfl)
    (of_decide_eq_true (by kernel_rfl)) (by unfold Func.isWrapper; first | (rw [if_pos (by decide +kernel)]; kernel_rfl) | (rw [if_neg (by decide +kernel)]; exact ⟨rfl, rfl⟩))
    (fun os started H enc _ => least_lifted os started H enc)
end Go.Proofs
