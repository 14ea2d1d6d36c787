/- It is proved that the choices that miss what is lost are counted right, row by row, that the worst loss is one of those that the audit speaks of and is missed at least as often as any of them, and that neither looking at one more nor losing one more makes it likelier to be missed, as P10.8 and CensusCounts say: the law answers true at all sizes, and the input reads as it did. No condition. -/
import Derived.Test.YtlilncofnckgdaaPaf
set_option linter.unusedVariables false
set_option linter.unusedSimpArgs false
namespace Go.Proofs
open Go Go.RowKit Go.Sim Go.ChangeShapes Go.WideShapes Go.ChangeAt
set_option maxRecDepth 100000
theorem counts_lifted (os : Os) (started : os.Started) (H : Type) (enc : TypeId × Value → H) :
    ReturnsInHanded {} Try.checked os 8 .any (Ytlilncofnckgdaa.Rows.censusCountsSpec.pre6 enc Try.prog Try.f8 Ytlilncofnckgdaa.Rows.censusCountsRow.domain false) (Ytlilncofnckgdaa.Rows.censusCountsSpec.post enc Try.prog Try.f8 false true false false) := by
  refine returnsInHanded_of_change_sized (C := Try.checked) Try.own started (by kernel_rfl) Try.func8
    (ChangeSpec.witness6 (enc := enc) (C := Try.checked) false ⟨#[], #[.agg #[.slice none 0 0, .slice none 0 0, .int .i64 0, .int .i64 0], .agg #[.slice none 0 0, .slice none 0 0], .int .i64 0], []⟩ 8 (by kernel_rfl) (by kernel_rfl) (by kernel_rfl) (by kernel_rfl)) ?_
  intro W base args ds gs before hval hW _ hsz _
  refine law_open (P := Try.prog) (told := Try.T1) (S := [3, 22, 24, 54]) (fn := Try.f8) (f := 8) (base := base) Try.fits Try.mixed Try.toldT1 Try.laidOut (fun _ _ => rfl) rfl (by kernel_rfl) (by kernel_rfl) (tb := 4) rfl Try.und4 ?_ (fun w xs f h => counts_law w xs f h) hval hW hsz
  intro ds hl
  match ds, hl with
  | [d1, d2, d3], _ => exact ⟨rfl, rfl, rfl⟩
theorem Ytlilncofnckgdaa.counts_holds : Ytlilncofnckgdaa.Rows.CensusCountsSaid :=
  OpenClaim.holds_of_wide 8 Try.f8 rfl rfl rfl rfl rfl rfl rfl ⟨rfl, rfl, rfl, rfl, rfl⟩ rfl rfl rfl rfl rfl (by kernel_rfl) Try.func8 (by kernel_rfl)
    (of_decide_eq_true (by kernel_rfl)) (by unfold Func.isWrapper; first | (rw [if_pos (by decide +kernel)]; kernel_rfl) | (rw [if_neg (by decide +kernel)]; exact ⟨rfl, rfl⟩))
    (fun os started H enc _ => counts_lifted os started H enc)
end Go.Proofs
