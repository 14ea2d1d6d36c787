/- It is proved that the reasons of a dealing are dealings of its window that reach the threshold, that no fewer ones do nor ones that come before, or small ones, as many as are asked for, and that the alarm of its persons is not later, as P8.11 and TillReasons say: the law answers true at every report, index and other dealings, and the input reads as it did. No condition. -/
import Derived.Test.YthnpnooiidnbeaaGreatPaf
set_option linter.unusedVariables false
set_option linter.unusedSimpArgs false
namespace Go.Proofs
open Go Go.RowKit Go.Sim Go.ChangeShapes Go.WideShapes Go.ChangeAt
set_option maxRecDepth 100000
theorem reasons_lifted (os : Os) (started : os.Started) (H : Type) (enc : TypeId × Value → H) :
    ReturnsInHanded {} Tryz.checked os 11 .any (YthnpnooiidnbeaaGreat.Rows.tillReasonsSpec.pre6 enc Tryz.prog Tryz.f11 YthnpnooiidnbeaaGreat.Rows.tillReasonsRow.domain false) (YthnpnooiidnbeaaGreat.Rows.tillReasonsSpec.post enc Tryz.prog Tryz.f11 false true false false) := by
  refine returnsInHanded_of_change_sized (C := Tryz.checked) Tryz.own started (by kernel_rfl) Tryz.func11
    (ChangeSpec.witness6 (enc := enc) (C := Tryz.checked) false ⟨#[], #[.agg #[.slice none 0 0, .slice none 0 0, .int .i64 0, .int .i64 0, .int .i64 0, .int .i64 0], .int .i64 0, .slice none 0 0], []⟩ 8 (by kernel_rfl) (by kernel_rfl) (by kernel_rfl) (by kernel_rfl)) ?_
  intro W base args ds gs before hval hW _ hsz _
  refine law_open (P := Tryz.prog) (told := Tryz.T1) (S := [3, 22, 25, 43, 44, 46, 48, 76]) (fn := Tryz.f11) (f := 11) (base := base) Tryz.fits Tryz.mixed Tryz.toldT1 Tryz.laidOut (fun _ _ => rfl) rfl (by kernel_rfl) (by kernel_rfl) (tb := 4) rfl Tryz.und4 ?_ (fun w xs f h => reasons_law w xs f h) hval hW hsz
  intro ds hl
  match ds, hl with
  | [d1, d2, d3], _ => exact ⟨rfl, rfl, rfl⟩
theorem YthnpnooiidnbeaaGreat.reasons_holds : YthnpnooiidnbeaaGreat.Rows.TillReasonsSaid :=
  OpenClaim.holds_of_wide 11 Tryz.f11 rfl rfl rfl rfl rfl rfl rfl ⟨rfl, rfl, rfl, rfl, rfl⟩ rfl rfl rfl rfl rfl (by kernel_rfl) Tryz.func11 (by kernel_rfl)
    (of_decide_eq_true (by kernel_rfl)) (by unfold Func.isWrapper; first | (rw [if_pos (by decide +kernel)]; kernel_rfl) | (rw [if_neg (by decide +kernel)]; exact ⟨rfl, rfl⟩))
    (fun os started H enc _ => reasons_lifted os started H enc)
end Go.Proofs
