/- It is proved that with more links whatever had to be reported must be reported, and that the labels of linked persons are right, as P8.10 and TillLinks say: the law answers true at every report, index and pair of numbers, and the input reads as it did. No condition. -/
import Derived.Test.YthnpnooiidnbeaaGreatPae
set_option linter.unusedVariables false
set_option linter.unusedSimpArgs false
namespace Go.Proofs
open Go Go.RowKit Go.Sim Go.ChangeShapes Go.WideShapes Go.ChangeAt
set_option maxRecDepth 100000
theorem links_lifted (os : Os) (started : os.Started) (H : Type) (enc : TypeId × Value → H) :
    ReturnsInHanded {} Tryz.checked os 10 .any (YthnpnooiidnbeaaGreat.Rows.tillLinksSpec.pre6 enc Tryz.prog Tryz.f10 YthnpnooiidnbeaaGreat.Rows.tillLinksRow.domain false) (YthnpnooiidnbeaaGreat.Rows.tillLinksSpec.post enc Tryz.prog Tryz.f10 false true false false) := by
  refine returnsInHanded_of_change_sized (C := Tryz.checked) Tryz.own started (by kernel_rfl) Tryz.func10
    (ChangeSpec.witness6 (enc := enc) (C := Tryz.checked) false ⟨#[], #[.agg #[.slice none 0 0, .slice none 0 0, .int .i64 0, .int .i64 0, .int .i64 0, .int .i64 0], .int .i64 0, .agg #[.int .i64 0, .int .i64 0]], []⟩ 8 (by kernel_rfl) (by kernel_rfl) (by kernel_rfl) (by kernel_rfl)) ?_
  intro W base args ds gs before hval hW _ hsz _
  refine law_open (P := Tryz.prog) (told := Tryz.T1) (S := [3, 25, 43, 44, 46, 48, 76]) (fn := Tryz.f10) (f := 10) (base := base) Tryz.fits Tryz.mixed Tryz.toldT1 Tryz.laidOut (fun _ _ => rfl) rfl (by kernel_rfl) (by kernel_rfl) (tb := 4) rfl Tryz.und4 ?_ (fun w xs f h => links_law w xs f h) hval hW hsz
  intro ds hl
  match ds, hl with
  | [d1, d2, d3], _ => exact ⟨rfl, rfl, rfl⟩
theorem YthnpnooiidnbeaaGreat.links_holds : YthnpnooiidnbeaaGreat.Rows.TillLinksSaid :=
  OpenClaim.holds_of_wide 10 Tryz.f10 rfl rfl rfl rfl rfl rfl rfl ⟨rfl, rfl, rfl, rfl, rfl⟩ rfl rfl rfl rfl rfl (by kernel_rfl) Tryz.func10 (by kernel_rfl)
    (of_decide_eq_true (by kernel_rfl)) (by unfold Func.isWrapper; first | (rw [if_pos (by decide +kernel)]; kernel_rfl) | (rw [if_neg (by decide +kernel)]; exact ⟨rfl, rfl⟩))
    (fun os started H enc _ => links_lifted os started H enc)
end Go.Proofs
