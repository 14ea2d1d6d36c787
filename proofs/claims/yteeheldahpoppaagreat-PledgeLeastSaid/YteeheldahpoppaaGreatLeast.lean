/- It is proved that pledge keeps P1.7 as PledgeLeast says: the law answers true at every input that can be read, and the input reads as it did. There is no condition. -/
import Derived.Test.YteeheldahpoppaaGreatLb
import Derived.Test.YteeheldahpoppaaGreatCa
set_option linter.unusedVariables false
set_option linter.unusedSimpArgs false
/- It is proved that pledge keeps P1.7 as PledgeLeast says: the law answers true at every input that can be read, and the input reads as it did. There is no condition. -/
namespace Go.Proofs
open Go Go.RowKit Go.Sim Go.ChangeShapes Go.WideShapes Go.ChangeAt
set_option maxRecDepth 100000
theorem least_lifted (os : Os) (started : os.Started) (H : Type) (enc : TypeId × Value → H) :
    ReturnsInHanded {} Tryz.checked os 5 .any (YteeheldahpoppaaGreat.Rows.pledgeLeastSpec.pre6 enc Tryz.prog Tryz.f5 YteeheldahpoppaaGreat.Rows.pledgeLeastRow.domain false) (YteeheldahpoppaaGreat.Rows.pledgeLeastSpec.post enc Tryz.prog Tryz.f5 false true false false) := by
  refine returnsInHanded_of_change_sized (C := Tryz.checked) Tryz.own started (by kernel_rfl) Tryz.func5
    (ChangeSpec.witness6 (enc := enc) (C := Tryz.checked) false ⟨#[], #[.agg #[.slice none 0 0, .slice none 0 0, .slice none 0 0], .slice none 0 0], []⟩ 8 (by kernel_rfl) (by kernel_rfl) (by kernel_rfl) (by kernel_rfl)) ?_
  intro W base args ds gs before hval hW _ hsz _
  refine law_open (P := Tryz.prog) (told := Tryz.T) (S := [3, 22, 24, 26, 36, 38, 40, 53, 58]) (fn := Tryz.f5) (f := 5) (base := base) Tryz.fits Tryz.mixed Tryz.toldT Tryz.laidOut (fun _ _ => rfl) rfl (by kernel_rfl) (by kernel_rfl) (tb := 4) rfl Tryz.und4 ?_ (fun w xs f h => least_law w xs f h) hval hW hsz
  intro ds hl
  match ds, hl with
  | [d1, d2], _ => exact ⟨rfl, rfl, rfl⟩
theorem YteeheldahpoppaaGreat.least_holds : YteeheldahpoppaaGreat.Rows.PledgeLeastSaid :=
  OpenClaim.holds_of_wide 5 Tryz.f5 rfl rfl rfl rfl rfl rfl rfl ⟨rfl, rfl, rfl, rfl, rfl⟩ rfl rfl rfl rfl rfl (by kernel_rfl) Tryz.func5 (by kernel_rfl)
    (of_decide_eq_true (by kernel_rfl)) (by unfold Func.isWrapper; first | (rw [if_pos (by decide +kernel)]; kernel_rfl) | (rw [if_neg (by decide +kernel)]; exact ⟨rfl, rfl⟩))
    (fun os started H enc _ => least_lifted os started H enc)
end Go.Proofs
