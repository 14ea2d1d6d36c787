/- It is proved that pledge keeps P1.13 as PledgeCheapest says: the law answers true at every input that can be read, and the input reads as it did. There is no condition. -/
import Derived.Test.YteeheldahpoppaaGreatCc
import Derived.Test.YteeheldahpoppaaGreatCa
set_option linter.unusedVariables false
set_option linter.unusedSimpArgs false
/- It is proved that pledge keeps P1.13 as PledgeCheapest says: the law answers true at every input that can be read, and the input reads as it did. There is no condition. -/
namespace Go.Proofs
open Go Go.RowKit Go.Sim Go.ChangeShapes Go.WideShapes Go.ChangeAt
set_option maxRecDepth 100000
theorem cheap_lifted (os : Os) (started : os.Started) (H : Type) (enc : TypeId × Value → H) :
    ReturnsInHanded {} Tryz.checked os 8 .any (YteeheldahpoppaaGreat.Rows.pledgeCheapestSpec.pre6 enc Tryz.prog Tryz.f8 YteeheldahpoppaaGreat.Rows.pledgeCheapestRow.domain false) (YteeheldahpoppaaGreat.Rows.pledgeCheapestSpec.post enc Tryz.prog Tryz.f8 false true false false) := by
  refine returnsInHanded_of_change_sized (C := Tryz.checked) Tryz.own started (by kernel_rfl) Tryz.func8
    (ChangeSpec.witness6 (enc := enc) (C := Tryz.checked) false ⟨#[], #[.agg #[.slice none 0 0, .slice none 0 0, .slice none 0 0], .slice none 0 0, .slice none 0 0], []⟩ 8 (by kernel_rfl) (by kernel_rfl) (by kernel_rfl) (by kernel_rfl)) ?_
  intro W base args ds gs before hval hW _ hsz _
  refine law_open (P := Tryz.prog) (told := Tryz.T) (S := [3, 22, 24, 26, 36, 38, 40, 53, 58]) (fn := Tryz.f8) (f := 8) (base := base) Tryz.fits Tryz.mixed Tryz.toldT Tryz.laidOut (fun _ _ => rfl) rfl (by kernel_rfl) (by kernel_rfl) (tb := 4) rfl Tryz.und4 ?_ (fun w xs f h => cheap_law w xs f h) hval hW hsz
  intro ds hl
  match ds, hl with
  | [d1, d2, d3], _ => exact ⟨rfl, rfl, rfl⟩
theorem YteeheldahpoppaaGreat.cheap_holds : YteeheldahpoppaaGreat.Rows.PledgeCheapestSaid :=
  OpenClaim.holds_of_wide 8 Tryz.f8 rfl rfl rfl rfl rfl rfl rfl ⟨rfl, rfl, rfl, rfl, rfl⟩ rfl rfl rfl rfl rfl (by kernel_rfl) Tryz.func8 (by kernel_rfl)
    (of_decide_eq_true (by kernel_rfl)) (by unfold Func.isWrapper; first | (rw [if_pos (by decide +kernel)]; kernel_rfl) | (rw [if_neg (by decide +kernel)]; exact ⟨rfl, rfl⟩))
    (fun os started H enc _ => cheap_lifted os started H enc)
end Go.Proofs
