/- It is proved that the payments and the change that the program gives, and what it refuses, are those of the chapter, as P8.1, P8.2 and TillPays say: the law answers true at every drawer, given pieces and numbers, and the input reads as it did. No condition. -/
import Derived.Test.YthnpnooiidnbeaaGreatPac
set_option linter.unusedVariables false
set_option linter.unusedSimpArgs false
namespace Go.Proofs
open Go Go.RowKit Go.Sim Go.ChangeShapes Go.WideShapes Go.ChangeAt
set_option maxRecDepth 100000
theorem pays_lifted (os : Os) (started : os.Started) (H : Type) (enc : TypeId × Value → H) :
    ReturnsInHanded {} Tryz.checked os 3 .any (YthnpnooiidnbeaaGreat.Rows.tillPaysSpec.pre6 enc Tryz.prog Tryz.f3 YthnpnooiidnbeaaGreat.Rows.tillPaysRow.domain false) (YthnpnooiidnbeaaGreat.Rows.tillPaysSpec.post enc Tryz.prog Tryz.f3 false true false false) := by
  refine returnsInHanded_of_change_sized (C := Tryz.checked) Tryz.own started (by kernel_rfl) Tryz.func3
    (ChangeSpec.witness6 (enc := enc) (C := Tryz.checked) false ⟨#[], #[.agg #[.slice none 0 0, .slice none 0 0], .slice none 0 0, .agg #[.int .i64 0, .int .i64 0]], []⟩ 8 (by kernel_rfl) (by kernel_rfl) (by kernel_rfl) (by kernel_rfl)) ?_
  intro W base args ds gs before hval hW _ hsz _
  refine law_open (P := Tryz.prog) (told := Tryz.T1) (S := [3, 22, 24, 25]) (fn := Tryz.f3) (f := 3) (base := base) Tryz.fits Tryz.mixed Tryz.toldT1 Tryz.laidOut (fun _ _ => rfl) rfl (by kernel_rfl) (by kernel_rfl) (tb := 4) rfl Tryz.und4 ?_ (fun w xs f h => pays_law w xs f h) hval hW hsz
  intro ds hl
  match ds, hl with
  | [d1, d2, d3], _ => exact ⟨rfl, rfl, rfl⟩
theorem YthnpnooiidnbeaaGreat.pays_holds : YthnpnooiidnbeaaGreat.Rows.TillPaysSaid :=
  OpenClaim.holds_of_wide 3 Tryz.f3 rfl rfl rfl rfl rfl rfl rfl ⟨rfl, rfl, rfl, rfl, rfl⟩ rfl rfl rfl rfl rfl (by kernel_rfl) Tryz.func3 (by kernel_rfl)
    (of_decide_eq_true (by kernel_rfl)) (by unfold Func.isWrapper; first | (rw [if_pos (by decide +kernel)]; kernel_rfl) | (rw [if_neg (by decide +kernel)]; exact ⟨rfl, rfl⟩))
    (fun os started H enc _ => pays_lifted os started H enc)
end Go.Proofs
