/- It is proved that the rooms that a group reaches are closed and lie in each closed set of rooms with the hall, and that more people or more keys never reach less, as P4.8 and VaultLeast say, for every strongroom, group and numbers: the law answers true at all sizes, and the input reads as it did. No condition. -/
import Derived.Test.YtnbfkakjdifcpaaGreatPae
set_option linter.unusedVariables false
set_option linter.unusedSimpArgs false
namespace Go.Proofs
open Go Go.RowKit Go.Sim Go.ChangeShapes Go.WideShapes Go.ChangeAt
set_option maxRecDepth 100000
theorem least_lifted (os : Os) (started : os.Started) (H : Type) (enc : TypeId × Value → H) :
    ReturnsInHanded {} Tryz.checked os 8 .any (YtnbfkakjdifcpaaGreat.Rows.vaultLeastSpec.pre6 enc Tryz.prog Tryz.f8 YtnbfkakjdifcpaaGreat.Rows.vaultLeastRow.domain false) (YtnbfkakjdifcpaaGreat.Rows.vaultLeastSpec.post enc Tryz.prog Tryz.f8 false true false false) := by
  refine returnsInHanded_of_change_sized (C := Tryz.checked) Tryz.own started (by kernel_rfl) Tryz.func8
    (ChangeSpec.witness6 (enc := enc) (C := Tryz.checked) false ⟨#[], #[.agg #[.slice none 0 0, .slice none 0 0, .slice none 0 0], .int .i64 0, .agg #[.int .i64 0, .int .i64 0, .int .i64 0]], []⟩ 8 (by kernel_rfl) (by kernel_rfl) (by kernel_rfl) (by kernel_rfl)) ?_
  intro W base args ds gs before hval hW _ hsz _
  refine law_open (P := Tryz.prog) (told := Tryz.T1) (S := [3, 22, 23, 24, 26, 55, 71, 73]) (fn := Tryz.f8) (f := 8) (base := base) Tryz.fits Tryz.mixed Tryz.toldT1 Tryz.laidOut (fun _ _ => rfl) rfl (by kernel_rfl) (by kernel_rfl) (tb := 4) rfl Tryz.und4 ?_ (fun w xs f h => least_law w xs f h) hval hW hsz
  intro ds hl
  match ds, hl with
  | [d1, d2, d3], _ => exact ⟨rfl, rfl, rfl⟩
theorem YtnbfkakjdifcpaaGreat.least_holds : YtnbfkakjdifcpaaGreat.Rows.VaultLeastSaid :=
  OpenClaim.holds_of_wide 8 Tryz.f8 rfl rfl rfl rfl rfl rfl rfl ⟨rfl, rfl, rfl, rfl, rfl⟩ rfl rfl rfl rfl rfl (by kernel_rfl) Tryz.func8 (by kernel_rfl)
    (of_decide_eq_true (by kernel_rfl)) (by unfold Func.isWrapper; first | (rw [if_pos (by decide +kernel)]; kernel_rfl) | (rw [if_neg (by decide +kernel)]; exact ⟨rfl, rfl⟩))
    (fun os started H enc _ => least_lifted os started H enc)
end Go.Proofs
