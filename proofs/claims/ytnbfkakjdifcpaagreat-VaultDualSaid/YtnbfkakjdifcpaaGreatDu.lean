/- It is proved that a group reaches a room exactly if it contains a least group, and exactly if it has one of each least guard, that the others do not reach it without a guard, and that no least one contains another one, as P4.10 and VaultDual say, for every strongroom, room and group: the law answers true at all sizes, and the input reads as it did. No condition. -/
import Derived.Test.YtnbfkakjdifcpaaGreatPaf
set_option linter.unusedVariables false
set_option linter.unusedSimpArgs false
namespace Go.Proofs
open Go Go.RowKit Go.Sim Go.ChangeShapes Go.WideShapes Go.ChangeAt
set_option maxRecDepth 100000
theorem dual_lifted (os : Os) (started : os.Started) (H : Type) (enc : TypeId × Value → H) :
    ReturnsInHanded {} Tryz.checked os 10 .any (YtnbfkakjdifcpaaGreat.Rows.vaultDualSpec.pre6 enc Tryz.prog Tryz.f10 YtnbfkakjdifcpaaGreat.Rows.vaultDualRow.domain false) (YtnbfkakjdifcpaaGreat.Rows.vaultDualSpec.post enc Tryz.prog Tryz.f10 false true false false) := by
  refine returnsInHanded_of_change_sized (C := Tryz.checked) Tryz.own started (by kernel_rfl) Tryz.func10
    (ChangeSpec.witness6 (enc := enc) (C := Tryz.checked) false ⟨#[], #[.agg #[.slice none 0 0, .slice none 0 0, .slice none 0 0], .int .i64 0, .int .i64 0], []⟩ 8 (by kernel_rfl) (by kernel_rfl) (by kernel_rfl) (by kernel_rfl)) ?_
  intro W base args ds gs before hval hW _ hsz _
  refine law_open (P := Tryz.prog) (told := Tryz.T1) (S := [3, 22, 23, 24, 26, 71, 73]) (fn := Tryz.f10) (f := 10) (base := base) Tryz.fits Tryz.mixed Tryz.toldT1 Tryz.laidOut (fun _ _ => rfl) rfl (by kernel_rfl) (by kernel_rfl) (tb := 4) rfl Tryz.und4 ?_ (fun w xs f h => dual_law w xs f h) hval hW hsz
  intro ds hl
  match ds, hl with
  | [d1, d2, d3], _ => exact ⟨rfl, rfl, rfl⟩
theorem YtnbfkakjdifcpaaGreat.dual_holds : YtnbfkakjdifcpaaGreat.Rows.VaultDualSaid :=
  OpenClaim.holds_of_wide 10 Tryz.f10 rfl rfl rfl rfl rfl rfl rfl ⟨rfl, rfl, rfl, rfl, rfl⟩ rfl rfl rfl rfl rfl (by kernel_rfl) Tryz.func10 (by kernel_rfl)
    (of_decide_eq_true (by kernel_rfl)) (by unfold Func.isWrapper; first | (rw [if_pos (by decide +kernel)]; kernel_rfl) | (rw [if_neg (by decide +kernel)]; exact ⟨rfl, rfl⟩))
    (fun os started H enc _ => dual_lifted os started H enc)
end Go.Proofs
