/- It is proved that Portions returns what the chapter says, as P7.2 and PurseLots say: the law answers true at every price and parts, and the input reads as it did. No condition. -/
import Derived.Test.YtbmgalmnjaimeaaLg
import Derived.Test.YtbmgalmnjaimeaaCa
set_option linter.unusedVariables false
set_option linter.unusedSimpArgs false
/- It is proved that Portions returns what the chapter says, as P7.2 and PurseLots say: the law answers true at every price and parts, and the input reads as it did. No condition. -/
namespace Go.Proofs
open Go Go.RowKit Go.Sim Go.ChangeShapes Go.WideShapes Go.ChangeAt
set_option maxRecDepth 100000
theorem lots_lifted (os : Os) (started : os.Started) (H : Type) (enc : TypeId × Value → H) :
    ReturnsInHanded {} Try.checked os 4 .any (Ytbmgalmnjaimeaa.Rows.purseLotsSpec.pre6 enc Try.prog Try.f4 Ytbmgalmnjaimeaa.Rows.purseLotsRow.domain false) (Ytbmgalmnjaimeaa.Rows.purseLotsSpec.post enc Try.prog Try.f4 false true false false) := by
  refine returnsInHanded_of_change_sized (C := Try.checked) Try.own started (by kernel_rfl) Try.func4
    (ChangeSpec.witness6 (enc := enc) (C := Try.checked) false ⟨#[], #[.int .i64 0, .slice none 0 0], []⟩ 8 (by kernel_rfl) (by kernel_rfl) (by kernel_rfl) (by kernel_rfl)) ?_
  intro W base args ds gs before hval hW _ hsz _
  refine law_open (P := Try.prog) (told := Try.T1) (S := [3, 9, 23, 32, 76, 79]) (fn := Try.f4) (f := 4) (base := base) Try.fits Try.mixed Try.toldT1 Try.laidOut (fun _ _ => rfl) rfl (by kernel_rfl) (by kernel_rfl) (tb := 4) rfl Try.und4 ?_ (fun w xs f h => lots_law w xs f h) hval hW hsz
  intro ds hl
  match ds, hl with
  | [d1, d2], _ => exact ⟨rfl, rfl, rfl⟩
theorem Ytbmgalmnjaimeaa.lots_holds : Ytbmgalmnjaimeaa.Rows.PurseLotsSaid :=
  OpenClaim.holds_of_wide 4 Try.f4 rfl rfl rfl rfl rfl rfl rfl ⟨rfl, rfl, rfl, rfl, rfl⟩ rfl rfl rfl rfl rfl (by kernel_rfl) Try.func4 (by kernel_rfl)
    (of_decide_eq_true (by kernel_rfl)) (by unfold Func.isWrapper; first | (rw [if_pos (by decide +kernel)]; kernel_rfl) | (rw [if_neg (by decide +kernel)]; exact ⟨rfl, rfl⟩))
    (fun os started H enc _ => lots_lifted os started H enc)
end Go.Proofs
