/- It is proved that of all orders of a room those whose first ones miss what is lost are to all orders as the choices that miss it are to all choices, as P10.8, P10.11 and CensusDrawn say: the law answers true at all sizes, and the input reads as it did. No condition. -/
import Derived.Test.YtlilncofnckgdaaPae
set_option linter.unusedVariables false
set_option linter.unusedSimpArgs false
namespace Go.Proofs
open Go Go.RowKit Go.Sim Go.ChangeShapes Go.WideShapes Go.ChangeAt
set_option maxRecDepth 100000
theorem drawn_lifted (os : Os) (started : os.Started) (H : Type) (enc : TypeId × Value → H) :
    ReturnsInHanded {} Try.checked os 12 .any (Ytlilncofnckgdaa.Rows.censusDrawnSpec.pre6 enc Try.prog Try.f12 Ytlilncofnckgdaa.Rows.censusDrawnRow.domain false) (Ytlilncofnckgdaa.Rows.censusDrawnSpec.post enc Try.prog Try.f12 false true false false) := by
  refine returnsInHanded_of_change_sized (C := Try.checked) Try.own started (by kernel_rfl) Try.func12
    (ChangeSpec.witness6 (enc := enc) (C := Try.checked) false ⟨#[], #[.agg #[.int .i64 0, .int .i64 0, .int .i64 0]], []⟩ 8 (by kernel_rfl) (by kernel_rfl) (by kernel_rfl) (by kernel_rfl)) ?_
  intro W base args ds gs before hval hW _ hsz _
  refine law_open (P := Try.prog) (told := Try.T1) (S := [3, 45]) (fn := Try.f12) (f := 12) (base := base) Try.fits Try.mixed Try.toldT1 Try.laidOut (fun _ _ => rfl) rfl (by kernel_rfl) (by kernel_rfl) (tb := 4) rfl Try.und4 ?_ (fun w xs f h => drawn_law w xs f h) hval hW hsz
  intro ds hl
  match ds, hl with
  | [d1], _ => exact ⟨rfl, rfl, rfl⟩
theorem Ytlilncofnckgdaa.drawn_holds : Ytlilncofnckgdaa.Rows.CensusDrawnSaid :=
  OpenClaim.holds_of_wide 12 Try.f12 rfl rfl rfl rfl rfl rfl rfl ⟨rfl, rfl, rfl, rfl, rfl⟩ rfl rfl rfl rfl rfl (by kernel_rfl) Try.func12 (by kernel_rfl)
    (of_decide_eq_true (by kernel_rfl)) (by unfold Func.isWrapper; first | (rw [if_pos (by decide +kernel)]; kernel_rfl) | (rw [if_neg (by decide +kernel)]; exact ⟨rfl, rfl⟩))
    (fun os started H enc _ => drawn_lifted os started H enc)
end Go.Proofs
