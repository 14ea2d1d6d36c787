/- It is proved that never more is charged than the law allows, as P2.10, P2.11 and LoanLaw say: the law answers true at every deal, acts and day, and the input reads as it did. No condition. -/
import Derived.Test.YtdbeiefgokocnaaYe
import Derived.Test.YtdbeiefgokocnaaCa
set_option linter.unusedVariables false
set_option linter.unusedSimpArgs false
/- It is proved that never more is charged than the law allows, as P2.10, P2.11 and LoanLaw say: the law answers true at every deal, acts and day, and the input reads as it did. No condition. -/
namespace Go.Proofs
open Go Go.RowKit Go.Sim Go.ChangeShapes Go.WideShapes Go.ChangeAt
set_option maxRecDepth 100000
theorem law_lifted (os : Os) (started : os.Started) (H : Type) (enc : TypeId × Value → H) :
    ReturnsInHanded {} Try.checked os 8 .any (Ytdbeiefgokocnaa.Rows.loanLawSpec.pre6 enc Try.prog Try.f8 Ytdbeiefgokocnaa.Rows.loanLawRow.domain false) (Ytdbeiefgokocnaa.Rows.loanLawSpec.post enc Try.prog Try.f8 false true false false) := by
  refine returnsInHanded_of_change_sized (C := Try.checked) Try.own started (by kernel_rfl) Try.func8
    (ChangeSpec.witness6 (enc := enc) (C := Try.checked) false ⟨#[], #[.agg #[.int .i64 0, .int .i64 0, .int .i64 0, .int .i64 0, .int .i64 0, .int .i64 0, .int .i64 0, .slice none 0 0, .int .i64 0, .int .i64 0], .slice none 0 0, .int .i64 0], []⟩ 8 (by kernel_rfl) (by kernel_rfl) (by kernel_rfl) (by kernel_rfl)) ?_
  intro W base args ds gs before hval hW _ hsz _
  refine law_open (P := Try.prog) (told := Try.T1) (S := [3, 23, 52, 54, 56, 68, 79]) (fn := Try.f8) (f := 8) (base := base) Try.fits Try.mixed Try.toldT1 Try.laidOut (fun _ _ => rfl) rfl (by kernel_rfl) (by kernel_rfl) (tb := 4) rfl Try.und4 ?_ (fun w xs f h => law_law w xs f h) hval hW hsz
  intro ds hl
  match ds, hl with
  | [d1, d2, d3], _ => exact ⟨rfl, rfl, rfl⟩
theorem Ytdbeiefgokocnaa.law_holds : Ytdbeiefgokocnaa.Rows.LoanLawSaid :=
  OpenClaim.holds_of_wide 8 Try.f8 rfl rfl rfl rfl rfl rfl rfl ⟨rfl, rfl, rfl, rfl, rfl⟩ rfl rfl rfl rfl rfl (by kernel_rfl) Try.func8 (by kernel_rfl)
    (of_decide_eq_true (by kernel_rfl)) (by unfold Func.isWrapper; first | (rw [if_pos (by decide +kernel)]; kernel_rfl) | (rw [if_neg (by decide +kernel)]; exact ⟨rfl, rfl⟩))
    (fun os started H enc _ => law_lifted os started H enc)
end Go.Proofs
