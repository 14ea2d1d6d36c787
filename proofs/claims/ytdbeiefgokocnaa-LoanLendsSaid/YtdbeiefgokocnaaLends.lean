/- It is proved that CheckTerms, Most, Lend and For keep P2.3 as LoanLends says: the law answers true at every terms, value and question, and the input reads as it did. No condition. -/
import Derived.Test.YtdbeiefgokocnaaLc
import Derived.Test.YtdbeiefgokocnaaCa
set_option linter.unusedVariables false
set_option linter.unusedSimpArgs false
/- It is proved that CheckTerms, Most, Lend and For keep P2.3 as LoanLends says: the law answers true at every terms, value and question, and the input reads as it did. No condition. -/
namespace Go.Proofs
open Go Go.RowKit Go.Sim Go.ChangeShapes Go.WideShapes Go.ChangeAt
set_option maxRecDepth 100000
theorem lends_lifted (os : Os) (started : os.Started) (H : Type) (enc : TypeId × Value → H) :
    ReturnsInHanded {} Try.checked os 4 .any (Ytdbeiefgokocnaa.Rows.loanLendsSpec.pre6 enc Try.prog Try.f4 Ytdbeiefgokocnaa.Rows.loanLendsRow.domain false) (Ytdbeiefgokocnaa.Rows.loanLendsSpec.post enc Try.prog Try.f4 false true false false) := by
  refine returnsInHanded_of_change_sized (C := Try.checked) Try.own started (by kernel_rfl) Try.func4
    (ChangeSpec.witness6 (enc := enc) (C := Try.checked) false ⟨#[], #[.agg #[.int .i64 0, .int .i64 0, .int .i64 0], .agg #[.int .i64 0, .int .i64 0], .agg #[.slice none 0 0, .string ⟨#[]⟩, .int .i64 0]], []⟩ 8 (by kernel_rfl) (by kernel_rfl) (by kernel_rfl) (by kernel_rfl)) ?_
  intro W base args ds gs before hval hW _ hsz _
  refine law_open (P := Try.prog) (told := Try.T1) (S := [3, 9, 27, 40, 41, 43, 94]) (fn := Try.f4) (f := 4) (base := base) Try.fits Try.mixed Try.toldT1 Try.laidOut (fun _ _ => rfl) rfl (by kernel_rfl) (by kernel_rfl) (tb := 4) rfl Try.und4 ?_ (fun w xs f h => lends_law w xs f h) hval hW hsz
  intro ds hl
  match ds, hl with
  | [d1, d2, d3], _ => exact ⟨rfl, rfl, rfl⟩
theorem Ytdbeiefgokocnaa.lends_holds : Ytdbeiefgokocnaa.Rows.LoanLendsSaid :=
  OpenClaim.holds_of_wide 4 Try.f4 rfl rfl rfl rfl rfl rfl rfl ⟨rfl, rfl, rfl, rfl, rfl⟩ rfl rfl rfl rfl rfl (by kernel_rfl) Try.func4 (by kernel_rfl)
    (of_decide_eq_true (by kernel_rfl)) (by unfold Func.isWrapper; first | (rw [if_pos (by decide +kernel)]; kernel_rfl) | (rw [if_neg (by decide +kernel)]; exact ⟨rfl, rfl⟩))
    (fun os started H enc _ => lends_lifted os started H enc)
end Go.Proofs
