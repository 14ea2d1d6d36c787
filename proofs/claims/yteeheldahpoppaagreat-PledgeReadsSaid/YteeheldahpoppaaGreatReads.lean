/- It is proved that pledge keeps P1.4 to P1.6 in its readings as PledgeReads says: the law answers true at every input that can be read, and the input reads as it did. There is no condition. -/
import Derived.Test.YteeheldahpoppaaGreatRa
import Derived.Test.YteeheldahpoppaaGreatWa
import Derived.Test.YteeheldahpoppaaGreatRows
import Derived.ProofKit
set_option linter.unusedVariables false
set_option linter.unusedSimpArgs false
/- It is proved that pledge's readings keep P1.4 to P1.6 as PledgeReads says: the law answers true at every input, and the input reads as it did. No condition. -/
namespace Go.Proofs
open Go Go.RowKit Go.Sim Go.ChangeShapes Go.WideShapes Go.ChangeAt
set_option maxRecDepth 100000
theorem Tryz.own : ownKnob Tryz.prog.godebug = none := by kernel_rfl
theorem Tryz.laidOut : laidOutB Tryz.prog = true := by kernel_rfl
theorem Tryz.und4 : Tryz.prog.underlying 4 = some .bool := by kernel_rfl
theorem Tryz.toldT (N : Nat) : ToldOk Tryz.prog N Tryz.T := toldTrue_ok (fun args w => Tryz.call16 args w) Tryz.works Tryz.told N
theorem reads_lifted (os : Os) (started : os.Started) (H : Type) (enc : TypeId × Value → H) :
    ReturnsInHanded {} Tryz.checked os 3 .any (YteeheldahpoppaaGreat.Rows.pledgeReadsSpec.pre6 enc Tryz.prog Tryz.f3 YteeheldahpoppaaGreat.Rows.pledgeReadsRow.domain false) (YteeheldahpoppaaGreat.Rows.pledgeReadsSpec.post enc Tryz.prog Tryz.f3 false true false false) := by
  refine returnsInHanded_of_change (C := Tryz.checked) Tryz.own started (by kernel_rfl) Tryz.func3
    (ChangeSpec.witness6 (enc := enc) (C := Tryz.checked) false ⟨#[], #[.slice none 0 0, .slice none 0 0, .agg #[.slice none 0 0, .slice none 0 0]], []⟩ 8 (by kernel_rfl) (by kernel_rfl) (by kernel_rfl) (by kernel_rfl)) ?_
  intro W base args ds gs before hval hW _ _
  refine law_open (P := Tryz.prog) (told := Tryz.T) (S := [3, 22, 23, 24, 25, 53]) (fn := Tryz.f3) (f := 3) (base := base) Tryz.fits Tryz.mixed Tryz.toldT Tryz.laidOut (fun _ _ => rfl) rfl (by kernel_rfl) (by kernel_rfl) (tb := 4) rfl Tryz.und4 ?_ (fun w xs f h => reads_law w xs f h) hval hW
  intro ds hl
  match ds, hl with
  | [d1, d2, d3], _ => exact ⟨rfl, rfl, rfl⟩
theorem YteeheldahpoppaaGreat.reads_holds : YteeheldahpoppaaGreat.Rows.PledgeReadsSaid :=
  OpenClaim.holds_of_wide 3 Tryz.f3 rfl rfl rfl rfl rfl rfl rfl ⟨rfl, rfl, rfl, rfl, rfl⟩ rfl rfl rfl rfl rfl (by kernel_rfl) Tryz.func3 (by kernel_rfl)
    (of_decide_eq_true (by kernel_rfl)) (by unfold Func.isWrapper; first | (rw [if_pos (by decide +kernel)]; kernel_rfl) | (rw [if_neg (by decide +kernel)]; exact ⟨rfl, rfl⟩))
    (fun os started H enc _ => reads_lifted os started H enc)
end Go.Proofs
