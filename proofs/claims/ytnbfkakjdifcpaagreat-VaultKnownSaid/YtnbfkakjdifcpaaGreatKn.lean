/- It is proved that what is said of single strongrooms and carries holds, as VaultKnown says: the law answers true. No condition. -/
import Derived.Test.YtnbfkakjdifcpaaGreatPa
import Derived.Test.YtnbfkakjdifcpaaGreatPk
import Derived.Test.YtnbfkakjdifcpaaGreatRows
import Derived.ProofKit
import Derived.SizedLaws
set_option linter.unusedVariables false
set_option linter.unusedSimpArgs false
namespace Go.Proofs
open Go Go.RowKit Go.Sim Go.ChangeShapes Go.WideShapes Go.ChangeAt
set_option maxRecDepth 100000
theorem Tryz.own:ownKnob Tryz.prog.godebug=none:=by kernel_rfl
theorem Tryz.laidOut:laidOutB Tryz.prog=true:=by kernel_rfl
theorem Tryz.und4:Tryz.prog.underlying 4=some .bool:=by kernel_rfl
theorem known_lifted (os:Os) (started:os.Started) (H:Type) (enc:TypeId × Value->H) :
    ReturnsInHanded {} Tryz.checked os 14 .any (YtnbfkakjdifcpaaGreat.Rows.vaultKnownSpec.pre6 enc Tryz.prog Tryz.f14 YtnbfkakjdifcpaaGreat.Rows.vaultKnownRow.domain false) (YtnbfkakjdifcpaaGreat.Rows.vaultKnownSpec.post enc Tryz.prog Tryz.f14 false true false false):=by
 refine returnsInHanded_of_change_sized (C:=Tryz.checked) Tryz.own started (by kernel_rfl) Tryz.func14
  (ChangeSpec.witness6 (enc:=enc) (C:=Tryz.checked) false ⟨#[],#[],[]⟩ 8 (by kernel_rfl) (by kernel_rfl) (by kernel_rfl) (by kernel_rfl)) ?_
 intro W base args ds gs before hval hW _ hsz _
 refine law_closed (P:=Tryz.prog) (fn:=Tryz.f14) (f:=14) Tryz.laidOut rfl rfl (tb:=4) rfl Tryz.und4 ?_ (fun W=>(Tryz.known W).mono fun e W' h=>⟨h.1,h.2.toBelow⟩) hW
 intro ds hl
 match ds,hl with
 | [],_=>exact⟨rfl,rfl,rfl⟩
theorem YtnbfkakjdifcpaaGreat.known_holds:YtnbfkakjdifcpaaGreat.Rows.VaultKnownSaid :=
 OpenClaim.holds_of_wide 14 Tryz.f14 rfl rfl rfl rfl rfl rfl rfl ⟨rfl,rfl,rfl,rfl,rfl⟩ rfl rfl rfl rfl rfl (by kernel_rfl) Tryz.func14 (by kernel_rfl)
  (of_decide_eq_true (by kernel_rfl)) (by unfold Func.isWrapper;first|(rw[if_pos (by decide +kernel)];kernel_rfl)|(rw[if_neg (by decide +kernel)];exact⟨rfl,rfl⟩))
  (fun os started H enc _=>known_lifted os started H enc)
end Go.Proofs
