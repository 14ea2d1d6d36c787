/- Vault: Play and Where return what the chapter says, for any strongroom, carries, bag and day: no condition is asked for. -/
import Derived.Test.YtnbfkakjdifcpaaGreatPak
set_option linter.unusedVariables false
set_option linter.unusedSimpArgs false
namespace Go.Proofs
open Go Go.RowKit Go.Sim Go.ChangeShapes Go.WideShapes Go.ChangeAt
set_option maxRecDepth 100000
theorem plays_lifted (os:Os) (started:os.Started) (H:Type) (enc:TypeId × Value→H) :
    ReturnsInHanded {} Tryz.checked os 6 .any (YtnbfkakjdifcpaaGreat.Rows.vaultPlaysSpec.pre6 enc Tryz.prog Tryz.f6 YtnbfkakjdifcpaaGreat.Rows.vaultPlaysRow.domain false) (YtnbfkakjdifcpaaGreat.Rows.vaultPlaysSpec.post enc Tryz.prog Tryz.f6 false true false false):=by
 refine returnsInHanded_of_change_sized (C:=Tryz.checked) Tryz.own started (by kernel_rfl) Tryz.func6
  (ChangeSpec.witness6 (enc:=enc) (C:=Tryz.checked) false ⟨#[],#[.agg #[.slice none 0 0,.slice none 0 0,.slice none 0 0],.slice none 0 0,.agg #[.int .i64 0,.int .i64 0]],[]⟩ 8 (by kernel_rfl) (by kernel_rfl) (by kernel_rfl) (by kernel_rfl)) ?_
 intro W base args ds gs before hval hW _ hsz _
 refine law_open (P:=Tryz.prog) (told:=Tryz.T1) (S:=[26,44,3,22,23,24,73,71,62,45]) (fn:=Tryz.f6) (f:=6) (base:=base) Tryz.fits Tryz.mixed Tryz.toldT1 Tryz.laidOut (fun _ _=>rfl) rfl (by kernel_rfl) (by kernel_rfl) (tb:=4) rfl Tryz.und4 ?_ (fun w xs f h=>plays_law w xs f h) hval hW hsz
 intro ds hl
 match ds,hl with
 | [d1,d2,d3],_=>exact⟨rfl,rfl,rfl⟩
theorem YtnbfkakjdifcpaaGreat.plays_holds:YtnbfkakjdifcpaaGreat.Rows.VaultPlaysSaid :=
 OpenClaim.holds_of_wide 6 Tryz.f6 rfl rfl rfl rfl rfl rfl rfl ⟨rfl,rfl,rfl,rfl,rfl⟩ rfl rfl rfl rfl rfl (by kernel_rfl) Tryz.func6 (by kernel_rfl)
  (of_decide_eq_true (by kernel_rfl)) (by unfold Func.isWrapper;first|(rw[if_pos (by decide +kernel)];kernel_rfl)|(rw[if_neg (by decide +kernel)];exact⟨rfl,rfl⟩))
  (fun os started H enc _=>plays_lifted os started H enc)
end Go.Proofs
