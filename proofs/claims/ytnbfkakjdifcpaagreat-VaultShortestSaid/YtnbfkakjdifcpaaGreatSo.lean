/- Vault: the way of Way is the shortest, and the first of these, and there is one exactly if the group reaches the room, for any strongroom and trip: no condition is asked for. -/
import Derived.Test.YtnbfkakjdifcpaaGreatPah
set_option linter.unusedVariables false
set_option linter.unusedSimpArgs false
namespace Go.Proofs
open Go Go.RowKit Go.Sim Go.ChangeShapes Go.WideShapes Go.ChangeAt
set_option maxRecDepth 100000
theorem shortest_lifted (os:Os) (started:os.Started) (H:Type) (enc:TypeId × Value->H) :
    ReturnsInHanded {} Tryz.checked os 9 .any (YtnbfkakjdifcpaaGreat.Rows.vaultShortestSpec.pre6 enc Tryz.prog Tryz.f9 YtnbfkakjdifcpaaGreat.Rows.vaultShortestRow.domain false) (YtnbfkakjdifcpaaGreat.Rows.vaultShortestSpec.post enc Tryz.prog Tryz.f9 false true false false):=by
 refine returnsInHanded_of_change_sized (C:=Tryz.checked) Tryz.own started (by kernel_rfl) Tryz.func9
  (ChangeSpec.witness6 (enc:=enc) (C:=Tryz.checked) false ⟨#[],#[.agg #[.slice none 0 0,.slice none 0 0,.slice none 0 0],.agg #[.int .i64 0,.int .i64 0,.slice none 0 0]],[]⟩ 8 (by kernel_rfl) (by kernel_rfl) (by kernel_rfl) (by kernel_rfl)) ?_
 intro W base args ds gs before hval hW _ hsz _
 refine law_open (P:=Tryz.prog) (told:=Tryz.T1) (S:=[26,36,3,22,23,24,73,71]) (fn:=Tryz.f9) (f:=9) (base:=base) Tryz.fits Tryz.mixed Tryz.toldT1 Tryz.laidOut (fun _ _=>rfl) rfl (by kernel_rfl) (by kernel_rfl) (tb:=4) rfl Tryz.und4 ?_ (fun w xs f h=>shortest_law w xs f h) hval hW hsz
 intro ds hl
 match ds,hl with
 | [d1,d2],_=>exact⟨rfl,rfl,rfl⟩
theorem YtnbfkakjdifcpaaGreat.shortest_holds:YtnbfkakjdifcpaaGreat.Rows.VaultShortestSaid :=
 OpenClaim.holds_of_wide 9 Tryz.f9 rfl rfl rfl rfl rfl rfl rfl ⟨rfl,rfl,rfl,rfl,rfl⟩ rfl rfl rfl rfl rfl (by kernel_rfl) Tryz.func9 (by kernel_rfl)
  (of_decide_eq_true (by kernel_rfl)) (by unfold Func.isWrapper;first|(rw[if_pos (by decide +kernel)];kernel_rfl)|(rw[if_neg (by decide +kernel)];exact⟨rfl,rfl⟩))
  (fun os started H enc _=>shortest_lifted os started H enc)
end Go.Proofs
