/-
  No cell of these rows narrows 'for every input' (looked for: loops, veiled, ifaces, maps, wideKeys, modest, calm, conditions, laid).
  DERIVED. THE GIVEN ROWS OF THIS SEAT. 6 by the template 'for every input the law returns true; each argument reads behind the call as it read before'; 0 by the template 'total and deterministic' (their statements: YteeheldahpoppaaGreatTotals.lean).
  GIVEN WITH THE SEED: the statements are not yours to turn. If you find one false, say at which input.
  Laid BY PROGRAM, IN A SANDBOX (cutbox-rows.mjs): the forced cells as the released guide's own fill.sh prints them over the translation 6b64fc59614a4770… (all of the seat's roots in one cut). By AI agents, Wed Nov 11 2026. No macro, syntax, notation, axiom, sorry.
-/
import Derived.Test.YteeheldahpoppaaGreatChecked
import GoSem.Claim
import GoSem.ClaimJoined
import GoSem.ClaimMapViews
import Derived.JoinedTies
import Derived.KernelRfl
namespace Go.Proofs.YteeheldahpoppaaGreat
/- THE CELL 'sum', in the pinned program and in every row, IS THE sha256 OF THE DUMP (.gsa) THAT YteeheldahpoppaaGreatProg.lean LOADS. Nothing in Lean hashes anything: it is a label: what it is worth is what the hold of that sum in a sandbox is worth. -/
noncomputable def Tryz.pinned : Pinned := { name := "yteeheldahpoppaagreat", sum := "6b64fc59614a477027891c7579ae8f174c1b83f52dc02efc03abd86ae5651601", checked := Tryz.checked }
namespace Rows
def none {H : Type} : Left H := { results := [], args := [] }

/-- 'lombardlaw01.PledgeReads': WHATEVER THE INPUT: true; the input reads as it did. -/
def pledgeReadsSpec : ChangeSpec := { name := "pledgeReads", fn := fun _ => fun
  | [d1, d2, d3] => { results := [.lit (.bool true)], args := [d1, d2, d3] }
  | _ => none }
def pledgeReadsRow : OpenClaim := { program := "yteeheldahpoppaagreat", sum := "6b64fc59614a477027891c7579ae8f174c1b83f52dc02efc03abd86ae5651601", func := "lombard/lombardlaw01.PledgeReads", spec := "pledgeReads", inPlace := ["internal/abi.NoEscape", "internal/bytealg.MakeNoZero", "internal/bytealg.abigen_runtime_cmpstring"], unfollowed := true, recurses := true, apart := false }
def PledgeReadsSaid : Prop := pledgeReadsRow.holds Tryz.pinned (OpenSpec.ofChange pledgeReadsSpec)

/-- ITS FALSE NEIGHBOUR: 'it returns false'. Refute it at one input. -/
def pledgeReadsWrong : ChangeSpec := { name := "pledgeReads", fn := fun _ => fun
  | [d1, d2, d3] => { results := [.lit (.bool false)], args := [d1, d2, d3] }
  | _ => none }
def PledgeReadsWrongFalsely : Prop := pledgeReadsRow.holds Tryz.pinned (OpenSpec.ofChange pledgeReadsWrong)

/-- 'lombardlaw01.PledgeFinds': WHATEVER THE INPUT: true; the input reads as it did. -/
def pledgeFindsSpec : ChangeSpec := { name := "pledgeFinds", fn := fun _ => fun
  | [d1, d2, d3] => { results := [.lit (.bool true)], args := [d1, d2, d3] }
  | _ => none }
def pledgeFindsRow : OpenClaim := { program := "yteeheldahpoppaagreat", sum := "6b64fc59614a477027891c7579ae8f174c1b83f52dc02efc03abd86ae5651601", func := "lombard/lombardlaw01.PledgeFinds", spec := "pledgeFinds", inPlace := ["internal/abi.NoEscape", "internal/bytealg.MakeNoZero", "internal/bytealg.abigen_runtime_cmpstring"], unfollowed := true, recurses := true, apart := false }
def PledgeFindsSaid : Prop := pledgeFindsRow.holds Tryz.pinned (OpenSpec.ofChange pledgeFindsSpec)

/-- ITS FALSE NEIGHBOUR: 'it returns false'. Refute it at one input. -/
def pledgeFindsWrong : ChangeSpec := { name := "pledgeFinds", fn := fun _ => fun
  | [d1, d2, d3] => { results := [.lit (.bool false)], args := [d1, d2, d3] }
  | _ => none }
def PledgeFindsWrongFalsely : Prop := pledgeFindsRow.holds Tryz.pinned (OpenSpec.ofChange pledgeFindsWrong)

/-- 'lombardlaw01.PledgeLeast': WHATEVER THE INPUT: true; the input reads as it did. -/
def pledgeLeastSpec : ChangeSpec := { name := "pledgeLeast", fn := fun _ => fun
  | [d1, d2] => { results := [.lit (.bool true)], args := [d1, d2] }
  | _ => none }
def pledgeLeastRow : OpenClaim := { program := "yteeheldahpoppaagreat", sum := "6b64fc59614a477027891c7579ae8f174c1b83f52dc02efc03abd86ae5651601", func := "lombard/lombardlaw01.PledgeLeast", spec := "pledgeLeast", inPlace := ["internal/abi.NoEscape", "internal/bytealg.MakeNoZero", "internal/bytealg.abigen_runtime_cmpstring"], unfollowed := true, recurses := true, apart := false }
def PledgeLeastSaid : Prop := pledgeLeastRow.holds Tryz.pinned (OpenSpec.ofChange pledgeLeastSpec)

/-- ITS FALSE NEIGHBOUR: 'it returns false'. Refute it at one input. -/
def pledgeLeastWrong : ChangeSpec := { name := "pledgeLeast", fn := fun _ => fun
  | [d1, d2] => { results := [.lit (.bool false)], args := [d1, d2] }
  | _ => none }
def PledgeLeastWrongFalsely : Prop := pledgeLeastRow.holds Tryz.pinned (OpenSpec.ofChange pledgeLeastWrong)

/-- 'lombardlaw01.PledgeTrue': WHATEVER THE INPUT: true; the input reads as it did. -/
def pledgeTrueSpec : ChangeSpec := { name := "pledgeTrue", fn := fun _ => fun
  | [d1, d2, d3] => { results := [.lit (.bool true)], args := [d1, d2, d3] }
  | _ => none }
def pledgeTrueRow : OpenClaim := { program := "yteeheldahpoppaagreat", sum := "6b64fc59614a477027891c7579ae8f174c1b83f52dc02efc03abd86ae5651601", func := "lombard/lombardlaw01.PledgeTrue", spec := "pledgeTrue", inPlace := ["internal/abi.NoEscape", "internal/bytealg.MakeNoZero", "internal/bytealg.abigen_runtime_cmpstring"], unfollowed := true, recurses := true, apart := false }
def PledgeTrueSaid : Prop := pledgeTrueRow.holds Tryz.pinned (OpenSpec.ofChange pledgeTrueSpec)

/-- ITS FALSE NEIGHBOUR: 'it returns false'. Refute it at one input. -/
def pledgeTrueWrong : ChangeSpec := { name := "pledgeTrue", fn := fun _ => fun
  | [d1, d2, d3] => { results := [.lit (.bool false)], args := [d1, d2, d3] }
  | _ => none }
def PledgeTrueWrongFalsely : Prop := pledgeTrueRow.holds Tryz.pinned (OpenSpec.ofChange pledgeTrueWrong)

/-- 'lombardlaw01.PledgeNoSwap': WHATEVER THE INPUT: true; the input reads as it did. -/
def pledgeNoSwapSpec : ChangeSpec := { name := "pledgeNoSwap", fn := fun _ => fun
  | [d1, d2, d3] => { results := [.lit (.bool true)], args := [d1, d2, d3] }
  | _ => none }
def pledgeNoSwapRow : OpenClaim := { program := "yteeheldahpoppaagreat", sum := "6b64fc59614a477027891c7579ae8f174c1b83f52dc02efc03abd86ae5651601", func := "lombard/lombardlaw01.PledgeNoSwap", spec := "pledgeNoSwap", inPlace := ["internal/abi.NoEscape", "internal/bytealg.MakeNoZero", "internal/bytealg.abigen_runtime_cmpstring"], unfollowed := true, recurses := true, apart := false }
def PledgeNoSwapSaid : Prop := pledgeNoSwapRow.holds Tryz.pinned (OpenSpec.ofChange pledgeNoSwapSpec)

/-- ITS FALSE NEIGHBOUR: 'it returns false'. Refute it at one input. -/
def pledgeNoSwapWrong : ChangeSpec := { name := "pledgeNoSwap", fn := fun _ => fun
  | [d1, d2, d3] => { results := [.lit (.bool false)], args := [d1, d2, d3] }
  | _ => none }
def PledgeNoSwapWrongFalsely : Prop := pledgeNoSwapRow.holds Tryz.pinned (OpenSpec.ofChange pledgeNoSwapWrong)

/-- 'lombardlaw01.PledgeCheapest': WHATEVER THE INPUT: true; the input reads as it did. -/
def pledgeCheapestSpec : ChangeSpec := { name := "pledgeCheapest", fn := fun _ => fun
  | [d1, d2, d3] => { results := [.lit (.bool true)], args := [d1, d2, d3] }
  | _ => none }
def pledgeCheapestRow : OpenClaim := { program := "yteeheldahpoppaagreat", sum := "6b64fc59614a477027891c7579ae8f174c1b83f52dc02efc03abd86ae5651601", func := "lombard/lombardlaw01.PledgeCheapest", spec := "pledgeCheapest", inPlace := ["internal/abi.NoEscape", "internal/bytealg.MakeNoZero", "internal/bytealg.abigen_runtime_cmpstring"], unfollowed := true, recurses := true, apart := false }
def PledgeCheapestSaid : Prop := pledgeCheapestRow.holds Tryz.pinned (OpenSpec.ofChange pledgeCheapestSpec)

/-- ITS FALSE NEIGHBOUR: 'it returns false'. Refute it at one input. -/
def pledgeCheapestWrong : ChangeSpec := { name := "pledgeCheapest", fn := fun _ => fun
  | [d1, d2, d3] => { results := [.lit (.bool false)], args := [d1, d2, d3] }
  | _ => none }
def PledgeCheapestWrongFalsely : Prop := pledgeCheapestRow.holds Tryz.pinned (OpenSpec.ofChange pledgeCheapestWrong)

/- THE SECOND FORM. 'bulk': how many values and letters a reading holds, each counted each time it is reached (what is shared counts as often as it is met; a slice's spare places count too). A statement '..UptoSaid' is the law's where the arguments, and the package variables that the reading takes, are together of bulk at most 1048576: NARROWER than '..Said'. Prove '..Said' where nothing that the law and all that it calls make is longer than what came in: it says more and counts as full. Else prove '..UptoSaid'. A law counts once. -/
mutual
def uptoBulk {H : Type} : DataW H → Nat
  | .lit (.string bytes) => bytes.length + 1
  | .lit _ => 1
  | .nil => 1
  | .ptr d => uptoBulk d + 1
  | .slice elems spare => uptoBulkAll elems + uptoBulkAll spare + 1
  | .agg parts => uptoBulkAll parts + 1
  | .iface _ d => uptoBulk d + 1
  | .map entries => uptoBulkEntries entries + 1
  | .held _ => 1
def uptoBulkAll {H : Type} : List (DataW H) → Nat
  | [] => 0
  | d :: r => uptoBulk d + uptoBulkAll r
def uptoBulkEntries {H : Type} : List (Lit × DataW H) → Nat
  | [] => 0
  | x :: r => uptoBulkEntry x + uptoBulkEntries r
def uptoBulkEntry {H : Type} : Lit × DataW H → Nat
  | (.string bytes, d) => bytes.length + uptoBulk d + 1
  | (_, d) => uptoBulk d + 1
 end
def uptoSmall : (H : Type) → List (DataW H) → Bool := fun _ ds => decide (uptoBulkAll ds ≤ 1048576)
def OpenSpec.upto (s : _root_.Go.ChangeSpec) : _root_.Go.OpenSpec := { _root_.Go.OpenSpec.ofChange s with cond := some uptoSmall }

/-- 'lombardlaw01.PledgeReads', WHERE WHAT IT READS IS OF BULK AT MOST 1048576: true; the input reads as it did. -/
def pledgeReadsUptoRow : OpenClaim := { program := "yteeheldahpoppaagreat", sum := "6b64fc59614a477027891c7579ae8f174c1b83f52dc02efc03abd86ae5651601", func := "lombard/lombardlaw01.PledgeReads", spec := "pledgeReads", inPlace := ["internal/abi.NoEscape", "internal/bytealg.MakeNoZero", "internal/bytealg.abigen_runtime_cmpstring"], unfollowed := true, recurses := true, apart := false, narrowed := true }
def PledgeReadsUptoSaid : Prop := pledgeReadsUptoRow.holds Tryz.pinned (OpenSpec.upto pledgeReadsSpec)

/-- 'lombardlaw01.PledgeFinds', WHERE WHAT IT READS IS OF BULK AT MOST 1048576: true; the input reads as it did. -/
def pledgeFindsUptoRow : OpenClaim := { program := "yteeheldahpoppaagreat", sum := "6b64fc59614a477027891c7579ae8f174c1b83f52dc02efc03abd86ae5651601", func := "lombard/lombardlaw01.PledgeFinds", spec := "pledgeFinds", inPlace := ["internal/abi.NoEscape", "internal/bytealg.MakeNoZero", "internal/bytealg.abigen_runtime_cmpstring"], unfollowed := true, recurses := true, apart := false, narrowed := true }
def PledgeFindsUptoSaid : Prop := pledgeFindsUptoRow.holds Tryz.pinned (OpenSpec.upto pledgeFindsSpec)

/-- 'lombardlaw01.PledgeLeast', WHERE WHAT IT READS IS OF BULK AT MOST 1048576: true; the input reads as it did. -/
def pledgeLeastUptoRow : OpenClaim := { program := "yteeheldahpoppaagreat", sum := "6b64fc59614a477027891c7579ae8f174c1b83f52dc02efc03abd86ae5651601", func := "lombard/lombardlaw01.PledgeLeast", spec := "pledgeLeast", inPlace := ["internal/abi.NoEscape", "internal/bytealg.MakeNoZero", "internal/bytealg.abigen_runtime_cmpstring"], unfollowed := true, recurses := true, apart := false, narrowed := true }
def PledgeLeastUptoSaid : Prop := pledgeLeastUptoRow.holds Tryz.pinned (OpenSpec.upto pledgeLeastSpec)

/-- 'lombardlaw01.PledgeTrue', WHERE WHAT IT READS IS OF BULK AT MOST 1048576: true; the input reads as it did. -/
def pledgeTrueUptoRow : OpenClaim := { program := "yteeheldahpoppaagreat", sum := "6b64fc59614a477027891c7579ae8f174c1b83f52dc02efc03abd86ae5651601", func := "lombard/lombardlaw01.PledgeTrue", spec := "pledgeTrue", inPlace := ["internal/abi.NoEscape", "internal/bytealg.MakeNoZero", "internal/bytealg.abigen_runtime_cmpstring"], unfollowed := true, recurses := true, apart := false, narrowed := true }
def PledgeTrueUptoSaid : Prop := pledgeTrueUptoRow.holds Tryz.pinned (OpenSpec.upto pledgeTrueSpec)

/-- 'lombardlaw01.PledgeNoSwap', WHERE WHAT IT READS IS OF BULK AT MOST 1048576: true; the input reads as it did. -/
def pledgeNoSwapUptoRow : OpenClaim := { program := "yteeheldahpoppaagreat", sum := "6b64fc59614a477027891c7579ae8f174c1b83f52dc02efc03abd86ae5651601", func := "lombard/lombardlaw01.PledgeNoSwap", spec := "pledgeNoSwap", inPlace := ["internal/abi.NoEscape", "internal/bytealg.MakeNoZero", "internal/bytealg.abigen_runtime_cmpstring"], unfollowed := true, recurses := true, apart := false, narrowed := true }
def PledgeNoSwapUptoSaid : Prop := pledgeNoSwapUptoRow.holds Tryz.pinned (OpenSpec.upto pledgeNoSwapSpec)

/-- 'lombardlaw01.PledgeCheapest', WHERE WHAT IT READS IS OF BULK AT MOST 1048576: true; the input reads as it did. -/
def pledgeCheapestUptoRow : OpenClaim := { program := "yteeheldahpoppaagreat", sum := "6b64fc59614a477027891c7579ae8f174c1b83f52dc02efc03abd86ae5651601", func := "lombard/lombardlaw01.PledgeCheapest", spec := "pledgeCheapest", inPlace := ["internal/abi.NoEscape", "internal/bytealg.MakeNoZero", "internal/bytealg.abigen_runtime_cmpstring"], unfollowed := true, recurses := true, apart := false, narrowed := true }
def PledgeCheapestUptoSaid : Prop := pledgeCheapestUptoRow.holds Tryz.pinned (OpenSpec.upto pledgeCheapestSpec)

end Rows
end Go.Proofs.YteeheldahpoppaaGreat
