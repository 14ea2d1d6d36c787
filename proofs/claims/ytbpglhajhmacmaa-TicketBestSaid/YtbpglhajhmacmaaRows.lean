/-
  No cell of these rows narrows 'for every input' (looked for: loops, veiled, ifaces, maps, wideKeys, modest, calm, conditions, laid).
  DERIVED. THE GIVEN ROWS OF THIS SEAT. 9 by the template 'for every input the law returns true; each argument reads behind the call as it read before'; 0 by the template 'total and deterministic' (their statements: YtbpglhajhmacmaaTotals.lean).
  GIVEN WITH THE SEED: the statements are not yours to turn. If you find one false, say at which input.
  Laid BY PROGRAM, IN A SANDBOX (cutbox-rows.mjs): the forced cells as the released guide's own fill.sh prints them over the translation 359080b0c1e9a0b8… (all of the seat's roots in one cut). By AI agents, Wed Nov 11 2026. No macro, syntax, notation, axiom, sorry.
-/
import Derived.Test.YtbpglhajhmacmaaChecked
import GoSem.Claim
import GoSem.ClaimJoined
import GoSem.ClaimMapViews
import Derived.JoinedTies
import Derived.KernelRfl
namespace Go.Proofs.Ytbpglhajhmacmaa
/- THE CELL 'sum', in the pinned program and in every row, IS THE sha256 OF THE DUMP (.gsa) THAT YtbpglhajhmacmaaProg.lean LOADS. Nothing in Lean hashes anything: it is a label: what it is worth is what the hold of that sum in a sandbox is worth. -/
noncomputable def Try.pinned : Pinned := { name := "ytbpglhajhmacmaa", sum := "359080b0c1e9a0b81e85e03e71fe8a3a5edfd92b5dd8ba8fb936c0d127ffc530", checked := Try.checked }
namespace Rows
def none {H : Type} : Left H := { results := [], args := [] }

/-- 'lombardlaw03.TicketCodes': WHATEVER THE INPUT: true; the input reads as it did. -/
def ticketCodesSpec : ChangeSpec := { name := "ticketCodes", fn := fun _ => fun
  | [d1, d2, d3] => { results := [.lit (.bool true)], args := [d1, d2, d3] }
  | _ => none }
def ticketCodesRow : OpenClaim := { program := "ytbpglhajhmacmaa", sum := "359080b0c1e9a0b81e85e03e71fe8a3a5edfd92b5dd8ba8fb936c0d127ffc530", func := "lombard/lombardlaw03.TicketCodes", spec := "ticketCodes", unfollowed := true, recurses := true, apart := false }
def TicketCodesSaid : Prop := ticketCodesRow.holds Try.pinned (OpenSpec.ofChange ticketCodesSpec)

/-- ITS FALSE NEIGHBOUR: 'it returns false'. Refute it at one input. -/
def ticketCodesWrong : ChangeSpec := { name := "ticketCodes", fn := fun _ => fun
  | [d1, d2, d3] => { results := [.lit (.bool false)], args := [d1, d2, d3] }
  | _ => none }
def TicketCodesWrongFalsely : Prop := ticketCodesRow.holds Try.pinned (OpenSpec.ofChange ticketCodesWrong)

/-- 'lombardlaw03.TicketFits': WHATEVER THE INPUT: true; the input reads as it did. -/
def ticketFitsSpec : ChangeSpec := { name := "ticketFits", fn := fun _ => fun
  | [d1, d2, d3] => { results := [.lit (.bool true)], args := [d1, d2, d3] }
  | _ => none }
def ticketFitsRow : OpenClaim := { program := "ytbpglhajhmacmaa", sum := "359080b0c1e9a0b81e85e03e71fe8a3a5edfd92b5dd8ba8fb936c0d127ffc530", func := "lombard/lombardlaw03.TicketFits", spec := "ticketFits", unfollowed := true, recurses := true, apart := false }
def TicketFitsSaid : Prop := ticketFitsRow.holds Try.pinned (OpenSpec.ofChange ticketFitsSpec)

/-- ITS FALSE NEIGHBOUR: 'it returns false'. Refute it at one input. -/
def ticketFitsWrong : ChangeSpec := { name := "ticketFits", fn := fun _ => fun
  | [d1, d2, d3] => { results := [.lit (.bool false)], args := [d1, d2, d3] }
  | _ => none }
def TicketFitsWrongFalsely : Prop := ticketFitsRow.holds Try.pinned (OpenSpec.ofChange ticketFitsWrong)

/-- 'lombardlaw03.TicketDigits': WHATEVER THE INPUT: true; the input reads as it did. -/
def ticketDigitsSpec : ChangeSpec := { name := "ticketDigits", fn := fun _ => fun
  | [d1, d2, d3] => { results := [.lit (.bool true)], args := [d1, d2, d3] }
  | _ => none }
def ticketDigitsRow : OpenClaim := { program := "ytbpglhajhmacmaa", sum := "359080b0c1e9a0b81e85e03e71fe8a3a5edfd92b5dd8ba8fb936c0d127ffc530", func := "lombard/lombardlaw03.TicketDigits", spec := "ticketDigits", unfollowed := true, recurses := true, apart := false }
def TicketDigitsSaid : Prop := ticketDigitsRow.holds Try.pinned (OpenSpec.ofChange ticketDigitsSpec)

/-- ITS FALSE NEIGHBOUR: 'it returns false'. Refute it at one input. -/
def ticketDigitsWrong : ChangeSpec := { name := "ticketDigits", fn := fun _ => fun
  | [d1, d2, d3] => { results := [.lit (.bool false)], args := [d1, d2, d3] }
  | _ => none }
def TicketDigitsWrongFalsely : Prop := ticketDigitsRow.holds Try.pinned (OpenSpec.ofChange ticketDigitsWrong)

/-- 'lombardlaw03.TicketOnce': WHATEVER THE INPUT: true; the input reads as it did. -/
def ticketOnceSpec : ChangeSpec := { name := "ticketOnce", fn := fun _ => fun
  | [d1, d2] => { results := [.lit (.bool true)], args := [d1, d2] }
  | _ => none }
def ticketOnceRow : OpenClaim := { program := "ytbpglhajhmacmaa", sum := "359080b0c1e9a0b81e85e03e71fe8a3a5edfd92b5dd8ba8fb936c0d127ffc530", func := "lombard/lombardlaw03.TicketOnce", spec := "ticketOnce", unfollowed := true, recurses := true, apart := false }
def TicketOnceSaid : Prop := ticketOnceRow.holds Try.pinned (OpenSpec.ofChange ticketOnceSpec)

/-- ITS FALSE NEIGHBOUR: 'it returns false'. Refute it at one input. -/
def ticketOnceWrong : ChangeSpec := { name := "ticketOnce", fn := fun _ => fun
  | [d1, d2] => { results := [.lit (.bool false)], args := [d1, d2] }
  | _ => none }
def TicketOnceWrongFalsely : Prop := ticketOnceRow.holds Try.pinned (OpenSpec.ofChange ticketOnceWrong)

/-- 'lombardlaw03.TicketHalves': WHATEVER THE INPUT: true; the input reads as it did. -/
def ticketHalvesSpec : ChangeSpec := { name := "ticketHalves", fn := fun _ => fun
  | [d1, d2] => { results := [.lit (.bool true)], args := [d1, d2] }
  | _ => none }
def ticketHalvesRow : OpenClaim := { program := "ytbpglhajhmacmaa", sum := "359080b0c1e9a0b81e85e03e71fe8a3a5edfd92b5dd8ba8fb936c0d127ffc530", func := "lombard/lombardlaw03.TicketHalves", spec := "ticketHalves", unfollowed := true, recurses := true, apart := false }
def TicketHalvesSaid : Prop := ticketHalvesRow.holds Try.pinned (OpenSpec.ofChange ticketHalvesSpec)

/-- ITS FALSE NEIGHBOUR: 'it returns false'. Refute it at one input. -/
def ticketHalvesWrong : ChangeSpec := { name := "ticketHalves", fn := fun _ => fun
  | [d1, d2] => { results := [.lit (.bool false)], args := [d1, d2] }
  | _ => none }
def TicketHalvesWrongFalsely : Prop := ticketHalvesRow.holds Try.pinned (OpenSpec.ofChange ticketHalvesWrong)

/-- 'lombardlaw03.TicketProved': WHATEVER THE INPUT: true; the input reads as it did. -/
def ticketProvedSpec : ChangeSpec := { name := "ticketProved", fn := fun _ => fun
  | [d1, d2, d3] => { results := [.lit (.bool true)], args := [d1, d2, d3] }
  | _ => none }
def ticketProvedRow : OpenClaim := { program := "ytbpglhajhmacmaa", sum := "359080b0c1e9a0b81e85e03e71fe8a3a5edfd92b5dd8ba8fb936c0d127ffc530", func := "lombard/lombardlaw03.TicketProved", spec := "ticketProved", unfollowed := true, recurses := true, apart := false }
def TicketProvedSaid : Prop := ticketProvedRow.holds Try.pinned (OpenSpec.ofChange ticketProvedSpec)

/-- ITS FALSE NEIGHBOUR: 'it returns false'. Refute it at one input. -/
def ticketProvedWrong : ChangeSpec := { name := "ticketProved", fn := fun _ => fun
  | [d1, d2, d3] => { results := [.lit (.bool false)], args := [d1, d2, d3] }
  | _ => none }
def TicketProvedWrongFalsely : Prop := ticketProvedRow.holds Try.pinned (OpenSpec.ofChange ticketProvedWrong)

/-- 'lombardlaw03.TicketBest': WHATEVER THE INPUT: true; the input reads as it did. -/
def ticketBestSpec : ChangeSpec := { name := "ticketBest", fn := fun _ => fun
  | [d1, d2] => { results := [.lit (.bool true)], args := [d1, d2] }
  | _ => none }
def ticketBestRow : OpenClaim := { program := "ytbpglhajhmacmaa", sum := "359080b0c1e9a0b81e85e03e71fe8a3a5edfd92b5dd8ba8fb936c0d127ffc530", func := "lombard/lombardlaw03.TicketBest", spec := "ticketBest", unfollowed := true, recurses := true, apart := false }
def TicketBestSaid : Prop := ticketBestRow.holds Try.pinned (OpenSpec.ofChange ticketBestSpec)

/-- ITS FALSE NEIGHBOUR: 'it returns false'. Refute it at one input. -/
def ticketBestWrong : ChangeSpec := { name := "ticketBest", fn := fun _ => fun
  | [d1, d2] => { results := [.lit (.bool false)], args := [d1, d2] }
  | _ => none }
def TicketBestWrongFalsely : Prop := ticketBestRow.holds Try.pinned (OpenSpec.ofChange ticketBestWrong)

/-- 'lombardlaw03.TicketRefuses': WHATEVER THE INPUT: true; the input reads as it did. -/
def ticketRefusesSpec : ChangeSpec := { name := "ticketRefuses", fn := fun _ => fun
  | [d1, d2, d3] => { results := [.lit (.bool true)], args := [d1, d2, d3] }
  | _ => none }
def ticketRefusesRow : OpenClaim := { program := "ytbpglhajhmacmaa", sum := "359080b0c1e9a0b81e85e03e71fe8a3a5edfd92b5dd8ba8fb936c0d127ffc530", func := "lombard/lombardlaw03.TicketRefuses", spec := "ticketRefuses", unfollowed := true, recurses := true, apart := false }
def TicketRefusesSaid : Prop := ticketRefusesRow.holds Try.pinned (OpenSpec.ofChange ticketRefusesSpec)

/-- ITS FALSE NEIGHBOUR: 'it returns false'. Refute it at one input. -/
def ticketRefusesWrong : ChangeSpec := { name := "ticketRefuses", fn := fun _ => fun
  | [d1, d2, d3] => { results := [.lit (.bool false)], args := [d1, d2, d3] }
  | _ => none }
def TicketRefusesWrongFalsely : Prop := ticketRefusesRow.holds Try.pinned (OpenSpec.ofChange ticketRefusesWrong)

/-- 'lombardlaw03.TicketKnown': WHATEVER THE INPUT: true; the input reads as it did. -/
def ticketKnownSpec : ChangeSpec := { name := "ticketKnown", fn := fun _ => fun
  | [] => { results := [.lit (.bool true)], args := [] }
  | _ => none }
def ticketKnownRow : OpenClaim := { program := "ytbpglhajhmacmaa", sum := "359080b0c1e9a0b81e85e03e71fe8a3a5edfd92b5dd8ba8fb936c0d127ffc530", func := "lombard/lombardlaw03.TicketKnown", spec := "ticketKnown", unfollowed := true, recurses := true, apart := false }
def TicketKnownSaid : Prop := ticketKnownRow.holds Try.pinned (OpenSpec.ofChange ticketKnownSpec)

/-- ITS FALSE NEIGHBOUR: 'it returns false'. Refute it at one input. -/
def ticketKnownWrong : ChangeSpec := { name := "ticketKnown", fn := fun _ => fun
  | [] => { results := [.lit (.bool false)], args := [] }
  | _ => none }
def TicketKnownWrongFalsely : Prop := ticketKnownRow.holds Try.pinned (OpenSpec.ofChange ticketKnownWrong)

/- THE SECOND FORM. 'bulk': how many values and letters a reading holds, each counted each time it is reached (what is shared counts as often as it is met; a slice's spare places count too). A statement '..UptoSaid' is the law's where the arguments, and the package variables that the reading takes, are together of bulk at most 1048576: NARROWER than '..Said'. Prove '..Said' where nothing that the law and all that it calls make is longer than what came in: it says more and counts as full. Else prove '..UptoSaid'. A law counts once. -/
mutual
def uptoBulk {H : Type} : DataW H → Nat
  | .lit (.string bytes) => bytes.length + 1
  | .lit _ => 1
  | .nil => 1
  | .ptr d => uptoBulk d + 1
  | .slice elems spare => uptoBulkAll elems + uptoBulkAll spare + 1
  | .agg parts => uptoBulkAll parts + 1
  | .iface _ d => uptoBulk d + 1
  | .map entries => uptoBulkEntries entries + 1
  | .held _ => 1
def uptoBulkAll {H : Type} : List (DataW H) → Nat
  | [] => 0
  | d :: r => uptoBulk d + uptoBulkAll r
def uptoBulkEntries {H : Type} : List (Lit × DataW H) → Nat
  | [] => 0
  | x :: r => uptoBulkEntry x + uptoBulkEntries r
def uptoBulkEntry {H : Type} : Lit × DataW H → Nat
  | (.string bytes, d) => bytes.length + uptoBulk d + 1
  | (_, d) => uptoBulk d + 1
 end
def uptoSmall : (H : Type) → List (DataW H) → Bool := fun _ ds => decide (uptoBulkAll ds ≤ 1048576)
def OpenSpec.upto (s : _root_.Go.ChangeSpec) : _root_.Go.OpenSpec := { _root_.Go.OpenSpec.ofChange s with cond := some uptoSmall }

/-- 'lombardlaw03.TicketCodes', WHERE WHAT IT READS IS OF BULK AT MOST 1048576: true; the input reads as it did. -/
def ticketCodesUptoRow : OpenClaim := { program := "ytbpglhajhmacmaa", sum := "359080b0c1e9a0b81e85e03e71fe8a3a5edfd92b5dd8ba8fb936c0d127ffc530", func := "lombard/lombardlaw03.TicketCodes", spec := "ticketCodes", unfollowed := true, recurses := true, apart := false, narrowed := true }
def TicketCodesUptoSaid : Prop := ticketCodesUptoRow.holds Try.pinned (OpenSpec.upto ticketCodesSpec)

/-- 'lombardlaw03.TicketFits', WHERE WHAT IT READS IS OF BULK AT MOST 1048576: true; the input reads as it did. -/
def ticketFitsUptoRow : OpenClaim := { program := "ytbpglhajhmacmaa", sum := "359080b0c1e9a0b81e85e03e71fe8a3a5edfd92b5dd8ba8fb936c0d127ffc530", func := "lombard/lombardlaw03.TicketFits", spec := "ticketFits", unfollowed := true, recurses := true, apart := false, narrowed := true }
def TicketFitsUptoSaid : Prop := ticketFitsUptoRow.holds Try.pinned (OpenSpec.upto ticketFitsSpec)

/-- 'lombardlaw03.TicketDigits', WHERE WHAT IT READS IS OF BULK AT MOST 1048576: true; the input reads as it did. -/
def ticketDigitsUptoRow : OpenClaim := { program := "ytbpglhajhmacmaa", sum := "359080b0c1e9a0b81e85e03e71fe8a3a5edfd92b5dd8ba8fb936c0d127ffc530", func := "lombard/lombardlaw03.TicketDigits", spec := "ticketDigits", unfollowed := true, recurses := true, apart := false, narrowed := true }
def TicketDigitsUptoSaid : Prop := ticketDigitsUptoRow.holds Try.pinned (OpenSpec.upto ticketDigitsSpec)

/-- 'lombardlaw03.TicketOnce', WHERE WHAT IT READS IS OF BULK AT MOST 1048576: true; the input reads as it did. -/
def ticketOnceUptoRow : OpenClaim := { program := "ytbpglhajhmacmaa", sum := "359080b0c1e9a0b81e85e03e71fe8a3a5edfd92b5dd8ba8fb936c0d127ffc530", func := "lombard/lombardlaw03.TicketOnce", spec := "ticketOnce", unfollowed := true, recurses := true, apart := false, narrowed := true }
def TicketOnceUptoSaid : Prop := ticketOnceUptoRow.holds Try.pinned (OpenSpec.upto ticketOnceSpec)

/-- 'lombardlaw03.TicketHalves', WHERE WHAT IT READS IS OF BULK AT MOST 1048576: true; the input reads as it did. -/
def ticketHalvesUptoRow : OpenClaim := { program := "ytbpglhajhmacmaa", sum := "359080b0c1e9a0b81e85e03e71fe8a3a5edfd92b5dd8ba8fb936c0d127ffc530", func := "lombard/lombardlaw03.TicketHalves", spec := "ticketHalves", unfollowed := true, recurses := true, apart := false, narrowed := true }
def TicketHalvesUptoSaid : Prop := ticketHalvesUptoRow.holds Try.pinned (OpenSpec.upto ticketHalvesSpec)

/-- 'lombardlaw03.TicketProved', WHERE WHAT IT READS IS OF BULK AT MOST 1048576: true; the input reads as it did. -/
def ticketProvedUptoRow : OpenClaim := { program := "ytbpglhajhmacmaa", sum := "359080b0c1e9a0b81e85e03e71fe8a3a5edfd92b5dd8ba8fb936c0d127ffc530", func := "lombard/lombardlaw03.TicketProved", spec := "ticketProved", unfollowed := true, recurses := true, apart := false, narrowed := true }
def TicketProvedUptoSaid : Prop := ticketProvedUptoRow.holds Try.pinned (OpenSpec.upto ticketProvedSpec)

/-- 'lombardlaw03.TicketBest', WHERE WHAT IT READS IS OF BULK AT MOST 1048576: true; the input reads as it did. -/
def ticketBestUptoRow : OpenClaim := { program := "ytbpglhajhmacmaa", sum := "359080b0c1e9a0b81e85e03e71fe8a3a5edfd92b5dd8ba8fb936c0d127ffc530", func := "lombard/lombardlaw03.TicketBest", spec := "ticketBest", unfollowed := true, recurses := true, apart := false, narrowed := true }
def TicketBestUptoSaid : Prop := ticketBestUptoRow.holds Try.pinned (OpenSpec.upto ticketBestSpec)

/-- 'lombardlaw03.TicketRefuses', WHERE WHAT IT READS IS OF BULK AT MOST 1048576: true; the input reads as it did. -/
def ticketRefusesUptoRow : OpenClaim := { program := "ytbpglhajhmacmaa", sum := "359080b0c1e9a0b81e85e03e71fe8a3a5edfd92b5dd8ba8fb936c0d127ffc530", func := "lombard/lombardlaw03.TicketRefuses", spec := "ticketRefuses", unfollowed := true, recurses := true, apart := false, narrowed := true }
def TicketRefusesUptoSaid : Prop := ticketRefusesUptoRow.holds Try.pinned (OpenSpec.upto ticketRefusesSpec)

/-- 'lombardlaw03.TicketKnown', WHERE WHAT IT READS IS OF BULK AT MOST 1048576: true; the input reads as it did. -/
def ticketKnownUptoRow : OpenClaim := { program := "ytbpglhajhmacmaa", sum := "359080b0c1e9a0b81e85e03e71fe8a3a5edfd92b5dd8ba8fb936c0d127ffc530", func := "lombard/lombardlaw03.TicketKnown", spec := "ticketKnown", unfollowed := true, recurses := true, apart := false, narrowed := true }
def TicketKnownUptoSaid : Prop := ticketKnownUptoRow.holds Try.pinned (OpenSpec.upto ticketKnownSpec)

end Rows
end Go.Proofs.Ytbpglhajhmacmaa
