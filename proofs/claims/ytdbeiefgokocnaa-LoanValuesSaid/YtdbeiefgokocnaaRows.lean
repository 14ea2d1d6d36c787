/-
  No cell of these rows narrows 'for every input' (looked for: loops, veiled, ifaces, maps, wideKeys, modest, calm, conditions, laid).
  DERIVED. THE GIVEN ROWS OF THIS SEAT. 11 by the template 'for every input the law returns true; each argument reads behind the call as it read before'; 0 by the template 'total and deterministic' (their statements: YtdbeiefgokocnaaTotals.lean).
  GIVEN WITH THE SEED: the statements are not yours to turn. If you find one false, say at which input.
  Laid BY PROGRAM, IN A SANDBOX (cutbox-rows.mjs): the forced cells as the released guide's own fill.sh prints them over the translation d4f4e12ad2c46525… (all of the seat's roots in one cut). By AI agents, Wed Nov 11 2026. No macro, syntax, notation, axiom, sorry.
-/
import Derived.Test.YtdbeiefgokocnaaChecked
import GoSem.Claim
import GoSem.ClaimJoined
import GoSem.ClaimMapViews
import Derived.JoinedTies
import Derived.KernelRfl
namespace Go.Proofs.Ytdbeiefgokocnaa
/- THE CELL 'sum', in the pinned program and in every row, IS THE sha256 OF THE DUMP (.gsa) THAT YtdbeiefgokocnaaProg.lean LOADS. Nothing in Lean hashes anything: it is a label: what it is worth is what the hold of that sum in a sandbox is worth. -/
noncomputable def Try.pinned : Pinned := { name := "ytdbeiefgokocnaa", sum := "d4f4e12ad2c465253fc99fbf12fc0e0795ca90b3f06c60ecffdd371cdc4653c8", checked := Try.checked }
namespace Rows
def none {H : Type} : Left H := { results := [], args := [] }

/-- 'lombardlaw02.LoanValues': WHATEVER THE INPUT: true; the input reads as it did. -/
def loanValuesSpec : ChangeSpec := { name := "loanValues", fn := fun _ => fun
  | [d1, d2, d3] => { results := [.lit (.bool true)], args := [d1, d2, d3] }
  | _ => none }
def loanValuesRow : OpenClaim := { program := "ytdbeiefgokocnaa", sum := "d4f4e12ad2c465253fc99fbf12fc0e0795ca90b3f06c60ecffdd371cdc4653c8", func := "lombard/lombardlaw02.LoanValues", spec := "loanValues", inPlace := ["internal/reflectlite.ValueOf", "internal/reflectlite.Swapper", "(internal/reflectlite.Value).Len"], unfollowed := true, recurses := true, apart := false }
def LoanValuesSaid : Prop := loanValuesRow.holds Try.pinned (OpenSpec.ofChange loanValuesSpec)

/-- ITS FALSE NEIGHBOUR: 'it returns false'. Refute it at one input. -/
def loanValuesWrong : ChangeSpec := { name := "loanValues", fn := fun _ => fun
  | [d1, d2, d3] => { results := [.lit (.bool false)], args := [d1, d2, d3] }
  | _ => none }
def LoanValuesWrongFalsely : Prop := loanValuesRow.holds Try.pinned (OpenSpec.ofChange loanValuesWrong)

/-- 'lombardlaw02.LoanLends': WHATEVER THE INPUT: true; the input reads as it did. -/
def loanLendsSpec : ChangeSpec := { name := "loanLends", fn := fun _ => fun
  | [d1, d2, d3] => { results := [.lit (.bool true)], args := [d1, d2, d3] }
  | _ => none }
def loanLendsRow : OpenClaim := { program := "ytdbeiefgokocnaa", sum := "d4f4e12ad2c465253fc99fbf12fc0e0795ca90b3f06c60ecffdd371cdc4653c8", func := "lombard/lombardlaw02.LoanLends", spec := "loanLends", inPlace := ["internal/reflectlite.ValueOf", "internal/reflectlite.Swapper", "(internal/reflectlite.Value).Len"], unfollowed := true, recurses := true, apart := false }
def LoanLendsSaid : Prop := loanLendsRow.holds Try.pinned (OpenSpec.ofChange loanLendsSpec)

/-- ITS FALSE NEIGHBOUR: 'it returns false'. Refute it at one input. -/
def loanLendsWrong : ChangeSpec := { name := "loanLends", fn := fun _ => fun
  | [d1, d2, d3] => { results := [.lit (.bool false)], args := [d1, d2, d3] }
  | _ => none }
def LoanLendsWrongFalsely : Prop := loanLendsRow.holds Try.pinned (OpenSpec.ofChange loanLendsWrong)

/-- 'lombardlaw02.LoanKeeps': WHATEVER THE INPUT: true; the input reads as it did. -/
def loanKeepsSpec : ChangeSpec := { name := "loanKeeps", fn := fun _ => fun
  | [d1, d2] => { results := [.lit (.bool true)], args := [d1, d2] }
  | _ => none }
def loanKeepsRow : OpenClaim := { program := "ytdbeiefgokocnaa", sum := "d4f4e12ad2c465253fc99fbf12fc0e0795ca90b3f06c60ecffdd371cdc4653c8", func := "lombard/lombardlaw02.LoanKeeps", spec := "loanKeeps", inPlace := ["internal/reflectlite.ValueOf", "internal/reflectlite.Swapper", "(internal/reflectlite.Value).Len"], unfollowed := true, recurses := true, apart := false }
def LoanKeepsSaid : Prop := loanKeepsRow.holds Try.pinned (OpenSpec.ofChange loanKeepsSpec)

/-- ITS FALSE NEIGHBOUR: 'it returns false'. Refute it at one input. -/
def loanKeepsWrong : ChangeSpec := { name := "loanKeeps", fn := fun _ => fun
  | [d1, d2] => { results := [.lit (.bool false)], args := [d1, d2] }
  | _ => none }
def LoanKeepsWrongFalsely : Prop := loanKeepsRow.holds Try.pinned (OpenSpec.ofChange loanKeepsWrong)

/-- 'lombardlaw02.LoanTrue': WHATEVER THE INPUT: true; the input reads as it did. -/
def loanTrueSpec : ChangeSpec := { name := "loanTrue", fn := fun _ => fun
  | [d1, d2, d3] => { results := [.lit (.bool true)], args := [d1, d2, d3] }
  | _ => none }
def loanTrueRow : OpenClaim := { program := "ytdbeiefgokocnaa", sum := "d4f4e12ad2c465253fc99fbf12fc0e0795ca90b3f06c60ecffdd371cdc4653c8", func := "lombard/lombardlaw02.LoanTrue", spec := "loanTrue", inPlace := ["internal/reflectlite.ValueOf", "internal/reflectlite.Swapper", "(internal/reflectlite.Value).Len"], unfollowed := true, recurses := true, apart := false }
def LoanTrueSaid : Prop := loanTrueRow.holds Try.pinned (OpenSpec.ofChange loanTrueSpec)

/-- ITS FALSE NEIGHBOUR: 'it returns false'. Refute it at one input. -/
def loanTrueWrong : ChangeSpec := { name := "loanTrue", fn := fun _ => fun
  | [d1, d2, d3] => { results := [.lit (.bool false)], args := [d1, d2, d3] }
  | _ => none }
def LoanTrueWrongFalsely : Prop := loanTrueRow.holds Try.pinned (OpenSpec.ofChange loanTrueWrong)

/-- 'lombardlaw02.LoanFair': WHATEVER THE INPUT: true; the input reads as it did. -/
def loanFairSpec : ChangeSpec := { name := "loanFair", fn := fun _ => fun
  | [d1, d2, d3] => { results := [.lit (.bool true)], args := [d1, d2, d3] }
  | _ => none }
def loanFairRow : OpenClaim := { program := "ytdbeiefgokocnaa", sum := "d4f4e12ad2c465253fc99fbf12fc0e0795ca90b3f06c60ecffdd371cdc4653c8", func := "lombard/lombardlaw02.LoanFair", spec := "loanFair", inPlace := ["internal/reflectlite.ValueOf", "internal/reflectlite.Swapper", "(internal/reflectlite.Value).Len"], unfollowed := true, recurses := true, apart := false }
def LoanFairSaid : Prop := loanFairRow.holds Try.pinned (OpenSpec.ofChange loanFairSpec)

/-- ITS FALSE NEIGHBOUR: 'it returns false'. Refute it at one input. -/
def loanFairWrong : ChangeSpec := { name := "loanFair", fn := fun _ => fun
  | [d1, d2, d3] => { results := [.lit (.bool false)], args := [d1, d2, d3] }
  | _ => none }
def LoanFairWrongFalsely : Prop := loanFairRow.holds Try.pinned (OpenSpec.ofChange loanFairWrong)

/-- 'lombardlaw02.LoanLaw': WHATEVER THE INPUT: true; the input reads as it did. -/
def loanLawSpec : ChangeSpec := { name := "loanLaw", fn := fun _ => fun
  | [d1, d2, d3] => { results := [.lit (.bool true)], args := [d1, d2, d3] }
  | _ => none }
def loanLawRow : OpenClaim := { program := "ytdbeiefgokocnaa", sum := "d4f4e12ad2c465253fc99fbf12fc0e0795ca90b3f06c60ecffdd371cdc4653c8", func := "lombard/lombardlaw02.LoanLaw", spec := "loanLaw", inPlace := ["internal/reflectlite.ValueOf", "internal/reflectlite.Swapper", "(internal/reflectlite.Value).Len"], unfollowed := true, recurses := true, apart := false }
def LoanLawSaid : Prop := loanLawRow.holds Try.pinned (OpenSpec.ofChange loanLawSpec)

/-- ITS FALSE NEIGHBOUR: 'it returns false'. Refute it at one input. -/
def loanLawWrong : ChangeSpec := { name := "loanLaw", fn := fun _ => fun
  | [d1, d2, d3] => { results := [.lit (.bool false)], args := [d1, d2, d3] }
  | _ => none }
def LoanLawWrongFalsely : Prop := loanLawRow.holds Try.pinned (OpenSpec.ofChange loanLawWrong)

/-- 'lombardlaw02.LoanOnce': WHATEVER THE INPUT: true; the input reads as it did. -/
def loanOnceSpec : ChangeSpec := { name := "loanOnce", fn := fun _ => fun
  | [d1, d2, d3] => { results := [.lit (.bool true)], args := [d1, d2, d3] }
  | _ => none }
def loanOnceRow : OpenClaim := { program := "ytdbeiefgokocnaa", sum := "d4f4e12ad2c465253fc99fbf12fc0e0795ca90b3f06c60ecffdd371cdc4653c8", func := "lombard/lombardlaw02.LoanOnce", spec := "loanOnce", inPlace := ["internal/reflectlite.ValueOf", "internal/reflectlite.Swapper", "(internal/reflectlite.Value).Len"], unfollowed := true, recurses := true, apart := false }
def LoanOnceSaid : Prop := loanOnceRow.holds Try.pinned (OpenSpec.ofChange loanOnceSpec)

/-- ITS FALSE NEIGHBOUR: 'it returns false'. Refute it at one input. -/
def loanOnceWrong : ChangeSpec := { name := "loanOnce", fn := fun _ => fun
  | [d1, d2, d3] => { results := [.lit (.bool false)], args := [d1, d2, d3] }
  | _ => none }
def LoanOnceWrongFalsely : Prop := loanOnceRow.holds Try.pinned (OpenSpec.ofChange loanOnceWrong)

/-- 'lombardlaw02.LoanEarly': WHATEVER THE INPUT: true; the input reads as it did. -/
def loanEarlySpec : ChangeSpec := { name := "loanEarly", fn := fun _ => fun
  | [d1, d2] => { results := [.lit (.bool true)], args := [d1, d2] }
  | _ => none }
def loanEarlyRow : OpenClaim := { program := "ytdbeiefgokocnaa", sum := "d4f4e12ad2c465253fc99fbf12fc0e0795ca90b3f06c60ecffdd371cdc4653c8", func := "lombard/lombardlaw02.LoanEarly", spec := "loanEarly", inPlace := ["internal/reflectlite.ValueOf", "internal/reflectlite.Swapper", "(internal/reflectlite.Value).Len"], unfollowed := true, recurses := true, apart := false }
def LoanEarlySaid : Prop := loanEarlyRow.holds Try.pinned (OpenSpec.ofChange loanEarlySpec)

/-- ITS FALSE NEIGHBOUR: 'it returns false'. Refute it at one input. -/
def loanEarlyWrong : ChangeSpec := { name := "loanEarly", fn := fun _ => fun
  | [d1, d2] => { results := [.lit (.bool false)], args := [d1, d2] }
  | _ => none }
def LoanEarlyWrongFalsely : Prop := loanEarlyRow.holds Try.pinned (OpenSpec.ofChange loanEarlyWrong)

/-- 'lombardlaw02.LoanHeld': WHATEVER THE INPUT: true; the input reads as it did. -/
def loanHeldSpec : ChangeSpec := { name := "loanHeld", fn := fun _ => fun
  | [d1, d2] => { results := [.lit (.bool true)], args := [d1, d2] }
  | _ => none }
def loanHeldRow : OpenClaim := { program := "ytdbeiefgokocnaa", sum := "d4f4e12ad2c465253fc99fbf12fc0e0795ca90b3f06c60ecffdd371cdc4653c8", func := "lombard/lombardlaw02.LoanHeld", spec := "loanHeld", inPlace := ["internal/reflectlite.ValueOf", "internal/reflectlite.Swapper", "(internal/reflectlite.Value).Len"], unfollowed := true, recurses := true, apart := false }
def LoanHeldSaid : Prop := loanHeldRow.holds Try.pinned (OpenSpec.ofChange loanHeldSpec)

/-- ITS FALSE NEIGHBOUR: 'it returns false'. Refute it at one input. -/
def loanHeldWrong : ChangeSpec := { name := "loanHeld", fn := fun _ => fun
  | [d1, d2] => { results := [.lit (.bool false)], args := [d1, d2] }
  | _ => none }
def LoanHeldWrongFalsely : Prop := loanHeldRow.holds Try.pinned (OpenSpec.ofChange loanHeldWrong)

/-- 'lombardlaw02.LoanFewest': WHATEVER THE INPUT: true; the input reads as it did. -/
def loanFewestSpec : ChangeSpec := { name := "loanFewest", fn := fun _ => fun
  | [d1, d2, d3] => { results := [.lit (.bool true)], args := [d1, d2, d3] }
  | _ => none }
def loanFewestRow : OpenClaim := { program := "ytdbeiefgokocnaa", sum := "d4f4e12ad2c465253fc99fbf12fc0e0795ca90b3f06c60ecffdd371cdc4653c8", func := "lombard/lombardlaw02.LoanFewest", spec := "loanFewest", inPlace := ["internal/reflectlite.ValueOf", "internal/reflectlite.Swapper", "(internal/reflectlite.Value).Len"], unfollowed := true, recurses := true, apart := false }
def LoanFewestSaid : Prop := loanFewestRow.holds Try.pinned (OpenSpec.ofChange loanFewestSpec)

/-- ITS FALSE NEIGHBOUR: 'it returns false'. Refute it at one input. -/
def loanFewestWrong : ChangeSpec := { name := "loanFewest", fn := fun _ => fun
  | [d1, d2, d3] => { results := [.lit (.bool false)], args := [d1, d2, d3] }
  | _ => none }
def LoanFewestWrongFalsely : Prop := loanFewestRow.holds Try.pinned (OpenSpec.ofChange loanFewestWrong)

/-- 'lombardlaw02.LoanKnown': WHATEVER THE INPUT: true; the input reads as it did. -/
def loanKnownSpec : ChangeSpec := { name := "loanKnown", fn := fun _ => fun
  | [] => { results := [.lit (.bool true)], args := [] }
  | _ => none }
def loanKnownRow : OpenClaim := { program := "ytdbeiefgokocnaa", sum := "d4f4e12ad2c465253fc99fbf12fc0e0795ca90b3f06c60ecffdd371cdc4653c8", func := "lombard/lombardlaw02.LoanKnown", spec := "loanKnown", inPlace := ["internal/reflectlite.ValueOf", "internal/reflectlite.Swapper", "(internal/reflectlite.Value).Len"], unfollowed := true, recurses := true, apart := false }
def LoanKnownSaid : Prop := loanKnownRow.holds Try.pinned (OpenSpec.ofChange loanKnownSpec)

/-- ITS FALSE NEIGHBOUR: 'it returns false'. Refute it at one input. -/
def loanKnownWrong : ChangeSpec := { name := "loanKnown", fn := fun _ => fun
  | [] => { results := [.lit (.bool false)], args := [] }
  | _ => none }
def LoanKnownWrongFalsely : Prop := loanKnownRow.holds Try.pinned (OpenSpec.ofChange loanKnownWrong)

/- THE SECOND FORM. 'bulk': how many values and letters a reading holds, each counted each time it is reached (what is shared counts as often as it is met; a slice's spare places count too). A statement '..UptoSaid' is the law's where the arguments, and the package variables that the reading takes, are together of bulk at most 1048576: NARROWER than '..Said'. Prove '..Said' where nothing that the law and all that it calls make is longer than what came in: it says more and counts as full. Else prove '..UptoSaid'. A law counts once. -/
mutual
def uptoBulk {H : Type} : DataW H → Nat
  | .lit (.string bytes) => bytes.length + 1
  | .lit _ => 1
  | .nil => 1
  | .ptr d => uptoBulk d + 1
  | .slice elems spare => uptoBulkAll elems + uptoBulkAll spare + 1
  | .agg parts => uptoBulkAll parts + 1
  | .iface _ d => uptoBulk d + 1
  | .map entries => uptoBulkEntries entries + 1
  | .held _ => 1
def uptoBulkAll {H : Type} : List (DataW H) → Nat
  | [] => 0
  | d :: r => uptoBulk d + uptoBulkAll r
def uptoBulkEntries {H : Type} : List (Lit × DataW H) → Nat
  | [] => 0
  | x :: r => uptoBulkEntry x + uptoBulkEntries r
def uptoBulkEntry {H : Type} : Lit × DataW H → Nat
  | (.string bytes, d) => bytes.length + uptoBulk d + 1
  | (_, d) => uptoBulk d + 1
 end
def uptoSmall : (H : Type) → List (DataW H) → Bool := fun _ ds => decide (uptoBulkAll ds ≤ 1048576)
def OpenSpec.upto (s : _root_.Go.ChangeSpec) : _root_.Go.OpenSpec := { _root_.Go.OpenSpec.ofChange s with cond := some uptoSmall }

/-- 'lombardlaw02.LoanValues', WHERE WHAT IT READS IS OF BULK AT MOST 1048576: true; the input reads as it did. -/
def loanValuesUptoRow : OpenClaim := { program := "ytdbeiefgokocnaa", sum := "d4f4e12ad2c465253fc99fbf12fc0e0795ca90b3f06c60ecffdd371cdc4653c8", func := "lombard/lombardlaw02.LoanValues", spec := "loanValues", inPlace := ["internal/reflectlite.ValueOf", "internal/reflectlite.Swapper", "(internal/reflectlite.Value).Len"], unfollowed := true, recurses := true, apart := false, narrowed := true }
def LoanValuesUptoSaid : Prop := loanValuesUptoRow.holds Try.pinned (OpenSpec.upto loanValuesSpec)

/-- 'lombardlaw02.LoanLends', WHERE WHAT IT READS IS OF BULK AT MOST 1048576: true; the input reads as it did. -/
def loanLendsUptoRow : OpenClaim := { program := "ytdbeiefgokocnaa", sum := "d4f4e12ad2c465253fc99fbf12fc0e0795ca90b3f06c60ecffdd371cdc4653c8", func := "lombard/lombardlaw02.LoanLends", spec := "loanLends", inPlace := ["internal/reflectlite.ValueOf", "internal/reflectlite.Swapper", "(internal/reflectlite.Value).Len"], unfollowed := true, recurses := true, apart := false, narrowed := true }
def LoanLendsUptoSaid : Prop := loanLendsUptoRow.holds Try.pinned (OpenSpec.upto loanLendsSpec)

/-- 'lombardlaw02.LoanKeeps', WHERE WHAT IT READS IS OF BULK AT MOST 1048576: true; the input reads as it did. -/
def loanKeepsUptoRow : OpenClaim := { program := "ytdbeiefgokocnaa", sum := "d4f4e12ad2c465253fc99fbf12fc0e0795ca90b3f06c60ecffdd371cdc4653c8", func := "lombard/lombardlaw02.LoanKeeps", spec := "loanKeeps", inPlace := ["internal/reflectlite.ValueOf", "internal/reflectlite.Swapper", "(internal/reflectlite.Value).Len"], unfollowed := true, recurses := true, apart := false, narrowed := true }
def LoanKeepsUptoSaid : Prop := loanKeepsUptoRow.holds Try.pinned (OpenSpec.upto loanKeepsSpec)

/-- 'lombardlaw02.LoanTrue', WHERE WHAT IT READS IS OF BULK AT MOST 1048576: true; the input reads as it did. -/
def loanTrueUptoRow : OpenClaim := { program := "ytdbeiefgokocnaa", sum := "d4f4e12ad2c465253fc99fbf12fc0e0795ca90b3f06c60ecffdd371cdc4653c8", func := "lombard/lombardlaw02.LoanTrue", spec := "loanTrue", inPlace := ["internal/reflectlite.ValueOf", "internal/reflectlite.Swapper", "(internal/reflectlite.Value).Len"], unfollowed := true, recurses := true, apart := false, narrowed := true }
def LoanTrueUptoSaid : Prop := loanTrueUptoRow.holds Try.pinned (OpenSpec.upto loanTrueSpec)

/-- 'lombardlaw02.LoanFair', WHERE WHAT IT READS IS OF BULK AT MOST 1048576: true; the input reads as it did. -/
def loanFairUptoRow : OpenClaim := { program := "ytdbeiefgokocnaa", sum := "d4f4e12ad2c465253fc99fbf12fc0e0795ca90b3f06c60ecffdd371cdc4653c8", func := "lombard/lombardlaw02.LoanFair", spec := "loanFair", inPlace := ["internal/reflectlite.ValueOf", "internal/reflectlite.Swapper", "(internal/reflectlite.Value).Len"], unfollowed := true, recurses := true, apart := false, narrowed := true }
def LoanFairUptoSaid : Prop := loanFairUptoRow.holds Try.pinned (OpenSpec.upto loanFairSpec)

/-- 'lombardlaw02.LoanLaw', WHERE WHAT IT READS IS OF BULK AT MOST 1048576: true; the input reads as it did. -/
def loanLawUptoRow : OpenClaim := { program := "ytdbeiefgokocnaa", sum := "d4f4e12ad2c465253fc99fbf12fc0e0795ca90b3f06c60ecffdd371cdc4653c8", func := "lombard/lombardlaw02.LoanLaw", spec := "loanLaw", inPlace := ["internal/reflectlite.ValueOf", "internal/reflectlite.Swapper", "(internal/reflectlite.Value).Len"], unfollowed := true, recurses := true, apart := false, narrowed := true }
def LoanLawUptoSaid : Prop := loanLawUptoRow.holds Try.pinned (OpenSpec.upto loanLawSpec)

/-- 'lombardlaw02.LoanOnce', WHERE WHAT IT READS IS OF BULK AT MOST 1048576: true; the input reads as it did. -/
def loanOnceUptoRow : OpenClaim := { program := "ytdbeiefgokocnaa", sum := "d4f4e12ad2c465253fc99fbf12fc0e0795ca90b3f06c60ecffdd371cdc4653c8", func := "lombard/lombardlaw02.LoanOnce", spec := "loanOnce", inPlace := ["internal/reflectlite.ValueOf", "internal/reflectlite.Swapper", "(internal/reflectlite.Value).Len"], unfollowed := true, recurses := true, apart := false, narrowed := true }
def LoanOnceUptoSaid : Prop := loanOnceUptoRow.holds Try.pinned (OpenSpec.upto loanOnceSpec)

/-- 'lombardlaw02.LoanEarly', WHERE WHAT IT READS IS OF BULK AT MOST 1048576: true; the input reads as it did. -/
def loanEarlyUptoRow : OpenClaim := { program := "ytdbeiefgokocnaa", sum := "d4f4e12ad2c465253fc99fbf12fc0e0795ca90b3f06c60ecffdd371cdc4653c8", func := "lombard/lombardlaw02.LoanEarly", spec := "loanEarly", inPlace := ["internal/reflectlite.ValueOf", "internal/reflectlite.Swapper", "(internal/reflectlite.Value).Len"], unfollowed := true, recurses := true, apart := false, narrowed := true }
def LoanEarlyUptoSaid : Prop := loanEarlyUptoRow.holds Try.pinned (OpenSpec.upto loanEarlySpec)

/-- 'lombardlaw02.LoanHeld', WHERE WHAT IT READS IS OF BULK AT MOST 1048576: true; the input reads as it did. -/
def loanHeldUptoRow : OpenClaim := { program := "ytdbeiefgokocnaa", sum := "d4f4e12ad2c465253fc99fbf12fc0e0795ca90b3f06c60ecffdd371cdc4653c8", func := "lombard/lombardlaw02.LoanHeld", spec := "loanHeld", inPlace := ["internal/reflectlite.ValueOf", "internal/reflectlite.Swapper", "(internal/reflectlite.Value).Len"], unfollowed := true, recurses := true, apart := false, narrowed := true }
def LoanHeldUptoSaid : Prop := loanHeldUptoRow.holds Try.pinned (OpenSpec.upto loanHeldSpec)

/-- 'lombardlaw02.LoanFewest', WHERE WHAT IT READS IS OF BULK AT MOST 1048576: true; the input reads as it did. -/
def loanFewestUptoRow : OpenClaim := { program := "ytdbeiefgokocnaa", sum := "d4f4e12ad2c465253fc99fbf12fc0e0795ca90b3f06c60ecffdd371cdc4653c8", func := "lombard/lombardlaw02.LoanFewest", spec := "loanFewest", inPlace := ["internal/reflectlite.ValueOf", "internal/reflectlite.Swapper", "(internal/reflectlite.Value).Len"], unfollowed := true, recurses := true, apart := false, narrowed := true }
def LoanFewestUptoSaid : Prop := loanFewestUptoRow.holds Try.pinned (OpenSpec.upto loanFewestSpec)

/-- 'lombardlaw02.LoanKnown', WHERE WHAT IT READS IS OF BULK AT MOST 1048576: true; the input reads as it did. -/
def loanKnownUptoRow : OpenClaim := { program := "ytdbeiefgokocnaa", sum := "d4f4e12ad2c465253fc99fbf12fc0e0795ca90b3f06c60ecffdd371cdc4653c8", func := "lombard/lombardlaw02.LoanKnown", spec := "loanKnown", inPlace := ["internal/reflectlite.ValueOf", "internal/reflectlite.Swapper", "(internal/reflectlite.Value).Len"], unfollowed := true, recurses := true, apart := false, narrowed := true }
def LoanKnownUptoSaid : Prop := loanKnownUptoRow.holds Try.pinned (OpenSpec.upto loanKnownSpec)

end Rows
end Go.Proofs.Ytdbeiefgokocnaa
