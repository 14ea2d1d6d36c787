/- This program: its code, contracts, numbers, part 5. -/
import Derived.Test.YtnbfkakjdifcpaaGreatPaa
import Derived.Test.YtnbfkakjdifcpaaGreatNa
import Derived.Test.YtnbfkakjdifcpaaGreatPad
set_option linter.unusedVariables false
set_option linter.unusedSimpArgs false
namespace Go.Proofs
open Go Go.RowKit Go.Sim
set_option maxRecDepth 100000
end Go.Proofs

namespace Go.Proofs
open Go Go.RowKit Go.Sim
set_option maxRecDepth 100000
end Go.Proofs

namespace Go.Proofs
open Go Go.RowKit Go.Sim
set_option maxRecDepth 100000
theorem natsL_len (L : List Nat) : (natsL L).length = L.length := by simp [natsL]
def RowS (e : TypeId) (B : Nat) (w : AW) (v : Value) (L : List Nat) : Prop := AOwn B w e 1 v L.length ((natsL L).flatMap icells)
theorem RowS.nil (e B : Nat) (w : AW) : RowS e B w (.slice none 0 0) [] := .inl ⟨rfl, rfl, rfl⟩
theorem RowS.keep {e B : Nat} {w w' : AW} {v : Value} {L : List Nat} (h : RowS e B w v L) (k : Keep w.next w w') : RowS e B w' v L := AOwn.keep h k (Nat.le_refl _)
end Go.Proofs

namespace Go.Proofs
open Go Go.RowKit Go.Sim
set_option maxRecDepth 100000
def reachB (s : StrN) (goals g : Nat) : Bool := !decide (endR s g 1 &&& goals = 0)
end Go.Proofs

namespace Go.Proofs
open Go Go.RowKit Go.Sim
set_option maxRecDepth 100000
def lessN (a b : Nat) : Nat := (BitVec.ofNat 64 a &&& ~~~BitVec.ofNat 64 b).toNat
def guardB (s : StrN) (goals g : Nat) : Bool := !reachB s goals (lessN (2 ^ s.staff.length - 1) g)
end Go.Proofs

namespace Go.Proofs
open Go Go.RowKit Go.Sim
end Go.Proofs

namespace Go.Proofs
open Go Go.RowKit Go.Sim
set_option maxRecDepth 100000
end Go.Proofs

namespace Go.Proofs
open Go Go.RowKit Go.Sim
set_option maxRecDepth 100000
end Go.Proofs

namespace Go.Proofs
open Go Go.RowKit Go.Sim
set_option maxRecDepth 100000
end Go.Proofs
