/- This program: its code, contracts, numbers, part 5. -/
import Derived.Test.YtnbfkakjdifcpaaGreatPaa
import Derived.Test.YtnbfkakjdifcpaaGreatNa
import Derived.Test.YtnbfkakjdifcpaaGreatPad
set_option linter.unusedVariables false
set_option linter.unusedSimpArgs false
namespace Go.Proofs
open Go Go.RowKit Go.Sim
set_option maxRecDepth 100000
end Go.Proofs

namespace Go.Proofs
open Go Go.RowKit Go.Sim
set_option maxRecDepth 100000
end Go.Proofs

namespace Go.Proofs
open Go Go.RowKit Go.Sim
set_option maxRecDepth 100000
theorem natsL_len (L:List Nat):(natsL L).length=L.length:=by simp [natsL]
def RowS (e:TypeId) (B:Nat) (w:AW) (v:Value) (L:List Nat):Prop:=AOwn B w e 1 v L.length ((natsL L).flatMap icells)
theorem RowS.nil (e B:Nat) (w:AW):RowS e B w (.slice none 0 0) []:=.inl ⟨rfl,rfl,rfl⟩
theorem RowS.keep {e B:Nat} {w w':AW} {v:Value} {L:List Nat} (h:RowS e B w v L) (k:Keep w.next w w'):RowS e B w' v L:=AOwn.keep h k (Nat.le_refl _)
end Go.Proofs

namespace Go.Proofs
open Go Go.RowKit Go.Sim
set_option maxRecDepth 100000
def reachB (s:StrN) (goals g:Nat):Bool:=!decide (endR s g 1 &&& goals=0)
end Go.Proofs

namespace Go.Proofs
open Go Go.RowKit Go.Sim
set_option maxRecDepth 100000
def lessN (a b:Nat):Nat:=(BitVec.ofNat 64 a &&& ~~~BitVec.ofNat 64 b).toNat
def guardB (s:StrN) (goals g:Nat):Bool:=!reachB s goals (lessN (2 ^ s.staff.length - 1) g)
end Go.Proofs

namespace Go.Proofs
open Go Go.RowKit Go.Sim
theorem and_pow {a k:Nat}:a &&& 2 ^ k=0↔a.testBit k=false:=by
  constructor
  · intro h
    have:(a &&& 2 ^ k).testBit k=false:=by rw [h];simp
    rw [Nat.testBit_and,bit_pow.2 rfl,Bool.and_true] at this
    exact this
  · intro h
    apply Nat.eq_of_testBit_eq
    intro i
    rw [Nat.testBit_and,Nat.zero_testBit]
    cases q:(2 ^ k).testBit i with
    | false=>simp
    | true=>rw [← bit_pow.1 q,h];rfl
theorem reachB_iff {s:StrN} {k g:Nat}:reachB s (2 ^ k) g=true↔(endR s g 1).testBit k=true:=by
  unfold reachB
  rw [Bool.not_eq_true',decide_eq_false_iff_not,and_pow]
  cases (endR s g 1).testBit k <;> simp
end Go.Proofs

namespace Go.Proofs
open Go Go.RowKit Go.Sim
set_option maxRecDepth 100000
end Go.Proofs

namespace Go.Proofs
open Go Go.RowKit Go.Sim
set_option maxRecDepth 100000
end Go.Proofs

namespace Go.Proofs
open Go Go.RowKit Go.Sim
set_option maxRecDepth 100000
end Go.Proofs
