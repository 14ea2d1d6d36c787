/- Regions whose order is open, that store more than once. -/
import Derived.Test.YtlilncofnckgdaaNc
set_option linter.unusedVariables false
set_option linter.unusedSimpArgs false
namespace Go.Sim
open Go Go.RowKit
structure LookS where
  i : Nat
  ty : TypeId
  a : Value
  w : AW
def pureOp : Op → Bool
  | .move _ | .assign _ | .pick .. | .fieldAddr .. | .indexAddr .. | .binOp .. | .unOp .. | .nilCheck _ => true
  | _ => false
def LooksOk (g : Prg) (mk : Nat) (w' : AW) : List LookS → Prop
  | [] => True
  | x :: l => (mk.testBit x.i = true ∨ ∀ inf, g.ty x.ty = some inf → loadV w' inf.agg inf.size x.a = loadV x.w inf.agg inf.size x.a) ∧ LooksOk g mk w' l
theorem LooksOk.at {g : Prg} {mk : Nat} {w' : AW} : ∀ {L : List LookS}, LooksOk g mk w' L → ∀ x ∈ L, mk.testBit x.i = true ∨ ∀ inf, g.ty x.ty = some inf → loadV w' inf.agg inf.size x.a = loadV x.w inf.agg inf.size x.a
  | y :: l, h, x, hx => by
    rcases List.mem_cons.mp hx with e | e
    · subst e; exact h.1
    · exact LooksOk.at h.2 x e
section
variable (P : Program) (told : ToldF)
variable {P told}
def SeenL (g : Prg) (mask : Nat) (w : AW) (L : List LookS) (seen : List Seen) : Prop :=
  ∀ s ∈ seen, (mask.testBit s.i = true ∨ Holds g w s) ∧ same 12 s.v s.v = true ∧ (pureOp s.o.op = true ∨ ∃ x ∈ L, x.i = s.i ∧ ∃ a, s.o.op = .load x.ty a ∧ x.a = ev s.t a ∧ quiet g s.t x.w s.o = some s.v)
theorem SeenL.ok {g : Prg} {mask : Nat} {w : AW} {L : List LookS} {seen : List Seen} (h : SeenL g mask w L seen) : SeenOk g mask w seen := fun s hs => (h s hs).1
theorem SeenL.le {g : Prg} {mask : Nat} {w w' : AW} {L : List LookS} {seen : List Seen} (h : SeenL g mask w L seen) (k : WLe w w') : SeenL g mask w' L seen :=
  fun s hs => ⟨(h s hs).1.imp id fun q => q.le k, (h s hs).2⟩
end
end Go.Sim
