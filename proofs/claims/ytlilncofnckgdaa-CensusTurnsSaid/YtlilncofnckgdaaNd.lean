/- Open calls of the machine, part 3: structs compared; calls that return or panic, deferred calls that recover. -/
import Derived.Test.YtlilncofnckgdaaNc
set_option linter.unusedVariables false
set_option linter.unusedSimpArgs false
namespace Go.Sim
open Go Go.RowKit
theorem prun_bindS {α β : Type} (p : Program) (f : α → Sem β) {x : Sem α} {a : α} (h : prun p x = some a) : prun p (x >>= f) = prun p (f a) := prun_bind p f x h
theorem part_one {P : Program} {ty : TypeId} (e : prun P (isAgg ty) = some false) {cs : Array Value} {o : Nat} {v : Value} (h : cs[o]? = some v) : prun P (part ty cs o) = some v := by
  unfold part
  rw [prun_bindS _ _ e]
  simp [h, prun]
  rfl
theorem eqInt_at {P : Program} {ty : TypeId} {k : IntKind} (hu : P.underlying ty = some (.int k)) (n : Nat) (a b : Int) : prun P (Op.equalIn (n + 1) ty (.int k a) (.int k b)) = some (a == b) := by
  rw [Op.equalIn]
  rw [prun_bindS _ _ (prun_underlying hu)]
  simp
  rfl
end Go.Sim
