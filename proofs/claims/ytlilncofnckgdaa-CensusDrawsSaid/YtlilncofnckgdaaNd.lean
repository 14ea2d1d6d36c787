/- Open calls of the machine, part 3: structs compared; calls that return or panic, deferred calls that recover. -/
import Derived.Test.YtlilncofnckgdaaNc
set_option linter.unusedVariables false
set_option linter.unusedSimpArgs false
namespace Go.Sim
open Go Go.RowKit
theorem prun_bindS {α β : Type} (p : Program) (f : α → Sem β) {x : Sem α} {a : α} (h : prun p x = some a) : prun p (x >>= f) = prun p (f a) := prun_bind p f x h
theorem part_one {P : Program} {ty : TypeId} (e : prun P (isAgg ty) = some false) {cs : Array Value} {o : Nat} {v : Value} (h : cs[o]? = some v) : prun P (part ty cs o) = some v := by
  unfold part
  rw [prun_bindS _ _ e]
  simp [h, prun]
  rfl
theorem eqInt_at {P : Program} {ty : TypeId} {k : IntKind} (hu : P.underlying ty = some (.int k)) (n : Nat) (a b : Int) : prun P (Op.equalIn (n + 1) ty (.int k a) (.int k b)) = some (a == b) := by
  rw [Op.equalIn]
  rw [prun_bindS _ _ (prun_underlying hu)]
  simp
  rfl
theorem eqQ_eql {P : Program} {ty : TypeId} {xs ys : Array Value} {b : Bool} (hg : prun P (eqGuard .eql ty (.const undef) (.const undef) (.agg xs) (.agg ys)) = some ()) (hf : (flat 6 (.agg xs) && flat 6 (.agg ys)) = true)
    (h : prun P (Op.equalIn 10000 ty (.agg xs) (.agg ys)) = some b) : eqQ P .eql ty (.agg xs) (.agg ys) = some (.bool b) := by
  have hb : prun P (do eqGuard .eql ty (.const undef) (.const undef) (.agg xs) (.agg ys); Go.binOp .eql ty (.agg xs) (.agg ys)) = some (.bool b) := by
    rw [prun_bindS _ _ hg]
    have he : prun P (Op.equal ty (.agg xs) (.agg ys)) = some b := h
    show prun P ((Op.equal ty (.agg xs) (.agg ys)).bind _) = _
    rw [prun_bind _ _ _ he]
    rfl
  unfold eqQ
  simp only [hf, hb]
  rfl
end Go.Sim
