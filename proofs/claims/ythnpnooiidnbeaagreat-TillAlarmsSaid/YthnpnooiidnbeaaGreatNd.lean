/- Open calls of the machine, part 3: structs compared; calls that return or panic, deferred calls that recover. -/
import Derived.Test.YthnpnooiidnbeaaGreatNc
set_option linter.unusedVariables false
set_option linter.unusedSimpArgs false
namespace Go.Sim
open Go Go.RowKit
theorem prun_pp {P : Program} : prun P program = some P := rfl
theorem prun_bindS {α β : Type} (p : Program) (f : α → Sem β) {x : Sem α} {a : α} (h : prun p x = some a) : prun p (x >>= f) = prun p (f a) := prun_bind p f x h
structure EqF (P : Program) (n : Nat) (xs ys : Array Value) (f : Field) (b : Bool) : Prop where
  name : f.name ≠ "_"
  eq : ∃ u v, prun P (part f.type xs f.offset) = some u ∧ prun P (part f.type ys f.offset) = some v ∧ prun P (Op.equalIn n f.type u v) = some b
inductive EqFs (P : Program) (n : Nat) (xs ys : Array Value) : List Field → List Bool → Prop where
  | nil : EqFs P n xs ys [] []
  | cons {f : Field} {b : Bool} {fs : List Field} {bs : List Bool} (h : EqF P n xs ys f b) (k : EqFs P n xs ys fs bs) : EqFs P n xs ys (f :: fs) (b :: bs)
theorem eqStruct {P : Program} {ty : TypeId} {fs : Array Field} (hu : P.underlying ty = some (.struct fs)) (hs : P.stoodInHeld ty = false) {n : Nat} {xs ys : Array Value} {bs : List Bool} (h : EqFs P n xs ys fs.toList bs) :
    prun P (Op.equalIn (n + 1) ty (.agg xs) (.agg ys)) = some (bs.all id) := by
  rw [Op.equalIn]
  rw [prun_bindS _ _ (prun_underlying hu)]
  simp only []
  rw [prun_bindS _ _ prun_pp]
  simp only [hs, Bool.false_eq_true, if_false]
  rw [← Array.forIn_toList]
  generalize fs.toList = l at h
  clear hu hs
  induction h with
  | nil => simp only [List.forIn_nil, pure_bind]; rfl
  | @cons f b fs bs h k ih =>
    obtain ⟨u, v, h1, h2, h3⟩ := h.eq
    simp only [List.forIn_cons]
    rw [if_pos h.name]
    simp only [bind_assoc]
    rw [prun_bindS _ _ h1, prun_bindS _ _ h2, prun_bindS _ _ h3]
    cases b with
    | false => rfl
    | true =>
      simp only [Bool.not_true, Bool.false_eq_true, if_false, pure_bind]
      rw [List.all_cons]
      exact ih
theorem part_one {P : Program} {ty : TypeId} (e : prun P (isAgg ty) = some false) {cs : Array Value} {o : Nat} {v : Value} (h : cs[o]? = some v) : prun P (part ty cs o) = some v := by
  unfold part
  rw [prun_bindS _ _ e]
  simp [h, prun]
  rfl
theorem eqInt_at {P : Program} {ty : TypeId} {k : IntKind} (hu : P.underlying ty = some (.int k)) (n : Nat) (a b : Int) : prun P (Op.equalIn (n + 1) ty (.int k a) (.int k b)) = some (a == b) := by
  rw [Op.equalIn]
  rw [prun_bindS _ _ (prun_underlying hu)]
  simp
  rfl
theorem eqF_int {P : Program} {n : Nat} {xs ys : Array Value} {f : Field} {k : IntKind} {a b : Int} (hn : f.name ≠ "_") (hu : P.underlying f.type = some (.int k)) (e : prun P (isAgg f.type) = some false) (hx : xs[f.offset]? = some (.int k a)) (hy : ys[f.offset]? = some (.int k b)) : EqF P (n + 1) xs ys f (a == b) :=
  ⟨hn, _, _, part_one e hx, part_one e hy, eqInt_at hu n a b⟩
theorem eqQ_neq {P : Program} {ty : TypeId} {xs ys : Array Value} {b : Bool} (hg : prun P (eqGuard .neq ty (.const undef) (.const undef) (.agg xs) (.agg ys)) = some ()) (hf : (flat 6 (.agg xs) && flat 6 (.agg ys)) = true)
    (h : prun P (Op.equalIn 10000 ty (.agg xs) (.agg ys)) = some b) : eqQ P .neq ty (.agg xs) (.agg ys) = some (.bool !b) := by
  have hb : prun P (do eqGuard .neq ty (.const undef) (.const undef) (.agg xs) (.agg ys); Go.binOp .neq ty (.agg xs) (.agg ys)) = some (.bool !b) := by
    rw [prun_bindS _ _ hg]
    have he : prun P (Op.equal ty (.agg xs) (.agg ys)) = some b := h
    show prun P ((Op.equal ty (.agg xs) (.agg ys)).bind _) = _
    rw [prun_bind _ _ _ he]
    rfl
  unfold eqQ
  simp only [hf, hb]
  rfl
end Go.Sim
