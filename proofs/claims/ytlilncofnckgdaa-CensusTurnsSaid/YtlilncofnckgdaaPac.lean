/- This program: its code, contracts, numbers, part 3. -/
import Derived.Test.YtlilncofnckgdaaPab
import Derived.Test.YtlilncofnckgdaaNd
import Derived.Test.YtlilncofnckgdaaNc
import Derived.Test.YtlilncofnckgdaaNa
import Derived.Test.YtlilncofnckgdaaPaa
import Derived.Test.YtlilncofnckgdaaChecked
set_option linter.unusedVariables false
set_option linter.unusedSimpArgs false
namespace Go.Proofs
open Go Go.RowKit Go.Sim
set_option maxRecDepth 100000
theorem W_set {A : List Int} {i j : Nat} {x : Int} (h : i < A.length) : W (A.set i x) j = if j = i then x else W A j := by
  unfold W List.getD
  by_cases q : j = i
  · subst q; simp [h]
  · rw [List.getElem?_set_ne (fun e => q e.symm), if_neg q]
end Go.Proofs

namespace Go.Sim
open Go Go.RowKit
theorem part_at {P : Program} {ty : TypeId} {k : IntKind} (e : prun P (isAgg ty) = some false) {xs : List Int} {i : Nat} (h : i < xs.length) : prun P (part ty (xs.map (Value.int k)).toArray (i * 1)) = some (.int k xs[i]) := by
  rw [Nat.mul_one]
  exact part_one e (by simp [h])
theorem eqArr {P : Program} {ty e : TypeId} {k : IntKind} {len : Nat} (hu : P.underlying ty = some (.array len e)) (hs : prun P (sizeOf e) = some 1) (he : P.underlying e = some (.int k)) (ha : prun P (isAgg e) = some false) (n : Nat) (xs ys : List Int) (hx : xs.length = len) (hy : ys.length = len) :
    prun P (Op.equalIn (n + 2) ty (.agg (xs.map (Value.int k)).toArray) (.agg (ys.map (Value.int k)).toArray)) = some (decide (xs = ys)) := by
  rw [Op.equalIn]
  rw [prun_bindS _ _ (prun_underlying hu)]
  simp only []
  rw [prun_bindS _ _ hs]
  rw [Std.Legacy.Range.forIn_eq_forIn_range']
  have key : ∀ m i, i + m = len → prun P (do
      let s ← forIn (List.range' i m) ((none : Option Bool), ()) fun i _ => do
            let a ← part e (xs.map (Value.int k)).toArray (i * 1)
            let b ← part e (ys.map (Value.int k)).toArray (i * 1)
            let c ← Op.equalIn (n + 1) e a b
            if (!c) = true then pure (ForInStep.done (some false, ())) else pure (ForInStep.yield (none, ()))
      match s.fst with
        | some r => pure r
        | none => pure true) = some (decide (xs.drop i = ys.drop i)) := by
    intro m
    induction m with
    | zero =>
      intro i hi
      rw [List.drop_eq_nil_of_le (by omega), List.drop_eq_nil_of_le (by omega)]
      simp only [List.range'_zero, List.forIn_nil, pure_bind]
      rfl
    | succ m ih =>
      intro i hi
      have h1 : i < xs.length := by omega
      have h2 : i < ys.length := by omega
      rw [List.range'_succ]
      simp only [List.forIn_cons, bind_assoc]
      rw [prun_bindS _ _ (part_at ha h1), prun_bindS _ _ (part_at ha h2), prun_bindS _ _ (eqInt_at he n _ _)]
      have e : (xs.drop i = ys.drop i) = (xs[i] = ys[i] ∧ xs.drop (i + 1) = ys.drop (i + 1)) := by
        rw [List.drop_eq_getElem_cons h1, List.drop_eq_getElem_cons h2, List.cons.injEq]
      by_cases hq : xs[i] = ys[i]
      · have hb : (xs[i] == ys[i]) = true := by simp [hq]
        simp only [hb, Bool.not_true, Bool.false_eq_true, if_false, pure_bind]
        have := ih (i + 1) (by omega)
        rw [this]
        simp only [e, hq, true_and]
      · have hb : (xs[i] == ys[i]) = false := by simp [hq]
        simp only [hb, Bool.not_false, if_true, pure_bind]
        simp only [e, hq, false_and, decide_false]
        rfl
  have := key len 0 (by omega)
  simp only [List.drop_zero] at this
  have hsz : Std.Legacy.Range.size [:len] = len := by simp [Std.Legacy.Range.size]
  rw [← this, hsz]
  congr 1
  congr 1
  funext s
  obtain ⟨a, _⟩ := s
  cases a <;> rfl
theorem loadAll {w : AW} {b n : Nat} {e : TypeId} {c : List Value} (h : Own w b e c) (hn : c.length = n) (h1 : ∀ v ∈ c, oneCell v = true) : loadV w true n (.pointer (some ⟨b, 0, none⟩)) = some (.agg c.toArray) := by
  subst hn
  rw [loadV_row, aCells_of c 0 fun i v hv => by rw [Nat.zero_add]; exact h.cell hv (h1 v (List.mem_of_getElem? hv))]
end Go.Sim

namespace Go.Proofs
open Go Go.RowKit Go.Sim
set_option maxRecDepth 100000
theorem Try.agg3 : prun Try.prog (isAgg 3) = some false := by kernel_rfl
theorem Try.size3 : prun Try.prog (sizeOf 3) = some 1 := by kernel_rfl
def Cutt (w : AW) (v : Value) (n : Nat) : Prop := n = 0 ∨ ∃ b o c, v = .slice (some ⟨b, o, none⟩) n c ∧ n ≤ c ∧ b < w.next ∧ ((∃ cs, w.blk b = some (.given cs)) ∨ ∃ cells e r, w.blk b = some (.cells cells e r 0 1))
theorem Cutt.drop {w : AW} {v : Value} {L : List Int} (h : Cutt w v L.length) (hA : ArrOf w 1 icells v L) {a : Nat} (ha : a < L.length) :
    ∃ p c, sliceV w 1 v (some (.int .i64 (a : Int))) none = some (.slice p (L.length - a) c) ∧ ArrOf w 1 icells (.slice p (L.length - a) c) (L.drop a) := by
  rcases h with q | ⟨b, o, c, rfl, hc, hb, hk⟩
  · omega
  obtain ⟨p', n, cap, e, hn, hc', hm, hat⟩ := hA
  injection e with e1 e2 e3
  subst e1 e2 e3
  obtain ⟨b', o', e, hb', hcell⟩ := hat (by omega)
  injection e with e
  injection e with e1 e2
  subst e1 e2
  refine ⟨some ⟨b, o + a * 1, none⟩, c - a, ?_, ⟨_, _, _, rfl, by rw [List.length_map, List.length_drop], by omega, by omega, fun _ => ⟨b, o + a * 1, rfl, hb, fun i j r x hi hx => ?_⟩⟩⟩
  · show sliceV w 1 (.slice (some ⟨b, o, none⟩) L.length c) (some (.int .i64 (Int.ofNat a))) none = _
    have b1 : Nat.ble a L.length = true := Nat.ble_eq_true_of_le (by omega)
    have b2 : Nat.ble L.length c = true := Nat.ble_eq_true_of_le hc
    have b3 : Nat.beq 1 1 = true := rfl
    rcases hk with ⟨cs, hk⟩ | ⟨cells, e, r, hk⟩
    · have b4 : Nat.beq c a = false := Bool.eq_false_iff.2 fun q => by have := Nat.eq_of_beq_eq_true q; omega
      simp only [sliceV, natOr, b1, b2, hk, Bool.and_self, b4, cond_false]
    · simp only [sliceV, natOr, b1, b2, hk, Bool.and_self, b3, Bool.true_or]
  · have hi' : (List.map icells L)[a + i]? = some r := by
      rw [← hi, List.getElem?_map, List.getElem?_map, List.getElem?_drop]
    have := hcell (a + i) j r x hi' hx
    rw [show o + (a + i) * 1 + j = o + a * 1 + i * 1 + j by omega] at this
    exact this
end Go.Proofs

namespace Go.Proofs
open Go Go.RowKit Go.Sim
set_option maxRecDepth 100000
end Go.Proofs

namespace Go.Proofs
open Go Go.RowKit Go.Sim
set_option maxRecDepth 100000
structure AudN where
  st : List Int
  co : List Int
  lost : Int
  sure : Int
def audC (p q : Option Addr) (a c : Nat) (A : AudN) : List Value := [.slice p A.st.length a, .slice q A.co.length c, .int .i64 A.lost, .int .i64 A.sure]
end Go.Proofs

namespace Go.Proofs
open Go Go.RowKit Go.Sim
set_option maxRecDepth 100000
def chs : Nat → Nat → Nat
  | _, 0 => 1
  | 0, _ + 1 => 0
  | n + 1, k + 1 => chs n k + chs n (k + 1)
def triI : List Int := (List.range 81).map fun i => (chs (i / 9) (i % 9) : Int)
def triC : List Value := triI.flatMap icells
end Go.Proofs

namespace Go.Proofs
open Go Go.RowKit Go.Sim
set_option maxRecDepth 100000
def SearchAt (w : AW) (b : Nat) (p q : Option Addr) (a c : Nat) (A : AudN) : Prop := Own w b 119 (audC p q a c A ++ triC)
theorem SearchAt.c0 {w : AW} {b : Nat} {p q : Option Addr} {a c : Nat} {A : AudN} (h : SearchAt w b p q a c A) : w.cell? ⟨b, 0, none⟩ = some (.slice p A.st.length a) := Own.cell h (o := 0) rfl rfl
theorem SearchAt.c1 {w : AW} {b : Nat} {p q : Option Addr} {a c : Nat} {A : AudN} (h : SearchAt w b p q a c A) : w.cell? ⟨b, 1, none⟩ = some (.slice q A.co.length c) := Own.cell h (o := 1) rfl rfl
theorem SearchAt.c2 {w : AW} {b : Nat} {p q : Option Addr} {a c : Nat} {A : AudN} (h : SearchAt w b p q a c A) : w.cell? ⟨b, 2, none⟩ = some (.int .i64 A.lost) := Own.cell h (o := 2) rfl rfl
theorem SearchAt.c3 {w : AW} {b : Nat} {p q : Option Addr} {a c : Nat} {A : AudN} (h : SearchAt w b p q a c A) : w.cell? ⟨b, 3, none⟩ = some (.int .i64 A.sure) := Own.cell h (o := 3) rfl rfl
theorem SearchAt.keep {w w' : AW} {b : Nat} {p q : Option Addr} {a c : Nat} {A : AudN} (h : SearchAt w b p q a c A) (k : Keep w.next w w') : SearchAt w' b p q a c A := Own.keep h k
theorem same_all : ∀ {xs : List Value}, (∀ x ∈ xs, same 11 x x = true) → same.all 11 xs xs = true
  | [], _ => rfl
  | x :: xs, h => by
    simp only [same.all, h x List.mem_cons_self, same_all fun y hy => h y (List.mem_cons_of_mem _ hy), Bool.and_self]
theorem same_i11 (n : Int) : same 11 (.int .i64 n) (.int .i64 n) = true := by simp [same, intEq_eq]
theorem same_s11 (p : Option Addr) (n c : Nat) : same 11 (.slice p n c) (.slice p n c) = true := by
  cases p with
  | none => simp [same]
  | some a => obtain ⟨b, o, s⟩ := a; cases s <;> simp [same]
theorem same_ints11 (L : List Int) : ∀ x ∈ L.flatMap icells, same 11 x x = true := by
  intro x hx
  obtain ⟨y, _, hy⟩ := List.mem_flatMap.1 hx
  simp only [icells, List.mem_singleton] at hy
  subst hy; exact same_i11 y
theorem same_ptV (l : List Int) : same 12 (.agg (l.flatMap icells).toArray) (.agg (l.flatMap icells).toArray) = true := by
  have := same_all (same_ints11 l)
  simp only [same, this]
def padI (l : List Int) : List Int := l ++ List.replicate (4 - l.length) 0
def aV (l : List Int) : Value := .agg (l.flatMap icells).toArray
end Go.Proofs

namespace Go.Proofs
open Go Go.RowKit Go.Sim
set_option maxRecDepth 100000
end Go.Proofs

namespace Go.Proofs
open Go Go.RowKit Go.Sim
set_option maxRecDepth 100000
end Go.Proofs
