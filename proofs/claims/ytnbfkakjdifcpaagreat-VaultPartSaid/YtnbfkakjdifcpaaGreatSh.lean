/- Sums shared out by the greatest quotient, and spread over dues: the numbers. Rows that are filled in place. -/
import Derived.Test.YtnbfkakjdifcpaaGreatNc
set_option linter.unusedVariables false
set_option linter.unusedSimpArgs false
namespace Go.Sim
def W (l : List Int) (i : Nat) : Int := l.getD i 0
theorem W_at {l : List Int} {i : Nat} (h : i < l.length) : W l i = l[i] := by simp [W, List.getD, h]
theorem W_zero (x : Int) (l : List Int) : W (x :: l) 0 = x := rfl
def NN (w : List Int) : Prop := ∀ i, 0 ≤ W w i
structure IsNext (w l : List Int) (n b : Nat) : Prop where
  lt : b < n ∨ b = 0
  all : ∀ k, k < n → W w k * (W l b + 1) ≤ W w b * (W l k + 1)
  first : ∀ k, k < n → k < b → W w k * (W l b + 1) < W w b * (W l k + 1)
theorem IsNext.zero (w l : List Int) : IsNext w l 0 0 := ⟨.inr rfl, fun k h => by omega, fun k h => by omega⟩
theorem IsNext.keep {w l : List Int} {n b : Nat} (h : IsNext w l n b) (k : ¬ W w b * (W l n + 1) < W w n * (W l b + 1)) : IsNext w l (n + 1) b := by
  refine ⟨by have := h.lt; omega, fun i hi => ?_, fun i hi hb => ?_⟩
  · rcases Nat.lt_or_ge i n with z | z
    · exact h.all i z
    · obtain rfl : i = n := by omega
      omega
  · exact h.first i (by have := h.lt; omega) hb
theorem IsNext.take {w l : List Int} {n b : Nat} (hl : ∀ i, 0 ≤ W l i) (h : IsNext w l n b) (k : W w b * (W l n + 1) < W w n * (W l b + 1)) : IsNext w l (n + 1) n := by
  have key : ∀ i, i < n → W w i * (W l n + 1) < W w n * (W l i + 1) := by
    intro i hi
    have a := h.all i hi
    have l1 := hl i
    have l2 := hl n
    have l3 := hl b
    have a2 : W w i * (W l b + 1) * (W l n + 1) ≤ W w b * (W l i + 1) * (W l n + 1) := Int.mul_le_mul_of_nonneg_right a (by omega)
    have k2 : W w b * (W l n + 1) * (W l i + 1) < W w n * (W l b + 1) * (W l i + 1) := Int.mul_lt_mul_of_pos_right k (by omega)
    have e1 : W w b * (W l i + 1) * (W l n + 1) = W w b * (W l n + 1) * (W l i + 1) := by rw [Int.mul_assoc, Int.mul_assoc, Int.mul_comm (W l i + 1)]
    have e2 : W w i * (W l b + 1) * (W l n + 1) = W w i * (W l n + 1) * (W l b + 1) := by rw [Int.mul_assoc, Int.mul_assoc, Int.mul_comm (W l b + 1)]
    have e3 : W w n * (W l b + 1) * (W l i + 1) = W w n * (W l i + 1) * (W l b + 1) := by rw [Int.mul_assoc, Int.mul_assoc, Int.mul_comm (W l b + 1)]
    exact Int.lt_of_mul_lt_mul_right (show W w i * (W l n + 1) * (W l b + 1) < W w n * (W l i + 1) * (W l b + 1) by omega) (by omega)
  refine ⟨.inl (by omega), fun i hi => ?_, fun i hi hb => key i hb⟩
  rcases Nat.lt_or_ge i n with z | z
  · have := key i z; omega
  · obtain rfl : i = n := by omega
    exact Int.le_refl _
theorem exists_pos : ∀ {w : List Int}, NN w → 0 < w.sum → ∃ k, k < w.length ∧ 0 < W w k
  | [], _, h => by simp at h
  | x :: w, hw, h => by
    have h0 := hw 0
    rw [W_zero] at h0
    rcases Int.lt_or_le 0 x with z | z
    · exact ⟨0, by simp, z⟩
    · rw [List.sum_cons] at h
      obtain ⟨k, h1, h2⟩ := exists_pos (w := w) (fun i => hw (i + 1)) (by omega)
      exact ⟨k + 1, by simpa using h1, h2⟩
theorem IsNext.pos {w l : List Int} {b : Nat} (hw : NN w) (hs : 0 < w.sum) (hl : ∀ i, 0 ≤ W l i) (h : IsNext w l w.length b) : b < w.length ∧ 0 < W w b := by
  obtain ⟨k, h1, h2⟩ := exists_pos hw hs
  have a := h.all k h1
  have l1 := hl b
  have l2 := hl k
  have p : 0 < W w k * (W l b + 1) := Int.mul_pos h2 (by omega)
  refine ⟨by have := h.lt; omega, ?_⟩
  rcases Int.lt_or_le 0 (W w b) with z | z
  · exact z
  · have := hw b
    have e : W w b = 0 := by omega
    rw [e, Int.zero_mul] at a; omega
end Go.Sim

namespace Go.Sim
def pick (p : Nat → Bool) (n : Nat) : List Nat := (List.range n).filter p
structure DueN where
  r : Int
  a : Int
def DNN (D : List DueN) : Prop := ∀ d ∈ D, 0 ≤ d.a
def DIn (D : List DueN) : Prop := ∀ d ∈ D, 0 ≤ d.r ∧ d.r ≤ 9 ∧ 0 ≤ d.a ∧ d.a ≤ 67108864
theorem DIn.nn {D : List DueN} (h : DIn D) : DNN D := fun d hd => (h d hd).2.2.1
end Go.Sim

namespace Go.Sim
open Go Go.RowKit
section
variable {P : Program} {told : ToldF} {draw tie : Bool} {d : Option Tmp} {ty0 : TypeId} {pos : String} {af : Array Edge} {gd : Option (Tmp × Bool)}
theorem flat_icells (L : List Int) : L.flatMap icells = L.map (Value.int .i64) := by
  induction L with
  | nil => rfl
  | cons x L ih => rw [List.flatMap_cons, ih]; rfl
end
end Go.Sim

namespace Go.Sim
open Go Go.RowKit
end Go.Sim

namespace Go.Sim
open Go Go.RowKit
end Go.Sim
