/- Sums shared out by the greatest quotient, and spread over dues: the numbers. Rows that are filled in place. -/
import Derived.Test.YtlilncofnckgdaaNc
set_option linter.unusedVariables false
set_option linter.unusedSimpArgs false
namespace Go.Sim
def W (l : List Int) (i : Nat) : Int := l.getD i 0
theorem W_zero (x : Int) (l : List Int) : W (x :: l) 0 = x := rfl
def NN (w : List Int) : Prop := ∀ i, 0 ≤ W w i
structure IsNext (w l : List Int) (n b : Nat) : Prop where
  lt : b < n ∨ b = 0
  all : ∀ k, k < n → W w k * (W l b + 1) ≤ W w b * (W l k + 1)
  first : ∀ k, k < n → k < b → W w k * (W l b + 1) < W w b * (W l k + 1)
theorem IsNext.zero (w l : List Int) : IsNext w l 0 0 := ⟨.inr rfl, fun k h => by omega, fun k h => by omega⟩
theorem IsNext.keep {w l : List Int} {n b : Nat} (h : IsNext w l n b) (k : ¬ W w b * (W l n + 1) < W w n * (W l b + 1)) : IsNext w l (n + 1) b := by
  refine ⟨by have := h.lt; omega, fun i hi => ?_, fun i hi hb => ?_⟩
  · rcases Nat.lt_or_ge i n with z | z
    · exact h.all i z
    · obtain rfl : i = n := by omega
      omega
  · exact h.first i (by have := h.lt; omega) hb
theorem IsNext.take {w l : List Int} {n b : Nat} (hl : ∀ i, 0 ≤ W l i) (h : IsNext w l n b) (k : W w b * (W l n + 1) < W w n * (W l b + 1)) : IsNext w l (n + 1) n := by
  have key : ∀ i, i < n → W w i * (W l n + 1) < W w n * (W l i + 1) := by
    intro i hi
    have a := h.all i hi
    have l1 := hl i
    have l2 := hl n
    have l3 := hl b
    have a2 : W w i * (W l b + 1) * (W l n + 1) ≤ W w b * (W l i + 1) * (W l n + 1) := Int.mul_le_mul_of_nonneg_right a (by omega)
    have k2 : W w b * (W l n + 1) * (W l i + 1) < W w n * (W l b + 1) * (W l i + 1) := Int.mul_lt_mul_of_pos_right k (by omega)
    have e1 : W w b * (W l i + 1) * (W l n + 1) = W w b * (W l n + 1) * (W l i + 1) := by rw [Int.mul_assoc, Int.mul_assoc, Int.mul_comm (W l i + 1)]
    have e2 : W w i * (W l b + 1) * (W l n + 1) = W w i * (W l n + 1) * (W l b + 1) := by rw [Int.mul_assoc, Int.mul_assoc, Int.mul_comm (W l b + 1)]
    have e3 : W w n * (W l b + 1) * (W l i + 1) = W w n * (W l i + 1) * (W l b + 1) := by rw [Int.mul_assoc, Int.mul_assoc, Int.mul_comm (W l b + 1)]
    exact Int.lt_of_mul_lt_mul_right (show W w i * (W l n + 1) * (W l b + 1) < W w n * (W l i + 1) * (W l b + 1) by omega) (by omega)
  refine ⟨.inl (by omega), fun i hi => ?_, fun i hi hb => key i hb⟩
  rcases Nat.lt_or_ge i n with z | z
  · have := key i z; omega
  · obtain rfl : i = n := by omega
    exact Int.le_refl _
theorem exists_pos : ∀ {w : List Int}, NN w → 0 < w.sum → ∃ k, k < w.length ∧ 0 < W w k
  | [], _, h => by simp at h
  | x :: w, hw, h => by
    have h0 := hw 0
    rw [W_zero] at h0
    rcases Int.lt_or_le 0 x with z | z
    · exact ⟨0, by simp, z⟩
    · rw [List.sum_cons] at h
      obtain ⟨k, h1, h2⟩ := exists_pos (w := w) (fun i => hw (i + 1)) (by omega)
      exact ⟨k + 1, by simpa using h1, h2⟩
theorem IsNext.pos {w l : List Int} {b : Nat} (hw : NN w) (hs : 0 < w.sum) (hl : ∀ i, 0 ≤ W l i) (h : IsNext w l w.length b) : b < w.length ∧ 0 < W w b := by
  obtain ⟨k, h1, h2⟩ := exists_pos hw hs
  have a := h.all k h1
  have l1 := hl b
  have l2 := hl k
  have p : 0 < W w k * (W l b + 1) := Int.mul_pos h2 (by omega)
  refine ⟨by have := h.lt; omega, ?_⟩
  rcases Int.lt_or_le 0 (W w b) with z | z
  · exact z
  · have := hw b
    have e : W w b = 0 := by omega
    rw [e, Int.zero_mul] at a; omega
end Go.Sim

namespace Go.Sim
def pick (p : Nat → Bool) (n : Nat) : List Nat := (List.range n).filter p
end Go.Sim

namespace Go.Sim
open Go Go.RowKit
section
variable {P : Program} {told : ToldF} {draw tie : Bool} {d : Option Tmp} {ty0 : TypeId} {pos : String} {af : Array Edge} {gd : Option (Tmp × Bool)}
end
end Go.Sim

namespace Go.Sim
open Go Go.RowKit
theorem strike_same {me cls j i : Nat} {w : AW} {c : List Value} {e r z : Nat} (h : w.blk i = some (.cells c e r 0 z)) : ∃ c', (strike me cls w j).blk i = some (.cells c' e r 0 z) ∧ c'.length = c.length ∧ (i = me → c' = c) := by
  by_cases hij : i = j
  · subst hij
    unfold strike
    cases hb : Nat.beq i me with
    | true => exact ⟨c, h, rfl, fun _ => rfl⟩
    | false =>
      have hne : i ≠ me := fun q => by rw [q, Nat.beq_refl] at hb; cases hb
      simp only [h]
      split
      · split
        · exact ⟨_, by rw [AW.blk_put _ _ _ _ (Trie.in_ _) (Trie.in_ _), if_pos rfl], by rw [setL_eq, List.length_set], fun q => absurd q hne⟩
        · exact ⟨c, h, rfl, fun _ => rfl⟩
      · exact ⟨c, h, rfl, fun _ => rfl⟩
  · rw [strike_other hij]; exact ⟨c, h, rfl, fun _ => rfl⟩
theorem strikes_same {me cls i e r z : Nat} : ∀ (l : List Nat) {w : AW} {c : List Value}, w.blk i = some (.cells c e r 0 z) → ∃ c', (strikes me cls l w).blk i = some (.cells c' e r 0 z) ∧ c'.length = c.length ∧ (i = me → c' = c)
  | [], w, c, h => ⟨c, h, rfl, fun _ => rfl⟩
  | j :: l, w, c, h => by
    obtain ⟨c1, h1, h2, h3⟩ := strike_same (me := me) (cls := cls) (j := j) h
    obtain ⟨c2, k1, k2, k3⟩ := strikes_same (me := me) (cls := cls) l h1
    exact ⟨c2, k1, by omega, fun q => by rw [k3 q, h3 q]⟩
structure Stored (B : Nat) (w w' : AW) : Prop where
  keep : Keep B w w'
  fresh : Fresh w'
  next : w'.next = w.next
  own : ∀ c e l, Own w c e l → Own w' c e l
theorem aown_store {B : Nat} {w : AW} {e : TypeId} {n : Nat} {v : Value} {cells : List Value} (h : AOwn B w e 1 v n cells) (f : Fresh w) {o : Nat} (ho : o < cells.length) {x : Value} (hx : oneCell x = true) :
    ∃ b, v = .slice (some ⟨b, 0, none⟩) n n ∧ (∀ (i : Nat) y, cells[i]? = some y → w.cell? ⟨b, i, none⟩ = some y) ∧ ∃ w', storeV w false 1 (.pointer (some ⟨b, o, none⟩)) x = some w' ∧ AOwn B w' e 1 v n (setL cells o x) ∧ Stored B w w' := by
  rcases h with ⟨_, _, rfl⟩ | ⟨b, r, rfl, a2, a3, a4, a5, a6, a7, a9, a8⟩
  · simp at ho
  have hgo : getL cells o = some cells[o] := by rw [getL_eq]; simp [ho]
  have hcond : (oneCell x && Nat.beq 1 1) = true := by rw [hx]; rfl
  refine ⟨b, rfl, fun i y hy => by simp only [AW.cell?, a6, getL_eq, hy, a9 y (List.mem_of_getElem? hy)], strikes b (0 + o) (w.family r) (w.put b (.cells (setL cells o x) e r 0 1)), ?_, ?_, ?_⟩
  · have hst : w.store ⟨b, o, none⟩ x = some (strikes b (0 + o) (w.family r) (w.put b (.cells (setL cells o x) e r 0 1))) := by simp only [AW.store, hx, a6, hgo]
    simp only [storeV, hcond]
    exact hst
  all_goals
    obtain ⟨s1, _, _, s4, s5⟩ := strikes_all b (0 + o) (w.family r) (w.put b (.cells (setL cells o x) e r 0 1))
    have hput : ∀ j, (w.put b (.cells (setL cells o x) e r 0 1)).blk j = if j = b then some (.cells (setL cells o x) e r 0 1) else w.blk j := fun j => AW.blk_put _ _ _ _ (Trie.in_ _) (Trie.in_ _)
    have hsm : ∀ i c e' r' z', (w.put b (.cells (setL cells o x) e r 0 1)).blk i = some (.cells c e' r' 0 z') → ∃ c', (strikes b (0 + o) (w.family r) (w.put b (.cells (setL cells o x) e r 0 1))).blk i = some (.cells c' e' r' 0 z') ∧ c'.length = c.length ∧ (i = b → c' = c) := fun i c e' r' z' hq => strikes_same (me := b) (cls := 0 + o) (w.family r) hq
    have hfm : ∀ j, (strikes b (0 + o) (w.family r) (w.put b (.cells (setL cells o x) e r 0 1))).family j = w.family j := fun j => by rw [s4, AW.family_put]
    have hnx : (strikes b (0 + o) (w.family r) (w.put b (.cells (setL cells o x) e r 0 1))).next = w.next := by rw [s5, AW.next_put]
    have hmem : ∀ j, ¬ j ∈ w.family r → j ≠ b → (strikes b (0 + o) (w.family r) (w.put b (.cells (setL cells o x) e r 0 1))).blk j = w.blk j := fun j h1 h2 => by rw [s1 j h1, hput, if_neg h2]
    have hfr : ∀ j ∈ w.family r, j ∈ members (w.family r) r := fun j hj => by
      cases q : w.family r with
      | nil => rw [q] at hj; cases hj
      | cons y ys => rw [q] at hj; exact hj
    generalize strikes b (0 + o) (w.family r) (w.put b (.cells (setL cells o x) e r 0 1)) = u at *
  · obtain ⟨c1, h1, h2, h3⟩ := hsm b _ e r 1 (by rw [hput, if_pos rfl])
    obtain rfl := h3 rfl
    refine .inr ⟨b, r, rfl, a2, by omega, a4, by omega, h1, by rw [h2, setL_eq, List.length_set]; exact a7, fun y hy => ?_, fun j hj => ?_⟩
    · rw [setL_eq] at hy
      rcases List.mem_or_eq_of_mem_set hy with q | q
      · exact a9 y q
      · rw [q]; exact hx
    · rw [hfm] at hj
      obtain ⟨q1, q2, c, e', q3, q4⟩ := a8 j hj
      by_cases hjb : j = b
      · subst hjb
        exact ⟨q1, by omega, _, _, h1, by rw [h2, setL_eq, List.length_set]; omega⟩
      · obtain ⟨c2, k1, k2, _⟩ := hsm j c e' r 1 (by rw [hput, if_neg hjb]; exact q3)
        exact ⟨q1, by omega, c2, e', k1, by omega⟩
  · refine ⟨⟨fun i hi => ?_, fun i _ => hfm i, by omega⟩, ⟨fun i hi => ?_, fun i hi => ?_⟩, hnx, fun c e' l hO => ?_⟩
    · exact hmem i (fun q => by have := (a8 i (hfr i q)).1; omega) (by omega)
    · rw [hnx] at hi
      rw [hmem i (fun q => by have := (a8 i (hfr i q)).2.1; omega) (by omega)]; exact f.1 i hi
    · rw [hnx] at hi
      rw [hfm]; exact f.2 i hi
    · have hcb : c ≠ b := by
        rintro rfl
        have := hO.blk
        rw [a6] at this
        injection this with this
        injection this with _ _ _ _ z
        omega
      have hcf : ¬ c ∈ w.family r := fun q => by
        obtain ⟨_, _, c1, e1, q3, _⟩ := a8 c (hfr c q)
        rw [hO.blk] at q3
        injection q3 with q3
        injection q3 with _ _ _ _ z
        omega
      exact ⟨by rw [hmem c hcf hcb]; exact hO.blk, by rw [hfm]; exact hO.fam, by have := hO.lt; omega⟩
end Go.Sim

namespace Go.Sim
open Go Go.RowKit
end Go.Sim
