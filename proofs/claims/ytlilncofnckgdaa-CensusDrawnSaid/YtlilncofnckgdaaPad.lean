/- This program: its code, contracts, numbers, part 4. -/
import Derived.Test.YtlilncofnckgdaaPac
import Derived.Test.YtlilncofnckgdaaPaa
import Derived.Test.YtlilncofnckgdaaNc
import Derived.Test.YtlilncofnckgdaaSh
set_option linter.unusedVariables false
set_option linter.unusedSimpArgs false
namespace Go.Proofs
open Go Go.RowKit Go.Sim
set_option maxRecDepth 100000
def Cutt (w : AW) (v : Value) (n : Nat) : Prop := n = 0 ∨ ∃ b o c, v = .slice (some ⟨b, o, none⟩) n c ∧ n ≤ c ∧ b < w.next ∧ ((∃ cs, w.blk b = some (.given cs)) ∨ ∃ cells e r, w.blk b = some (.cells cells e r 0 1))
theorem Cutt.drop {w : AW} {v : Value} {L : List Int} (h : Cutt w v L.length) (hA : ArrOf w 1 icells v L) {a : Nat} (ha : a < L.length) :
    ∃ p c, sliceV w 1 v (some (.int .i64 (a : Int))) none = some (.slice p (L.length - a) c) ∧ ArrOf w 1 icells (.slice p (L.length - a) c) (L.drop a) := by
  rcases h with q | ⟨b, o, c, rfl, hc, hb, hk⟩
  · omega
  obtain ⟨p', n, cap, e, hn, hc', hm, hat⟩ := hA
  injection e with e1 e2 e3
  subst e1 e2 e3
  obtain ⟨b', o', e, hb', hcell⟩ := hat (by omega)
  injection e with e
  injection e with e1 e2
  subst e1 e2
  refine ⟨some ⟨b, o + a * 1, none⟩, c - a, ?_, ⟨_, _, _, rfl, by rw [List.length_map, List.length_drop], by omega, by omega, fun _ => ⟨b, o + a * 1, rfl, hb, fun i j r x hi hx => ?_⟩⟩⟩
  · show sliceV w 1 (.slice (some ⟨b, o, none⟩) L.length c) (some (.int .i64 (Int.ofNat a))) none = _
    have b1 : Nat.ble a L.length = true := Nat.ble_eq_true_of_le (by omega)
    have b2 : Nat.ble L.length c = true := Nat.ble_eq_true_of_le hc
    have b3 : Nat.beq 1 1 = true := rfl
    rcases hk with ⟨cs, hk⟩ | ⟨cells, e, r, hk⟩
    · have b4 : Nat.beq c a = false := Bool.eq_false_iff.2 fun q => by have := Nat.eq_of_beq_eq_true q; omega
      simp only [sliceV, natOr, b1, b2, hk, Bool.and_self, b4, cond_false]
    · simp only [sliceV, natOr, b1, b2, hk, Bool.and_self, b3, Bool.true_or]
  · have hi' : (List.map icells L)[a + i]? = some r := by
      rw [← hi, List.getElem?_map, List.getElem?_map, List.getElem?_drop]
    have := hcell (a + i) j r x hi' hx
    rw [show o + (a + i) * 1 + j = o + a * 1 + i * 1 + j by omega] at this
    exact this
end Go.Proofs

namespace Go.Proofs
open Go Go.RowKit Go.Sim
set_option maxRecDepth 100000
end Go.Proofs

namespace Go.Proofs
open Go Go.RowKit Go.Sim
set_option maxRecDepth 100000
theorem arr1 {w : AW} {b : Nat} {e : TypeId} {x : Int} (h : Own w b e [.int .i64 x]) : ArrOf w 1 icells (.slice (some ⟨b, 0, none⟩) 1 1) [x] := by
  refine ⟨_, _, _, rfl, by simp, Nat.le_refl _, by omega, fun _ => ⟨b, 0, rfl, h.lt, fun i j r y hi hx => ?_⟩⟩
  match i, hi with
  | 0, hi =>
    simp only [List.map_cons, List.map_nil, List.getElem?_cons_zero, Option.some.injEq] at hi
    subst hi
    match j, hx with
    | 0, hx =>
      simp only [icells, List.getElem?_cons_zero, Option.some.injEq] at hx
      subst hx
      exact h.cell (o := 0) rfl rfl
end Go.Proofs

namespace Go.Proofs
open Go Go.RowKit Go.Sim
set_option maxRecDepth 100000
def Srch (L : List Int) (lo hi : Int) : Prop := 0 ≤ lo ∧ lo ≤ hi ∧ hi ≤ 640000 ∧ (lo = 0 ∨ 64 < needL L (lo - 1)) ∧ needL L hi ≤ 64
theorem Srch.done {L : List Int} {lo hi : Int} (h : Srch L lo hi) (he : ¬ lo < hi) : LeastRisk L lo := by
  obtain ⟨a, b, c, d, e⟩ := h
  obtain rfl : lo = hi := by omega
  exact ⟨a, c, e, d⟩
end Go.Proofs

namespace Go.Proofs
open Go Go.RowKit Go.Sim
set_option maxRecDepth 100000
end Go.Proofs

namespace Go.Sim
open Go Go.RowKit
theorem AOwn.weak {B C : Nat} {w : AW} {e : TypeId} {size n : Nat} {v : Value} {cells : List Value} (h : AOwn B w e size v n cells) (k : C ≤ B) : AOwn C w e size v n cells := by
  rcases h with h | ⟨b, r, a1, a2, a3, a4, a5, a6, a7, a9, a8⟩
  · exact .inl h
  · exact .inr ⟨b, r, a1, by omega, a3, by omega, a5, a6, a7, a9, fun j hj => let ⟨x, y⟩ := a8 j hj; ⟨by omega, y⟩⟩
theorem AOwn.cut {B : Nat} {w : AW} {e : TypeId} {size n : Nat} {v : Value} {cells : List Value} (h : AOwn B w e size v n cells) {a : Nat} (ha : a ≤ n) :
    ∃ p q c, ∀ w', Keep w.next w w' → sliceV w' size v none (some (.int .i64 (a : Int))) = some (.slice p a n) ∧ aNew w' size a (.slice p a n) = some (cells.take (a * size)) ∧
      sliceV w' size v (some (.int .i64 (a : Int))) none = some (.slice q (n - a) c) ∧ aNew w' size (n - a) (.slice q (n - a) c) = some (cells.drop (a * size)) := by
  rcases h with ⟨rfl, rfl, rfl⟩ | ⟨b, r, rfl, h1, h2, h3, h4, h5, h6, h7, _⟩
  · obtain rfl : a = 0 := by omega
    exact ⟨none, none, 0, fun w' _ => ⟨rfl, by simp [aNew, aFirst], rfl, by simp [aNew, aFirst]⟩⟩
  · have hle : a * size ≤ n * size := Nat.mul_le_mul_right _ ha
    have b1 : Nat.ble 0 a = true := rfl
    have b2 : Nat.ble a n = true := Nat.ble_eq_true_of_le ha
    have b3 : Nat.ble n n = true := Nat.ble_eq_true_of_le (Nat.le_refl _)
    have b4 : Nat.beq size size = true := Nat.beq_refl _
    refine ⟨some ⟨b, 0 + 0 * size, none⟩, some ⟨b, 0 + a * size, none⟩, n - a, fun w' k => ?_⟩
    have h5 : w'.blk b = some (.cells cells e r 0 size) := by rw [k.blk b h2]; exact h5
    have hc : ∀ (i : Nat) v, cells[i]? = some v → w'.cell? ⟨b, i, none⟩ = some v := fun i v hv => by
      simp only [AW.cell?, h5, getL_eq, hv, h7 v (List.mem_of_getElem? hv)]
    refine ⟨?_, ?_, ?_, ?_⟩
    · show sliceV w' size (.slice (some ⟨b, 0, none⟩) n n) none (some (.int .i64 (Int.ofNat a))) = _
      simp only [sliceV, natOr, b1, b2, h5, b4, Bool.true_or, Bool.and_self, Nat.sub_zero]
    · have ht : (cells.take (a * size)).length = a * size := by rw [List.length_take, h6]; omega
      have := aCells_of (w := w') (b := b) (cells.take (a * size)) (0 + 0 * size) fun i v hv => by
        rw [List.getElem?_take] at hv
        split at hv
        · rw [show 0 + 0 * size + i = i by omega]; exact hc i v hv
        · cases hv
      rw [ht] at this
      simp only [aNew, aFirst, this]
    · show sliceV w' size (.slice (some ⟨b, 0, none⟩) n n) (some (.int .i64 (Int.ofNat a))) none = _
      simp only [sliceV, natOr, b3, b2, h5, b4, Bool.true_or, Bool.and_self]
    · have ht : (cells.drop (a * size)).length = (n - a) * size := by rw [List.length_drop, h6, Nat.sub_mul]
      have := aCells_of (w := w') (b := b) (cells.drop (a * size)) (0 + a * size) fun i v hv => by
        rw [List.getElem?_drop] at hv
        rw [show 0 + a * size + i = a * size + i by omega]; exact hc _ v hv
      rw [ht] at this
      simp only [aNew, aFirst, this]
end Go.Sim

namespace Go.Proofs
open Go Go.RowKit Go.Sim
set_option maxRecDepth 100000
theorem Ring_ok (a b : Int) (hb1 : b ≤ 4611686018427387904) (w : AW) :
    CallT Try.prog Try.T1 (.fn (.func 49) #[]) #[.int .i64 a, .int .i64 b] w (Ret (.int .i64 (if b ≤ 0 then 0 else a % b)) fun w' => w = w') := by
  refine callT_code rfl Try.func49 rfl Try.s49_eq rfl ?_
  unfold Try.s49
  by_cases hb : b ≤ 0
  · rw [if_pos hb]
    simp -dsimp -implicitDefEqProofs (maxSteps := 2000000) (disch := first | assumption | omega | (simp only [nx]; omega) | ((repeat refine Fresh.push ?_ _); assumption) | (simp only [smA]; done) | (simp [oneCell, AW.next_push]; done) | fail) only [go_sem, Nat.reduceEqDiff, reduceIte, Nat.reduceAdd, Int.toNat_natCast, Nat.add_zero, Owes_true, Try.results49, hb]
    exact ⟨rfl, rfl⟩
  · rw [if_neg hb]
    have h0 : ¬ b = 0 := by omega
    have h1 := Int.tmod_lt_of_pos a (b := b) (by omega)
    have h2 : -b < a.tmod b := by
      have := Int.lt_tmod_of_pos a (b := b) (by omega)
      omega
    have h3 : (a.tmod b + b).tmod b = a % b := by
      rw [Int.tmod_eq_emod_of_nonneg (by omega), Int.add_emod_right]
      have := Int.mul_tdiv_add_tmod a b
      conv => rhs; rw [← this]
      rw [Int.add_comm, Int.add_mul_emod_self_left]
    simp -dsimp -implicitDefEqProofs (maxSteps := 2000000) (disch := first | assumption | omega | (simp only [nx]; omega) | ((repeat refine Fresh.push ?_ _); assumption) | (simp only [smA]; done) | (simp [oneCell, AW.next_push]; done) | fail) only [go_sem, Nat.reduceEqDiff, reduceIte, Nat.reduceAdd, Int.toNat_natCast, Nat.add_zero, Owes_true, Try.results49, hb, h0, h3]
    exact ⟨rfl, rfl⟩
theorem RowA.from {B : Nat} {w : AW} {v : Value} {L : List Int} {a : Nat} (h : RowA B w v L) (h1 : 1 ≤ L.length) (ha : a ≤ L.length) (hl : L.length ≤ 1048576) : ∃ b, v = .slice (some ⟨b, 0, none⟩) L.length L.length ∧ sliceV w 1 v (some (.int .i64 (a : Int))) none = some (.slice (some ⟨b, a, none⟩) (L.length - a) (L.length - a)) ∧ ArrOf w 1 icells (.slice (some ⟨b, a, none⟩) (L.length - a) (L.length - a)) (L.drop a) := by
  have hA := h.arr hl
  rcases h with ⟨_, h, _⟩ | ⟨b, r, rfl, _, hb, _, _, hk, _⟩
  · omega
  refine ⟨b, rfl, ?_, ?_⟩
  · have b1 : Nat.ble a L.length = true := Nat.ble_eq_true_of_le ha
    have b2 : Nat.ble L.length L.length = true := Nat.ble_eq_true_of_le (Nat.le_refl _)
    show sliceV w 1 (.slice (some ⟨b, 0, none⟩) L.length L.length) (some (.int .i64 (Int.ofNat a))) none = _
    have b3 : Nat.beq 1 1 = true := rfl
    simp only [sliceV, natOr, b1, b2, hk, Bool.and_self, b3, Bool.true_or, Nat.mul_one, Nat.zero_add]
  · obtain ⟨p', n, cap, e, hn, hc', hm, hat⟩ := hA
    injection e with e1 e2 e3
    subst e1 e2 e3
    obtain ⟨b', o', e, hb', hcell⟩ := hat (by omega)
    injection e with e
    injection e with e1 e2
    subst e1 e2
    refine ⟨_, _, _, rfl, by rw [List.length_map, List.length_drop], Nat.le_refl _, by omega, fun _ => ⟨b, a, rfl, hb, fun i j r x hi hx => ?_⟩⟩
    have hi' : (List.map icells L)[a + i]? = some r := by
      rw [← hi, List.getElem?_map, List.getElem?_map, List.getElem?_drop]
    have := hcell (a + i) j r x hi' hx
    rw [show 0 + (a + i) * 1 + j = a + i * 1 + j by omega] at this
    exact this
end Go.Proofs

namespace Go.Proofs
open Go Go.RowKit Go.Sim
set_option maxRecDepth 100000
end Go.Proofs

namespace Go.Proofs
open Go Go.RowKit Go.Sim
set_option maxRecDepth 100000
end Go.Proofs
