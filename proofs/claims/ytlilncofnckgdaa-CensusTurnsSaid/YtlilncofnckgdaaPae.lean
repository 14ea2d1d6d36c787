/- This program: its code, contracts, numbers, part 5. -/
import Derived.Test.YtlilncofnckgdaaPad
import Derived.Test.YtlilncofnckgdaaSh
import Derived.Test.YtlilncofnckgdaaNc
import Derived.Test.YtlilncofnckgdaaPac
import Derived.Test.YtlilncofnckgdaaPab
import Derived.Test.YtlilncofnckgdaaNa
set_option linter.unusedVariables false
set_option linter.unusedSimpArgs false
namespace Go.Proofs
open Go Go.RowKit Go.Sim
set_option maxRecDepth 100000
end Go.Proofs

namespace Go.Proofs
open Go Go.RowKit Go.Sim
set_option maxRecDepth 100000
def Srch (L : List Int) (lo hi : Int) : Prop := 0 ≤ lo ∧ lo ≤ hi ∧ hi ≤ 640000 ∧ (lo = 0 ∨ 64 < needL L (lo - 1)) ∧ needL L hi ≤ 64
theorem Srch.done {L : List Int} {lo hi : Int} (h : Srch L lo hi) (he : ¬ lo < hi) : LeastRisk L lo := by
  obtain ⟨a, b, c, d, e⟩ := h
  obtain rfl : lo = hi := by omega
  exact ⟨a, c, e, d⟩
end Go.Proofs

namespace Go.Proofs
open Go Go.RowKit Go.Sim
set_option maxRecDepth 100000
end Go.Proofs

namespace Go.Sim
open Go Go.RowKit
theorem AOwn.weak {B C : Nat} {w : AW} {e : TypeId} {size n : Nat} {v : Value} {cells : List Value} (h : AOwn B w e size v n cells) (k : C ≤ B) : AOwn C w e size v n cells := by
  rcases h with h | ⟨b, r, a1, a2, a3, a4, a5, a6, a7, a9, a8⟩
  · exact .inl h
  · exact .inr ⟨b, r, a1, by omega, a3, by omega, a5, a6, a7, a9, fun j hj => let ⟨x, y⟩ := a8 j hj; ⟨by omega, y⟩⟩
theorem AOwn.cut {B : Nat} {w : AW} {e : TypeId} {size n : Nat} {v : Value} {cells : List Value} (h : AOwn B w e size v n cells) {a : Nat} (ha : a ≤ n) :
    ∃ p q c, ∀ w', Keep w.next w w' → sliceV w' size v none (some (.int .i64 (a : Int))) = some (.slice p a n) ∧ aNew w' size a (.slice p a n) = some (cells.take (a * size)) ∧
      sliceV w' size v (some (.int .i64 (a : Int))) none = some (.slice q (n - a) c) ∧ aNew w' size (n - a) (.slice q (n - a) c) = some (cells.drop (a * size)) := by
  rcases h with ⟨rfl, rfl, rfl⟩ | ⟨b, r, rfl, h1, h2, h3, h4, h5, h6, h7, _⟩
  · obtain rfl : a = 0 := by omega
    exact ⟨none, none, 0, fun w' _ => ⟨rfl, by simp [aNew, aFirst], rfl, by simp [aNew, aFirst]⟩⟩
  · have hle : a * size ≤ n * size := Nat.mul_le_mul_right _ ha
    have b1 : Nat.ble 0 a = true := rfl
    have b2 : Nat.ble a n = true := Nat.ble_eq_true_of_le ha
    have b3 : Nat.ble n n = true := Nat.ble_eq_true_of_le (Nat.le_refl _)
    have b4 : Nat.beq size size = true := Nat.beq_refl _
    refine ⟨some ⟨b, 0 + 0 * size, none⟩, some ⟨b, 0 + a * size, none⟩, n - a, fun w' k => ?_⟩
    have h5 : w'.blk b = some (.cells cells e r 0 size) := by rw [k.blk b h2]; exact h5
    have hc : ∀ (i : Nat) v, cells[i]? = some v → w'.cell? ⟨b, i, none⟩ = some v := fun i v hv => by
      simp only [AW.cell?, h5, getL_eq, hv, h7 v (List.mem_of_getElem? hv)]
    refine ⟨?_, ?_, ?_, ?_⟩
    · show sliceV w' size (.slice (some ⟨b, 0, none⟩) n n) none (some (.int .i64 (Int.ofNat a))) = _
      simp only [sliceV, natOr, b1, b2, h5, b4, Bool.true_or, Bool.and_self, Nat.sub_zero]
    · have ht : (cells.take (a * size)).length = a * size := by rw [List.length_take, h6]; omega
      have := aCells_of (w := w') (b := b) (cells.take (a * size)) (0 + 0 * size) fun i v hv => by
        rw [List.getElem?_take] at hv
        split at hv
        · rw [show 0 + 0 * size + i = i by omega]; exact hc i v hv
        · cases hv
      rw [ht] at this
      simp only [aNew, aFirst, this]
    · show sliceV w' size (.slice (some ⟨b, 0, none⟩) n n) (some (.int .i64 (Int.ofNat a))) none = _
      simp only [sliceV, natOr, b3, b2, h5, b4, Bool.true_or, Bool.and_self]
    · have ht : (cells.drop (a * size)).length = (n - a) * size := by rw [List.length_drop, h6, Nat.sub_mul]
      have := aCells_of (w := w') (b := b) (cells.drop (a * size)) (0 + a * size) fun i v hv => by
        rw [List.getElem?_drop] at hv
        rw [show 0 + a * size + i = a * size + i by omega]; exact hc _ v hv
      rw [ht] at this
      simp only [aNew, aFirst, this]
end Go.Sim

namespace Go.Proofs
open Go Go.RowKit Go.Sim
set_option maxRecDepth 100000
theorem take_eq {L M : List Int} {i : Nat} (h : L.take i = M.take i) (a : i < L.length) (b : i < M.length) : (L.take (i + 1) = M.take (i + 1)) ↔ L[i] = M[i] := by
  rw [List.take_succ_eq_append_getElem a, List.take_succ_eq_append_getElem b, h]
  exact ⟨fun e => by have := List.append_cancel_left e; injection this, fun e => by rw [e]⟩
set_option maxHeartbeats 4000000 in
theorem Same_ok (L M : List Int) (u v : Value) (w : AW) (hL : ArrOf w 1 icells u L) (hM : ArrOf w 1 icells v M) :
    CallT Try.prog Try.T1 (.fn (.func 22) #[]) #[u, v] w (Ret (.bool (decide (L = M))) fun w' => w = w') := by
  obtain ⟨p, cap, rfl, _, _, hatC⟩ := id hL.open
  obtain ⟨q, cq, rfl, _, _, hatH⟩ := id hM.open
  refine callT_code rfl Try.func22 rfl Try.s22_eq rfl ?_
  unfold Try.s22
  by_cases hl : (L.length : Int) = (M.length : Int)
  case neg =>
    have hd : decide ((L.length : Int) = (M.length : Int)) = false := decide_eq_false hl
    have hE : decide (L = M) = false := decide_eq_false fun e => hl (by rw [e])
    simp -dsimp -implicitDefEqProofs (maxSteps := 2000000) (disch := first | assumption | omega | (simp only [nx]; omega) | ((repeat refine Fresh.push ?_ _); assumption) | (simp only [smA]; done) | (simp [oneCell, AW.next_push]; done) | fail) only [go_sem, Nat.reduceEqDiff, reduceIte, Nat.reduceAdd, Int.toNat_natCast, Nat.add_zero, Owes_true, Try.results22, hd]
    refine loopR (fun k t ds w1 => ∃ i : Nat, i ≤ 0 ∧ k = 0 - i ∧ ds = [] ∧ ev t (.tmp 5) = .bool false ∧ w = w1) (0) ?_ ?_
    · refine ⟨0, by omega, by omega, rfl, ?_, rfl⟩ <;> simp -dsimp -implicitDefEqProofs (maxSteps := 2000000) (disch := first | assumption | omega | (simp only [nx]; omega) | ((repeat refine Fresh.push ?_ _); assumption) | (simp only [smA]; done) | (simp [oneCell, AW.next_push]; done) | fail) only [go_sem, Nat.reduceEqDiff, reduceIte, Nat.reduceAdd, Int.toNat_natCast, Nat.add_zero, Owes_true] <;> rfl
    rintro k t ds w1 ⟨i, hii, rfl, rfl, e5, hw⟩
    subst hw
    simp -dsimp -implicitDefEqProofs (maxSteps := 2000000) (disch := first | assumption | omega | (simp only [nx]; omega) | ((repeat refine Fresh.push ?_ _); assumption) | (simp only [smA]; done) | (simp [oneCell, AW.next_push]; done) | fail) only [go_sem, Nat.reduceEqDiff, reduceIte, Nat.reduceAdd, Int.toNat_natCast, Nat.add_zero, Owes_true, Try.results22, e5]
    exact ⟨by rw [hE], rfl⟩
  have hd : decide ((L.length : Int) = (M.length : Int)) = true := decide_eq_true hl
  simp -dsimp -implicitDefEqProofs (maxSteps := 2000000) (disch := first | assumption | omega | (simp only [nx]; omega) | ((repeat refine Fresh.push ?_ _); assumption) | (simp only [smA]; done) | (simp [oneCell, AW.next_push]; done) | fail) only [go_sem, Nat.reduceEqDiff, reduceIte, Nat.reduceAdd, Int.toNat_natCast, Nat.add_zero, Owes_true, Try.results22, hd]
  refine loopR (fun k t ds w1 => ∃ i : Nat, i ≤ L.length ∧ k = L.length - i ∧ ds = [] ∧ ev t (.tmp 0) = .slice p L.length cap ∧ ev t (.tmp 1) = .slice q M.length cq ∧ ev t (.tmp 6) = .int .i64 (i : Int) ∧ w = w1 ∧ ∃ B, ev t (.tmp 5) = .bool B ∧ (B = true → L.take i = M.take i) ∧ (B = false → L ≠ M)) (L.length) ?_ ?_
  · refine ⟨0, by omega, by omega, rfl, ?_, ?_, ?_, rfl, ⟨true, (by simp -dsimp -implicitDefEqProofs (maxSteps := 2000000) (disch := first | assumption | omega | (simp only [nx]; omega) | ((repeat refine Fresh.push ?_ _); assumption) | (simp only [smA]; done) | (simp [oneCell, AW.next_push]; done) | fail) only [go_sem, Nat.reduceEqDiff, reduceIte, Nat.reduceAdd, Int.toNat_natCast, Nat.add_zero, Owes_true]; try rfl), (fun _ => rfl), fun h => by cases h⟩⟩ <;> simp -dsimp -implicitDefEqProofs (maxSteps := 2000000) (disch := first | assumption | omega | (simp only [nx]; omega) | ((repeat refine Fresh.push ?_ _); assumption) | (simp only [smA]; done) | (simp [oneCell, AW.next_push]; done) | fail) only [go_sem, Nat.reduceEqDiff, reduceIte, Nat.reduceAdd, Int.toNat_natCast, Nat.add_zero, Owes_true] <;> rfl
  rintro k t ds w1 ⟨i, hii, rfl, rfl, e0, e1, e6, hw, hB⟩
  subst hw
  obtain ⟨B, e5, hB1, hB2⟩ := hB
  cases B with
  | false =>
    simp -dsimp -implicitDefEqProofs (maxSteps := 2000000) (disch := first | assumption | omega | (simp only [nx]; omega) | ((repeat refine Fresh.push ?_ _); assumption) | (simp only [smA]; done) | (simp [oneCell, AW.next_push]; done) | fail) only [go_sem, Nat.reduceEqDiff, reduceIte, Nat.reduceAdd, Int.toNat_natCast, Nat.add_zero, Owes_true, Try.results22, e5]
    exact ⟨by rw [decide_eq_false (hB2 rfl)], rfl⟩
  | true =>
  have ha := hB1 rfl
  by_cases hlt : (i : Int) < (L.length : Int)
  case neg =>
    obtain rfl : i = L.length := by omega
    have hE : L = M := by rw [List.take_of_length_le (Nat.le_refl _), List.take_of_length_le (by omega)] at ha; exact ha
    simp -dsimp -implicitDefEqProofs (maxSteps := 2000000) (disch := first | assumption | omega | (simp only [nx]; omega) | ((repeat refine Fresh.push ?_ _); assumption) | (simp only [smA]; done) | (simp [oneCell, AW.next_push]; done) | fail) only [go_sem, Nat.reduceEqDiff, reduceIte, Nat.reduceAdd, Int.toNat_natCast, Nat.add_zero, Owes_true, Try.results22, e0, e1, e5, e6, hlt]
    exact ⟨by rw [decide_eq_true hE], rfl⟩
  have hlt' : i < L.length := by omega
  have hltM : i < M.length := by omega
  have hltM' : (i : Int) < (M.length : Int) := by omega
  have hte := take_eq ha hlt' hltM
  obtain ⟨b1, o1, rfl, hb1, hc1⟩ := hatC i hlt'
  obtain ⟨b2, o2, rfl, hb2, hc2⟩ := hatH i hltM
  have aC := hc1 _ (Keep.refl _ _) 0 _ rfl
  have aH := hc2 _ (Keep.refl _ _) 0 _ rfl
  simp only [Nat.add_zero] at aC aH
  by_cases hq : L[i] = M[i]
  · have hqd : decide (L[i] = M[i]) = true := decide_eq_true hq
    simp -dsimp -implicitDefEqProofs (maxSteps := 2000000) (disch := first | assumption | omega | (simp only [nx]; omega) | ((repeat refine Fresh.push ?_ _); assumption) | (simp only [smA]; done) | (simp [oneCell, AW.next_push]; done) | fail) only [go_sem, Nat.reduceEqDiff, reduceIte, Nat.reduceAdd, Int.toNat_natCast, Nat.add_zero, Owes_true, Try.results22, e0, e1, e5, e6, hlt, hltM', indexV_eq, aC, aH, hqd]
    refine ⟨_, by omega, i + 1, by omega, rfl, rfl, by (simp -dsimp -implicitDefEqProofs (maxSteps := 2000000) (disch := first | assumption | omega | (simp only [nx]; omega) | ((repeat refine Fresh.push ?_ _); assumption) | (simp only [smA]; done) | (simp [oneCell, AW.next_push]; done) | fail) only [go_sem, Nat.reduceEqDiff, reduceIte, Nat.reduceAdd, Int.toNat_natCast, Nat.add_zero, Owes_true, e0]; try rfl), by (simp -dsimp -implicitDefEqProofs (maxSteps := 2000000) (disch := first | assumption | omega | (simp only [nx]; omega) | ((repeat refine Fresh.push ?_ _); assumption) | (simp only [smA]; done) | (simp [oneCell, AW.next_push]; done) | fail) only [go_sem, Nat.reduceEqDiff, reduceIte, Nat.reduceAdd, Int.toNat_natCast, Nat.add_zero, Owes_true, e1]; try rfl), by (simp -dsimp -implicitDefEqProofs (maxSteps := 2000000) (disch := first | assumption | omega | (simp only [nx]; omega) | ((repeat refine Fresh.push ?_ _); assumption) | (simp only [smA]; done) | (simp [oneCell, AW.next_push]; done) | fail) only [go_sem, Nat.reduceEqDiff, reduceIte, Nat.reduceAdd, Int.toNat_natCast, Nat.add_zero, Owes_true, e6]; try rfl), rfl, ⟨true, (by simp -dsimp -implicitDefEqProofs (maxSteps := 2000000) (disch := first | assumption | omega | (simp only [nx]; omega) | ((repeat refine Fresh.push ?_ _); assumption) | (simp only [smA]; done) | (simp [oneCell, AW.next_push]; done) | fail) only [go_sem, Nat.reduceEqDiff, reduceIte, Nat.reduceAdd, Int.toNat_natCast, Nat.add_zero, Owes_true]; try rfl), (fun _ => hte.2 hq), fun h => by cases h⟩⟩
  · have hqd : decide (L[i] = M[i]) = false := decide_eq_false hq
    simp -dsimp -implicitDefEqProofs (maxSteps := 2000000) (disch := first | assumption | omega | (simp only [nx]; omega) | ((repeat refine Fresh.push ?_ _); assumption) | (simp only [smA]; done) | (simp [oneCell, AW.next_push]; done) | fail) only [go_sem, Nat.reduceEqDiff, reduceIte, Nat.reduceAdd, Int.toNat_natCast, Nat.add_zero, Owes_true, Try.results22, e0, e1, e5, e6, hlt, hltM', indexV_eq, aC, aH, hqd]
    refine ⟨_, by omega, i + 1, by omega, rfl, rfl, by (simp -dsimp -implicitDefEqProofs (maxSteps := 2000000) (disch := first | assumption | omega | (simp only [nx]; omega) | ((repeat refine Fresh.push ?_ _); assumption) | (simp only [smA]; done) | (simp [oneCell, AW.next_push]; done) | fail) only [go_sem, Nat.reduceEqDiff, reduceIte, Nat.reduceAdd, Int.toNat_natCast, Nat.add_zero, Owes_true, e0]; try rfl), by (simp -dsimp -implicitDefEqProofs (maxSteps := 2000000) (disch := first | assumption | omega | (simp only [nx]; omega) | ((repeat refine Fresh.push ?_ _); assumption) | (simp only [smA]; done) | (simp [oneCell, AW.next_push]; done) | fail) only [go_sem, Nat.reduceEqDiff, reduceIte, Nat.reduceAdd, Int.toNat_natCast, Nat.add_zero, Owes_true, e1]; try rfl), by (simp -dsimp -implicitDefEqProofs (maxSteps := 2000000) (disch := first | assumption | omega | (simp only [nx]; omega) | ((repeat refine Fresh.push ?_ _); assumption) | (simp only [smA]; done) | (simp [oneCell, AW.next_push]; done) | fail) only [go_sem, Nat.reduceEqDiff, reduceIte, Nat.reduceAdd, Int.toNat_natCast, Nat.add_zero, Owes_true, e6]; try rfl), rfl, ⟨false, (by simp -dsimp -implicitDefEqProofs (maxSteps := 2000000) (disch := first | assumption | omega | (simp only [nx]; omega) | ((repeat refine Fresh.push ?_ _); assumption) | (simp only [smA]; done) | (simp [oneCell, AW.next_push]; done) | fail) only [go_sem, Nat.reduceEqDiff, reduceIte, Nat.reduceAdd, Int.toNat_natCast, Nat.add_zero, Owes_true]; try rfl), (fun h => by cases h), fun _ e => hq (hte.1 (by rw [e]))⟩⟩
theorem RowA.from {B : Nat} {w : AW} {v : Value} {L : List Int} {a : Nat} (h : RowA B w v L) (h1 : 1 ≤ L.length) (ha : a ≤ L.length) (hl : L.length ≤ 1048576) : ∃ b, v = .slice (some ⟨b, 0, none⟩) L.length L.length ∧ sliceV w 1 v (some (.int .i64 (a : Int))) none = some (.slice (some ⟨b, a, none⟩) (L.length - a) (L.length - a)) ∧ ArrOf w 1 icells (.slice (some ⟨b, a, none⟩) (L.length - a) (L.length - a)) (L.drop a) := by
  have hA := h.arr hl
  rcases h with ⟨_, h, _⟩ | ⟨b, r, rfl, _, hb, _, _, hk, _⟩
  · omega
  refine ⟨b, rfl, ?_, ?_⟩
  · have b1 : Nat.ble a L.length = true := Nat.ble_eq_true_of_le ha
    have b2 : Nat.ble L.length L.length = true := Nat.ble_eq_true_of_le (Nat.le_refl _)
    show sliceV w 1 (.slice (some ⟨b, 0, none⟩) L.length L.length) (some (.int .i64 (Int.ofNat a))) none = _
    have b3 : Nat.beq 1 1 = true := rfl
    simp only [sliceV, natOr, b1, b2, hk, Bool.and_self, b3, Bool.true_or, Nat.mul_one, Nat.zero_add]
  · obtain ⟨p', n, cap, e, hn, hc', hm, hat⟩ := hA
    injection e with e1 e2 e3
    subst e1 e2 e3
    obtain ⟨b', o', e, hb', hcell⟩ := hat (by omega)
    injection e with e
    injection e with e1 e2
    subst e1 e2
    refine ⟨_, _, _, rfl, by rw [List.length_map, List.length_drop], Nat.le_refl _, by omega, fun _ => ⟨b, a, rfl, hb, fun i j r x hi hx => ?_⟩⟩
    have hi' : (List.map icells L)[a + i]? = some r := by
      rw [← hi, List.getElem?_map, List.getElem?_map, List.getElem?_drop]
    have := hcell (a + i) j r x hi' hx
    rw [show 0 + (a + i) * 1 + j = a + i * 1 + j by omega] at this
    exact this
end Go.Proofs

namespace Go.Proofs
open Go Go.RowKit Go.Sim
set_option maxRecDepth 100000
def RowS (S : Nat → Prop) (w : AW) (v : Value) (L : List Int) : Prop := AOwnS S w 3 1 v L.length (L.flatMap icells)
theorem first1 {u : AW} {b : Nat} {x : Value} (hx : u.cell? ⟨b, 0, none⟩ = some x) : aFirst u 1 1 (.slice (some ⟨b, 0, none⟩) 1 1) = some [x] := by
  show aCells u b 0 (1 * 1) = some [x]
  simp only [Nat.one_mul, aCells, hx]
end Go.Proofs

namespace Go.Proofs
open Go Go.RowKit Go.Sim
set_option maxRecDepth 100000
def GoodR (S a : List Int) (r : Int) : Prop := keptB S a r = true ∧ infP S (aftI S a r)
def FirstT (S : List Int) : List Int → List Int → Prop
  | _, [] => True
  | a, r :: t => ((0 ≤ r ∧ r < (S.length : Int)) ∧ GoodR S a r ∧ ∀ q : Int, 0 ≤ q → q < r → ¬ GoodR S a q) ∧ FirstT S (aftI S a r) t
theorem first_append {S : List Int} : ∀ {t u a : List Int}, FirstT S a (t ++ u) ↔ FirstT S a t ∧ FirstT S (endI S a t) u
  | [], u, a => by simp [FirstT, endI]
  | r :: t, u, a => by
    rw [List.cons_append, FirstT, FirstT, first_append (t := t)]
    simp only [endI, List.foldl_cons, and_assoc]
theorem first_run {S : List Int} : ∀ {t a : List Int}, FirstT S a t → runB S a t = true
  | [], _, _ => rfl
  | r :: t, a, h => run_cons.2 ⟨h.1.1, h.1.2.1.1, first_run h.2⟩
theorem first_uniq {S : List Int} : ∀ {t u a : List Int}, FirstT S a t → FirstT S a u → t.length = u.length → t = u
  | [], [], _, _, _, _ => rfl
  | [], _ :: _, _, _, _, h => by simp at h
  | _ :: _, [], _, _, _, h => by simp at h
  | r :: t, q :: u, a, h, k, hl => by
    have e : r = q := by
      rcases (by omega : r < q ∨ q < r ∨ r = q) with z | z | z
      · exact absurd h.1.2.1 (k.1.2.2 r h.1.1.1 z)
      · exact absurd k.1.2.1 (h.1.2.2 q k.1.1.1 z)
      · exact z
    subst e
    rw [first_uniq h.2 k.2 (by simpa using hl)]
def TurnsP (S : List Int) (days : Int) (T : List Int) (e : Int) : Prop :=
  (perB S = false ∧ T = [] ∧ e = 105) ∨ (perB S = true ∧ inR 0 days 64 = false ∧ T = [] ∧ e = 7) ∨ (perB S = true ∧ inR 0 days 64 = true ∧ ¬ infP S zero5 ∧ T = [] ∧ e = 4) ∨
    (perB S = true ∧ inR 0 days 64 = true ∧ infP S zero5 ∧ e = 0 ∧ (T.length : Int) = days ∧ FirstT S zero5 T)
theorem RowS.appW {S : Nat → Prop} {w : AW} {v : Value} {L : List Int} (h : RowS S w v L) (f : Fresh w) (hr : L.length + 1 ≤ 1048576) (x : Int) :
    ∃ v' w', append (prg Try.prog) (w.push (.cells [.int .i64 x] 3 w.next 0 0)) 22 22 v (.slice (some ⟨w.next, 0, none⟩) 1 1) = some (v', w') ∧ RowS (fun j => S j ∨ j = w.next + 1) w' v' (L ++ [x]) ∧ MutS S w w' ∧ w'.next = w.next + 1 + 1 ∧ WLe (w.push (.cells [.int .i64 x] 3 w.next 0 0)) w' := by
  have g := (Grown.refl f).push (.cells [.int .i64 x] 3 w.next 0 0)
  have o := Own.new f 3 [.int .i64 x]
  have hn : (w.push (.cells [.int .i64 x] 3 w.next 0 0)).next = w.next + 1 := AW.next_push _ _
  obtain ⟨v', w', h1, h2, h3, h4, h5, h6, h7⟩ := append_anyS Try.ty22 Try.ty3 rfl (by omega) (by omega) (h.keep g.1) g.2 (first1 (o.cell (o := 0) rfl rfl)) rfl (fun y hy => by simp at hy; subst hy; rfl) hr
  rw [hn] at h2 h4 h5 h6
  refine ⟨v', w', h1, ?_, ⟨fun i hi _ => by rw [h5 i (by omega)]; exact g.1.blk i hi, fun i hi q => by rw [h6 i (by omega) q]; exact g.1.fam i hi, by omega, h3⟩, h4, h7⟩
  unfold RowS
  rw [List.length_append, List.flatMap_append]
  exact h2
theorem RowS.one {S : Nat → Prop} {w : AW} {v : Value} {L : List Int} (h : RowS S w v L) : oneCell v = true := by
  rcases h with ⟨e, _⟩ | ⟨_, _, e, _⟩ <;> rw [e] <;> rfl
theorem RowS.same {S : Nat → Prop} {w : AW} {v : Value} {L : List Int} (h : RowS S w v L) : same 12 v v = true := by
  rcases h with ⟨e, _⟩ | ⟨b, _, e, _⟩
  · rw [e]; rfl
  · rw [e]; exact same_slice _ _ _ _
theorem same_fn101 (p : Option Addr) (k c bm : Nat) : same 12 (.func (.func 101) #[whl p k c bm] #[]) (.func (.func 101) #[whl p k c bm] #[]) = true := by
  have := same_whl p k c bm
  simp [same, same.all, this]
set_option maxHeartbeats 64000000 in
theorem Turns_ok (S : List Int) (days : Int) (u : Value) (w : AW) (f : Fresh w) (hu : ArrOf w 1 icells u S) :
    CallT Try.prog Try.T1 (.fn (.func 42) #[]) #[u, .int .i64 days] w (fun r w' => Grown w w' ∧ ∃ (v : Value) (T : List Int) (e : Int), r = .tuple #[v, .int .i64 e] ∧ TurnsP S days T e ∧ RowS (fun j => w.next ≤ j) w' v T) := by
  obtain ⟨pu, cu, rfl, _⟩ := id hu.open
  refine callT_code rfl Try.func42 rfl Try.s42_eq rfl ?_
  unfold Try.s42
  simp -dsimp -implicitDefEqProofs (maxSteps := 2000000) (disch := first | assumption | omega | (simp only [nx]; omega) | ((repeat refine Fresh.push ?_ _); assumption) | (simp only [smA]; done) | (simp [oneCell, AW.next_push]; done) | fail) only [go_sem, Nat.reduceEqDiff, reduceIte, Nat.reduceAdd, Int.toNat_natCast, Nat.add_zero, Owes_true, Try.results42]
  apply callV_of (e := rfl)
  · exact arePeriods_ok S _ w f hu
  rintro _ w1 ⟨rfl, g1⟩
  cases hp : perB S with
  | false =>
    simp -dsimp -implicitDefEqProofs (maxSteps := 2000000) (disch := first | assumption | omega | (simp only [nx]; omega) | ((repeat refine Fresh.push ?_ _); assumption) | (simp only [smA]; done) | (simp [oneCell, AW.next_push]; done) | fail) only [go_sem, Nat.reduceEqDiff, reduceIte, Nat.reduceAdd, Int.toNat_natCast, Nat.add_zero, Owes_true, Try.results42]
    exact ⟨g1, _, [], 105, rfl, .inl ⟨hp, rfl, rfl⟩, .inl ⟨rfl, rfl, rfl⟩⟩
  | true =>
  simp -dsimp -implicitDefEqProofs (maxSteps := 2000000) (disch := first | assumption | omega | (simp only [nx]; omega) | ((repeat refine Fresh.push ?_ _); assumption) | (simp only [smA]; done) | (simp [oneCell, AW.next_push]; done) | fail) only [go_sem, Nat.reduceEqDiff, reduceIte, Nat.reduceAdd, Int.toNat_natCast, Nat.add_zero, Owes_true, Try.results42]
  apply callV_of (e := rfl)
  · exact within_ok _ _ _ _
  rintro _ _ ⟨rfl, rfl⟩
  cases hd : inR 0 days 64 with
  | false =>
    simp -dsimp -implicitDefEqProofs (maxSteps := 2000000) (disch := first | assumption | omega | (simp only [nx]; omega) | ((repeat refine Fresh.push ?_ _); assumption) | (simp only [smA]; done) | (simp [oneCell, AW.next_push]; done) | fail) only [go_sem, Nat.reduceEqDiff, reduceIte, Nat.reduceAdd, Int.toNat_natCast, Nat.add_zero, Owes_true, Try.results42]
    exact ⟨g1, _, [], 7, rfl, .inr (.inl ⟨hp, hd, rfl, rfl⟩), .inl ⟨rfl, rfl, rfl⟩⟩
  | true =>
  have hdd := (inR_iff _ _ _).1 hd
  obtain ⟨D, rfl⟩ : ∃ D : Nat, days = (D : Int) := ⟨days.toNat, by omega⟩
  simp -dsimp -implicitDefEqProofs (maxSteps := 2000000) (disch := first | assumption | omega | (simp only [nx]; omega) | ((repeat refine Fresh.push ?_ _); assumption) | (simp only [smA]; done) | (simp [oneCell, AW.next_push]; done) | fail) only [go_sem, Nat.reduceEqDiff, reduceIte, Nat.reduceAdd, Int.toNat_natCast, Nat.add_zero, Owes_true, Try.results42]
  apply callV_of (e := rfl)
  · exact wheelOf_ok pu S.length cu w1 g1.2
  rintro _ w2 ⟨bm, rfl, hb1, hb2, hM, g2⟩
  have gg2 := g1.trans g2
  have hn1 := g1.1.next
  have g3 := gg2.push (.cells [.slice none 0 0, .map none] 101 w2.next 0 0)
  have O3 := Own.new gg2.2 101 [.slice none 0 0, .map none]
  have st := storeV_own (o := 0) (l := [.slice pu S.length cu, .map (some bm)]) (size := 2) O3 rfl (by omega) (by simp) rfl
  have m4 := MutS.put (S := fun j => j = w2.next) g3.2 rfl O3.lt (.cells [.slice pu S.length cu, .map (some bm)] 101 w2.next 0 0)
  have O4 := O3.put [.slice pu S.length cu, .map (some bm)]
  have hcut : setsL [.slice none 0 0, .map none] 0 [.slice pu S.length cu, .map (some bm)] = [.slice pu S.length cu, .map (some bm)] := rfl
  rw [hcut] at st
  have hn2 := gg2.1.next
  have nx4 : ((w2.push (.cells [.slice none 0 0, .map none] 101 w2.next 0 0)).put w2.next (.cells [.slice pu S.length cu, .map (some bm)] 101 w2.next 0 0)).next = w2.next + 1 := by rw [AW.next_put, AW.next_push]
  have m24 : MutS (fun _ => False) w2 _ := (MutS.of ((Grown.refl gg2.2).push (.cells [.slice none 0 0, .map none] 101 w2.next 0 0))).trans m4 (fun j q => .inr (by omega))
  unfold whl
  simp -dsimp -implicitDefEqProofs (maxSteps := 2000000) (disch := first | assumption | omega | (simp only [nx]; omega) | ((repeat refine Fresh.push ?_ _); assumption) | (simp only [smA]; done) | (simp [oneCell, AW.next_push]; done) | fail) only [go_sem, Nat.reduceEqDiff, reduceIte, Nat.reduceAdd, Int.toNat_natCast, Nat.add_zero, Owes_true, Try.results42, st]
  generalize (w2.push (.cells [.slice none 0 0, .map none] 101 w2.next 0 0)).put w2.next (.cells [.slice pu S.length cu, .map (some bm)] 101 w2.next 0 0) = w4 at *
  have hM4 : MapAt w4 bm (fun _ => none) := hM.blk (m24.blk _ hb2 id)
  have g5 := (Grown.refl m24.fresh).push (.cells [.int .i64 0, .int .i64 0, .int .i64 0, .int .i64 0, .int .i64 0] 104 (w2.next + 1) 0 0)
  have O7 := Own.new m24.fresh 104 [.int .i64 0, .int .i64 0, .int .i64 0, .int .i64 0, .int .i64 0]
  rw [nx4] at O7
  have O6 := O4.push (.cells [.int .i64 0, .int .i64 0, .int .i64 0, .int .i64 0, .int .i64 0] 104 (w2.next + 1) 0 0)
  have m25 : MutS (fun _ => False) w2 _ := m24.trans (MutS.of g5) (Within.refl _ _)
  have nx5 : (w4.push (.cells [.int .i64 0, .int .i64 0, .int .i64 0, .int .i64 0, .int .i64 0] 104 (w2.next + 1) 0 0)).next = w4.next + 1 := AW.next_push _ _
  have hld6 := loadAll O6 (n := 2) rfl (by simp [oneCell])
  have hld7 := loadAll O7 (n := 5) rfl (by simp [oneCell])
  have hM5 : MapAt _ bm (fun _ => none) := hM4.blk (g5.1.blk _ (by omega))
  have k25 : Keep w1.next w1 _ := g2.1.trans (m25.keep (B := w1.next) (fun j q => q.elim) (by have := g2.1.next; omega))
  have hla := lasts_ok hp (W1 := w1) (hu.grown g1) hb1 (cntN (fun _ => none) + 1) (fun _ => none) [] zero5 _ (by omega) (st_zero hp) (fun x v h => by cases h) (fun s h => by cases h) m25.fresh k25 (by omega) hM5
  have hz : (zero5.flatMap icells).toArray = #[.int .i64 0, .int .i64 0, .int .i64 0, .int .i64 0, .int .i64 0] := rfl
  have hz' : zero5.flatMap icells = [.int .i64 0, .int .i64 0, .int .i64 0, .int .i64 0, .int .i64 0] := rfl
  unfold whl aV at hla
  rw [hz] at hla
  have q0 := O4.cell (o := 0) rfl rfl
  have q1 := O4.cell (o := 1) rfl rfl
  simp -dsimp -implicitDefEqProofs (maxSteps := 2000000) (disch := first | assumption | omega | (simp only [nx]; omega) | ((repeat refine Fresh.push ?_ _); assumption) | (simp only [smA]; done) | (simp [oneCell, AW.next_push]; done) | fail) only [go_sem, Nat.reduceEqDiff, reduceIte, Nat.reduceAdd, Int.toNat_natCast, Nat.add_zero, Owes_true, Try.results42, q0, q1]
  generalize w4.push (.cells [.int .i64 0, .int .i64 0, .int .i64 0, .int .i64 0, .int .i64 0] 104 (w2.next + 1) 0 0) = w5 at *
  apply callV_of (e := rfl)
  · exact hla
  rintro _ w6 ⟨x, M6, rfl, hLP, _, hI6, hM6, m6⟩
  have k6 : Keep w1.next w1 w6 := k25.trans (m6.keep (B := w1.next) (fun j q => by omega) k25.next)
  have gk6 : Keep w.next w w6 := g1.1.trans (k6.mono hn1)
  by_cases hx : x = 9223372036854775807
  case neg =>
    have hdx : decide (x = 9223372036854775807) = false := decide_eq_false hx
    have hni : ¬ infP S zero5 := by
      rcases hLP with ⟨q, _⟩ | ⟨_, _, _, q⟩
      · exact absurd q hx
      · exact fun z => inf_not_max z q
    simp -dsimp -implicitDefEqProofs (maxSteps := 2000000) (disch := first | assumption | omega | (simp only [nx]; omega) | ((repeat refine Fresh.push ?_ _); assumption) | (simp only [smA]; done) | (simp [oneCell, AW.next_push]; done) | fail) only [go_sem, Nat.reduceEqDiff, reduceIte, Nat.reduceAdd, Int.toNat_natCast, Nat.add_zero, Owes_true, Try.results42, hdx]
    exact ⟨⟨gk6, m6.fresh⟩, _, [], 4, rfl, .inr (.inr (.inl ⟨hp, hd, hni, rfl, rfl⟩)), .inl ⟨rfl, rfl, rfl⟩⟩
  have hdx : decide (x = 9223372036854775807) = true := decide_eq_true hx
  have hinf : infP S zero5 := by
    rcases hLP with ⟨_, q⟩ | ⟨q, _⟩
    · exact q
    · exact absurd hx q
  have h5 := (perB_iff.1 hp).1
  have hn5 := m25.next
  have hn6 := m6.next
  have O66 := m6.own O6 (by omega)
  have O76 := m6.own O7 (by omega)
  rw [← hz'] at O76
  have hld66 := loadAll O66 (n := 2) rfl (by simp [oneCell])
  have hfn := same_fn101 pu S.length cu bm
  unfold whl at hfn
  simp -dsimp -implicitDefEqProofs (maxSteps := 2000000) (disch := first | assumption | omega | (simp only [nx]; omega) | ((repeat refine Fresh.push ?_ _); assumption) | (simp only [smA]; done) | (simp [oneCell, AW.next_push]; done) | fail) only [go_sem, Nat.reduceEqDiff, reduceIte, Nat.reduceAdd, Int.toNat_natCast, Nat.add_zero, Owes_true, Try.results42, hdx, hld66, hfn]
  refine loopR (fun k t ds w7 => ∃ i : Nat, i ≤ D ∧ k = D - i ∧ ds = [] ∧ ev t (.tmp 0) = .slice pu S.length cu ∧ ev t (.tmp 7) = pt (w2.next + 1) ∧ ev t (.tmp 8) = .func (.func 101) #[.agg #[.slice pu S.length cu, .map (some bm)]] #[] ∧ ev t (.tmp 27) = .int .i64 (D : Int) ∧ ev t (.tmp 28) = .int .i64 (i : Int) ∧ ∃ (v : Value) (T : List Int) (M : MemoA) (a : List Int), ev t (.tmp 9) = v ∧ T.length = i ∧ FirstT S zero5 T ∧ endI S zero5 T = a ∧ infP S a ∧ RowS (fun j => w6.next ≤ j) w7 v T ∧ MapAt w7 bm M ∧ InvM S M [] ∧ Own w7 (w2.next + 1) 104 (a.flatMap icells) ∧ Keep w1.next w1 w7 ∧ Fresh w7 ∧ w6.next ≤ w7.next) (D) ?_ ?_
  · refine ⟨0, by omega, by omega, rfl, ?_, ?_, ?_, ?_, ?_, .slice none 0 0, [], M6, zero5, by simp -dsimp -implicitDefEqProofs (maxSteps := 2000000) (disch := first | assumption | omega | (simp only [nx]; omega) | ((repeat refine Fresh.push ?_ _); assumption) | (simp only [smA]; done) | (simp [oneCell, AW.next_push]; done) | fail) only [go_sem, Nat.reduceEqDiff, reduceIte, Nat.reduceAdd, Int.toNat_natCast, Nat.add_zero, Owes_true], rfl, trivial, rfl, hinf, .inl ⟨rfl, rfl, rfl⟩, hM6, hI6, O76, k6, m6.fresh, Nat.le_refl _⟩ <;> simp -dsimp -implicitDefEqProofs (maxSteps := 2000000) (disch := first | assumption | omega | (simp only [nx]; omega) | ((repeat refine Fresh.push ?_ _); assumption) | (simp only [smA]; done) | (simp [oneCell, AW.next_push]; done) | fail) only [go_sem, Nat.reduceEqDiff, reduceIte, Nat.reduceAdd, Int.toNat_natCast, Nat.add_zero, Owes_true] <;> rfl
  rintro k t ds w7 ⟨i, hii, rfl, rfl, e0, e7, e8, e27, e28, v, T, M, a, e9, hTl, hF, hEa, hIa, hR, hM7, hI7, P7, k7, f7, hB7⟩
  by_cases hlt : (i : Int) < (D : Int)
  case neg =>
    obtain rfl : i = D := by omega
    simp -dsimp -implicitDefEqProofs (maxSteps := 2000000) (disch := first | assumption | omega | (simp only [nx]; omega) | ((repeat refine Fresh.push ?_ _); assumption) | (simp only [smA]; done) | (simp [oneCell, AW.next_push]; done) | fail) only [go_sem, Nat.reduceEqDiff, reduceIte, Nat.reduceAdd, Int.toNat_natCast, Nat.add_zero, Owes_true, Try.results42, e0, e7, e8, e9, e27, e28, hlt]
    exact ⟨⟨g1.1.trans (k7.mono hn1), f7⟩, v, T, 0, rfl, .inr (.inr (.inr ⟨hp, hd, hinf, rfl, by omega, hF⟩)), hR.mono fun j hj => by omega⟩
  have hst : StOk S a := by rw [← hEa]; exact st_end hp (st_zero hp) (first_run hF)
  simp -dsimp -implicitDefEqProofs (maxSteps := 2000000) (disch := first | assumption | omega | (simp only [nx]; omega) | ((repeat refine Fresh.push ?_ _); assumption) | (simp only [smA]; done) | (simp [oneCell, AW.next_push]; done) | fail) only [go_sem, Nat.reduceEqDiff, reduceIte, Nat.reduceAdd, Int.toNat_natCast, Nat.add_zero, Owes_true, Try.results42, e0, e7, e8, e9, e27, e28, hlt]
  refine loopR (fun k t ds w8 => ∃ j : Nat, j ≤ S.length ∧ k = S.length - j ∧ ds = [] ∧ ev t (.tmp 0) = .slice pu S.length cu ∧ ev t (.tmp 7) = pt (w2.next + 1) ∧ ev t (.tmp 8) = .func (.func 101) #[.agg #[.slice pu S.length cu, .map (some bm)]] #[] ∧ ev t (.tmp 9) = v ∧ ev t (.tmp 27) = .int .i64 (D : Int) ∧ ev t (.tmp 28) = .int .i64 (i : Int) ∧ ev t (.tmp 31) = .int .i64 (S.length : Int) ∧ ev t (.tmp 32) = .int .i64 (j : Int) ∧ ∃ M8 : MemoA, (∀ q : Int, 0 ≤ q → q < (j : Int) → ¬ GoodR S a q) ∧ RowS (fun j => w6.next ≤ j) w8 v T ∧ MapAt w8 bm M8 ∧ InvM S M8 [] ∧ Own w8 (w2.next + 1) 104 (a.flatMap icells) ∧ Keep w1.next w1 w8 ∧ Fresh w8 ∧ w6.next ≤ w8.next) (S.length) ?_ ?_
  · refine ⟨0, by omega, by omega, rfl, ?_, ?_, ?_, ?_, ?_, ?_, ?_, ?_, M, fun q h0 h1 => by omega, hR, hM7, hI7, P7, k7, f7, hB7⟩ <;> simp -dsimp -implicitDefEqProofs (maxSteps := 2000000) (disch := first | assumption | omega | (simp only [nx]; omega) | ((repeat refine Fresh.push ?_ _); assumption) | (simp only [smA]; done) | (simp [oneCell, AW.next_push]; done) | fail) only [go_sem, Nat.reduceEqDiff, reduceIte, Nat.reduceAdd, Int.toNat_natCast, Nat.add_zero, Owes_true, e0, e7, e8, e9, e27, e28] <;> rfl
  rintro k t ds w8 ⟨j, hij, rfl, rfl, e0, e7, e8, e9, e27, e28, e31, e32, M8, hng, hR8, hM8, hI8, P8, k8, f8, hB8⟩
  by_cases hjl : (j : Int) < (S.length : Int)
  case neg =>
    obtain rfl : j = S.length := by omega
    obtain ⟨r, hr, hr1, hr2⟩ := inf_next hIa
    exact absurd ⟨hr1, hr2⟩ (hng r (by omega) (by omega))
  have hjl' : j < S.length := by omega
  have hlda := loadAll P8 (n := 5) (by rw [icells_flat_len, hst.len]) (icells_ones _)
  have hen := endless_ok hp (W1 := w1) (hu.grown g1) hb1 M8 a j hjl' w8 hst hI8 f8 k8 (by omega) hM8
  unfold whl aV at hen
  simp -dsimp -implicitDefEqProofs (maxSteps := 2000000) (disch := first | assumption | omega | (simp only [nx]; omega) | ((repeat refine Fresh.push ?_ _); assumption) | (simp only [smA]; done) | (simp [oneCell, AW.next_push]; done) | fail) only [go_sem, Nat.reduceEqDiff, reduceIte, Nat.reduceAdd, Int.toNat_natCast, Nat.add_zero, Owes_true, Try.results42, e0, e7, e8, e9, e27, e28, e31, e32, hjl, hlda, hfn]
  apply callV_of (e := rfl)
  · exact hen
  rintro _ w9 ⟨g, M9, rfl, hg, hI9, hM9, m9⟩
  have hn9 := m9.next
  have g10 := (Grown.refl m9.fresh).push (.cells [.int .i64 0, .int .i64 0, .int .i64 0, .int .i64 0, .int .i64 0] 104 w9.next 0 0)
  have O10 := Own.new m9.fresh 104 [.int .i64 0, .int .i64 0, .int .i64 0, .int .i64 0, .int .i64 0]
  obtain ⟨w11, st11, O11, m11, n11⟩ := full5 g10.2 O10 rfl (C := aftI S a (j : Int)) (aft_len _ _ _)
  have m911 : MutS (fun _ => False) w9 w11 := (MutS.of g10).trans m11 (fun j q => .inr (by omega))
  have m811 : MutS (fun j => j = bm) w8 w11 := m9.trans m911 (fun j q => q.elim)
  have hM11 : MapAt w11 bm M9 := hM9.blk (m911.blk _ (by omega) id)
  have hR11 : RowS (fun j => w6.next ≤ j) w11 v T := hR8.other m811 fun j hj q => by omega
  have P11 := m811.own P8 (by omega)
  have k11 : Keep w1.next w1 w11 := k8.trans (m811.keep (B := w1.next) (fun j q => by omega) k8.next)
  have hB11 : w6.next ≤ w11.next := by have := m811.next; omega
  simp -dsimp -implicitDefEqProofs (maxSteps := 2000000) (disch := first | assumption | omega | (simp only [nx]; omega) | ((repeat refine Fresh.push ?_ _); assumption) | (simp only [smA]; done) | (simp [oneCell, AW.next_push]; done) | fail) only [go_sem, Nat.reduceEqDiff, reduceIte, Nat.reduceAdd, Int.toNat_natCast, Nat.add_zero, Owes_true, Try.results42, e0, e7, e8, e9, e27, e28, e31, e32, st11]
  cases g with
  | false =>
    have hnj : ¬ GoodR S a (j : Int) := fun z => by have := hg.2 z; simp at this
    simp -dsimp -implicitDefEqProofs (maxSteps := 2000000) (disch := first | assumption | omega | (simp only [nx]; omega) | ((repeat refine Fresh.push ?_ _); assumption) | (simp only [smA]; done) | (simp [oneCell, AW.next_push]; done) | fail) only [go_sem, Nat.reduceEqDiff, reduceIte, Nat.reduceAdd, Int.toNat_natCast, Nat.add_zero, Owes_true, Try.results42, e0, e7, e8, e9, e27, e28, e31, e32]
    have hngs : ∀ q : Int, 0 ≤ q → q < ((j + 1 : Nat) : Int) → ¬ GoodR S a q := fun q h0 h1 => by
      by_cases z : q = (j : Int)
      · rw [z]; exact hnj
      · exact hng q h0 (by omega)
    refine ⟨_, by omega, j + 1, by omega, rfl, rfl, by (simp -dsimp -implicitDefEqProofs (maxSteps := 2000000) (disch := first | assumption | omega | (simp only [nx]; omega) | ((repeat refine Fresh.push ?_ _); assumption) | (simp only [smA]; done) | (simp [oneCell, AW.next_push]; done) | fail) only [go_sem, Nat.reduceEqDiff, reduceIte, Nat.reduceAdd, Int.toNat_natCast, Nat.add_zero, Owes_true, e0]; try rfl), by (simp -dsimp -implicitDefEqProofs (maxSteps := 2000000) (disch := first | assumption | omega | (simp only [nx]; omega) | ((repeat refine Fresh.push ?_ _); assumption) | (simp only [smA]; done) | (simp [oneCell, AW.next_push]; done) | fail) only [go_sem, Nat.reduceEqDiff, reduceIte, Nat.reduceAdd, Int.toNat_natCast, Nat.add_zero, Owes_true, e7]; try rfl), by (simp -dsimp -implicitDefEqProofs (maxSteps := 2000000) (disch := first | assumption | omega | (simp only [nx]; omega) | ((repeat refine Fresh.push ?_ _); assumption) | (simp only [smA]; done) | (simp [oneCell, AW.next_push]; done) | fail) only [go_sem, Nat.reduceEqDiff, reduceIte, Nat.reduceAdd, Int.toNat_natCast, Nat.add_zero, Owes_true, e8]; try rfl), by (simp -dsimp -implicitDefEqProofs (maxSteps := 2000000) (disch := first | assumption | omega | (simp only [nx]; omega) | ((repeat refine Fresh.push ?_ _); assumption) | (simp only [smA]; done) | (simp [oneCell, AW.next_push]; done) | fail) only [go_sem, Nat.reduceEqDiff, reduceIte, Nat.reduceAdd, Int.toNat_natCast, Nat.add_zero, Owes_true, e9]; try rfl), by (simp -dsimp -implicitDefEqProofs (maxSteps := 2000000) (disch := first | assumption | omega | (simp only [nx]; omega) | ((repeat refine Fresh.push ?_ _); assumption) | (simp only [smA]; done) | (simp [oneCell, AW.next_push]; done) | fail) only [go_sem, Nat.reduceEqDiff, reduceIte, Nat.reduceAdd, Int.toNat_natCast, Nat.add_zero, Owes_true, e27]; try rfl), by (simp -dsimp -implicitDefEqProofs (maxSteps := 2000000) (disch := first | assumption | omega | (simp only [nx]; omega) | ((repeat refine Fresh.push ?_ _); assumption) | (simp only [smA]; done) | (simp [oneCell, AW.next_push]; done) | fail) only [go_sem, Nat.reduceEqDiff, reduceIte, Nat.reduceAdd, Int.toNat_natCast, Nat.add_zero, Owes_true, e28]; try rfl), by (simp -dsimp -implicitDefEqProofs (maxSteps := 2000000) (disch := first | assumption | omega | (simp only [nx]; omega) | ((repeat refine Fresh.push ?_ _); assumption) | (simp only [smA]; done) | (simp [oneCell, AW.next_push]; done) | fail) only [go_sem, Nat.reduceEqDiff, reduceIte, Nat.reduceAdd, Int.toNat_natCast, Nat.add_zero, Owes_true, e31]; try rfl), by (simp -dsimp -implicitDefEqProofs (maxSteps := 2000000) (disch := first | assumption | omega | (simp only [nx]; omega) | ((repeat refine Fresh.push ?_ _); assumption) | (simp only [smA]; done) | (simp [oneCell, AW.next_push]; done) | fail) only [go_sem, Nat.reduceEqDiff, reduceIte, Nat.reduceAdd, Int.toNat_natCast, Nat.add_zero, Owes_true, e32]; try rfl), M9, hngs, hR11, hM11, hI9, P11, k11, m811.fresh, hB11⟩
  | true =>
  have hgj : GoodR S a (j : Int) := hg.1 rfl
  have hld11 := loadAll O11 (n := 5) (by rw [icells_flat_len, aft_len]) (icells_ones _)
  have f11 := m811.fresh
  have hTlen : T.length + 1 ≤ 1048576 := by omega
  obtain ⟨v12, w12, happ, hR12, m12, n12, hwl⟩ := hR11.appW f11 hTlen (j : Int)
  have g12 := (Grown.refl f11).push (.cells [.int .i64 (j : Int)] 3 w11.next 0 0)
  have hld11b := loadAll (O11.keep g12.1) (n := 5) (by rw [icells_flat_len, aft_len]) (icells_ones _)
  have hsv := hR11.same
  have hsv12 := hR12.same
  have hsa := same_ptV (aftI S a (j : Int))
  have P12 := m12.own P11 (by omega)
  obtain ⟨w13, st13, P13, m13, n13⟩ := full5 m12.fresh P12 (by rw [icells_flat_len, hst.len]) (C := aftI S a (j : Int)) (aft_len _ _ _)
  have hM13 : MapAt w13 bm M9 := hM11.blk (by rw [m13.blk _ (by omega) (by omega), m12.blk _ (by omega) (by omega)])
  have hR13 : RowS (fun j => w6.next ≤ j) w13 v12 (T ++ [(j : Int)]) := AOwnS.mono (AOwnS.other hR12 m13 fun j hj q => by omega) fun j hj => by omega
  have k13 : Keep w1.next w1 w13 := (k11.trans (m12.keep (B := w1.next) (fun j q => by omega) k11.next)).trans (m13.keep (B := w1.next) (fun j q => by omega) (by have := k11.next; omega))
  have hF13 : FirstT S zero5 (T ++ [(j : Int)]) := first_append.2 ⟨hF, by rw [hEa]; exact ⟨⟨⟨by omega, by omega⟩, hgj, hng⟩, trivial⟩⟩
  have hE13 : endI S zero5 (T ++ [(j : Int)]) = aftI S a (j : Int) := by rw [end_append, hEa]; rfl
  simp -dsimp -implicitDefEqProofs (maxSteps := 2000000) (disch := first | assumption | omega | (simp only [nx]; omega) | ((repeat refine Fresh.push ?_ _); assumption) | (simp only [smA]; done) | (simp [oneCell, AW.next_push]; done) | fail) only [go_sem, Nat.reduceEqDiff, reduceIte, Nat.reduceAdd, Int.toNat_natCast, Nat.add_zero, Owes_true, Try.results42, e0, e7, e8, e9, e27, e28, e31, e32, hld11b, hld11, hsv, hsv12, hsa, happ, hwl, st13]
  refine ⟨_, by omega, i + 1, by omega, rfl, rfl, by (simp -dsimp -implicitDefEqProofs (maxSteps := 2000000) (disch := first | assumption | omega | (simp only [nx]; omega) | ((repeat refine Fresh.push ?_ _); assumption) | (simp only [smA]; done) | (simp [oneCell, AW.next_push]; done) | fail) only [go_sem, Nat.reduceEqDiff, reduceIte, Nat.reduceAdd, Int.toNat_natCast, Nat.add_zero, Owes_true, e0]; try rfl), by (simp -dsimp -implicitDefEqProofs (maxSteps := 2000000) (disch := first | assumption | omega | (simp only [nx]; omega) | ((repeat refine Fresh.push ?_ _); assumption) | (simp only [smA]; done) | (simp [oneCell, AW.next_push]; done) | fail) only [go_sem, Nat.reduceEqDiff, reduceIte, Nat.reduceAdd, Int.toNat_natCast, Nat.add_zero, Owes_true, e7]; try rfl), by (simp -dsimp -implicitDefEqProofs (maxSteps := 2000000) (disch := first | assumption | omega | (simp only [nx]; omega) | ((repeat refine Fresh.push ?_ _); assumption) | (simp only [smA]; done) | (simp [oneCell, AW.next_push]; done) | fail) only [go_sem, Nat.reduceEqDiff, reduceIte, Nat.reduceAdd, Int.toNat_natCast, Nat.add_zero, Owes_true, e8]; try rfl), by (simp -dsimp -implicitDefEqProofs (maxSteps := 2000000) (disch := first | assumption | omega | (simp only [nx]; omega) | ((repeat refine Fresh.push ?_ _); assumption) | (simp only [smA]; done) | (simp [oneCell, AW.next_push]; done) | fail) only [go_sem, Nat.reduceEqDiff, reduceIte, Nat.reduceAdd, Int.toNat_natCast, Nat.add_zero, Owes_true, e27]; try rfl), by (simp -dsimp -implicitDefEqProofs (maxSteps := 2000000) (disch := first | assumption | omega | (simp only [nx]; omega) | ((repeat refine Fresh.push ?_ _); assumption) | (simp only [smA]; done) | (simp [oneCell, AW.next_push]; done) | fail) only [go_sem, Nat.reduceEqDiff, reduceIte, Nat.reduceAdd, Int.toNat_natCast, Nat.add_zero, Owes_true, e28]; try rfl), v12, T ++ [(j : Int)], M9, aftI S a (j : Int), (by simp -dsimp -implicitDefEqProofs (maxSteps := 2000000) (disch := first | assumption | omega | (simp only [nx]; omega) | ((repeat refine Fresh.push ?_ _); assumption) | (simp only [smA]; done) | (simp [oneCell, AW.next_push]; done) | fail) only [go_sem, Nat.reduceEqDiff, reduceIte, Nat.reduceAdd, Int.toNat_natCast, Nat.add_zero, Owes_true]), (by rw [List.length_append, List.length_singleton, hTl]), hF13, hE13, hgj.2, hR13, hM13, hI9, P13, k13, m13.fresh, (by omega)⟩
end Go.Proofs

namespace Go.Proofs
open Go Go.RowKit Go.Sim
set_option maxRecDepth 100000
def FitS (S P : List Int) : Prop := ∀ i, i < S.length → 0 ≤ W P i ∧ W P i ≤ W S i
def okS (S : List Int) : Prop := 1 ≤ S.length ∧ S.length ≤ 4 ∧ ∀ i, i < S.length → 1 ≤ W S i ∧ W S i ≤ 8
end Go.Proofs

namespace Go.Proofs
open Go Go.RowKit Go.Sim
set_option maxRecDepth 100000
def fitTo (S l : List Int) (i : Nat) : Bool := (List.range i).all fun j => inR 0 (W l j) (W S j)
def fitB (S l : List Int) : Bool := decide ((l.length : Int) = (S.length : Int)) && fitTo S l l.length
end Go.Proofs

namespace Go.Proofs
open Go Go.RowKit Go.Sim
set_option maxRecDepth 100000
end Go.Proofs

namespace Go.Proofs
open Go Go.Sim
end Go.Proofs

namespace Go.Proofs
open Go Go.RowKit Go.Sim
set_option maxRecDepth 100000
end Go.Proofs

namespace Go.Sim
open Go
end Go.Sim
