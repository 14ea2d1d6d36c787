/- This program: its code, contracts, numbers, part 5. -/
import Derived.Test.YtlilncofnckgdaaPad
import Derived.Test.YtlilncofnckgdaaSh
import Derived.Test.YtlilncofnckgdaaPaa
import Derived.Test.YtlilncofnckgdaaNc
set_option linter.unusedVariables false
set_option linter.unusedSimpArgs false
namespace Go.Proofs
open Go Go.RowKit Go.Sim
set_option maxRecDepth 100000
theorem Sum_ok (L : List Int) (v : Value) (w : AW) (hs : ArrOf w 1 icells v L) :
    CallT Try.prog Try.T1 (.fn (.func 48) #[]) #[v] w (fun r w' => w = w' ∧ ∃ n : Int, r = .int .i64 n ∧ (smallL L → n = L.sum)) := by
  obtain ⟨pp, cp, rfl, _, _, hat⟩ := hs.open
  refine callT_code rfl Try.func48 rfl Try.s48_eq rfl ?_
  unfold Try.s48
  simp -dsimp -implicitDefEqProofs (maxSteps := 2000000) (disch := first | assumption | omega | (simp only [nx]; omega) | ((repeat refine Fresh.push ?_ _); assumption) | (simp only [smA]; done) | (simp [oneCell, AW.next_push]; done) | fail) only [go_sem, Nat.reduceEqDiff, reduceIte, Nat.reduceAdd, Int.toNat_natCast, Nat.add_zero, Owes_true, Try.results48]
  refine loopR (fun k t ds w1 => ∃ i : Nat, i ≤ L.length ∧ k = L.length - i ∧ ds = [] ∧ ev t (.tmp 0) = .slice pp L.length cp ∧ ev t (.tmp 4) = .int .i64 (i : Int) ∧ w = w1 ∧ ∃ s : Int, ev t (.tmp 3) = .int .i64 s ∧ (smallL L → s = (L.take i).sum ∧ 0 ≤ s ∧ s ≤ (i : Int) * 65536)) (L.length) ?_ ?_
  · refine ⟨0, by omega, by omega, rfl, ?_, ?_, rfl, 0, by simp -dsimp -implicitDefEqProofs (maxSteps := 2000000) (disch := first | assumption | omega | (simp only [nx]; omega) | ((repeat refine Fresh.push ?_ _); assumption) | (simp only [smA]; done) | (simp [oneCell, AW.next_push]; done) | fail) only [go_sem, Nat.reduceEqDiff, reduceIte, Nat.reduceAdd, Int.toNat_natCast, Nat.add_zero, Owes_true], fun _ => by simp⟩ <;> simp -dsimp -implicitDefEqProofs (maxSteps := 2000000) (disch := first | assumption | omega | (simp only [nx]; omega) | ((repeat refine Fresh.push ?_ _); assumption) | (simp only [smA]; done) | (simp [oneCell, AW.next_push]; done) | fail) only [go_sem, Nat.reduceEqDiff, reduceIte, Nat.reduceAdd, Int.toNat_natCast, Nat.add_zero, Owes_true] <;> rfl
  rintro k t ds w1 ⟨i, hii, rfl, rfl, e0, e4, hw, s, e3, hsm⟩
  subst hw
  by_cases hlt : (i : Int) < (L.length : Int)
  case neg =>
    obtain rfl : i = L.length := by omega
    simp -dsimp -implicitDefEqProofs (maxSteps := 2000000) (disch := first | assumption | omega | (simp only [nx]; omega) | ((repeat refine Fresh.push ?_ _); assumption) | (simp only [smA]; done) | (simp [oneCell, AW.next_push]; done) | fail) only [go_sem, Nat.reduceEqDiff, reduceIte, Nat.reduceAdd, Int.toNat_natCast, Nat.add_zero, Owes_true, Try.results48, e0, e3, e4, hlt]
    exact ⟨trivial, s, rfl, fun h1 => by rw [(hsm h1).1, List.take_of_length_le (Nat.le_refl _)]⟩
  have hlt' : i < L.length := by omega
  obtain ⟨b1, o1, rfl, hb1, hcell⟩ := hat i hlt'
  have a0 := hcell w (.refl _ _) 0 _ rfl
  rw [Nat.add_zero] at a0
  simp -dsimp -implicitDefEqProofs (maxSteps := 2000000) (disch := first | assumption | omega | (simp only [nx]; omega) | ((repeat refine Fresh.push ?_ _); assumption) | (simp only [smA]; done) | (simp [oneCell, AW.next_push]; done) | fail) only [go_sem, Nat.reduceEqDiff, reduceIte, Nat.reduceAdd, Int.toNat_natCast, Nat.add_zero, Owes_true, Try.results48, e0, e3, e4, hlt, indexV_eq, a0]
  refine ⟨_, by omega, i + 1, by omega, rfl, rfl, by (simp -dsimp -implicitDefEqProofs (maxSteps := 2000000) (disch := first | assumption | omega | (simp only [nx]; omega) | ((repeat refine Fresh.push ?_ _); assumption) | (simp only [smA]; done) | (simp [oneCell, AW.next_push]; done) | fail) only [go_sem, Nat.reduceEqDiff, reduceIte, Nat.reduceAdd, Int.toNat_natCast, Nat.add_zero, Owes_true, e0]; try rfl), by (simp -dsimp -implicitDefEqProofs (maxSteps := 2000000) (disch := first | assumption | omega | (simp only [nx]; omega) | ((repeat refine Fresh.push ?_ _); assumption) | (simp only [smA]; done) | (simp [oneCell, AW.next_push]; done) | fail) only [go_sem, Nat.reduceEqDiff, reduceIte, Nat.reduceAdd, Int.toNat_natCast, Nat.add_zero, Owes_true, e4]; try rfl), rfl, _, (by simp -dsimp -implicitDefEqProofs (maxSteps := 2000000) (disch := first | assumption | omega | (simp only [nx]; omega) | ((repeat refine Fresh.push ?_ _); assumption) | (simp only [smA]; done) | (simp [oneCell, AW.next_push]; done) | fail) only [go_sem, Nat.reduceEqDiff, reduceIte, Nat.reduceAdd, Int.toNat_natCast, Nat.add_zero, Owes_true, e3]), sum_next hlt' hsm⟩
end Go.Proofs

namespace Go.Proofs
open Go Go.RowKit Go.Sim
set_option maxRecDepth 100000
theorem Ring_ok (a b : Int) (hb1 : b ≤ 4611686018427387904) (w : AW) :
    CallT Try.prog Try.T1 (.fn (.func 49) #[]) #[.int .i64 a, .int .i64 b] w (Ret (.int .i64 (if b ≤ 0 then 0 else a % b)) fun w' => w = w') := by
  refine callT_code rfl Try.func49 rfl Try.s49_eq rfl ?_
  unfold Try.s49
  by_cases hb : b ≤ 0
  · rw [if_pos hb]
    simp -dsimp -implicitDefEqProofs (maxSteps := 2000000) (disch := first | assumption | omega | (simp only [nx]; omega) | ((repeat refine Fresh.push ?_ _); assumption) | (simp only [smA]; done) | (simp [oneCell, AW.next_push]; done) | fail) only [go_sem, Nat.reduceEqDiff, reduceIte, Nat.reduceAdd, Int.toNat_natCast, Nat.add_zero, Owes_true, Try.results49, hb]
    exact ⟨rfl, rfl⟩
  · rw [if_neg hb]
    have h0 : ¬ b = 0 := by omega
    have h1 := Int.tmod_lt_of_pos a (b := b) (by omega)
    have h2 : -b < a.tmod b := by
      have := Int.lt_tmod_of_pos a (b := b) (by omega)
      omega
    have h3 : (a.tmod b + b).tmod b = a % b := by
      rw [Int.tmod_eq_emod_of_nonneg (by omega), Int.add_emod_right]
      have := Int.mul_tdiv_add_tmod a b
      conv => rhs; rw [← this]
      rw [Int.add_comm, Int.add_mul_emod_self_left]
    simp -dsimp -implicitDefEqProofs (maxSteps := 2000000) (disch := first | assumption | omega | (simp only [nx]; omega) | ((repeat refine Fresh.push ?_ _); assumption) | (simp only [smA]; done) | (simp [oneCell, AW.next_push]; done) | fail) only [go_sem, Nat.reduceEqDiff, reduceIte, Nat.reduceAdd, Int.toNat_natCast, Nat.add_zero, Owes_true, Try.results49, hb, h0, h3]
    exact ⟨rfl, rfl⟩
theorem RowA.from {B : Nat} {w : AW} {v : Value} {L : List Int} {a : Nat} (h : RowA B w v L) (h1 : 1 ≤ L.length) (ha : a ≤ L.length) (hl : L.length ≤ 1048576) : ∃ b, v = .slice (some ⟨b, 0, none⟩) L.length L.length ∧ sliceV w 1 v (some (.int .i64 (a : Int))) none = some (.slice (some ⟨b, a, none⟩) (L.length - a) (L.length - a)) ∧ ArrOf w 1 icells (.slice (some ⟨b, a, none⟩) (L.length - a) (L.length - a)) (L.drop a) := by
  have hA := h.arr hl
  rcases h with ⟨_, h, _⟩ | ⟨b, r, rfl, _, hb, _, _, hk, _⟩
  · omega
  refine ⟨b, rfl, ?_, ?_⟩
  · have b1 : Nat.ble a L.length = true := Nat.ble_eq_true_of_le ha
    have b2 : Nat.ble L.length L.length = true := Nat.ble_eq_true_of_le (Nat.le_refl _)
    show sliceV w 1 (.slice (some ⟨b, 0, none⟩) L.length L.length) (some (.int .i64 (Int.ofNat a))) none = _
    have b3 : Nat.beq 1 1 = true := rfl
    simp only [sliceV, natOr, b1, b2, hk, Bool.and_self, b3, Bool.true_or, Nat.mul_one, Nat.zero_add]
  · obtain ⟨p', n, cap, e, hn, hc', hm, hat⟩ := hA
    injection e with e1 e2 e3
    subst e1 e2 e3
    obtain ⟨b', o', e, hb', hcell⟩ := hat (by omega)
    injection e with e
    injection e with e1 e2
    subst e1 e2
    refine ⟨_, _, _, rfl, by rw [List.length_map, List.length_drop], Nat.le_refl _, by omega, fun _ => ⟨b, a, rfl, hb, fun i j r x hi hx => ?_⟩⟩
    have hi' : (List.map icells L)[a + i]? = some r := by
      rw [← hi, List.getElem?_map, List.getElem?_map, List.getElem?_drop]
    have := hcell (a + i) j r x hi' hx
    rw [show 0 + (a + i) * 1 + j = a + i * 1 + j by omega] at this
    exact this
end Go.Proofs

namespace Go.Proofs
open Go Go.RowKit Go.Sim
set_option maxRecDepth 100000
set_option maxHeartbeats 8000000 in
theorem cost_ok {A : AudN} (h : audB A = true) (P : List Int) (hP4 : P.length = 4) (hP : FitS A.st P) (b : Nat) (p q : Option Addr) (a c : Nat) (w : AW) (f : Fresh w) (hb : SearchAt w b p q a c A) (hc : ArrOf w 1 icells (.slice q A.co.length c) A.co) :
    CallT Try.prog Try.T1 (.fn (.func 76) #[]) #[ptr b, aV P] w (Ret (.int .i64 (costI A.co P)) (Grown w)) := by
  obtain ⟨hS, hco, hci, _⟩ := audB_ok h
  have g1 := (Grown.refl f).push (.cells (P.flatMap icells) 73 w.next 0 0)
  have O1 := Own.new f 73 (P.flatMap icells)
  have hb1 := hb.keep g1.1
  have d1 := hb1.c1
  unfold aV
  refine callT_code rfl Try.func76 rfl Try.s76_eq rfl ?_
  unfold Try.s76
  simp -dsimp -implicitDefEqProofs (maxSteps := 2000000) (disch := first | assumption | omega | (simp only [nx]; omega) | ((repeat refine Fresh.push ?_ _); assumption) | (simp only [smA]; done) | (simp [oneCell, AW.next_push]; done) | fail) only [go_sem, Nat.reduceEqDiff, reduceIte, Nat.reduceAdd, Int.toNat_natCast, Nat.add_zero, Owes_true, Try.results76]
  generalize w.push (.cells (P.flatMap icells) 73 w.next 0 0) = w2 at *
  simp -dsimp -implicitDefEqProofs (maxSteps := 2000000) (disch := first | assumption | omega | (simp only [nx]; omega) | ((repeat refine Fresh.push ?_ _); assumption) | (simp only [smA]; done) | (simp [oneCell, AW.next_push]; done) | fail) only [go_sem, Nat.reduceEqDiff, reduceIte, Nat.reduceAdd, Int.toNat_natCast, Nat.add_zero, Owes_true, Nat.zero_add, d1]
  obtain ⟨_, _, epd, _, _, hat⟩ := hc.open
  injection epd with epd1 epd2 epd3
  subst epd1 epd3
  refine loopR (fun k t ds w3 => ∃ i : Nat, i ≤ A.co.length ∧ k = A.co.length - i ∧ ds = [] ∧ ev t (.tmp 0) = .pointer (some ⟨b, 0, none⟩) ∧ ev t (.tmp 3) = .pointer (some ⟨w.next, 0, none⟩) ∧ ev t (.tmp 5) = .int .i64 (costTo A.co P i) ∧ ev t (.tmp 12) = .slice q A.co.length c ∧ ev t (.tmp 13) = .int .i64 (A.co.length : Int) ∧ ev t (.tmp 14) = .int .i64 (i : Int) ∧ w2 = w3) (A.co.length) ?_ ?_
  · refine ⟨0, by omega, by omega, rfl, ?_, ?_, ?_, ?_, ?_, ?_, rfl⟩ <;> simp -dsimp -implicitDefEqProofs (maxSteps := 2000000) (disch := first | assumption | omega | (simp only [nx]; omega) | ((repeat refine Fresh.push ?_ _); assumption) | (simp only [smA]; done) | (simp [oneCell, AW.next_push]; done) | fail) only [go_sem, Nat.reduceEqDiff, reduceIte, Nat.reduceAdd, Int.toNat_natCast, Nat.add_zero, Owes_true] <;> rfl
  rintro k t ds w3 ⟨i, hii, rfl, rfl, e0, e3, e5, e12, e13, e14, hw⟩
  subst hw
  by_cases hlt : (i : Int) < (A.co.length : Int)
  case neg =>
    obtain rfl : i = A.co.length := by omega
    simp -dsimp -implicitDefEqProofs (maxSteps := 2000000) (disch := first | assumption | omega | (simp only [nx]; omega) | ((repeat refine Fresh.push ?_ _); assumption) | (simp only [smA]; done) | (simp [oneCell, AW.next_push]; done) | fail) only [go_sem, Nat.reduceEqDiff, reduceIte, Nat.reduceAdd, Int.toNat_natCast, Nat.add_zero, Owes_true, Try.results76, e0, e5, e12, e13, e14, hlt]
    exact ⟨rfl, g1⟩
  have hlt' : i < A.co.length := by omega
  obtain ⟨b1, o1, rfl, hb1', hcell⟩ := hat i hlt'
  have a0 := hcell w2 g1.1 0 _ rfl
  rw [Nat.add_zero, ← W_at hlt'] at a0
  have hCi := hci i (by omega)
  have hPi := hP i (by omega)
  have hSi := hS.2.2 i (by omega)
  have hi4 : i < 4 := by have := hS.2.1; omega
  have cP := O1.icell (i := i) (by omega)
  have iP : indexA 1 4 (.pointer (some ⟨w.next, 0, none⟩)) (.int .i64 (i : Int)) = some (.pointer (some ⟨w.next, i, none⟩)) := by rw [indexA_eq hi4]; simp
  have hns : costTo A.co P (i + 1) = costTo A.co P i + W P i * W A.co i := rfl
  have hb0 := costTo_in hci hS hP i (by omega)
  have hbn := costTo_in hci hS hP (i + 1) (by omega)
  rw [hns] at hbn
  have m1 : 0 ≤ W P i * W A.co i := Int.mul_nonneg hPi.1 hCi.1
  have m2 : W P i * W A.co i ≤ 8 * 1000 := Int.mul_le_mul (by omega) hCi.2 hCi.1 (by omega)
  generalize hmm : costTo A.co P i = m at *
  simp -dsimp -implicitDefEqProofs (maxSteps := 2000000) (disch := first | assumption | omega | (simp only [nx]; omega) | ((repeat refine Fresh.push ?_ _); assumption) | (simp only [smA]; done) | (simp [oneCell, AW.next_push]; done) | fail) only [go_sem, Nat.reduceEqDiff, reduceIte, Nat.reduceAdd, Int.toNat_natCast, Nat.add_zero, Owes_true, Try.results76, e0, e3, e5, e12, e13, e14, hlt, indexV_eq, a0, iP, cP, Nat.zero_add]
  refine ⟨_, by omega, i + 1, by omega, rfl, rfl, by (simp -dsimp -implicitDefEqProofs (maxSteps := 2000000) (disch := first | assumption | omega | (simp only [nx]; omega) | ((repeat refine Fresh.push ?_ _); assumption) | (simp only [smA]; done) | (simp [oneCell, AW.next_push]; done) | fail) only [go_sem, Nat.reduceEqDiff, reduceIte, Nat.reduceAdd, Int.toNat_natCast, Nat.add_zero, Owes_true, e0, hns]; try rfl), by (simp -dsimp -implicitDefEqProofs (maxSteps := 2000000) (disch := first | assumption | omega | (simp only [nx]; omega) | ((repeat refine Fresh.push ?_ _); assumption) | (simp only [smA]; done) | (simp [oneCell, AW.next_push]; done) | fail) only [go_sem, Nat.reduceEqDiff, reduceIte, Nat.reduceAdd, Int.toNat_natCast, Nat.add_zero, Owes_true, e3, hns]; try rfl), by (simp -dsimp -implicitDefEqProofs (maxSteps := 2000000) (disch := first | assumption | omega | (simp only [nx]; omega) | ((repeat refine Fresh.push ?_ _); assumption) | (simp only [smA]; done) | (simp [oneCell, AW.next_push]; done) | fail) only [go_sem, Nat.reduceEqDiff, reduceIte, Nat.reduceAdd, Int.toNat_natCast, Nat.add_zero, Owes_true, e5, hns]; try rfl), by (simp -dsimp -implicitDefEqProofs (maxSteps := 2000000) (disch := first | assumption | omega | (simp only [nx]; omega) | ((repeat refine Fresh.push ?_ _); assumption) | (simp only [smA]; done) | (simp [oneCell, AW.next_push]; done) | fail) only [go_sem, Nat.reduceEqDiff, reduceIte, Nat.reduceAdd, Int.toNat_natCast, Nat.add_zero, Owes_true, e12, hns]; try rfl), by (simp -dsimp -implicitDefEqProofs (maxSteps := 2000000) (disch := first | assumption | omega | (simp only [nx]; omega) | ((repeat refine Fresh.push ?_ _); assumption) | (simp only [smA]; done) | (simp [oneCell, AW.next_push]; done) | fail) only [go_sem, Nat.reduceEqDiff, reduceIte, Nat.reduceAdd, Int.toNat_natCast, Nat.add_zero, Owes_true, e13, hns]; try rfl), by (simp -dsimp -implicitDefEqProofs (maxSteps := 2000000) (disch := first | assumption | omega | (simp only [nx]; omega) | ((repeat refine Fresh.push ?_ _); assumption) | (simp only [smA]; done) | (simp [oneCell, AW.next_push]; done) | fail) only [go_sem, Nat.reduceEqDiff, reduceIte, Nat.reduceAdd, Int.toNat_natCast, Nat.add_zero, Owes_true, e14, hns]; try rfl), rfl⟩
theorem ring9 {x : Int} (h0 : 0 ≤ x) (h1 : x ≤ 8) : (if (9 : Int) ≤ 0 then 0 else x % 9) = x := by rw [if_neg (by omega)]; omega
set_option maxHeartbeats 8000000 in
theorem price_ok {A : AudN} (h : audB A = true) (P : List Int) (hPl : P.length = A.st.length) (hP : FitS A.st P) (p q : Option Addr) (a c : Nat) (v : Value) (w : AW) (f : Fresh w) (hc : ArrOf w 1 icells (.slice q A.co.length c) A.co) (hv : ArrOf w 1 icells v P) :
    CallT Try.prog Try.T1 (.fn (.func 51) #[]) #[.agg (audC p q a c A).toArray, v] w (Ret (.int .i64 (costI A.co P)) (Grown w)) := by
  obtain ⟨hS, hco, hci, _⟩ := audB_ok h
  have g1 := (Grown.refl f).push (.cells (audC p q a c A) 24 w.next 0 0)
  have O1 := Own.new f 24 (audC p q a c A)
  have c1 := O1.cell (o := 1) rfl rfl
  obtain ⟨pv, cv, rfl, _, _, hatP⟩ := hv.open
  obtain ⟨_, _, epd, _, _, hat⟩ := hc.open
  injection epd with epd1 epd2 epd3
  subst epd1 epd3
  refine callT_code rfl Try.func51 rfl Try.s51_eq rfl ?_
  unfold Try.s51
  unfold audC at *
  simp -dsimp -implicitDefEqProofs (maxSteps := 2000000) (disch := first | assumption | omega | (simp only [nx]; omega) | ((repeat refine Fresh.push ?_ _); assumption) | (simp only [smA]; done) | (simp [oneCell, AW.next_push]; done) | fail) only [go_sem, Nat.reduceEqDiff, reduceIte, Nat.reduceAdd, Int.toNat_natCast, Nat.add_zero, Owes_true, Try.results51]
  generalize w.push (.cells [.slice p A.st.length a, .slice q A.co.length c, .int .i64 A.lost, .int .i64 A.sure] 24 w.next 0 0) = w2 at *
  refine loopR (fun k t ds w3 => ∃ i : Nat, i ≤ A.co.length ∧ k = A.co.length - i ∧ ds = [] ∧ ev t (.tmp 1) = .slice pv P.length cv ∧ ev t (.tmp 2) = .pointer (some ⟨w.next, 0, none⟩) ∧ ev t (.tmp 5) = .int .i64 (costTo A.co P i) ∧ ev t (.tmp 6) = .int .i64 (i : Int) ∧ w2 = w3) (A.co.length) ?_ ?_
  · refine ⟨0, by omega, by omega, rfl, ?_, ?_, ?_, ?_, rfl⟩ <;> simp -dsimp -implicitDefEqProofs (maxSteps := 2000000) (disch := first | assumption | omega | (simp only [nx]; omega) | ((repeat refine Fresh.push ?_ _); assumption) | (simp only [smA]; done) | (simp [oneCell, AW.next_push]; done) | fail) only [go_sem, Nat.reduceEqDiff, reduceIte, Nat.reduceAdd, Int.toNat_natCast, Nat.add_zero, Owes_true] <;> rfl
  rintro k t ds w3 ⟨i, hii, rfl, rfl, e1, e2, e5, e6, hw⟩
  subst hw
  by_cases hlt : (i : Int) < (P.length : Int)
  case neg =>
    obtain rfl : i = A.co.length := by omega
    simp -dsimp -implicitDefEqProofs (maxSteps := 2000000) (disch := first | assumption | omega | (simp only [nx]; omega) | ((repeat refine Fresh.push ?_ _); assumption) | (simp only [smA]; done) | (simp [oneCell, AW.next_push]; done) | fail) only [go_sem, Nat.reduceEqDiff, reduceIte, Nat.reduceAdd, Int.toNat_natCast, Nat.add_zero, Owes_true, Try.results51, e1, e2, e5, e6, hlt]
    exact ⟨rfl, g1⟩
  have hlt2 : (i : Int) < (A.co.length : Int) := by omega
  have hlt' : i < A.co.length := by omega
  obtain ⟨b1, o1, rfl, hb1', hcell⟩ := hat i hlt'
  obtain ⟨b2, o2, rfl, hb2', hcell2⟩ := hatP i (by omega)
  have a0 := hcell w2 g1.1 0 _ rfl
  have a1 := hcell2 w2 g1.1 0 _ rfl
  rw [Nat.add_zero, ← W_at hlt'] at a0
  rw [Nat.add_zero, ← W_at (by omega)] at a1
  have hCi := hci i (by omega)
  have hPi := hP i (by omega)
  have hSi := hS.2.2 i (by omega)
  have hns : costTo A.co P (i + 1) = costTo A.co P i + W P i * W A.co i := rfl
  have hb0 := costTo_in hci hS hP i (by omega)
  have hbn := costTo_in hci hS hP (i + 1) (by omega)
  rw [hns] at hbn
  have m1 : 0 ≤ W P i * W A.co i := Int.mul_nonneg hPi.1 hCi.1
  have m2 : W P i * W A.co i ≤ 8 * 1000 := Int.mul_le_mul (by omega) hCi.2 hCi.1 (by omega)
  have hle : WLe w2 w2 := (Grown.refl g1.2).1.wle g1.2
  have hr := Ring_ok (W P i) 9 (by omega) w2
  rw [ring9 hPi.1 (by omega)] at hr
  generalize hmm : costTo A.co P i = m at *
  simp -dsimp -implicitDefEqProofs (maxSteps := 2000000) (disch := first | assumption | omega | (simp only [nx]; omega) | ((repeat refine Fresh.push ?_ _); assumption) | (simp only [smA]; done) | (simp [oneCell, AW.next_push]; done) | fail) only [go_sem, Nat.reduceEqDiff, reduceIte, Nat.reduceAdd, Int.toNat_natCast, Nat.add_zero, Owes_true, Try.results51, e1, e2, e5, e6, hlt, hlt2, indexV_eq, a0, a1, c1, Nat.zero_add]
  apply callV_of (e := rfl)
  · exact hr
  rintro _ _ ⟨rfl, rfl⟩
  simp -dsimp -implicitDefEqProofs (maxSteps := 2000000) (disch := first | assumption | omega | (simp only [nx]; omega) | ((repeat refine Fresh.push ?_ _); assumption) | (simp only [smA]; done) | (simp [oneCell, AW.next_push]; done) | fail) only [go_sem, Nat.reduceEqDiff, reduceIte, Nat.reduceAdd, Int.toNat_natCast, Nat.add_zero, Owes_true, Try.results51, e1, e2, e5, e6, hle]
  refine ⟨_, by omega, i + 1, by omega, rfl, rfl, by (simp -dsimp -implicitDefEqProofs (maxSteps := 2000000) (disch := first | assumption | omega | (simp only [nx]; omega) | ((repeat refine Fresh.push ?_ _); assumption) | (simp only [smA]; done) | (simp [oneCell, AW.next_push]; done) | fail) only [go_sem, Nat.reduceEqDiff, reduceIte, Nat.reduceAdd, Int.toNat_natCast, Nat.add_zero, Owes_true, e1, hns]; try rfl), by (simp -dsimp -implicitDefEqProofs (maxSteps := 2000000) (disch := first | assumption | omega | (simp only [nx]; omega) | ((repeat refine Fresh.push ?_ _); assumption) | (simp only [smA]; done) | (simp [oneCell, AW.next_push]; done) | fail) only [go_sem, Nat.reduceEqDiff, reduceIte, Nat.reduceAdd, Int.toNat_natCast, Nat.add_zero, Owes_true, e2, hns]; try rfl), by (simp -dsimp -implicitDefEqProofs (maxSteps := 2000000) (disch := first | assumption | omega | (simp only [nx]; omega) | ((repeat refine Fresh.push ?_ _); assumption) | (simp only [smA]; done) | (simp [oneCell, AW.next_push]; done) | fail) only [go_sem, Nat.reduceEqDiff, reduceIte, Nat.reduceAdd, Int.toNat_natCast, Nat.add_zero, Owes_true, e5, hns]; try rfl), by (simp -dsimp -implicitDefEqProofs (maxSteps := 2000000) (disch := first | assumption | omega | (simp only [nx]; omega) | ((repeat refine Fresh.push ?_ _); assumption) | (simp only [smA]; done) | (simp [oneCell, AW.next_push]; done) | fail) only [go_sem, Nat.reduceEqDiff, reduceIte, Nat.reduceAdd, Int.toNat_natCast, Nat.add_zero, Owes_true, e6, hns]; try rfl), rfl⟩
set_option maxHeartbeats 4000000 in
theorem Ahead_ok (a b : List Int) (u v : Value) (w : AW) (hu : ArrOf w 1 icells u a) (hv : ArrOf w 1 icells v b) : CallT Try.prog Try.T1 (.fn (.func 52) #[]) #[u, v] w (Ret (.bool (aheadB a b)) fun w' => w = w') := by
  obtain ⟨p, c, rfl, _, _, hat⟩ := hu.open
  obtain ⟨q, d, rfl, _, _, hat2⟩ := hv.open
  refine callT_code rfl Try.func52 rfl Try.s52_eq rfl ?_
  unfold Try.s52
  simp -dsimp -implicitDefEqProofs (maxSteps := 2000000) (disch := first | assumption | omega | (simp only [nx]; omega) | ((repeat refine Fresh.push ?_ _); assumption) | (simp only [smA]; done) | (simp [oneCell, AW.next_push]; done) | fail) only [go_sem, Nat.reduceEqDiff, reduceIte, Nat.reduceAdd, Int.toNat_natCast, Nat.add_zero, Owes_true, Try.results52]
  refine loopR (fun k t ds w1 => ∃ i : Nat, i ≤ min a.length b.length ∧ k = min a.length b.length - i ∧ ds = [] ∧ ev t (.tmp 0) = .slice p a.length c ∧ ev t (.tmp 1) = .slice q b.length d ∧ ev t (.tmp 5) = .int .i64 (i : Int) ∧ w = w1 ∧ a.take i = b.take i) (min a.length b.length) ?_ ?_
  · refine ⟨0, by omega, by omega, rfl, ?_, ?_, ?_, rfl, rfl⟩ <;> simp -dsimp -implicitDefEqProofs (maxSteps := 2000000) (disch := first | assumption | omega | (simp only [nx]; omega) | ((repeat refine Fresh.push ?_ _); assumption) | (simp only [smA]; done) | (simp [oneCell, AW.next_push]; done) | fail) only [go_sem, Nat.reduceEqDiff, reduceIte, Nat.reduceAdd, Int.toNat_natCast, Nat.add_zero, Owes_true] <;> rfl
  rintro k t ds w1 ⟨i, hii, rfl, rfl, e0, e1, e5, hw, hp⟩
  subst hw
  have hpre := aheadB_pre i a b (by omega) (by omega) hp
  by_cases hlt : i < min a.length b.length
  case neg =>
    have hE : aheadB a b = decide ((a.length : Int) < (b.length : Int)) := by
      rw [hpre, aheadB_end (by rcases Nat.le_total a.length b.length with z | z; exact .inl (List.drop_of_length_le (by omega)); exact .inr (List.drop_of_length_le (by omega)))]
      simp only [List.length_drop]
      exact decide_eq_decide.2 (by omega)
    by_cases h1 : (i : Int) < (a.length : Int)
    · have h2 : ¬ (i : Int) < (b.length : Int) := by omega
      simp -dsimp -implicitDefEqProofs (maxSteps := 2000000) (disch := first | assumption | omega | (simp only [nx]; omega) | ((repeat refine Fresh.push ?_ _); assumption) | (simp only [smA]; done) | (simp [oneCell, AW.next_push]; done) | fail) only [go_sem, Nat.reduceEqDiff, reduceIte, Nat.reduceAdd, Int.toNat_natCast, Nat.add_zero, Owes_true, Try.results52, e0, e1, e5, h1, h2]
      exact ⟨by rw [hE], rfl⟩
    · simp -dsimp -implicitDefEqProofs (maxSteps := 2000000) (disch := first | assumption | omega | (simp only [nx]; omega) | ((repeat refine Fresh.push ?_ _); assumption) | (simp only [smA]; done) | (simp [oneCell, AW.next_push]; done) | fail) only [go_sem, Nat.reduceEqDiff, reduceIte, Nat.reduceAdd, Int.toNat_natCast, Nat.add_zero, Owes_true, Try.results52, e0, e1, e5, h1]
      exact ⟨by rw [hE], rfl⟩
  have h1 : (i : Int) < (a.length : Int) := by omega
  have h2 : (i : Int) < (b.length : Int) := by omega
  have h1' : i < a.length := by omega
  have h2' : i < b.length := by omega
  obtain ⟨b1, o1, rfl, hb1, hcell⟩ := hat i h1'
  obtain ⟨b2, o2, rfl, hb2, hcell2⟩ := hat2 i h2'
  have a0 := hcell w (.refl _ _) 0 _ rfl
  have a1 := hcell2 w (.refl _ _) 0 _ rfl
  rw [Nat.add_zero] at a0 a1
  rw [List.drop_eq_getElem_cons h1', List.drop_eq_getElem_cons h2'] at hpre
  by_cases hx : a[i] = b[i]
  · have hd : decide (a[i] = b[i]) = true := decide_eq_true hx
    simp -dsimp -implicitDefEqProofs (maxSteps := 2000000) (disch := first | assumption | omega | (simp only [nx]; omega) | ((repeat refine Fresh.push ?_ _); assumption) | (simp only [smA]; done) | (simp [oneCell, AW.next_push]; done) | fail) only [go_sem, Nat.reduceEqDiff, reduceIte, Nat.reduceAdd, Int.toNat_natCast, Nat.add_zero, Owes_true, Try.results52, e0, e1, e5, h1, h2, indexV_eq, a0, a1, hd]
    refine ⟨_, by omega, i + 1, by omega, rfl, rfl, by (simp -dsimp -implicitDefEqProofs (maxSteps := 2000000) (disch := first | assumption | omega | (simp only [nx]; omega) | ((repeat refine Fresh.push ?_ _); assumption) | (simp only [smA]; done) | (simp [oneCell, AW.next_push]; done) | fail) only [go_sem, Nat.reduceEqDiff, reduceIte, Nat.reduceAdd, Int.toNat_natCast, Nat.add_zero, Owes_true, e0]; try rfl), by (simp -dsimp -implicitDefEqProofs (maxSteps := 2000000) (disch := first | assumption | omega | (simp only [nx]; omega) | ((repeat refine Fresh.push ?_ _); assumption) | (simp only [smA]; done) | (simp [oneCell, AW.next_push]; done) | fail) only [go_sem, Nat.reduceEqDiff, reduceIte, Nat.reduceAdd, Int.toNat_natCast, Nat.add_zero, Owes_true, e1]; try rfl), by (simp -dsimp -implicitDefEqProofs (maxSteps := 2000000) (disch := first | assumption | omega | (simp only [nx]; omega) | ((repeat refine Fresh.push ?_ _); assumption) | (simp only [smA]; done) | (simp [oneCell, AW.next_push]; done) | fail) only [go_sem, Nat.reduceEqDiff, reduceIte, Nat.reduceAdd, Int.toNat_natCast, Nat.add_zero, Owes_true, e5]; try rfl), rfl, (by rw [List.take_succ_eq_append_getElem h1', List.take_succ_eq_append_getElem h2', hp, hx])⟩
  · have hd : decide (a[i] = b[i]) = false := decide_eq_false hx
    rw [aheadB, if_neg hx] at hpre
    simp -dsimp -implicitDefEqProofs (maxSteps := 2000000) (disch := first | assumption | omega | (simp only [nx]; omega) | ((repeat refine Fresh.push ?_ _); assumption) | (simp only [smA]; done) | (simp [oneCell, AW.next_push]; done) | fail) only [go_sem, Nat.reduceEqDiff, reduceIte, Nat.reduceAdd, Int.toNat_natCast, Nat.add_zero, Owes_true, Try.results52, e0, e1, e5, h1, h2, indexV_eq, a0, a1, hd]
    exact ⟨by rw [hpre], rfl⟩
theorem fit_nil {S : List Int} (hS : okS S) : FitS S [] := fun i hi => by rw [W_nil]; have := hS.2.2 i hi; omega
theorem worst_in {A : AudN} (h : audB A = true) {P : List Int} (hP : FitS A.st P) : 0 ≤ (worstX A P).1 ∧ (worstX A P).1 ≤ 24010000 := by
  obtain ⟨a, b, _⟩ := worstX_is h P
  obtain ⟨_, hf, _⟩ := (losses_mem h _).1 a
  have := missTo_b (audB_ok h).1 hP hf (i := A.st.length) (Nat.le_refl _)
  have : missI A.st P (worstX A P).2 ≤ 24010000 := this
  omega
set_option maxHeartbeats 16000000 in
theorem finds_ok {A : AudN} (h : audB A = true) (P : List Int) (hP4 : P.length = 4) (hP : FitS A.st P) (b : Nat) (p q : Option Addr) (a c : Nat) (w : AW) (f : Fresh w) (hb : SearchAt w b p q a c A) (hs : ArrOf w 1 icells (.slice p A.st.length a) A.st) (hcut : Cutt w (.slice p A.st.length a) A.st.length) :
    CallT Try.prog Try.T1 (.fn (.func 73) #[]) #[ptr b, aV P] w (Ret (.bool (findsB A P)) (Grown w)) := by
  obtain ⟨hS, hco, _, hl1, hl2, hu1, hu2⟩ := audB_ok h
  have g1 := (Grown.refl f).push (.cells (P.flatMap icells) 73 w.next 0 0)
  have O1 := Own.new f 73 (P.flatMap icells)
  have hld := loadAll O1 (n := 4) (by rw [icells_flat_len]; exact hP4) (icells_ones P)
  have hw := worst_ok hS _ g1.2 (hb.keep g1.1) (hs.grown g1) (hcut.grown g1.1) P hP4 hP hl1 hl2
  have hX : worstF A.st P (listsL A.st A.lost A.lost) = worstX A P := rfl
  rw [hX] at hw
  have hin := worst_in h hP
  have hall := missTo_b hS hP (fit_nil hS) (i := A.st.length) (Nat.le_refl _)
  have hall2 : allI A.st P ≤ 24010000 := hall
  obtain ⟨hxm, _⟩ := worstX_is h P
  obtain ⟨hx1, hx2, _⟩ := (losses_mem h _).1 hxm
  have hxl := padI_len (l := (worstX A P).2) (by rw [hx1]; exact hS.2.1)
  have hfb : findsB A P = decide (1000 * (worstX A P).1 ≤ (allI A.st P : Int) * (1000 - A.sure)) := rfl
  rw [hfb]
  have hal := fun (w' : AW) (g' : Grown w w') => allS_ok A hS P hP4 hP b p q a c w' g'.2 (hb.keep g'.1) (hs.grown g')
  generalize worstX A P = X at *
  generalize allI A.st P = M at *
  have m1 : (0 : Int) ≤ (M : Int) * (1000 - A.sure) := Int.mul_nonneg (by omega) (by omega)
  have m2 : (M : Int) * (1000 - A.sure) ≤ 24010000 * 1000 := Int.mul_le_mul (by omega) (by omega) (by omega) (by omega)
  have hsea := fun (w' : AW) (g' : Grown w w') => (hb.keep g'.1).c3
  have hsv := same_ptV P
  unfold aV at *
  refine callT_code rfl Try.func73 rfl Try.s73_eq rfl ?_
  unfold Try.s73
  simp -dsimp -implicitDefEqProofs (maxSteps := 2000000) (disch := first | assumption | omega | (simp only [nx]; omega) | ((repeat refine Fresh.push ?_ _); assumption) | (simp only [smA]; done) | (simp [oneCell, AW.next_push]; done) | fail) only [go_sem, Nat.reduceEqDiff, reduceIte, Nat.reduceAdd, Int.toNat_natCast, Nat.add_zero, Owes_true, Try.results73, hld]
  apply callV_of (e := rfl)
  · exact hw
  rintro _ w2 ⟨rfl, g2⟩
  have gg2 := g1.trans g2
  obtain ⟨w3, hst, O3, g3, n3⟩ := put4 g2.2 (P := padI X.2) hxl
  have gg3 := gg2.trans g3
  have hld3 := loadAll ((O1.keep g2.1).keep g3.1) (n := 4) (by rw [icells_flat_len]; exact hP4) (icells_ones P)
  have d3 := hsea w3 gg3
  simp -dsimp -implicitDefEqProofs (maxSteps := 2000000) (disch := first | assumption | omega | (simp only [nx]; omega) | ((repeat refine Fresh.push ?_ _); assumption) | (simp only [smA]; done) | (simp [oneCell, AW.next_push]; done) | fail) only [go_sem, Nat.reduceEqDiff, reduceIte, Nat.reduceAdd, Int.toNat_natCast, Nat.add_zero, Owes_true, Try.results73, hst, hld3, hsv, d3, Nat.zero_add]
  apply callV_of (e := rfl)
  · exact hal w3 gg3
  rintro _ w4 ⟨rfl, g4⟩
  have hle4 : WLe w3 w4 := g4.1.wle gg3.2
  simp -dsimp -implicitDefEqProofs (maxSteps := 2000000) (disch := first | assumption | omega | (simp only [nx]; omega) | ((repeat refine Fresh.push ?_ _); assumption) | (simp only [smA]; done) | (simp [oneCell, AW.next_push]; done) | fail) only [go_sem, Nat.reduceEqDiff, reduceIte, Nat.reduceAdd, Int.toNat_natCast, Nat.add_zero, Owes_true, Try.results73, hle4, hsv]
  exact ⟨rfl, gg3.trans g4⟩
def fndB (A : AudN) (P : List Int) : Bool := if samE A P = 0 then findsB A P else false
set_option maxHeartbeats 16000000 in
theorem Finds_ok (A : AudN) (P : List Int) (p q : Option Addr) (a c : Nat) (v : Value) (w : AW) (f : Fresh w) (hs : ArrOf w 1 icells (.slice p A.st.length a) A.st) (hcut : Cutt w (.slice p A.st.length a) A.st.length) (hc : ArrOf w 1 icells (.slice q A.co.length c) A.co) (hv : ArrOf w 1 icells v P) :
    CallT Try.prog Try.T1 (.fn (.func 23) #[]) #[.agg (audC p q a c A).toArray, v] w (Ret (.tuple #[.bool (fndB A P), .int .i64 (samE A P)]) (Grown w)) := by
  obtain ⟨pv, cv, rfl, _⟩ := id hv.open
  have g1 := (Grown.refl f).push (.cells (audC p q a c A) 24 w.next 0 0)
  have O1 := Own.new f 24 (audC p q a c A)
  have hck := checkSample_ok A P p q a c (.slice pv P.length cv) _ g1.2 (hs.grown g1) (hc.grown g1) (hv.grown g1)
  have hse := fun w' (f' : Fresh w') => searchOf_ok A p q a c w' f'
  refine callT_code rfl Try.func23 rfl Try.s23_eq rfl ?_
  unfold Try.s23
  unfold audC at *
  simp -dsimp -implicitDefEqProofs (maxSteps := 2000000) (disch := first | assumption | omega | (simp only [nx]; omega) | ((repeat refine Fresh.push ?_ _); assumption) | (simp only [smA]; done) | (simp [oneCell, AW.next_push]; done) | fail) only [go_sem, Nat.reduceEqDiff, reduceIte, Nat.reduceAdd, Int.toNat_natCast, Nat.add_zero, Owes_true, Try.results23]
  apply callV_of (e := rfl)
  · exact hck
  rintro _ w2 ⟨rfl, g2⟩
  have gg2 := g1.trans g2
  have O2 := O1.keep g2.1
  have c0 := O2.cell (o := 0) rfl rfl
  have c1 := O2.cell (o := 1) rfl rfl
  have c2 := O2.cell (o := 2) rfl rfl
  have c3 := O2.cell (o := 3) rfl rfl
  by_cases hz : samE A P = 0
  case neg =>
    have hd : decide (samE A P = 0) = false := decide_eq_false hz
    simp -dsimp -implicitDefEqProofs (maxSteps := 2000000) (disch := first | assumption | omega | (simp only [nx]; omega) | ((repeat refine Fresh.push ?_ _); assumption) | (simp only [smA]; done) | (simp [oneCell, AW.next_push]; done) | fail) only [go_sem, Nat.reduceEqDiff, reduceIte, Nat.reduceAdd, Int.toNat_natCast, Nat.add_zero, Owes_true, Try.results23, hd]
    exact ⟨by simp [fndB, hz], gg2⟩
  have hd : decide (samE A P = 0) = true := decide_eq_true hz
  have hb := samE_ok hz
  obtain ⟨hS, hco, _⟩ := audB_ok hb.1
  obtain ⟨hPl, hPf⟩ := fitB_iff.1 hb.2
  have hpl := padI_len (l := P) (by rw [hPl]; exact hS.2.1)
  have hF : fndB A P = findsB A (padI P) := by unfold fndB; rw [if_pos hz, findsB_pad]
  rw [hF, hz]
  simp -dsimp -implicitDefEqProofs (maxSteps := 2000000) (disch := first | assumption | omega | (simp only [nx]; omega) | ((repeat refine Fresh.push ?_ _); assumption) | (simp only [smA]; done) | (simp [oneCell, AW.next_push]; done) | fail) only [go_sem, Nat.reduceEqDiff, reduceIte, Nat.reduceAdd, Int.toNat_natCast, Nat.add_zero, Owes_true, Try.results23, hd, c0, c1, c2, c3, Nat.zero_add]
  apply callV_of (e := rfl)
  · exact hse w2 gg2.2
  rintro _ w4 ⟨bs, rfl, hbs, hsea, g4⟩
  have gg4 := gg2.trans g4
  simp -dsimp -implicitDefEqProofs (maxSteps := 2000000) (disch := first | assumption | omega | (simp only [nx]; omega) | ((repeat refine Fresh.push ?_ _); assumption) | (simp only [smA]; done) | (simp [oneCell, AW.next_push]; done) | fail) only [go_sem, Nat.reduceEqDiff, reduceIte, Nat.reduceAdd, Int.toNat_natCast, Nat.add_zero, Owes_true, Try.results23]
  apply callV_of (e := rfl)
  · exact countsOf_ok P (by rw [hPl]; exact hS.1) (by rw [hPl]; exact hS.2.1) _ w4 gg4.2 (hv.grown gg4)
  rintro _ w5 ⟨rfl, g5⟩
  have gg5 := gg4.trans g5
  have hfd := finds_ok hb.1 (padI P) hpl (fit_pad hPf) bs p q a c w5 gg5.2 (hsea.keep g5.1) (hs.grown gg5) (hcut.grown gg5.1)
  simp -dsimp -implicitDefEqProofs (maxSteps := 2000000) (disch := first | assumption | omega | (simp only [nx]; omega) | ((repeat refine Fresh.push ?_ _); assumption) | (simp only [smA]; done) | (simp [oneCell, AW.next_push]; done) | fail) only [go_sem, Nat.reduceEqDiff, reduceIte, Nat.reduceAdd, Int.toNat_natCast, Nat.add_zero, Owes_true, Try.results23]
  apply callV_of (e := rfl)
  · exact hfd
  rintro _ w6 ⟨rfl, g6⟩
  simp -dsimp -implicitDefEqProofs (maxSteps := 2000000) (disch := first | assumption | omega | (simp only [nx]; omega) | ((repeat refine Fresh.push ?_ _); assumption) | (simp only [smA]; done) | (simp [oneCell, AW.next_push]; done) | fail) only [go_sem, Nat.reduceEqDiff, reduceIte, Nat.reduceAdd, Int.toNat_natCast, Nat.add_zero, Owes_true, Try.results23]
  exact ⟨rfl, gg5.trans g6⟩
end Go.Proofs

namespace Go.Proofs
open Go Go.RowKit Go.Sim
set_option maxRecDepth 100000
noncomputable abbrev lpL (s : LoopState) (t : Tmps) (dm : Nat) : ALoop := ⟨s, none, 26, t, #[21], codeA Try.f26, codeB Try.f26, dm⟩
abbrev KpL (W4 : AW) (n1 n2 : Nat) (w : AW) : Prop := MutS (fun j => j = n1 ∨ j = n2) W4 w
structure JL (W4 : AW) (A : AudN) (b n1 n2 n6 dm lp bc : Nat) (lv : ALoop) (Q : List (List Int)) (w : AW) : Prop where
  row : ∃ v, Own w n1 22 [v] ∧ AOwnS (fun j => bc < j) w 3 1 v (leastF A Q).2.length ((leastF A Q).2.flatMap icells)
  o2 : Own w n2 3 [.int .i64 (leastF A Q).1]
  o6 : Own w n6 70 [ptr b]
  loop : w.blk lp = some (.loop lv)
  mark : w.blk dm = some (.deferred (some []))
  keep : KpL W4 n1 n2 w
  fresh : Fresh w
  lt : lp < w.next
  len : (leastF A Q).2.length ≤ 4
  bnd : n1 < n2 ∧ n2 < W4.next ∧ W4.next ≤ n6 ∧ n6 < dm ∧ dm < lp ∧ lp < bc
theorem KpL.of {W4 w w' : AW} {n1 n2 : Nat} (h : KpL W4 n1 n2 w) {T : Nat → Prop} (m : MutS T w w') (hT : ∀ j, T j → (j = n1 ∨ j = n2) ∨ W4.next ≤ j) : KpL W4 n1 n2 w' :=
  h.trans m fun j q => hT j q
theorem JL.mut {W4 w w' : AW} {A : AudN} {b n1 n2 n6 dm lp bc : Nat} {lv : ALoop} {Q : List (List Int)} (h : JL W4 A b n1 n2 n6 dm lp bc lv Q w) {T : Nat → Prop} (m : MutS T w w') (hT : ∀ j, T j → j = bc) : JL W4 A b n1 n2 n6 dm lp bc lv Q w' := by
  have hb := h.bnd
  have hl := h.lt
  have no : ∀ j, j ≤ lp → ¬ T j := fun j hj q => by have := hT j q; omega
  obtain ⟨v, r1, r2⟩ := h.row
  exact ⟨⟨v, m.own r1 (no _ (by omega)), r2.other m fun j hj q => by have := hT j q; omega⟩, m.own h.o2 (no _ (by omega)), m.own h.o6 (no _ (by omega)), by rw [m.blk _ hl (no _ (by omega))]; exact h.loop, by rw [m.blk _ (by omega) (no _ (by omega))]; exact h.mark,
    KpL.of h.keep m (fun j q => .inr (by have := hT j q; omega)), m.fresh, by have := m.next; omega, h.len, h.bnd⟩
theorem JL.relp {W4 w : AW} {A : AudN} {b n1 n2 n6 dm lp bc : Nat} {lv : ALoop} {Q : List (List Int)} (h : JL W4 A b n1 n2 n6 dm lp bc lv Q w) (lv2 : ALoop) : JL W4 A b n1 n2 n6 dm lp bc lv2 Q (w.put lp (.loop lv2)) := by
  have hb := h.bnd
  have m := MutS.put (S := fun j => j = lp) h.fresh rfl h.lt (.loop lv2)
  obtain ⟨v, r1, r2⟩ := h.row
  exact ⟨⟨v, m.own r1 (by omega), r2.other m fun j hj q => by omega⟩, m.own h.o2 (by omega), m.own h.o6 (by omega), by rw [AW.blk_put _ _ _ _ (Trie.in_ _) (Trie.in_ _), if_pos rfl], by rw [m.blk _ (by have := h.lt; omega) (by omega)]; exact h.mark,
    KpL.of h.keep m (fun j q => .inr (by omega)), m.fresh, by rw [AW.next_put]; exact h.lt, h.len, h.bnd⟩
theorem RowA.boundB {B : Nat} {w : AW} {v : Value} {L : List Int} (h : RowA B w v L) {bc : Nat} (hb : bc < B) : AOwnS (fun j => bc < j) w 3 1 v L.length (L.flatMap icells) := by
  rcases h with h | ⟨b, r, a1, a2, a3, a4, a5, a6, a7, a9, a8⟩
  · exact .inl h
  · exact .inr ⟨b, r, a1, by omega, a3, by omega, a5, a6, a7, a9, fun j hj => let ⟨c1, c2, c3⟩ := a8 j hj; ⟨by omega, c2, c3⟩⟩
set_option maxHeartbeats 16000000 in
theorem yieldL_ok {W0 W4 : AW} {A : AudN} (h : audB A = true) {b : Nat} {p q : Option Addr} {a c : Nat} (hs : ArrOf W0 1 icells (.slice p A.st.length a) A.st) (hcut : Cutt W0 (.slice p A.st.length a) A.st.length) (hc : ArrOf W0 1 icells (.slice q A.co.length c) A.co) {n1 n2 n6 dm lp bc : Nat}
    (hK : ∀ w, KpL W4 n1 n2 w → Keep W0.next W0 w ∧ SearchAt w b p q a c A) (t : Tmps)
    (e2 : ev t (.tmp 2) = ptr n1) (e3 : ev t (.tmp 3) = ptr n2) (e6 : ev t (.tmp 6) = ptr n6) (Q : List (List Int)) (u : List Int) (w : AW) (hJ : JL W4 A b n1 n2 n6 dm lp bc (lpL .ready t dm) Q w) (hbc : bc < w.next) (hul : u.length = A.st.length) (huf : FitS A.st u) :
    CallT Try.prog Try.T1 (.fn (.yield lp) #[]) #[aV (padI u)] w (fun v w' => v = .bool true ∧ JL W4 A b n1 n2 n6 dm lp bc (lpL .ready t dm) (Q ++ [u]) w' ∧ MutS (fun j => (j = n1 ∨ j = n2) ∨ j = lp) w w') := by
  obtain ⟨hS, _⟩ := audB_ok h
  have hu4 : (padI u).length = 4 := padI_len (by have := hS.2.1; omega)
  obtain ⟨w1, hst, O1, g1, n1'⟩ := put4 hJ.fresh hu4
  have h1 : JL W4 A b n1 n2 n6 dm lp bc (lpL .ready t dm) Q w1 := hJ.mut (T := fun _ => False) (.of g1) fun _ q => q.elim
  refine callT_yield (lp := lpL .ready t dm) hJ.loop rfl ?_
  show CodeT Try.prog Try.T1 { fn := 26, round := some lp } (codeA Try.f26) (putTmp t (some 21) _) [] w _
  refine codeR_codeT (x := .mk) _ ?_
  rw [Try.ra26_eq]
  unfold Try.ra26
  unfold aV
  simp -dsimp -implicitDefEqProofs (maxSteps := 2000000) (disch := first | assumption | omega | (simp only [nx]; omega) | ((repeat refine Fresh.push ?_ _); assumption) | (simp only [smA]; done) | (simp [oneCell, AW.next_push]; done) | fail) only [go_sem, Nat.reduceEqDiff, reduceIte, Nat.reduceAdd, Int.toNat_natCast, Nat.add_zero, Owes_true, hst]
  refine ⟨trivial, _, h1.loop, rfl, ?_⟩
  refine codeR_codeT (x := .mk) _ ?_
  rw [Try.rb26_eq]
  unfold Try.rb26
  have h2 := h1.relp (lpL .busy t dm)
  have m12 := MutS.put (S := fun j => j = lp) h1.fresh rfl h1.lt (.loop (lpL .busy t dm))
  have hlt := hJ.lt
  have hbd := hJ.bnd
  have O2 := m12.own O1 (by omega)
  have nx2 : (w1.put lp (.loop (lpL .busy t dm))).next = w.next + 1 := by rw [AW.next_put]; exact n1'
  generalize w1.put lp (.loop (lpL .busy t dm)) = w2 at *
  have d6 := h2.o6.cell (o := 0) rfl rfl
  have lu := loadAll O2 (n := 4) (by rw [icells_flat_len, hu4]) (icells_ones _)
  obtain ⟨k2, s2⟩ := hK w2 h2.keep
  have hco := cost_ok h (padI u) hu4 (fit_pad huf) b p q a c w2 h2.fresh s2 (hc.kept k2)
  have hcp : costI A.co (padI u) = costI A.co u := costTo_pad _ _ _
  rw [hcp] at hco
  unfold aV at hco
  simp -dsimp -implicitDefEqProofs (maxSteps := 2000000) (disch := first | assumption | omega | (simp only [nx]; omega) | ((repeat refine Fresh.push ?_ _); assumption) | (simp only [smA]; done) | (simp [oneCell, AW.next_push]; done) | fail) only [go_sem, Nat.reduceEqDiff, reduceIte, Nat.reduceAdd, Int.toNat_natCast, Nat.add_zero, Owes_true, e2, e3, e6, d6, lu, Nat.zero_add]
  apply callV_of (e := rfl)
  · exact hco
  rintro _ w3 ⟨rfl, g3⟩
  have h3 : JL W4 A b n1 n2 n6 dm lp bc (lpL .busy t dm) Q w3 := h2.mut (T := fun _ => False) (.of g3) fun _ q => q.elim
  have O3 := O2.keep g3.1
  have lu3 := loadAll O3 (n := 4) (by rw [icells_flat_len, hu4]) (icells_ones _)
  have d3 := h3.o2.cell (o := 0) rfl rfl
  have d63 := h3.o6.cell (o := 0) rfl rfl
  have hsn := leastF_snoc A Q u
  have m03 : MutS (fun j => (j = n1 ∨ j = n2) ∨ j = lp) w w3 := ((MutS.of g1).trans (m12.mono fun j q => .inr q) (Within.refl _ _)).trans (MutS.of g3) (Within.refl _ _)
  have hlt3 := h3.lt
  have hnx3 := g3.1.next
  obtain ⟨k3, s3⟩ := hK w3 h3.keep
  have hfd := finds_ok h (padI u) hu4 (fit_pad huf) b p q a c w3 h3.fresh s3 (hs.kept k3) (hcut.grown k3)
  rw [findsB_pad] at hfd
  unfold aV at hfd
  have stay : ∀ w', JL W4 A b n1 n2 n6 dm lp bc (lpL .busy t dm) Q w' → MutS (fun j => (j = n1 ∨ j = n2) ∨ j = lp) w w' → leastF A (Q ++ [u]) = leastF A Q →
      JL W4 A b n1 n2 n6 dm lp bc (lpL .ready t dm) (Q ++ [u]) (w'.put lp (.loop (lpL .ready t dm))) ∧ MutS (fun j => (j = n1 ∨ j = n2) ∨ j = lp) w (w'.put lp (.loop (lpL .ready t dm))) := by
    intro w' hh mm e
    have h3' : JL W4 A b n1 n2 n6 dm lp bc (lpL .busy t dm) (Q ++ [u]) w' := ⟨by rw [e]; exact hh.row, by rw [e]; exact hh.o2, hh.o6, hh.loop, hh.mark, hh.keep, hh.fresh, hh.lt, by rw [e]; exact hh.len, hh.bnd⟩
    exact ⟨h3'.relp _, mm.trans ((MutS.put (S := fun j => j = lp) hh.fresh rfl hh.lt _).mono fun j q => .inr q) (Within.refl _ _)⟩
  by_cases hlt2 : costI A.co u < (leastF A Q).1
  case neg =>
    have hst : leastF A (Q ++ [u]) = leastF A Q := by rw [hsn]; unfold stepC; rw [if_neg (fun q => hlt2 q.1)]
    obtain ⟨y1, y2⟩ := stay w3 h3 m03 hst
    simp -dsimp -implicitDefEqProofs (maxSteps := 2000000) (disch := first | assumption | omega | (simp only [nx]; omega) | ((repeat refine Fresh.push ?_ _); assumption) | (simp only [smA]; done) | (simp [oneCell, AW.next_push]; done) | fail) only [go_sem, Nat.reduceEqDiff, reduceIte, Nat.reduceAdd, Int.toNat_natCast, Nat.add_zero, Owes_true, e2, e3, e6, d3, hlt2]
    exact ⟨trivial, trivial, _, h3.loop, trivial, y1, y2⟩
  simp -dsimp -implicitDefEqProofs (maxSteps := 2000000) (disch := first | assumption | omega | (simp only [nx]; omega) | ((repeat refine Fresh.push ?_ _); assumption) | (simp only [smA]; done) | (simp [oneCell, AW.next_push]; done) | fail) only [go_sem, Nat.reduceEqDiff, reduceIte, Nat.reduceAdd, Int.toNat_natCast, Nat.add_zero, Owes_true, e2, e3, e6, d3, d63, hlt2, lu3]
  apply callV_of (e := rfl)
  · exact hfd
  rintro _ w4 ⟨rfl, g4⟩
  have h4 : JL W4 A b n1 n2 n6 dm lp bc (lpL .busy t dm) Q w4 := h3.mut (T := fun _ => False) (.of g4) fun _ q => q.elim
  have m04 := m03.trans (MutS.of g4) (Within.refl _ _)
  cases hF : findsB A u with
  | false =>
    have hst : leastF A (Q ++ [u]) = leastF A Q := by rw [hsn]; unfold stepC; rw [if_neg (fun q => by rw [hF] at q; exact Bool.noConfusion q.2)]
    obtain ⟨y1, y2⟩ := stay w4 h4 m04 hst
    simp -dsimp -implicitDefEqProofs (maxSteps := 2000000) (disch := first | assumption | omega | (simp only [nx]; omega) | ((repeat refine Fresh.push ?_ _); assumption) | (simp only [smA]; done) | (simp [oneCell, AW.next_push]; done) | fail) only [go_sem, Nat.reduceEqDiff, reduceIte, Nat.reduceAdd, Int.toNat_natCast, Nat.add_zero, Owes_true, e2, e3, e6]
    exact ⟨trivial, trivial, _, h4.loop, trivial, y1, y2⟩
  | true =>
  have hst : leastF A (Q ++ [u]) = (costI A.co u, u) := by rw [hsn]; unfold stepC; rw [if_pos ⟨hlt2, hF⟩]
  have O4 := O3.keep g4.1
  have lu4 := loadAll O4 (n := 4) (by rw [icells_flat_len, hu4]) (icells_ones _)
  have d64 := h4.o6.cell (o := 0) rfl rfl
  obtain ⟨k4, s4⟩ := hK w4 h4.keep
  have hli := list_ok hS w4 h4.fresh s4 (padI u) hu4
  unfold aV at hli
  simp -dsimp -implicitDefEqProofs (maxSteps := 2000000) (disch := first | assumption | omega | (simp only [nx]; omega) | ((repeat refine Fresh.push ?_ _); assumption) | (simp only [smA]; done) | (simp [oneCell, AW.next_push]; done) | fail) only [go_sem, Nat.reduceEqDiff, reduceIte, Nat.reduceAdd, Int.toNat_natCast, Nat.add_zero, Owes_true, e2, e3, e6, d64, lu4]
  apply callV_of (e := rfl)
  · exact hli
  rintro v w5 ⟨hR, g5⟩
  have h5 : JL W4 A b n1 n2 n6 dm lp bc (lpL .busy t dm) Q w5 := h4.mut (T := fun _ => False) (.of g5) fun _ q => q.elim
  have m05 := m04.trans (MutS.of g5) (Within.refl _ _)
  have hnx4 := g4.1.next
  have htk : (padI u).take A.st.length = u := by
    unfold padI; rw [List.take_append_of_le_length (by omega), List.take_of_length_le (by omega)]
  rw [htk] at hR
  have hRb := hR.boundB (bc := bc) (by omega)
  have hone := hR.one
  obtain ⟨v0, r1, _⟩ := h5.row
  have st1 := storeV_own1 (o := 0) (v := v) r1 (by simp) hone
  simp only [setL] at st1
  have m1 := MutS.put (S := fun j => j = n1) h5.fresh rfl r1.lt (.cells [v] 22 n1 0 0)
  have r1' := r1.put [v]
  have nn1 : (w5.put n1 (.cells [v] 22 n1 0 0)).next = w5.next := AW.next_put _ _ _
  have hRb' := hRb.other m1 fun j hj q => by omega
  generalize w5.put n1 (.cells [v] 22 n1 0 0) = w6 at *
  have o2' := m1.own h5.o2 (by omega)
  have st2 := storeV_own1 (o := 0) (v := .int .i64 (costI A.co u)) o2' (by simp) rfl
  simp only [setL] at st2
  have m2 := MutS.put (S := fun j => j = n2) m1.fresh rfl o2'.lt (.cells [.int .i64 (costI A.co u)] 3 n2 0 0)
  have o2'' := o2'.put [.int .i64 (costI A.co u)]
  have nn2 : (w6.put n2 (.cells [.int .i64 (costI A.co u)] 3 n2 0 0)).next = w6.next := AW.next_put _ _ _
  have hRb'' := hRb'.other m2 fun j hj q => by omega
  simp -dsimp -implicitDefEqProofs (maxSteps := 2000000) (disch := first | assumption | omega | (simp only [nx]; omega) | ((repeat refine Fresh.push ?_ _); assumption) | (simp only [smA]; done) | (simp [oneCell, AW.next_push]; done) | fail) only [go_sem, Nat.reduceEqDiff, reduceIte, Nat.reduceAdd, Int.toNat_natCast, Nat.add_zero, Owes_true, e2, e3, e6, st1, st2]
  generalize w6.put n2 (.cells [.int .i64 (costI A.co u)] 3 n2 0 0) = w7 at *
  have hlt5 := h5.lt
  have h7 : JL W4 A b n1 n2 n6 dm lp bc (lpL .busy t dm) (Q ++ [u]) w7 :=
    ⟨⟨v, m2.own r1' (by omega), by rw [hst]; exact hRb''⟩, by rw [hst]; exact o2'', m2.own (m1.own h5.o6 (by omega)) (by omega), by rw [m2.blk _ (by omega) (by omega), m1.blk _ (by omega) (by omega)]; exact h5.loop,
      by rw [m2.blk _ (by omega) (by omega), m1.blk _ (by omega) (by omega)]; exact h5.mark, KpL.of (KpL.of h5.keep m1 fun j q => .inl (.inl q)) m2 fun j q => .inl (.inr q), m2.fresh, by omega, by rw [hst]; have := hS.2.1; simp only []; omega, h5.bnd⟩
  exact ⟨trivial, trivial, _, h7.loop, trivial, h7.relp _, ((m05.trans (m1.mono fun j q => .inl (.inl q)) (Within.refl _ _)).trans (m2.mono fun j q => .inl (.inr q)) (Within.refl _ _)).trans ((MutS.put (S := fun j => j = lp) h7.fresh rfl h7.lt _).mono fun j q => .inr q) (Within.refl _ _)⟩
end Go.Proofs

namespace Go.Proofs
open Go Go.RowKit Go.Sim
set_option maxRecDepth 100000
theorem sum32 {S : List Int} (hS : okS S) : S.sum ≤ 32 := by
  have : ∀ L : List Int, (∀ x ∈ L, x ≤ 8) → L.sum ≤ 8 * (L.length : Int) := by
    intro L
    induction L with
    | nil => simp
    | cons x L ih =>
      intro h
      have := ih fun y hy => h y (List.mem_cons_of_mem _ hy)
      have := h x List.mem_cons_self
      rw [List.sum_cons, List.length_cons]; push_cast; omega
  have := this S fun x hx => by
    obtain ⟨i, hi, rfl⟩ := List.getElem_of_mem hx
    have := hS.2.2 i hi
    rw [W_at hi] at this; omega
  have := hS.2.1
  omega
theorem smallS {S : List Int} (hS : okS S) : smallL S := ⟨fun x hx => by
    obtain ⟨i, hi, rfl⟩ := List.getElem_of_mem hx
    have := hS.2.2 i hi
    rw [W_at hi] at this; omega, by have := hS.2.1; omega⟩
theorem yields_L {W0 W4 : AW} {A : AudN} (h : audB A = true) {b : Nat} {p q : Option Addr} {a c : Nat} (hs : ArrOf W0 1 icells (.slice p A.st.length a) A.st) (hcut : Cutt W0 (.slice p A.st.length a) A.st.length) (hc : ArrOf W0 1 icells (.slice q A.co.length c) A.co) {n1 n2 n6 dm lp bc : Nat}
    (hK : ∀ w, KpL W4 n1 n2 w → Keep W0.next W0 w ∧ SearchAt w b p q a c A) (t : Tmps)
    (e2 : ev t (.tmp 2) = ptr n1) (e3 : ev t (.tmp 3) = ptr n2) (e6 : ev t (.tmp 6) = ptr n6) :
    Yields (KpL W4 n1 n2) A.st lp bc (fun j => (j = n1 ∨ j = n2) ∨ j = lp) (fun Q w => JL W4 A b n1 n2 n6 dm lp bc (lpL .ready t dm) Q w) where
  mutC := fun Q w w' h m => h.mut m fun j q => q
  grow := fun Q w w' h g => h.mut (T := fun _ => False) (.of g) fun _ q => q.elim
  yield := fun Q u w hJ hl hf _ _ hbc => yieldL_ok h hs hcut hc hK t e2 e3 e6 Q u w hJ hbc hl hf
theorem rangeL_ok {W0 W4 w5 : AW} {A : AudN} (h : audB A = true) {b : Nat} {p q : Option Addr} {a c : Nat} (hs : ArrOf W0 1 icells (.slice p A.st.length a) A.st) (hcut : Cutt W0 (.slice p A.st.length a) A.st.length) (hc : ArrOf W0 1 icells (.slice q A.co.length c) A.co) {n1 n2 n6 bs bl bh : Nat}
    (hK : ∀ w, KpL W4 n1 n2 w → Keep W0.next W0 w ∧ SearchAt w b p q a c A) (k5 : KpL W4 n1 n2 w5)
    (o1 : Own w5 n1 22 [.slice none 0 0]) (o2 : Own w5 n2 3 [.int .i64 9223372036854775807]) (o6 : Own w5 n6 70 [ptr b]) (L1 : Own w5 bs 70 [ptr b]) (L2 : Own w5 bl 3 [.int .i64 0]) (L3 : Own w5 bh 3 [.int .i64 A.st.sum]) (h12 : n1 < n2) (h24 : n2 < W4.next) (h46 : W4.next ≤ n6) (hbs : n6 < bs) (t : Tmps)
    (e2 : ev t (.tmp 2) = ptr n1) (e3 : ev t (.tmp 3) = ptr n2) (e6 : ev t (.tmp 6) = ptr n6) :
    CallT Try.prog Try.T1 (.fn (.func 111) #[ptr bs, ptr bl, ptr bh]) #[.func (.yield (w5.next + 1)) #[] #[]] ((w5.push (.deferred (some []))).push (.loop (lpL .ready t w5.next)))
      (fun _ w' => JL W4 A b n1 n2 n6 w5.next (w5.next + 1) (w5.next + 1 + 1 + 1) (lpL .ready t w5.next) (samplesL A) w') := by
  obtain ⟨hS, _⟩ := audB_ok h
  have f5 := k5.fresh
  have hn1 : (w5.push (.deferred (some []))).next = w5.next + 1 := AW.next_push _ _
  have hn2 : ((w5.push (.deferred (some []))).push (.loop (lpL .ready t w5.next))).next = w5.next + 1 + 1 := by rw [AW.next_push, hn1]
  have gA := ((Grown.refl f5).push (.deferred (some []))).push (.loop (lpL .ready t w5.next))
  have hkn := k5.next
  have hbl := L1.lt
  have hkA : KpL W4 n1 n2 ((w5.push (.deferred (some []))).push (.loop (lpL .ready t w5.next))) := KpL.of k5 (T := fun _ => False) (.of gA) fun _ q => q.elim
  have J0 : JL W4 A b n1 n2 n6 w5.next (w5.next + 1) (w5.next + 1 + 1 + 1) (lpL .ready t w5.next) [] ((w5.push (.deferred (some []))).push (.loop (lpL .ready t w5.next))) := by
    refine ⟨⟨_, (o1.push _).push _, .inl ⟨rfl, rfl, rfl⟩⟩, (o2.push _).push _, (o6.push _).push _, ?_, ?_, hkA, gA.2, by omega, by show 0 ≤ 4; omega, ⟨h12, h24, h46, by omega, by omega, by omega⟩⟩
    · show ((w5.push (.deferred (some []))).push _).blk (w5.next + 1) = _
      rw [AW.blk_push _ _ _ (Trie.in_ _) (Trie.in_ _), if_pos hn1.symm]
    · show ((w5.push (.deferred (some []))).push _).blk w5.next = _
      rw [AW.blk_push _ _ _ (Trie.in_ _) (Trie.in_ _), if_neg (by omega), AW.blk_push _ _ _ (Trie.in_ _) (Trie.in_ _), if_pos rfl]
  have hE : SeaEnv W0 b p q a c A (fun j => (j = n1 ∨ j = n2) ∨ j = w5.next + 1) W4.next (KpL W4 n1 n2) :=
    ⟨fun w h => (hK w h).1, fun w h => (hK w h).2, fun w w' T h m hT => KpL.of h m fun j q => by rcases hT j q with (z | z) | z; exact .inl z; exact .inr (by omega); exact .inr z⟩
  have hsm := sum32 hS
  have hsn := sum_nn (okS_nn hS)
  have hy := yields_L (dm := w5.next) (lp := w5.next + 1) (bc := w5.next + 1 + 1 + 1) h hs hcut hc hK t e2 e3 e6
  have hbc : ((w5.push (.deferred (some []))).push (.loop (lpL .ready t w5.next))).next + 1 = w5.next + 1 + 1 + 1 := by rw [hn2]
  rw [← hbc] at hy J0 ⊢
  exact (gen_ok hS hE hs hcut (lp := w5.next + 1) (J := fun Q w => JL W4 A b n1 n2 n6 w5.next (w5.next + 1) _ (lpL .ready t w5.next) Q w) _ hkA (by omega) gA.2 ((L1.push _).push _) (by omega) 0 A.st.sum ((L2.push _).push _) ((L3.push _).push _)
    hy (fun j hj => by omega) (by omega) J0 (by omega) (by omega) hsn (by omega) hsn).mono fun _ w' h => h.1
def lstC (A : AudN) : Int := if audB A then (leastX A).1 else 0
def lstL (A : AudN) : List Int := if audB A then (leastX A).2 else []
set_option maxHeartbeats 32000000 in
theorem Least_ok (A : AudN) (p q : Option Addr) (a c : Nat) (w : AW) (f : Fresh w) (hs : ArrOf w 1 icells (.slice p A.st.length a) A.st) (hcut : Cutt w (.slice p A.st.length a) A.st.length) (hc : ArrOf w 1 icells (.slice q A.co.length c) A.co) :
    CallT Try.prog Try.T1 (.fn (.func 26) #[]) #[.agg (audC p q a c A).toArray] w (fun r w' => Grown w w' ∧ ∃ (v : Value), r = .tuple #[v, .int .i64 (lstC A), .int .i64 (audE A)] ∧ AOwnS (fun j => w.next ≤ j) w' 3 1 v (lstL A).length ((lstL A).flatMap icells)) := by
  have g1 := (Grown.refl f).push (.cells (audC p q a c A) 24 w.next 0 0)
  have O1 := Own.new f 24 (audC p q a c A)
  have g2 := g1.push (.cells [.slice none 0 0] 22 (w.next + 1) 0 0)
  have O2 := Own.new g1.2 22 [.slice none 0 0]
  have g3 := g2.push (.cells [.int .i64 0] 3 (w.next + 1 + 1) 0 0)
  have O3 := Own.new g2.2 3 [.int .i64 0]
  simp only [AW.next_push] at O2 O3
  have O1' := (O1.push (.cells [.slice none 0 0] 22 (w.next + 1) 0 0)).push (.cells [.int .i64 0] 3 (w.next + 1 + 1) 0 0)
  have O2' := O2.push (.cells [.int .i64 0] 3 (w.next + 1 + 1) 0 0)
  have nx3 : (((w.push (.cells (audC p q a c A) 24 w.next 0 0)).push (.cells [.slice none 0 0] 22 (w.next + 1) 0 0)).push (.cells [.int .i64 0] 3 (w.next + 1 + 1) 0 0)).next = w.next + 1 + 1 + 1 := by simp only [AW.next_push]
  have hck := Check_ok A p q a c _ g3.2 (hs.grown g3) (hc.grown g3)
  have hse := fun w' (f' : Fresh w') => searchOf_ok A p q a c w' f'
  have hld0 := loadAll O1' (n := 4) rfl (by simp [audC, oneCell])
  have hsa := same_audV p q a c A
  refine callT_codeX [11] rfl Try.func26 rfl Try.s26_eq rfl ?_
  unfold Try.s26
  unfold audC at *
  simp -dsimp -implicitDefEqProofs (maxSteps := 2000000) (disch := first | assumption | omega | (simp only [nx]; omega) | ((repeat refine Fresh.push ?_ _); assumption) | (simp only [smA]; done) | (simp [oneCell, AW.next_push]; done) | fail) only [go_sem, Nat.reduceEqDiff, reduceIte, Nat.reduceAdd, Int.toNat_natCast, Nat.add_zero, Owes_true, Try.results26]
  generalize ((w.push (.cells [.slice p A.st.length a, .slice q A.co.length c, .int .i64 A.lost, .int .i64 A.sure] 24 w.next 0 0)).push (.cells [.slice none 0 0] 22 (w.next + 1) 0 0)).push (.cells [.int .i64 0] 3 (w.next + 1 + 1) 0 0) = w3 at *
  have z0 := O1'.cell (o := 0) rfl rfl
  have z1 := O1'.cell (o := 1) rfl rfl
  have z2 := O1'.cell (o := 2) rfl rfl
  have z3 := O1'.cell (o := 3) rfl rfl
  apply callV_of (e := rfl)
  · exact hck
  rintro _ w4 ⟨rfl, g4⟩
  have gg4 := g3.trans g4
  have P1 := O1'.keep g4.1
  have P2 := O2'.keep g4.1
  have P3 := O3.keep g4.1
  have hkn4 := g4.1.next
  cases hA : audB A with
  | false =>
    have hE : audE A = 100 := by unfold audE; rw [hA]; rfl
    have hL : lstL A = [] := by unfold lstL; rw [hA]; rfl
    have hC : lstC A = 0 := by unfold lstC; rw [hA]; rfl
    have s1 := storeV_own1 (o := 0) (v := .slice none 0 0) P2 (by simp) rfl
    simp only [setL] at s1
    have m1 := MutS.put (S := fun j => j = w.next + 1) g4.2 rfl P2.lt (.cells [.slice none 0 0] 22 (w.next + 1) 0 0)
    have P2a := P2.put [.slice none 0 0]
    have P3a := m1.own P3 (by omega)
    have nn1 : (w4.put (w.next + 1) (.cells [.slice none 0 0] 22 (w.next + 1) 0 0)).next = w4.next := AW.next_put _ _ _
    have d1 : decide ((100 : Int) = 0) = false := rfl
    rw [hE]
    simp -dsimp -implicitDefEqProofs (maxSteps := 2000000) (disch := first | assumption | omega | (simp only [nx]; omega) | ((repeat refine Fresh.push ?_ _); assumption) | (simp only [smA]; done) | (simp [oneCell, AW.next_push]; done) | fail) only [go_sem, Nat.reduceEqDiff, reduceIte, Nat.reduceAdd, Int.toNat_natCast, Nat.add_zero, Owes_true, Try.results26, d1, s1]
    generalize w4.put (w.next + 1) (.cells [.slice none 0 0] 22 (w.next + 1) 0 0) = w5 at *
    have s2 := storeV_own1 (o := 0) (v := .int .i64 0) P3a (by simp) rfl
    simp only [setL] at s2
    have m2 := MutS.put (S := fun j => j = w.next + 1 + 1) m1.fresh rfl P3a.lt (.cells [.int .i64 0] 3 (w.next + 1 + 1) 0 0)
    have P3b := P3a.put [.int .i64 0]
    have P2b := m2.own P2a (by omega)
    simp -dsimp -implicitDefEqProofs (maxSteps := 2000000) (disch := first | assumption | omega | (simp only [nx]; omega) | ((repeat refine Fresh.push ?_ _); assumption) | (simp only [smA]; done) | (simp [oneCell, AW.next_push]; done) | fail) only [go_sem, Nat.reduceEqDiff, reduceIte, Nat.reduceAdd, Int.toNat_natCast, Nat.add_zero, Owes_true, Try.results26, s2]
    generalize w5.put (w.next + 1 + 1) (.cells [.int .i64 0] 3 (w.next + 1 + 1) 0 0) = w6 at *
    have y2 := P2b.cell (o := 0) rfl rfl
    have y3 := P3b.cell (o := 0) rfl rfl
    simp -dsimp -implicitDefEqProofs (maxSteps := 2000000) (disch := first | assumption | omega | (simp only [nx]; omega) | ((repeat refine Fresh.push ?_ _); assumption) | (simp only [smA]; done) | (simp [oneCell, AW.next_push]; done) | fail) only [go_sem, Nat.reduceEqDiff, reduceIte, Nat.reduceAdd, Int.toNat_natCast, Nat.add_zero, Owes_true, Try.results26, y2, y3]
    refine ⟨⟨(gg4.1.trans (m1.keep (fun j q => by omega) gg4.1.next)).trans (m2.keep (fun j q => by omega) (by omega)), m2.fresh⟩, _, by rw [hC], ?_⟩
    rw [hL]
    exact .inl ⟨rfl, rfl, rfl⟩
  | true =>
  have hE : audE A = 0 := by unfold audE; rw [hA]; rfl
  have hL : lstL A = (leastX A).2 := by unfold lstL; rw [hA]; rfl
  have hC : lstC A = (leastX A).1 := by unfold lstC; rw [hA]; rfl
  obtain ⟨hS, hco, _⟩ := audB_ok hA
  have d0 : decide ((0 : Int) = 0) = true := rfl
  rw [hE, hL, hC]
  have x0 := P1.cell (o := 0) rfl rfl
  have x1 := P1.cell (o := 1) rfl rfl
  have x2 := P1.cell (o := 2) rfl rfl
  have x3 := P1.cell (o := 3) rfl rfl
  simp -dsimp -implicitDefEqProofs (maxSteps := 2000000) (disch := first | assumption | omega | (simp only [nx]; omega) | ((repeat refine Fresh.push ?_ _); assumption) | (simp only [smA]; done) | (simp [oneCell, AW.next_push]; done) | fail) only [go_sem, Nat.reduceEqDiff, reduceIte, Nat.reduceAdd, Int.toNat_natCast, Nat.add_zero, Owes_true, Try.results26, d0, x0, x1, x2, x3, Nat.zero_add]
  apply callV_of (e := rfl)
  · exact hse w4 gg4.2
  rintro _ W4 ⟨bs, rfl, hbs, hsea, g5⟩
  have gg5 := gg4.trans g5
  have hkn5 := g5.1.next
  have R1 := P1.keep g5.1
  have R2 := P2.keep g5.1
  have R3 := P3.keep g5.1
  have g6 := (Grown.refl g5.2).push (.cells [.pointer none] 70 W4.next 0 0)
  have O6 := Own.new g5.2 70 [.pointer none]
  have s6 := storeV_own1 (o := 0) (v := ptr bs) O6 (by simp) rfl
  simp only [setL] at s6
  have m6 := MutS.put (S := fun j => j = W4.next) g6.2 rfl O6.lt (.cells [ptr bs] 70 W4.next 0 0)
  have O6' := O6.put [ptr bs]
  have R1' := m6.own (R1.keep g6.1) (by have := R1.lt; omega)
  have R2' := m6.own (R2.keep g6.1) (by omega)
  have R3' := m6.own (R3.keep g6.1) (by omega)
  have k6 : KpL W4 (w.next + 1) (w.next + 1 + 1) ((W4.push (.cells [.pointer none] 70 W4.next 0 0)).put W4.next (.cells [ptr bs] 70 W4.next 0 0)) := KpL.of (KpL.of (MutS.refl g5.2) (T := fun _ => False) (.of g6) fun _ q => q.elim) m6 fun j q => .inr (by omega)
  have nx6 : ((W4.push (.cells [.pointer none] 70 W4.next 0 0)).put W4.next (.cells [ptr bs] 70 W4.next 0 0)).next = W4.next + 1 := by rw [AW.next_put, AW.next_push]
  simp -dsimp -implicitDefEqProofs (maxSteps := 2000000) (disch := first | assumption | omega | (simp only [nx]; omega) | ((repeat refine Fresh.push ?_ _); assumption) | (simp only [smA]; done) | (simp [oneCell, AW.next_push]; done) | fail) only [go_sem, Nat.reduceEqDiff, reduceIte, Nat.reduceAdd, Int.toNat_natCast, Nat.add_zero, Owes_true, Try.results26, s6]
  generalize (W4.push (.cells [.pointer none] 70 W4.next 0 0)).put W4.next (.cells [ptr bs] 70 W4.next 0 0) = w6 at *
  have s7 := storeV_own1 (o := 0) (v := .int .i64 9223372036854775807) R3' (by simp) rfl
  simp only [setL] at s7
  have m7 := MutS.put (S := fun j => j = w.next + 1 + 1) k6.fresh rfl R3'.lt (.cells [.int .i64 9223372036854775807] 3 (w.next + 1 + 1) 0 0)
  have T3 := R3'.put [.int .i64 9223372036854775807]
  have T2 := m7.own R2' (by omega)
  have T1 := m7.own R1' (by omega)
  have T6 := m7.own O6' (by omega)
  have k7 : KpL W4 (w.next + 1) (w.next + 1 + 1) (w6.put (w.next + 1 + 1) (.cells [.int .i64 9223372036854775807] 3 (w.next + 1 + 1) 0 0)) := KpL.of k6 m7 fun j q => .inl (.inr q)
  have nx7 : (w6.put (w.next + 1 + 1) (.cells [.int .i64 9223372036854775807] 3 (w.next + 1 + 1) 0 0)).next = W4.next + 1 := by rw [AW.next_put]; exact nx6
  simp -dsimp -implicitDefEqProofs (maxSteps := 2000000) (disch := first | assumption | omega | (simp only [nx]; omega) | ((repeat refine Fresh.push ?_ _); assumption) | (simp only [smA]; done) | (simp [oneCell, AW.next_push]; done) | fail) only [go_sem, Nat.reduceEqDiff, reduceIte, Nat.reduceAdd, Int.toNat_natCast, Nat.add_zero, Owes_true, Try.results26, s7]
  generalize w6.put (w.next + 1 + 1) (.cells [.int .i64 9223372036854775807] 3 (w.next + 1 + 1) 0 0) = w7 at *
  have hk7 : Keep w.next w w7 := ⟨fun i hi => (k7.blk i (by omega) (by omega)).trans (gg5.1.blk i hi), fun i hi => (k7.fam i (by omega) (by omega)).trans (gg5.1.fam i hi), by have := gg5.1.next; have := k7.next; omega⟩
  have q6 := T6.cell (o := 0) rfl rfl
  have q1 := T1.cell (o := 0) rfl rfl
  have hsum := sum_ok A.st _ w7 (hs.kept hk7)
  simp -dsimp -implicitDefEqProofs (maxSteps := 2000000) (disch := first | assumption | omega | (simp only [nx]; omega) | ((repeat refine Fresh.push ?_ _); assumption) | (simp only [smA]; done) | (simp [oneCell, AW.next_push]; done) | fail) only [go_sem, Nat.reduceEqDiff, reduceIte, Nat.reduceAdd, Int.toNat_natCast, Nat.add_zero, Owes_true, Try.results26, q6, q1, Nat.zero_add]
  apply callV_of (e := rfl)
  · exact hsum
  rintro _ _ ⟨rfl, sm, rfl, hsm⟩
  obtain rfl := hsm (smallS hS)
  have hle7 : WLe w7 w7 := (Grown.refl k7.fresh).1.wle k7.fresh
  simp -dsimp -implicitDefEqProofs (maxSteps := 2000000) (disch := first | assumption | omega | (simp only [nx]; omega) | ((repeat refine Fresh.push ?_ _); assumption) | (simp only [smA]; done) | (simp [oneCell, AW.next_push]; done) | fail) only [go_sem, Nat.reduceEqDiff, reduceIte, Nat.reduceAdd, Int.toNat_natCast, Nat.add_zero, Owes_true, Try.results26, hle7, q6, q1]
  apply callV_of (e := rfl)
  · exact lists_ok bs 0 A.st.sum w7 k7.fresh
  rintro _ w8 ⟨rfl, L1, L2, L3, g8, n8⟩
  have hle8 : WLe w7 w8 := g8.1.wle k7.fresh
  rw [nx7] at L1 L2 L3 n8
  simp -dsimp -implicitDefEqProofs (maxSteps := 2000000) (disch := first | assumption | omega | (simp only [nx]; omega) | ((repeat refine Fresh.push ?_ _); assumption) | (simp only [smA]; done) | (simp [oneCell, AW.next_push]; done) | fail) only [go_sem, Nat.reduceEqDiff, reduceIte, Nat.reduceAdd, Int.toNat_natCast, Nat.add_zero, Owes_true, Try.results26, hle8, nx7]
  have hK : ∀ w', KpL W4 (w.next + 1) (w.next + 1 + 1) w' → Keep w.next w w' ∧ SearchAt w' bs p q a c A := fun w' h => ⟨⟨fun i hi => (h.blk i (by omega) (by omega)).trans (gg5.1.blk i hi), fun i hi => (h.fam i (by omega) (by omega)).trans (gg5.1.fam i hi), by have := gg5.1.next; have := h.next; omega⟩, h.own hsea (by omega)⟩
  have k8 : KpL W4 (w.next + 1) (w.next + 1 + 1) w8 := KpL.of k7 (T := fun _ => False) (.of g8) fun _ q => q.elim
  refine codeT_range rfl (by simp -dsimp -implicitDefEqProofs (maxSteps := 2000000) (disch := first | assumption | omega | (simp only [nx]; omega) | ((repeat refine Fresh.push ?_ _); assumption) | (simp only [smA]; done) | (simp [oneCell, AW.next_push]; done) | fail) only [go_sem, Nat.reduceEqDiff, reduceIte, Nat.reduceAdd, Int.toNat_natCast, Nat.add_zero, Owes_true]; rfl) ?_
  refine (rangeL_ok hA hs hcut hc hK k8 (T2.keep g8.1) (T3.keep g8.1) (T6.keep g8.1) L1 L2 L3 (by omega) (by omega) (Nat.le_refl _) (by omega) _ (by simp -dsimp -implicitDefEqProofs (maxSteps := 2000000) (disch := first | assumption | omega | (simp only [nx]; omega) | ((repeat refine Fresh.push ?_ _); assumption) | (simp only [smA]; done) | (simp [oneCell, AW.next_push]; done) | fail) only [go_sem, Nat.reduceEqDiff, reduceIte, Nat.reduceAdd, Int.toNat_natCast, Nat.add_zero, Owes_true]) (by simp -dsimp -implicitDefEqProofs (maxSteps := 2000000) (disch := first | assumption | omega | (simp only [nx]; omega) | ((repeat refine Fresh.push ?_ _); assumption) | (simp only [smA]; done) | (simp [oneCell, AW.next_push]; done) | fail) only [go_sem, Nat.reduceEqDiff, reduceIte, Nat.reduceAdd, Int.toNat_natCast, Nat.add_zero, Owes_true]) (by simp -dsimp -implicitDefEqProofs (maxSteps := 2000000) (disch := first | assumption | omega | (simp only [nx]; omega) | ((repeat refine Fresh.push ?_ _); assumption) | (simp only [smA]; done) | (simp [oneCell, AW.next_push]; done) | fail) only [go_sem, Nat.reduceEqDiff, reduceIte, Nat.reduceAdd, Int.toNat_natCast, Nat.add_zero, Owes_true])).mono ?_
  rintro _ w9 hI
  refine ⟨_, hI.loop, rfl, rfl, ?_⟩
  intro W2 hW2
  obtain ⟨lpx, hIW⟩ : ∃ lpx, JL W4 A bs (w.next + 1) (w.next + 1 + 1) W4.next w8.next (w8.next + 1) (w8.next + 1 + 1 + 1) lpx (samplesL A) W2 := ⟨_, by rw [hW2]; exact hI.relp _⟩
  clear hW2 hI
  have hXd : leastF A (samplesL A) = leastX A := rfl
  obtain ⟨v, i4, iR⟩ := hIW.row
  have i5 := hIW.o2
  have hmk := hIW.mark
  have hlt2 := hIW.lt
  have hkp := hIW.keep
  have hfr := hIW.fresh
  have hXl := hIW.len
  rw [hXd] at iR i5 hXl
  generalize leastX A = X at *
  clear hIW
  have hv1 : oneCell v = true := by
    rcases iR with ⟨e, _⟩ | ⟨_, _, e, _⟩ <;> rw [e] <;> rfl
  have hsv : same 12 v v = true := by
    rcases iR with ⟨e, _⟩ | ⟨_, _, e, _⟩ <;> rw [e] <;> simp [same]
  have ld4 := i4.cell (o := 0) rfl hv1
  have ld5 := i5.cell (o := 0) rfl rfl
  have st4 := storeV_own1 (o := 0) (v := v) i4 (by simp) hv1
  simp only [setL] at st4
  have m4 := MutS.put (S := fun j => j = w.next + 1) hfr rfl i4.lt (.cells [v] 22 (w.next + 1) 0 0)
  have j4 := i4.put [v]
  have nn4 : (W2.put (w.next + 1) (.cells [v] 22 (w.next + 1) 0 0)).next = W2.next := AW.next_put _ _ _
  have jR := iR.other m4 fun j hj q => by omega
  have hkn8 := g8.1.next
  generalize W2.put (w.next + 1) (.cells [v] 22 (w.next + 1) 0 0) = W3 at *
  have j5 := m4.own i5 (by omega)
  have ld5' := j5.cell (o := 0) rfl rfl
  have st5 := storeV_own1 (o := 0) (v := .int .i64 X.1) j5 (by simp) rfl
  simp only [setL] at st5
  have m5 := MutS.put (S := fun j => j = w.next + 1 + 1) m4.fresh rfl j5.lt (.cells [.int .i64 X.1] 3 (w.next + 1 + 1) 0 0)
  have q5 := j5.put [.int .i64 X.1]
  have nn5 : (W3.put (w.next + 1 + 1) (.cells [.int .i64 X.1] 3 (w.next + 1 + 1) 0 0)).next = W3.next := AW.next_put _ _ _
  have jR' := jR.other m5 fun j hj q => by omega
  simp -dsimp -implicitDefEqProofs (maxSteps := 2000000) (disch := first | assumption | omega | (simp only [nx]; omega) | ((repeat refine Fresh.push ?_ _); assumption) | (simp only [smA]; done) | (simp [oneCell, AW.next_push]; done) | fail) only [go_sem, Nat.reduceEqDiff, reduceIte, Nat.reduceAdd, Int.toNat_natCast, Nat.add_zero, Owes_true, Try.results26]
  show CodeT _ _ _ _ _ _ _ _
  refine codeT_regX Try.x26r11_eq Try.x26r11_kinds ?_
  unfold Try.x26r11
  simp -dsimp -implicitDefEqProofs (maxSteps := 2000000) (disch := first | assumption | omega | (simp only [nx]; omega) | ((repeat refine Fresh.push ?_ _); assumption) | (simp only [smA]; done) | (simp [oneCell, AW.next_push]; done) | fail) only [go_sem, Nat.reduceEqDiff, reduceIte, Nat.reduceAdd, Int.toNat_natCast, Nat.add_zero, Owes_true, ld4, ld5, hsv, st4]
  refine ⟨⟨.inr fun inf hinf => ?_, .inl (show Nat.testBit 1 0 = true by decide), trivial⟩, ?_⟩
  · rw [Try.ty3] at hinf
    injection hinf with hinf
    subst hinf
    simp -dsimp -implicitDefEqProofs (maxSteps := 2000000) (disch := first | assumption | omega | (simp only [nx]; omega) | ((repeat refine Fresh.push ?_ _); assumption) | (simp only [smA]; done) | (simp [oneCell, AW.next_push]; done) | fail) only [go_sem, Nat.reduceEqDiff, reduceIte, Nat.reduceAdd, Int.toNat_natCast, Nat.add_zero, Owes_true, ld5', ld5]
  simp -dsimp -implicitDefEqProofs (maxSteps := 2000000) (disch := first | assumption | omega | (simp only [nx]; omega) | ((repeat refine Fresh.push ?_ _); assumption) | (simp only [smA]; done) | (simp [oneCell, AW.next_push]; done) | fail) only [go_sem, Nat.reduceEqDiff, reduceIte, Nat.reduceAdd, Int.toNat_natCast, Nat.add_zero, Owes_true, ld4, ld5, hsv, st5]
  generalize W3.put (w.next + 1 + 1) (.cells [.int .i64 X.1] 3 (w.next + 1 + 1) 0 0) = W5 at *
  refine ⟨⟨.inl (show Nat.testBit 7 1 = true by decide), .inl (show Nat.testBit 7 0 = true by decide), trivial⟩, ?_⟩
  simp -dsimp -implicitDefEqProofs (maxSteps := 2000000) (disch := first | assumption | omega | (simp only [nx]; omega) | ((repeat refine Fresh.push ?_ _); assumption) | (simp only [smA]; done) | (simp [oneCell, AW.next_push]; done) | fail) only [go_sem, Nat.reduceEqDiff, reduceIte, Nat.reduceAdd, Int.toNat_natCast, Nat.add_zero, Owes_true, Try.results26]
  refine Left_one ?_ ?_
  · rw [m5.blk _ (by omega) (by omega), m4.blk _ (by omega) (by omega)]; exact hmk
  have m9 := MutS.put (S := fun j => j = w8.next) m5.fresh rfl (by omega) (.deferred none)
  have y4 := (m9.own (m5.own j4 (by omega)) (by omega)).cell (o := 0) rfl hv1
  have y5 := (m9.own q5 (by omega)).cell (o := 0) rfl rfl
  have jR9 := jR'.other m9 fun j hj q => by omega
  have kk : Keep w.next w _ := ((hK _ hkp).1.trans (m4.keep (fun j q => by omega) (by have := hkp.next; omega))).trans ((m5.keep (fun j q => by omega) (by have := hkp.next; omega)).trans (m9.keep (fun j q => by omega) (by have := hkp.next; omega)))
  simp -dsimp -implicitDefEqProofs (maxSteps := 2000000) (disch := first | assumption | omega | (simp only [nx]; omega) | ((repeat refine Fresh.push ?_ _); assumption) | (simp only [smA]; done) | (simp [oneCell, AW.next_push]; done) | fail) only [go_sem, Nat.reduceEqDiff, reduceIte, Nat.reduceAdd, Int.toNat_natCast, Nat.add_zero, Owes_true, Try.results26, y4, y5]
  exact ⟨⟨kk, m9.fresh⟩, v, rfl, jR9.mono fun j hj => by omega⟩
end Go.Proofs

namespace Go.Proofs
open Go Go.RowKit Go.Sim
set_option maxRecDepth 100000
end Go.Proofs

namespace Go.Proofs
open Go Go.RowKit Go.Sim
set_option maxRecDepth 100000
end Go.Proofs

namespace Go.Proofs
open Go Go.RowKit Go.Sim
set_option maxRecDepth 100000
end Go.Proofs

namespace Go.Proofs
open Go Go.RowKit Go.Sim
set_option maxRecDepth 100000
theorem Try.und22 : Try.prog.underlying 22 = some (.slice 3) := by kernel_rfl
theorem Try.und4 : Try.prog.underlying 4 = some .bool := by kernel_rfl
theorem Try.cells3 : Try.prog.cellsOf 3 = 1 := by kernel_rfl
theorem given_int {w : AW} {n : Nat} {cs : List Value} (h : Hd Try.prog w n 3 cs) : ∃ x : Int, cs = icells x ∧ -9223372036854775808 ≤ x ∧ x ≤ 9223372036854775807 := by
  cases n with
  | zero => exact h.elim
  | succ n =>
    simp only [Hd, Try.und3] at h
    obtain ⟨i, rfl, h1, h2⟩ := h
    exact ⟨i, rfl, h1, h2⟩
theorem rows_ofR {R : Int → Prop} {rows : List (List Value)} (h : ∀ r ∈ rows, ∃ x : Int, r = icells x ∧ R x) : ∃ xs : List Int, rows = xs.map icells ∧ ∀ x ∈ xs, R x := by
  induction rows with
  | nil => exact ⟨[], rfl, fun _ h => by cases h⟩
  | cons r rows ih =>
    obtain ⟨x, hx, hr⟩ := h r List.mem_cons_self
    obtain ⟨xs, hxs, hr2⟩ := ih fun q hq => h q (List.mem_cons_of_mem _ hq)
    exact ⟨x :: xs, by rw [hx, hxs]; rfl, fun y hy => by
      rcases List.mem_cons.1 hy with rfl | hy
      · exact hr
      · exact hr2 y hy⟩
def I64 (x : Int) : Prop := -9223372036854775808 ≤ x ∧ x ≤ 9223372036854775807
end Go.Proofs
