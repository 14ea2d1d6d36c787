/- This program: its code, contracts, numbers, part 7. -/
import Derived.Test.YtlilncofnckgdaaPaf
import Derived.Test.YtlilncofnckgdaaNc
import Derived.Test.YtlilncofnckgdaaRows
import Derived.ProofKit
import Derived.SizedLaws
set_option linter.unusedVariables false
set_option linter.unusedSimpArgs false
namespace Go.Proofs
open Go Go.RowKit Go.Sim
set_option maxRecDepth 100000
end Go.Proofs

namespace Go.Proofs
open Go Go.RowKit Go.Sim
set_option maxRecDepth 100000
theorem ring65 (x : Int) : ∃ r : Nat, r < 65 ∧ (if (65 : Int) ≤ 0 then 0 else x % 65) = (r : Int) := by
  rw [if_neg (by omega)]
  exact ⟨(x % 65).toNat, by omega, by omega⟩
theorem RowS.cut {B : Nat} {w : AW} {v : Value} {L : List Int} (h : RowS (fun j => B ≤ j) w v L) {a : Nat} (ha : a ≤ L.length) (hl : L.length ≤ 1048576) : ∃ p c, sliceV w 1 v none (some (.int .i64 (a : Int))) = some (.slice p a c) ∧ ArrOf w 1 icells (.slice p a c) (L.take a) := by
  have hA : ArrOf w 1 icells v L := RowA.arr (B := B) h hl
  rcases h with ⟨rfl, h0, _⟩ | ⟨b, r, rfl, _, _, _, _, hb, _⟩
  · have hL : L = [] := List.length_eq_zero_iff.1 h0
    subst hL
    obtain rfl : a = 0 := by simpa using ha
    exact ⟨none, 0, rfl, ArrOf.nil _ _ _⟩
  · refine ⟨some ⟨b, 0, none⟩, L.length, ?_, ArrOf.takeI hA ha⟩
    have b1 : Nat.ble 0 a = true := Nat.ble_eq_true_of_le (Nat.zero_le _)
    have b2 : Nat.ble a L.length = true := Nat.ble_eq_true_of_le ha
    show sliceV w 1 (.slice (some ⟨b, 0, none⟩) L.length L.length) none (some (.int .i64 (Int.ofNat a))) = _
    have b3 : Nat.beq 1 1 = true := rfl
    simp only [sliceV, natOr, b1, b2, hb, Bool.and_self, b3, Bool.true_or, Nat.zero_mul, Nat.zero_add, Nat.sub_zero]
theorem ic_getW : ∀ {L : List Int} {r : Nat} (_ : r < L.length), (L.flatMap icells)[r]? = some (.int .i64 (W L r))
  | x :: L, 0, _ => rfl
  | x :: L, r + 1, h => by
    have := ic_getW (L := L) (r := r) (by simpa using h)
    show (([Value.int .i64 x] ++ L.flatMap icells))[r + 1]? = some (.int .i64 (W L r))
    exact this
theorem kepB_run {S T : List Int} (hp : perB S = true) (hl : (T.length : Int) ≤ 64) (hr : runB S zero5 T = true) : kepV S T = true ∧ kepE S T = 0 := by
  have hk : kepB S T = true := by unfold kepB; rw [hp, decide_eq_true hl, run_rooms hr]; rfl
  exact ⟨by unfold kepV; rw [hk, hr]; rfl, by unfold kepE; rw [hk]; rfl⟩
set_option maxHeartbeats 64000000 in
theorem forever_law (w : AW) (xs : List Value) (f : Fresh w) (h : HdAll Try.prog w [22, 22, 3] xs) : CallT Try.prog Try.T1 (.fn (.func 13) #[]) xs.toArray w fun v _ => v = .bool true := by
  cases h with
  | cons n1 h1 h =>
  cases h with
  | cons n2 h2 h =>
  cases h with
  | cons n3 h3 h =>
  cases h
  rename_i u v z
  obtain ⟨S, hS, _⟩ := given_intsV h1
  obtain ⟨T, hT, _⟩ := given_intsV h2
  obtain ⟨x0, rfl, _, _⟩ := given_num h3
  clear h1 h2 h3
  obtain ⟨pu, cu, rfl, _⟩ := id hS.open
  obtain ⟨pv, cv, rfl, _⟩ := id hT.open
  show CallT Try.prog Try.T1 (.fn (.func 13) #[]) #[.slice pu S.length cu, .slice pv T.length cv, .int .i64 x0] w _
  have d00 : decide ((0 : Int) = 0) = true := rfl
  have d105 : decide ((105 : Int) = 105) = true := rfl
  have d40 : decide ((4 : Int) = 0) = false := rfl
  have d44 : decide ((4 : Int) = 4) = true := rfl
  have d04 : decide ((0 : Int) = 4) = false := rfl
  have d0105 : decide ((0 : Int) = 105) = false := rfl
  have d4105 : decide ((4 : Int) = 105) = false := rfl
  obtain ⟨D, hD, hDe⟩ := ring65 x0
  refine callT_code rfl Try.func13 rfl Try.s13_eq rfl ?_
  unfold Try.s13
  simp -dsimp -implicitDefEqProofs (maxSteps := 2000000) (disch := first | assumption | omega | (simp only [nx]; omega) | ((repeat refine Fresh.push ?_ _); assumption) | (simp only [smA]; done) | (simp [oneCell, AW.next_push]; done) | fail) only [go_sem, Nat.reduceEqDiff, reduceIte, Nat.reduceAdd, Int.toNat_natCast, Nat.add_zero, Owes_true, Try.results13]
  apply callV_of (e := rfl)
  · exact Ring_ok x0 65 (by omega) w
  rintro _ _ ⟨rfl, rfl⟩
  rw [hDe]
  have hin : inR 0 (D : Int) 64 = true := (inR_iff _ _ _).2 (by omega)
  simp -dsimp -implicitDefEqProofs (maxSteps := 2000000) (disch := first | assumption | omega | (simp only [nx]; omega) | ((repeat refine Fresh.push ?_ _); assumption) | (simp only [smA]; done) | (simp [oneCell, AW.next_push]; done) | fail) only [go_sem, Nat.reduceEqDiff, reduceIte, Nat.reduceAdd, Int.toNat_natCast, Nat.add_zero, Owes_true, Try.results13]
  apply callV_of (e := rfl)
  · exact Turns_ok S (D : Int) _ w f hS
  rintro _ w1 ⟨g1, y, X, e, rfl, hTP, hRX⟩
  have hy1 := hRX.one
  simp -dsimp -implicitDefEqProofs (maxSteps := 2000000) (disch := first | assumption | omega | (simp only [nx]; omega) | ((repeat refine Fresh.push ?_ _); assumption) | (simp only [smA]; done) | (simp [oneCell, AW.next_push]; done) | fail) only [go_sem, Nat.reduceEqDiff, reduceIte, Nat.reduceAdd, Int.toNat_natCast, Nat.add_zero, Owes_true, Try.results13, hy1]
  apply callV_of (e := rfl)
  · exact Lasts_ok S _ w1 g1.2 (hS.grown g1)
  rintro _ w2 ⟨g2, n, e', rfl, hLa⟩
  have gg2 := g1.trans g2
  have hRX2 : RowS (fun j => w.next ≤ j) w2 y X := AOwnS.keep hRX g2.1
  rcases hTP with ⟨hp, rfl, rfl⟩ | ⟨_, q, _⟩ | ⟨hp, _, hni, rfl, rfl⟩ | ⟨hp, _, hinf, rfl, hXl, hXF⟩
  · obtain ⟨rfl, rfl⟩ : n = 0 ∧ e' = 105 := by
      rcases hLa with ⟨_, a, b⟩ | ⟨q, _⟩ | ⟨q, _⟩
      · exact ⟨a, b⟩
      · rw [hp] at q; cases q
      · rw [hp] at q; cases q
    have hyA : ArrOf w2 1 icells y [] := AOwn.arr (AOwnS.own hRX2) icells_len (by simp)
    obtain ⟨py, ny, cy, rfl, hn, _⟩ := hyA
    obtain rfl : 0 = ny := by simpa using hn
    have dn : decide (((0 : Nat) : Int) = 0) = true := rfl
    simp -dsimp -implicitDefEqProofs (maxSteps := 2000000) (disch := first | assumption | omega | (simp only [nx]; omega) | ((repeat refine Fresh.push ?_ _); assumption) | (simp only [smA]; done) | (simp [oneCell, AW.next_push]; done) | fail) only [go_sem, Nat.reduceEqDiff, reduceIte, Nat.reduceAdd, Int.toNat_natCast, Nat.add_zero, Owes_true, Try.results13, d105, dn]
    apply callV_of (e := rfl)
    · exact callT_told (Q := fun v w' => v = .bool true ∧ w2 = w') (v := .bool true) (w' := w2) rfl ⟨rfl, rfl⟩
    rintro _ _ ⟨rfl, rfl⟩
    simp -dsimp -implicitDefEqProofs (maxSteps := 2000000) (disch := first | assumption | omega | (simp only [nx]; omega) | ((repeat refine Fresh.push ?_ _); assumption) | (simp only [smA]; done) | (simp [oneCell, AW.next_push]; done) | fail) only [go_sem, Nat.reduceEqDiff, reduceIte, Nat.reduceAdd, Int.toNat_natCast, Nat.add_zero, Owes_true, Try.results13]
  · rw [hin] at q; cases q
  · obtain ⟨rfl, hn0, hn1, hmx⟩ : e' = 0 ∧ 0 ≤ n ∧ n ≤ 32768 ∧ maxP S zero5 n.toNat := by
      rcases hLa with ⟨q, _⟩ | ⟨_, q, _⟩ | ⟨_, a, b, c, d⟩
      · rw [hp] at q; cases q
      · exact absurd q hni
      · exact ⟨a, b, c, d⟩
    have h5 := (perB_iff.1 hp).1
    simp -dsimp -implicitDefEqProofs (maxSteps := 2000000) (disch := first | assumption | omega | (simp only [nx]; omega) | ((repeat refine Fresh.push ?_ _); assumption) | (simp only [smA]; done) | (simp [oneCell, AW.next_push]; done) | fail) only [go_sem, Nat.reduceEqDiff, reduceIte, Nat.reduceAdd, Int.toNat_natCast, Nat.add_zero, Owes_true, Try.results13, d4105]
    apply callV_of (e := rfl)
    · exact Keeps_ok S T _ _ w2 gg2.2 (hS.grown gg2) (hT.grown gg2)
    rintro _ w3 ⟨rfl, g3⟩
    have gg3 := gg2.trans g3
    have hlen : kepE S T = 0 → kepV S T = true → ¬ (T.length : Int) > n := fun a b => by
      have hk : runB S zero5 T = true := by
        unfold kepV at b
        rw [Bool.and_eq_true] at b
        exact b.2
      have := hmx.2 T hk
      omega
    have hnl : ¬ n < 0 := by omega
    apply joinC (F := fun t => ev t (.tmp 0) = .slice pu S.length cu ∧ ev t (.tmp 10) = .int .i64 n) (w := w3)
    case mainC =>
      intro go
      by_cases hE : kepE S T = 0
      case neg =>
        have hd : decide (kepE S T = 0) = false := decide_eq_false hE
        simp -dsimp -implicitDefEqProofs (maxSteps := 2000000) (disch := first | assumption | omega | (simp only [nx]; omega) | ((repeat refine Fresh.push ?_ _); assumption) | (simp only [smA]; done) | (simp [oneCell, AW.next_push]; done) | fail) only [go_sem, Nat.reduceEqDiff, reduceIte, Nat.reduceAdd, Int.toNat_natCast, Nat.add_zero, Owes_true, Try.results13, d40, d44, d00, hnl, hd]
        exact joinC_use go ⟨by (simp -dsimp -implicitDefEqProofs (maxSteps := 2000000) (disch := first | assumption | omega | (simp only [nx]; omega) | ((repeat refine Fresh.push ?_ _); assumption) | (simp only [smA]; done) | (simp [oneCell, AW.next_push]; done) | fail) only [go_sem, Nat.reduceEqDiff, reduceIte, Nat.reduceAdd, Int.toNat_natCast, Nat.add_zero, Owes_true]; try rfl), by (simp -dsimp -implicitDefEqProofs (maxSteps := 2000000) (disch := first | assumption | omega | (simp only [nx]; omega) | ((repeat refine Fresh.push ?_ _); assumption) | (simp only [smA]; done) | (simp [oneCell, AW.next_push]; done) | fail) only [go_sem, Nat.reduceEqDiff, reduceIte, Nat.reduceAdd, Int.toNat_natCast, Nat.add_zero, Owes_true]; try rfl)⟩
      have hd : decide (kepE S T = 0) = true := decide_eq_true hE
      cases hV : kepV S T with
      | false =>
        simp -dsimp -implicitDefEqProofs (maxSteps := 2000000) (disch := first | assumption | omega | (simp only [nx]; omega) | ((repeat refine Fresh.push ?_ _); assumption) | (simp only [smA]; done) | (simp [oneCell, AW.next_push]; done) | fail) only [go_sem, Nat.reduceEqDiff, reduceIte, Nat.reduceAdd, Int.toNat_natCast, Nat.add_zero, Owes_true, Try.results13, d40, d44, d00, hnl, hd]
        exact joinC_use go ⟨by (simp -dsimp -implicitDefEqProofs (maxSteps := 2000000) (disch := first | assumption | omega | (simp only [nx]; omega) | ((repeat refine Fresh.push ?_ _); assumption) | (simp only [smA]; done) | (simp [oneCell, AW.next_push]; done) | fail) only [go_sem, Nat.reduceEqDiff, reduceIte, Nat.reduceAdd, Int.toNat_natCast, Nat.add_zero, Owes_true]; try rfl), by (simp -dsimp -implicitDefEqProofs (maxSteps := 2000000) (disch := first | assumption | omega | (simp only [nx]; omega) | ((repeat refine Fresh.push ?_ _); assumption) | (simp only [smA]; done) | (simp [oneCell, AW.next_push]; done) | fail) only [go_sem, Nat.reduceEqDiff, reduceIte, Nat.reduceAdd, Int.toNat_natCast, Nat.add_zero, Owes_true]; try rfl)⟩
      | true =>
        have hll := hlen hE hV
        simp -dsimp -implicitDefEqProofs (maxSteps := 2000000) (disch := first | assumption | omega | (simp only [nx]; omega) | ((repeat refine Fresh.push ?_ _); assumption) | (simp only [smA]; done) | (simp [oneCell, AW.next_push]; done) | fail) only [go_sem, Nat.reduceEqDiff, reduceIte, Nat.reduceAdd, Int.toNat_natCast, Nat.add_zero, Owes_true, Try.results13, d40, d44, d00, hnl, hd, hll]
        exact joinC_use go ⟨by (simp -dsimp -implicitDefEqProofs (maxSteps := 2000000) (disch := first | assumption | omega | (simp only [nx]; omega) | ((repeat refine Fresh.push ?_ _); assumption) | (simp only [smA]; done) | (simp [oneCell, AW.next_push]; done) | fail) only [go_sem, Nat.reduceEqDiff, reduceIte, Nat.reduceAdd, Int.toNat_natCast, Nat.add_zero, Owes_true]; try rfl), by (simp -dsimp -implicitDefEqProofs (maxSteps := 2000000) (disch := first | assumption | omega | (simp only [nx]; omega) | ((repeat refine Fresh.push ?_ _); assumption) | (simp only [smA]; done) | (simp [oneCell, AW.next_push]; done) | fail) only [go_sem, Nat.reduceEqDiff, reduceIte, Nat.reduceAdd, Int.toNat_natCast, Nat.add_zero, Owes_true]; try rfl)⟩
    case restC =>
    rintro t ⟨e0, e10⟩
    unfold Try.s13_c20
    simp -dsimp -implicitDefEqProofs (maxSteps := 2000000) (disch := first | assumption | omega | (simp only [nx]; omega) | ((repeat refine Fresh.push ?_ _); assumption) | (simp only [smA]; done) | (simp [oneCell, AW.next_push]; done) | fail) only [go_sem, Nat.reduceEqDiff, reduceIte, Nat.reduceAdd, Int.toNat_natCast, Nat.add_zero, Owes_true, Try.results13, e0, e10]
    refine loopR (fun k t ds w4 => ∃ i : Nat, i ≤ S.length ∧ k = S.length - i ∧ ds = [] ∧ ev t (.tmp 0) = .slice pu S.length cu ∧ ev t (.tmp 10) = .int .i64 n ∧ ev t (.tmp 20) = .int .i64 (i : Int) ∧ Keep w.next w w4 ∧ Fresh w4) (S.length) ?_ ?_
    · refine ⟨0, by omega, by omega, rfl, ?_, ?_, ?_, gg3.1, gg3.2⟩ <;> simp -dsimp -implicitDefEqProofs (maxSteps := 2000000) (disch := first | assumption | omega | (simp only [nx]; omega) | ((repeat refine Fresh.push ?_ _); assumption) | (simp only [smA]; done) | (simp [oneCell, AW.next_push]; done) | fail) only [go_sem, Nat.reduceEqDiff, reduceIte, Nat.reduceAdd, Int.toNat_natCast, Nat.add_zero, Owes_true, e0, e10] <;> rfl
    rintro k t ds w4 ⟨i, hii, rfl, rfl, e0, e10, e20, k4, f4⟩
    by_cases hlt : (i : Int) < (S.length : Int)
    case neg =>
      simp -dsimp -implicitDefEqProofs (maxSteps := 2000000) (disch := first | assumption | omega | (simp only [nx]; omega) | ((repeat refine Fresh.push ?_ _); assumption) | (simp only [smA]; done) | (simp [oneCell, AW.next_push]; done) | fail) only [go_sem, Nat.reduceEqDiff, reduceIte, Nat.reduceAdd, Int.toNat_natCast, Nat.add_zero, Owes_true, Try.results13, e0, e10, e20, hlt]
      apply callV_of (e := rfl)
      · exact callT_told (Q := fun v w' => v = .bool true ∧ w4 = w') (v := .bool true) (w' := w4) rfl ⟨rfl, rfl⟩
      rintro _ _ ⟨rfl, rfl⟩
      simp -dsimp -implicitDefEqProofs (maxSteps := 2000000) (disch := first | assumption | omega | (simp only [nx]; omega) | ((repeat refine Fresh.push ?_ _); assumption) | (simp only [smA]; done) | (simp [oneCell, AW.next_push]; done) | fail) only [go_sem, Nat.reduceEqDiff, reduceIte, Nat.reduceAdd, Int.toNat_natCast, Nat.add_zero, Owes_true, Try.results13]
    have hlt' : i < S.length := by omega
    have gg4 : Grown w w4 := ⟨k4, f4⟩
    simp -dsimp -implicitDefEqProofs (maxSteps := 2000000) (disch := first | assumption | omega | (simp only [nx]; omega) | ((repeat refine Fresh.push ?_ _); assumption) | (simp only [smA]; done) | (simp [oneCell, AW.next_push]; done) | fail) only [go_sem, Nat.reduceEqDiff, reduceIte, Nat.reduceAdd, Int.toNat_natCast, Nat.add_zero, Owes_true, Try.results13, e0, e10, e20, hlt]
    apply callV_of (e := rfl)
    · exact Own_ok S _ w4 f4 (hS.grown gg4) (by omega)
    rintro x w5 ⟨hm1, g5⟩
    have R1 := making_row hm1 rfl (by omega)
    obtain ⟨b1, rfl, _, _, hcl1⟩ := AOwnS.cells (S := fun j => w4.next ≤ j) R1 (fun _ => rfl) (by omega)
    have hSi := (perB_iff.1 hp).2 i hlt'
    obtain ⟨b1', h1e, _, w6, st1, S1, M1, nx1, _⟩ := aownS_store (S := fun j => w4.next ≤ j) R1 g5.2 (by omega) (o := i) (x := .int .i64 (min 8 (W S i + 1))) (by rw [icells_flat_len]; omega) rfl
    injection h1e with h1e; injection h1e with h1e; injection h1e with h1e _ _
    subst h1e
    rw [setL_ic] at S1
    have hk1 := hcl1 i _ (ic_getW (by omega))
    have x1 : indexV 1 (.slice (some ⟨b1, 0, none⟩) S.length S.length) (.int .i64 (i : Int)) = some (.pointer (some ⟨b1, i, none⟩)) := by rw [indexV_eq (by omega) (by omega)]; simp
    have hone := making_one hm1
    obtain ⟨S', hS'⟩ : ∃ S', S' = S.set i (min 8 (W S i + 1)) := ⟨_, rfl⟩
    have hl' : S'.length = S.length := by rw [hS', List.length_set]
    rw [← hS', ← hl'] at S1
    have hW' : ∀ j, W S' j = if j = i then min 8 (W S i + 1) else W S j := fun j => by rw [hS', W_set hlt']
    have hp' : perB S' = true := perB_iff.2 ⟨by omega, fun j hj => by
      rw [hW' j]
      have := (perB_iff.1 hp).2 j (by omega)
      split <;> omega⟩
    have hmon : ∀ j, j < S.length → W S j ≤ W S' j := fun j hj => by
      rw [hW' j]
      have := (perB_iff.1 hp).2 j hj
      split
      · rename_i z; subst z; omega
      · omega
    have hA' : ArrOf w6 1 icells (.slice (some ⟨b1, 0, none⟩) S'.length S'.length) S' := AOwn.arr (AOwnS.own S1) icells_len (by omega)
    rw [hl'] at hA'
    have g46 : Grown w4 w6 := ⟨g5.1.trans (M1.keep (B := w4.next) (fun j q => q) g5.1.next), M1.fresh⟩
    simp -dsimp -implicitDefEqProofs (maxSteps := 2000000) (disch := first | assumption | omega | (simp only [nx]; omega) | ((repeat refine Fresh.push ?_ _); assumption) | (simp only [smA]; done) | (simp [oneCell, AW.next_push]; done) | fail) only [go_sem, Nat.reduceEqDiff, reduceIte, Nat.reduceAdd, Int.toNat_natCast, Nat.add_zero, Owes_true, Try.results13, e0, e10, e20, hone, x1, hk1, st1]
    apply callV_of (e := rfl)
    · exact Lasts_ok S' _ w6 M1.fresh hA'
    rintro _ w7 ⟨g7, m, e7, rfl, hLb⟩
    have g47 := g46.trans g7
    rcases hLb with ⟨q, _⟩ | ⟨_, _, rfl, rfl⟩ | ⟨_, rfl, hm0, hm1', hmm⟩
    · rw [hp'] at q; cases q
    · simp -dsimp -implicitDefEqProofs (maxSteps := 2000000) (disch := first | assumption | omega | (simp only [nx]; omega) | ((repeat refine Fresh.push ?_ _); assumption) | (simp only [smA]; done) | (simp [oneCell, AW.next_push]; done) | fail) only [go_sem, Nat.reduceEqDiff, reduceIte, Nat.reduceAdd, Int.toNat_natCast, Nat.add_zero, Owes_true, Try.results13, e0, e10, e20, d44]
      refine ⟨_, by omega, i + 1, by omega, rfl, rfl, by (simp -dsimp -implicitDefEqProofs (maxSteps := 2000000) (disch := first | assumption | omega | (simp only [nx]; omega) | ((repeat refine Fresh.push ?_ _); assumption) | (simp only [smA]; done) | (simp [oneCell, AW.next_push]; done) | fail) only [go_sem, Nat.reduceEqDiff, reduceIte, Nat.reduceAdd, Int.toNat_natCast, Nat.add_zero, Owes_true, e0]; try rfl), by (simp -dsimp -implicitDefEqProofs (maxSteps := 2000000) (disch := first | assumption | omega | (simp only [nx]; omega) | ((repeat refine Fresh.push ?_ _); assumption) | (simp only [smA]; done) | (simp [oneCell, AW.next_push]; done) | fail) only [go_sem, Nat.reduceEqDiff, reduceIte, Nat.reduceAdd, Int.toNat_natCast, Nat.add_zero, Owes_true, e10]; try rfl), by (simp -dsimp -implicitDefEqProofs (maxSteps := 2000000) (disch := first | assumption | omega | (simp only [nx]; omega) | ((repeat refine Fresh.push ?_ _); assumption) | (simp only [smA]; done) | (simp [oneCell, AW.next_push]; done) | fail) only [go_sem, Nat.reduceEqDiff, reduceIte, Nat.reduceAdd, Int.toNat_natCast, Nat.add_zero, Owes_true, e20]; try rfl), k4.trans (g47.1.mono k4.next), g47.2⟩
    · obtain ⟨tt, ht1, ht2⟩ := hmx.1
      have := hmm.2 tt (run_more hl' hmon ht2)
      have hge : ¬ m < n := by omega
      simp -dsimp -implicitDefEqProofs (maxSteps := 2000000) (disch := first | assumption | omega | (simp only [nx]; omega) | ((repeat refine Fresh.push ?_ _); assumption) | (simp only [smA]; done) | (simp [oneCell, AW.next_push]; done) | fail) only [go_sem, Nat.reduceEqDiff, reduceIte, Nat.reduceAdd, Int.toNat_natCast, Nat.add_zero, Owes_true, Try.results13, e0, e10, e20, d04, d00, hge]
      refine ⟨_, by omega, i + 1, by omega, rfl, rfl, by (simp -dsimp -implicitDefEqProofs (maxSteps := 2000000) (disch := first | assumption | omega | (simp only [nx]; omega) | ((repeat refine Fresh.push ?_ _); assumption) | (simp only [smA]; done) | (simp [oneCell, AW.next_push]; done) | fail) only [go_sem, Nat.reduceEqDiff, reduceIte, Nat.reduceAdd, Int.toNat_natCast, Nat.add_zero, Owes_true, e0]; try rfl), by (simp -dsimp -implicitDefEqProofs (maxSteps := 2000000) (disch := first | assumption | omega | (simp only [nx]; omega) | ((repeat refine Fresh.push ?_ _); assumption) | (simp only [smA]; done) | (simp [oneCell, AW.next_push]; done) | fail) only [go_sem, Nat.reduceEqDiff, reduceIte, Nat.reduceAdd, Int.toNat_natCast, Nat.add_zero, Owes_true, e10]; try rfl), by (simp -dsimp -implicitDefEqProofs (maxSteps := 2000000) (disch := first | assumption | omega | (simp only [nx]; omega) | ((repeat refine Fresh.push ?_ _); assumption) | (simp only [smA]; done) | (simp [oneCell, AW.next_push]; done) | fail) only [go_sem, Nat.reduceEqDiff, reduceIte, Nat.reduceAdd, Int.toNat_natCast, Nat.add_zero, Owes_true, e20]; try rfl), k4.trans (g47.1.mono k4.next), g47.2⟩
  · obtain ⟨rfl, rfl⟩ : n = 0 ∧ e' = 4 := by
      rcases hLa with ⟨q, _⟩ | ⟨_, _, a, b⟩ | ⟨_, _, _, _, q⟩
      · rw [hp] at q; cases q
      · exact ⟨a, b⟩
      · exact absurd q (fun z => inf_not_max hinf z)
    have hXr := first_run hXF
    have hyA : ArrOf w2 1 icells y X := AOwn.arr (AOwnS.own hRX2) icells_len (by omega)
    obtain ⟨k1, k2⟩ := kepB_run hp (by omega) hXr
    simp -dsimp -implicitDefEqProofs (maxSteps := 2000000) (disch := first | assumption | omega | (simp only [nx]; omega) | ((repeat refine Fresh.push ?_ _); assumption) | (simp only [smA]; done) | (simp [oneCell, AW.next_push]; done) | fail) only [go_sem, Nat.reduceEqDiff, reduceIte, Nat.reduceAdd, Int.toNat_natCast, Nat.add_zero, Owes_true, Try.results13, d0105]
    apply callV_of (e := rfl)
    · exact Keeps_ok S T _ _ w2 gg2.2 (hS.grown gg2) (hT.grown gg2)
    rintro _ w3 ⟨rfl, g3⟩
    have gg3 := gg2.trans g3
    have hq1 := Keeps_ok S X _ _ w3 gg3.2 (hS.grown gg3) (hyA.grown g3)
    rw [k1, k2] at hq1
    simp -dsimp -implicitDefEqProofs (maxSteps := 2000000) (disch := first | assumption | omega | (simp only [nx]; omega) | ((repeat refine Fresh.push ?_ _); assumption) | (simp only [smA]; done) | (simp [oneCell, AW.next_push]; done) | fail) only [go_sem, Nat.reduceEqDiff, reduceIte, Nat.reduceAdd, Int.toNat_natCast, Nat.add_zero, Owes_true, Try.results13, d00, hy1]
    apply callV_of (e := rfl)
    · exact hq1
    rintro _ w4 ⟨rfl, g4⟩
    have gg4 := gg3.trans g4
    have g24 := g3.trans g4
    have hRX4 : RowS (fun j => w.next ≤ j) w4 y X := AOwnS.keep hRX2 g24.1
    obtain ⟨ph, ch, hsl, hhA⟩ := RowS.cut hRX4 (a := X.length / 2) (by omega) (by omega)
    have hhr := run_take hXr (X.length / 2)
    obtain ⟨k3, k4⟩ := kepB_run hp (T := X.take (X.length / 2)) (by rw [List.length_take]; omega) hhr
    have hq2 := Keeps_ok S (X.take (X.length / 2)) _ _ w4 gg4.2 (hS.grown gg4) hhA
    rw [k3, k4] at hq2
    obtain ⟨py, cy, rfl, _⟩ := id (hyA.grown g24).open
    have hquo : (X.length : Int).tdiv 2 = ((X.length / 2 : Nat) : Int) := rfl
    have h20 : ¬ (2 : Int) = 0 := by omega
    simp -dsimp -implicitDefEqProofs (maxSteps := 2000000) (disch := first | assumption | omega | (simp only [nx]; omega) | ((repeat refine Fresh.push ?_ _); assumption) | (simp only [smA]; done) | (simp [oneCell, AW.next_push]; done) | fail) only [go_sem, Nat.reduceEqDiff, reduceIte, Nat.reduceAdd, Int.toNat_natCast, Nat.add_zero, Owes_true, Try.results13, d00, hquo, h20, hsl]
    apply callV_of (e := rfl)
    · exact hq2
    rintro _ w5 ⟨rfl, g5⟩
    have gg5 := gg4.trans g5
    have hquD : (D : Int).tdiv 2 = ((D / 2 : Nat) : Int) := rfl
    simp -dsimp -implicitDefEqProofs (maxSteps := 2000000) (disch := first | assumption | omega | (simp only [nx]; omega) | ((repeat refine Fresh.push ?_ _); assumption) | (simp only [smA]; done) | (simp [oneCell, AW.next_push]; done) | fail) only [go_sem, Nat.reduceEqDiff, reduceIte, Nat.reduceAdd, Int.toNat_natCast, Nat.add_zero, Owes_true, Try.results13, d00, hquD, h20]
    apply callV_of (e := rfl)
    · exact Turns_ok S ((D / 2 : Nat) : Int) _ w5 gg5.2 (hS.grown gg5)
    rintro _ w6 ⟨g6, y2, X2, e2, rfl, hTP2, hRX26⟩
    have gg6 := gg5.trans g6
    have hin2 : inR 0 ((D / 2 : Nat) : Int) 64 = true := (inR_iff _ _ _).2 (by omega)
    obtain ⟨rfl, hXl2, hXF2⟩ : e2 = 0 ∧ (X2.length : Int) = ((D / 2 : Nat) : Int) ∧ FirstT S zero5 X2 := by
      rcases hTP2 with ⟨q, _⟩ | ⟨_, q, _⟩ | ⟨_, _, q, _⟩ | ⟨_, _, _, q1, q2, q3⟩
      · rw [hp] at q; cases q
      · rw [hin2] at q; cases q
      · exact absurd hinf q
      · exact ⟨q1, q2, q3⟩
    have hy2 := hRX26.one
    have hX2A : ArrOf w6 1 icells y2 X2 := AOwn.arr (AOwnS.own hRX26) icells_len (by omega)
    have hRX6 : RowS (fun j => w.next ≤ j) w6 _ X := AOwnS.keep hRX4 (g5.trans g6).1
    obtain ⟨ph2, ch2, hsl2, hhA2⟩ := RowS.cut hRX6 (a := D / 2) (by omega) (by omega)
    have heq : X2 = X.take (D / 2) := first_uniq hXF2 (firstT_take hXF _) (by rw [List.length_take]; omega)
    have dsm : decide (X2 = X.take (D / 2)) = true := decide_eq_true heq
    have dl : decide ((X.length : Int) = (D : Int)) = true := decide_eq_true hXl
    simp -dsimp -implicitDefEqProofs (maxSteps := 2000000) (disch := first | assumption | omega | (simp only [nx]; omega) | ((repeat refine Fresh.push ?_ _); assumption) | (simp only [smA]; done) | (simp [oneCell, AW.next_push]; done) | fail) only [go_sem, Nat.reduceEqDiff, reduceIte, Nat.reduceAdd, Int.toNat_natCast, Nat.add_zero, Owes_true, Try.results13, d00, d44, hquD, h20, hsl2, hy2, dl]
    apply callV_of (e := rfl)
    · exact Same_ok X2 (X.take (D / 2)) _ _ w6 hX2A hhA2
    rintro _ _ ⟨rfl, rfl⟩
    simp -dsimp -implicitDefEqProofs (maxSteps := 2000000) (disch := first | assumption | omega | (simp only [nx]; omega) | ((repeat refine Fresh.push ?_ _); assumption) | (simp only [smA]; done) | (simp [oneCell, AW.next_push]; done) | fail) only [go_sem, Nat.reduceEqDiff, reduceIte, Nat.reduceAdd, Int.toNat_natCast, Nat.add_zero, Owes_true, Try.results13, dsm]
    apply callV_of (e := rfl)
    · exact callT_told (Q := fun v w' => v = .bool true ∧ w6 = w') (v := .bool true) (w' := w6) rfl ⟨rfl, rfl⟩
    rintro _ _ ⟨rfl, rfl⟩
    simp -dsimp -implicitDefEqProofs (maxSteps := 2000000) (disch := first | assumption | omega | (simp only [nx]; omega) | ((repeat refine Fresh.push ?_ _); assumption) | (simp only [smA]; done) | (simp [oneCell, AW.next_push]; done) | fail) only [go_sem, Nat.reduceEqDiff, reduceIte, Nat.reduceAdd, Int.toNat_natCast, Nat.add_zero, Owes_true, Try.results13]
end Go.Proofs

namespace Go.Proofs
open Go Go.RowKit Go.Sim Go.ChangeShapes Go.WideShapes Go.ChangeAt
set_option maxRecDepth 100000
theorem Try.own : ownKnob Try.prog.godebug = none := by kernel_rfl
theorem Try.laidOut : laidOutB Try.prog = true := by kernel_rfl
end Go.Proofs
