/- This program: its code, contracts, numbers, part 2. -/
import Derived.Test.YtlilncofnckgdaaPaa
import Derived.Test.YtlilncofnckgdaaNc
import Derived.Test.YtlilncofnckgdaaRows
import Derived.ProofKit
import Derived.SizedLaws
set_option linter.unusedVariables false
set_option linter.unusedSimpArgs false
namespace Go.Proofs
open Go Go.RowKit Go.Sim
set_option maxRecDepth 100000
end Go.Proofs

namespace Go.Proofs
open Go Go.RowKit Go.Sim
set_option maxRecDepth 100000
end Go.Proofs

namespace Go.Proofs
open Go Go.RowKit Go.Sim
set_option maxRecDepth 100000
theorem Try.und22 : Try.prog.underlying 22 = some (.slice 3) := by kernel_rfl
theorem Try.und4 : Try.prog.underlying 4 = some .bool := by kernel_rfl
theorem Try.cells3 : Try.prog.cellsOf 3 = 1 := by kernel_rfl
theorem given_int {w : AW} {n : Nat} {cs : List Value} (h : Hd Try.prog w n 3 cs) : ∃ x : Int, cs = icells x ∧ -9223372036854775808 ≤ x ∧ x ≤ 9223372036854775807 := by
  cases n with
  | zero => exact h.elim
  | succ n =>
    simp only [Hd, Try.und3] at h
    obtain ⟨i, rfl, h1, h2⟩ := h
    exact ⟨i, rfl, h1, h2⟩
theorem rows_ofR {R : Int → Prop} {rows : List (List Value)} (h : ∀ r ∈ rows, ∃ x : Int, r = icells x ∧ R x) : ∃ xs : List Int, rows = xs.map icells ∧ ∀ x ∈ xs, R x := by
  induction rows with
  | nil => exact ⟨[], rfl, fun _ h => by cases h⟩
  | cons r rows ih =>
    obtain ⟨x, hx, hr⟩ := h r List.mem_cons_self
    obtain ⟨xs, hxs, hr2⟩ := ih fun q hq => h q (List.mem_cons_of_mem _ hq)
    exact ⟨x :: xs, by rw [hx, hxs]; rfl, fun y hy => by
      rcases List.mem_cons.1 hy with rfl | hy
      · exact hr
      · exact hr2 y hy⟩
def I64 (x : Int) : Prop := -9223372036854775808 ≤ x ∧ x ≤ 9223372036854775807
theorem given_ints {w : AW} {n : Nat} {cs : List Value} (h : Hd Try.prog w n 22 cs) : ∃ v, cs = [v] ∧ ∃ xs, ArrOf w 1 icells v xs ∧ ∀ x ∈ xs, I64 x := by
  cases n with
  | zero => exact h.elim
  | succ n =>
    simp only [Hd, Try.und22, Try.cells3] at h
    obtain ⟨v, rows, rfl, ha, hr, hgv⟩ := h
    obtain ⟨xs, rfl, hI⟩ := rows_ofR (R := I64) fun r hq => by obtain ⟨x, hx, h1, h2⟩ := given_int (hr r hq); exact ⟨x, hx, h1, h2⟩
    exact ⟨v, rfl, xs, ha, hI⟩
theorem given_intsV {w : AW} {n : Nat} {v : Value} (h : HdV Try.prog w n 22 v) : ∃ xs, ArrOf w 1 icells v xs ∧ ∀ x ∈ xs, I64 x := by
  simp only [HdV, Try.und22] at h
  obtain ⟨u, e, xs, hx⟩ := given_ints h
  injection e with e
  subst e
  exact ⟨xs, hx⟩
end Go.Proofs

namespace Go.Proofs
open Go Go.RowKit Go.Sim
set_option maxRecDepth 100000
set_option maxHeartbeats 16000000 in
theorem meets_law (w : AW) (xs : List Value) (f : Fresh w) (h : HdAll Try.prog w [22, 22] xs) : CallT Try.prog Try.T1 (.fn (.func 10) #[]) xs.toArray w fun v _ => v = .bool true := by
  cases h with
  | cons n1 h1 h =>
  cases h with
  | cons n2 h2 h =>
  cases h
  rename_i v1 v2
  obtain ⟨L, hL, _⟩ := given_intsV h1
  obtain ⟨W, hW, _⟩ := given_intsV h2
  clear h1 h2
  obtain ⟨pv, cv, rfl, _⟩ := id hL.open
  obtain ⟨pu, cu, rfl, _⟩ := id hW.open
  show CallT Try.prog Try.T1 (.fn (.func 10) #[]) #[.slice pv L.length cv, .slice pu W.length cu] w _
  refine callT_code rfl Try.func10 rfl Try.s10_eq rfl ?_
  unfold Try.s10
  simp -dsimp -implicitDefEqProofs (maxSteps := 2000000) (disch := first | assumption | omega | (simp only [nx]; omega) | ((repeat refine Fresh.push ?_ _); assumption) | (simp only [smA]; done) | (simp [oneCell, AW.next_push]; done) | fail) only [go_sem, Nat.reduceEqDiff, reduceIte, Nat.reduceAdd, Int.toNat_natCast, Nat.add_zero, Owes_true, Try.results10]
  apply callV_of (e := rfl)
  · exact Patrol_ok L _ w f hL
  rintro _ w3 ⟨g3, u, n, rfl, hu0, hu1⟩
  have e10 : decide (((0 : Nat) : Int) = 0) = true := rfl
  have e11 : decide ((0 : Int) = 0) = true := rfl
  have e0 : ¬ (103 : Int) = 0 := by omega
  cases hB : lossB L with
  | false =>
    obtain ⟨rfl, rfl⟩ := hu0 hB
    have hpe : patE L = 103 := by simp [patE, hB]
    simp -dsimp -implicitDefEqProofs (maxSteps := 2000000) (disch := first | assumption | omega | (simp only [nx]; omega) | ((repeat refine Fresh.push ?_ _); assumption) | (simp only [smA]; done) | (simp [oneCell, AW.next_push]; done) | fail) only [go_sem, Nat.reduceEqDiff, reduceIte, Nat.reduceAdd, Int.toNat_natCast, Nat.add_zero, Owes_true, Try.results10, hpe, e0, e10, e11]
    apply callV_of (e := rfl)
    · exact callT_told (Q := fun v w' => v = .bool true ∧ w3 = w') (v := .bool true) (w' := w3) rfl ⟨rfl, rfl⟩
    rintro _ _ ⟨rfl, rfl⟩
    simp -dsimp -implicitDefEqProofs (maxSteps := 2000000) (disch := first | assumption | omega | (simp only [nx]; omega) | ((repeat refine Fresh.push ?_ _); assumption) | (simp only [smA]; done) | (simp [oneCell, AW.next_push]; done) | fail) only [go_sem, Nat.reduceEqDiff, reduceIte, Nat.reduceAdd, Int.toNat_natCast, Nat.add_zero, Owes_true, Try.results10]
  | true =>
  obtain ⟨hn, hA⟩ := hu1 hB
  obtain ⟨hp, hne, hl6⟩ := lossB_pos hB
  have hpe : patE L = 0 := by simp [patE, hB]
  have hpi := patrolL_in hp hn.1 hn.2.2.1 hne
  have hrv : riskV L (patrolL L n) = n ∧ riskE L (patrolL L n) = 0 := by
    have hw : weightB (patrolL L n) L.length = true := weightB_iff.2 ⟨by rw [patrolL_len], hpi, patrolL_sum hne⟩
    simp [riskV, riskE, hB, hw, patrolL_risk hp hn hne]
  have hlt0 : ¬ riskE L W = 0 ∨ ¬ riskV L W < n := by
    unfold riskE riskV
    cases hw : weightB W L.length with
    | false => left; simp [hB]
    | true =>
      right
      obtain ⟨k1, k2, k3⟩ := weightB_iff.1 hw
      have := risk_ge hp hn (by omega) (fun x hx => (k2 x hx).1) k3
      simp [hB]; omega
  have hnd : needV L n = needL L n ∧ needE L n = 0 := by
    have : ¬ n < 0 := by have := hn.1; omega
    simp [needV, needE, hB, this]
  have hPl := patrolL_len (L := L) (r := n)
  have hle : ∀ i (h : i < L.length) (h' : i < (patrolL L n).length), L[i] * (64 - (patrolL L n)[i]) ≤ n := by
    have := patrolL_risk hp hn hne
    exact ((riskTo_le hPl.symm).1 (by omega)).2
  generalize patrolL L n = P at *
  obtain ⟨pp, cp, rfl, _, _, hap⟩ := id hA.open
  obtain ⟨_, _, epd, _, _, hat⟩ := id hL.open
  injection epd with epd1 epd2 epd3
  subst epd1 epd3
  simp -dsimp -implicitDefEqProofs (maxSteps := 2000000) (disch := first | assumption | omega | (simp only [nx]; omega) | ((repeat refine Fresh.push ?_ _); assumption) | (simp only [smA]; done) | (simp [oneCell, AW.next_push]; done) | fail) only [go_sem, Nat.reduceEqDiff, reduceIte, Nat.reduceAdd, Int.toNat_natCast, Nat.add_zero, Owes_true, Try.results10, hpe, e10, e11]
  apply callV_of (e := rfl)
  · exact Risk_ok L P _ _ w3 g3.2 (hL.grown g3) hA
  rintro _ w4 ⟨rfl, g4⟩
  rw [hrv.1, hrv.2]
  have gg := g3.trans g4
  have e5 : decide (n = n) = true := decide_eq_true rfl
  have e6 : decide ((P.length : Int) = (L.length : Int)) = true := decide_eq_true (by omega)
  simp -dsimp -implicitDefEqProofs (maxSteps := 2000000) (disch := first | assumption | omega | (simp only [nx]; omega) | ((repeat refine Fresh.push ?_ _); assumption) | (simp only [smA]; done) | (simp [oneCell, AW.next_push]; done) | fail) only [go_sem, Nat.reduceEqDiff, reduceIte, Nat.reduceAdd, Int.toNat_natCast, Nat.add_zero, Owes_true, Try.results10, e10, e11, e5, e6]
  refine loopR (fun k t ds w1 => ∃ i : Nat, i ≤ L.length ∧ k = L.length - i ∧ ds = [] ∧ ev t (.tmp 0) = .slice pv L.length cv ∧ ev t (.tmp 1) = .slice pu W.length cu ∧ ev t (.tmp 5) = .slice pp P.length cp ∧ ev t (.tmp 6) = .int .i64 n ∧ ev t (.tmp 9) = .int .i64 (i : Int) ∧ w4 = w1) (L.length) ?_ ?_
  · refine ⟨0, by omega, by omega, rfl, ?_, ?_, ?_, ?_, ?_, rfl⟩ <;> simp -dsimp -implicitDefEqProofs (maxSteps := 2000000) (disch := first | assumption | omega | (simp only [nx]; omega) | ((repeat refine Fresh.push ?_ _); assumption) | (simp only [smA]; done) | (simp [oneCell, AW.next_push]; done) | fail) only [go_sem, Nat.reduceEqDiff, reduceIte, Nat.reduceAdd, Int.toNat_natCast, Nat.add_zero, Owes_true] <;> rfl
  rintro k t ds w1 ⟨i, hii, rfl, rfl, e0, e1, e5, e6, e9, hw⟩
  subst hw
  by_cases hlt : (i : Int) < (L.length : Int)
  case pos =>
    have hlt' : i < L.length := by omega
    have hltw : i < P.length := by omega
    have hltw' : (i : Int) < (P.length : Int) := by omega
    obtain ⟨b1, o1, rfl, hb1, hc1⟩ := hat i hlt'
    obtain ⟨b2, o2, rfl, hb2, hc2⟩ := hap i hltw
    have a0 := hc1 w4 gg.1 0 _ rfl
    have a1 := hc2 w4 g4.1 0 _ rfl
    rw [Nat.add_zero] at a0 a1
    have q0 := hp _ (List.getElem_mem hlt')
    have q2 := hpi _ (List.getElem_mem hltw)
    have q1 := prod_in q0 q2
    have q3 := hle i hlt' hltw
    have i1 : inR 0 P[i] 64 = true := (inR_iff _ _ _).2 q2
    have i2 : inR 1 L[i] 10000 = true := (inR_iff _ _ _).2 q0
    have hlew : WLe w4 w4 := (Grown.refl g4.2).1.wle g4.2
    have q4 : decide (L[i] * (64 - P[i]) > n) = false := decide_eq_false (by omega)
    have q5 : ¬ n < L[i] * (64 - P[i]) := by omega
    simp -dsimp -implicitDefEqProofs (maxSteps := 2000000) (disch := first | assumption | omega | (simp only [nx]; omega) | ((repeat refine Fresh.push ?_ _); assumption) | (simp only [smA]; done) | (simp [oneCell, AW.next_push]; done) | fail) only [go_sem, Nat.reduceEqDiff, reduceIte, Nat.reduceAdd, Int.toNat_natCast, Nat.add_zero, Owes_true, Try.results10, e0, e1, e5, e6, e9, hlt, hltw', indexV_eq, a0, a1]
    apply callV_of (e := rfl)
    · exact From_ok _ _ _ _
    rintro _ _ ⟨rfl, rfl⟩
    simp -dsimp -implicitDefEqProofs (maxSteps := 2000000) (disch := first | assumption | omega | (simp only [nx]; omega) | ((repeat refine Fresh.push ?_ _); assumption) | (simp only [smA]; done) | (simp [oneCell, AW.next_push]; done) | fail) only [go_sem, Nat.reduceEqDiff, reduceIte, Nat.reduceAdd, Int.toNat_natCast, Nat.add_zero, Owes_true, Try.results10, e0, e1, e5, e6, e9, hlt, hltw', indexV_eq, a0, a1, i1, hlew]
    apply callV_of (e := rfl)
    · exact From_ok _ _ _ _
    rintro _ _ ⟨rfl, rfl⟩
    simp -dsimp -implicitDefEqProofs (maxSteps := 2000000) (disch := first | assumption | omega | (simp only [nx]; omega) | ((repeat refine Fresh.push ?_ _); assumption) | (simp only [smA]; done) | (simp [oneCell, AW.next_push]; done) | fail) only [go_sem, Nat.reduceEqDiff, reduceIte, Nat.reduceAdd, Int.toNat_natCast, Nat.add_zero, Owes_true, Try.results10, e0, e1, e5, e6, e9, hlt, hltw', indexV_eq, a0, a1, i2, hlew, q4, q5]
    refine ⟨_, by omega, i + 1, by omega, rfl, rfl, by (simp -dsimp -implicitDefEqProofs (maxSteps := 2000000) (disch := first | assumption | omega | (simp only [nx]; omega) | ((repeat refine Fresh.push ?_ _); assumption) | (simp only [smA]; done) | (simp [oneCell, AW.next_push]; done) | fail) only [go_sem, Nat.reduceEqDiff, reduceIte, Nat.reduceAdd, Int.toNat_natCast, Nat.add_zero, Owes_true, e0]; try rfl), by (simp -dsimp -implicitDefEqProofs (maxSteps := 2000000) (disch := first | assumption | omega | (simp only [nx]; omega) | ((repeat refine Fresh.push ?_ _); assumption) | (simp only [smA]; done) | (simp [oneCell, AW.next_push]; done) | fail) only [go_sem, Nat.reduceEqDiff, reduceIte, Nat.reduceAdd, Int.toNat_natCast, Nat.add_zero, Owes_true, e1]; try rfl), by (simp -dsimp -implicitDefEqProofs (maxSteps := 2000000) (disch := first | assumption | omega | (simp only [nx]; omega) | ((repeat refine Fresh.push ?_ _); assumption) | (simp only [smA]; done) | (simp [oneCell, AW.next_push]; done) | fail) only [go_sem, Nat.reduceEqDiff, reduceIte, Nat.reduceAdd, Int.toNat_natCast, Nat.add_zero, Owes_true, e5]; try rfl), by (simp -dsimp -implicitDefEqProofs (maxSteps := 2000000) (disch := first | assumption | omega | (simp only [nx]; omega) | ((repeat refine Fresh.push ?_ _); assumption) | (simp only [smA]; done) | (simp [oneCell, AW.next_push]; done) | fail) only [go_sem, Nat.reduceEqDiff, reduceIte, Nat.reduceAdd, Int.toNat_natCast, Nat.add_zero, Owes_true, e6]; try rfl), by (simp -dsimp -implicitDefEqProofs (maxSteps := 2000000) (disch := first | assumption | omega | (simp only [nx]; omega) | ((repeat refine Fresh.push ?_ _); assumption) | (simp only [smA]; done) | (simp [oneCell, AW.next_push]; done) | fail) only [go_sem, Nat.reduceEqDiff, reduceIte, Nat.reduceAdd, Int.toNat_natCast, Nat.add_zero, Owes_true, e9]; try rfl), rfl⟩
  simp -dsimp -implicitDefEqProofs (maxSteps := 2000000) (disch := first | assumption | omega | (simp only [nx]; omega) | ((repeat refine Fresh.push ?_ _); assumption) | (simp only [smA]; done) | (simp [oneCell, AW.next_push]; done) | fail) only [go_sem, Nat.reduceEqDiff, reduceIte, Nat.reduceAdd, Int.toNat_natCast, Nat.add_zero, Owes_true, Try.results10, e0, e1, e5, e6, e9, hlt]
  apply callV_of (e := rfl)
  · exact Risk_ok L W _ _ w4 g4.2 (hL.grown gg) (hW.grown gg)
  rintro _ w5 ⟨rfl, g5⟩
  have gg5 := gg.trans g5
  have fin : CallT Try.prog Try.T1 (.fn (.func 30) #[]) #[.slice pv L.length cv, .int .i64 n] w5 (Ret (.tuple #[.int .i64 (needL L n), .int .i64 0]) (Grown w5)) := by
    have := Need_ok L n (by have := hn.2.1; omega) _ w5 g5.2 (hL.grown gg5)
    rw [hnd.1, hnd.2] at this; exact this
  have hg64 : ¬ 64 < needL L n := by have := hn.2.2.1; omega
  by_cases hE : riskE L W = 0
  · have hE' : decide (riskE L W = 0) = true := decide_eq_true hE
    have hV : ¬ riskV L W < n := by rcases hlt0 with q | q; exact absurd hE q; exact q
    simp -dsimp -implicitDefEqProofs (maxSteps := 2000000) (disch := first | assumption | omega | (simp only [nx]; omega) | ((repeat refine Fresh.push ?_ _); assumption) | (simp only [smA]; done) | (simp [oneCell, AW.next_push]; done) | fail) only [go_sem, Nat.reduceEqDiff, reduceIte, Nat.reduceAdd, Int.toNat_natCast, Nat.add_zero, Owes_true, Try.results10, e0, e1, e5, e6, e9, hE', hV]
    apply callV_of (e := rfl)
    · exact fin
    rintro _ w6 ⟨rfl, g6⟩
    have gg6 := gg5.trans g6
    by_cases hz : n = 0
    · have hz' : decide (n = 0) = true := decide_eq_true hz
      simp -dsimp -implicitDefEqProofs (maxSteps := 2000000) (disch := first | assumption | omega | (simp only [nx]; omega) | ((repeat refine Fresh.push ?_ _); assumption) | (simp only [smA]; done) | (simp [oneCell, AW.next_push]; done) | fail) only [go_sem, Nat.reduceEqDiff, reduceIte, Nat.reduceAdd, Int.toNat_natCast, Nat.add_zero, Owes_true, Try.results10, e0, e1, e5, e6, e9, e10, e11, hg64, hz']
      apply callV_of (e := rfl)
      · exact callT_told (Q := fun v w' => v = .bool true ∧ w6 = w') (v := .bool true) (w' := w6) rfl ⟨rfl, rfl⟩
      rintro _ _ ⟨rfl, rfl⟩
      simp -dsimp -implicitDefEqProofs (maxSteps := 2000000) (disch := first | assumption | omega | (simp only [nx]; omega) | ((repeat refine Fresh.push ?_ _); assumption) | (simp only [smA]; done) | (simp [oneCell, AW.next_push]; done) | fail) only [go_sem, Nat.reduceEqDiff, reduceIte, Nat.reduceAdd, Int.toNat_natCast, Nat.add_zero, Owes_true, Try.results10]
    · have hz' : decide (n = 0) = false := decide_eq_false hz
      have hless : 64 < needL L (n - 1) := by
        rcases hn.2.2.2 with q | q
        · exact absurd q hz
        · exact q
      have fin2 : CallT Try.prog Try.T1 (.fn (.func 30) #[]) #[.slice pv L.length cv, .int .i64 (n - 1)] w6 (Ret (.tuple #[.int .i64 (needL L (n - 1)), .int .i64 0]) (Grown w6)) := by
        have := Need_ok L (n - 1) (by have := hn.2.1; omega) _ w6 g6.2 (hL.grown gg6)
        have h2 : needV L (n - 1) = needL L (n - 1) ∧ needE L (n - 1) = 0 := by
          have : ¬ n - 1 < 0 := by have := hn.1; omega
          simp [needV, needE, hB, this]
        rw [h2.1, h2.2] at this; exact this
      have hn1 := hn.1
      have hn2 := hn.2.1
      simp -dsimp -implicitDefEqProofs (maxSteps := 2000000) (disch := first | assumption | omega | (simp only [nx]; omega) | ((repeat refine Fresh.push ?_ _); assumption) | (simp only [smA]; done) | (simp [oneCell, AW.next_push]; done) | fail) only [go_sem, Nat.reduceEqDiff, reduceIte, Nat.reduceAdd, Int.toNat_natCast, Nat.add_zero, Owes_true, Try.results10, e0, e1, e5, e6, e9, e10, e11, hg64, hz']
      apply callV_of (e := rfl)
      · exact fin2
      rintro _ w7 ⟨rfl, g7⟩
      simp -dsimp -implicitDefEqProofs (maxSteps := 2000000) (disch := first | assumption | omega | (simp only [nx]; omega) | ((repeat refine Fresh.push ?_ _); assumption) | (simp only [smA]; done) | (simp [oneCell, AW.next_push]; done) | fail) only [go_sem, Nat.reduceEqDiff, reduceIte, Nat.reduceAdd, Int.toNat_natCast, Nat.add_zero, Owes_true, Try.results10, e10, e11, hless]
      apply callV_of (e := rfl)
      · exact callT_told (Q := fun v w' => v = .bool true ∧ w7 = w') (v := .bool true) (w' := w7) rfl ⟨rfl, rfl⟩
      rintro _ _ ⟨rfl, rfl⟩
      simp -dsimp -implicitDefEqProofs (maxSteps := 2000000) (disch := first | assumption | omega | (simp only [nx]; omega) | ((repeat refine Fresh.push ?_ _); assumption) | (simp only [smA]; done) | (simp [oneCell, AW.next_push]; done) | fail) only [go_sem, Nat.reduceEqDiff, reduceIte, Nat.reduceAdd, Int.toNat_natCast, Nat.add_zero, Owes_true, Try.results10]
  · have hE' : decide (riskE L W = 0) = false := decide_eq_false hE
    simp -dsimp -implicitDefEqProofs (maxSteps := 2000000) (disch := first | assumption | omega | (simp only [nx]; omega) | ((repeat refine Fresh.push ?_ _); assumption) | (simp only [smA]; done) | (simp [oneCell, AW.next_push]; done) | fail) only [go_sem, Nat.reduceEqDiff, reduceIte, Nat.reduceAdd, Int.toNat_natCast, Nat.add_zero, Owes_true, Try.results10, e0, e1, e5, e6, e9, hE']
    apply callV_of (e := rfl)
    · exact fin
    rintro _ w6 ⟨rfl, g6⟩
    have gg6 := gg5.trans g6
    by_cases hz : n = 0
    · have hz' : decide (n = 0) = true := decide_eq_true hz
      simp -dsimp -implicitDefEqProofs (maxSteps := 2000000) (disch := first | assumption | omega | (simp only [nx]; omega) | ((repeat refine Fresh.push ?_ _); assumption) | (simp only [smA]; done) | (simp [oneCell, AW.next_push]; done) | fail) only [go_sem, Nat.reduceEqDiff, reduceIte, Nat.reduceAdd, Int.toNat_natCast, Nat.add_zero, Owes_true, Try.results10, e0, e1, e5, e6, e9, e10, e11, hg64, hz']
      apply callV_of (e := rfl)
      · exact callT_told (Q := fun v w' => v = .bool true ∧ w6 = w') (v := .bool true) (w' := w6) rfl ⟨rfl, rfl⟩
      rintro _ _ ⟨rfl, rfl⟩
      simp -dsimp -implicitDefEqProofs (maxSteps := 2000000) (disch := first | assumption | omega | (simp only [nx]; omega) | ((repeat refine Fresh.push ?_ _); assumption) | (simp only [smA]; done) | (simp [oneCell, AW.next_push]; done) | fail) only [go_sem, Nat.reduceEqDiff, reduceIte, Nat.reduceAdd, Int.toNat_natCast, Nat.add_zero, Owes_true, Try.results10]
    · have hz' : decide (n = 0) = false := decide_eq_false hz
      have hless : 64 < needL L (n - 1) := by
        rcases hn.2.2.2 with q | q
        · exact absurd q hz
        · exact q
      have fin2 : CallT Try.prog Try.T1 (.fn (.func 30) #[]) #[.slice pv L.length cv, .int .i64 (n - 1)] w6 (Ret (.tuple #[.int .i64 (needL L (n - 1)), .int .i64 0]) (Grown w6)) := by
        have := Need_ok L (n - 1) (by have := hn.2.1; omega) _ w6 g6.2 (hL.grown gg6)
        have h2 : needV L (n - 1) = needL L (n - 1) ∧ needE L (n - 1) = 0 := by
          have : ¬ n - 1 < 0 := by have := hn.1; omega
          simp [needV, needE, hB, this]
        rw [h2.1, h2.2] at this; exact this
      have hn1 := hn.1
      have hn2 := hn.2.1
      simp -dsimp -implicitDefEqProofs (maxSteps := 2000000) (disch := first | assumption | omega | (simp only [nx]; omega) | ((repeat refine Fresh.push ?_ _); assumption) | (simp only [smA]; done) | (simp [oneCell, AW.next_push]; done) | fail) only [go_sem, Nat.reduceEqDiff, reduceIte, Nat.reduceAdd, Int.toNat_natCast, Nat.add_zero, Owes_true, Try.results10, e0, e1, e5, e6, e9, e10, e11, hg64, hz']
      apply callV_of (e := rfl)
      · exact fin2
      rintro _ w7 ⟨rfl, g7⟩
      simp -dsimp -implicitDefEqProofs (maxSteps := 2000000) (disch := first | assumption | omega | (simp only [nx]; omega) | ((repeat refine Fresh.push ?_ _); assumption) | (simp only [smA]; done) | (simp [oneCell, AW.next_push]; done) | fail) only [go_sem, Nat.reduceEqDiff, reduceIte, Nat.reduceAdd, Int.toNat_natCast, Nat.add_zero, Owes_true, Try.results10, e10, e11, hless]
      apply callV_of (e := rfl)
      · exact callT_told (Q := fun v w' => v = .bool true ∧ w7 = w') (v := .bool true) (w' := w7) rfl ⟨rfl, rfl⟩
      rintro _ _ ⟨rfl, rfl⟩
      simp -dsimp -implicitDefEqProofs (maxSteps := 2000000) (disch := first | assumption | omega | (simp only [nx]; omega) | ((repeat refine Fresh.push ?_ _); assumption) | (simp only [smA]; done) | (simp [oneCell, AW.next_push]; done) | fail) only [go_sem, Nat.reduceEqDiff, reduceIte, Nat.reduceAdd, Int.toNat_natCast, Nat.add_zero, Owes_true, Try.results10]
end Go.Proofs

namespace Go.Proofs
open Go Go.RowKit Go.Sim Go.ChangeShapes Go.WideShapes Go.ChangeAt
set_option maxRecDepth 100000
theorem Try.own : ownKnob Try.prog.godebug = none := by kernel_rfl
theorem Try.laidOut : laidOutB Try.prog = true := by kernel_rfl
end Go.Proofs
