/- This program: its code, contracts, numbers, part 7. -/
import Derived.Test.YtlilncofnckgdaaPaf
import Derived.Test.YtlilncofnckgdaaNc
import Derived.Test.YtlilncofnckgdaaRows
import Derived.ProofKit
import Derived.SizedLaws
set_option linter.unusedVariables false
set_option linter.unusedSimpArgs false
namespace Go.Proofs
open Go Go.RowKit Go.Sim
set_option maxRecDepth 100000
def goRound (T : List Int) (d : Nat) : Int := W T (d % T.length)
theorem round_per {T : List Int} (d : Nat) : goRound T (d + T.length) = goRound T d := by unfold goRound; rw [Nat.add_mod_right]
theorem round_own (T : List Int) : (List.range T.length).map (goRound T) = T := by
  refine List.ext_getElem (by simp) fun i h1 h2 => ?_
  rw [List.getElem_map, List.getElem_range]
  unfold goRound
  rw [Nat.mod_eq_of_lt h2, W_at h2]
set_option maxHeartbeats 64000000 in
theorem around_law (w : AW) (xs : List Value) (f : Fresh w) (h : HdAll Try.prog w [22, 22] xs) : CallT Try.prog Try.T1 (.fn (.func 14) #[]) xs.toArray w fun v _ => v = .bool true := by
  cases h with
  | cons n1 h1 h =>
  cases h with
  | cons n2 h2 h =>
  cases h
  rename_i u v
  obtain ⟨S, hS, _⟩ := given_intsV h1
  obtain ⟨T, hT, _⟩ := given_intsV h2
  clear h1 h2
  obtain ⟨pu, cu, rfl, _⟩ := id hS.open
  obtain ⟨pv, cv, rfl, _, _, hat⟩ := id hT.open
  show CallT Try.prog Try.T1 (.fn (.func 14) #[]) #[.slice pu S.length cu, .slice pv T.length cv] w _
  refine callT_code rfl Try.func14 rfl Try.s14_eq rfl ?_
  unfold Try.s14
  by_cases h0 : (T.length : Int) = 0
  · have hd : decide ((T.length : Int) = 0) = true := decide_eq_true h0
    simp -dsimp -implicitDefEqProofs (maxSteps := 2000000) (disch := first | assumption | omega | (simp only [nx]; omega) | ((repeat refine Fresh.push ?_ _); assumption) | (simp only [smA]; done) | (simp [oneCell, AW.next_push]; done) | fail) only [go_sem, Nat.reduceEqDiff, reduceIte, Nat.reduceAdd, Int.toNat_natCast, Nat.add_zero, Owes_true, Try.results14, hd]
    apply callV_of (e := rfl)
    · exact callT_told (Q := fun v w' => v = .bool true ∧ w = w') (v := .bool true) (w' := w) rfl ⟨rfl, rfl⟩
    rintro _ _ ⟨rfl, rfl⟩
    simp -dsimp -implicitDefEqProofs (maxSteps := 2000000) (disch := first | assumption | omega | (simp only [nx]; omega) | ((repeat refine Fresh.push ?_ _); assumption) | (simp only [smA]; done) | (simp [oneCell, AW.next_push]; done) | fail) only [go_sem, Nat.reduceEqDiff, reduceIte, Nat.reduceAdd, Int.toNat_natCast, Nat.add_zero, Owes_true, Try.results14]
  have hd : decide ((T.length : Int) = 0) = false := decide_eq_false h0
  by_cases h16 : (T.length : Int) > 16
  · simp -dsimp -implicitDefEqProofs (maxSteps := 2000000) (disch := first | assumption | omega | (simp only [nx]; omega) | ((repeat refine Fresh.push ?_ _); assumption) | (simp only [smA]; done) | (simp [oneCell, AW.next_push]; done) | fail) only [go_sem, Nat.reduceEqDiff, reduceIte, Nat.reduceAdd, Int.toNat_natCast, Nat.add_zero, Owes_true, Try.results14, hd, h16]
    apply callV_of (e := rfl)
    · exact callT_told (Q := fun v w' => v = .bool true ∧ w = w') (v := .bool true) (w' := w) rfl ⟨rfl, rfl⟩
    rintro _ _ ⟨rfl, rfl⟩
    simp -dsimp -implicitDefEqProofs (maxSteps := 2000000) (disch := first | assumption | omega | (simp only [nx]; omega) | ((repeat refine Fresh.push ?_ _); assumption) | (simp only [smA]; done) | (simp [oneCell, AW.next_push]; done) | fail) only [go_sem, Nat.reduceEqDiff, reduceIte, Nat.reduceAdd, Int.toNat_natCast, Nat.add_zero, Owes_true, Try.results14]
  have hp1 : 1 ≤ T.length := by omega
  simp -dsimp -implicitDefEqProofs (maxSteps := 2000000) (disch := first | assumption | omega | (simp only [nx]; omega) | ((repeat refine Fresh.push ?_ _); assumption) | (simp only [smA]; done) | (simp [oneCell, AW.next_push]; done) | fail) only [go_sem, Nat.reduceEqDiff, reduceIte, Nat.reduceAdd, Int.toNat_natCast, Nat.add_zero, Owes_true, Try.results14, hd, h16]
  refine loopR (fun k t ds w1 => ∃ i : Nat, i ≤ 64 ∧ k = 64 - i ∧ ds = [] ∧ ev t (.tmp 0) = .slice pu S.length cu ∧ ev t (.tmp 1) = .slice pv T.length cv ∧ ∃ x : Value, ev t (.tmp 5) = x ∧ RowA w.next w1 x ((List.range i).map (goRound T)) ∧ Keep w.next w w1 ∧ Fresh w1) (64) ?_ ?_
  · refine ⟨0, by omega, by omega, rfl, ?_, ?_, .slice none 0 0, by simp -dsimp -implicitDefEqProofs (maxSteps := 2000000) (disch := first | assumption | omega | (simp only [nx]; omega) | ((repeat refine Fresh.push ?_ _); assumption) | (simp only [smA]; done) | (simp [oneCell, AW.next_push]; done) | fail) only [go_sem, Nat.reduceEqDiff, reduceIte, Nat.reduceAdd, Int.toNat_natCast, Nat.add_zero, Owes_true], RowA.nil _ _, .refl _ _, f⟩ <;> simp -dsimp -implicitDefEqProofs (maxSteps := 2000000) (disch := first | assumption | omega | (simp only [nx]; omega) | ((repeat refine Fresh.push ?_ _); assumption) | (simp only [smA]; done) | (simp [oneCell, AW.next_push]; done) | fail) only [go_sem, Nat.reduceEqDiff, reduceIte, Nat.reduceAdd, Int.toNat_natCast, Nat.add_zero, Owes_true] <;> rfl
  rintro k t ds w1 ⟨i, hii, rfl, rfl, e0, e1, x, e5, hR, k1, f1⟩
  have hlen : ((List.range i).map (goRound T)).length = i := by simp
  have hRA := hR.arr (by omega)
  obtain ⟨px, cx, rfl, _⟩ := id hRA.open
  rw [hlen] at e5
  by_cases hlt : (i : Int) < 64
  case pos =>
    have hmod : i % T.length < T.length := Nat.mod_lt _ (by omega)
    obtain ⟨b1, o1, rfl, hb1, hcell⟩ := hat (i % T.length) hmod
    have a0 := hcell w1 k1 0 _ rfl
    rw [Nat.add_zero, ← W_at hmod] at a0
    have hrem : (i : Int).tmod (T.length : Int) = ((i % T.length : Nat) : Int) := rfl
    obtain ⟨v2, w2, happ, hR2, k2, f2, n2⟩ := hR.app f1 k1.next (by rw [hlen]; omega) (goRound T i)
    rw [hlen] at happ
    have hg : goRound T i = W T (i % T.length) := rfl
    rw [hg] at happ
    have hsucc : (List.range i).map (goRound T) ++ [goRound T i] = (List.range (i + 1)).map (goRound T) := by rw [List.range_succ, List.map_append]; rfl
    rw [hsucc] at hR2
    have hmi : ((i % T.length : Nat) : Int) < (T.length : Int) := by omega
    simp -dsimp -implicitDefEqProofs (maxSteps := 2000000) (disch := first | assumption | omega | (simp only [nx]; omega) | ((repeat refine Fresh.push ?_ _); assumption) | (simp only [smA]; done) | (simp [oneCell, AW.next_push]; done) | fail) only [go_sem, Nat.reduceEqDiff, reduceIte, Nat.reduceAdd, Int.toNat_natCast, Nat.add_zero, Owes_true, Try.results14, e0, e1, e5, hlt, h0, hrem, indexV_eq, a0, happ]
    refine ⟨_, by omega, i + 1, by omega, rfl, rfl, by (simp -dsimp -implicitDefEqProofs (maxSteps := 2000000) (disch := first | assumption | omega | (simp only [nx]; omega) | ((repeat refine Fresh.push ?_ _); assumption) | (simp only [smA]; done) | (simp [oneCell, AW.next_push]; done) | fail) only [go_sem, Nat.reduceEqDiff, reduceIte, Nat.reduceAdd, Int.toNat_natCast, Nat.add_zero, Owes_true, e0]; try rfl), by (simp -dsimp -implicitDefEqProofs (maxSteps := 2000000) (disch := first | assumption | omega | (simp only [nx]; omega) | ((repeat refine Fresh.push ?_ _); assumption) | (simp only [smA]; done) | (simp [oneCell, AW.next_push]; done) | fail) only [go_sem, Nat.reduceEqDiff, reduceIte, Nat.reduceAdd, Int.toNat_natCast, Nat.add_zero, Owes_true, e1]; try rfl), v2, (by simp -dsimp -implicitDefEqProofs (maxSteps := 2000000) (disch := first | assumption | omega | (simp only [nx]; omega) | ((repeat refine Fresh.push ?_ _); assumption) | (simp only [smA]; done) | (simp [oneCell, AW.next_push]; done) | fail) only [go_sem, Nat.reduceEqDiff, reduceIte, Nat.reduceAdd, Int.toNat_natCast, Nat.add_zero, Owes_true]), hR2, k1.trans k2, f2⟩
  obtain rfl : i = 64 := by omega
  obtain ⟨L, hL⟩ : ∃ L, L = (List.range 64).map (goRound T) := ⟨_, rfl⟩
  rw [← hL] at hRA hR hlen
  have g1 : Grown w w1 := ⟨k1, f1⟩
  have hke := Keeps_ok S L _ _ w1 f1 (hS.grown g1) hRA
  rw [hlen] at hke
  have h64 : ¬ (((64 : Nat) : Int) < 64) := by omega
  simp -dsimp -implicitDefEqProofs (maxSteps := 2000000) (disch := first | assumption | omega | (simp only [nx]; omega) | ((repeat refine Fresh.push ?_ _); assumption) | (simp only [smA]; done) | (simp [oneCell, AW.next_push]; done) | fail) only [go_sem, Nat.reduceEqDiff, reduceIte, Nat.reduceAdd, Int.toNat_natCast, Nat.add_zero, Owes_true, Try.results14, e0, e1, e5, h64]
  apply callV_of (e := rfl)
  · exact hke
  rintro _ w2 ⟨rfl, g2⟩
  have gg2 := g1.trans g2
  have d00 : decide ((0 : Int) = 0) = true := rfl
  have d105 : decide ((105 : Int) = 0) = false := rfl
  have d15 : decide ((105 : Int) = 105) = true := rfl
  cases hkb : kepB S L with
  | false =>
    have hE : kepE S L = 105 := by unfold kepE; rw [hkb]; rfl
    rw [hE]
    simp -dsimp -implicitDefEqProofs (maxSteps := 2000000) (disch := first | assumption | omega | (simp only [nx]; omega) | ((repeat refine Fresh.push ?_ _); assumption) | (simp only [smA]; done) | (simp [oneCell, AW.next_push]; done) | fail) only [go_sem, Nat.reduceEqDiff, reduceIte, Nat.reduceAdd, Int.toNat_natCast, Nat.add_zero, Owes_true, Try.results14, e0, e1, d105, d15]
    apply callV_of (e := rfl)
    · exact callT_told (Q := fun v w' => v = .bool true ∧ w2 = w') (v := .bool true) (w' := w2) rfl ⟨rfl, rfl⟩
    rintro _ _ ⟨rfl, rfl⟩
    simp -dsimp -implicitDefEqProofs (maxSteps := 2000000) (disch := first | assumption | omega | (simp only [nx]; omega) | ((repeat refine Fresh.push ?_ _); assumption) | (simp only [smA]; done) | (simp [oneCell, AW.next_push]; done) | fail) only [go_sem, Nat.reduceEqDiff, reduceIte, Nat.reduceAdd, Int.toNat_natCast, Nat.add_zero, Owes_true, Try.results14]
  | true =>
  have hE : kepE S L = 0 := by unfold kepE; rw [hkb]; rfl
  have hV : kepV S L = runB S zero5 L := by unfold kepV; rw [hkb]; rfl
  rw [hE, hV]
  cases hrn : runB S zero5 L with
  | false =>
    simp -dsimp -implicitDefEqProofs (maxSteps := 2000000) (disch := first | assumption | omega | (simp only [nx]; omega) | ((repeat refine Fresh.push ?_ _); assumption) | (simp only [smA]; done) | (simp [oneCell, AW.next_push]; done) | fail) only [go_sem, Nat.reduceEqDiff, reduceIte, Nat.reduceAdd, Int.toNat_natCast, Nat.add_zero, Owes_true, Try.results14, e0, e1, d00]
    apply callV_of (e := rfl)
    · exact callT_told (Q := fun v w' => v = .bool true ∧ w2 = w') (v := .bool true) (w' := w2) rfl ⟨rfl, rfl⟩
    rintro _ _ ⟨rfl, rfl⟩
    simp -dsimp -implicitDefEqProofs (maxSteps := 2000000) (disch := first | assumption | omega | (simp only [nx]; omega) | ((repeat refine Fresh.push ?_ _); assumption) | (simp only [smA]; done) | (simp [oneCell, AW.next_push]; done) | fail) only [go_sem, Nat.reduceEqDiff, reduceIte, Nat.reduceAdd, Int.toNat_natCast, Nat.add_zero, Owes_true, Try.results14]
  | true =>
  have hpB : perB S = true := by
    unfold kepB at hkb
    cases hq : perB S with
    | true => rfl
    | false => rw [hq] at hkb; cases hkb
  have hinf := around_inf hpB hp1 (by omega) (g := goRound T) round_per (by rw [← hL]; exact hrn)
  rw [round_own] at hinf
  have hrT : runB S zero5 T = true := by
    have := run_take hrn T.length
    rw [hL, ← List.map_take, List.take_range, Nat.min_eq_left (by omega), round_own] at this
    exact this
  have hinf0 : infP S zero5 := inf_path hrT rfl hinf
  simp -dsimp -implicitDefEqProofs (maxSteps := 2000000) (disch := first | assumption | omega | (simp only [nx]; omega) | ((repeat refine Fresh.push ?_ _); assumption) | (simp only [smA]; done) | (simp [oneCell, AW.next_push]; done) | fail) only [go_sem, Nat.reduceEqDiff, reduceIte, Nat.reduceAdd, Int.toNat_natCast, Nat.add_zero, Owes_true, Try.results14, e0, e1, d00]
  apply callV_of (e := rfl)
  · exact Turns_ok S (T.length : Int) _ w2 g2.2 (hS.grown gg2)
  rintro _ w3 ⟨g3, y, X, e, rfl, hTP, hRX⟩
  have gg3 := gg2.trans g3
  have hin : inR 0 (T.length : Int) 64 = true := (inR_iff _ _ _).2 (by omega)
  obtain ⟨rfl, hXl, hXF⟩ : e = 0 ∧ (X.length : Int) = (T.length : Int) ∧ FirstT S zero5 X := by
    rcases hTP with ⟨q, _⟩ | ⟨_, q, _⟩ | ⟨_, _, q, _⟩ | ⟨_, _, _, q1, q2, q3⟩
    · rw [hpB] at q; cases q
    · rw [hin] at q; cases q
    · exact absurd hinf0 q
    · exact ⟨q1, q2, q3⟩
  have hah := first_least hXF hrT hinf (by omega)
  have hXA : ArrOf w3 1 icells y X := AOwn.arr (AOwnS.own hRX) icells_len (by omega)
  simp -dsimp -implicitDefEqProofs (maxSteps := 2000000) (disch := first | assumption | omega | (simp only [nx]; omega) | ((repeat refine Fresh.push ?_ _); assumption) | (simp only [smA]; done) | (simp [oneCell, AW.next_push]; done) | fail) only [go_sem, Nat.reduceEqDiff, reduceIte, Nat.reduceAdd, Int.toNat_natCast, Nat.add_zero, Owes_true, Try.results14, e0, e1, d00]
  apply callV_of (e := rfl)
  · exact Ahead_ok T X _ _ w3 (hT.grown gg3) hXA
  rintro _ _ ⟨rfl, rfl⟩
  simp -dsimp -implicitDefEqProofs (maxSteps := 2000000) (disch := first | assumption | omega | (simp only [nx]; omega) | ((repeat refine Fresh.push ?_ _); assumption) | (simp only [smA]; done) | (simp [oneCell, AW.next_push]; done) | fail) only [go_sem, Nat.reduceEqDiff, reduceIte, Nat.reduceAdd, Int.toNat_natCast, Nat.add_zero, Owes_true, Try.results14, hah]
  apply callV_of (e := rfl)
  · exact callT_told (Q := fun v w' => v = .bool true ∧ w3 = w') (v := .bool true) (w' := w3) rfl ⟨rfl, rfl⟩
  rintro _ _ ⟨rfl, rfl⟩
  simp -dsimp -implicitDefEqProofs (maxSteps := 2000000) (disch := first | assumption | omega | (simp only [nx]; omega) | ((repeat refine Fresh.push ?_ _); assumption) | (simp only [smA]; done) | (simp [oneCell, AW.next_push]; done) | fail) only [go_sem, Nat.reduceEqDiff, reduceIte, Nat.reduceAdd, Int.toNat_natCast, Nat.add_zero, Owes_true, Try.results14]
end Go.Proofs

namespace Go.Proofs
open Go Go.RowKit Go.Sim Go.ChangeShapes Go.WideShapes Go.ChangeAt
set_option maxRecDepth 100000
theorem Try.own : ownKnob Try.prog.godebug = none := by kernel_rfl
theorem Try.laidOut : laidOutB Try.prog = true := by kernel_rfl
end Go.Proofs
