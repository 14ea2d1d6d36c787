/- Shares and dues: the law on the machine. -/
import Derived.Test.YtbmgalmnjaimeaaPb
import Derived.Test.YtbmgalmnjaimeaaTc
set_option linter.unusedVariables false
set_option linter.unusedSimpArgs false
/- Shares and dues: the law against the chapter, on the machine. -/
namespace Go.Proofs
open Go Go.RowKit Go.Sim
set_option maxRecDepth 100000
set_option maxHeartbeats 2000000 in
theorem shares_law (w : AW) (xs : List Value) (f : Fresh w) (h : HdAll Try.prog w [22, 23, 3] xs) : CallT Try.prog Try.T1 (.fn (.func 3) #[]) xs.toArray w fun v _ => v = .bool true := by
  cases h with
  | cons n1 h1 h =>
  cases h with
  | cons n2 h2 h =>
  cases h with
  | cons n3 h3 h =>
  cases h
  rename_i v1 v2 v3
  obtain ⟨ws, hs⟩ := given_intsV h1
  obtain ⟨D, hD⟩ := given_duesV h2
  obtain ⟨s, rfl⟩ := given_num h3
  clear h1 h2 h3
  obtain ⟨p, cap, rfl, _⟩ := id hs.open
  obtain ⟨q, cap2, rfl, _⟩ := id hD.open
  show CallT Try.prog Try.T1 (.fn (.func 3) #[]) #[.slice p ws.length cap, .slice q D.length cap2, .int .i64 s] w _
  refine callT_code rfl Try.func3 rfl Try.s3_eq rfl ?_
  unfold Try.s3
  simp -dsimp -implicitDefEqProofs (maxSteps := 2000000) (disch := first | assumption | omega | (simp only [AW.next_push, AW.next_put]; omega) | ((repeat refine Fresh.push ?_ _); assumption) | (simp only [same_int, same_bool, same_ptr, same_slice, same_sliceP, same_nil, same_agg2, same_string]; done) | (simp [oneCell, AW.next_push]; done) | fail) only [go_sem, Nat.reduceEqDiff, reduceIte, Nat.reduceAdd, Int.toNat_natCast, Nat.add_zero, Owes_true, Try.results3]
  apply callV_of (e := rfl)
  · exact Share_ok ws _ s w f hs
  rintro _ w1 ⟨u1, rfl, hA1, g1⟩
  simp -dsimp -implicitDefEqProofs (maxSteps := 2000000) (disch := first | assumption | omega | (simp only [AW.next_push, AW.next_put]; omega) | ((repeat refine Fresh.push ?_ _); assumption) | (simp only [same_int, same_bool, same_ptr, same_slice, same_sliceP, same_nil, same_agg2, same_string]; done) | (simp [oneCell, AW.next_push]; done) | fail) only [go_sem, Nat.reduceEqDiff, reduceIte, Nat.reduceAdd, Int.toNat_natCast, Nat.add_zero, Owes_true, Try.results3]
  apply callV_of (e := rfl)
  · exact refShare_ok ws _ s w1 g1.2 (hs.grown g1)
  rintro _ w2 ⟨u2, rfl, hA2, hg2⟩
  have g2 := g1.trans hg2
  simp -dsimp -implicitDefEqProofs (maxSteps := 2000000) (disch := first | assumption | omega | (simp only [AW.next_push, AW.next_put]; omega) | ((repeat refine Fresh.push ?_ _); assumption) | (simp only [same_int, same_bool, same_ptr, same_slice, same_sliceP, same_nil, same_agg2, same_string]; done) | (simp [oneCell, AW.next_push]; done) | fail) only [go_sem, Nat.reduceEqDiff, reduceIte, Nat.reduceAdd, Int.toNat_natCast, Nat.add_zero, Owes_true, Try.results3]
  apply callV_of (e := rfl)
  · exact same_ok _ _ _ _ w2 g2.2 (hA1.grown hg2) hA2
  rintro _ w3 ⟨rfl, hg3⟩
  have g3 := g2.trans hg3
  have e : decide (shareO ws s = shareO ws s) = true := decide_eq_true rfl
  rw [e]
  simp -dsimp -implicitDefEqProofs (maxSteps := 2000000) (disch := first | assumption | omega | (simp only [AW.next_push, AW.next_put]; omega) | ((repeat refine Fresh.push ?_ _); assumption) | (simp only [same_int, same_bool, same_ptr, same_slice, same_sliceP, same_nil, same_agg2, same_string]; done) | (simp [oneCell, AW.next_push]; done) | fail) only [go_sem, Nat.reduceEqDiff, reduceIte, Nat.reduceAdd, Int.toNat_natCast, Nat.add_zero, Owes_true, Try.results3]
  apply callV_of (e := rfl)
  · exact Spread_ok D _ s w3 g3.2 (hD.grown g3)
  rintro _ w4 ⟨u4, rfl, hA4, hg4⟩
  have g4 := g3.trans hg4
  simp -dsimp -implicitDefEqProofs (maxSteps := 2000000) (disch := first | assumption | omega | (simp only [AW.next_push, AW.next_put]; omega) | ((repeat refine Fresh.push ?_ _); assumption) | (simp only [same_int, same_bool, same_ptr, same_slice, same_sliceP, same_nil, same_agg2, same_string]; done) | (simp [oneCell, AW.next_push]; done) | fail) only [go_sem, Nat.reduceEqDiff, reduceIte, Nat.reduceAdd, Int.toNat_natCast, Nat.add_zero, Owes_true, Try.results3]
  apply callV_of (e := rfl)
  · exact refSpread_ok D _ s w4 g4.2 (hD.grown g4)
  rintro _ w5 ⟨u5, rfl, hA5, hg5⟩
  have g5 := g4.trans hg5
  simp -dsimp -implicitDefEqProofs (maxSteps := 2000000) (disch := first | assumption | omega | (simp only [AW.next_push, AW.next_put]; omega) | ((repeat refine Fresh.push ?_ _); assumption) | (simp only [same_int, same_bool, same_ptr, same_slice, same_sliceP, same_nil, same_agg2, same_string]; done) | (simp [oneCell, AW.next_push]; done) | fail) only [go_sem, Nat.reduceEqDiff, reduceIte, Nat.reduceAdd, Int.toNat_natCast, Nat.add_zero, Owes_true, Try.results3]
  apply callV_of (e := rfl)
  · exact same_ok _ _ _ _ w5 g5.2 (hA4.grown hg5) hA5
  rintro _ w6 ⟨rfl, hg6⟩
  have e' : decide (spreadO D s = spreadO D s) = true := decide_eq_true rfl
  rw [e']
  simp -dsimp -implicitDefEqProofs (maxSteps := 2000000) (disch := first | assumption | omega | (simp only [AW.next_push, AW.next_put]; omega) | ((repeat refine Fresh.push ?_ _); assumption) | (simp only [same_int, same_bool, same_ptr, same_slice, same_sliceP, same_nil, same_agg2, same_string]; done) | (simp [oneCell, AW.next_push]; done) | fail) only [go_sem, Nat.reduceEqDiff, reduceIte, Nat.reduceAdd, Int.toNat_natCast, Nat.add_zero, Owes_true, Try.results3]
  apply callV_of (e := rfl)
  · exact callT_told (Q := fun v w' => v = .bool true ∧ w6 = w') (v := .bool true) (w' := w6) rfl ⟨rfl, rfl⟩
  rintro _ _ ⟨rfl, rfl⟩
  simp -dsimp -implicitDefEqProofs (maxSteps := 2000000) (disch := first | assumption | omega | (simp only [AW.next_push, AW.next_put]; omega) | ((repeat refine Fresh.push ?_ _); assumption) | (simp only [same_int, same_bool, same_ptr, same_slice, same_sliceP, same_nil, same_agg2, same_string]; done) | (simp [oneCell, AW.next_push]; done) | fail) only [go_sem, Nat.reduceEqDiff, reduceIte, Nat.reduceAdd, Int.toNat_natCast, Nat.add_zero, Owes_true, Try.results3]
end Go.Proofs
